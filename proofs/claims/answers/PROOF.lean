import PyProof.Rows.All
import Wide.All
import OpenK.AllK
import Wide.FinOn
import Open.SpecLaws
import KE.OsGo
import KE.KMinKey
import HandS.ForSpec
import HandS.ForMost
import HandS.IterNext
import HandS.SortKw
import HandS.Nested
import HandS.NestedK
import HandS.Defaults
import HandS.HeadHook4
import KE.HD4
import HandS.Wide
import HandS.Flow
import HandS.NoneIn
import HandS.WrittenGet
import HandS.Zip
import HandS.TupLe
import PySem.Challenge.RW_hedgedcalls_s01_answers
import Kp423Spec
import KE.GoesMore
import KE.GoesEnum
import HandS.More
import KE.SortKeyHeap
import PyKp423
import KE.OsSorts
import HandS.SetFor
import HandS.Steps
section
set_option Elab.async false
set_option linter.all false
set_option maxRecDepth 100000
set_option maxHeartbeats 4000000
namespace MM
open PySem PySem.Spec PyProof.Rows L2
/-- all that was tracked is tracked still -/
def Ext (H H' : Hp) : Prop := ∀ b o, H b = some o → H' b = some o
theorem Ext.refl (H : Hp) : Ext H H := fun _ _ e => e
theorem Ext.trans {H H1 H2 : Hp} (a : Ext H H1) (b : Ext H1 H2) : Ext H H2 := fun c o e => b c o (a c o e)
theorem Ext.upd {H H' : Hp} {a : Addr} {o : HO} (e : Ext H H') (n : H a = none) : Ext H (upd H' a o) := fun b u q => by
  rw [upd_ne (ne_of_none q n)]
  exact e b u q
/-- what is new was free -/
def Fresh (H H' : Hp) : Prop := ∀ b, H' b = none → H b = none
theorem Ext.fresh {H H' : Hp} (e : Ext H H') : Fresh H H' := fun b n => by
  cases q : H b with
  | none => rfl
  | some o => rw [e b o q] at n; cases n
theorem SqL.ext {K : PySem.W.Frag} {H H' : Hp} {a : Addr} {xs : List V} (e : Ext H H') (h : SqL K H a xs) : SqL K H' a xs := by
  rcases h with (h | ⟨o, h⟩) | h
  · exact .inl (.inl (e _ _ h))
  · exact .inl (.inr ⟨o, e _ _ h⟩)
  · exact .inr h
/-- the first best one -/
def Best (bt : Nat → Nat → Bool) (n i : Nat) : Prop := i < n ∧ ∀ j, j < n → (j < i → bt i j = true) ∧ (i < j → bt j i = false)
/-- the best so far -/
def BestTo (bt : Nat → Nat → Bool) (n i : Nat) : Prop := i ≤ n ∧ ∀ j, j ≤ n → (j < i → bt i j = true) ∧ (i < j → bt j i = false)
/-- what makes the tests a strict order -/
structure StrictO (bt : Nat → Nat → Bool) : Prop where
  trans : ∀ i j k, bt i j = true → bt j k = true → bt i k = true
  neg : ∀ i j k, bt i j = false → bt j k = false → bt i k = false
  asym : ∀ i j, bt i j = true → bt j i = false
theorem StrictO.irr {bt : Nat → Nat → Bool} (o : StrictO bt) (i : Nat) : bt i i = false := by
  cases e : bt i i with
  | false => rfl
  | true => rw [← e]; exact o.asym i i e
theorem BestTo.better {bt : Nat → Nat → Bool} {n i : Nat} (o : StrictO bt) (b : BestTo bt n i) (h : bt (n + 1) i = true) : BestTo bt (n + 1) (n + 1) := by
  refine ⟨Nat.le_refl _, fun j hj => ⟨fun hlt => ?_, fun hlt => absurd hlt (by omega)⟩⟩
  obtain ⟨b1, b2⟩ := b.2 j (by omega)
  by_cases e : j = i
  · rw [e]; exact h
  · by_cases c : j < i
    · exact o.trans _ _ _ h (b1 c)
    · cases q : bt (n + 1) j with
      | true => rfl
      | false =>
        have z := o.neg _ _ _ q (b2 (by omega))
        rw [h] at z; cases z
theorem BestTo.stays {bt : Nat → Nat → Bool} {n i : Nat} (b : BestTo bt n i) (h : bt (n + 1) i = false) : BestTo bt (n + 1) i := by
  refine ⟨Nat.le_succ_of_le b.1, fun j hj => ?_⟩
  by_cases e : j = n + 1
  · rw [e]
    exact ⟨fun hlt => absurd hlt (by have := b.1; omega), fun _ => h⟩
  · exact b.2 j (by omega)
section
variable {X : Cx} {pins : List (Addr × Obj)} {σ : L2.St} {H0 : Hp}

theorem min_loop_key {l I S : Addr} {q : Addr} {xs : List V} {ys : Nat → V} {bt : Nat → Nat → Bool} {R : Result → Shared → Prop} (o : StrictO bt) (hc : X.calm = true)
    (hl : SqL X.K H0 l xs) (hS : H0 S = none)
    (turn : ∀ (i : Nat) (x : V) (u : Value) (H : Hp) (s : Shared) (more : List (Addr × Obj)), xs[i]? = some x → RelV x u → Ext H0 H → Inv X (pins ++ more) σ H s →
      wpAny (model X.prog X.w) X.A.in1 (call (.ref q) [u]) (fun y s' => RelV (ys i) y ∧ Inv X (pins ++ more) σ H s') (fun _ _ => False) s)
    (cmp : ∀ (i j : Nat) (u v : Value) (H : Hp) (s : Shared) (more : List (Addr × Obj)), i < xs.length → j < xs.length → RelV (ys i) u → RelV (ys j) v → Ext H0 H → Inv X (pins ++ more) σ H s →
      wpAny (model X.prog X.w) X.A.in1 (richCompare .Lt u v) (fun r s' => r = .bool (bt i j) ∧ Inv X (pins ++ more) σ H s') (fun _ _ => False) s)
    (hR : ∀ (i : Nat) (x : V) (u : Value) (H : Hp) (s : Shared), xs[i]? = some x → RelV x u → Best bt xs.length i → Ext H0 H → Inv X pins σ H s → R (.ok (.ret u)) s) :
    ∀ (r j i : Nat) (x : V) (H : Hp) (s : Shared), xs.length - (j + 1) = r → j + 1 ≤ xs.length → xs[i]? = some x → BestTo bt j i → Ext H0 H → H S = some (.lst [x, ys i]) → s.heap.IsListIter I l (j + 1) → Inv X pins σ H s → FpOk X pins H I →
      codeAny (model X.prog X.w) X.A (.builtin "min.loop" ⟨[.ref I, .ref q, .ref S], []⟩) R s := by
  have hname : (toString "min" ++ toString ".loop" : String) = "min.loop" := by decide
  intro r
  induction r with
  | zero =>
    intro j i x H s hr hj hx hb e eS it J fp
    have hh : X.A.handled = none := J.ok.hd hc
    have hin : j + 1 = xs.length := by omega
    obtain ⟨its, rv, pl, hz⟩ := J.list (SqL.ext e hl)
    obtain ⟨zS, itS, nS, rS, lS, gS⟩ := J.lstM eS
    obtain ⟨u, u', rfl, ru, ru'⟩ : ∃ u u', itS = [u, u'] ∧ RelV x u ∧ RelV (ys i) u' := by
      cases rS with
      | cons a b =>
        cases b with
        | cons c d =>
          cases d
          exact ⟨_, _, rfl, a, c⟩
    refine codeAny_builtin PySem.F.entry_min_loop ?_
    rw [Around.under_plainId PySem.F.plain_min_loop _]
    show wpAny _ X.A.in1 (seqItems? (.ref S) >>= _) _ _ _
    refine wpAny_bind (wpAny_seqItems gS rfl ?_)
    show wpAny _ X.A.in1 (tryCatch (pyNext (.ref I)) _ >>= _) _ _ _
    refine wpAny_bind (wpAny_tryCatch (wpAny_pyNext_list_end (A := X.A.in1) hh it pl.isList (by rw [List.getElem?_toArray, List.getElem?_eq_none_iff, ← rv.length]; omega) fun h' he => ?_))
    obtain ⟨f0, f1, f2, f3, f4, f5⟩ := fp
    have J1 : Inv X pins σ H { s with heap := h' } := J.turned (t' := s.toks) (fun b o hb q => he b o hb q) f0 f1 f3 f4 f5
    obtain ⟨zS, itS, nS, rS, lS, gS⟩ := J1.lstM eS
    show wpAny _ X.A.in1 (updateSeq S (fun _ => #[]) >>= _) _ _ _
    refine wpAny_bind ?_
    refine wpAny_updateSeq gS rfl (wpAny_bind (wpAny_letGo (wpAny_pure ?_))) (by rw [List.size_toArray, ← lS]; exact zS)
    have J2 := J1.lset (t' := s.toks) (its' := []) (ys := []) eS gS (f := fun _ => #[]) rfl .nil (Nat.zero_le _)
    refine hR i x u _ _ hx ru ⟨by have := hb.1; omega, fun k hk => hb.2 k (by omega)⟩ (e.upd hS) J2
  | succ r ih =>
    intro j i x H s hr hj hx hb e eS it J fp
    have hh : X.A.handled = none := J.ok.hd hc
    have hlt : j + 1 < xs.length := by omega
    obtain ⟨its, rv, pl, hz⟩ := J.list (SqL.ext e hl)
    obtain ⟨zS, itS, nS, rS, lS, gS⟩ := J.lstM eS
    obtain ⟨ub, kb, rfl, rub, rkb⟩ : ∃ u u', itS = [u, u'] ∧ RelV x u ∧ RelV (ys i) u' := by
      cases rS with
      | cons a b =>
        cases b with
        | cons c d =>
          cases d
          exact ⟨_, _, rfl, a, c⟩
    obtain ⟨x2, hx2⟩ : ∃ x2, xs[j + 1]? = some x2 := ⟨_, List.getElem?_eq_getElem hlt⟩
    obtain ⟨u2, hu2, ru2⟩ := rv.get hx2
    refine codeAny_builtin PySem.F.entry_min_loop ?_
    rw [Around.under_plainId PySem.F.plain_min_loop _]
    show wpAny _ X.A.in1 (seqItems? (.ref S) >>= _) _ _ _
    refine wpAny_bind (wpAny_seqItems gS rfl ?_)
    show wpAny _ X.A.in1 (tryCatch (pyNext (.ref I)) _ >>= _) _ _ _
    refine wpAny_bind (wpAny_tryCatch (wpAny_pyNext_list_item (A := X.A.in1) it pl.isList (x := u2) (by rw [List.getElem?_toArray]; exact hu2) fun h' it' sb => ?_))
    obtain ⟨f0, f1, f2, f3, f4, f5⟩ := id fp
    have J1 : Inv X pins σ H { s with heap := h' } := J.turned (t' := s.toks) (fun b o hb q => (sb.2 b hb).trans q) f0 f1 f3 f4 f5
    have J1p := J1.pinned (fp := [I]) (fun b hb => by rw [List.mem_singleton.mp hb]; exact ⟨f0, f1, f2, f3, f4, f5⟩) (fun b hb => by
      rw [List.mem_singleton.mp hb]
      obtain ⟨o, q, c, d⟩ := it'
      exact ⟨o, q, fun v z => by rw [d] at z; cases z⟩)
    show wpAny _ X.A.in1 (tryCatch (holding [u2] (call (.ref q) [u2])) _ >>= _) _ _ _
    refine wpAny_bind (wpAny_tryCatch (wpAny_holding (wpAny_mono (turn (j + 1) x2 u2 H _ _ hx2 ru2 e J1p) (fun y2 s2 ⟨ry2, J2⟩ => ?_) fun _ _ z => z.elim)))
    have it2 : s2.heap.IsListIter I l (j + 1 + 1) := by
      obtain ⟨o, q, c, d⟩ := it'
      exact ⟨o, (J2.pin (I, o) (List.mem_append_right _ (List.mem_append_right _ (mem_pinsAt (by simp) q)))).1, c, d⟩
    show wpAny _ X.A.in1 (tryCatch (holding [u2, y2] (richCompare .Lt y2 kb >>= _)) _ >>= _) _ _ _
    refine wpAny_bind (wpAny_tryCatch (wpAny_holding (wpAny_bind (wpAny_mono (cmp (j + 1) i y2 kb H s2 _ hlt (by have := (List.getElem?_eq_some_iff.mp hx).1; exact this) ry2 rkb e J2) (fun b s3 ⟨eb, J3⟩ => ?_) fun _ _ z => z.elim))))
    subst eb
    have it3 : s3.heap.IsListIter I l (j + 1 + 1) := by
      obtain ⟨o, q, c, d⟩ := it'
      exact ⟨o, (J3.pin (I, o) (List.mem_append_right _ (List.mem_append_right _ (mem_pinsAt (by simp) q)))).1, c, d⟩
    have J3 := J3.unpinned
    refine wpAny_bind (wpAny_holding (wpAny_truthy_bool ?_))
    refine wpAny_bind (wpAny_letGo (wpAny_pure ?_))
    obtain ⟨zS, itS, nS, rS, lS, gS⟩ := J3.lstM eS
    cases hb' : bt (j + 1) i with
    | true =>
      simp only [if_true]
      refine wpAny_bind ?_
      refine wpAny_updateSeq gS rfl (wpAny_bind (wpAny_letGo ?_)) (by rw [List.size_toArray, ← lS]; exact zS)
      rw [hname]
      have J4 := J3.lset (t' := s3.toks) (its' := [u2, y2]) (ys := [x2, ys (j + 1)]) eS gS (f := fun _ => #[u2, y2]) rfl (.cons ru2 (.cons ry2 .nil)) (by show 2 ≤ sizeLine; decide)
      have nIS : I ≠ S := fun z => by rw [z] at f0; rw [eS] at f0; cases f0
      refine wpAny_pure ⟨plainId_quiet PySem.F.plain_min_loop _, ih (j + 1) (j + 1) x2 _ _ (by omega) hlt hx2 (hb.better o hb') (e.upd hS) upd_same ?_ J4 ⟨by rw [upd_ne nIS]; exact f0, f1, f2, f3, f4, f5⟩⟩
      obtain ⟨o', q, c, d⟩ := it3
      exact ⟨o', (Heap.get?_update_other s3.heap _ (Ne.symm nIS)).trans q, c, d⟩
    | false =>
      simp only [Bool.false_eq_true, if_false]
      refine wpAny_bind (wpAny_letGo ?_)
      rw [hname]
      exact wpAny_pure ⟨plainId_quiet PySem.F.plain_min_loop _, ih (j + 1) i x H s3 (by omega) hlt hx (hb.stays hb') e eS it3 J3 fp⟩

theorem max_loop_key {l I S : Addr} {q : Addr} {xs : List V} {ys : Nat → V} {bt : Nat → Nat → Bool} {R : Result → Shared → Prop} (o : StrictO bt) (hc : X.calm = true)
    (hl : SqL X.K H0 l xs) (hS : H0 S = none)
    (turn : ∀ (i : Nat) (x : V) (u : Value) (H : Hp) (s : Shared) (more : List (Addr × Obj)), xs[i]? = some x → RelV x u → Ext H0 H → Inv X (pins ++ more) σ H s →
      wpAny (model X.prog X.w) X.A.in1 (call (.ref q) [u]) (fun y s' => RelV (ys i) y ∧ Inv X (pins ++ more) σ H s') (fun _ _ => False) s)
    (cmp : ∀ (i j : Nat) (u v : Value) (H : Hp) (s : Shared) (more : List (Addr × Obj)), i < xs.length → j < xs.length → RelV (ys i) u → RelV (ys j) v → Ext H0 H → Inv X (pins ++ more) σ H s →
      wpAny (model X.prog X.w) X.A.in1 (richCompare .Gt u v) (fun r s' => r = .bool (bt i j) ∧ Inv X (pins ++ more) σ H s') (fun _ _ => False) s)
    (hR : ∀ (i : Nat) (x : V) (u : Value) (H : Hp) (s : Shared), xs[i]? = some x → RelV x u → Best bt xs.length i → Ext H0 H → Inv X pins σ H s → R (.ok (.ret u)) s) :
    ∀ (r j i : Nat) (x : V) (H : Hp) (s : Shared), xs.length - (j + 1) = r → j + 1 ≤ xs.length → xs[i]? = some x → BestTo bt j i → Ext H0 H → H S = some (.lst [x, ys i]) → s.heap.IsListIter I l (j + 1) → Inv X pins σ H s → FpOk X pins H I →
      codeAny (model X.prog X.w) X.A (.builtin "max.loop" ⟨[.ref I, .ref q, .ref S], []⟩) R s := by
  have hname : (toString "max" ++ toString ".loop" : String) = "max.loop" := by decide
  intro r
  induction r with
  | zero =>
    intro j i x H s hr hj hx hb e eS it J fp
    have hh : X.A.handled = none := J.ok.hd hc
    have hin : j + 1 = xs.length := by omega
    obtain ⟨its, rv, pl, hz⟩ := J.list (SqL.ext e hl)
    obtain ⟨zS, itS, nS, rS, lS, gS⟩ := J.lstM eS
    obtain ⟨u, u', rfl, ru, ru'⟩ : ∃ u u', itS = [u, u'] ∧ RelV x u ∧ RelV (ys i) u' := by
      cases rS with
      | cons a b =>
        cases b with
        | cons c d =>
          cases d
          exact ⟨_, _, rfl, a, c⟩
    refine codeAny_builtin PySem.F.entry_max_loop ?_
    rw [Around.under_plainId PySem.F.plain_max_loop _]
    show wpAny _ X.A.in1 (seqItems? (.ref S) >>= _) _ _ _
    refine wpAny_bind (wpAny_seqItems gS rfl ?_)
    show wpAny _ X.A.in1 (tryCatch (pyNext (.ref I)) _ >>= _) _ _ _
    refine wpAny_bind (wpAny_tryCatch (wpAny_pyNext_list_end (A := X.A.in1) hh it pl.isList (by rw [List.getElem?_toArray, List.getElem?_eq_none_iff, ← rv.length]; omega) fun h' he => ?_))
    obtain ⟨f0, f1, f2, f3, f4, f5⟩ := fp
    have J1 : Inv X pins σ H { s with heap := h' } := J.turned (t' := s.toks) (fun b o hb q => he b o hb q) f0 f1 f3 f4 f5
    obtain ⟨zS, itS, nS, rS, lS, gS⟩ := J1.lstM eS
    show wpAny _ X.A.in1 (updateSeq S (fun _ => #[]) >>= _) _ _ _
    refine wpAny_bind ?_
    refine wpAny_updateSeq gS rfl (wpAny_bind (wpAny_letGo (wpAny_pure ?_))) (by rw [List.size_toArray, ← lS]; exact zS)
    have J2 := J1.lset (t' := s.toks) (its' := []) (ys := []) eS gS (f := fun _ => #[]) rfl .nil (Nat.zero_le _)
    refine hR i x u _ _ hx ru ⟨by have := hb.1; omega, fun k hk => hb.2 k (by omega)⟩ (e.upd hS) J2
  | succ r ih =>
    intro j i x H s hr hj hx hb e eS it J fp
    have hh : X.A.handled = none := J.ok.hd hc
    have hlt : j + 1 < xs.length := by omega
    obtain ⟨its, rv, pl, hz⟩ := J.list (SqL.ext e hl)
    obtain ⟨zS, itS, nS, rS, lS, gS⟩ := J.lstM eS
    obtain ⟨ub, kb, rfl, rub, rkb⟩ : ∃ u u', itS = [u, u'] ∧ RelV x u ∧ RelV (ys i) u' := by
      cases rS with
      | cons a b =>
        cases b with
        | cons c d =>
          cases d
          exact ⟨_, _, rfl, a, c⟩
    obtain ⟨x2, hx2⟩ : ∃ x2, xs[j + 1]? = some x2 := ⟨_, List.getElem?_eq_getElem hlt⟩
    obtain ⟨u2, hu2, ru2⟩ := rv.get hx2
    refine codeAny_builtin PySem.F.entry_max_loop ?_
    rw [Around.under_plainId PySem.F.plain_max_loop _]
    show wpAny _ X.A.in1 (seqItems? (.ref S) >>= _) _ _ _
    refine wpAny_bind (wpAny_seqItems gS rfl ?_)
    show wpAny _ X.A.in1 (tryCatch (pyNext (.ref I)) _ >>= _) _ _ _
    refine wpAny_bind (wpAny_tryCatch (wpAny_pyNext_list_item (A := X.A.in1) it pl.isList (x := u2) (by rw [List.getElem?_toArray]; exact hu2) fun h' it' sb => ?_))
    obtain ⟨f0, f1, f2, f3, f4, f5⟩ := id fp
    have J1 : Inv X pins σ H { s with heap := h' } := J.turned (t' := s.toks) (fun b o hb q => (sb.2 b hb).trans q) f0 f1 f3 f4 f5
    have J1p := J1.pinned (fp := [I]) (fun b hb => by rw [List.mem_singleton.mp hb]; exact ⟨f0, f1, f2, f3, f4, f5⟩) (fun b hb => by
      rw [List.mem_singleton.mp hb]
      obtain ⟨o, q, c, d⟩ := it'
      exact ⟨o, q, fun v z => by rw [d] at z; cases z⟩)
    show wpAny _ X.A.in1 (tryCatch (holding [u2] (call (.ref q) [u2])) _ >>= _) _ _ _
    refine wpAny_bind (wpAny_tryCatch (wpAny_holding (wpAny_mono (turn (j + 1) x2 u2 H _ _ hx2 ru2 e J1p) (fun y2 s2 ⟨ry2, J2⟩ => ?_) fun _ _ z => z.elim)))
    have it2 : s2.heap.IsListIter I l (j + 1 + 1) := by
      obtain ⟨o, q, c, d⟩ := it'
      exact ⟨o, (J2.pin (I, o) (List.mem_append_right _ (List.mem_append_right _ (mem_pinsAt (by simp) q)))).1, c, d⟩
    show wpAny _ X.A.in1 (tryCatch (holding [u2, y2] (richCompare .Gt y2 kb >>= _)) _ >>= _) _ _ _
    refine wpAny_bind (wpAny_tryCatch (wpAny_holding (wpAny_bind (wpAny_mono (cmp (j + 1) i y2 kb H s2 _ hlt (by have := (List.getElem?_eq_some_iff.mp hx).1; exact this) ry2 rkb e J2) (fun b s3 ⟨eb, J3⟩ => ?_) fun _ _ z => z.elim))))
    subst eb
    have it3 : s3.heap.IsListIter I l (j + 1 + 1) := by
      obtain ⟨o, q, c, d⟩ := it'
      exact ⟨o, (J3.pin (I, o) (List.mem_append_right _ (List.mem_append_right _ (mem_pinsAt (by simp) q)))).1, c, d⟩
    have J3 := J3.unpinned
    refine wpAny_bind (wpAny_holding (wpAny_truthy_bool ?_))
    refine wpAny_bind (wpAny_letGo (wpAny_pure ?_))
    obtain ⟨zS, itS, nS, rS, lS, gS⟩ := J3.lstM eS
    cases hb' : bt (j + 1) i with
    | true =>
      simp only [if_true]
      refine wpAny_bind ?_
      refine wpAny_updateSeq gS rfl (wpAny_bind (wpAny_letGo ?_)) (by rw [List.size_toArray, ← lS]; exact zS)
      rw [hname]
      have J4 := J3.lset (t' := s3.toks) (its' := [u2, y2]) (ys := [x2, ys (j + 1)]) eS gS (f := fun _ => #[u2, y2]) rfl (.cons ru2 (.cons ry2 .nil)) (by show 2 ≤ sizeLine; decide)
      have nIS : I ≠ S := fun z => by rw [z] at f0; rw [eS] at f0; cases f0
      refine wpAny_pure ⟨plainId_quiet PySem.F.plain_max_loop _, ih (j + 1) (j + 1) x2 _ _ (by omega) hlt hx2 (hb.better o hb') (e.upd hS) upd_same ?_ J4 ⟨by rw [upd_ne nIS]; exact f0, f1, f2, f3, f4, f5⟩⟩
      obtain ⟨o', q, c, d⟩ := it3
      exact ⟨o', (Heap.get?_update_other s3.heap _ (Ne.symm nIS)).trans q, c, d⟩
    | false =>
      simp only [Bool.false_eq_true, if_false]
      refine wpAny_bind (wpAny_letGo ?_)
      rw [hname]
      exact wpAny_pure ⟨plainId_quiet PySem.F.plain_max_loop _, ih (j + 1) i x H s3 (by omega) hlt hx (hb.stays hb') e eS it3 J3 fp⟩

theorem min_loop_dflt {l I S : Addr} {dv : Value} {xs : List V} {ys : Nat → V} {bt : Nat → Nat → Bool} {R : Result → Shared → Prop} (o : StrictO bt) (hc : X.calm = true)
    (hl : SqL X.K H0 l xs) (hS : H0 S = none)
    (hys : ∀ (i : Nat) (x : V), xs[i]? = some x → ys i = x)
    (cmp : ∀ (i j : Nat) (u v : Value) (H : Hp) (s : Shared) (more : List (Addr × Obj)), i < xs.length → j < xs.length → RelV (ys i) u → RelV (ys j) v → Ext H0 H → Inv X (pins ++ more) σ H s →
      wpAny (model X.prog X.w) X.A.in1 (richCompare .Lt u v) (fun r s' => r = .bool (bt i j) ∧ Inv X (pins ++ more) σ H s') (fun _ _ => False) s)
    (hR : ∀ (i : Nat) (x : V) (u : Value) (H : Hp) (s : Shared), xs[i]? = some x → RelV x u → Best bt xs.length i → Ext H0 H → Inv X pins σ H s → R (.ok (.ret u)) s) :
    ∀ (r j i : Nat) (x : V) (H : Hp) (s : Shared), xs.length - (j + 1) = r → j + 1 ≤ xs.length → xs[i]? = some x → BestTo bt j i → Ext H0 H → H S = some (.lst [x, ys i]) → s.heap.IsListIter I l (j + 1) → Inv X pins σ H s → FpOk X pins H I →
      codeAny (model X.prog X.w) X.A (.builtin "min.loop" ⟨[.ref I, .none, .ref S], [(Str.ofString "default", dv)]⟩) R s := by
  have hname : (toString "min" ++ toString ".loop" : String) = "min.loop" := by decide
  intro r
  induction r with
  | zero =>
    intro j i x H s hr hj hx hb e eS it J fp
    have hh : X.A.handled = none := J.ok.hd hc
    have hin : j + 1 = xs.length := by omega
    obtain ⟨its, rv, pl, hz⟩ := J.list (SqL.ext e hl)
    obtain ⟨zS, itS, nS, rS, lS, gS⟩ := J.lstM eS
    obtain ⟨u, u', rfl, ru, ru'⟩ : ∃ u u', itS = [u, u'] ∧ RelV x u ∧ RelV (ys i) u' := by
      cases rS with
      | cons a b =>
        cases b with
        | cons c d =>
          cases d
          exact ⟨_, _, rfl, a, c⟩
    refine codeAny_builtin PySem.F.entry_min_loop ?_
    rw [Around.under_plainId PySem.F.plain_min_loop _]
    show wpAny _ X.A.in1 (seqItems? (.ref S) >>= _) _ _ _
    refine wpAny_bind (wpAny_seqItems gS rfl ?_)
    show wpAny _ X.A.in1 (tryCatch (pyNext (.ref I)) _ >>= _) _ _ _
    refine wpAny_bind (wpAny_tryCatch (wpAny_pyNext_list_end (A := X.A.in1) hh it pl.isList (by rw [List.getElem?_toArray, List.getElem?_eq_none_iff, ← rv.length]; omega) fun h' he => ?_))
    obtain ⟨f0, f1, f2, f3, f4, f5⟩ := fp
    have J1 : Inv X pins σ H { s with heap := h' } := J.turned (t' := s.toks) (fun b o hb q => he b o hb q) f0 f1 f3 f4 f5
    obtain ⟨zS, itS, nS, rS, lS, gS⟩ := J1.lstM eS
    show wpAny _ X.A.in1 (updateSeq S (fun _ => #[]) >>= _) _ _ _
    refine wpAny_bind ?_
    refine wpAny_updateSeq gS rfl (wpAny_bind (wpAny_letGo (wpAny_pure ?_))) (by rw [List.size_toArray, ← lS]; exact zS)
    have J2 := J1.lset (t' := s.toks) (its' := []) (ys := []) eS gS (f := fun _ => #[]) rfl .nil (Nat.zero_le _)
    refine hR i x u _ _ hx ru ⟨by have := hb.1; omega, fun k hk => hb.2 k (by omega)⟩ (e.upd hS) J2
  | succ r ih =>
    intro j i x H s hr hj hx hb e eS it J fp
    have hh : X.A.handled = none := J.ok.hd hc
    have hlt : j + 1 < xs.length := by omega
    obtain ⟨its, rv, pl, hz⟩ := J.list (SqL.ext e hl)
    obtain ⟨zS, itS, nS, rS, lS, gS⟩ := J.lstM eS
    obtain ⟨ub, kb, rfl, rub, rkb⟩ : ∃ u u', itS = [u, u'] ∧ RelV x u ∧ RelV (ys i) u' := by
      cases rS with
      | cons a b =>
        cases b with
        | cons c d =>
          cases d
          exact ⟨_, _, rfl, a, c⟩
    obtain ⟨x2, hx2⟩ : ∃ x2, xs[j + 1]? = some x2 := ⟨_, List.getElem?_eq_getElem hlt⟩
    obtain ⟨u2, hu2, ru2⟩ := rv.get hx2
    refine codeAny_builtin PySem.F.entry_min_loop ?_
    rw [Around.under_plainId PySem.F.plain_min_loop _]
    show wpAny _ X.A.in1 (seqItems? (.ref S) >>= _) _ _ _
    refine wpAny_bind (wpAny_seqItems gS rfl ?_)
    show wpAny _ X.A.in1 (tryCatch (pyNext (.ref I)) _ >>= _) _ _ _
    refine wpAny_bind (wpAny_tryCatch (wpAny_pyNext_list_item (A := X.A.in1) it pl.isList (x := u2) (by rw [List.getElem?_toArray]; exact hu2) fun h' it' sb => ?_))
    obtain ⟨f0, f1, f2, f3, f4, f5⟩ := id fp
    have J1 : Inv X pins σ H { s with heap := h' } := J.turned (t' := s.toks) (fun b o hb q => (sb.2 b hb).trans q) f0 f1 f3 f4 f5
    have J1p := J1.pinned (fp := [I]) (fun b hb => by rw [List.mem_singleton.mp hb]; exact ⟨f0, f1, f2, f3, f4, f5⟩) (fun b hb => by
      rw [List.mem_singleton.mp hb]
      obtain ⟨o, q, c, d⟩ := it'
      exact ⟨o, q, fun v z => by rw [d] at z; cases z⟩)
    refine wpAny_bind (wpAny_pure ?_)
    obtain ⟨s2, hs2⟩ : ∃ s2 : Shared, s2 = { s with heap := h' } := ⟨_, rfl⟩
    rw [← hs2] at J1p ⊢
    obtain ⟨y2, hy2⟩ : ∃ y2 : Value, y2 = u2 := ⟨_, rfl⟩
    have ry2 : RelV (ys (j + 1)) y2 := by rw [hy2, hys (j + 1) x2 hx2]; exact ru2
    have J2 := J1p
    rw [← hy2]
    have it2 : s2.heap.IsListIter I l (j + 1 + 1) := by
      obtain ⟨o, q, c, d⟩ := it'
      exact ⟨o, (J2.pin (I, o) (List.mem_append_right _ (List.mem_append_right _ (mem_pinsAt (by simp) (by rw [hs2]; exact q))))).1, c, d⟩
    show wpAny _ X.A.in1 (tryCatch (holding [y2, y2] (richCompare .Lt y2 kb >>= _)) _ >>= _) _ _ _
    refine wpAny_bind (wpAny_tryCatch (wpAny_holding (wpAny_bind (wpAny_mono (cmp (j + 1) i y2 kb H s2 _ hlt (by have := (List.getElem?_eq_some_iff.mp hx).1; exact this) ry2 rkb e J2) (fun b s3 ⟨eb, J3⟩ => ?_) fun _ _ z => z.elim))))
    subst eb
    have it3 : s3.heap.IsListIter I l (j + 1 + 1) := by
      obtain ⟨o, q, c, d⟩ := it'
      exact ⟨o, (J3.pin (I, o) (List.mem_append_right _ (List.mem_append_right _ (mem_pinsAt (by simp) (by rw [hs2]; exact q))))).1, c, d⟩
    have J3 := J3.unpinned
    refine wpAny_bind (wpAny_holding (wpAny_truthy_bool ?_))
    refine wpAny_bind (wpAny_letGo (wpAny_pure ?_))
    obtain ⟨zS, itS, nS, rS, lS, gS⟩ := J3.lstM eS
    cases hb' : bt (j + 1) i with
    | true =>
      simp only [if_true]
      refine wpAny_bind ?_
      refine wpAny_updateSeq gS rfl (wpAny_bind (wpAny_letGo ?_)) (by rw [List.size_toArray, ← lS]; exact zS)
      rw [hname]
      have J4 := J3.lset (t' := s3.toks) (its' := [y2, y2]) (ys := [x2, ys (j + 1)]) eS gS (f := fun _ => #[y2, y2]) rfl (.cons (by rw [hy2]; exact ru2) (.cons ry2 .nil)) (by show 2 ≤ sizeLine; decide)
      have nIS : I ≠ S := fun z => by rw [z] at f0; rw [eS] at f0; cases f0
      refine wpAny_pure ⟨plainId_quiet PySem.F.plain_min_loop _, ih (j + 1) (j + 1) x2 _ _ (by omega) hlt hx2 (hb.better o hb') (e.upd hS) upd_same ?_ J4 ⟨by rw [upd_ne nIS]; exact f0, f1, f2, f3, f4, f5⟩⟩
      obtain ⟨o', q, c, d⟩ := it3
      exact ⟨o', (Heap.get?_update_other s3.heap _ (Ne.symm nIS)).trans q, c, d⟩
    | false =>
      simp only [Bool.false_eq_true, if_false]
      refine wpAny_bind (wpAny_letGo ?_)
      rw [hname]
      exact wpAny_pure ⟨plainId_quiet PySem.F.plain_min_loop _, ih (j + 1) i x H s3 (by omega) hlt hx (hb.stays hb') e eS it3 J3 fp⟩

theorem argsDflt (a v : Value) : argsOk "min" ⟨[a], [(Str.ofString "default", v)]⟩ := by unfold argsOk; kernel_rfl

theorem min_run_key {s : Shared} {l : Addr} {q : Addr} {xs : List V} {ys : Nat → V} {bt : Nat → Nat → Bool} {Q : Value → Shared → Prop} {E : Value → Shared → Prop} (J : Inv X pins σ H0 s) (o : StrictO bt) (hc : X.calm = true)
    (hl : SqL X.K H0 l xs) (hne : 0 < xs.length)
    (turn : ∀ (i : Nat) (x : V) (u : Value) (H : Hp) (s : Shared) (more : List (Addr × Obj)), xs[i]? = some x → RelV x u → Ext H0 H → Inv X (pins ++ more) σ H s →
      wpAny (model X.prog X.w) X.A.in1 (call (.ref q) [u]) (fun y s' => RelV (ys i) y ∧ Inv X (pins ++ more) σ H s') (fun _ _ => False) s)
    (cmp : ∀ (i j : Nat) (u v : Value) (H : Hp) (s : Shared) (more : List (Addr × Obj)), i < xs.length → j < xs.length → RelV (ys i) u → RelV (ys j) v → Ext H0 H → Inv X (pins ++ more) σ H s →
      wpAny (model X.prog X.w) X.A.in1 (richCompare .Lt u v) (fun r s' => r = .bool (bt i j) ∧ Inv X (pins ++ more) σ H s') (fun _ _ => False) s)
    (hR : ∀ (i : Nat) (x : V) (u : Value) (H : Hp) (s : Shared), xs[i]? = some x → RelV x u → Best bt xs.length i → Ext H0 H → Inv X pins σ H s → Q u s) :
    wpAny (model X.prog X.w) X.A (call (.builtin "min") [.ref l] [(Str.ofString "key", .ref q)]) Q E s := by
  have hname : (toString "min" ++ toString ".loop" : String) = "min.loop" := by decide
  have hh : X.A.handled = none := J.ok.hd hc
  obtain ⟨its0, rv0, pl0, hz0⟩ := J.list hl
  refine kmk_tree PySem.F.kind_min PySem.F.plain_min PySem.F.entry_min (kmk_min_key _ _) ?_
  show wpAny _ X.A.in1 (Builtin.Builtins.bindParams "min" ["key", "default"] 0 ⟨[], [(Str.ofString "key", .ref q)]⟩ >>= _) _ _ s
  refine wpAny_bind (wpAny_of_eq (show Builtin.Builtins.bindParams "min" ["key", "default"] 0 ⟨[], [(Str.ofString "key", .ref q)]⟩ = pure [some (.ref q), none] from rfl) ?_)
  refine wpAny_bind (wpAny_pure ?_)
  refine wpAny_bind (wpAny_pyIter_list pl0.isList ?_)
  refine wpAny_bind (wpAny_newList ?_ (Nat.zero_le _))
  rw [hname]
  refine wpAny_pure ⟨plainId_quiet PySem.F.plain_min_loop _, ?_⟩
  have J1 : Inv X pins σ H0 { s with heap := s.heap.push { cls := .type "list_iterator", data := .fields #[.ref l, .int 0 0] } } := J.kept (t' := s.toks) fun b o e => Heap.get?_push_of_some _ e
  have fI : FpOk X pins H0 s.heap.objs.size := J.fpOk (Nat.le_refl _) J.fresh
  have J2 := J1.lnew (t' := s.toks) (its := []) (ys := []) .nil (Nat.zero_le _)
  have it0 : ((s.heap.push { cls := .type "list_iterator", data := .fields #[.ref l, .int 0 0] }).push { cls := .type "list", data := .seq #[] }).IsListIter s.heap.objs.size l 0 := ⟨_, Heap.get?_push_of_some _ (Heap.get?_push_size _ rfl), rfl, rfl⟩
  have hS0 := J1.fresh
  have hSz : (s.heap.push { cls := .type "list_iterator", data := .fields #[.ref l, .int 0 0] }).objs.size = s.heap.objs.size + 1 := size_push' ..
  have nIS : s.heap.objs.size ≠ (s.heap.push { cls := .type "list_iterator", data := .fields #[.ref l, .int 0 0] }).objs.size := by rw [hSz]; omega
  generalize hI : s.heap.objs.size = I at *
  generalize hS : (s.heap.push { cls := .type "list_iterator", data := .fields #[.ref l, .int 0 0] }).objs.size = S at *
  have fp : FpOk X pins (upd H0 S (.lst [])) I := ⟨by rw [upd_ne nIS]; exact fI.1, fI.2⟩
  have eS : upd H0 S (.lst []) S = some (.lst []) := upd_same
  have e : Ext H0 (upd H0 S (.lst [])) := (Ext.refl H0).upd hS0
  generalize upd H0 S (.lst []) = H at *
  change Inv X pins σ H { s with heap := ((s.heap.push { cls := .type "list_iterator", data := .fields #[.ref l, .int 0 0] }).push { cls := .type "list", data := .seq #[] }) } at J2
  generalize ((s.heap.push { cls := .type "list_iterator", data := .fields #[.ref l, .int 0 0] }).push { cls := .type "list", data := .seq #[] }) = h2 at *
  obtain ⟨its, rv, pl, hz⟩ := J2.list (SqL.ext e hl)
  obtain ⟨zS, itS, nS, rS, lS, gS⟩ := J2.lstM eS
  obtain rfl : itS = [] := by cases rS; rfl
  refine codeAny_builtin PySem.F.entry_min_loop ?_
  rw [Around.under_plainId PySem.F.plain_min_loop _]
  show wpAny _ X.A.in1 (seqItems? (.ref S) >>= _) _ _ _
  refine wpAny_bind (wpAny_seqItems gS rfl ?_)
  show wpAny _ X.A.in1 (tryCatch (pyNext (.ref I)) _ >>= _) _ _ _
  have hlt : 0 < xs.length := hne
  obtain ⟨x2, hx2⟩ : ∃ x2, xs[0]? = some x2 := ⟨_, List.getElem?_eq_getElem hlt⟩
  obtain ⟨u2, hu2, ru2⟩ := rv.get hx2
  refine wpAny_bind (wpAny_tryCatch (wpAny_pyNext_list_item (A := X.A.in1) it0 pl.isList (x := u2) (by rw [List.getElem?_toArray]; exact hu2) fun h' it' sb => ?_))
  obtain ⟨f0, f1, f2, f3, f4, f5⟩ := id fp
  have J3 : Inv X pins σ H { s with heap := h' } := J2.turned (t' := s.toks) (fun b o hb q => (sb.2 b hb).trans q) f0 f1 f3 f4 f5
  have J3p := J3.pinned (fp := [I]) (fun b hb => by rw [List.mem_singleton.mp hb]; exact ⟨f0, f1, f2, f3, f4, f5⟩) (fun b hb => by
    rw [List.mem_singleton.mp hb]
    obtain ⟨o, q, c, d⟩ := it'
    exact ⟨o, q, fun v z => by rw [d] at z; cases z⟩)
  show wpAny _ X.A.in1 (tryCatch (holding [u2] (call (.ref q) [u2])) _ >>= _) _ _ _
  refine wpAny_bind (wpAny_tryCatch (wpAny_holding (wpAny_mono (turn 0 x2 u2 H _ _ hx2 ru2 e J3p) (fun y2 s4 ⟨ry2, J4⟩ => ?_) fun _ _ z => z.elim)))
  have it4 : s4.heap.IsListIter I l 1 := by
    obtain ⟨o, q, c, d⟩ := it'
    exact ⟨o, (J4.pin (I, o) (List.mem_append_right _ (List.mem_append_right _ (mem_pinsAt (by simp) q)))).1, c, d⟩
  have J4 := J4.unpinned
  obtain ⟨zS, itS, nS, rS, lS, gS⟩ := J4.lstM eS
  show wpAny _ X.A.in1 (updateSeq S (fun _ => #[u2, y2]) >>= _) _ _ _
  refine wpAny_bind ?_
  refine wpAny_updateSeq gS rfl ?_ (by rw [List.size_toArray, ← lS]; exact zS)
  rw [hname]
  have J5 := J4.lset (t' := s4.toks) (its' := [u2, y2]) (ys := [x2, ys 0]) eS gS (f := fun _ => #[u2, y2]) rfl (.cons ru2 (.cons ry2 .nil)) (by show 2 ≤ sizeLine; decide)
  refine wpAny_pure ⟨plainId_quiet PySem.F.plain_min_loop _, ?_⟩
  refine min_loop_key (H0 := H0) o hc hl hS0 turn cmp (R := fun r s' => match r with | .ok (.ret v) => Q v s' | .ok _ => False | .error e => E e s') hR _ 0 0 x2 _ _ rfl hlt hx2 ⟨Nat.le_refl _, fun j hj => ⟨fun z => absurd z (by omega), fun z => absurd z (by omega)⟩⟩ (e.upd hS0) upd_same ?_ J5 ⟨by rw [upd_ne nIS]; exact f0, f1, f2, f3, f4, f5⟩
  obtain ⟨o', q, c, d⟩ := it4
  exact ⟨o', (Heap.get?_update_other s4.heap _ (Ne.symm nIS)).trans q, c, d⟩

theorem max_run_key {s : Shared} {l : Addr} {q : Addr} {xs : List V} {ys : Nat → V} {bt : Nat → Nat → Bool} {Q : Value → Shared → Prop} {E : Value → Shared → Prop} (J : Inv X pins σ H0 s) (o : StrictO bt) (hc : X.calm = true)
    (hl : SqL X.K H0 l xs) (hne : 0 < xs.length)
    (turn : ∀ (i : Nat) (x : V) (u : Value) (H : Hp) (s : Shared) (more : List (Addr × Obj)), xs[i]? = some x → RelV x u → Ext H0 H → Inv X (pins ++ more) σ H s →
      wpAny (model X.prog X.w) X.A.in1 (call (.ref q) [u]) (fun y s' => RelV (ys i) y ∧ Inv X (pins ++ more) σ H s') (fun _ _ => False) s)
    (cmp : ∀ (i j : Nat) (u v : Value) (H : Hp) (s : Shared) (more : List (Addr × Obj)), i < xs.length → j < xs.length → RelV (ys i) u → RelV (ys j) v → Ext H0 H → Inv X (pins ++ more) σ H s →
      wpAny (model X.prog X.w) X.A.in1 (richCompare .Gt u v) (fun r s' => r = .bool (bt i j) ∧ Inv X (pins ++ more) σ H s') (fun _ _ => False) s)
    (hR : ∀ (i : Nat) (x : V) (u : Value) (H : Hp) (s : Shared), xs[i]? = some x → RelV x u → Best bt xs.length i → Ext H0 H → Inv X pins σ H s → Q u s) :
    wpAny (model X.prog X.w) X.A (call (.builtin "max") [.ref l] [(Str.ofString "key", .ref q)]) Q E s := by
  have hname : (toString "max" ++ toString ".loop" : String) = "max.loop" := by decide
  have hh : X.A.handled = none := J.ok.hd hc
  obtain ⟨its0, rv0, pl0, hz0⟩ := J.list hl
  refine kmk_tree PySem.F.kind_max PySem.F.plain_max PySem.F.entry_max (kmk_max_key _ _) ?_
  show wpAny _ X.A.in1 (Builtin.Builtins.bindParams "max" ["key", "default"] 0 ⟨[], [(Str.ofString "key", .ref q)]⟩ >>= _) _ _ s
  refine wpAny_bind (wpAny_of_eq (show Builtin.Builtins.bindParams "max" ["key", "default"] 0 ⟨[], [(Str.ofString "key", .ref q)]⟩ = pure [some (.ref q), none] from rfl) ?_)
  refine wpAny_bind (wpAny_pure ?_)
  refine wpAny_bind (wpAny_pyIter_list pl0.isList ?_)
  refine wpAny_bind (wpAny_newList ?_ (Nat.zero_le _))
  rw [hname]
  refine wpAny_pure ⟨plainId_quiet PySem.F.plain_max_loop _, ?_⟩
  have J1 : Inv X pins σ H0 { s with heap := s.heap.push { cls := .type "list_iterator", data := .fields #[.ref l, .int 0 0] } } := J.kept (t' := s.toks) fun b o e => Heap.get?_push_of_some _ e
  have fI : FpOk X pins H0 s.heap.objs.size := J.fpOk (Nat.le_refl _) J.fresh
  have J2 := J1.lnew (t' := s.toks) (its := []) (ys := []) .nil (Nat.zero_le _)
  have it0 : ((s.heap.push { cls := .type "list_iterator", data := .fields #[.ref l, .int 0 0] }).push { cls := .type "list", data := .seq #[] }).IsListIter s.heap.objs.size l 0 := ⟨_, Heap.get?_push_of_some _ (Heap.get?_push_size _ rfl), rfl, rfl⟩
  have hS0 := J1.fresh
  have hSz : (s.heap.push { cls := .type "list_iterator", data := .fields #[.ref l, .int 0 0] }).objs.size = s.heap.objs.size + 1 := size_push' ..
  have nIS : s.heap.objs.size ≠ (s.heap.push { cls := .type "list_iterator", data := .fields #[.ref l, .int 0 0] }).objs.size := by rw [hSz]; omega
  generalize hI : s.heap.objs.size = I at *
  generalize hS : (s.heap.push { cls := .type "list_iterator", data := .fields #[.ref l, .int 0 0] }).objs.size = S at *
  have fp : FpOk X pins (upd H0 S (.lst [])) I := ⟨by rw [upd_ne nIS]; exact fI.1, fI.2⟩
  have eS : upd H0 S (.lst []) S = some (.lst []) := upd_same
  have e : Ext H0 (upd H0 S (.lst [])) := (Ext.refl H0).upd hS0
  generalize upd H0 S (.lst []) = H at *
  change Inv X pins σ H { s with heap := ((s.heap.push { cls := .type "list_iterator", data := .fields #[.ref l, .int 0 0] }).push { cls := .type "list", data := .seq #[] }) } at J2
  generalize ((s.heap.push { cls := .type "list_iterator", data := .fields #[.ref l, .int 0 0] }).push { cls := .type "list", data := .seq #[] }) = h2 at *
  obtain ⟨its, rv, pl, hz⟩ := J2.list (SqL.ext e hl)
  obtain ⟨zS, itS, nS, rS, lS, gS⟩ := J2.lstM eS
  obtain rfl : itS = [] := by cases rS; rfl
  refine codeAny_builtin PySem.F.entry_max_loop ?_
  rw [Around.under_plainId PySem.F.plain_max_loop _]
  show wpAny _ X.A.in1 (seqItems? (.ref S) >>= _) _ _ _
  refine wpAny_bind (wpAny_seqItems gS rfl ?_)
  show wpAny _ X.A.in1 (tryCatch (pyNext (.ref I)) _ >>= _) _ _ _
  have hlt : 0 < xs.length := hne
  obtain ⟨x2, hx2⟩ : ∃ x2, xs[0]? = some x2 := ⟨_, List.getElem?_eq_getElem hlt⟩
  obtain ⟨u2, hu2, ru2⟩ := rv.get hx2
  refine wpAny_bind (wpAny_tryCatch (wpAny_pyNext_list_item (A := X.A.in1) it0 pl.isList (x := u2) (by rw [List.getElem?_toArray]; exact hu2) fun h' it' sb => ?_))
  obtain ⟨f0, f1, f2, f3, f4, f5⟩ := id fp
  have J3 : Inv X pins σ H { s with heap := h' } := J2.turned (t' := s.toks) (fun b o hb q => (sb.2 b hb).trans q) f0 f1 f3 f4 f5
  have J3p := J3.pinned (fp := [I]) (fun b hb => by rw [List.mem_singleton.mp hb]; exact ⟨f0, f1, f2, f3, f4, f5⟩) (fun b hb => by
    rw [List.mem_singleton.mp hb]
    obtain ⟨o, q, c, d⟩ := it'
    exact ⟨o, q, fun v z => by rw [d] at z; cases z⟩)
  show wpAny _ X.A.in1 (tryCatch (holding [u2] (call (.ref q) [u2])) _ >>= _) _ _ _
  refine wpAny_bind (wpAny_tryCatch (wpAny_holding (wpAny_mono (turn 0 x2 u2 H _ _ hx2 ru2 e J3p) (fun y2 s4 ⟨ry2, J4⟩ => ?_) fun _ _ z => z.elim)))
  have it4 : s4.heap.IsListIter I l 1 := by
    obtain ⟨o, q, c, d⟩ := it'
    exact ⟨o, (J4.pin (I, o) (List.mem_append_right _ (List.mem_append_right _ (mem_pinsAt (by simp) q)))).1, c, d⟩
  have J4 := J4.unpinned
  obtain ⟨zS, itS, nS, rS, lS, gS⟩ := J4.lstM eS
  show wpAny _ X.A.in1 (updateSeq S (fun _ => #[u2, y2]) >>= _) _ _ _
  refine wpAny_bind ?_
  refine wpAny_updateSeq gS rfl ?_ (by rw [List.size_toArray, ← lS]; exact zS)
  rw [hname]
  have J5 := J4.lset (t' := s4.toks) (its' := [u2, y2]) (ys := [x2, ys 0]) eS gS (f := fun _ => #[u2, y2]) rfl (.cons ru2 (.cons ry2 .nil)) (by show 2 ≤ sizeLine; decide)
  refine wpAny_pure ⟨plainId_quiet PySem.F.plain_max_loop _, ?_⟩
  refine max_loop_key (H0 := H0) o hc hl hS0 turn cmp (R := fun r s' => match r with | .ok (.ret v) => Q v s' | .ok _ => False | .error e => E e s') hR _ 0 0 x2 _ _ rfl hlt hx2 ⟨Nat.le_refl _, fun j hj => ⟨fun z => absurd z (by omega), fun z => absurd z (by omega)⟩⟩ (e.upd hS0) upd_same ?_ J5 ⟨by rw [upd_ne nIS]; exact f0, f1, f2, f3, f4, f5⟩
  obtain ⟨o', q, c, d⟩ := it4
  exact ⟨o', (Heap.get?_update_other s4.heap _ (Ne.symm nIS)).trans q, c, d⟩

theorem min_run_dflt {s : Shared} {l : Addr} {dv : Value} {xs : List V} {ys : Nat → V} {bt : Nat → Nat → Bool} {Q : Value → Shared → Prop} {E : Value → Shared → Prop} (J : Inv X pins σ H0 s) (o : StrictO bt) (hc : X.calm = true)
    (hl : SqL X.K H0 l xs) 
    (hys : ∀ (i : Nat) (x : V), xs[i]? = some x → ys i = x)
    (cmp : ∀ (i j : Nat) (u v : Value) (H : Hp) (s : Shared) (more : List (Addr × Obj)), i < xs.length → j < xs.length → RelV (ys i) u → RelV (ys j) v → Ext H0 H → Inv X (pins ++ more) σ H s →
      wpAny (model X.prog X.w) X.A.in1 (richCompare .Lt u v) (fun r s' => r = .bool (bt i j) ∧ Inv X (pins ++ more) σ H s') (fun _ _ => False) s)
    (hR : ∀ (i : Nat) (x : V) (u : Value) (H : Hp) (s : Shared), xs[i]? = some x → RelV x u → Best bt xs.length i → Ext H0 H → Inv X pins σ H s → Q u s)
    (hN : ∀ (H : Hp) (s : Shared), xs = [] → Ext H0 H → Inv X pins σ H s → Q dv s) :
    wpAny (model X.prog X.w) X.A (call (.builtin "min") [.ref l] [(Str.ofString "default", dv)]) Q E s := by
  have hname : (toString "min" ++ toString ".loop" : String) = "min.loop" := by decide
  have hh : X.A.handled = none := J.ok.hd hc
  obtain ⟨its0, rv0, pl0, hz0⟩ := J.list hl
  refine kmk_tree PySem.F.kind_min PySem.F.plain_min PySem.F.entry_min (argsDflt _ _) ?_
  show wpAny _ X.A.in1 (Builtin.Builtins.bindParams "min" ["key", "default"] 0 ⟨[], [(Str.ofString "default", dv)]⟩ >>= _) _ _ s
  refine wpAny_bind (wpAny_of_eq (show Builtin.Builtins.bindParams "min" ["key", "default"] 0 ⟨[], [(Str.ofString "default", dv)]⟩ = pure [none, some dv] from rfl) ?_)
  refine wpAny_bind (wpAny_pure ?_)
  refine wpAny_bind (wpAny_pyIter_list pl0.isList ?_)
  refine wpAny_bind (wpAny_newList ?_ (Nat.zero_le _))
  rw [hname]
  refine wpAny_pure ⟨plainId_quiet PySem.F.plain_min_loop _, ?_⟩
  have J1 : Inv X pins σ H0 { s with heap := s.heap.push { cls := .type "list_iterator", data := .fields #[.ref l, .int 0 0] } } := J.kept (t' := s.toks) fun b o e => Heap.get?_push_of_some _ e
  have fI : FpOk X pins H0 s.heap.objs.size := J.fpOk (Nat.le_refl _) J.fresh
  have J2 := J1.lnew (t' := s.toks) (its := []) (ys := []) .nil (Nat.zero_le _)
  have it0 : ((s.heap.push { cls := .type "list_iterator", data := .fields #[.ref l, .int 0 0] }).push { cls := .type "list", data := .seq #[] }).IsListIter s.heap.objs.size l 0 := ⟨_, Heap.get?_push_of_some _ (Heap.get?_push_size _ rfl), rfl, rfl⟩
  have hS0 := J1.fresh
  have hSz : (s.heap.push { cls := .type "list_iterator", data := .fields #[.ref l, .int 0 0] }).objs.size = s.heap.objs.size + 1 := size_push' ..
  have nIS : s.heap.objs.size ≠ (s.heap.push { cls := .type "list_iterator", data := .fields #[.ref l, .int 0 0] }).objs.size := by rw [hSz]; omega
  generalize hI : s.heap.objs.size = I at *
  generalize hS : (s.heap.push { cls := .type "list_iterator", data := .fields #[.ref l, .int 0 0] }).objs.size = S at *
  have fp : FpOk X pins (upd H0 S (.lst [])) I := ⟨by rw [upd_ne nIS]; exact fI.1, fI.2⟩
  have eS : upd H0 S (.lst []) S = some (.lst []) := upd_same
  have e : Ext H0 (upd H0 S (.lst [])) := (Ext.refl H0).upd hS0
  generalize upd H0 S (.lst []) = H at *
  change Inv X pins σ H { s with heap := ((s.heap.push { cls := .type "list_iterator", data := .fields #[.ref l, .int 0 0] }).push { cls := .type "list", data := .seq #[] }) } at J2
  generalize ((s.heap.push { cls := .type "list_iterator", data := .fields #[.ref l, .int 0 0] }).push { cls := .type "list", data := .seq #[] }) = h2 at *
  obtain ⟨its, rv, pl, hz⟩ := J2.list (SqL.ext e hl)
  obtain ⟨zS, itS, nS, rS, lS, gS⟩ := J2.lstM eS
  obtain rfl : itS = [] := by cases rS; rfl
  refine codeAny_builtin PySem.F.entry_min_loop ?_
  rw [Around.under_plainId PySem.F.plain_min_loop _]
  show wpAny _ X.A.in1 (seqItems? (.ref S) >>= _) _ _ _
  refine wpAny_bind (wpAny_seqItems gS rfl ?_)
  show wpAny _ X.A.in1 (tryCatch (pyNext (.ref I)) _ >>= _) _ _ _
  by_cases hne : 0 < xs.length
  case neg =>
    have hx0 : xs = [] := List.length_eq_zero_iff.mp (by omega)
    refine wpAny_bind (wpAny_tryCatch (wpAny_pyNext_list_end (A := X.A.in1) hh it0 pl.isList (by rw [List.getElem?_toArray, List.getElem?_eq_none_iff, ← rv.length]; omega) fun h' he => ?_))
    obtain ⟨f0, f1, f2, f3, f4, f5⟩ := fp
    have J3 : Inv X pins σ H { s with heap := h' } := J2.turned (t' := s.toks) (fun b o hb q => he b o hb q) f0 f1 f3 f4 f5
    refine wpAny_bind (wpAny_rule ?_)
    exact wpAny_pure (hN _ _ hx0 e J3)
  have hlt : 0 < xs.length := hne
  obtain ⟨x2, hx2⟩ : ∃ x2, xs[0]? = some x2 := ⟨_, List.getElem?_eq_getElem hlt⟩
  obtain ⟨u2, hu2, ru2⟩ := rv.get hx2
  refine wpAny_bind (wpAny_tryCatch (wpAny_pyNext_list_item (A := X.A.in1) it0 pl.isList (x := u2) (by rw [List.getElem?_toArray]; exact hu2) fun h' it' sb => ?_))
  obtain ⟨f0, f1, f2, f3, f4, f5⟩ := id fp
  have J3 : Inv X pins σ H { s with heap := h' } := J2.turned (t' := s.toks) (fun b o hb q => (sb.2 b hb).trans q) f0 f1 f3 f4 f5
  have J3p := J3.pinned (fp := [I]) (fun b hb => by rw [List.mem_singleton.mp hb]; exact ⟨f0, f1, f2, f3, f4, f5⟩) (fun b hb => by
    rw [List.mem_singleton.mp hb]
    obtain ⟨o, q, c, d⟩ := it'
    exact ⟨o, q, fun v z => by rw [d] at z; cases z⟩)
  refine wpAny_bind (wpAny_pure ?_)
  obtain ⟨s4, hs4⟩ : ∃ s4 : Shared, s4 = { s with heap := h' } := ⟨_, rfl⟩
  rw [← hs4] at J3p ⊢
  obtain ⟨y2, hy2⟩ : ∃ y2 : Value, y2 = u2 := ⟨_, rfl⟩
  have ry2 : RelV (ys 0) y2 := by rw [hy2, hys 0 x2 hx2]; exact ru2
  have J4 := J3p
  rw [← hy2]
  have it4 : s4.heap.IsListIter I l 1 := by
    obtain ⟨o, q, c, d⟩ := it'
    exact ⟨o, (J4.pin (I, o) (List.mem_append_right _ (List.mem_append_right _ (mem_pinsAt (by simp) (by rw [hs4]; exact q))))).1, c, d⟩
  have J4 := J4.unpinned
  obtain ⟨zS, itS, nS, rS, lS, gS⟩ := J4.lstM eS
  show wpAny _ X.A.in1 (updateSeq S (fun _ => #[y2, y2]) >>= _) _ _ _
  refine wpAny_bind ?_
  refine wpAny_updateSeq gS rfl ?_ (by rw [List.size_toArray, ← lS]; exact zS)
  rw [hname]
  have J5 := J4.lset (t' := s4.toks) (its' := [y2, y2]) (ys := [x2, ys 0]) eS gS (f := fun _ => #[y2, y2]) rfl (.cons (by rw [hy2]; exact ru2) (.cons ry2 .nil)) (by show 2 ≤ sizeLine; decide)
  refine wpAny_pure ⟨plainId_quiet PySem.F.plain_min_loop _, ?_⟩
  refine min_loop_dflt (H0 := H0) o hc hl hS0 hys cmp (R := fun r s' => match r with | .ok (.ret v) => Q v s' | .ok _ => False | .error e => E e s') hR _ 0 0 x2 _ _ rfl hlt hx2 ⟨Nat.le_refl _, fun j hj => ⟨fun z => absurd z (by omega), fun z => absurd z (by omega)⟩⟩ (e.upd hS0) upd_same ?_ J5 ⟨by rw [upd_ne nIS]; exact f0, f1, f2, f3, f4, f5⟩
  obtain ⟨o', q, c, d⟩ := it4
  exact ⟨o', (Heap.get?_update_other s4.heap _ (Ne.symm nIS)).trans q, c, d⟩
end
end MM
end

section
open PySem PySem.Spec PyProof.Rows L2 LamX NdefX
set_option Elab.async false
set_option linter.all false
set_option maxRecDepth 100000
set_option maxHeartbeats 4000000
namespace Lam1
open MM
/-- what a lambda's words make of a function's record (its body stands apart: it is an expression) -/
abbrev lnf (q : Str) (params : Arguments) (scope : Scope) (cl : List (Str × Addr)) (c : Addr) : NF := ⟨"<lambda>", q, params, [], scope, cl, c⟩
section
variable {X : Cx} {pins : List (Addr × Obj)} {σ : L2.St} {H : Hp} {s : Shared}
/-- the call of a lambda of one parameter that changes nothing, from a built-in of one level more -/
theorem lam_run {N fr : List Str} {a : Str} {q : Str} {params : Arguments} {body : Expr} {scope : Scope} {cl : List (Str × Addr)} {pm ctv : Value} {f c' : Addr} {k : Nat} {tb : TE} {u : Value} {v yv : V} {ws : List (Option V)}
    (I : Inv X pins σ H s) (hf : s.heap.get? f = some (PySem.W.kla_obj "<lambda>" q params body scope cl pm c' ctv)) (hc : H c' = some (CodeO c' q)) (S : NScope N [a] fr scope) (C : CellsAt cl fr ws s.heap H)
    (hb : bindArgs (PySem.W.kla_fn "<lambda>" q params body scope cl pm (.ref c') ctv) ⟨[u], []⟩ = pure [(a, u)]) (hr : Room (k + 2) X.A)
    (hbody : ∀ (A : Around) (outer : List Env) (s : Shared) (H : Hp), Room k (A.deeper (envF (lnf q params scope cl c') f s.heap.objs.size)) → PE (ncx L2.CX0 X.prog X.w X.K X.mg X.base N (lnf q params scope cl c') f A outer s H L2.E0) body tb)
    (r : RelV v u) (ht : tb (startF N [v] ws) H fun y H' => y = yv ∧ H' = H) :
    wpAny (model X.prog X.w) X.A.in1 (call (.ref f) [u]) (fun y s' => RelV yv y ∧ Inv X pins σ H s') (fun _ _ => False) s := by
  have e0 := I.env0.in1
  obtain ⟨⟨oc, vs, t, hoc, hdc, hvc⟩, _, _⟩ := I.hok c' _ hc
  have rc : codeAny (model X.prog X.w) X.A.in1 (.call (.ref f) ⟨[u], []⟩) (CR L2.CX0 X.stack X.prog X.w H s (fun y H' => y = yv ∧ H' = H) L2.E0) s := by
    refine PySem.W.kla_callFunE hr.in1.depth hf rfl S.co S.gen rfl ⟨c', oc, vs, t, rfl, hoc, hdc, hvc⟩ ?_
    rw [hb]
    refine wpAny_pure (wpAny_newFunctionEnv S.nocell (fun y hy => ?_) (fun h₁ hns hsb => ⟨I.nolimit.fresh _ hsb, ?_⟩) S.kind)
    · rw [List.mem_singleton.mp hy]
      exact S.par a (by simp)
    show codeAny _ _ (.expr body (envF (lnf q params scope cl c') f s.heap.objs.size)) _ _
    have kp : ∀ b o, s.heap.get? b = some o → h₁.get? b = some o := fun b o e => hsb.extBut b o (Nat.ne_of_lt (Heap.lt_size e)) (Heap.get?_push_of_some _ e)
    have J : Inv (ncx L2.CX0 X.prog X.w X.K X.mg X.base N (lnf q params scope cl c') f X.A.in1 X.stack s H L2.E0) [] (startF N [v] ws) H { s with heap := h₁, toks := s.toks + 1 } :=
      inv_startN (F := lnf q params scope cl c') S hr.in1.hd e0 rfl (.cons r .nil) C hns kp
    refine PySem.W.kla_codeExpr (wpAny_mono ((hbody X.A.in1 X.stack s H (hr.in1.deeper _)).run [] _ _ H _ J ht) (fun y s' hq => ?_) fun e s' hq => hq)
    obtain ⟨w', H', J', rv, q⟩ := hq
    exact ⟨w', H', J'.os, J'.bare, J'.base, J'.hok, rv, q⟩
  refine wpAny_call (codeAny_mono rc fun r s' hq => ?_)
  cases r with
  | error e => exact False.elim hq
  | ok fl =>
    cases fl with
    | ret u =>
      obtain ⟨v', H', J', rv, e1, e2⟩ := I.after hq
      subst e1 e2
      exact ⟨rv, J'⟩
    | next => exact False.elim hq
    | brk => exact False.elim hq
    | cont => exact False.elim hq
/-- the order of whole numbers makes a strict one -/
theorem strict_gt (kf : Nat → Int) : StrictO fun i j => decide (kf i > kf j) where
  trans i j k h1 h2 := by simp only [decide_eq_true_eq] at *; omega
  neg i j k h1 h2 := by simp only [decide_eq_false_iff_not] at *; omega
  asym i j h := by simp only [decide_eq_true_eq, decide_eq_false_iff_not] at *; omega
theorem strict_lt (kf : Nat → Int) : StrictO fun i j => decide (kf i < kf j) where
  trans i j k h1 h2 := by simp only [decide_eq_true_eq] at *; omega
  neg i j k h1 h2 := by simp only [decide_eq_false_iff_not] at *; omega
  asym i j h := by simp only [decide_eq_true_eq, decide_eq_false_iff_not] at *; omega
end
/-- NAME(e, key=lambda a: body): bt says which key is the better one -/
def tBest (K : PySem.W.Frag) (T : List (Addr × Str)) (N : List Str) (js : List Nat) (lt : Int → Int → Bool) (ta tb : TE) : TE := fun σ H Q => ta σ H fun x H1 => Tabs T H1 ∧ ∃ (l : Addr) (xs : List V) (kf : Nat → Int), x = .ref l ∧ SqL K H1 l xs ∧ 0 < xs.length ∧
  (∀ H2, ExtN H1 H2 → Tabs T H2 → ∀ i v, xs[i]? = some v → tb (startF N [v] (js.map (slotAt σ))) H2 fun y H' => y = .int (kf i) ∧ H' = H2) ∧
  ∀ i v H2, xs[i]? = some v → Best (fun i j => lt (kf i) (kf j)) xs.length i → ExtN H1 H2 → Tabs T H2 → Q v H2
section
variable {X : Cx}

theorem pe_maxLam {T : List (Addr × Str)} {N fr : List Str} {a : Str} {js : List Nat} {c P : Addr} {params : Arguments} {body e : Expr} {scope : Scope} {k : Nat} {ta tb : TE} {p lpos kpos pos : Pos} (hc : X.calm = true) (hr : Room (k + 2) X.A) (hg : Gl X "max") (hm : X.mg "max" = none)
    (he : PE X e ta) (TB : TabB X.base X.mg c P) (hcode : X.env.code = .ref c) (hmT : (P, X.env.qual ++ "<lambda>") ∈ T) (hu : ∀ p ∈ T, p.1 = P → p.2 = X.env.qual ++ "<lambda>") (hdef : defaultsOf params X.env = ([], []))
    (S : NScope N [a] fr scope) (hsc : ∀ y ∈ scope.names, y.2 = .free → X.env.scope.names.lookup y.1 = some .cell ∨ X.env.scope.names.lookup y.1 = some .free) (hfr : ∀ y ∈ fr, (y, NameKind.free) ∈ scope.names) (hjs : js.map (fun j => X.N[j]?) = fr.map some)
    (hb : ∀ (cl : List (Str × Addr)) (pm cv ctv u : Value), bindArgs (PySem.W.kla_fn "<lambda>" (X.env.qual ++ "<lambda>") params body scope cl pm cv ctv) ⟨[u], []⟩ = pure [(a, u)])
    (hbody : ∀ (f c' : Addr) (A : Around) (outer : List Env) (s : Shared) (H : Hp), Room k (A.deeper (envF (lnf (X.env.qual ++ "<lambda>") params scope (cloFrom X.env.cells scope.names []) c') f s.heap.objs.size)) →
      PE (ncx L2.CX0 X.prog X.w X.K X.mg X.base N (lnf (X.env.qual ++ "<lambda>") params scope (cloFrom X.env.cells scope.names []) c') f A outer s H L2.E0) body tb)
    (hst : backTo pos (starEach [e] X.env) = [(false, eval e X.env)] := by rfl) (hpl : (backTo pos (starEach [e] X.env)).any (·.1) = false := by rfl)
    (hall : (backToKw pos (keywordEach [⟨some "key", .Lambda params body scope lpos, kpos⟩] X.env)).all (·.1.isSome) = true := by rfl) (hnone : (backToKw pos (keywordEach [⟨some "key", .Lambda params body scope lpos, kpos⟩] X.env)).any (·.1.isNone) = false := by rfl)
    (hks : (backToKw pos (keywordEach [⟨some "key", .Lambda params body scope lpos, kpos⟩] X.env)).filterMap (·.1) = [Str.ofString "key"] := by rfl) :
    PE X (.Call (.Name "max" p) [e] [⟨some "key", .Lambda params body scope lpos, kpos⟩] pos) (tBest X.K T N js (fun i j => decide (i > j)) ta tb) := by
  refine ⟨fun pins s σ H Q I h => ?_⟩
  refine wpAny_Call_Name_kw (ld_blt I hg hm (by rfl) ?_ (by decide) (by decide))
  refine PyProof.Rows.callWith_kw (e := e) (rest := []) ?_ hst hpl hall hnone
  rw [hst]
  refine Calls.spliced_cons (thn (he.run pins s σ H _ I h) fun u s1 ⟨x, H1, I1, r1, q1⟩ => ?_)
  refine Calls.spliced_nil ?_
  obtain ⟨hT, l, xs, kf, rfl, hl, hne, turn, fin⟩ := q1
  obtain rfl : u = Value.ref l := r1
  show wpAny _ _ (evalAll [do let v ← eval (.Lambda params body scope lpos) X.env; standAt pos; pure v]) _ _ s1
  have hfree : ∀ y ∈ scope.names, y.2 = .free → ∃ c, X.env.cells.lookup y.1 = some c := fun y hy e => (hsc y hy e).elim (fun z => I1.ok.has _ (.inl z)) fun z => I1.ok.has _ (.inr z)
  refine wpAny_evalAll_cons (wpAny_bind (lam_make2 I1 TB hcode hmT hu hT hdef hfree fun f c' pm ctv H2 s2 I2 eN T2 hf hfn hfs hco => ?_))
  refine wpAny_bind (wpAny_standAt (wpAny_pure (wpAny_evalAll_nil ?_)))
  rw [hks]
  show wpAny _ _ (call (.builtin "max") [.ref l] [(Str.ofString "key", .ref f)]) _ _ s2
  have hl2 : SqL X.K H2 l xs := by
    rcases hl with (z | ⟨o, z⟩) | z
    · exact .inl (.inl (eN _ _ z fun ps q => by cases q))
    · exact .inl (.inr ⟨o, eN _ _ z fun ps q => by cases q⟩)
    · exact .inr z
  have pn : Inv X (pins ++ [(f, PySem.W.kla_obj "<lambda>" (X.env.qual ++ "<lambda>") params body scope (cloFrom X.env.cells scope.names []) pm c' ctv)]) σ H2 s2 := by
    refine I2.pins_of fun p hp => (List.mem_append.mp hp).elim (fun z => I2.pin p (List.mem_append_right _ z)) fun z => ?_
    rw [List.mem_singleton.mp z]
    refine ⟨hf, hfn, fun z => ?_, fun z => ?_, fun v z => by cases z⟩
    · obtain ⟨m, ⟨o, es, ep, ho, hd, _⟩, _⟩ := I2.loc
      have z : f = X.env.locals := z
      rw [← z, hf] at ho
      cases ho
      cases hd
    · refine hfs ?_
      rcases I2.ok.stk with e | ⟨e, he⟩
      · rw [e]; exact z
      · rw [e]
        unfold frs
        rw [List.filterMap_cons, he]
        exact List.mem_cons_of_mem _ z
  have cp : Caps X (cloFrom X.env.cells scope.names []) fr js := Caps.made I2.ok hsc hfr hjs
  refine max_run_key (H0 := H2) (ys := fun i => V.int (kf i)) (bt := fun i j => (fun i j => decide (i > j)) (kf i) (kf j)) pn (strict_gt kf) hc hl2 hne (fun i v u H3 s3 more hv rv e3 J3 => ?_) (fun i j u v H3 s3 more _ _ ru rv e3 J3 => ?_) fun i v u H3 s3 hv rv hb e3 J3 => ?_
  · have hf3 := (J3.pin _ (List.mem_append_right _ (List.mem_append_left _ (List.mem_append_right _ (List.mem_singleton.mpr rfl))))).1
    exact lam_run J3 hf3 (e3 _ _ hco) S (cells_of J3 cp) (hb _ _ _ _ _) hr (fun A outer s H hr => hbody f c' A outer s H hr) rv (turn H3 (eN.trans (ExtN.of e3)) (T2.ext e3) i v hv)
  · exact CmpOf.ints_gt (prog := X.prog) (w := X.w) (A := X.A.in1) (P := fun i v => ∃ t, v = .int (kf i) t) kf (fun i v h => h) i j _ _ _ _ _ ru rv ⟨rfl, J3⟩
  · exact ⟨v, H3, J3.unpinned, rv, fin i v H3 hv hb (eN.trans (ExtN.of e3)) (T2.ext e3)⟩

theorem pe_minLam {T : List (Addr × Str)} {N fr : List Str} {a : Str} {js : List Nat} {c P : Addr} {params : Arguments} {body e : Expr} {scope : Scope} {k : Nat} {ta tb : TE} {p lpos kpos pos : Pos} (hc : X.calm = true) (hr : Room (k + 2) X.A) (hg : Gl X "min") (hm : X.mg "min" = none)
    (he : PE X e ta) (TB : TabB X.base X.mg c P) (hcode : X.env.code = .ref c) (hmT : (P, X.env.qual ++ "<lambda>") ∈ T) (hu : ∀ p ∈ T, p.1 = P → p.2 = X.env.qual ++ "<lambda>") (hdef : defaultsOf params X.env = ([], []))
    (S : NScope N [a] fr scope) (hsc : ∀ y ∈ scope.names, y.2 = .free → X.env.scope.names.lookup y.1 = some .cell ∨ X.env.scope.names.lookup y.1 = some .free) (hfr : ∀ y ∈ fr, (y, NameKind.free) ∈ scope.names) (hjs : js.map (fun j => X.N[j]?) = fr.map some)
    (hb : ∀ (cl : List (Str × Addr)) (pm cv ctv u : Value), bindArgs (PySem.W.kla_fn "<lambda>" (X.env.qual ++ "<lambda>") params body scope cl pm cv ctv) ⟨[u], []⟩ = pure [(a, u)])
    (hbody : ∀ (f c' : Addr) (A : Around) (outer : List Env) (s : Shared) (H : Hp), Room k (A.deeper (envF (lnf (X.env.qual ++ "<lambda>") params scope (cloFrom X.env.cells scope.names []) c') f s.heap.objs.size)) →
      PE (ncx L2.CX0 X.prog X.w X.K X.mg X.base N (lnf (X.env.qual ++ "<lambda>") params scope (cloFrom X.env.cells scope.names []) c') f A outer s H L2.E0) body tb)
    (hst : backTo pos (starEach [e] X.env) = [(false, eval e X.env)] := by rfl) (hpl : (backTo pos (starEach [e] X.env)).any (·.1) = false := by rfl)
    (hall : (backToKw pos (keywordEach [⟨some "key", .Lambda params body scope lpos, kpos⟩] X.env)).all (·.1.isSome) = true := by rfl) (hnone : (backToKw pos (keywordEach [⟨some "key", .Lambda params body scope lpos, kpos⟩] X.env)).any (·.1.isNone) = false := by rfl)
    (hks : (backToKw pos (keywordEach [⟨some "key", .Lambda params body scope lpos, kpos⟩] X.env)).filterMap (·.1) = [Str.ofString "key"] := by rfl) :
    PE X (.Call (.Name "min" p) [e] [⟨some "key", .Lambda params body scope lpos, kpos⟩] pos) (tBest X.K T N js (fun i j => decide (i < j)) ta tb) := by
  refine ⟨fun pins s σ H Q I h => ?_⟩
  refine wpAny_Call_Name_kw (ld_blt I hg hm (by rfl) ?_ (by decide) (by decide))
  refine PyProof.Rows.callWith_kw (e := e) (rest := []) ?_ hst hpl hall hnone
  rw [hst]
  refine Calls.spliced_cons (thn (he.run pins s σ H _ I h) fun u s1 ⟨x, H1, I1, r1, q1⟩ => ?_)
  refine Calls.spliced_nil ?_
  obtain ⟨hT, l, xs, kf, rfl, hl, hne, turn, fin⟩ := q1
  obtain rfl : u = Value.ref l := r1
  show wpAny _ _ (evalAll [do let v ← eval (.Lambda params body scope lpos) X.env; standAt pos; pure v]) _ _ s1
  have hfree : ∀ y ∈ scope.names, y.2 = .free → ∃ c, X.env.cells.lookup y.1 = some c := fun y hy e => (hsc y hy e).elim (fun z => I1.ok.has _ (.inl z)) fun z => I1.ok.has _ (.inr z)
  refine wpAny_evalAll_cons (wpAny_bind (lam_make2 I1 TB hcode hmT hu hT hdef hfree fun f c' pm ctv H2 s2 I2 eN T2 hf hfn hfs hco => ?_))
  refine wpAny_bind (wpAny_standAt (wpAny_pure (wpAny_evalAll_nil ?_)))
  rw [hks]
  show wpAny _ _ (call (.builtin "min") [.ref l] [(Str.ofString "key", .ref f)]) _ _ s2
  have hl2 : SqL X.K H2 l xs := by
    rcases hl with (z | ⟨o, z⟩) | z
    · exact .inl (.inl (eN _ _ z fun ps q => by cases q))
    · exact .inl (.inr ⟨o, eN _ _ z fun ps q => by cases q⟩)
    · exact .inr z
  have pn : Inv X (pins ++ [(f, PySem.W.kla_obj "<lambda>" (X.env.qual ++ "<lambda>") params body scope (cloFrom X.env.cells scope.names []) pm c' ctv)]) σ H2 s2 := by
    refine I2.pins_of fun p hp => (List.mem_append.mp hp).elim (fun z => I2.pin p (List.mem_append_right _ z)) fun z => ?_
    rw [List.mem_singleton.mp z]
    refine ⟨hf, hfn, fun z => ?_, fun z => ?_, fun v z => by cases z⟩
    · obtain ⟨m, ⟨o, es, ep, ho, hd, _⟩, _⟩ := I2.loc
      have z : f = X.env.locals := z
      rw [← z, hf] at ho
      cases ho
      cases hd
    · refine hfs ?_
      rcases I2.ok.stk with e | ⟨e, he⟩
      · rw [e]; exact z
      · rw [e]
        unfold frs
        rw [List.filterMap_cons, he]
        exact List.mem_cons_of_mem _ z
  have cp : Caps X (cloFrom X.env.cells scope.names []) fr js := Caps.made I2.ok hsc hfr hjs
  refine min_run_key (H0 := H2) (ys := fun i => V.int (kf i)) (bt := fun i j => (fun i j => decide (i < j)) (kf i) (kf j)) pn (strict_lt kf) hc hl2 hne (fun i v u H3 s3 more hv rv e3 J3 => ?_) (fun i j u v H3 s3 more _ _ ru rv e3 J3 => ?_) fun i v u H3 s3 hv rv hb e3 J3 => ?_
  · have hf3 := (J3.pin _ (List.mem_append_right _ (List.mem_append_left _ (List.mem_append_right _ (List.mem_singleton.mpr rfl))))).1
    exact lam_run J3 hf3 (e3 _ _ hco) S (cells_of J3 cp) (hb _ _ _ _ _) hr (fun A outer s H hr => hbody f c' A outer s H hr) rv (turn H3 (eN.trans (ExtN.of e3)) (T2.ext e3) i v hv)
  · exact CmpOf.ints_lt (prog := X.prog) (w := X.w) (A := X.A.in1) (P := fun i v => ∃ t, v = .int (kf i) t) kf (fun i v h => h) i j _ _ _ _ _ ru rv ⟨rfl, J3⟩
  · exact ⟨v, H3, J3.unpinned, rv, fin i v H3 hv hb (eN.trans (ExtN.of e3)) (T2.ext e3)⟩
end
end Lam1
end

section
open PySem PySem.Spec PyProof.Rows L2
set_option Elab.async false
set_option linter.all false
set_option maxRecDepth 100000
set_option maxHeartbeats 4000000
namespace MinD
open MM
/-- min(l, default=None) of a list of tuples of whole numbers: the first of the least -/
def rMinD (K : PySem.W.Frag) : List V → List V → Hp → VK → Prop := fun vs zs H Q => ∃ (l : Addr) (xs : List V) (val : Nat → List Int), vs = [.ref l] ∧ zs = [.non] ∧ SqL K H l xs ∧ StrictO (fun i j => HT.lexLt (val i) (val j)) ∧
  (∀ i x, xs[i]? = some x → ∃ t, x = .ref t ∧ SqT K H t ((val i).map V.int)) ∧
  (xs = [] → ∀ H', Ext H H' → Q .non H') ∧ ∀ i x H', xs[i]? = some x → Best (fun i j => HT.lexLt (val i) (val j)) xs.length i → Ext H H' → Q x H'
theorem SqT.ext {K : PySem.W.Frag} {H H' : Hp} {a : Addr} {xs : List V} (e : Ext H H') (h : SqT K H a xs) : SqT K H' a xs := by
  rcases h with (h | ⟨o, h⟩) | h
  · exact .inl (.inl (e _ _ h))
  · exact .inl (.inr ⟨o, e _ _ h⟩)
  · exact .inr h
theorem cr_minD {X : Cx} (hc : X.calm = true) (hu : X.A.units + 64 < cLine) : CallRK X (.builtin "min") [Str.ofString "default"] (rMinD X.K) := by
  intro pins s σ H vs zs us ws Q I rv rz h
  obtain ⟨l, xs, val, rfl, rfl, hl, o, hv, h0, h1⟩ := h
  obtain rfl := Vals.ref1 rv
  obtain ⟨d, rfl, rd⟩ : ∃ d, ws = [d] ∧ RelV .non d := by
    cases rz with
    | cons a b =>
      cases b
      exact ⟨_, rfl, a⟩
  obtain rfl : d = Value.none := rd
  show wpAny _ _ (call (.builtin "min") [.ref l] [(Str.ofString "default", .none)]) _ _ s
  refine min_run_dflt (H0 := H) (ys := fun i => (xs[i]?).getD .non) (bt := fun i j => HT.lexLt (val i) (val j)) I o hc hl (fun i x hx => by simp [hx]) (fun i j u v H3 s3 more hi hj ru rv e3 J3 => ?_) (fun i x u H3 s3 hx ru hb e3 J3 => ⟨x, H3, J3, ru, h1 i x H3 hx hb e3⟩) fun H3 s3 hx e3 J3 => ⟨.non, H3, J3, rfl, h0 hx H3 e3⟩
  have ei : xs[i]? = some xs[i] := List.getElem?_eq_getElem hi
  have ej : xs[j]? = some xs[j] := List.getElem?_eq_getElem hj
  obtain ⟨t, ht, qt⟩ := hv i _ ei
  obtain ⟨t2, ht2, qt2⟩ := hv j _ ej
  simp only [ei, ej, Option.getD_some, ht, ht2] at ru rv
  obtain rfl : u = Value.ref t := ru
  obtain rfl : v = Value.ref t2 := rv
  obtain ⟨its, r1, p1, _⟩ := J3.tuple (SqT.ext e3 qt)
  obtain ⟨its2, r2, p2, _⟩ := J3.tuple (SqT.ext e3 qt2)
  have i1 : IntsAre its.toArray.toList (val i) := intsAre_of r1
  have i2 : IntsAre its2.toArray.toList (val j) := intsAre_of r2
  exact HT.lt_tupInts p1 p2 i1 i2 (by show X.A.units + 1 < cLine; omega) ⟨rfl, J3⟩
end MinD
end

section
open PySem PySem.Spec PyProof.Rows L2 LamX
set_option Elab.async false
set_option linter.all false
set_option maxRecDepth 100000
set_option maxHeartbeats 4000000
namespace SpecT
open MM
open PySem.W (WData Codec OpenSpec Well WellAll ReadsW ReadsAllW)
/-- the abstract heap of the arguments, and beside it the empty tables of code objects -/
def withTabs (cs : List (Addr × Addr)) (H : Hp) : Hp := fun b => if b ∈ cs.map (·.2) then some (.tbl #[]) else H b
theorem withTabs_in {cs : List (Addr × Addr)} {H : Hp} {p : Addr × Addr} (h : p ∈ cs) : withTabs cs H p.2 = some (.tbl #[]) := if_pos (List.mem_map.mpr ⟨p, h, rfl⟩)
theorem withTabs_out {cs : List (Addr × Addr)} {H : Hp} {b : Addr} (h : b ∉ cs.map (·.2)) : withTabs cs H b = H b := if_neg h
theorem call_tabs {P : Program} {w : World} {K : PySem.W.Frag} {mg mb : Str → Option Value} {CX : CXT} {k : Nat} {fa : Addr} {cs : List (Addr × Addr)} {fd : FuncData} {ps : List Str} {sp : Sp} {s₁ : Shared} {vals : List Value} {ds : List WData} {R : PySem.W.WRecords} {cl : Str → Option Addr} {d0 : WData}
    (KX : K.In s₁.heap) (hns : s₁.heap.Ns mainGlobals mg) (hb : s₁.heap.Ns builtinsNs mb) (hbb : ∀ x : Str, x ≠ "__name__" → mb x = bootBuiltins x) (hlim : s₁.heap.NoLimit) (hg : s₁.gens = #[])
    (hT : ∀ p ∈ cs, s₁.heap.get? p.2 = some { cls := .none, data := .fields #[] }) (nT : ∀ p ∈ cs, K.lookup p.2 = none) (C : ∀ p ∈ cs, PySem.W.CodeHd s₁.heap p.1 p.2)
    (hbm : ∃ (bm : Addr) (ob : Obj), mg "__builtins__" = some (.ref bm) ∧ bm ≠ builtinsNs ∧ s₁.heap.get? bm = some ob ∧ ob.cls = .type "module" ∧ ob.dict = some builtinsNs ∧ ob.data = .plain)
    (hwl : WellAll w.params s₁.heap vals ds) (hpl : plWs ds = true) (hwt : ∀ d ∈ ds, d.weight ≤ 1048576) (hr : Room k callerA)
    (F : ∀ base : Heap, K.In base → base.Ns mainGlobals mg → (∀ p ∈ cs, TabB base mg p.1 p.2) → FnOk P w K mg base CX k fa fd ps sp) (hbind : ∀ (s : Shared) (us : List Value), us.length = ps.length → BindsTo s fd ⟨us, []⟩ (ps.zip us)) (hlen : ds.length = ps.length)
    (hsp : ∀ (H0 H : Hp) (xs : List V), OnlyF H0 → Ext H0 H → (∀ p ∈ cs, H p.2 = some (.tbl #[])) → DwAll K H0 xs ds → sp xs H (fun v H' => Dw K H' v d0) fun _ _ _ => False)
    (hCX : ∀ H e s', CX [] H s₁ (fun _ _ _ => False) e s' → False) :
    codeAny (model P w) callerA (.call (.ref fa) ⟨vals, []⟩) (fun r s' => ∃ u as, r = .ok (.ret u) ∧ ReadsW R cl s'.heap u d0 as ∧ OldK s₁.heap s'.heap ∧ s'.os = s₁.os ∧ AllBare s'.gens) s₁ := by
  obtain ⟨A, ho, ar⟩ := area_all ds vals hwl hpl hwt
  have hO : OnlyF (argH K s₁.heap A) := argH_only ar
  have hok0 : HOk P w (argH K s₁.heap A) s₁.heap := argH_ok ar
  have hS := dw_all KX ar ds vals hwl hpl ho
  have hV := vals_toV ho
  have isT : ∀ b : Addr, b ∈ cs.map (·.2) → s₁.heap.get? b = some { cls := .none, data := .fields #[] } := fun b hb => by
    obtain ⟨p, hp, e⟩ := List.mem_map.mp hb
    rw [← e]
    exact hT p hp
  have argNT : ∀ b u, argH K s₁.heap A b = some u → b ∉ cs.map (·.2) := fun b u q z => by
    obtain ⟨_, vs, _, _, ⟨e2, _⟩ | ⟨e2, _⟩⟩ := argH_is ar q
    all_goals
      rw [isT b z] at e2
      have d' := congrArg Obj.data (Option.some.inj e2)
      cases d'
  have hE : Ext (argH K s₁.heap A) (withTabs cs (argH K s₁.heap A)) := fun b o e => by rw [withTabs_out (argNT b o e)]; exact e
  have hHT : ∀ p ∈ cs, withTabs cs (argH K s₁.heap A) p.2 = some (.tbl #[]) := fun p hp => withTabs_in hp
  have hOT : ∀ b, withTabs cs (argH K s₁.heap A) b = none ∨ b ∈ cs.map (·.2) ∨ ∃ ob u, withTabs cs (argH K s₁.heap A) b = some (.frz ob u) := fun b => by
    by_cases hb : b ∈ cs.map (·.2)
    · exact .inr (.inl hb)
    · rw [withTabs_out hb]
      rcases hO b with z | z
      · exact .inl z
      · exact .inr (.inr z)
  have hok : HOk P w (withTabs cs (argH K s₁.heap A)) s₁.heap := fun b u e => by
    by_cases hb : b ∈ cs.map (·.2)
    · have e2 : withTabs cs (argH K s₁.heap A) b = some (.tbl #[]) := if_pos hb
      rw [e] at e2
      cases e2
      exact isT b hb
    · rw [withTabs_out hb] at e
      refine (hok0 b u e).stay (fun _ _ _ q => q) (fun c q => ?_) fun c xs q => ?_
      · exact hE c _ q
      · exact hE c _ q
  have hK : ∀ b u, withTabs cs (argH K s₁.heap A) b = some u → K.lookup b = none := fun b u q => by
    by_cases hb : b ∈ cs.map (·.2)
    · obtain ⟨p, hp, e⟩ := List.mem_map.mp hb
      rw [← e]
      exact nT p hp
    · rw [withTabs_out hb] at q
      exact (argH_is ar q).1
  -- an object that is no list, no tuple and no empty table is not tracked
  have noD : ∀ {b : Addr} {o : Obj}, s₁.heap.get? b = some o → (∀ vs n, o.data ≠ .seq vs n) → o.data ≠ .fields #[] → withTabs cs (argH K s₁.heap A) b = none := fun {b o} e h1 h2 => by
    have hb : b ∉ cs.map (·.2) := fun z => by
      rw [isT b z] at e
      cases e
      exact h2 rfl
    rw [withTabs_out hb]
    cases q : argH K s₁.heap A b with
    | none => rfl
    | some u =>
      obtain ⟨_, vs, _, _, ⟨e2, _⟩ | ⟨e2, _⟩⟩ := argH_is ar q
      all_goals
        rw [e2] at e
        cases e
        exact (h1 _ _ rfl).elim
  generalize withTabs cs (argH K s₁.heap A) = H at hE hHT hOT hok hK noD
  have base_of : ∀ {b : Addr} {o : Obj}, s₁.heap.get? b = some o → H b = none → (hidT s₁.heap H).get? b = some o := fun e n => hidT_get e n
  have noA : ∀ {b : Addr} {o : Obj} {es : Array DictEntry} {ep : Nat}, s₁.heap.get? b = some o → o.data = .dict es ep → H b = none := fun {b o es ep} e d =>
    noD e (fun vs n z => by rw [d] at z; cases z) fun z => by rw [d] at z; cases z
  have nsK : ∀ {b : Addr} {m : Str → Option Value}, s₁.heap.Ns b m → (hidT s₁.heap H).Ns b m := fun {b m} ⟨o, es, ep, e, d, r⟩ => ⟨o, es, ep, base_of e (noA e d), d, r⟩
  have nK : ∀ b o, K.lookup b = some o → H b = none := fun b o e => by
    cases q : H b with
    | none => rfl
    | some u =>
      rw [hK b u q] at e
      cases e
  have hKb : K.In (hidT s₁.heap H) := fun b o e => base_of (KX b o e) (nK b o e)
  have hM : L2.Mod K mg (hidT s₁.heap H) := ⟨hKb, nsK hns, ⟨mb, nsK hb, hbb⟩, let ⟨mc, h1, h2⟩ := hlim; ⟨mc, nsK h1, h2⟩⟩
  have TB : ∀ p ∈ cs, TabB (hidT s₁.heap H) mg p.1 p.2 := fun p hp => by
    have hTp := hT p hp
    refine ⟨?_, ?_, fun z => ?_⟩
    · obtain ⟨o, us, file, tf, flags, tg, inF, text, tt, e1, r1, r2, r3, r4, r5, r6, r7, r8, hne⟩ := C p hp
      refine ⟨o, us, file, tf, flags, tg, inF, text, tt, base_of e1 (noD e1 (fun vs n z => ?_) fun z => ?_), r1, r2, r3, r4, r5, r6, r7, r8, hne⟩
      · rw [r2] at z
        cases z
      · rw [r2] at z
        cases z
        simp at r3
    · obtain ⟨bm, ob, b1, b2, b3, b4, b5, b6⟩ := hbm
      have nG : bm ≠ mainGlobals := fun q => by
        obtain ⟨o, es, ep, e, hd, _⟩ := hns
        rw [q, e] at b3
        cases b3
        rw [hd] at b6
        cases b6
      have nP : bm ≠ p.2 := fun q => by
        rw [q, hTp] at b3
        cases b3
        cases b6
      refine ⟨bm, ob, b1, b2, nG, nP, base_of b3 (noD b3 (fun vs n z => ?_) fun z => ?_), b4, b5, b6⟩
      · rw [b6] at z
        cases z
      · rw [b6] at z
        cases z
    · obtain ⟨o, es, ep, e, hd, _⟩ := hns
      rw [z, hTp] at e
      cases e
      cases hd
  have e0 : Env0 P w K mg (hidT s₁.heap H) callerA [] s₁ H := ⟨rfl, hM, fun b o e => of_hidT e, Nat.le_of_eq (hidT_size _ _), trivial, fun b hb => absurd (show b ∈ ([] : List Addr) from hb) (by simp), hok, .of_eq hg⟩
  have hl : vals.length = ps.length := by rw [wellAll_len hwl]; exact hlen
  refine codeAny_mono ((F _ hKb (nsK hns) TB).run callerA [] s₁ H ⟨vals, []⟩ vals (vals.map toV) _ _ hr e0 (hbind s₁ vals hl) hV (hsp _ H _ hO hE hHT hS)) fun r s' x => ?_
  cases r with
  | error e => exact (hCX H e s' x).elim
  | ok fl =>
    cases fl with
    | next => exact False.elim x
    | brk => exact False.elim x
    | cont => exact False.elim x
    | ret u =>
      obtain ⟨v, H', os, bare, un, hok', r', q⟩ := x
      have kept : ∀ b o, b ∉ cs.map (·.2) → s₁.heap.get? b = some o → s'.heap.get? b = some o := fun b o nb e => by
        cases q2 : H b with
        | none => exact un.keep b o e q2 (by intro z; exact absurd (show b ∈ ([] : List Addr) from z) (by simp)) (by simp)
        | some u2 =>
          rcases hOT b with z | z | ⟨ob, u3, z⟩
          · rw [q2] at z
            cases z
          · exact absurd z nb
          · have z2 := un.frzs b ob _ z
            obtain ⟨e1, _⟩ := hok b _ z
            obtain ⟨e2, _⟩ := hok' b _ z2
            rw [e] at e1
            cases e1
            exact e2
      have grown : ∀ p ∈ cs, ∃ more : Array Value, s'.heap.get? p.2 = some { cls := .none, data := .fields more } := fun p hp => by
        obtain ⟨more, z⟩ := un.tbls p.2 #[] (hHT p hp)
        exact ⟨_, hok' p.2 _ z⟩
      have KX' : K.In s'.heap := fun b o e => kept b o (fun z => by
        obtain ⟨p, hp, ep⟩ := List.mem_map.mp z
        have n := nT p hp
        rw [ep, e] at n
        cases n) (KX b o e)
      obtain ⟨as, hrd⟩ := Dw.reads (R := R) (cl := cl) hok' KX' d0 v u q r'
      refine ⟨u, as, rfl, hrd, ⟨fun b o e => ?_, fun b o e => ?_⟩, os, bare⟩
      · by_cases hb : b ∈ cs.map (·.2)
        · obtain ⟨p, hp, ep⟩ := List.mem_map.mp hb
          obtain ⟨more, hm⟩ := grown p hp
          rw [← ep] at e ⊢
          rw [hT p hp] at e
          cases e
          exact .inr (.inl ⟨((C p hp).tab (hT p hp)).isCodeTable, rfl, #[], more, rfl, by rw [Array.empty_append]; exact hm⟩)
        · exact .inl (kept b o hb e)
      · by_cases hb : b ∈ cs.map (·.2)
        · obtain ⟨p, hp, ep⟩ := List.mem_map.mp hb
          obtain ⟨more, hm⟩ := grown p hp
          rw [← ep]
          exact ⟨_, hm⟩
        · exact ⟨o, kept b o hb e⟩
/-- the row's walk, from the promise of the row's def, which may make lambdas: cs, their makers' code objects and tables -/
theorem walk_tabs {r : OpenSpec} {k : Nat} {q : Program} {loose : List Str} {XP : (Str → Option Value) → Heap → Prop} {YP : World → Heap → Prop} {d : DefRec} {K : Params → PySem.W.Frag} {CX : CXT} {ps : List Str} {cs : List (Addr × Addr)} {sp : PySem.W.Frag → Sp}
    (hwell : r.wellSaid = true) (hdf : d.params.defaults = []) (hlen : r.args.length = ps.length) (hr : Room k callerA)
    (hY : ∀ (w : World) (h : Heap), YP w h → (K w.params).In h)
    (hT : ∀ (w : World) (h : Heap), YP w h → ∀ p ∈ cs, h.get? p.2 = some { cls := .none, data := .fields #[] }) (nT : ∀ (w : World), ∀ p ∈ cs, (K w.params).lookup p.2 = none) (C : ∀ (w : World) (h : Heap), YP w h → ∀ p ∈ cs, PySem.W.CodeHd h p.1 p.2)
    (F : ∀ (w : World) (mg : Str → Option Value) (fa : Addr) (h : Heap), YP w h → (K w.params).In h → h.Ns mainGlobals mg → mg d.name = some (.ref fa) →
      ∃ fd : FuncData, (∀ (s : Shared) (us : List Value), us.length = ps.length → BindsTo s fd ⟨us, []⟩ (ps.zip us)) ∧
        ∀ base : Heap, (K w.params).In base → base.Ns mainGlobals mg → (∀ p ∈ cs, TabB base mg p.1 p.2) → FnOk r.prog w (K w.params) mg base CX k fa fd ps (sp (K w.params)))
    (hsp : ∀ (K : PySem.W.Frag) (H0 H : Hp) (xs : List V) (a : Codec.denoteAll r.args), OnlyF H0 → Ext H0 H → (∀ p ∈ cs, H p.2 = some (.tbl #[])) → Codec.withinAll r.args a = true → Codec.app r.args r.asked a = true → DwAll K H0 xs (Codec.encAll r.args a) →
      sp K xs H (fun v H' => Dw K H' v (r.ret.enc (Codec.app r.args r.f a))) fun _ _ _ => False)
    (hCX : ∀ (H : Hp) (s : Shared) (e : Value) (s' : Shared), CX [] H s (fun _ _ _ => False) e s' → False) :
    PySem.W.WalkOS q loose XP YP r d [] (fun f vs => PySem.call f vs) := by
  intro w s₀ s₁ mg mb G Y fa o pm cd doc dV kV ho hd hcd hD hmg hg args vals as hpre hlay hrd hwl hlo
  obtain ⟨a, e1, e2⟩ := PySem.W.os_pre_some hpre
  obtain ⟨e3, hwi⟩ := Codec.encAll_of_decAll r.args args a e1
  subst e3
  have KX := hY w _ Y
  obtain ⟨fd, hb, hF⟩ := F w mg fa _ Y KX G.T.g hmg
  refine PySem.W.enter_call (codeAny_mono (call_tabs (R := []) (cl := classAt s₀.heap) (d0 := r.ret.enc (Codec.app r.args r.f a)) KX G.T.g G.T.b G.T.builtins G.T.nolimit hg (hT w _ Y) (nT w) (C w _ Y) G.T.bmain hwl (pl_encAll _ _) (layable_weight hlay) hr hF hb (by rw [encAll_len]; exact hlen)
    (fun H0 H xs hO hE hHT hS => hsp (K w.params) H0 H xs a hO hE hHT hwi e2 hS) fun H e s' => hCX H s₁ e s') fun r' s' hq => ?_)
  obtain ⟨u, as', rfl, h1, h2, h3, h4⟩ := hq
  exact ⟨.inl ⟨u, _, as', rfl, fun _ => rfl, h1, (OpenSpec.post_iff hwell hwi _ _).mpr rfl, fun z => Bool.noConfusion (show false = true from z)⟩, h2, h3, h4⟩
end SpecT
end

section
open PySem PySem.Spec PyProof.Rows L2 LamX
set_option Elab.async false
set_option linter.all false
set_option maxRecDepth 100000
set_option maxHeartbeats 4000000
namespace HookL
open He
/-- the facts of the written part at the addresses as -/
def obsL (as : List Addr) (fa : List Fa) (fn : List DefD) (tf : List Defn) (ex : PySem.W.Frag → Bool) (g : Addr → Option Obj) : AlX := (obsT fa fn [] (frT g as), ex (frT g as) && tabsB g tf (frT g as))
theorem says_of {as : List Addr} {fa : List Fa} {fn : List DefD} {tf : List Defn} {ex : PySem.W.Frag → Bool} {w : World} {h : Heap} (e : obsL as fa fn tf ex h.get? = valX fn [] w) : SaysX fa fn [] tf ex w h (frT h.get? as) := by
  have e1 : obsT fa fn [] (frT h.get? as) = valT fn [] w := congrArg (fun z : AlX => z.1) e
  have e2 : (ex (frT h.get? as) && tabsB h.get? tf (frT h.get? as)) = true := congrArg (fun z : AlX => z.2) e
  obtain ⟨h1, h2⟩ := ba e2
  have key : ∀ p ∈ tf, PySem.W.codeHdIn (frT h.get? as) (cT (frT h.get? as) p).1 (cT (frT h.get? as) p).2 = true ∧ ∃ o, h.get? (cT (frT h.get? as) p).2 = some o ∧ emptyTab o = true := fun p hp => by
    obtain ⟨h3, h4⟩ := ba (List.all_eq_true.mp h2 p hp)
    refine ⟨h3, ?_⟩
    cases q : h.get? (cT (frT h.get? as) p).2 with
    | none => rw [q] at h4; cases h4
    | some o => rw [q] at h4; exact ⟨o, rfl, h4⟩
  exact ⟨e1, h1, fun p hp => (key p hp).1, fun p hp => by
    obtain ⟨_, o, q, z⟩ := key p hp
    exact frT_none q z, fun p hp => by
    obtain ⟨_, o, q, z⟩ := key p hp
    rw [q, emptyTab_eq z]⟩
def hookL (as : List Addr) (fa : List Fa) (fn : List DefD) (tf : List Defn) (ex : PySem.W.Frag → Bool) : PySem.W.Hook where
  α := AlX
  obs := fun s => obsL as fa fn tf ex s.heap.get?
  val := fun w => valX fn [] w
  says := fun w h => ∃ K : PySem.W.Frag, K.In h ∧ SaysX fa fn [] tf ex w h K
  of := fun _ _ e => ⟨_, frT_in, says_of e⟩
  keeps := fun _ _ _ ⟨K, hK, c⟩ k => ⟨K, PySem.W.Frag.In.keeps hK k, ⟨c.t, c.more, c.hd, c.out, fun p hp => k _ _ (c.empty p hp)⟩⟩
theorem obsL_eq {as : List Addr} {fa : List Fa} {fn : List DefD} {tf : List Defn} {ex : PySem.W.Frag → Bool} {g : Addr → Option Obj} {s : Shared} (h : ∀ a, g a = s.heap.get? a) : obsL as fa fn tf ex g = (hookL as fa fn tf ex).obs s := by
  have e : g = s.heap.get? := funext h
  rw [e] <;> rfl
end HookL
end

section
set_option Elab.async false
set_option linter.all false
set_option maxRecDepth 100000
set_option maxHeartbeats 4000000
namespace HC
open PySem PySem.Spec PyProof.Rows L2

/-- the i-th statement of the top -/
def top (i : Nat) : Stmt := PySem.Challenge.pw_hedgedcalls_s01_answers.main.body.getD i (.Pass ⟨0, 0, 0, 0⟩)
abbrev s_within : Stmt := top 7
abbrev s_is_status : Stmt := top 8
abbrev s_parameters_allowed : Stmt := top 13
abbrev s_backoff_bound : Stmt := top 14
abbrev s_most_tokens : Stmt := top 15
abbrev s_active_backends : Stmt := top 24
abbrev s_running_among : Stmt := top 25
abbrev s_is_ejected : Stmt := top 30
abbrev s_is_available : Stmt := top 31
abbrev s_available_backends : Stmt := top 32
abbrev s_candidates : Stmt := top 33
abbrev s_pick : Stmt := top 34
abbrev s_note_choice : Stmt := top 35
abbrev s_key_hash : Stmt := top 36
abbrev s_mixed : Stmt := top 37
abbrev s_note_failure : Stmt := top 38
abbrev s_room_for_ejection : Stmt := top 39
abbrev s_eject : Stmt := top 40
abbrev s_budget_allows : Stmt := top 43
abbrev s_start_attempt : Stmt := top 44
abbrev s_hedge_time : Stmt := top 45
abbrev s_end_call : Stmt := top 46
abbrev s_stop_attempt : Stmt := top 47
abbrev s_end_attempt : Stmt := top 48
abbrev s_follow_failure : Stmt := top 49
abbrev s_may_repeat : Stmt := top 50
abbrev s_retry_later : Stmt := top 51
abbrev s_retry_delay : Stmt := top 52
abbrev s_no_client : Stmt := top 54
abbrev s_missing : Stmt := top 55
abbrev s_outside_limits : Stmt := top 56
abbrev s_not_running : Stmt := top 57
abbrev s_too_many : Stmt := top 58
abbrev s_nothing_there : Stmt := top 59
abbrev s_timers_of : Stmt := top 64
abbrev s_earliest_timer : Stmt := top 65
abbrev s_fire : Stmt := top 66
abbrev s_fire_until : Stmt := top 67
abbrev s_final_status : Stmt := top 74
abbrev s_is_active : Stmt := top 75
abbrev s_is_weight : Stmt := top 76
abbrev s_add_backend : Stmt := top 77
abbrev s_remove_backend : Stmt := top 78
abbrev s_set_weight : Stmt := top 79
abbrev s_start_call : Stmt := top 80
abbrev s_complete : Stmt := top 81
abbrev s_cancel : Stmt := top 82
abbrev s_advance : Stmt := top 83
abbrev s_run : Stmt := top 84
abbrev s_run_step : Stmt := top 85
abbrev s_time_told : Stmt := top 89
abbrev s_truth_told : Stmt := top 90
abbrev s_numbers_told : Stmt := top 91
abbrev s_tell_next_timer : Stmt := top 92
abbrev s_tell_call : Stmt := top 93
abbrev s_tell_attempt : Stmt := top 94
abbrev s_tell_call_attempts : Stmt := top 95
abbrev s_tell_backend : Stmt := top 96
abbrev s_tell_running_attempts : Stmt := top 97
abbrev s_tell_preview : Stmt := top 98
abbrev s_tell_ranking : Stmt := top 99
abbrev s_tell_hash : Stmt := top 100
abbrev s_tell_available_backends : Stmt := top 101
abbrev s_tell_backoff_bound : Stmt := top 102
abbrev s_tell_budget : Stmt := top 103
abbrev s_tell_totals : Stmt := top 104
abbrev s_tell_status : Stmt := top 105
abbrev s_answers : Stmt := top 109
abbrev s_answer_call : Stmt := top 110
abbrev s_answer_create : Stmt := top 111
abbrev s_answer_add_backend : Stmt := top 112
abbrev s_answer_remove_backend : Stmt := top 113
abbrev s_answer_set_weight : Stmt := top 114
abbrev s_answer_start_call : Stmt := top 115
abbrev s_answer_complete : Stmt := top 116
abbrev s_answer_cancel : Stmt := top 117
abbrev s_answer_advance : Stmt := top 118
abbrev s_answer_next_timer : Stmt := top 119
abbrev s_answer_run : Stmt := top 120
abbrev s_answer_call_info : Stmt := top 121
abbrev s_answer_attempt_info : Stmt := top 122
abbrev s_answer_call_attempts : Stmt := top 123
abbrev s_answer_backend_info : Stmt := top 124
abbrev s_answer_running_attempts : Stmt := top 125
abbrev s_answer_preview_choice : Stmt := top 126
abbrev s_answer_ranking : Stmt := top 127
abbrev s_answer_hash : Stmt := top 128
abbrev s_answer_available_backends : Stmt := top 129
abbrev s_answer_backoff_bound : Stmt := top 130
abbrev s_answer_budget : Stmt := top 131
abbrev s_answer_totals : Stmt := top 132
abbrev s_answer_status : Stmt := top 133
abbrev s_Policy_init : Stmt := inClass (top 12) 0
abbrev s_Backend_init : Stmt := inClass (top 20) 0
abbrev s_Call_init : Stmt := inClass (top 21) 0
abbrev s_Attempt_init : Stmt := inClass (top 22) 0
abbrev s_Client_init : Stmt := inClass (top 23) 0
abbrev s_Session_init : Stmt := inClass (top 108) 0
def dfs : List He.DefD := [
  ⟨("within", none), "within", "within", defArgs s_within, defBody s_within, defScope s_within, [], []⟩,
  ⟨("is_status", none), "is_status", "is_status", defArgs s_is_status, defBody s_is_status, defScope s_is_status, [], []⟩,
  ⟨("parameters_allowed", none), "parameters_allowed", "parameters_allowed", defArgs s_parameters_allowed, defBody s_parameters_allowed, defScope s_parameters_allowed, [], []⟩,
  ⟨("backoff_bound", none), "backoff_bound", "backoff_bound", defArgs s_backoff_bound, defBody s_backoff_bound, defScope s_backoff_bound, [], []⟩,
  ⟨("most_tokens", none), "most_tokens", "most_tokens", defArgs s_most_tokens, defBody s_most_tokens, defScope s_most_tokens, [], []⟩,
  ⟨("active_backends", none), "active_backends", "active_backends", defArgs s_active_backends, defBody s_active_backends, defScope s_active_backends, [], []⟩,
  ⟨("running_among", none), "running_among", "running_among", defArgs s_running_among, defBody s_running_among, defScope s_running_among, [], []⟩,
  ⟨("is_ejected", none), "is_ejected", "is_ejected", defArgs s_is_ejected, defBody s_is_ejected, defScope s_is_ejected, [], []⟩,
  ⟨("is_available", none), "is_available", "is_available", defArgs s_is_available, defBody s_is_available, defScope s_is_available, [], []⟩,
  ⟨("available_backends", none), "available_backends", "available_backends", defArgs s_available_backends, defBody s_available_backends, defScope s_available_backends, [], []⟩,
  ⟨("candidates", none), "candidates", "candidates", defArgs s_candidates, defBody s_candidates, defScope s_candidates, [], []⟩,
  ⟨("pick", none), "pick", "pick", defArgs s_pick, defBody s_pick, defScope s_pick, [], []⟩,
  ⟨("note_choice", none), "note_choice", "note_choice", defArgs s_note_choice, defBody s_note_choice, defScope s_note_choice, [], []⟩,
  ⟨("key_hash", none), "key_hash", "key_hash", defArgs s_key_hash, defBody s_key_hash, defScope s_key_hash, [], []⟩,
  ⟨("mixed", none), "mixed", "mixed", defArgs s_mixed, defBody s_mixed, defScope s_mixed, [], []⟩,
  ⟨("note_failure", none), "note_failure", "note_failure", defArgs s_note_failure, defBody s_note_failure, defScope s_note_failure, [], []⟩,
  ⟨("room_for_ejection", none), "room_for_ejection", "room_for_ejection", defArgs s_room_for_ejection, defBody s_room_for_ejection, defScope s_room_for_ejection, [], []⟩,
  ⟨("eject", none), "eject", "eject", defArgs s_eject, defBody s_eject, defScope s_eject, [], []⟩,
  ⟨("budget_allows", none), "budget_allows", "budget_allows", defArgs s_budget_allows, defBody s_budget_allows, defScope s_budget_allows, [], []⟩,
  ⟨("start_attempt", none), "start_attempt", "start_attempt", defArgs s_start_attempt, defBody s_start_attempt, defScope s_start_attempt, [], []⟩,
  ⟨("hedge_time", none), "hedge_time", "hedge_time", defArgs s_hedge_time, defBody s_hedge_time, defScope s_hedge_time, [], []⟩,
  ⟨("end_call", none), "end_call", "end_call", defArgs s_end_call, defBody s_end_call, defScope s_end_call, [], []⟩,
  ⟨("stop_attempt", none), "stop_attempt", "stop_attempt", defArgs s_stop_attempt, defBody s_stop_attempt, defScope s_stop_attempt, [], []⟩,
  ⟨("end_attempt", none), "end_attempt", "end_attempt", defArgs s_end_attempt, defBody s_end_attempt, defScope s_end_attempt, [], []⟩,
  ⟨("follow_failure", none), "follow_failure", "follow_failure", defArgs s_follow_failure, defBody s_follow_failure, defScope s_follow_failure, [], []⟩,
  ⟨("may_repeat", none), "may_repeat", "may_repeat", defArgs s_may_repeat, defBody s_may_repeat, defScope s_may_repeat, [], []⟩,
  ⟨("retry_later", none), "retry_later", "retry_later", defArgs s_retry_later, defBody s_retry_later, defScope s_retry_later, [], []⟩,
  ⟨("retry_delay", none), "retry_delay", "retry_delay", defArgs s_retry_delay, defBody s_retry_delay, defScope s_retry_delay, [], []⟩,
  ⟨("no_client", none), "no_client", "no_client", defArgs s_no_client, defBody s_no_client, defScope s_no_client, [], []⟩,
  ⟨("missing", none), "missing", "missing", defArgs s_missing, defBody s_missing, defScope s_missing, [], []⟩,
  ⟨("outside_limits", none), "outside_limits", "outside_limits", defArgs s_outside_limits, defBody s_outside_limits, defScope s_outside_limits, [], []⟩,
  ⟨("not_running", none), "not_running", "not_running", defArgs s_not_running, defBody s_not_running, defScope s_not_running, [], []⟩,
  ⟨("too_many", none), "too_many", "too_many", defArgs s_too_many, defBody s_too_many, defScope s_too_many, [], []⟩,
  ⟨("nothing_there", none), "nothing_there", "nothing_there", defArgs s_nothing_there, defBody s_nothing_there, defScope s_nothing_there, [], []⟩,
  ⟨("timers_of", none), "timers_of", "timers_of", defArgs s_timers_of, defBody s_timers_of, defScope s_timers_of, [], []⟩,
  ⟨("earliest_timer", none), "earliest_timer", "earliest_timer", defArgs s_earliest_timer, defBody s_earliest_timer, defScope s_earliest_timer, [], []⟩,
  ⟨("fire", none), "fire", "fire", defArgs s_fire, defBody s_fire, defScope s_fire, [], []⟩,
  ⟨("fire_until", none), "fire_until", "fire_until", defArgs s_fire_until, defBody s_fire_until, defScope s_fire_until, [], []⟩,
  ⟨("final_status", none), "final_status", "final_status", defArgs s_final_status, defBody s_final_status, defScope s_final_status, [], []⟩,
  ⟨("is_active", none), "is_active", "is_active", defArgs s_is_active, defBody s_is_active, defScope s_is_active, [], []⟩,
  ⟨("is_weight", none), "is_weight", "is_weight", defArgs s_is_weight, defBody s_is_weight, defScope s_is_weight, [], []⟩,
  ⟨("add_backend", none), "add_backend", "add_backend", defArgs s_add_backend, defBody s_add_backend, defScope s_add_backend, [], []⟩,
  ⟨("remove_backend", none), "remove_backend", "remove_backend", defArgs s_remove_backend, defBody s_remove_backend, defScope s_remove_backend, [], []⟩,
  ⟨("set_weight", none), "set_weight", "set_weight", defArgs s_set_weight, defBody s_set_weight, defScope s_set_weight, [], []⟩,
  ⟨("start_call", none), "start_call", "start_call", defArgs s_start_call, defBody s_start_call, defScope s_start_call, [], []⟩,
  ⟨("complete", none), "complete", "complete", defArgs s_complete, defBody s_complete, defScope s_complete, [], []⟩,
  ⟨("cancel", none), "cancel", "cancel", defArgs s_cancel, defBody s_cancel, defScope s_cancel, [], []⟩,
  ⟨("advance", none), "advance", "advance", defArgs s_advance, defBody s_advance, defScope s_advance, [], []⟩,
  ⟨("run", none), "run", "run", defArgs s_run, defBody s_run, defScope s_run, [], []⟩,
  ⟨("run_step", none), "run_step", "run_step", defArgs s_run_step, defBody s_run_step, defScope s_run_step, [], []⟩,
  ⟨("time_told", none), "time_told", "time_told", defArgs s_time_told, defBody s_time_told, defScope s_time_told, [], []⟩,
  ⟨("truth_told", none), "truth_told", "truth_told", defArgs s_truth_told, defBody s_truth_told, defScope s_truth_told, [], []⟩,
  ⟨("numbers_told", none), "numbers_told", "numbers_told", defArgs s_numbers_told, defBody s_numbers_told, defScope s_numbers_told, [], []⟩,
  ⟨("tell_next_timer", none), "tell_next_timer", "tell_next_timer", defArgs s_tell_next_timer, defBody s_tell_next_timer, defScope s_tell_next_timer, [], []⟩,
  ⟨("tell_call", none), "tell_call", "tell_call", defArgs s_tell_call, defBody s_tell_call, defScope s_tell_call, [], []⟩,
  ⟨("tell_attempt", none), "tell_attempt", "tell_attempt", defArgs s_tell_attempt, defBody s_tell_attempt, defScope s_tell_attempt, [], []⟩,
  ⟨("tell_call_attempts", none), "tell_call_attempts", "tell_call_attempts", defArgs s_tell_call_attempts, defBody s_tell_call_attempts, defScope s_tell_call_attempts, [], []⟩,
  ⟨("tell_backend", none), "tell_backend", "tell_backend", defArgs s_tell_backend, defBody s_tell_backend, defScope s_tell_backend, [], []⟩,
  ⟨("tell_running_attempts", none), "tell_running_attempts", "tell_running_attempts", defArgs s_tell_running_attempts, defBody s_tell_running_attempts, defScope s_tell_running_attempts, [], []⟩,
  ⟨("tell_preview", none), "tell_preview", "tell_preview", defArgs s_tell_preview, defBody s_tell_preview, defScope s_tell_preview, [], []⟩,
  ⟨("tell_ranking", none), "tell_ranking", "tell_ranking", defArgs s_tell_ranking, defBody s_tell_ranking, defScope s_tell_ranking, [], []⟩,
  ⟨("tell_hash", none), "tell_hash", "tell_hash", defArgs s_tell_hash, defBody s_tell_hash, defScope s_tell_hash, [], []⟩,
  ⟨("tell_available_backends", none), "tell_available_backends", "tell_available_backends", defArgs s_tell_available_backends, defBody s_tell_available_backends, defScope s_tell_available_backends, [], []⟩,
  ⟨("tell_backoff_bound", none), "tell_backoff_bound", "tell_backoff_bound", defArgs s_tell_backoff_bound, defBody s_tell_backoff_bound, defScope s_tell_backoff_bound, [], []⟩,
  ⟨("tell_budget", none), "tell_budget", "tell_budget", defArgs s_tell_budget, defBody s_tell_budget, defScope s_tell_budget, [], []⟩,
  ⟨("tell_totals", none), "tell_totals", "tell_totals", defArgs s_tell_totals, defBody s_tell_totals, defScope s_tell_totals, [], []⟩,
  ⟨("tell_status", none), "tell_status", "tell_status", defArgs s_tell_status, defBody s_tell_status, defScope s_tell_status, [], []⟩,
  ⟨("answers", none), "answers", "answers", defArgs s_answers, defBody s_answers, defScope s_answers, [], []⟩,
  ⟨("answer_call", none), "answer_call", "answer_call", defArgs s_answer_call, defBody s_answer_call, defScope s_answer_call, [], []⟩,
  ⟨("answer_create", none), "answer_create", "answer_create", defArgs s_answer_create, defBody s_answer_create, defScope s_answer_create, [], []⟩,
  ⟨("answer_add_backend", none), "answer_add_backend", "answer_add_backend", defArgs s_answer_add_backend, defBody s_answer_add_backend, defScope s_answer_add_backend, [], []⟩,
  ⟨("answer_remove_backend", none), "answer_remove_backend", "answer_remove_backend", defArgs s_answer_remove_backend, defBody s_answer_remove_backend, defScope s_answer_remove_backend, [], []⟩,
  ⟨("answer_set_weight", none), "answer_set_weight", "answer_set_weight", defArgs s_answer_set_weight, defBody s_answer_set_weight, defScope s_answer_set_weight, [], []⟩,
  ⟨("answer_start_call", none), "answer_start_call", "answer_start_call", defArgs s_answer_start_call, defBody s_answer_start_call, defScope s_answer_start_call, [], []⟩,
  ⟨("answer_complete", none), "answer_complete", "answer_complete", defArgs s_answer_complete, defBody s_answer_complete, defScope s_answer_complete, [], []⟩,
  ⟨("answer_cancel", none), "answer_cancel", "answer_cancel", defArgs s_answer_cancel, defBody s_answer_cancel, defScope s_answer_cancel, [], []⟩,
  ⟨("answer_advance", none), "answer_advance", "answer_advance", defArgs s_answer_advance, defBody s_answer_advance, defScope s_answer_advance, [], []⟩,
  ⟨("answer_next_timer", none), "answer_next_timer", "answer_next_timer", defArgs s_answer_next_timer, defBody s_answer_next_timer, defScope s_answer_next_timer, [], []⟩,
  ⟨("answer_run", none), "answer_run", "answer_run", defArgs s_answer_run, defBody s_answer_run, defScope s_answer_run, [], []⟩,
  ⟨("answer_call_info", none), "answer_call_info", "answer_call_info", defArgs s_answer_call_info, defBody s_answer_call_info, defScope s_answer_call_info, [], []⟩,
  ⟨("answer_attempt_info", none), "answer_attempt_info", "answer_attempt_info", defArgs s_answer_attempt_info, defBody s_answer_attempt_info, defScope s_answer_attempt_info, [], []⟩,
  ⟨("answer_call_attempts", none), "answer_call_attempts", "answer_call_attempts", defArgs s_answer_call_attempts, defBody s_answer_call_attempts, defScope s_answer_call_attempts, [], []⟩,
  ⟨("answer_backend_info", none), "answer_backend_info", "answer_backend_info", defArgs s_answer_backend_info, defBody s_answer_backend_info, defScope s_answer_backend_info, [], []⟩,
  ⟨("answer_running_attempts", none), "answer_running_attempts", "answer_running_attempts", defArgs s_answer_running_attempts, defBody s_answer_running_attempts, defScope s_answer_running_attempts, [], []⟩,
  ⟨("answer_preview_choice", none), "answer_preview_choice", "answer_preview_choice", defArgs s_answer_preview_choice, defBody s_answer_preview_choice, defScope s_answer_preview_choice, [], []⟩,
  ⟨("answer_ranking", none), "answer_ranking", "answer_ranking", defArgs s_answer_ranking, defBody s_answer_ranking, defScope s_answer_ranking, [], []⟩,
  ⟨("answer_hash", none), "answer_hash", "answer_hash", defArgs s_answer_hash, defBody s_answer_hash, defScope s_answer_hash, [], []⟩,
  ⟨("answer_available_backends", none), "answer_available_backends", "answer_available_backends", defArgs s_answer_available_backends, defBody s_answer_available_backends, defScope s_answer_available_backends, [], []⟩,
  ⟨("answer_backoff_bound", none), "answer_backoff_bound", "answer_backoff_bound", defArgs s_answer_backoff_bound, defBody s_answer_backoff_bound, defScope s_answer_backoff_bound, [], []⟩,
  ⟨("answer_budget", none), "answer_budget", "answer_budget", defArgs s_answer_budget, defBody s_answer_budget, defScope s_answer_budget, [], []⟩,
  ⟨("answer_totals", none), "answer_totals", "answer_totals", defArgs s_answer_totals, defBody s_answer_totals, defScope s_answer_totals, [], []⟩,
  ⟨("answer_status", none), "answer_status", "answer_status", defArgs s_answer_status, defBody s_answer_status, defScope s_answer_status, [], []⟩,
  ⟨("Policy", some "__init__"), "__init__", "Policy.__init__", defArgs s_Policy_init, defBody s_Policy_init, defScope s_Policy_init, [], []⟩,
  ⟨("Backend", some "__init__"), "__init__", "Backend.__init__", defArgs s_Backend_init, defBody s_Backend_init, defScope s_Backend_init, [], []⟩,
  ⟨("Call", some "__init__"), "__init__", "Call.__init__", defArgs s_Call_init, defBody s_Call_init, defScope s_Call_init, [], []⟩,
  ⟨("Attempt", some "__init__"), "__init__", "Attempt.__init__", defArgs s_Attempt_init, defBody s_Attempt_init, defScope s_Attempt_init, [], []⟩,
  ⟨("Client", some "__init__"), "__init__", "Client.__init__", defArgs s_Client_init, defBody s_Client_init, defScope s_Client_init, [], []⟩,
  ⟨("Session", some "__init__"), "__init__", "Session.__init__", defArgs s_Session_init, defBody s_Session_init, defScope s_Session_init, [], []⟩]
def fcs : List He.Fa := [
  .glo "within",
  .glo "is_status",
  .glo "parameters_allowed",
  .glo "backoff_bound",
  .glo "most_tokens",
  .glo "active_backends",
  .glo "running_among",
  .glo "is_ejected",
  .glo "is_available",
  .glo "available_backends",
  .glo "candidates",
  .glo "pick",
  .glo "note_choice",
  .glo "key_hash",
  .glo "mixed",
  .glo "note_failure",
  .glo "room_for_ejection",
  .glo "eject",
  .glo "budget_allows",
  .glo "start_attempt",
  .glo "hedge_time",
  .glo "end_call",
  .glo "stop_attempt",
  .glo "end_attempt",
  .glo "follow_failure",
  .glo "may_repeat",
  .glo "retry_later",
  .glo "retry_delay",
  .glo "no_client",
  .glo "missing",
  .glo "outside_limits",
  .glo "not_running",
  .glo "too_many",
  .glo "nothing_there",
  .glo "timers_of",
  .glo "earliest_timer",
  .glo "fire",
  .glo "fire_until",
  .glo "final_status",
  .glo "is_active",
  .glo "is_weight",
  .glo "add_backend",
  .glo "remove_backend",
  .glo "set_weight",
  .glo "start_call",
  .glo "complete",
  .glo "cancel",
  .glo "advance",
  .glo "run",
  .glo "run_step",
  .glo "time_told",
  .glo "truth_told",
  .glo "numbers_told",
  .glo "tell_next_timer",
  .glo "tell_call",
  .glo "tell_attempt",
  .glo "tell_call_attempts",
  .glo "tell_backend",
  .glo "tell_running_attempts",
  .glo "tell_preview",
  .glo "tell_ranking",
  .glo "tell_hash",
  .glo "tell_available_backends",
  .glo "tell_backoff_bound",
  .glo "tell_budget",
  .glo "tell_totals",
  .glo "tell_status",
  .glo "answers",
  .glo "answer_call",
  .glo "answer_create",
  .glo "answer_add_backend",
  .glo "answer_remove_backend",
  .glo "answer_set_weight",
  .glo "answer_start_call",
  .glo "answer_complete",
  .glo "answer_cancel",
  .glo "answer_advance",
  .glo "answer_next_timer",
  .glo "answer_run",
  .glo "answer_call_info",
  .glo "answer_attempt_info",
  .glo "answer_call_attempts",
  .glo "answer_backend_info",
  .glo "answer_running_attempts",
  .glo "answer_preview_choice",
  .glo "answer_ranking",
  .glo "answer_hash",
  .glo "answer_available_backends",
  .glo "answer_backoff_bound",
  .glo "answer_budget",
  .glo "answer_totals",
  .glo "answer_status",
  .int "OK" 0,
  .int "CANCELLED" 1,
  .int "UNKNOWN" 2,
  .int "DEADLINE_EXCEEDED" 4,
  .int "UNAVAILABLE" 14,
  .int "REFUSED" 100,
  .int "MOST_RETRYABLE" 16,
  .int "RUNNING" 0,
  .int "FINISHED" 1,
  .int "CANCELLED_STATE" 2,
  .int "ROUND_ROBIN" 0,
  .int "WEIGHTED" 1,
  .int "LEAST_OUTSTANDING" 2,
  .int "DONT_RETRY" 1,
  .int "AT_DEADLINE" 0,
  .int "AT_RETRY" 1,
  .int "AT_HEDGE" 2,
  .int "MOST_BACKENDS" 8,
  .int "MOST_CALLS" 60,
  .int "MOST_ATTEMPTS" 200,
  .int "MOST_STATUSES" 40,
  .int "NO_PUSHBACK" 0,
  .int "MOST_HASHED_BACKEND" 255,
  .int "LAST_ASKED_RETRY" 10,
  .int "CREATE" 0,
  .glo "PARAMETER_LIMITS",
  .glo "ANSWERS",
  .free "all",
  .free "len",
  .free "list",
  .free "max",
  .free "min",
  .free "range",
  .free "sorted",
  .free "sum",
  .free "zip",
  .glo "Policy",
  .cls "Policy",
  .mkr "Policy",
  .noat "Policy" "max_attempts",
  .noat "Policy" "initial_backoff",
  .noat "Policy" "max_backoff",
  .noat "Policy" "multiplier",
  .noat "Policy" "hedge_delay",
  .noat "Policy" "threshold",
  .noat "Policy" "ejection_time",
  .noat "Policy" "ejection_percent",
  .noat "Policy" "max_tokens",
  .noat "Policy" "refund",
  .noat "Policy" "retryable",
  .glo "Backend",
  .cls "Backend",
  .mkr "Backend",
  .noat "Backend" "number",
  .noat "Backend" "weight",
  .noat "Backend" "active",
  .noat "Backend" "current",
  .noat "Backend" "outstanding",
  .noat "Backend" "failures",
  .noat "Backend" "ejections",
  .noat "Backend" "ejected_until",
  .glo "Call",
  .cls "Call",
  .mkr "Call",
  .noat "Call" "number",
  .noat "Call" "deadline",
  .noat "Call" "idempotent",
  .noat "Call" "key",
  .noat "Call" "status",
  .noat "Call" "counted",
  .noat "Call" "retries",
  .noat "Call" "transparent",
  .noat "Call" "retry_at",
  .noat "Call" "hedge_at",
  .noat "Call" "finished_at",
  .noat "Call" "attempts",
  .glo "Attempt",
  .cls "Attempt",
  .mkr "Attempt",
  .noat "Attempt" "number",
  .noat "Attempt" "call",
  .noat "Attempt" "backend",
  .noat "Attempt" "place",
  .noat "Attempt" "started_at",
  .noat "Attempt" "state",
  .noat "Attempt" "status",
  .glo "Client",
  .cls "Client",
  .mkr "Client",
  .noat "Client" "seed",
  .noat "Client" "balancer",
  .noat "Client" "policy",
  .noat "Client" "now",
  .noat "Client" "tokens",
  .noat "Client" "pointer",
  .noat "Client" "backends",
  .noat "Client" "calls",
  .noat "Client" "attempts",
  .noat "Client" "retries",
  .noat "Client" "hedges",
  .noat "Client" "transparents",
  .glo "Session",
  .cls "Session",
  .mkr "Session",
  .noat "Session" "client"]
def loose : List Str := (["OK", "CANCELLED", "UNKNOWN", "DEADLINE_EXCEEDED", "UNAVAILABLE", "REFUSED", "within", "is_status", "PARAMETER_LIMITS", "MOST_RETRYABLE", "Policy", "parameters_allowed", "backoff_bound", "most_tokens", "RUNNING", "FINISHED", "CANCELLED_STATE", "Backend", "Call", "Attempt"] : List Str) ++ (["Client", "active_backends", "running_among", "ROUND_ROBIN", "WEIGHTED", "LEAST_OUTSTANDING", "is_ejected", "is_available", "available_backends", "candidates", "pick", "note_choice", "key_hash", "mixed", "note_failure", "room_for_ejection", "eject", "DONT_RETRY", "budget_allows", "start_attempt"] : List Str) ++ (["hedge_time", "end_call", "stop_attempt", "end_attempt", "follow_failure", "may_repeat", "retry_later", "retry_delay", "no_client", "missing", "outside_limits", "not_running", "too_many", "nothing_there", "AT_DEADLINE", "AT_RETRY", "AT_HEDGE", "timers_of", "earliest_timer", "fire"] : List Str) ++ (["fire_until", "MOST_BACKENDS", "MOST_CALLS", "MOST_ATTEMPTS", "MOST_STATUSES", "NO_PUSHBACK", "final_status", "is_active", "is_weight", "add_backend", "remove_backend", "set_weight", "start_call", "complete", "cancel", "advance", "run", "run_step", "MOST_HASHED_BACKEND", "LAST_ASKED_RETRY"] : List Str) ++ (["time_told", "truth_told", "numbers_told", "tell_next_timer", "tell_call", "tell_attempt", "tell_call_attempts", "tell_backend", "tell_running_attempts", "tell_preview", "tell_ranking", "tell_hash", "tell_available_backends", "tell_backoff_bound", "tell_budget", "tell_totals", "tell_status", "CREATE", "Session", "answer_call"] : List Str) ++ (["answer_create", "answer_add_backend", "answer_remove_backend", "answer_set_weight", "answer_start_call", "answer_complete", "answer_cancel", "answer_advance", "answer_next_timer", "answer_run", "answer_call_info", "answer_attempt_info", "answer_call_attempts", "answer_backend_info", "answer_running_attempts", "answer_preview_choice", "answer_ranking", "answer_hash", "answer_available_backends", "answer_backoff_bound"] : List Str) ++ (["answer_budget", "answer_totals", "answer_status", "ANSWERS"] : List Str)
def ansAt : Nat := 109

def asL : List Addr := ([3, 56, 96, 117, 138, 159, 592, 55, 95, 116, 137, 158, 591, 21, 28, 53, 65, 72, 79, 93] : List Addr) ++ ([114, 135, 156, 168, 173, 180, 187, 192, 197, 202, 207, 214, 221, 228, 233, 240, 247, 252, 259, 266] : List Addr) ++ ([273, 280, 287, 294, 301, 308, 315, 322, 329, 336, 343, 350, 357, 364, 371, 378, 385, 392, 399, 406] : List Addr) ++ ([413, 420, 427, 434, 441, 448, 453, 460, 467, 474, 479, 486, 493, 500, 507, 514, 521, 528, 535, 542] : List Addr) ++ ([549, 556, 563, 568, 575, 589, 603, 610, 617, 624, 631, 638, 645, 652, 659, 666, 673, 680, 687, 694] : List Addr) ++ ([701, 708, 715, 722, 729, 736, 743, 750, 757, 764, 771, 20, 27, 52, 64, 71, 78, 92, 113, 134] : List Addr) ++ ([155, 167, 172, 179, 186, 191, 196, 201, 206, 213, 220, 227, 232, 239, 246, 251, 258, 265, 272, 279] : List Addr) ++ ([286, 293, 300, 307, 314, 321, 328, 335, 342, 349, 356, 363, 370, 377, 384, 391, 398, 405, 412, 419] : List Addr) ++ ([426, 433, 440, 447, 452, 459, 466, 473, 478, 485, 492, 499, 506, 513, 520, 527, 534, 541, 548, 555] : List Addr) ++ ([562, 567, 574, 588, 602, 609, 616, 623, 630, 637, 644, 651, 658, 665, 672, 679, 686, 693, 700, 707] : List Addr) ++ ([714, 721, 728, 735, 742, 749, 756, 763, 770, 39, 29, 30, 31, 32, 33, 34, 35, 36, 37, 38] : List Addr) ++ ([772] : List Addr)

end HC
namespace KI
open PySem PySem.Spec PyProof.Rows L2
/-! A dict of the top whose keys are whole numbers and whose values are defs -/
def entB : List DictEntry → List (Int × Addr) → Bool
  | [], [] => true
  | e :: es, p :: r => decide (e.hash = hashInt p.1) && Value.isInt p.1 e.key && (match e.val with | .ref b => decide (b = p.2) | _ => false) && entB es r
  | _, _ => false
def kiB (K : PySem.W.Frag) (d : Addr) (kvs : List (Int × Addr)) : Bool := (match K.lookup d with
  | some ⟨.type c, none, .dict es _, sl⟩ => decide (c = "dict") && decide (sl.size = 0) && entB es.toList kvs
  | _ => false) && decide (kvs.map (·.1)).Nodup && !(d == sysModules)
/-! a tuple of the top that holds pairs of whole numbers -/
def pairB (K : PySem.W.Frag) (a : Addr) (p : Int × Int) : Bool := match K.lookup a with
  | some ⟨.type c, _, .seq its _, _⟩ => decide (c = "tuple") && (match its.toList with | [.int x _, .int y _] => decide (x = p.1) && decide (y = p.2) | _ => false)
  | _ => false
def limsB (K : PySem.W.Frag) : List Value → List (Int × Int) → Bool
  | [], [] => true
  | .ref a :: vs, p :: ps => pairB K a p && limsB K vs ps
  | _, _ => false
def limB (K : PySem.W.Frag) (a : Addr) (ps : List (Int × Int)) : Bool := match K.lookup a with
  | some ⟨.type c, _, .seq its _, _⟩ => decide (c = "tuple") && limsB K its.toList ps
  | _ => false
theorem pair_of {K : PySem.W.Frag} {a : Addr} {p : Int × Int} (h : pairB K a p = true) (H : Hp) : SqT K H a [.int p.1, .int p.2] := by
  unfold pairB at h
  split at h
  · rename_i c od its n sl e
    simp only [Bool.and_eq_true, decide_eq_true_eq] at h
    obtain ⟨hc, h⟩ := h
    split at h
    · rename_i x tx y ty e2
      simp only [Bool.and_eq_true, decide_eq_true_eq] at h
      refine .inr ⟨_, its, n, e, by rw [hc], rfl, ?_, ?_⟩
      · rw [← Array.length_toList, e2]; show 2 ≤ sizeLine; decide
      · rw [e2, ← h.1, ← h.2]
        exact .cons ⟨_, rfl⟩ (.cons ⟨_, rfl⟩ .nil)
    · cases h
  · cases h
theorem lims_of {K : PySem.W.Frag} : ∀ {vs : List Value} {ps : List (Int × Int)}, limsB K vs ps = true → ∃ as : List Addr, as.length = ps.length ∧ Vals (as.map V.ref) vs ∧ ∀ (k : Nat) (a : Addr) (p : Int × Int), as[k]? = some a → ps[k]? = some p → ∀ H, SqT K H a [.int p.1, .int p.2]
  | [], [], _ => ⟨[], rfl, .nil, fun k a p h => by cases h⟩
  | v :: vs, p :: ps, h => by
    cases v with
    | ref a =>
      have h : (pairB K a p && limsB K vs ps) = true := h
      obtain ⟨h1, h2⟩ := Bool.and_eq_true_iff.mp h
      obtain ⟨as, l, r, g⟩ := lims_of h2
      refine ⟨a :: as, by rw [List.length_cons, List.length_cons, l], .cons rfl r, fun k b q e1 e2 H => ?_⟩
      cases k with
      | zero => cases e1; cases e2; exact pair_of h1 H
      | succ k => exact g k b q e1 e2 H
    | _ => cases h
  | [], _ :: _, h => by cases h
  | v :: _, [], h => by cases v <;> cases h
theorem lim_of {K : PySem.W.Frag} {a : Addr} {ps : List (Int × Int)} (h : limB K a ps = true) (hz : ps.length ≤ 1000) : ∃ as : List Addr, as.length = ps.length ∧ (∀ H, SqT K H a (as.map V.ref)) ∧ ∀ (k : Nat) (a : Addr) (p : Int × Int), as[k]? = some a → ps[k]? = some p → ∀ H, SqT K H a [.int p.1, .int p.2] := by
  unfold limB at h
  split at h
  · rename_i c od its n sl e
    simp only [Bool.and_eq_true, decide_eq_true_eq] at h
    obtain ⟨as, l, r, g⟩ := lims_of h.2
    refine ⟨as, l, fun H => .inr ⟨_, its, n, e, by rw [h.1], rfl, ?_, r⟩, g⟩
    have z := r.length
    have z : as.length = its.size := by simpa using z
    have : (1000 : Nat) < sizeLine := by decide
    omega
  · cases h
end KI
namespace HC
open PySem PySem.Spec PyProof.Rows L2

def lims : List (Int × Int) := [(1, 5), (0, 10000), (0, 100000), (100, 1000), (0, 10000), (0, 10), (1, 100000), (0, 100), (0, 1000), (0, 1000)]
def kvs (K : PySem.W.Frag) : List (Int × Addr) := [(1, He.ga K "answer_add_backend"), (2, He.ga K "answer_remove_backend"), (3, He.ga K "answer_set_weight"), (4, He.ga K "answer_start_call"), (5, He.ga K "answer_complete"), (6, He.ga K "answer_cancel"), (7, He.ga K "answer_advance"), (8, He.ga K "answer_next_timer"), (9, He.ga K "answer_run"), (10, He.ga K "answer_call_info"), (11, He.ga K "answer_attempt_info"), (12, He.ga K "answer_call_attempts"), (13, He.ga K "answer_backend_info"), (14, He.ga K "answer_running_attempts"), (15, He.ga K "answer_preview_choice"), (16, He.ga K "answer_ranking"), (17, He.ga K "answer_hash"), (18, He.ga K "answer_available_backends"), (19, He.ga K "answer_backoff_bound"), (20, He.ga K "answer_budget"), (21, He.ga K "answer_totals"), (22, He.ga K "answer_status")]
def exB (K : PySem.W.Frag) : Bool := !((He.cT K ("pick", none)).2 == (He.cT K ("tell_ranking", none)).2) && (KI.limB K (He.ga K "PARAMETER_LIMITS") lims && KI.kiB K (He.ga K "ANSWERS") (kvs K))
/-- what the top has left, and where the lambdas' maker lies -/
structure Tx (K : PySem.W.Frag) (mg : Str → Option Value) : Prop where
  fact : ∀ f ∈ fcs, f.ok K = true
  defs : ∀ d ∈ dfs, ∃ fd, FunD K d.name d.qual d.params d.body d.scope [] [] (He.fAd K d.at_) fd
  glo : ∀ x a, PySem.W.nsIn K mainGlobals x = some (some a) → mg x = some a
  none_ : ∀ x, PySem.W.nsIn K mainGlobals x = some none → mg x = none
  more : exB K = true
section
variable {K : PySem.W.Frag} {mg : Str → Option Value} (T : Tx K mg)
include T
theorem Tx.f (i : Nat) {f : He.Fa} (h : fcs[i]? = some f) : f.ok K = true := T.fact f (List.mem_of_getElem? h)
theorem Tx.gl {x : Str} (h : (He.Fa.glo x).ok K = true) : mg x = some (.ref (He.ga K x)) := T.glo x _ (He.eqO_ok h)
theorem Tx.fr {x : Str} (h : (He.Fa.free x).ok K = true) : mg x = none := T.none_ x (He.eqO_ok h)
theorem Tx.apart : ((He.cT K ("pick", none)).2 == (He.cT K ("tell_ranking", none)).2) = false := by
  have z := (Bool.and_eq_true_iff.mp T.more).1
  rw [Bool.not_eq_true'] at z
  exact z
theorem Tx.lim : KI.limB K (He.ga K "PARAMETER_LIMITS") lims = true := (Bool.and_eq_true_iff.mp (Bool.and_eq_true_iff.mp T.more).2).1
theorem Tx.ki : KI.kiB K (He.ga K "ANSWERS") (kvs K) = true := (Bool.and_eq_true_iff.mp (Bool.and_eq_true_iff.mp T.more).2).2
theorem Tx.it {x : Str} {i : Int} (h : (He.Fa.int x i).ok K = true) : ∃ t, mg x = some (.int i t) := by
  have c2 : (match PySem.W.nsIn K mainGlobals x with
    | some (some (.int j _)) => decide (j = i)
    | _ => false) = true := h
  cases e : PySem.W.nsIn K mainGlobals x with
  | none => rw [e] at c2; cases c2
  | some o =>
    rw [e] at c2
    cases o with
    | none => cases c2
    | some v =>
      cases v with
      | int j t =>
        have ej : j = i := of_decide_eq_true c2
        rw [ej] at e
        exact ⟨t, T.glo x _ e⟩
      | _ => cases c2
theorem Tx.g_within : mg "within" = some (.ref (He.ga K "within")) := T.gl (T.f 0 rfl)
theorem Tx.g_is_status : mg "is_status" = some (.ref (He.ga K "is_status")) := T.gl (T.f 1 rfl)
theorem Tx.g_parameters_allowed : mg "parameters_allowed" = some (.ref (He.ga K "parameters_allowed")) := T.gl (T.f 2 rfl)
theorem Tx.g_backoff_bound : mg "backoff_bound" = some (.ref (He.ga K "backoff_bound")) := T.gl (T.f 3 rfl)
theorem Tx.g_most_tokens : mg "most_tokens" = some (.ref (He.ga K "most_tokens")) := T.gl (T.f 4 rfl)
theorem Tx.g_active_backends : mg "active_backends" = some (.ref (He.ga K "active_backends")) := T.gl (T.f 5 rfl)
theorem Tx.g_running_among : mg "running_among" = some (.ref (He.ga K "running_among")) := T.gl (T.f 6 rfl)
theorem Tx.g_is_ejected : mg "is_ejected" = some (.ref (He.ga K "is_ejected")) := T.gl (T.f 7 rfl)
theorem Tx.g_is_available : mg "is_available" = some (.ref (He.ga K "is_available")) := T.gl (T.f 8 rfl)
theorem Tx.g_available_backends : mg "available_backends" = some (.ref (He.ga K "available_backends")) := T.gl (T.f 9 rfl)
theorem Tx.g_candidates : mg "candidates" = some (.ref (He.ga K "candidates")) := T.gl (T.f 10 rfl)
theorem Tx.g_pick : mg "pick" = some (.ref (He.ga K "pick")) := T.gl (T.f 11 rfl)
theorem Tx.g_note_choice : mg "note_choice" = some (.ref (He.ga K "note_choice")) := T.gl (T.f 12 rfl)
theorem Tx.g_key_hash : mg "key_hash" = some (.ref (He.ga K "key_hash")) := T.gl (T.f 13 rfl)
theorem Tx.g_mixed : mg "mixed" = some (.ref (He.ga K "mixed")) := T.gl (T.f 14 rfl)
theorem Tx.g_note_failure : mg "note_failure" = some (.ref (He.ga K "note_failure")) := T.gl (T.f 15 rfl)
theorem Tx.g_room_for_ejection : mg "room_for_ejection" = some (.ref (He.ga K "room_for_ejection")) := T.gl (T.f 16 rfl)
theorem Tx.g_eject : mg "eject" = some (.ref (He.ga K "eject")) := T.gl (T.f 17 rfl)
theorem Tx.g_budget_allows : mg "budget_allows" = some (.ref (He.ga K "budget_allows")) := T.gl (T.f 18 rfl)
theorem Tx.g_start_attempt : mg "start_attempt" = some (.ref (He.ga K "start_attempt")) := T.gl (T.f 19 rfl)
theorem Tx.g_hedge_time : mg "hedge_time" = some (.ref (He.ga K "hedge_time")) := T.gl (T.f 20 rfl)
theorem Tx.g_end_call : mg "end_call" = some (.ref (He.ga K "end_call")) := T.gl (T.f 21 rfl)
theorem Tx.g_stop_attempt : mg "stop_attempt" = some (.ref (He.ga K "stop_attempt")) := T.gl (T.f 22 rfl)
theorem Tx.g_end_attempt : mg "end_attempt" = some (.ref (He.ga K "end_attempt")) := T.gl (T.f 23 rfl)
theorem Tx.g_follow_failure : mg "follow_failure" = some (.ref (He.ga K "follow_failure")) := T.gl (T.f 24 rfl)
theorem Tx.g_may_repeat : mg "may_repeat" = some (.ref (He.ga K "may_repeat")) := T.gl (T.f 25 rfl)
theorem Tx.g_retry_later : mg "retry_later" = some (.ref (He.ga K "retry_later")) := T.gl (T.f 26 rfl)
theorem Tx.g_retry_delay : mg "retry_delay" = some (.ref (He.ga K "retry_delay")) := T.gl (T.f 27 rfl)
theorem Tx.g_no_client : mg "no_client" = some (.ref (He.ga K "no_client")) := T.gl (T.f 28 rfl)
theorem Tx.g_missing : mg "missing" = some (.ref (He.ga K "missing")) := T.gl (T.f 29 rfl)
theorem Tx.g_outside_limits : mg "outside_limits" = some (.ref (He.ga K "outside_limits")) := T.gl (T.f 30 rfl)
theorem Tx.g_not_running : mg "not_running" = some (.ref (He.ga K "not_running")) := T.gl (T.f 31 rfl)
theorem Tx.g_too_many : mg "too_many" = some (.ref (He.ga K "too_many")) := T.gl (T.f 32 rfl)
theorem Tx.g_nothing_there : mg "nothing_there" = some (.ref (He.ga K "nothing_there")) := T.gl (T.f 33 rfl)
theorem Tx.g_timers_of : mg "timers_of" = some (.ref (He.ga K "timers_of")) := T.gl (T.f 34 rfl)
theorem Tx.g_earliest_timer : mg "earliest_timer" = some (.ref (He.ga K "earliest_timer")) := T.gl (T.f 35 rfl)
theorem Tx.g_fire : mg "fire" = some (.ref (He.ga K "fire")) := T.gl (T.f 36 rfl)
theorem Tx.g_fire_until : mg "fire_until" = some (.ref (He.ga K "fire_until")) := T.gl (T.f 37 rfl)
theorem Tx.g_final_status : mg "final_status" = some (.ref (He.ga K "final_status")) := T.gl (T.f 38 rfl)
theorem Tx.g_is_active : mg "is_active" = some (.ref (He.ga K "is_active")) := T.gl (T.f 39 rfl)
theorem Tx.g_is_weight : mg "is_weight" = some (.ref (He.ga K "is_weight")) := T.gl (T.f 40 rfl)
theorem Tx.g_add_backend : mg "add_backend" = some (.ref (He.ga K "add_backend")) := T.gl (T.f 41 rfl)
theorem Tx.g_remove_backend : mg "remove_backend" = some (.ref (He.ga K "remove_backend")) := T.gl (T.f 42 rfl)
theorem Tx.g_set_weight : mg "set_weight" = some (.ref (He.ga K "set_weight")) := T.gl (T.f 43 rfl)
theorem Tx.g_start_call : mg "start_call" = some (.ref (He.ga K "start_call")) := T.gl (T.f 44 rfl)
theorem Tx.g_complete : mg "complete" = some (.ref (He.ga K "complete")) := T.gl (T.f 45 rfl)
theorem Tx.g_cancel : mg "cancel" = some (.ref (He.ga K "cancel")) := T.gl (T.f 46 rfl)
theorem Tx.g_advance : mg "advance" = some (.ref (He.ga K "advance")) := T.gl (T.f 47 rfl)
theorem Tx.g_run : mg "run" = some (.ref (He.ga K "run")) := T.gl (T.f 48 rfl)
theorem Tx.g_run_step : mg "run_step" = some (.ref (He.ga K "run_step")) := T.gl (T.f 49 rfl)
theorem Tx.g_time_told : mg "time_told" = some (.ref (He.ga K "time_told")) := T.gl (T.f 50 rfl)
theorem Tx.g_truth_told : mg "truth_told" = some (.ref (He.ga K "truth_told")) := T.gl (T.f 51 rfl)
theorem Tx.g_numbers_told : mg "numbers_told" = some (.ref (He.ga K "numbers_told")) := T.gl (T.f 52 rfl)
theorem Tx.g_tell_next_timer : mg "tell_next_timer" = some (.ref (He.ga K "tell_next_timer")) := T.gl (T.f 53 rfl)
theorem Tx.g_tell_call : mg "tell_call" = some (.ref (He.ga K "tell_call")) := T.gl (T.f 54 rfl)
theorem Tx.g_tell_attempt : mg "tell_attempt" = some (.ref (He.ga K "tell_attempt")) := T.gl (T.f 55 rfl)
theorem Tx.g_tell_call_attempts : mg "tell_call_attempts" = some (.ref (He.ga K "tell_call_attempts")) := T.gl (T.f 56 rfl)
theorem Tx.g_tell_backend : mg "tell_backend" = some (.ref (He.ga K "tell_backend")) := T.gl (T.f 57 rfl)
theorem Tx.g_tell_running_attempts : mg "tell_running_attempts" = some (.ref (He.ga K "tell_running_attempts")) := T.gl (T.f 58 rfl)
theorem Tx.g_tell_preview : mg "tell_preview" = some (.ref (He.ga K "tell_preview")) := T.gl (T.f 59 rfl)
theorem Tx.g_tell_ranking : mg "tell_ranking" = some (.ref (He.ga K "tell_ranking")) := T.gl (T.f 60 rfl)
theorem Tx.g_tell_hash : mg "tell_hash" = some (.ref (He.ga K "tell_hash")) := T.gl (T.f 61 rfl)
theorem Tx.g_tell_available_backends : mg "tell_available_backends" = some (.ref (He.ga K "tell_available_backends")) := T.gl (T.f 62 rfl)
theorem Tx.g_tell_backoff_bound : mg "tell_backoff_bound" = some (.ref (He.ga K "tell_backoff_bound")) := T.gl (T.f 63 rfl)
theorem Tx.g_tell_budget : mg "tell_budget" = some (.ref (He.ga K "tell_budget")) := T.gl (T.f 64 rfl)
theorem Tx.g_tell_totals : mg "tell_totals" = some (.ref (He.ga K "tell_totals")) := T.gl (T.f 65 rfl)
theorem Tx.g_tell_status : mg "tell_status" = some (.ref (He.ga K "tell_status")) := T.gl (T.f 66 rfl)
theorem Tx.g_answers : mg "answers" = some (.ref (He.ga K "answers")) := T.gl (T.f 67 rfl)
theorem Tx.g_answer_call : mg "answer_call" = some (.ref (He.ga K "answer_call")) := T.gl (T.f 68 rfl)
theorem Tx.g_answer_create : mg "answer_create" = some (.ref (He.ga K "answer_create")) := T.gl (T.f 69 rfl)
theorem Tx.g_answer_add_backend : mg "answer_add_backend" = some (.ref (He.ga K "answer_add_backend")) := T.gl (T.f 70 rfl)
theorem Tx.g_answer_remove_backend : mg "answer_remove_backend" = some (.ref (He.ga K "answer_remove_backend")) := T.gl (T.f 71 rfl)
theorem Tx.g_answer_set_weight : mg "answer_set_weight" = some (.ref (He.ga K "answer_set_weight")) := T.gl (T.f 72 rfl)
theorem Tx.g_answer_start_call : mg "answer_start_call" = some (.ref (He.ga K "answer_start_call")) := T.gl (T.f 73 rfl)
theorem Tx.g_answer_complete : mg "answer_complete" = some (.ref (He.ga K "answer_complete")) := T.gl (T.f 74 rfl)
theorem Tx.g_answer_cancel : mg "answer_cancel" = some (.ref (He.ga K "answer_cancel")) := T.gl (T.f 75 rfl)
theorem Tx.g_answer_advance : mg "answer_advance" = some (.ref (He.ga K "answer_advance")) := T.gl (T.f 76 rfl)
theorem Tx.g_answer_next_timer : mg "answer_next_timer" = some (.ref (He.ga K "answer_next_timer")) := T.gl (T.f 77 rfl)
theorem Tx.g_answer_run : mg "answer_run" = some (.ref (He.ga K "answer_run")) := T.gl (T.f 78 rfl)
theorem Tx.g_answer_call_info : mg "answer_call_info" = some (.ref (He.ga K "answer_call_info")) := T.gl (T.f 79 rfl)
theorem Tx.g_answer_attempt_info : mg "answer_attempt_info" = some (.ref (He.ga K "answer_attempt_info")) := T.gl (T.f 80 rfl)
theorem Tx.g_answer_call_attempts : mg "answer_call_attempts" = some (.ref (He.ga K "answer_call_attempts")) := T.gl (T.f 81 rfl)
theorem Tx.g_answer_backend_info : mg "answer_backend_info" = some (.ref (He.ga K "answer_backend_info")) := T.gl (T.f 82 rfl)
theorem Tx.g_answer_running_attempts : mg "answer_running_attempts" = some (.ref (He.ga K "answer_running_attempts")) := T.gl (T.f 83 rfl)
theorem Tx.g_answer_preview_choice : mg "answer_preview_choice" = some (.ref (He.ga K "answer_preview_choice")) := T.gl (T.f 84 rfl)
theorem Tx.g_answer_ranking : mg "answer_ranking" = some (.ref (He.ga K "answer_ranking")) := T.gl (T.f 85 rfl)
theorem Tx.g_answer_hash : mg "answer_hash" = some (.ref (He.ga K "answer_hash")) := T.gl (T.f 86 rfl)
theorem Tx.g_answer_available_backends : mg "answer_available_backends" = some (.ref (He.ga K "answer_available_backends")) := T.gl (T.f 87 rfl)
theorem Tx.g_answer_backoff_bound : mg "answer_backoff_bound" = some (.ref (He.ga K "answer_backoff_bound")) := T.gl (T.f 88 rfl)
theorem Tx.g_answer_budget : mg "answer_budget" = some (.ref (He.ga K "answer_budget")) := T.gl (T.f 89 rfl)
theorem Tx.g_answer_totals : mg "answer_totals" = some (.ref (He.ga K "answer_totals")) := T.gl (T.f 90 rfl)
theorem Tx.g_answer_status : mg "answer_status" = some (.ref (He.ga K "answer_status")) := T.gl (T.f 91 rfl)
theorem Tx.i_OK : ∃ t, mg "OK" = some (.int 0 t) := T.it (T.f 92 rfl)
theorem Tx.i_CANCELLED : ∃ t, mg "CANCELLED" = some (.int 1 t) := T.it (T.f 93 rfl)
theorem Tx.i_UNKNOWN : ∃ t, mg "UNKNOWN" = some (.int 2 t) := T.it (T.f 94 rfl)
theorem Tx.i_DEADLINE_EXCEEDED : ∃ t, mg "DEADLINE_EXCEEDED" = some (.int 4 t) := T.it (T.f 95 rfl)
theorem Tx.i_UNAVAILABLE : ∃ t, mg "UNAVAILABLE" = some (.int 14 t) := T.it (T.f 96 rfl)
theorem Tx.i_REFUSED : ∃ t, mg "REFUSED" = some (.int 100 t) := T.it (T.f 97 rfl)
theorem Tx.i_MOST_RETRYABLE : ∃ t, mg "MOST_RETRYABLE" = some (.int 16 t) := T.it (T.f 98 rfl)
theorem Tx.i_RUNNING : ∃ t, mg "RUNNING" = some (.int 0 t) := T.it (T.f 99 rfl)
theorem Tx.i_FINISHED : ∃ t, mg "FINISHED" = some (.int 1 t) := T.it (T.f 100 rfl)
theorem Tx.i_CANCELLED_STATE : ∃ t, mg "CANCELLED_STATE" = some (.int 2 t) := T.it (T.f 101 rfl)
theorem Tx.i_ROUND_ROBIN : ∃ t, mg "ROUND_ROBIN" = some (.int 0 t) := T.it (T.f 102 rfl)
theorem Tx.i_WEIGHTED : ∃ t, mg "WEIGHTED" = some (.int 1 t) := T.it (T.f 103 rfl)
theorem Tx.i_LEAST_OUTSTANDING : ∃ t, mg "LEAST_OUTSTANDING" = some (.int 2 t) := T.it (T.f 104 rfl)
theorem Tx.i_DONT_RETRY : ∃ t, mg "DONT_RETRY" = some (.int 1 t) := T.it (T.f 105 rfl)
theorem Tx.i_AT_DEADLINE : ∃ t, mg "AT_DEADLINE" = some (.int 0 t) := T.it (T.f 106 rfl)
theorem Tx.i_AT_RETRY : ∃ t, mg "AT_RETRY" = some (.int 1 t) := T.it (T.f 107 rfl)
theorem Tx.i_AT_HEDGE : ∃ t, mg "AT_HEDGE" = some (.int 2 t) := T.it (T.f 108 rfl)
theorem Tx.i_MOST_BACKENDS : ∃ t, mg "MOST_BACKENDS" = some (.int 8 t) := T.it (T.f 109 rfl)
theorem Tx.i_MOST_CALLS : ∃ t, mg "MOST_CALLS" = some (.int 60 t) := T.it (T.f 110 rfl)
theorem Tx.i_MOST_ATTEMPTS : ∃ t, mg "MOST_ATTEMPTS" = some (.int 200 t) := T.it (T.f 111 rfl)
theorem Tx.i_MOST_STATUSES : ∃ t, mg "MOST_STATUSES" = some (.int 40 t) := T.it (T.f 112 rfl)
theorem Tx.i_NO_PUSHBACK : ∃ t, mg "NO_PUSHBACK" = some (.int 0 t) := T.it (T.f 113 rfl)
theorem Tx.i_MOST_HASHED_BACKEND : ∃ t, mg "MOST_HASHED_BACKEND" = some (.int 255 t) := T.it (T.f 114 rfl)
theorem Tx.i_LAST_ASKED_RETRY : ∃ t, mg "LAST_ASKED_RETRY" = some (.int 10 t) := T.it (T.f 115 rfl)
theorem Tx.i_CREATE : ∃ t, mg "CREATE" = some (.int 0 t) := T.it (T.f 116 rfl)
theorem Tx.g_PARAMETER_LIMITS : mg "PARAMETER_LIMITS" = some (.ref (He.ga K "PARAMETER_LIMITS")) := T.gl (T.f 117 rfl)
theorem Tx.g_ANSWERS : mg "ANSWERS" = some (.ref (He.ga K "ANSWERS")) := T.gl (T.f 118 rfl)
theorem Tx.b_all : mg "all" = none := T.fr (T.f 119 rfl)
theorem Tx.b_len : mg "len" = none := T.fr (T.f 120 rfl)
theorem Tx.b_list : mg "list" = none := T.fr (T.f 121 rfl)
theorem Tx.b_max : mg "max" = none := T.fr (T.f 122 rfl)
theorem Tx.b_min : mg "min" = none := T.fr (T.f 123 rfl)
theorem Tx.b_range : mg "range" = none := T.fr (T.f 124 rfl)
theorem Tx.b_sorted : mg "sorted" = none := T.fr (T.f 125 rfl)
theorem Tx.b_sum : mg "sum" = none := T.fr (T.f 126 rfl)
theorem Tx.b_zip : mg "zip" = none := T.fr (T.f 127 rfl)
theorem Tx.g_Policy : mg "Policy" = some (.ref (He.ga K "Policy")) := T.gl (T.f 128 rfl)
theorem Tx.c_Policy : Cls K (He.ga K "Policy") := He.cls_ok (T.f 129 rfl)
theorem Tx.m_Policy : Mk K (He.ga K "Policy") (He.ma K (He.ga K "Policy") "__init__") := He.mkr_ok (T.f 130 rfl)
theorem Tx.n_Policy_max_attempts : NoAttr K (He.ga K "Policy") "max_attempts" := He.noat_ok (T.f 131 rfl)
theorem Tx.n_Policy_initial_backoff : NoAttr K (He.ga K "Policy") "initial_backoff" := He.noat_ok (T.f 132 rfl)
theorem Tx.n_Policy_max_backoff : NoAttr K (He.ga K "Policy") "max_backoff" := He.noat_ok (T.f 133 rfl)
theorem Tx.n_Policy_multiplier : NoAttr K (He.ga K "Policy") "multiplier" := He.noat_ok (T.f 134 rfl)
theorem Tx.n_Policy_hedge_delay : NoAttr K (He.ga K "Policy") "hedge_delay" := He.noat_ok (T.f 135 rfl)
theorem Tx.n_Policy_threshold : NoAttr K (He.ga K "Policy") "threshold" := He.noat_ok (T.f 136 rfl)
theorem Tx.n_Policy_ejection_time : NoAttr K (He.ga K "Policy") "ejection_time" := He.noat_ok (T.f 137 rfl)
theorem Tx.n_Policy_ejection_percent : NoAttr K (He.ga K "Policy") "ejection_percent" := He.noat_ok (T.f 138 rfl)
theorem Tx.n_Policy_max_tokens : NoAttr K (He.ga K "Policy") "max_tokens" := He.noat_ok (T.f 139 rfl)
theorem Tx.n_Policy_refund : NoAttr K (He.ga K "Policy") "refund" := He.noat_ok (T.f 140 rfl)
theorem Tx.n_Policy_retryable : NoAttr K (He.ga K "Policy") "retryable" := He.noat_ok (T.f 141 rfl)
theorem Tx.g_Backend : mg "Backend" = some (.ref (He.ga K "Backend")) := T.gl (T.f 142 rfl)
theorem Tx.c_Backend : Cls K (He.ga K "Backend") := He.cls_ok (T.f 143 rfl)
theorem Tx.m_Backend : Mk K (He.ga K "Backend") (He.ma K (He.ga K "Backend") "__init__") := He.mkr_ok (T.f 144 rfl)
theorem Tx.n_Backend_number : NoAttr K (He.ga K "Backend") "number" := He.noat_ok (T.f 145 rfl)
theorem Tx.n_Backend_weight : NoAttr K (He.ga K "Backend") "weight" := He.noat_ok (T.f 146 rfl)
theorem Tx.n_Backend_active : NoAttr K (He.ga K "Backend") "active" := He.noat_ok (T.f 147 rfl)
theorem Tx.n_Backend_current : NoAttr K (He.ga K "Backend") "current" := He.noat_ok (T.f 148 rfl)
theorem Tx.n_Backend_outstanding : NoAttr K (He.ga K "Backend") "outstanding" := He.noat_ok (T.f 149 rfl)
theorem Tx.n_Backend_failures : NoAttr K (He.ga K "Backend") "failures" := He.noat_ok (T.f 150 rfl)
theorem Tx.n_Backend_ejections : NoAttr K (He.ga K "Backend") "ejections" := He.noat_ok (T.f 151 rfl)
theorem Tx.n_Backend_ejected_until : NoAttr K (He.ga K "Backend") "ejected_until" := He.noat_ok (T.f 152 rfl)
theorem Tx.g_Call : mg "Call" = some (.ref (He.ga K "Call")) := T.gl (T.f 153 rfl)
theorem Tx.c_Call : Cls K (He.ga K "Call") := He.cls_ok (T.f 154 rfl)
theorem Tx.m_Call : Mk K (He.ga K "Call") (He.ma K (He.ga K "Call") "__init__") := He.mkr_ok (T.f 155 rfl)
theorem Tx.n_Call_number : NoAttr K (He.ga K "Call") "number" := He.noat_ok (T.f 156 rfl)
theorem Tx.n_Call_deadline : NoAttr K (He.ga K "Call") "deadline" := He.noat_ok (T.f 157 rfl)
theorem Tx.n_Call_idempotent : NoAttr K (He.ga K "Call") "idempotent" := He.noat_ok (T.f 158 rfl)
theorem Tx.n_Call_key : NoAttr K (He.ga K "Call") "key" := He.noat_ok (T.f 159 rfl)
theorem Tx.n_Call_status : NoAttr K (He.ga K "Call") "status" := He.noat_ok (T.f 160 rfl)
theorem Tx.n_Call_counted : NoAttr K (He.ga K "Call") "counted" := He.noat_ok (T.f 161 rfl)
theorem Tx.n_Call_retries : NoAttr K (He.ga K "Call") "retries" := He.noat_ok (T.f 162 rfl)
theorem Tx.n_Call_transparent : NoAttr K (He.ga K "Call") "transparent" := He.noat_ok (T.f 163 rfl)
theorem Tx.n_Call_retry_at : NoAttr K (He.ga K "Call") "retry_at" := He.noat_ok (T.f 164 rfl)
theorem Tx.n_Call_hedge_at : NoAttr K (He.ga K "Call") "hedge_at" := He.noat_ok (T.f 165 rfl)
theorem Tx.n_Call_finished_at : NoAttr K (He.ga K "Call") "finished_at" := He.noat_ok (T.f 166 rfl)
theorem Tx.n_Call_attempts : NoAttr K (He.ga K "Call") "attempts" := He.noat_ok (T.f 167 rfl)
theorem Tx.g_Attempt : mg "Attempt" = some (.ref (He.ga K "Attempt")) := T.gl (T.f 168 rfl)
theorem Tx.c_Attempt : Cls K (He.ga K "Attempt") := He.cls_ok (T.f 169 rfl)
theorem Tx.m_Attempt : Mk K (He.ga K "Attempt") (He.ma K (He.ga K "Attempt") "__init__") := He.mkr_ok (T.f 170 rfl)
theorem Tx.n_Attempt_number : NoAttr K (He.ga K "Attempt") "number" := He.noat_ok (T.f 171 rfl)
theorem Tx.n_Attempt_call : NoAttr K (He.ga K "Attempt") "call" := He.noat_ok (T.f 172 rfl)
theorem Tx.n_Attempt_backend : NoAttr K (He.ga K "Attempt") "backend" := He.noat_ok (T.f 173 rfl)
theorem Tx.n_Attempt_place : NoAttr K (He.ga K "Attempt") "place" := He.noat_ok (T.f 174 rfl)
theorem Tx.n_Attempt_started_at : NoAttr K (He.ga K "Attempt") "started_at" := He.noat_ok (T.f 175 rfl)
theorem Tx.n_Attempt_state : NoAttr K (He.ga K "Attempt") "state" := He.noat_ok (T.f 176 rfl)
theorem Tx.n_Attempt_status : NoAttr K (He.ga K "Attempt") "status" := He.noat_ok (T.f 177 rfl)
theorem Tx.g_Client : mg "Client" = some (.ref (He.ga K "Client")) := T.gl (T.f 178 rfl)
theorem Tx.c_Client : Cls K (He.ga K "Client") := He.cls_ok (T.f 179 rfl)
theorem Tx.m_Client : Mk K (He.ga K "Client") (He.ma K (He.ga K "Client") "__init__") := He.mkr_ok (T.f 180 rfl)
theorem Tx.n_Client_seed : NoAttr K (He.ga K "Client") "seed" := He.noat_ok (T.f 181 rfl)
theorem Tx.n_Client_balancer : NoAttr K (He.ga K "Client") "balancer" := He.noat_ok (T.f 182 rfl)
theorem Tx.n_Client_policy : NoAttr K (He.ga K "Client") "policy" := He.noat_ok (T.f 183 rfl)
theorem Tx.n_Client_now : NoAttr K (He.ga K "Client") "now" := He.noat_ok (T.f 184 rfl)
theorem Tx.n_Client_tokens : NoAttr K (He.ga K "Client") "tokens" := He.noat_ok (T.f 185 rfl)
theorem Tx.n_Client_pointer : NoAttr K (He.ga K "Client") "pointer" := He.noat_ok (T.f 186 rfl)
theorem Tx.n_Client_backends : NoAttr K (He.ga K "Client") "backends" := He.noat_ok (T.f 187 rfl)
theorem Tx.n_Client_calls : NoAttr K (He.ga K "Client") "calls" := He.noat_ok (T.f 188 rfl)
theorem Tx.n_Client_attempts : NoAttr K (He.ga K "Client") "attempts" := He.noat_ok (T.f 189 rfl)
theorem Tx.n_Client_retries : NoAttr K (He.ga K "Client") "retries" := He.noat_ok (T.f 190 rfl)
theorem Tx.n_Client_hedges : NoAttr K (He.ga K "Client") "hedges" := He.noat_ok (T.f 191 rfl)
theorem Tx.n_Client_transparents : NoAttr K (He.ga K "Client") "transparents" := He.noat_ok (T.f 192 rfl)
theorem Tx.g_Session : mg "Session" = some (.ref (He.ga K "Session")) := T.gl (T.f 193 rfl)
theorem Tx.c_Session : Cls K (He.ga K "Session") := He.cls_ok (T.f 194 rfl)
theorem Tx.m_Session : Mk K (He.ga K "Session") (He.ma K (He.ga K "Session") "__init__") := He.mkr_ok (T.f 195 rfl)
theorem Tx.n_Session_client : NoAttr K (He.ga K "Session") "client" := He.noat_ok (T.f 196 rfl)
theorem Tx.d_within : ∃ fd, FunD K "within" "within" (defArgs s_within) (defBody s_within) (defScope s_within) [] [] (He.ga K "within") fd := T.defs _ (List.mem_of_getElem? (i := 0) rfl)
theorem Tx.d_is_status : ∃ fd, FunD K "is_status" "is_status" (defArgs s_is_status) (defBody s_is_status) (defScope s_is_status) [] [] (He.ga K "is_status") fd := T.defs _ (List.mem_of_getElem? (i := 1) rfl)
theorem Tx.d_parameters_allowed : ∃ fd, FunD K "parameters_allowed" "parameters_allowed" (defArgs s_parameters_allowed) (defBody s_parameters_allowed) (defScope s_parameters_allowed) [] [] (He.ga K "parameters_allowed") fd := T.defs _ (List.mem_of_getElem? (i := 2) rfl)
theorem Tx.d_backoff_bound : ∃ fd, FunD K "backoff_bound" "backoff_bound" (defArgs s_backoff_bound) (defBody s_backoff_bound) (defScope s_backoff_bound) [] [] (He.ga K "backoff_bound") fd := T.defs _ (List.mem_of_getElem? (i := 3) rfl)
theorem Tx.d_most_tokens : ∃ fd, FunD K "most_tokens" "most_tokens" (defArgs s_most_tokens) (defBody s_most_tokens) (defScope s_most_tokens) [] [] (He.ga K "most_tokens") fd := T.defs _ (List.mem_of_getElem? (i := 4) rfl)
theorem Tx.d_active_backends : ∃ fd, FunD K "active_backends" "active_backends" (defArgs s_active_backends) (defBody s_active_backends) (defScope s_active_backends) [] [] (He.ga K "active_backends") fd := T.defs _ (List.mem_of_getElem? (i := 5) rfl)
theorem Tx.d_running_among : ∃ fd, FunD K "running_among" "running_among" (defArgs s_running_among) (defBody s_running_among) (defScope s_running_among) [] [] (He.ga K "running_among") fd := T.defs _ (List.mem_of_getElem? (i := 6) rfl)
theorem Tx.d_is_ejected : ∃ fd, FunD K "is_ejected" "is_ejected" (defArgs s_is_ejected) (defBody s_is_ejected) (defScope s_is_ejected) [] [] (He.ga K "is_ejected") fd := T.defs _ (List.mem_of_getElem? (i := 7) rfl)
theorem Tx.d_is_available : ∃ fd, FunD K "is_available" "is_available" (defArgs s_is_available) (defBody s_is_available) (defScope s_is_available) [] [] (He.ga K "is_available") fd := T.defs _ (List.mem_of_getElem? (i := 8) rfl)
theorem Tx.d_available_backends : ∃ fd, FunD K "available_backends" "available_backends" (defArgs s_available_backends) (defBody s_available_backends) (defScope s_available_backends) [] [] (He.ga K "available_backends") fd := T.defs _ (List.mem_of_getElem? (i := 9) rfl)
theorem Tx.d_candidates : ∃ fd, FunD K "candidates" "candidates" (defArgs s_candidates) (defBody s_candidates) (defScope s_candidates) [] [] (He.ga K "candidates") fd := T.defs _ (List.mem_of_getElem? (i := 10) rfl)
theorem Tx.d_pick : ∃ fd, FunD K "pick" "pick" (defArgs s_pick) (defBody s_pick) (defScope s_pick) [] [] (He.ga K "pick") fd := T.defs _ (List.mem_of_getElem? (i := 11) rfl)
theorem Tx.d_note_choice : ∃ fd, FunD K "note_choice" "note_choice" (defArgs s_note_choice) (defBody s_note_choice) (defScope s_note_choice) [] [] (He.ga K "note_choice") fd := T.defs _ (List.mem_of_getElem? (i := 12) rfl)
theorem Tx.d_key_hash : ∃ fd, FunD K "key_hash" "key_hash" (defArgs s_key_hash) (defBody s_key_hash) (defScope s_key_hash) [] [] (He.ga K "key_hash") fd := T.defs _ (List.mem_of_getElem? (i := 13) rfl)
theorem Tx.d_mixed : ∃ fd, FunD K "mixed" "mixed" (defArgs s_mixed) (defBody s_mixed) (defScope s_mixed) [] [] (He.ga K "mixed") fd := T.defs _ (List.mem_of_getElem? (i := 14) rfl)
theorem Tx.d_note_failure : ∃ fd, FunD K "note_failure" "note_failure" (defArgs s_note_failure) (defBody s_note_failure) (defScope s_note_failure) [] [] (He.ga K "note_failure") fd := T.defs _ (List.mem_of_getElem? (i := 15) rfl)
theorem Tx.d_room_for_ejection : ∃ fd, FunD K "room_for_ejection" "room_for_ejection" (defArgs s_room_for_ejection) (defBody s_room_for_ejection) (defScope s_room_for_ejection) [] [] (He.ga K "room_for_ejection") fd := T.defs _ (List.mem_of_getElem? (i := 16) rfl)
theorem Tx.d_eject : ∃ fd, FunD K "eject" "eject" (defArgs s_eject) (defBody s_eject) (defScope s_eject) [] [] (He.ga K "eject") fd := T.defs _ (List.mem_of_getElem? (i := 17) rfl)
theorem Tx.d_budget_allows : ∃ fd, FunD K "budget_allows" "budget_allows" (defArgs s_budget_allows) (defBody s_budget_allows) (defScope s_budget_allows) [] [] (He.ga K "budget_allows") fd := T.defs _ (List.mem_of_getElem? (i := 18) rfl)
theorem Tx.d_start_attempt : ∃ fd, FunD K "start_attempt" "start_attempt" (defArgs s_start_attempt) (defBody s_start_attempt) (defScope s_start_attempt) [] [] (He.ga K "start_attempt") fd := T.defs _ (List.mem_of_getElem? (i := 19) rfl)
theorem Tx.d_hedge_time : ∃ fd, FunD K "hedge_time" "hedge_time" (defArgs s_hedge_time) (defBody s_hedge_time) (defScope s_hedge_time) [] [] (He.ga K "hedge_time") fd := T.defs _ (List.mem_of_getElem? (i := 20) rfl)
theorem Tx.d_end_call : ∃ fd, FunD K "end_call" "end_call" (defArgs s_end_call) (defBody s_end_call) (defScope s_end_call) [] [] (He.ga K "end_call") fd := T.defs _ (List.mem_of_getElem? (i := 21) rfl)
theorem Tx.d_stop_attempt : ∃ fd, FunD K "stop_attempt" "stop_attempt" (defArgs s_stop_attempt) (defBody s_stop_attempt) (defScope s_stop_attempt) [] [] (He.ga K "stop_attempt") fd := T.defs _ (List.mem_of_getElem? (i := 22) rfl)
theorem Tx.d_end_attempt : ∃ fd, FunD K "end_attempt" "end_attempt" (defArgs s_end_attempt) (defBody s_end_attempt) (defScope s_end_attempt) [] [] (He.ga K "end_attempt") fd := T.defs _ (List.mem_of_getElem? (i := 23) rfl)
theorem Tx.d_follow_failure : ∃ fd, FunD K "follow_failure" "follow_failure" (defArgs s_follow_failure) (defBody s_follow_failure) (defScope s_follow_failure) [] [] (He.ga K "follow_failure") fd := T.defs _ (List.mem_of_getElem? (i := 24) rfl)
theorem Tx.d_may_repeat : ∃ fd, FunD K "may_repeat" "may_repeat" (defArgs s_may_repeat) (defBody s_may_repeat) (defScope s_may_repeat) [] [] (He.ga K "may_repeat") fd := T.defs _ (List.mem_of_getElem? (i := 25) rfl)
theorem Tx.d_retry_later : ∃ fd, FunD K "retry_later" "retry_later" (defArgs s_retry_later) (defBody s_retry_later) (defScope s_retry_later) [] [] (He.ga K "retry_later") fd := T.defs _ (List.mem_of_getElem? (i := 26) rfl)
theorem Tx.d_retry_delay : ∃ fd, FunD K "retry_delay" "retry_delay" (defArgs s_retry_delay) (defBody s_retry_delay) (defScope s_retry_delay) [] [] (He.ga K "retry_delay") fd := T.defs _ (List.mem_of_getElem? (i := 27) rfl)
theorem Tx.d_no_client : ∃ fd, FunD K "no_client" "no_client" (defArgs s_no_client) (defBody s_no_client) (defScope s_no_client) [] [] (He.ga K "no_client") fd := T.defs _ (List.mem_of_getElem? (i := 28) rfl)
theorem Tx.d_missing : ∃ fd, FunD K "missing" "missing" (defArgs s_missing) (defBody s_missing) (defScope s_missing) [] [] (He.ga K "missing") fd := T.defs _ (List.mem_of_getElem? (i := 29) rfl)
theorem Tx.d_outside_limits : ∃ fd, FunD K "outside_limits" "outside_limits" (defArgs s_outside_limits) (defBody s_outside_limits) (defScope s_outside_limits) [] [] (He.ga K "outside_limits") fd := T.defs _ (List.mem_of_getElem? (i := 30) rfl)
theorem Tx.d_not_running : ∃ fd, FunD K "not_running" "not_running" (defArgs s_not_running) (defBody s_not_running) (defScope s_not_running) [] [] (He.ga K "not_running") fd := T.defs _ (List.mem_of_getElem? (i := 31) rfl)
theorem Tx.d_too_many : ∃ fd, FunD K "too_many" "too_many" (defArgs s_too_many) (defBody s_too_many) (defScope s_too_many) [] [] (He.ga K "too_many") fd := T.defs _ (List.mem_of_getElem? (i := 32) rfl)
theorem Tx.d_nothing_there : ∃ fd, FunD K "nothing_there" "nothing_there" (defArgs s_nothing_there) (defBody s_nothing_there) (defScope s_nothing_there) [] [] (He.ga K "nothing_there") fd := T.defs _ (List.mem_of_getElem? (i := 33) rfl)
theorem Tx.d_timers_of : ∃ fd, FunD K "timers_of" "timers_of" (defArgs s_timers_of) (defBody s_timers_of) (defScope s_timers_of) [] [] (He.ga K "timers_of") fd := T.defs _ (List.mem_of_getElem? (i := 34) rfl)
theorem Tx.d_earliest_timer : ∃ fd, FunD K "earliest_timer" "earliest_timer" (defArgs s_earliest_timer) (defBody s_earliest_timer) (defScope s_earliest_timer) [] [] (He.ga K "earliest_timer") fd := T.defs _ (List.mem_of_getElem? (i := 35) rfl)
theorem Tx.d_fire : ∃ fd, FunD K "fire" "fire" (defArgs s_fire) (defBody s_fire) (defScope s_fire) [] [] (He.ga K "fire") fd := T.defs _ (List.mem_of_getElem? (i := 36) rfl)
theorem Tx.d_fire_until : ∃ fd, FunD K "fire_until" "fire_until" (defArgs s_fire_until) (defBody s_fire_until) (defScope s_fire_until) [] [] (He.ga K "fire_until") fd := T.defs _ (List.mem_of_getElem? (i := 37) rfl)
theorem Tx.d_final_status : ∃ fd, FunD K "final_status" "final_status" (defArgs s_final_status) (defBody s_final_status) (defScope s_final_status) [] [] (He.ga K "final_status") fd := T.defs _ (List.mem_of_getElem? (i := 38) rfl)
theorem Tx.d_is_active : ∃ fd, FunD K "is_active" "is_active" (defArgs s_is_active) (defBody s_is_active) (defScope s_is_active) [] [] (He.ga K "is_active") fd := T.defs _ (List.mem_of_getElem? (i := 39) rfl)
theorem Tx.d_is_weight : ∃ fd, FunD K "is_weight" "is_weight" (defArgs s_is_weight) (defBody s_is_weight) (defScope s_is_weight) [] [] (He.ga K "is_weight") fd := T.defs _ (List.mem_of_getElem? (i := 40) rfl)
theorem Tx.d_add_backend : ∃ fd, FunD K "add_backend" "add_backend" (defArgs s_add_backend) (defBody s_add_backend) (defScope s_add_backend) [] [] (He.ga K "add_backend") fd := T.defs _ (List.mem_of_getElem? (i := 41) rfl)
theorem Tx.d_remove_backend : ∃ fd, FunD K "remove_backend" "remove_backend" (defArgs s_remove_backend) (defBody s_remove_backend) (defScope s_remove_backend) [] [] (He.ga K "remove_backend") fd := T.defs _ (List.mem_of_getElem? (i := 42) rfl)
theorem Tx.d_set_weight : ∃ fd, FunD K "set_weight" "set_weight" (defArgs s_set_weight) (defBody s_set_weight) (defScope s_set_weight) [] [] (He.ga K "set_weight") fd := T.defs _ (List.mem_of_getElem? (i := 43) rfl)
theorem Tx.d_start_call : ∃ fd, FunD K "start_call" "start_call" (defArgs s_start_call) (defBody s_start_call) (defScope s_start_call) [] [] (He.ga K "start_call") fd := T.defs _ (List.mem_of_getElem? (i := 44) rfl)
theorem Tx.d_complete : ∃ fd, FunD K "complete" "complete" (defArgs s_complete) (defBody s_complete) (defScope s_complete) [] [] (He.ga K "complete") fd := T.defs _ (List.mem_of_getElem? (i := 45) rfl)
theorem Tx.d_cancel : ∃ fd, FunD K "cancel" "cancel" (defArgs s_cancel) (defBody s_cancel) (defScope s_cancel) [] [] (He.ga K "cancel") fd := T.defs _ (List.mem_of_getElem? (i := 46) rfl)
theorem Tx.d_advance : ∃ fd, FunD K "advance" "advance" (defArgs s_advance) (defBody s_advance) (defScope s_advance) [] [] (He.ga K "advance") fd := T.defs _ (List.mem_of_getElem? (i := 47) rfl)
theorem Tx.d_run : ∃ fd, FunD K "run" "run" (defArgs s_run) (defBody s_run) (defScope s_run) [] [] (He.ga K "run") fd := T.defs _ (List.mem_of_getElem? (i := 48) rfl)
theorem Tx.d_run_step : ∃ fd, FunD K "run_step" "run_step" (defArgs s_run_step) (defBody s_run_step) (defScope s_run_step) [] [] (He.ga K "run_step") fd := T.defs _ (List.mem_of_getElem? (i := 49) rfl)
theorem Tx.d_time_told : ∃ fd, FunD K "time_told" "time_told" (defArgs s_time_told) (defBody s_time_told) (defScope s_time_told) [] [] (He.ga K "time_told") fd := T.defs _ (List.mem_of_getElem? (i := 50) rfl)
theorem Tx.d_truth_told : ∃ fd, FunD K "truth_told" "truth_told" (defArgs s_truth_told) (defBody s_truth_told) (defScope s_truth_told) [] [] (He.ga K "truth_told") fd := T.defs _ (List.mem_of_getElem? (i := 51) rfl)
theorem Tx.d_numbers_told : ∃ fd, FunD K "numbers_told" "numbers_told" (defArgs s_numbers_told) (defBody s_numbers_told) (defScope s_numbers_told) [] [] (He.ga K "numbers_told") fd := T.defs _ (List.mem_of_getElem? (i := 52) rfl)
theorem Tx.d_tell_next_timer : ∃ fd, FunD K "tell_next_timer" "tell_next_timer" (defArgs s_tell_next_timer) (defBody s_tell_next_timer) (defScope s_tell_next_timer) [] [] (He.ga K "tell_next_timer") fd := T.defs _ (List.mem_of_getElem? (i := 53) rfl)
theorem Tx.d_tell_call : ∃ fd, FunD K "tell_call" "tell_call" (defArgs s_tell_call) (defBody s_tell_call) (defScope s_tell_call) [] [] (He.ga K "tell_call") fd := T.defs _ (List.mem_of_getElem? (i := 54) rfl)
theorem Tx.d_tell_attempt : ∃ fd, FunD K "tell_attempt" "tell_attempt" (defArgs s_tell_attempt) (defBody s_tell_attempt) (defScope s_tell_attempt) [] [] (He.ga K "tell_attempt") fd := T.defs _ (List.mem_of_getElem? (i := 55) rfl)
theorem Tx.d_tell_call_attempts : ∃ fd, FunD K "tell_call_attempts" "tell_call_attempts" (defArgs s_tell_call_attempts) (defBody s_tell_call_attempts) (defScope s_tell_call_attempts) [] [] (He.ga K "tell_call_attempts") fd := T.defs _ (List.mem_of_getElem? (i := 56) rfl)
theorem Tx.d_tell_backend : ∃ fd, FunD K "tell_backend" "tell_backend" (defArgs s_tell_backend) (defBody s_tell_backend) (defScope s_tell_backend) [] [] (He.ga K "tell_backend") fd := T.defs _ (List.mem_of_getElem? (i := 57) rfl)
theorem Tx.d_tell_running_attempts : ∃ fd, FunD K "tell_running_attempts" "tell_running_attempts" (defArgs s_tell_running_attempts) (defBody s_tell_running_attempts) (defScope s_tell_running_attempts) [] [] (He.ga K "tell_running_attempts") fd := T.defs _ (List.mem_of_getElem? (i := 58) rfl)
theorem Tx.d_tell_preview : ∃ fd, FunD K "tell_preview" "tell_preview" (defArgs s_tell_preview) (defBody s_tell_preview) (defScope s_tell_preview) [] [] (He.ga K "tell_preview") fd := T.defs _ (List.mem_of_getElem? (i := 59) rfl)
theorem Tx.d_tell_ranking : ∃ fd, FunD K "tell_ranking" "tell_ranking" (defArgs s_tell_ranking) (defBody s_tell_ranking) (defScope s_tell_ranking) [] [] (He.ga K "tell_ranking") fd := T.defs _ (List.mem_of_getElem? (i := 60) rfl)
theorem Tx.d_tell_hash : ∃ fd, FunD K "tell_hash" "tell_hash" (defArgs s_tell_hash) (defBody s_tell_hash) (defScope s_tell_hash) [] [] (He.ga K "tell_hash") fd := T.defs _ (List.mem_of_getElem? (i := 61) rfl)
theorem Tx.d_tell_available_backends : ∃ fd, FunD K "tell_available_backends" "tell_available_backends" (defArgs s_tell_available_backends) (defBody s_tell_available_backends) (defScope s_tell_available_backends) [] [] (He.ga K "tell_available_backends") fd := T.defs _ (List.mem_of_getElem? (i := 62) rfl)
theorem Tx.d_tell_backoff_bound : ∃ fd, FunD K "tell_backoff_bound" "tell_backoff_bound" (defArgs s_tell_backoff_bound) (defBody s_tell_backoff_bound) (defScope s_tell_backoff_bound) [] [] (He.ga K "tell_backoff_bound") fd := T.defs _ (List.mem_of_getElem? (i := 63) rfl)
theorem Tx.d_tell_budget : ∃ fd, FunD K "tell_budget" "tell_budget" (defArgs s_tell_budget) (defBody s_tell_budget) (defScope s_tell_budget) [] [] (He.ga K "tell_budget") fd := T.defs _ (List.mem_of_getElem? (i := 64) rfl)
theorem Tx.d_tell_totals : ∃ fd, FunD K "tell_totals" "tell_totals" (defArgs s_tell_totals) (defBody s_tell_totals) (defScope s_tell_totals) [] [] (He.ga K "tell_totals") fd := T.defs _ (List.mem_of_getElem? (i := 65) rfl)
theorem Tx.d_tell_status : ∃ fd, FunD K "tell_status" "tell_status" (defArgs s_tell_status) (defBody s_tell_status) (defScope s_tell_status) [] [] (He.ga K "tell_status") fd := T.defs _ (List.mem_of_getElem? (i := 66) rfl)
theorem Tx.d_answers : ∃ fd, FunD K "answers" "answers" (defArgs s_answers) (defBody s_answers) (defScope s_answers) [] [] (He.ga K "answers") fd := T.defs _ (List.mem_of_getElem? (i := 67) rfl)
theorem Tx.d_answer_call : ∃ fd, FunD K "answer_call" "answer_call" (defArgs s_answer_call) (defBody s_answer_call) (defScope s_answer_call) [] [] (He.ga K "answer_call") fd := T.defs _ (List.mem_of_getElem? (i := 68) rfl)
theorem Tx.d_answer_create : ∃ fd, FunD K "answer_create" "answer_create" (defArgs s_answer_create) (defBody s_answer_create) (defScope s_answer_create) [] [] (He.ga K "answer_create") fd := T.defs _ (List.mem_of_getElem? (i := 69) rfl)
theorem Tx.d_answer_add_backend : ∃ fd, FunD K "answer_add_backend" "answer_add_backend" (defArgs s_answer_add_backend) (defBody s_answer_add_backend) (defScope s_answer_add_backend) [] [] (He.ga K "answer_add_backend") fd := T.defs _ (List.mem_of_getElem? (i := 70) rfl)
theorem Tx.d_answer_remove_backend : ∃ fd, FunD K "answer_remove_backend" "answer_remove_backend" (defArgs s_answer_remove_backend) (defBody s_answer_remove_backend) (defScope s_answer_remove_backend) [] [] (He.ga K "answer_remove_backend") fd := T.defs _ (List.mem_of_getElem? (i := 71) rfl)
theorem Tx.d_answer_set_weight : ∃ fd, FunD K "answer_set_weight" "answer_set_weight" (defArgs s_answer_set_weight) (defBody s_answer_set_weight) (defScope s_answer_set_weight) [] [] (He.ga K "answer_set_weight") fd := T.defs _ (List.mem_of_getElem? (i := 72) rfl)
theorem Tx.d_answer_start_call : ∃ fd, FunD K "answer_start_call" "answer_start_call" (defArgs s_answer_start_call) (defBody s_answer_start_call) (defScope s_answer_start_call) [] [] (He.ga K "answer_start_call") fd := T.defs _ (List.mem_of_getElem? (i := 73) rfl)
theorem Tx.d_answer_complete : ∃ fd, FunD K "answer_complete" "answer_complete" (defArgs s_answer_complete) (defBody s_answer_complete) (defScope s_answer_complete) [] [] (He.ga K "answer_complete") fd := T.defs _ (List.mem_of_getElem? (i := 74) rfl)
theorem Tx.d_answer_cancel : ∃ fd, FunD K "answer_cancel" "answer_cancel" (defArgs s_answer_cancel) (defBody s_answer_cancel) (defScope s_answer_cancel) [] [] (He.ga K "answer_cancel") fd := T.defs _ (List.mem_of_getElem? (i := 75) rfl)
theorem Tx.d_answer_advance : ∃ fd, FunD K "answer_advance" "answer_advance" (defArgs s_answer_advance) (defBody s_answer_advance) (defScope s_answer_advance) [] [] (He.ga K "answer_advance") fd := T.defs _ (List.mem_of_getElem? (i := 76) rfl)
theorem Tx.d_answer_next_timer : ∃ fd, FunD K "answer_next_timer" "answer_next_timer" (defArgs s_answer_next_timer) (defBody s_answer_next_timer) (defScope s_answer_next_timer) [] [] (He.ga K "answer_next_timer") fd := T.defs _ (List.mem_of_getElem? (i := 77) rfl)
theorem Tx.d_answer_run : ∃ fd, FunD K "answer_run" "answer_run" (defArgs s_answer_run) (defBody s_answer_run) (defScope s_answer_run) [] [] (He.ga K "answer_run") fd := T.defs _ (List.mem_of_getElem? (i := 78) rfl)
theorem Tx.d_answer_call_info : ∃ fd, FunD K "answer_call_info" "answer_call_info" (defArgs s_answer_call_info) (defBody s_answer_call_info) (defScope s_answer_call_info) [] [] (He.ga K "answer_call_info") fd := T.defs _ (List.mem_of_getElem? (i := 79) rfl)
theorem Tx.d_answer_attempt_info : ∃ fd, FunD K "answer_attempt_info" "answer_attempt_info" (defArgs s_answer_attempt_info) (defBody s_answer_attempt_info) (defScope s_answer_attempt_info) [] [] (He.ga K "answer_attempt_info") fd := T.defs _ (List.mem_of_getElem? (i := 80) rfl)
theorem Tx.d_answer_call_attempts : ∃ fd, FunD K "answer_call_attempts" "answer_call_attempts" (defArgs s_answer_call_attempts) (defBody s_answer_call_attempts) (defScope s_answer_call_attempts) [] [] (He.ga K "answer_call_attempts") fd := T.defs _ (List.mem_of_getElem? (i := 81) rfl)
theorem Tx.d_answer_backend_info : ∃ fd, FunD K "answer_backend_info" "answer_backend_info" (defArgs s_answer_backend_info) (defBody s_answer_backend_info) (defScope s_answer_backend_info) [] [] (He.ga K "answer_backend_info") fd := T.defs _ (List.mem_of_getElem? (i := 82) rfl)
theorem Tx.d_answer_running_attempts : ∃ fd, FunD K "answer_running_attempts" "answer_running_attempts" (defArgs s_answer_running_attempts) (defBody s_answer_running_attempts) (defScope s_answer_running_attempts) [] [] (He.ga K "answer_running_attempts") fd := T.defs _ (List.mem_of_getElem? (i := 83) rfl)
theorem Tx.d_answer_preview_choice : ∃ fd, FunD K "answer_preview_choice" "answer_preview_choice" (defArgs s_answer_preview_choice) (defBody s_answer_preview_choice) (defScope s_answer_preview_choice) [] [] (He.ga K "answer_preview_choice") fd := T.defs _ (List.mem_of_getElem? (i := 84) rfl)
theorem Tx.d_answer_ranking : ∃ fd, FunD K "answer_ranking" "answer_ranking" (defArgs s_answer_ranking) (defBody s_answer_ranking) (defScope s_answer_ranking) [] [] (He.ga K "answer_ranking") fd := T.defs _ (List.mem_of_getElem? (i := 85) rfl)
theorem Tx.d_answer_hash : ∃ fd, FunD K "answer_hash" "answer_hash" (defArgs s_answer_hash) (defBody s_answer_hash) (defScope s_answer_hash) [] [] (He.ga K "answer_hash") fd := T.defs _ (List.mem_of_getElem? (i := 86) rfl)
theorem Tx.d_answer_available_backends : ∃ fd, FunD K "answer_available_backends" "answer_available_backends" (defArgs s_answer_available_backends) (defBody s_answer_available_backends) (defScope s_answer_available_backends) [] [] (He.ga K "answer_available_backends") fd := T.defs _ (List.mem_of_getElem? (i := 87) rfl)
theorem Tx.d_answer_backoff_bound : ∃ fd, FunD K "answer_backoff_bound" "answer_backoff_bound" (defArgs s_answer_backoff_bound) (defBody s_answer_backoff_bound) (defScope s_answer_backoff_bound) [] [] (He.ga K "answer_backoff_bound") fd := T.defs _ (List.mem_of_getElem? (i := 88) rfl)
theorem Tx.d_answer_budget : ∃ fd, FunD K "answer_budget" "answer_budget" (defArgs s_answer_budget) (defBody s_answer_budget) (defScope s_answer_budget) [] [] (He.ga K "answer_budget") fd := T.defs _ (List.mem_of_getElem? (i := 89) rfl)
theorem Tx.d_answer_totals : ∃ fd, FunD K "answer_totals" "answer_totals" (defArgs s_answer_totals) (defBody s_answer_totals) (defScope s_answer_totals) [] [] (He.ga K "answer_totals") fd := T.defs _ (List.mem_of_getElem? (i := 90) rfl)
theorem Tx.d_answer_status : ∃ fd, FunD K "answer_status" "answer_status" (defArgs s_answer_status) (defBody s_answer_status) (defScope s_answer_status) [] [] (He.ga K "answer_status") fd := T.defs _ (List.mem_of_getElem? (i := 91) rfl)
theorem Tx.d_Policy_init : ∃ fd, FunD K "__init__" "Policy.__init__" (defArgs s_Policy_init) (defBody s_Policy_init) (defScope s_Policy_init) [] [] (He.ma K (He.ga K "Policy") "__init__") fd := T.defs _ (List.mem_of_getElem? (i := 92) rfl)
theorem Tx.d_Backend_init : ∃ fd, FunD K "__init__" "Backend.__init__" (defArgs s_Backend_init) (defBody s_Backend_init) (defScope s_Backend_init) [] [] (He.ma K (He.ga K "Backend") "__init__") fd := T.defs _ (List.mem_of_getElem? (i := 93) rfl)
theorem Tx.d_Call_init : ∃ fd, FunD K "__init__" "Call.__init__" (defArgs s_Call_init) (defBody s_Call_init) (defScope s_Call_init) [] [] (He.ma K (He.ga K "Call") "__init__") fd := T.defs _ (List.mem_of_getElem? (i := 94) rfl)
theorem Tx.d_Attempt_init : ∃ fd, FunD K "__init__" "Attempt.__init__" (defArgs s_Attempt_init) (defBody s_Attempt_init) (defScope s_Attempt_init) [] [] (He.ma K (He.ga K "Attempt") "__init__") fd := T.defs _ (List.mem_of_getElem? (i := 95) rfl)
theorem Tx.d_Client_init : ∃ fd, FunD K "__init__" "Client.__init__" (defArgs s_Client_init) (defBody s_Client_init) (defScope s_Client_init) [] [] (He.ma K (He.ga K "Client") "__init__") fd := T.defs _ (List.mem_of_getElem? (i := 96) rfl)
theorem Tx.d_Session_init : ∃ fd, FunD K "__init__" "Session.__init__" (defArgs s_Session_init) (defBody s_Session_init) (defScope s_Session_init) [] [] (He.ma K (He.ga K "Session") "__init__") fd := T.defs _ (List.mem_of_getElem? (i := 97) rfl)
end

/-- the def at the address f keeps the promise sp, at most k levels deep -/
structure GF (P : Program) (w : World) (K : PySem.W.Frag) (mg : Str → Option Value) (base : Heap) (k : Nat) (f : Addr) (ps : List Str) (sp : Sp) : Prop where
  ex : ∃ fd, FnOk P w K mg base L2.CX0 k f fd ps sp ∧ Binds K fd ps []
  kp : PySem.W.keepIn K (.ref f) = true
theorem GF.mono {P : Program} {w : World} {K : PySem.W.Frag} {mg : Str → Option Value} {base : Heap} {j k : Nat} {f : Addr} {ps : List Str} {sp : Sp} (G : GF P w K mg base j f ps sp) (h : j ≤ k) : GF P w K mg base k f ps sp :=
  ⟨let ⟨fd, a, b⟩ := G.ex; ⟨fd, a.mono h, b⟩, G.kp⟩
theorem GF.imp {P : Program} {w : World} {K : PySem.W.Frag} {mg : Str → Option Value} {base : Heap} {k : Nat} {f : Addr} {ps : List Str} {sp sp' : Sp} (G : GF P w K mg base k f ps sp) (h : ∀ vs H Q E, sp' vs H Q E → sp vs H Q E) : GF P w K mg base k f ps sp' :=
  ⟨let ⟨fd, a, b⟩ := G.ex; ⟨fd, a.imp h, b⟩, G.kp⟩
section
variable {P : Program} {w : World} {K : PySem.W.Frag} {mg : Str → Option Value} {base : Heap} {x qual : Str} {st : Stmt} {f : Addr}
/-- THE DEF RULE: its body has a reading, and the promise gives the reading -/
theorem GF.of {N ps : List Str} {k : Nat} {sp : Sp} (F : ∃ fd, FunD K x qual (defArgs st) (defBody st) (defScope st) [] [] f fd) (S : FnScope N ps (defScope st)) (len : ∀ vs H Q E, sp vs H Q E → vs.length = ps.length)
    (hb : ∀ (kV doc pm : Value) (an : Option Addr) (cdv ct : Value) (us : List Value), us.length = ps.length → bindArgs (PySem.W.fnOf x qual (defArgs st) (defBody st) (defScope st) .none kV doc pm an cdv ct) ⟨us, []⟩ = pure (ps.zip us))
    (hbody : ∀ (cdv : Value) (A : Around) (outer : List Env) (s : Shared) (H : Hp) (vs : List V) (Q : VK) (E : XK), Room k (A.deeper (envOfC qual (defScope st) s.heap.objs.size f cdv)) → sp vs H Q E →
      ∃ t, PSs (cxOf L2.CX0 P w K mg base N qual (defScope st) f cdv A outer s H E) (defBody st) t ∧ t { nx := fun _ H' => Q .non H', rt := Q } (start N vs) H) : GF P w K mg base (k + 1) f ps sp := by
  obtain ⟨fd, F⟩ := F
  exact ⟨⟨fd, F.ok S len hbody, F.bindsN hb⟩, F.kp⟩
/-- .. of a def that makes lambdas: its code object is told -/
theorem GF.ofC {N ps : List Str} {k : Nat} {sp : Sp} {p : He.Defn} (F : ∃ fd, FunD K x qual (defArgs st) (defBody st) (defScope st) [] [] (He.fAd K p) fd) (S : FnScope N ps (defScope st)) (len : ∀ vs H Q E, sp vs H Q E → vs.length = ps.length)
    (hb : ∀ (kV doc pm : Value) (an : Option Addr) (cdv ct : Value) (us : List Value), us.length = ps.length → bindArgs (PySem.W.fnOf x qual (defArgs st) (defBody st) (defScope st) .none kV doc pm an cdv ct) ⟨us, []⟩ = pure (ps.zip us))
    (hbody : ∀ (A : Around) (outer : List Env) (s : Shared) (H : Hp) (vs : List V) (Q : VK) (E : XK), Room k (A.deeper (envOfC qual (defScope st) s.heap.objs.size (He.fAd K p) (.ref (He.codeOf K p)))) → sp vs H Q E →
      ∃ t, PSs (cxOf L2.CX0 P w K mg base N qual (defScope st) (He.fAd K p) (.ref (He.codeOf K p)) A outer s H E) (defBody st) t ∧ t { nx := fun _ H' => Q .non H', rt := Q } (start N vs) H) : GF P w K mg base (k + 1) (He.fAd K p) ps sp := by
  obtain ⟨fd, F⟩ := F
  refine ⟨⟨fd, ?_, F.bindsN hb⟩, F.kp⟩
  obtain ⟨oc, od, dV, kV, doc, pm, an, cdv, ct, osl, rfl, lk, hcd, _, _⟩ := F.ex
  obtain ⟨c, e⟩ := He.codeIn_ref hcd
  have e2 := He.codeOf_eq (p := p) lk e
  subst e
  refine fn_of lk hcd S len fun A outer s H vs Q E hr hsp => ?_
  rw [← e2] at hr ⊢
  exact hbody A outer s H vs Q E hr hsp
end
/-- the tables of code objects that the program's lambdas fill -/
def tbs (K : PySem.W.Frag) : List (Addr × Str) := [((He.cT K ("pick", none)).2, "pick.<locals>.<lambda>"), ((He.cT K ("tell_ranking", none)).2, "tell_ranking.<locals>.<lambda>")]
theorem tbs_pick (K : PySem.W.Frag) : ((He.cT K ("pick", none)).2, ("pick.<locals>.<lambda>" : Str)) ∈ tbs K := List.mem_cons_self ..
theorem tbs_tell_ranking (K : PySem.W.Frag) : ((He.cT K ("tell_ranking", none)).2, ("tell_ranking.<locals>.<lambda>" : Str)) ∈ tbs K := List.mem_cons_of_mem _ (List.mem_cons_self ..)
theorem tbs_pick_only {K : PySem.W.Frag} {mg : Str → Option Value} (X : Tx K mg) : ∀ p ∈ tbs K, p.1 = (He.cT K ("pick", none)).2 → p.2 = ("pick.<locals>.<lambda>" : Str) := fun p hp e => by
  have z := beq_eq_false_iff_ne.mp X.apart
  rcases List.mem_cons.mp hp with rfl | hp
  · rfl
  · rw [List.mem_singleton.mp hp] at e; exact absurd e.symm z
theorem tbs_tell_ranking_only {K : PySem.W.Frag} {mg : Str → Option Value} (X : Tx K mg) : ∀ p ∈ tbs K, p.1 = (He.cT K ("tell_ranking", none)).2 → p.2 = ("tell_ranking.<locals>.<lambda>" : Str) := fun p hp e => by
  have z := beq_eq_false_iff_ne.mp X.apart
  rcases List.mem_cons.mp hp with rfl | hp
  · exact absurd e z
  · rw [List.mem_singleton.mp hp]
section
variable {X : Cx} {k : Nat} {f C : Addr} {ps : List Str} {sp : Sp} {x : Str} {p pos : Pos} {e : Expr} {es : List Expr} {t : TA}
/-- x(e, ..) -/
theorem pe_fn (G : GF X.prog X.w X.K X.mg X.base k f ps sp) (hm : X.mg x = some (.ref f)) (hr : Room k X.A) (ha : PA X (e :: es) t) (hg : Gl X x := by rfl) (hdb : (x == ("__debug__" : Str)) = false := by decide)
    (he : starEach (e :: es) X.env = (false, eval e X.env) :: starEach es X.env := by rfl) (hpl : (backTo pos (starEach es X.env)).any (·.1) = false := by rfl) :
    PE X (.Call (.Name x p) (e :: es) [] pos) (tCall sp [] L2.E0 t) := by
  obtain ⟨fd, F, b⟩ := G.ex
  exact pe_call F hr hg hm G.kp b .nil L2.pass0 ha hdb he hpl
/-- x() -/
theorem pe_fn0 (G : GF X.prog X.w X.K X.mg X.base k f [] sp) (hm : X.mg x = some (.ref f)) (hr : Room k X.A) (hg : Gl X x := by rfl) (hdb : (x == ("__debug__" : Str)) = false := by decide) :
    PE X (.Call (.Name x p) [] [] pos) (tCall sp [] L2.E0 tNil) := by
  obtain ⟨fd, F, b⟩ := G.ex
  exact pe_call0 F hr hg hm G.kp b .nil L2.pass0 hdb
/-- C(e, ..) -/
theorem pe_new (M : Mk X.K C f) (G : GF X.prog X.w X.K X.mg X.base k f ps sp) (hm : X.mg x = some (.ref C)) (hr : Room (k + 1) X.A) (ha : PA X (e :: es) t) (hg : Gl X x := by rfl) (hdb : (x == ("__debug__" : Str)) = false := by decide)
    (he : starEach (e :: es) X.env = (false, eval e X.env) :: starEach es X.env := by rfl) (hpl : (backTo pos (starEach es X.env)).any (·.1) = false := by rfl) :
    PE X (.Call (.Name x p) (e :: es) [] pos) (tMake C sp [] L2.E0 t) := by
  obtain ⟨fd, F, b⟩ := G.ex
  exact pe_make M F hr hg hm b .nil L2.pass0 ha hdb he hpl
end
end HC
end

section
set_option Elab.async false
set_option linter.all false
set_option maxRecDepth 100000
set_option maxHeartbeats 0
namespace HC
open PySem PySem.Spec PyProof.Rows L2

abbrev RW := PySem.Challenge.rw_hedgedcalls_s01_answers
abbrev tfs : List He.Defn := [("pick", none), ("tell_ranking", none)]
abbrev hk : PySem.W.Hook := HookL.hookL asL fcs dfs tfs exB
def obX (s : PySem.W.SharedT) : He.AlX := HookL.obsL asL fcs dfs tfs exB (HeadRun.getT s)
theorem obX_eq (s : PySem.W.SharedT) : obX s = hk.obs s.abs := HookL.obsL_eq (HeadRun.getT_eq s)
end HC
end

section
set_option Elab.async false
set_option linter.all false
set_option maxRecDepth 100000
set_option maxHeartbeats 0
namespace HC
open PySem PySem.Spec PyProof.Rows L2
theorem runF (w : World) : HeadRun.RunEqS RW (PySem.W.view RW.prog [ansAt]) hk obX 8000 loose (w.withFollow "special-get-raises" false) := by
  intro os
  kernel_rfl
end HC
end

section
set_option Elab.async false
set_option linter.all false
set_option maxRecDepth 100000
set_option maxHeartbeats 0
namespace HC
open PySem PySem.Spec PyProof.Rows L2
theorem runT (w : World) : HeadRun.RunEqS RW (PySem.W.view RW.prog [ansAt]) hk obX 8000 loose (w.withFollow "special-get-raises" true) := by
  intro os
  kernel_rfl
end HC
end

section
set_option Elab.async false
set_option linter.all false
set_option maxRecDepth 100000
set_option maxHeartbeats 4000000
namespace HC
open PySem PySem.W PySem.Calls PyProof.Rows
theorem headRun (w : World) : HeadRun.RunEqS RW (PySem.W.view RW.prog [ansAt]) hk obX 8000 loose w := by
  have e := World.withFollow_self w "special-get-raises"
  cases hb : w.params.followText "special-get-raises" <;> rw [hb] at e <;> rw [← e]
  · exact runF w
  · exact runT w
theorem c1 : opening RW.prog = plainProg RW.prog.main.scope.names := by kernel_rfl
theorem c2 (s : Shared) : fenceModules? RW.prog s = some s := by kernel_rfl
theorem c3 : RW.wellSaid = true := by decide +kernel
theorem c4 : (chainsOk (view RW.prog [ansAt]) && opensWell RW.prog) = true := by decide +kernel
theorem c5 : RW.prog.bare := ⟨rfl, rfl, rfl, rfl, rfl, by decide +kernel⟩
abbrev dA : DefRec := HeadRun.topDef RW.prog ansAt
theorem c6 : defOf (view RW.prog [ansAt]) RW.name = some (dA, []) := by kernel_rfl
theorem c7 : RW.prog.theDef RW.name = some (dA.params, dA.body, dA.scope) := by kernel_rfl
theorem c8 : kwWritten? dA.params.kwonlyargs dA.params.kw_defaults = some [] := by kernel_rfl
theorem c9 : ∃ args, RW.pre args = true ∧ WData.layableAll args = true := ⟨[.list [.int 8, .int 0, .int 0]], by decide +kernel, by decide +kernel⟩
end HC
end

section
set_option Elab.async false
set_option linter.all false
set_option maxRecDepth 100000
set_option maxHeartbeats 4000000
namespace HC
open PySem PySem.Spec PyProof.Rows L2 LamX
open Kp423 (Client Backend RemoteCall AttemptState setBackend setCall setAttempt backendAt callAt attemptAt)
/-! ### the state in the heap -/
abbrev nV (n : Nat) : V := .int (n : Int)
def optV : Option Nat → V
  | none => .non
  | some n => nV n
def stN : AttemptState → Nat
  | .running => 0
  | .finished _ => 1
  | .cancelled => 2
def stS : AttemptState → Nat
  | .finished s => s
  | _ => 0
/-- where the objects lie: client, policy, retryable statuses, the three lists; backends, calls, their lists of attempts, attempts -/
structure Lo where
  cl : Addr
  po : Addr
  rt : Addr
  lb : Addr
  lc : Addr
  la : Addr
  bk : Nat → Addr
  ca : Nat → Addr
  al : Nat → Addr
  att : Nat → Addr
inductive Ky where
  | cl | po | rt | lb | lc | la | bk (i : Nat) | ca (i : Nat) | al (i : Nat) | att (i : Nat)
  deriving DecidableEq
def Lo.ad (L : Lo) : Ky → Addr
  | .cl => L.cl
  | .po => L.po
  | .rt => L.rt
  | .lb => L.lb
  | .lc => L.lc
  | .la => L.la
  | .bk i => L.bk i
  | .ca i => L.ca i
  | .al i => L.al i
  | .att i => L.att i
inductive Ob where
  | l (xs : List V)
  | i (C : Str) (fs : List (Str × V))
def clF (L : Lo) (c : Client) : List (Str × V) := [("seed", nV c.seed), ("balancer", nV c.policy.balancer), ("policy", .ref L.po), ("now", nV c.now), ("tokens", nV c.tokens), ("pointer", nV c.pointer), ("backends", .ref L.lb), ("calls", .ref L.lc), ("attempts", .ref L.la), ("retries", nV c.retryCount), ("hedges", nV c.hedgeCount), ("transparents", nV c.transparentCount)]
def poF (L : Lo) (p : Kp423.Policy) : List (Str × V) := [("max_attempts", nV p.maxAttempts), ("initial_backoff", nV p.initialBackoff), ("max_backoff", nV p.maxBackoff), ("multiplier", nV p.multiplier), ("hedge_delay", nV p.hedgeDelay), ("threshold", nV p.threshold), ("ejection_time", nV p.ejectionTime), ("ejection_percent", nV p.ejectionPercent), ("max_tokens", nV p.maxTokens), ("refund", nV p.refund), ("retryable", .ref L.rt)]
def bkF (i : Nat) (b : Backend) : List (Str × V) := [("number", nV i), ("weight", nV b.weight), ("active", .bl b.active), ("current", .int b.current), ("outstanding", nV b.outstanding), ("failures", nV b.failures), ("ejections", nV b.ejections), ("ejected_until", optV b.ejectedUntil)]
def caF (L : Lo) (i : Nat) (x : RemoteCall) : List (Str × V) := [("number", nV i), ("deadline", nV x.deadline), ("idempotent", .bl x.idempotent), ("key", nV x.key), ("status", optV x.status), ("counted", nV x.counted), ("retries", nV x.retries), ("transparent", .bl x.transparent), ("retry_at", optV x.retryAt), ("hedge_at", optV x.hedgeAt), ("finished_at", nV x.finishedAt), ("attempts", .ref (L.al i))]
def atF (L : Lo) (i : Nat) (t : Kp423.Attempt) : List (Str × V) := [("number", nV i), ("call", .ref (L.ca t.call)), ("backend", .ref (L.bk t.backend)), ("place", nV t.number), ("started_at", nV t.startedAt), ("state", nV (stN t.state)), ("status", nV (stS t.state))]
/-- the attempts of a call, in order -/
def atsOf (c : Client) (i : Nat) : List Nat := (List.range c.attempts.length).filter fun a => (attemptAt c a).call == i
def ob (L : Lo) (c : Client) : Ky → Option Ob
  | .cl => some (.i "Client" (clF L c))
  | .po => some (.i "Policy" (poF L c.policy))
  | .rt => some (.l (c.policy.retryable.map nV))
  | .lb => some (.l ((List.range c.backends.length).map fun i => .ref (L.bk i)))
  | .lc => some (.l ((List.range c.calls.length).map fun i => .ref (L.ca i)))
  | .la => some (.l ((List.range c.attempts.length).map fun i => .ref (L.att i)))
  | .bk i => if i < c.backends.length then some (.i "Backend" (bkF i (backendAt c i))) else none
  | .ca i => if i < c.calls.length then some (.i "Call" (caF L i (callAt c i))) else none
  | .al i => if i < c.calls.length then some (.l ((atsOf c i).map fun a => .ref (L.att a))) else none
  | .att i => if i < c.attempts.length then some (.i "Attempt" (atF L i (attemptAt c i))) else none
def Has (K : PySem.W.Frag) (H : Hp) (a : Addr) : Ob → Prop
  | .l xs => H a = some (.lst xs)
  | .i C fs => ∃ dx, H a = some (.ins (He.ga K C) dx fs)
theorem Has.of {K : PySem.W.Frag} {H H' : Hp} {a : Addr} {o : Ob} (h : Has K H a o) (e : H' a = H a) : Has K H' a o := by
  cases o with
  | l xs => exact e.trans h
  | i C fs => obtain ⟨dx, h⟩ := h; exact ⟨dx, e.trans h⟩
theorem Has.there {K : PySem.W.Frag} {H : Hp} {a : Addr} {o : Ob} (h : Has K H a o) : ∃ u, H a = some u ∧ (∀ ps, u ≠ .tbl ps) ∧ (∀ φ, u ≠ .ext φ) := by
  cases o with
  | l xs => exact ⟨_, h, (fun ps z => by cases z), fun φ z => by cases z⟩
  | i C fs => obtain ⟨dx, h⟩ := h; exact ⟨_, h, (fun ps z => by cases z), fun φ z => by cases z⟩
/-- the client c lies at L in the heap H; T: the tables of code objects -/
structure St (K : PySem.W.Frag) (T : List (Addr × Str)) (L : Lo) (c : Client) (H : Hp) : Prop where
  has : ∀ k o, ob L c k = some o → Has K H (L.ad k) o
  inj : ∀ k k' o o', ob L c k = some o → ob L c k' = some o' → L.ad k = L.ad k' → k = k'
  tabs : Tabs T H
/-- b is no address of the state -/
def Off (L : Lo) (c : Client) (b : Addr) : Prop := ∀ k o, ob L c k = some o → L.ad k ≠ b
/-- from a state to a later one: what is not the state's stays, the state's addresses stay, what joins it was free -/
structure Nxt (K : PySem.W.Frag) (T : List (Addr × Str)) (L : Lo) (c : Client) (H : Hp) (L' : Lo) (c' : Client) (H' : Hp) : Prop where
  st : St K T L' c' H'
  keep : ∀ b o, H b = some o → Off L c b → (∀ ps, o ≠ .tbl ps) → H' b = some o
  own : ∀ k o', ob L' c' k = some o' → (∃ o, ob L c k = some o) ∨ H (L'.ad k) = none ∨ ∃ ps, H (L'.ad k) = some (.tbl ps)
  adr : ∀ k o, ob L c k = some o → L'.ad k = L.ad k ∧ ∃ o', ob L' c' k = some o'
section
variable {K : PySem.W.Frag} {T : List (Addr × Str)} {L L' L2 : Lo} {c c' c2 : Client} {H H' H2 : Hp} {a b : Addr}
theorem St.there (S : St K T L c H) {k : Ky} {o : Ob} (h : ob L c k = some o) : ∃ u, H (L.ad k) = some u ∧ (∀ ps, u ≠ .tbl ps) ∧ (∀ φ, u ≠ .ext φ) := (S.has k o h).there
theorem Off.of_none (S : St K T L c H) (h : H b = none) : Off L c b := fun k o e z => by
  obtain ⟨u, hu, _⟩ := S.there e
  rw [z, h] at hu
  cases hu
theorem Tabs.upd' (h : Tabs T H) {u : HO} (hb : ∀ v, H b = some v → (∀ ps, v ≠ .tbl ps) ∧ (∀ φ, v ≠ .ext φ)) : Tabs T (upd H b u) := fun p hp => by
  obtain ⟨ps, h1, h2, h3⟩ := h p hp
  have n1 : p.1 ≠ b := fun z => (hb _ (by rw [← z]; exact h1)).1 ps rfl
  refine ⟨ps, by rw [upd_ne n1]; exact h1, h2, fun pos cv hc => ?_⟩
  obtain ⟨c0, e1, e2⟩ := h3 pos cv hc
  have n2 : c0 ≠ b := fun z => (hb _ (by rw [← z]; exact e2)).2 _ rfl
  exact ⟨c0, e1, by rw [upd_ne n2]; exact e2⟩
/-- a thing beside the state is written or made -/
theorem St.off (S : St K T L c H) {u : HO} (ho : Off L c b) (hb : ∀ v, H b = some v → (∀ ps, v ≠ .tbl ps) ∧ (∀ φ, v ≠ .ext φ)) : St K T L c (upd H b u) :=
  ⟨fun k o e => (S.has k o e).of (upd_ne (ho k o e)), S.inj, Tabs.upd' S.tabs hb⟩
theorem St.new (S : St K T L c H) {u : HO} (hb : H b = none) : St K T L c (upd H b u) := S.off (Off.of_none S hb) fun v e => by rw [hb] at e; cases e
theorem St.lst (S : St K T L c H) {xs : List V} {u : HO} (ho : Off L c b) (hb : H b = some (.lst xs)) : St K T L c (upd H b u) := S.off ho fun v e => by rw [hb] at e; cases e; exact ⟨(fun ps z => by cases z), fun φ z => by cases z⟩
theorem Nxt.refl (S : St K T L c H) : Nxt K T L c H L c H := ⟨S, fun b o e _ _ => e, fun k o e => .inl ⟨o, e⟩, fun k o e => ⟨rfl, o, e⟩⟩
theorem Nxt.off (n : Nxt K T L c H L' c' H') {o : HO} (ho : Off L c b) (hb : H b = some o) (ht : ∀ ps, o ≠ .tbl ps) : Off L' c' b := fun k o' e z => by
  rcases n.own k o' e with ⟨o2, e2⟩ | h | ⟨ps, h⟩
  · exact ho k o2 e2 ((n.adr k o2 e2).1.symm.trans z)
  · rw [z, hb] at h; cases h
  · rw [z, hb] at h; cases h; exact ht ps rfl
theorem Nxt.trans (n : Nxt K T L c H L' c' H') (m : Nxt K T L' c' H' L2 c2 H2) : Nxt K T L c H L2 c2 H2 := by
  refine ⟨m.st, fun b o e ho ht => m.keep b o (n.keep b o e ho ht) (n.off ho e ht) ht, fun k o' e => ?_, fun k o e => ?_⟩
  · by_cases hk : ∃ o, ob L c k = some o
    · exact .inl hk
    refine .inr ?_
    rcases m.own k o' e with ⟨o2, e2⟩ | h | ⟨ps, h⟩
    · rcases n.own k o2 e2 with z | h | h
      · exact absurd z hk
      · left; rw [(m.adr k o2 e2).1]; exact h
      · right; rw [(m.adr k o2 e2).1]; exact h
    · cases q : H (L2.ad k) with
      | none => exact .inl rfl
      | some u =>
        right
        by_cases hu : ∃ ps, u = .tbl ps
        · obtain ⟨ps, z⟩ := hu; exact ⟨ps, by rw [z]⟩
        · by_cases hof : Off L c (L2.ad k)
          · have z := n.keep _ _ q hof fun ps z => hu ⟨ps, z⟩
            rw [h] at z; cases z
          · exfalso
            obtain ⟨k2, o2, e2, e3⟩ : ∃ k2 o2, ob L c k2 = some o2 ∧ L.ad k2 = L2.ad k := by
              apply Classical.byContradiction
              intro z
              exact hof fun k2 o2 e2 e3 => z ⟨k2, o2, e2, e3⟩
            obtain ⟨a1, o3, a2⟩ := n.adr k2 o2 e2
            obtain ⟨v, hv, _⟩ := n.st.there a2
            rw [a1, e3, h] at hv
            cases hv
    · cases q : H (L2.ad k) with
      | none => exact .inl rfl
      | some u =>
        right
        by_cases hu : ∃ ps, u = .tbl ps
        · obtain ⟨ps, z⟩ := hu; exact ⟨ps, by rw [z]⟩
        · by_cases hof : Off L c (L2.ad k)
          · have z := n.keep _ _ q hof fun ps z => hu ⟨ps, z⟩
            rw [h] at z; cases z; exact absurd ⟨ps, rfl⟩ hu
          · exfalso
            obtain ⟨k2, o2, e2, e3⟩ : ∃ k2 o2, ob L c k2 = some o2 ∧ L.ad k2 = L2.ad k := by
              apply Classical.byContradiction
              intro z
              exact hof fun k2 o2 e2 e3 => z ⟨k2, o2, e2, e3⟩
            obtain ⟨a1, o3, a2⟩ := n.adr k2 o2 e2
            obtain ⟨v, hv, hv2, _⟩ := n.st.there a2
            rw [a1, e3, h] at hv
            exact hv2 ps (Option.some.inj hv).symm
  · obtain ⟨a1, o1, a2⟩ := n.adr k o e
    obtain ⟨b1, o2, b2⟩ := m.adr k o1 a2
    exact ⟨b1.trans a1, o2, b2⟩
/-- one object of the state is written -/
theorem St.put (S : St K T L c H) {k0 : Ky} {o0 o' : Ob} {u : HO} (h0 : ob L c k0 = some o0) (hne : ∀ k, k ≠ k0 → ob L c' k = ob L c k) (h1 : ob L c' k0 = some o') (hu : Has K (upd H (L.ad k0) u) (L.ad k0) o') : Nxt K T L c H L c' (upd H (L.ad k0) u) := by
  have dom : ∀ k o, ob L c' k = some o → ∃ o2, ob L c k = some o2 := fun k o e => by
    by_cases hk : k = k0
    · rw [hk]; exact ⟨_, h0⟩
    · rw [hne k hk] at e; exact ⟨o, e⟩
  refine ⟨⟨fun k o e => ?_, fun k k' o o2 e1 e2 z => ?_, Tabs.upd' S.tabs fun v hv => ?_⟩, fun b o e ho _ => ?_, fun k o e => .inl (dom k o e), fun k o e => ⟨rfl, ?_⟩⟩
  · by_cases hk : k = k0
    · rw [hk, h1] at e
      cases e
      rw [hk]
      exact hu
    · rw [hne k hk] at e
      exact (S.has k o e).of (upd_ne fun z => hk (S.inj k k0 o o0 e h0 z))
  · obtain ⟨p1, q1⟩ := dom k o e1
    obtain ⟨p2, q2⟩ := dom k' o2 e2
    exact S.inj k k' _ _ q1 q2 z
  · obtain ⟨u2, hu2, n1, n2⟩ := S.there h0
    rw [hu2] at hv
    cases hv
    exact ⟨n1, n2⟩
  · rw [upd_ne fun z => ho k0 o0 h0 z.symm]
    exact e
  · by_cases hk : k = k0
    · rw [hk]; exact ⟨_, h1⟩
    · rw [hne k hk]; exact ⟨o, e⟩
/-- something beside the state, ahead of a step -/
theorem Nxt.ahead {u : HO} (S : St K T L c H) (hb : H b = none) (n : Nxt K T L c (upd H b u) L' c' H') : Nxt K T L c H L' c' H' :=
  ⟨n.st, fun d o e ho ht => n.keep d o (by rw [upd_ne (ne_of_none e hb)]; exact e) ho ht, fun k o e => by
    rcases n.own k o e with z | z | ⟨ps, z⟩
    · exact .inl z
    · by_cases hk : L'.ad k = b
      · rw [hk]; exact .inr (.inl hb)
      · rw [upd_ne hk] at z; exact .inr (.inl z)
    · by_cases hk : L'.ad k = b
      · rw [hk]; exact .inr (.inl hb)
      · rw [upd_ne hk] at z; exact .inr (.inr ⟨ps, z⟩), n.adr⟩
/-- something beside the state, behind a step -/
theorem Nxt.behind {u : HO} (n : Nxt K T L c H L' c' H') (hb : H' b = none) : Nxt K T L c H L' c' (upd H' b u) :=
  ⟨n.st.new hb, fun d o e ho ht => by
    have z := n.keep d o e ho ht
    rw [upd_ne (ne_of_none z hb)]; exact z, n.own, n.adr⟩
end
/-! ### what a change of one part leaves -/
section
variable {L : Lo} {c : Client}
theorem ob_setBackend {i : Nat} {b : Backend} : ∀ k, k ≠ .bk i → ob L (setBackend c i b) k = ob L c k := fun k hk => by
  cases k with
  | bk j =>
    have hj : j ≠ i := fun z => hk (by rw [z])
    simp only [ob, setBackend, backendAt, List.length_set, List.getD_eq_getElem?_getD, List.getElem?_set_ne (Ne.symm hj)]
  | lb => simp only [ob, setBackend, List.length_set]
  | _ => rfl
theorem ob_setBackend_at {i : Nat} {b : Backend} (h : i < c.backends.length) : ob L (setBackend c i b) (.bk i) = some (.i "Backend" (bkF i b)) := by
  simp only [ob, setBackend, backendAt, List.length_set, h, if_true, List.getD_eq_getElem?_getD, List.getElem?_set_self h, Option.getD_some]
theorem ob_setCall {i : Nat} {x : RemoteCall} : ∀ k, k ≠ .ca i → ob L (setCall c i x) k = ob L c k := fun k hk => by
  cases k with
  | ca j =>
    have hj : j ≠ i := fun z => hk (by rw [z])
    simp only [ob, setCall, callAt, List.length_set, List.getD_eq_getElem?_getD, List.getElem?_set_ne (Ne.symm hj)]
  | lc => simp only [ob, setCall, List.length_set]
  | al j =>
    simp only [ob, setCall, List.length_set]
    rfl
  | _ => rfl
theorem ob_setCall_at {i : Nat} {x : RemoteCall} (h : i < c.calls.length) : ob L (setCall c i x) (.ca i) = some (.i "Call" (caF L i x)) := by
  simp only [ob, setCall, callAt, List.length_set, h, if_true, List.getD_eq_getElem?_getD, List.getElem?_set_self h, Option.getD_some]
theorem attemptAt_set {i j : Nat} {t : Kp423.Attempt} : attemptAt (setAttempt c i t) j = if j = i ∧ i < c.attempts.length then t else attemptAt c j := by
  simp only [attemptAt, setAttempt, List.getD_eq_getElem?_getD]
  by_cases h : j = i
  · subst h
    by_cases h2 : j < c.attempts.length
    · simp [h2]
    · simp [h2]
  · simp [List.getElem?_set_ne (Ne.symm h), h]
theorem atsOf_setAttempt {i j : Nat} {t : Kp423.Attempt} (ht : t.call = (attemptAt c i).call) : atsOf (setAttempt c i t) j = atsOf c j := by
  have hl : (setAttempt c i t).attempts.length = c.attempts.length := by simp only [setAttempt, List.length_set]
  unfold atsOf
  rw [hl]
  congr 1
  funext a
  rw [attemptAt_set]
  split
  · rename_i h; rw [h.1, ht]
  · rfl
theorem ob_setAttempt {i : Nat} {t : Kp423.Attempt} (ht : t.call = (attemptAt c i).call) : ∀ k, k ≠ .att i → ob L (setAttempt c i t) k = ob L c k := fun k hk => by
  cases k with
  | att j =>
    have hj : j ≠ i := fun z => hk (by rw [z])
    simp only [ob, attemptAt_set, hj, false_and, if_false]
    simp only [setAttempt, List.length_set]
  | la => simp only [ob, setAttempt, List.length_set]
  | al j =>
    simp only [ob, atsOf_setAttempt ht]
    rfl
  | _ => rfl
theorem ob_setAttempt_at {i : Nat} {t : Kp423.Attempt} (h : i < c.attempts.length) : ob L (setAttempt c i t) (.att i) = some (.i "Attempt" (atF L i t)) := by
  have hl : (setAttempt c i t).attempts.length = c.attempts.length := by simp only [setAttempt, List.length_set]
  simp only [ob, attemptAt_set, h, and_self, if_true, hl]
end
end HC
end

section
namespace HM
open Kp423
/-! ### the first greatest of a list -/
def better (value : Nat → Int) (best : Option Nat) (i : Nat) : Option Nat := match best with
  | none => some i
  | some b => if value b < value i then some i else some b
theorem fg_eq (l : List Nat) (value : Nat → Int) : firstGreatest l value = l.foldl (better value) none := by
  unfold firstGreatest
  congr 1
  funext best i
  cases best <;> rfl
theorem fg_snoc (l : List Nat) (y : Nat) (value : Nat → Int) : firstGreatest (l ++ [y]) value = better value (firstGreatest l value) y := by
  rw [fg_eq, fg_eq, List.foldl_append]
  rfl
theorem fg_mem (value : Nat → Int) : ∀ (n : Nat) (l : List Nat), l.length = n → ∀ x, firstGreatest l value = some x → x ∈ l := by
  intro n
  induction n with
  | zero =>
    intro l hl x h
    rw [List.length_eq_zero_iff.mp hl] at h
    cases h
  | succ n ih =>
    intro l hl x h
    obtain ⟨r, y, rfl⟩ : ∃ r y, l = r ++ [y] := by
      rcases List.eq_nil_or_concat l with e | ⟨r, y, e⟩
      · rw [e] at hl; cases hl
      · exact ⟨r, y, by rw [e]; simp⟩
    rw [fg_snoc] at h
    have hr : r.length = n := by simp at hl; exact hl
    cases q : firstGreatest r value with
    | none => rw [q] at h; simp only [better, Option.some.injEq] at h; simp [h]
    | some b =>
      rw [q] at h
      simp only [better] at h
      split at h
      · simp only [Option.some.injEq] at h; simp [h]
      · simp only [Option.some.injEq] at h
        have z := ih r hr b q
        simp [← h, z]
/-- what stands at the first best place is the first greatest -/
theorem fg_best (value : Nat → Int) : ∀ (n : Nat) (l : List Nat), l.length = n → ∀ (i x : Nat), l[i]? = some x → (∀ (j y : Nat), l[j]? = some y → (j < i → value y < value x) ∧ (i < j → value y ≤ value x)) → firstGreatest l value = some x := by
  intro n
  induction n with
  | zero =>
    intro l hl i x h
    rw [List.length_eq_zero_iff.mp hl] at h
    cases h
  | succ n ih =>
    intro l hl i x hx hb
    obtain ⟨r, y, rfl⟩ : ∃ r y, l = r ++ [y] := by
      rcases List.eq_nil_or_concat l with e | ⟨r, y, e⟩
      · rw [e] at hl; cases hl
      · exact ⟨r, y, by rw [e]; simp⟩
    have hr : r.length = n := by simp at hl; exact hl
    rw [fg_snoc]
    by_cases hi : i < r.length
    · have hx2 : r[i]? = some x := by rw [List.getElem?_append_left hi] at hx; exact hx
      have z := ih r hr i x hx2 fun j w hj => hb j w (by rw [List.getElem?_append_left (List.getElem?_eq_some_iff.mp hj).1]; exact hj)
      rw [z]
      have hy := (hb r.length y (by simp)).2 hi
      simp only [better]
      rw [if_neg (by omega)]
    · have hi2 : i = r.length := by
        have := (List.getElem?_eq_some_iff.mp hx).1
        simp at this
        omega
      subst hi2
      have hxy : y = x := by simp at hx; exact hx
      subst hxy
      cases q : firstGreatest r value with
      | none => rfl
      | some b =>
        have hbm := fg_mem value n r hr b q
        obtain ⟨j, hj⟩ := List.mem_iff_getElem?.mp hbm
        have hjl := (List.getElem?_eq_some_iff.mp hj).1
        have hlt := (hb j b (by rw [List.getElem?_append_left hjl]; exact hj)).1 hjl
        simp only [better]
        rw [if_pos hlt]
end HM
end

section
namespace HM
open Kp423
/-! ### reading what was set -/
section
variable {c : Client} {i j : Nat}
theorem callAt_set {x : RemoteCall} : callAt (setCall c i x) j = if j = i ∧ i < c.calls.length then x else callAt c j := by
  simp only [callAt, setCall, List.getD_eq_getElem?_getD]
  by_cases h : j = i
  · subst h
    by_cases h2 : j < c.calls.length
    · simp [h2]
    · simp [h2]
  · simp [List.getElem?_set_ne (Ne.symm h), h]
theorem callAt_self {x : RemoteCall} (h : i < c.calls.length) : callAt (setCall c i x) i = x := by rw [callAt_set, if_pos ⟨rfl, h⟩]
theorem backendAt_set {b : Backend} : backendAt (setBackend c i b) j = if j = i ∧ i < c.backends.length then b else backendAt c j := by
  simp only [backendAt, setBackend, List.getD_eq_getElem?_getD]
  by_cases h : j = i
  · subst h
    by_cases h2 : j < c.backends.length
    · simp [h2]
    · simp [h2]
  · simp [List.getElem?_set_ne (Ne.symm h), h]
theorem backendAt_self {b : Backend} (h : i < c.backends.length) : backendAt (setBackend c i b) i = b := by rw [backendAt_set, if_pos ⟨rfl, h⟩]
theorem attemptAt_set {t : Attempt} : attemptAt (setAttempt c i t) j = if j = i ∧ i < c.attempts.length then t else attemptAt c j := by
  simp only [attemptAt, setAttempt, List.getD_eq_getElem?_getD]
  by_cases h : j = i
  · subst h
    by_cases h2 : j < c.attempts.length
    · simp [h2]
    · simp [h2]
  · simp [List.getElem?_set_ne (Ne.symm h), h]
theorem attemptAt_self {t : Attempt} (h : i < c.attempts.length) : attemptAt (setAttempt c i t) i = t := by rw [attemptAt_set, if_pos ⟨rfl, h⟩]
theorem setCall_setCall {x y : RemoteCall} : setCall (setCall c i x) i y = setCall c i y := by simp only [setCall, List.set_set]
theorem setBackend_setBackend {x y : Backend} : setBackend (setBackend c i x) i y = setBackend c i y := by simp only [setBackend, List.set_set]
theorem setAttempt_setAttempt {x y : Attempt} : setAttempt (setAttempt c i x) i y = setAttempt c i y := by simp only [setAttempt, List.set_set]
theorem setCall_len {x : RemoteCall} : (setCall c i x).calls.length = c.calls.length := by simp only [setCall, List.length_set]
theorem setBackend_len {x : Backend} : (setBackend c i x).backends.length = c.backends.length := by simp only [setBackend, List.length_set]
theorem setAttempt_len {x : Attempt} : (setAttempt c i x).attempts.length = c.attempts.length := by simp only [setAttempt, List.length_set]
end
/-! ### attempts are accounted for -/
/-- the running attempts of a backend -/
def runsOn (c : Client) (b : Nat) : Nat := (List.range c.attempts.length).countP fun a => isRunning (attemptAt c a) && (attemptAt c a).backend == b
structure Acc (c : Client) : Prop where
  out : ∀ b, b < c.backends.length → (backendAt c b).outstanding = runsOn c b
  idx : ∀ a, a < c.attempts.length → (attemptAt c a).call < c.calls.length ∧ (attemptAt c a).backend < c.backends.length
theorem Acc.pos {c : Client} (h : Acc c) {a : Nat} (ha : a < c.attempts.length) (hr : isRunning (attemptAt c a) = true) : 1 ≤ (backendAt c (attemptAt c a).backend).outstanding := by
  rw [h.out _ (h.idx a ha).2]
  unfold runsOn
  refine List.countP_pos_iff.mpr ⟨a, List.mem_range.mpr ha, ?_⟩
  simp [hr]
/-- what does not touch attempts and outstanding numbers -/
theorem Acc.same {c c' : Client} (h : Acc c) (ha : c'.attempts = c.attempts) (hc : c'.calls.length = c.calls.length) (hb : c'.backends.length = c.backends.length) (ho : ∀ b, (backendAt c' b).outstanding = (backendAt c b).outstanding) : Acc c' := by
  have at_ : ∀ a, attemptAt c' a = attemptAt c a := fun a => by unfold attemptAt; rw [ha]
  refine ⟨fun b hlt => ?_, fun a hlt => ?_⟩
  · rw [ho, h.out b (by rw [← hb]; exact hlt)]
    unfold runsOn
    rw [ha]
    congr 1
    funext a
    rw [at_]
  · rw [at_, hc, hb]
    exact h.idx a (by rw [← ha]; exact hlt)
theorem Acc.setCall {c : Client} {i : Nat} {x : RemoteCall} (h : Acc c) : Acc (setCall c i x) := h.same rfl setCall_len rfl fun _ => rfl
theorem Acc.setBackend {c : Client} {i : Nat} {b : Backend} (h : Acc c) (ho : b.outstanding = (backendAt c i).outstanding) : Acc (setBackend c i b) := h.same rfl rfl setBackend_len fun j => by
  rw [backendAt_set]
  split
  · rename_i q; rw [q.1, ho]
  · rfl
/-- a running attempt stops -/
def stopped (c : Client) (j : Nat) (st : AttemptState) : Client := release (setAttempt c j { attemptAt c j with state := st }) (attemptAt c j).backend
theorem cancel_is (c : Client) (j : Nat) : cancelAttempt c j = stopped c j .cancelled := rfl
theorem stopped_len (c : Client) (j : Nat) (st : AttemptState) : (stopped c j st).attempts.length = c.attempts.length ∧ (stopped c j st).calls = c.calls ∧ (stopped c j st).backends.length = c.backends.length := by
  refine ⟨?_, rfl, ?_⟩
  · simp only [stopped, release, Kp423.setBackend, setAttempt, List.length_set]
  · simp only [stopped, release, Kp423.setBackend, setAttempt, List.length_set]
theorem stopped_at (c : Client) (j a : Nat) (st : AttemptState) : attemptAt (stopped c j st) a = if a = j ∧ j < c.attempts.length then { attemptAt c j with state := st } else attemptAt c a := by
  show attemptAt (setAttempt c j { attemptAt c j with state := st }) a = _
  rw [attemptAt_set]
theorem countP_range_set (n : Nat) (p q : Nat → Bool) (j : Nat) (hj : j < n) (hp : p j = true) (hq : q j = false) (h : ∀ a, a ≠ j → q a = p a) : (List.range n).countP p = (List.range n).countP q + 1 := by
  induction n with
  | zero => omega
  | succ n ih =>
    rw [List.range_succ, List.countP_append, List.countP_append]
    by_cases e : j = n
    · subst e
      have z : (List.range j).countP p = (List.range j).countP q := by
        refine List.countP_congr fun a ha => ?_
        have := List.mem_range.mp ha
        rw [h a (by omega)]
      simp [z, hp, hq]
    · have i2 := ih (by omega)
      have e2 : q n = p n := h n (Ne.symm e)
      simp only [List.countP_cons, List.countP_nil, e2]
      omega
theorem stopped_out {c : Client} {j : Nat} {st : AttemptState} (b : Nat) : (backendAt (stopped c j st) b).outstanding = if b = (attemptAt c j).backend ∧ (attemptAt c j).backend < c.backends.length then (backendAt c b).outstanding - 1 else (backendAt c b).outstanding := by
  show (backendAt (Kp423.setBackend (setAttempt c j { attemptAt c j with state := st }) (attemptAt c j).backend { backendAt (setAttempt c j { attemptAt c j with state := st }) (attemptAt c j).backend with outstanding := (backendAt (setAttempt c j { attemptAt c j with state := st }) (attemptAt c j).backend).outstanding - 1 }) b).outstanding = _
  rw [backendAt_set]
  have e : (setAttempt c j { attemptAt c j with state := st }).backends = c.backends := rfl
  rw [e]
  split
  · rename_i q
    show (backendAt c (attemptAt c j).backend).outstanding - 1 = _
    rw [← q.1]
  · rfl
theorem Acc.stop {c : Client} (h : Acc c) {j : Nat} {st : AttemptState} (hj : j < c.attempts.length) (hr : isRunning (attemptAt c j) = true) (hs : (st == .running) = false) : Acc (stopped c j st) := by
  obtain ⟨l1, l2, l3⟩ := stopped_len c j st
  have at_ : ∀ a, attemptAt (stopped c j st) a = if a = j then { attemptAt c j with state := st } else attemptAt c a := fun a => by
    rw [stopped_at]
    by_cases e : a = j
    · simp [e, hj]
    · simp [e]
  refine ⟨fun b hb => ?_, fun a ha => ?_⟩
  · rw [l3] at hb
    rw [stopped_out, h.out b hb]
    unfold runsOn
    rw [l1]
    by_cases e : b = (attemptAt c j).backend
    · rw [if_pos ⟨e, by rw [← e]; exact hb⟩]
      have z := countP_range_set c.attempts.length (fun a => isRunning (attemptAt c a) && (attemptAt c a).backend == b) (fun a => isRunning (attemptAt (stopped c j st) a) && (attemptAt (stopped c j st) a).backend == b) j hj (by simp [hr, e]) (by
        simp only [at_, if_true]
        have : isRunning { attemptAt c j with state := st } = false := hs
        rw [this]; rfl) fun a ha => by simp only [at_, if_neg ha]
      omega
    · rw [if_neg (fun q => e q.1)]
      refine List.countP_congr fun a ha => ?_
      rw [at_]
      by_cases ea : a = j
      · subst ea
        have n1 : ((attemptAt c a).backend == b) = false := by simp; exact fun q => e q.symm
        simp [n1]
      · rw [if_neg ea]
  · rw [l1] at ha
    rw [at_, l2, l3]
    by_cases e : a = j
    · rw [if_pos e]; exact h.idx j hj
    · rw [if_neg e]; exact h.idx a ha
/-! ### the end of a call -/
theorem runningOf_eq (c : Client) (i : Nat) : runningOf c i = ((List.range c.attempts.length).filter fun a => (attemptAt c a).call == i).filter fun a => isRunning (attemptAt c a) := by
  unfold runningOf runningAttempts
  rw [List.filter_filter, List.filter_filter]
  congr 1
  funext a
  rw [Bool.and_comm]
/-- cancelling one running attempt behind another -/
theorem Acc.cancels : ∀ (l : List Nat) {c : Client}, Acc c → l.Nodup → (∀ a ∈ l, a < c.attempts.length ∧ isRunning (attemptAt c a) = true) → Acc (l.foldl cancelAttempt c)
  | [], c, h, _, _ => h
  | a :: r, c, h, nd, ha => by
    obtain ⟨h1, h2⟩ := ha a (by simp)
    obtain ⟨n1, n2⟩ := List.nodup_cons.mp nd
    refine Acc.cancels r (c := cancelAttempt c a) (h.stop h1 h2 rfl) n2 fun b hb => ?_
    obtain ⟨h3, h4⟩ := ha b (by simp [hb])
    have hne : b ≠ a := fun z => n1 (z ▸ hb)
    rw [cancel_is, (stopped_len c a _).1, stopped_at, if_neg (fun q => hne q.1)]
    exact ⟨h3, h4⟩
theorem cancels_len : ∀ (l : List Nat) (c : Client), (l.foldl cancelAttempt c).attempts.length = c.attempts.length ∧ (l.foldl cancelAttempt c).calls = c.calls ∧ (l.foldl cancelAttempt c).backends.length = c.backends.length
  | [], c => ⟨rfl, rfl, rfl⟩
  | a :: r, c => by
    obtain ⟨a1, a2, a3⟩ := cancels_len r (cancelAttempt c a)
    obtain ⟨b1, b2, b3⟩ := stopped_len c a .cancelled
    exact ⟨a1.trans b1, a2.trans b2, a3.trans b3⟩
theorem cancels_keep : ∀ (l : List Nat) (c : Client) (a : Nat), a ∉ l → attemptAt (l.foldl cancelAttempt c) a = attemptAt c a
  | [], c, a, _ => rfl
  | b :: r, c, a, h => by
    have h1 : a ≠ b := fun z => h (by simp [z])
    have h2 : a ∉ r := fun z => h (by simp [z])
    refine (cancels_keep r (cancelAttempt c b) a h2).trans ?_
    rw [cancel_is, stopped_at, if_neg fun q => h1 q.1]
theorem isRunning_state {t : Attempt} (h : isRunning t = true) : t.state = .running := by
  unfold isRunning at h
  exact beq_iff_eq.mp h
theorem running_nodup (c : Client) (i : Nat) : (runningOf c i).Nodup := by
  unfold runningOf runningAttempts
  exact (List.nodup_range.filter _).filter _
theorem running_mem {c : Client} {i a : Nat} (h : a ∈ runningOf c i) : a < c.attempts.length ∧ isRunning (attemptAt c a) = true ∧ (attemptAt c a).call = i := by
  unfold runningOf runningAttempts at h
  obtain ⟨h1, h2⟩ := List.mem_filter.mp h
  obtain ⟨h3, h4⟩ := List.mem_filter.mp h1
  exact ⟨List.mem_range.mp h3, h4, beq_iff_eq.mp h2⟩
theorem Acc.finish {c : Client} (h : Acc c) (i s : Nat) : Acc (finishCall c i s) := by
  unfold finishCall
  exact Acc.cancels _ h.setCall (running_nodup c i) fun a ha => ⟨(running_mem ha).1, (running_mem ha).2.1⟩
theorem finish_len (c : Client) (i s : Nat) : (finishCall c i s).attempts.length = c.attempts.length ∧ (finishCall c i s).calls.length = c.calls.length ∧ (finishCall c i s).backends.length = c.backends.length := by
  unfold finishCall
  obtain ⟨a1, a2, a3⟩ := cancels_len (runningOf c i) (setCall c i { callAt c i with status := some s, finishedAt := c.now, retryAt := none, hedgeAt := none })
  exact ⟨a1, (congrArg List.length a2).trans setCall_len, a3⟩
end HM
end

section
namespace HM
open Kp423
/-! ### what the balancer remembers -/
/-- the client behind a choice -/
def moved (c : Client) (l : List Nat) (i : Nat) : Client := match c.policy.balancer with
  | 0 => { c with pointer := i + 1 }
  | 1 => { c with backends := c.backends.zipIdx.map fun x => if l.contains x.2 then { x.1 with current := x.1.current + x.1.weight - (if x.2 = i then (((l.map fun i => (backendAt c i).weight).sum : Nat) : Int) else 0) } else x.1 }
  | _ => c
def addW (c : Client) (j : Nat) : Client := setBackend c j { backendAt c j with current := (backendAt c j).current + (backendAt c j).weight }
theorem backs_ext {l l' : List Backend} (hl : l.length = l'.length) (d : Backend) (h : ∀ j, j < l.length → l.getD j d = l'.getD j d) : l = l' := by
  refine List.ext_getElem hl fun j h1 h2 => ?_
  have z := h j h1
  rw [List.getD_eq_getElem?_getD, List.getD_eq_getElem?_getD, List.getElem?_eq_getElem h1, List.getElem?_eq_getElem h2] at z
  exact z
theorem addW_at (c : Client) (i j : Nat) : backendAt (addW c i) j = if j = i ∧ i < c.backends.length then { backendAt c i with current := (backendAt c i).current + (backendAt c i).weight } else backendAt c j := by
  unfold addW
  rw [backendAt_set]
theorem addWs_rest : ∀ (l : List Nat) (c : Client), l.foldl addW c = { c with backends := (l.foldl addW c).backends } ∧ (l.foldl addW c).backends.length = c.backends.length
  | [], c => ⟨rfl, rfl⟩
  | a :: r, c => by
    obtain ⟨h1, h2⟩ := addWs_rest r (addW c a)
    refine ⟨?_, h2.trans (by unfold addW; exact setBackend_len)⟩
    show r.foldl addW (addW c a) = _
    exact h1
theorem addWs_at : ∀ (l : List Nat) (c : Client) (j : Nat), l.Nodup → j < c.backends.length → backendAt (l.foldl addW c) j = if j ∈ l then { backendAt c j with current := (backendAt c j).current + (backendAt c j).weight } else backendAt c j
  | [], c, j, _, _ => by simp
  | a :: r, c, j, nd, hj => by
    obtain ⟨n1, n2⟩ := List.nodup_cons.mp nd
    have hl : (addW c a).backends.length = c.backends.length := by unfold addW; exact setBackend_len
    show backendAt (r.foldl addW (addW c a)) j = _
    rw [addWs_at r (addW c a) j n2 (by rw [hl]; exact hj), addW_at]
    by_cases e : j = a
    · subst e
      rw [if_neg n1, if_pos ⟨rfl, hj⟩, if_pos (List.mem_cons_self ..)]
    · have e3 : backendAt c j = (if j = a ∧ a < c.backends.length then { backendAt c a with current := (backendAt c a).current + (backendAt c a).weight } else backendAt c j) := (if_neg (fun q => e q.1)).symm
      rw [← e3]
      by_cases e2 : j ∈ r
      · rw [if_pos e2, if_pos (List.mem_cons_of_mem _ e2)]
      · rw [if_neg e2, if_neg (fun q => (List.mem_cons.mp q).elim e e2)]
theorem moved_w {c : Client} {l : List Nat} {i : Nat} (hb : c.policy.balancer = 1) (nd : l.Nodup) (hi : i ∈ l) (hl : i < c.backends.length) :
    setBackend (l.foldl addW c) i { backendAt (l.foldl addW c) i with current := (backendAt (l.foldl addW c) i).current - (((l.map fun i => (backendAt c i).weight).sum : Nat) : Int) } = moved c l i := by
  obtain ⟨e1, e2⟩ := addWs_rest l c
  have em : moved c l i = { c with backends := c.backends.zipIdx.map fun x => if l.contains x.2 then { x.1 with current := x.1.current + x.1.weight - (if x.2 = i then (((l.map fun i => (backendAt c i).weight).sum : Nat) : Int) else 0) } else x.1 } := by
    unfold moved
    rw [hb]
    rfl
  rw [em]
  have eX : ∀ X, ({ (l.foldl addW c) with backends := X } : Client) = { c with backends := X } := fun X => by rw [e1]
  have hfin : (l.foldl addW c).backends.set i { backendAt (l.foldl addW c) i with current := (backendAt (l.foldl addW c) i).current - (((l.map fun i => (backendAt c i).weight).sum : Nat) : Int) } = c.backends.zipIdx.map fun x => if l.contains x.2 then { x.1 with current := x.1.current + x.1.weight - (if x.2 = i then (((l.map fun i => (backendAt c i).weight).sum : Nat) : Int) else 0) } else x.1 := by
    refine backs_ext (by rw [List.length_set, e2, List.length_map, List.length_zipIdx]) ⟨false, 1, 0, 0, 0, 0, none⟩ fun j hj => ?_
    rw [List.length_set, e2] at hj
    have hA : ((l.foldl addW c).backends.set i { backendAt (l.foldl addW c) i with current := (backendAt (l.foldl addW c) i).current - (((l.map fun i => (backendAt c i).weight).sum : Nat) : Int) }).getD j ⟨false, 1, 0, 0, 0, 0, none⟩ = backendAt (setBackend (l.foldl addW c) i { backendAt (l.foldl addW c) i with current := (backendAt (l.foldl addW c) i).current - (((l.map fun i => (backendAt c i).weight).sum : Nat) : Int) }) j := rfl
    rw [hA, backendAt_set, e2]
    have hB : (c.backends.zipIdx.map fun x => if l.contains x.2 then ({ x.1 with current := x.1.current + x.1.weight - (if x.2 = i then (((l.map fun i => (backendAt c i).weight).sum : Nat) : Int) else 0) } : Backend) else x.1).getD j ⟨false, 1, 0, 0, 0, 0, none⟩ = if l.contains j then { backendAt c j with current := (backendAt c j).current + (backendAt c j).weight - (if j = i then (((l.map fun i => (backendAt c i).weight).sum : Nat) : Int) else 0) } else backendAt c j := by
      have hx : backendAt c j = c.backends[j] := by
        unfold backendAt
        rw [List.getD_eq_getElem?_getD, List.getElem?_eq_getElem hj]; rfl
      rw [List.getD_eq_getElem?_getD, List.getElem?_map, List.getElem?_zipIdx, List.getElem?_eq_getElem hj, hx]
      simp
    rw [hB, List.contains_eq_mem]
    by_cases e : j = i
    · subst e
      rw [if_pos ⟨rfl, hl⟩, addWs_at l c j nd hl, if_pos hi, if_pos (decide_eq_true hi), if_pos rfl]
    · rw [if_neg (fun q => e q.1), addWs_at l c j nd hj, if_neg e]
      by_cases e2 : j ∈ l
      · rw [if_pos e2, if_pos (decide_eq_true e2), Int.sub_zero]
      · rw [if_neg e2, if_neg (by simp [e2])]
  rw [← hfin, ← eX]
  rfl
end HM
end

section
set_option Elab.async false
set_option linter.all false
set_option maxRecDepth 100000
set_option maxHeartbeats 4000000
namespace HC
open PySem PySem.Spec PyProof.Rows L2 LamX
open Kp423 (Client Backend RemoteCall AttemptState setBackend setCall setAttempt backendAt callAt attemptAt)
/-! ### an attempt joins -/
def withAtt (L : Lo) (n : Nat) (p : Addr) : Lo := { L with att := fun k => if k = n then p else L.att k }
theorem attemptAt_lt {c : Client} {a : Kp423.Attempt} {k : Nat} (h : k < c.attempts.length) : attemptAt { c with attempts := c.attempts ++ [a] } k = attemptAt c k := by
  simp only [attemptAt, List.getD_eq_getElem?_getD, List.getElem?_append_left h]
theorem attemptAt_new {c : Client} {a : Kp423.Attempt} : attemptAt { c with attempts := c.attempts ++ [a] } c.attempts.length = a := by
  simp only [attemptAt, List.getD_eq_getElem?_getD, List.getElem?_concat_length, Option.getD_some]
theorem atsOf_new {c : Client} {a : Kp423.Attempt} {j : Nat} : atsOf { c with attempts := c.attempts ++ [a] } j = atsOf c j ++ (if a.call = j then [c.attempts.length] else []) := by
  unfold atsOf
  rw [show ({ c with attempts := c.attempts ++ [a] } : Client).attempts.length = c.attempts.length + 1 from by rw [List.length_append]; rfl, List.range_succ, List.filter_append]
  congr 1
  · exact List.filter_congr fun k hk => by rw [attemptAt_lt (List.mem_range.mp hk)]
  · rw [List.filter_cons, attemptAt_new, List.filter_nil]
    by_cases h : a.call = j <;> simp [h]
theorem att_map {L : Lo} {n : Nat} {p : Addr} {l : List Nat} (h : ∀ k ∈ l, k < n) : (l.map fun k => V.ref ((withAtt L n p).att k)) = l.map fun k => V.ref (L.att k) := by
  refine List.map_congr_left fun k hk => ?_
  have : k ≠ n := fun z => by have := h k hk; omega
  show V.ref (if k = n then p else L.att k) = _
  rw [if_neg this]
theorem ats_lt {c : Client} {j k : Nat} (h : k ∈ atsOf c j) : k < c.attempts.length := List.mem_range.mp (List.mem_filter.mp h).1
section
variable {K : PySem.W.Frag} {T : List (Addr × Str)} {L : Lo} {c0 c : Client} {H0 H : Hp} {p dx : Addr} {a : Kp423.Attempt} {i : Nat}
theorem Nxt.addAtt (n : Nxt K T L c0 H0 L c H) (hi0 : i < c0.calls.length) (hi : i < c.calls.length) (hc : a.call = i) (n0 : H0 p = none) (op : Off L c p) (hp : H p = some (.ins (He.ga K "Attempt") dx (atF L c.attempts.length a))) :
    Nxt K T L c0 H0 (withAtt L c.attempts.length p) { c with attempts := c.attempts ++ [a] }
      (upd (upd H L.la (.lst (((List.range c.attempts.length).map fun j => .ref (L.att j)) ++ [.ref p]))) (L.al i) (.lst (((atsOf c i).map fun j => .ref (L.att j)) ++ [.ref p]))) := by
  have S := n.st
  have oal : ob L c (.al i) = some (.l ((atsOf c i).map fun a => .ref (L.att a))) := if_pos hi
  have ola : ob L c .la = some (.l ((List.range c.attempts.length).map fun i => .ref (L.att i))) := rfl
  have nla : L.la ≠ L.al i := fun z => by have := S.inj .la (.al i) _ _ ola oal z; cases this
  have npa : p ≠ L.la := fun z => op .la _ ola z.symm
  have npl : p ≠ L.al i := fun z => op (.al i) _ oal z.symm
  have len : ({ c with attempts := c.attempts ++ [a] } : Client).attempts.length = c.attempts.length + 1 := by rw [List.length_append]; rfl
  -- the keys
  have key : ∀ k o, ob (withAtt L c.attempts.length p) { c with attempts := c.attempts ++ [a] } k = some o →
      (k = .att c.attempts.length ∧ o = .i "Attempt" (atF L c.attempts.length a)) ∨ (k = .la ∧ o = .l (((List.range c.attempts.length).map fun j => .ref (L.att j)) ++ [.ref p])) ∨ (k = .al i ∧ o = .l (((atsOf c i).map fun j => .ref (L.att j)) ++ [.ref p])) ∨
      (k ≠ .la ∧ k ≠ .al i ∧ k ≠ .att c.attempts.length ∧ ob L c k = some o ∧ (withAtt L c.attempts.length p).ad k = L.ad k) := by
    intro k o e
    cases k with
    | la =>
      refine .inr (.inl ⟨rfl, ?_⟩)
      cases e
      rw [len, List.range_succ, List.map_append, att_map fun k hk => List.mem_range.mp hk]
      show Ob.l (_ ++ [V.ref (if c.attempts.length = c.attempts.length then p else _)]) = _
      rw [if_pos rfl]
    | al j =>
      have e : (if j < c.calls.length then some (Ob.l ((atsOf { c with attempts := c.attempts ++ [a] } j).map fun k => .ref ((withAtt L c.attempts.length p).att k))) else none) = some o := e
      by_cases hj : j < c.calls.length
      · rw [if_pos hj, atsOf_new, List.map_append, att_map fun k hk => ats_lt hk] at e
        by_cases hji : j = i
        · subst hji
          refine .inr (.inr (.inl ⟨rfl, ?_⟩))
          rw [if_pos hc] at e
          cases e
          show Ob.l (_ ++ [V.ref (if c.attempts.length = c.attempts.length then p else _)]) = _
          rw [if_pos rfl]
        · refine .inr (.inr (.inr ⟨(fun z => by cases z), (fun z => by cases z; exact hji rfl), (fun z => by cases z), ?_, rfl⟩))
          rw [if_neg (fun z => hji (z.symm.trans hc)), List.map_nil, List.append_nil] at e
          show (if j < c.calls.length then _ else none) = _
          rw [if_pos hj]
          exact e
      · rw [if_neg hj] at e; cases e
    | att j =>
      have e : (if j < ({ c with attempts := c.attempts ++ [a] } : Client).attempts.length then some (Ob.i "Attempt" (atF L j (attemptAt { c with attempts := c.attempts ++ [a] } j))) else none) = some o := e
      rw [len] at e
      by_cases hj : j < c.attempts.length
      · rw [if_pos (by omega), attemptAt_lt hj] at e
        refine .inr (.inr (.inr ⟨(fun z => by cases z), (fun z => by cases z), (fun z => by cases z; omega), ?_, ?_⟩))
        · show (if j < c.attempts.length then _ else none) = _
          rw [if_pos hj]; exact e
        · show (if j = c.attempts.length then p else L.att j) = L.att j
          rw [if_neg (by omega)]
      · by_cases hj2 : j = c.attempts.length
        · subst hj2
          rw [if_pos (by omega), attemptAt_new] at e
          cases e
          exact .inl ⟨rfl, rfl⟩
        · rw [if_neg (by omega)] at e; cases e
    | cl => exact .inr (.inr (.inr ⟨(fun z => by cases z), (fun z => by cases z), (fun z => by cases z), e, rfl⟩))
    | po => exact .inr (.inr (.inr ⟨(fun z => by cases z), (fun z => by cases z), (fun z => by cases z), e, rfl⟩))
    | rt => exact .inr (.inr (.inr ⟨(fun z => by cases z), (fun z => by cases z), (fun z => by cases z), e, rfl⟩))
    | lb => exact .inr (.inr (.inr ⟨(fun z => by cases z), (fun z => by cases z), (fun z => by cases z), e, rfl⟩))
    | lc => exact .inr (.inr (.inr ⟨(fun z => by cases z), (fun z => by cases z), (fun z => by cases z), e, rfl⟩))
    | bk j => exact .inr (.inr (.inr ⟨(fun z => by cases z), (fun z => by cases z), (fun z => by cases z), e, rfl⟩))
    | ca j => exact .inr (.inr (.inr ⟨(fun z => by cases z), (fun z => by cases z), (fun z => by cases z), e, rfl⟩))
  have adp : (withAtt L c.attempts.length p).ad (.att c.attempts.length) = p := if_pos rfl
  have atn : ob L c (.att c.attempts.length) = none := if_neg (by omega)
  -- where a key's address is the old one
  have old : ∀ k o, ob (withAtt L c.attempts.length p) { c with attempts := c.attempts ++ [a] } k = some o → k ≠ .att c.attempts.length → (withAtt L c.attempts.length p).ad k = L.ad k ∧ ∃ o2, ob L c k = some o2 := by
    intro k o e hk
    rcases key k o e with ⟨z, _⟩ | ⟨rfl, _⟩ | ⟨rfl, _⟩ | ⟨_, _, _, e2, e3⟩
    · exact absurd z hk
    · exact ⟨rfl, _, ola⟩
    · exact ⟨rfl, _, oal⟩
    · exact ⟨e3, _, e2⟩
  refine ⟨⟨fun k o e => ?_, fun k k' o o' e1 e2 z => ?_, ?_⟩, fun b o e ho ht => ?_, fun k o e => ?_, fun k o e => ?_⟩
  · rcases key k o e with ⟨rfl, rfl⟩ | ⟨rfl, rfl⟩ | ⟨rfl, rfl⟩ | ⟨k1, k2, k3, e2, e3⟩
    · rw [adp]
      exact ⟨dx, by rw [upd_ne npl, upd_ne npa]; exact hp⟩
    · show upd _ _ _ L.la = _
      rw [upd_ne nla, upd_same]
    · show upd _ _ _ (L.al i) = _
      rw [upd_same]
    · rw [e3]
      have q1 : L.ad k ≠ L.al i := fun z => k2 (S.inj k (.al i) _ _ e2 oal z)
      have q2 : L.ad k ≠ L.la := fun z => k1 (S.inj k .la _ _ e2 ola z)
      exact (S.has k o e2).of (by rw [upd_ne q1, upd_ne q2])
  · by_cases h1 : k = .att c.attempts.length
    · by_cases h2 : k' = .att c.attempts.length
      · rw [h1, h2]
      · obtain ⟨a1, o2, a2⟩ := old k' o' e2 h2
        rw [h1, adp, a1] at z
        exact absurd z.symm (op k' _ a2)
    · obtain ⟨b1, o3, b2⟩ := old k o e1 h1
      by_cases h2 : k' = .att c.attempts.length
      · rw [h2, adp, b1] at z
        exact absurd z (op k _ b2)
      · obtain ⟨a1, o2, a2⟩ := old k' o' e2 h2
        rw [b1, a1] at z
        exact S.inj k k' _ _ b2 a2 z
  · have T1 : Tabs T (upd H L.la (.lst (((List.range c.attempts.length).map fun j => .ref (L.att j)) ++ [.ref p]))) := Tabs.upd' S.tabs fun v hv => by
      have q := S.has .la _ ola
      have q : H L.la = _ := q
      rw [q] at hv; cases hv
      exact ⟨(fun ps z => by cases z), fun φ z => by cases z⟩
    refine Tabs.upd' T1 fun v hv => ?_
    rw [upd_ne (Ne.symm nla)] at hv
    have q := S.has (.al i) _ oal
    have q : H (L.al i) = _ := q
    rw [q] at hv; cases hv
    exact ⟨(fun ps z => by cases z), fun φ z => by cases z⟩
  · have q1 : b ≠ L.al i := fun z => ho (.al i) _ (if_pos hi0) z.symm
    have q2 : b ≠ L.la := fun z => ho .la _ rfl z.symm
    rw [upd_ne q1, upd_ne q2]
    exact n.keep b o e ho ht
  · by_cases hk : k = .att c.attempts.length
    · rw [hk, adp]; exact .inr (.inl n0)
    · obtain ⟨a1, o2, a2⟩ := old k o e hk
      rw [a1]
      exact n.own k o2 a2
  · obtain ⟨a1, o2, a2⟩ := n.adr k o e
    have hk : k ≠ .att c.attempts.length := fun z => by rw [z, atn] at a2; cases a2
    refine ⟨?_, ?_⟩
    · cases k with
      | att j =>
        show (if j = c.attempts.length then p else L.att j) = L.att j
        rw [if_neg fun z => hk (by rw [z])]
      | _ => rfl
    · cases k with
      | att j =>
        have : j < c.attempts.length := by
          by_cases q : j < c.attempts.length
          · exact q
          · have z : ob L c (.att j) = none := if_neg q
            rw [z] at a2; cases a2
        exact ⟨_, if_pos (by rw [len]; omega)⟩
      | bk j => exact ⟨o2, a2⟩
      | ca j => exact ⟨o2, a2⟩
      | al j =>
        have : j < c.calls.length := by
          by_cases q : j < c.calls.length
          · exact q
          · have z : ob L c (.al j) = none := if_neg q
            rw [z] at a2; cases a2
        exact ⟨_, if_pos this⟩
      | _ => exact ⟨_, rfl⟩
end
end HC
end

section
set_option Elab.async false
set_option linter.all false
set_option maxRecDepth 100000
set_option maxHeartbeats 4000000
namespace HC
open PySem PySem.Spec PyProof.Rows L2 LamX
open Kp423 (Client Backend RemoteCall AttemptState setBackend setCall setAttempt backendAt callAt attemptAt)
/-! ### a backend joins -/
def withBk (L : Lo) (n : Nat) (p : Addr) : Lo := { L with bk := fun k => if k = n then p else L.bk k }
theorem backendAt_lt {c : Client} {b : Backend} {k : Nat} (h : k < c.backends.length) : backendAt { c with backends := c.backends ++ [b] } k = backendAt c k := by
  simp only [backendAt, List.getD_eq_getElem?_getD, List.getElem?_append_left h]
theorem backendAt_new {c : Client} {b : Backend} : backendAt { c with backends := c.backends ++ [b] } c.backends.length = b := by
  simp only [backendAt, List.getD_eq_getElem?_getD, List.getElem?_concat_length, Option.getD_some]
theorem bk_map {L : Lo} {n : Nat} {p : Addr} {l : List Nat} (h : ∀ k ∈ l, k < n) : (l.map fun k => V.ref ((withBk L n p).bk k)) = l.map fun k => V.ref (L.bk k) := by
  refine List.map_congr_left fun k hk => ?_
  have : k ≠ n := fun z => by have := h k hk; omega
  show V.ref (if k = n then p else L.bk k) = _
  rw [if_neg this]
section
variable {K : PySem.W.Frag} {T : List (Addr × Str)} {L : Lo} {c0 c : Client} {H0 H : Hp} {p dx : Addr} {b : Backend}
theorem Nxt.addBk (n : Nxt K T L c0 H0 L c H) (hx : ∀ a, a < c.attempts.length → (attemptAt c a).backend < c.backends.length) (n0 : H0 p = none) (op : Off L c p) (hp : H p = some (.ins (He.ga K "Backend") dx (bkF c.backends.length b))) :
    Nxt K T L c0 H0 (withBk L c.backends.length p) { c with backends := c.backends ++ [b] }
      (upd H L.lb (.lst (((List.range c.backends.length).map fun j => .ref (L.bk j)) ++ [.ref p]))) := by
  have S := n.st
  have olb : ob L c .lb = some (.l ((List.range c.backends.length).map fun i => .ref (L.bk i))) := rfl
  have npb : p ≠ L.lb := fun z => op .lb _ olb z.symm
  have len : ({ c with backends := c.backends ++ [b] } : Client).backends.length = c.backends.length + 1 := by rw [List.length_append]; rfl
  have key : ∀ k o, ob (withBk L c.backends.length p) { c with backends := c.backends ++ [b] } k = some o →
      (k = .bk c.backends.length ∧ o = .i "Backend" (bkF c.backends.length b)) ∨ (k = .lb ∧ o = .l (((List.range c.backends.length).map fun j => .ref (L.bk j)) ++ [.ref p])) ∨
      (k ≠ .lb ∧ k ≠ .bk c.backends.length ∧ ob L c k = some o ∧ (withBk L c.backends.length p).ad k = L.ad k) := by
    intro k o e
    cases k with
    | lb =>
      refine .inr (.inl ⟨rfl, ?_⟩)
      cases e
      rw [len, List.range_succ, List.map_append, bk_map fun k hk => List.mem_range.mp hk]
      show Ob.l (_ ++ [V.ref (if c.backends.length = c.backends.length then p else _)]) = _
      rw [if_pos rfl]
    | bk j =>
      have e : (if j < ({ c with backends := c.backends ++ [b] } : Client).backends.length then some (Ob.i "Backend" (bkF j (backendAt { c with backends := c.backends ++ [b] } j))) else none) = some o := e
      rw [len] at e
      by_cases hj : j < c.backends.length
      · rw [if_pos (by omega), backendAt_lt hj] at e
        refine .inr (.inr ⟨(fun z => by cases z), (fun z => by cases z; omega), ?_, ?_⟩)
        · show (if j < c.backends.length then _ else none) = _
          rw [if_pos hj]; exact e
        · show (if j = c.backends.length then p else L.bk j) = L.bk j
          rw [if_neg (by omega)]
      · by_cases hj2 : j = c.backends.length
        · subst hj2
          rw [if_pos (by omega), backendAt_new] at e
          cases e
          exact .inl ⟨rfl, rfl⟩
        · rw [if_neg (by omega)] at e; cases e
    | att j =>
      refine .inr (.inr ⟨(fun z => by cases z), (fun z => by cases z), ?_, rfl⟩)
      have e : (if j < c.attempts.length then some (Ob.i "Attempt" (atF (withBk L c.backends.length p) j (attemptAt c j))) else none) = some o := e
      show (if j < c.attempts.length then some (Ob.i "Attempt" (atF L j (attemptAt c j))) else none) = some o
      by_cases hj : j < c.attempts.length
      · rw [if_pos hj] at e ⊢
        rw [← e]
        have hb := hx j hj
        have q : (withBk L c.backends.length p).bk (attemptAt c j).backend = L.bk (attemptAt c j).backend := if_neg (by omega)
        unfold atF
        rw [q]
        rfl
      · rw [if_neg hj] at e; cases e
    | cl => exact .inr (.inr ⟨(fun z => by cases z), (fun z => by cases z), e, rfl⟩)
    | po => exact .inr (.inr ⟨(fun z => by cases z), (fun z => by cases z), e, rfl⟩)
    | rt => exact .inr (.inr ⟨(fun z => by cases z), (fun z => by cases z), e, rfl⟩)
    | la => exact .inr (.inr ⟨(fun z => by cases z), (fun z => by cases z), e, rfl⟩)
    | lc => exact .inr (.inr ⟨(fun z => by cases z), (fun z => by cases z), e, rfl⟩)
    | al j => exact .inr (.inr ⟨(fun z => by cases z), (fun z => by cases z), e, rfl⟩)
    | ca j => exact .inr (.inr ⟨(fun z => by cases z), (fun z => by cases z), e, rfl⟩)
  have adp : (withBk L c.backends.length p).ad (.bk c.backends.length) = p := if_pos rfl
  have atn : ob L c (.bk c.backends.length) = none := if_neg (by omega)
  have old : ∀ k o, ob (withBk L c.backends.length p) { c with backends := c.backends ++ [b] } k = some o → k ≠ .bk c.backends.length → (withBk L c.backends.length p).ad k = L.ad k ∧ ∃ o2, ob L c k = some o2 := by
    intro k o e hk
    rcases key k o e with ⟨z, _⟩ | ⟨rfl, _⟩ | ⟨_, _, e2, e3⟩
    · exact absurd z hk
    · exact ⟨rfl, _, olb⟩
    · exact ⟨e3, _, e2⟩
  refine ⟨⟨fun k o e => ?_, fun k k' o o' e1 e2 z => ?_, ?_⟩, fun d o e ho ht => ?_, fun k o e => ?_, fun k o e => ?_⟩
  · rcases key k o e with ⟨rfl, rfl⟩ | ⟨rfl, rfl⟩ | ⟨k1, k3, e2, e3⟩
    · rw [adp]
      exact ⟨dx, by rw [upd_ne npb]; exact hp⟩
    · show upd _ _ _ L.lb = _
      rw [upd_same]
    · rw [e3]
      have q2 : L.ad k ≠ L.lb := fun z => k1 (S.inj k .lb _ _ e2 olb z)
      exact (S.has k o e2).of (by rw [upd_ne q2])
  · by_cases h1 : k = .bk c.backends.length
    · by_cases h2 : k' = .bk c.backends.length
      · rw [h1, h2]
      · obtain ⟨a1, o2, a2⟩ := old k' o' e2 h2
        rw [h1, adp, a1] at z
        exact absurd z.symm (op k' _ a2)
    · obtain ⟨b1, o3, b2⟩ := old k o e1 h1
      by_cases h2 : k' = .bk c.backends.length
      · rw [h2, adp, b1] at z
        exact absurd z (op k _ b2)
      · obtain ⟨a1, o2, a2⟩ := old k' o' e2 h2
        rw [b1, a1] at z
        exact S.inj k k' _ _ b2 a2 z
  · refine Tabs.upd' S.tabs fun v hv => ?_
    have q : H L.lb = _ := S.has .lb _ olb
    rw [q] at hv; cases hv
    exact ⟨(fun ps z => by cases z), fun φ z => by cases z⟩
  · have q2 : d ≠ L.lb := fun z => ho .lb _ rfl z.symm
    rw [upd_ne q2]
    exact n.keep d o e ho ht
  · by_cases hk : k = .bk c.backends.length
    · rw [hk, adp]; exact .inr (.inl n0)
    · obtain ⟨a1, o2, a2⟩ := old k o e hk
      rw [a1]
      exact n.own k o2 a2
  · obtain ⟨a1, o2, a2⟩ := n.adr k o e
    have hk : k ≠ .bk c.backends.length := fun z => by rw [z, atn] at a2; cases a2
    refine ⟨?_, ?_⟩
    · cases k with
      | bk j =>
        show (if j = c.backends.length then p else L.bk j) = L.bk j
        rw [if_neg fun z => hk (by rw [z])]
      | _ => rfl
    · cases k with
      | bk j =>
        have : j < c.backends.length := by
          by_cases q : j < c.backends.length
          · exact q
          · have z : ob L c (.bk j) = none := if_neg q
            rw [z] at a2; cases a2
        exact ⟨_, if_pos (by rw [len]; omega)⟩
      | att j =>
        have : j < c.attempts.length := by
          by_cases q : j < c.attempts.length
          · exact q
          · have z : ob L c (.att j) = none := if_neg q
            rw [z] at a2; cases a2
        exact ⟨_, if_pos this⟩
      | ca j => exact ⟨o2, a2⟩
      | al j => exact ⟨o2, a2⟩
      | _ => exact ⟨_, rfl⟩
/-! ### a call joins -/
def withCa (L : Lo) (n : Nat) (p q : Addr) : Lo := { L with ca := fun k => if k = n then p else L.ca k, al := fun k => if k = n then q else L.al k }
theorem callAt_lt {c : Client} {x : RemoteCall} {k : Nat} (h : k < c.calls.length) : callAt { c with calls := c.calls ++ [x] } k = callAt c k := by
  simp only [callAt, List.getD_eq_getElem?_getD, List.getElem?_append_left h]
theorem callAt_new {c : Client} {x : RemoteCall} : callAt { c with calls := c.calls ++ [x] } c.calls.length = x := by
  simp only [callAt, List.getD_eq_getElem?_getD, List.getElem?_concat_length, Option.getD_some]
theorem ca_map {L : Lo} {n : Nat} {p q : Addr} {l : List Nat} (h : ∀ k ∈ l, k < n) : (l.map fun k => V.ref ((withCa L n p q).ca k)) = l.map fun k => V.ref (L.ca k) := by
  refine List.map_congr_left fun k hk => ?_
  have : k ≠ n := fun z => by have := h k hk; omega
  show V.ref (if k = n then p else L.ca k) = _
  rw [if_neg this]
theorem Nxt.addCa {q : Addr} {x : RemoteCall} (n : Nxt K T L c0 H0 L c H) (hx : ∀ a, a < c.attempts.length → (attemptAt c a).call < c.calls.length) (n0 : H0 p = none) (m0 : H0 q = none) (op : Off L c p) (oq : Off L c q) (hp : H p = some (.ins (He.ga K "Call") dx (caF (withCa L c.calls.length p q) c.calls.length x))) (hq : H q = some (.lst [])) :
    Nxt K T L c0 H0 (withCa L c.calls.length p q) { c with calls := c.calls ++ [x] }
      (upd H L.lc (.lst (((List.range c.calls.length).map fun j => .ref (L.ca j)) ++ [.ref p]))) := by
  have S := n.st
  have olc : ob L c .lc = some (.l ((List.range c.calls.length).map fun i => .ref (L.ca i))) := rfl
  have npc : p ≠ L.lc := fun z => op .lc _ olc z.symm
  have nqc : q ≠ L.lc := fun z => oq .lc _ olc z.symm
  have npq : p ≠ q := fun z => by rw [z, hq] at hp; cases hp
  have len : ({ c with calls := c.calls ++ [x] } : Client).calls.length = c.calls.length + 1 := by rw [List.length_append]; rfl
  have none_ : atsOf c c.calls.length = [] := by
    refine List.filter_eq_nil_iff.mpr fun a ha z => ?_
    have h1 := hx a (List.mem_range.mp ha)
    have h2 := beq_iff_eq.mp z
    omega
  have key : ∀ k o, ob (withCa L c.calls.length p q) { c with calls := c.calls ++ [x] } k = some o →
      (k = .ca c.calls.length ∧ o = .i "Call" (caF (withCa L c.calls.length p q) c.calls.length x)) ∨ (k = .al c.calls.length ∧ o = .l []) ∨ (k = .lc ∧ o = .l (((List.range c.calls.length).map fun j => .ref (L.ca j)) ++ [.ref p])) ∨
      (k ≠ .lc ∧ k ≠ .ca c.calls.length ∧ k ≠ .al c.calls.length ∧ ob L c k = some o ∧ (withCa L c.calls.length p q).ad k = L.ad k) := by
    intro k o e
    cases k with
    | lc =>
      refine .inr (.inr (.inl ⟨rfl, ?_⟩))
      cases e
      rw [len, List.range_succ, List.map_append, ca_map fun k hk => List.mem_range.mp hk]
      show Ob.l (_ ++ [V.ref (if c.calls.length = c.calls.length then p else _)]) = _
      rw [if_pos rfl]
    | ca j =>
      have e : (if j < ({ c with calls := c.calls ++ [x] } : Client).calls.length then some (Ob.i "Call" (caF (withCa L c.calls.length p q) j (callAt { c with calls := c.calls ++ [x] } j))) else none) = some o := e
      rw [len] at e
      by_cases hj : j < c.calls.length
      · rw [if_pos (by omega), callAt_lt hj] at e
        have q2 : (withCa L c.calls.length p q).al j = L.al j := if_neg (by omega)
        refine .inr (.inr (.inr ⟨(fun z => by cases z), (fun z => by cases z; omega), (fun z => by cases z), ?_, ?_⟩))
        · show (if j < c.calls.length then some (Ob.i "Call" (caF L j (callAt c j))) else none) = _
          rw [if_pos hj, ← e]
          unfold caF
          rw [q2]
        · show (if j = c.calls.length then p else L.ca j) = L.ca j
          rw [if_neg (by omega)]
      · by_cases hj2 : j = c.calls.length
        · subst hj2
          rw [if_pos (by omega), callAt_new] at e
          cases e
          exact .inl ⟨rfl, rfl⟩
        · rw [if_neg (by omega)] at e; cases e
    | al j =>
      have e : (if j < ({ c with calls := c.calls ++ [x] } : Client).calls.length then some (Ob.l ((atsOf c j).map fun a => .ref (L.att a))) else none) = some o := e
      rw [len] at e
      by_cases hj : j < c.calls.length
      · rw [if_pos (by omega)] at e
        refine .inr (.inr (.inr ⟨(fun z => by cases z), (fun z => by cases z), (fun z => by cases z; omega), ?_, ?_⟩))
        · show (if j < c.calls.length then _ else none) = _
          rw [if_pos hj]; exact e
        · show (if j = c.calls.length then q else L.al j) = L.al j
          rw [if_neg (by omega)]
      · by_cases hj2 : j = c.calls.length
        · subst hj2
          rw [if_pos (by omega), none_] at e
          cases e
          exact .inr (.inl ⟨rfl, rfl⟩)
        · rw [if_neg (by omega)] at e; cases e
    | att j =>
      refine .inr (.inr (.inr ⟨(fun z => by cases z), (fun z => by cases z), (fun z => by cases z), ?_, rfl⟩))
      have e : (if j < c.attempts.length then some (Ob.i "Attempt" (atF (withCa L c.calls.length p q) j (attemptAt c j))) else none) = some o := e
      show (if j < c.attempts.length then some (Ob.i "Attempt" (atF L j (attemptAt c j))) else none) = some o
      by_cases hj : j < c.attempts.length
      · rw [if_pos hj] at e ⊢
        rw [← e]
        have hb := hx j hj
        have q2 : (withCa L c.calls.length p q).ca (attemptAt c j).call = L.ca (attemptAt c j).call := if_neg (by omega)
        unfold atF
        rw [q2]
        rfl
      · rw [if_neg hj] at e; cases e
    | cl => exact .inr (.inr (.inr ⟨(fun z => by cases z), (fun z => by cases z), (fun z => by cases z), e, rfl⟩))
    | po => exact .inr (.inr (.inr ⟨(fun z => by cases z), (fun z => by cases z), (fun z => by cases z), e, rfl⟩))
    | rt => exact .inr (.inr (.inr ⟨(fun z => by cases z), (fun z => by cases z), (fun z => by cases z), e, rfl⟩))
    | la => exact .inr (.inr (.inr ⟨(fun z => by cases z), (fun z => by cases z), (fun z => by cases z), e, rfl⟩))
    | lb => exact .inr (.inr (.inr ⟨(fun z => by cases z), (fun z => by cases z), (fun z => by cases z), e, rfl⟩))
    | bk j => exact .inr (.inr (.inr ⟨(fun z => by cases z), (fun z => by cases z), (fun z => by cases z), e, rfl⟩))
  have adp : (withCa L c.calls.length p q).ad (.ca c.calls.length) = p := if_pos rfl
  have adq : (withCa L c.calls.length p q).ad (.al c.calls.length) = q := if_pos rfl
  have atn : ob L c (.ca c.calls.length) = none := if_neg (by omega)
  have aln : ob L c (.al c.calls.length) = none := if_neg (by omega)
  -- an address: of the two new things, or an old one
  have old : ∀ k o, ob (withCa L c.calls.length p q) { c with calls := c.calls ++ [x] } k = some o → (k = .ca c.calls.length ∧ (withCa L c.calls.length p q).ad k = p) ∨ (k = .al c.calls.length ∧ (withCa L c.calls.length p q).ad k = q) ∨ ((withCa L c.calls.length p q).ad k = L.ad k ∧ ∃ o2, ob L c k = some o2) := by
    intro k o e
    rcases key k o e with ⟨rfl, _⟩ | ⟨rfl, _⟩ | ⟨rfl, _⟩ | ⟨_, _, _, e2, e3⟩
    · exact .inl ⟨rfl, adp⟩
    · exact .inr (.inl ⟨rfl, adq⟩)
    · exact .inr (.inr ⟨rfl, _, olc⟩)
    · exact .inr (.inr ⟨e3, _, e2⟩)
  refine ⟨⟨fun k o e => ?_, fun k k' o o' e1 e2 z => ?_, ?_⟩, fun d o e ho ht => ?_, fun k o e => ?_, fun k o e => ?_⟩
  · rcases key k o e with ⟨rfl, rfl⟩ | ⟨rfl, rfl⟩ | ⟨rfl, rfl⟩ | ⟨k1, k2, k3, e2, e3⟩
    · rw [adp]
      exact ⟨dx, by rw [upd_ne npc]; exact hp⟩
    · rw [adq]
      show upd _ _ _ q = _
      rw [upd_ne nqc]; exact hq
    · show upd _ _ _ L.lc = _
      rw [upd_same]
    · rw [e3]
      have q2 : L.ad k ≠ L.lc := fun z => k1 (S.inj k .lc _ _ e2 olc z)
      exact (S.has k o e2).of (by rw [upd_ne q2])
  · rcases old k o e1 with ⟨a1, a2⟩ | ⟨a1, a2⟩ | ⟨a1, o2, a2⟩
    · rcases old k' o' e2 with ⟨b1, b2⟩ | ⟨b1, b2⟩ | ⟨b1, o3, b2⟩
      · rw [a1, b1]
      · rw [a2, b2] at z; exact absurd z npq
      · rw [a2, b1] at z; exact absurd z.symm (op k' _ b2)
    · rcases old k' o' e2 with ⟨b1, b2⟩ | ⟨b1, b2⟩ | ⟨b1, o3, b2⟩
      · rw [a2, b2] at z; exact absurd z.symm npq
      · rw [a1, b1]
      · rw [a2, b1] at z; exact absurd z.symm (oq k' _ b2)
    · rcases old k' o' e2 with ⟨b1, b2⟩ | ⟨b1, b2⟩ | ⟨b1, o3, b2⟩
      · rw [a1, b2] at z; exact absurd z (op k _ a2)
      · rw [a1, b2] at z; exact absurd z (oq k _ a2)
      · rw [a1, b1] at z; exact S.inj k k' _ _ a2 b2 z
  · refine Tabs.upd' S.tabs fun v hv => ?_
    have w : H L.lc = _ := S.has .lc _ olc
    rw [w] at hv; cases hv
    exact ⟨(fun ps z => by cases z), fun φ z => by cases z⟩
  · have q2 : d ≠ L.lc := fun z => ho .lc _ rfl z.symm
    rw [upd_ne q2]
    exact n.keep d o e ho ht
  · rcases old k o e with ⟨a1, a2⟩ | ⟨a1, a2⟩ | ⟨a1, o2, a2⟩
    · rw [a2]; exact .inr (.inl n0)
    · rw [a2]; exact .inr (.inl m0)
    · rw [a1]; exact n.own k o2 a2
  · obtain ⟨a1, o2, a2⟩ := n.adr k o e
    have hk : k ≠ .ca c.calls.length := fun z => by rw [z, atn] at a2; cases a2
    have hl : k ≠ .al c.calls.length := fun z => by rw [z, aln] at a2; cases a2
    refine ⟨?_, ?_⟩
    · cases k with
      | ca j =>
        show (if j = c.calls.length then p else L.ca j) = L.ca j
        rw [if_neg fun z => hk (by rw [z])]
      | al j =>
        show (if j = c.calls.length then q else L.al j) = L.al j
        rw [if_neg fun z => hl (by rw [z])]
      | _ => rfl
    · cases k with
      | ca j =>
        have : j < c.calls.length := by
          by_cases w : j < c.calls.length
          · exact w
          · have z : ob L c (.ca j) = none := if_neg w
            rw [z] at a2; cases a2
        exact ⟨_, if_pos (by rw [len]; omega)⟩
      | al j =>
        have : j < c.calls.length := by
          by_cases w : j < c.calls.length
          · exact w
          · have z : ob L c (.al j) = none := if_neg w
            rw [z] at a2; cases a2
        exact ⟨_, if_pos (by rw [len]; omega)⟩
      | att j =>
        have : j < c.attempts.length := by
          by_cases w : j < c.attempts.length
          · exact w
          · have z : ob L c (.att j) = none := if_neg w
            rw [z] at a2; cases a2
        exact ⟨_, if_pos this⟩
      | bk j => exact ⟨o2, a2⟩
      | _ => exact ⟨_, rfl⟩
end
end HC
end

section
open PySem PySem.Spec PyProof.Rows L2
namespace HM
open Kp423 (Timer before timersOf nextTimer Client)
/-! ### the first least timer -/
def fl {α : Type} (lt : α → α → Bool) (l : List α) : Option α := l.foldl (fun best t => match best with
  | none => some t
  | some b => if lt t b then some t else some b) none
theorem fl_snoc {α : Type} (lt : α → α → Bool) (r : List α) (y : α) : fl lt (r ++ [y]) = (match fl lt r with | none => some y | some b => if lt y b then some y else some b) := by
  unfold fl
  rw [List.foldl_append]
  rfl
theorem fl_mem {α : Type} (lt : α → α → Bool) : ∀ (n : Nat) (l : List α), l.length = n → (∀ x, fl lt l = some x → x ∈ l) ∧ (fl lt l = none → l = []) := by
  intro n
  induction n with
  | zero =>
    intro l hl
    rw [List.length_eq_zero_iff.mp hl]
    exact ⟨(fun x h => by cases h), fun _ => rfl⟩
  | succ n ih =>
    intro l hl
    obtain ⟨r, y, rfl⟩ : ∃ r y, l = r ++ [y] := by
      rcases List.eq_nil_or_concat l with e | ⟨r, y, e⟩
      · rw [e] at hl; cases hl
      · exact ⟨r, y, by rw [e]; simp⟩
    have hr : r.length = n := by simp at hl; exact hl
    obtain ⟨i1, i2⟩ := ih r hr
    rw [fl_snoc]
    cases q : fl lt r with
    | none => exact ⟨(fun x h => by cases h; simp), fun h => by cases h⟩
    | some b =>
      have z := i1 b q
      dsimp only
      split
      · exact ⟨(fun x h => by cases h; simp), fun h => by cases h⟩
      · exact ⟨(fun x h => by cases h; simp [z]), fun h => by cases h⟩
theorem fl_best {α : Type} (lt : α → α → Bool) : ∀ (n : Nat) (l : List α), l.length = n → ∀ (i : Nat) (x : α), l[i]? = some x → (∀ (j : Nat) (y : α), l[j]? = some y → (j < i → lt x y = true) ∧ (i < j → lt y x = false)) → fl lt l = some x := by
  intro n
  induction n with
  | zero =>
    intro l hl i x h
    rw [List.length_eq_zero_iff.mp hl] at h
    cases h
  | succ n ih =>
    intro l hl i x hx hb
    obtain ⟨r, y, rfl⟩ : ∃ r y, l = r ++ [y] := by
      rcases List.eq_nil_or_concat l with e | ⟨r, y, e⟩
      · rw [e] at hl; cases hl
      · exact ⟨r, y, by rw [e]; simp⟩
    have hr : r.length = n := by simp at hl; exact hl
    rw [fl_snoc]
    have hi0 := (List.getElem?_eq_some_iff.mp hx).1
    rw [List.length_append, List.length_singleton] at hi0
    by_cases hi : i < r.length
    · have hx2 : r[i]? = some x := by rw [List.getElem?_append_left hi] at hx; exact hx
      have z := ih r hr i x hx2 fun j w hj => hb j w (by rw [List.getElem?_append_left (List.getElem?_eq_some_iff.mp hj).1]; exact hj)
      rw [z]
      have z2 := (hb r.length y (by simp)).2 hi
      dsimp only
      rw [z2]
      rfl
    · have hi : i = r.length := by omega
      subst hi
      have hx2 : y = x := by simpa using hx
      subst hx2
      cases q : fl lt r with
      | none => rfl
      | some b =>
        have hm := (fl_mem lt n r hr).1 b q
        obtain ⟨j, hj, e⟩ := List.getElem_of_mem hm
        have z := (hb j b (by rw [List.getElem?_append_left hj, List.getElem?_eq_getElem hj, e])).1 hj
        dsimp only
        rw [z]
        rfl
def tms (c : Client) : List Timer := (List.range c.calls.length).flatMap (timersOf c)
theorem next_is (c : Client) : nextTimer c = fl before (tms c) := by
  unfold nextTimer fl
  show (tms c).foldl _ none = _
  congr 1
  funext best t
  cases best <;> rfl
def tv (t : Timer) : List Int := [(t.time : Int), (t.kind : Int), (t.call : Int)]
theorem lex3 (a b c d e f : Int) : HT.lexLt [a, b, c] [d, e, f] = decide (a < d ∨ (a = d ∧ (b < e ∨ (b = e ∧ c < f)))) := by
  rw [HT.lexLt_cons, HT.lexLt_cons, HT.lexLt_cons, HT.lexLt_nil_nil]
  split
  · split
    · split
      · rw [decide_eq_false]; omega
      · exact decide_eq_decide.mpr (by omega)
    · exact decide_eq_decide.mpr (by omega)
  · exact decide_eq_decide.mpr (by omega)
theorem before_is (a b : Timer) : HT.lexLt (tv a) (tv b) = before a b := by
  unfold tv before
  rw [lex3]
  by_cases h1 : a.time < b.time
  · rw [decide_eq_true h1, Bool.true_or, decide_eq_true]; omega
  · rw [decide_eq_false h1, Bool.false_or]
    by_cases h2 : a.time = b.time
    · rw [beq_iff_eq.mpr h2, Bool.true_and]
      by_cases h3 : a.kind < b.kind
      · rw [decide_eq_true h3, Bool.true_or, decide_eq_true]; omega
      · rw [decide_eq_false h3, Bool.false_or]
        by_cases h4 : a.kind = b.kind
        · rw [beq_iff_eq.mpr h4, Bool.true_and]
          exact decide_eq_decide.mpr (by omega)
        · rw [beq_eq_false_iff_ne.mpr h4, Bool.false_and, decide_eq_false]; omega
    · rw [beq_eq_false_iff_ne.mpr h2, Bool.false_and, decide_eq_false]; omega
/-- the numbers of the timer at a place -/
def tval (l : List Timer) (k : Nat) : List Int := match l[k]? with
  | some m => tv m
  | none => [0, 0, 0]
theorem tval3 (l : List Timer) (k : Nat) : ∃ a b c, tval l k = [a, b, c] := by
  unfold tval
  split
  · exact ⟨_, _, _, rfl⟩
  · exact ⟨_, _, _, rfl⟩
theorem tval_order (l : List Timer) : MM.StrictO fun i j => HT.lexLt (tval l i) (tval l j) := by
  refine ⟨fun i j k => ?_, fun i j k => ?_, fun i j => ?_⟩
  · obtain ⟨a, b, c, e1⟩ := tval3 l i
    obtain ⟨d, e, f, e2⟩ := tval3 l j
    obtain ⟨g, h, m, e3⟩ := tval3 l k
    rw [e1, e2, e3, lex3, lex3, lex3, decide_eq_true_iff, decide_eq_true_iff, decide_eq_true_iff]
    omega
  · obtain ⟨a, b, c, e1⟩ := tval3 l i
    obtain ⟨d, e, f, e2⟩ := tval3 l j
    obtain ⟨g, h, m, e3⟩ := tval3 l k
    rw [e1, e2, e3, lex3, lex3, lex3, decide_eq_false_iff_not, decide_eq_false_iff_not, decide_eq_false_iff_not]
    omega
  · obtain ⟨a, b, c, e1⟩ := tval3 l i
    obtain ⟨d, e, f, e2⟩ := tval3 l j
    rw [e1, e2, lex3, lex3, decide_eq_true_iff, decide_eq_false_iff_not]
    omega
theorem tbest {c : Client} {i : Nat} {m : Timer} (hm : (tms c)[i]? = some m) (b : MM.Best (fun i j => HT.lexLt (tval (tms c) i) (tval (tms c) j)) (tms c).length i) : nextTimer c = some m := by
  rw [next_is]
  have vi : tval (tms c) i = tv m := by unfold tval; rw [hm]
  refine fl_best before _ _ rfl i m hm fun j y hj => ?_
  have vj : tval (tms c) j = tv y := by unfold tval; rw [hj]
  obtain ⟨b1, b2⟩ := b.2 j (List.getElem?_eq_some_iff.mp hj).1
  simp only [vi, vj, before_is] at b1 b2
  exact ⟨b1, b2⟩
theorem tnone {c : Client} (h : tms c = []) : nextTimer c = none := by
  rw [next_is, h]; rfl
end HM
end

section
set_option Elab.async false
set_option linter.all false
set_option maxRecDepth 100000
set_option maxHeartbeats 4000000
namespace HC
open PySem PySem.Spec PyProof.Rows L2 LamX
open Kp423 (Client Backend RemoteCall AttemptState setBackend setCall setAttempt backendAt callAt attemptAt)
/-- the read of a field, the store to a field, from the object's reference on -/
def FldR (K : PySem.W.Frag) (x : V) (f : Str) (H : Hp) (Q : VK) : Prop := ∃ a C dx fs v, x = .ref a ∧ H a = some (.ins C dx fs) ∧ Cls K C ∧ NoAttr K C f ∧ fs.lookup f = some v ∧ Q v H
def StR (K : PySem.W.Frag) (x : V) (f : Str) (y : V) (H : Hp) (G : Hp → Prop) : Prop := ∃ a C dx fs, x = .ref a ∧ H a = some (.ins C dx fs) ∧ Cls K C ∧ NoAttr K C f ∧ fs.length < 1000 ∧ G (upd H a (.ins C dx (putF f y fs)))
section
variable {K : PySem.W.Frag} {mg : Str → Option Value} {T : List (Addr × Str)} {L : Lo} {c : Client} {H : Hp} {Q : VK} {G : Hp → Prop} {i : Nat}
theorem l_cl_seed : (clF L c).lookup ("seed" : Str) = some ((nV c.seed) : V) := by kernel_rfl
theorem r_cl_seed (X : Tx K mg) (S : St K T L c H) (h : Q (nV c.seed) H) : FldR K (.ref (L.cl)) "seed" H Q := by
  obtain ⟨dx, e⟩ := S.has .cl _ rfl
  exact ⟨_, _, dx, _, _, rfl, e, X.c_Client, X.n_Client_seed, l_cl_seed, h⟩
theorem l_cl_balancer : (clF L c).lookup ("balancer" : Str) = some ((nV c.policy.balancer) : V) := by kernel_rfl
theorem r_cl_balancer (X : Tx K mg) (S : St K T L c H) (h : Q (nV c.policy.balancer) H) : FldR K (.ref (L.cl)) "balancer" H Q := by
  obtain ⟨dx, e⟩ := S.has .cl _ rfl
  exact ⟨_, _, dx, _, _, rfl, e, X.c_Client, X.n_Client_balancer, l_cl_balancer, h⟩
theorem l_cl_policy : (clF L c).lookup ("policy" : Str) = some ((.ref L.po) : V) := by kernel_rfl
theorem r_cl_policy (X : Tx K mg) (S : St K T L c H) (h : Q (.ref L.po) H) : FldR K (.ref (L.cl)) "policy" H Q := by
  obtain ⟨dx, e⟩ := S.has .cl _ rfl
  exact ⟨_, _, dx, _, _, rfl, e, X.c_Client, X.n_Client_policy, l_cl_policy, h⟩
theorem l_cl_now : (clF L c).lookup ("now" : Str) = some ((nV c.now) : V) := by kernel_rfl
theorem r_cl_now (X : Tx K mg) (S : St K T L c H) (h : Q (nV c.now) H) : FldR K (.ref (L.cl)) "now" H Q := by
  obtain ⟨dx, e⟩ := S.has .cl _ rfl
  exact ⟨_, _, dx, _, _, rfl, e, X.c_Client, X.n_Client_now, l_cl_now, h⟩
theorem l_cl_tokens : (clF L c).lookup ("tokens" : Str) = some ((nV c.tokens) : V) := by kernel_rfl
theorem r_cl_tokens (X : Tx K mg) (S : St K T L c H) (h : Q (nV c.tokens) H) : FldR K (.ref (L.cl)) "tokens" H Q := by
  obtain ⟨dx, e⟩ := S.has .cl _ rfl
  exact ⟨_, _, dx, _, _, rfl, e, X.c_Client, X.n_Client_tokens, l_cl_tokens, h⟩
theorem l_cl_pointer : (clF L c).lookup ("pointer" : Str) = some ((nV c.pointer) : V) := by kernel_rfl
theorem r_cl_pointer (X : Tx K mg) (S : St K T L c H) (h : Q (nV c.pointer) H) : FldR K (.ref (L.cl)) "pointer" H Q := by
  obtain ⟨dx, e⟩ := S.has .cl _ rfl
  exact ⟨_, _, dx, _, _, rfl, e, X.c_Client, X.n_Client_pointer, l_cl_pointer, h⟩
theorem l_cl_backends : (clF L c).lookup ("backends" : Str) = some ((.ref L.lb) : V) := by kernel_rfl
theorem r_cl_backends (X : Tx K mg) (S : St K T L c H) (h : Q (.ref L.lb) H) : FldR K (.ref (L.cl)) "backends" H Q := by
  obtain ⟨dx, e⟩ := S.has .cl _ rfl
  exact ⟨_, _, dx, _, _, rfl, e, X.c_Client, X.n_Client_backends, l_cl_backends, h⟩
theorem l_cl_calls : (clF L c).lookup ("calls" : Str) = some ((.ref L.lc) : V) := by kernel_rfl
theorem r_cl_calls (X : Tx K mg) (S : St K T L c H) (h : Q (.ref L.lc) H) : FldR K (.ref (L.cl)) "calls" H Q := by
  obtain ⟨dx, e⟩ := S.has .cl _ rfl
  exact ⟨_, _, dx, _, _, rfl, e, X.c_Client, X.n_Client_calls, l_cl_calls, h⟩
theorem l_cl_attempts : (clF L c).lookup ("attempts" : Str) = some ((.ref L.la) : V) := by kernel_rfl
theorem r_cl_attempts (X : Tx K mg) (S : St K T L c H) (h : Q (.ref L.la) H) : FldR K (.ref (L.cl)) "attempts" H Q := by
  obtain ⟨dx, e⟩ := S.has .cl _ rfl
  exact ⟨_, _, dx, _, _, rfl, e, X.c_Client, X.n_Client_attempts, l_cl_attempts, h⟩
theorem l_cl_retries : (clF L c).lookup ("retries" : Str) = some ((nV c.retryCount) : V) := by kernel_rfl
theorem r_cl_retries (X : Tx K mg) (S : St K T L c H) (h : Q (nV c.retryCount) H) : FldR K (.ref (L.cl)) "retries" H Q := by
  obtain ⟨dx, e⟩ := S.has .cl _ rfl
  exact ⟨_, _, dx, _, _, rfl, e, X.c_Client, X.n_Client_retries, l_cl_retries, h⟩
theorem l_cl_hedges : (clF L c).lookup ("hedges" : Str) = some ((nV c.hedgeCount) : V) := by kernel_rfl
theorem r_cl_hedges (X : Tx K mg) (S : St K T L c H) (h : Q (nV c.hedgeCount) H) : FldR K (.ref (L.cl)) "hedges" H Q := by
  obtain ⟨dx, e⟩ := S.has .cl _ rfl
  exact ⟨_, _, dx, _, _, rfl, e, X.c_Client, X.n_Client_hedges, l_cl_hedges, h⟩
theorem l_cl_transparents : (clF L c).lookup ("transparents" : Str) = some ((nV c.transparentCount) : V) := by kernel_rfl
theorem r_cl_transparents (X : Tx K mg) (S : St K T L c H) (h : Q (nV c.transparentCount) H) : FldR K (.ref (L.cl)) "transparents" H Q := by
  obtain ⟨dx, e⟩ := S.has .cl _ rfl
  exact ⟨_, _, dx, _, _, rfl, e, X.c_Client, X.n_Client_transparents, l_cl_transparents, h⟩
theorem l_po_max_attempts : (poF L c.policy).lookup ("max_attempts" : Str) = some ((nV (c.policy).maxAttempts) : V) := by kernel_rfl
theorem r_po_max_attempts (X : Tx K mg) (S : St K T L c H) (h : Q (nV (c.policy).maxAttempts) H) : FldR K (.ref (L.po)) "max_attempts" H Q := by
  obtain ⟨dx, e⟩ := S.has .po _ rfl
  exact ⟨_, _, dx, _, _, rfl, e, X.c_Policy, X.n_Policy_max_attempts, l_po_max_attempts, h⟩
theorem l_po_initial_backoff : (poF L c.policy).lookup ("initial_backoff" : Str) = some ((nV (c.policy).initialBackoff) : V) := by kernel_rfl
theorem r_po_initial_backoff (X : Tx K mg) (S : St K T L c H) (h : Q (nV (c.policy).initialBackoff) H) : FldR K (.ref (L.po)) "initial_backoff" H Q := by
  obtain ⟨dx, e⟩ := S.has .po _ rfl
  exact ⟨_, _, dx, _, _, rfl, e, X.c_Policy, X.n_Policy_initial_backoff, l_po_initial_backoff, h⟩
theorem l_po_max_backoff : (poF L c.policy).lookup ("max_backoff" : Str) = some ((nV (c.policy).maxBackoff) : V) := by kernel_rfl
theorem r_po_max_backoff (X : Tx K mg) (S : St K T L c H) (h : Q (nV (c.policy).maxBackoff) H) : FldR K (.ref (L.po)) "max_backoff" H Q := by
  obtain ⟨dx, e⟩ := S.has .po _ rfl
  exact ⟨_, _, dx, _, _, rfl, e, X.c_Policy, X.n_Policy_max_backoff, l_po_max_backoff, h⟩
theorem l_po_multiplier : (poF L c.policy).lookup ("multiplier" : Str) = some ((nV (c.policy).multiplier) : V) := by kernel_rfl
theorem r_po_multiplier (X : Tx K mg) (S : St K T L c H) (h : Q (nV (c.policy).multiplier) H) : FldR K (.ref (L.po)) "multiplier" H Q := by
  obtain ⟨dx, e⟩ := S.has .po _ rfl
  exact ⟨_, _, dx, _, _, rfl, e, X.c_Policy, X.n_Policy_multiplier, l_po_multiplier, h⟩
theorem l_po_hedge_delay : (poF L c.policy).lookup ("hedge_delay" : Str) = some ((nV (c.policy).hedgeDelay) : V) := by kernel_rfl
theorem r_po_hedge_delay (X : Tx K mg) (S : St K T L c H) (h : Q (nV (c.policy).hedgeDelay) H) : FldR K (.ref (L.po)) "hedge_delay" H Q := by
  obtain ⟨dx, e⟩ := S.has .po _ rfl
  exact ⟨_, _, dx, _, _, rfl, e, X.c_Policy, X.n_Policy_hedge_delay, l_po_hedge_delay, h⟩
theorem l_po_threshold : (poF L c.policy).lookup ("threshold" : Str) = some ((nV (c.policy).threshold) : V) := by kernel_rfl
theorem r_po_threshold (X : Tx K mg) (S : St K T L c H) (h : Q (nV (c.policy).threshold) H) : FldR K (.ref (L.po)) "threshold" H Q := by
  obtain ⟨dx, e⟩ := S.has .po _ rfl
  exact ⟨_, _, dx, _, _, rfl, e, X.c_Policy, X.n_Policy_threshold, l_po_threshold, h⟩
theorem l_po_ejection_time : (poF L c.policy).lookup ("ejection_time" : Str) = some ((nV (c.policy).ejectionTime) : V) := by kernel_rfl
theorem r_po_ejection_time (X : Tx K mg) (S : St K T L c H) (h : Q (nV (c.policy).ejectionTime) H) : FldR K (.ref (L.po)) "ejection_time" H Q := by
  obtain ⟨dx, e⟩ := S.has .po _ rfl
  exact ⟨_, _, dx, _, _, rfl, e, X.c_Policy, X.n_Policy_ejection_time, l_po_ejection_time, h⟩
theorem l_po_ejection_percent : (poF L c.policy).lookup ("ejection_percent" : Str) = some ((nV (c.policy).ejectionPercent) : V) := by kernel_rfl
theorem r_po_ejection_percent (X : Tx K mg) (S : St K T L c H) (h : Q (nV (c.policy).ejectionPercent) H) : FldR K (.ref (L.po)) "ejection_percent" H Q := by
  obtain ⟨dx, e⟩ := S.has .po _ rfl
  exact ⟨_, _, dx, _, _, rfl, e, X.c_Policy, X.n_Policy_ejection_percent, l_po_ejection_percent, h⟩
theorem l_po_max_tokens : (poF L c.policy).lookup ("max_tokens" : Str) = some ((nV (c.policy).maxTokens) : V) := by kernel_rfl
theorem r_po_max_tokens (X : Tx K mg) (S : St K T L c H) (h : Q (nV (c.policy).maxTokens) H) : FldR K (.ref (L.po)) "max_tokens" H Q := by
  obtain ⟨dx, e⟩ := S.has .po _ rfl
  exact ⟨_, _, dx, _, _, rfl, e, X.c_Policy, X.n_Policy_max_tokens, l_po_max_tokens, h⟩
theorem l_po_refund : (poF L c.policy).lookup ("refund" : Str) = some ((nV (c.policy).refund) : V) := by kernel_rfl
theorem r_po_refund (X : Tx K mg) (S : St K T L c H) (h : Q (nV (c.policy).refund) H) : FldR K (.ref (L.po)) "refund" H Q := by
  obtain ⟨dx, e⟩ := S.has .po _ rfl
  exact ⟨_, _, dx, _, _, rfl, e, X.c_Policy, X.n_Policy_refund, l_po_refund, h⟩
theorem l_po_retryable : (poF L c.policy).lookup ("retryable" : Str) = some ((.ref L.rt) : V) := by kernel_rfl
theorem r_po_retryable (X : Tx K mg) (S : St K T L c H) (h : Q (.ref L.rt) H) : FldR K (.ref (L.po)) "retryable" H Q := by
  obtain ⟨dx, e⟩ := S.has .po _ rfl
  exact ⟨_, _, dx, _, _, rfl, e, X.c_Policy, X.n_Policy_retryable, l_po_retryable, h⟩
theorem l_bk_number : (bkF i (backendAt c i)).lookup ("number" : Str) = some ((nV i) : V) := by kernel_rfl
theorem r_bk_number (X : Tx K mg) (S : St K T L c H) (hi : i < c.backends.length) (h : Q (nV i) H) : FldR K (.ref (L.bk i)) "number" H Q := by
  obtain ⟨dx, e⟩ := S.has (.bk i) _ (if_pos hi)
  exact ⟨_, _, dx, _, _, rfl, e, X.c_Backend, X.n_Backend_number, l_bk_number, h⟩
theorem l_bk_weight : (bkF i (backendAt c i)).lookup ("weight" : Str) = some ((nV (backendAt c i).weight) : V) := by kernel_rfl
theorem r_bk_weight (X : Tx K mg) (S : St K T L c H) (hi : i < c.backends.length) (h : Q (nV (backendAt c i).weight) H) : FldR K (.ref (L.bk i)) "weight" H Q := by
  obtain ⟨dx, e⟩ := S.has (.bk i) _ (if_pos hi)
  exact ⟨_, _, dx, _, _, rfl, e, X.c_Backend, X.n_Backend_weight, l_bk_weight, h⟩
theorem l_bk_active : (bkF i (backendAt c i)).lookup ("active" : Str) = some ((.bl (backendAt c i).active) : V) := by kernel_rfl
theorem r_bk_active (X : Tx K mg) (S : St K T L c H) (hi : i < c.backends.length) (h : Q (.bl (backendAt c i).active) H) : FldR K (.ref (L.bk i)) "active" H Q := by
  obtain ⟨dx, e⟩ := S.has (.bk i) _ (if_pos hi)
  exact ⟨_, _, dx, _, _, rfl, e, X.c_Backend, X.n_Backend_active, l_bk_active, h⟩
theorem l_bk_current : (bkF i (backendAt c i)).lookup ("current" : Str) = some ((.int (backendAt c i).current) : V) := by kernel_rfl
theorem r_bk_current (X : Tx K mg) (S : St K T L c H) (hi : i < c.backends.length) (h : Q (.int (backendAt c i).current) H) : FldR K (.ref (L.bk i)) "current" H Q := by
  obtain ⟨dx, e⟩ := S.has (.bk i) _ (if_pos hi)
  exact ⟨_, _, dx, _, _, rfl, e, X.c_Backend, X.n_Backend_current, l_bk_current, h⟩
theorem l_bk_outstanding : (bkF i (backendAt c i)).lookup ("outstanding" : Str) = some ((nV (backendAt c i).outstanding) : V) := by kernel_rfl
theorem r_bk_outstanding (X : Tx K mg) (S : St K T L c H) (hi : i < c.backends.length) (h : Q (nV (backendAt c i).outstanding) H) : FldR K (.ref (L.bk i)) "outstanding" H Q := by
  obtain ⟨dx, e⟩ := S.has (.bk i) _ (if_pos hi)
  exact ⟨_, _, dx, _, _, rfl, e, X.c_Backend, X.n_Backend_outstanding, l_bk_outstanding, h⟩
theorem l_bk_failures : (bkF i (backendAt c i)).lookup ("failures" : Str) = some ((nV (backendAt c i).failures) : V) := by kernel_rfl
theorem r_bk_failures (X : Tx K mg) (S : St K T L c H) (hi : i < c.backends.length) (h : Q (nV (backendAt c i).failures) H) : FldR K (.ref (L.bk i)) "failures" H Q := by
  obtain ⟨dx, e⟩ := S.has (.bk i) _ (if_pos hi)
  exact ⟨_, _, dx, _, _, rfl, e, X.c_Backend, X.n_Backend_failures, l_bk_failures, h⟩
theorem l_bk_ejections : (bkF i (backendAt c i)).lookup ("ejections" : Str) = some ((nV (backendAt c i).ejections) : V) := by kernel_rfl
theorem r_bk_ejections (X : Tx K mg) (S : St K T L c H) (hi : i < c.backends.length) (h : Q (nV (backendAt c i).ejections) H) : FldR K (.ref (L.bk i)) "ejections" H Q := by
  obtain ⟨dx, e⟩ := S.has (.bk i) _ (if_pos hi)
  exact ⟨_, _, dx, _, _, rfl, e, X.c_Backend, X.n_Backend_ejections, l_bk_ejections, h⟩
theorem l_bk_ejected_until : (bkF i (backendAt c i)).lookup ("ejected_until" : Str) = some ((optV (backendAt c i).ejectedUntil) : V) := by kernel_rfl
theorem r_bk_ejected_until (X : Tx K mg) (S : St K T L c H) (hi : i < c.backends.length) (h : Q (optV (backendAt c i).ejectedUntil) H) : FldR K (.ref (L.bk i)) "ejected_until" H Q := by
  obtain ⟨dx, e⟩ := S.has (.bk i) _ (if_pos hi)
  exact ⟨_, _, dx, _, _, rfl, e, X.c_Backend, X.n_Backend_ejected_until, l_bk_ejected_until, h⟩
theorem l_ca_number : (caF L i (callAt c i)).lookup ("number" : Str) = some ((nV i) : V) := by kernel_rfl
theorem r_ca_number (X : Tx K mg) (S : St K T L c H) (hi : i < c.calls.length) (h : Q (nV i) H) : FldR K (.ref (L.ca i)) "number" H Q := by
  obtain ⟨dx, e⟩ := S.has (.ca i) _ (if_pos hi)
  exact ⟨_, _, dx, _, _, rfl, e, X.c_Call, X.n_Call_number, l_ca_number, h⟩
theorem l_ca_deadline : (caF L i (callAt c i)).lookup ("deadline" : Str) = some ((nV (callAt c i).deadline) : V) := by kernel_rfl
theorem r_ca_deadline (X : Tx K mg) (S : St K T L c H) (hi : i < c.calls.length) (h : Q (nV (callAt c i).deadline) H) : FldR K (.ref (L.ca i)) "deadline" H Q := by
  obtain ⟨dx, e⟩ := S.has (.ca i) _ (if_pos hi)
  exact ⟨_, _, dx, _, _, rfl, e, X.c_Call, X.n_Call_deadline, l_ca_deadline, h⟩
theorem l_ca_idempotent : (caF L i (callAt c i)).lookup ("idempotent" : Str) = some ((.bl (callAt c i).idempotent) : V) := by kernel_rfl
theorem r_ca_idempotent (X : Tx K mg) (S : St K T L c H) (hi : i < c.calls.length) (h : Q (.bl (callAt c i).idempotent) H) : FldR K (.ref (L.ca i)) "idempotent" H Q := by
  obtain ⟨dx, e⟩ := S.has (.ca i) _ (if_pos hi)
  exact ⟨_, _, dx, _, _, rfl, e, X.c_Call, X.n_Call_idempotent, l_ca_idempotent, h⟩
theorem l_ca_key : (caF L i (callAt c i)).lookup ("key" : Str) = some ((nV (callAt c i).key) : V) := by kernel_rfl
theorem r_ca_key (X : Tx K mg) (S : St K T L c H) (hi : i < c.calls.length) (h : Q (nV (callAt c i).key) H) : FldR K (.ref (L.ca i)) "key" H Q := by
  obtain ⟨dx, e⟩ := S.has (.ca i) _ (if_pos hi)
  exact ⟨_, _, dx, _, _, rfl, e, X.c_Call, X.n_Call_key, l_ca_key, h⟩
theorem l_ca_status : (caF L i (callAt c i)).lookup ("status" : Str) = some ((optV (callAt c i).status) : V) := by kernel_rfl
theorem r_ca_status (X : Tx K mg) (S : St K T L c H) (hi : i < c.calls.length) (h : Q (optV (callAt c i).status) H) : FldR K (.ref (L.ca i)) "status" H Q := by
  obtain ⟨dx, e⟩ := S.has (.ca i) _ (if_pos hi)
  exact ⟨_, _, dx, _, _, rfl, e, X.c_Call, X.n_Call_status, l_ca_status, h⟩
theorem l_ca_counted : (caF L i (callAt c i)).lookup ("counted" : Str) = some ((nV (callAt c i).counted) : V) := by kernel_rfl
theorem r_ca_counted (X : Tx K mg) (S : St K T L c H) (hi : i < c.calls.length) (h : Q (nV (callAt c i).counted) H) : FldR K (.ref (L.ca i)) "counted" H Q := by
  obtain ⟨dx, e⟩ := S.has (.ca i) _ (if_pos hi)
  exact ⟨_, _, dx, _, _, rfl, e, X.c_Call, X.n_Call_counted, l_ca_counted, h⟩
theorem l_ca_retries : (caF L i (callAt c i)).lookup ("retries" : Str) = some ((nV (callAt c i).retries) : V) := by kernel_rfl
theorem r_ca_retries (X : Tx K mg) (S : St K T L c H) (hi : i < c.calls.length) (h : Q (nV (callAt c i).retries) H) : FldR K (.ref (L.ca i)) "retries" H Q := by
  obtain ⟨dx, e⟩ := S.has (.ca i) _ (if_pos hi)
  exact ⟨_, _, dx, _, _, rfl, e, X.c_Call, X.n_Call_retries, l_ca_retries, h⟩
theorem l_ca_transparent : (caF L i (callAt c i)).lookup ("transparent" : Str) = some ((.bl (callAt c i).transparent) : V) := by kernel_rfl
theorem r_ca_transparent (X : Tx K mg) (S : St K T L c H) (hi : i < c.calls.length) (h : Q (.bl (callAt c i).transparent) H) : FldR K (.ref (L.ca i)) "transparent" H Q := by
  obtain ⟨dx, e⟩ := S.has (.ca i) _ (if_pos hi)
  exact ⟨_, _, dx, _, _, rfl, e, X.c_Call, X.n_Call_transparent, l_ca_transparent, h⟩
theorem l_ca_retry_at : (caF L i (callAt c i)).lookup ("retry_at" : Str) = some ((optV (callAt c i).retryAt) : V) := by kernel_rfl
theorem r_ca_retry_at (X : Tx K mg) (S : St K T L c H) (hi : i < c.calls.length) (h : Q (optV (callAt c i).retryAt) H) : FldR K (.ref (L.ca i)) "retry_at" H Q := by
  obtain ⟨dx, e⟩ := S.has (.ca i) _ (if_pos hi)
  exact ⟨_, _, dx, _, _, rfl, e, X.c_Call, X.n_Call_retry_at, l_ca_retry_at, h⟩
theorem l_ca_hedge_at : (caF L i (callAt c i)).lookup ("hedge_at" : Str) = some ((optV (callAt c i).hedgeAt) : V) := by kernel_rfl
theorem r_ca_hedge_at (X : Tx K mg) (S : St K T L c H) (hi : i < c.calls.length) (h : Q (optV (callAt c i).hedgeAt) H) : FldR K (.ref (L.ca i)) "hedge_at" H Q := by
  obtain ⟨dx, e⟩ := S.has (.ca i) _ (if_pos hi)
  exact ⟨_, _, dx, _, _, rfl, e, X.c_Call, X.n_Call_hedge_at, l_ca_hedge_at, h⟩
theorem l_ca_finished_at : (caF L i (callAt c i)).lookup ("finished_at" : Str) = some ((nV (callAt c i).finishedAt) : V) := by kernel_rfl
theorem r_ca_finished_at (X : Tx K mg) (S : St K T L c H) (hi : i < c.calls.length) (h : Q (nV (callAt c i).finishedAt) H) : FldR K (.ref (L.ca i)) "finished_at" H Q := by
  obtain ⟨dx, e⟩ := S.has (.ca i) _ (if_pos hi)
  exact ⟨_, _, dx, _, _, rfl, e, X.c_Call, X.n_Call_finished_at, l_ca_finished_at, h⟩
theorem l_ca_attempts : (caF L i (callAt c i)).lookup ("attempts" : Str) = some ((.ref (L.al i)) : V) := by kernel_rfl
theorem r_ca_attempts (X : Tx K mg) (S : St K T L c H) (hi : i < c.calls.length) (h : Q (.ref (L.al i)) H) : FldR K (.ref (L.ca i)) "attempts" H Q := by
  obtain ⟨dx, e⟩ := S.has (.ca i) _ (if_pos hi)
  exact ⟨_, _, dx, _, _, rfl, e, X.c_Call, X.n_Call_attempts, l_ca_attempts, h⟩
theorem l_at_number : (atF L i (attemptAt c i)).lookup ("number" : Str) = some ((nV i) : V) := by kernel_rfl
theorem r_at_number (X : Tx K mg) (S : St K T L c H) (hi : i < c.attempts.length) (h : Q (nV i) H) : FldR K (.ref (L.att i)) "number" H Q := by
  obtain ⟨dx, e⟩ := S.has (.att i) _ (if_pos hi)
  exact ⟨_, _, dx, _, _, rfl, e, X.c_Attempt, X.n_Attempt_number, l_at_number, h⟩
theorem l_at_call : (atF L i (attemptAt c i)).lookup ("call" : Str) = some ((.ref (L.ca (attemptAt c i).call)) : V) := by kernel_rfl
theorem r_at_call (X : Tx K mg) (S : St K T L c H) (hi : i < c.attempts.length) (h : Q (.ref (L.ca (attemptAt c i).call)) H) : FldR K (.ref (L.att i)) "call" H Q := by
  obtain ⟨dx, e⟩ := S.has (.att i) _ (if_pos hi)
  exact ⟨_, _, dx, _, _, rfl, e, X.c_Attempt, X.n_Attempt_call, l_at_call, h⟩
theorem l_at_backend : (atF L i (attemptAt c i)).lookup ("backend" : Str) = some ((.ref (L.bk (attemptAt c i).backend)) : V) := by kernel_rfl
theorem r_at_backend (X : Tx K mg) (S : St K T L c H) (hi : i < c.attempts.length) (h : Q (.ref (L.bk (attemptAt c i).backend)) H) : FldR K (.ref (L.att i)) "backend" H Q := by
  obtain ⟨dx, e⟩ := S.has (.att i) _ (if_pos hi)
  exact ⟨_, _, dx, _, _, rfl, e, X.c_Attempt, X.n_Attempt_backend, l_at_backend, h⟩
theorem l_at_place : (atF L i (attemptAt c i)).lookup ("place" : Str) = some ((nV (attemptAt c i).number) : V) := by kernel_rfl
theorem r_at_place (X : Tx K mg) (S : St K T L c H) (hi : i < c.attempts.length) (h : Q (nV (attemptAt c i).number) H) : FldR K (.ref (L.att i)) "place" H Q := by
  obtain ⟨dx, e⟩ := S.has (.att i) _ (if_pos hi)
  exact ⟨_, _, dx, _, _, rfl, e, X.c_Attempt, X.n_Attempt_place, l_at_place, h⟩
theorem l_at_started_at : (atF L i (attemptAt c i)).lookup ("started_at" : Str) = some ((nV (attemptAt c i).startedAt) : V) := by kernel_rfl
theorem r_at_started_at (X : Tx K mg) (S : St K T L c H) (hi : i < c.attempts.length) (h : Q (nV (attemptAt c i).startedAt) H) : FldR K (.ref (L.att i)) "started_at" H Q := by
  obtain ⟨dx, e⟩ := S.has (.att i) _ (if_pos hi)
  exact ⟨_, _, dx, _, _, rfl, e, X.c_Attempt, X.n_Attempt_started_at, l_at_started_at, h⟩
theorem l_at_state : (atF L i (attemptAt c i)).lookup ("state" : Str) = some ((nV (stN (attemptAt c i).state)) : V) := by kernel_rfl
theorem r_at_state (X : Tx K mg) (S : St K T L c H) (hi : i < c.attempts.length) (h : Q (nV (stN (attemptAt c i).state)) H) : FldR K (.ref (L.att i)) "state" H Q := by
  obtain ⟨dx, e⟩ := S.has (.att i) _ (if_pos hi)
  exact ⟨_, _, dx, _, _, rfl, e, X.c_Attempt, X.n_Attempt_state, l_at_state, h⟩
theorem l_at_status : (atF L i (attemptAt c i)).lookup ("status" : Str) = some ((nV (stS (attemptAt c i).state)) : V) := by kernel_rfl
theorem r_at_status (X : Tx K mg) (S : St K T L c H) (hi : i < c.attempts.length) (h : Q (nV (stS (attemptAt c i).state)) H) : FldR K (.ref (L.att i)) "status" H Q := by
  obtain ⟨dx, e⟩ := S.has (.att i) _ (if_pos hi)
  exact ⟨_, _, dx, _, _, rfl, e, X.c_Attempt, X.n_Attempt_status, l_at_status, h⟩
theorem w_cl_seed (X : Tx K mg) (S : St K T L c H) {y : Nat} (h : ∀ H', Nxt K T L c H L ({ c with seed := y }) H' → G H') : StR K (.ref (L.cl)) "seed" (nV y) H G := by
  obtain ⟨dx, e⟩ := S.has .cl _ rfl
  have p : putF ("seed" : Str) (nV y : V) (clF L c) = clF L { c with seed := y } := by kernel_rfl
  refine ⟨_, _, dx, _, rfl, e, X.c_Client, X.n_Client_seed, (by show 12 < 1000; decide), h _ (S.put (k0 := .cl) rfl (fun k hk => by cases k <;> first | rfl | exact absurd rfl hk) rfl ⟨dx, ?_⟩)⟩
  exact upd_same.trans (congrArg (fun q => some (HO.ins _ dx q)) p)
theorem w_cl_now (X : Tx K mg) (S : St K T L c H) {y : Nat} (h : ∀ H', Nxt K T L c H L ({ c with now := y }) H' → G H') : StR K (.ref (L.cl)) "now" (nV y) H G := by
  obtain ⟨dx, e⟩ := S.has .cl _ rfl
  have p : putF ("now" : Str) (nV y : V) (clF L c) = clF L { c with now := y } := by kernel_rfl
  refine ⟨_, _, dx, _, rfl, e, X.c_Client, X.n_Client_now, (by show 12 < 1000; decide), h _ (S.put (k0 := .cl) rfl (fun k hk => by cases k <;> first | rfl | exact absurd rfl hk) rfl ⟨dx, ?_⟩)⟩
  exact upd_same.trans (congrArg (fun q => some (HO.ins _ dx q)) p)
theorem w_cl_tokens (X : Tx K mg) (S : St K T L c H) {y : Nat} (h : ∀ H', Nxt K T L c H L ({ c with tokens := y }) H' → G H') : StR K (.ref (L.cl)) "tokens" (nV y) H G := by
  obtain ⟨dx, e⟩ := S.has .cl _ rfl
  have p : putF ("tokens" : Str) (nV y : V) (clF L c) = clF L { c with tokens := y } := by kernel_rfl
  refine ⟨_, _, dx, _, rfl, e, X.c_Client, X.n_Client_tokens, (by show 12 < 1000; decide), h _ (S.put (k0 := .cl) rfl (fun k hk => by cases k <;> first | rfl | exact absurd rfl hk) rfl ⟨dx, ?_⟩)⟩
  exact upd_same.trans (congrArg (fun q => some (HO.ins _ dx q)) p)
theorem w_cl_pointer (X : Tx K mg) (S : St K T L c H) {y : Nat} (h : ∀ H', Nxt K T L c H L ({ c with pointer := y }) H' → G H') : StR K (.ref (L.cl)) "pointer" (nV y) H G := by
  obtain ⟨dx, e⟩ := S.has .cl _ rfl
  have p : putF ("pointer" : Str) (nV y : V) (clF L c) = clF L { c with pointer := y } := by kernel_rfl
  refine ⟨_, _, dx, _, rfl, e, X.c_Client, X.n_Client_pointer, (by show 12 < 1000; decide), h _ (S.put (k0 := .cl) rfl (fun k hk => by cases k <;> first | rfl | exact absurd rfl hk) rfl ⟨dx, ?_⟩)⟩
  exact upd_same.trans (congrArg (fun q => some (HO.ins _ dx q)) p)
theorem w_cl_retries (X : Tx K mg) (S : St K T L c H) {y : Nat} (h : ∀ H', Nxt K T L c H L ({ c with retryCount := y }) H' → G H') : StR K (.ref (L.cl)) "retries" (nV y) H G := by
  obtain ⟨dx, e⟩ := S.has .cl _ rfl
  have p : putF ("retries" : Str) (nV y : V) (clF L c) = clF L { c with retryCount := y } := by kernel_rfl
  refine ⟨_, _, dx, _, rfl, e, X.c_Client, X.n_Client_retries, (by show 12 < 1000; decide), h _ (S.put (k0 := .cl) rfl (fun k hk => by cases k <;> first | rfl | exact absurd rfl hk) rfl ⟨dx, ?_⟩)⟩
  exact upd_same.trans (congrArg (fun q => some (HO.ins _ dx q)) p)
theorem w_cl_hedges (X : Tx K mg) (S : St K T L c H) {y : Nat} (h : ∀ H', Nxt K T L c H L ({ c with hedgeCount := y }) H' → G H') : StR K (.ref (L.cl)) "hedges" (nV y) H G := by
  obtain ⟨dx, e⟩ := S.has .cl _ rfl
  have p : putF ("hedges" : Str) (nV y : V) (clF L c) = clF L { c with hedgeCount := y } := by kernel_rfl
  refine ⟨_, _, dx, _, rfl, e, X.c_Client, X.n_Client_hedges, (by show 12 < 1000; decide), h _ (S.put (k0 := .cl) rfl (fun k hk => by cases k <;> first | rfl | exact absurd rfl hk) rfl ⟨dx, ?_⟩)⟩
  exact upd_same.trans (congrArg (fun q => some (HO.ins _ dx q)) p)
theorem w_cl_transparents (X : Tx K mg) (S : St K T L c H) {y : Nat} (h : ∀ H', Nxt K T L c H L ({ c with transparentCount := y }) H' → G H') : StR K (.ref (L.cl)) "transparents" (nV y) H G := by
  obtain ⟨dx, e⟩ := S.has .cl _ rfl
  have p : putF ("transparents" : Str) (nV y : V) (clF L c) = clF L { c with transparentCount := y } := by kernel_rfl
  refine ⟨_, _, dx, _, rfl, e, X.c_Client, X.n_Client_transparents, (by show 12 < 1000; decide), h _ (S.put (k0 := .cl) rfl (fun k hk => by cases k <;> first | rfl | exact absurd rfl hk) rfl ⟨dx, ?_⟩)⟩
  exact upd_same.trans (congrArg (fun q => some (HO.ins _ dx q)) p)
theorem w_bk_weight (X : Tx K mg) (S : St K T L c H) (hi : i < c.backends.length) {y : Nat} (h : ∀ H', Nxt K T L c H L (setBackend c i { backendAt c i with weight := y }) H' → G H') : StR K (.ref (L.bk i)) "weight" (nV y) H G := by
  obtain ⟨dx, e⟩ := S.has (.bk i) _ (if_pos hi)
  have p : putF ("weight" : Str) (nV y : V) (bkF i (backendAt c i)) = bkF i { backendAt c i with weight := y } := by kernel_rfl
  refine ⟨_, _, dx, _, rfl, e, X.c_Backend, X.n_Backend_weight, (by show 8 < 1000; decide), h _ (S.put (k0 := (.bk i)) (if_pos hi) ob_setBackend (ob_setBackend_at hi) ⟨dx, ?_⟩)⟩
  exact upd_same.trans (congrArg (fun q => some (HO.ins _ dx q)) p)
theorem w_bk_active (X : Tx K mg) (S : St K T L c H) (hi : i < c.backends.length) {y : Bool} (h : ∀ H', Nxt K T L c H L (setBackend c i { backendAt c i with active := y }) H' → G H') : StR K (.ref (L.bk i)) "active" (.bl y) H G := by
  obtain ⟨dx, e⟩ := S.has (.bk i) _ (if_pos hi)
  have p : putF ("active" : Str) (.bl y : V) (bkF i (backendAt c i)) = bkF i { backendAt c i with active := y } := by kernel_rfl
  refine ⟨_, _, dx, _, rfl, e, X.c_Backend, X.n_Backend_active, (by show 8 < 1000; decide), h _ (S.put (k0 := (.bk i)) (if_pos hi) ob_setBackend (ob_setBackend_at hi) ⟨dx, ?_⟩)⟩
  exact upd_same.trans (congrArg (fun q => some (HO.ins _ dx q)) p)
theorem w_bk_current (X : Tx K mg) (S : St K T L c H) (hi : i < c.backends.length) {y : Int} (h : ∀ H', Nxt K T L c H L (setBackend c i { backendAt c i with current := y }) H' → G H') : StR K (.ref (L.bk i)) "current" (.int y) H G := by
  obtain ⟨dx, e⟩ := S.has (.bk i) _ (if_pos hi)
  have p : putF ("current" : Str) (.int y : V) (bkF i (backendAt c i)) = bkF i { backendAt c i with current := y } := by kernel_rfl
  refine ⟨_, _, dx, _, rfl, e, X.c_Backend, X.n_Backend_current, (by show 8 < 1000; decide), h _ (S.put (k0 := (.bk i)) (if_pos hi) ob_setBackend (ob_setBackend_at hi) ⟨dx, ?_⟩)⟩
  exact upd_same.trans (congrArg (fun q => some (HO.ins _ dx q)) p)
theorem w_bk_outstanding (X : Tx K mg) (S : St K T L c H) (hi : i < c.backends.length) {y : Nat} (h : ∀ H', Nxt K T L c H L (setBackend c i { backendAt c i with outstanding := y }) H' → G H') : StR K (.ref (L.bk i)) "outstanding" (nV y) H G := by
  obtain ⟨dx, e⟩ := S.has (.bk i) _ (if_pos hi)
  have p : putF ("outstanding" : Str) (nV y : V) (bkF i (backendAt c i)) = bkF i { backendAt c i with outstanding := y } := by kernel_rfl
  refine ⟨_, _, dx, _, rfl, e, X.c_Backend, X.n_Backend_outstanding, (by show 8 < 1000; decide), h _ (S.put (k0 := (.bk i)) (if_pos hi) ob_setBackend (ob_setBackend_at hi) ⟨dx, ?_⟩)⟩
  exact upd_same.trans (congrArg (fun q => some (HO.ins _ dx q)) p)
theorem w_bk_failures (X : Tx K mg) (S : St K T L c H) (hi : i < c.backends.length) {y : Nat} (h : ∀ H', Nxt K T L c H L (setBackend c i { backendAt c i with failures := y }) H' → G H') : StR K (.ref (L.bk i)) "failures" (nV y) H G := by
  obtain ⟨dx, e⟩ := S.has (.bk i) _ (if_pos hi)
  have p : putF ("failures" : Str) (nV y : V) (bkF i (backendAt c i)) = bkF i { backendAt c i with failures := y } := by kernel_rfl
  refine ⟨_, _, dx, _, rfl, e, X.c_Backend, X.n_Backend_failures, (by show 8 < 1000; decide), h _ (S.put (k0 := (.bk i)) (if_pos hi) ob_setBackend (ob_setBackend_at hi) ⟨dx, ?_⟩)⟩
  exact upd_same.trans (congrArg (fun q => some (HO.ins _ dx q)) p)
theorem w_bk_ejections (X : Tx K mg) (S : St K T L c H) (hi : i < c.backends.length) {y : Nat} (h : ∀ H', Nxt K T L c H L (setBackend c i { backendAt c i with ejections := y }) H' → G H') : StR K (.ref (L.bk i)) "ejections" (nV y) H G := by
  obtain ⟨dx, e⟩ := S.has (.bk i) _ (if_pos hi)
  have p : putF ("ejections" : Str) (nV y : V) (bkF i (backendAt c i)) = bkF i { backendAt c i with ejections := y } := by kernel_rfl
  refine ⟨_, _, dx, _, rfl, e, X.c_Backend, X.n_Backend_ejections, (by show 8 < 1000; decide), h _ (S.put (k0 := (.bk i)) (if_pos hi) ob_setBackend (ob_setBackend_at hi) ⟨dx, ?_⟩)⟩
  exact upd_same.trans (congrArg (fun q => some (HO.ins _ dx q)) p)
theorem w_bk_ejected_until (X : Tx K mg) (S : St K T L c H) (hi : i < c.backends.length) {y : Nat} (h : ∀ H', Nxt K T L c H L (setBackend c i { backendAt c i with ejectedUntil := some y }) H' → G H') : StR K (.ref (L.bk i)) "ejected_until" (nV y) H G := by
  obtain ⟨dx, e⟩ := S.has (.bk i) _ (if_pos hi)
  have p : putF ("ejected_until" : Str) (nV y : V) (bkF i (backendAt c i)) = bkF i { backendAt c i with ejectedUntil := some y } := by kernel_rfl
  refine ⟨_, _, dx, _, rfl, e, X.c_Backend, X.n_Backend_ejected_until, (by show 8 < 1000; decide), h _ (S.put (k0 := (.bk i)) (if_pos hi) ob_setBackend (ob_setBackend_at hi) ⟨dx, ?_⟩)⟩
  exact upd_same.trans (congrArg (fun q => some (HO.ins _ dx q)) p)
theorem w_ca_status (X : Tx K mg) (S : St K T L c H) (hi : i < c.calls.length) {y : Option Nat} (h : ∀ H', Nxt K T L c H L (setCall c i { callAt c i with status := y }) H' → G H') : StR K (.ref (L.ca i)) "status" (optV y) H G := by
  obtain ⟨dx, e⟩ := S.has (.ca i) _ (if_pos hi)
  have p : putF ("status" : Str) (optV y : V) (caF L i (callAt c i)) = caF L i { callAt c i with status := y } := by kernel_rfl
  refine ⟨_, _, dx, _, rfl, e, X.c_Call, X.n_Call_status, (by show 12 < 1000; decide), h _ (S.put (k0 := (.ca i)) (if_pos hi) ob_setCall (ob_setCall_at hi) ⟨dx, ?_⟩)⟩
  exact upd_same.trans (congrArg (fun q => some (HO.ins _ dx q)) p)
theorem w_ca_counted (X : Tx K mg) (S : St K T L c H) (hi : i < c.calls.length) {y : Nat} (h : ∀ H', Nxt K T L c H L (setCall c i { callAt c i with counted := y }) H' → G H') : StR K (.ref (L.ca i)) "counted" (nV y) H G := by
  obtain ⟨dx, e⟩ := S.has (.ca i) _ (if_pos hi)
  have p : putF ("counted" : Str) (nV y : V) (caF L i (callAt c i)) = caF L i { callAt c i with counted := y } := by kernel_rfl
  refine ⟨_, _, dx, _, rfl, e, X.c_Call, X.n_Call_counted, (by show 12 < 1000; decide), h _ (S.put (k0 := (.ca i)) (if_pos hi) ob_setCall (ob_setCall_at hi) ⟨dx, ?_⟩)⟩
  exact upd_same.trans (congrArg (fun q => some (HO.ins _ dx q)) p)
theorem w_ca_retries (X : Tx K mg) (S : St K T L c H) (hi : i < c.calls.length) {y : Nat} (h : ∀ H', Nxt K T L c H L (setCall c i { callAt c i with retries := y }) H' → G H') : StR K (.ref (L.ca i)) "retries" (nV y) H G := by
  obtain ⟨dx, e⟩ := S.has (.ca i) _ (if_pos hi)
  have p : putF ("retries" : Str) (nV y : V) (caF L i (callAt c i)) = caF L i { callAt c i with retries := y } := by kernel_rfl
  refine ⟨_, _, dx, _, rfl, e, X.c_Call, X.n_Call_retries, (by show 12 < 1000; decide), h _ (S.put (k0 := (.ca i)) (if_pos hi) ob_setCall (ob_setCall_at hi) ⟨dx, ?_⟩)⟩
  exact upd_same.trans (congrArg (fun q => some (HO.ins _ dx q)) p)
theorem w_ca_transparent (X : Tx K mg) (S : St K T L c H) (hi : i < c.calls.length) {y : Bool} (h : ∀ H', Nxt K T L c H L (setCall c i { callAt c i with transparent := y }) H' → G H') : StR K (.ref (L.ca i)) "transparent" (.bl y) H G := by
  obtain ⟨dx, e⟩ := S.has (.ca i) _ (if_pos hi)
  have p : putF ("transparent" : Str) (.bl y : V) (caF L i (callAt c i)) = caF L i { callAt c i with transparent := y } := by kernel_rfl
  refine ⟨_, _, dx, _, rfl, e, X.c_Call, X.n_Call_transparent, (by show 12 < 1000; decide), h _ (S.put (k0 := (.ca i)) (if_pos hi) ob_setCall (ob_setCall_at hi) ⟨dx, ?_⟩)⟩
  exact upd_same.trans (congrArg (fun q => some (HO.ins _ dx q)) p)
theorem w_ca_retry_at (X : Tx K mg) (S : St K T L c H) (hi : i < c.calls.length) {y : Option Nat} (h : ∀ H', Nxt K T L c H L (setCall c i { callAt c i with retryAt := y }) H' → G H') : StR K (.ref (L.ca i)) "retry_at" (optV y) H G := by
  obtain ⟨dx, e⟩ := S.has (.ca i) _ (if_pos hi)
  have p : putF ("retry_at" : Str) (optV y : V) (caF L i (callAt c i)) = caF L i { callAt c i with retryAt := y } := by kernel_rfl
  refine ⟨_, _, dx, _, rfl, e, X.c_Call, X.n_Call_retry_at, (by show 12 < 1000; decide), h _ (S.put (k0 := (.ca i)) (if_pos hi) ob_setCall (ob_setCall_at hi) ⟨dx, ?_⟩)⟩
  exact upd_same.trans (congrArg (fun q => some (HO.ins _ dx q)) p)
theorem w_ca_hedge_at (X : Tx K mg) (S : St K T L c H) (hi : i < c.calls.length) {y : Option Nat} (h : ∀ H', Nxt K T L c H L (setCall c i { callAt c i with hedgeAt := y }) H' → G H') : StR K (.ref (L.ca i)) "hedge_at" (optV y) H G := by
  obtain ⟨dx, e⟩ := S.has (.ca i) _ (if_pos hi)
  have p : putF ("hedge_at" : Str) (optV y : V) (caF L i (callAt c i)) = caF L i { callAt c i with hedgeAt := y } := by kernel_rfl
  refine ⟨_, _, dx, _, rfl, e, X.c_Call, X.n_Call_hedge_at, (by show 12 < 1000; decide), h _ (S.put (k0 := (.ca i)) (if_pos hi) ob_setCall (ob_setCall_at hi) ⟨dx, ?_⟩)⟩
  exact upd_same.trans (congrArg (fun q => some (HO.ins _ dx q)) p)
theorem w_ca_finished_at (X : Tx K mg) (S : St K T L c H) (hi : i < c.calls.length) {y : Nat} (h : ∀ H', Nxt K T L c H L (setCall c i { callAt c i with finishedAt := y }) H' → G H') : StR K (.ref (L.ca i)) "finished_at" (nV y) H G := by
  obtain ⟨dx, e⟩ := S.has (.ca i) _ (if_pos hi)
  have p : putF ("finished_at" : Str) (nV y : V) (caF L i (callAt c i)) = caF L i { callAt c i with finishedAt := y } := by kernel_rfl
  refine ⟨_, _, dx, _, rfl, e, X.c_Call, X.n_Call_finished_at, (by show 12 < 1000; decide), h _ (S.put (k0 := (.ca i)) (if_pos hi) ob_setCall (ob_setCall_at hi) ⟨dx, ?_⟩)⟩
  exact upd_same.trans (congrArg (fun q => some (HO.ins _ dx q)) p)
/-- a store that follows a read of the same field -/
def StC (K : PySem.W.Frag) (a : Addr) (C : Str) (f : Str) (z : V) (H : Hp) (G : Hp → Prop) : Prop := ∃ dx fs, H a = some (.ins (He.ga K C) dx fs) ∧ fs.length < 1000 ∧ G (upd H a (.ins (He.ga K C) dx (putF f z fs)))
def AugR (K : PySem.W.Frag) (x : V) (f : Str) (tv : TE) (rd : V → V → Hp → VK → Prop) (σ : L2.St) (H : Hp) (nx : L2.St → Hp → Prop) : Prop := ∃ a C dx fs v, x = .ref a ∧ H a = some (.ins C dx fs) ∧ Cls K C ∧ NoAttr K C f ∧ fs.lookup f = some v ∧
  tv σ H fun y H2 => rd v y H2 fun z H3 => ∃ dx' fs', H3 a = some (.ins C dx' fs') ∧ fs'.length < 1000 ∧ nx σ (upd H3 a (.ins C dx' (putF f z fs')))
theorem a_cl_retries (X : Tx K mg) (S : St K T L c H) {tv : TE} {rd : V → V → Hp → VK → Prop} {σ : L2.St} {nx : L2.St → Hp → Prop} (h : tv σ H fun y H2 => rd (nV (c.retryCount)) y H2 fun z H3 => StC K (L.cl) "Client" "retries" z H3 (nx σ)) : AugR K (.ref (L.cl)) "retries" tv rd σ H nx := by
  obtain ⟨dx, e⟩ := S.has .cl _ rfl
  exact ⟨_, _, dx, _, _, rfl, e, X.c_Client, X.n_Client_retries, l_cl_retries, h⟩
theorem v_cl_retries (S : St K T L c H) (y : Nat) {z : Int} (hz : z = (y : Int)) (h : ∀ H', Nxt K T L c H L ({ c with retryCount := y }) H' → G H') : StC K (L.cl) "Client" "retries" (.int z) H G := by
  rw [hz]
  obtain ⟨dx, e⟩ := S.has .cl _ rfl
  have p : putF ("retries" : Str) (.int (y : Int) : V) (clF L c) = clF L { c with retryCount := y } := by kernel_rfl
  refine ⟨dx, _, e, (by show 12 < 1000; decide), h _ (S.put (k0 := .cl) rfl (fun k hk => by cases k <;> first | rfl | exact absurd rfl hk) rfl ⟨dx, ?_⟩)⟩
  exact upd_same.trans (congrArg (fun q => some (HO.ins _ dx q)) p)
theorem a_cl_hedges (X : Tx K mg) (S : St K T L c H) {tv : TE} {rd : V → V → Hp → VK → Prop} {σ : L2.St} {nx : L2.St → Hp → Prop} (h : tv σ H fun y H2 => rd (nV (c.hedgeCount)) y H2 fun z H3 => StC K (L.cl) "Client" "hedges" z H3 (nx σ)) : AugR K (.ref (L.cl)) "hedges" tv rd σ H nx := by
  obtain ⟨dx, e⟩ := S.has .cl _ rfl
  exact ⟨_, _, dx, _, _, rfl, e, X.c_Client, X.n_Client_hedges, l_cl_hedges, h⟩
theorem v_cl_hedges (S : St K T L c H) (y : Nat) {z : Int} (hz : z = (y : Int)) (h : ∀ H', Nxt K T L c H L ({ c with hedgeCount := y }) H' → G H') : StC K (L.cl) "Client" "hedges" (.int z) H G := by
  rw [hz]
  obtain ⟨dx, e⟩ := S.has .cl _ rfl
  have p : putF ("hedges" : Str) (.int (y : Int) : V) (clF L c) = clF L { c with hedgeCount := y } := by kernel_rfl
  refine ⟨dx, _, e, (by show 12 < 1000; decide), h _ (S.put (k0 := .cl) rfl (fun k hk => by cases k <;> first | rfl | exact absurd rfl hk) rfl ⟨dx, ?_⟩)⟩
  exact upd_same.trans (congrArg (fun q => some (HO.ins _ dx q)) p)
theorem a_cl_transparents (X : Tx K mg) (S : St K T L c H) {tv : TE} {rd : V → V → Hp → VK → Prop} {σ : L2.St} {nx : L2.St → Hp → Prop} (h : tv σ H fun y H2 => rd (nV (c.transparentCount)) y H2 fun z H3 => StC K (L.cl) "Client" "transparents" z H3 (nx σ)) : AugR K (.ref (L.cl)) "transparents" tv rd σ H nx := by
  obtain ⟨dx, e⟩ := S.has .cl _ rfl
  exact ⟨_, _, dx, _, _, rfl, e, X.c_Client, X.n_Client_transparents, l_cl_transparents, h⟩
theorem v_cl_transparents (S : St K T L c H) (y : Nat) {z : Int} (hz : z = (y : Int)) (h : ∀ H', Nxt K T L c H L ({ c with transparentCount := y }) H' → G H') : StC K (L.cl) "Client" "transparents" (.int z) H G := by
  rw [hz]
  obtain ⟨dx, e⟩ := S.has .cl _ rfl
  have p : putF ("transparents" : Str) (.int (y : Int) : V) (clF L c) = clF L { c with transparentCount := y } := by kernel_rfl
  refine ⟨dx, _, e, (by show 12 < 1000; decide), h _ (S.put (k0 := .cl) rfl (fun k hk => by cases k <;> first | rfl | exact absurd rfl hk) rfl ⟨dx, ?_⟩)⟩
  exact upd_same.trans (congrArg (fun q => some (HO.ins _ dx q)) p)
theorem a_bk_outstanding (X : Tx K mg) (S : St K T L c H) (hi : i < c.backends.length) {tv : TE} {rd : V → V → Hp → VK → Prop} {σ : L2.St} {nx : L2.St → Hp → Prop} (h : tv σ H fun y H2 => rd (nV ((backendAt c i).outstanding)) y H2 fun z H3 => StC K (L.bk i) "Backend" "outstanding" z H3 (nx σ)) : AugR K (.ref (L.bk i)) "outstanding" tv rd σ H nx := by
  obtain ⟨dx, e⟩ := S.has (.bk i) _ (if_pos hi)
  exact ⟨_, _, dx, _, _, rfl, e, X.c_Backend, X.n_Backend_outstanding, l_bk_outstanding, h⟩
theorem v_bk_outstanding (S : St K T L c H) (hi : i < c.backends.length) (y : Nat) {z : Int} (hz : z = (y : Int)) (h : ∀ H', Nxt K T L c H L (setBackend c i { backendAt c i with outstanding := y }) H' → G H') : StC K (L.bk i) "Backend" "outstanding" (.int z) H G := by
  rw [hz]
  obtain ⟨dx, e⟩ := S.has (.bk i) _ (if_pos hi)
  have p : putF ("outstanding" : Str) (.int (y : Int) : V) (bkF i (backendAt c i)) = bkF i { backendAt c i with outstanding := y } := by kernel_rfl
  refine ⟨dx, _, e, (by show 8 < 1000; decide), h _ (S.put (k0 := (.bk i)) (if_pos hi) ob_setBackend (ob_setBackend_at hi) ⟨dx, ?_⟩)⟩
  exact upd_same.trans (congrArg (fun q => some (HO.ins _ dx q)) p)
theorem a_bk_failures (X : Tx K mg) (S : St K T L c H) (hi : i < c.backends.length) {tv : TE} {rd : V → V → Hp → VK → Prop} {σ : L2.St} {nx : L2.St → Hp → Prop} (h : tv σ H fun y H2 => rd (nV ((backendAt c i).failures)) y H2 fun z H3 => StC K (L.bk i) "Backend" "failures" z H3 (nx σ)) : AugR K (.ref (L.bk i)) "failures" tv rd σ H nx := by
  obtain ⟨dx, e⟩ := S.has (.bk i) _ (if_pos hi)
  exact ⟨_, _, dx, _, _, rfl, e, X.c_Backend, X.n_Backend_failures, l_bk_failures, h⟩
theorem v_bk_failures (S : St K T L c H) (hi : i < c.backends.length) (y : Nat) {z : Int} (hz : z = (y : Int)) (h : ∀ H', Nxt K T L c H L (setBackend c i { backendAt c i with failures := y }) H' → G H') : StC K (L.bk i) "Backend" "failures" (.int z) H G := by
  rw [hz]
  obtain ⟨dx, e⟩ := S.has (.bk i) _ (if_pos hi)
  have p : putF ("failures" : Str) (.int (y : Int) : V) (bkF i (backendAt c i)) = bkF i { backendAt c i with failures := y } := by kernel_rfl
  refine ⟨dx, _, e, (by show 8 < 1000; decide), h _ (S.put (k0 := (.bk i)) (if_pos hi) ob_setBackend (ob_setBackend_at hi) ⟨dx, ?_⟩)⟩
  exact upd_same.trans (congrArg (fun q => some (HO.ins _ dx q)) p)
theorem a_bk_ejections (X : Tx K mg) (S : St K T L c H) (hi : i < c.backends.length) {tv : TE} {rd : V → V → Hp → VK → Prop} {σ : L2.St} {nx : L2.St → Hp → Prop} (h : tv σ H fun y H2 => rd (nV ((backendAt c i).ejections)) y H2 fun z H3 => StC K (L.bk i) "Backend" "ejections" z H3 (nx σ)) : AugR K (.ref (L.bk i)) "ejections" tv rd σ H nx := by
  obtain ⟨dx, e⟩ := S.has (.bk i) _ (if_pos hi)
  exact ⟨_, _, dx, _, _, rfl, e, X.c_Backend, X.n_Backend_ejections, l_bk_ejections, h⟩
theorem v_bk_ejections (S : St K T L c H) (hi : i < c.backends.length) (y : Nat) {z : Int} (hz : z = (y : Int)) (h : ∀ H', Nxt K T L c H L (setBackend c i { backendAt c i with ejections := y }) H' → G H') : StC K (L.bk i) "Backend" "ejections" (.int z) H G := by
  rw [hz]
  obtain ⟨dx, e⟩ := S.has (.bk i) _ (if_pos hi)
  have p : putF ("ejections" : Str) (.int (y : Int) : V) (bkF i (backendAt c i)) = bkF i { backendAt c i with ejections := y } := by kernel_rfl
  refine ⟨dx, _, e, (by show 8 < 1000; decide), h _ (S.put (k0 := (.bk i)) (if_pos hi) ob_setBackend (ob_setBackend_at hi) ⟨dx, ?_⟩)⟩
  exact upd_same.trans (congrArg (fun q => some (HO.ins _ dx q)) p)
theorem a_bk_current (X : Tx K mg) (S : St K T L c H) (hi : i < c.backends.length) {tv : TE} {rd : V → V → Hp → VK → Prop} {σ : L2.St} {nx : L2.St → Hp → Prop} (h : tv σ H fun y H2 => rd (.int ((backendAt c i).current)) y H2 fun z H3 => StC K (L.bk i) "Backend" "current" z H3 (nx σ)) : AugR K (.ref (L.bk i)) "current" tv rd σ H nx := by
  obtain ⟨dx, e⟩ := S.has (.bk i) _ (if_pos hi)
  exact ⟨_, _, dx, _, _, rfl, e, X.c_Backend, X.n_Backend_current, l_bk_current, h⟩
theorem v_bk_current (S : St K T L c H) (hi : i < c.backends.length) (y : Int) {z : Int} (hz : z = (y : Int)) (h : ∀ H', Nxt K T L c H L (setBackend c i { backendAt c i with current := y }) H' → G H') : StC K (L.bk i) "Backend" "current" (.int z) H G := by
  rw [hz]
  obtain ⟨dx, e⟩ := S.has (.bk i) _ (if_pos hi)
  have p : putF ("current" : Str) (.int (y : Int) : V) (bkF i (backendAt c i)) = bkF i { backendAt c i with current := y } := by kernel_rfl
  refine ⟨dx, _, e, (by show 8 < 1000; decide), h _ (S.put (k0 := (.bk i)) (if_pos hi) ob_setBackend (ob_setBackend_at hi) ⟨dx, ?_⟩)⟩
  exact upd_same.trans (congrArg (fun q => some (HO.ins _ dx q)) p)
theorem a_ca_counted (X : Tx K mg) (S : St K T L c H) (hi : i < c.calls.length) {tv : TE} {rd : V → V → Hp → VK → Prop} {σ : L2.St} {nx : L2.St → Hp → Prop} (h : tv σ H fun y H2 => rd (nV ((callAt c i).counted)) y H2 fun z H3 => StC K (L.ca i) "Call" "counted" z H3 (nx σ)) : AugR K (.ref (L.ca i)) "counted" tv rd σ H nx := by
  obtain ⟨dx, e⟩ := S.has (.ca i) _ (if_pos hi)
  exact ⟨_, _, dx, _, _, rfl, e, X.c_Call, X.n_Call_counted, l_ca_counted, h⟩
theorem v_ca_counted (S : St K T L c H) (hi : i < c.calls.length) (y : Nat) {z : Int} (hz : z = (y : Int)) (h : ∀ H', Nxt K T L c H L (setCall c i { callAt c i with counted := y }) H' → G H') : StC K (L.ca i) "Call" "counted" (.int z) H G := by
  rw [hz]
  obtain ⟨dx, e⟩ := S.has (.ca i) _ (if_pos hi)
  have p : putF ("counted" : Str) (.int (y : Int) : V) (caF L i (callAt c i)) = caF L i { callAt c i with counted := y } := by kernel_rfl
  refine ⟨dx, _, e, (by show 12 < 1000; decide), h _ (S.put (k0 := (.ca i)) (if_pos hi) ob_setCall (ob_setCall_at hi) ⟨dx, ?_⟩)⟩
  exact upd_same.trans (congrArg (fun q => some (HO.ins _ dx q)) p)
theorem a_ca_retries (X : Tx K mg) (S : St K T L c H) (hi : i < c.calls.length) {tv : TE} {rd : V → V → Hp → VK → Prop} {σ : L2.St} {nx : L2.St → Hp → Prop} (h : tv σ H fun y H2 => rd (nV ((callAt c i).retries)) y H2 fun z H3 => StC K (L.ca i) "Call" "retries" z H3 (nx σ)) : AugR K (.ref (L.ca i)) "retries" tv rd σ H nx := by
  obtain ⟨dx, e⟩ := S.has (.ca i) _ (if_pos hi)
  exact ⟨_, _, dx, _, _, rfl, e, X.c_Call, X.n_Call_retries, l_ca_retries, h⟩
theorem v_ca_retries (S : St K T L c H) (hi : i < c.calls.length) (y : Nat) {z : Int} (hz : z = (y : Int)) (h : ∀ H', Nxt K T L c H L (setCall c i { callAt c i with retries := y }) H' → G H') : StC K (L.ca i) "Call" "retries" (.int z) H G := by
  rw [hz]
  obtain ⟨dx, e⟩ := S.has (.ca i) _ (if_pos hi)
  have p : putF ("retries" : Str) (.int (y : Int) : V) (caF L i (callAt c i)) = caF L i { callAt c i with retries := y } := by kernel_rfl
  refine ⟨dx, _, e, (by show 12 < 1000; decide), h _ (S.put (k0 := (.ca i)) (if_pos hi) ob_setCall (ob_setCall_at hi) ⟨dx, ?_⟩)⟩
  exact upd_same.trans (congrArg (fun q => some (HO.ins _ dx q)) p)
/-- an attempt's state: y tells the number that is stored; its status must stay -/
theorem w_at_state (X : Tx K mg) (S : St K T L c H) (hi : i < c.attempts.length) {y : AttemptState} (hs : stS y = stS (attemptAt c i).state) (h : ∀ H', Nxt K T L c H L (setAttempt c i { attemptAt c i with state := y }) H' → G H') : StR K (.ref (L.att i)) "state" (nV (stN y)) H G := by
  obtain ⟨dx, e⟩ := S.has (.att i) _ (if_pos hi)
  have p : putF ("state" : Str) (nV (stN y)) (atF L i (attemptAt c i)) = atF L i { attemptAt c i with state := y } := by
    have q : putF ("state" : Str) (nV (stN y)) (atF L i (attemptAt c i)) = ([("number", nV i), ("call", .ref (L.ca (attemptAt c i).call)), ("backend", .ref (L.bk (attemptAt c i).backend)), ("place", nV (attemptAt c i).number), ("started_at", nV (attemptAt c i).startedAt), ("state", nV (stN y)), ("status", nV (stS (attemptAt c i).state))] : List (Str × V)) := by kernel_rfl
    rw [q, ← hs]
    rfl
  refine ⟨_, _, dx, _, rfl, e, X.c_Attempt, X.n_Attempt_state, (by show 7 < 1000; decide), h _ (S.put (k0 := .att i) (if_pos hi) (ob_setAttempt rfl) (ob_setAttempt_at hi) ⟨dx, ?_⟩)⟩
  exact upd_same.trans (congrArg (fun q => some (HO.ins _ dx q)) p)
/-- an attempt's status: it is finished -/
theorem w_at_status (X : Tx K mg) (S : St K T L c H) (hi : i < c.attempts.length) {y z : Nat} (hs : (attemptAt c i).state = .finished z) (h : ∀ H', Nxt K T L c H L (setAttempt c i { attemptAt c i with state := .finished y }) H' → G H') : StR K (.ref (L.att i)) "status" (nV y) H G := by
  obtain ⟨dx, e⟩ := S.has (.att i) _ (if_pos hi)
  have p : putF ("status" : Str) (nV y) (atF L i (attemptAt c i)) = atF L i { attemptAt c i with state := .finished y } := by
    have q : putF ("status" : Str) (nV y) (atF L i (attemptAt c i)) = ([("number", nV i), ("call", .ref (L.ca (attemptAt c i).call)), ("backend", .ref (L.bk (attemptAt c i).backend)), ("place", nV (attemptAt c i).number), ("started_at", nV (attemptAt c i).startedAt), ("state", nV (stN (attemptAt c i).state)), ("status", nV y)] : List (Str × V)) := by kernel_rfl
    rw [q, hs]
    rfl
  refine ⟨_, _, dx, _, rfl, e, X.c_Attempt, X.n_Attempt_status, (by show 7 < 1000; decide), h _ (S.put (k0 := .att i) (if_pos hi) (ob_setAttempt rfl) (ob_setAttempt_at hi) ⟨dx, ?_⟩)⟩
  exact upd_same.trans (congrArg (fun q => some (HO.ins _ dx q)) p)
end

/-! ### the readings' words, one rule each -/
def MakeR (C : Addr) (sp : Sp) (vs : List V) (E : XK) (H1 : Hp) (Q : VK) : Prop := ∀ x dx, H1 x = none → H1 dx = none → dx ≠ x → sp (.ref x :: (vs ++ [])) (upd (upd H1 dx (.own x)) x (.ins C dx [])) (fun v H2 => v = .non ∧ Q (.ref x) H2) E
def BmR (K : PySem.W.Frag) (T : String) (r : V → List V → Hp → VK → Prop) (x : V) (ts : TA) (σ : L2.St) (H : Hp) (Q : VK) : Prop := tyV K T x H ∧ ts σ H fun xs H2 => r x xs H2 Q
def ForR (K : PySem.W.Frag) (x : V) (g : TG) (tb : TS) (D : Ends) (σ : L2.St) (H : Hp) : Prop := ∃ a, x = .ref a ∧ (∃ xs, SqL K H a xs) ∧ ∃ W : Nat → Nat → L2.St → Hp → Prop, (∃ m, W 0 m σ H) ∧ ∀ i m σ H, W i m σ H →
      ((Itl K a).stop i H ∧ D.nx σ H) ∨ ((Itl K a).go i H ∧ ∃ N : L2.St → Hp → Prop, (∀ σ' H', N σ' H' → ∃ m', m' < m ∧ W (i + 1) m' σ' H') ∧ ∀ x H', (Itl K a).yld i H x H' → g x σ H' fun σ2 H2 => tb { D with nx := N, ct := N, bk := D.nx } σ2 H2)
section
variable {K : PySem.W.Frag} {D : Ends} {σ : L2.St} {H : Hp} {Q : VK} {ta tb tc : TE} {t u : TS} {g : TG} {c d : TT} {ts : TA}
theorem i_ret {nx : L2.St → Hp → Prop} {rt : VK} {bk ct : L2.St → Hp → Prop} (h : ta σ H rt) : tRet ta ⟨nx, rt, bk, ct⟩ σ H := h
theorem i_seq {nx : L2.St → Hp → Prop} {rt : VK} {bk ct : L2.St → Hp → Prop} (h : t ⟨u ⟨nx, rt, bk, ct⟩, rt, bk, ct⟩ σ H) : tSeq t u ⟨nx, rt, bk, ct⟩ σ H := h
theorem i_seqA {nx : L2.St → Hp → Prop} {rt : VK} {bk ct : L2.St → Hp → Prop} (h : tAsg ta g ⟨u ⟨nx, rt, bk, ct⟩, rt, bk, ct⟩ σ H) : tSeq (tAsg ta g) u ⟨nx, rt, bk, ct⟩ σ H := h
theorem i_seqD {nx : L2.St → Hp → Prop} {rt : VK} {bk ct : L2.St → Hp → Prop} (h : tDrop ta ⟨u ⟨nx, rt, bk, ct⟩, rt, bk, ct⟩ σ H) : tSeq (tDrop ta) u ⟨nx, rt, bk, ct⟩ σ H := h
theorem i_seqF {nx : L2.St → Hp → Prop} {rt : VK} {bk ct : L2.St → Hp → Prop} {f : Str} (h : sFld K ta tb f ⟨u ⟨nx, rt, bk, ct⟩, rt, bk, ct⟩ σ H) : tSeq (sFld K ta tb f) u ⟨nx, rt, bk, ct⟩ σ H := h
theorem i_seqG {nx : L2.St → Hp → Prop} {rt : VK} {bk ct : L2.St → Hp → Prop} {f : Str} {rr : V → V → Hp → VK → Prop} (h : sFldAug K ta tb rr f ⟨u ⟨nx, rt, bk, ct⟩, rt, bk, ct⟩ σ H) : tSeq (sFldAug K ta tb rr f) u ⟨nx, rt, bk, ct⟩ σ H := h
/-- two ways that meet again: J tells where -/
theorem i_seqJ {nx : L2.St → Hp → Prop} {rt : VK} {bk ct : L2.St → Hp → Prop} (J : L2.St → Hp → Prop) (h2 : ∀ σ' H', J σ' H' → u ⟨nx, rt, bk, ct⟩ σ' H') (h1 : ∀ N : L2.St → Hp → Prop, (∀ σ' H', J σ' H' → N σ' H') → t ⟨N, rt, bk, ct⟩ σ H) : tSeq t u ⟨nx, rt, bk, ct⟩ σ H := h1 _ h2
theorem i_next {nx : L2.St → Hp → Prop} {rt : VK} {bk ct : L2.St → Hp → Prop} (h : nx σ H) : tNext ⟨nx, rt, bk, ct⟩ σ H := h
theorem i_var {i : Nat} {v : V} (e : σ[i]? = some (some v)) (h : Q v H) : tVar i σ H Q := ⟨v, e, h⟩
theorem i_c {v : V} (h : Q v H) : tC v σ H Q := h
theorem i_op {r : R2} (h : ta σ H fun x H1 => tb σ H1 fun y H2 => r x y H2 Q) : tOp r ta tb σ H Q := h
theorem i_rI0 {gg : Int → Int → V} {i j : Int} (h : Q (gg i j) H) : rI0 gg (.int i) (.int j) H Q := ⟨i, j, rfl, rfl, h⟩
theorem i_eqI {i j : Int} (h : Q (.bl (decide (i = j))) H) : rEq (.int i) (.int j) H Q := by
  refine ⟨rfl, ?_⟩
  have e : decide (V.int i = V.int j) = decide (i = j) := by by_cases q : i = j <;> simp [q]
  rw [e]; exact h
theorem i_neI {i j : Int} (h : Q (.bl (!decide (i = j))) H) : rNe (.int i) (.int j) H Q := by
  refine ⟨rfl, ?_⟩
  have e : decide (V.int i = V.int j) = decide (i = j) := by by_cases q : i = j <;> simp [q]
  rw [e]; exact h
theorem i_chain {r r' : R2} (h : ta σ H fun x H1 => tb σ H1 fun y H2 => r x y H2 fun z H3 => ∃ k, z = .bl k ∧ (if k = true then tc σ H3 fun w' H4 => r' y w' H4 Q else Q (.bl false) H3)) : tChain r r' ta tb tc σ H Q := h
theorem i_ex {k : Bool} {A : Bool → Prop} (h : A k) : ∃ k', V.bl k = .bl k' ∧ A k' := ⟨k, rfl, h⟩
theorem i_test {Q : Bool → Hp → Prop} (h : ta σ H fun x H' => ∃ k, x = .bl k ∧ Q k H') : tTest ta σ H Q := h
theorem i_tB {Q : Bool → Hp → Prop} (h : ta σ H fun x H' => ∃ k, x = .bl k ∧ Q k H') : tB ta σ H Q := h
theorem i_ifs (h : c σ H fun b H1 => if b = true then t D σ H1 else u D σ H1) : tIfS c t u D σ H := h
theorem i_if (h : c σ H fun b H1 => if b = true then ta σ H1 Q else tb σ H1 Q) : tIf c ta tb σ H Q := h
theorem i_and {Q : Bool → Hp → Prop} (h : c σ H fun b H1 => if b = true then d σ H1 Q else Q false H1) : tAnd c d σ H Q := h
theorem i_or {Q : Bool → Hp → Prop} (h : c σ H fun b H1 => if b = true then Q true H1 else d σ H1 Q) : tOr c d σ H Q := h
theorem i_not {Q : Bool → Hp → Prop} (h : c σ H fun b H1 => Q (!b) H1) : tNot c σ H Q := h
theorem i_andV (h : ta σ H fun x H1 => ∃ k, x = .bl k ∧ if k = true then tb σ H1 Q else Q (.bl false) H1) : tAndV ta tb σ H Q := h
theorem i_orV (h : ta σ H fun x H1 => ∃ k, x = .bl k ∧ if k = true then Q (.bl true) H1 else tb σ H1 Q) : tOrV ta tb σ H Q := h
theorem i_notV (h : ta σ H fun x H1 => ∃ k, x = .bl k ∧ Q (.bl (!k)) H1) : tNotV ta σ H Q := h
theorem i_fld {f : Str} (h : ta σ H fun x H1 => FldR K x f H1 Q) : tFld K ta f σ H Q := h
theorem i_sfld {nx : L2.St → Hp → Prop} {rt : VK} {bk ct : L2.St → Hp → Prop} {f : Str} (h : tb σ H fun y H1 => ta σ H1 fun x H2 => StR K x f y H2 fun H3 => nx σ H3) : sFld K ta tb f ⟨nx, rt, bk, ct⟩ σ H := h
theorem i_aug {nx : L2.St → Hp → Prop} {rt : VK} {bk ct : L2.St → Hp → Prop} {f : Str} {rr : V → V → Hp → VK → Prop} (h : ta σ H fun x H1 => AugR K x f tb rr σ H1 nx) : sFldAug K ta tb rr f ⟨nx, rt, bk, ct⟩ σ H := h
theorem i_rAdd {i j : Int} (h : Q (.int (i + j)) H) : rAdd (.int i) (.int j) H Q := ⟨i, j, rfl, rfl, h⟩
theorem i_rSub {i j : Int} (h : Q (.int (i - j)) H) : rSub (.int i) (.int j) H Q := ⟨i, j, rfl, rfl, h⟩
theorem i_drop {nx : L2.St → Hp → Prop} {rt : VK} {bk ct : L2.St → Hp → Prop} (h : ta σ H fun _ H1 => nx σ H1) : tDrop ta ⟨nx, rt, bk, ct⟩ σ H := h
theorem i_asg {nx : L2.St → Hp → Prop} {rt : VK} {bk ct : L2.St → Hp → Prop} (h : ta σ H fun x H1 => g x σ H1 nx) : tAsg ta g ⟨nx, rt, bk, ct⟩ σ H := h
/-- C(..): the new thing -/
theorem i_make {C : Addr} {sp : Sp} {E : XK} (h : ts σ H fun vs H1 => MakeR C sp vs E H1 Q) : tMake C sp [] E ts σ H Q := h
/-- a method of a list -/
theorem i_bm {T : String} {r : V → List V → Hp → VK → Prop} (h : ta σ H fun x H1 => BmR K T r x ts σ H1 Q) : tBM K T r ta ts σ H Q := h
theorem BmR.app {l : Addr} {xs : List V} {k : Nat} {y : V} (hl : H l = some (.lst xs)) (hy : σ[k]? = some (some y)) (hz : xs.length < sizeLine) (h : Q .non (upd H l (.lst (xs ++ [y])))) : BmR K "list" rAppend (.ref l) (tCons (tVar k) tNil) σ H Q :=
  ⟨.inl ⟨rfl, _, SqL.of hl⟩, y, hy, l, xs, y, rfl, rfl, hl, hz, h⟩
theorem BmR.appT {l : Addr} {xs : List V} (hl : H l = some (.lst xs)) (h : ta σ H fun y H2 => H2 l = some (.lst xs) ∧ xs.length < sizeLine ∧ Q .non (upd H2 l (.lst (xs ++ [y])))) (hm : ∀ (Q' Q'' : VK), (∀ v H, Q' v H → Q'' v H) → ta σ H Q' → ta σ H Q'') : BmR K "list" rAppend (.ref l) (tCons ta tNil) σ H Q :=
  ⟨.inl ⟨rfl, _, SqL.of hl⟩, hm _ _ (fun v H2 q => ⟨l, xs, v, rfl, rfl, q.1, q.2.1, q.2.2⟩) h⟩
/-- for, from the list's reference on -/
theorem i_for (h : ta σ H fun x H1 => ForR K x g t D σ H1) : tFor (iList K ta) g t D σ H := h
theorem ForR.of {a : Addr} {xs : List V} (hS : SqL K H a xs) (Pv : Nat → L2.St → Hp → Prop) (h0 : Pv 0 σ H) (hl : ∀ i σ H, i ≤ xs.length → Pv i σ H → SqL K H a xs)
    (hs : ∀ i x σ H, xs[i]? = some x → Pv i σ H → g x σ H fun σ2 H2 => t { D with nx := Pv (i + 1), ct := Pv (i + 1), bk := D.nx } σ2 H2) (hd : ∀ σ H, Pv xs.length σ H → D.nx σ H) : ForR K (.ref a) g t D σ H := ⟨a, rfl, ⟨xs, hS⟩, for_list Pv h0 hl hs hd⟩
theorem i_gname {i : Nat} {v : V} {Q : L2.St → Hp → Prop} (h : Q (σ.set i (some v)) H) : gName i v σ H Q := h
theorem i_nil {Q : List V → Hp → Prop} (h : Q [] H) : tNil σ H Q := h
theorem i_cons {Q : List V → Hp → Prop} (h : ta σ H fun x H1 => ts σ H1 fun xs H2 => Q (x :: xs) H2) : tCons ta ts σ H Q := h
theorem i_call {sp : Sp} {E : XK} (h : ts σ H fun vs H1 => sp (vs ++ []) H1 Q E) : tCall sp [] E ts σ H Q := h
theorem i_cb {r : List V → Hp → VK → Prop} (h : ts σ H fun vs H1 => r vs H1 Q) : tCB r ts σ H Q := h
theorem i_isN {A : Prop} (h : A) : V.non = V.non ∧ A := ⟨rfl, h⟩
theorem i_rI {C : Int → Int → Prop} {gg : Int → Int → V} {i j : Int} (hC : C i j) (h : Q (gg i j) H) : rI C gg (.int i) (.int j) H Q := ⟨i, j, rfl, rfl, hC, h⟩
theorem i_notN {A : Prop} (h : A) : V.non = V.non ∧ A := ⟨rfl, h⟩
theorem i_min2 {i j : Int} {Q : VK} (h : Q (.int (if j < i then j else i)) H) : ∃ a b : Int, [V.int i, V.int j] = [.int a, .int b] ∧ Q (.int (if b < a then b else a)) H := ⟨i, j, rfl, h⟩
theorem i_max2 {i j : Int} {Q : VK} (h : Q (.int (if j > i then j else i)) H) : ∃ a b : Int, [V.int i, V.int j] = [.int a, .int b] ∧ Q (.int (if b > a then b else a)) H := ⟨i, j, rfl, h⟩
theorem i_sl {r : V → Option Int → Option Int → Hp → VK → Prop} {tl th : TO} (h : ta σ H fun x H1 => tl σ H1 fun lo H2 => th σ H2 fun hi H3 => r x lo hi H3 Q) : tSl r ta tl th σ H Q := h
theorem i_part {Q : Option Int → Hp → Prop} (h : ta σ H fun x H1 => ∃ i, x = .int i ∧ Q (some i) H1) : tPart ta σ H Q := h
theorem i_nopart {Q : Option Int → Hp → Prop} (h : Q none H) : tNoPart σ H Q := h
theorem i_exI {i : Int} {A : Int → Prop} (h : A i) : ∃ j, V.int i = .int j ∧ A j := ⟨i, rfl, h⟩
theorem i_slL {l : Addr} {xs : List V} {lo hi : Option Int} (hS : SqL K H l xs) (h : ∀ p, H p = none → Q (.ref p) (upd H p (.lst (cutV xs lo hi)))) : rSlL K (.ref l) lo hi H Q := ⟨l, xs, rfl, hS, h⟩
/-- a whole number of the top -/
theorem pe_gi {X : Cx} {x : Str} {n : Int} {pos : Pos} (h : ∃ t, X.mg x = some (.int n t)) (hg : Gl X x := by rfl) (hd : (x == ("__debug__" : Str)) = false := by decide) : PE X (.Name x pos) (tC (.int n)) := by
  obtain ⟨t, g⟩ := h
  exact pe_glob hg g ⟨t, rfl⟩ hd
theorem i_tru {a : Addr} {xs : List V} {A : Bool → Prop} (hS : SqL K H a xs) (h : A (!xs.isEmpty)) : ∃ k, TruV K (.ref a) H k ∧ A k := ⟨_, .inl ⟨xs, hS, rfl⟩, h⟩
/-- x not in a list of numbers -/
theorem in_nat (i : Nat) (l : List Nat) : inV (nV i) (l.map nV) = l.contains i := by
  unfold inV
  rw [List.any_map]
  induction l with
  | nil => rfl
  | cons a r ih =>
    rw [List.any_cons, List.contains_cons, ih]
    congr 1
    show ((a : Int) == (i : Int)) = (i == a)
    by_cases h : i = a
    · subst h; rw [beq_self_eq_true, beq_self_eq_true]
    · have h2 : ¬ ((a : Int) = (i : Int)) := by omega
      rw [beq_eq_false_iff_ne.mpr h, beq_eq_false_iff_ne.mpr h2]
theorem all_flat (l : List Nat) : (l.map nV).all flatV = true := by
  rw [List.all_map]
  induction l with
  | nil => rfl
  | cons a r ih => rw [List.all_cons, ih]; rfl
theorem i_notin {p : Addr} {i : Nat} {l : List Nat} (hS : SqL K H p (l.map nV)) (h : Q (.bl (!l.contains i)) H) : rIn K true (nV i) (.ref p) H Q :=
  ⟨p, _, rfl, .inl hS, rfl, all_flat l, by rw [in_nat]; exact h⟩
theorem i_in {p : Addr} {i : Nat} {l : List Nat} (hS : SqL K H p (l.map nV)) (h : Q (.bl (l.contains i)) H) : rIn K false (nV i) (.ref p) H Q :=
  ⟨p, _, rfl, .inl hS, rfl, all_flat l, by rw [in_nat]; exact h⟩
/-- a comprehension over a list, from the list's reference on -/
def LcR (K : PySem.W.Frag) (x : V) (g : TG) (tt : TT) (te : TE) (vs : List Nat) (σ : L2.St) (H : Hp) (Q : VK) : Prop := ∃ a, x = .ref a ∧ (∃ xs, SqL K H a xs) ∧ ∀ D, H D = none → ∃ W : Nat → Nat → Hp → Prop, (∃ m, W 0 m (upd H D (.lst []))) ∧ ∀ i m H, W i m H →
  ((Itl K a).stop i H ∧ Q (.ref D) H) ∨ ((Itl K a).go i H ∧ ∃ Nx : Hp → Prop, (∀ H', Nx H' → ∃ m', m' < m ∧ W (i + 1) m' H') ∧ ∀ x H', (Itl K a).yld i H x H' → g x (wipe σ vs) H' fun σ2 H2 => wipe σ2 vs = wipe σ vs ∧ tt σ2 H2 fun b H3 =>
    if b = true then te σ2 H3 fun y H4 => ∃ acc, H4 D = some (.lst acc) ∧ acc.length < sizeLine ∧ Nx (upd H4 D (.lst (acc ++ [y]))) else Nx H3)
theorem i_lc {g : TG} {tt : TT} {vs : List Nat} (h : ta σ H fun x H1 => LcR K x g tt tb vs σ H1 Q) : tLc (iList K ta) g tt tb vs σ H Q := h
/-- the part of a list that passes a test, each item made anew by y -/
theorem lc_part {a : Addr} {ι : Type} {js : List ι} {A y : ι → V} {p : ι → Bool} {i : Nat} {tt : TT} {te : TE} {vs : List Nat} (hS : SqL K H a (js.map A)) (hz : js.length < sizeLine)
    (hw : ∀ v, wipe ((wipe σ vs).set i (some v)) vs = wipe σ vs)
    (ht : ∀ j, j ∈ js → ∀ D ys Q', H D = none → (Q' (p j) (upd H D (.lst ys))) → tt ((wipe σ vs).set i (some (A j))) (upd H D (.lst ys)) Q')
    (he : ∀ j, j ∈ js → p j = true → ∀ D ys Q', H D = none → (Q' (y j) (upd H D (.lst ys))) → te ((wipe σ vs).set i (some (A j))) (upd H D (.lst ys)) Q')
    (h : ∀ D, H D = none → Q (.ref D) (upd H D (.lst ((js.filter p).map y)))) : LcR K (.ref a) (gName i) tt te vs σ H Q := by
  refine ⟨a, rfl, ⟨_, hS⟩, fun D hD => lc_list (xs := js.map A) (fun k H' => H' = upd H D (.lst (((js.take k).filter p).map y))) rfl (fun k H' _ e => ?_) (fun k x H' hx e => ?_) fun H' e => ?_⟩
  · rw [e]; exact MM.SqL.ext ((MM.Ext.refl H).upd hD) hS
  · subst e
    obtain ⟨j, hj, rfl⟩ : ∃ j, js[k]? = some j ∧ x = A j := by
      rw [List.getElem?_map] at hx
      cases q : js[k]? with
      | none => rw [q] at hx; cases hx
      | some j => rw [q] at hx; exact ⟨j, rfl, (Option.some.inj hx).symm⟩
    have hjm : j ∈ js := List.mem_of_getElem? hj
    have ht2 : js.take (k + 1) = js.take k ++ [j] := by rw [List.take_add_one, hj]; rfl
    refine ⟨hw _, ht j hjm D _ _ hD ?_⟩
    cases hp : p j with
    | true =>
      rw [if_pos rfl]
      refine he j hjm hp D _ _ hD ⟨_, upd_same, ?_, ?_⟩
      · rw [List.length_map]
        have l1 := List.length_filter_le p (js.take k)
        have l2 := List.length_take_le k js
        have l3 : (js.take k).length ≤ js.length := by rw [List.length_take]; omega
        omega
      · rw [upd_upd, ht2, List.filter_append, List.map_append]
        simp [List.filter, hp]
    | false =>
      rw [if_neg (by simp)]
      rw [ht2, List.filter_append]
      simp [List.filter, hp]
  · rw [List.length_map, List.take_length] at e
    rw [e]
    exact h D hD
/-- a test that is not known: two ways -/
theorem ite_dec {p : Prop} [Decidable p] {A B : Prop} (h1 : p → A) (h2 : ¬ p → B) : if decide p = true then A else B := by
  by_cases h : p
  · rw [if_pos (decide_eq_true h)]; exact h1 h
  · rw [if_neg (by simp [h])]; exact h2 h
theorem ite_bool {b : Bool} {A B : Prop} (h1 : b = true → A) (h2 : b = false → B) : if b = true then A else B := by
  cases b
  · exact h2 rfl
  · exact h1 rfl
end


theorem St.ext {K : PySem.W.Frag} {T : List (Addr × Str)} {L : Lo} {c : Client} {H H' : Hp} (S : St K T L c H) (e : MM.Ext H H') : St K T L c H' :=
  ⟨fun k o h => by
    have z := S.has k o h
    cases o with
    | l xs => exact e _ _ z
    | i C fs => obtain ⟨dx, z⟩ := z; exact ⟨dx, e _ _ z⟩, S.inj, Tabs.ext S.tabs e⟩
theorem Nxt.ext {K : PySem.W.Frag} {T : List (Addr × Str)} {L : Lo} {c : Client} {H H' : Hp} (S : St K T L c H) (e : MM.Ext H H') : Nxt K T L c H L c H' :=
  ⟨S.ext e, fun b o h _ _ => e b o h, fun k o h => .inl ⟨o, h⟩, fun k o h => ⟨rfl, o, h⟩⟩
theorem ext_new {H : Hp} {b : Addr} {u : HO} (n : H b = none) : MM.Ext H (upd H b u) := (MM.Ext.refl H).upd n
theorem ext_new2 {H H' : Hp} {b : Addr} {u : HO} (e : MM.Ext H H') (n : H' b = none) : MM.Ext H (upd H' b u) := e.trans (ext_new n)
/-- the lists are not too long for the machine -/
structure Sz (c : Client) : Prop where
  bs : c.backends.length ≤ 8
  cs : c.calls.length ≤ 60
  ats : c.attempts.length ≤ 1000000
theorem small_size {n : Nat} (h : n ≤ 1000000) : n < sizeLine := Nat.lt_of_le_of_lt h (by decide)
theorem St.lsB {K : PySem.W.Frag} {T : List (Addr × Str)} {L : Lo} {c : Client} {H : Hp} (S : St K T L c H) : SqL K H L.lb ((List.range c.backends.length).map fun i => .ref (L.bk i)) := SqL.of (S.has .lb _ rfl)
theorem St.lsC {K : PySem.W.Frag} {T : List (Addr × Str)} {L : Lo} {c : Client} {H : Hp} (S : St K T L c H) : SqL K H L.lc ((List.range c.calls.length).map fun i => .ref (L.ca i)) := SqL.of (S.has .lc _ rfl)
theorem St.lsA {K : PySem.W.Frag} {T : List (Addr × Str)} {L : Lo} {c : Client} {H : Hp} (S : St K T L c H) : SqL K H L.la ((List.range c.attempts.length).map fun i => .ref (L.att i)) := SqL.of (S.has .la _ rfl)
theorem St.lsL {K : PySem.W.Frag} {T : List (Addr × Str)} {L : Lo} {c : Client} {H : Hp} {i : Nat} (S : St K T L c H) (hi : i < c.calls.length) : SqL K H (L.al i) ((atsOf c i).map fun a => .ref (L.att a)) := SqL.of (S.has (.al i) _ (if_pos hi))


theorem St.extN {K : PySem.W.Frag} {T : List (Addr × Str)} {L : Lo} {c : Client} {H H' : Hp} (S : St K T L c H) (e : ExtN H H') (t : Tabs T H') : St K T L c H' :=
  ⟨fun k o h => by
    have z := S.has k o h
    cases o with
    | l xs => exact e _ _ z fun ps q => by cases q
    | i C fs => obtain ⟨dx, z⟩ := z; exact ⟨dx, e _ _ z fun ps q => by cases q⟩, S.inj, t⟩
theorem Nxt.extN {K : PySem.W.Frag} {T : List (Addr × Str)} {L : Lo} {c : Client} {H H' : Hp} (S : St K T L c H) (e : ExtN H H') (t : Tabs T H') : Nxt K T L c H L c H' :=
  ⟨S.extN e t, fun b o h _ n => e b o h n, fun k o h => .inl ⟨o, h⟩, fun k o h => ⟨rfl, o, h⟩⟩
theorem SqL.extN {K : PySem.W.Frag} {H H' : Hp} {a : Addr} {xs : List V} (e : ExtN H H') (h : SqL K H a xs) : SqL K H' a xs := by
  rcases h with (h | ⟨o, h⟩) | h
  · exact .inl (.inl (e _ _ h fun ps q => by cases q))
  · exact .inl (.inr ⟨o, e _ _ h fun ps q => by cases q⟩)
  · exact .inr h
/-- the item at a place -/
theorem ix_map {ι : Type} {js : List ι} {A : ι → V} {k : Nat} {j : ι} (h : js[k]? = some j) : atI (js.map A) (k : Int) = some (A j) := atI_nat (by rw [List.getElem?_map, h]; rfl)
theorem i_ixL {K : PySem.W.Frag} {H : Hp} {Q : VK} {p : Addr} {xs : List V} {k : Nat} {v : V} (hS : SqL K H p xs) (hv : xs[k]? = some v) (h : Q v H) : rIxL K (.ref p) (.int (k : Int)) H Q := ⟨p, xs, _, v, rfl, rfl, hS, atI_nat hv, h⟩


/-- a field of a new thing is set -/
theorem nwG {K : PySem.W.Frag} {C a dx : Addr} {f : Str} {y : V} {fs fs2 : List (Str × V)} {H : Hp} {G : Hp → Prop} (e0 : H a = some (.ins C dx fs)) (hc : Cls K C) (hn : NoAttr K C f) (hz : fs.length < 1000) (e : putF f y fs = fs2)
    (h : ∀ H', H' a = some (.ins C dx fs2) → (∀ b, b ≠ a → H' b = H b) → G H') : StR K (.ref a) f y H G := by
  refine ⟨a, C, dx, fs, rfl, e0, hc, hn, hz, h _ ?_ fun b hb => upd_ne hb⟩
  rw [e]; exact upd_same
theorem i_lst0 {σ : L2.St} {H : Hp} {Q : VK} (h : ∀ p, H p = none → Q (.ref p) (upd H p (.lst []))) : tLst tNil σ H Q := ⟨Nat.zero_le _, h⟩


theorem cut_from (xs : List V) (n : Nat) : cutV xs (some (n : Int)) none = xs.drop n := by
  unfold cutV
  rw [HT.sIx_none, HT.sIx_nat]
  by_cases h : n ≤ xs.length
  · rw [Nat.min_eq_left h]
    exact List.take_of_length_le (by rw [List.length_drop]; omega)
  · rw [Nat.min_eq_right (by omega), List.drop_eq_nil_of_le (Nat.le_refl _), List.drop_eq_nil_of_le (by omega)]
    exact List.take_nil
theorem cut_to (xs : List V) (n m : Nat) : cutV xs (some (n : Int)) (some (m : Int)) = (xs.drop (min n xs.length)).take (min m xs.length - min n xs.length) := by
  unfold cutV
  rw [HT.sIx_nat, HT.sIx_nat]

end HC
end

section
set_option Elab.async false
set_option linter.all false
set_option maxRecDepth 100000
set_option maxHeartbeats 4000000
namespace ZTL
open PySem PySem.Spec PyProof.Rows L2
/-- zip of a tuple and a list -/
def ItzM (K : PySem.W.Frag) (a b : Addr) : It :=
  ⟨fun i H => ∃ (xs ys : List V) (x y : V), SqT K H a xs ∧ SqL K H b ys ∧ xs[i]? = some x ∧ ys[i]? = some y,
    fun i H v H' => ∃ t x y, v = .ref t ∧ H t = none ∧ H' = upd H t (.tup [x, y]) ∧ (∀ xs, SqT K H a xs → xs[i]? = some x) ∧ ∀ ys, SqL K H b ys → ys[i]? = some y,
    fun i H => ∃ xs ys : List V, SqT K H a xs ∧ SqL K H b ys ∧ i ≤ xs.length ∧ i ≤ ys.length ∧ (i = xs.length ∨ i = ys.length)⟩
theorem five {c z t1 t2 i1 i2 : Addr} (h : c ∈ [z, t1, t2, i1, i2]) : c = z ∨ c = t1 ∨ c = t2 ∨ c = i1 ∨ c = i2 := by simpa using h
theorem turn_mixed {P : Program} {w : World} {K : PySem.W.Frag} {elts : List Expr} {kk : Nat} {tpos : Pos} {a b z t1 t2 i1 i2 : Addr} (D : ZipSep2 z t1 t2 i1 i2 [i1, a] [i2, b]) (na : a ≠ i1) (nb : b ≠ i2) :
    Turn P w K (.Tuple elts kk tpos) (ItzM K a b) [z, t1, t2, i1, i2] z (fun i h => IsZip h z t1 t2 .none ∧ IsTupOf2 h t1 (.ref i1) (.ref i2) ∧ (∃ x y, IsTupOf2 h t2 x y) ∧ h.IsTupleIter i1 a i ∧ h.IsListIter i2 b i) where
  mem := by simp
  obj := fun i h st c hc => by
    obtain ⟨hz, hA, ⟨x, y, hB⟩, ⟨o1, e1, _, d1⟩, ⟨o2, e2, _, d2⟩⟩ := st
    rcases five hc with q | q | q | q | q
    · rw [q]; exact ⟨_, hz, fun v q => nomatch q⟩
    · rw [q]; exact ⟨_, hA, fun v q => nomatch q⟩
    · rw [q]; exact ⟨_, hB, fun v q => nomatch q⟩
    · rw [q]; exact ⟨o1, e1, fun v q => by rw [d1] at q; cases q⟩
    · rw [q]; exact ⟨o2, e2, fun v q => by rw [d2] at q; cases q⟩
  keep := fun i h h' st k => by
    obtain ⟨hz, hA, ⟨x, y, hB⟩, h1, h2⟩ := st
    exact ⟨k z (by simp) _ hz, k t1 (by simp) _ hA, ⟨x, y, k t2 (by simp) _ hB⟩, h1.at fun o q => k i1 (by simp) o q, h2.at fun o q => k i2 (by simp) o q⟩
  item := by
    intro X hP hw hK hc i pins s σ H E I hf st hg
    subst hP hw hK
    obtain ⟨hz, hA, ⟨x0, y0, hB⟩, h1, h2⟩ := st
    obtain ⟨xs, ys, x, y, hqx, hqy, hx, hy⟩ := hg
    obtain ⟨its, rv, p, _⟩ := I.tuple hqx
    obtain ⟨its2, rv2, p2, _⟩ := I.list hqy
    obtain ⟨u, hu, ru⟩ := rv.get hx
    obtain ⟨u2, hu2, ru2⟩ := rv2.get hy
    have hh : X.A.in1.handled = none := I.ok.hd hc
    have hzl : z < s.heap.objs.size := Heap.lt_size hz
    have lt1 : i < its.toArray.size := by rw [List.size_toArray]; exact (List.getElem?_eq_some_iff.mp hu).1
    have lt2 : i < its2.toArray.size := by rw [List.size_toArray]; exact (List.getElem?_eq_some_iff.mp hu2).1
    refine wpAny_pyNext_zipD2_item D (Draws.tuple hh i1 a na its.toArray) (Draws.list hh i2 b nb its2.toArray) hz hA hB ⟨h1, p⟩ ⟨h2, p2.isList⟩ lt1 lt2 fun v1 v2 h' tk e1 e2 z' B' st1 st2 hT hsz hk => ?_
    have w1 : v1 = u := by rw [List.getElem?_toArray, hu] at e1; exact (Option.some.inj e1).symm
    have w2 : v2 = u2 := by rw [List.getElem?_toArray, hu2] at e2; exact (Option.some.inj e2).symm
    subst w1 w2
    refine ⟨_, rfl, wpAny_letOwnedTupleGo_zip (s := { s with heap := h', toks := tk }) z' fun h'' z'' sb => ?_⟩
    have hT2 : h''.get? s.heap.objs.size = some { cls := .type "tuple", data := .seq #[v1, v2] } := (sb.2 _ (Nat.ne_of_gt hzl)).trans hT
    have new : ObjOk X.prog X.w (upd H s.heap.objs.size (.tup [x, y])) h'' s.heap.objs.size (.tup [x, y]) :=
      ⟨by show 2 ≤ sizeLine; decide, [v1, v2], .cons ru (.cons ru2 .nil), ⟨_, hT2, rfl, _, rfl⟩⟩
    have I1 : Inv X pins σ (upd H s.heap.objs.size (.tup [x, y])) { s with heap := h'', toks := tk } :=
      I.turnedNew (t' := tk) (ch := [z, t1, t2, i1, i2]) (fun c o hb q => (sb.2 c (fun q' => hb (by simp [q']))).trans (hk c o (fun q' => hb (by simp [q'])) (fun q' => hb (by simp [q'])) (fun q' => hb (by simp [q'])) (fun q' => hb (by simp [q'])) q)) hf (Nat.le_refl _) new
    refine ⟨.ref s.heap.objs.size, _, I1, rfl, ⟨_, x, y, rfl, I.hok.fresh (Nat.le_refl _), rfl, fun l hl => by rw [I.tuple_inj hl hqx]; exact hx, fun l hl => by rw [I.list_inj hl hqy]; exact hy⟩, ⟨z'', ?_, ⟨v1, v2, ?_⟩, ?_, ?_⟩, fun c hcm => ?_⟩
    · exact (sb.2 _ D.TIz).trans (hk _ _ D.TIz D.TITO D.TIi1 D.TIi2 hA)
    · exact (sb.2 _ D.TOz).trans B'
    · exact st1.1.at fun o q => (sb.2 _ (Ne.symm D.zi1)).trans q
    · exact st2.1.at fun o q => (sb.2 _ (Ne.symm D.zi2)).trans q
    · have hlt : c < s.heap.objs.size := by
        rcases five hcm with q | q | q | q | q
        · rw [q]; exact hzl
        · rw [q]; exact Heap.lt_size hA
        · rw [q]; exact Heap.lt_size hB
        · rw [q]; obtain ⟨_, e1, _⟩ := h1; exact Heap.lt_size e1
        · rw [q]; obtain ⟨_, e2, _⟩ := h2; exact Heap.lt_size e2
      rw [upd_ne (Nat.ne_of_lt hlt)]
      exact (hf c hcm).1
  done := by
    intro X hP hw hK hc i pins s σ H E I hf st hg
    subst hP hw hK
    obtain ⟨hz, hA, ⟨x0, y0, hB⟩, h1, h2⟩ := st
    obtain ⟨xs, ys, hqx, hqy, l1, l2, hend⟩ := hg
    obtain ⟨its, rv, p, _⟩ := I.tuple hqx
    obtain ⟨its2, rv2, p2, _⟩ := I.list hqy
    have hh : X.A.in1.handled = none := I.ok.hd hc
    have q1 : its.toArray.size = xs.length := by rw [List.size_toArray]; exact rv.length.symm
    have q2 : its2.toArray.size = ys.length := by rw [List.size_toArray]; exact rv2.length.symm
    exact wpAny_pyNext_zipD2_end D (Draws.tuple hh i1 a na its.toArray) (Draws.list hh i2 b nb its2.toArray) hz hA hB ⟨h1, p⟩ ⟨h2, p2.isList⟩ (by rw [q1]; exact l1) (by rw [q2]; exact l2) (by rw [q1, q2]; exact hend) fun h' tk hk =>
      ⟨rfl, I.turnedL (t' := tk) (ch := [z, t1, t2, i1, i2]) (fun c o hb q => hk c o (fun q' => hb (by simp [q'])) (fun q' => hb (by simp [q'])) (fun q' => hb (by simp [q'])) (fun q' => hb (by simp [q'])) q) hf⟩
  self := fun A i s Q E st h => wpAny_pyIter_zip st.1 h
def iZipM (K : PySem.W.Frag) (ta : TA) : TI := fun σ H R => ta σ H fun vs H1 => ∃ a b xs ys, vs = [.ref a, .ref b] ∧ SqT K H1 a xs ∧ SqL K H1 b ys ∧ R (ItzM K a b) H1
theorem pi_zipM {X : Cx} {e e2 : Expr} {ta : TA} {p pos tpos : Pos} {elts : List Expr} {kk : Nat} (hg : Gl X "zip") (hm : X.mg "zip" = none) (ha : PA X [e, e2] ta)
    (hs : starEach [e, e2] X.env = (false, eval e X.env) :: starEach [e2] X.env := by rfl) (hpl : (backTo pos (starEach [e2] X.env)).any (·.1) = false := by rfl) :
    PI X (.Tuple elts kk tpos) (.Call (.Name "zip" p) [e, e2] [] pos) (iZipM X.K ta) := by
  refine ⟨fun pins s σ H R I h => ?_⟩
  refine Call_ (ld_blt I hg hm PyProof.Rows.boot_zip (PyProof.Rows.callWith_type1 (thn (ha.run pos pins s σ H _ I h) fun us s1 ⟨vs, H1, I1, r1, q1⟩ => ?_) hs hpl))
  obtain ⟨a, b, xs, ys, ex, hqx, hqy, q⟩ := q1
  subst ex
  obtain ⟨r, rr⟩ : (∃ u v, us = [u, v] ∧ u = Value.ref a ∧ v = Value.ref b) ∧ True := by
    cases r1 with
    | cons r rr =>
      cases rr with
      | cons r' rr =>
        cases rr
        exact ⟨⟨_, _, rfl, r, r'⟩, trivial⟩
  obtain ⟨u, v, rfl, rfl, rfl⟩ := r
  obtain ⟨its, rv, p1, _⟩ := I1.tuple hqx
  obtain ⟨its2, rv2, p2, _⟩ := I1.list hqy
  have la : a < s1.heap.objs.size := by obtain ⟨o, e, _⟩ := id p1; exact Heap.lt_size e
  have lb : b < s1.heap.objs.size := p2.lt
  refine zip_begins2 (begins_tuple a its.toArray) (begins_list b its2.toArray) p1 p2.isList fun h' hz hA hB g1 g2 hsz hk => wpAny_pyIter_zip hz ?_
  have I2 : Inv X pins σ H1 { s1 with heap := h' } := I1.kept (t' := s1.toks) hk
  refine ⟨s1.heap.objs.size + 4, [s1.heap.objs.size + 4, s1.heap.objs.size + 2, s1.heap.objs.size + 3, s1.heap.objs.size, s1.heap.objs.size + 1], _, _, H1, rfl, I2,
    turn_mixed (zip_sep2 (fp1 := [a]) (fp2 := [b]) (fun c hc => by rw [List.mem_singleton.mp hc]; exact la) (fun c hc => by rw [List.mem_singleton.mp hc]; exact lb)) (Nat.ne_of_lt la) (Nat.ne_of_lt (Nat.lt_succ_of_lt lb)), ⟨hz, hA, ⟨_, _, hB⟩, ⟨_, g1, rfl, rfl⟩, ⟨_, g2, rfl, rfl⟩⟩, fun c hcm => ?_, q⟩
  have hle : s1.heap.objs.size ≤ c := by
    rcases five hcm with z | z | z | z | z <;> rw [z] <;> omega
  exact I1.fpOk hle (I1.hok.fresh hle)
/-- a loop over zip of a tuple and a list that is at least as long -/
theorem for_zipM {K : PySem.W.Frag} {a b : Addr} {xs ys : List V} {g : TG} {tb : TS} {D : Ends} {σ : L2.St} {H : Hp} (hl : xs.length ≤ ys.length) (Pv : Nat → L2.St → Hp → Prop) (h0 : Pv 0 σ H) (hq : ∀ i σ H, Pv i σ H → SqT K H a xs ∧ SqL K H b ys)
    (hs : ∀ (i : Nat) (x y : V) (t : Addr) (σ : L2.St) (H : Hp), xs[i]? = some x → ys[i]? = some y → Pv i σ H → H t = none → g (.ref t) σ (upd H t (.tup [x, y])) fun σ2 H2 => tb { D with nx := Pv (i + 1), ct := Pv (i + 1), bk := D.nx } σ2 H2) (hd : ∀ σ H, Pv xs.length σ H → D.nx σ H) :
    ∃ W : Nat → Nat → L2.St → Hp → Prop, (∃ m, W 0 m σ H) ∧ ∀ i m σ H, W i m σ H →
      ((ItzM K a b).stop i H ∧ D.nx σ H) ∨ ((ItzM K a b).go i H ∧ ∃ N : L2.St → Hp → Prop, (∀ σ' H', N σ' H' → ∃ m', m' < m ∧ W (i + 1) m' σ' H') ∧ ∀ v H', (ItzM K a b).yld i H v H' → g v σ H' fun σ2 H2 => tb { D with nx := N, ct := N, bk := D.nx } σ2 H2) := by
  refine ⟨fun i m σ H => m = xs.length - i ∧ i ≤ xs.length ∧ Pv i σ H, ⟨xs.length, rfl, Nat.zero_le _, h0⟩, ?_⟩
  rintro i m σ H ⟨rfl, hi, p⟩
  obtain ⟨qx, qy⟩ := hq i σ H p
  by_cases hlt : i < xs.length
  · have hx : xs[i]? = some xs[i] := List.getElem?_eq_getElem hlt
    have hlt2 : i < ys.length := by omega
    have hy : ys[i]? = some ys[i] := List.getElem?_eq_getElem hlt2
    refine .inr ⟨⟨xs, ys, _, _, qx, qy, hx, hy⟩, Pv (i + 1), fun σ' H' p' => ⟨xs.length - (i + 1), by omega, rfl, hlt, p'⟩, fun v H' y => ?_⟩
    obtain ⟨t, x', y', rfl, hT, rfl, f1, f2⟩ := y
    exact hs i x' y' t σ H (f1 xs qx) (f2 ys qy) p hT
  · have e : i = xs.length := by omega
    subst e
    exact .inl ⟨⟨xs, ys, qx, qy, Nat.le_refl _, hl, .inl rfl⟩, hd σ H p⟩
end ZTL
end

section
set_option Elab.async false
set_option linter.all false
set_option maxRecDepth 100000
set_option maxHeartbeats 4000000
namespace KI
open PySem PySem.Spec PyProof.Rows L2
theorem ent_pairs (P : Program) (w : World) : ∀ {es : List DictEntry} {kvs : List (Int × Addr)}, entB es kvs = true → (∀ e ∈ es, ∃ k, (intKind P w).is k e.key = true ∧ e.hash = (intKind P w).hash k) ∧ Pairs (intKind P w) es (kvs.map fun p => (p.1, Value.ref p.2))
  | [], [], _ => ⟨fun e h => (nomatch h), .nil⟩
  | [], _ :: _, h => by cases h
  | _ :: _, [], h => by cases h
  | e :: es, p :: r, h => by
    have h' : (decide (e.hash = hashInt p.1) && Value.isInt p.1 e.key && (match e.val with | .ref b => decide (b = p.2) | _ => false) && entB es r) = true := h
    simp only [Bool.and_eq_true, decide_eq_true_eq] at h'
    obtain ⟨⟨⟨h1, h2⟩, h3⟩, h4⟩ := h'
    obtain ⟨i1, i2⟩ := ent_pairs P w h4
    refine ⟨fun x hx => ?_, .cons h2 ?_ i2⟩
    · rcases List.mem_cons.mp hx with rfl | hx
      · exact ⟨p.1, h2, h1⟩
      · exact i1 x hx
    · cases q : e.val with
      | ref b => rw [q] at h3; simp only [decide_eq_true_eq] at h3; rw [h3]
      | _ => rw [q] at h3; cases h3
theorem ki_dict {P : Program} {w : World} {K : PySem.W.Frag} {h : Heap} {d : Addr} {kvs : List (Int × Addr)} (e : kiB K d kvs = true) (X : K.In h) : h.DictOf (intKind P w) d (kvs.map fun p => (p.1, Value.ref p.2)) := by
  unfold kiB at e
  simp only [Bool.and_eq_true, decide_eq_true_eq] at e
  obtain ⟨⟨e1, e2⟩, e3⟩ := e
  cases q : K.lookup d with
  | none => rw [q] at e1; cases e1
  | some o =>
    rw [q] at e1
    obtain ⟨c, od, dt, sl⟩ := o
    cases c with
    | type c =>
      cases od with
      | none =>
        cases dt with
        | dict es n =>
          simp only [Bool.and_eq_true, decide_eq_true_eq] at e1
          obtain ⟨⟨e4, e5⟩, e6⟩ := e1
          subst e4
          obtain ⟨k1, k2⟩ := ent_pairs P w e6
          refine ⟨_, es, n, X _ _ q, ⟨rfl, rfl, Array.eq_empty_of_size_eq_zero e5⟩, rfl, fun x hx => k1 x (Array.mem_toList_iff.mpr hx), k2, ?_⟩
          rw [List.map_map]
          exact e2
        | _ => cases e1
      | some d => cases dt <;> cases e1
    | _ => cases od <;> cases dt <;> cases e1
theorem val_of {kvs : List (Int × Addr)} (nd : (kvs.map (·.1)).Nodup) {k : Int} {a : Addr} (h : (k, a) ∈ kvs) : valueAt (kvs.map fun p => (p.1, Value.ref p.2)) k = some (.ref a) := by
  induction kvs with
  | nil => cases h
  | cons p r ih =>
    rw [List.map_cons, List.nodup_cons] at nd
    unfold valueAt
    rw [List.map_cons, List.find?_cons]
    rcases List.mem_cons.mp h with e | h
    · rw [← e]; simp
    · have hne : ¬ p.1 = k := fun z => nd.1 (by rw [z]; exact List.mem_map.mpr ⟨_, h, rfl⟩)
      simp only [hne, decide_false]
      exact ih nd.2 h
/-- d[k] -/
def rKI (d : Addr) (kvs : List (Int × Addr)) : R2 := fun x y H Q => ∃ k a, x = .ref d ∧ y = .int k ∧ (k, a) ∈ kvs ∧ Q (.ref a) H
theorem ix_ki {X : Cx} {d : Addr} {kvs : List (Int × Addr)} (e : kiB X.K d kvs = true) : IxR X (rKI d kvs) := by
  intro value slice pins s σ H x y v u Q I rx ry h hs
  obtain ⟨k, a, rfl, rfl, hm, q⟩ := h
  obtain rfl : v = Value.ref d := rx
  obtain ⟨t, rfl⟩ := ry
  have nd : (kvs.map (·.1)).Nodup := by
    unfold kiB at e
    simp only [Bool.and_eq_true, decide_eq_true_eq] at e
    exact e.1.2
  have dd := ki_dict (P := X.prog) (w := X.w) e I.kIn
  exact tail_any dd.mapOf.typeIs slot_dict_getitem.lookup (wpAny_getItem_of (show (intKind X.prog X.w).is k (.int k t) = true by show Value.isInt k (.int k t) = true; simp [Value.isInt]) dd.mapOf (val_of nd hm) ⟨.ref a, H, I.tok _, rfl, q⟩) hs
/-- f(e, ..), f an expression whose value is one of several defs; R: what each of them asks -/
def tCallV (K : PySem.W.Frag) (R : Addr → List V → Hp → VK → Prop) (tf : TE) (t : TA) : TE := fun σ H Q => tf σ H fun x H1 => ∃ f, x = .ref f ∧ PySem.W.keepIn K (.ref f) = true ∧ t σ H1 fun vs H2 => R f vs H2 Q
theorem pe_callV {X : Cx} {k : Nat} {R : Addr → List V → Hp → VK → Prop} {fe e : Expr} {es : List Expr} {tf : TE} {t : TA} {pos : Pos} (hf : PE X fe tf) (hr : Room k X.A) (ha : PA X (e :: es) t)
    (G : ∀ f vs H Q, R f vs H Q → ∃ ps sp, HC.GF X.prog X.w X.K X.mg X.base k f ps sp ∧ sp vs H Q L2.E0)
    (he : starEach (e :: es) X.env = (false, eval e X.env) :: starEach es X.env := by rfl) (hpl : (backTo pos (starEach es X.env)).any (·.1) = false := by rfl)
    (ht : eval (.Call fe (e :: es) [] pos) X.env = (do callWith pos (← eval fe X.env) [] (backTo pos (starEach (e :: es) X.env)) (backToKw pos (keywordEach [] X.env))) := by rfl) :
    PE X (.Call fe (e :: es) [] pos) (tCallV X.K R tf t) := by
  refine ⟨fun pins s σ H Q I h => ?_⟩
  refine Call_ (thn (hf.run pins s σ H _ I h) fun u s1 ⟨x, H1, I1, r1, q1⟩ => ?_) ht
  obtain ⟨f, rfl, kp, q1⟩ := q1
  obtain rfl : u = Value.ref f := r1
  refine PySem.W.callWith_K (first := []) (h₀ := X.base) I1.ok.mod.kin kp (thn (ha.run pos pins s1 σ H1 _ I1 q1) fun us s2 ⟨vs, H2, I2, r, q⟩ => ⟨I2.kIn, ?_⟩) he hpl
  obtain ⟨ps, sp, g, hs⟩ := G f vs H2 Q q
  obtain ⟨fd, F, b⟩ := g.ex
  refine L2.run_fn F hr b (dvs := []) (ds := []) .nil L2.pass0 I2 r ?_
  rw [List.append_nil]
  exact hs
end KI
end

section
set_option Elab.async false
set_option linter.all false
set_option maxRecDepth 100000
set_option maxHeartbeats 4000000
/-! sorted(e, key=lambda a: ..): the keys are whole numbers -/
namespace SortL
open PySem PySem.Spec PyProof.Rows L2 LamX NdefX PySem.W
open MM Lam1
section
variable {prog : Program} {w : World} {A : Around} {E : Value → Shared → Prop} {s : Shared} {a kS : Addr} {keys : Array Value} {e e1 : Nat} {vs : List Value} {P : PySem.Fin → Shared → Prop}
/-- the heap behind the sort -/
abbrev endHeap (h : Heap) (kS a : Addr) (out : List Value) : Heap := (h.update kS (Obj.mapSeq fun _ => (#[] : Array Value))).update a (Obj.mapSeq fun _ => out.toArray)
theorem keyX_tail {st : SortSt} {out : List Value} (nk : s.heap.get? kS = some (seqObj "list" keys e)) (na : s.heap.get? a = some (seqObj "list" #[] e1)) (hka : kS ≠ a)
    (hsz : keys.size ≤ sizeLine) (hz : out.length ≤ sizeLine) (hfl : failedOf st = none) (ho : (arrOf st).map (·.2) = out.toArray)
    (h : P (.done (.ret .none)) { s with heap := endHeap s.heap kS a out }) :
    wpAny (model prog w) A (ksk_tail a false e1 (.ref kS) st) P E s := by
  have s1 := Heap.SameBut.update s.heap kS (Obj.mapSeq fun _ => (#[] : Array Value))
  have na1 : (s.heap.update kS (Obj.mapSeq fun _ => (#[] : Array Value))).get? a = some (seqObj "list" #[] e1) := (s1.2 a hka.symm).trans na
  have hz2 : out.toArray.size ≤ sizeLine + 1 := by
    rw [List.size_toArray]
    exact Nat.le_succ_of_le hz
  unfold ksk_tail
  try dsimp only
  rw [if_neg (by decide), ho]
  refine wpAny_bind (listUpdate_at nk rfl ?_ hsz (Nat.zero_le _))
  refine wpAny_bind (wpAny_letGo ?_)
  refine wpAny_bind (seqEpoch_at na1 rfl ?_)
  refine wpAny_bind (listUpdate_at na1 rfl ?_ (Nat.zero_le _) hz2)
  rw [hfl]
  simp only [bne_self_eq_false, Bool.false_eq_true, if_false]
  exact wpAny_pure h
theorem keyX_end {κ : PyProof.Rows.KeyKind} (nk : s.heap.get? kS = some (seqObj "list" keys e)) (na : s.heap.get? a = some (seqObj "list" #[] e1)) (hka : kS ≠ a)
    (S : SortsAt prog w A s κ keys.toList) (hsz : keys.size = vs.length) (hZ : vs.length ≤ sizeLine)
    (h : P (.done (.ret .none)) { s with heap := endHeap s.heap kS a (sortVals κ false keys.toList vs) }) :
    wpAny (model prog w) A (ksk_end a false vs.toArray e1 (.ref kS) keys) P E s := by
  obtain ⟨kd, h1, h2⟩ := S.kind
  have hkl : keys.toList.length = vs.length := by
    rw [Array.length_toList]
    exact hsz
  have hK : PyProof.Rows.KeysOf κ (keys.zip vs.toArray) := keysOf_zip S.keys
  have hol : (sortVals κ false keys.toList vs).length = vs.length := sortVals_length false hkl
  have hss : (keys.zip vs.toArray).size = vs.length := by rw [Array.size_zip, hsz, List.size_toArray, Nat.min_self]
  have fin : ∀ st' : SortSt, (arrOf st').Perm (keys.zip vs.toArray) → SortedToK κ (arrOf st') (keys.zip vs.toArray).size →
      Stable κ (arrOf st') (keys.zip vs.toArray) → (arrOf st').map (·.2) = (sortVals κ false keys.toList vs).toArray := by
    intro st' hp hs ht
    have e := sort_out (rev := false) (keys := keys) (items := vs.toArray) (xs := arrOf st') (κ := κ) hK hp hs ht
    have e' := congrArg List.toArray e
    rw [Array.toArray_toList] at e'
    exact e'
  unfold ksk_end
  try dsimp only
  rw [if_neg (by decide)]
  by_cases hl2 : vs.toArray.size < 2
  · rw [if_pos hl2, if_pos hl2]
    refine wpAny_bind (wpAny_pure ?_)
    rw [StateT.run_pure]
    refine wpAny_bind (wpAny_pure ?_)
    try dsimp only
    refine keyX_tail (st := SortSt.mk' general' (keys.zip vs.toArray) #[] 7 none) nk na hka (by rw [hsz]; exact hZ) (by rw [hol]; exact hZ) rfl (fin _ (Array.Perm.refl _) ?_ (Stable.refl _)) h
    intro i j hij hj
    rw [hss] at hj
    rw [List.size_toArray] at hl2
    have : i = j := by omega
    subst this
    exact KeyOrd.kle_refl _
  · rw [if_neg hl2, if_neg hl2]
    rw [List.size_toArray] at hl2
    refine wpAny_bind (h2 (by omega) _ ?_)
    refine wpAny_bind (wpAny_mono (H.wpS_sortRunsSt (κ := κ) (kd := kd) (a₀ := keys.zip vs.toArray)
      (st := SortSt.mk' kd (keys.zip vs.toArray) #[] 7 none)
      (Q := fun _ st' => failedOf st' = none ∧ (arrOf st').map (·.2) = (sortVals κ false keys.toList vs).toArray)
      h1 hK ⟨Array.Perm.refl _, rfl, rfl⟩ rfl (Stable.refl _) (by rw [hss]; omega) fun st' a1 a2 a3 a4 => ⟨a2, fin st' a1 a3 a4⟩) ?_ fun _ _ e => e)
    rintro ⟨⟨⟩, st'⟩ s' ⟨rfl, hf, ho⟩
    try dsimp only at ho ⊢
    exact keyX_tail nk na hka (by rw [hsz]; exact hZ) (by rw [hol]; exact hZ) hf ho h
end

/-- the keys of the first n places -/
def keysTo (kf : Nat → Int) (n : Nat) : List V := (List.range n).map fun k => V.int (kf k)
theorem keysTo_succ (kf : Nat → Int) (n : Nat) : keysTo kf (n + 1) = keysTo kf n ++ [V.int (kf n)] := by
  unfold keysTo
  rw [List.range_succ, List.map_append]
  rfl
theorem keys_read {kf : Nat → Int} {h : Heap} : ∀ (js : List Nat) {us : List Value}, Vals (js.map fun k => V.int (kf k)) us → EachIs (fun v d => ∃ as, Reads h v d as) us (js.map fun k => PyData.int (kf k))
  | [], us, r => by cases r; exact .nil
  | j :: js, us, r => by
    cases r with
    | cons r1 r2 =>
      obtain ⟨t, rfl⟩ := r1
      exact .cons ⟨[], .int (kf j) t⟩ (keys_read js r2)
/-- the places in the order of their keys -/
def ordered (kf : Nat → Int) (n : Nat) : List Nat := (List.range n).mergeSort fun i j => decide (kf i ≤ kf j)
theorem each_range {xs : List V} : ∀ {ys : List V} {us : List Value} (k : Nat), Vals ys us → (∀ i, ys[i]? = xs[k + i]?) → EachIs (fun v i => ∃ x, xs[i]? = some x ∧ RelV x v) us ((List.range ys.length).map (k + ·))
  | _, _, k, .nil, _ => .nil
  | x :: ys, u :: us, k, .cons r1 r2, h => by
    rw [List.length_cons, List.range_succ_eq_map, List.map_cons, List.map_map]
    refine .cons ⟨x, (h 0).symm, r1⟩ ?_
    have e : ((k + ·) ∘ Nat.succ) = ((k + 1) + ·) := by funext i; show k + (i + 1) = k + 1 + i; omega
    rw [e]
    exact each_range (k + 1) r2 fun i => by
      have z := h (i + 1)
      rw [List.getElem?_cons_succ] at z
      rw [z]
      congr 1
      omega
theorem vals_out {xs : List V} : ∀ {js : List Nat} {us : List Value}, EachIs (fun v i => ∃ x, xs[i]? = some x ∧ RelV x v) us js → Vals (js.filterMap fun i => xs[i]?) us
  | [], _, h => by cases h; exact .nil
  | j :: js, _, h => by
    cases h with
    | cons h1 h2 =>
      obtain ⟨x, e, r⟩ := h1
      rw [List.filterMap_cons, e]
      exact .cons r (vals_out h2)
section
variable {X : Cx} {pins : List (Addr × Obj)} {σ : L2.St} {H0 : Hp} {s : Shared}
theorem sort_run_key {l q : Addr} {xs : List V} {kf : Nat → Int} {Q : Value → Shared → Prop} {E : Value → Shared → Prop} (J : Inv X pins σ H0 s) (hl : SqL X.K H0 l xs) (hu : X.A.units + 64 < cLine)
    (turn : ∀ (i : Nat) (x : V) (u : Value) (H : Hp) (s : Shared), xs[i]? = some x → RelV x u → MM.Ext H0 H → Inv X pins σ H s →
      wpAny (model X.prog X.w) X.A.in1.in1 (call (.ref q) [u]) (fun y s' => RelV (.int (kf i)) y ∧ Inv X pins σ H s') (fun _ _ => False) s)
    (hR : ∀ (p : Addr) (H : Hp) (s : Shared), H0 p = none → MM.Ext H0 H → H p = some (.lst ((ordered kf xs.length).filterMap fun i => xs[i]?)) → Inv X pins σ H s → Q (.ref p) s) :
    wpAny (model X.prog X.w) X.A (call (.builtin "sorted") [.ref l] [(Str.ofString "key", .ref q)]) Q E s := by
  obtain ⟨its, rv, pl, hz0⟩ := J.list hl
  have len : xs.length = its.length := rv.length
  refine sorted_of_sort pl.isList (by rw [← len]; exact hz0) (ksk_s1 _ _) (fun _ => ksk_l1 _ _) fun E' => ?_
  rw [ksk_t1]
  have ho := copyHeap_at s.heap its
  have n0 : H0 (s.heap.objs.size + 1) = none := J.hok.fresh (Nat.le_succ _)
  have J1 : Inv X pins σ (upd H0 (s.heap.objs.size + 1) (.lst xs)) { s with heap := copyHeap s.heap its } := J.laid (t' := s.toks) (fun _ _ => copyHeap_old) (Nat.le_succ _) ⟨hz0, its, 0, rv, ho⟩
  generalize s.heap.objs.size + 1 = a at *
  generalize hh : copyHeap s.heap its = h1 at *
  obtain ⟨e1, ho1⟩ : ∃ e1, (h1.update a (Obj.mapSeq fun _ => (#[] : Array Value))).get? a = some (seqObj "list" #[] e1) := ⟨_, get?_update_seq ho fun _ => #[]⟩
  unfold ksk_tree
  refine wpAny_bind (listItems_at ho rfl ?_)
  refine wpAny_bind (listUpdate_at ho rfl ?_ (by rw [List.size_toArray, ← len]; exact hz0) (Nat.zero_le _))
  have J2 : Inv X pins σ (upd (upd H0 a (.lst xs)) a (.ext fun h => h.get? a = some (seqObj "list" #[] e1))) { s with heap := h1.update a (Obj.mapSeq fun _ => (#[] : Array Value)) } :=
    J1.write (t' := s.toks) (x := a) (e := a) (by rw [upd_same]; exact trivial) (.inl rfl) (fun b u hb q => (Heap.get?_update_other h1 _ (Ne.symm hb)).trans q) ⟨_, ho1⟩ ⟨ho1, ⟨_, ho1⟩, fun g1 g2 q k => k _ q⟩
  rw [upd_upd] at J2
  refine wpAny_bind (seqEpoch_at ho1 rfl ?_)
  refine wpAny_bind (wpAny_newTuple ?_ (by show its.length ≤ _; rw [← len]; exact hz0))
  refine wpAny_bind (wpAny_newList ?_ (Nat.zero_le _))
  refine wpAny_holding ?_
  have J3 : Inv X pins σ (upd H0 a (.ext fun h => h.get? a = some (seqObj "list" #[] e1))) { s with heap := (h1.update a (Obj.mapSeq fun _ => (#[] : Array Value))).push (seqObj "tuple" its.toArray 0) } := J2.kept (t' := s.toks) fun b o e => Heap.get?_push_of_some _ e
  have J4 := J3.lnew (t' := s.toks) (its := []) (ys := []) .nil (Nat.zero_le _)
  have nS := J3.fresh
  show wpAny _ _ (ksk_rest a (.ref q) false its.toArray e1 (.ref ((h1.update a (Obj.mapSeq fun _ => (#[] : Array Value))).push (seqObj "tuple" its.toArray 0)).objs.size)) _ _ { s with heap := ((h1.update a (Obj.mapSeq fun _ => (#[] : Array Value))).push (seqObj "tuple" its.toArray 0)).push { cls := .type "list", data := .seq #[] } }
  have ho2 : (((h1.update a (Obj.mapSeq fun _ => (#[] : Array Value))).push (seqObj "tuple" its.toArray 0)).push { cls := .type "list", data := .seq #[] }).get? a = some (seqObj "list" #[] e1) := Heap.get?_push_of_some _ (Heap.get?_push_of_some _ ho1)
  generalize hkS : ((h1.update a (Obj.mapSeq fun _ => (#[] : Array Value))).push (seqObj "tuple" its.toArray 0)).objs.size = kS at *
  change Inv X pins σ (upd (upd H0 a (.ext fun h => h.get? a = some (seqObj "list" #[] e1))) kS (.lst [])) { s with heap := ((h1.update a (Obj.mapSeq fun _ => (#[] : Array Value))).push (seqObj "tuple" its.toArray 0)).push { cls := .type "list", data := .seq #[] } } at J4
  generalize ((h1.update a (Obj.mapSeq fun _ => (#[] : Array Value))).push (seqObj "tuple" its.toArray 0)).push { cls := .type "list", data := .seq #[] } = h4 at *
  have hka : kS ≠ a := fun z => by rw [z, upd_same] at nS; cases nS
  have hakS : a ≠ kS := Ne.symm hka
  have nS0 : H0 kS = none := by rw [upd_ne hka] at nS; exact nS
  have x0 : MM.Ext H0 (upd H0 a (.ext fun h => h.get? a = some (seqObj "list" #[] e1))) := (MM.Ext.refl H0).upd n0
  have xk : ∀ ys, MM.Ext H0 (upd (upd H0 a (.ext fun h => h.get? a = some (seqObj "list" #[] e1))) kS (.lst ys)) := fun ys => x0.upd nS0
  have hz1 : its.length ≤ sizeLine := by rw [← len]; exact hz0
  unfold ksk_rest
  refine wpAny_bind (wpAny_rule ?_)
  rw [List.forIn_toArray]
  refine wpAny_bind (ksk_fold (fun i s' => Inv X pins σ (upd (upd H0 a (.ext fun h => h.get? a = some (seqObj "list" #[] e1))) kS (.lst (keysTo kf i))) s') its 0 _ J4 ?step ?done)
  case step =>
    rintro j v s' hv Jj
    rw [Nat.zero_add] at Jj ⊢
    have hj : j < its.length := (List.getElem?_eq_some_iff.mp hv).1
    obtain ⟨x, hx, rx⟩ : ∃ x, xs[j]? = some x ∧ RelV x v := by
      have hj2 : j < xs.length := by omega
      obtain ⟨u, hu, ru⟩ := rv.get (List.getElem?_eq_getElem hj2)
      rw [hv] at hu
      cases hu
      exact ⟨_, List.getElem?_eq_getElem hj2, ru⟩
    refine wpAny_bind (wpAny_attempt (wpAny_mono (turn j x v _ s' hx rx (xk _) Jj) (fun y s2 ⟨ry, Jy⟩ => ?_) fun _ _ hF => hF.elim))
    obtain ⟨zS, itS, nS, rS, lS, gS⟩ := Jy.lstM upd_same
    have lk : (keysTo kf j).length = j := by unfold keysTo; rw [List.length_map, List.length_range]
    try dsimp only
    refine wpAny_bind (listUpdate_at gS rfl ?_ (by rw [List.size_toArray, ← lS]; exact zS) (by rw [Array.size_push, List.size_toArray, ← lS]; exact Nat.succ_le_succ zS))
    have J5 := Jy.lset (t' := s2.toks) (its' := itS ++ [y]) (ys := keysTo kf j ++ [V.int (kf j)]) upd_same gS (f := (·.push y)) (by simp) (rS.append (.cons ry .nil)) (by rw [List.length_append, lk]; show j + 1 ≤ _; omega)
    rw [upd_upd, ← keysTo_succ] at J5
    exact wpAny_pure ⟨rfl, J5⟩
  case done =>
    rintro s' Jn
    rw [Nat.zero_add] at Jn
    obtain ⟨zS, itS, nS, rS, lS, gS⟩ := Jn.lstM upd_same
    have hext : upd (upd H0 a (.ext fun h => h.get? a = some (seqObj "list" #[] e1))) kS (.lst (keysTo kf its.length)) a = some (.ext fun h => h.get? a = some (seqObj "list" #[] e1)) := by rw [upd_ne hakS, upd_same]
    have ga : s'.heap.get? a = some (seqObj "list" #[] e1) := (Jn.hok a _ hext).1
    have lk : (keysTo kf its.length).length = its.length := by unfold keysTo; rw [List.length_map, List.length_range]
    have hsz : itS.toArray.size = its.length := by rw [List.size_toArray, ← lS, lk]
    have rd : EachIs (fun v d => ∃ as, Reads s'.heap v d as) itS ((List.range its.length).map fun k => PyData.int (kf k)) := keys_read _ rS
    have hal : AllAlike ((List.range its.length).map fun k => PyData.int (kf k)) := fun d hd d' hd' => by
      obtain ⟨i, _, rfl⟩ := List.mem_map.mp hd
      obtain ⟨j, _, rfl⟩ := List.mem_map.mp hd'
      rfl
    have hsk : PySem.W.Sortable ((List.range its.length).map fun k => PyData.int (kf k)) := .inr fun d hd => by
      obtain ⟨i, _, rfl⟩ := List.mem_map.mp hd
      exact ⟨(fun z => by cases z), fun xs z => by cases z⟩
    try dsimp only
    refine wpAny_bind (listItems_at gS rfl ?_)
    refine keyX_end (κ := dataKind s'.heap ((List.range its.length).map fun k => PyData.int (kf k))) gS ga hka (SortsAt.data (s := s') rd hal hsk fun d hd => by
      obtain ⟨i, _, rfl⟩ := List.mem_map.mp hd
      show X.A.units + 1 + 1 + _ < _
      exact Nat.lt_of_le_of_lt (Nat.add_le_add (Nat.le_refl _) (show PyData.depth (.int (kf i)) ≤ 1 from Nat.zero_le _)) (by omega)) hsz hz1 ?_
    have ko : KeyedOut false ((List.range its.length).map fun k => PyData.int (kf k)) its (sortVals (dataKind s'.heap ((List.range its.length).map fun k => PyData.int (kf k))) false itS its) := ⟨_, _, hal, rfl, rd⟩
    have er : EachIs (fun v i => ∃ x, xs[i]? = some x ∧ RelV x v) its (List.range its.length) := by
      have z := each_range (xs := xs) 0 rv fun i => by rw [Nat.zero_add]
      rw [len] at z
      have e : (List.range its.length).map (0 + ·) = List.range its.length := by
        have e2 : ((0 + ·) : Nat → Nat) = id := by funext i; exact Nat.zero_add i
        rw [e2, List.map_id]
      rw [e] at z
      exact z
    have eo := keyedOut_each (fun k => PyData.int (kf k)) ko er
    rw [dataLe_int] at eo
    have vo := vals_out eo
    have lo := ko.length (by rw [List.length_map, List.length_range])
    generalize sortVals (dataKind s'.heap ((List.range its.length).map fun k => PyData.int (kf k))) false itS its = out at *
    have J5 := Jn.lset (t' := s'.toks) (its' := []) (ys := []) upd_same gS (f := fun _ => #[]) rfl .nil (Nat.zero_le _)
    rw [upd_upd] at J5
    have ga5 : (s'.heap.update kS (Obj.mapSeq fun _ => (#[] : Array Value))).get? a = some { cls := .type "list", data := .seq ([] : List Value).toArray e1 } := (Heap.get?_update_other s'.heap _ hka).trans ga
    have q := PySem.IsL.update ga5 (fun _ => out.toArray)
    have J6 : Inv X pins σ (upd (upd (upd H0 a (.ext fun h => h.get? a = some (seqObj "list" #[] e1))) kS (.lst [])) a (.lst ((ordered kf xs.length).filterMap fun i => xs[i]?))) { s' with heap := endHeap s'.heap kS a out } :=
      J5.write (t' := s'.toks) (x := a) (e := a) (by rw [upd_ne hakS, upd_same]; exact trivial) (.inl rfl) (fun b u hb q => (Heap.get?_update_other _ _ (Ne.symm hb)).trans q) ⟨_, q⟩ ⟨by
        rw [len]
        have z := vo.length
        rw [lo] at z
        unfold ordered
        rw [len] at *
        exact Nat.le_trans (Nat.le_of_eq z) hz1, out, _, by unfold ordered; rw [len]; exact vo, q⟩
    refine ⟨rfl, hR a _ _ n0 ?_ upd_same J6⟩
    intro b o hb
    have h1 : b ≠ a := fun z => by rw [z, n0] at hb; cases hb
    rw [upd_ne h1]
    exact xk [] b o hb
/-- the call of a lambda of one parameter that changes nothing, from a built-in of one level more -/
theorem lam_run2 {N fr : List Str} {a : Str} {q : Str} {params : Arguments} {body : Expr} {scope : Scope} {cl : List (Str × Addr)} {pm ctv : Value} {f c' : Addr} {k : Nat} {tb : TE} {u : Value} {v yv : V} {ws : List (Option V)}
    (I : Inv X pins σ H s) (hf : s.heap.get? f = some (PySem.W.kla_obj "<lambda>" q params body scope cl pm c' ctv)) (hc : H c' = some (CodeO c' q)) (S : NScope N [a] fr scope) (C : CellsAt cl fr ws s.heap H)
    (hb : bindArgs (PySem.W.kla_fn "<lambda>" q params body scope cl pm (.ref c') ctv) ⟨[u], []⟩ = pure [(a, u)]) (hr : Room (k + 3) X.A)
    (hbody : ∀ (A : Around) (outer : List Env) (s : Shared) (H : Hp), Room k (A.deeper (envF (lnf q params scope cl c') f s.heap.objs.size)) → PE (ncx L2.CX0 X.prog X.w X.K X.mg X.base N (lnf q params scope cl c') f A outer s H L2.E0) body tb)
    (r : RelV v u) (ht : tb (startF N [v] ws) H fun y H' => y = yv ∧ H' = H) :
    wpAny (model X.prog X.w) X.A.in1.in1 (call (.ref f) [u]) (fun y s' => RelV yv y ∧ Inv X pins σ H s') (fun _ _ => False) s := by
  have e0 := I.env0.in1.in1
  obtain ⟨⟨oc, vs, t, hoc, hdc, hvc⟩, _, _⟩ := I.hok c' _ hc
  have rc : codeAny (model X.prog X.w) X.A.in1.in1 (.call (.ref f) ⟨[u], []⟩) (CR L2.CX0 X.stack X.prog X.w H s (fun y H' => y = yv ∧ H' = H) L2.E0) s := by
    refine PySem.W.kla_callFunE hr.in1.in1.depth hf rfl S.co S.gen rfl ⟨c', oc, vs, t, rfl, hoc, hdc, hvc⟩ ?_
    rw [hb]
    refine wpAny_pure (wpAny_newFunctionEnv S.nocell (fun y hy => ?_) (fun h₁ hns hsb => ⟨I.nolimit.fresh _ hsb, ?_⟩) S.kind)
    · rw [List.mem_singleton.mp hy]
      exact S.par a (by simp)
    show codeAny _ _ (.expr body (envF (lnf q params scope cl c') f s.heap.objs.size)) _ _
    have kp : ∀ b o, s.heap.get? b = some o → h₁.get? b = some o := fun b o e => hsb.extBut b o (Nat.ne_of_lt (Heap.lt_size e)) (Heap.get?_push_of_some _ e)
    have J : Inv (ncx L2.CX0 X.prog X.w X.K X.mg X.base N (lnf q params scope cl c') f X.A.in1.in1 X.stack s H L2.E0) [] (startF N [v] ws) H { s with heap := h₁, toks := s.toks + 1 } :=
      inv_startN (F := lnf q params scope cl c') S hr.in1.in1.hd e0 rfl (.cons r .nil) C hns kp
    refine PySem.W.kla_codeExpr (wpAny_mono ((hbody X.A.in1.in1 X.stack s H (hr.in1.in1.deeper _)).run [] _ _ H _ J ht) (fun y s' hq => ?_) fun e s' hq => hq)
    obtain ⟨w', H', J', rv, q⟩ := hq
    exact ⟨w', H', J'.os, J'.bare, J'.base, J'.hok, rv, q⟩
  refine wpAny_call (codeAny_mono rc fun r s' hq => ?_)
  cases r with
  | error e => exact False.elim hq
  | ok fl =>
    cases fl with
    | ret u =>
      obtain ⟨v', H', J', rv, e1, e2⟩ := I.after hq
      subst e1 e2
      exact ⟨rv, J'⟩
    | next => exact False.elim hq
    | brk => exact False.elim hq
    | cont => exact False.elim hq
end
/-- sorted(e, key=lambda a: body) -/
def tSorted (K : PySem.W.Frag) (T : List (Addr × Str)) (N : List Str) (js : List Nat) (ta tb : TE) : TE := fun σ H Q => ta σ H fun x H1 => Tabs T H1 ∧ ∃ (l : Addr) (xs : List V) (kf : Nat → Int), x = .ref l ∧ SqL K H1 l xs ∧
  (∀ H2, ExtN H1 H2 → Tabs T H2 → ∀ i v, xs[i]? = some v → tb (startF N [v] (js.map (slotAt σ))) H2 fun y H' => y = .int (kf i) ∧ H' = H2) ∧
  ∀ p H2, ExtN H1 H2 → Tabs T H2 → H2 p = some (.lst ((ordered kf xs.length).filterMap fun i => xs[i]?)) → Q (.ref p) H2
section
variable {X : Cx}
theorem pe_sortedLam {T : List (Addr × Str)} {N fr : List Str} {a : Str} {js : List Nat} {c P : Addr} {params : Arguments} {body e : Expr} {scope : Scope} {k : Nat} {ta tb : TE} {p lpos kpos pos : Pos} (hc : X.calm = true) (hr : Room (k + 3) X.A) (hg : Gl X "sorted") (hm : X.mg "sorted" = none)
    (he : PE X e ta) (TB : TabB X.base X.mg c P) (hcode : X.env.code = .ref c) (hmT : (P, X.env.qual ++ "<lambda>") ∈ T) (hu : ∀ p ∈ T, p.1 = P → p.2 = X.env.qual ++ "<lambda>") (hdef : defaultsOf params X.env = ([], []))
    (S : NScope N [a] fr scope) (hsc : ∀ y ∈ scope.names, y.2 = .free → X.env.scope.names.lookup y.1 = some .cell ∨ X.env.scope.names.lookup y.1 = some .free) (hfr : ∀ y ∈ fr, (y, NameKind.free) ∈ scope.names) (hjs : js.map (fun j => X.N[j]?) = fr.map some)
    (hb : ∀ (cl : List (Str × Addr)) (pm cv ctv u : Value), bindArgs (PySem.W.kla_fn "<lambda>" (X.env.qual ++ "<lambda>") params body scope cl pm cv ctv) ⟨[u], []⟩ = pure [(a, u)])
    (hbody : ∀ (f c' : Addr) (A : Around) (outer : List Env) (s : Shared) (H : Hp), Room k (A.deeper (envF (lnf (X.env.qual ++ "<lambda>") params scope (cloFrom X.env.cells scope.names []) c') f s.heap.objs.size)) →
      PE (ncx L2.CX0 X.prog X.w X.K X.mg X.base N (lnf (X.env.qual ++ "<lambda>") params scope (cloFrom X.env.cells scope.names []) c') f A outer s H L2.E0) body tb)
    (hst : backTo pos (starEach [e] X.env) = [(false, eval e X.env)] := by rfl) (hpl : (backTo pos (starEach [e] X.env)).any (·.1) = false := by rfl)
    (hall : (backToKw pos (keywordEach [⟨some "key", .Lambda params body scope lpos, kpos⟩] X.env)).all (·.1.isSome) = true := by rfl) (hnone : (backToKw pos (keywordEach [⟨some "key", .Lambda params body scope lpos, kpos⟩] X.env)).any (·.1.isNone) = false := by rfl)
    (hks : (backToKw pos (keywordEach [⟨some "key", .Lambda params body scope lpos, kpos⟩] X.env)).filterMap (·.1) = [Str.ofString "key"] := by rfl) :
    PE X (.Call (.Name "sorted" p) [e] [⟨some "key", .Lambda params body scope lpos, kpos⟩] pos) (tSorted X.K T N js ta tb) := by
  refine ⟨fun pins s σ H Q I h => ?_⟩
  refine wpAny_Call_Name_kw (ld_blt I hg hm (by rfl) ?_ (by decide) (by decide))
  refine PyProof.Rows.callWith_kw (e := e) (rest := []) ?_ hst hpl hall hnone
  rw [hst]
  refine Calls.spliced_cons (thn (he.run pins s σ H _ I h) fun u s1 ⟨x, H1, I1, r1, q1⟩ => ?_)
  refine Calls.spliced_nil ?_
  obtain ⟨hT, l, xs, kf, rfl, hl, turn, fin⟩ := q1
  obtain rfl : u = Value.ref l := r1
  show wpAny _ _ (evalAll [do let v ← eval (.Lambda params body scope lpos) X.env; standAt pos; pure v]) _ _ s1
  have hfree : ∀ y ∈ scope.names, y.2 = .free → ∃ c, X.env.cells.lookup y.1 = some c := fun y hy e => (hsc y hy e).elim (fun z => I1.ok.has _ (.inl z)) fun z => I1.ok.has _ (.inr z)
  refine wpAny_evalAll_cons (wpAny_bind (lam_make2 I1 TB hcode hmT hu hT hdef hfree fun f c' pm ctv H2 s2 I2 eN T2 hf hfn hfs hco => ?_))
  refine wpAny_bind (wpAny_standAt (wpAny_pure (wpAny_evalAll_nil ?_)))
  rw [hks]
  show wpAny _ _ (call (.builtin "sorted") [.ref l] [(Str.ofString "key", .ref f)]) _ _ s2
  have hl2 : SqL X.K H2 l xs := by
    rcases hl with (z | ⟨o, z⟩) | z
    · exact .inl (.inl (eN _ _ z fun ps q => by cases q))
    · exact .inl (.inr ⟨o, eN _ _ z fun ps q => by cases q⟩)
    · exact .inr z
  have pn : Inv X (pins ++ [(f, PySem.W.kla_obj "<lambda>" (X.env.qual ++ "<lambda>") params body scope (cloFrom X.env.cells scope.names []) pm c' ctv)]) σ H2 s2 := by
    refine I2.pins_of fun p hp => (List.mem_append.mp hp).elim (fun z => I2.pin p (List.mem_append_right _ z)) fun z => ?_
    rw [List.mem_singleton.mp z]
    refine ⟨hf, hfn, fun z => ?_, fun z => ?_, fun v z => by cases z⟩
    · obtain ⟨m, ⟨o, es, ep, ho, hd, _⟩, _⟩ := I2.loc
      have z : f = X.env.locals := z
      rw [← z, hf] at ho
      cases ho
      cases hd
    · refine hfs ?_
      rcases I2.ok.stk with e | ⟨e, he⟩
      · rw [e]; exact z
      · rw [e]
        unfold frs
        rw [List.filterMap_cons, he]
        exact List.mem_cons_of_mem _ z
  have cp : Caps X (cloFrom X.env.cells scope.names []) fr js := Caps.made I2.ok hsc hfr hjs
  refine sort_run_key (H0 := H2) (kf := kf) pn hl2 (by have := hr.un; omega) (fun i v u H3 s3 hv rv e3 J3 => ?_) fun p H3 s3 n3 e3 hp J3 => ?_
  · have hf3 := (J3.pin _ (List.mem_append_right _ (List.mem_append_right _ (List.mem_singleton.mpr rfl)))).1
    exact lam_run2 J3 hf3 (e3 _ _ hco) S (cells_of J3 cp) (hb _ _ _ _ _) hr (fun A outer s H hr => hbody f c' A outer s H hr) rv (turn H3 (eN.trans (ExtN.of e3)) (T2.ext e3) i v hv)
  · exact ⟨.ref p, H3, J3.unpinned, rfl, fin p H3 (eN.trans (ExtN.of e3)) (T2.ext e3) hp⟩
end
end SortL
end

section
set_option linter.all false
set_option maxHeartbeats 4000000
namespace HM
/-- the insertion, by any order's number -/
def insH (h : Nat → Nat) (i : Nat) : List Nat → List Nat
  | [] => [i]
  | x :: rest => if h x < h i then i :: x :: rest else x :: insH h i rest
theorem insH_is (key i : Nat) : ∀ l : List Nat, Kp423.insertByHash key i l = insH (Kp423.hashOf key) i l
  | [] => rfl
  | x :: rest => by
    unfold Kp423.insertByHash insH
    rw [insH_is key i rest]
theorem insFold_is (key : Nat) : ∀ (l m : List Nat), l.foldl (fun (l : List Nat) (i : Nat) => Kp423.insertByHash key i l) m = l.foldl (fun (l : List Nat) (i : Nat) => insH (Kp423.hashOf key) i l) m
  | [], _ => rfl
  | i :: r, m => by
    rw [List.foldl_cons, List.foldl_cons, insH_is]
    exact insFold_is key r _
/-- minus the number -/
def gN (h : Nat → Nat) (x : Nat) : Int := -(h x : Int)
def gH (key : Nat) (x : Nat) : Int := -(Kp423.hashOf key x : Int)
section
variable {h : Nat → Nat}
theorem ins_mem {i x : Nat} : ∀ {l : List Nat}, x ∈ insH h i l → x = i ∨ x ∈ l
  | [], m => .inl (List.mem_singleton.mp m)
  | y :: r, m => by
    unfold insH at m
    split at m
    · rcases List.mem_cons.mp m with m | m
      · exact .inl m
      · exact .inr m
    · rcases List.mem_cons.mp m with m | m
      · exact .inr (by rw [m]; exact List.mem_cons_self ..)
      · rcases ins_mem m with m | m
        · exact .inl m
        · exact .inr (List.mem_cons_of_mem _ m)
theorem ins_srt {i : Nat} : ∀ {l : List Nat}, l.Pairwise (fun x y => gN h x ≤ gN h y) → (insH h i l).Pairwise (fun x y => gN h x ≤ gN h y)
  | [], _ => List.pairwise_singleton _ _
  | y :: r, p => by
    unfold insH
    have h1 := List.pairwise_cons.mp p
    split
    · rename_i q
      refine List.pairwise_cons.mpr ⟨fun z hz => ?_, p⟩
      have e : gN h i ≤ gN h y := by unfold gN; omega
      rcases List.mem_cons.mp hz with hz | hz
      · rw [hz]; exact e
      · exact Int.le_trans e (h1.1 z hz)
    · rename_i q
      refine List.pairwise_cons.mpr ⟨fun z hz => ?_, ins_srt h1.2⟩
      rcases ins_mem hz with hz | hz
      · rw [hz]; unfold gN; omega
      · exact h1.1 z hz
theorem ins_cls {i : Nat} (z : Int) : ∀ {l : List Nat}, l.Pairwise (fun x y => gN h x ≤ gN h y) → (insH h i l).filter (fun x => gN h x == z) = l.filter (fun x => gN h x == z) ++ (if gN h i == z then [i] else [])
  | [], _ => by
    unfold insH
    rw [List.filter_cons, List.filter_nil, List.nil_append]
  | y :: r, p => by
    unfold insH
    have h1 := List.pairwise_cons.mp p
    split
    · rename_i q
      rw [List.filter_cons]
      by_cases e : gN h i = z
      · have n : (y :: r).filter (fun x => gN h x == z) = [] := by
          refine List.filter_eq_nil_iff.mpr fun x hx => ?_
          have : gN h y ≤ gN h x := by
            rcases List.mem_cons.mp hx with hx | hx
            · rw [hx]; exact Int.le_refl _
            · exact h1.1 x hx
          have q2 : gN h i < gN h y := by unfold gN; omega
          simp only [beq_iff_eq]
          omega
        rw [n, if_pos (by simp [e])]
        simp [e]
      · simp [e]
    · rw [List.filter_cons, List.filter_cons, ins_cls z h1.2]
      split
      · rw [List.cons_append]
      · exact Eq.refl _
theorem fold_srt : ∀ (l m : List Nat), m.Pairwise (fun x y => gN h x ≤ gN h y) → (l.foldl (fun (l : List Nat) (i : Nat) => insH h i l) m).Pairwise (fun x y => gN h x ≤ gN h y) ∧
    ∀ z, (l.foldl (fun (l : List Nat) (i : Nat) => insH h i l) m).filter (fun x => gN h x == z) = m.filter (fun x => gN h x == z) ++ l.filter (fun x => gN h x == z)
  | [], m, p => ⟨p, fun z => by rw [List.filter_nil, List.append_nil]; rfl⟩
  | i :: r, m, p => by
    obtain ⟨a, b⟩ := fold_srt r _ (ins_srt (i := i) p)
    refine ⟨a, fun z => ?_⟩
    rw [List.foldl_cons, b z, ins_cls z p, List.filter_cons, List.append_assoc]
    congr 1
    split
    · rw [List.singleton_append]
    · rw [List.nil_append]
theorem rank_sort (l : List Nat) : l.foldl (fun (l : List Nat) (i : Nat) => insH h i l) [] = l.mergeSort (fun x y => decide (gN h x ≤ gN h y)) := by
  obtain ⟨a, b⟩ := fold_srt (h := h) l [] List.Pairwise.nil
  generalize l.foldl (fun (l : List Nat) (i : Nat) => insH h i l) [] = m at *
  let g : Int → Int := fun x => gN h x.toNat
  have e1 : m.map (fun x : Nat => (x : Int)) = (l.map (fun x : Nat => (x : Int))).mergeSort (fun x y => decide (g x ≤ g y)) := by
    refine PySem.W.Srt.key g ?_ fun z => ?_
    · rw [List.pairwise_map]
      exact a
    · have z1 := b z
      rw [List.filter_nil, List.nil_append] at z1
      rw [List.filter_map, List.filter_map]
      show (m.filter fun x => gN h x == z).map _ = (l.filter fun x => gN h x == z).map _
      rw [z1]
  have e2 := List.map_mergeSort (r := fun x y => decide (gN h x ≤ gN h y)) (s := fun x y => decide (g x ≤ g y)) (f := fun x : Nat => (x : Int)) (l := l) (fun x _ y _ => rfl)
  rw [← e2] at e1
  exact (List.map_inj_right (fun x y h => by exact Int.ofNat.inj h)).mp e1
theorem rank_outN {β : Type} (l : List Nat) (f : Nat → β) :
    (((List.range l.length).mergeSort fun i j => decide (gN h (l.getD i 0) ≤ gN h (l.getD j 0))).filterMap fun i => (l.map f)[i]?) = (l.foldl (fun (l : List Nat) (i : Nat) => insH h i l) []).map f := by
  rw [rank_sort]
  have e : ((List.range l.length).mergeSort fun i j => decide (gN h (l.getD i 0) ≤ gN h (l.getD j 0))).map (fun i => l.getD i 0) = l.mergeSort (fun x y => decide (gN h x ≤ gN h y)) := by
    rw [List.map_mergeSort (s := fun x y => decide (gN h x ≤ gN h y)) (fun x _ y _ => rfl)]
    congr 1
    refine List.ext_getElem (by simp) fun i h1 h2 => ?_
    simp at h1
    simp [h1]
  rw [← e, List.map_map]
  have m : ∀ i ∈ ((List.range l.length).mergeSort fun i j => decide (gN h (l.getD i 0) ≤ gN h (l.getD j 0))), i < l.length := fun i hi => List.mem_range.mp (List.mem_mergeSort.mp hi)
  generalize ((List.range l.length).mergeSort fun i j => decide (gN h (l.getD i 0) ≤ gN h (l.getD j 0))) = js at m
  induction js with
  | nil => rfl
  | cons j r ih =>
    have hj := m j (List.mem_cons_self ..)
    rw [List.filterMap_cons, List.map_cons, ih fun i hi => m i (List.mem_cons_of_mem _ hi)]
    simp [hj]
end
theorem rank_out {β : Type} (key : Nat) (l : List Nat) (f : Nat → β) :
    (((List.range l.length).mergeSort fun i j => decide (gH key (l.getD i 0) ≤ gH key (l.getD j 0))).filterMap fun i => (l.map f)[i]?) = (l.foldl (fun (l : List Nat) (i : Nat) => Kp423.insertByHash key i l) []).map f := by
  rw [insFold_is]
  have e : gH key = gN (Kp423.hashOf key) := by unfold gH gN; exact Eq.refl _
  rw [e]
  exact rank_outN l f
theorem insert_mem {key i x : Nat} {l : List Nat} (m : x ∈ Kp423.insertByHash key i l) : x = i ∨ x ∈ l := by
  rw [insH_is] at m
  exact ins_mem m
end HM
end

section
set_option Elab.async false
set_option linter.all false
set_option maxRecDepth 100000
set_option maxHeartbeats 4000000
namespace HC
open PySem PySem.Spec PyProof.Rows L2 LamX
open Kp423 (Client Backend RemoteCall AttemptState setBackend setCall setAttempt backendAt callAt attemptAt)

/-! ### the reader: goes on as long as the next word asks nothing -/
local macro_rules | `(tactic| walk_at "fld") => `(tactic| first
  | refine r_cl_seed ‹_› ‹_› ?_
  | refine r_cl_balancer ‹_› ‹_› ?_
  | refine r_cl_policy ‹_› ‹_› ?_
  | refine r_cl_now ‹_› ‹_› ?_
  | refine r_cl_tokens ‹_› ‹_› ?_
  | refine r_cl_pointer ‹_› ‹_› ?_
  | refine r_cl_backends ‹_› ‹_› ?_
  | refine r_cl_calls ‹_› ‹_› ?_
  | refine r_cl_attempts ‹_› ‹_› ?_
  | refine r_cl_retries ‹_› ‹_› ?_
  | refine r_cl_hedges ‹_› ‹_› ?_
  | refine r_cl_transparents ‹_› ‹_› ?_
  | refine r_po_max_attempts ‹_› ‹_› ?_
  | refine r_po_initial_backoff ‹_› ‹_› ?_
  | refine r_po_max_backoff ‹_› ‹_› ?_
  | refine r_po_multiplier ‹_› ‹_› ?_
  | refine r_po_hedge_delay ‹_› ‹_› ?_
  | refine r_po_threshold ‹_› ‹_› ?_
  | refine r_po_ejection_time ‹_› ‹_› ?_
  | refine r_po_ejection_percent ‹_› ‹_› ?_
  | refine r_po_max_tokens ‹_› ‹_› ?_
  | refine r_po_refund ‹_› ‹_› ?_
  | refine r_po_retryable ‹_› ‹_› ?_
  | refine r_bk_number ‹_› ‹_› (by first | assumption | omega) ?_
  | refine r_bk_weight ‹_› ‹_› (by first | assumption | omega) ?_
  | refine r_bk_active ‹_› ‹_› (by first | assumption | omega) ?_
  | refine r_bk_current ‹_› ‹_› (by first | assumption | omega) ?_
  | refine r_bk_outstanding ‹_› ‹_› (by first | assumption | omega) ?_
  | refine r_bk_failures ‹_› ‹_› (by first | assumption | omega) ?_
  | refine r_bk_ejections ‹_› ‹_› (by first | assumption | omega) ?_
  | refine r_bk_ejected_until ‹_› ‹_› (by first | assumption | omega) ?_
  | refine r_ca_number ‹_› ‹_› (by first | assumption | omega) ?_
  | refine r_ca_deadline ‹_› ‹_› (by first | assumption | omega) ?_
  | refine r_ca_idempotent ‹_› ‹_› (by first | assumption | omega) ?_
  | refine r_ca_key ‹_› ‹_› (by first | assumption | omega) ?_
  | refine r_ca_status ‹_› ‹_› (by first | assumption | omega) ?_
  | refine r_ca_counted ‹_› ‹_› (by first | assumption | omega) ?_
  | refine r_ca_retries ‹_› ‹_› (by first | assumption | omega) ?_
  | refine r_ca_transparent ‹_› ‹_› (by first | assumption | omega) ?_
  | refine r_ca_retry_at ‹_› ‹_› (by first | assumption | omega) ?_
  | refine r_ca_hedge_at ‹_› ‹_› (by first | assumption | omega) ?_
  | refine r_ca_finished_at ‹_› ‹_› (by first | assumption | omega) ?_
  | refine r_ca_attempts ‹_› ‹_› (by first | assumption | omega) ?_
  | refine r_at_number ‹_› ‹_› (by first | assumption | omega) ?_
  | refine r_at_call ‹_› ‹_› (by first | assumption | omega) ?_
  | refine r_at_backend ‹_› ‹_› (by first | assumption | omega) ?_
  | refine r_at_place ‹_› ‹_› (by first | assumption | omega) ?_
  | refine r_at_started_at ‹_› ‹_› (by first | assumption | omega) ?_
  | refine r_at_state ‹_› ‹_› (by first | assumption | omega) ?_
  | refine r_at_status ‹_› ‹_› (by first | assumption | omega) ?_
  | refine a_cl_retries ‹_› ‹_› ?_
  | refine a_cl_hedges ‹_› ‹_› ?_
  | refine a_cl_transparents ‹_› ‹_› ?_
  | refine a_bk_outstanding ‹_› ‹_› (by first | assumption | omega) ?_
  | refine a_bk_failures ‹_› ‹_› (by first | assumption | omega) ?_
  | refine a_bk_ejections ‹_› ‹_› (by first | assumption | omega) ?_
  | refine a_bk_current ‹_› ‹_› (by first | assumption | omega) ?_
  | refine a_ca_counted ‹_› ‹_› (by first | assumption | omega) ?_
  | refine a_ca_retries ‹_› ‹_› (by first | assumption | omega) ?_)
local macro_rules | `(tactic| walk_at "rd1") => `(tactic| first
  | refine i_ret ?_ | refine i_seqA ?_ | refine i_seqD ?_ | refine i_seqF ?_ | refine i_seqG ?_ | refine i_next ?_ | refine i_var rfl ?_ | refine i_c ?_ | refine i_op ?_ | refine i_aug ?_ | refine i_for ?_ | refine i_make ?_ | refine i_bm ?_ | refine i_rAdd ?_ | refine i_rSub ?_ | refine i_rI0 ?_ | refine i_rI (by with_unfolding_all (first | decide | exact ⟨by decide, by decide⟩ | exact Or.inr ⟨by decide, by decide⟩ | exact Or.inl ⟨by decide, by decide⟩)) ?_ | refine i_min2 ?_ | refine i_max2 ?_ | refine i_eqI ?_ | refine i_neI ?_ | refine i_chain ?_ | refine i_ex ?_ | refine i_test ?_ | refine i_tB ?_ | refine i_ifs ?_ | refine i_if ?_
  | refine i_and ?_ | refine i_or ?_ | refine i_not ?_ | refine i_andV ?_ | refine i_orV ?_ | refine i_notV ?_ | refine i_fld ?_ | refine i_sfld ?_ | refine i_drop ?_ | refine i_asg ?_ | refine i_gname ?_ | refine i_nil ?_ | refine i_cons ?_ | refine i_call ?_ | refine i_cb ?_ | refine i_lc ?_ | refine i_sl ?_ | refine i_part ?_ | refine i_nopart ?_ | refine i_exI ?_ | refine i_isN ?_ | walk_at "fld")
local macro_rules | `(tactic| walk_at "rd") => `(tactic| ((try dsimp only [cxOf, Cx.nox]); repeat (with_reducible (walk_at "rd1"))))
section
variable {P : Program} {w : World} {K : PySem.W.Frag} {mg : Str → Option Value} {base : Heap}
/-! ### ranges and statuses -/
def spWithin : Sp := fun vs H Q _ => ∃ a b c : Int, vs = [.int a, .int b, .int c] ∧ Q (.bl (decide (b ≤ a ∧ a ≤ c))) H
theorem sc_within : FnScope ["number", "least", "greatest"] ["number", "least", "greatest"] (defScope s_within) := ⟨rfl, rfl, rfl, by decide +kernel, rfl, by decide +kernel, by decide +kernel⟩
theorem ok_within (X : Tx K mg) : GF P w K mg base 1 (He.ga K "within") ["number", "least", "greatest"] spWithin := by
  refine GF.of X.d_within sc_within (fun vs H Q E h => ?_) (fun _ _ _ _ _ _ us hl => match us, hl with | [_, _, _], _ => rfl) (fun cdv A outer s H vs Q E hr h => ?_)
  · obtain ⟨a, b, c, rfl, _⟩ := h; rfl
  obtain ⟨a, b, c, rfl, h⟩ := h
  refine ⟨_, PSs.nox (pss_one (ps_ret (pe_chain op_le op_le (pv 1) (pv 0) (pv 2)))), ?_⟩
  walk_at "rd"
  refine ite_dec (fun h1 => ?_) (fun h1 => ?_)
  · walk_at "rd"
    simpa [h1] using h
  · simpa [h1] using h
def isStatus (n : Int) : Bool := decide (0 ≤ n ∧ n ≤ 16) || decide (n = 100)
def spIsStatus : Sp := fun vs H Q _ => ∃ a : Int, vs = [.int a] ∧ Q (.bl (isStatus a)) H
theorem sc_is_status : FnScope ["number"] ["number"] (defScope s_is_status) := ⟨rfl, rfl, rfl, by decide +kernel, rfl, by decide +kernel, by decide +kernel⟩
theorem ok_is_status (X : Tx K mg) : GF P w K mg base 2 (He.ga K "is_status") ["number"] spIsStatus := by
  refine GF.of X.d_is_status sc_is_status (fun vs H Q E h => ?_) (fun _ _ _ _ _ _ us hl => match us, hl with | [_], _ => rfl) (fun cdv A outer s H vs Q E hr h => ?_)
  · obtain ⟨a, rfl, _⟩ := h; rfl
  obtain ⟨a, rfl, h⟩ := h
  refine ⟨_, PSs.nox (pss_one (ps_ret (pe_or (pe_fn (ok_within X) X.g_within hr (pa_cons (pv 0) (pa_cons pe_int (pa_cons pe_int pa_nil)))) (pe_one (pe_cmpR op_eq (pv 0) (pe_gi X.i_REFUSED) (nomark _)))))), ?_⟩
  walk_at "rd"
  refine ⟨_, _, _, rfl, ?_⟩
  walk_at "rd"
  unfold isStatus at h
  refine ite_dec (fun h1 => ?_) (fun h1 => ?_)
  · simpa [h1] using h
  · walk_at "rd"
    simpa [h1] using h
end

section
variable {P : Program} {w : World} {K : PySem.W.Frag} {mg : Str → Option Value} {base : Heap}
/-! ### numbers -/
def mixN (a b : Nat) : Nat := (a ^^^ b) * 16777619 % 4294967296
def sp_mixed : Sp := fun vs H Q _ => ∃ a b : Nat, vs = [nV a, nV b] ∧ Q (nV (mixN a b)) H
theorem sc_mixed : FnScope ["value", "byte"] ["value", "byte"] (defScope s_mixed) := ⟨rfl, rfl, rfl, by decide +kernel, rfl, by decide +kernel, by decide +kernel⟩
theorem ok_mixed (X : Tx K mg) : GF P w K mg base 1 (He.ga K "mixed") ["value", "byte"] sp_mixed := by
  refine GF.of X.d_mixed sc_mixed (fun vs H Q E h => ?_) (fun _ _ _ _ _ _ us hl => match us, hl with | [_, _], _ => rfl) (fun cdv A outer s H vs Q E hr h => ?_)
  · obtain ⟨a, b, rfl, _⟩ := h; rfl
  obtain ⟨a, b, rfl, h⟩ := h
  refine ⟨_, PSs.nox (pss_one (ps_ret (pe_op op_mod (pe_op op_mul (pe_op op_xor (pv 0) (pv 1)) pe_int) pe_int))), ?_⟩
  walk_at "rd"
  rw [Bits.bitXor_pp (Int.natCast_nonneg a) (Int.natCast_nonneg b)]
  have e : ((((a : Int).toNat ^^^ (b : Int).toNat : Nat) : Int) * 16777619 % 4294967296) = ((mixN a b : Nat) : Int) := by
    unfold mixN
    rw [Int.toNat_natCast, Int.toNat_natCast]
    omega
  rw [e]
  exact h
def hIt : Nat → Nat × Nat → Nat × Nat
  | 0, s => s
  | k + 1, s => let t := hIt k s; (mixN t.1 (t.2 % 256), t.2 / 256)
theorem hIt4 (h0 key : Nat) : (hIt 4 (h0, key)).1 = mixN (mixN (mixN (mixN h0 (key % 256)) (key / 256 % 256)) (key / 256 / 256 % 256)) (key / 256 / 256 / 256 % 256) := rfl
theorem fnv_mix (l : List Nat) : Kp423.fnv l = l.foldl mixN 2166136261 := rfl
theorem hash_is (key b : Nat) : mixN (hIt 4 (2166136261, key)).1 b = Kp423.hashOf key b := by
  have e1 : key / 256 / 256 = key / 65536 := by omega
  have e2 : key / 65536 / 256 = key / 16777216 := by omega
  have e3 : Kp423.hashOf key b = Kp423.fnv [key % 256, key / 256 % 256, key / 65536 % 256, key / 16777216 % 256, b] := by unfold Kp423.hashOf; exact Eq.refl _
  rw [hIt4, e1, e2, e3, fnv_mix, List.foldl_cons, List.foldl_cons, List.foldl_cons, List.foldl_cons, List.foldl_cons, List.foldl_nil]
def sp_key_hash : Sp := fun vs H Q _ => ∃ a b : Nat, vs = [nV a, nV b] ∧ Q (nV (Kp423.hashOf a b)) H
theorem sc_key_hash : FnScope ["key", "number", "value", "rest", "step"] ["key", "number"] (defScope s_key_hash) := ⟨rfl, rfl, rfl, by decide +kernel, rfl, by decide +kernel, by decide +kernel⟩
theorem ok_key_hash (X : Tx K mg) : GF P w K mg base 2 (He.ga K "key_hash") ["key", "number"] sp_key_hash := by
  refine GF.of X.d_key_hash sc_key_hash (fun vs H Q E h => ?_) (fun _ _ _ _ _ _ us hl => match us, hl with | [_, _], _ => rfl) (fun cdv A outer s H vs Q E hr h => ?_)
  · obtain ⟨a, b, rfl, _⟩ := h; rfl
  obtain ⟨a, b, rfl, h⟩ := h
  refine ⟨_, PSs.nox (pss_cons (ps_set (i := 2) sc_key_hash.nd rfl (Or.inl rfl) pe_int) (pss_cons (ps_set (i := 3) sc_key_hash.nd rfl (Or.inl rfl) (pv 0)) (pss_cons (ps_for PassesOwn.never rfl (pi_range1 rfl X.b_range (pa_cons pe_int pa_nil)) (pg_name (i := 4) sc_key_hash.nd rfl (Or.inl rfl)) (pss_cons (ps_set (i := 2) sc_key_hash.nd rfl (Or.inl rfl) (pe_fn (ok_mixed X) X.g_mixed (hr.mono (by decide)) (pa_cons (pv 2) (pa_cons (pe_op op_and (pv 3) pe_int) pa_nil)))) (pss_one (ps_set (i := 3) sc_key_hash.nd rfl (Or.inl rfl) (pe_op op_shr (pv 3) pe_int))))) (pss_one (ps_ret (pe_fn (ok_mixed X) X.g_mixed (hr.mono (by decide)) (pa_cons (pv 2) (pa_cons (pv 1) pa_nil)))))))), ?_⟩
  walk_at "rd"
  refine ⟨4, rfl, by decide, by decide, for_range (lo := 0) (n := 4) (fun k σ H' => H' = H ∧ ∃ x : Option V, σ = [some (nV a), some (nV b), some (nV (hIt k (2166136261, a)).1), some (nV (hIt k (2166136261, a)).2), x]) ⟨rfl, none, rfl⟩ ?_ ?_⟩
  · rintro k σ H' hk ⟨rfl, x, rfl⟩
    walk_at "rd"
    refine ⟨_, _, rfl, ?_⟩
    walk_at "rd"
    refine ⟨rfl, some (V.int (0 + k)), ?_⟩
    have e : ((hIt k (2166136261, a)).2 : Int).toNat &&& Int.toNat 255 = (hIt k (2166136261, a)).2 % 256 := Nat.and_two_pow_sub_one_eq_mod _ 8
    have e2 : ((hIt k (2166136261, a)).2 : Int) / 2 ^ Int.toNat 8 = (((hIt k (2166136261, a)).2 / 256 : Nat) : Int) := by
      have z3 : ((2 : Int) ^ Int.toNat 8) = 256 := by decide
      rw [z3]
      omega
    rw [e, e2]
    rfl
  · rintro σ H' ⟨rfl, x, rfl⟩
    walk_at "rd"
    refine ⟨_, _, rfl, ?_⟩
    rw [hash_is]
    exact h
end

section
variable {P : Program} {w : World} {K : PySem.W.Frag} {mg : Str → Option Value} {base : Heap}
/-! ### backends -/
theorem if_f {A B : Prop} (h : B) : if false = true then A else B := h
theorem if_t {A B : Prop} (h : A) : if true = true then A else B := h
def avail (c : Client) (i : Nat) : Bool := (backendAt c i).active && !Kp423.isEjected c i
def sp_is_ejected (K : PySem.W.Frag) : Sp := fun vs H Q _ => ∃ (T : List (Addr × Str)) (L : Lo) (c : Client) (i : Nat), vs = [.ref L.cl, .ref (L.bk i)] ∧ St K T L c H ∧ i < c.backends.length ∧ Q (.bl (Kp423.isEjected c i)) H
theorem sc_is_ejected : FnScope ["client", "backend"] ["client", "backend"] (defScope s_is_ejected) := ⟨rfl, rfl, rfl, by decide +kernel, rfl, by decide +kernel, by decide +kernel⟩
theorem ok_is_ejected (X : Tx K mg) : GF P w K mg base 1 (He.ga K "is_ejected") ["client", "backend"] (sp_is_ejected K) := by
  refine GF.of X.d_is_ejected sc_is_ejected (fun vs H Q E h => ?_) (fun _ _ _ _ _ _ us hl => match us, hl with | [_, _], _ => rfl) (fun cdv A outer s H vs Q E hr h => ?_)
  · obtain ⟨T, L, c, i, rfl, _⟩ := h; rfl
  obtain ⟨T, L, c, i, rfl, h⟩ := h
  refine ⟨_, PSs.nox (pss_one (ps_ret (pe_and (pe_cmpR op_notN (pe_fld (pv 1) rfl) pe_non (nomark _)) (pe_one (pe_cmpR op_lt (pe_fld (pv 0) rfl) (pe_fld (pv 1) rfl) (nomark _)))))), ?_⟩
  obtain ⟨S, hi, h⟩ := h
  unfold Kp423.isEjected at h
  walk_at "rd"
  cases eb : (backendAt c i).ejectedUntil with
  | none =>
    rw [eb] at h
    refine if_f ?_
    exact h
  | some t =>
    rw [eb] at h
    refine if_t ?_
    walk_at "rd"
    rw [eb]
    refine i_rI0 (i := (c.now : Int)) (j := (t : Int)) ?_
    have e : decide ((c.now : Int) < (t : Int)) = decide (c.now < t) := decide_eq_decide.mpr (by omega)
    rw [e]
    exact h
def sp_is_available (K : PySem.W.Frag) : Sp := fun vs H Q _ => ∃ (T : List (Addr × Str)) (L : Lo) (c : Client) (i : Nat), vs = [.ref L.cl, .ref (L.bk i)] ∧ St K T L c H ∧ i < c.backends.length ∧ Q (.bl (avail c i)) H
theorem sc_is_available : FnScope ["client", "backend"] ["client", "backend"] (defScope s_is_available) := ⟨rfl, rfl, rfl, by decide +kernel, rfl, by decide +kernel, by decide +kernel⟩
theorem ok_is_available (X : Tx K mg) : GF P w K mg base 2 (He.ga K "is_available") ["client", "backend"] (sp_is_available K) := by
  refine GF.of X.d_is_available sc_is_available (fun vs H Q E h => ?_) (fun _ _ _ _ _ _ us hl => match us, hl with | [_, _], _ => rfl) (fun cdv A outer s H vs Q E hr h => ?_)
  · obtain ⟨T, L, c, i, rfl, _⟩ := h; rfl
  obtain ⟨T, L, c, i, rfl, h⟩ := h
  refine ⟨_, PSs.nox (pss_one (ps_ret (pe_and (pe_fld (pv 1) rfl) (pe_one (pe_not (pe_fn (ok_is_ejected X) X.g_is_ejected (hr.mono (by decide)) (pa_cons (pv 0) (pa_cons (pv 1) pa_nil)))))))), ?_⟩
  obtain ⟨S, hi, h⟩ := h
  walk_at "rd"
  unfold avail at h
  refine ite_bool (fun h1 => ?_) (fun h1 => ?_)
  · walk_at "rd"
    refine ⟨T, L, c, i, rfl, S, hi, ?_⟩
    walk_at "rd"
    rw [h1] at h
    exact h
  · rw [h1] at h
    exact h
end

section
variable {P : Program} {w : World} {K : PySem.W.Frag} {mg : Str → Option Value} {base : Heap}
/-! ### lists of backends, of attempts -/
def sp_active_backends (K : PySem.W.Frag) : Sp := fun vs H Q _ => ∃ (T : List (Addr × Str)) (L : Lo) (c : Client), vs = [.ref L.cl] ∧ St K T L c H ∧ Sz c ∧ ∀ D, H D = none → Q (.ref D) (upd H D (.lst ((Kp423.activeBackends c).map fun i => .ref (L.bk i))))
theorem sc_active_backends : FnScope ["client", "backend"] ["client"] (defScope s_active_backends) := ⟨rfl, rfl, rfl, by decide +kernel, rfl, by decide +kernel, by decide +kernel⟩
theorem ok_active_backends (X : Tx K mg) : GF P w K mg base 1 (He.ga K "active_backends") ["client"] (sp_active_backends K) := by
  refine GF.of X.d_active_backends sc_active_backends (fun vs H Q E h => ?_) (fun _ _ _ _ _ _ us hl => match us, hl with | [_], _ => rfl) (fun cdv A outer s H vs Q E hr h => ?_)
  · obtain ⟨T, L, c, rfl, _⟩ := h; rfl
  obtain ⟨T, L, c, rfl, h⟩ := h
  refine ⟨_, PSs.nox (pss_one (ps_ret (pe_lc (own := [("backend", 1)]) (g := gName 1) (tt := (tB (tFld K (tVar 1) "active"))) (te := (tVar 1)) (by rfl) sc_active_backends.nd (pi_list (pe_fld (pv 0) rfl)) (blkOk_by (own := [("backend", 1)]) (N := ["client", "backend"]) (sc := defScope s_active_backends) (by decide +kernel)) (fun _ _ _ _ _ => pg_name (i := 1) sc_active_backends.nd rfl (Or.inl rfl)) (fun _ _ _ _ _ => (pts_one (pt_val (pe_fld (pv 1) rfl)))) (fun _ _ _ _ _ => (pv 1))))), ?_⟩
  obtain ⟨S, hz, h⟩ := h
  have hb := hz.bs
  walk_at "rd"
  refine lc_part (js := List.range c.backends.length) (A := fun i => .ref (L.bk i)) (y := fun i => .ref (L.bk i)) (p := fun i => (backendAt c i).active) S.lsB (by rw [List.length_range]; exact small_size (by omega)) (fun v => rfl) (fun j hj D ys Q' hD q => ?_) (fun j hj hp D ys Q' hD q => ?_) h
  · have hj2 := List.mem_range.mp hj
    have S2 := S.new (u := .lst ys) hD
    walk_at "rd"
    exact q
  · walk_at "rd"
    exact q
def sp_running_among (K : PySem.W.Frag) : Sp := fun vs H Q _ => ∃ (T : List (Addr × Str)) (L : Lo) (c : Client) (a : Addr) (js : List Nat), vs = [.ref a] ∧ St K T L c H ∧ SqL K H a (js.map fun j => .ref (L.att j)) ∧ js.length ≤ 1000000 ∧ (∀ j ∈ js, j < c.attempts.length) ∧
  ∀ D, H D = none → Q (.ref D) (upd H D (.lst ((js.filter fun j => Kp423.isRunning (attemptAt c j)).map fun j => .ref (L.att j))))
theorem stN_run (t : Kp423.Attempt) : decide (((stN t.state : Nat) : Int) = 0) = Kp423.isRunning t := by
  unfold Kp423.isRunning
  cases t.state <;> rfl
theorem sc_running_among : FnScope ["attempts", "attempt"] ["attempts"] (defScope s_running_among) := ⟨rfl, rfl, rfl, by decide +kernel, rfl, by decide +kernel, by decide +kernel⟩
theorem ok_running_among (X : Tx K mg) : GF P w K mg base 1 (He.ga K "running_among") ["attempts"] (sp_running_among K) := by
  refine GF.of X.d_running_among sc_running_among (fun vs H Q E h => ?_) (fun _ _ _ _ _ _ us hl => match us, hl with | [_], _ => rfl) (fun cdv A outer s H vs Q E hr h => ?_)
  · obtain ⟨T, L, c, a, js, rfl, _⟩ := h; rfl
  obtain ⟨T, L, c, a, js, rfl, h⟩ := h
  refine ⟨_, PSs.nox (pss_one (ps_ret (pe_lc (own := [("attempt", 1)]) (g := gName 1) (tt := (tTest (tOp rEq (tFld K (tVar 1) "state") (tC (.int 0))))) (te := (tVar 1)) (by rfl) sc_running_among.nd (pi_list (pv 0)) (blkOk_by (own := [("attempt", 1)]) (N := ["attempts", "attempt"]) (sc := defScope s_running_among) (by decide +kernel)) (fun _ _ _ _ _ => pg_name (i := 1) sc_running_among.nd rfl (Or.inl rfl)) (fun _ _ _ _ _ => (pts_one (pt_cmpR op_eq (pe_fld (pv 1) rfl) (pe_gi X.i_RUNNING) (nomark _)))) (fun _ _ _ _ _ => (pv 1))))), ?_⟩
  obtain ⟨S, hl, hz, hj, h⟩ := h
  walk_at "rd"
  refine lc_part (js := js) (A := fun j => .ref (L.att j)) (y := fun j => .ref (L.att j)) (p := fun j => Kp423.isRunning (attemptAt c j)) hl (small_size hz) (fun v => rfl) (fun j hjm D ys Q' hD q => ?_) (fun j hjm hp D ys Q' hD q => ?_) h
  · have hj2 := hj j hjm
    have S2 := S.new (u := .lst ys) hD
    walk_at "rd"
    rw [stN_run]
    exact q
  · walk_at "rd"
    exact q
theorem avail_all (c : Client) : (List.range c.backends.length).filter (avail c) = Kp423.availableBackends c := by
  unfold Kp423.availableBackends Kp423.activeBackends
  rw [List.filter_filter]
  exact List.filter_congr fun i _ => Bool.and_comm _ _
def sp_available_backends (K : PySem.W.Frag) : Sp := fun vs H Q _ => ∃ (T : List (Addr × Str)) (L : Lo) (c : Client), vs = [.ref L.cl] ∧ St K T L c H ∧ Sz c ∧ ∀ D, H D = none → Q (.ref D) (upd H D (.lst ((Kp423.availableBackends c).map fun i => .ref (L.bk i))))
theorem sc_available_backends : FnScope ["client", "backend"] ["client"] (defScope s_available_backends) := ⟨rfl, rfl, rfl, by decide +kernel, rfl, by decide +kernel, by decide +kernel⟩
theorem ok_available_backends (X : Tx K mg) : GF P w K mg base 3 (He.ga K "available_backends") ["client"] (sp_available_backends K) := by
  refine GF.of X.d_available_backends sc_available_backends (fun vs H Q E h => ?_) (fun _ _ _ _ _ _ us hl => match us, hl with | [_], _ => rfl) (fun cdv A outer s H vs Q E hr h => ?_)
  · obtain ⟨T, L, c, rfl, _⟩ := h; rfl
  obtain ⟨T, L, c, rfl, h⟩ := h
  refine ⟨_, PSs.nox (pss_one (ps_ret (pe_lc (own := [("backend", 1)]) (g := gName 1) (tt := (tB (tCall (sp_is_available K) [] L2.E0 (tCons (tVar 0) (tCons (tVar 1) tNil))))) (te := (tVar 1)) (by rfl) sc_available_backends.nd (pi_list (pe_fld (pv 0) rfl)) (blkOk_by (own := [("backend", 1)]) (N := ["client", "backend"]) (sc := defScope s_available_backends) (by decide +kernel)) (fun _ _ _ _ _ => pg_name (i := 1) sc_available_backends.nd rfl (Or.inl rfl)) (fun _ _ _ _ _ => (pts_one (pt_val (pe_fn (ok_is_available X) X.g_is_available (hr.mono (by decide)) (pa_cons (pv 0) (pa_cons (pv 1) pa_nil)))))) (fun _ _ _ _ _ => (pv 1))))), ?_⟩
  obtain ⟨S, hz, h⟩ := h
  have hb := hz.bs
  walk_at "rd"
  rw [← avail_all] at h
  refine lc_part (js := List.range c.backends.length) (A := fun i => .ref (L.bk i)) (y := fun i => .ref (L.bk i)) (p := avail c) S.lsB (by rw [List.length_range]; exact small_size (by omega)) (fun v => rfl) (fun j hj D ys Q' hD q => ?_) (fun j hj hp D ys Q' hD q => ?_) h
  · have hj2 := List.mem_range.mp hj
    have S2 := S.new (u := .lst ys) hD
    walk_at "rd"
    refine ⟨T, L, c, j, rfl, S2, hj2, ?_⟩
    walk_at "rd"
    exact q
  · walk_at "rd"
    exact q
def sp_candidates (K : PySem.W.Frag) : Sp := fun vs H Q _ => ∃ (T : List (Addr × Str)) (L : Lo) (c : Client) (u : Addr) (tried : List Nat), vs = [.ref L.cl, .ref u] ∧ St K T L c H ∧ Sz c ∧ SqL K H u (tried.map nV) ∧
  ∀ D H', MM.Ext H H' → H D = none → H' D = some (.lst ((Kp423.candidates c tried).map fun i => .ref (L.bk i))) → Q (.ref D) H'
theorem active_lt {c : Client} {i : Nat} (h : i ∈ Kp423.activeBackends c) : i < c.backends.length := List.mem_range.mp (List.mem_filter.mp h).1
theorem avail_is (c : Client) : (Kp423.activeBackends c).filter (avail c) = Kp423.availableBackends c := by
  unfold Kp423.availableBackends
  refine List.filter_congr fun i hi => ?_
  have h := (List.mem_filter.mp hi).2
  unfold avail
  rw [h]
  rfl
theorem active_len (c : Client) : (Kp423.activeBackends c).length ≤ c.backends.length := by
  have h := List.length_filter_le (fun i => (backendAt c i).active) (List.range c.backends.length)
  rw [List.length_range] at h
  exact h
theorem sc_candidates : FnScope ["client", "used", "pool", "fresh", "backend"] ["client", "used"] (defScope s_candidates) := ⟨rfl, rfl, rfl, by decide +kernel, rfl, by decide +kernel, by decide +kernel⟩
theorem ok_candidates (X : Tx K mg) : GF P w K mg base 4 (He.ga K "candidates") ["client", "used"] (sp_candidates K) := by
  refine GF.of X.d_candidates sc_candidates (fun vs H Q E h => ?_) (fun _ _ _ _ _ _ us hl => match us, hl with | [_, _], _ => rfl) (fun cdv A outer s H vs Q E hr h => ?_)
  · obtain ⟨T, L, c, u, tried, rfl, _⟩ := h; rfl
  obtain ⟨T, L, c, u, tried, rfl, h⟩ := h
  refine ⟨_, PSs.nox (pss_cons (ps_set (i := 2) sc_candidates.nd rfl (Or.inl rfl) (pe_fn (ok_available_backends X) X.g_available_backends (hr.mono (by decide)) (pa_cons (pv 0) pa_nil))) (pss_cons (ps_if (pt_not (pt_truth (pv 2) (by intro _; rfl))) (pss_one (ps_set (i := 2) sc_candidates.nd rfl (Or.inl rfl) (pe_fn (ok_active_backends X) X.g_active_backends (hr.mono (by decide)) (pa_cons (pv 0) pa_nil)))) pss_nil) (pss_cons (ps_setLc (i := 3) (own := [("backend", 4)]) (g := gName 4) (tt := (tTest (tOp (rIn K true) (tFld K (tVar 4) "number") (tVar 1)))) (te := (tVar 4)) (by rfl) sc_candidates.nd rfl rfl (sw_true rfl rfl rfl (by decide +kernel)) (pi_list (pv 2)) (blkOk_by (own := [("backend", 4)]) (N := ["client", "used", "pool", "fresh", "backend"]) (sc := defScope s_candidates) (by decide +kernel)) (fun _ _ _ _ _ => pg_name (i := 4) sc_candidates.nd rfl (Or.inl rfl)) (fun _ _ _ _ _ => (pts_one (pt_cmpR op_notIn_seq (pe_fld (pv 4) rfl) (pv 1) (by rfl)))) (fun _ _ _ _ _ => (pv 4))) (pss_cons (ps_if (pt_truth (pv 3) (by intro _; rfl)) (pss_one (ps_ret (pv 3))) pss_nil) (pss_one (ps_ret (pv 2))))))), ?_⟩
  obtain ⟨S, hz, hu, h⟩ := h
  have hb := hz.bs
  have hal := active_len c
  walk_at "rd"
  refine ⟨T, L, c, rfl, S, hz, fun D1 n1 => ?_⟩
  have hvl : (Kp423.availableBackends c).length ≤ 8 := by
    have z := List.length_filter_le (fun i => !Kp423.isEjected c i) (Kp423.activeBackends c)
    unfold Kp423.availableBackends; omega
  have S1 := S.new (u := .lst ((Kp423.availableBackends c).map fun i => .ref (L.bk i))) n1
  have e1 := ext_new (u := .lst ((Kp423.availableBackends c).map fun i => .ref (L.bk i))) n1
  have b1 : upd H D1 (.lst ((Kp423.availableBackends c).map fun i => .ref (L.bk i))) D1 = some (.lst ((Kp423.availableBackends c).map fun i => .ref (L.bk i))) := upd_same
  generalize upd H D1 (.lst ((Kp423.availableBackends c).map fun i => .ref (L.bk i))) = H1 at S1 e1 b1 ⊢
  walk_at "rd"
  refine i_seqJ (fun σ' H2 => ∃ (Dp : Addr) (pl : List Nat), σ' = [some (.ref L.cl), some (.ref u), some (.ref Dp), none, none] ∧ MM.Ext H H2 ∧ H2 Dp = some (.lst (pl.map fun i => .ref (L.bk i))) ∧ pl.length ≤ 8 ∧ (∀ i ∈ pl, i < c.backends.length) ∧ H Dp = none ∧
      Kp423.candidates c tried = if (pl.filter fun i => !tried.contains i).isEmpty then pl else pl.filter fun i => !tried.contains i) ?_ fun N hN => ?_
  · rintro σ' H2 ⟨Dp, pl, rfl, e2, bp, lp, ip, np, ep⟩
    have S2 := S.ext e2
    walk_at "rd"
    refine lc_part (js := pl) (A := fun i => .ref (L.bk i)) (y := fun i => .ref (L.bk i)) (p := fun i => !tried.contains i) (SqL.of bp) (small_size (by omega)) (fun v => rfl) (fun j hj D ys Q' hD q => ?_) (fun j hj hp D ys Q' hD q => ?_) fun D3 n3 => ?_
    · have hj2 := ip j hj
      have S3 := S2.new (u := .lst ys) hD
      walk_at "rd"
      refine i_notin (MM.SqL.ext (ext_new2 e2 hD) hu) ?_
      walk_at "rd"
      exact q
    · walk_at "rd"
      exact q
    have e3 := ext_new2 (u := .lst ((pl.filter fun i => !tried.contains i).map fun i => .ref (L.bk i))) e2 n3
    have np3 : H D3 = none := e2.fresh _ n3
    walk_at "rd"
    refine i_seq ?_
    walk_at "rd"
    refine i_tru (SqL.of upd_same) ?_
    by_cases hf : (pl.filter fun i => !tried.contains i) = []
    · have e0 : (!((pl.filter fun i => !tried.contains i).map fun i => V.ref (L.bk i)).isEmpty) = false := by rw [hf]; rfl
      rw [e0]; dsimp only; rw [if_neg (by simp)]
      walk_at "rd"
      refine h _ _ e3 np ?_
      rw [upd_ne (ne_of_none bp n3), bp, ep, hf]
      rfl
    · have e0 : (!((pl.filter fun i => !tried.contains i).map fun i => V.ref (L.bk i)).isEmpty) = true := by
        cases q : (pl.filter fun i => !tried.contains i) with
        | nil => exact absurd q hf
        | cons _ _ => rfl
      rw [e0]; dsimp only; rw [if_pos rfl]
      walk_at "rd"
      refine h _ _ e3 np3 ?_
      rw [upd_same, ep, if_neg]
      intro z
      exact hf (List.isEmpty_iff.mp z)
  · walk_at "rd"
    refine i_tru (SqL.of b1) ?_
    dsimp only
    have np1 : H D1 = none := n1
    by_cases hf : Kp423.availableBackends c = []
    · have e0 : (!(!((Kp423.availableBackends c).map fun i => V.ref (L.bk i)).isEmpty)) = true := by rw [hf]; rfl
      rw [e0, if_pos rfl]
      walk_at "rd"
      refine ⟨T, L, c, rfl, S1, hz, fun D2 n2 => ?_⟩
      walk_at "rd"
      refine hN _ _ ⟨D2, Kp423.activeBackends c, rfl, ext_new2 e1 n2, upd_same, by omega, fun i hi => active_lt hi, e1.fresh _ n2, ?_⟩
      unfold Kp423.candidates
      rw [hf]
      rfl
    · have e0 : (!(!((Kp423.availableBackends c).map fun i => V.ref (L.bk i)).isEmpty)) = false := by
        cases q : Kp423.availableBackends c with
        | nil => exact absurd q hf
        | cons _ _ => rfl
      rw [e0, if_neg (by simp)]
      walk_at "rd"
      refine hN _ _ ⟨D1, Kp423.availableBackends c, rfl, e1, b1, hvl, fun i hi => active_lt (List.mem_filter.mp hi).1, np1, ?_⟩
      unfold Kp423.candidates
      have e1 : (Kp423.availableBackends c).isEmpty = false := by
        cases q : Kp423.availableBackends c with
        | nil => exact absurd q hf
        | cons _ _ => rfl
      rw [e1]
      rfl
end

section
variable {P : Program} {w : World} {K : PySem.W.Frag} {mg : Str → Option Value} {base : Heap}
/-! ### the choice of a backend -/
/-- the backend that the balancer takes out of a pool -/
def picked (c : Client) (key : Nat) (l : List Nat) : Option Nat := match c.policy.balancer with
  | 0 => (match l.find? fun i => decide (c.pointer ≤ i) with
    | some i => some i
    | none => l.head?)
  | 1 => Kp423.firstGreatest l fun i => (backendAt c i).current + (backendAt c i).weight
  | 2 => Kp423.firstGreatest l fun i => -((backendAt c i).outstanding : Int)
  | _ => Kp423.firstGreatest l fun i => (Kp423.hashOf key i : Int)
def sp_pick (K : PySem.W.Frag) : Sp := fun vs H Q _ => ∃ (L : Lo) (c : Client) (l : Addr) (pool : List Nat) (key : Nat), vs = [.ref L.cl, .ref l, nV key] ∧ St K (tbs K) L c H ∧ c.policy.balancer ≤ 3 ∧ SqL K H l (pool.map fun i => .ref (L.bk i)) ∧ pool ≠ [] ∧ pool.length ≤ 8 ∧ (∀ i ∈ pool, i < c.backends.length) ∧
  ∀ i H', picked c key pool = some i → i ∈ pool → Nxt K (tbs K) L c H L c H' → ExtN H H' → Q (.ref (L.bk i)) H'
/-- NAME(pool, key=lambda ..) from the pool's reference on -/
def BestR (K : PySem.W.Frag) (T : List (Addr × Str)) (N : List Str) (js : List Nat) (lt : Int → Int → Bool) (tb : TE) (σ : L2.St) (x : V) (H1 : Hp) (Q : VK) : Prop := Tabs T H1 ∧ ∃ (l : Addr) (xs : List V) (kf : Nat → Int), x = .ref l ∧ SqL K H1 l xs ∧ 0 < xs.length ∧
  (∀ H2, ExtN H1 H2 → Tabs T H2 → ∀ i v, xs[i]? = some v → tb (NdefX.startF N [v] (js.map (NdefX.slotAt σ))) H2 fun y H' => y = .int (kf i) ∧ H' = H2) ∧
  ∀ i v H2, xs[i]? = some v → MM.Best (fun i j => lt (kf i) (kf j)) xs.length i → ExtN H1 H2 → Tabs T H2 → Q v H2
theorem i_best {T : List (Addr × Str)} {N : List Str} {js : List Nat} {lt : Int → Int → Bool} {ta tb : TE} {σ : L2.St} {H : Hp} {Q : VK} (h : ta σ H fun x H1 => BestR K T N js lt tb σ x H1 Q) : Lam1.tBest K T N js lt ta tb σ H Q := h
theorem pool_at {L : Lo} {pool : List Nat} {k : Nat} {v : V} (h : (pool.map fun i => V.ref (L.bk i))[k]? = some v) : ∃ i, pool[k]? = some i ∧ v = .ref (L.bk i) := by
  rw [List.getElem?_map] at h
  cases q : pool[k]? with
  | none => rw [q] at h; cases h
  | some i => rw [q] at h; exact ⟨i, rfl, (Option.some.inj h).symm⟩
theorem best_max {T : List (Addr × Str)} {N : List Str} {js : List Nat} {tb : TE} {σ : L2.St} {L : Lo} {c : Client} {H : Hp} {Q : VK} {l : Addr} {pool : List Nat} (value : Nat → Int) (S : St K T L c H) (hl : SqL K H l (pool.map fun i => .ref (L.bk i))) (hne : pool ≠ [])
    (turn : ∀ i, i ∈ pool → ∀ H2 Q', St K T L c H2 → Q' (.int (value i)) H2 → tb (NdefX.startF N [.ref (L.bk i)] (js.map (NdefX.slotAt σ))) H2 Q')
    (h : ∀ i H', Kp423.firstGreatest pool value = some i → i ∈ pool → Nxt K T L c H L c H' → ExtN H H' → Q (.ref (L.bk i)) H') : BestR K T N js (fun i j => decide (i > j)) tb σ (.ref l) H Q := by
  refine ⟨S.tabs, l, _, fun k => value (pool.getD k 0), rfl, hl, by rw [List.length_map]; exact List.length_pos_iff.mpr hne, fun H2 e t k v hv => ?_, fun k v H2 hv hb e t => ?_⟩
  · obtain ⟨i, hi, rfl⟩ := pool_at hv
    refine turn i (List.mem_of_getElem? hi) H2 _ (S.extN e t) ⟨?_, rfl⟩
    simp [hi]
  · obtain ⟨i, hi, rfl⟩ := pool_at hv
    refine h i H2 (HM.fg_best value _ pool rfl k i hi fun j y hj => ?_) (List.mem_of_getElem? hi) (Nxt.extN S e t) e
    have hjl := (List.getElem?_eq_some_iff.mp hj).1
    have z := hb.2 j (by rw [List.length_map]; exact hjl)
    have v1 : pool.getD k 0 = i := by simp [hi]
    have v2 : pool.getD j 0 = y := by simp [hj]
    dsimp only at z
    rw [v1, v2] at z
    simp only [decide_eq_true_eq, decide_eq_false_iff_not] at z
    exact ⟨fun q => by have := z.1 q; omega, fun q => by have := z.2 q; omega⟩
theorem best_min {T : List (Addr × Str)} {N : List Str} {js : List Nat} {tb : TE} {σ : L2.St} {L : Lo} {c : Client} {H : Hp} {Q : VK} {l : Addr} {pool : List Nat} (value : Nat → Int) (S : St K T L c H) (hl : SqL K H l (pool.map fun i => .ref (L.bk i))) (hne : pool ≠ [])
    (turn : ∀ i, i ∈ pool → ∀ H2 Q', St K T L c H2 → Q' (.int (value i)) H2 → tb (NdefX.startF N [.ref (L.bk i)] (js.map (NdefX.slotAt σ))) H2 Q')
    (h : ∀ i H', Kp423.firstGreatest pool (fun i => - value i) = some i → i ∈ pool → Nxt K T L c H L c H' → ExtN H H' → Q (.ref (L.bk i)) H') : BestR K T N js (fun i j => decide (i < j)) tb σ (.ref l) H Q := by
  refine ⟨S.tabs, l, _, fun k => value (pool.getD k 0), rfl, hl, by rw [List.length_map]; exact List.length_pos_iff.mpr hne, fun H2 e t k v hv => ?_, fun k v H2 hv hb e t => ?_⟩
  · obtain ⟨i, hi, rfl⟩ := pool_at hv
    refine turn i (List.mem_of_getElem? hi) H2 _ (S.extN e t) ⟨?_, rfl⟩
    simp [hi]
  · obtain ⟨i, hi, rfl⟩ := pool_at hv
    refine h i H2 (HM.fg_best _ _ pool rfl k i hi fun j y hj => ?_) (List.mem_of_getElem? hi) (Nxt.extN S e t) e
    have hjl := (List.getElem?_eq_some_iff.mp hj).1
    have z := hb.2 j (by rw [List.length_map]; exact hjl)
    have v1 : pool.getD k 0 = i := by simp [hi]
    have v2 : pool.getD j 0 = y := by simp [hj]
    dsimp only at z
    rw [v1, v2] at z
    simp only [decide_eq_true_eq, decide_eq_false_iff_not] at z
    exact ⟨fun q => by have := z.1 q; omega, fun q => by have := z.2 q; omega⟩
theorem find_filter (p : Nat → Bool) : ∀ l : List Nat, l.find? p = (l.filter p).head?
  | [] => rfl
  | a :: r => by
    cases h : p a with
    | true => rw [List.find?_cons_of_pos h, List.filter_cons_of_pos h]; rfl
    | false => rw [List.find?_cons_of_neg (by rw [h]; simp), List.filter_cons_of_neg (by rw [h]; simp)]; exact find_filter p r
theorem sc_pick : FnScope ["client", "pool", "key", "ahead", "backend"] ["client", "pool", "key"] (defScope s_pick) := ⟨rfl, rfl, rfl, by decide +kernel, rfl, by decide +kernel, by decide +kernel⟩
theorem ok_pick (X : Tx K mg) (TB : TabB base mg (He.cT K ("pick", none)).1 (He.cT K ("pick", none)).2) : GF P w K mg base 5 (He.ga K "pick") ["client", "pool", "key"] (sp_pick K) := by
  refine GF.ofC (p := ("pick", none)) X.d_pick sc_pick (fun vs H Q E h => ?_) (fun _ _ _ _ _ _ us hl => match us, hl with | [_, _, _], _ => rfl) (fun A outer s H vs Q E hr h => ?_)
  · obtain ⟨L, c, l, pool, key, rfl, _⟩ := h; rfl
  obtain ⟨L, c, l, pool, key, rfl, h⟩ := h
  refine ⟨_, PSs.nox (pss_cons (ps_if (pt_cmpR op_eq (pe_fld (pv 0) rfl) (pe_gi X.i_ROUND_ROBIN) (nomark _)) (pss_cons (ps_setLc (i := 3) (own := [("backend", 4)]) (g := gName 4) (tt := (tTest (tOp (rI0 fun i j => .bl (decide (j ≤ i))) (tFld K (tVar 4) "number") (tFld K (tVar 0) "pointer")))) (te := (tVar 4)) (by rfl) sc_pick.nd rfl rfl (sw_true rfl rfl rfl (by decide +kernel)) (pi_list (pv 1)) (blkOk_by (own := [("backend", 4)]) (N := ["client", "pool", "key", "ahead", "backend"]) (sc := defScope s_pick) (by decide +kernel)) (fun _ _ _ _ _ => pg_name (i := 4) sc_pick.nd rfl (Or.inl rfl)) (fun _ _ _ _ _ => (pts_one (pt_cmpR op_ge (pe_fld (pv 4) rfl) (pe_fld (pv 0) rfl) (nomark _)))) (fun _ _ _ _ _ => (pv 4))) (pss_one (ps_ret (pe_ifExp (pt_truth (pv 3) (by intro _; rfl)) (pe_ix ix_list (pv 3) pe_int (fun _ _ => rfl)) (pe_ix ix_list (pv 1) pe_int (fun _ _ => rfl)))))) pss_nil) (pss_cons (ps_if (pt_cmpR op_eq (pe_fld (pv 0) rfl) (pe_gi X.i_WEIGHTED) (nomark _)) (pss_one (ps_ret (Lam1.pe_maxLam (T := tbs K) (N := ["backend"]) (fr := []) (a := "backend") (js := []) (k := 2) (tb := (tOp (rI0 fun i j => .int (i + j)) (tFld K (tVar 0) "current") (tFld K (tVar 0) "weight"))) rfl hr rfl X.b_max (pv 1) TB rfl (tbs_pick K) (tbs_pick_only X) rfl (NdefX.nscope_by (by decide +kernel)) (NdefX.ndef_free (sc := defScope s_pick) (fr := []) (by decide +kernel)) (NdefX.ndef_fr (sc := defScope s_pick) (by decide +kernel)) rfl (fun _ _ _ _ _ => rfl) (fun f c2 A outer s H hr => (pe_op op_add (pe_fld (pv 0) rfl) (pe_fld (pv 0) rfl)))))) pss_nil) (pss_cons (ps_if (pt_cmpR op_eq (pe_fld (pv 0) rfl) (pe_gi X.i_LEAST_OUTSTANDING) (nomark _)) (pss_one (ps_ret (Lam1.pe_minLam (T := tbs K) (N := ["backend"]) (fr := []) (a := "backend") (js := []) (k := 2) (tb := (tFld K (tVar 0) "outstanding")) rfl hr rfl X.b_min (pv 1) TB rfl (tbs_pick K) (tbs_pick_only X) rfl (NdefX.nscope_by (by decide +kernel)) (NdefX.ndef_free (sc := defScope s_pick) (fr := []) (by decide +kernel)) (NdefX.ndef_fr (sc := defScope s_pick) (by decide +kernel)) rfl (fun _ _ _ _ _ => rfl) (fun f c2 A outer s H hr => (pe_fld (pv 0) rfl))))) pss_nil) (pss_one (ps_ret (Lam1.pe_maxLam (T := tbs K) (N := ["backend", "key"]) (fr := ["key"]) (a := "backend") (js := [2]) (k := 2) (tb := (tCall sp_key_hash [] L2.E0 (tCons (tVar 1) (tCons (tFld K (tVar 0) "number") tNil)))) rfl hr rfl X.b_max (pv 1) TB rfl (tbs_pick K) (tbs_pick_only X) rfl (NdefX.nscope_by (by decide +kernel)) (NdefX.ndef_free (sc := defScope s_pick) (fr := ["key"]) (by decide +kernel)) (NdefX.ndef_fr (sc := defScope s_pick) (by decide +kernel)) rfl (fun _ _ _ _ _ => rfl) (fun f c2 A outer s H hr => (pe_fn (ok_key_hash X) X.g_key_hash (hr.mono (by decide)) (pa_cons (pv 1) (pa_cons (pe_fld (pv 0) rfl) pa_nil)))))))))), ?_⟩
  obtain ⟨S, hbal, hl, hne, hz, hp, h⟩ := h
  refine i_seq ?_
  walk_at "rd"
  refine ite_dec (fun h0 => ?_) (fun h0 => ?_)
  · have hb0 : c.policy.balancer = 0 := by omega
    walk_at "rd"
    refine lc_part (js := pool) (A := fun i => .ref (L.bk i)) (y := fun i => .ref (L.bk i)) (p := fun i => decide (c.pointer ≤ i)) hl (small_size (by omega)) (fun v => rfl) (fun j hj D ys Q' hD q => ?_) (fun j hj hp D ys Q' hD q => ?_) fun D n1 => ?_
    · have hj2 := hp j hj
      have S2 := S.new (u := .lst ys) hD
      walk_at "rd"
      have e : decide ((c.pointer : Int) ≤ (j : Int)) = decide (c.pointer ≤ j) := by
        by_cases z : c.pointer ≤ j
        · simp [z]
        · simp [z]
      rw [e]
      exact q
    · walk_at "rd"
      exact q
    have S1 := S.new (u := .lst ((pool.filter fun i => decide (c.pointer ≤ i)).map fun i => .ref (L.bk i))) n1
    have e1 := ext_new (u := .lst ((pool.filter fun i => decide (c.pointer ≤ i)).map fun i => .ref (L.bk i))) n1
    walk_at "rd"
    refine i_tru (SqL.of upd_same) ?_
    dsimp only
    have pk : picked c key pool = (match (pool.filter fun i => decide (c.pointer ≤ i)).head? with | some i => some i | none => pool.head?) := by
      unfold picked
      rw [hb0]
      show (match pool.find? (fun i => decide (c.pointer ≤ i)) with | some i => some i | none => pool.head?) = _
      rw [find_filter]
    cases hf : (pool.filter fun i => decide (c.pointer ≤ i)) with
    | nil =>
      rw [hf] at S1 e1 pk
      rw [if_neg (by simp)]
      obtain ⟨p0, pr, hpl⟩ : ∃ p0 pr, pool = p0 :: pr := by
        cases q : pool with
        | nil => exact absurd q hne
        | cons a r => exact ⟨a, r, rfl⟩
      walk_at "rd"
      refine i_ixL (k := 0) (MM.SqL.ext e1 hl) (v := .ref (L.bk p0)) (by rw [hpl]; rfl) ?_
      refine h p0 _ (by rw [pk, hpl]; rfl) (by rw [hpl]; simp) (Nxt.ext S e1) (ExtN.of e1)
    | cons a r =>
      rw [hf] at S1 e1 pk
      rw [if_pos (by simp)]
      have ha : a ∈ pool := by
        have z : a ∈ (pool.filter fun i => decide (c.pointer ≤ i)) := by rw [hf]; simp
        exact (List.mem_filter.mp z).1
      walk_at "rd"
      refine i_ixL (k := 0) (SqL.of upd_same) (v := .ref (L.bk a)) rfl ?_
      refine h a _ (by rw [pk]; rfl) ha (Nxt.ext S e1) (ExtN.of e1)
  refine i_next ?_
  refine i_seq ?_
  walk_at "rd"
  refine ite_dec (fun h1 => ?_) (fun h1 => ?_)
  · have hb1 : c.policy.balancer = 1 := by omega
    walk_at "rd"
    refine i_best (i_var rfl (best_max (fun i => (backendAt c i).current + (backendAt c i).weight) S hl hne (fun i hi H2 Q' S2 q => ?_) fun i H' e => h i H' (by unfold picked; rw [hb1]; exact e)))
    have hi2 := hp i hi
    walk_at "rd"
    exact q
  refine i_next ?_
  refine i_seq ?_
  walk_at "rd"
  refine ite_dec (fun h2 => ?_) (fun h2 => ?_)
  · have hb2 : c.policy.balancer = 2 := by omega
    walk_at "rd"
    refine i_best (i_var rfl (best_min (fun i => ((backendAt c i).outstanding : Int)) S hl hne (fun i hi H2 Q' S2 q => ?_) fun i H' e => h i H' (by unfold picked; rw [hb2]; exact e)))
    have hi2 := hp i hi
    walk_at "rd"
    exact q
  · have hb3 : c.policy.balancer = 3 := by omega
    walk_at "rd"
    refine i_best (i_var rfl (best_max (fun i => (Kp423.hashOf key i : Int)) S hl hne (fun i hi H2 Q' S2 q => ?_) fun i H' e => h i H' (by unfold picked; rw [hb3]; exact e)))
    have hi2 := hp i hi
    walk_at "rd"
    refine ⟨key, i, rfl, ?_⟩
    exact q
end

section
variable {P : Program} {w : World} {K : PySem.W.Frag} {mg : Str → Option Value} {base : Heap}
/-! ### new things -/
def newB (n wt : Nat) : Backend := ⟨true, wt, 0, 0, 0, 0, none⟩
def sp_Backend_init (K : PySem.W.Frag) : Sp := fun vs H Q _ => ∃ (p dx : Addr) (n wt : Nat), vs = [.ref p, nV n, nV wt] ∧ H p = some (.ins (He.ga K "Backend") dx []) ∧
  ∀ H', H' p = some (.ins (He.ga K "Backend") dx (bkF n (newB n wt))) → (∀ b, b ≠ p → H' b = H b) → Q .non H'
theorem sc_Backend_init : FnScope ["self", "number", "weight"] ["self", "number", "weight"] (defScope s_Backend_init) := ⟨rfl, rfl, rfl, by decide +kernel, rfl, by decide +kernel, by decide +kernel⟩
theorem ok_Backend_init (X : Tx K mg) : GF P w K mg base 1 (He.ma K (He.ga K "Backend") "__init__") ["self", "number", "weight"] (sp_Backend_init K) := by
  refine GF.of X.d_Backend_init sc_Backend_init (fun vs H Q E h => ?_) (fun _ _ _ _ _ _ us hl => match us, hl with | [_, _, _], _ => rfl) (fun cdv A outer s H vs Q E hr h => ?_)
  · obtain ⟨p, dx, n, wt, rfl, _⟩ := h; rfl
  obtain ⟨p, dx, n, wt, rfl, h⟩ := h
  refine ⟨_, PSs.nox (pss_cons (ps_fld (pv 0) (pv 1) rfl) (pss_cons (ps_fld (pv 0) (pv 2) rfl) (pss_cons (ps_fld (pv 0) pe_bl rfl) (pss_cons (ps_fld (pv 0) pe_int rfl) (pss_cons (ps_fld (pv 0) pe_int rfl) (pss_cons (ps_fld (pv 0) pe_int rfl) (pss_cons (ps_fld (pv 0) pe_int rfl) (pss_one (ps_fld (pv 0) pe_non rfl))))))))), ?_⟩
  obtain ⟨e0, h⟩ := h
  walk_at "rd"
  refine nwG (fs2 := [("number", nV n)]) e0 X.c_Backend X.n_Backend_number (by show 0 < 1000; decide) (by kernel_rfl) fun H1 e1 k1 => ?_
  walk_at "rd"
  refine nwG (fs2 := [("number", nV n), ("weight", nV wt)]) e1 X.c_Backend X.n_Backend_weight (by show 1 < 1000; decide) (by kernel_rfl) fun H2 e2 k2 => ?_
  walk_at "rd"
  refine nwG (fs2 := [("number", nV n), ("weight", nV wt), ("active", .bl true)]) e2 X.c_Backend X.n_Backend_active (by show 2 < 1000; decide) (by kernel_rfl) fun H3 e3 k3 => ?_
  walk_at "rd"
  refine nwG (fs2 := [("number", nV n), ("weight", nV wt), ("active", .bl true), ("current", .int 0)]) e3 X.c_Backend X.n_Backend_current (by show 3 < 1000; decide) (by kernel_rfl) fun H4 e4 k4 => ?_
  walk_at "rd"
  refine nwG (fs2 := [("number", nV n), ("weight", nV wt), ("active", .bl true), ("current", .int 0), ("outstanding", .int 0)]) e4 X.c_Backend X.n_Backend_outstanding (by show 4 < 1000; decide) (by kernel_rfl) fun H5 e5 k5 => ?_
  walk_at "rd"
  refine nwG (fs2 := [("number", nV n), ("weight", nV wt), ("active", .bl true), ("current", .int 0), ("outstanding", .int 0), ("failures", .int 0)]) e5 X.c_Backend X.n_Backend_failures (by show 5 < 1000; decide) (by kernel_rfl) fun H6 e6 k6 => ?_
  walk_at "rd"
  refine nwG (fs2 := [("number", nV n), ("weight", nV wt), ("active", .bl true), ("current", .int 0), ("outstanding", .int 0), ("failures", .int 0), ("ejections", .int 0)]) e6 X.c_Backend X.n_Backend_ejections (by show 6 < 1000; decide) (by kernel_rfl) fun H7 e7 k7 => ?_
  walk_at "rd"
  refine nwG (fs2 := [("number", nV n), ("weight", nV wt), ("active", .bl true), ("current", .int 0), ("outstanding", .int 0), ("failures", .int 0), ("ejections", .int 0), ("ejected_until", .non)]) e7 X.c_Backend X.n_Backend_ejected_until (by show 7 < 1000; decide) (by kernel_rfl) fun H8 e8 k8 => ?_
  walk_at "rd"
  exact h _ e8 fun b hb => by rw [k8 b hb, k7 b hb, k6 b hb, k5 b hb, k4 b hb, k3 b hb, k2 b hb, k1 b hb]
def newA (ca bk pl at_ : Nat) : Kp423.Attempt := ⟨ca, bk, pl, at_, .running⟩
def sp_Attempt_init (K : PySem.W.Frag) : Sp := fun vs H Q _ => ∃ (p dx ca bk : Addr) (nu pl at_ : Nat), vs = [.ref p, nV nu, .ref ca, .ref bk, nV pl, nV at_] ∧ H p = some (.ins (He.ga K "Attempt") dx []) ∧
  ∀ H', H' p = some (.ins (He.ga K "Attempt") dx [("number", nV nu), ("call", .ref ca), ("backend", .ref bk), ("place", nV pl), ("started_at", nV at_), ("state", .int 0), ("status", .int 0)]) → (∀ b, b ≠ p → H' b = H b) → Q .non H'
theorem sc_Attempt_init : FnScope ["self", "number", "call", "backend", "place", "started_at"] ["self", "number", "call", "backend", "place", "started_at"] (defScope s_Attempt_init) := ⟨rfl, rfl, rfl, by decide +kernel, rfl, by decide +kernel, by decide +kernel⟩
theorem ok_Attempt_init (X : Tx K mg) : GF P w K mg base 1 (He.ma K (He.ga K "Attempt") "__init__") ["self", "number", "call", "backend", "place", "started_at"] (sp_Attempt_init K) := by
  refine GF.of X.d_Attempt_init sc_Attempt_init (fun vs H Q E h => ?_) (fun _ _ _ _ _ _ us hl => match us, hl with | [_, _, _, _, _, _], _ => rfl) (fun cdv A outer s H vs Q E hr h => ?_)
  · obtain ⟨p, dx, ca, bk, nu, pl, at_, rfl, _⟩ := h; rfl
  obtain ⟨p, dx, ca, bk, nu, pl, at_, rfl, h⟩ := h
  refine ⟨_, PSs.nox (pss_cons (ps_fld (pv 0) (pv 1) rfl) (pss_cons (ps_fld (pv 0) (pv 2) rfl) (pss_cons (ps_fld (pv 0) (pv 3) rfl) (pss_cons (ps_fld (pv 0) (pv 4) rfl) (pss_cons (ps_fld (pv 0) (pv 5) rfl) (pss_cons (ps_fld (pv 0) (pe_gi X.i_RUNNING) rfl) (pss_one (ps_fld (pv 0) pe_int rfl)))))))), ?_⟩
  obtain ⟨e0, h⟩ := h
  walk_at "rd"
  refine nwG (fs2 := [("number", nV nu)]) e0 X.c_Attempt X.n_Attempt_number (by show 0 < 1000; decide) (by kernel_rfl) fun H1 e1 k1 => ?_
  walk_at "rd"
  refine nwG (fs2 := [("number", nV nu), ("call", .ref ca)]) e1 X.c_Attempt X.n_Attempt_call (by show 1 < 1000; decide) (by kernel_rfl) fun H2 e2 k2 => ?_
  walk_at "rd"
  refine nwG (fs2 := [("number", nV nu), ("call", .ref ca), ("backend", .ref bk)]) e2 X.c_Attempt X.n_Attempt_backend (by show 2 < 1000; decide) (by kernel_rfl) fun H3 e3 k3 => ?_
  walk_at "rd"
  refine nwG (fs2 := [("number", nV nu), ("call", .ref ca), ("backend", .ref bk), ("place", nV pl)]) e3 X.c_Attempt X.n_Attempt_place (by show 3 < 1000; decide) (by kernel_rfl) fun H4 e4 k4 => ?_
  walk_at "rd"
  refine nwG (fs2 := [("number", nV nu), ("call", .ref ca), ("backend", .ref bk), ("place", nV pl), ("started_at", nV at_)]) e4 X.c_Attempt X.n_Attempt_started_at (by show 4 < 1000; decide) (by kernel_rfl) fun H5 e5 k5 => ?_
  walk_at "rd"
  refine nwG (fs2 := [("number", nV nu), ("call", .ref ca), ("backend", .ref bk), ("place", nV pl), ("started_at", nV at_), ("state", .int 0)]) e5 X.c_Attempt X.n_Attempt_state (by show 5 < 1000; decide) (by kernel_rfl) fun H6 e6 k6 => ?_
  walk_at "rd"
  refine nwG (fs2 := [("number", nV nu), ("call", .ref ca), ("backend", .ref bk), ("place", nV pl), ("started_at", nV at_), ("state", .int 0), ("status", .int 0)]) e6 X.c_Attempt X.n_Attempt_status (by show 6 < 1000; decide) (by kernel_rfl) fun H7 e7 k7 => ?_
  walk_at "rd"
  exact h _ e7 fun b hb => by rw [k7 b hb, k6 b hb, k5 b hb, k4 b hb, k3 b hb, k2 b hb, k1 b hb]
def sp_Call_init (K : PySem.W.Frag) : Sp := fun vs H Q _ => ∃ (p dx : Addr) (n dl : Nat) (idem : Bool) (key : Nat), vs = [.ref p, nV n, nV dl, .bl idem, nV key] ∧ H p = some (.ins (He.ga K "Call") dx []) ∧
  ∀ H' l, H' p = some (.ins (He.ga K "Call") dx [("number", nV n), ("deadline", nV dl), ("idempotent", .bl idem), ("key", nV key), ("status", .non), ("counted", .int 0), ("retries", .int 0), ("transparent", .bl false), ("retry_at", .non), ("hedge_at", .non), ("finished_at", .int 0), ("attempts", .ref l)]) →
    H l = none → l ≠ p → H' l = some (.lst []) → (∀ b, b ≠ p → b ≠ l → H' b = H b) → Q .non H'
theorem sc_Call_init : FnScope ["self", "number", "deadline", "idempotent", "key"] ["self", "number", "deadline", "idempotent", "key"] (defScope s_Call_init) := ⟨rfl, rfl, rfl, by decide +kernel, rfl, by decide +kernel, by decide +kernel⟩
theorem ok_Call_init (X : Tx K mg) : GF P w K mg base 1 (He.ma K (He.ga K "Call") "__init__") ["self", "number", "deadline", "idempotent", "key"] (sp_Call_init K) := by
  refine GF.of X.d_Call_init sc_Call_init (fun vs H Q E h => ?_) (fun _ _ _ _ _ _ us hl => match us, hl with | [_, _, _, _, _], _ => rfl) (fun cdv A outer s H vs Q E hr h => ?_)
  · obtain ⟨p, dx, n, dl, idem, key, rfl, _⟩ := h; rfl
  obtain ⟨p, dx, n, dl, idem, key, rfl, h⟩ := h
  refine ⟨_, PSs.nox (pss_cons (ps_fld (pv 0) (pv 1) rfl) (pss_cons (ps_fld (pv 0) (pv 2) rfl) (pss_cons (ps_fld (pv 0) (pv 3) rfl) (pss_cons (ps_fld (pv 0) (pv 4) rfl) (pss_cons (ps_fld (pv 0) pe_non rfl) (pss_cons (ps_fld (pv 0) pe_int rfl) (pss_cons (ps_fld (pv 0) pe_int rfl) (pss_cons (ps_fld (pv 0) pe_bl rfl) (pss_cons (ps_fld (pv 0) pe_non rfl) (pss_cons (ps_fld (pv 0) pe_non rfl) (pss_cons (ps_fld (pv 0) pe_int rfl) (pss_one (ps_fld (pv 0) (pe_lst pa_nil) rfl))))))))))))), ?_⟩
  obtain ⟨e0, h⟩ := h
  walk_at "rd"
  refine nwG (fs2 := [("number", nV n)]) e0 X.c_Call X.n_Call_number (by show 0 < 1000; decide) (by kernel_rfl) fun H1 e1 k1 => ?_
  walk_at "rd"
  refine nwG (fs2 := [("number", nV n), ("deadline", nV dl)]) e1 X.c_Call X.n_Call_deadline (by show 1 < 1000; decide) (by kernel_rfl) fun H2 e2 k2 => ?_
  walk_at "rd"
  refine nwG (fs2 := [("number", nV n), ("deadline", nV dl), ("idempotent", .bl idem)]) e2 X.c_Call X.n_Call_idempotent (by show 2 < 1000; decide) (by kernel_rfl) fun H3 e3 k3 => ?_
  walk_at "rd"
  refine nwG (fs2 := [("number", nV n), ("deadline", nV dl), ("idempotent", .bl idem), ("key", nV key)]) e3 X.c_Call X.n_Call_key (by show 3 < 1000; decide) (by kernel_rfl) fun H4 e4 k4 => ?_
  walk_at "rd"
  refine nwG (fs2 := [("number", nV n), ("deadline", nV dl), ("idempotent", .bl idem), ("key", nV key), ("status", .non)]) e4 X.c_Call X.n_Call_status (by show 4 < 1000; decide) (by kernel_rfl) fun H5 e5 k5 => ?_
  walk_at "rd"
  refine nwG (fs2 := [("number", nV n), ("deadline", nV dl), ("idempotent", .bl idem), ("key", nV key), ("status", .non), ("counted", .int 0)]) e5 X.c_Call X.n_Call_counted (by show 5 < 1000; decide) (by kernel_rfl) fun H6 e6 k6 => ?_
  walk_at "rd"
  refine nwG (fs2 := [("number", nV n), ("deadline", nV dl), ("idempotent", .bl idem), ("key", nV key), ("status", .non), ("counted", .int 0), ("retries", .int 0)]) e6 X.c_Call X.n_Call_retries (by show 6 < 1000; decide) (by kernel_rfl) fun H7 e7 k7 => ?_
  walk_at "rd"
  refine nwG (fs2 := [("number", nV n), ("deadline", nV dl), ("idempotent", .bl idem), ("key", nV key), ("status", .non), ("counted", .int 0), ("retries", .int 0), ("transparent", .bl false)]) e7 X.c_Call X.n_Call_transparent (by show 7 < 1000; decide) (by kernel_rfl) fun H8 e8 k8 => ?_
  walk_at "rd"
  refine nwG (fs2 := [("number", nV n), ("deadline", nV dl), ("idempotent", .bl idem), ("key", nV key), ("status", .non), ("counted", .int 0), ("retries", .int 0), ("transparent", .bl false), ("retry_at", .non)]) e8 X.c_Call X.n_Call_retry_at (by show 8 < 1000; decide) (by kernel_rfl) fun H9 e9 k9 => ?_
  walk_at "rd"
  refine nwG (fs2 := [("number", nV n), ("deadline", nV dl), ("idempotent", .bl idem), ("key", nV key), ("status", .non), ("counted", .int 0), ("retries", .int 0), ("transparent", .bl false), ("retry_at", .non), ("hedge_at", .non)]) e9 X.c_Call X.n_Call_hedge_at (by show 9 < 1000; decide) (by kernel_rfl) fun H10 e10 k10 => ?_
  walk_at "rd"
  refine nwG (fs2 := [("number", nV n), ("deadline", nV dl), ("idempotent", .bl idem), ("key", nV key), ("status", .non), ("counted", .int 0), ("retries", .int 0), ("transparent", .bl false), ("retry_at", .non), ("hedge_at", .non), ("finished_at", .int 0)]) e10 X.c_Call X.n_Call_finished_at (by show 10 < 1000; decide) (by kernel_rfl) fun H11 e11 k11 => ?_
  walk_at "rd"
  refine i_lst0 fun q12 n12 => ?_
  have f11 := (upd_ne (o := .lst []) (ne_of_none e11 n12)).trans e11
  walk_at "rd"
  refine nwG (fs2 := [("number", nV n), ("deadline", nV dl), ("idempotent", .bl idem), ("key", nV key), ("status", .non), ("counted", .int 0), ("retries", .int 0), ("transparent", .bl false), ("retry_at", .non), ("hedge_at", .non), ("finished_at", .int 0), ("attempts", .ref q12)]) f11 X.c_Call X.n_Call_attempts (by show 11 < 1000; decide) (by kernel_rfl) fun H12 e12 k12 => ?_
  walk_at "rd"
  have np : q12 ≠ p := fun z => by rw [z, e11] at n12; cases n12
  have nl : H q12 = none := by rw [← k1 _ np, ← k2 _ np, ← k3 _ np, ← k4 _ np, ← k5 _ np, ← k6 _ np, ← k7 _ np, ← k8 _ np, ← k9 _ np, ← k10 _ np, ← k11 _ np]; exact n12
  refine h _ q12 e12 nl np (by rw [k12 _ np]; exact upd_same) fun b hb hl => ?_
  rw [k12 b hb, upd_ne hl, k11 b hb, k10 b hb, k9 b hb, k8 b hb, k7 b hb, k6 b hb, k5 b hb, k4 b hb, k3 b hb, k2 b hb, k1 b hb]
end

section
variable {P : Program} {w : World} {K : PySem.W.Frag} {mg : Str → Option Value} {base : Heap}
/-! ### the policy, the client -/
theorem SqL.keep {K : PySem.W.Frag} {H H' : Hp} {p l C dx : Addr} {fs : List (Str × V)} {xs : List V} (k : ∀ b, b ≠ p → H' b = H b) (e : H p = some (.ins C dx fs)) (h : SqL K H l xs) : SqL K H' l xs := by
  rcases h with (h | ⟨o, h⟩) | h
  · exact .inl (.inl ((k l (ne_of h e (by intro z; cases z))).trans h))
  · exact .inl (.inr ⟨o, (k l (ne_of h e (by intro z; cases z))).trans h⟩)
  · exact .inr h
def params (q : Kp423.Policy) : List Nat := [q.maxAttempts, q.initialBackoff, q.maxBackoff, q.multiplier, q.hedgeDelay, q.threshold, q.ejectionTime, q.ejectionPercent, q.maxTokens, q.refund] ++ q.retryable
def sp_Policy_init (K : PySem.W.Frag) : Sp := fun vs H Q _ => ∃ (p dx l : Addr) (q : Kp423.Policy), vs = [.ref p, .ref l] ∧ H p = some (.ins (He.ga K "Policy") dx []) ∧ SqL K H l ((params q).map nV) ∧
  ∀ H' r, H' p = some (.ins (He.ga K "Policy") dx [("max_attempts", nV q.maxAttempts), ("initial_backoff", nV q.initialBackoff), ("max_backoff", nV q.maxBackoff), ("multiplier", nV q.multiplier), ("hedge_delay", nV q.hedgeDelay), ("threshold", nV q.threshold), ("ejection_time", nV q.ejectionTime), ("ejection_percent", nV q.ejectionPercent), ("max_tokens", nV q.maxTokens), ("refund", nV q.refund), ("retryable", .ref r)]) → H r = none → r ≠ p → H' r = some (.lst (q.retryable.map nV)) → (∀ b, b ≠ p → b ≠ r → H' b = H b) → Q .non H'
theorem sc_Policy_init : FnScope ["self", "parameters"] ["self", "parameters"] (defScope s_Policy_init) := ⟨rfl, rfl, rfl, by decide +kernel, rfl, by decide +kernel, by decide +kernel⟩
theorem ok_Policy_init (X : Tx K mg) : GF P w K mg base 1 (He.ma K (He.ga K "Policy") "__init__") ["self", "parameters"] (sp_Policy_init K) := by
  refine GF.of X.d_Policy_init sc_Policy_init (fun vs H Q E h => ?_) (fun _ _ _ _ _ _ us hl => match us, hl with | [_, _], _ => rfl) (fun cdv A outer s H vs Q E hr h => ?_)
  · obtain ⟨p, dx, l, q, rfl, _⟩ := h; rfl
  obtain ⟨p, dx, l, q, rfl, h⟩ := h
  refine ⟨_, PSs.nox (pss_cons (ps_fld (pv 0) (pe_ix ix_list (pv 1) pe_int (fun _ _ => rfl)) rfl) (pss_cons (ps_fld (pv 0) (pe_ix ix_list (pv 1) pe_int (fun _ _ => rfl)) rfl) (pss_cons (ps_fld (pv 0) (pe_ix ix_list (pv 1) pe_int (fun _ _ => rfl)) rfl) (pss_cons (ps_fld (pv 0) (pe_ix ix_list (pv 1) pe_int (fun _ _ => rfl)) rfl) (pss_cons (ps_fld (pv 0) (pe_ix ix_list (pv 1) pe_int (fun _ _ => rfl)) rfl) (pss_cons (ps_fld (pv 0) (pe_ix ix_list (pv 1) pe_int (fun _ _ => rfl)) rfl) (pss_cons (ps_fld (pv 0) (pe_ix ix_list (pv 1) pe_int (fun _ _ => rfl)) rfl) (pss_cons (ps_fld (pv 0) (pe_ix ix_list (pv 1) pe_int (fun _ _ => rfl)) rfl) (pss_cons (ps_fld (pv 0) (pe_ix ix_list (pv 1) pe_int (fun _ _ => rfl)) rfl) (pss_cons (ps_fld (pv 0) (pe_ix ix_list (pv 1) pe_int (fun _ _ => rfl)) rfl) (pss_one (ps_fld (pv 0) (pe_slice sl_list (pv 1) (po_some pe_int) po_none) rfl)))))))))))), ?_⟩
  obtain ⟨e0, s0, h⟩ := h
  walk_at "rd"
  refine i_ixL (k := 0) s0 (v := nV q.maxAttempts) rfl ?_
  walk_at "rd"
  refine nwG (fs2 := [("max_attempts", nV q.maxAttempts)]) e0 X.c_Policy X.n_Policy_max_attempts (by show 0 < 1000; decide) (by kernel_rfl) fun H1 e1 k1 => ?_
  have s1 := SqL.keep k1 e0 s0
  walk_at "rd"
  refine i_ixL (k := 1) s1 (v := nV q.initialBackoff) rfl ?_
  walk_at "rd"
  refine nwG (fs2 := [("max_attempts", nV q.maxAttempts), ("initial_backoff", nV q.initialBackoff)]) e1 X.c_Policy X.n_Policy_initial_backoff (by show 1 < 1000; decide) (by kernel_rfl) fun H2 e2 k2 => ?_
  have s2 := SqL.keep k2 e1 s1
  walk_at "rd"
  refine i_ixL (k := 2) s2 (v := nV q.maxBackoff) rfl ?_
  walk_at "rd"
  refine nwG (fs2 := [("max_attempts", nV q.maxAttempts), ("initial_backoff", nV q.initialBackoff), ("max_backoff", nV q.maxBackoff)]) e2 X.c_Policy X.n_Policy_max_backoff (by show 2 < 1000; decide) (by kernel_rfl) fun H3 e3 k3 => ?_
  have s3 := SqL.keep k3 e2 s2
  walk_at "rd"
  refine i_ixL (k := 3) s3 (v := nV q.multiplier) rfl ?_
  walk_at "rd"
  refine nwG (fs2 := [("max_attempts", nV q.maxAttempts), ("initial_backoff", nV q.initialBackoff), ("max_backoff", nV q.maxBackoff), ("multiplier", nV q.multiplier)]) e3 X.c_Policy X.n_Policy_multiplier (by show 3 < 1000; decide) (by kernel_rfl) fun H4 e4 k4 => ?_
  have s4 := SqL.keep k4 e3 s3
  walk_at "rd"
  refine i_ixL (k := 4) s4 (v := nV q.hedgeDelay) rfl ?_
  walk_at "rd"
  refine nwG (fs2 := [("max_attempts", nV q.maxAttempts), ("initial_backoff", nV q.initialBackoff), ("max_backoff", nV q.maxBackoff), ("multiplier", nV q.multiplier), ("hedge_delay", nV q.hedgeDelay)]) e4 X.c_Policy X.n_Policy_hedge_delay (by show 4 < 1000; decide) (by kernel_rfl) fun H5 e5 k5 => ?_
  have s5 := SqL.keep k5 e4 s4
  walk_at "rd"
  refine i_ixL (k := 5) s5 (v := nV q.threshold) rfl ?_
  walk_at "rd"
  refine nwG (fs2 := [("max_attempts", nV q.maxAttempts), ("initial_backoff", nV q.initialBackoff), ("max_backoff", nV q.maxBackoff), ("multiplier", nV q.multiplier), ("hedge_delay", nV q.hedgeDelay), ("threshold", nV q.threshold)]) e5 X.c_Policy X.n_Policy_threshold (by show 5 < 1000; decide) (by kernel_rfl) fun H6 e6 k6 => ?_
  have s6 := SqL.keep k6 e5 s5
  walk_at "rd"
  refine i_ixL (k := 6) s6 (v := nV q.ejectionTime) rfl ?_
  walk_at "rd"
  refine nwG (fs2 := [("max_attempts", nV q.maxAttempts), ("initial_backoff", nV q.initialBackoff), ("max_backoff", nV q.maxBackoff), ("multiplier", nV q.multiplier), ("hedge_delay", nV q.hedgeDelay), ("threshold", nV q.threshold), ("ejection_time", nV q.ejectionTime)]) e6 X.c_Policy X.n_Policy_ejection_time (by show 6 < 1000; decide) (by kernel_rfl) fun H7 e7 k7 => ?_
  have s7 := SqL.keep k7 e6 s6
  walk_at "rd"
  refine i_ixL (k := 7) s7 (v := nV q.ejectionPercent) rfl ?_
  walk_at "rd"
  refine nwG (fs2 := [("max_attempts", nV q.maxAttempts), ("initial_backoff", nV q.initialBackoff), ("max_backoff", nV q.maxBackoff), ("multiplier", nV q.multiplier), ("hedge_delay", nV q.hedgeDelay), ("threshold", nV q.threshold), ("ejection_time", nV q.ejectionTime), ("ejection_percent", nV q.ejectionPercent)]) e7 X.c_Policy X.n_Policy_ejection_percent (by show 7 < 1000; decide) (by kernel_rfl) fun H8 e8 k8 => ?_
  have s8 := SqL.keep k8 e7 s7
  walk_at "rd"
  refine i_ixL (k := 8) s8 (v := nV q.maxTokens) rfl ?_
  walk_at "rd"
  refine nwG (fs2 := [("max_attempts", nV q.maxAttempts), ("initial_backoff", nV q.initialBackoff), ("max_backoff", nV q.maxBackoff), ("multiplier", nV q.multiplier), ("hedge_delay", nV q.hedgeDelay), ("threshold", nV q.threshold), ("ejection_time", nV q.ejectionTime), ("ejection_percent", nV q.ejectionPercent), ("max_tokens", nV q.maxTokens)]) e8 X.c_Policy X.n_Policy_max_tokens (by show 8 < 1000; decide) (by kernel_rfl) fun H9 e9 k9 => ?_
  have s9 := SqL.keep k9 e8 s8
  walk_at "rd"
  refine i_ixL (k := 9) s9 (v := nV q.refund) rfl ?_
  walk_at "rd"
  refine nwG (fs2 := [("max_attempts", nV q.maxAttempts), ("initial_backoff", nV q.initialBackoff), ("max_backoff", nV q.maxBackoff), ("multiplier", nV q.multiplier), ("hedge_delay", nV q.hedgeDelay), ("threshold", nV q.threshold), ("ejection_time", nV q.ejectionTime), ("ejection_percent", nV q.ejectionPercent), ("max_tokens", nV q.maxTokens), ("refund", nV q.refund)]) e9 X.c_Policy X.n_Policy_refund (by show 9 < 1000; decide) (by kernel_rfl) fun H10 e10 k10 => ?_
  have s10 := SqL.keep k10 e9 s9
  walk_at "rd"
  refine i_slL s10 fun r nr => ?_
  have hd : cutV ((params q).map nV) (some (10 : Int)) none = q.retryable.map nV := by
    rw [show (some (10 : Int)) = some ((10 : Nat) : Int) from rfl, cut_from]
    rfl
  rw [hd]
  have f10 := (upd_ne (o := .lst (q.retryable.map nV)) (ne_of_none e10 nr)).trans e10
  walk_at "rd"
  refine nwG (fs2 := [("max_attempts", nV q.maxAttempts), ("initial_backoff", nV q.initialBackoff), ("max_backoff", nV q.maxBackoff), ("multiplier", nV q.multiplier), ("hedge_delay", nV q.hedgeDelay), ("threshold", nV q.threshold), ("ejection_time", nV q.ejectionTime), ("ejection_percent", nV q.ejectionPercent), ("max_tokens", nV q.maxTokens), ("refund", nV q.refund), ("retryable", .ref r)]) f10 X.c_Policy X.n_Policy_retryable (by show 10 < 1000; decide) (by kernel_rfl) fun H11 e11 k11 => ?_
  walk_at "rd"
  have np : r ≠ p := fun z => by rw [z, e10] at nr; cases nr
  have nl : H r = none := by rw [← k1 _ np, ← k2 _ np, ← k3 _ np, ← k4 _ np, ← k5 _ np, ← k6 _ np, ← k7 _ np, ← k8 _ np, ← k9 _ np, ← k10 _ np]; exact nr
  refine h _ r e11 nl np (by rw [k11 _ np]; exact upd_same) fun b hb hl => ?_
  rw [k11 b hb, upd_ne hl, k10 b hb, k9 b hb, k8 b hb, k7 b hb, k6 b hb, k5 b hb, k4 b hb, k3 b hb, k2 b hb, k1 b hb]
end

section
variable {P : Program} {w : World} {K : PySem.W.Frag} {mg : Str → Option Value} {base : Heap}
def sp_most_tokens (K : PySem.W.Frag) : Sp := fun vs H Q _ => ∃ (a dx : Addr) (fs : List (Str × V)) (n : Nat), vs = [.ref a] ∧ H a = some (.ins (He.ga K "Policy") dx fs) ∧ fs.lookup ("max_tokens" : Str) = some (nV n) ∧ Q (nV (n * 1000)) H
theorem sc_most_tokens : FnScope ["policy"] ["policy"] (defScope s_most_tokens) := ⟨rfl, rfl, rfl, by decide +kernel, rfl, by decide +kernel, by decide +kernel⟩
theorem ok_most_tokens (X : Tx K mg) : GF P w K mg base 1 (He.ga K "most_tokens") ["policy"] (sp_most_tokens K) := by
  refine GF.of X.d_most_tokens sc_most_tokens (fun vs H Q E h => ?_) (fun _ _ _ _ _ _ us hl => match us, hl with | [_], _ => rfl) (fun cdv A outer s H vs Q E hr h => ?_)
  · obtain ⟨a, dx, fs, n, rfl, _⟩ := h; rfl
  obtain ⟨a, dx, fs, n, rfl, h⟩ := h
  refine ⟨_, PSs.nox (pss_one (ps_ret (pe_op op_mul (pe_fld (pv 0) rfl) pe_int))), ?_⟩
  obtain ⟨e, l, h⟩ := h
  walk_at "rd"
  refine ⟨a, _, dx, fs, _, rfl, e, X.c_Policy, X.n_Policy_max_tokens, l, ?_⟩
  walk_at "rd"
  have z : (n : Int) * 1000 = ((n * 1000 : Nat) : Int) := by omega
  rw [z]
  exact h
def sp_Client_init (K : PySem.W.Frag) : Sp := fun vs H Q _ => ∃ (p dx po dp : Addr) (fs : List (Str × V)) (n seed bal : Nat), vs = [.ref p, nV seed, nV bal, .ref po] ∧ H p = some (.ins (He.ga K "Client") dx []) ∧ H po = some (.ins (He.ga K "Policy") dp fs) ∧ fs.lookup ("max_tokens" : Str) = some (nV n) ∧ p ≠ po ∧
  ∀ H' lb lc la, H' p = some (.ins (He.ga K "Client") dx [("seed", nV seed), ("balancer", nV bal), ("policy", .ref po), ("now", .int 0), ("tokens", nV (n * 1000)), ("pointer", .int 0), ("backends", .ref lb), ("calls", .ref lc), ("attempts", .ref la), ("retries", .int 0), ("hedges", .int 0), ("transparents", .int 0)]) →
    H lb = none → H lc = none → H la = none → lb ≠ lc → lb ≠ la → lc ≠ la → H' lb = some (.lst []) → H' lc = some (.lst []) → H' la = some (.lst []) → (∀ b, b ≠ p → b ≠ lb → b ≠ lc → b ≠ la → H' b = H b) → Q .non H'
theorem sc_Client_init : FnScope ["self", "seed", "balancer", "policy"] ["self", "seed", "balancer", "policy"] (defScope s_Client_init) := ⟨rfl, rfl, rfl, by decide +kernel, rfl, by decide +kernel, by decide +kernel⟩
theorem ok_Client_init (X : Tx K mg) : GF P w K mg base 2 (He.ma K (He.ga K "Client") "__init__") ["self", "seed", "balancer", "policy"] (sp_Client_init K) := by
  refine GF.of X.d_Client_init sc_Client_init (fun vs H Q E h => ?_) (fun _ _ _ _ _ _ us hl => match us, hl with | [_, _, _, _], _ => rfl) (fun cdv A outer s H vs Q E hr h => ?_)
  · obtain ⟨p, dx, po, dp, fs, n, seed, bal, rfl, _⟩ := h; rfl
  obtain ⟨p, dx, po, dp, fs, n, seed, bal, rfl, h⟩ := h
  refine ⟨_, PSs.nox (pss_cons (ps_fld (pv 0) (pv 1) rfl) (pss_cons (ps_fld (pv 0) (pv 2) rfl) (pss_cons (ps_fld (pv 0) (pv 3) rfl) (pss_cons (ps_fld (pv 0) pe_int rfl) (pss_cons (ps_fld (pv 0) (pe_fn (ok_most_tokens X) X.g_most_tokens (hr.mono (by decide)) (pa_cons (pv 3) pa_nil)) rfl) (pss_cons (ps_fld (pv 0) pe_int rfl) (pss_cons (ps_fld (pv 0) (pe_lst pa_nil) rfl) (pss_cons (ps_fld (pv 0) (pe_lst pa_nil) rfl) (pss_cons (ps_fld (pv 0) (pe_lst pa_nil) rfl) (pss_cons (ps_fld (pv 0) pe_int rfl) (pss_cons (ps_fld (pv 0) pe_int rfl) (pss_one (ps_fld (pv 0) pe_int rfl))))))))))))), ?_⟩
  obtain ⟨e0, ep, lp, npo, h⟩ := h
  walk_at "rd"
  refine nwG (fs2 := [("seed", nV seed)]) e0 X.c_Client X.n_Client_seed (by show 0 < 1000; decide) (by kernel_rfl) fun H1 e1 k1 => ?_
  walk_at "rd"
  refine nwG (fs2 := [("seed", nV seed), ("balancer", nV bal)]) e1 X.c_Client X.n_Client_balancer (by show 1 < 1000; decide) (by kernel_rfl) fun H2 e2 k2 => ?_
  walk_at "rd"
  refine nwG (fs2 := [("seed", nV seed), ("balancer", nV bal), ("policy", .ref po)]) e2 X.c_Client X.n_Client_policy (by show 2 < 1000; decide) (by kernel_rfl) fun H3 e3 k3 => ?_
  walk_at "rd"
  refine nwG (fs2 := [("seed", nV seed), ("balancer", nV bal), ("policy", .ref po), ("now", .int 0)]) e3 X.c_Client X.n_Client_now (by show 3 < 1000; decide) (by kernel_rfl) fun H4 e4 k4 => ?_
  walk_at "rd"
  refine ⟨po, dp, fs, n, rfl, (by rw [k4 _ (Ne.symm npo), k3 _ (Ne.symm npo), k2 _ (Ne.symm npo), k1 _ (Ne.symm npo)]; exact ep), lp, ?_⟩
  walk_at "rd"
  refine nwG (fs2 := [("seed", nV seed), ("balancer", nV bal), ("policy", .ref po), ("now", .int 0), ("tokens", nV (n * 1000))]) e4 X.c_Client X.n_Client_tokens (by show 4 < 1000; decide) (by kernel_rfl) fun H5 e5 k5 => ?_
  walk_at "rd"
  refine nwG (fs2 := [("seed", nV seed), ("balancer", nV bal), ("policy", .ref po), ("now", .int 0), ("tokens", nV (n * 1000)), ("pointer", .int 0)]) e5 X.c_Client X.n_Client_pointer (by show 5 < 1000; decide) (by kernel_rfl) fun H6 e6 k6 => ?_
  walk_at "rd"
  refine i_lst0 fun q7 n7 => ?_
  have f6 := (upd_ne (o := .lst []) (ne_of_none e6 n7)).trans e6
  walk_at "rd"
  refine nwG (fs2 := [("seed", nV seed), ("balancer", nV bal), ("policy", .ref po), ("now", .int 0), ("tokens", nV (n * 1000)), ("pointer", .int 0), ("backends", .ref q7)]) f6 X.c_Client X.n_Client_backends (by show 6 < 1000; decide) (by kernel_rfl) fun H7 e7 k7 => ?_
  walk_at "rd"
  refine i_lst0 fun q8 n8 => ?_
  have f7 := (upd_ne (o := .lst []) (ne_of_none e7 n8)).trans e7
  walk_at "rd"
  refine nwG (fs2 := [("seed", nV seed), ("balancer", nV bal), ("policy", .ref po), ("now", .int 0), ("tokens", nV (n * 1000)), ("pointer", .int 0), ("backends", .ref q7), ("calls", .ref q8)]) f7 X.c_Client X.n_Client_calls (by show 7 < 1000; decide) (by kernel_rfl) fun H8 e8 k8 => ?_
  walk_at "rd"
  refine i_lst0 fun q9 n9 => ?_
  have f8 := (upd_ne (o := .lst []) (ne_of_none e8 n9)).trans e8
  walk_at "rd"
  refine nwG (fs2 := [("seed", nV seed), ("balancer", nV bal), ("policy", .ref po), ("now", .int 0), ("tokens", nV (n * 1000)), ("pointer", .int 0), ("backends", .ref q7), ("calls", .ref q8), ("attempts", .ref q9)]) f8 X.c_Client X.n_Client_attempts (by show 8 < 1000; decide) (by kernel_rfl) fun H9 e9 k9 => ?_
  walk_at "rd"
  refine nwG (fs2 := [("seed", nV seed), ("balancer", nV bal), ("policy", .ref po), ("now", .int 0), ("tokens", nV (n * 1000)), ("pointer", .int 0), ("backends", .ref q7), ("calls", .ref q8), ("attempts", .ref q9), ("retries", .int 0)]) e9 X.c_Client X.n_Client_retries (by show 9 < 1000; decide) (by kernel_rfl) fun H10 e10 k10 => ?_
  walk_at "rd"
  refine nwG (fs2 := [("seed", nV seed), ("balancer", nV bal), ("policy", .ref po), ("now", .int 0), ("tokens", nV (n * 1000)), ("pointer", .int 0), ("backends", .ref q7), ("calls", .ref q8), ("attempts", .ref q9), ("retries", .int 0), ("hedges", .int 0)]) e10 X.c_Client X.n_Client_hedges (by show 10 < 1000; decide) (by kernel_rfl) fun H11 e11 k11 => ?_
  walk_at "rd"
  refine nwG (fs2 := [("seed", nV seed), ("balancer", nV bal), ("policy", .ref po), ("now", .int 0), ("tokens", nV (n * 1000)), ("pointer", .int 0), ("backends", .ref q7), ("calls", .ref q8), ("attempts", .ref q9), ("retries", .int 0), ("hedges", .int 0), ("transparents", .int 0)]) e11 X.c_Client X.n_Client_transparents (by show 11 < 1000; decide) (by kernel_rfl) fun H12 e12 k12 => ?_
  walk_at "rd"
  have np7 : q7 ≠ p := fun z => by rw [z, e6] at n7; cases n7
  have np8 : q8 ≠ p := fun z => by rw [z, e7] at n8; cases n8
  have np9 : q9 ≠ p := fun z => by rw [z, e8] at n9; cases n9
  have a7 : H7 q7 = some (.lst []) := by rw [k7 _ np7]; exact upd_same
  have n78 : q7 ≠ q8 := fun z => by rw [← z, a7] at n8; cases n8
  have a78 : H8 q7 = some (.lst []) := by rw [k8 _ np7, upd_ne n78]; exact a7
  have a8 : H8 q8 = some (.lst []) := by rw [k8 _ np8]; exact upd_same
  have n79 : q7 ≠ q9 := fun z => by rw [← z, a78] at n9; cases n9
  have n89 : q8 ≠ q9 := fun z => by rw [← z, a8] at n9; cases n9
  have l6 : ∀ b, b ≠ p → H6 b = H b := fun b hb => by rw [k6 b hb, k5 b hb, k4 b hb, k3 b hb, k2 b hb, k1 b hb]
  have l7 : ∀ b, b ≠ p → b ≠ q7 → H7 b = H b := fun b hb h1 => by rw [k7 b hb, upd_ne h1, l6 b hb]
  have l8 : ∀ b, b ≠ p → b ≠ q7 → b ≠ q8 → H8 b = H b := fun b hb h1 h2 => by rw [k8 b hb, upd_ne h2, l7 b hb h1]
  have l12 : ∀ b, b ≠ p → H12 b = H9 b := fun b hb => by rw [k12 b hb, k11 b hb, k10 b hb]
  refine h H12 q7 q8 q9 e12 (by rw [← l6 _ np7]; exact n7) (by rw [← l7 _ np8 (Ne.symm n78)]; exact n8) (by rw [← l8 _ np9 (Ne.symm n79) (Ne.symm n89)]; exact n9) n78 n79 n89 ?_ ?_ ?_ fun b hb h1 h2 h3 => ?_
  · rw [l12 _ np7, k9 _ np7, upd_ne n79]; exact a78
  · rw [l12 _ np8, k9 _ np8, upd_ne n89]; exact a8
  · rw [l12 _ np9, k9 _ np9]; exact upd_same
  · rw [l12 b hb, k9 b hb, upd_ne h3, l8 b hb h1 h2]
end

section
variable {P : Program} {w : World} {K : PySem.W.Frag} {mg : Str → Option Value} {base : Heap}
/-! ### the budget, the hedge's time, the end of attempts and calls -/
def sp_budget_allows (K : PySem.W.Frag) : Sp := fun vs H Q _ => ∃ (T : List (Addr × Str)) (L : Lo) (c : Client), vs = [.ref L.cl] ∧ St K T L c H ∧ Q (.bl (Kp423.budgetAllows c)) H
theorem budget_is (c : Client) : Kp423.budgetAllows c = (decide (((c.policy.maxTokens * 1000 : Nat) : Int) = 0) || decide (((c.policy.maxTokens * 1000 : Nat) : Int) < 2 * (c.tokens : Int))) := by
  unfold Kp423.budgetAllows
  have e1 : (c.policy.maxTokens == 0) = decide (((c.policy.maxTokens * 1000 : Nat) : Int) = 0) := by
    by_cases h : c.policy.maxTokens = 0
    · simp [h]
    · rw [beq_eq_false_iff_ne.mpr h, decide_eq_false]; omega
  have e2 : decide (c.policy.maxTokens * 1000 < 2 * c.tokens) = decide (((c.policy.maxTokens * 1000 : Nat) : Int) < 2 * (c.tokens : Int)) := by
    refine decide_eq_decide.mpr ?_
    omega
  rw [e1, e2]
theorem sc_budget_allows : FnScope ["client", "most"] ["client"] (defScope s_budget_allows) := ⟨rfl, rfl, rfl, by decide +kernel, rfl, by decide +kernel, by decide +kernel⟩
theorem ok_budget_allows (X : Tx K mg) : GF P w K mg base 2 (He.ga K "budget_allows") ["client"] (sp_budget_allows K) := by
  refine GF.of X.d_budget_allows sc_budget_allows (fun vs H Q E h => ?_) (fun _ _ _ _ _ _ us hl => match us, hl with | [_], _ => rfl) (fun cdv A outer s H vs Q E hr h => ?_)
  · obtain ⟨T, L, c, rfl, _⟩ := h; rfl
  obtain ⟨T, L, c, rfl, h⟩ := h
  refine ⟨_, PSs.nox (pss_cons (ps_set (i := 1) sc_budget_allows.nd rfl (Or.inl rfl) (pe_fn (ok_most_tokens X) X.g_most_tokens (hr.mono (by decide)) (pa_cons (pe_fld (pv 0) rfl) pa_nil))) (pss_one (ps_ret (pe_or (pe_cmpR op_eq (pv 1) pe_int (nomark _)) (pe_one (pe_cmpR op_gt (pe_op op_mul pe_int (pe_fld (pv 0) rfl)) (pv 1) (nomark _))))))), ?_⟩
  obtain ⟨S, h⟩ := h
  rw [budget_is] at h
  walk_at "rd"
  obtain ⟨dp, ep⟩ := S.has .po _ rfl
  refine ⟨_, dp, _, _, rfl, ep, l_po_max_tokens, ?_⟩
  walk_at "rd"
  refine ite_dec (fun h1 => ?_) fun h1 => ?_
  · rw [decide_eq_true h1, Bool.true_or] at h
    exact h
  · walk_at "rd"
    rw [decide_eq_false h1, Bool.false_or] at h
    exact h
def hedgeT (c : Client) (x : RemoteCall) : Option Nat := if c.policy.hedgeDelay ≠ 0 ∧ x.idempotent = true ∧ x.counted < c.policy.maxAttempts then some (c.now + c.policy.hedgeDelay) else none
def sp_hedge_time (K : PySem.W.Frag) : Sp := fun vs H Q _ => ∃ (T : List (Addr × Str)) (L : Lo) (c : Client) (i : Nat), vs = [.ref L.cl, .ref (L.ca i)] ∧ St K T L c H ∧ i < c.calls.length ∧ Q (optV (hedgeT c (callAt c i))) H
theorem sc_hedge_time : FnScope ["client", "call", "policy"] ["client", "call"] (defScope s_hedge_time) := ⟨rfl, rfl, rfl, by decide +kernel, rfl, by decide +kernel, by decide +kernel⟩
theorem ok_hedge_time (X : Tx K mg) : GF P w K mg base 1 (He.ga K "hedge_time") ["client", "call"] (sp_hedge_time K) := by
  refine GF.of X.d_hedge_time sc_hedge_time (fun vs H Q E h => ?_) (fun _ _ _ _ _ _ us hl => match us, hl with | [_, _], _ => rfl) (fun cdv A outer s H vs Q E hr h => ?_)
  · obtain ⟨T, L, c, i, rfl, _⟩ := h; rfl
  obtain ⟨T, L, c, i, rfl, h⟩ := h
  refine ⟨_, PSs.nox (pss_cons (ps_set (i := 2) sc_hedge_time.nd rfl (Or.inl rfl) (pe_fld (pv 0) rfl)) (pss_cons (ps_if (PW.pt (pw_or (pt_cmpR op_eq (pe_fld (pv 2) rfl) pe_int (nomark _)) (pw_or (pt_not (pt_val (pe_fld (pv 1) rfl))) (pw_or1 (pt_cmpR op_ge (pe_fld (pv 1) rfl) (pe_fld (pv 2) rfl) (nomark _)))))) (pss_one (ps_ret pe_non)) pss_nil) (pss_one (ps_ret (pe_op op_add (pe_fld (pv 0) rfl) (pe_fld (pv 2) rfl)))))), ?_⟩
  obtain ⟨S, hi, h⟩ := h
  walk_at "rd"
  refine i_seq ?_
  walk_at "rd"
  refine ite_dec (fun h1 => ?_) fun h1 => ?_
  · walk_at "rd"
    have e : hedgeT c (callAt c i) = none := if_neg fun q => q.1 (by omega)
    rw [e] at h; exact h
  have h1' : c.policy.hedgeDelay ≠ 0 := fun z => h1 (by rw [z]; rfl)
  walk_at "rd"
  cases hd : (callAt c i).idempotent with
  | false =>
    rw [if_pos (show (!false) = true from rfl)]
    walk_at "rd"
    have e : hedgeT c (callAt c i) = none := if_neg fun q => by rw [hd] at q; exact absurd q.2.1 (by decide)
    rw [e] at h; exact h
  | true =>
    rw [if_neg (show ¬ ((!true) = true) by decide)]
    walk_at "rd"
    refine ite_dec (fun h2 => ?_) fun h2 => ?_
    · walk_at "rd"
      have e : hedgeT c (callAt c i) = none := if_neg fun q => by have := q.2.2; omega
      rw [e] at h; exact h
    · walk_at "rd"
      have e : hedgeT c (callAt c i) = some (c.now + c.policy.hedgeDelay) := if_pos ⟨h1', hd, by omega⟩
      rw [e] at h
      exact h
def sp_stop_attempt (K : PySem.W.Frag) : Sp := fun vs H Q _ => ∃ (T : List (Addr × Str)) (L : Lo) (c : Client) (j : Nat) (st : AttemptState), vs = [.ref (L.att j), nV (stN st)] ∧ St K T L c H ∧ j < c.attempts.length ∧ (attemptAt c j).backend < c.backends.length ∧ 1 ≤ (backendAt c (attemptAt c j).backend).outstanding ∧ stS st = stS (attemptAt c j).state ∧
  ∀ H', Nxt K T L c H L (HM.stopped c j st) H' → Q .non H'
theorem sc_stop_attempt : FnScope ["attempt", "state", "backend"] ["attempt", "state"] (defScope s_stop_attempt) := ⟨rfl, rfl, rfl, by decide +kernel, rfl, by decide +kernel, by decide +kernel⟩
theorem ok_stop_attempt (X : Tx K mg) : GF P w K mg base 1 (He.ga K "stop_attempt") ["attempt", "state"] (sp_stop_attempt K) := by
  refine GF.of X.d_stop_attempt sc_stop_attempt (fun vs H Q E h => ?_) (fun _ _ _ _ _ _ us hl => match us, hl with | [_, _], _ => rfl) (fun cdv A outer s H vs Q E hr h => ?_)
  · obtain ⟨T, L, c, j, st, rfl, _⟩ := h; rfl
  obtain ⟨T, L, c, j, st, rfl, h⟩ := h
  refine ⟨_, PSs.nox (pss_cons (ps_fld (pv 0) (pv 1) rfl) (pss_cons (ps_set (i := 2) sc_stop_attempt.nd rfl (Or.inl rfl) (pe_fld (pv 0) rfl)) (pss_one (ps_fldaug (pv 2) pe_int in_sub)))), ?_⟩
  obtain ⟨S, hj, hb, ho, hs, h⟩ := h
  walk_at "rd"
  refine w_at_state ‹_› S hj hs fun H1 n1 => ?_
  have hj1 : j < (setAttempt c j { attemptAt c j with state := st }).attempts.length := by rw [HM.setAttempt_len]; exact hj
  have S1 := n1.st
  walk_at "rd"
  have ea : (attemptAt (setAttempt c j { attemptAt c j with state := st }) j).backend = (attemptAt c j).backend := by rw [HM.attemptAt_self hj]
  rw [ea]
  have hb1 : (attemptAt c j).backend < (setAttempt c j { attemptAt c j with state := st }).backends.length := hb
  walk_at "rd"
  refine v_bk_outstanding S1 hb1 ((backendAt c (attemptAt c j).backend).outstanding - 1) (by show ((backendAt c (attemptAt c j).backend).outstanding : Int) - 1 = _; omega) fun H2 n2 => ?_
  exact h _ (n1.trans n2)

def sp_end_call (K : PySem.W.Frag) : Sp := fun vs H Q _ => ∃ (T : List (Addr × Str)) (L : Lo) (c : Client) (i s : Nat), vs = [.ref L.cl, .ref (L.ca i), nV s] ∧ St K T L c H ∧ HM.Acc c ∧ c.attempts.length ≤ 1000000 ∧ i < c.calls.length ∧
  ∀ H', Nxt K T L c H L (Kp423.finishCall c i s) H' → Q .non H'
theorem sc_end_call : FnScope ["client", "call", "status", "attempt"] ["client", "call", "status"] (defScope s_end_call) := ⟨rfl, rfl, rfl, by decide +kernel, rfl, by decide +kernel, by decide +kernel⟩
theorem ok_end_call (X : Tx K mg) : GF P w K mg base 2 (He.ga K "end_call") ["client", "call", "status"] (sp_end_call K) := by
  refine GF.of X.d_end_call sc_end_call (fun vs H Q E h => ?_) (fun _ _ _ _ _ _ us hl => match us, hl with | [_, _, _], _ => rfl) (fun cdv A outer s H vs Q E hr h => ?_)
  · obtain ⟨T, L, c, i, s, rfl, _⟩ := h; rfl
  obtain ⟨T, L, c, i, s, rfl, h⟩ := h
  refine ⟨_, PSs.nox (pss_cons (ps_fld (pv 1) (pv 2) rfl) (pss_cons (ps_fld (pv 1) (pe_fld (pv 0) rfl) rfl) (pss_cons (ps_fld (pv 1) pe_non rfl) (pss_cons (ps_fld (pv 1) pe_non rfl) (pss_one (ps_for PassesOwn.never rfl (pi_list (pe_fn (ok_running_among X) X.g_running_among (hr.mono (by decide)) (pa_cons (pe_fld (pv 1) rfl) pa_nil))) (pg_name (i := 3) sc_end_call.nd rfl (Or.inl rfl)) (pss_one (ps_expr (pe_fn (ok_stop_attempt X) X.g_stop_attempt (hr.mono (by decide)) (pa_cons (pv 3) (pa_cons (pe_gi X.i_CANCELLED_STATE) pa_nil))))))))))), ?_⟩
  obtain ⟨S, ac, hz, hi, h⟩ := h
  walk_at "rd"
  refine w_ca_status (y := some s) ‹_› S hi fun H1 n1 => ?_
  have S1 := n1.st
  walk_at "rd"
  refine w_ca_finished_at (y := c.now) ‹_› S1 (by rw [HM.setCall_len]; exact hi) fun H2 n2 => ?_
  have m2 := n1.trans n2
  rw [HM.callAt_self hi, HM.setCall_setCall] at m2
  have S2 := m2.st
  walk_at "rd"
  refine w_ca_retry_at (y := none) ‹_› S2 (by rw [HM.setCall_len]; exact hi) fun H3 n3 => ?_
  have m3 := m2.trans n3
  rw [HM.callAt_self hi, HM.setCall_setCall] at m3
  have S3 := m3.st
  walk_at "rd"
  refine w_ca_hedge_at (y := none) ‹_› S3 (by rw [HM.setCall_len]; exact hi) fun H4 n4 => ?_
  have m4 := m3.trans n4
  rw [HM.callAt_self hi, HM.setCall_setCall] at m4
  obtain ⟨c4, hc4⟩ : ∃ c4, c4 = setCall c i { callAt c i with status := some s, finishedAt := c.now, retryAt := none, hedgeAt := none } := ⟨_, rfl⟩
  have m4 : Nxt K T L c H L c4 H4 := by rw [hc4]; exact m4
  clear m3 m2 n4 n3 n2 n1 S1 S2 S3
  have S4 := m4.st
  have hi4 : i < c4.calls.length := by rw [hc4, HM.setCall_len]; exact hi
  have hz4 : c4.attempts.length ≤ 1000000 := by rw [hc4]; exact hz
  have ac4 : HM.Acc c4 := by rw [hc4]; exact ac.setCall
  have hf : Kp423.finishCall c i s = (Kp423.runningOf c4 i).foldl Kp423.cancelAttempt c4 := by rw [hc4]; rfl
  walk_at "rd"
  have hlen : (HC.atsOf c4 i).length ≤ 1000000 := by
    have z := List.length_filter_le (fun a => (attemptAt c4 a).call == i) (List.range c4.attempts.length)
    rw [List.length_range] at z
    exact Nat.le_trans z hz4
  refine ⟨T, L, c4, L.al i, atsOf c4 i, rfl, S4, S4.lsL hi4, hlen, fun j hj => List.mem_range.mp (List.mem_filter.mp hj).1, fun D nD => ?_⟩
  have hjs : ((atsOf c4 i).filter fun j => Kp423.isRunning (attemptAt c4 j)) = Kp423.runningOf c4 i := (HM.runningOf_eq c4 i).symm
  rw [hjs]
  obtain ⟨js, hjs⟩ : ∃ js, js = Kp423.runningOf c4 i := ⟨_, rfl⟩
  rw [← hjs] at hf ⊢
  have nd : js.Nodup := hjs ▸ HM.running_nodup c4 i
  have mem : ∀ a ∈ js, a < c4.attempts.length ∧ Kp423.isRunning (attemptAt c4 a) = true ∧ (attemptAt c4 a).call = i := fun a ha => HM.running_mem (hjs ▸ ha)
  have S5 := S4.new (u := .lst (js.map fun j => .ref (L.att j))) nD
  have oD : Off L c4 D := Off.of_none S4 nD
  have a5 : upd H4 D (.lst (js.map fun j => .ref (L.att j))) D = some (.lst (js.map fun j => .ref (L.att j))) := upd_same
  have fin : ∀ H', Nxt K T L c4 (upd H4 D (.lst (js.map fun j => .ref (L.att j)))) L (js.foldl Kp423.cancelAttempt c4) H' → Q .non H' := fun H' n => by
    refine h H' ?_
    rw [hf]
    exact m4.trans (Nxt.ahead S4 nD n)
  generalize upd H4 D (.lst (js.map fun j => .ref (L.att j))) = H5 at S5 a5 fin ⊢
  refine ForR.of (xs := js.map fun j => .ref (L.att j)) (SqL.of a5) (fun k σ' H' => (∃ x, σ' = [some (.ref L.cl), some (.ref (L.ca i)), some (nV s), x]) ∧ Nxt K T L c4 H5 L ((js.take k).foldl Kp423.cancelAttempt c4) H') ⟨⟨none, rfl⟩, Nxt.refl S5⟩ ?_ ?_ ?_
  · rintro k σ' H' _ ⟨_, n⟩
    exact SqL.of (n.keep _ _ a5 oD fun ps z => by cases z)
  · rintro k x σ' H' hx ⟨⟨x0, rfl⟩, n⟩
    obtain ⟨j, hj, rfl⟩ : ∃ j, js[k]? = some j ∧ x = .ref (L.att j) := by
      rw [List.getElem?_map] at hx
      cases q : js[k]? with
      | none => rw [q] at hx; cases hx
      | some j => rw [q] at hx; exact ⟨j, rfl, (Option.some.inj hx).symm⟩
    have hjm : j ∈ js := List.mem_of_getElem? hj
    have ht : js.take (k + 1) = js.take k ++ [j] := by rw [List.take_add_one, hj]; rfl
    obtain ⟨m1, m2, m3⟩ := mem j hjm
    have hnot : j ∉ js.take k := fun z => by
      obtain ⟨q, hq, e⟩ := List.getElem_of_mem z
      rw [List.length_take] at hq
      rw [List.getElem_take] at e
      have hk : k < js.length := (List.getElem?_eq_some_iff.mp hj).1
      have e2 : js[k] = j := (List.getElem?_eq_some_iff.mp hj).2
      have := (List.getElem_inj nd).mp (e.trans e2.symm)
      omega
    have hkeep := HM.cancels_keep (js.take k) c4 j hnot
    obtain ⟨l1, l2, l3⟩ := HM.cancels_len (js.take k) c4
    have ack := HM.Acc.cancels (js.take k) ac4 (nd.sublist (List.take_sublist k js)) fun a ha => ⟨(mem a (List.mem_of_mem_take ha)).1, (mem a (List.mem_of_mem_take ha)).2.1⟩
    walk_at "rd"
    refine ⟨T, L, _, j, .cancelled, rfl, n.st, by rw [l1]; exact m1, (ack.idx j (by rw [l1]; exact m1)).2, ack.pos (by rw [l1]; exact m1) (by rw [hkeep]; exact m2), by rw [hkeep, HM.isRunning_state m2]; rfl, fun H2 n2 => ?_⟩
    walk_at "rd"
    refine ⟨⟨_, rfl⟩, ?_⟩
    rw [ht, List.foldl_append]
    exact n.trans n2
  · rintro σ' H' ⟨_, n⟩
    refine fin H' ?_
    rw [List.length_map, List.take_length] at n
    exact n
end

section
variable {P : Program} {w : World} {K : PySem.W.Frag} {mg : Str → Option Value} {base : Heap}
/-! ### ejection -/
/-- a policy that create lets pass -/
structure Pol (p : Kp423.Policy) : Prop where
  bal : p.balancer ≤ 3
  ma1 : 1 ≤ p.maxAttempts
  ma : p.maxAttempts ≤ 5
  ib : p.initialBackoff ≤ 10000
  mb : p.maxBackoff ≤ 100000
  mu1 : 100 ≤ p.multiplier
  mu : p.multiplier ≤ 1000
  et : p.ejectionTime ≤ 100000
  ep : p.ejectionPercent ≤ 100
  mt : p.maxTokens ≤ 1000
  rl : p.retryable.length ≤ 16
def sp_room_for_ejection (K : PySem.W.Frag) : Sp := fun vs H Q _ => ∃ (T : List (Addr × Str)) (L : Lo) (c : Client), vs = [.ref L.cl] ∧ St K T L c H ∧ Sz c ∧
  ∀ H', MM.Ext H H' → Q (.bl (decide (Kp423.ejectedCount c < Kp423.ejectionLimit c))) H'
theorem sc_room_for_ejection : FnScope ["client", "active", "ejected", "backend"] ["client"] (defScope s_room_for_ejection) := ⟨rfl, rfl, rfl, by decide +kernel, rfl, by decide +kernel, by decide +kernel⟩
theorem ok_room_for_ejection (X : Tx K mg) : GF P w K mg base 2 (He.ga K "room_for_ejection") ["client"] (sp_room_for_ejection K) := by
  refine GF.of X.d_room_for_ejection sc_room_for_ejection (fun vs H Q E h => ?_) (fun _ _ _ _ _ _ us hl => match us, hl with | [_], _ => rfl) (fun cdv A outer s H vs Q E hr h => ?_)
  · obtain ⟨T, L, c, rfl, _⟩ := h; rfl
  obtain ⟨T, L, c, rfl, h⟩ := h
  refine ⟨_, PSs.nox (pss_cons (ps_set (i := 1) sc_room_for_ejection.nd rfl (Or.inl rfl) (pe_fn (ok_active_backends X) X.g_active_backends (hr.mono (by decide)) (pa_cons (pv 0) pa_nil))) (pss_cons (ps_setLc (i := 2) (own := [("backend", 3)]) (g := gName 3) (tt := (tB (tCall (sp_is_ejected K) [] L2.E0 (tCons (tVar 0) (tCons (tVar 3) tNil))))) (te := (tVar 3)) (by rfl) sc_room_for_ejection.nd rfl rfl (sw_true rfl rfl rfl (by decide +kernel)) (pi_list (pv 1)) (blkOk_by (own := [("backend", 3)]) (N := ["client", "active", "ejected", "backend"]) (sc := defScope s_room_for_ejection) (by decide +kernel)) (fun _ _ _ _ _ => pg_name (i := 3) sc_room_for_ejection.nd rfl (Or.inl rfl)) (fun _ _ _ _ _ => (pts_one (pt_val (pe_fn (ok_is_ejected X) X.g_is_ejected (hr.mono (by decide)) (pa_cons (pv 0) (pa_cons (pv 3) pa_nil)))))) (fun _ _ _ _ _ => (pv 3))) (pss_one (ps_ret (pe_cmpR op_lt (pe_callB call_len_seq (by rfl) X.b_len PySem.boot_len (pa_cons (pv 2) pa_nil)) (pe_op op_fdiv (pe_op op_mul (pe_callB call_len_seq (by rfl) X.b_len PySem.boot_len (pa_cons (pv 1) pa_nil)) (pe_fld (pe_fld (pv 0) rfl) rfl)) pe_int) (nomark _)))))), ?_⟩
  obtain ⟨S, hz, h⟩ := h
  have hb := hz.bs
  have hal := active_len c
  walk_at "rd"
  refine ⟨T, L, c, rfl, S, hz, fun D1 n1 => ?_⟩
  have S1 := S.new (u := .lst ((Kp423.activeBackends c).map fun i => .ref (L.bk i))) n1
  have e1 := ext_new (u := .lst ((Kp423.activeBackends c).map fun i => .ref (L.bk i))) n1
  have a1 : upd H D1 (.lst ((Kp423.activeBackends c).map fun i => .ref (L.bk i))) D1 = some (.lst ((Kp423.activeBackends c).map fun i => .ref (L.bk i))) := upd_same
  generalize upd H D1 (.lst ((Kp423.activeBackends c).map fun i => .ref (L.bk i))) = H1 at S1 e1 a1 ⊢
  walk_at "rd"
  refine lc_part (js := Kp423.activeBackends c) (A := fun i => .ref (L.bk i)) (y := fun i => .ref (L.bk i)) (p := Kp423.isEjected c) (SqL.of a1) (small_size (by omega)) (fun v => rfl) (fun j hj D ys Q' hD q => ?_) (fun j hj hp D ys Q' hD q => ?_) fun D2 n2 => ?_
  · have hj2 := active_lt hj
    have S2 := S1.new (u := .lst ys) hD
    walk_at "rd"
    refine ⟨T, L, c, j, rfl, S2, hj2, ?_⟩
    walk_at "rd"
    exact q
  · walk_at "rd"
    exact q
  have e2 := ext_new2 (u := .lst (((Kp423.activeBackends c).filter (Kp423.isEjected c)).map fun i => .ref (L.bk i))) e1 n2
  have S2 := S1.new (u := .lst (((Kp423.activeBackends c).filter (Kp423.isEjected c)).map fun i => .ref (L.bk i))) n2
  have b1 : upd H1 D2 (.lst (((Kp423.activeBackends c).filter (Kp423.isEjected c)).map fun i => .ref (L.bk i))) D1 = some (.lst ((Kp423.activeBackends c).map fun i => .ref (L.bk i))) := by rw [upd_ne (ne_of_none a1 n2)]; exact a1
  have b2 : upd H1 D2 (.lst (((Kp423.activeBackends c).filter (Kp423.isEjected c)).map fun i => .ref (L.bk i))) D2 = some (.lst (((Kp423.activeBackends c).filter (Kp423.isEjected c)).map fun i => .ref (L.bk i))) := upd_same
  generalize upd H1 D2 (.lst (((Kp423.activeBackends c).filter (Kp423.isEjected c)).map fun i => .ref (L.bk i))) = H2 at S2 e2 b1 b2 ⊢
  walk_at "rd"
  refine ⟨_, _, rfl, .inl (SqL.of b2), ?_⟩
  walk_at "rd"
  refine ⟨_, _, rfl, .inl (SqL.of b1), ?_⟩
  walk_at "rd"
  refine i_rI (Or.inl ⟨?_, ?_⟩) ?_
  · rw [List.length_map]; omega
  · rw [List.length_map]; omega
  walk_at "rd"
  have z := h H2 e2
  have ez : decide (Kp423.ejectedCount c < Kp423.ejectionLimit c) = decide (((List.map (fun i => V.ref (L.bk i)) (List.filter (Kp423.isEjected c) (Kp423.activeBackends c))).length : Int) < ((List.map (fun i => V.ref (L.bk i)) (Kp423.activeBackends c)).length : Int) * (c.policy.ejectionPercent : Int) / 100) := by
    rw [List.length_map, List.length_map]
    unfold Kp423.ejectedCount Kp423.ejectionLimit
    rw [List.countP_eq_length_filter]
    refine decide_eq_decide.mpr ?_
    omega
  rw [ez] at z
  exact z
def sp_eject (K : PySem.W.Frag) : Sp := fun vs H Q _ => ∃ (T : List (Addr × Str)) (L : Lo) (c : Client) (i : Nat), vs = [.ref L.cl, .ref (L.bk i)] ∧ St K T L c H ∧ Pol c.policy ∧ i < c.backends.length ∧
  ∀ H', Nxt K T L c H L (setBackend c i { backendAt c i with failures := 0, ejections := (backendAt c i).ejections + 1, ejectedUntil := some (c.now + c.policy.ejectionTime * ((backendAt c i).ejections + 1)) }) H' → Q .non H'
theorem sc_eject : FnScope ["client", "backend"] ["client", "backend"] (defScope s_eject) := ⟨rfl, rfl, rfl, by decide +kernel, rfl, by decide +kernel, by decide +kernel⟩
theorem ok_eject (X : Tx K mg) : GF P w K mg base 1 (He.ga K "eject") ["client", "backend"] (sp_eject K) := by
  refine GF.of X.d_eject sc_eject (fun vs H Q E h => ?_) (fun _ _ _ _ _ _ us hl => match us, hl with | [_, _], _ => rfl) (fun cdv A outer s H vs Q E hr h => ?_)
  · obtain ⟨T, L, c, i, rfl, _⟩ := h; rfl
  obtain ⟨T, L, c, i, rfl, h⟩ := h
  refine ⟨_, PSs.nox (pss_cons (ps_fldaug (pv 1) pe_int in_add) (pss_cons (ps_fld (pv 1) (pe_op op_add (pe_fld (pv 0) rfl) (pe_op op_mul (pe_fld (pe_fld (pv 0) rfl) rfl) (pe_fld (pv 1) rfl))) rfl) (pss_one (ps_fld (pv 1) pe_int rfl)))), ?_⟩
  obtain ⟨S, hp, hi, h⟩ := h
  walk_at "rd"
  refine v_bk_ejections S hi ((backendAt c i).ejections + 1) (by omega) fun H1 n1 => ?_
  have S1 := n1.st
  have hi1 : i < (setBackend c i { backendAt c i with ejections := (backendAt c i).ejections + 1 }).backends.length := by rw [HM.setBackend_len]; exact hi
  walk_at "rd"
  rw [HM.backendAt_self hi]
  refine i_rI (Or.inl ⟨?_, ?_⟩) ?_
  · have := hp.et
    show -(2 ^ 64) < (c.policy.ejectionTime : Int); omega
  · have := hp.et
    show (c.policy.ejectionTime : Int) < 2 ^ 64; omega
  walk_at "rd"
  have ez : ((c.now : Int) + (c.policy.ejectionTime : Int) * (((backendAt c i).ejections + 1 : Nat) : Int)) = ((c.now + c.policy.ejectionTime * ((backendAt c i).ejections + 1) : Nat) : Int) := by
    simp only [Int.natCast_add, Int.natCast_mul]
  have ez2 : V.int ((c.now : Int) + (c.policy.ejectionTime : Int) * (((backendAt c i).ejections + 1 : Nat) : Int)) = nV (c.now + c.policy.ejectionTime * ((backendAt c i).ejections + 1)) := congrArg V.int ez
  refine w_bk_ejected_until (y := c.now + c.policy.ejectionTime * ((backendAt c i).ejections + 1)) X S1 hi1 (fun H2 n2 => ?_) |> cast (by rw [← ez2]; rfl)
  have m2 := n1.trans n2
  rw [HM.backendAt_self hi, HM.setBackend_setBackend] at m2
  have S2 := m2.st
  walk_at "rd"
  refine w_bk_failures (y := 0) X S2 (by rw [HM.setBackend_len]; exact hi) fun H3 n3 => ?_
  have m3 := m2.trans n3
  rw [HM.backendAt_self hi, HM.setBackend_setBackend] at m3
  walk_at "rd"
  exact h _ m3
end

section
variable {P : Program} {w : World} {K : PySem.W.Frag} {mg : Str → Option Value} {base : Heap}
/-! ### a backend's failure -/
theorem act_same {c c' : Client} (hl : c'.backends.length = c.backends.length) (h : ∀ j, (backendAt c' j).active = (backendAt c j).active) : Kp423.activeBackends c' = Kp423.activeBackends c := by
  unfold Kp423.activeBackends
  rw [hl]
  exact List.filter_congr fun j _ => h j
theorem ej_same {c c' : Client} (hn : c'.now = c.now) {j : Nat} (h : (backendAt c' j).ejectedUntil = (backendAt c j).ejectedUntil) : Kp423.isEjected c' j = Kp423.isEjected c j := by
  unfold Kp423.isEjected
  rw [hn, h]
theorem ejc_same {c c' : Client} (ha : Kp423.activeBackends c' = Kp423.activeBackends c) (he : ∀ j, Kp423.isEjected c' j = Kp423.isEjected c j) : Kp423.ejectedCount c' = Kp423.ejectedCount c := by
  unfold Kp423.ejectedCount
  rw [ha]
  exact List.countP_congr fun j _ => by rw [he]
def sp_note_failure (K : PySem.W.Frag) : Sp := fun vs H Q _ => ∃ (T : List (Addr × Str)) (L : Lo) (c : Client) (i : Nat), vs = [.ref L.cl, .ref (L.bk i)] ∧ St K T L c H ∧ Sz c ∧ Pol c.policy ∧ i < c.backends.length ∧
  ∀ H', Nxt K T L c H L (Kp423.noteFailure c i) H' → Q .non H'
theorem sc_note_failure : FnScope ["client", "backend", "threshold"] ["client", "backend"] (defScope s_note_failure) := ⟨rfl, rfl, rfl, by decide +kernel, rfl, by decide +kernel, by decide +kernel⟩
theorem ok_note_failure (X : Tx K mg) : GF P w K mg base 3 (He.ga K "note_failure") ["client", "backend"] (sp_note_failure K) := by
  refine GF.of X.d_note_failure sc_note_failure (fun vs H Q E h => ?_) (fun _ _ _ _ _ _ us hl => match us, hl with | [_, _], _ => rfl) (fun cdv A outer s H vs Q E hr h => ?_)
  · obtain ⟨T, L, c, i, rfl, _⟩ := h; rfl
  obtain ⟨T, L, c, i, rfl, h⟩ := h
  refine ⟨_, PSs.nox (pss_cons (ps_fldaug (pv 1) pe_int in_add) (pss_cons (ps_set (i := 2) sc_note_failure.nd rfl (Or.inl rfl) (pe_fld (pe_fld (pv 0) rfl) rfl)) (pss_cons (ps_if (PW.pt (pw_or (pt_cmpR op_eq (pv 2) pe_int (nomark _)) (pw_or1 (pt_cmpR op_lt (pe_fld (pv 1) rfl) (pv 2) (nomark _))))) (pss_one ps_retN) pss_nil) (pss_one (ps_if (PW.pt (pw_and (pt_val (pe_fn (ok_is_available X) X.g_is_available (hr.mono (by decide)) (pa_cons (pv 0) (pa_cons (pv 1) pa_nil)))) (pw_and1 (pt_val (pe_fn (ok_room_for_ejection X) X.g_room_for_ejection (hr.mono (by decide)) (pa_cons (pv 0) pa_nil)))))) (pss_one (ps_expr (pe_fn (ok_eject X) X.g_eject (hr.mono (by decide)) (pa_cons (pv 0) (pa_cons (pv 1) pa_nil))))) pss_nil))))), ?_⟩
  obtain ⟨S, hz, hp, hi, h⟩ := h
  walk_at "rd"
  refine v_bk_failures S hi ((backendAt c i).failures + 1) (by omega) fun H1 n1 => ?_
  have S1 := n1.st
  have hi1 : i < (setBackend c i { backendAt c i with failures := (backendAt c i).failures + 1 }).backends.length := by rw [HM.setBackend_len]; exact hi
  have hb1 : ∀ j, (backendAt (setBackend c i { backendAt c i with failures := (backendAt c i).failures + 1 }) j).active = (backendAt c j).active := fun j => by
    rw [HM.backendAt_set]; split
    · rename_i q; rw [q.1]
    · rfl
  have hb2 : ∀ j, (backendAt (setBackend c i { backendAt c i with failures := (backendAt c i).failures + 1 }) j).ejectedUntil = (backendAt c j).ejectedUntil := fun j => by
    rw [HM.backendAt_set]; split
    · rename_i q; rw [q.1]
    · rfl
  have ea := act_same (c := c) (c' := setBackend c i { backendAt c i with failures := (backendAt c i).failures + 1 }) HM.setBackend_len hb1
  have ee : ∀ j, Kp423.isEjected (setBackend c i { backendAt c i with failures := (backendAt c i).failures + 1 }) j = Kp423.isEjected c j := fun j => ej_same (c := c) (c' := setBackend c i { backendAt c i with failures := (backendAt c i).failures + 1 }) rfl (hb2 j)
  have ec := ejc_same ea ee
  have el : Kp423.ejectionLimit (setBackend c i { backendAt c i with failures := (backendAt c i).failures + 1 }) = Kp423.ejectionLimit c := by unfold Kp423.ejectionLimit; rw [ea]; rfl
  have ef : (backendAt (setBackend c i { backendAt c i with failures := (backendAt c i).failures + 1 }) i) = { backendAt c i with failures := (backendAt c i).failures + 1 } := HM.backendAt_self hi
  have z1 : Sz (setBackend c i { backendAt c i with failures := (backendAt c i).failures + 1 }) := ⟨by rw [HM.setBackend_len]; exact hz.bs, hz.cs, hz.ats⟩
  have sid : ∀ x, setBackend (setBackend c i { backendAt c i with failures := (backendAt c i).failures + 1 }) i x = setBackend c i x := fun x => HM.setBackend_setBackend
  have pol1 : (setBackend c i { backendAt c i with failures := (backendAt c i).failures + 1 }).policy = c.policy := rfl
  have now1 : (setBackend c i { backendAt c i with failures := (backendAt c i).failures + 1 }).now = c.now := rfl
  have no : ¬ (c.policy.threshold ≠ 0 ∧ c.policy.threshold ≤ (backendAt c i).failures + 1 ∧ (backendAt c i).active = true ∧ Kp423.isEjected c i = false ∧ Kp423.ejectedCount c < Kp423.ejectionLimit c) → ∀ H', Nxt K T L c H L (setBackend c i { backendAt c i with failures := (backendAt c i).failures + 1 }) H' → Q .non H' := fun q H' n => by
    refine h H' ?_
    have e : Kp423.noteFailure c i = setBackend c i { backendAt c i with failures := (backendAt c i).failures + 1 } := if_neg q
    rw [e]; exact n
  generalize setBackend c i { backendAt c i with failures := (backendAt c i).failures + 1 } = c1 at *
  walk_at "rd"
  refine i_seq ?_
  walk_at "rd"
  rw [pol1]
  refine ite_dec (fun h1 => ?_) fun h1 => ?_
  · walk_at "rd"
    exact no (fun q => q.1 (by omega)) _ n1
  walk_at "rd"
  rw [ef]
  refine ite_dec (fun h2 => ?_) fun h2 => ?_
  · walk_at "rd"
    exact no (fun q => by have := q.2.1; have h2 : (((backendAt c i).failures + 1 : Nat) : Int) < (c.policy.threshold : Int) := h2; omega) _ n1
  walk_at "rd"
  refine ⟨T, L, c1, i, rfl, S1, hi1, ?_⟩
  walk_at "rd"
  have hav : avail c1 i = ((backendAt c i).active && !Kp423.isEjected c i) := by unfold avail; rw [hb1, ee]
  rw [hav]
  refine ite_bool (fun h3 => ?_) (fun h3 => ?_)
  · rw [Bool.and_eq_true, Bool.not_eq_true'] at h3
    walk_at "rd"
    refine ⟨T, L, c1, rfl, S1, z1, fun H2 x2 => ?_⟩
    walk_at "rd"
    rw [ec, el]
    have n2 := n1.trans (Nxt.ext S1 x2)
    refine ite_dec (fun h4 => ?_) fun h4 => ?_
    · walk_at "rd"
      refine ⟨T, L, c1, i, rfl, n2.st, by rw [pol1]; exact hp, hi1, fun H3 n3 => ?_⟩
      walk_at "rd"
      refine h H3 ?_
      have e : Kp423.noteFailure c i = setBackend c i { backendAt c i with failures := 0, ejections := (backendAt c i).ejections + 1, ejectedUntil := some (c.now + c.policy.ejectionTime * ((backendAt c i).ejections + 1)) } := if_pos ⟨fun q => h1 (by rw [q]; rfl), by
        have h2 : ¬ ((((backendAt c i).failures + 1 : Nat) : Int) < (c.policy.threshold : Int)) := h2
        omega, h3.1, h3.2, h4⟩
      rw [e]
      have m := n2.trans n3
      rw [sid, ef, pol1, now1] at m
      exact m
    · walk_at "rd"
      exact no (fun q => h4 q.2.2.2.2) _ n2
  · walk_at "rd"
    exact no (fun q => by rw [q.2.2.1, q.2.2.2.1] at h3; exact absurd h3 (by decide)) _ n1
end

section
variable {P : Program} {w : World} {K : PySem.W.Frag} {mg : Str → Option Value} {base : Heap}
/-! ### the balancer's memory -/
theorem choose_is (c : Client) (hb : c.policy.balancer ≤ 3) (key : Nat) (tried : List Nat) : Kp423.choose c key tried = (picked c key (Kp423.candidates c tried)).map fun i => (i, HM.moved c (Kp423.candidates c tried) i) := by
  unfold Kp423.choose picked HM.moved
  have h : c.policy.balancer = 0 ∨ c.policy.balancer = 1 ∨ c.policy.balancer = 2 ∨ c.policy.balancer = 3 := by omega
  rcases h with h | h | h | h
  · rw [h]
    dsimp only
    cases (Kp423.candidates c tried).find? fun i => decide (c.pointer ≤ i) <;> rfl
  · rw [h]; rfl
  · rw [h]; rfl
  · rw [h]; rfl
theorem sumW (c : Client) (pool : List Nat) : (pool.map fun i => ((backendAt c i).weight : Int)).sum = (((pool.map fun i => (backendAt c i).weight).sum : Nat) : Int) := by
  induction pool with
  | nil => rfl
  | cons a r ih => rw [List.map_cons, List.map_cons, List.sum_cons, List.sum_cons, ih, Int.natCast_add]
def sp_note_choice (K : PySem.W.Frag) : Sp := fun vs H Q _ => ∃ (T : List (Addr × Str)) (L : Lo) (c : Client) (l : Addr) (pool : List Nat) (i : Nat), vs = [.ref L.cl, .ref l, .ref (L.bk i)] ∧ St K T L c H ∧ Off L c l ∧ H l = some (.lst (pool.map fun i => .ref (L.bk i))) ∧ pool.length ≤ 8 ∧ pool.Nodup ∧ (∀ j ∈ pool, j < c.backends.length) ∧ i ∈ pool ∧
  ∀ H', Nxt K T L c H L (HM.moved c pool i) H' → Q .non H'
theorem sc_note_choice : FnScope ["client", "pool", "chosen", "backend"] ["client", "pool", "chosen"] (defScope s_note_choice) := ⟨rfl, rfl, rfl, by decide +kernel, rfl, by decide +kernel, by decide +kernel⟩
theorem ok_note_choice (X : Tx K mg) : GF P w K mg base 1 (He.ga K "note_choice") ["client", "pool", "chosen"] (sp_note_choice K) := by
  refine GF.of X.d_note_choice sc_note_choice (fun vs H Q E h => ?_) (fun _ _ _ _ _ _ us hl => match us, hl with | [_, _, _], _ => rfl) (fun cdv A outer s H vs Q E hr h => ?_)
  · obtain ⟨T, L, c, l, pool, i, rfl, _⟩ := h; rfl
  obtain ⟨T, L, c, l, pool, i, rfl, h⟩ := h
  refine ⟨_, PSs.nox (pss_cons (ps_if (pt_cmpR op_eq (pe_fld (pv 0) rfl) (pe_gi X.i_ROUND_ROBIN) (nomark _)) (pss_one (ps_fld (pv 0) (pe_op op_add (pe_fld (pv 2) rfl) pe_int) rfl)) pss_nil) (pss_one (ps_if (pt_cmpR op_eq (pe_fld (pv 0) rfl) (pe_gi X.i_WEIGHTED) (nomark _)) (pss_cons (ps_for PassesOwn.never rfl (pi_list (pv 1)) (pg_name (i := 3) sc_note_choice.nd rfl (Or.inl rfl)) (pss_one (ps_fldaug (pv 3) (pe_fld (pv 3) rfl) in_add))) (pss_one (ps_fldaug (pv 2) (pe_callB (cr_sum rfl) (by rfl) X.b_sum (by decide +kernel) (pa_cons (pe_lc (own := [("backend", 3)]) (g := gName 3) (tt := tYes) (te := (tFld K (tVar 3) "weight")) (by rfl) sc_note_choice.nd (pi_list (pv 1)) (blkOk_by (own := [("backend", 3)]) (N := ["client", "pool", "chosen", "backend"]) (sc := defScope s_note_choice) (by decide +kernel)) (fun _ _ _ _ _ => pg_name (i := 3) sc_note_choice.nd rfl (Or.inl rfl)) (fun _ _ _ _ _ => pts_nil) (fun _ _ _ _ _ => (pe_fld (pv 3) rfl))) pa_nil)) in_sub))) pss_nil))), ?_⟩
  obtain ⟨S, ol, el, hp8, nd, hp, hip, h⟩ := h
  have hi := hp i hip
  refine i_seq ?_
  walk_at "rd"
  refine ite_dec (fun h0 => ?_) fun h0 => ?_
  · have hb : c.policy.balancer = 0 := by omega
    have em : HM.moved c pool i = { c with pointer := i + 1 } := by unfold HM.moved; rw [hb]; rfl
    rw [em] at h
    walk_at "rd"
    refine w_cl_pointer (y := i + 1) X S fun H1 n1 => ?_
    have S1 := n1.st
    walk_at "rd"
    rw [hb]
    rw [if_neg (by decide)]
    walk_at "rd"
    exact h H1 n1
  · walk_at "rd"
    refine ite_dec (fun h1 => ?_) fun h1 => ?_
    · have hb : c.policy.balancer = 1 := by omega
      have mv := HM.moved_w hb nd hip hi
      walk_at "rd"
      refine i_seq ?_
      walk_at "rd"
      refine ForR.of (xs := pool.map fun i => .ref (L.bk i)) (SqL.of el) (fun k σ' H' => (∃ x, σ' = [some (.ref L.cl), some (.ref l), some (.ref (L.bk i)), x]) ∧ Nxt K T L c H L ((pool.take k).foldl HM.addW c) H') ⟨⟨none, rfl⟩, Nxt.refl S⟩ ?_ ?_ ?_
      · rintro k σ' H' _ ⟨_, n⟩
        exact SqL.of (n.keep _ _ el ol fun ps z => by cases z)
      · rintro k x σ' H' hx ⟨⟨x0, rfl⟩, n⟩
        obtain ⟨j, hj, rfl⟩ := pool_at hx
        have hjm : j ∈ pool := List.mem_of_getElem? hj
        have ht : pool.take (k + 1) = pool.take k ++ [j] := by rw [List.take_add_one, hj]; rfl
        obtain ⟨r1, r2⟩ := HM.addWs_rest (pool.take k) c
        have Sk := n.st
        have hj2 : j < ((pool.take k).foldl HM.addW c).backends.length := by rw [r2]; exact hp j hjm
        rw [ht, List.foldl_append]
        generalize (pool.take k).foldl HM.addW c = ck at *
        walk_at "rd"
        refine v_bk_current Sk hj2 ((backendAt ck j).current + (backendAt ck j).weight) rfl fun H2 n2 => ?_
        exact ⟨⟨_, rfl⟩, n.trans n2⟩
      · rintro σ' H' ⟨⟨x0, rfl⟩, n⟩
        rw [List.length_map, List.take_length] at n
        have hj := n.keep _ _ el ol fun ps z => by cases z
        obtain ⟨r1, r2⟩ := HM.addWs_rest pool c
        have wt : ∀ j ∈ pool, (backendAt (pool.foldl HM.addW c) j).weight = (backendAt c j).weight := fun j hj => by
          rw [HM.addWs_at pool c j nd (hp j hj)]; split <;> rfl
        have Sk := n.st
        have hik : i < (pool.foldl HM.addW c).backends.length := by rw [r2]; exact hi
        have hpk : ∀ j ∈ pool, j < (pool.foldl HM.addW c).backends.length := fun j hj => by rw [r2]; exact hp j hj
        clear r1
        generalize pool.foldl HM.addW c = ck at *
        walk_at "rd"
        refine lc_part (js := pool) (A := fun i => .ref (L.bk i)) (y := fun i => nV (backendAt c i).weight) (p := fun i => true) (SqL.of hj) (small_size (by omega)) (fun v => rfl) (fun j hj D ys Q' hD q => q) (fun j hj hp D ys Q' hD q => ?_) fun D nD => ?_
        · have hj2 := hpk j hj
          have S2 := Sk.new (u := .lst ys) hD
          walk_at "rd"
          rw [wt j hj]
          exact q
        · have nD2 := Nxt.behind (u := .lst ((pool.filter fun i => true).map fun i => nV (backendAt c i).weight)) n nD
          have eD : upd H' D (.lst ((pool.filter fun i => true).map fun i => nV (backendAt c i).weight)) D = some (.lst ((pool.map fun i => ((backendAt c i).weight : Int)).map V.int)) := by
            rw [upd_same, List.filter_eq_self.mpr (fun _ _ => rfl), List.map_map]; rfl
          generalize upd H' D (.lst ((pool.filter fun i => true).map fun i => nV (backendAt c i).weight)) = H1 at nD2 eD ⊢
          have S2 := nD2.st
          walk_at "rd"
          refine ⟨D, pool.map fun i => ((backendAt c i).weight : Int), rfl, SqL.of eD, ?_⟩
          walk_at "rd"
          rw [sumW]
          refine v_bk_current S2 hik ((backendAt ck i).current - (((pool.map fun i => (backendAt c i).weight).sum : Nat) : Int)) rfl fun H2 n2 => ?_
          rw [mv] at n2
          exact h H2 (nD2.trans n2)
    · walk_at "rd"
      have em : HM.moved c pool i = c := by
        unfold HM.moved
        split
        · rename_i z; rw [z] at h0; exact absurd rfl h0
        · rename_i z; rw [z] at h1; exact absurd rfl h1
        · rfl
      rw [em] at h
      exact h H (Nxt.refl S)
end

section
variable {P : Program} {w : World} {K : PySem.W.Frag} {mg : Str → Option Value} {base : Heap}
/-! ### backoff -/
def RngR (vs : List V) (g : TG) (tb : TS) (D : Ends) (σ : L2.St) (H : Hp) : Prop := ∃ j : Int, vs = [.int j] ∧ -(2 ^ 62) ≤ j ∧ j < 2 ^ 62 ∧ ∃ W : Nat → Nat → L2.St → Hp → Prop, (∃ m, W 0 m σ H) ∧ ∀ i m σ H, W i m σ H →
      ((Itr 0 j.toNat).stop i H ∧ D.nx σ H) ∨ ((Itr 0 j.toNat).go i H ∧ ∃ N : L2.St → Hp → Prop, (∀ σ' H', N σ' H' → ∃ m', m' < m ∧ W (i + 1) m' σ' H') ∧ ∀ x H', (Itr 0 j.toNat).yld i H x H' → g x σ H' fun σ2 H2 => tb { D with nx := N, ct := N, bk := D.nx } σ2 H2)
theorem i_rng {ts : TA} {g : TG} {t : TS} {D : Ends} {σ : L2.St} {H : Hp} (h : ts σ H fun vs H1 => RngR vs g t D σ H1) : tFor (iRng1 ts) g t D σ H := h
theorem RngR.of {g : TG} {t : TS} {D : Ends} {σ : L2.St} {H : Hp} {j : Int} (n : Nat) (hj : j = n) (hn : n < 2 ^ 62) (Pv : Nat → L2.St → Hp → Prop) (h0 : Pv 0 σ H)
    (hs : ∀ i σ H, i < n → Pv i σ H → g (.int (0 + (i : Nat))) σ H fun σ2 H2 => t { D with nx := Pv (i + 1), ct := Pv (i + 1), bk := D.nx } σ2 H2) (hd : ∀ σ H, Pv n σ H → D.nx σ H) : RngR [.int j] g t D σ H := by
  subst hj
  exact ⟨n, rfl, by omega, by omega, for_range (lo := 0) (n := n) Pv h0 hs hd⟩
def sp_backoff_bound (K : PySem.W.Frag) : Sp := fun vs H Q _ => ∃ (T : List (Addr × Str)) (L : Lo) (c : Client) (r : Nat), vs = [.ref L.po, nV r] ∧ St K T L c H ∧ Pol c.policy ∧ 1 ≤ r ∧ r ≤ 1000 ∧ Q (nV (Kp423.backoffBound c.policy r)) H
theorem sc_backoff_bound : FnScope ["policy", "retry", "above", "below", "step"] ["policy", "retry"] (defScope s_backoff_bound) := ⟨rfl, rfl, rfl, by decide +kernel, rfl, by decide +kernel, by decide +kernel⟩
theorem ok_backoff_bound (X : Tx K mg) : GF P w K mg base 1 (He.ga K "backoff_bound") ["policy", "retry"] (sp_backoff_bound K) := by
  refine GF.of X.d_backoff_bound sc_backoff_bound (fun vs H Q E h => ?_) (fun _ _ _ _ _ _ us hl => match us, hl with | [_, _], _ => rfl) (fun cdv A outer s H vs Q E hr h => ?_)
  · obtain ⟨T, L, c, r, rfl, _⟩ := h; rfl
  obtain ⟨T, L, c, r, rfl, h⟩ := h
  refine ⟨_, PSs.nox (pss_cons (ps_set (i := 2) sc_backoff_bound.nd rfl (Or.inl rfl) (pe_fld (pv 0) rfl)) (pss_cons (ps_set (i := 3) sc_backoff_bound.nd rfl (Or.inl rfl) pe_int) (pss_cons (ps_for PassesOwn.never rfl (pi_range1 rfl X.b_range (pa_cons (pe_op op_sub (pv 1) pe_int) pa_nil)) (pg_name (i := 4) sc_backoff_bound.nd rfl (Or.inl rfl)) (pss_cons (ps_set (i := 2) sc_backoff_bound.nd rfl (Or.inl rfl) (pe_op op_mul (pv 2) (pe_fld (pv 0) rfl))) (pss_one (ps_set (i := 3) sc_backoff_bound.nd rfl (Or.inl rfl) (pe_op op_mul (pv 3) pe_int))))) (pss_one (ps_ret (pe_callB (call_min2 rfl) (by rfl) X.b_min (by decide +kernel) (pa_cons (pe_fld (pv 0) rfl) (pa_cons (pe_op op_fdivW (pv 2) (pv 3)) pa_nil)))))))), ?_⟩
  obtain ⟨S, hp, r1, r2, h⟩ := h
  walk_at "rd"
  refine i_seq ?_
  walk_at "rd"
  refine i_rng ?_
  walk_at "rd"
  refine RngR.of (r - 1) (by omega) (by omega) (fun k σ H' => H' = H ∧ ∃ x : Option V, σ = [some (.ref L.po), some (nV r), some (nV (c.policy.initialBackoff * c.policy.multiplier ^ k)), some (nV (100 ^ k)), x]) ⟨rfl, none, ?_⟩ ?_ ?_
  · rw [Nat.pow_zero, Nat.pow_zero, Nat.mul_one]; rfl
  · rintro k σ H' hk ⟨rfl, x, rfl⟩
    walk_at "rd"
    refine i_rI (Or.inr ⟨?_, ?_⟩) ?_
    · have := hp.mu; show -(2 ^ 64) < (c.policy.multiplier : Int); omega
    · have := hp.mu; show (c.policy.multiplier : Int) < 2 ^ 64; omega
    walk_at "rd"
    refine ⟨rfl, some (V.int (0 + k)), ?_⟩
    have e1 : ((c.policy.initialBackoff * c.policy.multiplier ^ k : Nat) : Int) * (c.policy.multiplier : Int) = ((c.policy.initialBackoff * c.policy.multiplier ^ (k + 1) : Nat) : Int) := by
      rw [Nat.pow_succ, ← Nat.mul_assoc, Int.natCast_mul (c.policy.initialBackoff * c.policy.multiplier ^ k)]
    have e2 : ((100 ^ k : Nat) : Int) * 100 = ((100 ^ (k + 1) : Nat) : Int) := by
      rw [Nat.pow_succ, Int.natCast_mul (100 ^ k)]; rfl
    rw [e1, e2]
    rfl
  · rintro σ H' ⟨rfl, x, rfl⟩
    walk_at "rd"
    have p0 : 0 < 100 ^ (r - 1) := Nat.pow_pos (by decide)
    have p1 : 100 ^ (r - 1) < 2 ^ 7000 := by
      have q1 : 100 ^ (r - 1) ≤ (2 ^ 7) ^ (r - 1) := Nat.pow_le_pow_left (by decide) _
      rw [← Nat.pow_mul] at q1
      exact Nat.lt_of_le_of_lt q1 (Nat.pow_lt_pow_right (by decide) (by omega))
    refine i_rI (wide_div (b := 7000) (by omega) (by rw [Int.natAbs_natCast]; exact p1) (by decide) (by decide)) ?_
    walk_at "rd"
    have e : V.int (if (((c.policy.initialBackoff * c.policy.multiplier ^ (r - 1) : Nat) : Int) / ((100 ^ (r - 1) : Nat) : Int)) < (c.policy.maxBackoff : Int) then (((c.policy.initialBackoff * c.policy.multiplier ^ (r - 1) : Nat) : Int) / ((100 ^ (r - 1) : Nat) : Int)) else (c.policy.maxBackoff : Int)) = nV (Kp423.backoffBound c.policy r) := by
      unfold Kp423.backoffBound
      rw [← Int.natCast_ediv]
      refine congrArg V.int ?_
      generalize c.policy.initialBackoff * c.policy.multiplier ^ (r - 1) / 100 ^ (r - 1) = y
      split <;> omega
    rw [e]
    exact h
def sp_retry_delay (K : PySem.W.Frag) : Sp := fun vs H Q _ => ∃ (T : List (Addr × Str)) (L : Lo) (c : Client) (i p : Nat), vs = [.ref L.cl, .ref (L.ca i), nV p] ∧ St K T L c H ∧ Pol c.policy ∧ i < c.calls.length ∧ (callAt c i).retries < 1000 ∧
  ∀ H', Nxt K T L c H L { c with seed := (Kp423.retryDelay c i p).2 } H' → Q (nV (Kp423.retryDelay c i p).1) H'
theorem sc_retry_delay : FnScope ["client", "call", "pushback"] ["client", "call", "pushback"] (defScope s_retry_delay) := ⟨rfl, rfl, rfl, by decide +kernel, rfl, by decide +kernel, by decide +kernel⟩
theorem ok_retry_delay (X : Tx K mg) : GF P w K mg base 2 (He.ga K "retry_delay") ["client", "call", "pushback"] (sp_retry_delay K) := by
  refine GF.of X.d_retry_delay sc_retry_delay (fun vs H Q E h => ?_) (fun _ _ _ _ _ _ us hl => match us, hl with | [_, _, _], _ => rfl) (fun cdv A outer s H vs Q E hr h => ?_)
  · obtain ⟨T, L, c, i, p, rfl, _⟩ := h; rfl
  obtain ⟨T, L, c, i, p, rfl, h⟩ := h
  refine ⟨_, PSs.nox (pss_cons (ps_if (pt_cmpR op_ge (pv 2) pe_int (nomark _)) (pss_one (ps_ret (pe_op op_sub (pv 2) pe_int))) pss_nil) (pss_cons (ps_fld (pv 0) (pe_op op_mod (pe_op op_add (pe_op op_mul pe_int (pe_fld (pv 0) rfl)) pe_int) pe_int) rfl) (pss_one (ps_ret (pe_op op_modN (pe_fld (pv 0) rfl) (pe_op op_add (pe_fn (ok_backoff_bound X) X.g_backoff_bound (hr.mono (by decide)) (pa_cons (pe_fld (pv 0) rfl) (pa_cons (pe_op op_add (pe_fld (pv 1) rfl) pe_int) pa_nil))) pe_int)))))), ?_⟩
  obtain ⟨S, hp, hi, hr1, h⟩ := h
  refine i_seq ?_
  walk_at "rd"
  refine ite_dec (fun h1 => ?_) fun h1 => ?_
  · have e : Kp423.retryDelay c i p = (p - 2, c.seed) := if_pos (by omega)
    rw [e] at h
    walk_at "rd"
    have z : V.int ((p : Int) - 2) = nV (p - 2) := congrArg V.int (by omega)
    rw [z]
    exact h H (Nxt.refl S)
  · have e : Kp423.retryDelay c i p = (Kp423.nextRandom c.seed % (Kp423.backoffBound c.policy ((callAt c i).retries + 1) + 1), Kp423.nextRandom c.seed) := if_neg (by omega)
    rw [e] at h
    walk_at "rd"
    have z : V.int ((1103515245 * (c.seed : Int) + 12345) % 2147483648) = nV (Kp423.nextRandom c.seed) := congrArg V.int (by unfold Kp423.nextRandom; omega)
    rw [z]
    refine w_cl_seed (y := Kp423.nextRandom c.seed) X S fun H1 n1 => ?_
    have S1 := n1.st
    have hc1 : callAt { c with seed := Kp423.nextRandom c.seed } i = callAt c i := rfl
    walk_at "rd"
    refine ⟨T, L, _, (callAt c i).retries + 1, rfl, S1, hp, by omega, by omega, ?_⟩
    walk_at "rd"
    refine i_rI (by show ((Kp423.backoffBound c.policy ((callAt c i).retries + 1) : Nat) : Int) + 1 ≠ 0; omega) ?_
    have z2 : V.int (((Kp423.nextRandom c.seed : Nat) : Int).fmod (((Kp423.backoffBound c.policy ((callAt c i).retries + 1) : Nat) : Int) + 1)) = nV (Kp423.nextRandom c.seed % (Kp423.backoffBound c.policy ((callAt c i).retries + 1) + 1)) := by
      refine congrArg V.int ?_
      rw [Int.fmod_eq_emod_of_nonneg _ (by omega)]
      generalize Kp423.nextRandom c.seed = a
      generalize Kp423.backoffBound c.policy ((callAt c i).retries + 1) = b
      exact (Int.natCast_emod a (b + 1)).symm
    have z3 := h H1 n1
    rw [← z2] at z3
    exact z3
def sp_may_repeat (K : PySem.W.Frag) : Sp := fun vs H Q _ => ∃ (T : List (Addr × Str)) (L : Lo) (c : Client) (i s : Nat), vs = [.ref L.cl, .ref (L.ca i), nV s] ∧ St K T L c H ∧ i < c.calls.length ∧ Q (.bl ((callAt c i).idempotent && c.policy.retryable.contains s)) H
theorem sc_may_repeat : FnScope ["client", "call", "status"] ["client", "call", "status"] (defScope s_may_repeat) := ⟨rfl, rfl, rfl, by decide +kernel, rfl, by decide +kernel, by decide +kernel⟩
theorem ok_may_repeat (X : Tx K mg) : GF P w K mg base 1 (He.ga K "may_repeat") ["client", "call", "status"] (sp_may_repeat K) := by
  refine GF.of X.d_may_repeat sc_may_repeat (fun vs H Q E h => ?_) (fun _ _ _ _ _ _ us hl => match us, hl with | [_, _, _], _ => rfl) (fun cdv A outer s H vs Q E hr h => ?_)
  · obtain ⟨T, L, c, i, s, rfl, _⟩ := h; rfl
  obtain ⟨T, L, c, i, s, rfl, h⟩ := h
  refine ⟨_, PSs.nox (pss_one (ps_ret (pe_and (pe_fld (pv 1) rfl) (pe_one (pe_cmpR op_in_seq (pv 2) (pe_fld (pe_fld (pv 0) rfl) rfl) (by rfl)))))), ?_⟩
  obtain ⟨S, hi, h⟩ := h
  walk_at "rd"
  refine ite_bool (fun h1 => ?_) fun h1 => ?_
  · walk_at "rd"
    refine i_in (SqL.of (S.has .rt _ rfl)) ?_
    rw [h1, Bool.true_and] at h
    exact h
  · rw [h1, Bool.false_and] at h
    exact h
end

section
variable {P : Program} {w : World} {K : PySem.W.Frag} {mg : Str → Option Value} {base : Heap}
/-! ### a retry is planned -/
def later (c : Client) (i s p : Nat) : Client :=
  if (callAt c i).deadline ≤ c.now + (Kp423.retryDelay c i p).1 then Kp423.finishCall { c with seed := (Kp423.retryDelay c i p).2 } i s
  else { setCall { c with seed := (Kp423.retryDelay c i p).2 } i { callAt c i with retries := (callAt c i).retries + 1, retryAt := some (c.now + (Kp423.retryDelay c i p).1), hedgeAt := none } with retryCount := c.retryCount + 1 }
def sp_retry_later (K : PySem.W.Frag) : Sp := fun vs H Q _ => ∃ (T : List (Addr × Str)) (L : Lo) (c : Client) (i s p : Nat), vs = [.ref L.cl, .ref (L.ca i), nV s, nV p] ∧ St K T L c H ∧ Pol c.policy ∧ HM.Acc c ∧ c.attempts.length ≤ 1000000 ∧ i < c.calls.length ∧ (callAt c i).retries < 1000 ∧
  ∀ H', Nxt K T L c H L (later c i s p) H' → Q .non H'
theorem sc_retry_later : FnScope ["client", "call", "status", "pushback", "retry_at"] ["client", "call", "status", "pushback"] (defScope s_retry_later) := ⟨rfl, rfl, rfl, by decide +kernel, rfl, by decide +kernel, by decide +kernel⟩
theorem ok_retry_later (X : Tx K mg) : GF P w K mg base 3 (He.ga K "retry_later") ["client", "call", "status", "pushback"] (sp_retry_later K) := by
  refine GF.of X.d_retry_later sc_retry_later (fun vs H Q E h => ?_) (fun _ _ _ _ _ _ us hl => match us, hl with | [_, _, _, _], _ => rfl) (fun cdv A outer s H vs Q E hr h => ?_)
  · obtain ⟨T, L, c, i, s, p, rfl, _⟩ := h; rfl
  obtain ⟨T, L, c, i, s, p, rfl, h⟩ := h
  refine ⟨_, PSs.nox (pss_cons (ps_set (i := 4) sc_retry_later.nd rfl (Or.inl rfl) (pe_op op_add (pe_fld (pv 0) rfl) (pe_fn (ok_retry_delay X) X.g_retry_delay (hr.mono (by decide)) (pa_cons (pv 0) (pa_cons (pv 1) (pa_cons (pv 3) pa_nil)))))) (pss_cons (ps_if (pt_cmpR op_ge (pv 4) (pe_fld (pv 1) rfl) (nomark _)) (pss_cons (ps_expr (pe_fn (ok_end_call X) X.g_end_call (hr.mono (by decide)) (pa_cons (pv 0) (pa_cons (pv 1) (pa_cons (pv 2) pa_nil))))) (pss_one ps_retN)) pss_nil) (pss_cons (ps_fldaug (pv 1) pe_int in_add) (pss_cons (ps_fldaug (pv 0) pe_int in_add) (pss_cons (ps_fld (pv 1) (pv 4) rfl) (pss_one (ps_fld (pv 1) pe_non rfl))))))), ?_⟩
  obtain ⟨S, hp, ac, hz, hi, hr1, h⟩ := h
  walk_at "rd"
  refine ⟨T, L, c, i, p, rfl, S, hp, hi, hr1, fun H1 n1 => ?_⟩
  obtain ⟨d, hd⟩ : ∃ d, d = (Kp423.retryDelay c i p).1 := ⟨_, rfl⟩
  obtain ⟨sd, hsd⟩ : ∃ sd, sd = (Kp423.retryDelay c i p).2 := ⟨_, rfl⟩
  unfold later at h
  rw [← hd, ← hsd] at h
  rw [← hsd] at n1
  rw [← hd]
  have S1 := n1.st
  have hi1 : i < ({ c with seed := sd } : Client).calls.length := hi
  walk_at "rd"
  refine i_seq ?_
  walk_at "rd"
  refine ite_dec (fun h1 => ?_) fun h1 => ?_
  · have e : (callAt c i).deadline ≤ c.now + d := by have h1 : ((callAt c i).deadline : Int) ≤ (c.now : Int) + (d : Int) := h1; omega
    rw [if_pos e] at h
    walk_at "rd"
    refine ⟨T, L, _, i, s, rfl, S1, ac.same rfl rfl rfl fun _ => rfl, hz, hi1, fun H2 n2 => ?_⟩
    walk_at "rd"
    exact h H2 (n1.trans n2)
  · have e : ¬ (callAt c i).deadline ≤ c.now + d := fun q => h1 (by show ((callAt c i).deadline : Int) ≤ (c.now : Int) + (d : Int); omega)
    rw [if_neg e] at h
    walk_at "rd"
    refine v_ca_retries S1 hi1 ((callAt c i).retries + 1) rfl fun H2 n2 => ?_
    have m2 := n1.trans n2
    have S2 := m2.st
    walk_at "rd"
    refine v_cl_retries S2 (c.retryCount + 1) rfl fun H3 n3 => ?_
    obtain ⟨C3, hC3, m3⟩ : ∃ C3, C3 = { setCall { c with seed := sd } i { callAt c i with retries := (callAt c i).retries + 1 } with retryCount := c.retryCount + 1 } ∧ Nxt K T L c H L C3 H3 := ⟨_, rfl, m2.trans n3⟩
    have k3 : callAt C3 i = { callAt c i with retries := (callAt c i).retries + 1 } := by rw [hC3]; exact HM.callAt_self hi1
    have S3 := m3.st
    have hi3 : i < C3.calls.length := by rw [hC3]; show i < (setCall { c with seed := sd } i _).calls.length; rw [HM.setCall_len]; exact hi
    have z : V.int ((c.now : Int) + (d : Int)) = optV (some (c.now + d)) := congrArg V.int (by omega)
    walk_at "rd"
    rw [show V.int ((({ c with seed := sd } : Client).now : Int) + (d : Int)) = optV (some (c.now + d)) from z]
    refine w_ca_retry_at (y := some (c.now + d)) X S3 hi3 fun H4 n4 => ?_
    have m4 := m3.trans n4
    rw [k3] at m4
    have S4 := m4.st
    have hi4 : i < (setCall C3 i { callAt c i with retries := (callAt c i).retries + 1, retryAt := some (c.now + d) }).calls.length := by rw [HM.setCall_len]; exact hi3
    walk_at "rd"
    refine w_ca_hedge_at (y := none) X S4 hi4 fun H5 n5 => ?_
    have m5 := m4.trans n5
    rw [HM.callAt_self hi3, HM.setCall_setCall] at m5
    have ef : setCall C3 i { callAt c i with retries := (callAt c i).retries + 1, retryAt := some (c.now + d), hedgeAt := none } = { setCall { c with seed := sd } i { callAt c i with retries := (callAt c i).retries + 1, retryAt := some (c.now + d), hedgeAt := none } with retryCount := c.retryCount + 1 } := by
      rw [hC3]
      simp only [setCall, List.set_set]
    walk_at "rd"
    refine h H5 ?_
    rw [← ef]
    exact m5
end

section
variable {P : Program} {w : World} {K : PySem.W.Frag} {mg : Str → Option Value} {base : Heap}
/-! ### an attempt starts -/
theorem tried_is (c : Client) (i : Nat) : (atsOf c i).map (fun a => (attemptAt c a).backend) = Kp423.triedBackends c i := by
  have g : ∀ l : List Kp423.Attempt, ∀ d, ((List.range l.length).filter fun a => (l.getD a d).call == i).map (fun a => (l.getD a d).backend) = (l.filter fun a => a.call == i).map Kp423.Attempt.backend := by
    intro l d
    induction l with
    | nil => rfl
    | cons x r ih =>
      rw [List.length_cons, List.range_succ_eq_map, List.filter_cons, List.filter_map, List.filter_cons]
      have e1 : ((fun a => ((x :: r).getD a d).call == i) ∘ Nat.succ) = fun a => (r.getD a d).call == i := by funext a; rfl
      rw [e1]
      have e2 : ((x :: r).getD 0 d).call = x.call := rfl
      rw [e2]
      split
      · rw [List.map_cons, List.map_map, List.map_cons]
        congr 1
      · rw [List.map_map]
        exact ih
  exact g c.attempts _
theorem cand_sub (c : Client) (t : List Nat) : (Kp423.candidates c t).Sublist (List.range c.backends.length) := by
  have h1 : (Kp423.activeBackends c).Sublist (List.range c.backends.length) := List.filter_sublist
  have h2 : (Kp423.availableBackends c).Sublist (List.range c.backends.length) := List.filter_sublist.trans h1
  have h3 : (if (Kp423.availableBackends c).isEmpty then Kp423.activeBackends c else Kp423.availableBackends c).Sublist (List.range c.backends.length) := by split <;> assumption
  obtain ⟨O, hO⟩ : ∃ O, O = (if (Kp423.availableBackends c).isEmpty then Kp423.activeBackends c else Kp423.availableBackends c) := ⟨_, rfl⟩
  have e : Kp423.candidates c t = if (O.filter fun i => !t.contains i).isEmpty then O else O.filter fun i => !t.contains i := by rw [hO]; rfl
  rw [← hO] at h3
  rw [e]
  split
  · exact h3
  · exact List.filter_sublist.trans h3
theorem start_none {c : Client} {i : Nat} {cnt : Bool} (h : Kp423.choose c (callAt c i).key (Kp423.triedBackends c i) = none) : Kp423.startAttempt c i cnt = Kp423.finishCall c i 14 := by
  unfold Kp423.startAttempt
  simp only [h]
  rfl
theorem start_some {c c1 : Client} {i b : Nat} {cnt : Bool} (h : Kp423.choose c (callAt c i).key (Kp423.triedBackends c i) = some (b, c1)) : Kp423.startAttempt c i cnt =
    { setCall (setBackend c1 b { backendAt c1 b with outstanding := (backendAt c1 b).outstanding + 1 }) i { callAt c i with counted := (callAt c i).counted + (if cnt then 1 else 0), retryAt := none, hedgeAt := hedgeT c { callAt c i with counted := (callAt c i).counted + (if cnt then 1 else 0) } } with
      attempts := c1.attempts ++ [⟨i, b, (Kp423.triedBackends c i).length + 1, c.now, .running⟩] } := by
  unfold Kp423.startAttempt
  simp only [h]
  rfl
theorem picked_nil (c : Client) (key : Nat) : picked c key [] = none := by
  unfold picked
  split <;> rfl
theorem moved_rest (c : Client) (l : List Nat) (i : Nat) : (HM.moved c l i).attempts = c.attempts ∧ (HM.moved c l i).calls = c.calls ∧ (HM.moved c l i).now = c.now ∧ (HM.moved c l i).policy = c.policy ∧ (HM.moved c l i).backends.length = c.backends.length ∧ (∀ j, (backendAt (HM.moved c l i) j).outstanding = (backendAt c j).outstanding) := by
  unfold HM.moved
  split
  · exact ⟨rfl, rfl, rfl, rfl, rfl, fun j => rfl⟩
  · refine ⟨rfl, rfl, rfl, rfl, by rw [List.length_map, List.length_zipIdx], fun j => ?_⟩
    simp only [backendAt, List.getD_eq_getElem?_getD, List.getElem?_map, List.getElem?_zipIdx]
    cases c.backends[j]? with
    | none => rfl
    | some b => simp only [Option.map_some, Option.getD_some]; split <;> rfl
  · exact ⟨rfl, rfl, rfl, rfl, rfl, fun j => rfl⟩
theorem setCall_id {c : Client} {i : Nat} (hi : i < c.calls.length) : setCall c i (callAt c i) = c := by
  have e : c.calls.set i (callAt c i) = c.calls := by
    unfold callAt
    rw [List.getD_eq_getElem?_getD, List.getElem?_eq_getElem hi]
    exact List.set_getElem_self hi
  show { c with calls := c.calls.set i (callAt c i) } = c
  rw [e]
def sp_start_attempt (K : PySem.W.Frag) : Sp := fun vs H Q _ => ∃ (L : Lo) (c : Client) (i : Nat) (cnt : Bool), vs = [.ref L.cl, .ref (L.ca i), .bl cnt] ∧ St K (tbs K) L c H ∧ Sz c ∧ Pol c.policy ∧ HM.Acc c ∧ c.attempts.length < 1000000 ∧ i < c.calls.length ∧
  ∀ L' H', Nxt K (tbs K) L c H L' (Kp423.startAttempt c i cnt) H' → Q .non H'
theorem sc_start_attempt : FnScope ["client", "call", "counted", "pool", "backend", "attempt"] ["client", "call", "counted"] (defScope s_start_attempt) := ⟨rfl, rfl, rfl, by decide +kernel, rfl, by decide +kernel, by decide +kernel⟩
theorem ok_start_attempt (X : Tx K mg) (TB : TabB base mg (He.cT K ("pick", none)).1 (He.cT K ("pick", none)).2) : GF P w K mg base 6 (He.ga K "start_attempt") ["client", "call", "counted"] (sp_start_attempt K) := by
  refine GF.of X.d_start_attempt sc_start_attempt (fun vs H Q E h => ?_) (fun _ _ _ _ _ _ us hl => match us, hl with | [_, _, _], _ => rfl) (fun cdv A outer s H vs Q E hr h => ?_)
  · obtain ⟨L, c, i, cnt, rfl, _⟩ := h; rfl
  obtain ⟨L, c, i, cnt, rfl, h⟩ := h
  refine ⟨_, PSs.nox (pss_cons (ps_set (i := 3) sc_start_attempt.nd rfl (Or.inl rfl) (pe_fn (ok_candidates X) X.g_candidates (hr.mono (by decide)) (pa_cons (pv 0) (pa_cons (pe_lc (own := [("attempt", 5)]) (g := gName 5) (tt := tYes) (te := (tFld K (tFld K (tVar 5) "backend") "number")) (by rfl) sc_start_attempt.nd (pi_list (pe_fld (pv 1) rfl)) (blkOk_by (own := [("attempt", 5)]) (N := ["client", "call", "counted", "pool", "backend", "attempt"]) (sc := defScope s_start_attempt) (by decide +kernel)) (fun _ _ _ _ _ => pg_name (i := 5) sc_start_attempt.nd rfl (Or.inl rfl)) (fun _ _ _ _ _ => pts_nil) (fun _ _ _ _ _ => (pe_fld (pe_fld (pv 5) rfl) rfl))) pa_nil)))) (pss_cons (ps_if (pt_not (pt_truth (pv 3) (by intro _; rfl))) (pss_cons (ps_expr (pe_fn (ok_end_call X) X.g_end_call (hr.mono (by decide)) (pa_cons (pv 0) (pa_cons (pv 1) (pa_cons (pe_gi X.i_UNAVAILABLE) pa_nil))))) (pss_one ps_retN)) pss_nil) (pss_cons (ps_set (i := 4) sc_start_attempt.nd rfl (Or.inl rfl) (pe_fn (ok_pick X TB) X.g_pick (hr.mono (by decide)) (pa_cons (pv 0) (pa_cons (pv 3) (pa_cons (pe_fld (pv 1) rfl) pa_nil))))) (pss_cons (ps_expr (pe_fn (ok_note_choice X) X.g_note_choice (hr.mono (by decide)) (pa_cons (pv 0) (pa_cons (pv 3) (pa_cons (pv 4) pa_nil))))) (pss_cons (ps_set (i := 5) sc_start_attempt.nd rfl (Or.inl rfl) (pe_new X.m_Attempt (ok_Attempt_init X) X.g_Attempt (hr.mono (by decide)) (pa_cons (pe_callB call_len_seq (by rfl) X.b_len PySem.boot_len (pa_cons (pe_fld (pv 0) rfl) pa_nil)) (pa_cons (pv 1) (pa_cons (pv 4) (pa_cons (pe_op op_add (pe_callB call_len_seq (by rfl) X.b_len PySem.boot_len (pa_cons (pe_fld (pv 1) rfl) pa_nil)) pe_int) (pa_cons (pe_fld (pv 0) rfl) pa_nil))))))) (pss_cons (ps_fldaug (pv 4) pe_int in_add) (pss_cons (ps_expr (pe_bm PySem.F.plainAttrs_list PySem.F.slot_list_append PySem.F.type_list_append mt_append (pe_fld (pv 0) rfl) (pa_cons (pv 5) pa_nil))) (pss_cons (ps_expr (pe_bm PySem.F.plainAttrs_list PySem.F.slot_list_append PySem.F.type_list_append mt_append (pe_fld (pv 1) rfl) (pa_cons (pv 5) pa_nil))) (pss_cons (ps_if (pt_truth (pv 2) (by intro _; rfl)) (pss_one (ps_fldaug (pv 1) pe_int in_add)) pss_nil) (pss_cons (ps_fld (pv 1) pe_non rfl) (pss_one (ps_fld (pv 1) (pe_fn (ok_hedge_time X) X.g_hedge_time (hr.mono (by decide)) (pa_cons (pv 0) (pa_cons (pv 1) pa_nil))) rfl)))))))))))), ?_⟩
  obtain ⟨S, hz, hp, ac, hza, hi, h⟩ := h
  walk_at "rd"
  refine lc_part (js := atsOf c i) (A := fun a => .ref (L.att a)) (y := fun a => nV (attemptAt c a).backend) (p := fun a => true) (S.lsL hi) (small_size (by
    have z := List.length_filter_le (fun a => (attemptAt c a).call == i) (List.range c.attempts.length)
    rw [List.length_range] at z
    exact Nat.le_trans z hz.ats)) (fun v => rfl) (fun j hj D ys Q' hD q => q) (fun j hj _ D ys Q' hD q => ?_) fun D1 n1 => ?_
  · have hj2 := ats_lt hj
    have S2 := S.new (u := .lst ys) hD
    have hb2 := (ac.idx j hj2).2
    walk_at "rd"
    exact q
  have ed : ((atsOf c i).filter fun a => true).map (fun a => nV (attemptAt c a).backend) = (Kp423.triedBackends c i).map nV := by
    rw [List.filter_eq_self.mpr (fun _ _ => rfl), ← tried_is, List.map_map]; rfl
  rw [ed]
  have N1 := Nxt.behind (u := .lst ((Kp423.triedBackends c i).map nV)) (Nxt.refl S) n1
  have a1 : upd H D1 (.lst ((Kp423.triedBackends c i).map nV)) D1 = some (.lst ((Kp423.triedBackends c i).map nV)) := upd_same
  generalize upd H D1 (.lst ((Kp423.triedBackends c i).map nV)) = H1 at N1 a1 ⊢
  have S1 := N1.st
  walk_at "rd"
  refine ⟨tbs K, L, c, D1, Kp423.triedBackends c i, rfl, S1, hz, SqL.of a1, fun D2 H2 x2 n2 a2 => ?_⟩
  have N2 := N1.trans (Nxt.ext S1 x2)
  have S2 := N2.st
  have o2 : Off L c D2 := Off.of_none S1 n2
  obtain ⟨pl, hpl⟩ : ∃ pl, pl = Kp423.candidates c (Kp423.triedBackends c i) := ⟨_, rfl⟩
  have hch := choose_is c hp.bal (callAt c i).key (Kp423.triedBackends c i)
  rw [← hpl] at a2 hch
  walk_at "rd"
  refine i_seq ?_
  walk_at "rd"
  refine i_tru (SqL.of a2) ?_
  dsimp only
  by_cases hf : pl = []
  · have e0 : (!(!(pl.map fun i => V.ref (L.bk i)).isEmpty)) = true := by rw [hf]; rfl
    rw [if_pos e0]
    have es : Kp423.startAttempt c i cnt = Kp423.finishCall c i 14 := start_none (by rw [hch, hf, picked_nil]; rfl)
    rw [es] at h
    walk_at "rd"
    refine ⟨tbs K, L, c, i, 14, rfl, S2, ac, hz.ats, hi, fun H3 n3 => ?_⟩
    walk_at "rd"
    exact h L H3 (N2.trans n3)
  have e0 : ¬ (!(!(pl.map fun i => V.ref (L.bk i)).isEmpty)) = true := by
    cases pl with
    | nil => exact absurd rfl hf
    | cons _ _ => exact fun z => by cases z
  rw [if_neg e0]
  have sub := cand_sub c (Kp423.triedBackends c i)
  rw [← hpl] at sub
  have pl8 : pl.length ≤ 8 := by have := sub.length_le; rw [List.length_range] at this; have := hz.bs; omega
  have pll : ∀ j ∈ pl, j < c.backends.length := fun j hj => List.mem_range.mp (sub.subset hj)
  have pnd : pl.Nodup := List.nodup_range.sublist sub
  walk_at "rd"
  refine ⟨L, c, D2, pl, (callAt c i).key, rfl, S2, hp.bal, SqL.of a2, hf, pl8, pll, fun b H3 pk hb n3 x3 => ?_⟩
  have a3 := n3.keep _ _ a2 o2 fun ps z => by cases z
  have N3 := N2.trans n3
  have S3 := N3.st
  rw [pk] at hch
  walk_at "rd"
  refine ⟨tbs K, L, c, D2, pl, b, rfl, S3, o2, a3, pl8, pnd, pll, hb, fun H4 n4 => ?_⟩
  obtain ⟨f1, f2, f3, f4, f5, f6⟩ := moved_rest c pl b
  have N4 := N3.trans n4
  have hbl := pll b hb
  have hch : Kp423.choose c (callAt c i).key (Kp423.triedBackends c i) = some (b, HM.moved c pl b) := hch
  generalize HM.moved c pl b = c1 at *
  have S4 := N4.st
  have hi1 : i < c1.calls.length := by rw [f2]; exact hi
  have hb1 : b < c1.backends.length := by rw [f5]; exact hbl
  walk_at "rd"
  have ea : atsOf c1 i = atsOf c i := by unfold atsOf; rw [f1]; exact List.filter_congr fun a _ => by unfold attemptAt; rw [f1]
  have el : (atsOf c i).length = (Kp423.triedBackends c i).length := by rw [← tried_is, List.length_map]
  refine ⟨_, _, rfl, .inl S4.lsA, ?_⟩
  rw [List.length_map, List.length_range]
  walk_at "rd"
  refine ⟨_, _, rfl, .inl (S4.lsL hi1), ?_⟩
  rw [List.length_map, ea, el]
  walk_at "rd"
  rw [f3]
  intro p dx np ndx hne
  refine ⟨p, dx, L.ca i, L.bk b, c1.attempts.length, (Kp423.triedBackends c i).length + 1, c.now, rfl, upd_same, fun H5 e5 k5 => ⟨rfl, ?_⟩⟩
  obtain ⟨at_, hat⟩ : ∃ at_ : Kp423.Attempt, at_ = ⟨i, b, (Kp423.triedBackends c i).length + 1, c.now, .running⟩ := ⟨_, rfl⟩
  have e5 : H5 p = some (.ins (He.ga K "Attempt") dx (atF L c1.attempts.length at_)) := by rw [hat]; exact e5
  have np1 : upd H4 dx (.own p) p = none := by rw [upd_ne (Ne.symm hne)]; exact np
  have e5h : H5 = upd (upd H4 dx (.own p)) p (.ins (He.ga K "Attempt") dx (atF L c1.attempts.length at_)) := by
    funext q
    by_cases hq : q = p
    · rw [hq, upd_same]; exact e5
    · rw [k5 q hq, upd_ne hq, upd_ne hq]
  have n5 : Nxt K (tbs K) L c1 H4 L c1 H5 := by
    rw [e5h]
    exact Nxt.behind (Nxt.behind (Nxt.refl S4) ndx) np1
  have S5 := n5.st
  have op : Off L c1 p := Off.of_none S4 np
  walk_at "rd"
  refine v_bk_outstanding S5 hb1 ((backendAt c1 b).outstanding + 1) rfl fun H6 n6 => ?_
  have e6 := n6.keep _ _ e5 op fun ps z => by cases z
  have o6 := n6.off op e5 fun ps z => by cases z
  obtain ⟨c2, hc2, N6, o6⟩ : ∃ c2, c2 = setBackend c1 b { backendAt c1 b with outstanding := (backendAt c1 b).outstanding + 1 } ∧ Nxt K (tbs K) L c1 H4 L c2 H6 ∧ Off L c2 p := ⟨_, rfl, n5.trans n6, o6⟩
  have S6 := N6.st
  have hi2 : i < c2.calls.length := by rw [hc2]; exact hi1
  have za : c2.attempts.length < 1000000 := by rw [hc2]; show c1.attempts.length < _; rw [f1]; exact hza
  walk_at "rd"
  refine BmR.app (S6.has .la _ rfl) rfl (by rw [List.length_map, List.length_range]; exact small_size (by omega)) ?_
  walk_at "rd"
  have ola : ob L c2 .la = some (.l ((List.range c2.attempts.length).map fun i => .ref (L.att i))) := rfl
  have oal : ob L c2 (.al i) = some (.l ((atsOf c2 i).map fun a => .ref (L.att a))) := if_pos hi2
  have oca : ob L c2 (.ca i) = some (.i "Call" (caF L i (callAt c2 i))) := if_pos hi2
  have nq1 : L.ca i ≠ L.la := fun z => by have := S6.inj (.ca i) .la _ _ oca ola z; cases this
  have nq2 : L.al i ≠ L.la := fun z => by have := S6.inj (.al i) .la _ _ oal ola z; cases this
  obtain ⟨dq, eq⟩ := S6.has (.ca i) _ oca
  refine ⟨_, _, dq, _, _, rfl, (upd_ne nq1).trans eq, X.c_Call, X.n_Call_attempts, l_ca_attempts, ?_⟩
  have za2 : (atsOf c2 i).length ≤ 1000000 := by
    have z := List.length_filter_le (fun a => (attemptAt c2 a).call == i) (List.range c2.attempts.length)
    rw [List.length_range] at z
    exact Nat.le_trans z (by omega)
  refine BmR.app ((upd_ne nq2).trans (S6.has (.al i) _ oal)) rfl (by rw [List.length_map]; exact small_size za2) ?_
  have e6 : H6 p = some (.ins (He.ga K "Attempt") dx (atF L c2.attempts.length at_)) := by rw [show c2.attempts.length = c1.attempts.length from by rw [hc2]; rfl]; exact e6
  have m := Nxt.addAtt (a := at_) N6 hi1 hi2 (by rw [hat]) np o6 e6
  have N8 := N4.trans m
  generalize upd (upd H6 L.la _) (L.al i) _ = H8 at N8 ⊢
  obtain ⟨L3, c3, hL1, hL2, hc3, N8⟩ : ∃ L3 c3, L3.cl = L.cl ∧ L3.ca i = L.ca i ∧ c3 = { c2 with attempts := c2.attempts ++ [at_] } ∧ Nxt K (tbs K) L c H L3 c3 H8 := ⟨_, _, rfl, rfl, rfl, N8⟩
  rw [← hL1, ← hL2]
  have k3 : callAt c3 i = callAt c i := by rw [hc3, hc2]; unfold callAt; show c1.calls.getD i _ = _; rw [f2]
  have hi3 : i < c3.calls.length := by rw [hc3]; exact hi2
  have p3 : c3.policy = c.policy := by rw [hc3, hc2]; exact f4
  have t3 : c3.now = c.now := by rw [hc3, hc2]; exact f3
  have es : Kp423.startAttempt c i cnt = setCall c3 i { callAt c i with counted := (callAt c i).counted + (if cnt then 1 else 0), retryAt := none, hedgeAt := hedgeT c { callAt c i with counted := (callAt c i).counted + (if cnt then 1 else 0) } } := by
    rw [start_some hch, hc3, hc2, hat]
    rfl
  rw [es] at h
  have S8 := N8.st
  refine i_seqJ (fun σ' H' => σ' = [some (.ref L3.cl), some (.ref (L3.ca i)), some (.bl cnt), some (.ref D2), some (.ref (L.bk b)), some (.ref p)] ∧ Nxt K (tbs K) L c H L3 (setCall c3 i { callAt c i with counted := (callAt c i).counted + (if cnt then 1 else 0) }) H') ?_ fun N hN => ?_
  · rintro σ' H9 ⟨rfl, N9⟩
    have S9 := N9.st
    have hi9 : i < (setCall c3 i { callAt c i with counted := (callAt c i).counted + (if cnt then 1 else 0) }).calls.length := by rw [HM.setCall_len]; exact hi3
    walk_at "rd"
    refine w_ca_retry_at (y := none) X S9 hi9 fun H10 n10 => ?_
    have N10 := N9.trans n10
    rw [HM.callAt_self hi3, HM.setCall_setCall] at N10
    have S10 := N10.st
    have hi10 : i < (setCall c3 i { callAt c i with counted := (callAt c i).counted + (if cnt then 1 else 0), retryAt := none }).calls.length := by rw [HM.setCall_len]; exact hi3
    walk_at "rd"
    refine ⟨tbs K, L3, _, i, rfl, S10, hi10, ?_⟩
    rw [HM.callAt_self hi3]
    have eh : hedgeT (setCall c3 i { callAt c i with counted := (callAt c i).counted + (if cnt then 1 else 0), retryAt := none }) { callAt c i with counted := (callAt c i).counted + (if cnt then 1 else 0), retryAt := none } = hedgeT c { callAt c i with counted := (callAt c i).counted + (if cnt then 1 else 0) } := by
      unfold hedgeT
      show (if c3.policy.hedgeDelay ≠ 0 ∧ (callAt c i).idempotent = true ∧ (callAt c i).counted + (if cnt then 1 else 0) < c3.policy.maxAttempts then some (c3.now + c3.policy.hedgeDelay) else none) = _
      rw [p3, t3]
    rw [eh]
    walk_at "rd"
    refine w_ca_hedge_at (y := hedgeT c { callAt c i with counted := (callAt c i).counted + (if cnt then 1 else 0) }) X S10 hi10 fun H11 n11 => ?_
    have N11 := N10.trans n11
    rw [HM.callAt_self hi3, HM.setCall_setCall] at N11
    walk_at "rd"
    exact h L3 H11 N11
  · refine i_ifs ?_
    refine ⟨_, rfl, cnt, rfl, ?_⟩
    cases cnt with
    | true =>
      rw [if_pos rfl]
      walk_at "rd"
      rw [k3]
      refine v_ca_counted S8 hi3 ((callAt c i).counted + 1) rfl fun H9 n9 => ?_
      have N9 := N8.trans n9
      rw [k3] at N9
      exact hN _ _ ⟨rfl, N9⟩
    | false =>
      rw [if_neg (by decide)]
      refine hN _ _ ⟨rfl, ?_⟩
      have e : setCall c3 i { callAt c i with counted := (callAt c i).counted + (if false = true then 1 else 0) } = c3 := by
        rw [if_neg (by decide)]
        show setCall c3 i (callAt c i) = c3
        rw [← k3]
        exact setCall_id hi3
      rw [e]
      exact N8
end

section
variable {P : Program} {w : World} {K : PySem.W.Frag} {mg : Str → Option Value} {base : Heap}
/-! ### a failure's consequences -/
theorem retry_is (c : Client) (i s : Nat) : Kp423.isRetryable c i s = (decide (s = 100) || ((callAt c i).idempotent && c.policy.retryable.contains s)) := by
  unfold Kp423.isRetryable
  have e : (s == Kp423.statusRefused) = decide (s = 100) := by
    by_cases h : s = 100
    · subst h; rfl
    · rw [decide_eq_false h]; exact beq_eq_false_iff_ne.mpr h
  rw [e]
def charge (c : Client) : Client := { c with tokens := c.tokens - 1000 }
section
variable (c : Client) (i s p : Nat)
theorem hf1 (h : s = 100 ∧ (callAt c i).transparent = false ∧ c.now < (callAt c i).deadline) : Kp423.handleFailure c i s p = Kp423.startAttempt { setCall c i { callAt c i with transparent := true } with transparentCount := c.transparentCount + 1 } i false := by
  unfold Kp423.handleFailure
  exact if_pos h
theorem hf2 (h : ¬ (s = 100 ∧ (callAt c i).transparent = false ∧ c.now < (callAt c i).deadline)) (h2 : Kp423.isRetryable c i s = false) : Kp423.handleFailure c i s p = Kp423.finishCall c i s := by
  unfold Kp423.handleFailure
  exact (if_neg h).trans (if_pos h2)
theorem hf3 (h : ¬ (s = 100 ∧ (callAt c i).transparent = false ∧ c.now < (callAt c i).deadline)) (h2 : ¬ Kp423.isRetryable c i s = false) (h3 : Kp423.runningOf c i ≠ []) : Kp423.handleFailure c i s p = charge c := by
  unfold Kp423.handleFailure
  exact (if_neg h).trans ((if_neg h2).trans (if_pos h3))
theorem hf4 (h : ¬ (s = 100 ∧ (callAt c i).transparent = false ∧ c.now < (callAt c i).deadline)) (h2 : ¬ Kp423.isRetryable c i s = false) (h3 : ¬ Kp423.runningOf c i ≠ []) (h4 : p = 1 ∨ c.policy.maxAttempts ≤ (callAt c i).counted ∨ Kp423.budgetAllows (charge c) = false) : Kp423.handleFailure c i s p = Kp423.finishCall (charge c) i s := by
  unfold Kp423.handleFailure
  exact (if_neg h).trans ((if_neg h2).trans ((if_neg h3).trans (if_pos h4)))
theorem later_is : later (charge c) i s p = (if (callAt c i).deadline ≤ c.now + (Kp423.retryDelay (charge c) i p).1 then Kp423.finishCall { charge c with seed := (Kp423.retryDelay (charge c) i p).2 } i s
  else { setCall { charge c with seed := (Kp423.retryDelay (charge c) i p).2 } i { callAt c i with retries := (callAt c i).retries + 1, retryAt := some (c.now + (Kp423.retryDelay (charge c) i p).1), hedgeAt := none } with retryCount := c.retryCount + 1 }) := by
  unfold later
  generalize Kp423.retryDelay (charge c) i p = r
  rfl
theorem hf5 (h : ¬ (s = 100 ∧ (callAt c i).transparent = false ∧ c.now < (callAt c i).deadline)) (h2 : ¬ Kp423.isRetryable c i s = false) (h3 : ¬ Kp423.runningOf c i ≠ []) (h4 : ¬ (p = 1 ∨ c.policy.maxAttempts ≤ (callAt c i).counted ∨ Kp423.budgetAllows (charge c) = false)) : Kp423.handleFailure c i s p = later (charge c) i s p := by
  rw [later_is]
  unfold Kp423.handleFailure
  refine (if_neg h).trans ((if_neg h2).trans ((if_neg h3).trans ((if_neg h4).trans ?_)))
  unfold charge
  show (if (callAt c i).deadline ≤ c.now + (Kp423.retryDelay { c with tokens := c.tokens - 1000 } i p).1 then _ else _) = _
  generalize Kp423.retryDelay { c with tokens := c.tokens - 1000 } i p = r
  rfl
end
def sp_follow_failure (K : PySem.W.Frag) : Sp := fun vs H Q _ => ∃ (L : Lo) (c : Client) (i s p : Nat), vs = [.ref L.cl, .ref (L.ca i), nV s, nV p] ∧ St K (tbs K) L c H ∧ Sz c ∧ Pol c.policy ∧ HM.Acc c ∧ c.attempts.length < 1000000 ∧ i < c.calls.length ∧ (callAt c i).retries < 1000 ∧
  ∀ L' H', Nxt K (tbs K) L c H L' (Kp423.handleFailure c i s p) H' → Q .non H'
theorem sc_follow_failure : FnScope ["client", "call", "status", "pushback", "spent"] ["client", "call", "status", "pushback"] (defScope s_follow_failure) := ⟨rfl, rfl, rfl, by decide +kernel, rfl, by decide +kernel, by decide +kernel⟩
theorem ok_follow_failure (X : Tx K mg) (TB : TabB base mg (He.cT K ("pick", none)).1 (He.cT K ("pick", none)).2) : GF P w K mg base 7 (He.ga K "follow_failure") ["client", "call", "status", "pushback"] (sp_follow_failure K) := by
  refine GF.of X.d_follow_failure sc_follow_failure (fun vs H Q E h => ?_) (fun _ _ _ _ _ _ us hl => match us, hl with | [_, _, _, _], _ => rfl) (fun cdv A outer s H vs Q E hr h => ?_)
  · obtain ⟨L, c, i, s, p, rfl, _⟩ := h; rfl
  obtain ⟨L, c, i, s, p, rfl, h⟩ := h
  refine ⟨_, PSs.nox (pss_cons (ps_if (PW.pt (pw_and (pt_cmpR op_eq (pv 2) (pe_gi X.i_REFUSED) (nomark _)) (pw_and (pt_not (pt_val (pe_fld (pv 1) rfl))) (pw_and1 (pt_cmpR op_lt (pe_fld (pv 0) rfl) (pe_fld (pv 1) rfl) (nomark _)))))) (pss_cons (ps_fld (pv 1) pe_bl rfl) (pss_cons (ps_fldaug (pv 0) pe_int in_add) (pss_cons (ps_expr (pe_fn (ok_start_attempt X TB) X.g_start_attempt (hr.mono (by decide)) (pa_cons (pv 0) (pa_cons (pv 1) (pa_cons pe_bl pa_nil))))) (pss_one ps_retN)))) pss_nil) (pss_cons (ps_if (PW.pt (pw_and (pt_cmpR op_ne (pv 2) (pe_gi X.i_REFUSED) (nomark _)) (pw_and1 (pt_not (pt_val (pe_fn (ok_may_repeat X) X.g_may_repeat (hr.mono (by decide)) (pa_cons (pv 0) (pa_cons (pv 1) (pa_cons (pv 2) pa_nil))))))))) (pss_cons (ps_expr (pe_fn (ok_end_call X) X.g_end_call (hr.mono (by decide)) (pa_cons (pv 0) (pa_cons (pv 1) (pa_cons (pv 2) pa_nil))))) (pss_one ps_retN)) pss_nil) (pss_cons (ps_fld (pv 0) (pe_callB (call_max2 rfl) (by rfl) X.b_max (by decide +kernel) (pa_cons pe_int (pa_cons (pe_op op_sub (pe_fld (pv 0) rfl) pe_int) pa_nil))) rfl) (pss_cons (ps_if (pt_truth (pe_fn (ok_running_among X) X.g_running_among (hr.mono (by decide)) (pa_cons (pe_fld (pv 1) rfl) pa_nil)) (by intro _; rfl)) (pss_one ps_retN) pss_nil) (pss_cons (ps_set (i := 4) sc_follow_failure.nd rfl (Or.inl rfl) (pe_cmpR op_ge (pe_fld (pv 1) rfl) (pe_fld (pe_fld (pv 0) rfl) rfl) (nomark _))) (pss_cons (ps_if (PW.pt (pw_or (pt_cmpR op_eq (pv 3) (pe_gi X.i_DONT_RETRY) (nomark _)) (pw_or (pt_truth (pv 4) (by intro _; rfl)) (pw_or1 (pt_not (pt_val (pe_fn (ok_budget_allows X) X.g_budget_allows (hr.mono (by decide)) (pa_cons (pv 0) pa_nil)))))))) (pss_cons (ps_expr (pe_fn (ok_end_call X) X.g_end_call (hr.mono (by decide)) (pa_cons (pv 0) (pa_cons (pv 1) (pa_cons (pv 2) pa_nil))))) (pss_one ps_retN)) pss_nil) (pss_one (ps_expr (pe_fn (ok_retry_later X) X.g_retry_later (hr.mono (by decide)) (pa_cons (pv 0) (pa_cons (pv 1) (pa_cons (pv 2) (pa_cons (pv 3) pa_nil))))))))))))), ?_⟩
  obtain ⟨S, hz, hp, ac, hza, hi, hr1, h⟩ := h
  refine i_seqJ (fun σ' H' => σ' = [some (.ref L.cl), some (.ref (L.ca i)), some (nV s), some (nV p), none] ∧ H' = H ∧ ¬ (s = 100 ∧ (callAt c i).transparent = false ∧ c.now < (callAt c i).deadline)) ?_ fun N hN => ?_
  · rintro σ' H' ⟨rfl, rfl, g1⟩
    refine i_seqJ (fun σ' H1 => σ' = [some (.ref L.cl), some (.ref (L.ca i)), some (nV s), some (nV p), none] ∧ H1 = H' ∧ ¬ Kp423.isRetryable c i s = false) ?_ fun N hN => ?_
    · rintro σ' H1 ⟨rfl, rfl, g2⟩
      walk_at "rd"
      refine ⟨0, (c.tokens : Int) - 1000, rfl, ?_⟩
      walk_at "rd"
      have z : V.int (if (c.tokens : Int) - 1000 > 0 then (c.tokens : Int) - 1000 else 0) = nV (c.tokens - 1000) := congrArg V.int (by split <;> omega)
      rw [z]
      refine w_cl_tokens (y := c.tokens - 1000) X S fun H2 n2 => ?_
      have n2 : Nxt K (tbs K) L c H1 L (charge c) H2 := n2
      have S2 := n2.st
      have hi2 : i < (charge c).calls.length := hi
      have ac2 : HM.Acc (charge c) := ac.same rfl rfl rfl fun _ => rfl
      refine i_seq ?_
      walk_at "rd"
      have hl2 : (atsOf (charge c) i).length ≤ 1000000 := by
        have z := List.length_filter_le (fun a => (attemptAt (charge c) a).call == i) (List.range (charge c).attempts.length)
        rw [List.length_range] at z
        exact Nat.le_trans z hz.ats
      refine ⟨tbs K, L, charge c, L.al i, atsOf (charge c) i, rfl, S2, S2.lsL hi2, hl2, fun j hj => ats_lt hj, fun D nD => ?_⟩
      have er : ((atsOf (charge c) i).filter fun j => Kp423.isRunning (attemptAt (charge c) j)) = Kp423.runningOf c i := (HM.runningOf_eq c i).symm
      rw [er]
      have n3 := n2.behind (u := .lst ((Kp423.runningOf c i).map fun j => .ref (L.att j))) nD
      have S3 := n3.st
      refine i_tru (SqL.of upd_same) ?_
      dsimp only
      by_cases g3 : Kp423.runningOf c i ≠ []
      · have e0 : (!((Kp423.runningOf c i).map fun j => V.ref (L.att j)).isEmpty) = true := by
          cases q : Kp423.runningOf c i with
          | nil => exact absurd q g3
          | cons _ _ => rfl
        rw [if_pos e0]
        rw [hf3 c i s p g1 g2 g3] at h
        exact h L _ n3
      have e0 : ¬ (!((Kp423.runningOf c i).map fun j => V.ref (L.att j)).isEmpty) = true := by
        cases q : Kp423.runningOf c i with
        | nil => exact fun z => by cases z
        | cons _ _ => exact absurd (by rw [q]; exact fun z => by cases z) g3
      rw [if_neg e0]
      generalize upd H2 D (.lst ((Kp423.runningOf c i).map fun j => .ref (L.att j))) = H3 at n3 S3 ⊢
      walk_at "rd"
      have fin : (p = 1 ∨ c.policy.maxAttempts ≤ (callAt c i).counted ∨ Kp423.budgetAllows (charge c) = false) → ∀ L' H', Nxt K (tbs K) L c H1 L' (Kp423.finishCall (charge c) i s) H' → Q .non H' := fun g4 => by
        rw [hf4 c i s p g1 g2 g3 g4] at h
        exact h
      refine i_seq ?_
      walk_at "rd"
      refine ite_dec (fun h1 => ?_) fun h1 => ?_
      · refine if_t ?_
        walk_at "rd"
        refine ⟨tbs K, L, charge c, i, s, rfl, S3, ac2, hz.ats, hi2, fun H4 n4 => ?_⟩
        walk_at "rd"
        exact fin (.inl (by omega)) L H4 (n3.trans n4)
      walk_at "rd"
      refine ⟨_, rfl, ?_⟩
      refine ite_dec (fun h2 => ?_) fun h2 => ?_
      · refine if_t ?_
        walk_at "rd"
        refine ⟨tbs K, L, charge c, i, s, rfl, S3, ac2, hz.ats, hi2, fun H4 n4 => ?_⟩
        walk_at "rd"
        exact fin (.inr (.inl (by have h2 : (c.policy.maxAttempts : Int) ≤ ((callAt c i).counted : Int) := h2; omega))) L H4 (n3.trans n4)
      walk_at "rd"
      refine ⟨tbs K, L, charge c, rfl, S3, ?_⟩
      walk_at "rd"
      cases hb : Kp423.budgetAllows (charge c) with
      | false =>
        refine if_t ?_
        walk_at "rd"
        refine ⟨tbs K, L, charge c, i, s, rfl, S3, ac2, hz.ats, hi2, fun H4 n4 => ?_⟩
        walk_at "rd"
        exact fin (.inr (.inr hb)) L H4 (n3.trans n4)
      | true =>
        refine if_f ?_
        walk_at "rd"
        rw [hf5 c i s p g1 g2 g3 (fun q => by
          rcases q with q | q | q
          · exact h1 (by omega)
          · exact h2 (by show (c.policy.maxAttempts : Int) ≤ ((callAt c i).counted : Int); omega)
          · rw [hb] at q; cases q)] at h
        refine ⟨tbs K, L, charge c, i, s, p, rfl, S3, hp, ac2, hz.ats, hi2, hr1, fun H4 n4 => ?_⟩
        walk_at "rd"
        exact h L H4 (n3.trans n4)
    · walk_at "rd"
      cases hs : decide ((s : Int) = 100) with
      | true =>
        refine if_f (if_f ?_)
        refine hN _ _ ⟨rfl, rfl, ?_⟩
        have hs : (s : Int) = 100 := of_decide_eq_true hs
        rw [retry_is, decide_eq_true (by omega : s = 100)]
        exact fun z => by cases z
      | false =>
        refine if_t ?_
        have hs : ¬ (s : Int) = 100 := of_decide_eq_false hs
        walk_at "rd"
        refine ⟨tbs K, L, c, i, s, rfl, S, hi, ?_⟩
        walk_at "rd"
        have er : Kp423.isRetryable c i s = ((callAt c i).idempotent && c.policy.retryable.contains s) := by rw [retry_is, decide_eq_false (by omega : ¬ s = 100), Bool.false_or]
        rw [← er]
        cases g2 : Kp423.isRetryable c i s with
        | true =>
          refine if_f ?_
          exact hN _ _ ⟨rfl, rfl, by rw [g2]; exact fun z => by cases z⟩
        | false =>
          refine if_t ?_
          walk_at "rd"
          refine ⟨tbs K, L, c, i, s, rfl, S, ac, hz.ats, hi, fun H4 n4 => ?_⟩
          walk_at "rd"
          rw [hf2 c i s p g1 g2] at h
          exact h L H4 n4
  · walk_at "rd"
    cases hs : decide ((s : Int) = 100) with
    | false =>
      refine if_f (if_f ?_)
      have hs : ¬ (s : Int) = 100 := of_decide_eq_false hs
      exact hN _ _ ⟨rfl, rfl, fun q => hs (by omega)⟩
    | true =>
      have hs : (s : Int) = 100 := of_decide_eq_true hs
      refine if_t ?_
      walk_at "rd"
      cases ht : (callAt c i).transparent with
      | true =>
        refine if_f (if_f ?_)
        exact hN _ _ ⟨rfl, rfl, fun q => by rw [ht] at q; exact absurd q.2.1 (by decide)⟩
      | false =>
        refine if_t ?_
        walk_at "rd"
        refine ite_dec (fun h3 => ?_) fun h3 => ?_
        · have g1 : s = 100 ∧ (callAt c i).transparent = false ∧ c.now < (callAt c i).deadline := ⟨by omega, ht, by have h3 : (c.now : Int) < ((callAt c i).deadline : Int) := h3; omega⟩
          rw [hf1 c i s p g1] at h
          walk_at "rd"
          refine w_ca_transparent (y := true) X S hi fun H2 n2 => ?_
          have S2 := n2.st
          walk_at "rd"
          refine v_cl_transparents S2 (c.transparentCount + 1) rfl fun H3 n3 => ?_
          have m3 := n2.trans n3
          walk_at "rd"
          refine ⟨L, _, i, false, rfl, m3.st, ⟨hz.bs, ?_, hz.ats⟩, hp, ac.same rfl ?_ rfl fun _ => rfl, hza, ?_, fun L4 H4 n4 => ?_⟩
          · show (setCall c i _).calls.length ≤ 60
            rw [HM.setCall_len]; exact hz.cs
          · show (setCall c i _).calls.length = _
            rw [HM.setCall_len]
          · show i < (setCall c i _).calls.length
            rw [HM.setCall_len]; exact hi
          · walk_at "rd"
            exact h L4 H4 (m3.trans n4)
        · exact hN _ _ ⟨rfl, rfl, fun q => h3 (by have := q.2.2; show (c.now : Int) < ((callAt c i).deadline : Int); omega)⟩
end

section
variable {P : Program} {w : World} {K : PySem.W.Frag} {mg : Str → Option Value} {base : Heap}
/-! ### an attempt ends -/
theorem stopped_twice {c : Client} {j s : Nat} (hj : j < c.attempts.length) : setAttempt (HM.stopped c j (.finished 0)) j { attemptAt (HM.stopped c j (.finished 0)) j with state := .finished s } = HM.stopped c j (.finished s) := by
  rw [HM.stopped_at, if_pos ⟨rfl, hj⟩]
  simp only [HM.stopped, Kp423.release, setAttempt, setBackend, List.set_set]
  rfl
theorem complete_is (c : Client) (j s p : Nat) : Kp423.completeAttempt c j s p =
    if s = 0 then Kp423.finishCall { setBackend (HM.stopped c j (.finished s)) (attemptAt c j).backend { backendAt (HM.stopped c j (.finished s)) (attemptAt c j).backend with failures := 0 } with tokens := min (c.policy.maxTokens * 1000) (c.tokens + c.policy.refund) } (attemptAt c j).call 0
    else Kp423.handleFailure (if s = 2 ∨ s = 14 then Kp423.noteFailure (HM.stopped c j (.finished s)) (attemptAt c j).backend else HM.stopped c j (.finished s)) (attemptAt c j).call s p := by
  unfold Kp423.completeAttempt
  rfl
theorem note_is (c : Client) (i : Nat) : ∃ b, Kp423.noteFailure c i = setBackend c i b ∧ b.outstanding = (backendAt c i).outstanding ∧ b.active = (backendAt c i).active := by
  unfold Kp423.noteFailure
  dsimp only
  split
  · exact ⟨_, rfl, rfl, rfl⟩
  · exact ⟨_, rfl, rfl, rfl⟩
theorem noted {c : Client} {i : Nat} {p : Prop} [Decidable p] (ac : HM.Acc c) : HM.Acc (if p then Kp423.noteFailure c i else c) ∧ (if p then Kp423.noteFailure c i else c).attempts = c.attempts ∧ (if p then Kp423.noteFailure c i else c).calls = c.calls ∧ (if p then Kp423.noteFailure c i else c).policy = c.policy ∧ (if p then Kp423.noteFailure c i else c).backends.length = c.backends.length ∧ (if p then Kp423.noteFailure c i else c).now = c.now := by
  by_cases h : p
  · rw [if_pos h]
    obtain ⟨b, e, o, _⟩ := note_is c i
    rw [e]
    exact ⟨ac.setBackend o, rfl, rfl, rfl, HM.setBackend_len, rfl⟩
  · rw [if_neg h]
    exact ⟨ac, rfl, rfl, rfl, rfl, rfl⟩
def sp_end_attempt (K : PySem.W.Frag) : Sp := fun vs H Q _ => ∃ (L : Lo) (c : Client) (j s p : Nat), vs = [.ref L.cl, .ref (L.att j), nV s, nV p] ∧ St K (tbs K) L c H ∧ Sz c ∧ Pol c.policy ∧ HM.Acc c ∧ c.attempts.length < 1000000 ∧ j < c.attempts.length ∧ Kp423.isRunning (attemptAt c j) = true ∧ (callAt c (attemptAt c j).call).retries < 1000 ∧
  ∀ L' H', Nxt K (tbs K) L c H L' (Kp423.completeAttempt c j s p) H' → Q .non H'
theorem sc_end_attempt : FnScope ["client", "attempt", "status", "pushback", "backend"] ["client", "attempt", "status", "pushback"] (defScope s_end_attempt) := ⟨rfl, rfl, rfl, by decide +kernel, rfl, by decide +kernel, by decide +kernel⟩
theorem ok_end_attempt (X : Tx K mg) (TB : TabB base mg (He.cT K ("pick", none)).1 (He.cT K ("pick", none)).2) : GF P w K mg base 8 (He.ga K "end_attempt") ["client", "attempt", "status", "pushback"] (sp_end_attempt K) := by
  refine GF.of X.d_end_attempt sc_end_attempt (fun vs H Q E h => ?_) (fun _ _ _ _ _ _ us hl => match us, hl with | [_, _, _, _], _ => rfl) (fun cdv A outer s H vs Q E hr h => ?_)
  · obtain ⟨L, c, j, s, p, rfl, _⟩ := h; rfl
  obtain ⟨L, c, j, s, p, rfl, h⟩ := h
  refine ⟨_, PSs.nox (pss_cons (ps_expr (pe_fn (ok_stop_attempt X) X.g_stop_attempt (hr.mono (by decide)) (pa_cons (pv 1) (pa_cons (pe_gi X.i_FINISHED) pa_nil)))) (pss_cons (ps_fld (pv 1) (pv 2) rfl) (pss_cons (ps_set (i := 4) sc_end_attempt.nd rfl (Or.inl rfl) (pe_fld (pv 1) rfl)) (pss_cons (ps_if (pt_cmpR op_eq (pv 2) (pe_gi X.i_OK) (nomark _)) (pss_cons (ps_fld (pv 4) pe_int rfl) (pss_cons (ps_fld (pv 0) (pe_callB (call_min2 rfl) (by rfl) X.b_min (by decide +kernel) (pa_cons (pe_fn (ok_most_tokens X) X.g_most_tokens (hr.mono (by decide)) (pa_cons (pe_fld (pv 0) rfl) pa_nil)) (pa_cons (pe_op op_add (pe_fld (pv 0) rfl) (pe_fld (pe_fld (pv 0) rfl) rfl)) pa_nil))) rfl) (pss_cons (ps_expr (pe_fn (ok_end_call X) X.g_end_call (hr.mono (by decide)) (pa_cons (pv 0) (pa_cons (pe_fld (pv 1) rfl) (pa_cons (pe_gi X.i_OK) pa_nil))))) (pss_one ps_retN)))) pss_nil) (pss_cons (ps_if (pt_cmpR op_in_seq (pv 2) (pe_tup (pa_cons (pe_gi X.i_UNKNOWN) (pa_cons (pe_gi X.i_UNAVAILABLE) pa_nil))) (by rfl)) (pss_one (ps_expr (pe_fn (ok_note_failure X) X.g_note_failure (hr.mono (by decide)) (pa_cons (pv 0) (pa_cons (pv 4) pa_nil))))) pss_nil) (pss_one (ps_expr (pe_fn (ok_follow_failure X TB) X.g_follow_failure (hr.mono (by decide)) (pa_cons (pv 0) (pa_cons (pe_fld (pv 1) rfl) (pa_cons (pv 2) (pa_cons (pv 3) pa_nil)))))))))))), ?_⟩
  obtain ⟨S, hz, hp, ac, hza, hj, hrun, hr1, h⟩ := h
  rw [complete_is] at h
  have hidx := ac.idx j hj
  walk_at "rd"
  refine ⟨tbs K, L, c, j, .finished 0, rfl, S, hj, hidx.2, ac.pos hj hrun, by rw [HM.isRunning_state hrun]; rfl, fun H1 n1 => ?_⟩
  have S1 := n1.st
  have hj1 : j < (HM.stopped c j (.finished 0)).attempts.length := by rw [(HM.stopped_len c j _).1]; exact hj
  walk_at "rd"
  refine w_at_status (y := s) (z := 0) X S1 hj1 (by rw [HM.stopped_at, if_pos ⟨rfl, hj⟩]) fun H2 n2 => ?_
  have m2 := n1.trans n2
  rw [stopped_twice hj] at m2
  have ac2 : HM.Acc (HM.stopped c j (.finished s)) := ac.stop hj hrun rfl
  obtain ⟨l1, l2, l3⟩ := HM.stopped_len c j (.finished s)
  have hat : attemptAt (HM.stopped c j (.finished s)) j = { attemptAt c j with state := .finished s } := by rw [HM.stopped_at, if_pos ⟨rfl, hj⟩]
  have pol2 : (HM.stopped c j (.finished s)).policy = c.policy := rfl
  have tok2 : (HM.stopped c j (.finished s)).tokens = c.tokens := rfl
  generalize HM.stopped c j (.finished s) = c2 at *
  have S2 := m2.st
  have hj2 : j < c2.attempts.length := by rw [l1]; exact hj
  have hb2 : (attemptAt c j).backend < c2.backends.length := by rw [l3]; exact hidx.2
  have hc2 : (attemptAt c j).call < c2.calls.length := by rw [l2]; exact hidx.1
  walk_at "rd"
  rw [hat]
  refine i_seq ?_
  walk_at "rd"
  refine ite_dec (fun h0 => ?_) fun h0 => ?_
  · have hs0 : s = 0 := by omega
    subst hs0
    rw [if_pos rfl] at h
    walk_at "rd"
    refine w_bk_failures (y := 0) X S2 hb2 fun H3 n3 => ?_
    have m3 := m2.trans n3
    obtain ⟨c3, hc3, m3⟩ : ∃ c3, c3 = setBackend c2 (attemptAt c j).backend { backendAt c2 (attemptAt c j).backend with failures := 0 } ∧ Nxt K (tbs K) L c H L c3 H3 := ⟨_, rfl, m3⟩
    rw [← hc3] at h
    have S3 := m3.st
    have S3 : St K (tbs K) L c3 H3 := S3
    have e1 : c3.tokens = c.tokens := by rw [hc3]; exact tok2
    have e2 : c3.policy = c.policy := by rw [hc3]; exact pol2
    have e3 : c3.attempts = c2.attempts := by rw [hc3]; rfl
    have e4 : c3.calls = c2.calls := by rw [hc3]; rfl
    have ac3 : HM.Acc c3 := by rw [hc3]; exact ac2.setBackend rfl
    clear n3
    walk_at "rd"
    obtain ⟨dp, ep⟩ := S3.has .po _ rfl
    refine ⟨_, dp, _, _, rfl, ep, l_po_max_tokens, ?_⟩
    walk_at "rd"
    refine ⟨_, _, rfl, ?_⟩
    walk_at "rd"
    have z : V.int (if ((c3.tokens : Int) + (c3.policy.refund : Int)) < ((c3.policy.maxTokens * 1000 : Nat) : Int) then ((c3.tokens : Int) + (c3.policy.refund : Int)) else ((c3.policy.maxTokens * 1000 : Nat) : Int)) = nV (min (c.policy.maxTokens * 1000) (c.tokens + c.policy.refund)) := by
      rw [e1, e2]
      refine congrArg V.int ?_
      generalize c.policy.maxTokens * 1000 = y
      split <;> omega
    rw [z]
    refine w_cl_tokens (y := min (c.policy.maxTokens * 1000) (c.tokens + c.policy.refund)) X S3 fun H4 n4 => ?_
    have m4 := m3.trans n4
    have k4 : attemptAt { c3 with tokens := min (c.policy.maxTokens * 1000) (c.tokens + c.policy.refund) } j = { attemptAt c j with state := .finished 0 } := by
      rw [← hat]; unfold attemptAt; show c3.attempts.getD j _ = _; rw [e3]
    generalize hc4 : ({ c3 with tokens := min (c.policy.maxTokens * 1000) (c.tokens + c.policy.refund) } : Client) = c4 at *
    have S4 := m4.st
    have hj4 : j < c4.attempts.length := by rw [← hc4]; show j < c3.attempts.length; rw [e3]; exact hj2
    walk_at "rd"
    rw [k4]
    refine ⟨tbs K, L, c4, (attemptAt c j).call, 0, rfl, S4, ?_, ?_, ?_, fun H5 n5 => ?_⟩
    · rw [← hc4]; exact ac3.same rfl rfl rfl fun _ => rfl
    · rw [← hc4]; show c3.attempts.length ≤ _; rw [e3, l1]; exact hz.ats
    · rw [← hc4]; show _ < c3.calls.length; rw [e4]; exact hc2
    · walk_at "rd"
      exact h L H5 (m4.trans n5)
  · rw [if_neg (fun q => h0 (by rw [q]; rfl))] at h
    refine i_next ?_
    refine i_seqJ (fun σ' H' => σ' = [some (.ref L.cl), some (.ref (L.att j)), some (nV s), some (nV p), some (.ref (L.bk (attemptAt c j).backend))] ∧ Nxt K (tbs K) L c H L (if s = 2 ∨ s = 14 then Kp423.noteFailure c2 (attemptAt c j).backend else c2) H') ?_ fun N hN => ?_
    · rintro σ' H3 ⟨rfl, m3⟩
      obtain ⟨q1, q2, q3, q4, q5, q6⟩ := noted (p := s = 2 ∨ s = 14) (i := (attemptAt c j).backend) ac2
      generalize (if s = 2 ∨ s = 14 then Kp423.noteFailure c2 (attemptAt c j).backend else c2) = c3 at *
      have S3 := m3.st
      have hj3 : j < c3.attempts.length := by rw [q2]; exact hj2
      have k3 : attemptAt c3 j = { attemptAt c j with state := .finished s } := by rw [← hat]; unfold attemptAt; rw [q2]
      walk_at "rd"
      rw [k3]
      refine ⟨L, c3, (attemptAt c j).call, s, p, rfl, S3, ⟨by rw [q5, l3]; exact hz.bs, by rw [q3, l2]; exact hz.cs, by rw [q2, l1]; exact hz.ats⟩, by rw [q4, pol2]; exact hp, q1, by rw [q2, l1]; exact hza, by rw [q3]; exact hc2, ?_, fun L4 H4 n4 => ?_⟩
      · show (callAt c3 (attemptAt c j).call).retries < 1000
        have : callAt c3 (attemptAt c j).call = callAt c (attemptAt c j).call := by unfold callAt; rw [q3, l2]
        rw [this]; exact hr1
      · walk_at "rd"
        exact h L4 H4 (m3.trans n4)
    · walk_at "rd"
      refine ⟨by show 2 ≤ sizeLine; decide, fun t ht => ?_⟩
      have m3 := Nxt.behind (u := .tup [.int 2, .int 14]) m2 ht
      refine ⟨t, [.int 2, .int 14], rfl, .inr (SqT.of upd_same), rfl, rfl, ?_⟩
      generalize upd H2 t (.tup [.int 2, .int 14]) = H3 at m3 ⊢
      have S3 := m3.st
      have ev : inV (nV s) [V.int 2, V.int 14] = decide (s = 2 ∨ s = 14) := by
        have q := in_nat s [2, 14]
        refine Eq.trans q ?_
        by_cases a : s = 2
        · subst a; rfl
        · by_cases b : s = 14
          · subst b; rfl
          · rw [decide_eq_false (by omega)]; simp [a, b]
      rw [if_neg (by decide), ev]
      walk_at "rd"
      refine ite_dec (fun h1 => ?_) fun h1 => ?_
      · rw [if_pos h1] at hN
        walk_at "rd"
        refine ⟨tbs K, L, c2, (attemptAt c j).backend, rfl, S3, ⟨by rw [l3]; exact hz.bs, by rw [l2]; exact hz.cs, by rw [l1]; exact hz.ats⟩, by rw [pol2]; exact hp, hb2, fun H4 n4 => ?_⟩
        walk_at "rd"
        exact hN _ _ ⟨rfl, m3.trans n4⟩
      · rw [if_neg h1] at hN
        exact hN _ _ ⟨rfl, m3⟩
end

section
variable {P : Program} {w : World} {K : PySem.W.Frag} {mg : Str → Option Value} {base : Heap}
/-! ### small answers -/
theorem i_isNo {n : Option Nat} {H : Hp} {Q : VK} (h : Q (.bl (decide (n = none))) H) : V.non = V.non ∧ Q (.bl (decide (optV n = .non))) H := by
  refine ⟨rfl, ?_⟩
  have e : decide (optV n = V.non) = decide (n = none) := by cases n <;> rfl
  rw [e]; exact h
theorem i_notNo {n : Option Nat} {H : Hp} {Q : VK} (h : Q (.bl (!decide (n = none))) H) : V.non = V.non ∧ Q (.bl (!decide (optV n = .non))) H := by
  refine ⟨rfl, ?_⟩
  have e : decide (optV n = V.non) = decide (n = none) := by cases n <;> rfl
  rw [e]; exact h
def sp_no_client : Sp := fun vs H Q _ => vs = [] ∧ ∀ D, H D = none → Q (.ref D) (upd H D (.lst [.int (-11)]))
theorem sc_no_client : FnScope [] [] (defScope s_no_client) := ⟨rfl, rfl, rfl, by decide +kernel, rfl, by decide +kernel, by decide +kernel⟩
theorem ok_no_client (X : Tx K mg) : GF P w K mg base 1 (He.ga K "no_client") [] sp_no_client := by
  refine GF.of X.d_no_client sc_no_client (fun vs H Q E h => ?_) (fun _ _ _ _ _ _ us hl => match us, hl with | [], _ => rfl) (fun cdv A outer s H vs Q E hr h => ?_)
  · obtain ⟨rfl, _⟩ := h; rfl
  obtain ⟨rfl, h⟩ := h
  refine ⟨_, PSs.nox (pss_one (ps_ret (pe_lst (pa_cons (pe_un un_neg pe_int) pa_nil)))), ?_⟩
  exact ⟨11, rfl, by show 1 ≤ sizeLine; decide, h⟩
def sp_missing : Sp := fun vs H Q _ => vs = [] ∧ ∀ D, H D = none → Q (.ref D) (upd H D (.lst [.int (-2)]))
theorem sc_missing : FnScope [] [] (defScope s_missing) := ⟨rfl, rfl, rfl, by decide +kernel, rfl, by decide +kernel, by decide +kernel⟩
theorem ok_missing (X : Tx K mg) : GF P w K mg base 1 (He.ga K "missing") [] sp_missing := by
  refine GF.of X.d_missing sc_missing (fun vs H Q E h => ?_) (fun _ _ _ _ _ _ us hl => match us, hl with | [], _ => rfl) (fun cdv A outer s H vs Q E hr h => ?_)
  · obtain ⟨rfl, _⟩ := h; rfl
  obtain ⟨rfl, h⟩ := h
  refine ⟨_, PSs.nox (pss_one (ps_ret (pe_lst (pa_cons (pe_un un_neg pe_int) pa_nil)))), ?_⟩
  exact ⟨2, rfl, by show 1 ≤ sizeLine; decide, h⟩
def sp_outside_limits : Sp := fun vs H Q _ => vs = [] ∧ ∀ D, H D = none → Q (.ref D) (upd H D (.lst [.int (-22)]))
theorem sc_outside_limits : FnScope [] [] (defScope s_outside_limits) := ⟨rfl, rfl, rfl, by decide +kernel, rfl, by decide +kernel, by decide +kernel⟩
theorem ok_outside_limits (X : Tx K mg) : GF P w K mg base 1 (He.ga K "outside_limits") [] sp_outside_limits := by
  refine GF.of X.d_outside_limits sc_outside_limits (fun vs H Q E h => ?_) (fun _ _ _ _ _ _ us hl => match us, hl with | [], _ => rfl) (fun cdv A outer s H vs Q E hr h => ?_)
  · obtain ⟨rfl, _⟩ := h; rfl
  obtain ⟨rfl, h⟩ := h
  refine ⟨_, PSs.nox (pss_one (ps_ret (pe_lst (pa_cons (pe_un un_neg pe_int) pa_nil)))), ?_⟩
  exact ⟨22, rfl, by show 1 ≤ sizeLine; decide, h⟩
def sp_not_running : Sp := fun vs H Q _ => vs = [] ∧ ∀ D, H D = none → Q (.ref D) (upd H D (.lst [.int (-16)]))
theorem sc_not_running : FnScope [] [] (defScope s_not_running) := ⟨rfl, rfl, rfl, by decide +kernel, rfl, by decide +kernel, by decide +kernel⟩
theorem ok_not_running (X : Tx K mg) : GF P w K mg base 1 (He.ga K "not_running") [] sp_not_running := by
  refine GF.of X.d_not_running sc_not_running (fun vs H Q E h => ?_) (fun _ _ _ _ _ _ us hl => match us, hl with | [], _ => rfl) (fun cdv A outer s H vs Q E hr h => ?_)
  · obtain ⟨rfl, _⟩ := h; rfl
  obtain ⟨rfl, h⟩ := h
  refine ⟨_, PSs.nox (pss_one (ps_ret (pe_lst (pa_cons (pe_un un_neg pe_int) pa_nil)))), ?_⟩
  exact ⟨16, rfl, by show 1 ≤ sizeLine; decide, h⟩
def sp_too_many : Sp := fun vs H Q _ => vs = [] ∧ ∀ D, H D = none → Q (.ref D) (upd H D (.lst [.int (-28)]))
theorem sc_too_many : FnScope [] [] (defScope s_too_many) := ⟨rfl, rfl, rfl, by decide +kernel, rfl, by decide +kernel, by decide +kernel⟩
theorem ok_too_many (X : Tx K mg) : GF P w K mg base 1 (He.ga K "too_many") [] sp_too_many := by
  refine GF.of X.d_too_many sc_too_many (fun vs H Q E h => ?_) (fun _ _ _ _ _ _ us hl => match us, hl with | [], _ => rfl) (fun cdv A outer s H vs Q E hr h => ?_)
  · obtain ⟨rfl, _⟩ := h; rfl
  obtain ⟨rfl, h⟩ := h
  refine ⟨_, PSs.nox (pss_one (ps_ret (pe_lst (pa_cons (pe_un un_neg pe_int) pa_nil)))), ?_⟩
  exact ⟨28, rfl, by show 1 ≤ sizeLine; decide, h⟩
def sp_nothing_there : Sp := fun vs H Q _ => vs = [] ∧ ∀ D, H D = none → Q (.ref D) (upd H D (.lst [.int (-33)]))
theorem sc_nothing_there : FnScope [] [] (defScope s_nothing_there) := ⟨rfl, rfl, rfl, by decide +kernel, rfl, by decide +kernel, by decide +kernel⟩
theorem ok_nothing_there (X : Tx K mg) : GF P w K mg base 1 (He.ga K "nothing_there") [] sp_nothing_there := by
  refine GF.of X.d_nothing_there sc_nothing_there (fun vs H Q E h => ?_) (fun _ _ _ _ _ _ us hl => match us, hl with | [], _ => rfl) (fun cdv A outer s H vs Q E hr h => ?_)
  · obtain ⟨rfl, _⟩ := h; rfl
  obtain ⟨rfl, h⟩ := h
  refine ⟨_, PSs.nox (pss_one (ps_ret (pe_lst (pa_cons (pe_un un_neg pe_int) pa_nil)))), ?_⟩
  exact ⟨33, rfl, by show 1 ≤ sizeLine; decide, h⟩
def sp_final_status (K : PySem.W.Frag) : Sp := fun vs H Q _ => ∃ (T : List (Addr × Str)) (L : Lo) (c : Client) (i : Nat), vs = [.ref (L.ca i)] ∧ St K T L c H ∧ i < c.calls.length ∧ Q (nV (Kp423.callStatus c i)) H
theorem sc_final_status : FnScope ["call"] ["call"] (defScope s_final_status) := ⟨rfl, rfl, rfl, by decide +kernel, rfl, by decide +kernel, by decide +kernel⟩
theorem ok_final_status (X : Tx K mg) : GF P w K mg base 1 (He.ga K "final_status") ["call"] (sp_final_status K) := by
  refine GF.of X.d_final_status sc_final_status (fun vs H Q E h => ?_) (fun _ _ _ _ _ _ us hl => match us, hl with | [_], _ => rfl) (fun cdv A outer s H vs Q E hr h => ?_)
  · obtain ⟨T, L, c, i, rfl, _⟩ := h; rfl
  obtain ⟨T, L, c, i, rfl, h⟩ := h
  refine ⟨_, PSs.nox (pss_one (ps_ret (pe_ifExp (pt_cmpR op_isN (pe_fld (pv 0) rfl) pe_non (nomark _)) pe_int (pe_op op_add (pe_fld (pv 0) rfl) pe_int)))), ?_⟩
  obtain ⟨S, hi, h⟩ := h
  unfold Kp423.callStatus at h
  walk_at "rd"
  cases hs : (callAt c i).status with
  | none =>
    rw [hs] at h
    exact h
  | some n =>
    rw [hs] at h
    refine if_f ?_
    walk_at "rd"
    rw [hs]
    refine i_rI0 (i := (n : Int)) ?_
    exact h
def sp_is_active (K : PySem.W.Frag) : Sp := fun vs H Q _ => ∃ (T : List (Addr × Str)) (L : Lo) (c : Client) (b : Nat), vs = [.ref L.cl, nV b] ∧ St K T L c H ∧ Q (.bl (Kp423.isBackend c b)) H
theorem sc_is_active : FnScope ["client", "backend"] ["client", "backend"] (defScope s_is_active) := ⟨rfl, rfl, rfl, by decide +kernel, rfl, by decide +kernel, by decide +kernel⟩
theorem ok_is_active (X : Tx K mg) : GF P w K mg base 1 (He.ga K "is_active") ["client", "backend"] (sp_is_active K) := by
  refine GF.of X.d_is_active sc_is_active (fun vs H Q E h => ?_) (fun _ _ _ _ _ _ us hl => match us, hl with | [_, _], _ => rfl) (fun cdv A outer s H vs Q E hr h => ?_)
  · obtain ⟨T, L, c, b, rfl, _⟩ := h; rfl
  obtain ⟨T, L, c, b, rfl, h⟩ := h
  refine ⟨_, PSs.nox (pss_one (ps_ret (pe_and (pe_cmpR op_lt (pv 1) (pe_callB call_len_seq (by rfl) X.b_len PySem.boot_len (pa_cons (pe_fld (pv 0) rfl) pa_nil)) (nomark _)) (pe_one (pe_fld (pe_ix ix_list (pe_fld (pv 0) rfl) (pv 1) (fun _ _ => rfl)) rfl))))), ?_⟩
  obtain ⟨S, h⟩ := h
  walk_at "rd"
  refine ⟨_, _, rfl, .inl S.lsB, ?_⟩
  rw [List.length_map, List.length_range]
  walk_at "rd"
  unfold Kp423.isBackend at h
  refine ite_dec (fun h1 => ?_) fun h1 => ?_
  · have hb : b < c.backends.length := by omega
    rw [decide_eq_true hb, Bool.true_and] at h
    walk_at "rd"
    refine i_ixL S.lsB (v := .ref (L.bk b)) (by rw [List.getElem?_map, List.getElem?_range hb]; rfl) ?_
    walk_at "rd"
    exact h
  · have hb : ¬ b < c.backends.length := by omega
    rw [decide_eq_false hb, Bool.false_and] at h
    exact h
def sp_is_weight : Sp := fun vs H Q _ => ∃ n : Nat, vs = [nV n] ∧ Q (.bl (Kp423.inRange 1 100 n)) H
theorem range_is (a b n : Nat) : decide ((a : Int) ≤ (n : Int) ∧ (n : Int) ≤ (b : Int)) = Kp423.inRange a b n := by
  unfold Kp423.inRange
  rw [← Bool.decide_and]
  exact decide_eq_decide.mpr (by omega)
theorem sc_is_weight : FnScope ["weight"] ["weight"] (defScope s_is_weight) := ⟨rfl, rfl, rfl, by decide +kernel, rfl, by decide +kernel, by decide +kernel⟩
theorem ok_is_weight (X : Tx K mg) : GF P w K mg base 2 (He.ga K "is_weight") ["weight"] sp_is_weight := by
  refine GF.of X.d_is_weight sc_is_weight (fun vs H Q E h => ?_) (fun _ _ _ _ _ _ us hl => match us, hl with | [_], _ => rfl) (fun cdv A outer s H vs Q E hr h => ?_)
  · obtain ⟨n, rfl, _⟩ := h; rfl
  obtain ⟨n, rfl, h⟩ := h
  refine ⟨_, PSs.nox (pss_one (ps_ret (pe_fn (ok_within X) X.g_within (hr.mono (by decide)) (pa_cons (pv 0) (pa_cons pe_int (pa_cons pe_int pa_nil)))))), ?_⟩
  walk_at "rd"
  refine ⟨_, _, _, rfl, ?_⟩
  walk_at "rd"
  have e := range_is 1 100 n
  rw [← e] at h
  exact h
def sp_time_told : Sp := fun vs H Q _ => ∃ n : Option Nat, vs = [optV n] ∧ Q (nV (Kp423.optionNumber n)) H
theorem sc_time_told : FnScope ["moment"] ["moment"] (defScope s_time_told) := ⟨rfl, rfl, rfl, by decide +kernel, rfl, by decide +kernel, by decide +kernel⟩
theorem ok_time_told (X : Tx K mg) : GF P w K mg base 1 (He.ga K "time_told") ["moment"] sp_time_told := by
  refine GF.of X.d_time_told sc_time_told (fun vs H Q E h => ?_) (fun _ _ _ _ _ _ us hl => match us, hl with | [_], _ => rfl) (fun cdv A outer s H vs Q E hr h => ?_)
  · obtain ⟨n, rfl, _⟩ := h; rfl
  obtain ⟨n, rfl, h⟩ := h
  refine ⟨_, PSs.nox (pss_one (ps_ret (pe_ifExp (pt_cmpR op_isN (pv 0) pe_non (nomark _)) pe_int (pe_op op_add (pv 0) pe_int)))), ?_⟩
  walk_at "rd"
  cases n with
  | none => exact h
  | some n =>
    refine if_f ?_
    walk_at "rd"
    refine i_rI0 (i := (n : Int)) ?_
    exact h
end

section
variable {P : Program} {w : World} {K : PySem.W.Frag} {mg : Str → Option Value} {base : Heap}
/-! ### timers -/
def tmV (m : Kp423.Timer) : List V := [nV m.time, nV m.kind, nV m.call]
/-- the tuples of the timers lie at these addresses -/
def Tups (H : Hp) : List Addr → List Kp423.Timer → Prop
  | [], [] => True
  | t :: r, m :: s => H t = some (.tup (tmV m)) ∧ Tups H r s
  | _, _ => False
theorem Tups.ext {H H' : Hp} (e : MM.Ext H H') : ∀ {ts : List Addr} {ms : List Kp423.Timer}, Tups H ts ms → Tups H' ts ms
  | [], [], _ => trivial
  | t :: r, m :: s, h => ⟨e _ _ h.1, Tups.ext e h.2⟩
theorem Tups.len {H : Hp} : ∀ {ts : List Addr} {ms : List Kp423.Timer}, Tups H ts ms → ts.length = ms.length
  | [], [], _ => rfl
  | t :: r, m :: s, h => by rw [List.length_cons, List.length_cons, Tups.len h.2]
theorem Tups.app {H : Hp} : ∀ {ts : List Addr} {ms : List Kp423.Timer} {ts2 : List Addr} {ms2 : List Kp423.Timer}, Tups H ts ms → Tups H ts2 ms2 → Tups H (ts ++ ts2) (ms ++ ms2)
  | [], [], _, _, _, h => h
  | t :: r, m :: s, _, _, h, h2 => ⟨h.1, Tups.app h.2 h2⟩
theorem Tups.at {H : Hp} : ∀ {ts : List Addr} {ms : List Kp423.Timer} {k : Nat} {t : Addr}, Tups H ts ms → ts[k]? = some t → ∃ m, ms[k]? = some m ∧ H t = some (.tup (tmV m))
  | t :: r, m :: s, 0, t2, h, e => by cases e; exact ⟨m, rfl, h.1⟩
  | t :: r, m :: s, k + 1, t2, h, e => by
    have e : r[k]? = some t2 := e
    exact Tups.at (k := k) h.2 e
  | [], [], k, t2, h, e => by cases e
/-- a list that is not a tuple is written -/
theorem Tups.upd {H : Hp} {l : Addr} {xs ys : List V} (hl : H l = some (.lst xs)) : ∀ {ts : List Addr} {ms : List Kp423.Timer}, Tups H ts ms → Tups (upd H l (.lst ys)) ts ms
  | [], [], _ => trivial
  | t :: r, m :: s, h => ⟨by rw [upd_ne (ne_of h.1 hl (by intro z; cases z))]; exact h.1, Tups.upd hl h.2⟩
theorem ext_upd {H H' : Hp} {l : Addr} {u : HO} (e : MM.Ext H H') (n : H l = none) : MM.Ext H (upd H' l u) := fun b o h => by
  rw [upd_ne (ne_of_none h n)]; exact e b o h
theorem timers_is (c : Client) (i : Nat) : Kp423.timersOf c i = match (callAt c i).status with
    | some _ => []
    | none => [⟨(callAt c i).deadline, 0, i⟩] ++ ((match (callAt c i).retryAt with | none => [] | some t => [⟨t, 1, i⟩]) ++ (match (callAt c i).hedgeAt with | none => [] | some t => [⟨t, 2, i⟩])) := by
  unfold Kp423.timersOf Kp423.isOpen
  dsimp only
  cases (callAt c i).status with
  | some n => rfl
  | none =>
    rw [List.append_assoc]
    rfl
def TupR (xs : List V) (H1 : Hp) (Q : VK) : Prop := xs.length ≤ sizeLine ∧ ∀ p, H1 p = none → Q (.ref p) (upd H1 p (.tup xs))
def LstR (xs : List V) (H1 : Hp) (Q : VK) : Prop := xs.length ≤ sizeLine ∧ ∀ p, H1 p = none → Q (.ref p) (upd H1 p (.lst xs))
theorem i_tupG {ts : TA} {σ : L2.St} {H : Hp} {Q : VK} (h : ts σ H fun xs H1 => TupR xs H1 Q) : tTup ts σ H Q := h
theorem i_lstG {ts : TA} {σ : L2.St} {H : Hp} {Q : VK} (h : ts σ H fun xs H1 => LstR xs H1 Q) : tLst ts σ H Q := h
theorem BmR.appU {K : PySem.W.Frag} {l : Addr} {xs : List V} {ts : TA} {σ : L2.St} {H : Hp} {Q : VK} (hl : H l = some (.lst xs)) (h : ts σ H fun ys H2 => TupR ys H2 fun v H3 => H3 l = some (.lst xs) ∧ xs.length < sizeLine ∧ Q .non (upd H3 l (.lst (xs ++ [v]))))
    (hm : ∀ (Q' Q'' : List V → Hp → Prop), (∀ v H, Q' v H → Q'' v H) → ts σ H Q' → ts σ H Q'') : BmR K "list" rAppend (.ref l) (tCons (tTup ts) tNil) σ H Q :=
  ⟨.inl ⟨rfl, _, SqL.of hl⟩, hm _ _ (fun ys H2 q => ⟨q.1, fun p hp => ⟨l, xs, _, rfl, rfl, (q.2 p hp).1, (q.2 p hp).2.1, (q.2 p hp).2.2⟩⟩) h⟩
/-- the list of timers so far -/
def Tl (H : Hp) (D : Addr) (ms : List Kp423.Timer) (H' : Hp) : Prop := MM.Ext H H' ∧ H D = none ∧ ∃ ts : List Addr, H' D = some (.lst (ts.map V.ref)) ∧ Tups H' ts ms
theorem Tl.add {H H' : Hp} {D t : Addr} {ms : List Kp423.Timer} {m : Kp423.Timer} (h : Tl H D ms H') (nt : H' t = none) : ∃ xs, H' D = some (.lst xs) ∧ xs.length = ms.length ∧ upd H' t (.tup (tmV m)) D = some (.lst xs) ∧ Tl H D (ms ++ [m]) (upd (upd H' t (.tup (tmV m))) D (.lst (xs ++ [.ref t]))) := by
  obtain ⟨e, n, ts, a, b⟩ := h
  have hne : D ≠ t := ne_of_none a nt
  have a2 : upd H' t (.tup (tmV m)) D = some (.lst (ts.map V.ref)) := by rw [upd_ne hne]; exact a
  have b2 : Tups (upd H' t (.tup (tmV m))) (ts ++ [t]) (ms ++ [m]) := Tups.app (Tups.ext (ext_new nt) b) ⟨upd_same, trivial⟩
  refine ⟨_, a, by rw [List.length_map, b.len], a2, ext_upd (ext_new2 e nt) n, n, ts ++ [t], ?_, Tups.upd a2 b2⟩
  rw [upd_same, List.map_append]; rfl
def sp_timers_of (K : PySem.W.Frag) : Sp := fun vs H Q _ => ∃ (T : List (Addr × Str)) (L : Lo) (c : Client) (i : Nat), vs = [.ref (L.ca i)] ∧ St K T L c H ∧ i < c.calls.length ∧
  ∀ D ts H', MM.Ext H H' → H D = none → H' D = some (.lst (ts.map V.ref)) → Tups H' ts (Kp423.timersOf c i) → Q (.ref D) H'
theorem sc_timers_of : FnScope ["call", "timers"] ["call"] (defScope s_timers_of) := ⟨rfl, rfl, rfl, by decide +kernel, rfl, by decide +kernel, by decide +kernel⟩
theorem ok_timers_of (X : Tx K mg) : GF P w K mg base 1 (He.ga K "timers_of") ["call"] (sp_timers_of K) := by
  refine GF.of X.d_timers_of sc_timers_of (fun vs H Q E h => ?_) (fun _ _ _ _ _ _ us hl => match us, hl with | [_], _ => rfl) (fun cdv A outer s H vs Q E hr h => ?_)
  · obtain ⟨T, L, c, i, rfl, _⟩ := h; rfl
  obtain ⟨T, L, c, i, rfl, h⟩ := h
  refine ⟨_, PSs.nox (pss_cons (ps_if (pt_cmpR op_notN (pe_fld (pv 0) rfl) pe_non (nomark _)) (pss_one (ps_ret (pe_lst pa_nil))) pss_nil) (pss_cons (ps_set (i := 1) sc_timers_of.nd rfl (Or.inl rfl) (pe_lst (pa_cons (pe_tup (pa_cons (pe_fld (pv 0) rfl) (pa_cons (pe_gi X.i_AT_DEADLINE) (pa_cons (pe_fld (pv 0) rfl) pa_nil)))) pa_nil))) (pss_cons (ps_if (pt_cmpR op_notN (pe_fld (pv 0) rfl) pe_non (nomark _)) (pss_one (ps_expr (pe_bm PySem.F.plainAttrs_list PySem.F.slot_list_append PySem.F.type_list_append mt_append (pv 1) (pa_cons (pe_tup (pa_cons (pe_fld (pv 0) rfl) (pa_cons (pe_gi X.i_AT_RETRY) (pa_cons (pe_fld (pv 0) rfl) pa_nil)))) pa_nil)))) pss_nil) (pss_cons (ps_if (pt_cmpR op_notN (pe_fld (pv 0) rfl) pe_non (nomark _)) (pss_one (ps_expr (pe_bm PySem.F.plainAttrs_list PySem.F.slot_list_append PySem.F.type_list_append mt_append (pv 1) (pa_cons (pe_tup (pa_cons (pe_fld (pv 0) rfl) (pa_cons (pe_gi X.i_AT_HEDGE) (pa_cons (pe_fld (pv 0) rfl) pa_nil)))) pa_nil)))) pss_nil) (pss_one (ps_ret (pv 1))))))), ?_⟩
  obtain ⟨S, hi, h⟩ := h
  rw [timers_is] at h
  refine i_seq ?_
  walk_at "rd"
  cases hs : (callAt c i).status with
  | some n =>
    rw [hs] at h
    refine if_t ?_
    walk_at "rd"
    refine ⟨Nat.zero_le _, fun D nD => h D [] _ (ext_new nD) nD upd_same trivial⟩
  | none =>
    rw [hs] at h
    dsimp only at h
    refine if_f ?_
    refine i_next ?_
    refine i_seqA ?_
    refine i_asg ?_
    refine i_lstG (i_cons (i_tupG ?_))
    walk_at "rd"
    refine ⟨by show 3 ≤ sizeLine; decide, fun t1 nt1 => ?_⟩
    walk_at "rd"
    refine ⟨by show 1 ≤ sizeLine; decide, fun D nD => ?_⟩
    have nD0 : H D = none := (ext_new nt1).fresh _ nD
    have T1 : Tl H D [⟨(callAt c i).deadline, 0, i⟩] (upd (upd H t1 (.tup [nV (callAt c i).deadline, .int 0, nV i])) D (.lst [.ref t1])) := by
      refine ⟨ext_new2 (ext_new nt1) nD, nD0, [t1], upd_same, ?_, trivial⟩
      rw [upd_ne (fun z => by rw [← z, upd_same] at nD; cases nD), upd_same]
      rfl
    generalize upd (upd H t1 (.tup [nV (callAt c i).deadline, .int 0, nV i])) D (.lst [.ref t1]) = H1 at T1 ⊢
    refine i_gname ?_
    refine i_seqJ (fun σ' H' => σ' = [some (.ref (L.ca i)), some (.ref D)] ∧ Tl H D ([⟨(callAt c i).deadline, 0, i⟩] ++ (match (callAt c i).retryAt with | none => [] | some t => [⟨t, 1, i⟩])) H') ?_ fun N hN => ?_
    · rintro σ' H2 ⟨rfl, T2⟩
      refine i_seqJ (fun σ' H' => σ' = [some (.ref (L.ca i)), some (.ref D)] ∧ Tl H D ([⟨(callAt c i).deadline, 0, i⟩] ++ ((match (callAt c i).retryAt with | none => [] | some t => [⟨t, 1, i⟩]) ++ (match (callAt c i).hedgeAt with | none => [] | some t => [⟨t, 2, i⟩]))) H') ?_ fun N hN => ?_
      · rintro σ' H3 ⟨rfl, T3⟩
        walk_at "rd"
        obtain ⟨e, n, ts, a, b⟩ := T3
        exact h D ts H3 e n a b
      · have S2 := S.ext T2.1
        walk_at "rd"
        cases hs2 : (callAt c i).hedgeAt with
        | none =>
          rw [hs2] at hN
          refine if_f ?_
          refine hN _ _ ⟨rfl, ?_⟩
          rw [List.append_nil]
          exact T2
        | some t =>
          rw [hs2] at hN
          refine if_t ?_
          obtain ⟨xs0, a0⟩ : ∃ xs, H2 D = some (.lst xs) := ⟨_, T2.2.2.choose_spec.1⟩
          walk_at "rd"
          refine ⟨.inl ⟨rfl, _, SqL.of a0⟩, ?_⟩
          refine i_cons (i_tupG ?_)
          walk_at "rd"
          rw [hs2]
          refine ⟨by show 3 ≤ sizeLine; decide, fun t1 nt1 => ?_⟩
          obtain ⟨xs, a1, lz, a2, T3⟩ := T2.add (m := ⟨t, 2, i⟩) nt1
          refine ⟨D, xs, _, rfl, rfl, a2, by rw [lz]; show _ < sizeLine; exact small_size (by cases (callAt c i).retryAt <;> first | (show 1 ≤ 1000000; decide) | (show 2 ≤ 1000000; decide)), ?_⟩
          exact hN _ _ ⟨rfl, by rw [List.append_assoc] at T3; exact T3⟩
    · have S1 := S.ext T1.1
      walk_at "rd"
      cases hs2 : (callAt c i).retryAt with
      | none =>
        rw [hs2] at hN
        refine if_f ?_
        refine hN _ _ ⟨rfl, ?_⟩
        rw [List.append_nil]
        exact T1
      | some t =>
        rw [hs2] at hN
        refine if_t ?_
        obtain ⟨xs0, a0⟩ : ∃ xs, H1 D = some (.lst xs) := ⟨_, T1.2.2.choose_spec.1⟩
        walk_at "rd"
        refine ⟨.inl ⟨rfl, _, SqL.of a0⟩, ?_⟩
        refine i_cons (i_tupG ?_)
        walk_at "rd"
        rw [hs2]
        refine ⟨by show 3 ≤ sizeLine; decide, fun t1 nt1 => ?_⟩
        obtain ⟨xs, a1, lz, a2, T3⟩ := T1.add (m := ⟨t, 1, i⟩) nt1
        refine ⟨D, xs, _, rfl, rfl, a2, by rw [lz]; show _ < sizeLine; exact small_size (by show 1 ≤ 1000000; decide), ?_⟩
        exact hN _ _ ⟨rfl, T3⟩
def sp_earliest_timer (K : PySem.W.Frag) : Sp := fun vs H Q _ => ∃ (T : List (Addr × Str)) (L : Lo) (c : Client), vs = [.ref L.cl] ∧ St K T L c H ∧ Sz c ∧
  (Kp423.nextTimer c = none → ∀ H', MM.Ext H H' → Q .non H') ∧ ∀ m t H', Kp423.nextTimer c = some m → MM.Ext H H' → H' t = some (.tup (tmV m)) → Q (.ref t) H'
theorem timers_len (c : Client) (i : Nat) : (Kp423.timersOf c i).length ≤ 3 := by
  rw [timers_is]
  cases (callAt c i).status with
  | some _ => exact Nat.zero_le _
  | none =>
    cases (callAt c i).retryAt <;> cases (callAt c i).hedgeAt <;> first | (show 1 ≤ 3; decide) | (show 2 ≤ 3; decide) | (show 3 ≤ 3; decide)
theorem tms_len (c : Client) : ∀ n, ((List.range n).flatMap (Kp423.timersOf c)).length ≤ 3 * n
  | 0 => Nat.le_refl _
  | n + 1 => by
    rw [List.range_succ, List.flatMap_append, List.length_append, List.flatMap_cons, List.flatMap_nil, List.append_nil]
    have := tms_len c n
    have := timers_len c n
    omega
theorem sc_earliest_timer : FnScope ["client", "timers", "call"] ["client"] (defScope s_earliest_timer) := ⟨rfl, rfl, rfl, by decide +kernel, rfl, by decide +kernel, by decide +kernel⟩
theorem ok_earliest_timer (X : Tx K mg) : GF P w K mg base 2 (He.ga K "earliest_timer") ["client"] (sp_earliest_timer K) := by
  refine GF.of X.d_earliest_timer sc_earliest_timer (fun vs H Q E h => ?_) (fun _ _ _ _ _ _ us hl => match us, hl with | [_], _ => rfl) (fun cdv A outer s H vs Q E hr h => ?_)
  · obtain ⟨T, L, c, rfl, _⟩ := h; rfl
  obtain ⟨T, L, c, rfl, h⟩ := h
  refine ⟨_, PSs.nox (pss_cons (ps_set (i := 1) sc_earliest_timer.nd rfl (Or.inl rfl) (pe_lst pa_nil)) (pss_cons (ps_for PassesOwn.never rfl (pi_list (pe_fld (pv 0) rfl)) (pg_name (i := 2) sc_earliest_timer.nd rfl (Or.inl rfl)) (pss_one (ps_expr (pe_bm PySem.F.plainAttrs_list PySem.F.slot_list_extend PySem.F.type_list_extend mt_extend (pv 1) (pa_cons (pe_fn (ok_timers_of X) X.g_timers_of (hr.mono (by decide)) (pa_cons (pv 2) pa_nil)) pa_nil))))) (pss_one (ps_ret (pe_callBK (MinD.cr_minD rfl hr.units) (by rfl) X.b_min (by decide +kernel) (pa_cons (pv 1) pa_nil) (pk_cons pe_non pk_nil)))))), ?_⟩
  obtain ⟨S, hz, h1, h2⟩ := h
  have hc := hz.cs
  refine i_seqA ?_
  refine i_asg ?_
  refine i_lstG ?_
  refine ⟨Nat.zero_le _, fun D nD => ?_⟩
  have T0 : Tl H D [] (upd H D (.lst [])) := ⟨ext_new nD, nD, [], upd_same, trivial⟩
  generalize upd H D (.lst []) = H1 at T0 ⊢
  have S1 := S.ext T0.1
  refine i_gname ?_
  refine i_seq ?_
  walk_at "rd"
  refine ForR.of (xs := (List.range c.calls.length).map fun i => .ref (L.ca i)) S1.lsC (fun k σ' H' => (∃ x, σ' = [some (.ref L.cl), some (.ref D), x]) ∧ Tl H D ((List.range k).flatMap (Kp423.timersOf c)) H') ⟨⟨none, rfl⟩, T0⟩ ?_ ?_ ?_
  · rintro k σ' H' _ ⟨_, T2⟩
    exact (S.ext T2.1).lsC
  · rintro k x σ' H' hx ⟨⟨x0, rfl⟩, T2⟩
    have hk : k < c.calls.length := by
      have := (List.getElem?_eq_some_iff.mp hx).1
      rw [List.length_map, List.length_range] at this; exact this
    obtain rfl : x = .ref (L.ca k) := by
      rw [List.getElem?_map, List.getElem?_range hk] at hx
      exact (Option.some.inj hx).symm
    have S2 := S.ext T2.1
    obtain ⟨e, n, ts, a, b⟩ := T2
    walk_at "rd"
    refine ⟨.inl ⟨rfl, _, SqL.of a⟩, ?_⟩
    walk_at "rd"
    refine ⟨T, L, c, k, rfl, S2, hk, fun D2 ts2 H3 e3 n3 a3 b3 => ?_⟩
    refine i_nil ?_
    have a4 := e3 _ _ a
    refine ⟨D, D2, _, _, rfl, rfl, a4, a3, ?_, ?_⟩
    · have l1 := b.len
      have l2 := b3.len
      have l3 := tms_len c k
      have l4 := timers_len c k
      rw [List.length_map, List.length_map]
      have : ts.length + ts2.length ≤ 1000000 := by omega
      exact Nat.le_of_lt (small_size this)
    · refine ⟨⟨_, rfl⟩, ext_upd (e.trans e3) n, n, ts ++ ts2, by rw [upd_same, List.map_append], ?_⟩
      rw [List.range_succ, List.flatMap_append, List.flatMap_cons, List.flatMap_nil, List.append_nil]
      exact Tups.upd a4 (Tups.app (Tups.ext e3 b) b3)
  · rintro σ' H' ⟨⟨x0, rfl⟩, T2⟩
    rw [List.length_map, List.length_range] at T2
    obtain ⟨e, n, ts, a, b⟩ := T2
    have b : Tups H' ts (HM.tms c) := b
    have bl := b.len
    walk_at "rd"
    refine ⟨_, rfl, ?_⟩
    have at_ : ∀ (k : Nat) (x : V), (ts.map V.ref)[k]? = some x → ∃ t m, x = .ref t ∧ (HM.tms c)[k]? = some m ∧ H' t = some (.tup (tmV m)) := fun k x hx => by
      rw [List.getElem?_map] at hx
      cases q : ts[k]? with
      | none => rw [q] at hx; cases hx
      | some t =>
        rw [q] at hx
        obtain ⟨m, hm, ht⟩ := b.at q
        exact ⟨t, m, (Option.some.inj hx).symm, hm, ht⟩
    refine ⟨D, ts.map V.ref, HM.tval (HM.tms c), rfl, rfl, SqL.of a, HM.tval_order _, fun k x hx => ?_, fun hx H2 e2 => ?_, fun k x H2 hx hb e2 => ?_⟩
    · obtain ⟨t, m, rfl, hm, ht⟩ := at_ k x hx
      have ev : (HM.tval (HM.tms c) k).map V.int = tmV m := by unfold HM.tval; rw [hm]; rfl
      exact ⟨t, rfl, by rw [ev]; exact SqT.of ht⟩
    · have z : (HM.tms c) = [] := by
        have l := congrArg List.length hx
        rw [List.length_map, bl] at l
        exact List.length_eq_zero_iff.mp l
      exact h1 (HM.tnone z) H2 (e.trans e2)
    · obtain ⟨t, m, rfl, hm, ht⟩ := at_ k x hx
      rw [List.length_map, bl] at hb
      exact h2 m t H2 (HM.tbest hm hb) (e.trans e2) (e2 _ _ ht)
end

section
variable {P : Program} {w : World} {K : PySem.W.Frag} {mg : Str → Option Value} {base : Heap}
/-! ### a timer fires -/
theorem i_ixT {K : PySem.W.Frag} {H : Hp} {Q : VK} {p : Addr} {xs : List V} {k : Nat} {v : V} (hS : SqT K H p xs) (hv : xs[k]? = some v) (h : Q v H) : rIxT K (.ref p) (.int (k : Int)) H Q := ⟨p, xs, _, v, rfl, rfl, hS, atI_nat hv, h⟩
theorem Off.tup {K : PySem.W.Frag} {T : List (Addr × Str)} {L : Lo} {c : Client} {H : Hp} {t : Addr} {xs : List V} (S : St K T L c H) (h : H t = some (.tup xs)) : Off L c t := fun k o e z => by
  have q := S.has k o e
  rw [z] at q
  cases o with
  | l ys => have q : H t = _ := q; rw [h] at q; cases q
  | i C fs => obtain ⟨dx, q⟩ := q; rw [h] at q; cases q
section
variable (c : Client) (n i s : Nat) (b : Bool)
def hc (c : Client) (n : Nat) : Client := { c with hedgeCount := n }
theorem hc_cancel (j : Nat) : Kp423.cancelAttempt (hc c n) j = hc (Kp423.cancelAttempt c j) n := rfl
theorem hc_cancels : ∀ (l : List Nat) (c : Client), l.foldl Kp423.cancelAttempt (hc c n) = hc (l.foldl Kp423.cancelAttempt c) n
  | [], _ => rfl
  | j :: r, c => by
    rw [List.foldl_cons, List.foldl_cons, hc_cancel]
    exact hc_cancels r _
theorem hc_finish : Kp423.finishCall (hc c n) i s = hc (Kp423.finishCall c i s) n := by
  show (Kp423.runningOf c i).foldl Kp423.cancelAttempt (hc (setCall c i { callAt c i with status := some s, finishedAt := c.now, retryAt := none, hedgeAt := none }) n) = _
  exact hc_cancels n _ _
theorem hc_picked (key : Nat) (l : List Nat) : picked (hc c n) key l = picked c key l := rfl
theorem hc_moved (l : List Nat) : HM.moved (hc c n) l i = hc (HM.moved c l i) n := by
  unfold HM.moved
  have e : (hc c n).policy.balancer = c.policy.balancer := rfl
  rw [e]
  generalize c.policy.balancer = k
  match k with
  | 0 => rfl
  | 1 => rfl
  | k + 2 => rfl
theorem hc_start (hb : c.policy.balancer ≤ 3) : Kp423.startAttempt (hc c n) i b = hc (Kp423.startAttempt c i b) n := by
  have e1 := choose_is c hb (callAt c i).key (Kp423.triedBackends c i)
  have e2 := choose_is (hc c n) hb (callAt c i).key (Kp423.triedBackends c i)
  have ec : Kp423.candidates (hc c n) (Kp423.triedBackends c i) = Kp423.candidates c (Kp423.triedBackends c i) := rfl
  rw [ec, hc_picked] at e2
  cases q : picked c (callAt c i).key (Kp423.candidates c (Kp423.triedBackends c i)) with
  | none =>
    rw [q] at e1 e2
    rw [start_none (c := hc c n) e2, start_none e1]
    exact hc_finish c n i 14
  | some k =>
    rw [q] at e1 e2
    have e2 : Kp423.choose (hc c n) (callAt (hc c n) i).key (Kp423.triedBackends (hc c n) i) = some (k, HM.moved (hc c n) (Kp423.candidates c (Kp423.triedBackends c i)) k) := e2
    rw [hc_moved] at e2
    rw [start_some e2, start_some e1]
    rfl
end
def sp_fire (K : PySem.W.Frag) : Sp := fun vs H Q _ => ∃ (L : Lo) (c : Client) (t : Addr) (m : Kp423.Timer), vs = [.ref L.cl, .ref t] ∧ St K (tbs K) L c H ∧ H t = some (.tup (tmV m)) ∧ Sz c ∧ Pol c.policy ∧ HM.Acc c ∧ c.attempts.length < 1000000 ∧ m.call < c.calls.length ∧
  ∀ L' H', Nxt K (tbs K) L c H L' (Kp423.fire { c with now := max c.now m.time } m) H' → Q .non H'
theorem sc_fire : FnScope ["client", "timer", "call"] ["client", "timer"] (defScope s_fire) := ⟨rfl, rfl, rfl, by decide +kernel, rfl, by decide +kernel, by decide +kernel⟩
theorem ok_fire (X : Tx K mg) (TB : TabB base mg (He.cT K ("pick", none)).1 (He.cT K ("pick", none)).2) : GF P w K mg base 7 (He.ga K "fire") ["client", "timer"] (sp_fire K) := by
  refine GF.of X.d_fire sc_fire (fun vs H Q E h => ?_) (fun _ _ _ _ _ _ us hl => match us, hl with | [_, _], _ => rfl) (fun cdv A outer s H vs Q E hr h => ?_)
  · obtain ⟨L, c, t, m, rfl, _⟩ := h; rfl
  obtain ⟨L, c, t, m, rfl, h⟩ := h
  refine ⟨_, PSs.nox (pss_cons (ps_fld (pv 0) (pe_callB (call_max2 rfl) (by rfl) X.b_max (by decide +kernel) (pa_cons (pe_fld (pv 0) rfl) (pa_cons (pe_ix ix_tup (pv 1) pe_int (fun _ _ => rfl)) pa_nil))) rfl) (pss_cons (ps_set (i := 2) sc_fire.nd rfl (Or.inl rfl) (pe_ix ix_list (pe_fld (pv 0) rfl) (pe_ix ix_tup (pv 1) pe_int (fun _ _ => rfl)) (fun _ _ => rfl))) (pss_one (ps_if (pt_cmpR op_eq (pe_ix ix_tup (pv 1) pe_int (fun _ _ => rfl)) (pe_gi X.i_AT_DEADLINE) (nomark _)) (pss_one (ps_expr (pe_fn (ok_end_call X) X.g_end_call (hr.mono (by decide)) (pa_cons (pv 0) (pa_cons (pv 2) (pa_cons (pe_gi X.i_DEADLINE_EXCEEDED) pa_nil)))))) (pss_one (ps_if (pt_cmpR op_eq (pe_ix ix_tup (pv 1) pe_int (fun _ _ => rfl)) (pe_gi X.i_AT_RETRY) (nomark _)) (pss_one (ps_expr (pe_fn (ok_start_attempt X TB) X.g_start_attempt (hr.mono (by decide)) (pa_cons (pv 0) (pa_cons (pv 2) (pa_cons pe_bl pa_nil)))))) (pss_one (ps_if (pt_val (pe_fn (ok_budget_allows X) X.g_budget_allows (hr.mono (by decide)) (pa_cons (pv 0) pa_nil))) (pss_cons (ps_fldaug (pv 0) pe_int in_add) (pss_one (ps_expr (pe_fn (ok_start_attempt X TB) X.g_start_attempt (hr.mono (by decide)) (pa_cons (pv 0) (pa_cons (pv 2) (pa_cons pe_bl pa_nil))))))) (pss_one (ps_fld (pv 2) pe_non rfl)))))))))), ?_⟩
  obtain ⟨S, ht, hz, hp, ac, hza, hm, h⟩ := h
  have ot := Off.tup S ht
  walk_at "rd"
  refine i_ixT (k := 0) (SqT.of ht) (v := nV m.time) rfl ?_
  walk_at "rd"
  refine ⟨_, _, rfl, ?_⟩
  walk_at "rd"
  have z : V.int (if (m.time : Int) > (c.now : Int) then (m.time : Int) else (c.now : Int)) = nV (max c.now m.time) := congrArg V.int (by split <;> omega)
  rw [z]
  refine w_cl_now (y := max c.now m.time) X S fun H1 n1 => ?_
  have ht1 := n1.keep _ _ ht ot fun ps z => by cases z
  have hz1 : Sz { c with now := max c.now m.time } := ⟨hz.bs, hz.cs, hz.ats⟩
  have hp1 : Pol ({ c with now := max c.now m.time } : Client).policy := hp
  have ac1 : HM.Acc { c with now := max c.now m.time } := ac.same rfl rfl rfl fun _ => rfl
  have hza1 : ({ c with now := max c.now m.time } : Client).attempts.length < 1000000 := hza
  have hm1 : m.call < ({ c with now := max c.now m.time } : Client).calls.length := hm
  generalize ({ c with now := max c.now m.time } : Client) = c1 at *
  have S1 := n1.st
  walk_at "rd"
  refine i_ixT (k := 2) (SqT.of ht1) (v := nV m.call) rfl ?_
  refine i_ixL (k := m.call) S1.lsC (v := .ref (L.ca m.call)) (by rw [List.getElem?_map, List.getElem?_range hm1]; rfl) ?_
  walk_at "rd"
  refine i_ixT (k := 1) (SqT.of ht1) (v := nV m.kind) rfl ?_
  walk_at "rd"
  refine ite_dec (fun h0 => ?_) fun h0 => ?_
  · have hk : m.kind = 0 := by omega
    have ef : Kp423.fire c1 m = Kp423.finishCall c1 m.call 4 := by unfold Kp423.fire; rw [hk]; rfl
    rw [ef] at h
    walk_at "rd"
    refine ⟨tbs K, L, c1, m.call, 4, rfl, S1, ac1, hz1.ats, hm1, fun H2 n2 => ?_⟩
    walk_at "rd"
    exact h L H2 (n1.trans n2)
  walk_at "rd"
  refine i_ixT (k := 1) (SqT.of ht1) (v := nV m.kind) rfl ?_
  walk_at "rd"
  refine ite_dec (fun h1 => ?_) fun h1 => ?_
  · have hk : m.kind = 1 := by omega
    have ef : Kp423.fire c1 m = Kp423.startAttempt c1 m.call true := by unfold Kp423.fire; rw [hk]; rfl
    rw [ef] at h
    walk_at "rd"
    refine ⟨L, c1, m.call, true, rfl, S1, hz1, hp1, ac1, hza1, hm1, fun L2 H2 n2 => ?_⟩
    walk_at "rd"
    exact h L2 H2 (n1.trans n2)
  have ef : Kp423.fire c1 m = if Kp423.budgetAllows c1 = true then { Kp423.startAttempt c1 m.call true with hedgeCount := c1.hedgeCount + 1 } else setCall c1 m.call { callAt c1 m.call with hedgeAt := none } := by
    unfold Kp423.fire
    split
    · rename_i q; exact absurd (by rw [q]; rfl) h0
    · rename_i q; exact absurd (by rw [q]; rfl) h1
    · rfl
  rw [ef] at h
  walk_at "rd"
  refine ⟨tbs K, L, c1, rfl, S1, ?_⟩
  walk_at "rd"
  cases hb : Kp423.budgetAllows c1 with
  | true =>
    rw [hb, if_pos rfl] at h
    refine if_t ?_
    walk_at "rd"
    refine v_cl_hedges S1 (c1.hedgeCount + 1) rfl fun H2 n2 => ?_
    have n2 : Nxt K (tbs K) L c1 H1 L (hc c1 (c1.hedgeCount + 1)) H2 := n2
    have S2 := n2.st
    walk_at "rd"
    refine ⟨L, hc c1 (c1.hedgeCount + 1), m.call, true, rfl, S2, ⟨hz1.bs, hz1.cs, hz1.ats⟩, hp1, ac1.same rfl rfl rfl fun _ => rfl, hza1, hm1, fun L3 H3 n3 => ?_⟩
    walk_at "rd"
    rw [hc_start c1 (c1.hedgeCount + 1) m.call true hp1.bal] at n3
    exact h L3 H3 (n1.trans (n2.trans n3))
  | false =>
    rw [hb, if_neg (by decide)] at h
    refine if_f ?_
    walk_at "rd"
    refine w_ca_hedge_at (y := none) X S1 hm1 fun H2 n2 => ?_
    walk_at "rd"
    exact h L H2 (n1.trans n2)
end

section
variable {P : Program} {w : World} {K : PySem.W.Frag} {mg : Str → Option Value} {base : Heap}
/-! ### the accounting goes on; what falls with every timer -/
theorem picked_mem {c : Client} {key : Nat} {l : List Nat} {k : Nat} (h : picked c key l = some k) : k ∈ l := by
  unfold picked at h
  split at h
  · split at h
    · rename_i q; cases h; exact List.mem_of_find?_eq_some q
    · exact List.mem_of_head? h
  · exact HM.fg_mem _ _ l rfl k h
  · exact HM.fg_mem _ _ l rfl k h
  · exact HM.fg_mem _ _ l rfl k h
theorem attempt_app {c d : Client} {a : Kp423.Attempt} (hd : d.attempts = c.attempts ++ [a]) (j : Nat) : (j < c.attempts.length → attemptAt d j = attemptAt c j) ∧ attemptAt d c.attempts.length = a := by
  unfold attemptAt
  rw [hd]
  refine ⟨fun h => ?_, ?_⟩
  · simp only [List.getD_eq_getElem?_getD, List.getElem?_append_left h]
  · simp only [List.getD_eq_getElem?_getD, List.getElem?_concat_length, Option.getD_some]
theorem Acc_add {c d : Client} (ac : HM.Acc c) {a : Kp423.Attempt} (hd : d.attempts = c.attempts ++ [a]) (hl : d.calls.length = c.calls.length) (hbl : d.backends.length = c.backends.length) (hk : a.backend < c.backends.length) (hcl : a.call < c.calls.length) (hr : Kp423.isRunning a = true)
    (ho : ∀ j, j < c.backends.length → (backendAt d j).outstanding = (backendAt c j).outstanding + (if a.backend = j then 1 else 0)) : HM.Acc d := by
  have len : d.attempts.length = c.attempts.length + 1 := by rw [hd, List.length_append]; rfl
  refine ⟨fun j hj => ?_, fun k hk2 => ?_⟩
  · rw [hbl] at hj
    rw [ho j hj, ac.out j hj]
    unfold HM.runsOn
    rw [len, List.range_succ, List.countP_append]
    have e1 : (List.range c.attempts.length).countP (fun a => Kp423.isRunning (attemptAt d a) && (attemptAt d a).backend == j) = (List.range c.attempts.length).countP (fun a => Kp423.isRunning (attemptAt c a) && (attemptAt c a).backend == j) := by
      refine List.countP_congr fun k hk => ?_
      rw [(attempt_app hd k).1 (List.mem_range.mp hk)]
    rw [e1, List.countP_cons, List.countP_nil, (attempt_app hd 0).2, hr, Bool.true_and, Nat.zero_add]
    congr 1
    by_cases e : a.backend = j <;> simp [e]
  · rw [len] at hk2
    rw [hl, hbl]
    by_cases e : k < c.attempts.length
    · rw [(attempt_app hd k).1 e]; exact ac.idx k e
    · have e : k = c.attempts.length := by omega
      rw [e, (attempt_app hd 0).2]
      exact ⟨hcl, hk⟩
theorem Acc_start {c : Client} {i : Nat} {b : Bool} (hb : c.policy.balancer ≤ 3) (ac : HM.Acc c) (hi : i < c.calls.length) : HM.Acc (Kp423.startAttempt c i b) := by
  have e1 := choose_is c hb (callAt c i).key (Kp423.triedBackends c i)
  cases q : picked c (callAt c i).key (Kp423.candidates c (Kp423.triedBackends c i)) with
  | none =>
    rw [q] at e1
    rw [start_none e1]
    exact ac.finish i 14
  | some k =>
    rw [q] at e1
    have e1 : Kp423.choose c (callAt c i).key (Kp423.triedBackends c i) = some (k, HM.moved c (Kp423.candidates c (Kp423.triedBackends c i)) k) := e1
    rw [start_some e1]
    obtain ⟨f1, f2, f3, f4, f5, f6⟩ := moved_rest c (Kp423.candidates c (Kp423.triedBackends c i)) k
    have hk : k < c.backends.length := List.mem_range.mp ((cand_sub c _).subset (picked_mem q))
    generalize HM.moved c (Kp423.candidates c (Kp423.triedBackends c i)) k = c1 at *
    refine Acc_add (a := ⟨i, k, (Kp423.triedBackends c i).length + 1, c.now, .running⟩) ac (by rw [f1]) ?_ ?_ hk hi rfl fun j hj => ?_
    · show (setCall _ i _).calls.length = _
      rw [HM.setCall_len]
      exact congrArg List.length f2
    · show (setBackend c1 k _).backends.length = _
      rw [HM.setBackend_len, f5]
    · show (backendAt (setBackend c1 k _) j).outstanding = _
      rw [HM.backendAt_set]
      by_cases e : k = j
      · subst e
        rw [if_pos ⟨rfl, by rw [f5]; exact hk⟩, if_pos rfl]
        show (backendAt c1 k).outstanding + 1 = _
        rw [f6]
      · rw [if_neg (fun z => e z.1.symm), if_neg e, f6]
        rfl
/-- what a call has before it -/
def mu (p : Kp423.Policy) (x : RemoteCall) : Nat := match x.status with
  | some _ => 0
  | none => 1 + 2 * (p.maxAttempts - x.counted) + (if x.retryAt = none then 0 else 1) + (if x.hedgeAt = none then 0 else 1)
def Mu (c : Client) : Nat := (c.calls.map (mu c.policy)).sum
theorem sum_set (f : RemoteCall → Nat) : ∀ (l : List RemoteCall) (i : Nat) (x y : RemoteCall), l[i]? = some x → ((l.set i y).map f).sum + f x = (l.map f).sum + f y
  | [], i, x, y, h => by cases h
  | a :: r, 0, x, y, h => by
    cases h
    simp only [List.set_cons_zero, List.map_cons, List.sum_cons]
    omega
  | a :: r, i + 1, x, y, h => by
    have z := sum_set f r i x y h
    simp only [List.set_cons_succ, List.map_cons, List.sum_cons]
    omega
theorem Mu_set {c d : Client} {i : Nat} {y : RemoteCall} (hi : i < c.calls.length) (hd : d.calls = c.calls.set i y) (hp : d.policy = c.policy) : Mu d + mu c.policy (callAt c i) = Mu c + mu c.policy y := by
  unfold Mu
  rw [hd, hp]
  refine sum_set _ _ i _ y ?_
  unfold callAt
  rw [List.getD_eq_getElem?_getD, List.getElem?_eq_getElem hi]
  rfl
theorem finish_rest (c : Client) (i s : Nat) : (Kp423.finishCall c i s).calls = c.calls.set i { callAt c i with status := some s, finishedAt := c.now, retryAt := none, hedgeAt := none } ∧ (Kp423.finishCall c i s).policy = c.policy ∧ (Kp423.finishCall c i s).now = c.now := by
  have g : ∀ (l : List Nat) (d : Client), (l.foldl Kp423.cancelAttempt d).policy = d.policy ∧ (l.foldl Kp423.cancelAttempt d).now = d.now := by
    intro l
    induction l with
    | nil => intro d; exact ⟨rfl, rfl⟩
    | cons a r ih => intro d; exact ih _
  unfold Kp423.finishCall
  exact ⟨(HM.cancels_len _ _).2.1, (g _ _).1, (g _ _).2⟩
theorem Mu_finish {c : Client} {i s : Nat} (hi : i < c.calls.length) : Mu (Kp423.finishCall c i s) + mu c.policy (callAt c i) = Mu c := by
  obtain ⟨h1, h2, _⟩ := finish_rest c i s
  exact Mu_set hi h1 h2
theorem start_rest {c : Client} {i : Nat} {b : Bool} (hb : c.policy.balancer ≤ 3) : (Kp423.startAttempt c i b).policy = c.policy ∧ (Kp423.startAttempt c i b).now = c.now ∧ (Kp423.startAttempt c i b).backends.length = c.backends.length ∧ (Kp423.startAttempt c i b).attempts.length ≤ c.attempts.length + 1 ∧
    ∃ y, (Kp423.startAttempt c i b).calls = c.calls.set i y ∧ (y.status ≠ none ∨ y = { callAt c i with counted := (callAt c i).counted + (if b then 1 else 0), retryAt := none, hedgeAt := hedgeT c { callAt c i with counted := (callAt c i).counted + (if b then 1 else 0) } }) := by
  have e1 := choose_is c hb (callAt c i).key (Kp423.triedBackends c i)
  cases q : picked c (callAt c i).key (Kp423.candidates c (Kp423.triedBackends c i)) with
  | none =>
    rw [q] at e1
    rw [start_none e1]
    obtain ⟨h1, h2, h3⟩ := finish_rest c i 14
    obtain ⟨g1, g2, g3⟩ := HM.finish_len c i 14
    exact ⟨h2, h3, g3, by omega, _, h1, .inl (fun z => by cases z)⟩
  | some k =>
    rw [q] at e1
    have e1 : Kp423.choose c (callAt c i).key (Kp423.triedBackends c i) = some (k, HM.moved c (Kp423.candidates c (Kp423.triedBackends c i)) k) := e1
    rw [start_some e1]
    obtain ⟨f1, f2, f3, f4, f5, f6⟩ := moved_rest c (Kp423.candidates c (Kp423.triedBackends c i)) k
    generalize HM.moved c (Kp423.candidates c (Kp423.triedBackends c i)) k = c1 at *
    refine ⟨f4, f3, ?_, ?_, _, ?_, .inr rfl⟩
    · show (setBackend c1 k _).backends.length = _
      rw [HM.setBackend_len, f5]
    · show (c1.attempts ++ [_]).length ≤ _
      rw [List.length_append, f1]
      exact Nat.le_refl _
    · show c1.calls.set i _ = _
      rw [f2]
theorem Mu_start {c : Client} {i : Nat} (hb : c.policy.balancer ≤ 3) (hi : i < c.calls.length) (ho : (callAt c i).status = none) (hr : (callAt c i).retryAt ≠ none ∨ (callAt c i).hedgeAt ≠ none) : Mu (Kp423.startAttempt c i true) < Mu c := by
  obtain ⟨h1, _, _, _, y, h2, h3⟩ := start_rest (c := c) (i := i) (b := true) hb
  have z := Mu_set hi h2 h1
  have m0 : mu c.policy (callAt c i) = 1 + 2 * (c.policy.maxAttempts - (callAt c i).counted) + (if (callAt c i).retryAt = none then 0 else 1) + (if (callAt c i).hedgeAt = none then 0 else 1) := by unfold mu; rw [ho]
  have m1 : mu c.policy y < mu c.policy (callAt c i) := by
    rw [m0]
    rcases h3 with h3 | h3
    · have : mu c.policy y = 0 := by
        unfold mu
        cases q : y.status with
        | none => exact absurd q h3
        | some _ => rfl
      omega
    · have m2 : mu c.policy y = 1 + 2 * (c.policy.maxAttempts - ((callAt c i).counted + 1)) + 0 + (if y.hedgeAt = none then 0 else 1) := by
        rw [h3]; unfold mu; dsimp only; rw [ho]; rfl
      have m3 : y.hedgeAt ≠ none → (callAt c i).counted + 1 < c.policy.maxAttempts := by
        rw [h3]
        show hedgeT c { callAt c i with counted := (callAt c i).counted + 1 } ≠ none → _
        unfold hedgeT
        split
        · rename_i q; exact fun _ => q.2.2
        · exact fun q => absurd rfl q
      rw [m2]
      by_cases a : y.hedgeAt = none
      · rw [if_pos a]
        rcases hr with hr | hr
        · rw [if_neg hr]; split <;> omega
        · rw [if_neg hr]; split <;> omega
      · have := m3 a
        rw [if_neg a]
        split <;> split <;> omega
  omega
end

section
variable {P : Program} {w : World} {K : PySem.W.Frag} {mg : Str → Option Value} {base : Heap}
/-! ### timers up to a time -/
theorem timer_mem {c : Client} {i : Nat} {m : Kp423.Timer} (h : m ∈ Kp423.timersOf c i) : m.call = i ∧ (callAt c i).status = none ∧ ((m.kind = 0 ∧ m.time = (callAt c i).deadline) ∨ (m.kind = 1 ∧ (callAt c i).retryAt = some m.time) ∨ (m.kind = 2 ∧ (callAt c i).hedgeAt = some m.time)) := by
  rw [timers_is] at h
  cases hs : (callAt c i).status with
  | some n => rw [hs] at h; cases h
  | none =>
    rw [hs] at h
    rcases List.mem_append.mp h with h | h
    · rw [List.mem_singleton.mp h]; exact ⟨rfl, rfl, .inl ⟨rfl, rfl⟩⟩
    rcases List.mem_append.mp h with h | h
    · cases hr : (callAt c i).retryAt with
      | none => rw [hr] at h; cases h
      | some t => rw [hr] at h; rw [List.mem_singleton.mp h]; exact ⟨rfl, rfl, .inr (.inl ⟨rfl, rfl⟩)⟩
    · cases hr : (callAt c i).hedgeAt with
      | none => rw [hr] at h; cases h
      | some t => rw [hr] at h; rw [List.mem_singleton.mp h]; exact ⟨rfl, rfl, .inr (.inr ⟨rfl, rfl⟩)⟩
theorem next_mem {c : Client} {m : Kp423.Timer} (h : Kp423.nextTimer c = some m) : m.call < c.calls.length ∧ (callAt c m.call).status = none ∧ ((m.kind = 0 ∧ m.time = (callAt c m.call).deadline) ∨ (m.kind = 1 ∧ (callAt c m.call).retryAt = some m.time) ∨ (m.kind = 2 ∧ (callAt c m.call).hedgeAt = some m.time)) := by
  rw [HM.next_is] at h
  have z := (HM.fl_mem _ _ _ rfl).1 m h
  obtain ⟨i, hi, hm⟩ := List.mem_flatMap.mp z
  obtain ⟨e, a, b⟩ := timer_mem hm
  rw [e]
  exact ⟨List.mem_range.mp hi, a, b⟩
theorem fire_rest {c : Client} {m : Kp423.Timer} (hb : c.policy.balancer ≤ 3) (ac : HM.Acc c) (h : m.call < c.calls.length) (ho : (callAt c m.call).status = none) (hk : m.kind = 0 ∨ (m.kind = 1 ∧ (callAt c m.call).retryAt ≠ none) ∨ (m.kind = 2 ∧ (callAt c m.call).hedgeAt ≠ none)) :
    HM.Acc (Kp423.fire c m) ∧ (Kp423.fire c m).policy = c.policy ∧ (Kp423.fire c m).backends.length = c.backends.length ∧ (Kp423.fire c m).calls.length = c.calls.length ∧ (Kp423.fire c m).attempts.length ≤ c.attempts.length + 1 ∧ Mu (Kp423.fire c m) < Mu c ∧ (Kp423.fire c m).now = c.now := by
  have st := start_rest (c := c) (i := m.call) (b := true) hb
  obtain ⟨s1, s2, s3, s4, y, s5, _⟩ := st
  have s6 := Acc_start (b := true) hb ac h
  have s7 : (Kp423.startAttempt c m.call true).calls.length = c.calls.length := by rw [s5, List.length_set]
  have mpos : 0 < mu c.policy (callAt c m.call) := by unfold mu; rw [ho]; dsimp only; omega
  rcases hk with hk | ⟨hk, hr⟩ | ⟨hk, hr⟩
  · have ef : Kp423.fire c m = Kp423.finishCall c m.call 4 := by unfold Kp423.fire; rw [hk]; rfl
    rw [ef]
    obtain ⟨g1, g2, g3⟩ := HM.finish_len c m.call 4
    have z := Mu_finish (s := 4) h
    exact ⟨ac.finish _ _, (finish_rest c m.call 4).2.1, g3, g2, by omega, by omega, (finish_rest c m.call 4).2.2⟩
  · have ef : Kp423.fire c m = Kp423.startAttempt c m.call true := by unfold Kp423.fire; rw [hk]; rfl
    rw [ef]
    exact ⟨s6, s1, s3, s7, s4, Mu_start hb h ho (.inl hr), s2⟩
  · have ef : Kp423.fire c m = if Kp423.budgetAllows c = true then { Kp423.startAttempt c m.call true with hedgeCount := c.hedgeCount + 1 } else setCall c m.call { callAt c m.call with hedgeAt := none } := by unfold Kp423.fire; rw [hk]; rfl
    rw [ef]
    by_cases hbu : Kp423.budgetAllows c = true
    · rw [if_pos hbu]
      exact ⟨s6.same rfl rfl rfl fun _ => rfl, s1, s3, s7, s4, Mu_start hb h ho (.inr hr), s2⟩
    · rw [if_neg hbu]
      refine ⟨ac.setCall, rfl, rfl, HM.setCall_len, Nat.le_succ _, ?_, rfl⟩
      have z := Mu_set (d := setCall c m.call { callAt c m.call with hedgeAt := none }) h rfl rfl
      have : mu c.policy { callAt c m.call with hedgeAt := none } < mu c.policy (callAt c m.call) := by
        unfold mu
        dsimp only
        rw [ho]
        dsimp only
        rw [if_neg hr]
        simp only [if_true]
        omega
      omega
theorem Mu_le {c : Client} (hp : Pol c.policy) : Mu c ≤ 13 * c.calls.length := by
  have g : ∀ l : List RemoteCall, (l.map (mu c.policy)).sum ≤ 13 * l.length := by
    intro l
    induction l with
    | nil => exact Nat.le_refl _
    | cons x r ih =>
      rw [List.map_cons, List.sum_cons, List.length_cons]
      have : mu c.policy x ≤ 13 := by
        unfold mu
        have := hp.ma
        split
        · omega
        · split <;> split <;> omega
      omega
  exact g _
theorem fireU {e fuel k : Nat} {c : Client} (h : Mu c < fuel) : Kp423.fireUntil e fuel c k = match Kp423.nextTimer c with
    | none => ({ c with now := e }, k)
    | some t => if t.time ≤ e then Kp423.fireUntil e (fuel - 1) (Kp423.fire { c with now := max c.now t.time } t) (k + 1) else ({ c with now := e }, k) := by
  cases fuel with
  | zero => omega
  | succ n => rfl
/-- what earliest_timer gives -/
def TV (c : Client) (v : V) (H : Hp) : Prop := (Kp423.nextTimer c = none ∧ v = .non) ∨ ∃ m t, Kp423.nextTimer c = some m ∧ v = .ref t ∧ H t = some (.tup (tmV m))
theorem et_of {K : PySem.W.Frag} {T : List (Addr × Str)} {L : Lo} {c : Client} {H : Hp} {Q : VK} {E : XK} {a : Addr} (ha : a = L.cl) (S : St K T L c H) (hz : Sz c) (h : ∀ v H', MM.Ext H H' → TV c v H' → Q v H') : sp_earliest_timer K [.ref a] H Q E :=
  ⟨T, L, c, by rw [ha], S, hz, fun hn H' e => h _ H' e (.inl ⟨hn, rfl⟩), fun m t H' hm e ht => h _ H' e (.inr ⟨m, t, hm, rfl, ht⟩)⟩
theorem next_now (c : Client) (n : Nat) : Kp423.nextTimer { c with now := n } = Kp423.nextTimer c := rfl
def sp_fire_until (K : PySem.W.Frag) : Sp := fun vs H Q _ => ∃ (L : Lo) (c : Client) (e : Nat), vs = [.ref L.cl, nV e] ∧ St K (tbs K) L c H ∧ Sz c ∧ Pol c.policy ∧ HM.Acc c ∧ c.attempts.length + 800 < 1000000 ∧
  ∀ L' H', Nxt K (tbs K) L c H L' (Kp423.fireUntil e 1000 c 0).1 H' → Q (nV (Kp423.fireUntil e 1000 c 0).2) H'
theorem sc_fire_until : FnScope ["client", "end", "fired", "timer"] ["client", "end"] (defScope s_fire_until) := ⟨rfl, rfl, rfl, by decide +kernel, rfl, by decide +kernel, by decide +kernel⟩
theorem ok_fire_until (X : Tx K mg) (TB : TabB base mg (He.cT K ("pick", none)).1 (He.cT K ("pick", none)).2) : GF P w K mg base 8 (He.ga K "fire_until") ["client", "end"] (sp_fire_until K) := by
  refine GF.of X.d_fire_until sc_fire_until (fun vs H Q E h => ?_) (fun _ _ _ _ _ _ us hl => match us, hl with | [_, _], _ => rfl) (fun cdv A outer s H vs Q E hr h => ?_)
  · obtain ⟨L, c, e, rfl, _⟩ := h; rfl
  obtain ⟨L, c, e, rfl, h⟩ := h
  refine ⟨_, PSs.nox (pss_cons (ps_set (i := 2) sc_fire_until.nd rfl (Or.inl rfl) pe_int) (pss_cons (ps_set (i := 3) sc_fire_until.nd rfl (Or.inl rfl) (pe_fn (ok_earliest_timer X) X.g_earliest_timer (hr.mono (by decide)) (pa_cons (pv 0) pa_nil))) (pss_cons (ps_while PassesOwn.never (PW.pt (pw_and (pt_cmpR op_notN (pv 3) pe_non (nomark _)) (pw_and1 (pt_cmpR op_le (pe_ix ix_tup (pv 3) pe_int (fun _ _ => rfl)) (pv 1) (nomark _))))) (pss_cons (ps_expr (pe_fn (ok_fire X TB) X.g_fire (hr.mono (by decide)) (pa_cons (pv 0) (pa_cons (pv 3) pa_nil)))) (pss_cons (ps_aug (i := 2) sc_fire_until.nd rfl (Or.inl rfl) pe_int ip_add) (pss_one (ps_set (i := 3) sc_fire_until.nd rfl (Or.inl rfl) (pe_fn (ok_earliest_timer X) X.g_earliest_timer (hr.mono (by decide)) (pa_cons (pv 0) pa_nil))))))) (pss_cons (ps_fld (pv 0) (pv 1) rfl) (pss_one (ps_ret (pv 2))))))), ?_⟩
  obtain ⟨S, hz, hp, ac, hza, h⟩ := h
  have hM := Mu_le hp
  have hcs := hz.cs
  walk_at "rd"
  refine et_of rfl S hz fun v H1 x1 tv => ?_
  walk_at "rd"
  refine i_seq ?_
  refine ⟨fun m σ H' => ∃ L' ck k v fuel, m = Mu ck ∧ σ = [some (.ref L.cl), some (nV e), some (nV k), some v] ∧ Nxt K (tbs K) L c H L' ck H' ∧ TV ck v H' ∧ HM.Acc ck ∧ ck.policy = c.policy ∧ ck.backends.length = c.backends.length ∧ ck.calls.length = c.calls.length ∧ ck.attempts.length + Mu ck < 1000000 ∧ Mu ck < fuel ∧ Kp423.fireUntil e fuel ck k = Kp423.fireUntil e 1000 c 0,
    ⟨_, L, c, 0, v, 1000, rfl, rfl, Nxt.ext S x1, tv, ac, rfl, rfl, rfl, by omega, by omega, rfl⟩, ?_⟩
  rintro m0 σ H2 ⟨M2, ck, k, v, fuel, rfl, rfl, N2, tv, ack, pk, bk, ck_, ha, hf, hu⟩
  have S2 := N2.st
  have ecl : M2.cl = L.cl := (N2.adr .cl _ rfl).1
  have hp2 : Pol ck.policy := by rw [pk]; exact hp
  have hz2 : Sz ck := ⟨by rw [bk]; exact hz.bs, by rw [ck_]; exact hz.cs, by omega⟩
  rw [fireU hf] at hu
  -- the loop is left
  have out : ({ ck with now := e }, k) = Kp423.fireUntil e 1000 c 0 → tSeq (sFld K (tVar 0) (tVar 1) (Str.ofString "now")) (tRet (tVar 2)) { nx := fun x H' => Q V.non H', rt := Q } [some (.ref L.cl), some (nV e), some (nV k), some v] H2 := fun hx => by
    rw [← ecl]
    walk_at "rd"
    refine w_cl_now (y := e) X S2 fun H3 n3 => ?_
    walk_at "rd"
    have z := h M2 H3
    rw [← hx] at z
    exact z (N2.trans n3)
  walk_at "rd"
  rcases tv with ⟨hn, rfl⟩ | ⟨m, t, hm, rfl, ht⟩
  · rw [hn] at hu
    refine if_f (if_f ?_)
    exact out hu
  · rw [hm] at hu
    dsimp only at hu
    refine if_t ?_
    walk_at "rd"
    refine i_ixT (k := 0) (SqT.of ht) (v := nV m.time) rfl ?_
    walk_at "rd"
    refine ite_dec (fun h1 => ?_) fun h1 => ?_
    · rw [if_pos (by omega)] at hu
      obtain ⟨q1, q2, q3⟩ := next_mem hm
      have fr := fire_rest (c := { ck with now := max ck.now m.time }) (m := m) hp2.bal (ack.same rfl rfl rfl fun _ => rfl) q1 q2 (by
        rcases q3 with q | q | q
        · exact .inl q.1
        · exact .inr (.inl ⟨q.1, by show (callAt ck m.call).retryAt ≠ none; rw [q.2]; exact fun z => by cases z⟩)
        · exact .inr (.inr ⟨q.1, by show (callAt ck m.call).hedgeAt ≠ none; rw [q.2]; exact fun z => by cases z⟩))
      obtain ⟨r1, r2, r3, r4, r5, r6, r7⟩ := fr
      have r2 : (Kp423.fire { ck with now := max ck.now m.time } m).policy = ck.policy := r2
      have r3 : (Kp423.fire { ck with now := max ck.now m.time } m).backends.length = ck.backends.length := r3
      have r4 : (Kp423.fire { ck with now := max ck.now m.time } m).calls.length = ck.calls.length := r4
      have r5 : (Kp423.fire { ck with now := max ck.now m.time } m).attempts.length ≤ ck.attempts.length + 1 := r5
      have r6 : Mu (Kp423.fire { ck with now := max ck.now m.time } m) < Mu ck := r6
      refine ⟨_, fun σ' H' hN => hN, ?_⟩
      walk_at "rd"
      refine ⟨M2, ck, t, m, by rw [ecl]; rfl, S2, ht, hz2, hp2, ack, by omega, q1, fun M3 H3 n3 => ?_⟩
      have N3 := N2.trans n3
      have S3 := N3.st
      have ecl3 : M3.cl = L.cl := (N3.adr .cl _ rfl).1
      generalize Kp423.fire { ck with now := max ck.now m.time } m = cn at *
      walk_at "rd"
      refine i_seq ?_
      refine ⟨_, rfl, ?_⟩
      walk_at "rd"
      refine ⟨_, _, rfl, rfl, ?_⟩
      walk_at "rd"
      refine et_of ecl3.symm S3 ⟨by rw [r3]; exact hz2.bs, by rw [r4]; exact hz2.cs, by omega⟩ fun v4 H4 x4 tv4 => ?_
      walk_at "rd"
      exact ⟨_, r6, M3, cn, k + 1, v4, fuel - 1, rfl, rfl, N3.trans (Nxt.ext S3 x4), tv4, r1, by rw [r2]; exact pk, by rw [r3]; exact bk, by rw [r4]; exact ck_, by omega, by omega, hu⟩
    · rw [if_neg (by omega)] at hu
      exact out hu
end

section
variable {P : Program} {w : World} {K : PySem.W.Frag} {mg : Str → Option Value} {base : Heap}
/-! ### what is told -/
def row (a : Kp423.Ans) : List V := (a.num :: a.nums).map V.int
/-- a def that only tells -/
def Told (H : Hp) (a : Kp423.Ans) (Q : VK) : Prop := ∀ D H', MM.Ext H H' → H D = none → H' D = some (.lst (row a)) → Q (.ref D) H'
theorem Told.ext {H H1 : Hp} {a : Kp423.Ans} {Q : VK} (h : Told H a Q) (e : MM.Ext H H1) : Told H1 a Q := fun D H' e2 n q => h D H' (e.trans e2) (e.fresh _ n) q
def sp_truth_told : Sp := fun vs H Q _ => ∃ b : Bool, vs = [.bl b] ∧ Q (nV (if b then 1 else 0)) H
theorem sc_truth_told : FnScope ["truth"] ["truth"] (defScope s_truth_told) := ⟨rfl, rfl, rfl, by decide +kernel, rfl, by decide +kernel, by decide +kernel⟩
theorem ok_truth_told (X : Tx K mg) : GF P w K mg base 1 (He.ga K "truth_told") ["truth"] sp_truth_told := by
  refine GF.of X.d_truth_told sc_truth_told (fun vs H Q E h => ?_) (fun _ _ _ _ _ _ us hl => match us, hl with | [_], _ => rfl) (fun cdv A outer s H vs Q E hr h => ?_)
  · obtain ⟨b, rfl, _⟩ := h; rfl
  obtain ⟨b, rfl, h⟩ := h
  refine ⟨_, PSs.nox (pss_one (ps_ret (pe_ifExp (pt_truth (pv 0) (by intro _; rfl)) pe_int pe_int))), ?_⟩
  walk_at "rd"
  refine ⟨b, rfl, ?_⟩
  cases b
  · exact h
  · exact h
def sp_tell_next_timer (K : PySem.W.Frag) : Sp := fun vs H Q _ => ∃ (T : List (Addr × Str)) (L : Lo) (c : Client), vs = [.ref L.cl] ∧ St K T L c H ∧ Sz c ∧ Told H (match Kp423.nextTimer c with | none => Kp423.single (-33) | some t => Kp423.natResult t.time [t.kind, t.call]) Q
theorem sc_tell_next_timer : FnScope ["client", "timer"] ["client"] (defScope s_tell_next_timer) := ⟨rfl, rfl, rfl, by decide +kernel, rfl, by decide +kernel, by decide +kernel⟩
theorem ok_tell_next_timer (X : Tx K mg) : GF P w K mg base 3 (He.ga K "tell_next_timer") ["client"] (sp_tell_next_timer K) := by
  refine GF.of X.d_tell_next_timer sc_tell_next_timer (fun vs H Q E h => ?_) (fun _ _ _ _ _ _ us hl => match us, hl with | [_], _ => rfl) (fun cdv A outer s H vs Q E hr h => ?_)
  · obtain ⟨T, L, c, rfl, _⟩ := h; rfl
  obtain ⟨T, L, c, rfl, h⟩ := h
  refine ⟨_, PSs.nox (pss_cons (ps_set (i := 1) sc_tell_next_timer.nd rfl (Or.inl rfl) (pe_fn (ok_earliest_timer X) X.g_earliest_timer (hr.mono (by decide)) (pa_cons (pv 0) pa_nil))) (pss_cons (ps_if (pt_cmpR op_isN (pv 1) pe_non (nomark _)) (pss_one (ps_ret (pe_fn0 (ok_nothing_there X) X.g_nothing_there (hr.mono (by decide))))) pss_nil) (pss_one (ps_ret (pe_callTy call_list_of (by rfl) X.b_list (by decide +kernel) (pa_cons (pv 1) pa_nil)))))), ?_⟩
  obtain ⟨S, hz, h⟩ := h
  walk_at "rd"
  refine et_of rfl S hz fun v H1 x1 tv => ?_
  have h := h.ext x1
  walk_at "rd"
  refine i_seq ?_
  walk_at "rd"
  rcases tv with ⟨hn, rfl⟩ | ⟨m, t, hm, rfl, ht⟩
  · rw [hn] at h
    refine if_t ?_
    walk_at "rd"
    refine ⟨rfl, fun D nD => h D _ (ext_new nD) nD upd_same⟩
  · rw [hm] at h
    refine if_f ?_
    walk_at "rd"
    exact ⟨t, _, rfl, .inr (SqT.of ht), fun D nD => h D _ (ext_new nD) nD upd_same⟩
def sp_tell_call (K : PySem.W.Frag) : Sp := fun vs H Q _ => ∃ (T : List (Addr × Str)) (L : Lo) (c : Client) (i : Nat), vs = [.ref L.cl, nV i] ∧ St K T L c H ∧
  Told H (if Kp423.isCall c i then Kp423.natResult (Kp423.callStatus c i) [(callAt c i).deadline, (callAt c i).counted, (callAt c i).retries, if (callAt c i).transparent then 1 else 0, Kp423.optionNumber (callAt c i).retryAt, Kp423.optionNumber (callAt c i).hedgeAt, (callAt c i).finishedAt] else Kp423.single (-2)) Q
theorem sc_tell_call : FnScope ["client", "call", "asked"] ["client", "call"] (defScope s_tell_call) := ⟨rfl, rfl, rfl, by decide +kernel, rfl, by decide +kernel, by decide +kernel⟩
theorem ok_tell_call (X : Tx K mg) : GF P w K mg base 2 (He.ga K "tell_call") ["client", "call"] (sp_tell_call K) := by
  refine GF.of X.d_tell_call sc_tell_call (fun vs H Q E h => ?_) (fun _ _ _ _ _ _ us hl => match us, hl with | [_, _], _ => rfl) (fun cdv A outer s H vs Q E hr h => ?_)
  · obtain ⟨T, L, c, i, rfl, _⟩ := h; rfl
  obtain ⟨T, L, c, i, rfl, h⟩ := h
  refine ⟨_, PSs.nox (pss_cons (ps_if (pt_cmpR op_ge (pv 1) (pe_callB call_len_seq (by rfl) X.b_len PySem.boot_len (pa_cons (pe_fld (pv 0) rfl) pa_nil)) (nomark _)) (pss_one (ps_ret (pe_fn0 (ok_missing X) X.g_missing (hr.mono (by decide))))) pss_nil) (pss_cons (ps_set (i := 2) sc_tell_call.nd rfl (Or.inl rfl) (pe_ix ix_list (pe_fld (pv 0) rfl) (pv 1) (fun _ _ => rfl))) (pss_one (ps_ret (pe_lst (pa_cons (pe_fn (ok_final_status X) X.g_final_status (hr.mono (by decide)) (pa_cons (pv 2) pa_nil)) (pa_cons (pe_fld (pv 2) rfl) (pa_cons (pe_fld (pv 2) rfl) (pa_cons (pe_fld (pv 2) rfl) (pa_cons (pe_fn (ok_truth_told X) X.g_truth_told (hr.mono (by decide)) (pa_cons (pe_fld (pv 2) rfl) pa_nil)) (pa_cons (pe_fn (ok_time_told X) X.g_time_told (hr.mono (by decide)) (pa_cons (pe_fld (pv 2) rfl) pa_nil)) (pa_cons (pe_fn (ok_time_told X) X.g_time_told (hr.mono (by decide)) (pa_cons (pe_fld (pv 2) rfl) pa_nil)) (pa_cons (pe_fld (pv 2) rfl) pa_nil))))))))))))), ?_⟩
  obtain ⟨S, h⟩ := h
  refine i_seq ?_
  walk_at "rd"
  refine ⟨_, _, rfl, .inl S.lsC, ?_⟩
  rw [List.length_map, List.length_range]
  walk_at "rd"
  refine ite_dec (fun h1 => ?_) fun h1 => ?_
  · have hb : ¬ i < c.calls.length := by omega
    unfold Kp423.isCall at h
    rw [decide_eq_false hb, if_neg (by decide)] at h
    walk_at "rd"
    exact ⟨rfl, fun D nD => h D _ (ext_new nD) nD upd_same⟩
  · have hb : i < c.calls.length := by omega
    unfold Kp423.isCall at h
    rw [decide_eq_true hb, if_pos rfl] at h
    walk_at "rd"
    refine i_ixL S.lsC (v := .ref (L.ca i)) (by rw [List.getElem?_map, List.getElem?_range hb]; rfl) ?_
    walk_at "rd"
    refine i_lstG (i_cons ?_)
    walk_at "rd"
    refine ⟨T, L, c, i, rfl, S, hb, ?_⟩
    walk_at "rd"
    refine ⟨_, rfl, ?_⟩
    walk_at "rd"
    refine ⟨_, rfl, ?_⟩
    walk_at "rd"
    refine ⟨_, rfl, ?_⟩
    walk_at "rd"
    exact ⟨by show 8 ≤ sizeLine; decide, fun D nD => h D _ (ext_new nD) nD upd_same⟩
def sp_tell_attempt (K : PySem.W.Frag) : Sp := fun vs H Q _ => ∃ (T : List (Addr × Str)) (L : Lo) (c : Client) (a : Nat), vs = [.ref L.cl, nV a] ∧ St K T L c H ∧ (∀ a, a < c.attempts.length → (attemptAt c a).call < c.calls.length ∧ (attemptAt c a).backend < c.backends.length ∧ (attemptAt c a).startedAt ≤ (callAt c (attemptAt c a).call).deadline) ∧
  Told H (if Kp423.isAttempt c a then Kp423.natResult (attemptAt c a).call ([(attemptAt c a).backend, (attemptAt c a).number, (attemptAt c a).startedAt, (callAt c (attemptAt c a).call).deadline - (attemptAt c a).startedAt] ++ Kp423.attemptNumbers (attemptAt c a)) else Kp423.single (-2)) Q
theorem sc_tell_attempt : FnScope ["client", "attempt", "asked"] ["client", "attempt"] (defScope s_tell_attempt) := ⟨rfl, rfl, rfl, by decide +kernel, rfl, by decide +kernel, by decide +kernel⟩
theorem ok_tell_attempt (X : Tx K mg) : GF P w K mg base 2 (He.ga K "tell_attempt") ["client", "attempt"] (sp_tell_attempt K) := by
  refine GF.of X.d_tell_attempt sc_tell_attempt (fun vs H Q E h => ?_) (fun _ _ _ _ _ _ us hl => match us, hl with | [_, _], _ => rfl) (fun cdv A outer s H vs Q E hr h => ?_)
  · obtain ⟨T, L, c, a, rfl, _⟩ := h; rfl
  obtain ⟨T, L, c, a, rfl, h⟩ := h
  refine ⟨_, PSs.nox (pss_cons (ps_if (pt_cmpR op_ge (pv 1) (pe_callB call_len_seq (by rfl) X.b_len PySem.boot_len (pa_cons (pe_fld (pv 0) rfl) pa_nil)) (nomark _)) (pss_one (ps_ret (pe_fn0 (ok_missing X) X.g_missing (hr.mono (by decide))))) pss_nil) (pss_cons (ps_set (i := 2) sc_tell_attempt.nd rfl (Or.inl rfl) (pe_ix ix_list (pe_fld (pv 0) rfl) (pv 1) (fun _ _ => rfl))) (pss_one (ps_ret (pe_lst (pa_cons (pe_fld (pe_fld (pv 2) rfl) rfl) (pa_cons (pe_fld (pe_fld (pv 2) rfl) rfl) (pa_cons (pe_fld (pv 2) rfl) (pa_cons (pe_fld (pv 2) rfl) (pa_cons (pe_op op_sub (pe_fld (pe_fld (pv 2) rfl) rfl) (pe_fld (pv 2) rfl)) (pa_cons (pe_fld (pv 2) rfl) (pa_cons (pe_fld (pv 2) rfl) pa_nil)))))))))))), ?_⟩
  obtain ⟨S, hi, h⟩ := h
  refine i_seq ?_
  walk_at "rd"
  refine ⟨_, _, rfl, .inl S.lsA, ?_⟩
  rw [List.length_map, List.length_range]
  walk_at "rd"
  refine ite_dec (fun h1 => ?_) fun h1 => ?_
  · have hb : ¬ a < c.attempts.length := by omega
    unfold Kp423.isAttempt at h
    rw [decide_eq_false hb, if_neg (by decide)] at h
    walk_at "rd"
    exact ⟨rfl, fun D nD => h D _ (ext_new nD) nD upd_same⟩
  · have hb : a < c.attempts.length := by omega
    obtain ⟨i1, i2, i3⟩ := hi a hb
    unfold Kp423.isAttempt at h
    rw [decide_eq_true hb, if_pos rfl] at h
    walk_at "rd"
    refine i_ixL S.lsA (v := .ref (L.att a)) (by rw [List.getElem?_map, List.getElem?_range hb]; rfl) ?_
    walk_at "rd"
    refine i_lstG (i_cons ?_)
    walk_at "rd"
    refine ⟨by show 7 ≤ sizeLine; decide, fun D nD => h D _ (ext_new nD) nD ?_⟩
    rw [upd_same]
    have e1 : V.int (((callAt c (attemptAt c a).call).deadline : Int) - ((attemptAt c a).startedAt : Int)) = nV ((callAt c (attemptAt c a).call).deadline - (attemptAt c a).startedAt) := congrArg V.int (by omega)
    rw [e1]
    unfold row Kp423.natResult Kp423.attemptNumbers
    cases (attemptAt c a).state <;> rfl
end

section
variable {P : Program} {w : World} {K : PySem.W.Frag} {mg : Str → Option Value} {base : Heap}
/-! ### operations that change the client -/
/-- a call of the specification is carried out -/
def Done (K : PySem.W.Frag) (L : Lo) (c : Client) (H : Hp) (r : Kp423.State × Kp423.Ans) (Q : VK) : Prop := ∀ L' c' D H', r.1 = some c' → Nxt K (tbs K) L c H L' c' H' → (∀ xs, H D ≠ some (.lst xs)) → H' D = some (.lst (row r.2)) → Q (.ref D) H'
/-- what is free later was no list -/
theorem Nxt.fr {K : PySem.W.Frag} {T : List (Addr × Str)} {L L' : Lo} {c c' : Client} {H H' : Hp} {D : Addr} (n : Nxt K T L c H L' c' H') (h : H' D = none) : ∀ xs, H D ≠ some (.lst xs) := fun xs z => by
  by_cases ho : Off L c D
  · have q := n.keep D _ z ho fun ps w => by cases w
    rw [h] at q; cases q
  · obtain ⟨k, o, e, e2⟩ : ∃ k o, ob L c k = some o ∧ L.ad k = D := by
      apply Classical.byContradiction
      intro w
      exact ho fun k o e e2 => w ⟨k, o, e, e2⟩
    obtain ⟨a1, o2, a2⟩ := n.adr k o e
    obtain ⟨u, hu, _⟩ := n.st.there a2
    rw [a1, e2, h] at hu
    cases hu
theorem Done.ans {K : PySem.W.Frag} {L : Lo} {c : Client} {H : Hp} {r : Kp423.State × Kp423.Ans} {Q : VK} (h : Done K L c H r Q) {L' : Lo} {c' : Client} {H' : Hp} {a : Kp423.Ans} (e : r = (some c', a)) (n : Nxt K (tbs K) L c H L' c' H') {D : Addr} {xs : List V} (nD : H' D = none) (hx : xs = row a) : Q (.ref D) (upd H' D (.lst xs)) := by
  subst e
  exact h L' c' D _ rfl (n.behind nD) (n.fr nD) (by rw [upd_same, hx])
def sp_set_weight (K : PySem.W.Frag) : Sp := fun vs H Q _ => ∃ (L : Lo) (c : Client) (i wt : Nat), vs = [.ref L.cl, nV i, nV wt] ∧ St K (tbs K) L c H ∧ Done K L c H (Kp423.step (some c) (.setWeight i wt)) Q
theorem sc_set_weight : FnScope ["client", "backend", "weight", "changed", "old"] ["client", "backend", "weight"] (defScope s_set_weight) := ⟨rfl, rfl, rfl, by decide +kernel, rfl, by decide +kernel, by decide +kernel⟩
theorem ok_set_weight (X : Tx K mg) : GF P w K mg base 3 (He.ga K "set_weight") ["client", "backend", "weight"] (sp_set_weight K) := by
  refine GF.of X.d_set_weight sc_set_weight (fun vs H Q E h => ?_) (fun _ _ _ _ _ _ us hl => match us, hl with | [_, _, _], _ => rfl) (fun cdv A outer s H vs Q E hr h => ?_)
  · obtain ⟨L, c, i, wt, rfl, _⟩ := h; rfl
  obtain ⟨L, c, i, wt, rfl, h⟩ := h
  refine ⟨_, PSs.nox (pss_cons (ps_if (pt_not (pt_val (pe_fn (ok_is_active X) X.g_is_active (hr.mono (by decide)) (pa_cons (pv 0) (pa_cons (pv 1) pa_nil))))) (pss_one (ps_ret (pe_fn0 (ok_missing X) X.g_missing (hr.mono (by decide))))) pss_nil) (pss_cons (ps_if (pt_not (pt_val (pe_fn (ok_is_weight X) X.g_is_weight (hr.mono (by decide)) (pa_cons (pv 2) pa_nil)))) (pss_one (ps_ret (pe_fn0 (ok_outside_limits X) X.g_outside_limits (hr.mono (by decide))))) pss_nil) (pss_cons (ps_set (i := 3) sc_set_weight.nd rfl (Or.inl rfl) (pe_ix ix_list (pe_fld (pv 0) rfl) (pv 1) (fun _ _ => rfl))) (pss_cons (ps_set (i := 4) sc_set_weight.nd rfl (Or.inl rfl) (pe_fld (pv 3) rfl)) (pss_cons (ps_fld (pv 3) (pv 2) rfl) (pss_one (ps_ret (pe_lst (pa_cons (pv 4) pa_nil))))))))), ?_⟩
  obtain ⟨S, h⟩ := h
  have es : Kp423.step (some c) (.setWeight i wt) = if Kp423.isBackend c i = false then (some c, Kp423.single (-2)) else if Kp423.inRange 1 100 wt = false then (some c, Kp423.single (-22)) else (some (setBackend c i { backendAt c i with weight := wt }), Kp423.single ((backendAt c i).weight : Nat)) := rfl
  refine i_seq ?_
  walk_at "rd"
  refine ⟨tbs K, L, c, i, rfl, S, ?_⟩
  walk_at "rd"
  cases hb : Kp423.isBackend c i with
  | false =>
    rw [hb, if_pos rfl] at es
    refine if_t ?_
    walk_at "rd"
    exact ⟨rfl, fun D nD => h.ans es (Nxt.refl S) nD rfl⟩
  | true =>
    rw [hb, if_neg (by decide)] at es
    refine if_f ?_
    refine i_next ?_
    refine i_seq ?_
    walk_at "rd"
    refine ⟨wt, rfl, ?_⟩
    walk_at "rd"
    cases hw : Kp423.inRange 1 100 wt with
    | false =>
      rw [hw, if_pos rfl] at es
      refine if_t ?_
      walk_at "rd"
      exact ⟨rfl, fun D nD => h.ans es (Nxt.refl S) nD rfl⟩
    | true =>
      rw [hw, if_neg (by decide)] at es
      refine if_f ?_
      have hi : i < c.backends.length := by
        unfold Kp423.isBackend at hb
        rw [Bool.and_eq_true] at hb
        exact of_decide_eq_true hb.1
      walk_at "rd"
      refine i_ixL S.lsB (v := .ref (L.bk i)) (by rw [List.getElem?_map, List.getElem?_range hi]; rfl) ?_
      walk_at "rd"
      refine w_bk_weight (y := wt) X S hi fun H1 n1 => ?_
      walk_at "rd"
      refine i_lstG ?_
      walk_at "rd"
      exact ⟨by show 1 ≤ sizeLine; decide, fun D nD => h.ans es n1 nD rfl⟩
def sp_cancel (K : PySem.W.Frag) : Sp := fun vs H Q _ => ∃ (L : Lo) (c : Client) (i : Nat), vs = [.ref L.cl, nV i] ∧ St K (tbs K) L c H ∧ HM.Acc c ∧ c.attempts.length ≤ 1000000 ∧ Done K L c H (Kp423.step (some c) (.cancel i)) Q
theorem sc_cancel : FnScope ["client", "call", "cancelled", "running"] ["client", "call"] (defScope s_cancel) := ⟨rfl, rfl, rfl, by decide +kernel, rfl, by decide +kernel, by decide +kernel⟩
theorem ok_cancel (X : Tx K mg) : GF P w K mg base 3 (He.ga K "cancel") ["client", "call"] (sp_cancel K) := by
  refine GF.of X.d_cancel sc_cancel (fun vs H Q E h => ?_) (fun _ _ _ _ _ _ us hl => match us, hl with | [_, _], _ => rfl) (fun cdv A outer s H vs Q E hr h => ?_)
  · obtain ⟨L, c, i, rfl, _⟩ := h; rfl
  obtain ⟨L, c, i, rfl, h⟩ := h
  refine ⟨_, PSs.nox (pss_cons (ps_if (pt_cmpR op_ge (pv 1) (pe_callB call_len_seq (by rfl) X.b_len PySem.boot_len (pa_cons (pe_fld (pv 0) rfl) pa_nil)) (nomark _)) (pss_one (ps_ret (pe_fn0 (ok_missing X) X.g_missing (hr.mono (by decide))))) pss_nil) (pss_cons (ps_set (i := 2) sc_cancel.nd rfl (Or.inl rfl) (pe_ix ix_list (pe_fld (pv 0) rfl) (pv 1) (fun _ _ => rfl))) (pss_cons (ps_if (pt_cmpR op_notN (pe_fld (pv 2) rfl) pe_non (nomark _)) (pss_one (ps_ret (pe_fn0 (ok_not_running X) X.g_not_running (hr.mono (by decide))))) pss_nil) (pss_cons (ps_set (i := 3) sc_cancel.nd rfl (Or.inl rfl) (pe_callB call_len_seq (by rfl) X.b_len PySem.boot_len (pa_cons (pe_fn (ok_running_among X) X.g_running_among (hr.mono (by decide)) (pa_cons (pe_fld (pv 2) rfl) pa_nil)) pa_nil))) (pss_cons (ps_expr (pe_fn (ok_end_call X) X.g_end_call (hr.mono (by decide)) (pa_cons (pv 0) (pa_cons (pv 2) (pa_cons (pe_gi X.i_CANCELLED) pa_nil))))) (pss_one (ps_ret (pe_lst (pa_cons (pv 3) pa_nil))))))))), ?_⟩
  obtain ⟨S, ac, hz, h⟩ := h
  have es : Kp423.step (some c) (.cancel i) = if Kp423.isCall c i = false then (some c, Kp423.single (-2)) else if Kp423.isOpen (callAt c i) then (some (Kp423.finishCall c i 1), Kp423.single ((Kp423.runningOf c i).length : Nat)) else (some c, Kp423.single (-16)) := rfl
  refine i_seq ?_
  walk_at "rd"
  refine ⟨_, _, rfl, .inl S.lsC, ?_⟩
  rw [List.length_map, List.length_range]
  walk_at "rd"
  unfold Kp423.isCall at es
  refine ite_dec (fun h1 => ?_) fun h1 => ?_
  · have hb : ¬ i < c.calls.length := by omega
    rw [decide_eq_false hb, if_pos rfl] at es
    walk_at "rd"
    exact ⟨rfl, fun D nD => h.ans es (Nxt.refl S) nD rfl⟩
  · have hb : i < c.calls.length := by omega
    rw [decide_eq_true hb, if_neg (by decide)] at es
    walk_at "rd"
    refine i_ixL S.lsC (v := .ref (L.ca i)) (by rw [List.getElem?_map, List.getElem?_range hb]; rfl) ?_
    walk_at "rd"
    refine i_seq ?_
    walk_at "rd"
    unfold Kp423.isOpen at es
    cases hs : (callAt c i).status with
    | some n =>
      have es : Kp423.step (some c) (.cancel i) = (some c, Kp423.single (-16)) := by rw [es, hs]; rfl
      refine if_t ?_
      walk_at "rd"
      exact ⟨rfl, fun D nD => h.ans es (Nxt.refl S) nD rfl⟩
    | none =>
      have es : Kp423.step (some c) (.cancel i) = (some (Kp423.finishCall c i 1), Kp423.single ((Kp423.runningOf c i).length : Nat)) := by rw [es, hs]; rfl
      refine if_f ?_
      walk_at "rd"
      have hl2 : (atsOf c i).length ≤ 1000000 := by
        have z := List.length_filter_le (fun a => (attemptAt c a).call == i) (List.range c.attempts.length)
        rw [List.length_range] at z
        exact Nat.le_trans z hz
      refine ⟨tbs K, L, c, L.al i, atsOf c i, rfl, S, S.lsL hb, hl2, fun j hj => ats_lt hj, fun D1 n1 => ?_⟩
      have er : ((atsOf c i).filter fun j => Kp423.isRunning (attemptAt c j)) = Kp423.runningOf c i := (HM.runningOf_eq c i).symm
      rw [er]
      have N1 := Nxt.behind (u := .lst ((Kp423.runningOf c i).map fun j => .ref (L.att j))) (Nxt.refl S) n1
      have a1 : upd H D1 (.lst ((Kp423.runningOf c i).map fun j => .ref (L.att j))) D1 = some (.lst ((Kp423.runningOf c i).map fun j => .ref (L.att j))) := upd_same
      generalize upd H D1 (.lst ((Kp423.runningOf c i).map fun j => .ref (L.att j))) = H1 at N1 a1 ⊢
      have S1 := N1.st
      walk_at "rd"
      refine ⟨_, _, rfl, .inl (SqL.of a1), ?_⟩
      rw [List.length_map]
      walk_at "rd"
      refine ⟨tbs K, L, c, i, 1, rfl, S1, ac, hz, hb, fun H2 n2 => ?_⟩
      walk_at "rd"
      refine i_lstG ?_
      walk_at "rd"
      exact ⟨by show 1 ≤ sizeLine; decide, fun D nD => h.ans es (N1.trans n2) nD rfl⟩
theorem status_is (s : Nat) : isStatus (s : Int) = Kp423.validStatus s := by
  unfold isStatus Kp423.validStatus
  by_cases h : s ≤ 16
  · rw [decide_eq_true h, decide_eq_true (by omega)]; rfl
  · rw [decide_eq_false h, decide_eq_false (by omega), Bool.false_or, Bool.false_or]
    by_cases h2 : s = 100
    · subst h2; rfl
    · rw [decide_eq_false (by omega)]
      exact (beq_eq_false_iff_ne.mpr h2).symm
end

section
variable {P : Program} {w : World} {K : PySem.W.Frag} {mg : Str → Option Value} {base : Heap}
/-! ### what every step keeps of the attempts and the calls -/
structure Kept (c d : Client) : Prop where
  len : c.attempts.length ≤ d.attempts.length
  att : ∀ a, a < c.attempts.length → (attemptAt d a).call = (attemptAt c a).call ∧ (attemptAt d a).startedAt = (attemptAt c a).startedAt
  cls : d.calls.length = c.calls.length
  bks : d.backends.length = c.backends.length
  pol : d.policy = c.policy
  now : d.now = c.now
  bkn : ∀ a, a < c.attempts.length → (attemptAt d a).backend = (attemptAt c a).backend
theorem Kept.refl (c : Client) : Kept c c := ⟨Nat.le_refl _, fun _ _ => ⟨rfl, rfl⟩, rfl, rfl, rfl, rfl, fun _ _ => rfl⟩
theorem Kept.trans {c d e : Client} (h : Kept c d) (g : Kept d e) : Kept c e :=
  ⟨Nat.le_trans h.len g.len, fun a ha => by
    obtain ⟨x1, x2⟩ := h.att a ha
    obtain ⟨y1, y2⟩ := g.att a (Nat.lt_of_lt_of_le ha h.len)
    exact ⟨y1.trans x1, y2.trans x2⟩, g.cls.trans h.cls, g.bks.trans h.bks, g.pol.trans h.pol, g.now.trans h.now, fun a ha => (g.bkn a (Nat.lt_of_lt_of_le ha h.len)).trans (h.bkn a ha)⟩
theorem Kept.same {c d : Client} (h : d.attempts = c.attempts) (hc : d.calls.length = c.calls.length) (hb : d.backends.length = c.backends.length) (hp : d.policy = c.policy) (hn : d.now = c.now) : Kept c d :=
  ⟨by rw [h]; exact Nat.le_refl _, fun a _ => by unfold attemptAt; rw [h]; exact ⟨rfl, rfl⟩, hc, hb, hp, hn, fun a _ => by unfold attemptAt; rw [h]⟩
theorem Kept.stopped (c : Client) (j : Nat) (st : AttemptState) : Kept c (HM.stopped c j st) := by
  obtain ⟨l1, l2, l3⟩ := HM.stopped_len c j st
  refine ⟨Nat.le_of_eq l1.symm, fun a ha => ?_, congrArg List.length l2, l3, rfl, rfl, fun a ha => ?_⟩
  · rw [HM.stopped_at]
    split
    · rename_i q; rw [q.1]; exact ⟨rfl, rfl⟩
    · exact ⟨rfl, rfl⟩
  · rw [HM.stopped_at]
    split
    · rename_i q; rw [q.1]
    · rfl
theorem Kept.cancels : ∀ (l : List Nat) (c : Client), Kept c (l.foldl Kp423.cancelAttempt c)
  | [], c => Kept.refl c
  | a :: r, c => (Kept.stopped c a .cancelled).trans (Kept.cancels r _)
theorem Kept.finish (c : Client) (i s : Nat) : Kept c (Kp423.finishCall c i s) := by
  unfold Kp423.finishCall
  exact Kept.trans (Kept.same (d := setCall c i { callAt c i with status := some s, finishedAt := c.now, retryAt := none, hedgeAt := none }) rfl HM.setCall_len rfl rfl rfl) (Kept.cancels _ _)
theorem Kept.start {c : Client} {i : Nat} {b : Bool} (hb : c.policy.balancer ≤ 3) : Kept c (Kp423.startAttempt c i b) := by
  have e1 := choose_is c hb (callAt c i).key (Kp423.triedBackends c i)
  cases q : picked c (callAt c i).key (Kp423.candidates c (Kp423.triedBackends c i)) with
  | none =>
    rw [q] at e1
    rw [start_none e1]
    exact Kept.finish c i 14
  | some k =>
    rw [q] at e1
    have e1 : Kp423.choose c (callAt c i).key (Kp423.triedBackends c i) = some (k, HM.moved c (Kp423.candidates c (Kp423.triedBackends c i)) k) := e1
    rw [start_some e1]
    obtain ⟨f1, f2, f3, f4, f5, f6⟩ := moved_rest c (Kp423.candidates c (Kp423.triedBackends c i)) k
    generalize HM.moved c (Kp423.candidates c (Kp423.triedBackends c i)) k = c1 at *
    refine ⟨?_, fun a ha => ?_, ?_, ?_, f4, f3, fun a ha => ?_⟩
    · show _ ≤ (c1.attempts ++ [_]).length
      rw [List.length_append, f1]
      exact Nat.le_add_right _ _
    · have z := (attempt_app (c := c) (d := { setCall (setBackend c1 k { backendAt c1 k with outstanding := (backendAt c1 k).outstanding + 1 }) i { callAt c i with counted := (callAt c i).counted + (if b then 1 else 0), retryAt := none, hedgeAt := hedgeT c { callAt c i with counted := (callAt c i).counted + (if b then 1 else 0) } } with attempts := c1.attempts ++ [⟨i, k, (Kp423.triedBackends c i).length + 1, c.now, .running⟩] }) (a := ⟨i, k, (Kp423.triedBackends c i).length + 1, c.now, .running⟩) (by rw [f1]) a).1 ha
      rw [z]
      exact ⟨rfl, rfl⟩
    · show (setCall _ i _).calls.length = _
      rw [HM.setCall_len]
      exact congrArg List.length f2
    · show (setBackend c1 k _).backends.length = _
      rw [HM.setBackend_len, f5]
    · have z := (attempt_app (c := c) (d := { setCall (setBackend c1 k { backendAt c1 k with outstanding := (backendAt c1 k).outstanding + 1 }) i { callAt c i with counted := (callAt c i).counted + (if b then 1 else 0), retryAt := none, hedgeAt := hedgeT c { callAt c i with counted := (callAt c i).counted + (if b then 1 else 0) } } with attempts := c1.attempts ++ [⟨i, k, (Kp423.triedBackends c i).length + 1, c.now, .running⟩] }) (a := ⟨i, k, (Kp423.triedBackends c i).length + 1, c.now, .running⟩) (by rw [f1]) a).1 ha
      rw [z]
theorem Kept.handle {c : Client} {i s p : Nat} (hb : c.policy.balancer ≤ 3) : Kept c (Kp423.handleFailure c i s p) := by
  by_cases h1 : s = 100 ∧ (callAt c i).transparent = false ∧ c.now < (callAt c i).deadline
  · rw [hf1 c i s p h1]
    exact Kept.trans (Kept.same (d := { setCall c i { callAt c i with transparent := true } with transparentCount := c.transparentCount + 1 }) rfl HM.setCall_len rfl rfl rfl) (Kept.start hb)
  by_cases h2 : Kp423.isRetryable c i s = false
  · rw [hf2 c i s p h1 h2]; exact Kept.finish _ _ _
  have kc : Kept c (charge c) := Kept.same rfl rfl rfl rfl rfl
  by_cases h3 : Kp423.runningOf c i ≠ []
  · rw [hf3 c i s p h1 h2 h3]; exact kc
  by_cases h4 : p = 1 ∨ c.policy.maxAttempts ≤ (callAt c i).counted ∨ Kp423.budgetAllows (charge c) = false
  · rw [hf4 c i s p h1 h2 h3 h4]; exact kc.trans (Kept.finish _ _ _)
  rw [hf5 c i s p h1 h2 h3 h4, later_is]
  generalize Kp423.retryDelay (charge c) i p = r
  have ks : Kept c { charge c with seed := r.2 } := Kept.same rfl rfl rfl rfl rfl
  split
  · exact ks.trans (Kept.finish _ _ _)
  · exact Kept.same rfl HM.setCall_len rfl rfl rfl
theorem Kept.complete {c : Client} {j s p : Nat} (hb : c.policy.balancer ≤ 3) : Kept c (Kp423.completeAttempt c j s p) := by
  rw [complete_is]
  have k1 := Kept.stopped c j (.finished s)
  split
  · refine k1.trans (Kept.trans (Kept.same (d := { setBackend (HM.stopped c j (.finished s)) (attemptAt c j).backend { backendAt (HM.stopped c j (.finished s)) (attemptAt c j).backend with failures := 0 } with tokens := min (c.policy.maxTokens * 1000) (c.tokens + c.policy.refund) }) rfl rfl HM.setBackend_len rfl rfl) (Kept.finish _ _ _))
  · have k2 : Kept (HM.stopped c j (.finished s)) (if s = 2 ∨ s = 14 then Kp423.noteFailure (HM.stopped c j (.finished s)) (attemptAt c j).backend else HM.stopped c j (.finished s)) := by
      split
      · obtain ⟨b, e, _, _⟩ := note_is (HM.stopped c j (.finished s)) (attemptAt c j).backend
        rw [e]
        exact Kept.same rfl rfl HM.setBackend_len rfl rfl
      · exact Kept.refl _
    exact (k1.trans k2).trans (Kept.handle (by rw [k2.pol]; exact hb))
end

section
variable {P : Program} {w : World} {K : PySem.W.Frag} {mg : Str → Option Value} {base : Heap}
/-! ### complete -/
def sp_complete (K : PySem.W.Frag) : Sp := fun vs H Q _ => ∃ (L : Lo) (c : Client) (j s p : Nat), vs = [.ref L.cl, nV j, nV s, nV p] ∧ St K (tbs K) L c H ∧ Sz c ∧ Pol c.policy ∧ HM.Acc c ∧ c.attempts.length < 1000000 ∧ (∀ i, i < c.calls.length → (callAt c i).retries < 1000) ∧ Done K L c H (Kp423.step (some c) (.complete j s p)) Q
theorem sc_complete : FnScope ["client", "attempt", "status", "pushback", "ended"] ["client", "attempt", "status", "pushback"] (defScope s_complete) := ⟨rfl, rfl, rfl, by decide +kernel, rfl, by decide +kernel, by decide +kernel⟩
theorem ok_complete (X : Tx K mg) (TB : TabB base mg (He.cT K ("pick", none)).1 (He.cT K ("pick", none)).2) : GF P w K mg base 9 (He.ga K "complete") ["client", "attempt", "status", "pushback"] (sp_complete K) := by
  refine GF.of X.d_complete sc_complete (fun vs H Q E h => ?_) (fun _ _ _ _ _ _ us hl => match us, hl with | [_, _, _, _], _ => rfl) (fun cdv A outer s H vs Q E hr h => ?_)
  · obtain ⟨L, c, j, s, p, rfl, _⟩ := h; rfl
  obtain ⟨L, c, j, s, p, rfl, h⟩ := h
  refine ⟨_, PSs.nox (pss_cons (ps_if (pt_cmpR op_ge (pv 1) (pe_callB call_len_seq (by rfl) X.b_len PySem.boot_len (pa_cons (pe_fld (pv 0) rfl) pa_nil)) (nomark _)) (pss_one (ps_ret (pe_fn0 (ok_missing X) X.g_missing (hr.mono (by decide))))) pss_nil) (pss_cons (ps_if (PW.pt (pw_or (pt_not (pt_val (pe_fn (ok_is_status X) X.g_is_status (hr.mono (by decide)) (pa_cons (pv 2) pa_nil)))) (pw_or1 (pt_not (pt_val (pe_fn (ok_within X) X.g_within (hr.mono (by decide)) (pa_cons (pv 3) (pa_cons pe_int (pa_cons pe_int pa_nil))))))))) (pss_one (ps_ret (pe_fn0 (ok_outside_limits X) X.g_outside_limits (hr.mono (by decide))))) pss_nil) (pss_cons (ps_set (i := 4) sc_complete.nd rfl (Or.inl rfl) (pe_ix ix_list (pe_fld (pv 0) rfl) (pv 1) (fun _ _ => rfl))) (pss_cons (ps_if (pt_cmpR op_ne (pe_fld (pv 4) rfl) (pe_gi X.i_RUNNING) (nomark _)) (pss_one (ps_ret (pe_fn0 (ok_not_running X) X.g_not_running (hr.mono (by decide))))) pss_nil) (pss_cons (ps_expr (pe_fn (ok_end_attempt X TB) X.g_end_attempt (hr.mono (by decide)) (pa_cons (pv 0) (pa_cons (pv 4) (pa_cons (pv 2) (pa_cons (pv 3) pa_nil)))))) (pss_one (ps_ret (pe_lst (pa_cons (pe_fn (ok_final_status X) X.g_final_status (hr.mono (by decide)) (pa_cons (pe_fld (pv 4) rfl) pa_nil)) pa_nil))))))))), ?_⟩
  obtain ⟨S, hz, hp, ac, hza, hr1, h⟩ := h
  have es : Kp423.step (some c) (.complete j s p) = if Kp423.isAttempt c j = false then (some c, Kp423.single (-2)) else if (Kp423.validStatus s && decide (p ≤ 100002)) = false then (some c, Kp423.single (-22)) else if Kp423.isRunning (attemptAt c j) = false then (some c, Kp423.single (-16)) else (some (Kp423.completeAttempt c j s p), Kp423.single (Kp423.callStatus (Kp423.completeAttempt c j s p) (attemptAt c j).call : Nat)) := rfl
  refine i_seq ?_
  walk_at "rd"
  refine ⟨_, _, rfl, .inl S.lsA, ?_⟩
  rw [List.length_map, List.length_range]
  walk_at "rd"
  unfold Kp423.isAttempt at es
  refine ite_dec (fun h1 => ?_) fun h1 => ?_
  · have hb : ¬ j < c.attempts.length := by omega
    rw [decide_eq_false hb, if_pos rfl] at es
    walk_at "rd"
    exact ⟨rfl, fun D nD => h.ans es (Nxt.refl S) nD rfl⟩
  have hb : j < c.attempts.length := by omega
  rw [decide_eq_true hb, if_neg (by decide)] at es
  refine i_next ?_
  refine i_seqJ (fun σ' H' => σ' = [some (.ref L.cl), some (nV j), some (nV s), some (nV p), none] ∧ H' = H ∧ (Kp423.validStatus s && decide (p ≤ 100002)) = true) ?_ fun N hN => ?_
  · rintro σ' H' ⟨rfl, rfl, hv⟩
    rw [hv, if_neg (by decide)] at es
    walk_at "rd"
    refine i_ixL S.lsA (v := .ref (L.att j)) (by rw [List.getElem?_map, List.getElem?_range hb]; rfl) ?_
    walk_at "rd"
    refine i_seq ?_
    walk_at "rd"
    rw [stN_run]
    cases hr : Kp423.isRunning (attemptAt c j) with
    | false =>
      have es : Kp423.step (some c) (.complete j s p) = (some c, Kp423.single (-16)) := by rw [es, hr]; rfl
      refine if_t ?_
      walk_at "rd"
      exact ⟨rfl, fun D nD => h.ans es (Nxt.refl S) nD rfl⟩
    | true =>
      have es : Kp423.step (some c) (.complete j s p) = (some (Kp423.completeAttempt c j s p), Kp423.single (Kp423.callStatus (Kp423.completeAttempt c j s p) (attemptAt c j).call : Nat)) := by rw [es, hr]; rfl
      refine if_f ?_
      walk_at "rd"
      refine ⟨L, c, j, s, p, rfl, S, hz, hp, ac, hza, hb, hr, hr1 _ (ac.idx j hb).1, fun M2 H2 n2 => ?_⟩
      walk_at "rd"
      have N2 := n2
      have S2 := n2.st
      have kp := Kept.complete (c := c) (j := j) (s := s) (p := p) hp.bal
      have hj2 : j < (Kp423.completeAttempt c j s p).attempts.length := Nat.lt_of_lt_of_le hb kp.len
      have ek := (kp.att j hb).1
      have hc2 : (attemptAt c j).call < (Kp423.completeAttempt c j s p).calls.length := by rw [kp.cls]; exact (ac.idx j hb).1
      have eadr : M2.att j = L.att j := (n2.adr (.att j) _ (if_pos hb)).1
      generalize Kp423.completeAttempt c j s p = cn at *
      rw [← eadr]
      refine i_lstG ?_
      walk_at "rd"
      rw [ek]
      refine ⟨tbs K, M2, cn, (attemptAt c j).call, rfl, S2, hc2, ?_⟩
      walk_at "rd"
      exact ⟨by show 1 ≤ sizeLine; decide, fun D nD => h.ans es n2 nD rfl⟩
  · walk_at "rd"
    refine ⟨_, rfl, ?_⟩
    rw [status_is]
    have bad : (Kp423.validStatus s && decide (p ≤ 100002)) = false → sp_outside_limits [] H Q L2.E0 := fun hv => by
      rw [hv, if_pos rfl] at es
      exact ⟨rfl, fun D nD => h.ans es (Nxt.refl S) nD rfl⟩
    refine ⟨_, rfl, ?_⟩
    cases hv : Kp423.validStatus s with
    | false =>
      rw [hv, Bool.false_and] at bad
      refine if_t (if_t ?_)
      walk_at "rd"
      exact bad rfl
    | true =>
      rw [hv, Bool.true_and] at bad hN
      refine if_f ?_
      walk_at "rd"
      refine ⟨_, _, _, rfl, ?_⟩
      have ew : decide ((0 : Int) ≤ (p : Int) ∧ (p : Int) ≤ 100002) = decide (p ≤ 100002) := decide_eq_decide.mpr (by omega)
      rw [ew]
      refine ⟨_, rfl, ?_⟩
      cases hw : decide (p ≤ 100002) with
      | false =>
        refine if_t ?_
        walk_at "rd"
        exact bad hw
      | true =>
        refine if_f ?_
        exact hN _ _ ⟨rfl, rfl, hw⟩
end

section
variable {P : Program} {w : World} {K : PySem.W.Frag} {mg : Str → Option Value} {base : Heap}
/-! ### a backend is added -/
def sp_add_backend (K : PySem.W.Frag) : Sp := fun vs H Q _ => ∃ (L : Lo) (c : Client) (wt : Nat), vs = [.ref L.cl, nV wt] ∧ St K (tbs K) L c H ∧ c.backends.length ≤ 8 ∧ (∀ a, a < c.attempts.length → (attemptAt c a).backend < c.backends.length) ∧ Done K L c H (Kp423.step (some c) (.addBackend wt)) Q
theorem sc_add_backend : FnScope ["client", "weight", "number"] ["client", "weight"] (defScope s_add_backend) := ⟨rfl, rfl, rfl, by decide +kernel, rfl, by decide +kernel, by decide +kernel⟩
theorem ok_add_backend (X : Tx K mg) : GF P w K mg base 3 (He.ga K "add_backend") ["client", "weight"] (sp_add_backend K) := by
  refine GF.of X.d_add_backend sc_add_backend (fun vs H Q E h => ?_) (fun _ _ _ _ _ _ us hl => match us, hl with | [_, _], _ => rfl) (fun cdv A outer s H vs Q E hr h => ?_)
  · obtain ⟨L, c, wt, rfl, _⟩ := h; rfl
  obtain ⟨L, c, wt, rfl, h⟩ := h
  refine ⟨_, PSs.nox (pss_cons (ps_if (pt_not (pt_val (pe_fn (ok_is_weight X) X.g_is_weight (hr.mono (by decide)) (pa_cons (pv 1) pa_nil)))) (pss_one (ps_ret (pe_fn0 (ok_outside_limits X) X.g_outside_limits (hr.mono (by decide))))) pss_nil) (pss_cons (ps_set (i := 2) sc_add_backend.nd rfl (Or.inl rfl) (pe_callB call_len_seq (by rfl) X.b_len PySem.boot_len (pa_cons (pe_fld (pv 0) rfl) pa_nil))) (pss_cons (ps_if (pt_cmpR op_ge (pv 2) (pe_gi X.i_MOST_BACKENDS) (nomark _)) (pss_one (ps_ret (pe_fn0 (ok_too_many X) X.g_too_many (hr.mono (by decide))))) pss_nil) (pss_cons (ps_expr (pe_bm PySem.F.plainAttrs_list PySem.F.slot_list_append PySem.F.type_list_append mt_append (pe_fld (pv 0) rfl) (pa_cons (pe_new X.m_Backend (ok_Backend_init X) X.g_Backend (hr.mono (by decide)) (pa_cons (pv 2) (pa_cons (pv 1) pa_nil))) pa_nil))) (pss_one (ps_ret (pe_lst (pa_cons (pv 2) pa_nil)))))))), ?_⟩
  obtain ⟨S, hz, hx, h⟩ := h
  have es : Kp423.step (some c) (.addBackend wt) = if Kp423.inRange 1 100 wt = false then (some c, Kp423.single (-22)) else if 8 ≤ c.backends.length then (some c, Kp423.single (-28)) else (some { c with backends := c.backends ++ [⟨true, wt, 0, 0, 0, 0, none⟩] }, Kp423.single (c.backends.length : Nat)) := rfl
  refine i_seq ?_
  walk_at "rd"
  refine ⟨wt, rfl, ?_⟩
  walk_at "rd"
  cases hw : Kp423.inRange 1 100 wt with
  | false =>
    rw [hw, if_pos rfl] at es
    refine if_t ?_
    walk_at "rd"
    exact ⟨rfl, fun D nD => h.ans es (Nxt.refl S) nD rfl⟩
  | true =>
    rw [hw, if_neg (by decide)] at es
    refine if_f ?_
    walk_at "rd"
    refine ⟨_, _, rfl, .inl S.lsB, ?_⟩
    rw [List.length_map, List.length_range]
    walk_at "rd"
    refine i_seq ?_
    walk_at "rd"
    refine ite_dec (fun h1 => ?_) fun h1 => ?_
    · rw [if_pos (by omega)] at es
      walk_at "rd"
      exact ⟨rfl, fun D nD => h.ans es (Nxt.refl S) nD rfl⟩
    · rw [if_neg (by omega)] at es
      walk_at "rd"
      have olb := S.has .lb _ rfl
      have olb : H L.lb = some (.lst ((List.range c.backends.length).map fun i => .ref (L.bk i))) := olb
      refine ⟨.inl ⟨rfl, _, SqL.of olb⟩, ?_⟩
      refine i_cons (i_make ?_)
      walk_at "rd"
      intro p dx np ndx hne
      refine ⟨p, dx, c.backends.length, wt, rfl, upd_same, fun H5 e5 k5 => ⟨rfl, ?_⟩⟩
      have np1 : upd H dx (.own p) p = none := by rw [upd_ne (Ne.symm hne)]; exact np
      have e5h : H5 = upd (upd H dx (.own p)) p (.ins (He.ga K "Backend") dx (bkF c.backends.length (newB c.backends.length wt))) := by
        funext q
        by_cases hq : q = p
        · rw [hq, upd_same]; exact e5
        · rw [k5 q hq, upd_ne hq, upd_ne hq]
      have n5 : Nxt K (tbs K) L c H L c H5 := by
        rw [e5h]
        exact Nxt.behind (Nxt.behind (Nxt.refl S) ndx) np1
      have m := Nxt.addBk (b := newB c.backends.length wt) n5 hx np (Off.of_none S np) e5
      have olb5 : H5 L.lb = some (.lst ((List.range c.backends.length).map fun i => .ref (L.bk i))) := n5.st.has .lb _ rfl
      refine i_nil ?_
      refine ⟨L.lb, _, _, rfl, rfl, olb5, by rw [List.length_map, List.length_range]; exact small_size (by omega), ?_⟩
      walk_at "rd"
      refine i_lstG ?_
      walk_at "rd"
      exact ⟨by show 1 ≤ sizeLine; decide, fun D nD => h.ans es m nD rfl⟩
end

section
variable {P : Program} {w : World} {K : PySem.W.Frag} {mg : Str → Option Value} {base : Heap}
/-! ### a call starts -/
def newCall (c : Client) (t i key : Nat) : RemoteCall := ⟨c.now + t, i == 1, key, none, 0, 0, 0, false, none, none⟩
def sp_start_call (K : PySem.W.Frag) : Sp := fun vs H Q _ => ∃ (L : Lo) (c : Client) (t i key : Nat), vs = [.ref L.cl, nV t, nV i, nV key] ∧ St K (tbs K) L c H ∧ Sz c ∧ Pol c.policy ∧ HM.Acc c ∧ c.attempts.length < 1000000 ∧ Done K L c H (Kp423.step (some c) (.startCall t i key)) Q
theorem sc_start_call : FnScope ["client", "timeout", "idempotent", "key", "number", "call"] ["client", "timeout", "idempotent", "key"] (defScope s_start_call) := ⟨rfl, rfl, rfl, by decide +kernel, rfl, by decide +kernel, by decide +kernel⟩
theorem ok_start_call (X : Tx K mg) (TB : TabB base mg (He.cT K ("pick", none)).1 (He.cT K ("pick", none)).2) : GF P w K mg base 7 (He.ga K "start_call") ["client", "timeout", "idempotent", "key"] (sp_start_call K) := by
  refine GF.of X.d_start_call sc_start_call (fun vs H Q E h => ?_) (fun _ _ _ _ _ _ us hl => match us, hl with | [_, _, _, _], _ => rfl) (fun cdv A outer s H vs Q E hr h => ?_)
  · obtain ⟨L, c, t, i, key, rfl, _⟩ := h; rfl
  obtain ⟨L, c, t, i, key, rfl, h⟩ := h
  refine ⟨_, PSs.nox (pss_cons (ps_if (PW.pt (pw_or (pt_not (pt_val (pe_fn (ok_within X) X.g_within (hr.mono (by decide)) (pa_cons (pv 1) (pa_cons pe_int (pa_cons pe_int pa_nil)))))) (pw_or1 (pt_not (pt_val (pe_fn (ok_within X) X.g_within (hr.mono (by decide)) (pa_cons (pv 2) (pa_cons pe_int (pa_cons pe_int pa_nil))))))))) (pss_one (ps_ret (pe_fn0 (ok_outside_limits X) X.g_outside_limits (hr.mono (by decide))))) pss_nil) (pss_cons (ps_set (i := 4) sc_start_call.nd rfl (Or.inl rfl) (pe_callB call_len_seq (by rfl) X.b_len PySem.boot_len (pa_cons (pe_fld (pv 0) rfl) pa_nil))) (pss_cons (ps_if (PW.pt (pw_or (pt_cmpR op_ge (pv 4) (pe_gi X.i_MOST_CALLS) (nomark _)) (pw_or1 (pt_cmpR op_ge (pe_callB call_len_seq (by rfl) X.b_len PySem.boot_len (pa_cons (pe_fld (pv 0) rfl) pa_nil)) (pe_gi X.i_MOST_ATTEMPTS) (nomark _))))) (pss_one (ps_ret (pe_fn0 (ok_too_many X) X.g_too_many (hr.mono (by decide))))) pss_nil) (pss_cons (ps_set (i := 5) sc_start_call.nd rfl (Or.inl rfl) (pe_new X.m_Call (ok_Call_init X) X.g_Call (hr.mono (by decide)) (pa_cons (pv 4) (pa_cons (pe_op op_add (pe_fld (pv 0) rfl) (pv 1)) (pa_cons (pe_cmpR op_eq (pv 2) pe_int (nomark _)) (pa_cons (pv 3) pa_nil)))))) (pss_cons (ps_expr (pe_bm PySem.F.plainAttrs_list PySem.F.slot_list_append PySem.F.type_list_append mt_append (pe_fld (pv 0) rfl) (pa_cons (pv 5) pa_nil))) (pss_cons (ps_expr (pe_fn (ok_start_attempt X TB) X.g_start_attempt (hr.mono (by decide)) (pa_cons (pv 0) (pa_cons (pv 5) (pa_cons pe_bl pa_nil))))) (pss_one (ps_ret (pe_lst (pa_cons (pv 4) (pa_cons (pe_fn (ok_final_status X) X.g_final_status (hr.mono (by decide)) (pa_cons (pv 5) pa_nil)) pa_nil))))))))))), ?_⟩
  obtain ⟨S, hz, hp, ac, hza, h⟩ := h
  have es : Kp423.step (some c) (.startCall t i key) = if (Kp423.inRange 1 100000 t && decide (i ≤ 1)) = false then (some c, Kp423.single (-22)) else if 60 ≤ c.calls.length ∨ 200 ≤ c.attempts.length then (some c, Kp423.single (-28)) else (some (Kp423.startAttempt { c with calls := c.calls ++ [newCall c t i key] } c.calls.length true), Kp423.natResult c.calls.length [Kp423.callStatus (Kp423.startAttempt { c with calls := c.calls ++ [newCall c t i key] } c.calls.length true) c.calls.length]) := rfl
  refine i_seqJ (fun σ' H' => σ' = [some (.ref L.cl), some (nV t), some (nV i), some (nV key), none, none] ∧ H' = H ∧ (Kp423.inRange 1 100000 t && decide (i ≤ 1)) = true) ?_ fun N hN => ?_
  · rintro σ' H' ⟨rfl, rfl, hv⟩
    rw [hv, if_neg (by decide)] at es
    walk_at "rd"
    refine ⟨_, _, rfl, .inl S.lsC, ?_⟩
    rw [List.length_map, List.length_range]
    walk_at "rd"
    refine i_seqJ (fun σ' H1 => σ' = [some (.ref L.cl), some (nV t), some (nV i), some (nV key), some (nV c.calls.length), none] ∧ H1 = H' ∧ ¬ (60 ≤ c.calls.length ∨ 200 ≤ c.attempts.length)) ?_ fun N hN => ?_
    · rintro σ' H1 ⟨rfl, rfl, hm⟩
      rw [if_neg hm] at es
      walk_at "rd"
      intro p dx np ndx hne
      have ei : V.bl (decide ((i : Int) = 1)) = V.bl (i == 1) := by
        by_cases q : i = 1
        · subst q; rfl
        · rw [decide_eq_false (by omega), beq_eq_false_iff_ne.mpr q]
      rw [ei]
      refine ⟨p, dx, c.calls.length, c.now + t, i == 1, key, rfl, upd_same, fun H5 l e5 nl nlp el k5 => ⟨rfl, ?_⟩⟩
      have np1 : upd H1 dx (.own p) p = none := by rw [upd_ne (Ne.symm hne)]; exact np
      have nl1 : upd H1 dx (.own p) l = none := by rw [upd_ne nlp] at nl; exact nl
      have nl0 : H1 l = none := by
        by_cases q : l = dx
        · rw [q, upd_same] at nl1; cases nl1
        · rw [upd_ne q] at nl1; exact nl1
      have al_ : (withCa L c.calls.length p l).al c.calls.length = l := if_pos rfl
      have e5 : H5 p = some (.ins (He.ga K "Call") dx (caF (withCa L c.calls.length p l) c.calls.length (newCall c t i key))) := by
        unfold caF
        rw [al_]
        exact e5
      have e5h : H5 = upd (upd (upd H1 dx (.own p)) l (.lst [])) p (.ins (He.ga K "Call") dx (caF (withCa L c.calls.length p l) c.calls.length (newCall c t i key))) := by
        funext q
        by_cases hq : q = p
        · rw [hq, upd_same]; exact e5
        · rw [upd_ne hq]
          by_cases hl : q = l
          · rw [hl, upd_same]; exact el
          · rw [k5 q hq hl, upd_ne hq, upd_ne hl]
      have n5 : Nxt K (tbs K) L c H1 L c H5 := by
        rw [e5h]
        exact Nxt.behind (Nxt.behind (Nxt.behind (Nxt.refl S) ndx) nl1) (by rw [upd_ne (Ne.symm nlp)]; exact np1)
      have m := Nxt.addCa (x := newCall c t i key) n5 (fun a ha => (ac.idx a ha).1) np nl0 (Off.of_none S np) (Off.of_none S nl0) e5 el
      have S5 := n5.st
      walk_at "rd"
      refine BmR.app (S5.has .lc _ rfl) rfl (by rw [List.length_map, List.length_range]; exact small_size (by omega)) ?_
      have c1l : ({ c with calls := c.calls ++ [newCall c t i key] } : Client).calls.length = c.calls.length + 1 := by rw [List.length_append]; rfl
      have ac1 : HM.Acc { c with calls := c.calls ++ [newCall c t i key] } := ⟨ac.out, fun a ha => ⟨by rw [c1l]; exact Nat.lt_succ_of_lt (ac.idx a ha).1, (ac.idx a ha).2⟩⟩
      have hz1 : Sz { c with calls := c.calls ++ [newCall c t i key] } := ⟨hz.bs, by rw [c1l]; omega, hz.ats⟩
      have hp1 : Pol ({ c with calls := c.calls ++ [newCall c t i key] } : Client).policy := hp
      have hza1 : ({ c with calls := c.calls ++ [newCall c t i key] } : Client).attempts.length < 1000000 := hza
      generalize upd H5 L.lc _ = H6 at m ⊢
      obtain ⟨L3, hcl, hca, m⟩ : ∃ L3, L3.cl = L.cl ∧ L3.ca c.calls.length = p ∧ Nxt K (tbs K) L c H1 L3 { c with calls := c.calls ++ [newCall c t i key] } H6 := ⟨_, rfl, if_pos rfl, m⟩
      generalize ({ c with calls := c.calls ++ [newCall c t i key] } : Client) = c1 at *
      have S6 := m.st
      walk_at "rd"
      refine ⟨L3, c1, c.calls.length, true, by rw [hcl, hca]; rfl, S6, hz1, hp1, ac1, hza1, by omega, fun M4 H7 n7 => ?_⟩
      have N7 := m.trans n7
      have oc : ob L3 c1 (.ca c.calls.length) = some (.i "Call" (caF L3 c.calls.length (callAt c1 c.calls.length))) := if_pos (by omega)
      have ead : M4.ca c.calls.length = p := (n7.adr (.ca c.calls.length) _ oc).1.trans hca
      have kl : c.calls.length < (Kp423.startAttempt c1 c.calls.length true).calls.length := by
        rw [(Kept.start (c := c1) (i := c.calls.length) (b := true) hp1.bal).cls]; omega
      generalize Kp423.startAttempt c1 c.calls.length true = c2 at *
      have S7 := N7.st
      walk_at "rd"
      refine i_lstG ?_
      walk_at "rd"
      refine ⟨tbs K, M4, c2, c.calls.length, by rw [ead]; rfl, S7, kl, ?_⟩
      walk_at "rd"
      exact ⟨by show 2 ≤ sizeLine; decide, fun D nD => h.ans es N7 nD rfl⟩
    · have bad : (60 ≤ c.calls.length ∨ 200 ≤ c.attempts.length) → sp_too_many [] H' Q L2.E0 := fun hv => by
        rw [if_pos hv] at es
        exact ⟨rfl, fun D nD => h.ans es (Nxt.refl S) nD rfl⟩
      walk_at "rd"
      refine ite_dec (fun h1 => ?_) fun h1 => ?_
      · refine if_t ?_
        walk_at "rd"
        exact bad (.inl (by omega))
      · walk_at "rd"
        refine ⟨_, _, rfl, .inl S.lsA, ?_⟩
        rw [List.length_map, List.length_range]
        walk_at "rd"
        refine ite_dec (fun h2 => ?_) fun h2 => ?_
        · walk_at "rd"
          exact bad (.inr (by omega))
        · exact hN _ _ ⟨rfl, rfl, by omega⟩
  · have bad : (Kp423.inRange 1 100000 t && decide (i ≤ 1)) = false → sp_outside_limits [] H Q L2.E0 := fun hv => by
      rw [hv, if_pos rfl] at es
      exact ⟨rfl, fun D nD => h.ans es (Nxt.refl S) nD rfl⟩
    walk_at "rd"
    refine ⟨_, _, _, rfl, ?_⟩
    have e1 := range_is 1 100000 t
    have e1 : decide ((1 : Int) ≤ (t : Int) ∧ (t : Int) ≤ 100000) = Kp423.inRange 1 100000 t := e1
    rw [e1]
    refine ⟨_, rfl, ?_⟩
    cases hv : Kp423.inRange 1 100000 t with
    | false =>
      rw [hv, Bool.false_and] at bad
      refine if_t (if_t ?_)
      walk_at "rd"
      exact bad rfl
    | true =>
      rw [hv, Bool.true_and] at bad hN
      refine if_f ?_
      walk_at "rd"
      refine ⟨_, _, _, rfl, ?_⟩
      have ew : decide ((0 : Int) ≤ (i : Int) ∧ (i : Int) ≤ 1) = decide (i ≤ 1) := decide_eq_decide.mpr (by omega)
      rw [ew]
      refine ⟨_, rfl, ?_⟩
      cases hw : decide (i ≤ 1) with
      | false =>
        refine if_t ?_
        walk_at "rd"
        exact bad hw
      | true =>
        refine if_f ?_
        exact hN _ _ ⟨rfl, rfl, hw⟩
end

section
variable {P : Program} {w : World} {K : PySem.W.Frag} {mg : Str → Option Value} {base : Heap}
/-! ### a step of a run -/
def sp_run_step (K : PySem.W.Frag) : Sp := fun vs H Q _ => ∃ (L : Lo) (c : Client) (s : Nat), vs = [.ref L.cl, nV s] ∧ St K (tbs K) L c H ∧ Sz c ∧ Pol c.policy ∧ HM.Acc c ∧ c.attempts.length < 1000000 ∧ (∀ i, i < c.calls.length → (callAt c i).retries < 1000) ∧
  ∀ L' H', Nxt K (tbs K) L c H L' (Kp423.runStep c s) H' → Q .non H'
theorem sc_run_step : FnScope ["client", "status", "running", "timer"] ["client", "status"] (defScope s_run_step) := ⟨rfl, rfl, rfl, by decide +kernel, rfl, by decide +kernel, by decide +kernel⟩
theorem ok_run_step (X : Tx K mg) (TB : TabB base mg (He.cT K ("pick", none)).1 (He.cT K ("pick", none)).2) : GF P w K mg base 9 (He.ga K "run_step") ["client", "status"] (sp_run_step K) := by
  refine GF.of X.d_run_step sc_run_step (fun vs H Q E h => ?_) (fun _ _ _ _ _ _ us hl => match us, hl with | [_, _], _ => rfl) (fun cdv A outer s H vs Q E hr h => ?_)
  · obtain ⟨L, c, s, rfl, _⟩ := h; rfl
  obtain ⟨L, c, s, rfl, h⟩ := h
  refine ⟨_, PSs.nox (pss_cons (ps_set (i := 2) sc_run_step.nd rfl (Or.inl rfl) (pe_fn (ok_running_among X) X.g_running_among (hr.mono (by decide)) (pa_cons (pe_fld (pv 0) rfl) pa_nil))) (pss_cons (ps_if (pt_truth (pv 2) (by intro _; rfl)) (pss_cons (ps_expr (pe_fn (ok_end_attempt X TB) X.g_end_attempt (hr.mono (by decide)) (pa_cons (pv 0) (pa_cons (pe_ix ix_list (pv 2) pe_int (fun _ _ => rfl)) (pa_cons (pv 1) (pa_cons (pe_gi X.i_NO_PUSHBACK) pa_nil)))))) (pss_one ps_retN)) pss_nil) (pss_cons (ps_set (i := 3) sc_run_step.nd rfl (Or.inl rfl) (pe_fn (ok_earliest_timer X) X.g_earliest_timer (hr.mono (by decide)) (pa_cons (pv 0) pa_nil))) (pss_one (ps_if (pt_cmpR op_notN (pv 3) pe_non (nomark _)) (pss_one (ps_expr (pe_fn (ok_fire X TB) X.g_fire (hr.mono (by decide)) (pa_cons (pv 0) (pa_cons (pv 3) pa_nil))))) pss_nil))))), ?_⟩
  obtain ⟨S, hz, hp, ac, hza, hr1, h⟩ := h
  walk_at "rd"
  refine ⟨tbs K, L, c, L.la, List.range c.attempts.length, rfl, S, S.lsA, by rw [List.length_range]; exact hz.ats, fun j hj => List.mem_range.mp hj, fun D n1 => ?_⟩
  have er : (List.range c.attempts.length).filter (fun j => Kp423.isRunning (attemptAt c j)) = Kp423.runningAttempts c := rfl
  rw [er]
  have N1 := Nxt.behind (u := .lst ((Kp423.runningAttempts c).map fun j => .ref (L.att j))) (Nxt.refl S) n1
  have a1 : upd H D (.lst ((Kp423.runningAttempts c).map fun j => .ref (L.att j))) D = some (.lst ((Kp423.runningAttempts c).map fun j => .ref (L.att j))) := upd_same
  generalize upd H D (.lst ((Kp423.runningAttempts c).map fun j => .ref (L.att j))) = H1 at N1 a1 ⊢
  have S1 := N1.st
  walk_at "rd"
  refine i_seq ?_
  walk_at "rd"
  refine i_tru (SqL.of a1) ?_
  dsimp only
  unfold Kp423.runStep at h
  cases q : Kp423.runningAttempts c with
  | cons a r =>
    rw [q] at h a1
    have hm : a ∈ Kp423.runningAttempts c := by rw [q]; exact List.mem_cons_self ..
    have ha : a < c.attempts.length := List.mem_range.mp (List.mem_filter.mp hm).1
    have hr : Kp423.isRunning (attemptAt c a) = true := (List.mem_filter.mp hm).2
    refine if_t ?_
    walk_at "rd"
    refine i_ixL (k := 0) (SqL.of a1) (v := .ref (L.att a)) rfl ?_
    walk_at "rd"
    refine ⟨L, c, a, s, 0, rfl, S1, hz, hp, ac, hza, ha, hr, hr1 _ (ac.idx a ha).1, fun M2 H2 n2 => ?_⟩
    walk_at "rd"
    exact h M2 H2 (N1.trans n2)
  | nil =>
    rw [q] at h
    refine if_f ?_
    walk_at "rd"
    refine et_of rfl S1 hz fun v H2 x2 tv => ?_
    have N2 := N1.trans (Nxt.ext S1 x2)
    have S2 := N2.st
    walk_at "rd"
    rcases tv with ⟨hn, rfl⟩ | ⟨m, t, hm, rfl, ht⟩
    · rw [hn] at h
      refine if_f ?_
      exact h L H2 N2
    · rw [hm] at h
      refine if_t ?_
      obtain ⟨q1, q2, q3⟩ := next_mem hm
      walk_at "rd"
      refine ⟨L, c, t, m, rfl, S2, ht, hz, hp, ac, hza, q1, fun M3 H3 n3 => ?_⟩
      walk_at "rd"
      exact h M3 H3 (N2.trans n3)
end

section
variable {P : Program} {w : World} {K : PySem.W.Frag} {mg : Str → Option Value} {base : Heap}
/-! ### what holds between the calls -/
def CX (p : Kp423.Policy) (x : RemoteCall) : Prop := x.counted ≤ p.maxAttempts ∧ ((x.retryAt ≠ none ∨ x.hedgeAt ≠ none) → x.counted < p.maxAttempts) ∧ x.retries ≤ x.counted ∧ (x.status = none → x.retryAt = none → x.retries + 1 ≤ x.counted)
structure Inv (c : Client) : Prop where
  acc : HM.Acc c
  pol : Pol c.policy
  cx : ∀ i, i < c.calls.length → CX c.policy (callAt c i)
  tm : ∀ i, i < c.calls.length → (callAt c i).status = none → c.now ≤ (callAt c i).deadline
  run : ∀ a, a < c.attempts.length → Kp423.isRunning (attemptAt c a) = true → (callAt c (attemptAt c a).call).status = none ∧ (callAt c (attemptAt c a).call).retryAt = none
  st : ∀ a, a < c.attempts.length → (attemptAt c a).startedAt ≤ (callAt c (attemptAt c a).call).deadline
theorem Inv.few {c : Client} (h : Inv c) {i : Nat} (hi : i < c.calls.length) : (callAt c i).retries < 1000 := by
  obtain ⟨a, _, b, _⟩ := h.cx i hi
  have := h.pol.ma
  omega
theorem notrun_cancel {c : Client} {j a : Nat} (h : Kp423.isRunning (attemptAt c a) = false) : Kp423.isRunning (attemptAt (Kp423.cancelAttempt c j) a) = false := by
  rw [HM.cancel_is, HM.stopped_at]
  split
  · rfl
  · exact h
theorem notrun_cancels : ∀ (l : List Nat) (c : Client) (a : Nat), Kp423.isRunning (attemptAt c a) = false → Kp423.isRunning (attemptAt (l.foldl Kp423.cancelAttempt c) a) = false
  | [], _, _, h => h
  | j :: r, c, a, h => notrun_cancels r _ a (notrun_cancel h)
theorem cancels_in : ∀ (l : List Nat) (c : Client) (a : Nat), a ∈ l → a < c.attempts.length → Kp423.isRunning (attemptAt (l.foldl Kp423.cancelAttempt c) a) = false
  | j :: r, c, a, h, ha => by
    by_cases e : a = j
    · subst e
      refine notrun_cancels r _ a ?_
      rw [HM.cancel_is, HM.stopped_at, if_pos ⟨rfl, ha⟩]
      rfl
    · rcases List.mem_cons.mp h with h | h
      · exact absurd h e
      · exact cancels_in r (Kp423.cancelAttempt c j) a h (by rw [HM.cancel_is, (HM.stopped_len c j _).1]; exact ha)
theorem finish_run {c : Client} {i s a : Nat} (ha : a < c.attempts.length) (h : Kp423.isRunning (attemptAt (Kp423.finishCall c i s) a) = true) : Kp423.isRunning (attemptAt c a) = true ∧ (attemptAt c a).call ≠ i := by
  unfold Kp423.finishCall at h
  by_cases m : a ∈ Kp423.runningOf c i
  · rw [cancels_in _ _ a m (by exact ha)] at h; cases h
  · rw [HM.cancels_keep _ _ a m] at h
    have h : Kp423.isRunning (attemptAt c a) = true := h
    refine ⟨h, fun z => m ?_⟩
    unfold Kp423.runningOf Kp423.runningAttempts
    exact List.mem_filter.mpr ⟨List.mem_filter.mpr ⟨List.mem_range.mpr ha, h⟩, beq_iff_eq.mpr z⟩
theorem call_set {c d : Client} {i : Nat} {y : RemoteCall} (hd : d.calls = c.calls.set i y) (j : Nat) : callAt d j = if j = i ∧ i < c.calls.length then y else callAt c j := by
  have e : callAt d j = callAt (setCall c i y) j := by unfold callAt setCall; rw [hd]
  rw [e, HM.callAt_set]
theorem Inv.finish {c : Client} (h : Inv c) {i s : Nat} (hi : i < c.calls.length) : Inv (Kp423.finishCall c i s) := by
  obtain ⟨e1, e2, e3⟩ := finish_rest c i s
  have kp := Kept.finish c i s
  have la : (Kp423.finishCall c i s).attempts.length = c.attempts.length := (HM.finish_len c i s).1
  refine ⟨h.acc.finish i s, by rw [e2]; exact h.pol, fun j hj => ?_, fun j hj ho => ?_, fun a ha hr => ?_, fun a ha => ?_⟩
  · rw [kp.cls] at hj
    rw [e2, call_set e1]
    obtain ⟨x1, x2, x3, x4⟩ := h.cx j hj
    split
    · rename_i q
      rw [q.1] at x1 x3
      exact ⟨x1, (fun z => by rcases z with z | z <;> exact absurd rfl z), x3, fun z => by cases z⟩
    · exact ⟨x1, x2, x3, x4⟩
  · rw [kp.cls] at hj
    rw [call_set e1] at ho ⊢
    rw [e3]
    split at ho
    · cases ho
    · rename_i q
      rw [if_neg q]
      exact h.tm j hj ho
  · rw [la] at ha
    obtain ⟨r1, r2⟩ := finish_run ha hr
    rw [(kp.att a ha).1, call_set e1, if_neg fun q => r2 q.1]
    exact h.run a ha r1
  · rw [la] at ha
    rw [(kp.att a ha).1, (kp.att a ha).2, call_set e1]
    have z := h.st a ha
    split
    · rename_i q; rw [q.1] at z; exact z
    · exact z
end

section
variable {P : Program} {w : World} {K : PySem.W.Frag} {mg : Str → Option Value} {base : Heap}
theorem start_cases {c : Client} {i : Nat} {b : Bool} (hb : c.policy.balancer ≤ 3) : (Kp423.startAttempt c i b = Kp423.finishCall c i 14) ∨ ∃ k d, k < c.backends.length ∧ Kp423.startAttempt c i b = d ∧ d.policy = c.policy ∧ d.now = c.now ∧
    d.calls = c.calls.set i { callAt c i with counted := (callAt c i).counted + (if b then 1 else 0), retryAt := none, hedgeAt := hedgeT c { callAt c i with counted := (callAt c i).counted + (if b then 1 else 0) } } ∧
    d.attempts = c.attempts ++ [⟨i, k, (Kp423.triedBackends c i).length + 1, c.now, .running⟩] := by
  have e1 := choose_is c hb (callAt c i).key (Kp423.triedBackends c i)
  cases q : picked c (callAt c i).key (Kp423.candidates c (Kp423.triedBackends c i)) with
  | none =>
    rw [q] at e1
    exact .inl (start_none e1)
  | some k =>
    rw [q] at e1
    have e1 : Kp423.choose c (callAt c i).key (Kp423.triedBackends c i) = some (k, HM.moved c (Kp423.candidates c (Kp423.triedBackends c i)) k) := e1
    obtain ⟨f1, f2, f3, f4, f5, f6⟩ := moved_rest c (Kp423.candidates c (Kp423.triedBackends c i)) k
    have hk : k < c.backends.length := List.mem_range.mp ((cand_sub c _).subset (picked_mem q))
    have es := start_some (cnt := b) e1
    generalize HM.moved c (Kp423.candidates c (Kp423.triedBackends c i)) k = c1 at *
    refine .inr ⟨k, _, hk, es, f4, f3, ?_, ?_⟩
    · show c1.calls.set i _ = _
      rw [f2]
    · show c1.attempts ++ _ = _
      rw [f1]
theorem hedge_lt {c : Client} {x : RemoteCall} (h : hedgeT c x ≠ none) : x.counted < c.policy.maxAttempts := by
  unfold hedgeT at h
  split at h
  · rename_i q; exact q.2.2
  · exact absurd rfl h
theorem Inv.start {c : Client} (h : Inv c) {i : Nat} {b : Bool} (hi : i < c.calls.length) (ho : (callAt c i).status = none) (hb : if b = true then (callAt c i).counted < c.policy.maxAttempts else (callAt c i).retryAt = none) : Inv (Kp423.startAttempt c i b) := by
  have bal := h.pol.bal
  have ac := Acc_start (b := b) bal h.acc hi
  have kp := Kept.start (c := c) (i := i) (b := b) bal
  rcases start_cases (c := c) (i := i) (b := b) bal with e | ⟨k, d, hk, e, e2, e3, e1, e4⟩
  · rw [e]; exact h.finish hi
  rw [e] at ac kp ⊢
  have len : d.attempts.length = c.attempts.length + 1 := by rw [e4, List.length_append]; rfl
  have dl : ∀ j, (callAt d j).deadline = (callAt c j).deadline := fun j => by
    rw [call_set e1]; split
    · rename_i q; rw [q.1]
    · rfl
  refine ⟨ac, by rw [e2]; exact h.pol, fun j hj => ?_, fun j hj hs => ?_, fun a ha hr => ?_, fun a ha => ?_⟩
  · rw [kp.cls] at hj
    rw [e2, call_set e1]
    obtain ⟨x1, x2, x3, x4⟩ := h.cx j hj
    split
    · rename_i q
      rw [q.1] at x1 x2 x3 x4
      cases b with
      | true =>
        rw [if_pos rfl] at hb
        refine ⟨by show (callAt c i).counted + 1 ≤ _; omega, fun z => ?_, by show (callAt c i).retries ≤ (callAt c i).counted + 1; omega, fun _ _ => by show (callAt c i).retries + 1 ≤ (callAt c i).counted + 1; omega⟩
        rcases z with z | z
        · exact absurd rfl z
        · exact hedge_lt z
      | false =>
        rw [if_neg (by decide)] at hb
        refine ⟨x1, fun z => ?_, x3, fun _ _ => x4 ho hb⟩
        rcases z with z | z
        · exact absurd rfl z
        · exact hedge_lt z
    · exact ⟨x1, x2, x3, x4⟩
  · rw [kp.cls] at hj
    rw [e3, dl]
    refine h.tm j hj ?_
    rw [call_set e1] at hs
    split at hs
    · rename_i q; rw [q.1]; exact ho
    · exact hs
  · rw [len] at ha
    by_cases ea : a < c.attempts.length
    · have ex := (attempt_app e4 a).1 ea
      rw [ex] at hr ⊢
      obtain ⟨r1, r2⟩ := h.run a ea hr
      rw [call_set e1]
      split
      · exact ⟨ho, rfl⟩
      · exact ⟨r1, r2⟩
    · have ea : a = c.attempts.length := by omega
      rw [ea, (attempt_app e4 0).2, call_set e1, if_pos ⟨rfl, hi⟩]
      exact ⟨ho, rfl⟩
  · rw [len] at ha
    rw [dl]
    by_cases ea : a < c.attempts.length
    · rw [(attempt_app e4 a).1 ea]
      exact h.st a ea
    · have ea : a = c.attempts.length := by omega
      rw [ea, (attempt_app e4 0).2]
      exact h.tm i hi ho
end

section
variable {P : Program} {w : World} {K : PySem.W.Frag} {mg : Str → Option Value} {base : Heap}
theorem Inv.setc {c d : Client} (h : Inv c) {i : Nat} {y : RemoteCall} (e1 : d.calls = c.calls.set i y) (ea : d.attempts = c.attempts) (e2 : d.policy = c.policy) (e3 : d.now = c.now) (eb : d.backends.length = c.backends.length) (eo : ∀ j, (backendAt d j).outstanding = (backendAt c j).outstanding)
    (hx : i < c.calls.length → CX c.policy y) (hd : y.deadline = (callAt c i).deadline) (hs : y.status = none → (callAt c i).status = none)
    (hr : (y.status = none ∧ y.retryAt = none) ∨ Kp423.runningOf c i = []) : Inv d := by
  have len : d.calls.length = c.calls.length := by rw [e1, List.length_set]
  have at_ : ∀ a, attemptAt d a = attemptAt c a := fun a => by unfold attemptAt; rw [ea]
  have dl : ∀ j, (callAt d j).deadline = (callAt c j).deadline := fun j => by
    rw [call_set e1]; split
    · rename_i q; rw [q.1]; exact hd
    · rfl
  refine ⟨h.acc.same ea len eb eo, by rw [e2]; exact h.pol, fun j hj => ?_, fun j hj ho => ?_, fun a ha hra => ?_, fun a ha => ?_⟩
  · rw [len] at hj
    rw [e2, call_set e1]
    split
    · rename_i q; exact hx q.2
    · exact h.cx j hj
  · rw [len] at hj
    rw [e3, dl]
    refine h.tm j hj ?_
    rw [call_set e1] at ho
    split at ho
    · rename_i q; rw [q.1]; exact hs ho
    · exact ho
  · rw [ea] at ha
    rw [at_] at hra ⊢
    rw [call_set e1]
    split
    · rename_i q
      rcases hr with hr | hr
      · exact hr
      · have m : a ∈ Kp423.runningOf c i := by
          unfold Kp423.runningOf Kp423.runningAttempts
          exact List.mem_filter.mpr ⟨List.mem_filter.mpr ⟨List.mem_range.mpr ha, hra⟩, beq_iff_eq.mpr q.1⟩
        rw [hr] at m; cases m
    · exact h.run a ha hra
  · rw [ea] at ha
    rw [at_, dl]
    exact h.st a ha
theorem Inv.same {c d : Client} (h : Inv c) (e1 : d.calls = c.calls) (ea : d.attempts = c.attempts) (e2 : d.policy = c.policy) (e3 : d.now = c.now) (eb : d.backends.length = c.backends.length) (eo : ∀ j, (backendAt d j).outstanding = (backendAt c j).outstanding) : Inv d := by
  have cl : ∀ j, callAt d j = callAt c j := fun j => by unfold callAt; rw [e1]
  have at_ : ∀ a, attemptAt d a = attemptAt c a := fun a => by unfold attemptAt; rw [ea]
  refine ⟨h.acc.same ea (by rw [e1]) eb eo, by rw [e2]; exact h.pol, fun j hj => ?_, fun j hj ho => ?_, fun a ha hra => ?_, fun a ha => ?_⟩
  · rw [e2, cl]; exact h.cx j (by rw [← e1]; exact hj)
  · rw [e3, cl]; rw [cl] at ho; exact h.tm j (by rw [← e1]; exact hj) ho
  · rw [at_] at hra ⊢; rw [cl]; exact h.run a (by rw [← ea]; exact ha) hra
  · rw [at_, cl]; exact h.st a (by rw [← ea]; exact ha)
theorem Inv.handle {c : Client} (h : Inv c) {i s p : Nat} (hi : i < c.calls.length) (ho : (callAt c i).status = none) (hr : (callAt c i).retryAt = none) : Inv (Kp423.handleFailure c i s p) := by
  obtain ⟨x1, x2, x3, x4⟩ := h.cx i hi
  have x4 := x4 ho hr
  by_cases h1 : s = 100 ∧ (callAt c i).transparent = false ∧ c.now < (callAt c i).deadline
  · rw [hf1 c i s p h1]
    have hI : Inv { setCall c i { callAt c i with transparent := true } with transparentCount := c.transparentCount + 1 } := h.setc (i := i) (y := { callAt c i with transparent := true }) rfl rfl rfl rfl rfl (fun _ => rfl) (fun _ => ⟨x1, x2, x3, fun _ _ => x4⟩) rfl (fun z => z) (.inl ⟨ho, hr⟩)
    have ec : callAt { setCall c i { callAt c i with transparent := true } with transparentCount := c.transparentCount + 1 } i = { callAt c i with transparent := true } := HM.callAt_self hi
    refine hI.start (by show i < (setCall c i _).calls.length; rw [HM.setCall_len]; exact hi) (by rw [ec]; exact ho) ?_
    rw [if_neg (by decide), ec]; exact hr
  by_cases h2 : Kp423.isRetryable c i s = false
  · rw [hf2 c i s p h1 h2]; exact h.finish hi
  have kc : Inv (charge c) := h.same rfl rfl rfl rfl rfl fun _ => rfl
  by_cases h3 : Kp423.runningOf c i ≠ []
  · rw [hf3 c i s p h1 h2 h3]; exact kc
  by_cases h4 : p = 1 ∨ c.policy.maxAttempts ≤ (callAt c i).counted ∨ Kp423.budgetAllows (charge c) = false
  · rw [hf4 c i s p h1 h2 h3 h4]; exact kc.finish hi
  rw [hf5 c i s p h1 h2 h3 h4, later_is]
  generalize Kp423.retryDelay (charge c) i p = r
  have ks : Inv { charge c with seed := r.2 } := h.same rfl rfl rfl rfl rfl fun _ => rfl
  have hlt : (callAt c i).counted < c.policy.maxAttempts := by
    by_cases q : c.policy.maxAttempts ≤ (callAt c i).counted
    · exact absurd (.inr (.inl q)) h4
    · omega
  split
  · exact ks.finish hi
  · refine h.setc (i := i) (y := { callAt c i with retries := (callAt c i).retries + 1, retryAt := some (c.now + r.1), hedgeAt := none }) rfl rfl rfl rfl rfl (fun _ => rfl) (fun _ => ⟨x1, fun _ => hlt, x4, fun _ z => by cases z⟩) rfl (fun z => z) (.inr ?_)
    exact Classical.byContradiction h3
theorem Inv.stopped {c : Client} (h : Inv c) {j : Nat} {st : AttemptState} (hj : j < c.attempts.length) (hr : Kp423.isRunning (attemptAt c j) = true) (hs : (st == .running) = false) : Inv (HM.stopped c j st) := by
  obtain ⟨l1, l2, l3⟩ := HM.stopped_len c j st
  have kp := Kept.stopped c j st
  have cl : ∀ i, callAt (HM.stopped c j st) i = callAt c i := fun i => by unfold callAt; rw [l2]
  refine ⟨h.acc.stop hj hr hs, h.pol, fun i hi => ?_, fun i hi ho => ?_, fun a ha hra => ?_, fun a ha => ?_⟩
  · rw [cl]; exact h.cx i (by rw [← l2]; exact hi)
  · rw [cl] at ho ⊢; exact h.tm i (by rw [← l2]; exact hi) ho
  · rw [l1] at ha
    rw [(kp.att a ha).1, cl]
    refine h.run a ha ?_
    rw [HM.stopped_at] at hra
    split at hra
    · have : Kp423.isRunning { attemptAt c j with state := st } = false := hs
      rw [this] at hra; cases hra
    · exact hra
  · rw [l1] at ha
    rw [(kp.att a ha).1, (kp.att a ha).2, cl]
    exact h.st a ha
theorem Inv.complete {c : Client} (h : Inv c) {j s p : Nat} (hj : j < c.attempts.length) (hr : Kp423.isRunning (attemptAt c j) = true) : Inv (Kp423.completeAttempt c j s p) := by
  rw [complete_is]
  obtain ⟨l1, l2, l3⟩ := HM.stopped_len c j (.finished s)
  have hI := h.stopped (st := .finished s) hj hr rfl
  obtain ⟨o1, o2⟩ := h.run j hj hr
  have hi := (h.acc.idx j hj).1
  split
  · refine Inv.finish ?_ (by show _ < (HM.stopped c j (.finished s)).calls.length; rw [l2]; exact hi)
    refine hI.same rfl rfl rfl rfl HM.setBackend_len fun k => ?_
    show (backendAt (setBackend _ _ _) k).outstanding = _
    rw [HM.backendAt_set]
    split
    · rename_i q; rw [q.1]
    · rfl
  · obtain ⟨q1, q2, q3, q4, q5, q6⟩ := noted (p := s = 2 ∨ s = 14) (i := (attemptAt c j).backend) hI.acc
    have hN : Inv (if s = 2 ∨ s = 14 then Kp423.noteFailure (HM.stopped c j (.finished s)) (attemptAt c j).backend else HM.stopped c j (.finished s)) := by
      split
      · obtain ⟨b, e, o, _⟩ := note_is (HM.stopped c j (.finished s)) (attemptAt c j).backend
        rw [e]
        refine hI.same rfl rfl rfl rfl HM.setBackend_len fun k => ?_
        rw [HM.backendAt_set]
        split
        · rename_i q; rw [q.1]; exact o
        · rfl
      · exact hI
    generalize (if s = 2 ∨ s = 14 then Kp423.noteFailure (HM.stopped c j (.finished s)) (attemptAt c j).backend else HM.stopped c j (.finished s)) = d at *
    have cl : callAt d (attemptAt c j).call = callAt c (attemptAt c j).call := by unfold callAt; rw [q3, l2]
    exact hN.handle (by rw [q3, l2]; exact hi) (by rw [cl]; exact o1) (by rw [cl]; exact o2)
end

section
variable {P : Program} {w : World} {K : PySem.W.Frag} {mg : Str → Option Value} {base : Heap}
theorem before_trans (a b c : Kp423.Timer) (h : Kp423.before b a = false) (g : Kp423.before c b = false) : Kp423.before c a = false := by
  rw [← HM.before_is] at *
  unfold HM.tv at *
  rw [HM.lex3, decide_eq_false_iff_not] at *
  omega
/-- no timer is ahead of the next one -/
theorem fl_least {α : Type} (lt : α → α → Bool) (irr : ∀ a, lt a a = false) (tr : ∀ a b c, lt b a = false → lt c b = false → lt c a = false) (asy : ∀ a b, lt a b = true → lt b a = false) : ∀ (n : Nat) (l : List α), l.length = n → ∀ x, HM.fl lt l = some x → ∀ y ∈ l, lt y x = false := by
  intro n
  induction n with
  | zero =>
    intro l hl x h
    rw [List.length_eq_zero_iff.mp hl] at h
    cases h
  | succ n ih =>
    intro l hl x h y hy
    obtain ⟨r, z, rfl⟩ : ∃ r z, l = r ++ [z] := by
      rcases List.eq_nil_or_concat l with e | ⟨r, z, e⟩
      · rw [e] at hl; cases hl
      · exact ⟨r, z, by rw [e]; simp⟩
    have hr : r.length = n := by simp at hl; exact hl
    rw [HM.fl_snoc] at h
    cases q : HM.fl lt r with
    | none =>
      rw [q] at h
      cases h
      have e := (HM.fl_mem lt n r hr).2 q
      rw [e] at hy
      rw [List.mem_singleton.mp hy]
      exact irr _
    | some b =>
      rw [q] at h
      dsimp only at h
      have ib := ih r hr b q
      by_cases c : lt z b = true
      · rw [if_pos c] at h
        cases h
        rcases List.mem_append.mp hy with hy | hy
        · exact tr _ _ _ (asy _ _ c) (ib y hy)
        · rw [List.mem_singleton.mp hy]; exact irr _
      · rw [if_neg c] at h
        cases h
        rcases List.mem_append.mp hy with hy | hy
        · exact ib y hy
        · rw [List.mem_singleton.mp hy]
          exact Bool.eq_false_iff.mpr c
theorem next_least {c : Client} {m : Kp423.Timer} (h : Kp423.nextTimer c = some m) {i : Nat} (hi : i < c.calls.length) (ho : (callAt c i).status = none) : m.time ≤ (callAt c i).deadline := by
  rw [HM.next_is] at h
  have z := fl_least Kp423.before (fun a => by rw [← HM.before_is]; unfold HM.tv; rw [HM.lex3, decide_eq_false_iff_not]; omega) before_trans (fun a b q => by
    rw [← HM.before_is] at *
    unfold HM.tv at *
    rw [HM.lex3] at *
    rw [decide_eq_true_iff] at q
    rw [decide_eq_false_iff_not]
    omega) _ _ rfl m h ⟨(callAt c i).deadline, 0, i⟩ (List.mem_flatMap.mpr ⟨i, List.mem_range.mpr hi, by rw [timers_is, ho]; exact List.mem_cons_self ..⟩)
  rw [← HM.before_is] at z
  unfold HM.tv at z
  rw [HM.lex3, decide_eq_false_iff_not] at z
  have z3 : ¬ (((callAt c i).deadline : Int) < (m.time : Int)) := fun q => z (.inl q)
  omega
theorem Inv.fire {c : Client} (h : Inv c) {m : Kp423.Timer} (hm : Kp423.nextTimer c = some m) : Inv (Kp423.fire { c with now := max c.now m.time } m) := by
  obtain ⟨q1, q2, q3⟩ := next_mem hm
  have h1 : Inv { c with now := max c.now m.time } := ⟨h.acc.same rfl rfl rfl fun _ => rfl, h.pol, h.cx, fun i hi ho => by
    have a := h.tm i hi ho
    have b := next_least hm hi ho
    show max c.now m.time ≤ (callAt c i).deadline
    omega, h.run, h.st⟩
  have q1' : m.call < ({ c with now := max c.now m.time } : Client).calls.length := q1
  have q2' : (callAt { c with now := max c.now m.time } m.call).status = none := q2
  obtain ⟨x1, x2, x3, x4⟩ := h1.cx m.call q1'
  rcases q3 with ⟨hk, _⟩ | ⟨hk, hr⟩ | ⟨hk, hr⟩
  · have ef : Kp423.fire { c with now := max c.now m.time } m = Kp423.finishCall { c with now := max c.now m.time } m.call 4 := by unfold Kp423.fire; rw [hk]; rfl
    rw [ef]; exact h1.finish q1'
  · have ef : Kp423.fire { c with now := max c.now m.time } m = Kp423.startAttempt { c with now := max c.now m.time } m.call true := by unfold Kp423.fire; rw [hk]; rfl
    rw [ef]
    refine h1.start q1' q2' ?_
    rw [if_pos rfl]
    exact x2 (.inl (by show (callAt c m.call).retryAt ≠ none; rw [hr]; exact fun z => by cases z))
  · have lt := x2 (.inr (by show (callAt c m.call).hedgeAt ≠ none; rw [hr]; exact fun z => by cases z))
    generalize ({ c with now := max c.now m.time } : Client) = d at *
    have ef : Kp423.fire d m = if Kp423.budgetAllows d = true then { Kp423.startAttempt d m.call true with hedgeCount := d.hedgeCount + 1 } else setCall d m.call { callAt d m.call with hedgeAt := none } := by unfold Kp423.fire; rw [hk]; rfl
    rw [ef]
    split
    · exact (h1.start (b := true) q1' q2' (by rw [if_pos rfl]; exact lt)).same rfl rfl rfl rfl rfl fun _ => rfl
    · refine h1.setc (i := m.call) (y := { callAt d m.call with hedgeAt := none }) rfl rfl rfl rfl rfl (fun _ => rfl) (fun _ => ⟨x1, (fun _ => lt), x3, fun z w => x4 z w⟩) rfl (fun z => z) ?_
      by_cases hra : (callAt d m.call).retryAt = none
      · exact .inl ⟨q2', hra⟩
      · refine .inr ?_
        unfold Kp423.runningOf
        refine List.filter_eq_nil_iff.mpr fun a ha z => hra ?_
        obtain ⟨r1, r2⟩ := List.mem_filter.mp ha
        have w := (h1.run a (List.mem_range.mp r1) r2).2
        rw [beq_iff_eq.mp z] at w
        exact w
end

section
variable {P : Program} {w : World} {K : PySem.W.Frag} {mg : Str → Option Value} {base : Heap}
theorem next_none {c : Client} (h : Kp423.nextTimer c = none) {i : Nat} (hi : i < c.calls.length) : (callAt c i).status ≠ none := fun ho => by
  rw [HM.next_is] at h
  have z := (HM.fl_mem _ _ _ rfl).2 h
  have m : (⟨(callAt c i).deadline, 0, i⟩ : Kp423.Timer) ∈ HM.tms c := List.mem_flatMap.mpr ⟨i, List.mem_range.mpr hi, by rw [timers_is, ho]; exact List.mem_cons_self ..⟩
  rw [z] at m
  cases m
theorem Inv.setNow {c : Client} (h : Inv c) {e : Nat} (he : ∀ i, i < c.calls.length → (callAt c i).status = none → e ≤ (callAt c i).deadline) : Inv { c with now := e } :=
  ⟨h.acc.same rfl rfl rfl fun _ => rfl, h.pol, h.cx, he, h.run, h.st⟩
theorem Inv.until {e : Nat} : ∀ (fuel : Nat) (c : Client) (k : Nat), Inv c → Mu c < fuel → Inv (Kp423.fireUntil e fuel c k).1 ∧ (Kp423.fireUntil e fuel c k).1.backends.length = c.backends.length ∧ (Kp423.fireUntil e fuel c k).1.calls.length = c.calls.length ∧ (Kp423.fireUntil e fuel c k).1.attempts.length ≤ c.attempts.length + Mu c
  | 0, c, k, _, h => absurd h (by omega)
  | fuel + 1, c, k, h, hf => by
    rw [fireU hf]
    cases hm : Kp423.nextTimer c with
    | none => exact ⟨h.setNow fun i hi ho => absurd ho (next_none hm hi), rfl, rfl, Nat.le_add_right _ _⟩
    | some m =>
      dsimp only
      by_cases ht : m.time ≤ e
      · rw [if_pos ht]
        obtain ⟨q1, q2, q3⟩ := next_mem hm
        have fr := fire_rest (c := { c with now := max c.now m.time }) (m := m) h.pol.bal (h.acc.same rfl rfl rfl fun _ => rfl) q1 q2 (by
          rcases q3 with q | q | q
          · exact .inl q.1
          · exact .inr (.inl ⟨q.1, by show (callAt c m.call).retryAt ≠ none; rw [q.2]; exact fun z => by cases z⟩)
          · exact .inr (.inr ⟨q.1, by show (callAt c m.call).hedgeAt ≠ none; rw [q.2]; exact fun z => by cases z⟩))
        obtain ⟨r1, r2, r3, r4, r5, r6, r7⟩ := fr
        have r6 : Mu (Kp423.fire { c with now := max c.now m.time } m) < Mu c := r6
        have r5 : (Kp423.fire { c with now := max c.now m.time } m).attempts.length ≤ c.attempts.length + 1 := r5
        obtain ⟨i1, i2, i3, i4⟩ := Inv.until fuel (Kp423.fire { c with now := max c.now m.time } m) (k + 1) (h.fire hm) (by omega)
        exact ⟨i1, i2.trans r3, i3.trans r4, by show (Kp423.fireUntil e fuel _ _).1.attempts.length ≤ _; omega⟩
      · rw [if_neg ht]
        exact ⟨h.setNow fun i hi ho => by have := next_least hm hi ho; omega, rfl, rfl, Nat.le_add_right _ _⟩
/-- a step of a run keeps it -/
theorem Inv.step {c : Client} (h : Inv c) (s : Nat) : Inv (Kp423.runStep c s) := by
  unfold Kp423.runStep
  cases q : Kp423.runningAttempts c with
  | cons a r =>
    have hm : a ∈ Kp423.runningAttempts c := by rw [q]; exact List.mem_cons_self ..
    exact h.complete (List.mem_range.mp (List.mem_filter.mp hm).1) (List.mem_filter.mp hm).2
  | nil =>
    dsimp only
    cases hm : Kp423.nextTimer c with
    | none => exact h
    | some m => exact h.fire hm
end

section
variable {P : Program} {w : World} {K : PySem.W.Frag} {mg : Str → Option Value} {base : Heap}
/-- how many attempts join -/
theorem handle_grow {c : Client} {i s p : Nat} (hb : c.policy.balancer ≤ 3) : (Kp423.handleFailure c i s p).attempts.length ≤ c.attempts.length + (if s = 100 then 1 else 0) := by
  by_cases h1 : s = 100 ∧ (callAt c i).transparent = false ∧ c.now < (callAt c i).deadline
  · rw [hf1 c i s p h1, if_pos h1.1]
    exact (start_rest (c := { setCall c i { callAt c i with transparent := true } with transparentCount := c.transparentCount + 1 }) (i := i) (b := false) hb).2.2.2.1
  refine Nat.le_trans ?_ (Nat.le_add_right _ _)
  by_cases h2 : Kp423.isRetryable c i s = false
  · rw [hf2 c i s p h1 h2]; exact Nat.le_of_eq (HM.finish_len c i s).1
  by_cases h3 : Kp423.runningOf c i ≠ []
  · rw [hf3 c i s p h1 h2 h3]; exact Nat.le_refl _
  by_cases h4 : p = 1 ∨ c.policy.maxAttempts ≤ (callAt c i).counted ∨ Kp423.budgetAllows (charge c) = false
  · rw [hf4 c i s p h1 h2 h3 h4]; exact Nat.le_of_eq (HM.finish_len (charge c) i s).1
  rw [hf5 c i s p h1 h2 h3 h4, later_is]
  generalize Kp423.retryDelay (charge c) i p = r
  split
  · exact Nat.le_of_eq (HM.finish_len { charge c with seed := r.2 } i s).1
  · exact Nat.le_refl _
theorem complete_grow {c : Client} {j s p : Nat} (hb : c.policy.balancer ≤ 3) (ac : HM.Acc (HM.stopped c j (.finished s))) : (Kp423.completeAttempt c j s p).attempts.length ≤ c.attempts.length + (if s = 100 then 1 else 0) := by
  rw [complete_is]
  obtain ⟨l1, l2, l3⟩ := HM.stopped_len c j (.finished s)
  split
  · refine Nat.le_trans (Nat.le_of_eq (HM.finish_len _ _ _).1) ?_
    show (HM.stopped c j (.finished s)).attempts.length ≤ _
    rw [l1]
    exact Nat.le_add_right _ _
  · obtain ⟨q1, q2, q3, q4, q5, q6⟩ := noted (p := s = 2 ∨ s = 14) (i := (attemptAt c j).backend) ac
    generalize (if s = 2 ∨ s = 14 then Kp423.noteFailure (HM.stopped c j (.finished s)) (attemptAt c j).backend else HM.stopped c j (.finished s)) = d at *
    have z := handle_grow (c := d) (i := (attemptAt c j).call) (s := s) (p := p) (by rw [q4]; exact hb)
    rw [q2, l1] at z
    exact z
theorem step_rest {c : Client} (h : Inv c) (s : Nat) : (Kp423.runStep c s).backends.length = c.backends.length ∧ (Kp423.runStep c s).calls.length = c.calls.length ∧ (Kp423.runStep c s).attempts.length ≤ c.attempts.length + 1 := by
  unfold Kp423.runStep
  cases q : Kp423.runningAttempts c with
  | cons a r =>
    have hm : a ∈ Kp423.runningAttempts c := by rw [q]; exact List.mem_cons_self ..
    have ha := List.mem_range.mp (List.mem_filter.mp hm).1
    have hr := (List.mem_filter.mp hm).2
    have kp := Kept.complete (c := c) (j := a) (s := s) (p := 0) h.pol.bal
    have g := complete_grow (c := c) (j := a) (s := s) (p := 0) h.pol.bal (h.acc.stop ha hr rfl)
    refine ⟨kp.bks, kp.cls, Nat.le_trans g ?_⟩
    split <;> omega
  | nil =>
    dsimp only
    cases hm : Kp423.nextTimer c with
    | none => exact ⟨rfl, rfl, Nat.le_succ _⟩
    | some m =>
      obtain ⟨q1, q2, q3⟩ := next_mem hm
      have fr := fire_rest (c := { c with now := max c.now m.time }) (m := m) h.pol.bal (h.acc.same rfl rfl rfl fun _ => rfl) q1 q2 (by
        rcases q3 with q | q | q
        · exact .inl q.1
        · exact .inr (.inl ⟨q.1, by show (callAt c m.call).retryAt ≠ none; rw [q.2]; exact fun z => by cases z⟩)
        · exact .inr (.inr ⟨q.1, by show (callAt c m.call).hedgeAt ≠ none; rw [q.2]; exact fun z => by cases z⟩))
      obtain ⟨r1, r2, r3, r4, r5, r6, r7⟩ := fr
      exact ⟨r3, r4, r5⟩
end

section
variable {P : Program} {w : World} {K : PySem.W.Frag} {mg : Str → Option Value} {base : Heap}
/-! ### run -/
abbrev sp_is_status : Sp := spIsStatus
def sp_run (K : PySem.W.Frag) : Sp := fun vs H Q _ => ∃ (L : Lo) (c : Client) (l : Addr) (ss : List Nat), vs = [.ref L.cl, .ref l] ∧ St K (tbs K) L c H ∧ Off L c l ∧ H l = some (.lst (ss.map nV)) ∧ ss.length ≤ 1000 ∧ c.backends.length ≤ 8 ∧ c.calls.length ≤ 60 ∧ Inv c ∧ c.attempts.length + 1000 < 1000000 ∧ Done K L c H (Kp423.step (some c) (.run ss)) Q
theorem steps_rest : ∀ (ss : List Nat) (c : Client), Inv c → Inv (ss.foldl Kp423.runStep c) ∧ (ss.foldl Kp423.runStep c).backends.length = c.backends.length ∧ (ss.foldl Kp423.runStep c).calls.length = c.calls.length ∧ (ss.foldl Kp423.runStep c).attempts.length ≤ c.attempts.length + ss.length
  | [], c, h => ⟨h, rfl, rfl, Nat.le_refl _⟩
  | s :: r, c, h => by
    obtain ⟨a1, a2, a3⟩ := step_rest h s
    obtain ⟨b1, b2, b3, b4⟩ := steps_rest r (Kp423.runStep c s) (h.step s)
    exact ⟨b1, b2.trans a1, b3.trans a2, by show (r.foldl Kp423.runStep _).attempts.length ≤ _; rw [List.length_cons]; omega⟩
theorem sc_run : FnScope ["client", "statuses", "status"] ["client", "statuses"] (defScope s_run) := ⟨rfl, rfl, rfl, by decide +kernel, rfl, by decide +kernel, by decide +kernel⟩
theorem ok_run (X : Tx K mg) (TB : TabB base mg (He.cT K ("pick", none)).1 (He.cT K ("pick", none)).2) : GF P w K mg base 10 (He.ga K "run") ["client", "statuses"] (sp_run K) := by
  refine GF.of X.d_run sc_run (fun vs H Q E h => ?_) (fun _ _ _ _ _ _ us hl => match us, hl with | [_, _], _ => rfl) (fun cdv A outer s H vs Q E hr h => ?_)
  · obtain ⟨L, c, l, ss, rfl, _⟩ := h; rfl
  obtain ⟨L, c, l, ss, rfl, h⟩ := h
  refine ⟨_, PSs.nox (pss_cons (ps_if (PW.pt (pw_or (pt_cmpR op_gt (pe_callB call_len_seq (by rfl) X.b_len PySem.boot_len (pa_cons (pv 1) pa_nil)) (pe_gi X.i_MOST_STATUSES) (nomark _)) (pw_or1 (pt_not (pt_val (pe_callB (cr_all rfl) (by rfl) X.b_all (by decide +kernel) (pa_cons (pe_lc (own := [("status", 2)]) (g := gName 2) (tt := tYes) (te := (tCall sp_is_status [] L2.E0 (tCons (tVar 2) tNil))) (by rfl) sc_run.nd (pi_list (pv 1)) (blkOk_by (own := [("status", 2)]) (N := ["client", "statuses", "status"]) (sc := defScope s_run) (by decide +kernel)) (fun _ _ _ _ _ => pg_name (i := 2) sc_run.nd rfl (Or.inl rfl)) (fun _ _ _ _ _ => pts_nil) (fun _ _ _ _ _ => (pe_fn (ok_is_status X) X.g_is_status (hr.mono (by decide)) (pa_cons (pv 2) pa_nil)))) pa_nil))))))) (pss_one (ps_ret (pe_fn0 (ok_outside_limits X) X.g_outside_limits (hr.mono (by decide))))) pss_nil) (pss_cons (ps_for PassesOwn.never rfl (pi_list (pv 1)) (pg_name (i := 2) sc_run.nd rfl (Or.inl rfl)) (pss_one (ps_expr (pe_fn (ok_run_step X TB) X.g_run_step (hr.mono (by decide)) (pa_cons (pv 0) (pa_cons (pv 2) pa_nil)))))) (pss_one (ps_ret (pe_lst (pa_cons (pe_callB call_len_seq (by rfl) X.b_len PySem.boot_len (pa_cons (pe_fn (ok_running_among X) X.g_running_among (hr.mono (by decide)) (pa_cons (pe_fld (pv 0) rfl) pa_nil)) pa_nil)) (pa_cons (pe_fld (pv 0) rfl) pa_nil))))))), ?_⟩
  obtain ⟨S, ol, el, hs, hb, hcs, hI, hza, h⟩ := h
  have es : Kp423.step (some c) (.run ss) = if (decide (ss.length ≤ 40) && ss.all Kp423.validStatus) = false then (some c, Kp423.single (-22)) else (some (ss.foldl Kp423.runStep c), Kp423.natResult (Kp423.runningAttempts (ss.foldl Kp423.runStep c)).length [(ss.foldl Kp423.runStep c).now]) := rfl
  refine i_seqJ (fun σ' H' => σ' = [some (.ref L.cl), some (.ref l), none] ∧ MM.Ext H H' ∧ (decide (ss.length ≤ 40) && ss.all Kp423.validStatus) = true) ?_ fun N hN => ?_
  · rintro σ' H' ⟨rfl, x1, hv⟩
    rw [hv, if_neg (by decide)] at es
    have N1 := Nxt.ext S x1
    have el1 := x1 _ _ el
    have S1 := N1.st
    refine i_seq ?_
    walk_at "rd"
    refine ForR.of (xs := ss.map nV) (SqL.of el1) (fun k σ' H2 => (∃ x, σ' = [some (.ref L.cl), some (.ref l), x]) ∧ ∃ L2, Nxt K (tbs K) L c H L2 ((ss.take k).foldl Kp423.runStep c) H2) ⟨⟨none, rfl⟩, L, N1⟩ ?_ ?_ ?_
    · rintro k σ' H2 _ ⟨_, L2, n⟩
      exact SqL.of (n.keep _ _ el ol fun ps z => by cases z)
    · rintro k x σ' H2 hx ⟨⟨x0, rfl⟩, M2, n⟩
      obtain ⟨s, hsk, rfl⟩ : ∃ s, ss[k]? = some s ∧ x = nV s := by
        rw [List.getElem?_map] at hx
        cases q : ss[k]? with
        | none => rw [q] at hx; cases hx
        | some s => rw [q] at hx; exact ⟨s, rfl, (Option.some.inj hx).symm⟩
      have ht : ss.take (k + 1) = ss.take k ++ [s] := by rw [List.take_add_one, hsk]; rfl
      obtain ⟨i1, i2, i3, i4⟩ := steps_rest (ss.take k) c hI
      have lt := List.length_take_le k ss
      have lk : (ss.take k).length ≤ ss.length := by rw [List.length_take]; omega
      have ecl : M2.cl = L.cl := (n.adr .cl _ rfl).1
      rw [ht, List.foldl_append]
      generalize (ss.take k).foldl Kp423.runStep c = ck at *
      walk_at "rd"
      refine ⟨M2, ck, s, by rw [ecl]; rfl, n.st, ⟨by omega, by omega, by omega⟩, i1.pol, i1.acc, by omega, fun i hi => i1.few hi, fun M3 H3 n3 => ?_⟩
      walk_at "rd"
      exact ⟨⟨_, rfl⟩, M3, n.trans n3⟩
    · rintro σ' H2 ⟨⟨x0, rfl⟩, M2, n⟩
      rw [List.length_map, List.take_length] at n
      obtain ⟨i1, i2, i3, i4⟩ := steps_rest ss c hI
      have ecl : M2.cl = L.cl := (n.adr .cl _ rfl).1
      generalize ss.foldl Kp423.runStep c = ck at *
      have S2 := n.st
      rw [← ecl]
      walk_at "rd"
      refine i_lstG ?_
      walk_at "rd"
      refine ⟨tbs K, M2, ck, M2.la, List.range ck.attempts.length, rfl, S2, S2.lsA, by rw [List.length_range]; omega, fun j hj => List.mem_range.mp hj, fun D n1 => ?_⟩
      have er : (List.range ck.attempts.length).filter (fun j => Kp423.isRunning (attemptAt ck j)) = Kp423.runningAttempts ck := rfl
      rw [er]
      have N3 := Nxt.behind (u := .lst ((Kp423.runningAttempts ck).map fun j => .ref (M2.att j))) n n1
      have a3 : upd H2 D (.lst ((Kp423.runningAttempts ck).map fun j => .ref (M2.att j))) D = some (.lst ((Kp423.runningAttempts ck).map fun j => .ref (M2.att j))) := upd_same
      generalize upd H2 D (.lst ((Kp423.runningAttempts ck).map fun j => .ref (M2.att j))) = H3 at N3 a3 ⊢
      have S3 := N3.st
      refine i_nil ?_
      refine ⟨_, _, rfl, .inl (SqL.of a3), ?_⟩
      rw [List.length_map]
      walk_at "rd"
      exact ⟨by show 2 ≤ sizeLine; decide, fun D nD => h.ans es N3 nD rfl⟩
  · have bad : ∀ H', MM.Ext H H' → (decide (ss.length ≤ 40) && ss.all Kp423.validStatus) = false → sp_outside_limits [] H' Q L2.E0 := fun H' x1 hv => by
      rw [hv, if_pos rfl] at es
      exact ⟨rfl, fun D nD => h.ans es (Nxt.ext S x1) nD rfl⟩
    walk_at "rd"
    refine ⟨_, _, rfl, .inl (SqL.of el), ?_⟩
    rw [List.length_map]
    walk_at "rd"
    refine ite_dec (fun h1 => ?_) fun h1 => ?_
    · refine if_t ?_
      walk_at "rd"
      exact bad H (MM.Ext.refl H) (by rw [decide_eq_false (by omega)]; rfl)
    · have e40 : decide (ss.length ≤ 40) = true := decide_eq_true (by omega)
      rw [e40, Bool.true_and] at hN bad
      walk_at "rd"
      refine lc_part (js := ss) (A := nV) (y := fun s => .bl (Kp423.validStatus s)) (p := fun _ => true) (SqL.of el) (small_size (by omega)) (fun v => rfl) (fun j hj D ys Q' hD q => q) (fun j hj _ D ys Q' hD q => ?_) fun D nD => ?_
      · walk_at "rd"
        refine ⟨_, rfl, ?_⟩
        rw [status_is]
        exact q
      · have x1 := ext_new (u := .lst ((ss.filter fun _ => true).map fun s => .bl (Kp423.validStatus s))) nD
        have a1 : upd H D (.lst ((ss.filter fun _ => true).map fun s => .bl (Kp423.validStatus s))) D = some (.lst ((ss.map Kp423.validStatus).map V.bl)) := by
          rw [upd_same, List.filter_eq_self.mpr (fun _ _ => rfl), List.map_map]; rfl
        generalize upd H D (.lst ((ss.filter fun _ => true).map fun s => .bl (Kp423.validStatus s))) = H1 at x1 a1 ⊢
        walk_at "rd"
        refine ⟨D, ss.map Kp423.validStatus, rfl, SqL.of a1, ?_⟩
        refine ⟨_, rfl, ?_⟩
        have ea : (ss.map Kp423.validStatus).all id = ss.all Kp423.validStatus := by rw [List.all_map]; rfl
        rw [ea]
        cases hv : ss.all Kp423.validStatus with
        | false =>
          refine if_t ?_
          walk_at "rd"
          exact bad H1 x1 hv
        | true =>
          refine if_f ?_
          exact hN _ _ ⟨rfl, x1, hv⟩
end

section
variable {P : Program} {w : World} {K : PySem.W.Frag} {mg : Str → Option Value} {base : Heap}
/-! ### stage 2: what is told -/
/-- a telling def, as an operation -/
theorem Told.done {K : PySem.W.Frag} {L : Lo} {c : Client} {H : Hp} {a : Kp423.Ans} {Q : VK} {r : Kp423.State × Kp423.Ans} (S : St K (tbs K) L c H) (e : r = (some c, a)) (h : Done K L c H r Q) : Told H a Q := fun D H' x n q => by
  subst e
  exact h L c D H' rfl (Nxt.ext S x) (fun xs z => by rw [n] at z; cases z) q
theorem i_bl {b : Bool} {A : Bool → Prop} (h : A b) : ∃ k, V.bl b = .bl k ∧ A k := ⟨b, rfl, h⟩
def sp_numbers_told (K : PySem.W.Frag) : Sp := fun vs H Q _ => ∃ (T : List (Addr × Str)) (L : Lo) (c : Client) (l : Addr) (ns : List Nat) (A : Nat → Addr), vs = [.ref l] ∧ St K T L c H ∧ SqL K H l (ns.map fun i => .ref (A i)) ∧ ns.length ≤ 1000000 ∧
  ((∀ i ∈ ns, i < c.backends.length ∧ A i = L.bk i) ∨ (∀ i ∈ ns, i < c.attempts.length ∧ A i = L.att i)) ∧ Told H (Kp423.listResult ns) Q
theorem sc_numbers_told : FnScope ["numbered", "one"] ["numbered"] (defScope s_numbers_told) := ⟨rfl, rfl, rfl, by decide +kernel, rfl, by decide +kernel, by decide +kernel⟩
theorem ok_numbers_told (X : Tx K mg) : GF P w K mg base 1 (He.ga K "numbers_told") ["numbered"] (sp_numbers_told K) := by
  refine GF.of X.d_numbers_told sc_numbers_told (fun vs H Q E h => ?_) (fun _ _ _ _ _ _ us hl => match us, hl with | [_], _ => rfl) (fun cdv A outer s H vs Q E hr h => ?_)
  · obtain ⟨T, L, c, l, ns, A, rfl, _⟩ := h; rfl
  obtain ⟨T, L, c, l, ns, A, rfl, h⟩ := h
  refine ⟨_, PSs.nox (pss_one (ps_ret (pe_op op_cat (pe_lst (pa_cons (pe_callB call_len_seq (by rfl) X.b_len PySem.boot_len (pa_cons (pv 0) pa_nil)) pa_nil)) (pe_lc (own := [("one", 1)]) (g := gName 1) (tt := tYes) (te := (tFld K (tVar 1) "number")) (by rfl) sc_numbers_told.nd (pi_list (pv 0)) (blkOk_by (own := [("one", 1)]) (N := ["numbered", "one"]) (sc := defScope s_numbers_told) (by decide +kernel)) (fun _ _ _ _ _ => pg_name (i := 1) sc_numbers_told.nd rfl (Or.inl rfl)) (fun _ _ _ _ _ => pts_nil) (fun _ _ _ _ _ => (pe_fld (pv 1) rfl)))))), ?_⟩
  obtain ⟨S, hl, hz, hn, h⟩ := h
  walk_at "rd"
  refine i_lstG ?_
  walk_at "rd"
  refine ⟨_, _, rfl, .inl hl, ?_⟩
  rw [List.length_map]
  walk_at "rd"
  refine ⟨by show 1 ≤ sizeLine; decide, fun D1 n1 => ?_⟩
  have x1 := ext_new (u := .lst [.int ns.length]) n1
  have a1 : upd H D1 (.lst [.int ns.length]) D1 = some (.lst [.int ns.length]) := upd_same
  generalize upd H D1 (.lst [.int ns.length]) = H1 at x1 a1 ⊢
  have S1 := S.ext x1
  walk_at "rd"
  refine lc_part (js := ns) (A := fun i => .ref (A i)) (y := fun i => nV i) (p := fun _ => true) (MM.SqL.ext x1 hl) (small_size hz) (fun v => rfl) (fun j hj D ys Q' hD q => q) (fun j hj _ D ys Q' hD q => ?_) fun D2 n2 => ?_
  · have S2 := S1.new (u := .lst ys) hD
    rcases hn with hn | hn
    · obtain ⟨b1, b2⟩ := hn j hj
      rw [b2]
      walk_at "rd"
      exact q
    · obtain ⟨b1, b2⟩ := hn j hj
      rw [b2]
      walk_at "rd"
      exact q
  rw [List.filter_eq_self.mpr (fun _ _ => rfl)]
  refine ⟨D1, D2, [.int ns.length], ns.map fun i => nV i, rfl, rfl, by rw [upd_ne (ne_of_none a1 n2)]; exact a1, upd_same, ?_, fun D nD => ?_⟩
  · have z : (1000001 : Nat) < sizeLine := by decide
    rw [List.length_map]
    show 1 + ns.length ≤ _
    omega
  · refine h D _ (ext_new2 (ext_new2 x1 n2) nD) ((ext_new2 x1 n2).fresh _ nD) ?_
    rw [upd_same]
    unfold row Kp423.listResult Kp423.natResult
    rw [List.map_cons, List.map_map]
    rfl
end

section
variable {P : Program} {w : World} {K : PySem.W.Frag} {mg : Str → Option Value} {base : Heap}
def sp_tell_call_attempts (K : PySem.W.Frag) : Sp := fun vs H Q _ => ∃ (T : List (Addr × Str)) (L : Lo) (c : Client) (i : Nat), vs = [.ref L.cl, nV i] ∧ St K T L c H ∧ c.attempts.length ≤ 1000000 ∧
  Told H (if Kp423.isCall c i then Kp423.listResult ((List.range c.attempts.length).filter fun a => (attemptAt c a).call == i) else Kp423.single (-2)) Q
theorem sc_tell_call_attempts : FnScope ["client", "call", "asked"] ["client", "call"] (defScope s_tell_call_attempts) := ⟨rfl, rfl, rfl, by decide +kernel, rfl, by decide +kernel, by decide +kernel⟩
theorem ok_tell_call_attempts (X : Tx K mg) : GF P w K mg base 2 (He.ga K "tell_call_attempts") ["client", "call"] (sp_tell_call_attempts K) := by
  refine GF.of X.d_tell_call_attempts sc_tell_call_attempts (fun vs H Q E h => ?_) (fun _ _ _ _ _ _ us hl => match us, hl with | [_, _], _ => rfl) (fun cdv A outer s H vs Q E hr h => ?_)
  · obtain ⟨T, L, c, i, rfl, _⟩ := h; rfl
  obtain ⟨T, L, c, i, rfl, h⟩ := h
  refine ⟨_, PSs.nox (pss_cons (ps_if (pt_cmpR op_ge (pv 1) (pe_callB call_len_seq (by rfl) X.b_len PySem.boot_len (pa_cons (pe_fld (pv 0) rfl) pa_nil)) (nomark _)) (pss_one (ps_ret (pe_fn0 (ok_missing X) X.g_missing (hr.mono (by decide))))) pss_nil) (pss_cons (ps_set (i := 2) sc_tell_call_attempts.nd rfl (Or.inl rfl) (pe_ix ix_list (pe_fld (pv 0) rfl) (pv 1) (fun _ _ => rfl))) (pss_one (ps_ret (pe_fn (ok_numbers_told X) X.g_numbers_told (hr.mono (by decide)) (pa_cons (pe_fld (pv 2) rfl) pa_nil)))))), ?_⟩
  obtain ⟨S, hz, h⟩ := h
  refine i_seq ?_
  walk_at "rd"
  refine ⟨_, _, rfl, .inl S.lsC, ?_⟩
  rw [List.length_map, List.length_range]
  walk_at "rd"
  unfold Kp423.isCall at h
  refine ite_dec (fun h1 => ?_) fun h1 => ?_
  · have hb : ¬ i < c.calls.length := by omega
    rw [decide_eq_false hb, if_neg (by decide)] at h
    walk_at "rd"
    exact ⟨rfl, fun D nD => h D _ (ext_new nD) nD upd_same⟩
  · have hb : i < c.calls.length := by omega
    rw [decide_eq_true hb, if_pos rfl] at h
    walk_at "rd"
    refine i_ixL S.lsC (v := .ref (L.ca i)) (by rw [List.getElem?_map, List.getElem?_range hb]; rfl) ?_
    walk_at "rd"
    refine ⟨T, L, c, L.al i, atsOf c i, L.att, rfl, S, S.lsL hb, ?_, .inr fun a ha => ⟨ats_lt ha, rfl⟩, h⟩
    have z := List.length_filter_le (fun a => (attemptAt c a).call == i) (List.range c.attempts.length)
    rw [List.length_range] at z
    exact Nat.le_trans z hz
def sp_tell_backend (K : PySem.W.Frag) : Sp := fun vs H Q _ => ∃ (T : List (Addr × Str)) (L : Lo) (c : Client) (i : Nat), vs = [.ref L.cl, nV i] ∧ St K T L c H ∧
  Told H (if i < c.backends.length then ⟨if (backendAt c i).active then 1 else 0, [((backendAt c i).weight : Int), ((backendAt c i).outstanding : Int), ((backendAt c i).failures : Int), ((backendAt c i).ejections : Int), (Kp423.optionNumber (backendAt c i).ejectedUntil : Int), if Kp423.isEjected c i then 1 else 0, (backendAt c i).current]⟩ else Kp423.single (-2)) Q
theorem one_zero (b : Bool) : nV (if b then 1 else 0) = V.int (if b then 1 else 0) := by cases b <;> rfl
theorem sc_tell_backend : FnScope ["client", "backend", "asked"] ["client", "backend"] (defScope s_tell_backend) := ⟨rfl, rfl, rfl, by decide +kernel, rfl, by decide +kernel, by decide +kernel⟩
theorem ok_tell_backend (X : Tx K mg) : GF P w K mg base 2 (He.ga K "tell_backend") ["client", "backend"] (sp_tell_backend K) := by
  refine GF.of X.d_tell_backend sc_tell_backend (fun vs H Q E h => ?_) (fun _ _ _ _ _ _ us hl => match us, hl with | [_, _], _ => rfl) (fun cdv A outer s H vs Q E hr h => ?_)
  · obtain ⟨T, L, c, i, rfl, _⟩ := h; rfl
  obtain ⟨T, L, c, i, rfl, h⟩ := h
  refine ⟨_, PSs.nox (pss_cons (ps_if (pt_cmpR op_ge (pv 1) (pe_callB call_len_seq (by rfl) X.b_len PySem.boot_len (pa_cons (pe_fld (pv 0) rfl) pa_nil)) (nomark _)) (pss_one (ps_ret (pe_fn0 (ok_missing X) X.g_missing (hr.mono (by decide))))) pss_nil) (pss_cons (ps_set (i := 2) sc_tell_backend.nd rfl (Or.inl rfl) (pe_ix ix_list (pe_fld (pv 0) rfl) (pv 1) (fun _ _ => rfl))) (pss_one (ps_ret (pe_lst (pa_cons (pe_fn (ok_truth_told X) X.g_truth_told (hr.mono (by decide)) (pa_cons (pe_fld (pv 2) rfl) pa_nil)) (pa_cons (pe_fld (pv 2) rfl) (pa_cons (pe_fld (pv 2) rfl) (pa_cons (pe_fld (pv 2) rfl) (pa_cons (pe_fld (pv 2) rfl) (pa_cons (pe_fn (ok_time_told X) X.g_time_told (hr.mono (by decide)) (pa_cons (pe_fld (pv 2) rfl) pa_nil)) (pa_cons (pe_fn (ok_truth_told X) X.g_truth_told (hr.mono (by decide)) (pa_cons (pe_fn (ok_is_ejected X) X.g_is_ejected (hr.mono (by decide)) (pa_cons (pv 0) (pa_cons (pv 2) pa_nil))) pa_nil)) (pa_cons (pe_fld (pv 2) rfl) pa_nil))))))))))))), ?_⟩
  obtain ⟨S, h⟩ := h
  refine i_seq ?_
  walk_at "rd"
  refine ⟨_, _, rfl, .inl S.lsB, ?_⟩
  rw [List.length_map, List.length_range]
  walk_at "rd"
  refine ite_dec (fun h1 => ?_) fun h1 => ?_
  · have hb : ¬ i < c.backends.length := by omega
    rw [if_neg hb] at h
    walk_at "rd"
    exact ⟨rfl, fun D nD => h D _ (ext_new nD) nD upd_same⟩
  · have hb : i < c.backends.length := by omega
    rw [if_pos hb] at h
    walk_at "rd"
    refine i_ixL S.lsB (v := .ref (L.bk i)) (by rw [List.getElem?_map, List.getElem?_range hb]; rfl) ?_
    walk_at "rd"
    refine i_lstG (i_cons ?_)
    walk_at "rd"
    refine ⟨_, rfl, ?_⟩
    walk_at "rd"
    refine ⟨_, rfl, ?_⟩
    walk_at "rd"
    refine ⟨T, L, c, i, rfl, S, hb, ?_⟩
    refine ⟨_, rfl, ?_⟩
    walk_at "rd"
    refine ⟨by show 8 ≤ sizeLine; decide, fun D nD => h D _ (ext_new nD) nD ?_⟩
    rw [upd_same, one_zero, one_zero]
    rfl
def sp_tell_running_attempts (K : PySem.W.Frag) : Sp := fun vs H Q _ => ∃ (T : List (Addr × Str)) (L : Lo) (c : Client), vs = [.ref L.cl] ∧ St K T L c H ∧ c.attempts.length ≤ 1000000 ∧ Told H (Kp423.listResult (Kp423.runningAttempts c)) Q
theorem sc_tell_running_attempts : FnScope ["client"] ["client"] (defScope s_tell_running_attempts) := ⟨rfl, rfl, rfl, by decide +kernel, rfl, by decide +kernel, by decide +kernel⟩
theorem ok_tell_running_attempts (X : Tx K mg) : GF P w K mg base 2 (He.ga K "tell_running_attempts") ["client"] (sp_tell_running_attempts K) := by
  refine GF.of X.d_tell_running_attempts sc_tell_running_attempts (fun vs H Q E h => ?_) (fun _ _ _ _ _ _ us hl => match us, hl with | [_], _ => rfl) (fun cdv A outer s H vs Q E hr h => ?_)
  · obtain ⟨T, L, c, rfl, _⟩ := h; rfl
  obtain ⟨T, L, c, rfl, h⟩ := h
  refine ⟨_, PSs.nox (pss_one (ps_ret (pe_fn (ok_numbers_told X) X.g_numbers_told (hr.mono (by decide)) (pa_cons (pe_fn (ok_running_among X) X.g_running_among (hr.mono (by decide)) (pa_cons (pe_fld (pv 0) rfl) pa_nil)) pa_nil)))), ?_⟩
  obtain ⟨S, hz, h⟩ := h
  walk_at "rd"
  refine ⟨T, L, c, L.la, List.range c.attempts.length, rfl, S, S.lsA, by rw [List.length_range]; exact hz, fun j hj => List.mem_range.mp hj, fun D n1 => ?_⟩
  have x1 := ext_new (u := .lst ((Kp423.runningAttempts c).map fun i => .ref (L.att i))) n1
  refine ⟨T, L, c, D, Kp423.runningAttempts c, L.att, rfl, S.ext x1, SqL.of upd_same, ?_, .inr fun a ha => ⟨List.mem_range.mp (List.mem_filter.mp ha).1, rfl⟩, h.ext x1⟩
  have z := List.length_filter_le (fun j => Kp423.isRunning (attemptAt c j)) (List.range c.attempts.length)
  rw [List.length_range] at z
  exact Nat.le_trans z hz
def sp_tell_available_backends (K : PySem.W.Frag) : Sp := fun vs H Q _ => ∃ (T : List (Addr × Str)) (L : Lo) (c : Client), vs = [.ref L.cl] ∧ St K T L c H ∧ Sz c ∧ Told H (Kp423.listResult (Kp423.availableBackends c)) Q
theorem sc_tell_available_backends : FnScope ["client"] ["client"] (defScope s_tell_available_backends) := ⟨rfl, rfl, rfl, by decide +kernel, rfl, by decide +kernel, by decide +kernel⟩
theorem ok_tell_available_backends (X : Tx K mg) : GF P w K mg base 4 (He.ga K "tell_available_backends") ["client"] (sp_tell_available_backends K) := by
  refine GF.of X.d_tell_available_backends sc_tell_available_backends (fun vs H Q E h => ?_) (fun _ _ _ _ _ _ us hl => match us, hl with | [_], _ => rfl) (fun cdv A outer s H vs Q E hr h => ?_)
  · obtain ⟨T, L, c, rfl, _⟩ := h; rfl
  obtain ⟨T, L, c, rfl, h⟩ := h
  refine ⟨_, PSs.nox (pss_one (ps_ret (pe_fn (ok_numbers_told X) X.g_numbers_told (hr.mono (by decide)) (pa_cons (pe_fn (ok_available_backends X) X.g_available_backends (hr.mono (by decide)) (pa_cons (pv 0) pa_nil)) pa_nil)))), ?_⟩
  obtain ⟨S, hz, h⟩ := h
  walk_at "rd"
  refine ⟨T, L, c, rfl, S, hz, fun D n1 => ?_⟩
  have x1 := ext_new (u := .lst ((Kp423.availableBackends c).map fun i => .ref (L.bk i))) n1
  refine ⟨T, L, c, D, Kp423.availableBackends c, L.bk, rfl, S.ext x1, SqL.of upd_same, ?_, .inl fun a ha => ⟨active_lt (List.mem_filter.mp ha).1, rfl⟩, h.ext x1⟩
  have z := List.length_filter_le (fun i => !Kp423.isEjected c i) (Kp423.activeBackends c)
  have z2 := active_len c
  have := hz.bs
  unfold Kp423.availableBackends; omega
def sp_tell_hash : Sp := fun vs H Q _ => ∃ (key b : Nat), vs = [nV key, nV b] ∧ Told H (if b ≤ 255 then Kp423.single (Kp423.hashOf key b : Nat) else Kp423.single (-22)) Q
theorem sc_tell_hash : FnScope ["key", "backend"] ["key", "backend"] (defScope s_tell_hash) := ⟨rfl, rfl, rfl, by decide +kernel, rfl, by decide +kernel, by decide +kernel⟩
theorem ok_tell_hash (X : Tx K mg) : GF P w K mg base 3 (He.ga K "tell_hash") ["key", "backend"] sp_tell_hash := by
  refine GF.of X.d_tell_hash sc_tell_hash (fun vs H Q E h => ?_) (fun _ _ _ _ _ _ us hl => match us, hl with | [_, _], _ => rfl) (fun cdv A outer s H vs Q E hr h => ?_)
  · obtain ⟨key, b, rfl, _⟩ := h; rfl
  obtain ⟨key, b, rfl, h⟩ := h
  refine ⟨_, PSs.nox (pss_cons (ps_if (pt_cmpR op_gt (pv 1) (pe_gi X.i_MOST_HASHED_BACKEND) (nomark _)) (pss_one (ps_ret (pe_fn0 (ok_outside_limits X) X.g_outside_limits (hr.mono (by decide))))) pss_nil) (pss_one (ps_ret (pe_lst (pa_cons (pe_fn (ok_key_hash X) X.g_key_hash (hr.mono (by decide)) (pa_cons (pv 0) (pa_cons (pv 1) pa_nil))) pa_nil))))), ?_⟩
  refine i_seq ?_
  walk_at "rd"
  refine ite_dec (fun h1 => ?_) fun h1 => ?_
  · rw [if_neg (by omega)] at h
    walk_at "rd"
    exact ⟨rfl, fun D nD => h D _ (ext_new nD) nD upd_same⟩
  · rw [if_pos (by omega)] at h
    walk_at "rd"
    refine i_lstG ?_
    walk_at "rd"
    refine ⟨key, b, rfl, ?_⟩
    generalize Kp423.hashOf key b = x at *
    walk_at "rd"
    exact ⟨by show 1 ≤ sizeLine; decide, fun D nD => h D _ (ext_new nD) nD upd_same⟩
def sp_tell_backoff_bound (K : PySem.W.Frag) : Sp := fun vs H Q _ => ∃ (T : List (Addr × Str)) (L : Lo) (c : Client) (n : Nat), vs = [.ref L.cl, nV n] ∧ St K T L c H ∧ Pol c.policy ∧ Told H (if Kp423.inRange 1 10 n then Kp423.single (Kp423.backoffBound c.policy n : Nat) else Kp423.single (-22)) Q
theorem sc_tell_backoff_bound : FnScope ["client", "retry"] ["client", "retry"] (defScope s_tell_backoff_bound) := ⟨rfl, rfl, rfl, by decide +kernel, rfl, by decide +kernel, by decide +kernel⟩
theorem ok_tell_backoff_bound (X : Tx K mg) : GF P w K mg base 2 (He.ga K "tell_backoff_bound") ["client", "retry"] (sp_tell_backoff_bound K) := by
  refine GF.of X.d_tell_backoff_bound sc_tell_backoff_bound (fun vs H Q E h => ?_) (fun _ _ _ _ _ _ us hl => match us, hl with | [_, _], _ => rfl) (fun cdv A outer s H vs Q E hr h => ?_)
  · obtain ⟨T, L, c, n, rfl, _⟩ := h; rfl
  obtain ⟨T, L, c, n, rfl, h⟩ := h
  refine ⟨_, PSs.nox (pss_cons (ps_if (pt_not (pt_val (pe_fn (ok_within X) X.g_within (hr.mono (by decide)) (pa_cons (pv 1) (pa_cons pe_int (pa_cons (pe_gi X.i_LAST_ASKED_RETRY) pa_nil)))))) (pss_one (ps_ret (pe_fn0 (ok_outside_limits X) X.g_outside_limits (hr.mono (by decide))))) pss_nil) (pss_one (ps_ret (pe_lst (pa_cons (pe_fn (ok_backoff_bound X) X.g_backoff_bound (hr.mono (by decide)) (pa_cons (pe_fld (pv 0) rfl) (pa_cons (pv 1) pa_nil))) pa_nil))))), ?_⟩
  obtain ⟨S, hp, h⟩ := h
  refine i_seq ?_
  walk_at "rd"
  refine ⟨_, _, _, rfl, ?_⟩
  have e := range_is 1 10 n
  have e : decide ((1 : Int) ≤ (n : Int) ∧ (n : Int) ≤ 10) = Kp423.inRange 1 10 n := e
  rw [e]
  refine i_bl ?_
  cases hr : Kp423.inRange 1 10 n with
  | false =>
    rw [hr, if_neg (by decide)] at h
    refine if_t ?_
    walk_at "rd"
    exact ⟨rfl, fun D nD => h D _ (ext_new nD) nD upd_same⟩
  | true =>
    rw [hr, if_pos rfl] at h
    rw [hr] at e
    have e2 := of_decide_eq_true e
    refine if_f ?_
    walk_at "rd"
    refine i_lstG ?_
    walk_at "rd"
    refine ⟨T, L, c, n, rfl, S, hp, by omega, by omega, ?_⟩
    generalize Kp423.backoffBound c.policy n = x at *
    walk_at "rd"
    exact ⟨by show 1 ≤ sizeLine; decide, fun D nD => h D _ (ext_new nD) nD upd_same⟩
def sp_tell_budget (K : PySem.W.Frag) : Sp := fun vs H Q _ => ∃ (T : List (Addr × Str)) (L : Lo) (c : Client), vs = [.ref L.cl] ∧ St K T L c H ∧ Told H (Kp423.natResult c.tokens [if Kp423.budgetAllows c then 1 else 0]) Q
theorem sc_tell_budget : FnScope ["client"] ["client"] (defScope s_tell_budget) := ⟨rfl, rfl, rfl, by decide +kernel, rfl, by decide +kernel, by decide +kernel⟩
theorem ok_tell_budget (X : Tx K mg) : GF P w K mg base 3 (He.ga K "tell_budget") ["client"] (sp_tell_budget K) := by
  refine GF.of X.d_tell_budget sc_tell_budget (fun vs H Q E h => ?_) (fun _ _ _ _ _ _ us hl => match us, hl with | [_], _ => rfl) (fun cdv A outer s H vs Q E hr h => ?_)
  · obtain ⟨T, L, c, rfl, _⟩ := h; rfl
  obtain ⟨T, L, c, rfl, h⟩ := h
  refine ⟨_, PSs.nox (pss_one (ps_ret (pe_lst (pa_cons (pe_fld (pv 0) rfl) (pa_cons (pe_fn (ok_truth_told X) X.g_truth_told (hr.mono (by decide)) (pa_cons (pe_fn (ok_budget_allows X) X.g_budget_allows (hr.mono (by decide)) (pa_cons (pv 0) pa_nil)) pa_nil)) pa_nil))))), ?_⟩
  obtain ⟨S, h⟩ := h
  walk_at "rd"
  refine i_lstG ?_
  walk_at "rd"
  refine ⟨T, L, c, rfl, S, ?_⟩
  refine ⟨_, rfl, ?_⟩
  walk_at "rd"
  exact ⟨by show 2 ≤ sizeLine; decide, fun D nD => h D _ (ext_new nD) nD upd_same⟩
def sp_tell_status (K : PySem.W.Frag) : Sp := fun vs H Q _ => ∃ (T : List (Addr × Str)) (L : Lo) (c : Client), vs = [.ref L.cl] ∧ St K T L c H ∧ Sz c ∧ Told H (Kp423.natResult c.now [c.seed, c.pointer, c.backends.length, (Kp423.activeBackends c).length, (Kp423.runningAttempts c).length]) Q
theorem sc_tell_status : FnScope ["client"] ["client"] (defScope s_tell_status) := ⟨rfl, rfl, rfl, by decide +kernel, rfl, by decide +kernel, by decide +kernel⟩
theorem ok_tell_status (X : Tx K mg) : GF P w K mg base 2 (He.ga K "tell_status") ["client"] (sp_tell_status K) := by
  refine GF.of X.d_tell_status sc_tell_status (fun vs H Q E h => ?_) (fun _ _ _ _ _ _ us hl => match us, hl with | [_], _ => rfl) (fun cdv A outer s H vs Q E hr h => ?_)
  · obtain ⟨T, L, c, rfl, _⟩ := h; rfl
  obtain ⟨T, L, c, rfl, h⟩ := h
  refine ⟨_, PSs.nox (pss_one (ps_ret (pe_lst (pa_cons (pe_fld (pv 0) rfl) (pa_cons (pe_fld (pv 0) rfl) (pa_cons (pe_fld (pv 0) rfl) (pa_cons (pe_callB call_len_seq (by rfl) X.b_len PySem.boot_len (pa_cons (pe_fld (pv 0) rfl) pa_nil)) (pa_cons (pe_callB call_len_seq (by rfl) X.b_len PySem.boot_len (pa_cons (pe_fn (ok_active_backends X) X.g_active_backends (hr.mono (by decide)) (pa_cons (pv 0) pa_nil)) pa_nil)) (pa_cons (pe_callB call_len_seq (by rfl) X.b_len PySem.boot_len (pa_cons (pe_fn (ok_running_among X) X.g_running_among (hr.mono (by decide)) (pa_cons (pe_fld (pv 0) rfl) pa_nil)) pa_nil)) pa_nil))))))))), ?_⟩
  obtain ⟨S, hz, h⟩ := h
  walk_at "rd"
  refine i_lstG ?_
  walk_at "rd"
  refine ⟨_, _, rfl, .inl S.lsB, ?_⟩
  rw [List.length_map, List.length_range]
  walk_at "rd"
  refine ⟨T, L, c, rfl, S, hz, fun D1 n1 => ?_⟩
  have x1 := ext_new (u := .lst ((Kp423.activeBackends c).map fun i => .ref (L.bk i))) n1
  have a1 : upd H D1 (.lst ((Kp423.activeBackends c).map fun i => .ref (L.bk i))) D1 = some (.lst ((Kp423.activeBackends c).map fun i => .ref (L.bk i))) := upd_same
  generalize upd H D1 (.lst ((Kp423.activeBackends c).map fun i => .ref (L.bk i))) = H1 at x1 a1 ⊢
  have S1 := S.ext x1
  refine i_nil ?_
  refine ⟨_, _, rfl, .inl (SqL.of a1), ?_⟩
  rw [List.length_map]
  walk_at "rd"
  refine ⟨T, L, c, L.la, List.range c.attempts.length, rfl, S1, S1.lsA, by rw [List.length_range]; exact hz.ats, fun j hj => List.mem_range.mp hj, fun D2 n2 => ?_⟩
  have er : (List.range c.attempts.length).filter (fun j => Kp423.isRunning (attemptAt c j)) = Kp423.runningAttempts c := rfl
  rw [er]
  have x2 := ext_new2 (u := .lst ((Kp423.runningAttempts c).map fun i => .ref (L.att i))) x1 n2
  have a2 : upd H1 D2 (.lst ((Kp423.runningAttempts c).map fun i => .ref (L.att i))) D2 = some (.lst ((Kp423.runningAttempts c).map fun i => .ref (L.att i))) := upd_same
  generalize upd H1 D2 (.lst ((Kp423.runningAttempts c).map fun i => .ref (L.att i))) = H2 at x2 a2 ⊢
  refine i_nil ?_
  refine ⟨_, _, rfl, .inl (SqL.of a2), ?_⟩
  rw [List.length_map]
  walk_at "rd"
  exact ⟨by show 6 ≤ sizeLine; decide, fun D nD => h D _ (ext_new2 x2 nD) (x2.fresh _ nD) upd_same⟩
end

section
variable {P : Program} {w : World} {K : PySem.W.Frag} {mg : Str → Option Value} {base : Heap}
theorem i_rNotNo {n : Option Nat} {H : Hp} {Q : VK} (h : Q (.bl (!decide (n = none))) H) : rNotN (optV n) .non H Q := i_notNo h
/-- how the calls ended -/
theorem ended_is (d : RemoteCall) : ∀ l : List RemoteCall, ((List.range l.length).filter fun i => !decide ((l.getD i d).status = none)).map (fun i => (((l.getD i d).status.getD 0 : Nat) : Int)) = (l.filterMap fun x => x.status).map (fun n : Nat => (n : Int))
  | [] => rfl
  | x :: r => by
    rw [List.length_cons, List.range_succ_eq_map, List.filter_cons, List.filter_map, List.filterMap_cons]
    have e1 : ((fun i => !decide (((x :: r).getD i d).status = none)) ∘ Nat.succ) = fun i => !decide ((r.getD i d).status = none) := by funext i; rfl
    have e2 : ((x :: r).getD 0 d).status = x.status := rfl
    rw [e1, e2]
    have ih := ended_is d r
    cases hx : x.status with
    | none => rw [if_neg (by simp), List.map_map]; exact ih
    | some n =>
      rw [if_pos (by simp), List.map_cons, List.map_map, List.map_cons]
      show ((x.status.getD 0 : Nat) : Int) :: _ = _
      rw [hx]
      exact congrArg (List.cons _) ih
theorem ended_count (l : List RemoteCall) : ((l.filterMap fun x => x.status).map (fun n : Nat => (n : Int))).count 0 = l.countP (fun x => x.status == some 0) ∧
    (l.filterMap fun x => x.status).length = l.countP (fun x => x.status == some 0) + l.countP (fun x => x.status.isSome && x.status != some 0) := by
  induction l with
  | nil => exact ⟨rfl, rfl⟩
  | cons x r ih =>
    obtain ⟨i1, i2⟩ := ih
    rw [List.filterMap_cons, List.countP_cons, List.countP_cons]
    cases hx : x.status with
    | none => exact ⟨by simpa using i1, by simpa using i2⟩
    | some n =>
      rw [List.map_cons, List.count_cons, List.length_cons, i1, i2]
      cases n with
      | zero => exact ⟨by simp, by simp; omega⟩
      | succ n => exact ⟨by simp; omega, by simp; omega⟩
def sp_tell_totals (K : PySem.W.Frag) : Sp := fun vs H Q _ => ∃ (T : List (Addr × Str)) (L : Lo) (c : Client), vs = [.ref L.cl] ∧ St K T L c H ∧ Sz c ∧ Told H (Kp423.natResult c.calls.length [(c.calls.countP fun x => x.status == some 0), (c.calls.countP fun x => x.status.isSome && x.status != some 0), c.attempts.length, c.retryCount, c.hedgeCount, c.transparentCount]) Q
theorem sc_tell_totals : FnScope ["client", "ended", "succeeded", "call"] ["client"] (defScope s_tell_totals) := ⟨rfl, rfl, rfl, by decide +kernel, rfl, by decide +kernel, by decide +kernel⟩
theorem ok_tell_totals (X : Tx K mg) : GF P w K mg base 1 (He.ga K "tell_totals") ["client"] (sp_tell_totals K) := by
  refine GF.of X.d_tell_totals sc_tell_totals (fun vs H Q E h => ?_) (fun _ _ _ _ _ _ us hl => match us, hl with | [_], _ => rfl) (fun cdv A outer s H vs Q E hr h => ?_)
  · obtain ⟨T, L, c, rfl, _⟩ := h; rfl
  obtain ⟨T, L, c, rfl, h⟩ := h
  refine ⟨_, PSs.nox (pss_cons (ps_setLc (i := 1) (own := [("call", 3)]) (g := gName 3) (tt := (tTest (tOp rNotN (tFld K (tVar 3) "status") (tC .non)))) (te := (tFld K (tVar 3) "status")) (by rfl) sc_tell_totals.nd rfl rfl (sw_true rfl rfl rfl (by decide +kernel)) (pi_list (pe_fld (pv 0) rfl)) (blkOk_by (own := [("call", 3)]) (N := ["client", "ended", "succeeded", "call"]) (sc := defScope s_tell_totals) (by decide +kernel)) (fun _ _ _ _ _ => pg_name (i := 3) sc_tell_totals.nd rfl (Or.inl rfl)) (fun _ _ _ _ _ => (pts_one (pt_cmpR op_notN (pe_fld (pv 3) rfl) pe_non (nomark _)))) (fun _ _ _ _ _ => (pe_fld (pv 3) rfl))) (pss_cons (ps_set (i := 2) sc_tell_totals.nd rfl (Or.inl rfl) (pe_bm PySem.F.plainAttrs_list PySem.F.slot_list_count PySem.F.type_list_count mt_lcount (pv 1) (pa_cons (pe_gi X.i_OK) pa_nil))) (pss_one (ps_ret (pe_lst (pa_cons (pe_callB call_len_seq (by rfl) X.b_len PySem.boot_len (pa_cons (pe_fld (pv 0) rfl) pa_nil)) (pa_cons (pv 2) (pa_cons (pe_op op_sub (pe_callB call_len_seq (by rfl) X.b_len PySem.boot_len (pa_cons (pv 1) pa_nil)) (pv 2)) (pa_cons (pe_callB call_len_seq (by rfl) X.b_len PySem.boot_len (pa_cons (pe_fld (pv 0) rfl) pa_nil)) (pa_cons (pe_fld (pv 0) rfl) (pa_cons (pe_fld (pv 0) rfl) (pa_cons (pe_fld (pv 0) rfl) pa_nil)))))))))))), ?_⟩
  obtain ⟨S, hz, h⟩ := h
  have hcs := hz.cs
  walk_at "rd"
  refine lc_part (js := List.range c.calls.length) (A := fun i => .ref (L.ca i)) (y := fun i => .int (((callAt c i).status.getD 0 : Nat) : Int)) (p := fun i => !decide ((callAt c i).status = none)) S.lsC (by rw [List.length_range]; exact small_size (by omega)) (fun v => rfl) (fun j hj D ys Q' hD q => ?_) (fun j hj hp D ys Q' hD q => ?_) fun D1 n1 => ?_
  · have hj2 := List.mem_range.mp hj
    have S2 := S.new (u := .lst ys) hD
    walk_at "rd"
    refine i_rNotNo ?_
    walk_at "rd"
    exact q
  · have hj2 := List.mem_range.mp hj
    have S2 := S.new (u := .lst ys) hD
    walk_at "rd"
    cases hx : (callAt c j).status with
    | none => rw [hx] at hp; cases hp
    | some n => rw [hx] at q; exact q
  have el : ((List.range c.calls.length).filter fun i => !decide ((callAt c i).status = none)).map (fun i => V.int (((callAt c i).status.getD 0 : Nat) : Int)) = ((c.calls.filterMap fun x => x.status).map (fun n : Nat => (n : Int))).map V.int := by
    rw [← ended_is ⟨0, false, 0, some 0, 0, 0, 0, false, none, none⟩, List.map_map]
    rfl
  rw [el]
  obtain ⟨c1, c2⟩ := ended_count c.calls
  have x1 := ext_new (u := .lst (((c.calls.filterMap fun x => x.status).map (fun n : Nat => (n : Int))).map V.int)) n1
  have a1 : upd H D1 (.lst (((c.calls.filterMap fun x => x.status).map (fun n : Nat => (n : Int))).map V.int)) D1 = some (.lst (((c.calls.filterMap fun x => x.status).map (fun n : Nat => (n : Int))).map V.int)) := upd_same
  have l1 : (((c.calls.filterMap fun x => x.status).map (fun n : Nat => (n : Int))).map V.int).length = (c.calls.filterMap fun x => x.status).length := by rw [List.length_map, List.length_map]
  generalize hns : (c.calls.filterMap fun x => x.status).map (fun n : Nat => (n : Int)) = ns at *
  generalize upd H D1 (.lst (ns.map V.int)) = H1 at x1 a1 ⊢
  have S1 := S.ext x1
  walk_at "rd"
  refine ⟨.inl ⟨rfl, _, SqL.of a1⟩, ?_⟩
  walk_at "rd"
  refine ⟨D1, ns, 0, rfl, rfl, SqL.of a1, ?_⟩
  rw [c1]
  walk_at "rd"
  refine i_lstG ?_
  walk_at "rd"
  refine ⟨_, _, rfl, .inl S1.lsC, ?_⟩
  rw [List.length_map, List.length_range]
  walk_at "rd"
  refine ⟨_, _, rfl, .inl (SqL.of a1), ?_⟩
  rw [l1, c2]
  walk_at "rd"
  refine ⟨_, _, rfl, .inl S1.lsA, ?_⟩
  rw [List.length_map, List.length_range]
  walk_at "rd"
  refine ⟨by show 7 ≤ sizeLine; decide, fun D nD => h D _ (ext_new2 x1 nD) (x1.fresh _ nD) ?_⟩
  rw [upd_same]
  have e : V.int (((c.calls.countP (fun x => x.status == some 0) + c.calls.countP (fun x => x.status.isSome && x.status != some 0) : Nat) : Int) - ((c.calls.countP (fun x => x.status == some 0) : Nat) : Int)) = nV (c.calls.countP (fun x => x.status.isSome && x.status != some 0)) := congrArg V.int (by omega)
  rw [e]
  rfl
end

section
variable {P : Program} {w : World} {K : PySem.W.Frag} {mg : Str → Option Value} {base : Heap}
def sp_tell_preview (K : PySem.W.Frag) : Sp := fun vs H Q _ => ∃ (L : Lo) (c : Client) (key : Nat), vs = [.ref L.cl, nV key] ∧ St K (tbs K) L c H ∧ Sz c ∧ Pol c.policy ∧ Done K L c H (Kp423.step (some c) (.previewChoice key)) Q
theorem sc_tell_preview : FnScope ["client", "key", "pool", "chosen"] ["client", "key"] (defScope s_tell_preview) := ⟨rfl, rfl, rfl, by decide +kernel, rfl, by decide +kernel, by decide +kernel⟩
theorem ok_tell_preview (X : Tx K mg) (TB : TabB base mg (He.cT K ("pick", none)).1 (He.cT K ("pick", none)).2) : GF P w K mg base 6 (He.ga K "tell_preview") ["client", "key"] (sp_tell_preview K) := by
  refine GF.of X.d_tell_preview sc_tell_preview (fun vs H Q E h => ?_) (fun _ _ _ _ _ _ us hl => match us, hl with | [_, _], _ => rfl) (fun cdv A outer s H vs Q E hr h => ?_)
  · obtain ⟨L, c, key, rfl, _⟩ := h; rfl
  obtain ⟨L, c, key, rfl, h⟩ := h
  refine ⟨_, PSs.nox (pss_cons (ps_set (i := 2) sc_tell_preview.nd rfl (Or.inl rfl) (pe_fn (ok_candidates X) X.g_candidates (hr.mono (by decide)) (pa_cons (pv 0) (pa_cons (pe_lst pa_nil) pa_nil)))) (pss_cons (ps_if (pt_not (pt_truth (pv 2) (by intro _; rfl))) (pss_one (ps_ret (pe_fn0 (ok_nothing_there X) X.g_nothing_there (hr.mono (by decide))))) pss_nil) (pss_cons (ps_set (i := 3) sc_tell_preview.nd rfl (Or.inl rfl) (pe_fn (ok_pick X TB) X.g_pick (hr.mono (by decide)) (pa_cons (pv 0) (pa_cons (pv 2) (pa_cons (pv 1) pa_nil))))) (pss_one (ps_ret (pe_lst (pa_cons (pe_fld (pv 3) rfl) pa_nil))))))), ?_⟩
  obtain ⟨S, hz, hp, h⟩ := h
  have es : Kp423.step (some c) (.previewChoice key) = (some c, match Kp423.choose c key [] with
    | none => Kp423.single (-33)
    | some r => Kp423.single (r.1 : Nat)) := rfl
  have hch := choose_is c hp.bal key []
  walk_at "rd"
  refine i_lst0 fun u nu => ?_
  walk_at "rd"
  have S0 := S.new (u := .lst []) nu
  have x0 := ext_new (u := .lst []) nu
  refine ⟨tbs K, L, c, u, [], rfl, S0, hz, SqL.of upd_same, fun D2 H2 x2 n2 a2 => ?_⟩
  have N2 := Nxt.ext S (x0.trans x2)
  have S2 := N2.st
  obtain ⟨pl, hpl⟩ : ∃ pl, pl = Kp423.candidates c [] := ⟨_, rfl⟩
  have sub := cand_sub c []
  rw [← hpl] at a2 hch sub
  have pl8 : pl.length ≤ 8 := by have := sub.length_le; rw [List.length_range] at this; have := hz.bs; omega
  have pll : ∀ j ∈ pl, j < c.backends.length := fun j hj => List.mem_range.mp (sub.subset hj)
  walk_at "rd"
  refine i_seq ?_
  walk_at "rd"
  refine i_tru (SqL.of a2) ?_
  dsimp only
  by_cases hf : pl = []
  · have e0 : (!(!(pl.map fun i => V.ref (L.bk i)).isEmpty)) = true := by rw [hf]; rfl
    rw [if_pos e0]
    rw [hch, hf, picked_nil] at es
    walk_at "rd"
    exact ⟨rfl, fun D nD => h.ans es N2 nD rfl⟩
  have e0 : ¬ (!(!(pl.map fun i => V.ref (L.bk i)).isEmpty)) = true := by
    cases pl with
    | nil => exact absurd rfl hf
    | cons _ _ => exact fun z => by cases z
  rw [if_neg e0]
  walk_at "rd"
  refine ⟨L, c, D2, pl, key, rfl, S2, hp.bal, SqL.of a2, hf, pl8, pll, fun b H3 pk hb n3 x3 => ?_⟩
  have N3 := N2.trans n3
  have S3 := N3.st
  rw [pk] at hch
  rw [hch] at es
  have hbl := pll b hb
  walk_at "rd"
  refine i_lstG ?_
  walk_at "rd"
  exact ⟨by show 1 ≤ sizeLine; decide, fun D nD => h.ans es N3 nD rfl⟩
/-- NAME(pool, key=lambda ..) from the pool's reference on -/
def SortedR (K : PySem.W.Frag) (T : List (Addr × Str)) (N : List Str) (js : List Nat) (tb : TE) (σ : L2.St) (x : V) (H1 : Hp) (Q : VK) : Prop := Tabs T H1 ∧ ∃ (l : Addr) (xs : List V) (kf : Nat → Int), x = .ref l ∧ SqL K H1 l xs ∧
  (∀ H2, ExtN H1 H2 → Tabs T H2 → ∀ i v, xs[i]? = some v → tb (NdefX.startF N [v] (js.map (NdefX.slotAt σ))) H2 fun y H' => y = .int (kf i) ∧ H' = H2) ∧
  ∀ p H2, ExtN H1 H2 → Tabs T H2 → H2 p = some (.lst ((SortL.ordered kf xs.length).filterMap fun i => xs[i]?)) → Q (.ref p) H2
theorem i_un {r : V → Hp → VK → Prop} {ta : TE} {σ : L2.St} {H : Hp} {Q : VK} (h : ta σ H fun x H1 => r x H1 Q) : tUn r ta σ H Q := h
theorem i_sorted {T : List (Addr × Str)} {N : List Str} {js : List Nat} {ta tb : TE} {σ : L2.St} {H : Hp} {Q : VK} (h : ta σ H fun x H1 => SortedR K T N js tb σ x H1 Q) : SortL.tSorted K T N js ta tb σ H Q := h
theorem sorted_rank {T : List (Addr × Str)} {N : List Str} {js : List Nat} {tb : TE} {σ : L2.St} {L : Lo} {c : Client} {H : Hp} {Q : VK} {l : Addr} {pool : List Nat} (key : Nat) (S : St K T L c H) (hl : SqL K H l (pool.map fun i => .ref (L.bk i)))
    (turn : ∀ i, i ∈ pool → ∀ H2 Q', St K T L c H2 → Q' (.int (HM.gH key i)) H2 → tb (NdefX.startF N [.ref (L.bk i)] (js.map (NdefX.slotAt σ))) H2 Q')
    (h : ∀ p H', Nxt K T L c H L c H' → H' p = some (.lst ((pool.foldl (fun (l : List Nat) (i : Nat) => Kp423.insertByHash key i l) []).map fun i => .ref (L.bk i))) → Q (.ref p) H') : SortedR K T N js tb σ (.ref l) H Q := by
  refine ⟨S.tabs, l, _, fun k => HM.gH key (pool.getD k 0), rfl, hl, fun H2 e t k v hv => ?_, fun p H2 e t hp => ?_⟩
  · obtain ⟨i, hi, rfl⟩ := pool_at hv
    refine turn i (List.mem_of_getElem? hi) H2 _ (S.extN e t) ⟨?_, rfl⟩
    simp [hi]
  · refine h p H2 (Nxt.extN S e t) ?_
    rw [hp]
    unfold SortL.ordered
    rw [List.length_map, HM.rank_out]
def sp_tell_ranking (K : PySem.W.Frag) : Sp := fun vs H Q _ => ∃ (L : Lo) (c : Client) (key : Nat), vs = [.ref L.cl, nV key] ∧ St K (tbs K) L c H ∧ Sz c ∧ Done K L c H (Kp423.step (some c) (.ranking key)) Q
theorem rank_len (key : Nat) : ∀ (l m : List Nat), (l.foldl (fun (l : List Nat) (i : Nat) => Kp423.insertByHash key i l) m).length = m.length + l.length ∧ ∀ x ∈ l.foldl (fun (l : List Nat) (i : Nat) => Kp423.insertByHash key i l) m, x ∈ m ∨ x ∈ l
  | [], m => ⟨rfl, fun x hx => .inl hx⟩
  | i :: r, m => by
    obtain ⟨a, b⟩ := rank_len key r (Kp423.insertByHash key i m)
    have e : ∀ m : List Nat, (Kp423.insertByHash key i m).length = m.length + 1 := by
      intro m
      induction m with
      | nil => rfl
      | cons y r ih => unfold Kp423.insertByHash; split <;> simp [ih]
    refine ⟨by rw [List.foldl_cons, a, e, List.length_cons]; omega, fun x hx => ?_⟩
    rcases b x hx with z | z
    · rcases HM.insert_mem z with z | z
      · exact .inr (by rw [z]; exact List.mem_cons_self ..)
      · exact .inl z
    · exact .inr (List.mem_cons_of_mem _ z)
theorem sc_tell_ranking : FnScope ["client", "key", "ranked"] ["client", "key"] (defScope s_tell_ranking) := ⟨rfl, rfl, rfl, by decide +kernel, rfl, by decide +kernel, by decide +kernel⟩
theorem ok_tell_ranking (X : Tx K mg) (TR : TabB base mg (He.cT K ("tell_ranking", none)).1 (He.cT K ("tell_ranking", none)).2) : GF P w K mg base 6 (He.ga K "tell_ranking") ["client", "key"] (sp_tell_ranking K) := by
  refine GF.ofC (p := ("tell_ranking", none)) X.d_tell_ranking sc_tell_ranking (fun vs H Q E h => ?_) (fun _ _ _ _ _ _ us hl => match us, hl with | [_, _], _ => rfl) (fun A outer s H vs Q E hr h => ?_)
  · obtain ⟨L, c, key, rfl, _⟩ := h; rfl
  obtain ⟨L, c, key, rfl, h⟩ := h
  refine ⟨_, PSs.nox (pss_cons (ps_set (i := 2) sc_tell_ranking.nd rfl (Or.inl rfl) (SortL.pe_sortedLam (T := tbs K) (N := ["backend", "key"]) (fr := ["key"]) (a := "backend") (js := [1]) (k := 2) (tb := (tUn (rU fun i => .int (-i)) (tCall sp_key_hash [] L2.E0 (tCons (tVar 1) (tCons (tFld K (tVar 0) "number") tNil))))) rfl hr rfl X.b_sorted (pe_fn (ok_active_backends X) X.g_active_backends (hr.mono (by decide)) (pa_cons (pv 0) pa_nil)) TR rfl (tbs_tell_ranking K) (tbs_tell_ranking_only X) rfl (NdefX.nscope_by (by decide +kernel)) (NdefX.ndef_free (sc := defScope s_tell_ranking) (fr := ["key"]) (by decide +kernel)) (NdefX.ndef_fr (sc := defScope s_tell_ranking) (by decide +kernel)) rfl (fun _ _ _ _ _ => rfl) (fun f c2 A outer s H hr => (pe_un un_neg (pe_fn (ok_key_hash X) X.g_key_hash (hr.mono (by decide)) (pa_cons (pv 1) (pa_cons (pe_fld (pv 0) rfl) pa_nil))))))) (pss_one (ps_ret (pe_fn (ok_numbers_told X) X.g_numbers_told (hr.mono (by decide)) (pa_cons (pv 2) pa_nil))))), ?_⟩
  obtain ⟨S, hz, h⟩ := h
  have es : Kp423.step (some c) (.ranking key) = (some c, Kp423.listResult (Kp423.rankingOf c key)) := rfl
  walk_at "rd"
  refine i_sorted ?_
  walk_at "rd"
  refine ⟨tbs K, L, c, rfl, S, hz, fun D1 n1 => ?_⟩
  have N1 := Nxt.behind (u := .lst ((Kp423.activeBackends c).map fun i => .ref (L.bk i))) (Nxt.refl S) n1
  refine sorted_rank key N1.st (SqL.of upd_same) (fun i hi H2 Q' S2 q => ?_) fun p H2 n2 hp => ?_
  · have hi2 := active_lt hi
    refine i_un ?_
    walk_at "rd"
    refine ⟨key, i, rfl, ?_⟩
    refine ⟨_, rfl, ?_⟩
    exact q
  have er : (Kp423.activeBackends c).foldl (fun (l : List Nat) (i : Nat) => Kp423.insertByHash key i l) [] = Kp423.rankingOf c key := rfl
  obtain ⟨rl, rm⟩ := rank_len key (Kp423.activeBackends c) []
  rw [er] at hp rl rm
  have N2 := N1.trans n2
  walk_at "rd"
  have al := active_len c
  have hb := hz.bs
  refine ⟨tbs K, L, c, p, Kp423.rankingOf c key, L.bk, rfl, N2.st, SqL.of hp, ?_, .inl fun i hi => ⟨active_lt ((rm i hi).resolve_left (List.not_mem_nil)), rfl⟩, ?_⟩
  · rw [rl, List.length_nil]; omega
  · intro D H' x n q
    exact h L c D H' (by rw [es]) (N2.trans (Nxt.ext N2.st x)) (N2.fr n) (by rw [es]; exact q)
end

section
variable {P : Program} {w : World} {K : PySem.W.Frag} {mg : Str → Option Value} {base : Heap}
/-! ### what the rest keeps -/
def remF (i : Nat) (d : Client) (a : Nat) : Client := if (attemptAt d a).backend == i && Kp423.isRunning (attemptAt d a) then Kp423.completeAttempt d a 14 0 else d
theorem remF_rest {i : Nat} {d : Client} {a : Nat} (h : Inv d) (ha : a < d.attempts.length) : Inv (remF i d a) ∧ Kept d (remF i d a) ∧ (remF i d a).attempts.length ≤ d.attempts.length := by
  unfold remF
  split
  · rename_i q
    have hr := (Bool.and_eq_true_iff.mp q).2
    exact ⟨h.complete ha hr, Kept.complete h.pol.bal, complete_grow (s := 14) h.pol.bal (h.acc.stop ha hr rfl)⟩
  · exact ⟨h, Kept.refl d, Nat.le_refl _⟩
theorem remF_all {i : Nat} : ∀ (l : List Nat) (d : Client), Inv d → (∀ a ∈ l, a < d.attempts.length) → Inv (l.foldl (remF i) d) ∧ Kept d (l.foldl (remF i) d) ∧ (l.foldl (remF i) d).attempts.length ≤ d.attempts.length
  | [], d, h, _ => ⟨h, Kept.refl d, Nat.le_refl _⟩
  | a :: r, d, h, hl => by
    obtain ⟨x1, x2, x3⟩ := remF_rest (i := i) h (hl a (List.mem_cons_self ..))
    obtain ⟨y1, y2, y3⟩ := remF_all r (remF i d a) x1 fun b hb => Nat.lt_of_lt_of_le (hl b (List.mem_cons_of_mem _ hb)) x2.len
    exact ⟨y1, x2.trans y2, Nat.le_trans y3 x3⟩
theorem remF_is {i : Nat} {c : Client} : ∀ (l : List Nat) (d : Client), Inv d → Kept c d → (∀ a ∈ l, a < c.attempts.length) →
    l.foldl (fun (x : Client) (y : Nat) => if ((attemptAt c y).backend == i) = true then (if Kp423.isRunning (attemptAt x y) then Kp423.completeAttempt x y Kp423.statusUnavailable 0 else x) else x) d = l.foldl (remF i) d
  | [], _, _, _, _ => rfl
  | a :: r, d, h, k, hl => by
    have ha := hl a (List.mem_cons_self ..)
    have e : (if ((attemptAt c a).backend == i) = true then (if Kp423.isRunning (attemptAt d a) then Kp423.completeAttempt d a Kp423.statusUnavailable 0 else d) else d) = remF i d a := by
      unfold remF
      rw [k.bkn a ha]
      cases (attemptAt c a).backend == i <;> cases Kp423.isRunning (attemptAt d a) <;> rfl
    obtain ⟨x1, x2, x3⟩ := remF_rest (i := i) h (Nat.lt_of_lt_of_le ha k.len)
    rw [List.foldl_cons, List.foldl_cons, e]
    exact remF_is r _ x1 (k.trans x2) fun b hb => hl b (List.mem_cons_of_mem _ hb)
def rem0 (c : Client) (i : Nat) : Client := setBackend c i { backendAt c i with active := false }
theorem Inv.rem0 {c : Client} (h : Inv c) (i : Nat) : Inv (rem0 c i) := by
  refine h.same (d := HC.rem0 c i) rfl rfl rfl rfl HM.setBackend_len fun j => ?_
  unfold HC.rem0
  rw [HM.backendAt_set]
  split
  · rename_i q; rw [q.1]
  · rfl
theorem run_lt {c : Client} {a : Nat} (h : a ∈ Kp423.runningAttempts c) : a < c.attempts.length := List.mem_range.mp (List.mem_filter.mp h).1
theorem remove_is {c : Client} (h : Inv c) (i : Nat) : Kp423.removeBackend c i = (Kp423.runningAttempts c).foldl (remF i) (rem0 c i) := by
  unfold Kp423.removeBackend
  rw [List.foldl_filter]
  exact remF_is (c := c) _ _ (h.rem0 i) (Kept.same rfl rfl HM.setBackend_len rfl rfl) fun a ha => run_lt ha
theorem remove_rest {c : Client} (h : Inv c) (i : Nat) : Inv (Kp423.removeBackend c i) ∧ (Kp423.removeBackend c i).backends.length = c.backends.length ∧ (Kp423.removeBackend c i).calls.length = c.calls.length ∧ (Kp423.removeBackend c i).attempts.length ≤ c.attempts.length := by
  rw [remove_is h]
  obtain ⟨x1, x2, x3⟩ := remF_all (i := i) (Kp423.runningAttempts c) (rem0 c i) (h.rem0 i) fun a ha => run_lt ha
  exact ⟨x1, x2.bks.trans HM.setBackend_len, x2.cls, x3⟩
def sp_remove_backend (K : PySem.W.Frag) : Sp := fun vs H Q _ => ∃ (L : Lo) (c : Client) (i : Nat), vs = [.ref L.cl, nV i] ∧ St K (tbs K) L c H ∧ c.backends.length ≤ 8 ∧ c.calls.length ≤ 60 ∧ Inv c ∧ c.attempts.length + 1000 < 1000000 ∧ Done K L c H (Kp423.step (some c) (.removeBackend i)) Q
theorem sc_remove_backend : FnScope ["client", "backend", "removed", "attempt"] ["client", "backend"] (defScope s_remove_backend) := ⟨rfl, rfl, rfl, by decide +kernel, rfl, by decide +kernel, by decide +kernel⟩
theorem ok_remove_backend (X : Tx K mg) (TB : TabB base mg (He.cT K ("pick", none)).1 (He.cT K ("pick", none)).2) : GF P w K mg base 9 (He.ga K "remove_backend") ["client", "backend"] (sp_remove_backend K) := by
  refine GF.of X.d_remove_backend sc_remove_backend (fun vs H Q E h => ?_) (fun _ _ _ _ _ _ us hl => match us, hl with | [_, _], _ => rfl) (fun cdv A outer s H vs Q E hr h => ?_)
  · obtain ⟨L, c, i, rfl, _⟩ := h; rfl
  obtain ⟨L, c, i, rfl, h⟩ := h
  refine ⟨_, PSs.nox (pss_cons (ps_if (pt_not (pt_val (pe_fn (ok_is_active X) X.g_is_active (hr.mono (by decide)) (pa_cons (pv 0) (pa_cons (pv 1) pa_nil))))) (pss_one (ps_ret (pe_fn0 (ok_missing X) X.g_missing (hr.mono (by decide))))) pss_nil) (pss_cons (ps_set (i := 2) sc_remove_backend.nd rfl (Or.inl rfl) (pe_ix ix_list (pe_fld (pv 0) rfl) (pv 1) (fun _ _ => rfl))) (pss_cons (ps_fld (pv 2) pe_bl rfl) (pss_cons (ps_for PassesOwn.never rfl (pi_list (pe_fn (ok_running_among X) X.g_running_among (hr.mono (by decide)) (pa_cons (pe_fld (pv 0) rfl) pa_nil))) (pg_name (i := 3) sc_remove_backend.nd rfl (Or.inl rfl)) (pss_one (ps_if (PW.pt (pw_and (pt_cmpR op_eq (pe_fld (pe_fld (pv 3) rfl) rfl) (pv 1) (nomark _)) (pw_and1 (pt_cmpR op_eq (pe_fld (pv 3) rfl) (pe_gi X.i_RUNNING) (nomark _))))) (pss_one (ps_expr (pe_fn (ok_end_attempt X TB) X.g_end_attempt (hr.mono (by decide)) (pa_cons (pv 0) (pa_cons (pv 3) (pa_cons (pe_gi X.i_UNAVAILABLE) (pa_cons (pe_gi X.i_NO_PUSHBACK) pa_nil))))))) pss_nil))) (pss_one (ps_ret (pe_lst (pa_cons (pe_callB call_len_seq (by rfl) X.b_len PySem.boot_len (pa_cons (pe_fn (ok_active_backends X) X.g_active_backends (hr.mono (by decide)) (pa_cons (pv 0) pa_nil)) pa_nil)) pa_nil)))))))), ?_⟩
  obtain ⟨S, hb, hcs, hI, hza, h⟩ := h
  have es : Kp423.step (some c) (.removeBackend i) = if Kp423.isBackend c i then (some (Kp423.removeBackend c i), Kp423.single ((Kp423.activeBackends (Kp423.removeBackend c i)).length : Nat)) else (some c, Kp423.single (-2)) := rfl
  refine i_seq ?_
  walk_at "rd"
  refine ⟨tbs K, L, c, i, rfl, S, ?_⟩
  refine i_bl ?_
  cases hbk : Kp423.isBackend c i with
  | false =>
    rw [hbk, if_neg (by decide)] at es
    refine if_t ?_
    walk_at "rd"
    exact ⟨rfl, fun D nD => h.ans es (Nxt.refl S) nD rfl⟩
  | true =>
    rw [hbk, if_pos rfl] at es
    have hi : i < c.backends.length := by
      unfold Kp423.isBackend at hbk
      rw [Bool.and_eq_true] at hbk
      exact of_decide_eq_true hbk.1
    refine if_f ?_
    walk_at "rd"
    refine i_ixL S.lsB (v := .ref (L.bk i)) (by rw [List.getElem?_map, List.getElem?_range hi]; rfl) ?_
    walk_at "rd"
    refine w_bk_active (y := false) X S hi fun H1 n1 => ?_
    have n1 : Nxt K (tbs K) L c H L (rem0 c i) H1 := n1
    have S1 := n1.st
    refine i_seq ?_
    walk_at "rd"
    refine ⟨tbs K, L, rem0 c i, L.la, List.range c.attempts.length, rfl, S1, S1.lsA, by rw [List.length_range]; omega, fun j hj => List.mem_range.mp hj, fun D n2 => ?_⟩
    have er : (List.range c.attempts.length).filter (fun j => Kp423.isRunning (attemptAt (rem0 c i) j)) = Kp423.runningAttempts c := rfl
    rw [er]
    have N2 := Nxt.behind (u := .lst ((Kp423.runningAttempts c).map fun j => .ref (L.att j))) n1 n2
    have oD : Off L (rem0 c i) D := Off.of_none S1 n2
    have a2 : upd H1 D (.lst ((Kp423.runningAttempts c).map fun j => .ref (L.att j))) D = some (.lst ((Kp423.runningAttempts c).map fun j => .ref (L.att j))) := upd_same
    have S2 := N2.st
    have N2' := Nxt.refl S2
    generalize upd H1 D (.lst ((Kp423.runningAttempts c).map fun j => .ref (L.att j))) = H2 at N2 a2 S2 N2' ⊢
    have I0 := hI.rem0 i
    have hlt : ∀ a ∈ Kp423.runningAttempts c, a < (rem0 c i).attempts.length := fun a ha => run_lt ha
    refine ForR.of (xs := (Kp423.runningAttempts c).map fun j => .ref (L.att j)) (SqL.of a2) (fun k σ' H3 => (∃ x, σ' = [some (.ref L.cl), some (nV i), some (.ref (L.bk i)), x]) ∧ ∃ L3, Nxt K (tbs K) L (rem0 c i) H2 L3 (((Kp423.runningAttempts c).take k).foldl (remF i) (rem0 c i)) H3) ⟨⟨none, rfl⟩, L, N2'⟩ ?_ ?_ ?_
    · rintro k σ' H3 _ ⟨_, L3, n⟩
      exact SqL.of (n.keep _ _ a2 oD fun ps z => by cases z)
    · rintro k x σ' H3 hx ⟨⟨x0, rfl⟩, M3, n⟩
      obtain ⟨a, hak, rfl⟩ : ∃ a, (Kp423.runningAttempts c)[k]? = some a ∧ x = .ref (L.att a) := by
        rw [List.getElem?_map] at hx
        cases q : (Kp423.runningAttempts c)[k]? with
        | none => rw [q] at hx; cases hx
        | some a => rw [q] at hx; exact ⟨a, rfl, (Option.some.inj hx).symm⟩
      have ham := List.mem_of_getElem? hak
      have ha0 := run_lt ham
      have ht : (Kp423.runningAttempts c).take (k + 1) = (Kp423.runningAttempts c).take k ++ [a] := by rw [List.take_add_one, hak]; rfl
      obtain ⟨i1, i2, i3⟩ := remF_all (i := i) ((Kp423.runningAttempts c).take k) (rem0 c i) I0 fun b hb => hlt b (List.mem_of_mem_take hb)
      have ecl : M3.cl = L.cl := (n.adr .cl _ rfl).1
      have eat : M3.att a = L.att a := (n.adr (.att a) _ (if_pos ha0)).1
      rw [ht, List.foldl_append]
      have la0 : (rem0 c i).attempts.length = c.attempts.length := rfl
      have lb0 : (rem0 c i).backends.length = c.backends.length := HM.setBackend_len
      have lc0 : (rem0 c i).calls.length = c.calls.length := rfl
      have ib := i2.bks
      have ic := i2.cls
      have il := i2.len
      generalize ((Kp423.runningAttempts c).take k).foldl (remF i) (rem0 c i) = ck at *
      have ha : a < ck.attempts.length := by omega
      have S3 := n.st
      rw [← eat, ← ecl]
      obtain ⟨x1, x2⟩ := i1.acc.idx a ha
      walk_at "rd"
      have eb : decide ((((attemptAt ck a).backend : Nat) : Int) = (i : Int)) = ((attemptAt ck a).backend == i) := by
        by_cases q : (attemptAt ck a).backend = i
        · rw [q]; simp
        · rw [decide_eq_false (by omega)]; exact (beq_eq_false_iff_ne.mpr q).symm
      rw [eb]
      have ef : remF i ck a = if (attemptAt ck a).backend == i && Kp423.isRunning (attemptAt ck a) then Kp423.completeAttempt ck a 14 0 else ck := rfl
      cases hq : ((attemptAt ck a).backend == i) with
      | false =>
        rw [hq, Bool.false_and, if_neg (by decide)] at ef
        refine if_f ?_
        refine if_f ?_
        walk_at "rd"
        exact ⟨⟨_, by rw [ecl]; rfl⟩, M3, by show Nxt K _ L _ H2 M3 (remF i ck a) H3; rw [ef]; exact n⟩
      | true =>
        rw [hq, Bool.true_and] at ef
        refine if_t ?_
        walk_at "rd"
        rw [stN_run]
        cases hr : Kp423.isRunning (attemptAt ck a) with
        | false =>
          rw [hr, if_neg (by decide)] at ef
          refine if_f ?_
          walk_at "rd"
          exact ⟨⟨_, by rw [ecl]; rfl⟩, M3, by show Nxt K _ L _ H2 M3 (remF i ck a) H3; rw [ef]; exact n⟩
        | true =>
          rw [hr, if_pos rfl] at ef
          refine if_t ?_
          walk_at "rd"
          refine ⟨M3, ck, a, 14, 0, rfl, S3, ⟨by omega, by omega, by omega⟩, i1.pol, i1.acc, by omega, ha, hr, i1.few x1, fun M4 H4 n4 => ?_⟩
          walk_at "rd"
          exact ⟨⟨_, by rw [ecl]; rfl⟩, M4, by show Nxt K _ L _ H2 M4 (remF i ck a) H4; rw [ef]; exact n.trans n4⟩
    · rintro σ' H3 ⟨⟨x0, rfl⟩, M3, n⟩
      rw [List.length_map, List.take_length, ← remove_is hI] at n
      obtain ⟨i1, i2, i3, i4⟩ := remove_rest hI i
      have N3 := N2.trans n
      have ecl : M3.cl = L.cl := (n.adr .cl _ rfl).1
      generalize Kp423.removeBackend c i = cn at *
      have S3 := n.st
      rw [← ecl]
      walk_at "rd"
      refine i_lstG ?_
      walk_at "rd"
      refine ⟨tbs K, M3, cn, rfl, S3, ⟨by omega, by omega, by omega⟩, fun D4 n4 => ?_⟩
      have N4 := Nxt.behind (u := .lst ((Kp423.activeBackends cn).map fun i => .ref (M3.bk i))) N3 n4
      refine i_nil ?_
      refine ⟨_, _, rfl, .inl (SqL.of upd_same), ?_⟩
      rw [List.length_map]
      walk_at "rd"
      exact ⟨by show 1 ≤ sizeLine; decide, fun D nD => h.ans es N4 nD rfl⟩
def sp_advance (K : PySem.W.Frag) : Sp := fun vs H Q _ => ∃ (L : Lo) (c : Client) (d : Nat), vs = [.ref L.cl, nV d] ∧ St K (tbs K) L c H ∧ Sz c ∧ Pol c.policy ∧ HM.Acc c ∧ c.attempts.length + 1000 < 1000000 ∧ Done K L c H (Kp423.step (some c) (.advance d)) Q
theorem sc_advance : FnScope ["client", "duration", "fired"] ["client", "duration"] (defScope s_advance) := ⟨rfl, rfl, rfl, by decide +kernel, rfl, by decide +kernel, by decide +kernel⟩
theorem ok_advance (X : Tx K mg) (TB : TabB base mg (He.cT K ("pick", none)).1 (He.cT K ("pick", none)).2) : GF P w K mg base 9 (He.ga K "advance") ["client", "duration"] (sp_advance K) := by
  refine GF.of X.d_advance sc_advance (fun vs H Q E h => ?_) (fun _ _ _ _ _ _ us hl => match us, hl with | [_, _], _ => rfl) (fun cdv A outer s H vs Q E hr h => ?_)
  · obtain ⟨L, c, d, rfl, _⟩ := h; rfl
  obtain ⟨L, c, d, rfl, h⟩ := h
  refine ⟨_, PSs.nox (pss_cons (ps_if (pt_not (pt_val (pe_fn (ok_within X) X.g_within (hr.mono (by decide)) (pa_cons (pv 1) (pa_cons pe_int (pa_cons pe_int pa_nil)))))) (pss_one (ps_ret (pe_fn0 (ok_outside_limits X) X.g_outside_limits (hr.mono (by decide))))) pss_nil) (pss_cons (ps_set (i := 2) sc_advance.nd rfl (Or.inl rfl) (pe_fn (ok_fire_until X TB) X.g_fire_until (hr.mono (by decide)) (pa_cons (pv 0) (pa_cons (pe_op op_add (pe_fld (pv 0) rfl) (pv 1)) pa_nil)))) (pss_one (ps_ret (pe_lst (pa_cons (pv 2) (pa_cons (pe_fld (pv 0) rfl) pa_nil))))))), ?_⟩
  obtain ⟨S, hz, hp, ac, hza, h⟩ := h
  have es : Kp423.step (some c) (.advance d) = if 1000000 < d then (some c, Kp423.single (-22)) else (some (Kp423.fireUntil (c.now + d) 1000 c 0).1, Kp423.natResult (Kp423.fireUntil (c.now + d) 1000 c 0).2 [(Kp423.fireUntil (c.now + d) 1000 c 0).1.now]) := rfl
  refine i_seq ?_
  walk_at "rd"
  refine ⟨_, _, _, rfl, ?_⟩
  have e : decide ((0 : Int) ≤ (d : Int) ∧ (d : Int) ≤ 1000000) = decide (d ≤ 1000000) := decide_eq_decide.mpr (by omega)
  rw [e]
  refine i_bl ?_
  by_cases hd : d ≤ 1000000
  · rw [decide_eq_true hd]
    rw [if_neg (by omega)] at es
    refine if_f ?_
    walk_at "rd"
    refine ⟨L, c, c.now + d, rfl, S, hz, hp, ac, by omega, fun M H1 n1 => ?_⟩
    have ecl : M.cl = L.cl := (n1.adr .cl _ rfl).1
    generalize Kp423.fireUntil (c.now + d) 1000 c 0 = r at *
    have S1 := n1.st
    rw [← ecl]
    walk_at "rd"
    refine i_lstG ?_
    walk_at "rd"
    exact ⟨by show 2 ≤ sizeLine; decide, fun D nD => h.ans es n1 nD rfl⟩
  · rw [decide_eq_false hd]
    rw [if_pos (by omega)] at es
    refine if_t ?_
    walk_at "rd"
    exact ⟨rfl, fun D nD => h.ans es (Nxt.refl S) nD rfl⟩
end

section
variable {P : Program} {w : World} {K : PySem.W.Frag} {mg : Str → Option Value} {base : Heap}
/-! ### what holds between the calls: the rest -/
theorem start_retry {c : Client} (hb : c.policy.balancer ≤ 3) {i : Nat} {cnt : Bool} (r : Option Nat) (hi : i < c.calls.length) : Kp423.startAttempt (setCall c i { callAt c i with retryAt := r }) i cnt = Kp423.startAttempt c i cnt := by
  obtain ⟨d, hd⟩ : ∃ d, d = setCall c i { callAt c i with retryAt := r } := ⟨_, rfl⟩
  have ck : callAt d i = { callAt c i with retryAt := r } := by rw [hd]; exact HM.callAt_self hi
  have e0 := choose_is c hb (callAt c i).key (Kp423.triedBackends c i)
  have e1 := choose_is d (by rw [hd]; exact hb) (callAt c i).key (Kp423.triedBackends c i)
  have tk : (callAt d i).key = (callAt c i).key := by rw [ck]
  have tr : Kp423.triedBackends d i = Kp423.triedBackends c i := by rw [hd]; rfl
  have cd : Kp423.candidates d (Kp423.triedBackends c i) = Kp423.candidates c (Kp423.triedBackends c i) := by rw [hd]; rfl
  have pk : picked d (callAt c i).key (Kp423.candidates c (Kp423.triedBackends c i)) = picked c (callAt c i).key (Kp423.candidates c (Kp423.triedBackends c i)) := by rw [hd]; rfl
  rw [cd, pk] at e1
  rw [← hd]
  cases q : picked c (callAt c i).key (Kp423.candidates c (Kp423.triedBackends c i)) with
  | none =>
    rw [q] at e0 e1
    rw [start_none e0, start_none (by rw [tk, tr]; exact e1)]
    unfold Kp423.finishCall
    have er : Kp423.runningOf d i = Kp423.runningOf c i := by rw [hd]; rfl
    rw [er, ck, hd, HM.setCall_setCall]
    rfl
  | some k =>
    rw [q] at e0 e1
    have e0 : Kp423.choose c (callAt c i).key (Kp423.triedBackends c i) = some (k, HM.moved c (Kp423.candidates c (Kp423.triedBackends c i)) k) := e0
    have e1 : Kp423.choose d (callAt c i).key (Kp423.triedBackends c i) = some (k, HM.moved d (Kp423.candidates c (Kp423.triedBackends c i)) k) := e1
    have em : HM.moved d (Kp423.candidates c (Kp423.triedBackends c i)) k = setCall (HM.moved c (Kp423.candidates c (Kp423.triedBackends c i)) k) i { callAt c i with retryAt := r } := by
      rw [hd]
      unfold HM.moved
      show (match c.policy.balancer with | 0 => _ | 1 => _ | _ => _) = setCall (match c.policy.balancer with | 0 => _ | 1 => _ | _ => _) i _
      have h : c.policy.balancer = 0 ∨ c.policy.balancer = 1 ∨ c.policy.balancer = 2 ∨ c.policy.balancer = 3 := by omega
      rcases h with h | h | h | h <;> rw [h] <;> rfl
    rw [start_some e0, start_some (c1 := HM.moved d (Kp423.candidates c (Kp423.triedBackends c i)) k) (by rw [tk, tr]; exact e1)]
    rw [em, ck, tr]
    have hn : d.now = c.now := by rw [hd]; rfl
    have hh : ∀ x : RemoteCall, hedgeT d { x with retryAt := r } = hedgeT c x := fun x => by rw [hd]; rfl
    generalize HM.moved c (Kp423.candidates c (Kp423.triedBackends c i)) k = m
    have e3 : hedgeT d { { callAt c i with retryAt := r } with counted := (callAt c i).counted + (if cnt then 1 else 0) } = hedgeT c { callAt c i with counted := (callAt c i).counted + (if cnt then 1 else 0) } := hh { callAt c i with counted := (callAt c i).counted + (if cnt then 1 else 0) }
    have e4 : ∀ b z, setCall (setBackend (setCall m i { callAt c i with retryAt := r }) k b) i z = setCall (setBackend m k b) i z := fun b z => by
      show setCall (setCall (setBackend m k b) i _) i z = _
      rw [HM.setCall_setCall]
    show ({ setCall (setBackend (setCall m i { callAt c i with retryAt := r }) k { backendAt m k with outstanding := (backendAt m k).outstanding + 1 }) i { callAt c i with counted := (callAt c i).counted + (if cnt then 1 else 0), retryAt := none, hedgeAt := hedgeT d { { callAt c i with retryAt := r } with counted := (callAt c i).counted + (if cnt then 1 else 0) } } with
      attempts := m.attempts ++ [⟨i, k, (Kp423.triedBackends c i).length + 1, d.now, .running⟩] } : Client) = _
    rw [e3, e4, hn]
theorem calls_new (c : Client) (x : RemoteCall) (j : Nat) : callAt { c with calls := c.calls ++ [x] } j = if j = c.calls.length then x else callAt c j := by
  unfold callAt
  rw [List.getD_eq_getElem?_getD, List.getD_eq_getElem?_getD]
  by_cases h : j = c.calls.length
  · rw [if_pos h, h, List.getElem?_concat_length]; rfl
  · rw [if_neg h]
    by_cases h2 : j < c.calls.length
    · rw [List.getElem?_append_left h2]
    · rw [List.getElem?_eq_none (by rw [List.length_append]; show c.calls.length + 1 ≤ j; omega), List.getElem?_eq_none (by omega)]
theorem Inv.joined {c : Client} (h : Inv c) (t i key : Nat) : Inv { c with calls := c.calls ++ [{ newCall c t i key with retryAt := some 0 }] } := by
  have len : ({ c with calls := c.calls ++ [{ newCall c t i key with retryAt := some 0 }] } : Client).calls.length = c.calls.length + 1 := by rw [List.length_append]; rfl
  have old : ∀ a, a < c.attempts.length → callAt { c with calls := c.calls ++ [{ newCall c t i key with retryAt := some 0 }] } (attemptAt c a).call = callAt c (attemptAt c a).call := fun a ha => by
    rw [calls_new, if_neg (Nat.ne_of_lt (h.acc.idx a ha).1)]
  refine ⟨⟨h.acc.out, fun a ha => ⟨by rw [len]; exact Nat.lt_succ_of_lt (h.acc.idx a ha).1, (h.acc.idx a ha).2⟩⟩, h.pol, fun j hj => ?_, fun j hj ho => ?_, fun a ha hr => ?_, fun a ha => ?_⟩
  · rw [len] at hj
    rw [calls_new]
    split
    · refine ⟨Nat.zero_le _, fun _ => ?_, Nat.le_refl _, fun _ z => by cases z⟩
      exact h.pol.ma1
    · exact h.cx j (by omega)
  · rw [len] at hj
    rw [calls_new] at ho ⊢
    split
    · exact Nat.le_add_right _ _
    · rename_i q
      rw [if_neg q] at ho
      exact h.tm j (by omega) ho
  · have z := h.run a ha hr
    rw [← old a ha] at z
    exact z
  · have z := h.st a ha
    rw [← old a ha] at z
    exact z
theorem startCall_rest {c : Client} (h : Inv c) (t i key : Nat) : Inv (Kp423.startCall c t i key) ∧ (Kp423.startCall c t i key).backends.length = c.backends.length ∧ (Kp423.startCall c t i key).calls.length = c.calls.length + 1 ∧ (Kp423.startCall c t i key).attempts.length ≤ c.attempts.length + 1 := by
  have e : Kp423.startCall c t i key = Kp423.startAttempt { c with calls := c.calls ++ [newCall c t i key] } c.calls.length true := rfl
  have len : ({ c with calls := c.calls ++ [newCall c t i key] } : Client).calls.length = c.calls.length + 1 := by rw [List.length_append]; rfl
  have es : setCall { c with calls := c.calls ++ [newCall c t i key] } c.calls.length { callAt { c with calls := c.calls ++ [newCall c t i key] } c.calls.length with retryAt := some 0 } = { c with calls := c.calls ++ [{ newCall c t i key with retryAt := some 0 }] } := by
    rw [calls_new, if_pos rfl]
    unfold setCall
    show ({ c with calls := (c.calls ++ [newCall c t i key]).set c.calls.length { newCall c t i key with retryAt := some 0 } } : Client) = _
    rw [List.set_append_right _ _ (Nat.le_refl _), Nat.sub_self]
    rfl
  have e2 := start_retry (c := { c with calls := c.calls ++ [newCall c t i key] }) h.pol.bal (i := c.calls.length) (cnt := true) (some 0) (by rw [len]; omega)
  rw [es] at e2
  have h1 := h.joined t i key
  have cl : callAt { c with calls := c.calls ++ [{ newCall c t i key with retryAt := some 0 }] } c.calls.length = { newCall c t i key with retryAt := some 0 } := by rw [calls_new, if_pos rfl]
  have l1 : ({ c with calls := c.calls ++ [{ newCall c t i key with retryAt := some 0 }] } : Client).calls.length = c.calls.length + 1 := by rw [List.length_append]; rfl
  have i1 := h1.start (i := c.calls.length) (b := true) (by rw [l1]; omega) (by rw [cl]; rfl) (by rw [if_pos rfl, cl]; exact h.pol.ma1)
  have r1 := start_rest (c := { c with calls := c.calls ++ [{ newCall c t i key with retryAt := some 0 }] }) (i := c.calls.length) (b := true) h.pol.bal
  have k1 := Kept.start (c := { c with calls := c.calls ++ [{ newCall c t i key with retryAt := some 0 }] }) (i := c.calls.length) (b := true) h.pol.bal
  rw [e, ← e2]
  exact ⟨i1, k1.bks, k1.cls.trans l1, r1.2.2.2.1⟩
theorem Inv.addB {c : Client} (h : Inv c) (wt : Nat) : Inv { c with backends := c.backends ++ [⟨true, wt, 0, 0, 0, 0, none⟩] } := by
  have len : ({ c with backends := c.backends ++ [⟨true, wt, 0, 0, 0, 0, none⟩] } : Client).backends.length = c.backends.length + 1 := by rw [List.length_append]; rfl
  refine ⟨⟨fun b hb => ?_, fun a ha => ⟨(h.acc.idx a ha).1, by rw [len]; exact Nat.lt_succ_of_lt (h.acc.idx a ha).2⟩⟩, h.pol, h.cx, h.tm, h.run, h.st⟩
  rw [len] at hb
  by_cases hb2 : b < c.backends.length
  · rw [backendAt_lt hb2]
    exact h.acc.out b hb2
  · have e : b = c.backends.length := by omega
    rw [e, backendAt_new]
    show 0 = HM.runsOn c c.backends.length
    unfold HM.runsOn
    refine (List.countP_eq_zero.mpr fun a ha => ?_).symm
    have z := (h.acc.idx a (List.mem_range.mp ha)).2
    simp only [Bool.and_eq_true, beq_iff_eq, not_and]
    intro _ q
    omega
/-- what holds behind n attempts at most -/
def Good (n : Nat) : Option Client → Prop
  | none => True
  | some c => Inv c ∧ c.backends.length ≤ 8 ∧ c.calls.length ≤ 60 ∧ c.attempts.length ≤ n
theorem parse_some {b : Nat} {ps : List Nat} {p : Kp423.Policy} (h : Kp423.parsePolicy b ps = some p) : ps = params p ∧ p.balancer = b ∧ Pol p := by
  unfold Kp423.parsePolicy at h
  split at h
  · split at h
    · rename_i q
      cases h
      simp only [Bool.and_eq_true, decide_eq_true_eq, Kp423.inRange] at q
      exact ⟨rfl, rfl, by constructor <;> (dsimp only; omega)⟩
    · cases h
  · cases h
theorem Good.le {n m : Nat} {o : Option Client} (h : Good n o) (hnm : n ≤ m) : Good m o := by
  cases o with
  | none => trivial
  | some c => exact ⟨h.1, h.2.1, h.2.2.1, Nat.le_trans h.2.2.2 hnm⟩
theorem create_good {n : Nat} {o : Option Client} (h : Good n o) (seed b : Nat) (ps : List Nat) : Good n (Kp423.step o (.create seed b ps)).1 := by
  have e : Kp423.step o (.create seed b ps) = (match Kp423.parsePolicy b ps with
    | none => (o, Kp423.single (-22))
    | some p => if 2147483647 < seed then (o, Kp423.single (-22)) else (some ⟨p, 0, seed, p.maxTokens * 1000, 0, [], [], [], 0, 0, 0⟩, Kp423.single 0)) := by cases o <;> rfl
  rw [e]
  cases q : Kp423.parsePolicy b ps with
  | none => exact h
  | some p =>
    dsimp only
    split
    · exact h
    · obtain ⟨_, _, hp⟩ := parse_some q
      exact ⟨⟨⟨fun b hb => (by cases hb), fun a ha => (by cases ha)⟩, hp, fun i hi => (by cases hi), fun i hi => (by cases hi), fun a ha => (by cases ha), fun a ha => (by cases ha)⟩, by show 0 ≤ 8; omega, by show 0 ≤ 60; omega, Nat.zero_le _⟩
theorem step_good {n : Nat} {o : Option Client} (h : Good n o) (x : Kp423.Call) : Good (n + 1000) (Kp423.step o x).1 := by
  have h0 : Good (n + 1000) o := h.le (Nat.le_add_right _ _)
  cases o with
  | none =>
    cases x with
    | create seed b ps => exact create_good h0 seed b ps
    | _ => trivial
  | some c =>
  obtain ⟨g1, g2, g3, g4⟩ := h
  cases x with
  | create seed b ps => exact create_good h0 seed b ps
  | addBackend w =>
    have e : Kp423.step (some c) (.addBackend w) = if Kp423.inRange 1 100 w = false then (some c, Kp423.single (-22)) else if 8 ≤ c.backends.length then (some c, Kp423.single (-28)) else (some { c with backends := c.backends ++ [⟨true, w, 0, 0, 0, 0, none⟩] }, Kp423.single (c.backends.length : Nat)) := rfl
    rw [e]
    split
    · exact h0
    · split
      · exact h0
      · exact ⟨g1.addB w, by show (c.backends ++ [_]).length ≤ 8; rw [List.length_append]; show c.backends.length + 1 ≤ 8; omega, g3, by show c.attempts.length ≤ _; omega⟩
  | removeBackend i =>
    have e : Kp423.step (some c) (.removeBackend i) = if Kp423.isBackend c i then (some (Kp423.removeBackend c i), Kp423.single ((Kp423.activeBackends (Kp423.removeBackend c i)).length : Nat)) else (some c, Kp423.single (-2)) := rfl
    rw [e]
    split
    · obtain ⟨r1, r2, r3, r4⟩ := remove_rest g1 i
      exact ⟨r1, by omega, by omega, by omega⟩
    · exact h0
  | setWeight i w =>
    have e : Kp423.step (some c) (.setWeight i w) = if Kp423.isBackend c i = false then (some c, Kp423.single (-2)) else if Kp423.inRange 1 100 w = false then (some c, Kp423.single (-22)) else (some (setBackend c i { backendAt c i with weight := w }), Kp423.single ((backendAt c i).weight : Nat)) := rfl
    rw [e]
    split
    · exact h0
    · split
      · exact h0
      · refine ⟨g1.same rfl rfl rfl rfl HM.setBackend_len fun j => ?_, by rw [HM.setBackend_len]; exact g2, g3, by show c.attempts.length ≤ _; omega⟩
        rw [HM.backendAt_set]
        split
        · rename_i q; rw [q.1]
        · rfl
  | startCall t i key =>
    have e : Kp423.step (some c) (.startCall t i key) = if (Kp423.inRange 1 100000 t && decide (i ≤ 1)) = false then (some c, Kp423.single (-22)) else if 60 ≤ c.calls.length ∨ 200 ≤ c.attempts.length then (some c, Kp423.single (-28)) else (some (Kp423.startCall c t i key), Kp423.natResult c.calls.length [Kp423.callStatus (Kp423.startCall c t i key) c.calls.length]) := rfl
    rw [e]
    split
    · exact h0
    · split
      · exact h0
      · obtain ⟨r1, r2, r3, r4⟩ := startCall_rest g1 t i key
        exact ⟨r1, by omega, by omega, by omega⟩
  | complete j s p =>
    have e : Kp423.step (some c) (.complete j s p) = if Kp423.isAttempt c j = false then (some c, Kp423.single (-2)) else if (Kp423.validStatus s && decide (p ≤ 100002)) = false then (some c, Kp423.single (-22)) else if Kp423.isRunning (attemptAt c j) = false then (some c, Kp423.single (-16)) else (some (Kp423.completeAttempt c j s p), Kp423.single (Kp423.callStatus (Kp423.completeAttempt c j s p) (attemptAt c j).call : Nat)) := rfl
    rw [e]
    split
    · exact h0
    · split
      · exact h0
      · split
        · exact h0
        · rename_i q1 _ q3
          have hj : j < c.attempts.length := by
            unfold Kp423.isAttempt at q1
            rw [Bool.not_eq_false] at q1
            exact of_decide_eq_true q1
          have hr : Kp423.isRunning (attemptAt c j) = true := by rw [Bool.not_eq_false] at q3; exact q3
          have kp := Kept.complete (c := c) (j := j) (s := s) (p := p) g1.pol.bal
          have gr := complete_grow (c := c) (j := j) (s := s) (p := p) g1.pol.bal (g1.acc.stop hj hr rfl)
          refine ⟨g1.complete hj hr, by rw [kp.bks]; exact g2, by rw [kp.cls]; exact g3, Nat.le_trans gr ?_⟩
          split <;> omega
  | cancel i =>
    have e : Kp423.step (some c) (.cancel i) = if Kp423.isCall c i = false then (some c, Kp423.single (-2)) else if Kp423.isOpen (callAt c i) then (some (Kp423.finishCall c i 1), Kp423.single ((Kp423.runningOf c i).length : Nat)) else (some c, Kp423.single (-16)) := rfl
    rw [e]
    split
    · exact h0
    · split
      · rename_i q1 _
        have hi : i < c.calls.length := by
          unfold Kp423.isCall at q1
          rw [Bool.not_eq_false] at q1
          exact of_decide_eq_true q1
        have kp := Kept.finish c i 1
        exact ⟨g1.finish hi, by rw [kp.bks]; exact g2, by rw [kp.cls]; exact g3, by rw [(HM.finish_len c i 1).1]; omega⟩
      · exact h0
  | advance d =>
    have e : Kp423.step (some c) (.advance d) = if 1000000 < d then (some c, Kp423.single (-22)) else (some (Kp423.fireUntil (c.now + d) 1000 c 0).1, Kp423.natResult (Kp423.fireUntil (c.now + d) 1000 c 0).2 [(Kp423.fireUntil (c.now + d) 1000 c 0).1.now]) := rfl
    rw [e]
    split
    · exact h0
    · have hM := Mu_le g1.pol
      obtain ⟨r1, r2, r3, r4⟩ := Inv.until (e := c.now + d) 1000 c 0 g1 (by omega)
      exact ⟨r1, by omega, by omega, by omega⟩
  | run ss =>
    have e : Kp423.step (some c) (.run ss) = if (decide (ss.length ≤ 40) && ss.all Kp423.validStatus) = false then (some c, Kp423.single (-22)) else (some (ss.foldl Kp423.runStep c), Kp423.natResult (Kp423.runningAttempts (ss.foldl Kp423.runStep c)).length [(ss.foldl Kp423.runStep c).now]) := rfl
    rw [e]
    split
    · exact h0
    · rename_i q
      rw [Bool.not_eq_false] at q
      have hl := of_decide_eq_true (Bool.and_eq_true_iff.mp q).1
      obtain ⟨r1, r2, r3, r4⟩ := steps_rest ss c g1
      exact ⟨r1, by omega, by omega, by omega⟩
  | _ => exact h0
end

section
variable {P : Program} {w : World} {K : PySem.W.Frag} {mg : Str → Option Value} {base : Heap}
/-! ### the session, the parameters of create -/
section
variable {X : Cx} {k : Nat} {f C : Addr} {ps : List Str} {sp : Sp} {x : Str} {p pos : Pos}
/-- C() -/
theorem pe_new0 (M : Mk X.K C f) (G : GF X.prog X.w X.K X.mg X.base k f ["self"] sp) (hm : X.mg x = some (.ref C)) (hr : Room (k + 1) X.A) (hg : Gl X x := by rfl) (hdb : (x == ("__debug__" : Str)) = false := by decide) :
    PE X (.Call (.Name x p) [] [] pos) (tMake C sp [] L2.E0 tNil) := by
  obtain ⟨fd, F, b⟩ := G.ex
  exact pe_make0 M F hr hg hm b .nil L2.pass0 hdb
end
def sp_Session_init (K : PySem.W.Frag) : Sp := fun vs H Q _ => ∃ (p dx : Addr), vs = [.ref p] ∧ H p = some (.ins (He.ga K "Session") dx []) ∧
  ∀ H', H' p = some (.ins (He.ga K "Session") dx [("client", .non)]) → (∀ b, b ≠ p → H' b = H b) → Q .non H'
theorem sc_Session_init : FnScope ["self"] ["self"] (defScope s_Session_init) := ⟨rfl, rfl, rfl, by decide +kernel, rfl, by decide +kernel, by decide +kernel⟩
theorem ok_Session_init (X : Tx K mg) : GF P w K mg base 1 (He.ma K (He.ga K "Session") "__init__") ["self"] (sp_Session_init K) := by
  refine GF.of X.d_Session_init sc_Session_init (fun vs H Q E h => ?_) (fun _ _ _ _ _ _ us hl => match us, hl with | [_], _ => rfl) (fun cdv A outer s H vs Q E hr h => ?_)
  · obtain ⟨p, dx, rfl, _⟩ := h; rfl
  obtain ⟨p, dx, rfl, h⟩ := h
  refine ⟨_, PSs.nox (pss_one (ps_fld (pv 0) pe_non rfl)), ?_⟩
  obtain ⟨e0, h⟩ := h
  walk_at "rd"
  refine nwG (fs2 := [("client", .non)]) e0 X.c_Session X.n_Session_client (by show 0 < 1000; decide) (by kernel_rfl) fun H1 e1 k1 => ?_
  walk_at "rd"
  exact h _ e1 fun b hb => by rw [k1 b hb]
abbrev sp_within : Sp := spWithin
/-- what create asks of the parameters, as the program asks it -/
def okAt (ps : List Nat) (k : Nat) : Bool := match lims[k]?, ps[k]? with
  | some l, some n => decide (l.1 ≤ (n : Int) ∧ (n : Int) ≤ l.2)
  | _, _ => false
def allowed (ps : List Nat) : Bool := decide (10 ≤ ps.length ∧ ps.length ≤ 26) && ((List.range 10).all (okAt ps) && (ps.drop 10).all (Kp423.inRange 1 16))
theorem allowed_is (b : Nat) (ps : List Nat) : (Kp423.parsePolicy b ps).isSome = (decide (b ≤ 3) && allowed ps) := by
  have short : ps.length < 10 → allowed ps = false := fun h => by
    unfold allowed
    rw [decide_eq_false (by omega)]
    rfl
  unfold Kp423.parsePolicy
  split
  · rename_i a0 a1 a2 a3 a4 a5 a6 a7 a8 a9 r
    have e : (List.range 10).all (okAt (a0 :: a1 :: a2 :: a3 :: a4 :: a5 :: a6 :: a7 :: a8 :: a9 :: r)) = true ↔
        ((1 ≤ (a0 : Int) ∧ (a0 : Int) ≤ 5) ∧ (0 ≤ (a1 : Int) ∧ (a1 : Int) ≤ 10000) ∧ (0 ≤ (a2 : Int) ∧ (a2 : Int) ≤ 100000) ∧ (100 ≤ (a3 : Int) ∧ (a3 : Int) ≤ 1000) ∧ (0 ≤ (a4 : Int) ∧ (a4 : Int) ≤ 10000) ∧ (0 ≤ (a5 : Int) ∧ (a5 : Int) ≤ 10) ∧ (1 ≤ (a6 : Int) ∧ (a6 : Int) ≤ 100000) ∧ (0 ≤ (a7 : Int) ∧ (a7 : Int) ≤ 100) ∧ (0 ≤ (a8 : Int) ∧ (a8 : Int) ≤ 1000) ∧ (0 ≤ (a9 : Int) ∧ (a9 : Int) ≤ 1000)) := by
      show (okAt _ 0 && (okAt _ 1 && (okAt _ 2 && (okAt _ 3 && (okAt _ 4 && (okAt _ 5 && (okAt _ 6 && (okAt _ 7 && (okAt _ 8 && (okAt _ 9 && true)))))))))) = true ↔ _
      show (decide _ && (decide _ && (decide _ && (decide _ && (decide _ && (decide _ && (decide _ && (decide _ && (decide _ && (decide _ && true)))))))))) = true ↔ _
      simp only [Bool.and_eq_true, decide_eq_true_eq, and_true]
    have g : ((if (decide (b ≤ 3) && Kp423.inRange 1 5 a0 && decide (a1 ≤ 10000) && decide (a2 ≤ 100000) && Kp423.inRange 100 1000 a3 && decide (a4 ≤ 10000) && decide (a5 ≤ 10) && Kp423.inRange 1 100000 a6 && decide (a7 ≤ 100) && decide (a8 ≤ 1000) && decide (a9 ≤ 1000) && decide (r.length ≤ 16) && r.all fun x => Kp423.inRange 1 16 x) = true then some (⟨b, a0, a1, a2, a3, a4, a5, a6, a7, a8, a9, r⟩ : Kp423.Policy) else none).isSome) = (decide (b ≤ 3) && Kp423.inRange 1 5 a0 && decide (a1 ≤ 10000) && decide (a2 ≤ 100000) && Kp423.inRange 100 1000 a3 && decide (a4 ≤ 10000) && decide (a5 ≤ 10) && Kp423.inRange 1 100000 a6 && decide (a7 ≤ 100) && decide (a8 ≤ 1000) && decide (a9 ≤ 1000) && decide (r.length ≤ 16) && r.all fun x => Kp423.inRange 1 16 x) := by
      split
      · rename_i q; rw [q]; rfl
      · rename_i q; rw [Bool.not_eq_true] at q; rw [q]; rfl
    rw [g, Bool.eq_iff_iff]
    unfold allowed
    have dr : (a0 :: a1 :: a2 :: a3 :: a4 :: a5 :: a6 :: a7 :: a8 :: a9 :: r).drop 10 = r := rfl
    have ln : (a0 :: a1 :: a2 :: a3 :: a4 :: a5 :: a6 :: a7 :: a8 :: a9 :: r).length = r.length + 10 := rfl
    rw [dr, ln]
    simp only [Bool.and_eq_true, decide_eq_true_eq, e]
    simp only [Kp423.inRange, Bool.and_eq_true, decide_eq_true_eq]
    constructor
    · rintro ⟨⟨⟨⟨⟨⟨⟨⟨⟨⟨⟨⟨h0, h1⟩, h2⟩, h3⟩, h4⟩, h5⟩, h6⟩, h7⟩, h8⟩, h9⟩, h10⟩, h11⟩, h12⟩
      refine ⟨h0, ⟨by omega, by omega⟩, ⟨?_, ?_, ?_, ?_, ?_, ?_, ?_, ?_, ?_, ?_⟩, h12⟩ <;> omega
    · rintro ⟨h0, ⟨l1, l2⟩, ⟨h1, h2, h3, h4, h5, h6, h7, h8, h9, h10⟩, h12⟩
      refine ⟨⟨⟨⟨⟨⟨⟨⟨⟨⟨⟨⟨h0, ?_⟩, ?_⟩, ?_⟩, ?_⟩, ?_⟩, ?_⟩, ?_⟩, ?_⟩, ?_⟩, ?_⟩, ?_⟩, h12⟩ <;> omega
  · rename_i q
    have hl : ps.length < 10 := by
      apply Classical.byContradiction
      intro h
      match ps, h, q with
      | a0 :: a1 :: a2 :: a3 :: a4 :: a5 :: a6 :: a7 :: a8 :: a9 :: r, _, q => exact q _ _ _ _ _ _ _ _ _ _ _ rfl
      | [], h, _ => exact h (by decide)
      | [_], h, _ => exact h (by show 1 < 10; omega)
      | [_, _], h, _ => exact h (by show 2 < 10; omega)
      | [_, _, _], h, _ => exact h (by show 3 < 10; omega)
      | [_, _, _, _], h, _ => exact h (by show 4 < 10; omega)
      | [_, _, _, _, _], h, _ => exact h (by show 5 < 10; omega)
      | [_, _, _, _, _, _], h, _ => exact h (by show 6 < 10; omega)
      | [_, _, _, _, _, _, _], h, _ => exact h (by show 7 < 10; omega)
      | [_, _, _, _, _, _, _, _], h, _ => exact h (by show 8 < 10; omega)
      | [_, _, _, _, _, _, _, _, _], h, _ => exact h (by show 9 < 10; omega)
    rw [short hl, Bool.and_false]
    rfl
/-- a loop over zip of a tuple and a list -/
def ForZ (K : PySem.W.Frag) (a b : Addr) (g : TG) (tb : TS) (D : Ends) (σ : L2.St) (H : Hp) : Prop := ∃ W : Nat → Nat → L2.St → Hp → Prop, (∃ m, W 0 m σ H) ∧ ∀ i m σ H, W i m σ H →
      ((ZTL.ItzM K a b).stop i H ∧ D.nx σ H) ∨ ((ZTL.ItzM K a b).go i H ∧ ∃ N : L2.St → Hp → Prop, (∀ σ' H', N σ' H' → ∃ m', m' < m ∧ W (i + 1) m' σ' H') ∧ ∀ v H', (ZTL.ItzM K a b).yld i H v H' → g v σ H' fun σ2 H2 => tb { D with nx := N, ct := N, bk := D.nx } σ2 H2)
theorem i_forZ {ta : TA} {g : TG} {t : TS} {D : Ends} {σ : L2.St} {H : Hp} (h : ta σ H fun vs H1 => ∃ a b xs ys, vs = [.ref a, .ref b] ∧ SqT K H1 a xs ∧ SqL K H1 b ys ∧ ForZ K a b g t D σ H1) : tFor (ZTL.iZipM K ta) g t D σ H := h
def sp_parameters_allowed (K : PySem.W.Frag) : Sp := fun vs H Q _ => ∃ (l : Addr) (ps : List Nat), vs = [.ref l] ∧ H l = some (.lst (ps.map nV)) ∧ ps.length ≤ 1000 ∧ ∀ H', MM.Ext H H' → Q (.bl (allowed ps)) H'
theorem okAt_is {ps : List Nat} {k n : Nat} {l : Int × Int} (h1 : lims[k]? = some l) (h2 : ps[k]? = some n) : okAt ps k = decide (l.1 ≤ (n : Int) ∧ (n : Int) ≤ l.2) := by
  unfold okAt
  rw [h1, h2]
theorem sc_parameters_allowed : FnScope ["parameters", "fixed", "limits", "number", "status"] ["parameters"] (defScope s_parameters_allowed) := ⟨rfl, rfl, rfl, by decide +kernel, rfl, by decide +kernel, by decide +kernel⟩
theorem ok_parameters_allowed (X : Tx K mg) : GF P w K mg base 2 (He.ga K "parameters_allowed") ["parameters"] (sp_parameters_allowed K) := by
  refine GF.of X.d_parameters_allowed sc_parameters_allowed (fun vs H Q E h => ?_) (fun _ _ _ _ _ _ us hl => match us, hl with | [_], _ => rfl) (fun cdv A outer s H vs Q E hr h => ?_)
  · obtain ⟨l, ps, rfl, _⟩ := h; rfl
  obtain ⟨l, ps, rfl, h⟩ := h
  refine ⟨_, PSs.nox (pss_cons (ps_set (i := 1) sc_parameters_allowed.nd rfl (Or.inl rfl) (pe_callB call_len_seq (by rfl) X.b_len PySem.boot_len (pa_cons (pe_glob (v := V.ref (He.ga K "PARAMETER_LIMITS")) rfl X.g_PARAMETER_LIMITS rfl) pa_nil))) (pss_cons (ps_if (pt_not (pt_val (pe_fn (ok_within X) X.g_within (hr.mono (by decide)) (pa_cons (pe_callB call_len_seq (by rfl) X.b_len PySem.boot_len (pa_cons (pv 0) pa_nil)) (pa_cons (pv 1) (pa_cons (pe_op op_add (pv 1) (pe_gi X.i_MOST_RETRYABLE)) pa_nil)))))) (pss_one (ps_ret pe_bl)) pss_nil) (pss_cons (ps_for PassesOwn.never rfl (ZTL.pi_zipM rfl X.b_zip (pa_cons (pe_glob (v := V.ref (He.ga K "PARAMETER_LIMITS")) rfl X.g_PARAMETER_LIMITS rfl) (pa_cons (pv 0) pa_nil))) (pg_tup rfl (pgs_cons (pg_name (i := 2) sc_parameters_allowed.nd rfl (Or.inl rfl)) (pgs_cons (pg_name (i := 3) sc_parameters_allowed.nd rfl (Or.inl rfl)) pgs_nil))) (pss_one (ps_if (pt_not (pt_val (pe_fn (ok_within X) X.g_within (hr.mono (by decide)) (pa_cons (pv 3) (pa_cons (pe_ix ix_tup (pv 2) pe_int (fun _ _ => rfl)) (pa_cons (pe_ix ix_tup (pv 2) pe_int (fun _ _ => rfl)) pa_nil)))))) (pss_one (ps_ret pe_bl)) pss_nil))) (pss_one (ps_ret (pe_callB (cr_all rfl) (by rfl) X.b_all (by decide +kernel) (pa_cons (pe_lc (own := [("status", 4)]) (g := gName 4) (tt := tYes) (te := (tCall sp_within [] L2.E0 (tCons (tVar 4) (tCons (tC (.int 1)) (tCons (tC (.int 16)) tNil))))) (by rfl) sc_parameters_allowed.nd (pi_list (pe_slice sl_list (pv 0) (po_some (pv 1)) po_none)) (blkOk_by (own := [("status", 4)]) (N := ["parameters", "fixed", "limits", "number", "status"]) (sc := defScope s_parameters_allowed) (by decide +kernel)) (fun _ _ _ _ _ => pg_name (i := 4) sc_parameters_allowed.nd rfl (Or.inl rfl)) (fun _ _ _ _ _ => pts_nil) (fun _ _ _ _ _ => (pe_fn (ok_within X) X.g_within (hr.mono (by decide)) (pa_cons (pv 4) (pa_cons pe_int (pa_cons pe_int pa_nil)))))) pa_nil))))))), ?_⟩
  obtain ⟨hl, hz, h⟩ := h
  obtain ⟨as, al, at_, ai⟩ := KI.lim_of X.lim (by decide)
  have al : as.length = 10 := al
  walk_at "rd"
  refine ⟨_, _, rfl, .inr (at_ _), ?_⟩
  rw [List.length_map, al]
  walk_at "rd"
  refine i_seq ?_
  walk_at "rd"
  refine ⟨_, _, rfl, .inl (SqL.of hl), ?_⟩
  rw [List.length_map]
  walk_at "rd"
  refine ⟨_, _, _, rfl, ?_⟩
  have e1 : decide (((10 : Nat) : Int) ≤ (ps.length : Int) ∧ (ps.length : Int) ≤ ((10 : Nat) : Int) + 16) = decide (10 ≤ ps.length ∧ ps.length ≤ 26) := decide_eq_decide.mpr (by omega)
  rw [e1]
  refine i_bl ?_
  by_cases hlen : 10 ≤ ps.length ∧ ps.length ≤ 26
  · rw [decide_eq_true hlen]
    refine if_f ?_
    refine i_next ?_
    have ea : allowed ps = ((List.range 10).all (okAt ps) && (ps.drop 10).all (Kp423.inRange 1 16)) := by
      unfold allowed
      rw [decide_eq_true hlen]
      rfl
    refine i_seq ?_
    refine i_forZ ?_
    walk_at "rd"
    refine ⟨_, _, _, _, rfl, at_ _, SqL.of hl, ?_⟩
    refine ZTL.for_zipM (xs := as.map V.ref) (ys := ps.map nV) (by rw [List.length_map, List.length_map, al]; exact hlen.1) (fun k σ' H' => (∃ x y z, σ' = [some (.ref l), some (.int 10), x, y, z]) ∧ MM.Ext H H' ∧ ∀ j, j < k → okAt ps j = true) ⟨⟨_, _, _, rfl⟩, MM.Ext.refl H, fun j hj => absurd hj (by omega)⟩ ?_ ?_ ?_
    · rintro k σ' H' ⟨_, x1, _⟩
      exact ⟨at_ _, SqL.of (x1 _ _ hl)⟩
    · rintro k x y t σ' H' hx hy ⟨⟨x0, y0, z0, rfl⟩, x1, hk⟩ nt
      obtain ⟨a, ha, rfl⟩ : ∃ a, as[k]? = some a ∧ x = .ref a := by
        rw [List.getElem?_map] at hx
        cases q : as[k]? with
        | none => rw [q] at hx; cases hx
        | some a => rw [q] at hx; exact ⟨a, rfl, (Option.some.inj hx).symm⟩
      obtain ⟨n, hn, rfl⟩ : ∃ n, ps[k]? = some n ∧ y = nV n := by
        rw [List.getElem?_map] at hy
        cases q : ps[k]? with
        | none => rw [q] at hy; cases hy
        | some n => rw [q] at hy; exact ⟨n, rfl, (Option.some.inj hy).symm⟩
      have hk10 : k < 10 := by rw [← al]; exact (List.getElem?_eq_some_iff.mp ha).1
      obtain ⟨lm, hlm⟩ : ∃ lm, lims[k]? = some lm := ⟨_, List.getElem?_eq_getElem (show k < lims.length from hk10)⟩
      have tl := ai k a lm ha hlm
      have x2 := ext_new2 (u := .tup [.ref a, nV n]) x1 nt
      refine ⟨t, _, rfl, SqT.of upd_same, rfl, ?_⟩
      refine ⟨_, _, rfl, ?_⟩
      refine i_gname ?_
      refine ⟨_, _, rfl, ?_⟩
      refine i_gname ?_
      refine ⟨rfl, ?_⟩
      walk_at "rd"
      refine ⟨a, _, 0, _, rfl, rfl, tl _, rfl, ?_⟩
      walk_at "rd"
      refine ⟨a, _, 1, _, rfl, rfl, tl _, rfl, ?_⟩
      walk_at "rd"
      refine ⟨_, _, _, rfl, ?_⟩
      have eo := okAt_is hlm hn
      rw [← eo]
      refine i_bl ?_
      cases hq : okAt ps k with
      | true =>
        refine if_f ?_
        walk_at "rd"
        refine ⟨⟨_, _, _, rfl⟩, x2, fun j hj => ?_⟩
        by_cases z : j = k
        · rw [z]; exact hq
        · exact hk j (by omega)
      | false =>
        refine if_t ?_
        walk_at "rd"
        have ef : allowed ps = false := by
          rw [ea]
          have : (List.range 10).all (okAt ps) = false := by
            rw [List.all_eq_false]
            exact ⟨k, List.mem_range.mpr hk10, by rw [hq]; decide⟩
          rw [this]; rfl
        rw [ef] at h
        exact h _ x2
    · rintro σ' H' ⟨⟨x0, y0, z0, rfl⟩, x1, hk⟩
      rw [List.length_map, al] at hk
      have e10 : (List.range 10).all (okAt ps) = true := List.all_eq_true.mpr fun j hj => hk j (List.mem_range.mp hj)
      rw [e10, Bool.true_and] at ea
      rw [ea] at h
      have hl1 := x1 _ _ hl
      walk_at "rd"
      refine i_slL (SqL.of hl1) fun p np => ?_
      have hd : cutV (ps.map nV) (some (10 : Int)) none = (ps.drop 10).map nV := by
        rw [show (some (10 : Int)) = some ((10 : Nat) : Int) from rfl, cut_from, List.map_drop]
      rw [hd]
      have x2 := ext_new2 (u := .lst ((ps.drop 10).map nV)) x1 np
      walk_at "rd"
      refine lc_part (js := ps.drop 10) (A := nV) (y := fun s => .bl (Kp423.inRange 1 16 s)) (p := fun _ => true) (SqL.of upd_same) (small_size (by rw [List.length_drop]; omega)) (fun v => rfl) (fun j hj D ys Q' hD q => q) (fun j hj _ D ys Q' hD q => ?_) fun D nD => ?_
      · walk_at "rd"
        refine ⟨_, _, _, rfl, ?_⟩
        have e2 := range_is 1 16 j
        have e2 : decide ((1 : Int) ≤ (j : Int) ∧ (j : Int) ≤ 16) = Kp423.inRange 1 16 j := e2
        rw [e2]
        exact q
      · rw [List.filter_eq_self.mpr (fun _ _ => rfl)]
        have eb : (ps.drop 10).map (fun s => V.bl (Kp423.inRange 1 16 s)) = ((ps.drop 10).map (Kp423.inRange 1 16)).map V.bl := by rw [List.map_map]; rfl
        rw [eb]
        refine ⟨D, _, rfl, SqL.of upd_same, ?_⟩
        have e3 : ((ps.drop 10).map (Kp423.inRange 1 16)).all id = (ps.drop 10).all (Kp423.inRange 1 16) := by rw [List.all_map]; rfl
        rw [e3]
        exact h _ (ext_new2 x2 nD)
  · rw [decide_eq_false hlen]
    refine if_t ?_
    have ef : allowed ps = false := by
      unfold allowed
      rw [decide_eq_false hlen]
      rfl
    rw [ef] at h
    walk_at "rd"
    exact h _ (MM.Ext.refl H)
end

section
variable {P : Program} {w : World} {K : PySem.W.Frag} {mg : Str → Option Value} {base : Heap}
/-! ### the calls by their numbers -/
def mkCall : Nat → List Nat → Option Kp423.Call
  | 0, a :: b :: l => some (.create a b l)
  | 1, [a] => some (.addBackend a)
  | 2, [a] => some (.removeBackend a)
  | 3, [a, b] => some (.setWeight a b)
  | 4, [a, b, d] => some (.startCall a b d)
  | 5, [a, b, d] => some (.complete a b d)
  | 6, [a] => some (.cancel a)
  | 7, [a] => some (.advance a)
  | 8, [] => some (.nextTimer)
  | 9, l => some (.run l)
  | 10, [a] => some (.callInfo a)
  | 11, [a] => some (.attemptInfo a)
  | 12, [a] => some (.callAttempts a)
  | 13, [a] => some (.backendInfo a)
  | 14, [] => some (.runningAttempts)
  | 15, [a] => some (.previewChoice a)
  | 16, [a] => some (.ranking a)
  | 17, [a, b] => some (.hash a b)
  | 18, [] => some (.availableBackends)
  | 19, [a] => some (.backoffBound a)
  | 20, [] => some (.budget)
  | 21, [] => some (.totals)
  | 22, [] => some (.status)
  | _, _ => none
/-- what an answer_ def promises -/
def sp_ans (op : Nat) (K : PySem.W.Frag) : Sp := fun vs H Q _ => ∃ (L : Lo) (c : Client) (n : Nat) (l : Addr) (ns : List Nat) (x : Kp423.Call), vs = [.ref L.cl, .ref l] ∧ St K (tbs K) L c H ∧ Off L c l ∧ H l = some (.lst (ns.map nV)) ∧ ns.length ≤ 1000 ∧ Good n (some c) ∧ n + 2000 ≤ 1000000 ∧ mkCall op ns = some x ∧ Done K L c H (Kp423.step (some c) x) Q
def sp_answer_add_backend (K : PySem.W.Frag) : Sp := sp_ans 1 K
theorem sc_answer_add_backend : FnScope ["client", "numbers"] ["client", "numbers"] (defScope s_answer_add_backend) := ⟨rfl, rfl, rfl, by decide +kernel, rfl, by decide +kernel, by decide +kernel⟩
theorem ok_answer_add_backend (X : Tx K mg) : GF P w K mg base 4 (He.ga K "answer_add_backend") ["client", "numbers"] (sp_answer_add_backend K) := by
  refine GF.of X.d_answer_add_backend sc_answer_add_backend (fun vs H Q E h => ?_) (fun _ _ _ _ _ _ us hl => match us, hl with | [_, _], _ => rfl) (fun cdv A outer s H vs Q E hr h => ?_)
  · obtain ⟨L, c, n, l, ns, x, rfl, _⟩ := h; rfl
  obtain ⟨L, c, n, l, ns, x, rfl, h⟩ := h
  refine ⟨_, PSs.nox (pss_one (ps_ret (pe_fn (ok_add_backend X) X.g_add_backend (hr.mono (by decide)) (pa_cons (pv 0) (pa_cons (pe_ix ix_list (pv 1) pe_int (fun _ _ => rfl)) pa_nil))))), ?_⟩
  obtain ⟨S, ol, hl, hnl, ⟨g1, g2, g3, g4⟩, hn, hx, h⟩ := h
  have sz : Sz c := ⟨g2, g3, by omega⟩
  obtain ⟨a, rfl, rfl⟩ : ∃ a, ns = [a] ∧ x = .addBackend a := by
    match ns, hx with
    | [], hx => exact absurd (show none = some x from hx) (fun z => by cases z)
    | [a], hx => have hx : some (.addBackend a) = some x := hx; cases hx; exact ⟨a, rfl, rfl⟩
    | _ :: _ :: _, hx => exact absurd (show none = some x from hx) (fun z => by cases z)
  walk_at "rd"
  refine i_ixL (k := 0) (SqL.of hl) (v := nV a) rfl ?_
  walk_at "rd"
  exact ⟨L, c, a, rfl, S, g2, fun y hy => (g1.acc.idx y hy).2, h⟩
def sp_answer_remove_backend (K : PySem.W.Frag) : Sp := sp_ans 2 K
theorem sc_answer_remove_backend : FnScope ["client", "numbers"] ["client", "numbers"] (defScope s_answer_remove_backend) := ⟨rfl, rfl, rfl, by decide +kernel, rfl, by decide +kernel, by decide +kernel⟩
theorem ok_answer_remove_backend (X : Tx K mg) (TB : TabB base mg (He.cT K ("pick", none)).1 (He.cT K ("pick", none)).2) : GF P w K mg base 10 (He.ga K "answer_remove_backend") ["client", "numbers"] (sp_answer_remove_backend K) := by
  refine GF.of X.d_answer_remove_backend sc_answer_remove_backend (fun vs H Q E h => ?_) (fun _ _ _ _ _ _ us hl => match us, hl with | [_, _], _ => rfl) (fun cdv A outer s H vs Q E hr h => ?_)
  · obtain ⟨L, c, n, l, ns, x, rfl, _⟩ := h; rfl
  obtain ⟨L, c, n, l, ns, x, rfl, h⟩ := h
  refine ⟨_, PSs.nox (pss_one (ps_ret (pe_fn (ok_remove_backend X TB) X.g_remove_backend (hr.mono (by decide)) (pa_cons (pv 0) (pa_cons (pe_ix ix_list (pv 1) pe_int (fun _ _ => rfl)) pa_nil))))), ?_⟩
  obtain ⟨S, ol, hl, hnl, ⟨g1, g2, g3, g4⟩, hn, hx, h⟩ := h
  have sz : Sz c := ⟨g2, g3, by omega⟩
  obtain ⟨a, rfl, rfl⟩ : ∃ a, ns = [a] ∧ x = .removeBackend a := by
    match ns, hx with
    | [], hx => exact absurd (show none = some x from hx) (fun z => by cases z)
    | [a], hx => have hx : some (.removeBackend a) = some x := hx; cases hx; exact ⟨a, rfl, rfl⟩
    | _ :: _ :: _, hx => exact absurd (show none = some x from hx) (fun z => by cases z)
  walk_at "rd"
  refine i_ixL (k := 0) (SqL.of hl) (v := nV a) rfl ?_
  walk_at "rd"
  exact ⟨L, c, a, rfl, S, g2, g3, g1, by omega, h⟩
def sp_answer_set_weight (K : PySem.W.Frag) : Sp := sp_ans 3 K
theorem sc_answer_set_weight : FnScope ["client", "numbers"] ["client", "numbers"] (defScope s_answer_set_weight) := ⟨rfl, rfl, rfl, by decide +kernel, rfl, by decide +kernel, by decide +kernel⟩
theorem ok_answer_set_weight (X : Tx K mg) : GF P w K mg base 4 (He.ga K "answer_set_weight") ["client", "numbers"] (sp_answer_set_weight K) := by
  refine GF.of X.d_answer_set_weight sc_answer_set_weight (fun vs H Q E h => ?_) (fun _ _ _ _ _ _ us hl => match us, hl with | [_, _], _ => rfl) (fun cdv A outer s H vs Q E hr h => ?_)
  · obtain ⟨L, c, n, l, ns, x, rfl, _⟩ := h; rfl
  obtain ⟨L, c, n, l, ns, x, rfl, h⟩ := h
  refine ⟨_, PSs.nox (pss_one (ps_ret (pe_fn (ok_set_weight X) X.g_set_weight (hr.mono (by decide)) (pa_cons (pv 0) (pa_cons (pe_ix ix_list (pv 1) pe_int (fun _ _ => rfl)) (pa_cons (pe_ix ix_list (pv 1) pe_int (fun _ _ => rfl)) pa_nil)))))), ?_⟩
  obtain ⟨S, ol, hl, hnl, ⟨g1, g2, g3, g4⟩, hn, hx, h⟩ := h
  have sz : Sz c := ⟨g2, g3, by omega⟩
  obtain ⟨a, b, rfl, rfl⟩ : ∃ a b, ns = [a, b] ∧ x = .setWeight a b := by
    match ns, hx with
    | [], hx => exact absurd (show none = some x from hx) (fun z => by cases z)
    | [_], hx => exact absurd (show none = some x from hx) (fun z => by cases z)
    | [a, b], hx => have hx : some (.setWeight a b) = some x := hx; cases hx; exact ⟨a, b, rfl, rfl⟩
    | _ :: _ :: _ :: _, hx => exact absurd (show none = some x from hx) (fun z => by cases z)
  walk_at "rd"
  refine i_ixL (k := 0) (SqL.of hl) (v := nV a) rfl ?_
  walk_at "rd"
  refine i_ixL (k := 1) (SqL.of hl) (v := nV b) rfl ?_
  walk_at "rd"
  exact ⟨L, c, a, b, rfl, S, h⟩
def sp_answer_start_call (K : PySem.W.Frag) : Sp := sp_ans 4 K
theorem sc_answer_start_call : FnScope ["client", "numbers"] ["client", "numbers"] (defScope s_answer_start_call) := ⟨rfl, rfl, rfl, by decide +kernel, rfl, by decide +kernel, by decide +kernel⟩
theorem ok_answer_start_call (X : Tx K mg) (TB : TabB base mg (He.cT K ("pick", none)).1 (He.cT K ("pick", none)).2) : GF P w K mg base 8 (He.ga K "answer_start_call") ["client", "numbers"] (sp_answer_start_call K) := by
  refine GF.of X.d_answer_start_call sc_answer_start_call (fun vs H Q E h => ?_) (fun _ _ _ _ _ _ us hl => match us, hl with | [_, _], _ => rfl) (fun cdv A outer s H vs Q E hr h => ?_)
  · obtain ⟨L, c, n, l, ns, x, rfl, _⟩ := h; rfl
  obtain ⟨L, c, n, l, ns, x, rfl, h⟩ := h
  refine ⟨_, PSs.nox (pss_one (ps_ret (pe_fn (ok_start_call X TB) X.g_start_call (hr.mono (by decide)) (pa_cons (pv 0) (pa_cons (pe_ix ix_list (pv 1) pe_int (fun _ _ => rfl)) (pa_cons (pe_ix ix_list (pv 1) pe_int (fun _ _ => rfl)) (pa_cons (pe_ix ix_list (pv 1) pe_int (fun _ _ => rfl)) pa_nil))))))), ?_⟩
  obtain ⟨S, ol, hl, hnl, ⟨g1, g2, g3, g4⟩, hn, hx, h⟩ := h
  have sz : Sz c := ⟨g2, g3, by omega⟩
  obtain ⟨a, b, d, rfl, rfl⟩ : ∃ a b d, ns = [a, b, d] ∧ x = .startCall a b d := by
    match ns, hx with
    | [], hx => exact absurd (show none = some x from hx) (fun z => by cases z)
    | [_], hx => exact absurd (show none = some x from hx) (fun z => by cases z)
    | [_, _], hx => exact absurd (show none = some x from hx) (fun z => by cases z)
    | [a, b, d], hx => have hx : some (.startCall a b d) = some x := hx; cases hx; exact ⟨a, b, d, rfl, rfl⟩
    | _ :: _ :: _ :: _ :: _, hx => exact absurd (show none = some x from hx) (fun z => by cases z)
  walk_at "rd"
  refine i_ixL (k := 0) (SqL.of hl) (v := nV a) rfl ?_
  walk_at "rd"
  refine i_ixL (k := 1) (SqL.of hl) (v := nV b) rfl ?_
  walk_at "rd"
  refine i_ixL (k := 2) (SqL.of hl) (v := nV d) rfl ?_
  walk_at "rd"
  exact ⟨L, c, a, b, d, rfl, S, sz, g1.pol, g1.acc, by omega, h⟩
def sp_answer_complete (K : PySem.W.Frag) : Sp := sp_ans 5 K
theorem sc_answer_complete : FnScope ["client", "numbers"] ["client", "numbers"] (defScope s_answer_complete) := ⟨rfl, rfl, rfl, by decide +kernel, rfl, by decide +kernel, by decide +kernel⟩
theorem ok_answer_complete (X : Tx K mg) (TB : TabB base mg (He.cT K ("pick", none)).1 (He.cT K ("pick", none)).2) : GF P w K mg base 10 (He.ga K "answer_complete") ["client", "numbers"] (sp_answer_complete K) := by
  refine GF.of X.d_answer_complete sc_answer_complete (fun vs H Q E h => ?_) (fun _ _ _ _ _ _ us hl => match us, hl with | [_, _], _ => rfl) (fun cdv A outer s H vs Q E hr h => ?_)
  · obtain ⟨L, c, n, l, ns, x, rfl, _⟩ := h; rfl
  obtain ⟨L, c, n, l, ns, x, rfl, h⟩ := h
  refine ⟨_, PSs.nox (pss_one (ps_ret (pe_fn (ok_complete X TB) X.g_complete (hr.mono (by decide)) (pa_cons (pv 0) (pa_cons (pe_ix ix_list (pv 1) pe_int (fun _ _ => rfl)) (pa_cons (pe_ix ix_list (pv 1) pe_int (fun _ _ => rfl)) (pa_cons (pe_ix ix_list (pv 1) pe_int (fun _ _ => rfl)) pa_nil))))))), ?_⟩
  obtain ⟨S, ol, hl, hnl, ⟨g1, g2, g3, g4⟩, hn, hx, h⟩ := h
  have sz : Sz c := ⟨g2, g3, by omega⟩
  obtain ⟨a, b, d, rfl, rfl⟩ : ∃ a b d, ns = [a, b, d] ∧ x = .complete a b d := by
    match ns, hx with
    | [], hx => exact absurd (show none = some x from hx) (fun z => by cases z)
    | [_], hx => exact absurd (show none = some x from hx) (fun z => by cases z)
    | [_, _], hx => exact absurd (show none = some x from hx) (fun z => by cases z)
    | [a, b, d], hx => have hx : some (.complete a b d) = some x := hx; cases hx; exact ⟨a, b, d, rfl, rfl⟩
    | _ :: _ :: _ :: _ :: _, hx => exact absurd (show none = some x from hx) (fun z => by cases z)
  walk_at "rd"
  refine i_ixL (k := 0) (SqL.of hl) (v := nV a) rfl ?_
  walk_at "rd"
  refine i_ixL (k := 1) (SqL.of hl) (v := nV b) rfl ?_
  walk_at "rd"
  refine i_ixL (k := 2) (SqL.of hl) (v := nV d) rfl ?_
  walk_at "rd"
  exact ⟨L, c, a, b, d, rfl, S, sz, g1.pol, g1.acc, by omega, fun i hi => g1.few hi, h⟩
def sp_answer_cancel (K : PySem.W.Frag) : Sp := sp_ans 6 K
theorem sc_answer_cancel : FnScope ["client", "numbers"] ["client", "numbers"] (defScope s_answer_cancel) := ⟨rfl, rfl, rfl, by decide +kernel, rfl, by decide +kernel, by decide +kernel⟩
theorem ok_answer_cancel (X : Tx K mg) : GF P w K mg base 4 (He.ga K "answer_cancel") ["client", "numbers"] (sp_answer_cancel K) := by
  refine GF.of X.d_answer_cancel sc_answer_cancel (fun vs H Q E h => ?_) (fun _ _ _ _ _ _ us hl => match us, hl with | [_, _], _ => rfl) (fun cdv A outer s H vs Q E hr h => ?_)
  · obtain ⟨L, c, n, l, ns, x, rfl, _⟩ := h; rfl
  obtain ⟨L, c, n, l, ns, x, rfl, h⟩ := h
  refine ⟨_, PSs.nox (pss_one (ps_ret (pe_fn (ok_cancel X) X.g_cancel (hr.mono (by decide)) (pa_cons (pv 0) (pa_cons (pe_ix ix_list (pv 1) pe_int (fun _ _ => rfl)) pa_nil))))), ?_⟩
  obtain ⟨S, ol, hl, hnl, ⟨g1, g2, g3, g4⟩, hn, hx, h⟩ := h
  have sz : Sz c := ⟨g2, g3, by omega⟩
  obtain ⟨a, rfl, rfl⟩ : ∃ a, ns = [a] ∧ x = .cancel a := by
    match ns, hx with
    | [], hx => exact absurd (show none = some x from hx) (fun z => by cases z)
    | [a], hx => have hx : some (.cancel a) = some x := hx; cases hx; exact ⟨a, rfl, rfl⟩
    | _ :: _ :: _, hx => exact absurd (show none = some x from hx) (fun z => by cases z)
  walk_at "rd"
  refine i_ixL (k := 0) (SqL.of hl) (v := nV a) rfl ?_
  walk_at "rd"
  exact ⟨L, c, a, rfl, S, g1.acc, by omega, h⟩
def sp_answer_advance (K : PySem.W.Frag) : Sp := sp_ans 7 K
theorem sc_answer_advance : FnScope ["client", "numbers"] ["client", "numbers"] (defScope s_answer_advance) := ⟨rfl, rfl, rfl, by decide +kernel, rfl, by decide +kernel, by decide +kernel⟩
theorem ok_answer_advance (X : Tx K mg) (TB : TabB base mg (He.cT K ("pick", none)).1 (He.cT K ("pick", none)).2) : GF P w K mg base 10 (He.ga K "answer_advance") ["client", "numbers"] (sp_answer_advance K) := by
  refine GF.of X.d_answer_advance sc_answer_advance (fun vs H Q E h => ?_) (fun _ _ _ _ _ _ us hl => match us, hl with | [_, _], _ => rfl) (fun cdv A outer s H vs Q E hr h => ?_)
  · obtain ⟨L, c, n, l, ns, x, rfl, _⟩ := h; rfl
  obtain ⟨L, c, n, l, ns, x, rfl, h⟩ := h
  refine ⟨_, PSs.nox (pss_one (ps_ret (pe_fn (ok_advance X TB) X.g_advance (hr.mono (by decide)) (pa_cons (pv 0) (pa_cons (pe_ix ix_list (pv 1) pe_int (fun _ _ => rfl)) pa_nil))))), ?_⟩
  obtain ⟨S, ol, hl, hnl, ⟨g1, g2, g3, g4⟩, hn, hx, h⟩ := h
  have sz : Sz c := ⟨g2, g3, by omega⟩
  obtain ⟨a, rfl, rfl⟩ : ∃ a, ns = [a] ∧ x = .advance a := by
    match ns, hx with
    | [], hx => exact absurd (show none = some x from hx) (fun z => by cases z)
    | [a], hx => have hx : some (.advance a) = some x := hx; cases hx; exact ⟨a, rfl, rfl⟩
    | _ :: _ :: _, hx => exact absurd (show none = some x from hx) (fun z => by cases z)
  walk_at "rd"
  refine i_ixL (k := 0) (SqL.of hl) (v := nV a) rfl ?_
  walk_at "rd"
  exact ⟨L, c, a, rfl, S, sz, g1.pol, g1.acc, by omega, h⟩
def sp_answer_next_timer (K : PySem.W.Frag) : Sp := sp_ans 8 K
theorem sc_answer_next_timer : FnScope ["client", "numbers"] ["client", "numbers"] (defScope s_answer_next_timer) := ⟨rfl, rfl, rfl, by decide +kernel, rfl, by decide +kernel, by decide +kernel⟩
theorem ok_answer_next_timer (X : Tx K mg) : GF P w K mg base 4 (He.ga K "answer_next_timer") ["client", "numbers"] (sp_answer_next_timer K) := by
  refine GF.of X.d_answer_next_timer sc_answer_next_timer (fun vs H Q E h => ?_) (fun _ _ _ _ _ _ us hl => match us, hl with | [_, _], _ => rfl) (fun cdv A outer s H vs Q E hr h => ?_)
  · obtain ⟨L, c, n, l, ns, x, rfl, _⟩ := h; rfl
  obtain ⟨L, c, n, l, ns, x, rfl, h⟩ := h
  refine ⟨_, PSs.nox (pss_one (ps_ret (pe_fn (ok_tell_next_timer X) X.g_tell_next_timer (hr.mono (by decide)) (pa_cons (pv 0) pa_nil)))), ?_⟩
  obtain ⟨S, ol, hl, hnl, ⟨g1, g2, g3, g4⟩, hn, hx, h⟩ := h
  have sz : Sz c := ⟨g2, g3, by omega⟩
  obtain ⟨rfl, rfl⟩ : ns = [] ∧ x = .nextTimer := by
    match ns, hx with
    | [], hx => have hx : some (.nextTimer) = some x := hx; cases hx; exact ⟨rfl, rfl⟩
    | _ :: _, hx => exact absurd (show none = some x from hx) (fun z => by cases z)
  walk_at "rd"
  exact ⟨tbs K, L, c, rfl, S, sz, Told.done S rfl h⟩
def sp_answer_run (K : PySem.W.Frag) : Sp := sp_ans 9 K
theorem sc_answer_run : FnScope ["client", "numbers"] ["client", "numbers"] (defScope s_answer_run) := ⟨rfl, rfl, rfl, by decide +kernel, rfl, by decide +kernel, by decide +kernel⟩
theorem ok_answer_run (X : Tx K mg) (TB : TabB base mg (He.cT K ("pick", none)).1 (He.cT K ("pick", none)).2) : GF P w K mg base 11 (He.ga K "answer_run") ["client", "numbers"] (sp_answer_run K) := by
  refine GF.of X.d_answer_run sc_answer_run (fun vs H Q E h => ?_) (fun _ _ _ _ _ _ us hl => match us, hl with | [_, _], _ => rfl) (fun cdv A outer s H vs Q E hr h => ?_)
  · obtain ⟨L, c, n, l, ns, x, rfl, _⟩ := h; rfl
  obtain ⟨L, c, n, l, ns, x, rfl, h⟩ := h
  refine ⟨_, PSs.nox (pss_one (ps_ret (pe_fn (ok_run X TB) X.g_run (hr.mono (by decide)) (pa_cons (pv 0) (pa_cons (pv 1) pa_nil))))), ?_⟩
  obtain ⟨S, ol, hl, hnl, ⟨g1, g2, g3, g4⟩, hn, hx, h⟩ := h
  have sz : Sz c := ⟨g2, g3, by omega⟩
  have hx : some (.run ns) = some x := hx
  cases hx
  walk_at "rd"
  exact ⟨L, c, l, ns, rfl, S, ol, hl, hnl, g2, g3, g1, by omega, h⟩
def sp_answer_call_info (K : PySem.W.Frag) : Sp := sp_ans 10 K
theorem sc_answer_call_info : FnScope ["client", "numbers"] ["client", "numbers"] (defScope s_answer_call_info) := ⟨rfl, rfl, rfl, by decide +kernel, rfl, by decide +kernel, by decide +kernel⟩
theorem ok_answer_call_info (X : Tx K mg) : GF P w K mg base 3 (He.ga K "answer_call_info") ["client", "numbers"] (sp_answer_call_info K) := by
  refine GF.of X.d_answer_call_info sc_answer_call_info (fun vs H Q E h => ?_) (fun _ _ _ _ _ _ us hl => match us, hl with | [_, _], _ => rfl) (fun cdv A outer s H vs Q E hr h => ?_)
  · obtain ⟨L, c, n, l, ns, x, rfl, _⟩ := h; rfl
  obtain ⟨L, c, n, l, ns, x, rfl, h⟩ := h
  refine ⟨_, PSs.nox (pss_one (ps_ret (pe_fn (ok_tell_call X) X.g_tell_call (hr.mono (by decide)) (pa_cons (pv 0) (pa_cons (pe_ix ix_list (pv 1) pe_int (fun _ _ => rfl)) pa_nil))))), ?_⟩
  obtain ⟨S, ol, hl, hnl, ⟨g1, g2, g3, g4⟩, hn, hx, h⟩ := h
  have sz : Sz c := ⟨g2, g3, by omega⟩
  obtain ⟨a, rfl, rfl⟩ : ∃ a, ns = [a] ∧ x = .callInfo a := by
    match ns, hx with
    | [], hx => exact absurd (show none = some x from hx) (fun z => by cases z)
    | [a], hx => have hx : some (.callInfo a) = some x := hx; cases hx; exact ⟨a, rfl, rfl⟩
    | _ :: _ :: _, hx => exact absurd (show none = some x from hx) (fun z => by cases z)
  walk_at "rd"
  refine i_ixL (k := 0) (SqL.of hl) (v := nV a) rfl ?_
  walk_at "rd"
  exact ⟨tbs K, L, c, a, rfl, S, Told.done S rfl h⟩
def sp_answer_attempt_info (K : PySem.W.Frag) : Sp := sp_ans 11 K
theorem sc_answer_attempt_info : FnScope ["client", "numbers"] ["client", "numbers"] (defScope s_answer_attempt_info) := ⟨rfl, rfl, rfl, by decide +kernel, rfl, by decide +kernel, by decide +kernel⟩
theorem ok_answer_attempt_info (X : Tx K mg) : GF P w K mg base 3 (He.ga K "answer_attempt_info") ["client", "numbers"] (sp_answer_attempt_info K) := by
  refine GF.of X.d_answer_attempt_info sc_answer_attempt_info (fun vs H Q E h => ?_) (fun _ _ _ _ _ _ us hl => match us, hl with | [_, _], _ => rfl) (fun cdv A outer s H vs Q E hr h => ?_)
  · obtain ⟨L, c, n, l, ns, x, rfl, _⟩ := h; rfl
  obtain ⟨L, c, n, l, ns, x, rfl, h⟩ := h
  refine ⟨_, PSs.nox (pss_one (ps_ret (pe_fn (ok_tell_attempt X) X.g_tell_attempt (hr.mono (by decide)) (pa_cons (pv 0) (pa_cons (pe_ix ix_list (pv 1) pe_int (fun _ _ => rfl)) pa_nil))))), ?_⟩
  obtain ⟨S, ol, hl, hnl, ⟨g1, g2, g3, g4⟩, hn, hx, h⟩ := h
  have sz : Sz c := ⟨g2, g3, by omega⟩
  obtain ⟨a, rfl, rfl⟩ : ∃ a, ns = [a] ∧ x = .attemptInfo a := by
    match ns, hx with
    | [], hx => exact absurd (show none = some x from hx) (fun z => by cases z)
    | [a], hx => have hx : some (.attemptInfo a) = some x := hx; cases hx; exact ⟨a, rfl, rfl⟩
    | _ :: _ :: _, hx => exact absurd (show none = some x from hx) (fun z => by cases z)
  walk_at "rd"
  refine i_ixL (k := 0) (SqL.of hl) (v := nV a) rfl ?_
  walk_at "rd"
  exact ⟨tbs K, L, c, a, rfl, S, fun y hy => ⟨(g1.acc.idx y hy).1, (g1.acc.idx y hy).2, g1.st y hy⟩, Told.done S rfl h⟩
def sp_answer_call_attempts (K : PySem.W.Frag) : Sp := sp_ans 12 K
theorem sc_answer_call_attempts : FnScope ["client", "numbers"] ["client", "numbers"] (defScope s_answer_call_attempts) := ⟨rfl, rfl, rfl, by decide +kernel, rfl, by decide +kernel, by decide +kernel⟩
theorem ok_answer_call_attempts (X : Tx K mg) : GF P w K mg base 3 (He.ga K "answer_call_attempts") ["client", "numbers"] (sp_answer_call_attempts K) := by
  refine GF.of X.d_answer_call_attempts sc_answer_call_attempts (fun vs H Q E h => ?_) (fun _ _ _ _ _ _ us hl => match us, hl with | [_, _], _ => rfl) (fun cdv A outer s H vs Q E hr h => ?_)
  · obtain ⟨L, c, n, l, ns, x, rfl, _⟩ := h; rfl
  obtain ⟨L, c, n, l, ns, x, rfl, h⟩ := h
  refine ⟨_, PSs.nox (pss_one (ps_ret (pe_fn (ok_tell_call_attempts X) X.g_tell_call_attempts (hr.mono (by decide)) (pa_cons (pv 0) (pa_cons (pe_ix ix_list (pv 1) pe_int (fun _ _ => rfl)) pa_nil))))), ?_⟩
  obtain ⟨S, ol, hl, hnl, ⟨g1, g2, g3, g4⟩, hn, hx, h⟩ := h
  have sz : Sz c := ⟨g2, g3, by omega⟩
  obtain ⟨a, rfl, rfl⟩ : ∃ a, ns = [a] ∧ x = .callAttempts a := by
    match ns, hx with
    | [], hx => exact absurd (show none = some x from hx) (fun z => by cases z)
    | [a], hx => have hx : some (.callAttempts a) = some x := hx; cases hx; exact ⟨a, rfl, rfl⟩
    | _ :: _ :: _, hx => exact absurd (show none = some x from hx) (fun z => by cases z)
  walk_at "rd"
  refine i_ixL (k := 0) (SqL.of hl) (v := nV a) rfl ?_
  walk_at "rd"
  exact ⟨tbs K, L, c, a, rfl, S, by omega, Told.done S rfl h⟩
def sp_answer_backend_info (K : PySem.W.Frag) : Sp := sp_ans 13 K
theorem sc_answer_backend_info : FnScope ["client", "numbers"] ["client", "numbers"] (defScope s_answer_backend_info) := ⟨rfl, rfl, rfl, by decide +kernel, rfl, by decide +kernel, by decide +kernel⟩
theorem ok_answer_backend_info (X : Tx K mg) : GF P w K mg base 3 (He.ga K "answer_backend_info") ["client", "numbers"] (sp_answer_backend_info K) := by
  refine GF.of X.d_answer_backend_info sc_answer_backend_info (fun vs H Q E h => ?_) (fun _ _ _ _ _ _ us hl => match us, hl with | [_, _], _ => rfl) (fun cdv A outer s H vs Q E hr h => ?_)
  · obtain ⟨L, c, n, l, ns, x, rfl, _⟩ := h; rfl
  obtain ⟨L, c, n, l, ns, x, rfl, h⟩ := h
  refine ⟨_, PSs.nox (pss_one (ps_ret (pe_fn (ok_tell_backend X) X.g_tell_backend (hr.mono (by decide)) (pa_cons (pv 0) (pa_cons (pe_ix ix_list (pv 1) pe_int (fun _ _ => rfl)) pa_nil))))), ?_⟩
  obtain ⟨S, ol, hl, hnl, ⟨g1, g2, g3, g4⟩, hn, hx, h⟩ := h
  have sz : Sz c := ⟨g2, g3, by omega⟩
  obtain ⟨a, rfl, rfl⟩ : ∃ a, ns = [a] ∧ x = .backendInfo a := by
    match ns, hx with
    | [], hx => exact absurd (show none = some x from hx) (fun z => by cases z)
    | [a], hx => have hx : some (.backendInfo a) = some x := hx; cases hx; exact ⟨a, rfl, rfl⟩
    | _ :: _ :: _, hx => exact absurd (show none = some x from hx) (fun z => by cases z)
  walk_at "rd"
  refine i_ixL (k := 0) (SqL.of hl) (v := nV a) rfl ?_
  walk_at "rd"
  exact ⟨tbs K, L, c, a, rfl, S, Told.done S rfl h⟩
def sp_answer_running_attempts (K : PySem.W.Frag) : Sp := sp_ans 14 K
theorem sc_answer_running_attempts : FnScope ["client", "numbers"] ["client", "numbers"] (defScope s_answer_running_attempts) := ⟨rfl, rfl, rfl, by decide +kernel, rfl, by decide +kernel, by decide +kernel⟩
theorem ok_answer_running_attempts (X : Tx K mg) : GF P w K mg base 3 (He.ga K "answer_running_attempts") ["client", "numbers"] (sp_answer_running_attempts K) := by
  refine GF.of X.d_answer_running_attempts sc_answer_running_attempts (fun vs H Q E h => ?_) (fun _ _ _ _ _ _ us hl => match us, hl with | [_, _], _ => rfl) (fun cdv A outer s H vs Q E hr h => ?_)
  · obtain ⟨L, c, n, l, ns, x, rfl, _⟩ := h; rfl
  obtain ⟨L, c, n, l, ns, x, rfl, h⟩ := h
  refine ⟨_, PSs.nox (pss_one (ps_ret (pe_fn (ok_tell_running_attempts X) X.g_tell_running_attempts (hr.mono (by decide)) (pa_cons (pv 0) pa_nil)))), ?_⟩
  obtain ⟨S, ol, hl, hnl, ⟨g1, g2, g3, g4⟩, hn, hx, h⟩ := h
  have sz : Sz c := ⟨g2, g3, by omega⟩
  obtain ⟨rfl, rfl⟩ : ns = [] ∧ x = .runningAttempts := by
    match ns, hx with
    | [], hx => have hx : some (.runningAttempts) = some x := hx; cases hx; exact ⟨rfl, rfl⟩
    | _ :: _, hx => exact absurd (show none = some x from hx) (fun z => by cases z)
  walk_at "rd"
  exact ⟨tbs K, L, c, rfl, S, by omega, Told.done S rfl h⟩
def sp_answer_preview_choice (K : PySem.W.Frag) : Sp := sp_ans 15 K
theorem sc_answer_preview_choice : FnScope ["client", "numbers"] ["client", "numbers"] (defScope s_answer_preview_choice) := ⟨rfl, rfl, rfl, by decide +kernel, rfl, by decide +kernel, by decide +kernel⟩
theorem ok_answer_preview_choice (X : Tx K mg) (TB : TabB base mg (He.cT K ("pick", none)).1 (He.cT K ("pick", none)).2) : GF P w K mg base 7 (He.ga K "answer_preview_choice") ["client", "numbers"] (sp_answer_preview_choice K) := by
  refine GF.of X.d_answer_preview_choice sc_answer_preview_choice (fun vs H Q E h => ?_) (fun _ _ _ _ _ _ us hl => match us, hl with | [_, _], _ => rfl) (fun cdv A outer s H vs Q E hr h => ?_)
  · obtain ⟨L, c, n, l, ns, x, rfl, _⟩ := h; rfl
  obtain ⟨L, c, n, l, ns, x, rfl, h⟩ := h
  refine ⟨_, PSs.nox (pss_one (ps_ret (pe_fn (ok_tell_preview X TB) X.g_tell_preview (hr.mono (by decide)) (pa_cons (pv 0) (pa_cons (pe_ix ix_list (pv 1) pe_int (fun _ _ => rfl)) pa_nil))))), ?_⟩
  obtain ⟨S, ol, hl, hnl, ⟨g1, g2, g3, g4⟩, hn, hx, h⟩ := h
  have sz : Sz c := ⟨g2, g3, by omega⟩
  obtain ⟨a, rfl, rfl⟩ : ∃ a, ns = [a] ∧ x = .previewChoice a := by
    match ns, hx with
    | [], hx => exact absurd (show none = some x from hx) (fun z => by cases z)
    | [a], hx => have hx : some (.previewChoice a) = some x := hx; cases hx; exact ⟨a, rfl, rfl⟩
    | _ :: _ :: _, hx => exact absurd (show none = some x from hx) (fun z => by cases z)
  walk_at "rd"
  refine i_ixL (k := 0) (SqL.of hl) (v := nV a) rfl ?_
  walk_at "rd"
  exact ⟨L, c, a, rfl, S, sz, g1.pol, h⟩
def sp_answer_ranking (K : PySem.W.Frag) : Sp := sp_ans 16 K
theorem sc_answer_ranking : FnScope ["client", "numbers"] ["client", "numbers"] (defScope s_answer_ranking) := ⟨rfl, rfl, rfl, by decide +kernel, rfl, by decide +kernel, by decide +kernel⟩
theorem ok_answer_ranking (X : Tx K mg) (TR : TabB base mg (He.cT K ("tell_ranking", none)).1 (He.cT K ("tell_ranking", none)).2) : GF P w K mg base 7 (He.ga K "answer_ranking") ["client", "numbers"] (sp_answer_ranking K) := by
  refine GF.of X.d_answer_ranking sc_answer_ranking (fun vs H Q E h => ?_) (fun _ _ _ _ _ _ us hl => match us, hl with | [_, _], _ => rfl) (fun cdv A outer s H vs Q E hr h => ?_)
  · obtain ⟨L, c, n, l, ns, x, rfl, _⟩ := h; rfl
  obtain ⟨L, c, n, l, ns, x, rfl, h⟩ := h
  refine ⟨_, PSs.nox (pss_one (ps_ret (pe_fn (ok_tell_ranking X TR) X.g_tell_ranking (hr.mono (by decide)) (pa_cons (pv 0) (pa_cons (pe_ix ix_list (pv 1) pe_int (fun _ _ => rfl)) pa_nil))))), ?_⟩
  obtain ⟨S, ol, hl, hnl, ⟨g1, g2, g3, g4⟩, hn, hx, h⟩ := h
  have sz : Sz c := ⟨g2, g3, by omega⟩
  obtain ⟨a, rfl, rfl⟩ : ∃ a, ns = [a] ∧ x = .ranking a := by
    match ns, hx with
    | [], hx => exact absurd (show none = some x from hx) (fun z => by cases z)
    | [a], hx => have hx : some (.ranking a) = some x := hx; cases hx; exact ⟨a, rfl, rfl⟩
    | _ :: _ :: _, hx => exact absurd (show none = some x from hx) (fun z => by cases z)
  walk_at "rd"
  refine i_ixL (k := 0) (SqL.of hl) (v := nV a) rfl ?_
  walk_at "rd"
  exact ⟨L, c, a, rfl, S, sz, h⟩
def sp_answer_hash (K : PySem.W.Frag) : Sp := sp_ans 17 K
theorem sc_answer_hash : FnScope ["client", "numbers"] ["client", "numbers"] (defScope s_answer_hash) := ⟨rfl, rfl, rfl, by decide +kernel, rfl, by decide +kernel, by decide +kernel⟩
theorem ok_answer_hash (X : Tx K mg) : GF P w K mg base 4 (He.ga K "answer_hash") ["client", "numbers"] (sp_answer_hash K) := by
  refine GF.of X.d_answer_hash sc_answer_hash (fun vs H Q E h => ?_) (fun _ _ _ _ _ _ us hl => match us, hl with | [_, _], _ => rfl) (fun cdv A outer s H vs Q E hr h => ?_)
  · obtain ⟨L, c, n, l, ns, x, rfl, _⟩ := h; rfl
  obtain ⟨L, c, n, l, ns, x, rfl, h⟩ := h
  refine ⟨_, PSs.nox (pss_one (ps_ret (pe_fn (ok_tell_hash X) X.g_tell_hash (hr.mono (by decide)) (pa_cons (pe_ix ix_list (pv 1) pe_int (fun _ _ => rfl)) (pa_cons (pe_ix ix_list (pv 1) pe_int (fun _ _ => rfl)) pa_nil))))), ?_⟩
  obtain ⟨S, ol, hl, hnl, ⟨g1, g2, g3, g4⟩, hn, hx, h⟩ := h
  have sz : Sz c := ⟨g2, g3, by omega⟩
  obtain ⟨a, b, rfl, rfl⟩ : ∃ a b, ns = [a, b] ∧ x = .hash a b := by
    match ns, hx with
    | [], hx => exact absurd (show none = some x from hx) (fun z => by cases z)
    | [_], hx => exact absurd (show none = some x from hx) (fun z => by cases z)
    | [a, b], hx => have hx : some (.hash a b) = some x := hx; cases hx; exact ⟨a, b, rfl, rfl⟩
    | _ :: _ :: _ :: _, hx => exact absurd (show none = some x from hx) (fun z => by cases z)
  walk_at "rd"
  refine i_ixL (k := 0) (SqL.of hl) (v := nV a) rfl ?_
  walk_at "rd"
  refine i_ixL (k := 1) (SqL.of hl) (v := nV b) rfl ?_
  walk_at "rd"
  exact ⟨a, b, rfl, Told.done S rfl h⟩
def sp_answer_available_backends (K : PySem.W.Frag) : Sp := sp_ans 18 K
theorem sc_answer_available_backends : FnScope ["client", "numbers"] ["client", "numbers"] (defScope s_answer_available_backends) := ⟨rfl, rfl, rfl, by decide +kernel, rfl, by decide +kernel, by decide +kernel⟩
theorem ok_answer_available_backends (X : Tx K mg) : GF P w K mg base 5 (He.ga K "answer_available_backends") ["client", "numbers"] (sp_answer_available_backends K) := by
  refine GF.of X.d_answer_available_backends sc_answer_available_backends (fun vs H Q E h => ?_) (fun _ _ _ _ _ _ us hl => match us, hl with | [_, _], _ => rfl) (fun cdv A outer s H vs Q E hr h => ?_)
  · obtain ⟨L, c, n, l, ns, x, rfl, _⟩ := h; rfl
  obtain ⟨L, c, n, l, ns, x, rfl, h⟩ := h
  refine ⟨_, PSs.nox (pss_one (ps_ret (pe_fn (ok_tell_available_backends X) X.g_tell_available_backends (hr.mono (by decide)) (pa_cons (pv 0) pa_nil)))), ?_⟩
  obtain ⟨S, ol, hl, hnl, ⟨g1, g2, g3, g4⟩, hn, hx, h⟩ := h
  have sz : Sz c := ⟨g2, g3, by omega⟩
  obtain ⟨rfl, rfl⟩ : ns = [] ∧ x = .availableBackends := by
    match ns, hx with
    | [], hx => have hx : some (.availableBackends) = some x := hx; cases hx; exact ⟨rfl, rfl⟩
    | _ :: _, hx => exact absurd (show none = some x from hx) (fun z => by cases z)
  walk_at "rd"
  exact ⟨tbs K, L, c, rfl, S, sz, Told.done S rfl h⟩
def sp_answer_backoff_bound (K : PySem.W.Frag) : Sp := sp_ans 19 K
theorem sc_answer_backoff_bound : FnScope ["client", "numbers"] ["client", "numbers"] (defScope s_answer_backoff_bound) := ⟨rfl, rfl, rfl, by decide +kernel, rfl, by decide +kernel, by decide +kernel⟩
theorem ok_answer_backoff_bound (X : Tx K mg) : GF P w K mg base 3 (He.ga K "answer_backoff_bound") ["client", "numbers"] (sp_answer_backoff_bound K) := by
  refine GF.of X.d_answer_backoff_bound sc_answer_backoff_bound (fun vs H Q E h => ?_) (fun _ _ _ _ _ _ us hl => match us, hl with | [_, _], _ => rfl) (fun cdv A outer s H vs Q E hr h => ?_)
  · obtain ⟨L, c, n, l, ns, x, rfl, _⟩ := h; rfl
  obtain ⟨L, c, n, l, ns, x, rfl, h⟩ := h
  refine ⟨_, PSs.nox (pss_one (ps_ret (pe_fn (ok_tell_backoff_bound X) X.g_tell_backoff_bound (hr.mono (by decide)) (pa_cons (pv 0) (pa_cons (pe_ix ix_list (pv 1) pe_int (fun _ _ => rfl)) pa_nil))))), ?_⟩
  obtain ⟨S, ol, hl, hnl, ⟨g1, g2, g3, g4⟩, hn, hx, h⟩ := h
  have sz : Sz c := ⟨g2, g3, by omega⟩
  obtain ⟨a, rfl, rfl⟩ : ∃ a, ns = [a] ∧ x = .backoffBound a := by
    match ns, hx with
    | [], hx => exact absurd (show none = some x from hx) (fun z => by cases z)
    | [a], hx => have hx : some (.backoffBound a) = some x := hx; cases hx; exact ⟨a, rfl, rfl⟩
    | _ :: _ :: _, hx => exact absurd (show none = some x from hx) (fun z => by cases z)
  walk_at "rd"
  refine i_ixL (k := 0) (SqL.of hl) (v := nV a) rfl ?_
  walk_at "rd"
  exact ⟨tbs K, L, c, a, rfl, S, g1.pol, Told.done S rfl h⟩
def sp_answer_budget (K : PySem.W.Frag) : Sp := sp_ans 20 K
theorem sc_answer_budget : FnScope ["client", "numbers"] ["client", "numbers"] (defScope s_answer_budget) := ⟨rfl, rfl, rfl, by decide +kernel, rfl, by decide +kernel, by decide +kernel⟩
theorem ok_answer_budget (X : Tx K mg) : GF P w K mg base 4 (He.ga K "answer_budget") ["client", "numbers"] (sp_answer_budget K) := by
  refine GF.of X.d_answer_budget sc_answer_budget (fun vs H Q E h => ?_) (fun _ _ _ _ _ _ us hl => match us, hl with | [_, _], _ => rfl) (fun cdv A outer s H vs Q E hr h => ?_)
  · obtain ⟨L, c, n, l, ns, x, rfl, _⟩ := h; rfl
  obtain ⟨L, c, n, l, ns, x, rfl, h⟩ := h
  refine ⟨_, PSs.nox (pss_one (ps_ret (pe_fn (ok_tell_budget X) X.g_tell_budget (hr.mono (by decide)) (pa_cons (pv 0) pa_nil)))), ?_⟩
  obtain ⟨S, ol, hl, hnl, ⟨g1, g2, g3, g4⟩, hn, hx, h⟩ := h
  have sz : Sz c := ⟨g2, g3, by omega⟩
  obtain ⟨rfl, rfl⟩ : ns = [] ∧ x = .budget := by
    match ns, hx with
    | [], hx => have hx : some (.budget) = some x := hx; cases hx; exact ⟨rfl, rfl⟩
    | _ :: _, hx => exact absurd (show none = some x from hx) (fun z => by cases z)
  walk_at "rd"
  exact ⟨tbs K, L, c, rfl, S, Told.done S rfl h⟩
def sp_answer_totals (K : PySem.W.Frag) : Sp := sp_ans 21 K
theorem sc_answer_totals : FnScope ["client", "numbers"] ["client", "numbers"] (defScope s_answer_totals) := ⟨rfl, rfl, rfl, by decide +kernel, rfl, by decide +kernel, by decide +kernel⟩
theorem ok_answer_totals (X : Tx K mg) : GF P w K mg base 2 (He.ga K "answer_totals") ["client", "numbers"] (sp_answer_totals K) := by
  refine GF.of X.d_answer_totals sc_answer_totals (fun vs H Q E h => ?_) (fun _ _ _ _ _ _ us hl => match us, hl with | [_, _], _ => rfl) (fun cdv A outer s H vs Q E hr h => ?_)
  · obtain ⟨L, c, n, l, ns, x, rfl, _⟩ := h; rfl
  obtain ⟨L, c, n, l, ns, x, rfl, h⟩ := h
  refine ⟨_, PSs.nox (pss_one (ps_ret (pe_fn (ok_tell_totals X) X.g_tell_totals (hr.mono (by decide)) (pa_cons (pv 0) pa_nil)))), ?_⟩
  obtain ⟨S, ol, hl, hnl, ⟨g1, g2, g3, g4⟩, hn, hx, h⟩ := h
  have sz : Sz c := ⟨g2, g3, by omega⟩
  obtain ⟨rfl, rfl⟩ : ns = [] ∧ x = .totals := by
    match ns, hx with
    | [], hx => have hx : some (.totals) = some x := hx; cases hx; exact ⟨rfl, rfl⟩
    | _ :: _, hx => exact absurd (show none = some x from hx) (fun z => by cases z)
  walk_at "rd"
  exact ⟨tbs K, L, c, rfl, S, sz, Told.done S rfl h⟩
def sp_answer_status (K : PySem.W.Frag) : Sp := sp_ans 22 K
theorem sc_answer_status : FnScope ["client", "numbers"] ["client", "numbers"] (defScope s_answer_status) := ⟨rfl, rfl, rfl, by decide +kernel, rfl, by decide +kernel, by decide +kernel⟩
theorem ok_answer_status (X : Tx K mg) : GF P w K mg base 3 (He.ga K "answer_status") ["client", "numbers"] (sp_answer_status K) := by
  refine GF.of X.d_answer_status sc_answer_status (fun vs H Q E h => ?_) (fun _ _ _ _ _ _ us hl => match us, hl with | [_, _], _ => rfl) (fun cdv A outer s H vs Q E hr h => ?_)
  · obtain ⟨L, c, n, l, ns, x, rfl, _⟩ := h; rfl
  obtain ⟨L, c, n, l, ns, x, rfl, h⟩ := h
  refine ⟨_, PSs.nox (pss_one (ps_ret (pe_fn (ok_tell_status X) X.g_tell_status (hr.mono (by decide)) (pa_cons (pv 0) pa_nil)))), ?_⟩
  obtain ⟨S, ol, hl, hnl, ⟨g1, g2, g3, g4⟩, hn, hx, h⟩ := h
  have sz : Sz c := ⟨g2, g3, by omega⟩
  obtain ⟨rfl, rfl⟩ : ns = [] ∧ x = .status := by
    match ns, hx with
    | [], hx => have hx : some (.status) = some x := hx; cases hx; exact ⟨rfl, rfl⟩
    | _ :: _, hx => exact absurd (show none = some x from hx) (fun z => by cases z)
  walk_at "rd"
  exact ⟨tbs K, L, c, rfl, S, sz, Told.done S rfl h⟩
end

section
variable {P : Program} {w : World} {K : PySem.W.Frag} {mg : Str → Option Value} {base : Heap}
/-! ### the session holds a client or none -/
structure Ses (K : PySem.W.Frag) (H : Hp) (s : Addr) (o : Option Client) (n : Nat) (bs : List Addr) : Prop where
  tabs : Tabs (tbs K) H
  good : Good n o
  ne : ∀ b ∈ bs, b ≠ s
  there : ∀ b ∈ bs, ∃ u, H b = some u ∧ ∀ ps, u ≠ .tbl ps
  at_ : (o = none ∧ ∃ dx, H s = some (.ins (He.ga K "Session") dx [("client", .non)])) ∨
    ∃ c L dx, o = some c ∧ St K (tbs K) L c H ∧ Off L c s ∧ (∀ b ∈ bs, Off L c b) ∧ H s = some (.ins (He.ga K "Session") dx [("client", .ref L.cl)])
theorem Off.stay {L : Lo} {c : Client} {b : Addr} (h : Off L c b) : Off L c b := h
theorem Ses.ext {K : PySem.W.Frag} {H H' : Hp} {s : Addr} {o : Option Client} {n : Nat} {bs : List Addr} (h : Ses K H s o n bs) (e : MM.Ext H H') : Ses K H' s o n bs := by
  refine ⟨Tabs.ext h.tabs e, h.good, h.ne, fun b hb => ?_, ?_⟩
  · obtain ⟨u, hu, hn⟩ := h.there b hb
    exact ⟨u, e _ _ hu, hn⟩
  · rcases h.at_ with ⟨h1, dx, h2⟩ | ⟨c, L, dx, h1, h2, h3, h4, h5⟩
    · exact .inl ⟨h1, dx, e _ _ h2⟩
    · exact .inr ⟨c, L, dx, h1, h2.ext e, h3, h4, e _ _ h5⟩
theorem Ses.keep {K : PySem.W.Frag} {H H' : Hp} {s : Addr} {o : Option Client} {n : Nat} {bs : List Addr} (h : Ses K H s o n bs) (e : MM.Ext H H') : ∀ b ∈ bs, H' b = H b := fun b hb => by
  obtain ⟨u, hu, _⟩ := h.there b hb
  rw [hu, e _ _ hu]
theorem Ses.le {K : PySem.W.Frag} {H : Hp} {s : Addr} {o : Option Client} {n m : Nat} {bs : List Addr} (h : Ses K H s o n bs) (hm : n ≤ m) : Ses K H s o m bs := ⟨h.tabs, h.good.le hm, h.ne, h.there, h.at_⟩
theorem Ses.sub {K : PySem.W.Frag} {H : Hp} {s : Addr} {o : Option Client} {n : Nat} {bs cs : List Addr} (h : Ses K H s o n bs) (hc : ∀ b ∈ cs, b ∈ bs) : Ses K H s o n cs := by
  refine ⟨h.tabs, h.good, fun b hb => h.ne b (hc b hb), fun b hb => h.there b (hc b hb), ?_⟩
  rcases h.at_ with ⟨h1, dx, h2⟩ | ⟨c, L, dx, h1, h2, h3, h4, h5⟩
  · exact .inl ⟨h1, dx, h2⟩
  · exact .inr ⟨c, L, dx, h1, h2, h3, fun b hb => h4 b (hc b hb), h5⟩
/-- something new beside it -/
theorem Ses.new {K : PySem.W.Frag} {H : Hp} {s : Addr} {o : Option Client} {n : Nat} {bs : List Addr} {p : Addr} {u : HO} (h : Ses K H s o n bs) (np : H p = none) (hu : ∀ ps, u ≠ .tbl ps) : Ses K (upd H p u) s o n (p :: bs) := by
  have e := ext_new (u := u) np
  have h2 := h.ext e
  refine ⟨h2.tabs, h2.good, fun b hb => ?_, fun b hb => ?_, ?_⟩
  · rcases List.mem_cons.mp hb with rfl | hb
    · rcases h.at_ with ⟨h1, dx, h2⟩ | ⟨c, L, dx, h1, h2, h3, h4, h5⟩
      · exact fun z => by rw [z, h2] at np; cases np
      · exact fun z => by rw [z, h5] at np; cases np
    · exact h.ne b hb
  · rcases List.mem_cons.mp hb with rfl | hb
    · exact ⟨u, upd_same, hu⟩
    · exact h2.there b hb
  · rcases h2.at_ with ⟨h1, dx, h2⟩ | ⟨c, L, dx, h1, h2, h3, h4, h5⟩
    · exact .inl ⟨h1, dx, h2⟩
    · rcases h.at_ with ⟨g1, _⟩ | ⟨c', L', dx', g1, g2, g3, g4, g5⟩
      · rw [g1] at h1; cases h1
      · refine .inr ⟨c', L', dx', g1, g2.ext e, g3, fun b hb => ?_, e _ _ g5⟩
        rcases List.mem_cons.mp hb with rfl | hb
        · exact Off.of_none g2 np
        · exact g4 b hb
/-- the object of a step -/
def Ses2 (K : PySem.W.Frag) (H : Hp) (s : Addr) (bs : List Addr) (n : Nat) (r : Kp423.State × Kp423.Ans) (Q : VK) : Prop := ∀ D H', Ses K H' s r.1 (n + 1000) bs → (∀ b ∈ bs, H' b = H b) → H' D = some (.lst (row r.2)) → (∀ xs, H D ≠ some (.lst xs)) → Q (.ref D) H'
theorem Ses2.ext {K : PySem.W.Frag} {H H1 : Hp} {s : Addr} {o : Option Client} {n m : Nat} {bs : List Addr} {r : Kp423.State × Kp423.Ans} {Q : VK} (h : Ses2 K H s bs n r Q) (S : Ses K H s o m bs) (e : MM.Ext H H1) : Ses2 K H1 s bs n r Q := fun D H' x k q f => h D H' x (fun b hb => (k b hb).trans (S.keep e b hb)) q fun xs z => f xs (e _ _ z)
/-- nothing has changed but that something new is there -/
theorem Ses2.same {K : PySem.W.Frag} {H H1 : Hp} {s : Addr} {o : Option Client} {n : Nat} {bs : List Addr} {r : Kp423.State × Kp423.Ans} {a : Kp423.Ans} {Q : VK} (h : Ses2 K H s bs n r Q) (S : Ses K H s o n bs) (e : r = (o, a)) (x : MM.Ext H H1) {D : Addr} {xs : List V} (nD : H1 D = none) (hx : xs = row a) : Q (.ref D) (upd H1 D (.lst xs)) := by
  subst e
  refine h D _ ((S.le (Nat.le_add_right _ _)).ext (ext_new2 x nD)) (S.keep (ext_new2 x nD)) (by rw [upd_same, hx]) fun ys z => ?_
  rw [x.fresh _ nD] at z
  cases z
/-- a client's step -/
theorem Ses2.done {K : PySem.W.Frag} {H : Hp} {s : Addr} {c : Client} {L : Lo} {dx : Addr} {n : Nat} {bs : List Addr} {x : Kp423.Call} {Q : VK} (h : Ses2 K H s bs n (Kp423.step (some c) x) Q) (G : Good n (some c)) (ne : ∀ b ∈ bs, b ≠ s) (there : ∀ b ∈ bs, ∃ u, H b = some u ∧ ∀ ps, u ≠ .tbl ps) (os : Off L c s) (ob : ∀ b ∈ bs, Off L c b) (hs : H s = some (.ins (He.ga K "Session") dx [("client", .ref L.cl)])) :
    Done K L c H (Kp423.step (some c) x) Q := by
  intro L' c' D H' e n' f q
  have G' := step_good G x
  have kp : ∀ b ∈ bs, H' b = H b := fun b hb => by
    obtain ⟨u, hu, hn⟩ := there b hb
    rw [hu, n'.keep _ _ hu (ob b hb) hn]
  refine h D H' ⟨n'.st.tabs, G', ne, fun b hb => ?_, .inr ⟨c', L', dx, e, n'.st, n'.off os hs (fun ps z => by cases z), fun b hb => ?_, ?_⟩⟩ kp q f
  · obtain ⟨u, hu, hn⟩ := there b hb
    exact ⟨u, (kp b hb).trans hu, hn⟩
  · obtain ⟨u, hu, hn⟩ := there b hb
    exact n'.off (ob b hb) hu hn
  · have ecl : L'.cl = L.cl := (n'.adr .cl _ rfl).1
    rw [n'.keep _ _ hs os (fun ps z => by cases z), ecl]
theorem none_ob {o : Ob} {A : Prop} (e : (none : Option Ob) = some o) : A := by cases e
theorem upd2_none {H : Hp} {p dx q : Addr} {u v : HO} (h : upd (upd H dx u) p v q = none) : q ≠ p ∧ q ≠ dx ∧ H q = none := by
  have h1 : q ≠ p := fun z => by rw [z, upd_same] at h; cases h
  rw [upd_ne h1] at h
  have h2 : q ≠ dx := fun z => by rw [z, upd_same] at h; cases h
  rw [upd_ne h2] at h
  exact ⟨h1, h2, h⟩
def sp_answer_create (K : PySem.W.Frag) : Sp := fun vs H Q _ => ∃ (s l : Addr) (o : Option Client) (n : Nat) (bs : List Addr) (a b : Nat) (ps : List Nat), vs = [.ref s, nV a, nV b, .ref l] ∧ Ses K H s o n bs ∧ H l = some (.lst (ps.map nV)) ∧ ps.length ≤ 1000 ∧ Ses2 K H s bs n (Kp423.step o (.create a b ps)) Q
theorem sc_answer_create : FnScope ["session", "seed", "balancer", "parameters"] ["session", "seed", "balancer", "parameters"] (defScope s_answer_create) := ⟨rfl, rfl, rfl, by decide +kernel, rfl, by decide +kernel, by decide +kernel⟩
theorem ok_answer_create (X : Tx K mg) : GF P w K mg base 4 (He.ga K "answer_create") ["session", "seed", "balancer", "parameters"] (sp_answer_create K) := by
  refine GF.of X.d_answer_create sc_answer_create (fun vs H Q E h => ?_) (fun _ _ _ _ _ _ us hl => match us, hl with | [_, _, _, _], _ => rfl) (fun cdv A outer s H vs Q E hr h => ?_)
  · obtain ⟨s, l, o, n, bs, a, b, ps, rfl, _⟩ := h; rfl
  obtain ⟨s, l, o, n, bs, a, b, ps, rfl, h⟩ := h
  refine ⟨_, PSs.nox (pss_cons (ps_if (PW.pt (pw_or (pt_not (pt_val (pe_fn (ok_within X) X.g_within (hr.mono (by decide)) (pa_cons (pv 1) (pa_cons pe_int (pa_cons pe_int pa_nil)))))) (pw_or (pt_not (pt_val (pe_fn (ok_within X) X.g_within (hr.mono (by decide)) (pa_cons (pv 2) (pa_cons pe_int (pa_cons pe_int pa_nil)))))) (pw_or1 (pt_not (pt_val (pe_fn (ok_parameters_allowed X) X.g_parameters_allowed (hr.mono (by decide)) (pa_cons (pv 3) pa_nil)))))))) (pss_one (ps_ret (pe_fn0 (ok_outside_limits X) X.g_outside_limits (hr.mono (by decide))))) pss_nil) (pss_cons (ps_fld (pv 0) (pe_new X.m_Client (ok_Client_init X) X.g_Client (hr.mono (by decide)) (pa_cons (pv 1) (pa_cons (pv 2) (pa_cons (pe_new X.m_Policy (ok_Policy_init X) X.g_Policy (hr.mono (by decide)) (pa_cons (pv 3) pa_nil)) pa_nil)))) rfl) (pss_one (ps_ret (pe_lst (pa_cons pe_int pa_nil)))))), ?_⟩
  obtain ⟨S, hl, hz, h⟩ := h
  have es : Kp423.step o (.create a b ps) = (match Kp423.parsePolicy b ps with
    | none => (o, Kp423.single (-22))
    | some p => if 2147483647 < a then (o, Kp423.single (-22)) else (some ⟨p, 0, a, p.maxTokens * 1000, 0, [], [], [], 0, 0, 0⟩, Kp423.single 0)) := by cases o <;> rfl
  have eal := allowed_is b ps
  refine i_seqJ (fun σ' H' => σ' = [some (.ref s), some (nV a), some (nV b), some (.ref l)] ∧ MM.Ext H H' ∧ a ≤ 2147483647 ∧ (Kp423.parsePolicy b ps).isSome = true) ?_ fun N hN => ?_
  · rintro σ' H1 ⟨rfl, x1, ha, hp⟩
    obtain ⟨p, hp⟩ := Option.isSome_iff_exists.mp hp
    rw [hp] at es
    have es : Kp423.step o (.create a b ps) = (some ⟨p, 0, a, p.maxTokens * 1000, 0, [], [], [], 0, 0, 0⟩, Kp423.single 0) := es.trans (if_neg (by omega))
    obtain ⟨hps, hbal, hpol⟩ := parse_some hp
    walk_at "rd"
    have hl1 := x1 _ _ hl
    obtain ⟨dxs, cv, hs0⟩ : ∃ dxs cv, H s = some (.ins (He.ga K "Session") dxs [("client", cv)]) := by
      rcases S.at_ with ⟨_, dx, h2⟩ | ⟨_, _, dx, _, _, _, _, h5⟩
      · exact ⟨_, _, h2⟩
      · exact ⟨_, _, h5⟩
    have hs1 := x1 _ _ hs0
    intro p1 dx1 np1 ndx1 hne1
    refine ⟨p1, dx1, l, p, rfl, upd_same, ?_, fun H2 r e2 nr rp1 er k2 => ⟨rfl, ?_⟩⟩
    · rw [← hps]
      exact SqL.of (by rw [upd_ne (ne_of_none hl1 np1), upd_ne (ne_of_none hl1 ndx1)]; exact hl1)
    obtain ⟨_, rdx1, nr0⟩ := upd2_none nr
    have x12 : MM.Ext H1 H2 := fun q o hq => by
      rw [k2 q (ne_of_none hq np1) (ne_of_none hq nr0), upd_ne (ne_of_none hq np1), upd_ne (ne_of_none hq ndx1)]
      exact hq
    refine i_nil ?_
    intro p2 dx2 np2 ndx2 hne2
    refine ⟨p2, dx2, p1, dx1, _, p.maxTokens, a, b, rfl, upd_same, by rw [upd_ne (ne_of_none e2 np2), upd_ne (ne_of_none e2 ndx2)]; exact e2, by kernel_rfl, Ne.symm (ne_of_none e2 np2), fun H3 lb lc la e3 nb nc na bc ba ca eb ec ea k3 => ⟨rfl, ?_⟩⟩
    obtain ⟨b2, bdx, nb0⟩ := upd2_none nb
    obtain ⟨c2, cdx, nc0⟩ := upd2_none nc
    obtain ⟨a2, adx, na0⟩ := upd2_none na
    have x23 : MM.Ext H2 H3 := fun q o hq => by
      rw [k3 q (ne_of_none hq np2) (ne_of_none hq nb0) (ne_of_none hq nc0) (ne_of_none hq na0), upd_ne (ne_of_none hq np2), upd_ne (ne_of_none hq ndx2)]
      exact hq
    have x03 := (x1.trans x12).trans x23
    have hs3 := x03 _ _ hs0
    walk_at "rd"
    refine ⟨s, He.ga K "Session", dxs, _, rfl, hs3, X.c_Session, X.n_Session_client, (by show 1 < 1000; decide), ?_⟩
    have ep : putF ("client" : Str) (.ref p2 : V) [("client", cv)] = ([("client", .ref p2)] : List (Str × V)) := by kernel_rfl
    rw [ep]
    have t3 : Tabs (tbs K) H3 := Tabs.ext S.tabs x03
    have t4 : Tabs (tbs K) (upd H3 s (.ins (He.ga K "Session") dxs [("client", .ref p2)])) := Tabs.upd' t3 fun v hv => by
      rw [hs3] at hv
      cases hv
      exact ⟨(fun ps z => by cases z), fun φ z => by cases z⟩
    have o4 : ∀ q, q ≠ s → upd H3 s (.ins (He.ga K "Session") dxs [("client", .ref p2)]) q = H3 q := fun q hq => upd_ne hq
    have s4 : upd H3 s (.ins (He.ga K "Session") dxs [("client", .ref p2)]) s = some (.ins (He.ga K "Session") dxs [("client", .ref p2)]) := upd_same
    generalize upd H3 s (.ins (He.ga K "Session") dxs [("client", .ref p2)]) = H4 at t4 o4 s4 ⊢
    refine i_ret ?_
    refine i_lstG ?_
    walk_at "rd"
    refine ⟨by show 1 ≤ sizeLine; decide, fun D nD => ?_⟩
    have x45 := ext_new (u := .lst [.int 0]) nD
    have np0 : H p2 = none := (x1.trans x12).fresh _ np2
    have np10 : H p1 = none := x1.fresh _ np1
    have nr00 : H r = none := x1.fresh _ nr0
    have nb00 : H lb = none := (x1.trans x12).fresh _ nb0
    have nc00 : H lc = none := (x1.trans x12).fresh _ nc0
    have na00 : H la = none := (x1.trans x12).fresh _ na0
    have e23 := x23 _ _ e2
    have er3 := x23 _ _ er
    have w2 := x45 _ _ ((o4 p2 (Ne.symm (ne_of_none hs0 np0))).trans e3)
    have w1 := x45 _ _ ((o4 p1 (Ne.symm (ne_of_none hs0 np10))).trans e23)
    have wr := x45 _ _ ((o4 r (Ne.symm (ne_of_none hs0 nr00))).trans er3)
    have wb := x45 _ _ ((o4 lb (Ne.symm (ne_of_none hs0 nb00))).trans eb)
    have wc := x45 _ _ ((o4 lc (Ne.symm (ne_of_none hs0 nc00))).trans ec)
    have wa := x45 _ _ ((o4 la (Ne.symm (ne_of_none hs0 na00))).trans ea)
    have n21 : p1 ≠ p2 := ne_of_none e2 np2
    have n2r : r ≠ p2 := ne_of_none er np2
    have nb1 : p1 ≠ lb := ne_of_none e2 nb0
    have nc1 : p1 ≠ lc := ne_of_none e2 nc0
    have na1 : p1 ≠ la := ne_of_none e2 na0
    have nbr : r ≠ lb := ne_of_none er nb0
    have ncr : r ≠ lc := ne_of_none er nc0
    have nar : r ≠ la := ne_of_none er na0
    have t5 := Tabs.ext t4 x45
    have hall : ∀ q, H q ≠ none → ∀ k o', ob ⟨p2, p1, r, lb, lc, la, fun _ => 0, fun _ => 0, fun _ => 0, fun _ => 0⟩ (⟨p, 0, a, p.maxTokens * 1000, 0, [], [], [], 0, 0, 0⟩ : Client) k = some o' → (⟨p2, p1, r, lb, lc, la, fun _ => 0, fun _ => 0, fun _ => 0, fun _ => 0⟩ : Lo).ad k ≠ q := fun q hq k o' e z => by
      apply hq
      rw [← z]
      cases k with
      | cl => exact np0
      | po => exact np10
      | rt => exact nr00
      | lb => exact nb00
      | lc => exact nc00
      | la => exact na00
      | bk i => exact none_ob e
      | ca i => exact none_ob e
      | al i => exact none_ob e
      | att i => exact none_ob e
    have g0 := create_good (S.good.le (Nat.le_add_right n 1000)) a b ps
    have kpb : ∀ q ∈ bs, (upd H4 D (.lst [.int 0])) q = H q := fun q hq => by
      obtain ⟨u, hu, _⟩ := S.there q hq
      rw [hu]
      exact x45 _ _ ((o4 q (S.ne q hq)).trans (x03 _ _ hu))
    have nD0 : H D = none := by
      have z : D ≠ s := fun z => by rw [z, s4] at nD; cases nD
      rw [o4 D z] at nD
      exact x03.fresh _ nD
    refine h D _ ⟨t5, g0, S.ne, fun q hq => ?_, .inr ⟨⟨p, 0, a, p.maxTokens * 1000, 0, [], [], [], 0, 0, 0⟩, ⟨p2, p1, r, lb, lc, la, fun _ => 0, fun _ => 0, fun _ => 0, fun _ => 0⟩, dxs, by rw [es], ⟨fun k o' e => ?_, fun k k' o' o2 ek ek' z => ?_, t5⟩, fun k o' e => hall s (by rw [hs0]; exact fun z => by cases z) k o' e, fun q hq k o' e => ?_, x45 _ _ s4⟩⟩ kpb (by rw [upd_same, es]; rfl) (fun xs z => by rw [nD0] at z; cases z)
    · obtain ⟨u, hu, hn⟩ := S.there q hq
      exact ⟨u, (kpb q hq).trans hu, hn⟩
    · subst hbal
      cases k with
      | cl => cases e; exact ⟨dx2, w2⟩
      | po => cases e; exact ⟨dx1, w1⟩
      | rt => cases e; exact wr
      | lb => cases e; exact wb
      | lc => cases e; exact wc
      | la => cases e; exact wa
      | bk i => exact none_ob e
      | ca i => exact none_ob e
      | al i => exact none_ob e
      | att i => exact none_ob e
    · cases k <;> first
        | exact none_ob ek
        | (cases k' <;> first
            | rfl
            | exact none_ob ek'
            | (exfalso; dsimp only [Lo.ad] at z; first | exact absurd z ‹_› | exact absurd z.symm ‹_›))
    · exact hall q (fun z => by obtain ⟨u, hu, _⟩ := S.there q hq; rw [hu] at z; cases z) k o' e
  · have bad : ∀ H', MM.Ext H H' → (a ≤ 2147483647 → (Kp423.parsePolicy b ps).isSome = false) → sp_outside_limits [] H' Q L2.E0 := fun H' x1 hv => by
      have es2 : Kp423.step o (.create a b ps) = (o, Kp423.single (-22)) := by
        rw [es]
        cases q : Kp423.parsePolicy b ps with
        | none => rfl
        | some p =>
          refine if_pos ?_
          apply Classical.byContradiction
          intro z
          have w := hv (by omega)
          rw [q] at w
          cases w
      exact ⟨rfl, fun D nD => h.same S es2 x1 nD rfl⟩
    walk_at "rd"
    refine ⟨_, _, _, rfl, ?_⟩
    have e1 : decide ((0 : Int) ≤ (a : Int) ∧ (a : Int) ≤ 2147483647) = decide (a ≤ 2147483647) := decide_eq_decide.mpr (by omega)
    rw [e1]
    refine i_bl ?_
    by_cases ha : a ≤ 2147483647
    · rw [decide_eq_true ha]
      refine if_f ?_
      walk_at "rd"
      refine ⟨_, _, _, rfl, ?_⟩
      have e2 : decide ((0 : Int) ≤ (b : Int) ∧ (b : Int) ≤ 3) = decide (b ≤ 3) := decide_eq_decide.mpr (by omega)
      rw [e2]
      refine i_bl ?_
      by_cases hb : b ≤ 3
      · rw [decide_eq_true hb] at eal ⊢
        rw [Bool.true_and] at eal
        refine if_f ?_
        walk_at "rd"
        refine ⟨l, ps, rfl, hl, hz, fun H' x1 => ?_⟩
        refine i_bl ?_
        rw [← eal]
        cases hq : (Kp423.parsePolicy b ps).isSome with
        | true =>
          refine if_f ?_
          exact hN _ _ ⟨rfl, x1, ha, hq⟩
        | false =>
          refine if_t ?_
          walk_at "rd"
          exact bad _ x1 fun _ => hq
      · rw [decide_eq_false hb] at eal ⊢
        refine if_t ?_
        walk_at "rd"
        exact bad _ (MM.Ext.refl H) fun _ => eal
    · rw [decide_eq_false ha]
      refine if_t ?_
      walk_at "rd"
      exact bad _ (MM.Ext.refl H) fun z => absurd z ha
end

section
variable {P : Program} {w : World} {K : PySem.W.Frag} {mg : Str → Option Value} {base : Heap}
/-- what one of them asks -/
def ansR (K : PySem.W.Frag) (f : Addr) (vs : List V) (H : Hp) (Q : VK) : Prop := ∃ op : Nat, ((op : Int), f) ∈ kvs K ∧ sp_ans op K vs H Q L2.E0
theorem ok_ansR (X : Tx K mg) (TB : TabB base mg (He.cT K ("pick", none)).1 (He.cT K ("pick", none)).2) (TR : TabB base mg (He.cT K ("tell_ranking", none)).1 (He.cT K ("tell_ranking", none)).2) : ∀ f vs H Q, ansR K f vs H Q → ∃ ps sp, GF P w K mg base 11 f ps sp ∧ sp vs H Q L2.E0 := by
  rintro f vs H Q ⟨op, hm, hs⟩
  unfold kvs at hm
  simp only [List.mem_cons, Prod.mk.injEq, List.not_mem_nil, or_false] at hm
  rcases hm with ⟨ho, rfl⟩ | ⟨ho, rfl⟩ | ⟨ho, rfl⟩ | ⟨ho, rfl⟩ | ⟨ho, rfl⟩ | ⟨ho, rfl⟩ | ⟨ho, rfl⟩ | ⟨ho, rfl⟩ | ⟨ho, rfl⟩ | ⟨ho, rfl⟩ | ⟨ho, rfl⟩ | ⟨ho, rfl⟩ | ⟨ho, rfl⟩ | ⟨ho, rfl⟩ | ⟨ho, rfl⟩ | ⟨ho, rfl⟩ | ⟨ho, rfl⟩ | ⟨ho, rfl⟩ | ⟨ho, rfl⟩ | ⟨ho, rfl⟩ | ⟨ho, rfl⟩ | ⟨ho, rfl⟩
  · obtain rfl : op = 1 := by omega
    exact ⟨_, _, (ok_answer_add_backend X).mono (by decide), hs⟩
  · obtain rfl : op = 2 := by omega
    exact ⟨_, _, (ok_answer_remove_backend X TB).mono (by decide), hs⟩
  · obtain rfl : op = 3 := by omega
    exact ⟨_, _, (ok_answer_set_weight X).mono (by decide), hs⟩
  · obtain rfl : op = 4 := by omega
    exact ⟨_, _, (ok_answer_start_call X TB).mono (by decide), hs⟩
  · obtain rfl : op = 5 := by omega
    exact ⟨_, _, (ok_answer_complete X TB).mono (by decide), hs⟩
  · obtain rfl : op = 6 := by omega
    exact ⟨_, _, (ok_answer_cancel X).mono (by decide), hs⟩
  · obtain rfl : op = 7 := by omega
    exact ⟨_, _, (ok_answer_advance X TB).mono (by decide), hs⟩
  · obtain rfl : op = 8 := by omega
    exact ⟨_, _, (ok_answer_next_timer X).mono (by decide), hs⟩
  · obtain rfl : op = 9 := by omega
    exact ⟨_, _, (ok_answer_run X TB).mono (by decide), hs⟩
  · obtain rfl : op = 10 := by omega
    exact ⟨_, _, (ok_answer_call_info X).mono (by decide), hs⟩
  · obtain rfl : op = 11 := by omega
    exact ⟨_, _, (ok_answer_attempt_info X).mono (by decide), hs⟩
  · obtain rfl : op = 12 := by omega
    exact ⟨_, _, (ok_answer_call_attempts X).mono (by decide), hs⟩
  · obtain rfl : op = 13 := by omega
    exact ⟨_, _, (ok_answer_backend_info X).mono (by decide), hs⟩
  · obtain rfl : op = 14 := by omega
    exact ⟨_, _, (ok_answer_running_attempts X).mono (by decide), hs⟩
  · obtain rfl : op = 15 := by omega
    exact ⟨_, _, (ok_answer_preview_choice X TB).mono (by decide), hs⟩
  · obtain rfl : op = 16 := by omega
    exact ⟨_, _, (ok_answer_ranking X TR).mono (by decide), hs⟩
  · obtain rfl : op = 17 := by omega
    exact ⟨_, _, (ok_answer_hash X).mono (by decide), hs⟩
  · obtain rfl : op = 18 := by omega
    exact ⟨_, _, (ok_answer_available_backends X).mono (by decide), hs⟩
  · obtain rfl : op = 19 := by omega
    exact ⟨_, _, (ok_answer_backoff_bound X).mono (by decide), hs⟩
  · obtain rfl : op = 20 := by omega
    exact ⟨_, _, (ok_answer_budget X).mono (by decide), hs⟩
  · obtain rfl : op = 21 := by omega
    exact ⟨_, _, (ok_answer_totals X).mono (by decide), hs⟩
  · obtain rfl : op = 22 := by omega
    exact ⟨_, _, (ok_answer_status X).mono (by decide), hs⟩
theorem mk_create {op : Nat} {ns : List Nat} {a b : Nat} {r : List Nat} (h : mkCall op ns = some (.create a b r)) : op = 0 := by
  unfold mkCall at h
  split at h <;> first | rfl | cases h
theorem mk_kv {K : PySem.W.Frag} {op : Nat} {ns : List Nat} {x : Kp423.Call} (h : mkCall op ns = some x) (h0 : op ≠ 0) : ∃ f, ((op : Int), f) ∈ kvs K := by
  have hop : op ≤ 22 := by
    unfold mkCall at h
    split at h <;> first | omega | cases h
  have g : (op : Int) ∈ (kvs K).map (·.1) := by
    show (op : Int) ∈ [(1 : Int), 2, 3, 4, 5, 6, 7, 8, 9, 10, 11, 12, 13, 14, 15, 16, 17, 18, 19, 20, 21, 22]
    simp only [List.mem_cons, List.not_mem_nil, or_false]
    omega
  obtain ⟨p, hp, e⟩ := List.mem_map.mp g
  exact ⟨p.2, by rw [← e]; exact hp⟩
theorem i_callV {K : PySem.W.Frag} {R : Addr → List V → Hp → VK → Prop} {tf : TE} {t : TA} {σ : L2.St} {H : Hp} {Q : VK} (h : tf σ H fun x H1 => ∃ f, x = .ref f ∧ PySem.W.keepIn K (.ref f) = true ∧ t σ H1 fun vs H2 => R f vs H2 Q) : KI.tCallV K R tf t σ H Q := h
def sp_answer_call (K : PySem.W.Frag) : Sp := fun vs H Q _ => ∃ (s l : Addr) (o : Option Client) (n : Nat) (bs : List Addr) (op : Nat) (ns : List Nat) (x : Kp423.Call), vs = [.ref s, nV op, .ref l] ∧ Ses K H s o n (l :: bs) ∧ H l = some (.lst (ns.map nV)) ∧ ns.length ≤ 1000 ∧ n + 2000 ≤ 1000000 ∧ mkCall op ns = some x ∧ Ses2 K H s bs n (Kp423.step o x) Q
theorem sc_answer_call : FnScope ["session", "operation", "numbers"] ["session", "operation", "numbers"] (defScope s_answer_call) := ⟨rfl, rfl, rfl, by decide +kernel, rfl, by decide +kernel, by decide +kernel⟩
theorem ok_answer_call (X : Tx K mg) (TB : TabB base mg (He.cT K ("pick", none)).1 (He.cT K ("pick", none)).2) (TR : TabB base mg (He.cT K ("tell_ranking", none)).1 (He.cT K ("tell_ranking", none)).2) : GF P w K mg base 12 (He.ga K "answer_call") ["session", "operation", "numbers"] (sp_answer_call K) := by
  refine GF.of X.d_answer_call sc_answer_call (fun vs H Q E h => ?_) (fun _ _ _ _ _ _ us hl => match us, hl with | [_, _, _], _ => rfl) (fun cdv A outer s H vs Q E hr h => ?_)
  · obtain ⟨s, l, o, n, bs, op, ns, x, rfl, _⟩ := h; rfl
  obtain ⟨s, l, o, n, bs, op, ns, x, rfl, h⟩ := h
  refine ⟨_, PSs.nox (pss_cons (ps_if (pt_cmpR op_eq (pv 1) (pe_gi X.i_CREATE) (nomark _)) (pss_one (ps_ret (pe_fn (ok_answer_create X) X.g_answer_create (hr.mono (by decide)) (pa_cons (pv 0) (pa_cons (pe_ix ix_list (pv 2) pe_int (fun _ _ => rfl)) (pa_cons (pe_ix ix_list (pv 2) pe_int (fun _ _ => rfl)) (pa_cons (pe_slice sl_list (pv 2) (po_some pe_int) po_none) pa_nil))))))) pss_nil) (pss_cons (ps_if (pt_cmpR op_isN (pe_fld (pv 0) rfl) pe_non (nomark _)) (pss_one (ps_ret (pe_fn0 (ok_no_client X) X.g_no_client (hr.mono (by decide))))) pss_nil) (pss_one (ps_ret (KI.pe_callV (k := 11) (R := ansR K) (pe_ix (KI.ix_ki X.ki) (pe_glob (v := V.ref (He.ga K "ANSWERS")) rfl X.g_ANSWERS rfl) (pv 1) (fun _ _ => rfl)) (hr.mono (by decide)) (pa_cons (pe_fld (pv 0) rfl) (pa_cons (pv 2) pa_nil)) (ok_ansR X TB TR)))))), ?_⟩
  obtain ⟨S, hl, hz, hn, hx, h⟩ := h
  have S0 : Ses K H s o n bs := S.sub fun b hb => List.mem_cons_of_mem _ hb
  refine i_seq ?_
  walk_at "rd"
  refine ite_dec (fun h0 => ?_) fun h0 => ?_
  · obtain rfl : op = 0 := by omega
    obtain ⟨a, b, r, rfl, rfl⟩ : ∃ a b r, ns = a :: b :: r ∧ x = .create a b r := by
      match ns, hx with
      | [], hx => exact absurd (show none = some x from hx) (fun z => by cases z)
      | [_], hx => exact absurd (show none = some x from hx) (fun z => by cases z)
      | a :: b :: r, hx => have hx : some (.create a b r) = some x := hx; cases hx; exact ⟨a, b, r, rfl, rfl⟩
    walk_at "rd"
    refine i_ixL (k := 0) (SqL.of hl) (v := nV a) rfl ?_
    walk_at "rd"
    refine i_ixL (k := 1) (SqL.of hl) (v := nV b) rfl ?_
    walk_at "rd"
    refine i_slL (SqL.of hl) fun p np => ?_
    have hd : cutV ((a :: b :: r).map nV) (some (2 : Int)) none = r.map nV := by
      rw [show (some (2 : Int)) = some ((2 : Nat) : Int) from rfl, cut_from]
      rfl
    rw [hd]
    walk_at "rd"
    have e := ext_new (u := .lst (r.map nV)) np
    refine ⟨s, p, o, n, bs, a, b, r, rfl, S0.ext e, upd_same, ?_, h.ext S0 e⟩
    rw [List.length_cons, List.length_cons] at hz
    omega
  · refine i_next ?_
    refine i_seq ?_
    walk_at "rd"
    rcases S.at_ with ⟨rfl, dx, h2⟩ | ⟨c, L, dx, rfl, h2, h3, h4, h5⟩
    · refine ⟨s, _, dx, _, .non, rfl, h2, X.c_Session, X.n_Session_client, by kernel_rfl, ?_⟩
      walk_at "rd"
      refine if_t ?_
      walk_at "rd"
      have es : Kp423.step none x = (none, Kp423.single (-11)) := by
        cases x with
        | create a b r => exact absurd (mk_create hx) (fun z => h0 (by omega))
        | _ => rfl
      exact ⟨rfl, fun D nD => h.same S0 es (MM.Ext.refl H) nD rfl⟩
    · refine ⟨s, _, dx, _, .ref L.cl, rfl, h5, X.c_Session, X.n_Session_client, by kernel_rfl, ?_⟩
      walk_at "rd"
      refine if_f ?_
      refine i_next ?_
      refine i_ret ?_
      refine i_callV ?_
      obtain ⟨f, hm⟩ := mk_kv (K := K) hx (fun z => h0 (by omega))
      have hs : sp_ans op K [.ref L.cl, .ref l] H Q L2.E0 := ⟨L, c, n, l, ns, x, rfl, h2, h4 l (List.mem_cons_self ..), hl, hz, S.good, hn, hx, h.done S.good S0.ne S0.there h3 (fun b hb => h4 b (List.mem_cons_of_mem _ hb)) h5⟩
      obtain ⟨ps, sp, G, _⟩ := ok_ansR (P := P) (w := w) X TB TR f _ _ _ ⟨op, hm, hs⟩
      walk_at "rd"
      refine ⟨_, f, rfl, rfl, hm, ?_⟩
      refine ⟨f, rfl, G.kp, ?_⟩
      walk_at "rd"
      refine ⟨s, _, dx, _, .ref L.cl, rfl, h5, X.c_Session, X.n_Session_client, by kernel_rfl, ?_⟩
      walk_at "rd"
      exact ⟨op, hm, hs⟩
end

section
variable {P : Program} {w : World} {K : PySem.W.Frag} {mg : Str → Option Value} {base : Heap}
/-! ### the calls as a list -/
theorem nat_of {a : Int} (h : Kp423Neutral.natural a = true) : ∃ n : Nat, a = (n : Int) := by
  unfold Kp423Neutral.natural at h
  have z := of_decide_eq_true (Bool.and_eq_true_iff.mp h).1
  exact ⟨a.toNat, by omega⟩
theorem nats_of : ∀ {l : List Int}, l.all Kp423Neutral.natural = true → ∃ ns : List Nat, l = ns.map (fun n : Nat => (n : Int))
  | [], _ => ⟨[], rfl⟩
  | a :: r, h => by
    rw [List.all_cons] at h
    obtain ⟨h1, h2⟩ := Bool.and_eq_true_iff.mp h
    obtain ⟨n, rfl⟩ := nat_of h1
    obtain ⟨ns, rfl⟩ := nats_of h2
    exact ⟨n :: ns, rfl⟩
theorem toNats (ns : List Nat) : (ns.map (fun n : Nat => (n : Int))).map Int.toNat = ns := by
  rw [List.map_map]
  have e : (Int.toNat ∘ fun n : Nat => (n : Int)) = id := by funext n; rfl
  rw [e, List.map_id]
theorem asked_call {c : List (List Int)} (h : Kp423Neutral.asked1 c = true) : ∃ (op : Nat) (ns : List Nat) (x : Kp423.Call), c = [(op : Int) :: ns.map (fun n : Nat => (n : Int))] ∧ mkCall op ns = some x ∧ Kp423Neutral.callOf c = some x ∧ ns.length ≤ 1000 := by
  unfold Kp423Neutral.asked1 at h
  split at h
  case h_1 a b l =>
    obtain ⟨h1, h2⟩ := Bool.and_eq_true_iff.mp h
    obtain ⟨h2, h3⟩ := Bool.and_eq_true_iff.mp h2
    obtain ⟨h3, h4⟩ := Bool.and_eq_true_iff.mp h3
    obtain ⟨a, rfl⟩ := nat_of h1
    obtain ⟨b, rfl⟩ := nat_of h2
    obtain ⟨l, rfl⟩ := nats_of h3
    have h4 := of_decide_eq_true h4
    rw [List.length_map] at h4
    refine ⟨0, a :: b :: l, .create a b l, rfl, rfl, ?_, by rw [List.length_cons, List.length_cons]; omega⟩
    show some (Kp423.Call.create a b ((l.map (fun n : Nat => (n : Int))).map Int.toNat)) = _
    rw [toNats]
  case h_2 a => obtain ⟨a, rfl⟩ := nat_of h; exact ⟨1, [a], _, rfl, rfl, rfl, (by simp only [List.length_cons, List.length_nil]; omega)⟩
  case h_3 a => obtain ⟨a, rfl⟩ := nat_of h; exact ⟨2, [a], _, rfl, rfl, rfl, (by simp only [List.length_cons, List.length_nil]; omega)⟩
  case h_4 a b =>
    obtain ⟨h1, h2⟩ := Bool.and_eq_true_iff.mp h
    obtain ⟨a, rfl⟩ := nat_of h1
    obtain ⟨b, rfl⟩ := nat_of h2
    exact ⟨3, [a, b], _, rfl, rfl, rfl, (by simp only [List.length_cons, List.length_nil]; omega)⟩
  case h_5 a b d =>
    obtain ⟨h1, h2⟩ := Bool.and_eq_true_iff.mp h
    obtain ⟨h2, h3⟩ := Bool.and_eq_true_iff.mp h2
    obtain ⟨a, rfl⟩ := nat_of h1
    obtain ⟨b, rfl⟩ := nat_of h2
    obtain ⟨d, rfl⟩ := nat_of h3
    exact ⟨4, [a, b, d], _, rfl, rfl, rfl, (by simp only [List.length_cons, List.length_nil]; omega)⟩
  case h_6 a b d =>
    obtain ⟨h1, h2⟩ := Bool.and_eq_true_iff.mp h
    obtain ⟨h2, h3⟩ := Bool.and_eq_true_iff.mp h2
    obtain ⟨a, rfl⟩ := nat_of h1
    obtain ⟨b, rfl⟩ := nat_of h2
    obtain ⟨d, rfl⟩ := nat_of h3
    exact ⟨5, [a, b, d], _, rfl, rfl, rfl, (by simp only [List.length_cons, List.length_nil]; omega)⟩
  case h_7 a => obtain ⟨a, rfl⟩ := nat_of h; exact ⟨6, [a], _, rfl, rfl, rfl, (by simp only [List.length_cons, List.length_nil]; omega)⟩
  case h_8 a => obtain ⟨a, rfl⟩ := nat_of h; exact ⟨7, [a], _, rfl, rfl, rfl, (by simp only [List.length_cons, List.length_nil]; omega)⟩
  case h_9 => exact ⟨8, [], _, rfl, rfl, rfl, by decide⟩
  case h_10 l =>
    obtain ⟨h3, h4⟩ := Bool.and_eq_true_iff.mp h
    obtain ⟨l, rfl⟩ := nats_of h3
    have h4 := of_decide_eq_true h4
    rw [List.length_map] at h4
    refine ⟨9, l, .run l, rfl, rfl, ?_, by omega⟩
    show some (Kp423.Call.run ((l.map (fun n : Nat => (n : Int))).map Int.toNat)) = _
    rw [toNats]
  case h_11 a => obtain ⟨a, rfl⟩ := nat_of h; exact ⟨10, [a], _, rfl, rfl, rfl, (by simp only [List.length_cons, List.length_nil]; omega)⟩
  case h_12 a => obtain ⟨a, rfl⟩ := nat_of h; exact ⟨11, [a], _, rfl, rfl, rfl, (by simp only [List.length_cons, List.length_nil]; omega)⟩
  case h_13 a => obtain ⟨a, rfl⟩ := nat_of h; exact ⟨12, [a], _, rfl, rfl, rfl, (by simp only [List.length_cons, List.length_nil]; omega)⟩
  case h_14 a => obtain ⟨a, rfl⟩ := nat_of h; exact ⟨13, [a], _, rfl, rfl, rfl, (by simp only [List.length_cons, List.length_nil]; omega)⟩
  case h_15 => exact ⟨14, [], _, rfl, rfl, rfl, by decide⟩
  case h_16 a => obtain ⟨a, rfl⟩ := nat_of h; exact ⟨15, [a], _, rfl, rfl, rfl, (by simp only [List.length_cons, List.length_nil]; omega)⟩
  case h_17 a => obtain ⟨a, rfl⟩ := nat_of h; exact ⟨16, [a], _, rfl, rfl, rfl, (by simp only [List.length_cons, List.length_nil]; omega)⟩
  case h_18 a b =>
    obtain ⟨h1, h2⟩ := Bool.and_eq_true_iff.mp h
    obtain ⟨a, rfl⟩ := nat_of h1
    obtain ⟨b, rfl⟩ := nat_of h2
    exact ⟨17, [a, b], _, rfl, rfl, rfl, (by simp only [List.length_cons, List.length_nil]; omega)⟩
  case h_19 => exact ⟨18, [], _, rfl, rfl, rfl, by decide⟩
  case h_20 a => obtain ⟨a, rfl⟩ := nat_of h; exact ⟨19, [a], _, rfl, rfl, rfl, (by simp only [List.length_cons, List.length_nil]; omega)⟩
  case h_21 => exact ⟨20, [], _, rfl, rfl, rfl, by decide⟩
  case h_22 => exact ⟨21, [], _, rfl, rfl, rfl, by decide⟩
  case h_23 => exact ⟨22, [], _, rfl, rfl, rfl, by decide⟩
  case h_24 => cases h
/-- the next call of a list -/
theorem parse_step {f : Nat} {r : List Int} {cs : List (List (List Int))} (h : PyWide.calls f r = some cs) (ha : cs.all Kp423Neutral.asked1 = true) : (r = [] ∧ cs = []) ∨
    ∃ (op : Nat) (ns : List Nat) (x : Kp423.Call) (k : Int) (v : List Int) (f' : Nat) (cs' : List (List (List Int))), r = (op : Int) :: (ns.length : Int) :: (ns.map (fun n : Nat => (n : Int)) ++ k :: v) ∧
      cs = [(op : Int) :: ns.map (fun n : Nat => (n : Int))] :: cs' ∧ PyWide.calls f' v = some cs' ∧ cs'.all Kp423Neutral.asked1 = true ∧ mkCall op ns = some x ∧ Kp423Neutral.callOf [(op : Int) :: ns.map (fun n : Nat => (n : Int))] = some x ∧ ns.length ≤ 1000 := by
  cases r with
  | nil =>
    have e : PyWide.calls f [] = some [] := by cases f <;> rfl
    rw [e] at h
    cases h
    exact .inl ⟨rfl, rfl⟩
  | cons q t =>
    cases f with
    | zero => cases h
    | succ f =>
      right
      have h : (match PyWide.call (q :: t) with
        | none => none
        | some (c, t) => match PyWide.calls f t with
          | none => none
          | some cs => some (c :: cs)) = some cs := h
      cases hc : PyWide.call (q :: t) with
      | none => rw [hc] at h; cases h
      | some p =>
        obtain ⟨c, v⟩ := p
        rw [hc] at h
        dsimp only at h
        cases hr : PyWide.calls f v with
        | none => rw [hr] at h; cases h
        | some cs' =>
          rw [hr] at h
          have h : some (c :: cs') = some cs := h
          cases h
          rw [List.all_cons] at ha
          obtain ⟨ha1, ha2⟩ := Bool.and_eq_true_iff.mp ha
          obtain ⟨op, ns, x, ec, mk, co, ln⟩ := asked_call ha1
          subst ec
          have hc : (match PyFlat.row t with
            | none => none
            | some (_, []) => none
            | some (ns, k :: t) => if 0 ≤ k then (match PyFlat.rows k.toNat t with
              | none => none
              | some (xs, u) => some ((q :: ns) :: xs, u)) else none) = some ([(op : Int) :: ns.map (fun n : Nat => (n : Int))], v) := hc
          cases t with
          | nil => cases hc
          | cons m u =>
            have er : PyFlat.row (m :: u) = if 0 ≤ m ∧ m.toNat ≤ u.length then some (u.take m.toNat, u.drop m.toNat) else none := rfl
            rw [er] at hc
            by_cases hm : 0 ≤ m ∧ m.toNat ≤ u.length
            · rw [if_pos hm] at hc
              cases hd : u.drop m.toNat with
              | nil => rw [hd] at hc; cases hc
              | cons k w =>
                rw [hd] at hc
                dsimp only at hc
                by_cases hk : 0 ≤ k
                · rw [if_pos hk] at hc
                  cases kn : k.toNat with
                  | zero =>
                    rw [kn] at hc
                    have hc : some ([q :: u.take m.toNat], w) = some ([(op : Int) :: ns.map (fun n : Nat => (n : Int))], v) := hc
                    simp only [Option.some.injEq, Prod.mk.injEq, List.cons.injEq, and_true] at hc
                    obtain ⟨⟨rfl, hns⟩, rfl⟩ := hc
                    have lm : m = (ns.length : Int) := by
                      have z := congrArg List.length hns
                      rw [List.length_take, List.length_map] at z
                      omega
                    refine ⟨op, ns, x, k, w, f, cs', ?_, rfl, hr, ha2, mk, co, ln⟩
                    rw [← lm, ← hns, ← hd, List.take_append_drop]
                  | succ j =>
                    rw [kn] at hc
                    exfalso
                    have e2 : PyFlat.rows (j + 1) w = (match PyFlat.row w with
                      | none => none
                      | some (x, s) => match PyFlat.rows j s with
                        | none => none
                        | some (xs, t) => some (x :: xs, t)) := rfl
                    rw [e2] at hc
                    cases hw : PyFlat.row w with
                    | none => rw [hw] at hc; cases hc
                    | some p2 =>
                      obtain ⟨x2, s2⟩ := p2
                      rw [hw] at hc
                      dsimp only at hc
                      cases hj : PyFlat.rows j s2 with
                      | none => rw [hj] at hc; cases hc
                      | some p3 =>
                        obtain ⟨x3, s3⟩ := p3
                        rw [hj] at hc
                        have hc : some ((q :: u.take m.toNat) :: x2 :: x3, s3) = some ([(op : Int) :: ns.map (fun n : Nat => (n : Int))], v) := hc
                        simp at hc
                · rw [if_neg hk] at hc; cases hc
            · rw [if_neg hm] at hc; cases hc
end

section
variable {P : Program} {w : World} {K : PySem.W.Frag} {mg : Str → Option Value} {base : Heap}
/-! ### answers -/
theorem Ses.write {K : PySem.W.Frag} {H : Hp} {s t : Addr} {o : Option Client} {n : Nat} {bs : List Addr} {xs ys : List V} (h : Ses K H s o n bs) (ht : t ∈ bs) (e : H t = some (.lst xs)) : Ses K (upd H t (.lst ys)) s o n bs := by
  have tb : Tabs (tbs K) (upd H t (.lst ys)) := Tabs.upd' h.tabs fun v hv => by
    rw [e] at hv
    cases hv
    exact ⟨(fun ps z => by cases z), fun φ z => by cases z⟩
  have nst : s ≠ t := fun z => h.ne t ht z.symm
  refine ⟨tb, h.good, h.ne, fun b hb => ?_, ?_⟩
  · by_cases q : b = t
    · rw [q, upd_same]; exact ⟨_, rfl, fun ps z => by cases z⟩
    · rw [upd_ne q]; exact h.there b hb
  · rcases h.at_ with ⟨h1, dx, h2⟩ | ⟨c, L, dx, h1, h2, h3, h4, h5⟩
    · exact .inl ⟨h1, dx, by rw [upd_ne nst]; exact h2⟩
    · exact .inr ⟨c, L, dx, h1, h2.lst (h4 t ht) e, h3, h4, by rw [upd_ne nst]; exact h5⟩
/-- what keeps a list that is read -/
theorem sq_keeps {K : PySem.W.Frag} {H : Hp} {a : Addr} {xs : List V} (h : SqL K H a xs) : ∃ bs : List Addr, (∀ b ∈ bs, ∃ u, H b = some u ∧ ∀ ps, u ≠ .tbl ps) ∧ ∀ H', (∀ b ∈ bs, H' b = H b) → SqL K H' a xs := by
  rcases h with (h | ⟨o, h⟩) | h
  · exact ⟨[a], fun b hb => by rw [List.mem_singleton.mp hb]; exact ⟨_, h, fun ps z => by cases z⟩, fun H' k => .inl (.inl ((k a (List.mem_singleton.mpr rfl)).trans h))⟩
  · exact ⟨[a], fun b hb => by rw [List.mem_singleton.mp hb]; exact ⟨_, h, fun ps z => by cases z⟩, fun H' k => .inl (.inr ⟨o, (k a (List.mem_singleton.mpr rfl)).trans h⟩)⟩
  · exact ⟨[], fun b hb => (by cases hb), fun H' _ => .inr h⟩
abbrev allTold (o : Option Client) (cs : List (List (List Int))) : List Int := PyFlat.told (PyFlat.played Kp423Neutral.step o cs)
theorem told_step {o : Option Client} {c : List (List Int)} {cs : List (List (List Int))} {x : Kp423.Call} (h : Kp423Neutral.callOf c = some x) : allTold o (c :: cs) = (((Kp423.step o x).2.num :: (Kp423.step o x).2.nums).length : Int) :: ((Kp423.step o x).2.num :: (Kp423.step o x).2.nums) ++ allTold (Kp423.step o x).1 cs := by
  have e : Kp423Neutral.step o c = ((Kp423.step o x).1, (Kp423.step o x).2.num :: (Kp423.step o x).2.nums) := by
    unfold Kp423Neutral.step
    rw [h]
  show PyFlat.told ((Kp423Neutral.step o c).2 :: PyFlat.played Kp423Neutral.step (Kp423Neutral.step o c).1 cs) = _
  rw [e]
  rfl
theorem drop_past {α : Type} : ∀ (l : List α) (k : α) (v : List α), (l ++ k :: v).drop (l.length + 1) = v
  | [], _, _ => rfl
  | _ :: r, k, v => drop_past r k v
def sp_answers (K : PySem.W.Frag) : Sp := fun vs H Q _ => ∃ (a : Addr) (xs : List Int) (f : Nat) (cs : List (List (List Int))), vs = [.ref a] ∧ Tabs (tbs K) H ∧ SqL K H a (xs.map V.int) ∧ PyWide.calls f xs = some cs ∧ cs.all Kp423Neutral.asked1 = true ∧ cs.length ≤ 60 ∧ (allTold none cs).length ≤ 10000000 ∧
  ∀ t H', H' t = some (.lst ((allTold none cs).map V.int)) → Q (.ref t) H'
theorem sc_answers : FnScope ["calls", "session", "told", "place", "end", "answer"] ["calls"] (defScope s_answers) := ⟨rfl, rfl, rfl, by decide +kernel, rfl, by decide +kernel, by decide +kernel⟩
theorem ok_answers (X : Tx K mg) (TB : TabB base mg (He.cT K ("pick", none)).1 (He.cT K ("pick", none)).2) (TR : TabB base mg (He.cT K ("tell_ranking", none)).1 (He.cT K ("tell_ranking", none)).2) {fd : FuncData} (F : FunD K "answers" "answers" (defArgs s_answers) (defBody s_answers) (defScope s_answers) [] [] (He.ga K "answers") fd) : FnOk P w K mg base L2.CX0 13 (He.ga K "answers") fd ["calls"] (sp_answers K) := by
  refine FunD.ok F sc_answers (fun vs H Q E h => ?_) (fun cdv A outer s H vs Q E hr h => ?_)
  · obtain ⟨a, xs, f, cs, rfl, _⟩ := h; rfl
  obtain ⟨a, xs, f, cs, rfl, h⟩ := h
  refine ⟨_, PSs.nox (pss_cons (ps_set (i := 1) sc_answers.nd rfl (Or.inl rfl) (pe_new0 X.m_Session (ok_Session_init X) X.g_Session (hr.mono (by decide)))) (pss_cons (ps_set (i := 2) sc_answers.nd rfl (Or.inl rfl) (pe_lst pa_nil)) (pss_cons (ps_set (i := 3) sc_answers.nd rfl (Or.inl rfl) pe_int) (pss_cons (ps_while PassesOwn.never (pt_cmpR op_lt (pv 3) (pe_callB call_len_seq (by rfl) X.b_len PySem.boot_len (pa_cons (pv 0) pa_nil)) (nomark _)) (pss_cons (ps_set (i := 4) sc_answers.nd rfl (Or.inl rfl) (pe_op op_add (pe_op op_add (pv 3) pe_int) (pe_ix ix_list (pv 0) (pe_op op_add (pv 3) pe_int) (fun _ _ => rfl)))) (pss_cons (ps_set (i := 5) sc_answers.nd rfl (Or.inl rfl) (pe_fn (ok_answer_call X TB TR) X.g_answer_call (hr.mono (by decide)) (pa_cons (pv 1) (pa_cons (pe_ix ix_list (pv 0) (pv 3) (fun _ _ => rfl)) (pa_cons (pe_slice sl_list (pv 0) (po_some (pe_op op_add (pv 3) pe_int)) (po_some (pv 4))) pa_nil))))) (pss_cons (ps_expr (pe_bm PySem.F.plainAttrs_list PySem.F.slot_list_append PySem.F.type_list_append mt_append (pv 2) (pa_cons (pe_callB call_len_seq (by rfl) X.b_len PySem.boot_len (pa_cons (pv 5) pa_nil)) pa_nil))) (pss_cons (ps_expr (pe_bm PySem.F.plainAttrs_list PySem.F.slot_list_extend PySem.F.type_list_extend mt_extend (pv 2) (pa_cons (pv 5) pa_nil))) (pss_one (ps_set (i := 3) sc_answers.nd rfl (Or.inl rfl) (pe_op op_add (pv 4) pe_int)))))))) (pss_one (ps_ret (pv 2))))))), ?_⟩
  obtain ⟨T0, hl, hp, hA, h60, hshort, h⟩ := h
  obtain ⟨bsA, bt, bk⟩ := sq_keeps hl
  refine i_seq ?_
  refine i_asg (i_make (i_nil ?_))
  intro s dx ns_ ndx hne
  refine ⟨s, dx, rfl, upd_same, fun H1 e1 k1 => ⟨rfl, ?_⟩⟩
  have x1 : MM.Ext H H1 := fun q o hq => by
    rw [k1 q (ne_of_none hq ns_), upd_ne (ne_of_none hq ns_), upd_ne (ne_of_none hq ndx)]
    exact hq
  have S1 : Ses K H1 s none 0 bsA := ⟨Tabs.ext T0 x1, trivial, fun b hb => by obtain ⟨u, hu, _⟩ := bt b hb; exact ne_of_none hu ns_, fun b hb => by obtain ⟨u, hu, hn⟩ := bt b hb; exact ⟨u, x1 _ _ hu, hn⟩, .inl ⟨rfl, dx, e1⟩⟩
  refine i_gname ?_
  walk_at "rd"
  refine i_lst0 fun t nt => ?_
  have x2 := ext_new2 (u := .lst []) x1 nt
  have S2 := S1.new (u := .lst []) nt (fun ps z => by cases z)
  have e2 : upd H1 t (.lst []) t = some (.lst (([] : List Int).map V.int)) := upd_same
  have tA : ∀ b ∈ bsA, b ≠ t := fun b hb => by obtain ⟨u, hu, _⟩ := bt b hb; exact ne_of_none (x1 _ _ hu) nt
  have kA : ∀ b ∈ bsA, upd H1 t (.lst []) b = H b := fun b hb => by obtain ⟨u, hu, _⟩ := bt b hb; rw [hu, x2 _ _ hu]
  generalize upd H1 t (.lst []) = H2 at S2 e2 kA ⊢
  walk_at "rd"
  refine i_seq ?_
  refine ⟨fun m σ H' => ∃ (p : Nat) (r : List Int) (cs' : List (List (List Int))) (f' : Nat) (o : Option Client) (k : Nat) (acc : List Int) (x y : Option V), m = r.length ∧ σ = [some (.ref a), some (.ref s), some (.ref t), some (nV p), x, y] ∧ r = xs.drop p ∧ p ≤ xs.length ∧
      PyWide.calls f' r = some cs' ∧ cs'.all Kp423Neutral.asked1 = true ∧ k + cs'.length ≤ 60 ∧ Ses K H' s o (1000 * k) (t :: bsA) ∧ (∀ b ∈ bsA, H' b = H b) ∧ H' t = some (.lst (acc.map V.int)) ∧ acc ++ allTold o cs' = allTold none cs,
    ⟨_, 0, xs, cs, f, none, 0, [], none, none, rfl, rfl, rfl, Nat.zero_le _, hp, hA, by omega, S2, kA, e2, rfl⟩, ?_⟩
  rintro m0 σ H3 ⟨p, r, cs', f', o, k, acc, x, y, rfl, rfl, hr, hpl, hc, hA', hk, S3, k3, e3, htot⟩
  have hl3 := bk H3 k3
  have lr : r.length = xs.length - p := by rw [hr, List.length_drop]
  walk_at "rd"
  refine ⟨_, _, rfl, .inl hl3, ?_⟩
  rw [List.length_map]
  walk_at "rd"
  refine ite_dec (fun h1 => ?_) fun h1 => ?_
  · rcases parse_step hc hA' with ⟨z, _⟩ | ⟨op, ns, cx, kk, v, f2, cs2, er, ec, hc2, hA2, mk, co, ln⟩
    · rw [z] at lr
      exfalso
      rw [List.length_nil] at lr
      omega
    have lr2 : r.length = ns.length + v.length + 3 := by
      rw [er]
      simp only [List.length_cons, List.length_append, List.length_map]
      omega
    have get : ∀ j, xs[p + j]? = r[j]? := fun j => by rw [hr, List.getElem?_drop]
    have g0 : (xs.map V.int)[p]? = some (nV op) := by
      have z := get 0
      rw [Nat.add_zero, er] at z
      rw [List.getElem?_map, z]
      rfl
    have g1 : (xs.map V.int)[p + 1]? = some (nV ns.length) := by
      have z := get 1
      rw [er] at z
      rw [List.getElem?_map, z]
      rfl
    have cut : cutV (xs.map V.int) (some ((p + 2 : Nat) : Int)) (some ((p + 2 + ns.length : Nat) : Int)) = ns.map nV := by
      rw [cut_to, List.length_map]
      have m1 : min (p + 2) xs.length = p + 2 := by omega
      have m2 : min (p + 2 + ns.length) xs.length = p + 2 + ns.length := by omega
      rw [m1, m2, Nat.add_sub_cancel_left, ← List.map_drop, ← List.map_take]
      have d2 : xs.drop (p + 2) = ns.map (fun n : Nat => (n : Int)) ++ kk :: v := by
        rw [← List.drop_drop, ← hr, er]
        rfl
      rw [d2, List.take_left' (by rw [List.length_map]), List.map_map]
      rfl
    have rest : xs.drop (p + 2 + ns.length + 1) = v := by
      have e4 : p + 2 + ns.length + 1 = p + (2 + ns.length + 1) := by omega
      rw [e4, ← List.drop_drop, ← hr, er]
      show ((op : Int) :: (ns.length : Int) :: (ns.map (fun n : Nat => (n : Int)) ++ kk :: v)).drop (2 + ns.length + 1) = v
      have e5 : 2 + ns.length + 1 = (ns.length + 1) + 1 + 1 := by omega
      rw [e5, List.drop_succ_cons, List.drop_succ_cons]
      have z := drop_past (ns.map (fun n : Nat => (n : Int))) kk v
      rw [List.length_map] at z
      exact z
    refine ⟨_, fun σ' H' hN => hN, ?_⟩
    walk_at "rd"
    refine i_ixL (k := p + 1) hl3 (v := nV ns.length) g1 ?_
    walk_at "rd"
    refine i_ixL (k := p) hl3 (v := nV op) g0 ?_
    walk_at "rd"
    refine i_slL hl3 fun l nl => ?_
    have ecut : cutV (xs.map V.int) (some ((p : Int) + 2)) (some ((p : Int) + 2 + (ns.length : Int))) = ns.map nV := by
      rw [← cut]
      have e1 : ((p : Int) + 2) = ((p + 2 : Nat) : Int) := by omega
      have e2 : ((p : Int) + 2 + (ns.length : Int)) = ((p + 2 + ns.length : Nat) : Int) := by omega
      rw [e2, e1]
    rw [ecut]
    have S4 := S3.new (u := .lst (ns.map nV)) nl (fun ps z => by cases z)
    have e4 : upd H3 l (.lst (ns.map nV)) t = some (.lst (acc.map V.int)) := by rw [upd_ne (ne_of_none e3 nl)]; exact e3
    have k4 : ∀ b ∈ bsA, upd H3 l (.lst (ns.map nV)) b = H b := fun b hb => by
      obtain ⟨u, hu, _⟩ := bt b hb
      have z := (k3 b hb).trans hu
      rw [upd_ne (ne_of_none z nl)]
      exact k3 b hb
    have a4 : upd H3 l (.lst (ns.map nV)) l = some (.lst (ns.map nV)) := upd_same
    generalize upd H3 l (.lst (ns.map nV)) = H4 at S4 e4 k4 a4 ⊢
    walk_at "rd"
    have tm : t ∈ t :: bsA := List.mem_cons_self ..
    refine ⟨s, l, o, 1000 * k, t :: bsA, op, ns, cx, rfl, S4, a4, ln, by omega, mk, fun D H5 S5 k5 q5 f5 => ?_⟩
    have hts := told_step (o := o) (cs := cs2) co
    rw [ec, hts] at htot
    generalize hst : Kp423.step o cx = stp at *
    obtain ⟨an, han⟩ : ∃ an, an = stp.2.num :: stp.2.nums := ⟨_, rfl⟩
    have q5 : H5 D = some (.lst (an.map V.int)) := by rw [han]; exact q5
    rw [← han] at htot
    have lt := congrArg List.length htot
    simp only [List.length_append, List.length_cons] at lt
    have sl : (10000000 : Nat) < sizeLine := by decide
    have e5 : H5 t = some (.lst (acc.map V.int)) := (k5 t tm).trans e4
    have nDt : D ≠ t := fun z => f5 _ (by rw [z]; exact e4)
    walk_at "rd"
    refine ⟨.inl ⟨rfl, _, SqL.of e5⟩, ?_⟩
    walk_at "rd"
    refine ⟨_, _, rfl, .inl (SqL.of q5), ?_⟩
    rw [List.length_map]
    walk_at "rd"
    refine ⟨t, _, _, rfl, rfl, e5, by rw [List.length_map]; omega, ?_⟩
    have S6 := S5.write (ys := acc.map V.int ++ [.int an.length]) tm e5
    have e6 : upd H5 t (.lst (acc.map V.int ++ [.int an.length])) t = some (.lst (acc.map V.int ++ [.int an.length])) := upd_same
    have q6 : upd H5 t (.lst (acc.map V.int ++ [.int an.length])) D = some (.lst (an.map V.int)) := by rw [upd_ne nDt]; exact q5
    have k6 : ∀ b ∈ bsA, upd H5 t (.lst (acc.map V.int ++ [.int an.length])) b = H b := fun b hb => by
      rw [upd_ne (tA b hb)]
      exact (k5 b (List.mem_cons_of_mem _ hb)).trans (k4 b hb)
    generalize upd H5 t (.lst (acc.map V.int ++ [.int an.length])) = H6 at S6 e6 q6 k6 ⊢
    walk_at "rd"
    refine ⟨.inl ⟨rfl, _, SqL.of e6⟩, ?_⟩
    walk_at "rd"
    refine ⟨t, D, _, _, rfl, rfl, e6, q6, by rw [List.length_append, List.length_map, List.length_map]; show acc.length + 1 + an.length ≤ _; omega, ?_⟩
    have S7 := S6.write (ys := acc.map V.int ++ [.int an.length] ++ an.map V.int) tm e6
    have e7 : upd H6 t (.lst (acc.map V.int ++ [.int an.length] ++ an.map V.int)) t = some (.lst ((acc ++ ((an.length : Int) :: an)).map V.int)) := by
      rw [upd_same, List.map_append, List.map_cons, List.append_assoc]
      rfl
    have k7 : ∀ b ∈ bsA, upd H6 t (.lst (acc.map V.int ++ [.int an.length] ++ an.map V.int)) b = H b := fun b hb => by
      rw [upd_ne (tA b hb)]
      exact k6 b hb
    generalize upd H6 t (.lst (acc.map V.int ++ [.int an.length] ++ an.map V.int)) = H7 at S7 e7 k7 ⊢
    walk_at "rd"
    have k1k : 1000 * (k + 1) = 1000 * k + 1000 := by omega
    have lc : cs'.length = cs2.length + 1 := by rw [ec]; rfl
    refine ⟨v.length, by omega, p + 2 + ns.length + 1, v, cs2, f2, stp.1, k + 1, acc ++ ((an.length : Int) :: an), some (V.int ((p : Int) + 2 + (ns.length : Int))), some (.ref D), rfl, ?_, rest.symm, by omega, hc2, hA2, by omega, by rw [k1k]; exact S7, k7, e7, by rw [List.append_assoc]; exact htot⟩
    rw [show nV (p + 2 + ns.length + 1) = V.int ((p : Int) + 2 + (ns.length : Int) + 1) from congrArg V.int (by omega)]
    rfl
  · have z : r = [] := List.eq_nil_of_length_eq_zero (by omega)
    rw [z] at hc
    have e : PyWide.calls f' [] = some [] := by cases f' <;> rfl
    rw [e] at hc
    cases hc
    have ez : allTold o [] = [] := rfl
    rw [ez, List.append_nil] at htot
    walk_at "rd"
    exact h t H3 (by rw [← htot]; exact e3)
end
end HC
end

set_option Elab.async false
set_option linter.all false
set_option maxRecDepth 100000
set_option maxHeartbeats 4000000
section
open PySem PySem.Spec PyProof.Rows L2 LamX
namespace SpecT
open MM
open PySem.W (WData Codec OpenSpec Well WellAll ReadsW ReadsAllW)
/-- the row's walk, the written part told by the head -/
theorem walk_tabsE {r : OpenSpec} {k : Nat} {q : Program} {loose : List Str} {XP : (Str → Option Value) → Heap → Prop} {Z : World → Heap → PySem.W.Frag → Prop} {d : DefRec} {CX : CXT} {ps : List Str} {cs : PySem.W.Frag → List (Addr × Addr)} {sp : PySem.W.Frag → Sp}
    (hwell : r.wellSaid = true) (hdf : d.params.defaults = []) (hlen : r.args.length = ps.length) (hr : Room k callerA)
    (hT : ∀ (w : World) (h : Heap) (K : PySem.W.Frag), Z w h K → ∀ p ∈ cs K, h.get? p.2 = some { cls := .none, data := .fields #[] }) (nT : ∀ (w : World) (h : Heap) (K : PySem.W.Frag), Z w h K → ∀ p ∈ cs K, K.lookup p.2 = none)
    (C : ∀ (w : World) (h : Heap) (K : PySem.W.Frag), K.In h → Z w h K → ∀ p ∈ cs K, PySem.W.CodeHd h p.1 p.2)
    (F : ∀ (w : World) (mg : Str → Option Value) (fa : Addr) (h : Heap) (K : PySem.W.Frag), Z w h K → K.In h → h.Ns mainGlobals mg → mg d.name = some (.ref fa) →
      ∃ fd : FuncData, (∀ (s : Shared) (us : List Value), us.length = ps.length → BindsTo s fd ⟨us, []⟩ (ps.zip us)) ∧
        ∀ base : Heap, K.In base → base.Ns mainGlobals mg → (∀ p ∈ cs K, TabB base mg p.1 p.2) → FnOk r.prog w K mg base CX k fa fd ps (sp K))
    (hsp : ∀ (K : PySem.W.Frag) (H0 H : Hp) (xs : List V) (a : Codec.denoteAll r.args), OnlyF H0 → Ext H0 H → (∀ p ∈ cs K, H p.2 = some (.tbl #[])) → Codec.withinAll r.args a = true → Codec.app r.args r.asked a = true → DwAll K H0 xs (Codec.encAll r.args a) →
      sp K xs H (fun v H' => Dw K H' v (r.ret.enc (Codec.app r.args r.f a))) fun _ _ _ => False)
    (hCX : ∀ (H : Hp) (s : Shared) (e : Value) (s' : Shared), CX [] H s (fun _ _ _ => False) e s' → False) :
    PySem.W.WalkOS q loose XP (fun w h => ∃ K : PySem.W.Frag, K.In h ∧ Z w h K) r d [] (fun f vs => PySem.call f vs) := by
  intro w s₀ s₁ mg mb G Y fa o pm cd doc dV kV ho hd hcd hD hmg hg args vals as hpre hlay hrd hwl hlo
  obtain ⟨a, e1, e2⟩ := PySem.W.os_pre_some hpre
  obtain ⟨e3, hwi⟩ := Codec.encAll_of_decAll r.args args a e1
  subst e3
  obtain ⟨K, KX, Y⟩ := Y
  obtain ⟨fd, hb, hF⟩ := F w mg fa _ K Y KX G.T.g hmg
  refine PySem.W.enter_call (codeAny_mono (call_tabs (R := []) (cl := classAt s₀.heap) (d0 := r.ret.enc (Codec.app r.args r.f a)) KX G.T.g G.T.b G.T.builtins G.T.nolimit hg (hT w _ K Y) (nT w _ K Y) (C w _ K KX Y) G.T.bmain hwl (pl_encAll _ _) (layable_weight hlay) hr hF hb (by rw [encAll_len]; exact hlen)
    (fun H0 H xs hO hE hHT hS => hsp K H0 H xs a hO hE hHT hwi e2 hS) fun H e s' => hCX H s₁ e s') fun r' s' hq => ?_)
  obtain ⟨u, as', rfl, h1, h2, h3, h4⟩ := hq
  exact ⟨.inl ⟨u, _, as', rfl, fun _ => rfl, h1, (OpenSpec.post_iff hwell hwi _ _).mpr rfl, fun z => Bool.noConfusion (show false = true from z)⟩, h2, h3, h4⟩
end SpecT
end
namespace HC
open PySem PySem.Spec PyProof.Rows L2 LamX
theorem dfs_plain : ∀ d ∈ dfs, d.dfl = [] ∧ d.kwd = [] := by
  have e : (dfs.all fun d => d.dfl.isEmpty && d.kwd.isEmpty) = true := by kernel_rfl
  intro d hd
  have z := List.all_eq_true.mp e d hd
  exact ⟨List.isEmpty_iff.mp (Bool.and_eq_true_iff.mp z).1, List.isEmpty_iff.mp (Bool.and_eq_true_iff.mp z).2⟩
theorem tx_of {w : World} {h : Heap} {K : PySem.W.Frag} {mg : Str → Option Value} (Z : He.SaysX fcs dfs [] tfs exB w h K) (KX : K.In h) (G : h.Ns mainGlobals mg) : Tx K mg :=
  ⟨fun f hf => Z.t.d.facts hf, fun d hd => by
    obtain ⟨e1, e2⟩ := dfs_plain d hd
    obtain ⟨fd, F⟩ := Z.t.d.defs hd
    have d1 : d.dvs K = [] := by unfold He.DefD.dvs; rw [e1]; rfl
    have d2 : d.kws K = [] := by unfold He.DefD.kws; rw [e2]; rfl
    rw [d1, d2] at F
    exact ⟨fd, F⟩, fun x a e => PySem.W.mg_of KX G e, fun x e => PySem.W.mg_none_of KX G e, Z.more⟩
abbrev csK (K : PySem.W.Frag) : List (Addr × Addr) := tfs.map (He.cT K)
end HC
open PySem PySem.W PySem.Calls PyProof.Rows
theorem PySem.Challenge.cw_hedgedcalls_s01_answers_holds : PySem.Challenge.rw_hedgedcalls_s01_answers.Holds := by
  w_on
  refine HeadRun.head_spec (r := PySem.Challenge.rw_hedgedcalls_s01_answers) (q := view HC.RW.prog [HC.ansAt]) (H := HC.hk) (ob := HC.obX) (M := 8000) (loose := HC.loose) (d := HC.dA) (kwd := []) HC.obX_eq HC.c1 HC.c2 HC.headRun HC.c6 HC.c7 HC.c8 os_shapes HC.c3 HC.c4 HC.c5 HC.c9 ?call
  refine SpecT.walk_tabsE (Z := fun w h K => He.SaysX HC.fcs HC.dfs [] HC.tfs HC.exB w h K) (k := 13) (CX := L2.CX0) (ps := ["calls"]) (cs := HC.csK) (sp := HC.sp_answers) HC.c3 rfl rfl ⟨rfl, by decide, by decide⟩ ?hT ?nT ?C ?F ?hsp (fun _ _ _ _ z => z)
  case hT =>
    intro w h K Z p hp
    obtain ⟨q, hq, rfl⟩ := List.mem_map.mp hp
    exact Z.empty q hq
  case nT =>
    intro w h K Z p hp
    obtain ⟨q, hq, rfl⟩ := List.mem_map.mp hp
    exact Z.out q hq
  case C =>
    intro w h K KX Z p hp
    obtain ⟨q, hq, rfl⟩ := List.mem_map.mp hp
    exact PySem.W.codeHd_of_K KX (Z.hd q hq)
  case F =>
    intro w mg fa h K Z KX G hmg
    have X := HC.tx_of Z KX G
    obtain ⟨fd, FD⟩ := X.d_answers
    have efa : fa = He.ga K "answers" := by
      have z : mg "answers" = some (.ref fa) := hmg
      rw [X.g_answers] at z
      cases z
      rfl
    subst efa
    refine ⟨fd, FD.bindsA (fun _ _ _ _ _ _ us hl => match us, hl with | [_], _ => rfl), fun base KB GB hB => ?_⟩
    exact HC.ok_answers X (hB _ (List.mem_cons_self ..)) (hB _ (List.mem_cons_of_mem _ (List.mem_cons_self ..))) FD
  case hsp =>
    intro K H0 H xs a hO hE hT hw ha hd
    obtain ⟨l, ⟨⟩⟩ := a
    have hd : L2.DwAll K H0 xs [WData.list (l.map WData.int)] := hd
    cases hd with
    | cons h1 h2 =>
      cases h2
      cases h1 with
      | lst hq hx =>
        have e := L2.ints_dw l _ hx
        subst e
        have ha : PyKp423.answers_asked l = true := ha
        unfold PyKp423.answers_asked at ha
        cases hc : PyKp423.calls l with
        | none => rw [hc] at ha; cases ha
        | some cs =>
          rw [hc] at ha
          obtain ⟨a1, a3⟩ := Bool.and_eq_true_iff.mp ha
          obtain ⟨a1, a2⟩ := Bool.and_eq_true_iff.mp a1
          have ea : PyKp423.answers l = HC.allTold none cs := by
            unfold PyKp423.answers
            rw [hc]
            rfl
          have a4 : (PyKp423.answers l).length ≤ 10000000 := of_decide_eq_true a3
          rw [ea] at a4
          refine ⟨_, l, l.length, cs, rfl, fun p hp => ?_, MM.SqL.ext hE hq, hc, (Bool.and_eq_true_iff.mp (Bool.and_eq_true_iff.mp a2).2).2, of_decide_eq_true a1, a4, fun t H' ht => ?_⟩
          · rcases List.mem_cons.mp hp with rfl | hp
            · exact LamX.TabS.nil (hT _ (List.mem_cons_self ..))
            · rw [List.mem_singleton.mp hp]
              exact LamX.TabS.nil (hT _ (List.mem_cons_of_mem _ (List.mem_cons_self ..)))
          · show L2.Dw K H' (.ref t) (WData.list ((PyKp423.answers l).map WData.int))
            rw [ea]
            exact .lst (L2.SqL.of ht) (L2.dw_ints _)
