import PyProof.Rows.All
import Wide.All
import OpenK.AllK
import Wide.FinOn
import HandS.ForMost
import HandS.ForExc
import HandS.Defaults
import KE.GoesEnum
import HandS.SortInts
import HandS.Iter
import HandS.Walk
import HandS.DictComp
import HandS.WordsDict
import HandS.Finally
import HandS.HotCalls
import HandS.ExcIs
import HandS.ExcCtx
import HandS.CallSlots
import HandS.Codes
import HandS.StrMore
import HandS.Conv
import HandS.RevRange
import HandS.AnyAll
import HandS.Zip
import HandS.Sort
import HandS.IsInst
import HandS.HeadHook4
import HandS.HeadWalk
import HandS.Head0
import HandS.Head1
import HandS.Head2
import PySem.Challenge.RW_onereading_k01_rests_and_steps
set_option Elab.async false
set_option linter.all false
set_option maxRecDepth 100000
set_option maxHeartbeats 4000000
namespace Ow
open PySem PySem.Spec PyProof.Rows L2
open SX (S S_len S_cat S_inj S_tl join_S S_beq map_S_tl)
def top (i : Nat) : Stmt := PySem.Challenge.pw_onereading_k01_rests_and_steps.main.body.getD i (.Pass ⟨0, 0, 0, 0⟩)
abbrev s_left_of : Stmt := top 1
abbrev s_shared : Stmt := top 2
abbrev s_stepped : Stmt := top 4
abbrev sAt : Stmt := top 6
abbrev sMixed : Stmt := top 7
abbrev sWhole : Stmt := top 8
abbrev sText : Stmt := top 9
abbrev s__law_bent : Stmt := top 10
abbrev s__law_left : Stmt := top 11
abbrev s__law_step : Stmt := top 12
abbrev s__law_shared : Stmt := top 13
abbrev sLaw : Stmt := top 14

/-! ### enumerate over zip of two iterators: a zip, whatever it knows of the tuple that it told last -/
abbrev ZipG (h : Heap) (z TI TO : Addr) (f0 : Value) (f : Bool) : Prop := h.get? z = some { cls := .type "zip", dict := none, data := .fields #[f0, .bool f, .bool false, .ref TI, .ref TO], slots := #[] }
abbrev Kn (f0 : Value) : Prop := f0 = Value.none ∨ ∃ T : Nat, f0 = rawInt T
structure EzS (z TI TO i1 i2 : Addr) (St1 St2 : Nat → Heap → Prop) (i : Nat) (h : Heap) : Prop where
  zip : ∃ f0 f, Kn f0 ∧ ZipG h z TI TO f0 f
  ti : IsTupOf2 h TI (.ref i1) (.ref i2)
  out : ∃ a1 a2, IsTupOf2 h TO a1 a2
  s1 : St1 i h
  s2 : St2 i h
section
variable {prog : Program} {w : World} {A : Around} {E : Value → Shared → Prop} {s : Shared} {z TI TO i1 i2 : Addr} {fp1 fp2 : List Addr} {n1 n2 i : Nat} {P1 P2 : Nat → Value → Prop} {St1 St2 : Nat → Heap → Prop} {a1 a2 f0 : Value} {f : Bool}
theorem alive_any {a : Addr} {Q : Option Obj → Shared → Prop} (h : Q (s.heap.get? a) s) : wpAny (model prog w) A (loadIfAlive a) Q E s := fun _ _ _ => h
theorem zipG_free {Q : Bool → Shared → Prop} (hz : ZipG s.heap z TI TO f0 f) (h0 : Kn f0) (h : ∀ b f' h', ZipG h' z TI TO f0 f' → Heap.SameBut z s.heap h' → Q b { s with heap := h' }) : wpAny (model prog w) A (Builtin.SmallTypes.ownedTupleIsFree (.ref z)) Q E s := by
  unfold Builtin.SmallTypes.ownedTupleIsFree
  refine wpAny_bind (wpAny_field hz rfl (x := f0) rfl ?_)
  rcases h0 with rfl | ⟨T, rfl⟩
  · exact wpAny_pure (h true f s.heap hz (Heap.SameBut.refl _ _))
  · show wpAny _ _ (loadIfAlive ((T : Int).toNat) >>= _) _ _ _
    refine wpAny_bind (alive_any ?_)
    cases s.heap.get? ((T : Int).toNat) with
    | none =>
      simp only [Option.isNone_none, if_true]
      exact wpAny_pure (h true f s.heap hz (Heap.SameBut.refl _ _))
    | some o =>
      simp only [Option.isNone_some, Bool.false_eq_true, if_false]
      refine wpAny_bind (wpAny_field hz rfl (x := .bool f) rfl ?_)
      cases f with
      | true =>
        rw [if_neg (by decide)]
        exact wpAny_pure (h false true s.heap hz (Heap.SameBut.refl _ _))
      | false =>
        rw [if_pos (by decide)]
        exact wpAny_bind (wpAny_setField_rec hz (by simp) fun h₁ hz₁ hs₁ => wpAny_pure (h false true h₁ hz₁ hs₁))
theorem zipG_item {Q : Value → Shared → Prop} (S : ZipSep2 z TI TO i1 i2 fp1 fp2) (D1 : Draws prog w A i1 fp1 n1 P1 St1) (D2 : Draws prog w A i2 fp2 n2 P2 St2) (st : EzS z TI TO i1 i2 St1 St2 i s.heap) (hlt1 : i < n1) (hlt2 : i < n2)
    (hQ : ∀ x1 x2 h' tk, P1 i x1 → P2 i x2 → EzS z TI TO i1 i2 St1 St2 (i + 1) h' → IsTupOf2 h' s.heap.objs.size x1 x2 → h'.objs.size = s.heap.objs.size + 1 →
      (∀ c o, c ≠ z → c ≠ TO → c ≠ i1 → c ≠ i2 → s.heap.get? c = some o → h'.get? c = some o) → Q (.ref s.heap.objs.size) { s with heap := h', toks := tk }) :
    wpAny (model prog w) A (Builtin.«zip.__next__» ⟨[.ref z], []⟩) (fun fin s' => ∃ v, fin = .done (.ret v) ∧ Q v s') E s := by
  obtain ⟨hp, g, d, tk0, os⟩ := s
  obtain ⟨⟨f0, f, h0, hz⟩, hTI, ⟨a1, a2, hTO⟩, st1, st2⟩ := st
  show wpAny _ _ (field (.ref z) 2 >>= _) _ _ _
  refine wpAny_bind (wpAny_field hz rfl (x := .bool false) rfl ?_)
  show wpAny _ _ (field (.ref z) 3 >>= _) _ _ _
  refine wpAny_bind (wpAny_field hz rfl (x := .ref TI) rfl (wpAny_bind (wpAny_seqItems hTI rfl ?_)))
  show wpAny _ _ (Builtin.SmallTypes.ownedTupleIsFree (.ref z) >>= _) _ _ _
  refine wpAny_bind (zipG_free hz h0 fun b f' hq hz hsq => ?_)
  replace hsq : Heap.SameBut z hp hq := hsq
  replace hz : ZipG hq z TI TO f0 f' := hz
  have hTIq : IsTupOf2 hq TI (.ref i1) (.ref i2) := hsq.extBut _ _ S.TIz hTI
  have hTOq : IsTupOf2 hq TO a1 a2 := hsq.extBut _ _ S.TOz hTO
  have st1q := D1.over st1 hsq S.zf1
  have st2q := D2.over st2 hsq S.zf2
  have szq : hq.objs.size = hp.objs.size := hsq.1
  cases b with
  | true =>
    simp only [if_true]
    refine wpAny_bind (wpAny_rule (wpAny_bind (wpAny_field hz rfl (x := .ref TO) rfl (wpAny_bind (wpAny_setField_rec hz (by simp) fun g0 hz0 hs0 => ?_)))))
    replace hz0 : ZipG g0 z TI TO .ellipsis f' := hz0
    replace hs0 : Heap.SameBut z hq g0 := hs0
    refine wpAny_bind ?_
    simp only [List.zipIdx_cons, List.zipIdx_nil, List.forIn_cons, List.forIn_nil]
    refine wpAny_bind (wpAny_bind (wpAny_onRaise ?_))
    show wpAny _ _ (Builtin.SmallTypes.nextOf (.ref i1) >>= _) _ _ ⟨g0, g, d, tk0, os⟩
    refine wpAny_bind (D1.item i _ _ _ hlt1 (D1.over st1q hs0 S.zf1) fun x1 p1 tk1 hx1 sn1 hp1 => wpAny_pure ?_)
    replace hp1 : Heap.SameBut i1 g0 p1 := hp1
    have hU1 : IsTupOf2 p1 TO a1 a2 := hp1.extBut _ _ S.Ti1 (hs0.extBut _ _ S.TOz hTOq)
    refine wpAny_bind (wpAny_seqItems (s := ⟨p1, g, d, tk1, os⟩) hU1 rfl (wpAny_bind (updateSeq_IsTupOf2 (s := ⟨p1, g, d, tk1, os⟩) hU1 fun g1 hT1 hs1 => ?_)))
    replace hT1 : IsTupOf2 g1 TO x1 a2 := hT1
    replace hs1 : Heap.SameBut TO p1 g1 := hs1
    refine wpAny_bind (wpAny_letGo (wpAny_pure (wpAny_bind (wpAny_bind (wpAny_onRaise ?_)))))
    show wpAny _ _ (Builtin.SmallTypes.nextOf (.ref i2) >>= _) _ _ ⟨g1, g, d, tk1, os⟩
    refine wpAny_bind (D2.item i _ _ _ hlt2 (D2.over (D2.over (D2.over st2q hs0 S.zf2) hp1 S.sep1_2) hs1 S.Tf2) fun x2 p2 tk2 hx2 sn2 hp2 => wpAny_pure ?_)
    replace hp2 : Heap.SameBut i2 g1 p2 := hp2
    have hU2 : IsTupOf2 p2 TO x1 a2 := hp2.extBut _ _ S.Ti2 hT1
    refine wpAny_bind (wpAny_seqItems (s := ⟨p2, g, d, tk2, os⟩) hU2 rfl (wpAny_bind (updateSeq_IsTupOf2 (s := ⟨p2, g, d, tk2, os⟩) hU2 fun g2 hT2 hs2 => ?_)))
    replace hT2 : IsTupOf2 g2 TO x1 x2 := hT2
    replace hs2 : Heap.SameBut TO p2 g2 := hs2
    refine wpAny_bind (wpAny_letGo (wpAny_pure (wpAny_pure (wpAny_bind (wpAny_seqItems (s := ⟨g2, g, d, tk2, os⟩) hT2 rfl (wpAny_bind (wpAny_newTuple ?_)))))))
    have hsz : g2.objs.size = hp.objs.size := by rw [hs2.1, hp2.1, hs1.1, hp1.1, hs0.1, szq]
    have hzz : ZipG g2 z TI TO .ellipsis f' := hs2.extBut _ _ S.TOz.symm (hp2.extBut _ _ S.zi2 (hs1.extBut _ _ S.TOz.symm (hp1.extBut _ _ S.zi1 hz0)))
    have hkk : ∀ c o, c ≠ z → c ≠ TO → c ≠ i1 → c ≠ i2 → hp.get? c = some o → g2.get? c = some o := fun c o cz cT c1 c2 e => hs2.extBut _ _ cT (hp2.extBut _ _ c2 (hs1.extBut _ _ cT (hp1.extBut _ _ c1 (hs0.extBut _ _ cz (hsq.extBut _ _ cz e)))))
    have hti2 : IsTupOf2 g2 TI (.ref i1) (.ref i2) := hs2.extBut _ _ S.TITO (hp2.extBut _ _ S.TIi2 (hs1.extBut _ _ S.TITO (hp1.extBut _ _ S.TIi1 (hs0.extBut _ _ S.TIz hTIq))))
    have hj1 := D1.over (D1.over (D1.over sn1 hs1 S.Tf1) hp2 S.sep2_1) hs2 S.Tf1
    have hj2 := D2.over sn2 hs2 S.Tf2
    have hzlt : z < g2.objs.size := Heap.lt_size hzz
    show wpAny _ _ (Builtin.SmallTypes.ownedTupleHandOut (.ref z) (.ref g2.objs.size) >>= _) _ _ ⟨g2.push { cls := .type "tuple", data := .seq #[x1, x2] }, g, d, tk2, os⟩
    refine wpAny_bind ?_
    unfold Builtin.SmallTypes.ownedTupleHandOut
    have hz₆ : ZipG (g2.push { cls := .type "tuple", data := .seq #[x1, x2] }) z TI TO .ellipsis f' := Heap.get?_push_of_some _ hzz
    refine wpAny_bind (wpAny_setField_rec hz₆ (by simp) fun h₇ hz₇ hs₇ => ?_)
    replace hz₇ : ZipG h₇ z TI TO (rawInt g2.objs.size) f' := hz₇
    refine wpAny_setField_rec hz₇ (by simp) fun h₈ hz₈ hs₈ => ?_
    replace hz₈ : ZipG h₈ z TI TO (rawInt g2.objs.size) false := hz₈
    replace hs₇ : Heap.SameBut z (g2.push { cls := .type "tuple", data := .seq #[x1, x2] }) h₇ := hs₇
    replace hs₈ : Heap.SameBut z h₇ h₈ := hs₈
    have up : ∀ c o, c ≠ z → g2.get? c = some o → h₈.get? c = some o := fun c o c1 e => hs₈.extBut _ _ c1 (hs₇.extBut _ _ c1 (Heap.get?_push_of_some _ e))
    have hT₈ : IsTupOf2 h₈ g2.objs.size x1 x2 := hs₈.extBut _ _ (Nat.ne_of_gt hzlt) (hs₇.extBut _ _ (Nat.ne_of_gt hzlt) (Heap.get?_push_size _ rfl))
    have hz8 : h₈.objs.size = g2.objs.size + 1 := by rw [hs₈.1, hs₇.1, Heap.size_push]
    refine wpAny_pure ⟨_, rfl, ?_⟩
    have hz₉ : ZipG h₈ z TI TO (rawInt hp.objs.size) false := by rw [← hsz]; exact hz₈
    rw [hsz] at hT₈ hz8
    show Q (.ref g2.objs.size) ⟨h₈, g, d, tk2, os⟩
    rw [hsz]
    exact hQ x1 x2 h₈ tk2 hx1 hx2 ⟨⟨_, _, .inr ⟨_, rfl⟩, hz₉⟩, up _ _ S.TIz hti2, ⟨_, _, up _ _ S.TOz hT2⟩, D1.frame _ _ _ hj1 fun b hb o e => up b o (fun q => S.zf1 (q ▸ hb)) e, D2.frame _ _ _ hj2 fun b hb o e => up b o (fun q => S.zf2 (q ▸ hb)) e⟩ hT₈ hz8
      fun c o cz cT c1 c2 e => up c o cz (hkk c o cz cT c1 c2 e)
  | false =>
    simp only [Bool.false_eq_true, if_false]
    refine wpAny_bind ?_
    rw [← Array.forIn_toList]
    simp only [List.forIn_cons, List.forIn_nil]
    refine wpAny_bind (wpAny_bind (wpAny_holding ?_))
    show wpAny _ _ (Builtin.SmallTypes.nextOf (.ref i1) >>= _) _ _ ⟨hq, g, d, tk0, os⟩
    refine wpAny_bind (D1.item i _ _ _ hlt1 st1q fun x1 p1 tk1 hx1 sn1 hp1 => wpAny_pure (wpAny_pure (wpAny_bind (wpAny_bind (wpAny_holding ?_)))))
    replace hp1 : Heap.SameBut i1 hq p1 := hp1
    show wpAny _ _ (Builtin.SmallTypes.nextOf (.ref i2) >>= _) _ _ ⟨p1, g, d, tk1, os⟩
    refine wpAny_bind (D2.item i _ _ _ hlt2 (D2.over st2q hp1 S.sep1_2) fun x2 p2 tk2 hx2 sn2 hp2 => wpAny_pure (wpAny_pure (wpAny_pure ?_)))
    replace hp2 : Heap.SameBut i2 p1 p2 := hp2
    show wpAny _ _ (newTuple [x1, x2] >>= _) _ _ ⟨p2, g, d, tk2, os⟩
    refine wpAny_bind (wpAny_newTuple (wpAny_pure ⟨_, rfl, ?_⟩))
    have hsz : p2.objs.size = hp.objs.size := by rw [hp2.1, hp1.1, szq]
    have up : ∀ c o, p2.get? c = some o → (p2.push { cls := .type "tuple", data := .seq #[x1, x2] }).get? c = some o := fun c o e => Heap.get?_push_of_some _ e
    have hT : IsTupOf2 (p2.push { cls := .type "tuple", data := .seq #[x1, x2] }) p2.objs.size x1 x2 := Heap.get?_push_size _ rfl
    have hz4 : (p2.push { cls := .type "tuple", data := .seq #[x1, x2] }).objs.size = p2.objs.size + 1 := Heap.size_push ..
    show Q (.ref p2.objs.size) ⟨_, g, d, tk2, os⟩
    rw [hsz] at hT hz4 ⊢
    exact hQ x1 x2 _ tk2 hx1 hx2 ⟨⟨f0, f', h0, up _ _ (hp2.extBut _ _ S.zi2 (hp1.extBut _ _ S.zi1 hz))⟩, up _ _ (hp2.extBut _ _ S.TIi2 (hp1.extBut _ _ S.TIi1 hTIq)), ⟨_, _, up _ _ (hp2.extBut _ _ S.Ti2 (hp1.extBut _ _ S.Ti1 hTOq))⟩,
      D1.frame _ _ _ (D1.over sn1 hp2 S.sep2_1) fun b _ o e => up b o e, D2.frame _ _ _ sn2 fun b _ o e => up b o e⟩ hT hz4 fun c o cz _ c1 c2 e => up c o (hp2.extBut _ _ c2 (hp1.extBut _ _ c1 (hsq.extBut _ _ cz e)))
end
section
variable {prog : Program} {w : World} {A : Around} {E : Value → Shared → Prop} {s : Shared} {e z TI TO i1 i2 : Addr} {fp1 fp2 : List Addr} {n1 n2 i : Nat} {P1 P2 : Nat → Value → Prop} {St1 St2 : Nat → Heap → Prop} {a1 a2 f0 old : Value} {f : Bool} {c : Int}
theorem zipG_end {Q : Fin → Shared → Prop} (S : ZipSep2 z TI TO i1 i2 fp1 fp2) (D1 : Draws prog w A i1 fp1 n1 P1 St1) (D2 : Draws prog w A i2 fp2 n2 P2 St2) (st : EzS z TI TO i1 i2 St1 St2 i s.heap) (hle1 : i ≤ n1) (hle2 : i ≤ n2) (hend : i = n1 ∨ i = n2)
    (hE : ∀ h' tk x, (∀ c o, c ≠ z → c ≠ TO → c ≠ i1 → c ≠ i2 → s.heap.get? c = some o → h'.get? c = some o) → (∃ o, h'.get? x = some o ∧ o.cls = .type "StopIteration") → E (.ref x) { s with heap := h', toks := tk }) :
    wpAny (model prog w) A (Builtin.«zip.__next__» ⟨[.ref z], []⟩) Q E s := by
  obtain ⟨hp, g, d, tk0, os⟩ := s
  obtain ⟨⟨f0, f, h0, hz⟩, hTI, ⟨a1, a2, hTO⟩, st1, st2⟩ := st
  show wpAny _ _ (field (.ref z) 2 >>= _) _ _ _
  refine wpAny_bind (wpAny_field hz rfl (x := .bool false) rfl ?_)
  show wpAny _ _ (field (.ref z) 3 >>= _) _ _ _
  refine wpAny_bind (wpAny_field hz rfl (x := .ref TI) rfl (wpAny_bind (wpAny_seqItems hTI rfl ?_)))
  show wpAny _ _ (Builtin.SmallTypes.ownedTupleIsFree (.ref z) >>= _) _ _ _
  refine wpAny_bind (zipG_free hz h0 fun b f' hq hz hsq => ?_)
  replace hsq : Heap.SameBut z hp hq := hsq
  replace hz : ZipG hq z TI TO f0 f' := hz
  have hTOq : IsTupOf2 hq TO a1 a2 := hsq.extBut _ _ S.TOz hTO
  have st1q := D1.over st1 hsq S.zf1
  have st2q := D2.over st2 hsq S.zf2
  cases b with
  | true =>
    simp only [if_true]
    refine wpAny_bind (wpAny_rule (wpAny_bind (wpAny_field hz rfl (x := .ref TO) rfl (wpAny_bind (wpAny_setField_rec hz (by simp) fun g0 hz0 hs0 => ?_)))))
    replace hz0 : ZipG g0 z TI TO .ellipsis f' := hz0
    replace hs0 : Heap.SameBut z hq g0 := hs0
    refine wpAny_bind ?_
    simp only [List.zipIdx_cons, List.zipIdx_nil, List.forIn_cons, List.forIn_nil]
    refine wpAny_bind (wpAny_bind (wpAny_onRaise ?_))
    show wpAny _ _ (Builtin.SmallTypes.nextOf (.ref i1) >>= _) _ _ ⟨g0, g, d, tk0, os⟩
    by_cases hlt1 : i < n1
    · refine wpAny_bind (D1.item i _ _ _ hlt1 (D1.over st1q hs0 S.zf1) fun x1 p1 tk1 hx1 sn1 hp1 => wpAny_pure ?_)
      replace hp1 : Heap.SameBut i1 g0 p1 := hp1
      have hU1 : IsTupOf2 p1 TO a1 a2 := hp1.extBut _ _ S.Ti1 (hs0.extBut _ _ S.TOz hTOq)
      refine wpAny_bind (wpAny_seqItems (s := ⟨p1, g, d, tk1, os⟩) hU1 rfl (wpAny_bind (updateSeq_IsTupOf2 (s := ⟨p1, g, d, tk1, os⟩) hU1 fun g1 hT1 hs1 => ?_)))
      replace hs1 : Heap.SameBut TO p1 g1 := hs1
      have hi2 : i = n2 := by omega
      refine wpAny_bind (wpAny_letGo (wpAny_pure (wpAny_bind (wpAny_bind (wpAny_onRaise ?_)))))
      show wpAny _ _ (Builtin.SmallTypes.nextOf (.ref i2) >>= _) _ _ ⟨g1, g, d, tk1, os⟩
      refine wpAny_bind (D2.done ⟨g1, g, d, tk1, os⟩ _ _ (by rw [← hi2]; exact D2.over (D2.over (D2.over st2q hs0 S.zf2) hp1 S.sep1_2) hs1 S.Tf2) fun q x hq2 he => ?_)
      obtain ⟨oe, hoe, hce⟩ := he
      replace hq2 : Heap.ExtBut i2 g1 q := hq2
      replace hoe : q.get? x = some oe := hoe
      have hzq : ZipG q z TI TO .ellipsis f' := hq2 _ _ S.zi2 (hs1.extBut _ _ S.TOz.symm (hp1.extBut _ _ S.zi1 hz0))
      have hez : x ≠ z := fun y => by
        subst y
        rw [hzq] at hoe
        cases hoe
        simp at hce
      refine wpAny_setField_rec (s := ⟨q, g, d, tk1, os⟩) hzq (by simp) fun q' _ hq' => ?_
      replace hq' : Heap.SameBut z q q' := hq'
      exact hE q' tk1 x (fun c o cz cT c1 c2 y => hq'.extBut _ _ cz (hq2 _ _ c2 (hs1.extBut _ _ cT (hp1.extBut _ _ c1 (hs0.extBut _ _ cz (hsq.extBut _ _ cz y)))))) ⟨oe, hq'.extBut _ _ hez hoe, hce⟩
    · have hi1 : i = n1 := by omega
      refine wpAny_bind (D1.done ⟨g0, g, d, tk0, os⟩ _ _ (by rw [← hi1]; exact D1.over st1q hs0 S.zf1) fun q x hq2 he => ?_)
      obtain ⟨oe, hoe, hce⟩ := he
      replace hq2 : Heap.ExtBut i1 g0 q := hq2
      replace hoe : q.get? x = some oe := hoe
      have hzq : ZipG q z TI TO .ellipsis f' := hq2 _ _ S.zi1 hz0
      have hez : x ≠ z := fun y => by
        subst y
        rw [hzq] at hoe
        cases hoe
        simp at hce
      refine wpAny_setField_rec (s := ⟨q, g, d, tk0, os⟩) hzq (by simp) fun q' _ hq' => ?_
      replace hq' : Heap.SameBut z q q' := hq'
      exact hE q' tk0 x (fun c o cz cT c1 c2 y => hq'.extBut _ _ cz (hq2 _ _ c1 (hs0.extBut _ _ cz (hsq.extBut _ _ cz y)))) ⟨oe, hq'.extBut _ _ hez hoe, hce⟩
  | false =>
    simp only [Bool.false_eq_true, if_false]
    refine wpAny_bind ?_
    rw [← Array.forIn_toList]
    simp only [List.forIn_cons, List.forIn_nil]
    refine wpAny_bind (wpAny_bind (wpAny_holding ?_))
    show wpAny _ _ (Builtin.SmallTypes.nextOf (.ref i1) >>= _) _ _ ⟨hq, g, d, tk0, os⟩
    by_cases hlt1 : i < n1
    · have hi2 : i = n2 := by omega
      refine wpAny_bind (D1.item i _ _ _ hlt1 st1q fun x1 p1 tk1 hx1 sn1 hp1 => wpAny_pure (wpAny_pure (wpAny_bind (wpAny_bind (wpAny_holding ?_)))))
      replace hp1 : Heap.SameBut i1 hq p1 := hp1
      show wpAny _ _ (Builtin.SmallTypes.nextOf (.ref i2) >>= _) _ _ ⟨p1, g, d, tk1, os⟩
      refine wpAny_bind (D2.done ⟨p1, g, d, tk1, os⟩ _ _ (by rw [← hi2]; exact D2.over st2q hp1 S.sep1_2) fun q x hq2 he => ?_)
      exact hE q tk1 x (fun c o cz _ c1 c2 y => hq2 _ _ c2 (hp1.extBut _ _ c1 (hsq.extBut _ _ cz y))) he
    · have hi1 : i = n1 := by omega
      refine wpAny_bind (D1.done ⟨hq, g, d, tk0, os⟩ _ _ (by rw [← hi1]; exact st1q) fun q x hq2 he => ?_)
      exact hE q tk0 x (fun c o cz _ c1 _ y => hq2 _ _ c1 (hsq.extBut _ _ cz y)) he
theorem EzS.typeIs (st : EzS z TI TO i1 i2 St1 St2 i s.heap) : s.TypeIs (.ref z) "zip" := by
  obtain ⟨f0, f, _, hz⟩ := st.zip
  exact ⟨_, hz, rfl⟩
theorem ez_next {Q : Value → Shared → Prop} (S : ZipSep2 z TI TO i1 i2 fp1 fp2) (D1 : Draws prog w A.in1 i1 fp1 n1 P1 St1) (D2 : Draws prog w A.in1 i2 fp2 n2 P2 St2) (st : EzS z TI TO i1 i2 St1 St2 i s.heap) (hlt1 : i < n1) (hlt2 : i < n2)
    (hQ : ∀ x1 x2 h' tk, P1 i x1 → P2 i x2 → EzS z TI TO i1 i2 St1 St2 (i + 1) h' → IsTupOf2 h' s.heap.objs.size x1 x2 → h'.objs.size = s.heap.objs.size + 1 →
      (∀ c o, c ≠ z → c ≠ TO → c ≠ i1 → c ≠ i2 → s.heap.get? c = some o → h'.get? c = some o) → Q (.ref s.heap.objs.size) { s with heap := h', toks := tk }) :
    wpAny (model prog w) A (Builtin.SmallTypes.nextOf (.ref z)) Q E s := by
  unfold Builtin.SmallTypes.nextOf
  refine wpAny_bind (wpAny_callSpecial?_slot (name := Str.ofString "__next__") st.typeIs F.slot_zip_next (wpAny_call_entry F.slot_zip_next st.typeIs F.entry_zip_next (zipG_item S D1 D2 st hlt1 hlt2 fun x1 x2 h' tk b1 b2 b3 b4 b5 b6 => ?_) (F.args_zip_next_1 _)))
  exact wpAny_pure (hQ x1 x2 h' tk b1 b2 b3 b4 b5 b6)
theorem ez_stop {Q : Value → Shared → Prop} (S : ZipSep2 z TI TO i1 i2 fp1 fp2) (D1 : Draws prog w A.in1 i1 fp1 n1 P1 St1) (D2 : Draws prog w A.in1 i2 fp2 n2 P2 St2) (st : EzS z TI TO i1 i2 St1 St2 i s.heap) (hle1 : i ≤ n1) (hle2 : i ≤ n2) (hend : i = n1 ∨ i = n2)
    (hE : ∀ h' tk x, (∀ c o, c ≠ z → c ≠ TO → c ≠ i1 → c ≠ i2 → s.heap.get? c = some o → h'.get? c = some o) → (∃ o, h'.get? x = some o ∧ o.cls = .type "StopIteration") → E (.ref x) { s with heap := h', toks := tk }) :
    wpAny (model prog w) A (Builtin.SmallTypes.nextOf (.ref z)) Q E s := by
  unfold Builtin.SmallTypes.nextOf
  exact wpAny_bind (wpAny_callSpecial?_slot (name := Str.ofString "__next__") st.typeIs F.slot_zip_next (wpAny_call_entry F.slot_zip_next st.typeIs F.entry_zip_next (zipG_end S D1 D2 st hle1 hle2 hend hE) (F.args_zip_next_1 _)))
end
/-- the enumerate lies apart from the zip's cells -/
structure EzApart (e z TI TO i1 i2 : Addr) (fp1 fp2 : List Addr) : Prop where
  z : e ≠ z
  ti : e ≠ TI
  to : e ≠ TO
  m1 : i1 ∈ fp1
  m2 : i2 ∈ fp2
  f1 : e ∉ fp1
  f2 : e ∉ fp2
theorem EzS.at {prog : Program} {w : World} {A : Around} {z TI TO i1 i2 : Addr} {fp1 fp2 : List Addr} {n1 n2 i : Nat} {P1 P2 : Nat → Value → Prop} {St1 St2 : Nat → Heap → Prop} {h h' : Heap} (st : EzS z TI TO i1 i2 St1 St2 i h) (D1 : Draws prog w A i1 fp1 n1 P1 St1) (D2 : Draws prog w A i2 fp2 n2 P2 St2)
    (k : ∀ b, b = z ∨ b = TI ∨ b = TO ∨ b ∈ fp1 ∨ b ∈ fp2 → ∀ o, h.get? b = some o → h'.get? b = some o) : EzS z TI TO i1 i2 St1 St2 i h' := by
  obtain ⟨⟨f0, f, h0, hz⟩, ti, ⟨a1, a2, to⟩, s1, s2⟩ := st
  exact ⟨⟨f0, f, h0, k _ (.inl rfl) _ hz⟩, k _ (.inr (.inl rfl)) _ ti, ⟨a1, a2, k _ (.inr (.inr (.inl rfl))) _ to⟩, D1.frame _ _ _ s1 fun b hb o q => k b (.inr (.inr (.inr (.inl hb)))) o q, D2.frame _ _ _ s2 fun b hb o q => k b (.inr (.inr (.inr (.inr hb)))) o q⟩
section
variable {prog : Program} {w : World} {A : Around} {E : Value → Shared → Prop} {s : Shared} {e z TI TO i1 i2 : Addr} {fp1 fp2 : List Addr} {n1 n2 i : Nat} {P1 P2 : Nat → Value → Prop} {St1 St2 : Nat → Heap → Prop} {old : Value} {c : Int}
theorem ezn_item0 {Q : Value → Shared → Prop} (S : ZipSep2 z TI TO i1 i2 fp1 fp2) (U : EzApart e z TI TO i1 i2 fp1 fp2) (D1 : Draws prog w A.in1 i1 fp1 n1 P1 St1) (D2 : Draws prog w A.in1 i2 fp2 n2 P2 St2) (he : IsEnum s.heap e z c old) (st : EzS z TI TO i1 i2 St1 St2 i s.heap) (hlt1 : i < n1) (hlt2 : i < n2)
    (hQ : ∀ x1 x2 h' tk, P1 i x1 → P2 i x2 → EzS z TI TO i1 i2 St1 St2 (i + 1) h' → IsTupOf2 h' s.heap.objs.size x1 x2 → IsEnumOut h' e z (c + 1) (.ref s.heap.objs.size) (s.heap.objs.size + 1) →
      h'.get? (s.heap.objs.size + 1) = some { cls := .type "tuple", data := .seq #[.int c tk, .ref s.heap.objs.size] } → h'.objs.size = s.heap.objs.size + 2 →
      (∀ b o, b ≠ e → b ≠ z → b ≠ TO → b ≠ i1 → b ≠ i2 → s.heap.get? b = some o → h'.get? b = some o) → Q (.ref (s.heap.objs.size + 1)) { s with heap := h', toks := tk + 1 }) :
    wpAny (model prog w) A (Builtin.«enumerate.__next__» ⟨[.ref e], []⟩) (fun fin s' => ∃ v, fin = .done (.ret v) ∧ Q v s') E s := by
  obtain ⟨hp, g, d, tk0, os⟩ := s
  have ei1 : e ≠ i1 := fun q => U.f1 (by rw [q]; exact U.m1)
  have ei2 : e ≠ i2 := fun q => U.f2 (by rw [q]; exact U.m2)
  have hel : e < hp.objs.size := Heap.lt_size he
  show wpAny _ _ (field (.ref e) 2 >>= _) _ _ _
  refine wpAny_bind (wpAny_field he rfl (x := .ref z) rfl (wpAny_bind (ez_next S D1 D2 st hlt1 hlt2 fun x1 x2 h1 tk p1 p2 st1 hT1 sz1 k1 => ?_)))
  replace hT1 : IsTupOf2 h1 hp.objs.size x1 x2 := hT1
  replace sz1 : h1.objs.size = hp.objs.size + 1 := sz1
  replace k1 : ∀ c o, c ≠ z → c ≠ TO → c ≠ i1 → c ≠ i2 → hp.get? c = some o → h1.get? c = some o := k1
  have he1 : IsEnum h1 e z c old := k1 e _ U.z U.to ei1 ei2 he
  show wpAny _ _ (field (.ref e) 3 >>= _) _ _ ⟨h1, g, d, tk, os⟩
  refine wpAny_bind (wpAny_field he1 rfl (x := rawInt c) rfl ?_)
  show wpAny _ _ (field (.ref e) 4 >>= _) _ _ ⟨h1, g, d, tk, os⟩
  refine wpAny_bind (wpAny_field he1 rfl (x := .none) rfl ?_)
  show wpAny _ _ (mkInt c >>= _) _ _ ⟨h1, g, d, tk, os⟩
  refine wpAny_bind (wpAny_mkInt ?_)
  show wpAny _ _ (setField (.ref e) 3 (rawInt (c + 1)) >>= _) _ _ ⟨h1, g, d, tk + 1, os⟩
  refine wpAny_bind (wpAny_setField_rec he1 (by simp) fun h2 he2 hs2 => ?_)
  replace hs2 : Heap.SameBut e h1 h2 := hs2
  replace he2 : IsEnum h2 e z (c + 1) old := he2
  show wpAny _ _ (setField (.ref e) 4 .none >>= _) _ _ ⟨h2, g, d, tk + 1, os⟩
  refine wpAny_bind (wpAny_setField_rec he2 (by simp) fun h3 he3 hs3 => ?_)
  replace hs3 : Heap.SameBut e h2 h3 := hs3
  replace he3 : IsEnum h3 e z (c + 1) old := he3
  show wpAny _ _ (newTuple [.int c tk, .ref hp.objs.size] >>= _) _ _ ⟨h3, g, d, tk + 1, os⟩
  refine wpAny_bind (wpAny_newTuple ?_)
  have he4 : IsEnum (h3.push { cls := .type "tuple", data := .seq #[.int c tk, .ref hp.objs.size] }) e z (c + 1) old := Heap.get?_push_of_some _ he3
  generalize hh4 : h3.push { cls := .type "tuple", data := .seq #[.int c tk, .ref hp.objs.size] } = h4 at he4
  have hsz : h3.objs.size = hp.objs.size + 1 := by rw [hs3.1, hs2.1, sz1]
  have ht4 : h4.get? (hp.objs.size + 1) = some { cls := .type "tuple", data := .seq #[.int c tk, .ref hp.objs.size] } := by
    rw [← hh4, ← hsz]
    exact Heap.get?_push_size _ rfl
  have hz4 : h4.objs.size = hp.objs.size + 2 := by rw [← hh4, Heap.size_push, hsz]
  have up4 : ∀ b o, b ≠ e → h1.get? b = some o → h4.get? b = some o := fun b o hb q => by
    rw [← hh4]
    exact Heap.get?_push_of_some _ (hs3.extBut b o hb (hs2.extBut b o hb q))
  show wpAny _ _ (Builtin.SmallTypes.ownedTupleIsFree (.ref e) >>= _) _ _ ⟨h4, g, d, tk + 1, os⟩
  rw [hsz]
  clear hh4 he3 hs3 he2 hs2 hsz h3 h2
  refine wpAny_bind ?_
  unfold Builtin.SmallTypes.ownedTupleIsFree
  refine wpAny_bind (wpAny_field he4 rfl (x := .none) rfl (wpAny_pure ?_))
  simp only [if_true]
  refine wpAny_bind (wpAny_rule (wpAny_bind (wpAny_field he4 rfl (x := old) rfl (wpAny_bind (wpAny_setField_rec he4 (by simp) fun h5 he5 hs5 => ?_)))))
  replace hs5 : Heap.SameBut e h4 h5 := hs5
  replace he5 : IsEnum h5 e z (c + 1) (.ref hp.objs.size) := he5
  show wpAny _ _ (Builtin.SmallTypes.ownedTupleHandOut (.ref e) (.ref (hp.objs.size + 1)) >>= _) _ _ ⟨h5, g, d, tk + 1, os⟩
  refine wpAny_bind ?_
  unfold Builtin.SmallTypes.ownedTupleHandOut
  refine wpAny_bind (wpAny_setField_rec he5 (by simp) fun h6 he6 hs6 => ?_)
  replace hs6 : Heap.SameBut e h5 h6 := hs6
  replace he6 : IsEnumOut h6 e z (c + 1) (.ref hp.objs.size) (hp.objs.size + 1) := he6
  refine wpAny_setField_rec he6 (by simp) fun h7 he7 hs7 => ?_
  replace hs7 : Heap.SameBut e h6 h7 := hs7
  replace he7 : IsEnumOut h7 e z (c + 1) (.ref hp.objs.size) (hp.objs.size + 1) := he7
  have up7 : ∀ b o, b ≠ e → h4.get? b = some o → h7.get? b = some o := fun b o hb q => hs7.extBut b o hb (hs6.extBut b o hb (hs5.extBut b o hb q))
  have n0 : hp.objs.size ≠ e := Nat.ne_of_gt hel
  have n1' : hp.objs.size + 1 ≠ e := Nat.ne_of_gt (Nat.lt_succ_of_lt hel)
  refine wpAny_bind (wpAny_letGo (wpAny_pure ⟨_, rfl, hQ x1 x2 h7 tk p1 p2 ?_ (up7 _ _ n0 (up4 _ _ n0 hT1)) he7 (up7 _ _ n1' ht4) (by rw [hs7.1, hs6.1, hs5.1, hz4]) fun b o b1 b2 b3 b4 b5 q => up7 b o b1 (up4 b o b1 (k1 b o b2 b3 b4 b5 q))⟩))
  refine st1.at D1 D2 fun b hb o q => ?_
  have be : b ≠ e := fun y => by
    subst y
    rcases hb with y | y | y | y | y
    · exact U.z y
    · exact U.ti y
    · exact U.to y
    · exact U.f1 y
    · exact U.f2 y
  exact up7 b o be (up4 b o be q)
theorem ezn_item {Q : Option Value → Shared → Prop} (S : ZipSep2 z TI TO i1 i2 fp1 fp2) (U : EzApart e z TI TO i1 i2 fp1 fp2) (D1 : Draws prog w A.in1.in1 i1 fp1 n1 P1 St1) (D2 : Draws prog w A.in1.in1 i2 fp2 n2 P2 St2) (he : IsEnum s.heap e z c old) (st : EzS z TI TO i1 i2 St1 St2 i s.heap) (hlt1 : i < n1) (hlt2 : i < n2)
    (hQ : ∀ x1 x2 h' tk, P1 i x1 → P2 i x2 → EzS z TI TO i1 i2 St1 St2 (i + 1) h' → IsTupOf2 h' s.heap.objs.size x1 x2 → IsEnumOut h' e z (c + 1) (.ref s.heap.objs.size) (s.heap.objs.size + 1) →
      h'.get? (s.heap.objs.size + 1) = some { cls := .type "tuple", data := .seq #[.int c tk, .ref s.heap.objs.size] } → h'.objs.size = s.heap.objs.size + 2 →
      (∀ b o, b ≠ e → b ≠ z → b ≠ TO → b ≠ i1 → b ≠ i2 → s.heap.get? b = some o → h'.get? b = some o) → Q (some (.ref (s.heap.objs.size + 1))) { s with heap := h', toks := tk + 1 }) :
    wpAny (model prog w) A (pyNext (.ref e)) Q E s := by
  have hT : s.TypeIs (.ref e) "enumerate" := ⟨_, he, rfl⟩
  unfold pyNext
  exact wpAny_bind (wpAny_attempt (wpAny_callSpecial?_slot (name := Str.ofString "__next__") hT F.slot_enumerate_next (wpAny_call_entry F.slot_enumerate_next hT F.entry_enumerate_next
    (ezn_item0 S U D1 D2 he st hlt1 hlt2 fun x1 x2 h' tk b1 b2 b3 b4 b5 b6 b7 b8 => wpAny_pure (hQ x1 x2 h' tk b1 b2 b3 b4 b5 b6 b7 b8)) (F.args_enumerate_next_1 _))))
theorem ezn_end {Q : Option Value → Shared → Prop} (S : ZipSep2 z TI TO i1 i2 fp1 fp2) (D1 : Draws prog w A.in1.in1 i1 fp1 n1 P1 St1) (D2 : Draws prog w A.in1.in1 i2 fp2 n2 P2 St2) (he : IsEnum s.heap e z c old) (st : EzS z TI TO i1 i2 St1 St2 i s.heap) (hle1 : i ≤ n1) (hle2 : i ≤ n2) (hend : i = n1 ∨ i = n2)
    (hQ : ∀ h' tk, (∀ b o, b ≠ z → b ≠ TO → b ≠ i1 → b ≠ i2 → s.heap.get? b = some o → h'.get? b = some o) → Q none { s with heap := h', toks := tk }) : wpAny (model prog w) A (pyNext (.ref e)) Q E s := by
  have hT : s.TypeIs (.ref e) "enumerate" := ⟨_, he, rfl⟩
  unfold pyNext
  refine wpAny_bind (wpAny_attempt (wpAny_callSpecial?_slot (name := Str.ofString "__next__") hT F.slot_enumerate_next (wpAny_call_entry F.slot_enumerate_next hT F.entry_enumerate_next ?_ (F.args_enumerate_next_1 _))))
  show wpAny _ _ (field (.ref e) 2 >>= _) _ _ _
  refine wpAny_bind (wpAny_field he rfl (x := .ref z) rfl (wpAny_bind (ez_stop S D1 D2 st hle1 hle2 hend fun h' tk x k hx => ?_)))
  obtain ⟨o, ho, hc⟩ := hx
  exact wpAny_bind (wpAny_isInstance (T := "StopIteration") (b := true) ⟨o, ho, hc⟩ isSubtype_stop (wpAny_pure (hQ h' tk k)))
end
theorem meets_enum_zip (z TI TO : Addr) : Meets (Builtin.«enumerate.__new__» ⟨[.type "enumerate", .ref z], []⟩) (fun _ R s => IsZip s.heap z TI TO .none ∧
    R (.ok (.ret (.ref s.heap.objs.size))) { s with heap := s.heap.push { cls := .type "enumerate", data := .fields #[.none, .bool false, .ref z, rawInt 0, .none, .none] } }) :=
  .of_wp fun prog w A R s h => by
    obtain ⟨hp, g, d, tk, os⟩ := s
    obtain ⟨hl, h⟩ := h
    have hsub := sub_enumerate
    have hL : ∀ {A' : Around} {E : Value → Shared → Prop} {Q : Value → Shared → Prop}, Q (.ref z) ⟨hp, g, d, tk, os⟩ → wpAny (model prog w) A' (pyIter (.ref z)) Q E ⟨hp, g, d, tk, os⟩ := fun q => wpAny_pyIter_zip hl q
    wp_walk using AutoSeq1.wpAny_loadPart' hl
    refine wpAny_stack_any fun st => wpAny_pure ?_
    split
    · rename_i c _ _ _ _ _
      cases (c == Value.type "enumerate")
      · wp_walk using AutoSeq1.wpAny_loadPart' hl, hL
        exact ⟨_, rfl, h⟩
      · wp_walk using AutoSeq1.wpAny_loadPart' hl, hL
        exact ⟨_, rfl, h⟩
    · wp_walk using AutoSeq1.wpAny_loadPart' hl, hL
      exact ⟨_, rfl, h⟩
theorem call_enum_zip {prog : Program} {w : World} {A : Around} {E : Value → Shared → Prop} {s : Shared} {z TI TO : Addr} {Q : Value → Shared → Prop} (hz : IsZip s.heap z TI TO .none)
    (h : IsEnum (s.heap.push { cls := .type "enumerate", data := .fields #[.none, .bool false, .ref z, rawInt 0, .none, .none] }) s.heap.objs.size z 0 .none →
      Q (.ref s.heap.objs.size) { s with heap := s.heap.push { cls := .type "enumerate", data := .fields #[.none, .bool false, .ref z, rawInt 0, .none, .none] } }) :
    wpAny (model prog w) A (call (.type "enumerate") [.ref z]) Q E s := by
  refine callType_new F.called_enumerate (by decide) (F.typeCall_enumerate_1 _) (F.newCall_enumerate_1 _) (fun obj => F.args_object_init_2 obj _) F.entry_enumerate_new (meets_enum_zip z TI TO) ⟨hz, ?_⟩
  have he : IsEnum (s.heap.push { cls := .type "enumerate", data := .fields #[.none, .bool false, .ref z, rawInt 0, .none, .none] }) s.heap.objs.size z 0 .none := Heap.get?_push_size _ rfl
  exact ⟨⟨_, he, rfl⟩, h he⟩
/-- the signs of two texts by place: each place with the pair of them, in new tuples -/
def ItZ (a b : Str) : It :=
  ⟨fun i _ => i < a.cps.size ∧ i < b.cps.size,
    fun i H v H' => ∃ (T T2 : Addr) (c d : Nat), v = .ref T2 ∧ a.cps[i]? = some c ∧ b.cps[i]? = some d ∧ H T = none ∧ H T2 = none ∧ T ≠ T2 ∧ H' = upd (upd H T (.tup [.str ⟨#[c]⟩, .str ⟨#[d]⟩])) T2 (.tup [.int (i : Nat), .ref T]),
    fun i _ => a.cps.size ≤ i ∨ b.cps.size ≤ i⟩
/-- where its cells stand -/
structure EzT (e z TI TO i1 i2 : Addr) (a b : Str) (ta tb : Tok) (i : Nat) (h : Heap) : Prop where
  le1 : i ≤ a.cps.size
  le2 : i ≤ b.cps.size
  en : ∃ old, IsEnum h e z (i : Nat) old
  st : EzS z TI TO i1 i2 (fun i h => h.IsStrIter i1 (strIterType a) a ta i) (fun i h => h.IsStrIter i2 (strIterType b) b tb i) i h
theorem ez_apart {n : Nat} : ZipSep2 (n + 4) (n + 2) (n + 3) n (n + 1) [n] [n + 1] ∧ EzApart (n + 5) (n + 4) (n + 2) (n + 3) n (n + 1) [n] [n + 1] := by
  constructor
  · constructor <;> simp <;> omega
  · constructor <;> simp <;> omega
theorem turn_ez {P : Program} {w : World} {K : PySem.W.Frag} {elts : List Expr} {kk : Nat} {tpos : Pos} {e z TI TO i1 i2 : Addr} {a b : Str} {ta tb : Tok} (S : ZipSep2 z TI TO i1 i2 [i1] [i2]) (U : EzApart e z TI TO i1 i2 [i1] [i2]) :
    Turn P w K (.Tuple elts kk tpos) (ItZ a b) [e, z, TI, TO, i1, i2] e (EzT e z TI TO i1 i2 a b ta tb) where
  mem := by simp
  obj := fun i h st c hc => by
    obtain ⟨_, _, ⟨old, he⟩, ⟨⟨f0, f, _, hz⟩, hti, ⟨a1, a2, hto⟩, ⟨o1, q1, _, d1⟩, ⟨o2, q2, _, d2⟩⟩⟩ := st
    have e' : c = e ∨ c = z ∨ c = TI ∨ c = TO ∨ c = i1 ∨ c = i2 := by simpa using hc
    rcases e' with q | q | q | q | q | q
    · rw [q]; exact ⟨_, he, fun v q => nomatch q⟩
    · rw [q]; exact ⟨_, hz, fun v q => nomatch q⟩
    · rw [q]; exact ⟨_, hti, fun v q => nomatch q⟩
    · rw [q]; exact ⟨_, hto, fun v q => nomatch q⟩
    · rw [q]; exact ⟨o1, q1, fun v q => by rw [d1] at q; cases q⟩
    · rw [q]; exact ⟨o2, q2, fun v q => by rw [d2] at q; cases q⟩
  keep := fun i h h' st k => by
    obtain ⟨l1, l2, ⟨old, he⟩, ⟨⟨f0, f, h0, hz⟩, hti, ⟨a1, a2, hto⟩, ⟨o1, q1, r1⟩, ⟨o2, q2, r2⟩⟩⟩ := st
    exact ⟨l1, l2, ⟨old, k e (by simp) _ he⟩, ⟨⟨f0, f, h0, k z (by simp) _ hz⟩, k TI (by simp) _ hti, ⟨a1, a2, k TO (by simp) _ hto⟩, ⟨o1, k i1 (by simp) _ q1, r1⟩, ⟨o2, k i2 (by simp) _ q2, r2⟩⟩⟩
  item := by
    intro X hP hw hK hc i pins s σ H E I hf st hg
    subst hP hw hK
    obtain ⟨l1, l2, ⟨old, he⟩, st⟩ := st
    have hh := I.ok.hd hc
    have D1 := Draws.text (prog := X.prog) (w := X.w) (A := X.A.in1.in1) hh i1 a ta
    have D2 := Draws.text (prog := X.prog) (w := X.w) (A := X.A.in1.in1) hh i2 b tb
    have lt : ∀ c ∈ [e, z, TI, TO, i1, i2], c < s.heap.objs.size := fun c hcm => by
      obtain ⟨⟨f0, f, _, hz⟩, hti, ⟨a1, a2, hto⟩, ⟨o1, q1, _⟩, ⟨o2, q2, _⟩⟩ := st
      have e' : c = e ∨ c = z ∨ c = TI ∨ c = TO ∨ c = i1 ∨ c = i2 := by simpa using hcm
      rcases e' with q | q | q | q | q | q
      · rw [q]; exact Heap.lt_size he
      · rw [q]; exact Heap.lt_size hz
      · rw [q]; exact Heap.lt_size hti
      · rw [q]; exact Heap.lt_size hto
      · rw [q]; exact Heap.lt_size q1
      · rw [q]; exact Heap.lt_size q2
    refine ezn_item S U D1 D2 he st hg.1 hg.2 fun x1 x2 h' tk ⟨c, u1, hc1, e1⟩ ⟨d, u2, hd1, e2⟩ st' hT ho hT2 hsz hk => ?_
    subst e1 e2
    refine ⟨_, rfl, wpAny_letOwnedTupleGo_enum (s := { s with heap := h', toks := tk + 1 }) ho fun h'' he' sb => ?_⟩
    replace sb : Heap.SameBut e h' h'' := sb
    have el := lt e (by simp)
    have ne0 : s.heap.objs.size ≠ e := Nat.ne_of_gt el
    have ne1 : s.heap.objs.size + 1 ≠ e := Nat.ne_of_gt (Nat.lt_succ_of_lt el)
    have hT'' : h''.get? s.heap.objs.size = some { cls := .type "tuple", data := .seq #[.str ⟨#[c]⟩ u1, .str ⟨#[d]⟩ u2] } := (sb.2 _ ne0).trans hT
    have hT2'' : h''.get? (s.heap.objs.size + 1) = some { cls := .type "tuple", data := .seq #[.int (i : Nat) tk, .ref s.heap.objs.size] } := (sb.2 _ ne1).trans hT2
    have Im : Inv X pins σ (upd H s.heap.objs.size (.tup [.str ⟨#[c]⟩, .str ⟨#[d]⟩])) { s with heap := s.heap.push { cls := .type "tuple", data := .seq #[.str ⟨#[c]⟩ u1, .str ⟨#[d]⟩ u2] }, toks := tk + 1 } :=
      I.laid (fun b o q => Heap.get?_push_of_some _ q) (Nat.le_refl _) ⟨by show 2 ≤ sizeLine; decide, [.str ⟨#[c]⟩ u1, .str ⟨#[d]⟩ u2], .cons ⟨_, rfl⟩ (.cons ⟨_, rfl⟩ .nil), ⟨_, Heap.get?_push_size _ rfl, rfl, _, rfl⟩⟩
    have szm : (s.heap.push { cls := .type "tuple", data := .seq #[.str ⟨#[c]⟩ u1, .str ⟨#[d]⟩ u2] }).objs.size = s.heap.objs.size + 1 := Heap.size_push ..
    have I2 := Im.turnedNew (h' := h'') (t' := tk + 1) (ch := [e, z, TI, TO, i1, i2]) (T := s.heap.objs.size + 1) (ob := .tup [.int (i : Nat), .ref s.heap.objs.size]) (fun b o hb q => ?_) (fun b hb => ?_) (by rw [← szm]; exact Nat.le_refl _)
      ⟨by show 2 ≤ sizeLine; decide, [.int (i : Nat) tk, .ref s.heap.objs.size], .cons ⟨_, rfl⟩ (.cons rfl .nil), ⟨_, hT2'', rfl, _, rfl⟩⟩
    · refine ⟨.ref (s.heap.objs.size + 1), _, I2, rfl, ⟨_, _, c, d, rfl, hc1, hd1, I.hok.fresh (Nat.le_refl _), I.hok.fresh (Nat.le_succ _), Nat.ne_of_lt (Nat.lt_succ_self _), rfl⟩, ⟨hg.1, hg.2, ⟨.ref s.heap.objs.size, ?_⟩, ?_⟩, fun b hb => ?_⟩
      · have e1 : ((i + 1 : Nat) : Int) = (i : Int) + 1 := by omega
        rw [e1]
        exact he'
      · refine st'.at D1 D2 fun b hb o q => (sb.2 b fun y => ?_).trans q
        subst y
        rcases hb with y | y | y | y | y
        · exact U.z y
        · exact U.ti y
        · exact U.to y
        · exact U.f1 y
        · exact U.f2 y
      · have hl := lt b hb
        rw [upd_ne (Nat.ne_of_lt (Nat.lt_succ_of_lt hl)), upd_ne (Nat.ne_of_lt hl)]
        exact (hf b hb).1
    · simp only [List.mem_cons, List.not_mem_nil, or_false, not_or] at hb
      obtain ⟨b1, b2, _, b4, b5, b6⟩ := hb
      rw [sb.2 b b1]
      rcases Heap.get?_push_cases q with ⟨hn, hob⟩ | q0
      · rw [hn, hob]
        exact hT
      · exact hk b o b1 b2 b4 b5 b6 q0
    · obtain ⟨q0, q1, q2, q3, q4, q5⟩ := hf b hb
      exact ⟨by rw [upd_ne (Nat.ne_of_lt (lt b hb))]; exact q0, q1, q2, q3, q4, q5⟩
  done := by
    intro X hP hw hK hc i pins s σ H E I hf st hg
    subst hP hw hK
    obtain ⟨l1, l2, ⟨old, he⟩, st⟩ := st
    have hh := I.ok.hd hc
    have D1 := Draws.text (prog := X.prog) (w := X.w) (A := X.A.in1.in1) hh i1 a ta
    have D2 := Draws.text (prog := X.prog) (w := X.w) (A := X.A.in1.in1) hh i2 b tb
    have hg' : a.cps.size ≤ i ∨ b.cps.size ≤ i := hg
    refine ezn_end S D1 D2 he st l1 l2 (by omega) fun h' tk hk => ⟨rfl, I.turnedL (t' := tk) (ch := [e, z, TI, TO, i1, i2]) (fun c o hb q => ?_) hf⟩
    simp only [List.mem_cons, List.not_mem_nil, or_false, not_or] at hb
    obtain ⟨_, b2, _, b4, b5, b6⟩ := hb
    exact hk c o b2 b4 b5 b6 q
  self := fun A i s Q E st h => let ⟨_, he⟩ := st.en; wpAny_pyIter_enum he h
def iEZ (ta : TA) : TI := fun σ H R => ta σ H fun vs H1 => ∃ a b, vs = [.str a, .str b] ∧ R (ItZ a b) H1
theorem pi_enumZip {X : Cx} {e1 e2 : Expr} {ta : TA} {p pos p2 pos2 tpos : Pos} {elts : List Expr} {kk : Nat} (hg : Gl X "enumerate") (hm : X.mg "enumerate" = none) (hg2 : Gl X "zip") (hm2 : X.mg "zip" = none) (ha : PA X [e1, e2] ta)
    (hs : starEach [.Call (.Name "zip" p2) [e1, e2] [] pos2] X.env = [(false, eval (.Call (.Name "zip" p2) [e1, e2] [] pos2) X.env)] := by rfl)
    (hs2 : starEach [e1, e2] X.env = (false, eval e1 X.env) :: starEach [e2] X.env := by rfl) (hpl : (backTo pos2 (starEach [e2] X.env)).any (·.1) = false := by rfl) :
    PI X (.Tuple elts kk tpos) (.Call (.Name "enumerate" p) [.Call (.Name "zip" p2) [e1, e2] [] pos2] [] pos) (iEZ ta) := by
  refine ⟨fun pins s σ H R I h => ?_⟩
  refine Call_ (ld_blt I hg hm boot_enumerate (PyProof.Rows.callWith_type1 ?_ hs rfl))
  rw [hs]
  refine Calls.spliced_cons (Call_ (ld_blt I hg2 hm2 PyProof.Rows.boot_zip (PyProof.Rows.callWith_type1 (thn (ha.run pos2 pins s σ H _ I h) fun us s1 ⟨vs, H1, I1, r1, q1⟩ => ?_) hs2 hpl)))
  obtain ⟨a, b, ex, q⟩ := q1
  subst ex
  cases r1 with
  | cons r rr =>
    cases rr with
    | cons r' rr =>
      cases rr
      obtain ⟨ta', rfl⟩ := (show ∃ t, _ = Value.str a t from r)
      obtain ⟨tb', rfl⟩ := (show ∃ t, _ = Value.str b t from r')
      refine zip_begins2 (begins_text a ta') (begins_text b tb') trivial trivial fun h' hz hti hto g1 g2 hsz hk => ?_
      refine Calls.spliced_nil (call_enum_zip (s := { s1 with heap := h' }) hz fun he => ?_)
      obtain ⟨n, hn⟩ : ∃ n, n = s1.heap.objs.size := ⟨_, rfl⟩
      rw [← hn] at hz hti hto g1 g2 hsz
      have he' : IsEnum (h'.push { cls := .type "enumerate", data := .fields #[.none, .bool false, .ref (n + 4), rawInt 0, .none, .none] }) (n + 5) (n + 4) 0 .none := by
        rw [← hsz, hn]
        exact he
      refine wpAny_pyIter_enum he ?_
      have up : ∀ c o, h'.get? c = some o → (h'.push { cls := .type "enumerate", data := .fields #[.none, .bool false, .ref (n + 4), rawInt 0, .none, .none] }).get? c = some o := fun c o e => Heap.get?_push_of_some _ e
      have I2 : Inv X pins σ H1 { s1 with heap := h'.push { cls := .type "enumerate", data := .fields #[.none, .bool false, .ref (n + 4), rawInt 0, .none, .none] } } := I1.kept (t' := s1.toks) fun c o e => up _ _ (hk c o e)
      have ev : Value.ref h'.objs.size = Value.ref (n + 5) := by rw [hsz]
      show PIE X pins σ _ R (Value.ref h'.objs.size) _
      rw [ev, ← hn]
      refine ⟨n + 5, [n + 5, n + 4, n + 2, n + 3, n, n + 1], _, _, H1, rfl, I2, turn_ez (ta := ta') (tb := tb') ez_apart.1 ez_apart.2, ⟨Nat.zero_le _, Nat.zero_le _, ⟨_, he'⟩, ⟨⟨_, _, .inl rfl, up _ _ hz⟩, up _ _ hti, ⟨_, _, up _ _ hto⟩, ⟨_, up _ _ g1, rfl, rfl⟩, ⟨_, up _ _ g2, rfl, rfl⟩⟩⟩, fun b hb => ?_, q⟩
      have hle : s1.heap.objs.size ≤ b := by
        simp only [List.mem_cons, List.not_mem_nil, or_false] at hb
        rw [← hn]
        rcases hb with rfl | rfl | rfl | rfl | rfl | rfl <;> first | exact Nat.le_add_right _ _ | exact Nat.le_refl _
      exact I1.fpOk hle (I1.hok.fresh hle)
/-! ### words that stand at one place, the shorter ones first -/
theorem ltc_cons {a b : Nat} {r t : List Nat} : PySem.Spec.ltCps (a :: r) (b :: t) = false ↔ b ≤ a ∧ (a = b → PySem.Spec.ltCps r t = false) := by
  simp only [PySem.Spec.ltCps, Bool.or_eq_false_iff, decide_eq_false_iff_not, Bool.and_eq_false_iff, beq_eq_false_iff_ne]
  constructor
  · rintro ⟨h1, h2⟩
    refine ⟨by omega, fun e => ?_⟩
    rcases h2 with h | h
    · exact absurd e h
    · exact h
  · rintro ⟨h1, h2⟩
    refine ⟨by omega, ?_⟩
    by_cases e : a = b
    · exact .inr (h2 e)
    · exact .inl e
theorem ltc_tr : ∀ {a b c : List Nat}, PySem.Spec.ltCps b a = false → PySem.Spec.ltCps c b = false → PySem.Spec.ltCps c a = false
  | [], _, [], _, _ => rfl
  | [], _, _ :: _, _, _ => rfl
  | _ :: _, [], _, h, _ => by cases h
  | _ :: _, _ :: _, [], _, h => by cases h
  | x :: a, y :: b, z :: c, h, k => by
    have h1 := ltc_cons.mp h
    have h2 := ltc_cons.mp k
    refine ltc_cons.mpr ⟨by omega, fun e => ?_⟩
    exact ltc_tr (h1.2 (by omega)) (h2.2 (by omega))
theorem rising_all : ∀ {l : List (List Nat)} {p : List Nat}, risingS (S p) (l.map S) = true → ∀ x ∈ l, PySem.Spec.ltCps x p = false
  | [], _, _, _, hx => nomatch hx
  | y :: l, p, h, x, hx => by
    have h' : (!PySem.Spec.ltCps y p && risingS (S y) (l.map S)) = true := h
    rw [Bool.and_eq_true, Bool.not_eq_true'] at h'
    rcases List.mem_cons.mp hx with e | m
    · rw [e]
      exact h'.1
    · exact ltc_tr h'.1 (rising_all h'.2 x m)
theorem rising_tail {l : List (List Nat)} {p : List Nat} (h : risingS (S p) (l.map S) = true) : sortedS (l.map S) = true := by
  cases l with
  | nil => rfl
  | cons y l =>
    have h' : (!PySem.Spec.ltCps y p && risingS (S y) (l.map S)) = true := h
    rw [Bool.and_eq_true] at h'
    exact h'.2
theorem sorted_pw : ∀ {l : List (List Nat)}, sortedS (l.map S) = true → l.Pairwise fun a b => PySem.Spec.ltCps b a = false
  | [], _ => .nil
  | x :: l, h => List.pairwise_cons.mpr ⟨rising_all h, sorted_pw (rising_tail h)⟩
abbrev FnP (K : PySem.W.Frag) (x : Str) (st : Stmt) (f : Addr) (fd : FuncData) : Prop := FunD K x x (defArgs st) (defBody st) (defScope st) [] [] f fd
theorem _root_.L2.FunD.okN {P : Program} {w : World} {K : PySem.W.Frag} {mg : Str → Option Value} {base : Heap} {x qual : Str} {params : Arguments} {body : List Stmt} {scope : Scope} {dvs : List V} {kws : List (Str × V)} {f : Addr} {fd : FuncData}
    {CX : CXT} {N ps : List Str} {k : Nat} {sp : Sp} (F : FunD K x qual params body scope dvs kws f fd) (S : FnScope N ps scope) (len : ∀ vs H Q E, sp vs H Q E → vs.length = ps.length)
    (hbody : ∀ (cdv : Value) (A : Around) (outer : List Env) (s : Shared) (H : Hp) (vs : List V) (Q : VK) (E : XK), Room k (A.deeper (envOfC qual scope s.heap.objs.size f cdv)) → sp vs H Q E →
      ∃ t, PSs (cxOf CX P w K mg base N qual scope f cdv A outer s H E).nox body t ∧ t { nx := fun _ H' => Q .non H', rt := Q } (start N vs) H) : FnOk P w K mg base CX (k + 1) f fd ps sp :=
  F.ok S len fun cdv A outer s H vs Q E hr h =>
    let ⟨t, q, r⟩ := hbody cdv A outer s H vs Q E hr h
    ⟨t, q.nox, r⟩
theorem same_upd {H : Hp} {p : Addr} {o : HO} (h : H p = none) : Same H (upd H p o) := fun b x e => by
  rw [upd_ne (ne_of_none e h)]
  exact e
/-- a def of the text whose function object, name and binding are known -/
structure Has (K : PySem.W.Frag) (mg : Str → Option Value) (x : Str) (st : Stmt) (ps : List Str) (f : Addr) (fd : FuncData) : Prop where
  F : FnP K x st f fd
  g : mg x = some (.ref f)
  b : Binds K fd ps []
/-- a def of the text stands behind the top -/
def There (K : PySem.W.Frag) (mg : Str → Option Value) (x : Str) (st : Stmt) (ps : List Str) : Prop := ∃ f fd, Has K mg x st ps f fd
section
variable {P : Program} {w : World} {K : PySem.W.Frag} {mg : Str → Option Value} {base : Heap} {f : Addr} {fd : FuncData}
theorem scAt : FnScope ["_law_script", "_law_k"] ["_law_script", "_law_k"] (defScope sAt) := ⟨rfl, rfl, rfl, by decide +kernel, rfl, by decide +kernel, by decide +kernel⟩
def spAt (K : PySem.W.Frag) : Sp := fun vs H Q _ => ∃ (a : Addr) (ns : List Int) (k : Int), vs = [.ref a, .int k] ∧ SqL K H a (ns.map V.int) ∧ 0 ≤ k ∧ ∀ v : Int, Q (.int v) H
theorem ok_at (F : FnP K "_law_at" sAt f fd) (mL : mg "len" = none) : FnOk P w K mg base CX0 1 f fd ["_law_script", "_law_k"] (spAt K) := by
  refine F.okN scAt (fun vs H Q E h => ?_) (fun cdv A outer s H vs Q E hr h => ?_)
  · obtain ⟨a, ns, k, rfl, _⟩ := h
    rfl
  · obtain ⟨a, ns, k, rfl, hS, hk, q⟩ := h
    refine ⟨_, pss_cons (ps_if (pt_cmpR op_lt (pv 1) (pe_callB call_len_seq (by rfl) mL boot_len (pa_cons (pv 0) pa_nil)) (nomark _))
        (pss_one (ps_ret (pe_ix ix_list (pv 0) (pv 1) (fun _ _ => rfl)))) pss_nil) (pss_one (ps_ret pe_int)), ?_⟩
    refine ⟨_, rfl, _, rfl, a, ns.map V.int, rfl, .inl hS, k, _, rfl, rfl, _, rfl, ite2 (fun c => ?_) (fun c => ?_)⟩
    · have c1 : k < ((ns.map V.int).length : Int) := of_decide_eq_true c
      rw [List.length_map] at c1
      have hi : k.toNat < ns.length := by omega
      refine ⟨_, rfl, _, rfl, a, ns.map V.int, k, .int ns[k.toNat], rfl, rfl, hS, at_of (j := k.toNat) (by omega) ?_, q _⟩
      rw [List.getElem?_map, List.getElem?_eq_getElem hi]
      rfl
    · exact q 0
theorem scMixed : FnScope ["_law_cell", "_law_k", "_law_number"] ["_law_cell", "_law_k"] (defScope sMixed) := ⟨rfl, rfl, rfl, by decide +kernel, rfl, by decide +kernel, by decide +kernel⟩
def spMixed : Sp := fun vs H Q _ => ∃ (c k : Int), vs = [.int c, .int k] ∧ ∀ v : Int, 0 ≤ v → v < 2147483629 → Q (.int v) H
theorem ok_mixed (F : FnP K "_law_mixed" sMixed f fd) : FnOk P w K mg base CX0 1 f fd ["_law_cell", "_law_k"] spMixed := by
  refine F.okN scMixed (fun vs H Q E h => ?_) (fun cdv A outer s H vs Q E hr h => ?_)
  · obtain ⟨c, k, rfl, _⟩ := h
    rfl
  · obtain ⟨c, k, rfl, q⟩ := h
    refine ⟨_, pss_cons (ps_set (i := 2) scMixed.nd rfl (.inl rfl) (pe_op op_mod (pe_op op_mul (pe_op op_add (pe_op op_add (pv 0) (pe_op op_mul pe_int (pv 1))) pe_int) pe_int) pe_int))
      (pss_one (ps_ret (pe_op op_mod (pe_op op_mul (pv 2) (pv 2)) pe_int))), ?_⟩
    refine ⟨_, rfl, _, rfl, 7919, k, rfl, rfl, .inl ⟨by decide, by decide⟩, _, _, rfl, rfl, _, _, rfl, rfl, _, _, rfl, rfl, .inr ⟨by decide, by decide⟩, _, _, rfl, rfl, (by show (0 : Int) < 2147483647; decide), ?_⟩
    have h1 := Int.emod_nonneg ((c + 7919 * k + 3) * 48271) (show (2147483647 : Int) ≠ 0 by decide)
    have h2 := Int.emod_lt_of_pos ((c + 7919 * k + 3) * 48271) (show (0 : Int) < 2147483647 by decide)
    refine ⟨_, rfl, _, rfl, _, _, rfl, rfl, .inl ⟨by omega, by omega⟩, _, _, rfl, rfl, (by show (0 : Int) < 2147483629; decide), ?_⟩
    exact q _ (Int.emod_nonneg _ (by decide)) (Int.emod_lt_of_pos _ (by decide))
end
/-! ### texts by their codes -/
abbrev tx (l : List Nat) : V := V.str (S l)
def Let (l : List Nat) : Prop := ∀ c ∈ l, 97 ≤ c ∧ c ≤ 122
def WordOk (l : List Nat) : Prop := 1 ≤ l.length ∧ l.length ≤ 10 ∧ Let l
theorem Let.app {a b : List Nat} (x : Let a) (y : Let b) : Let (a ++ b) := fun c h => (List.mem_append.mp h).elim (x c) (y c)
theorem Let.sub {a b : List Nat} (x : Let a) (h : ∀ c ∈ b, c ∈ a) : Let b := fun c q => x c (h c q)
theorem Let.one {c : Nat} (h : 97 ≤ c ∧ c ≤ 122) : Let [c] := fun d q => by
  rw [List.mem_singleton.mp q]
  exact h
theorem tx_eq {a b : List Nat} : decide (V.str (S a) = V.str (S b)) = decide (a = b) := by
  rw [Bool.eq_iff_iff, decide_eq_true_eq, decide_eq_true_eq]
  exact ⟨fun h => S_inj (V.str.inj h), fun h => by rw [h]⟩
theorem joinE : ∀ ys : List (List Nat), TL.joinL [] ys = ys.flatten
  | [] => rfl
  | [x] => by
    show x = [x].flatten
    simp
  | x :: y :: r => by
    have ih := joinE (y :: r)
    have e : TL.joinL [] (x :: y :: r) = x ++ ([] ++ TL.joinL [] (y :: r)) := by simp [TL.joinL]
    rw [e, ih, List.nil_append, ← List.flatten_cons]
theorem join0 (ys : List (List Nat)) : Txt.join (Str.ofString "") (ys.map S) = S ys.flatten := by
  rw [show Str.ofString "" = S [] by decide +kernel, join_S, joinE]
theorem map_tx (ys : List (List Nat)) : ys.map tx = (ys.map S).map V.str := by rw [List.map_map]; rfl
theorem lenS (ys : List (List Nat)) : ((ys.map S).map (·.length)) = ys.map (·.length) := SX.lens ys
theorem empLen : (Str.ofString "").length = 0 := by decide +kernel
abbrev alpha : List Nat := [97,98,99,100,101,102,103,104,105,106,107,108,109,110,111,112,113,114,115,116,117,118,119,120,121,122]
theorem alphaS : Str.ofString "abcdefghijklmnopqrstuvwxyz" = S alpha := by decide +kernel
theorem alphaLet : Let alpha := by
  have h : alpha.all (fun c => decide (97 ≤ c) && decide (c ≤ 122)) = true := by decide
  intro c hc
  have q := List.all_eq_true.mp h c hc
  simp only [Bool.and_eq_true, decide_eq_true_eq] at q
  exact q
theorem at_ofI {α : Type} {xs : List α} {i : Int} {v : α} (h0 : 0 ≤ i) (h : xs[i.toNat]? = some v) : atI xs i = some v := by
  have e : ((i.toNat : Nat) : Int) = i := by omega
  have q := atI_nat h
  rw [e] at q
  exact q
/-- an item of a list at a place within it -/
theorem at_in {α : Type} (xs : List α) {i : Int} (h0 : 0 ≤ i) (h : i < (xs.length : Int)) : ∃ c ∈ xs, atI xs i = some c := by
  have hi : i.toNat < xs.length := by omega
  exact ⟨xs[i.toNat], List.getElem_mem hi, at_ofI h0 (List.getElem?_eq_getElem hi)⟩
theorem at_map {α : Type} (g : α → V) (xs : List α) {i : Int} (h0 : 0 ≤ i) (h : i < (xs.length : Int)) : ∃ c ∈ xs, atI (xs.map g) i = some (g c) := by
  obtain ⟨v, hv, e⟩ := at_in (xs.map g) h0 (by rw [List.length_map]; exact h)
  obtain ⟨c, hc, rfl⟩ := List.mem_map.mp hv
  exact ⟨c, hc, e⟩
theorem flat_len {ys : List (List Nat)} (h : ∀ y ∈ ys, y.length = 1) : ys.flatten.length = ys.length := by
  induction ys with
  | nil => rfl
  | cons y r ih =>
    rw [List.flatten_cons, List.length_append, h y List.mem_cons_self, ih fun z hz => h z (List.mem_cons_of_mem _ hz), List.length_cons]
    omega
theorem flat_let {ys : List (List Nat)} (h : ∀ y ∈ ys, Let y) : Let ys.flatten := fun c hc => by
  obtain ⟨y, hy, q⟩ := List.mem_flatten.mp hc
  exact h y hy c q
theorem sum_ones {ys : List (List Nat)} (h : ∀ y ∈ ys, y.length = 1) : ((ys.map S).map (·.length)).sum = ys.length := by
  rw [lenS, ← flat_len h, List.length_flatten]
section
variable {P : Program} {w : World} {K : PySem.W.Frag} {mg : Str → Option Value} {base : Heap} {f : Addr} {fd : FuncData}
end
section
variable {P : Program} {w : World} {K : PySem.W.Frag} {mg : Str → Option Value} {base : Heap} {f fM : Addr} {fd fdM : FuncData}
end
/-! ### slices of texts -/
theorem sIx_pos (n d : Nat) {i : Int} (h : 0 ≤ i) : HT.sIx n d (some i) = min i.toNat n := by
  have e : i = ((i.toNat : Nat) : Int) := by omega
  have q := HT.sIx_nat n d i.toNat
  rw [← e] at q
  exact q
theorem cut_from {l : List Nat} {i : Int} (h : 0 ≤ i) : cutS (S l) (some i) none = S (l.drop i.toNat) := by
  unfold cutS
  rw [sIx_pos _ _ h, HT.sIx_none, S_len]
  refine congrArg S ?_
  show (l.drop (min i.toNat l.length)).take (l.length - min i.toNat l.length) = l.drop i.toNat
  rw [List.take_of_length_le (by rw [List.length_drop]; omega)]
  by_cases c : i.toNat ≤ l.length
  · rw [Nat.min_eq_left c]
  · rw [Nat.min_eq_right (by omega), List.drop_of_length_le (Nat.le_refl _), List.drop_of_length_le (by omega)]
theorem cut_to {l : List Nat} {i : Int} (h : 0 ≤ i) : cutS (S l) none (some i) = S (l.take i.toNat) := by
  unfold cutS
  rw [sIx_pos _ _ h, HT.sIx_none, S_len]
  refine congrArg S ?_
  show (l.drop 0).take (min i.toNat l.length - 0) = l.take i.toNat
  rw [List.drop_zero, Nat.sub_zero]
  by_cases c : i.toNat ≤ l.length
  · rw [Nat.min_eq_left c]
  · rw [Nat.min_eq_right (by omega), List.take_of_length_le (Nat.le_refl _), List.take_of_length_le (by omega)]
theorem cut_mid {l : List Nat} {i j : Int} (h : 0 ≤ i) (h2 : 0 ≤ j) : cutS (S l) (some i) (some j) = S ((l.drop i.toNat).take (j.toNat - i.toNat)) := by
  unfold cutS
  rw [sIx_pos _ _ h, sIx_pos _ _ h2, S_len]
  refine congrArg S ?_
  show (l.drop (min i.toNat l.length)).take (min j.toNat l.length - min i.toNat l.length) = (l.drop i.toNat).take (j.toNat - i.toNat)
  by_cases c : i.toNat ≤ l.length
  · rw [Nat.min_eq_left c]
    by_cases d : j.toNat ≤ l.length
    · rw [Nat.min_eq_left d]
    · rw [Nat.min_eq_right (by omega), List.take_of_length_le (by rw [List.length_drop]; omega), List.take_of_length_le (by rw [List.length_drop]; omega)]
  · have e1 : min i.toNat l.length = l.length := Nat.min_eq_right (by omega)
    rw [e1, List.drop_of_length_le (Nat.le_refl _), List.drop_of_length_le (by omega : l.length ≤ i.toNat), List.take_nil, List.take_nil]
theorem let_drop {l : List Nat} (h : Let l) (n : Nat) : Let (l.drop n) := h.sub fun _ q => List.mem_of_mem_drop q
theorem let_take {l : List Nat} (h : Let l) (n : Nat) : Let (l.take n) := h.sub fun _ q => List.mem_of_mem_take q
theorem size1000 {n : Nat} (h : n ≤ 1000) : n ≤ sizeLine := Nat.le_of_lt (small1000 h)
section
variable {P : Program} {w : World} {K : PySem.W.Frag} {mg : Str → Option Value} {base : Heap} {f fM fW : Addr} {fd fdM fdW : FuncData}
end
/-! ### slices of lists -/
theorem cutv_from {xs : List V} {i : Int} (h : 0 ≤ i) : cutV xs (some i) none = xs.drop i.toNat := by
  unfold cutV
  rw [sIx_pos _ _ h, HT.sIx_none]
  rw [List.take_of_length_le (by rw [List.length_drop]; omega)]
  by_cases c : i.toNat ≤ xs.length
  · rw [Nat.min_eq_left c]
  · rw [Nat.min_eq_right (by omega), List.drop_of_length_le (Nat.le_refl _), List.drop_of_length_le (by omega)]
theorem cutv_to {xs : List V} {i : Int} (h : 0 ≤ i) : cutV xs none (some i) = xs.take i.toNat := by
  unfold cutV
  rw [sIx_pos _ _ h, HT.sIx_none, List.drop_zero, Nat.sub_zero]
  by_cases c : i.toNat ≤ xs.length
  · rw [Nat.min_eq_left c]
  · rw [Nat.min_eq_right (by omega), List.take_of_length_le (Nat.le_refl _), List.take_of_length_le (by omega)]
theorem at_last {α : Type} (g : α → V) {xs : List α} (h : 1 ≤ xs.length) : ∃ c ∈ xs, atI (xs.map g) (-1) = some (g c) := by
  have hne : xs ≠ [] := fun e => by
    rw [e] at h
    exact absurd h (Nat.not_succ_le_zero 0)
  refine ⟨xs.getLast hne, List.getLast_mem hne, ?_⟩
  have e : xs.map g = (xs.dropLast.map g) ++ [g (xs.getLast hne)] := by
    rw [← List.map_singleton, ← List.map_append, List.dropLast_concat_getLast]
  rw [e]
  exact atI_last _ _
theorem seqL {K : PySem.W.Frag} {H : Hp} {a : Addr} {xs : List V} (h : H a = some (.lst xs)) : SqL K H a xs := .inl (.inl h)
section
variable {P : Program} {w : World} {K : PySem.W.Frag} {mg : Str → Option Value} {base : Heap} {f fA fM fW : Addr} {fd fdA fdM fdW : FuncData}
end
def CodeOk (ws : List (List Nat)) : Prop := ws.length ≤ 12 ∧ ws.Nodup ∧ ∀ x ∈ ws, WordOk x
theorem inV_tx (x : List Nat) (ws : List (List Nat)) : inV (tx x) (ws.map tx) = decide (x ∈ ws) := by
  unfold inV
  rw [List.any_map]
  have e : (fun y => eqV y (tx x)) ∘ tx = fun y : List Nat => (y == x) := by
    funext y
    show (S y == S x) = (y == x)
    exact S_beq y x
  rw [e, Bool.eq_iff_iff, List.any_eq_true, decide_eq_true_eq]
  constructor
  · rintro ⟨y, hy, q⟩
    rw [← eq_of_beq q]
    exact hy
  · intro h
    exact ⟨x, h, beq_self_eq_true x⟩
theorem flat_tx (ws : List (List Nat)) : (ws.map tx).all flatV = true := by
  rw [List.all_map, List.all_eq_true]
  intro x _
  rfl
theorem nodup_app {ws : List (List Nat)} {x : List Nat} (h : ws.Nodup) (hx : x ∉ ws) : (ws ++ [x]).Nodup := by
  rw [List.nodup_append]
  refine ⟨h, List.nodup_cons.mpr ⟨List.not_mem_nil, List.nodup_nil⟩, fun a ha b hb e => ?_⟩
  rw [List.mem_singleton.mp hb] at e
  rw [e] at ha
  exact hx ha
theorem dp_texts {K : PySem.W.Frag} {H : Hp} : ∀ ws : List (List Nat), DpAll K H (ws.map tx) (ws.map fun l => PyData.str (S l))
  | [] => .nil
  | x :: r => .cons (.str (S x)) (dp_texts r)
theorem let_ok {l : List Nat} (h : Let l) : PyData.canLay0 (.str (S l)) = true := by
  rw [PyData.canLay0]
  unfold PyData.strOk
  show l.toArray.all (fun a => decide (a < 1114112)) = true
  rw [List.all_toArray, List.all_eq_true]
  intro c hc
  have q := h c hc
  exact decide_eq_true (by omega)
theorem lay_texts : ∀ ws : List (List Nat), (∀ x ∈ ws, Let x) → PyData.canLayAll0 (ws.map fun l => PyData.str (S l)) = true
  | [], _ => by simp [PyData.canLayAll0]
  | x :: r, h => by
    rw [List.map_cons, PyData.canLayAll0, let_ok (h x List.mem_cons_self), lay_texts r fun y hy => h y (List.mem_cons_of_mem _ hy)]
    rfl
theorem depth_texts : ∀ ws : List (List Nat), PyData.depthAll (ws.map fun l => PyData.str (S l)) = 0
  | [] => by simp [PyData.depthAll]
  | x :: r => by
    rw [List.map_cons, PyData.depthAll, depth_texts r, PyData.depth]
    rfl
theorem shaped_texts {ws : List (List Nat)} (h : ∀ x ∈ ws, Let x) : SeqAt.shaped (.list (ws.map fun l => PyData.str (S l))) = true := by
  unfold SeqAt.shaped
  rw [PyData.canLay0, lay_texts ws h, PyData.depth, depth_texts]
  rfl
theorem eqv_texts {ws : List (List Nat)} (h : ∀ x ∈ ws, Let x) : PyData.eqv (.list (ws.map fun l => PyData.str (S l))) (.list (ws.map fun l => PyData.str (S l))) = true :=
  PySem.SeqAt.eqv_refl _ (by rw [PyData.canLay0]; exact lay_texts ws h)
section
variable {P : Program} {w : World} {K : PySem.W.Frag} {mg : Str → Option Value} {base : Heap} {f fA fM fW fS fC fY fO fR : Addr} {fd fdA fdM fdW fdS fdC fdY fdO fdR : FuncData}
end
theorem sum_ten : ∀ {ys : List (List Nat)}, (∀ y ∈ ys, y.length ≤ 10) → (ys.map (·.length)).sum ≤ 10 * ys.length
  | [], _ => Nat.le_refl _
  | x :: r, h => by
    have i := sum_ten (ys := r) fun y hy => h y (List.mem_cons_of_mem _ hy)
    have j := h x List.mem_cons_self
    rw [List.map_cons, List.sum_cons, List.length_cons]
    omega
theorem flat_ten {ys : List (List Nat)} (h : ∀ y ∈ ys, y.length ≤ 10) : ys.flatten.length ≤ 10 * ys.length := by
  rw [List.length_flatten]
  exact sum_ten h
theorem join_room {ys : List (List Nat)} (h : ∀ y ∈ ys, y.length ≤ 10) (hl : ys.length ≤ 1000) : ((ys.map S).map (·.length)).sum + (ys.map S).length * (Str.ofString "").length ≤ 16777216 := by
  rw [lenS, empLen]
  have := sum_ten h
  omega
theorem q_list (ws : List (List Nat)) : ws.map tx ++ [V.str (Str.ofString "q")] = ((ws ++ [[113]]).map S).map V.str := by
  rw [show Str.ofString "q" = S [113] by decide +kernel, List.map_append, List.map_append, ← map_tx]
  rfl
section
variable {P : Program} {w : World} {K : PySem.W.Frag} {mg : Str → Option Value} {base : Heap} {f fA fM fR : Addr} {fd fdA fdM fdR : FuncData}
end
/-! ### how many partings: the mirror -/
/-- the word stands at the head of the rest -/
def hit (w r : List Nat) : Bool := TL.pre w r
theorem hit_iff {w r : List Nat} : hit w r = true ↔ r.take w.length = w := by
  unfold hit TL.pre
  exact beq_iff_eq
theorem hit_len {w r : List Nat} (h : hit w r = true) : w.length ≤ r.length := by
  have e := congrArg List.length (hit_iff.mp h)
  rw [List.length_take] at e
  omega
/-- what a word adds at a place, L: the counts behind the place -/
def adds (r : List Nat) (L : List Int) (w : List Nat) : Int := if hit w r = true then L.getD (w.length - 1) 0 else 0
def cnt (ws : List (List Nat)) : List Nat → List Int
  | [] => [1]
  | c :: r => (ws.map (adds (c :: r) (cnt ws r))).sum :: cnt ws r
theorem cnt_len (ws : List (List Nat)) : ∀ t : List Nat, (cnt ws t).length = t.length + 1
  | [] => rfl
  | c :: r => congrArg Nat.succ (cnt_len ws r)
theorem cnt_drop (ws : List (List Nat)) {t : List Nat} {p : Nat} (h : p < t.length) : cnt ws (t.drop p) = (ws.map (adds (t.drop p) (cnt ws (t.drop (p + 1))))).sum :: cnt ws (t.drop (p + 1)) := by
  rw [List.drop_eq_getElem_cons h]
  rfl
theorem perm_sum {l m : List Int} (h : l.Perm m) : l.sum = m.sum := by
  induction h with
  | nil => rfl
  | cons x _ ih => rw [List.sum_cons, List.sum_cons, ih]
  | swap x y l => rw [List.sum_cons, List.sum_cons, List.sum_cons, List.sum_cons]; omega
  | trans _ _ a b => exact a.trans b
theorem cnt_perm {ws vs : List (List Nat)} (h : ws.Perm vs) : ∀ t : List Nat, cnt ws t = cnt vs t
  | [] => rfl
  | c :: r => by
    have ih := cnt_perm h r
    show (ws.map (adds (c :: r) (cnt ws r))).sum :: cnt ws r = (vs.map (adds (c :: r) (cnt vs r))).sum :: cnt vs r
    rw [ih, perm_sum (h.map _)]
theorem sum_filter (r : List Nat) (L : List Int) : ∀ ws : List (List Nat), ((ws.filter fun w => hit w r).map fun w => L.getD (w.length - 1) 0).sum = (ws.map (adds r L)).sum
  | [] => rfl
  | x :: ws => by
    have ih := sum_filter r L ws
    rw [List.map_cons, List.sum_cons, ← ih]
    by_cases h : hit x r = true
    · rw [List.filter_cons_of_pos (p := fun w => hit w r) h, List.map_cons, List.sum_cons]
      unfold adds
      rw [if_pos h]
    · rw [List.filter_cons_of_neg (p := fun w => hit w r) h]
      unfold adds
      rw [if_neg h, Int.zero_add]
theorem take_sum {g : List Nat → Int} {ws : List (List Nat)} {i : Nat} (h : i < ws.length) : ((ws.take (i + 1)).map g).sum = ((ws.take i).map g).sum + g ws[i] := by
  rw [List.take_add_one, List.getElem?_eq_getElem h]
  show ((ws.take i ++ [ws[i]]).map g).sum = _
  rw [List.map_append, List.sum_append]
  show _ + (g ws[i] + 0) = _
  omega
/-! ### the model's startswith and slices -/
theorem start3 {t w : List Nat} (hw : w ≠ []) (p : Nat) : Txt.startswith3 (S t) (S w) (p : Int) = hit w (t.drop p) := by
  have e : PySem.fromIndex (S t).length (p : Int) = p := by
    unfold PySem.fromIndex
    rw [if_neg (by omega)]
    omega
  rw [Bool.eq_iff_iff]
  have h := TL.at_iff (x := S t) (y := S w) hw p
  unfold hit
  rw [← h]
  unfold Txt.startswith3
  rw [e, Bool.and_eq_true, decide_eq_true_eq]
  rfl
theorem slice_eq {t w : List Nat} (p : Nat) : decide (V.str (cutS (S t) (some (p : Int)) (some ((p : Int) + (w.length : Int)))) = V.str (S w)) = hit w (t.drop p) := by
  rw [cut_mid (by omega) (by omega), Bool.eq_iff_iff, decide_eq_true_eq, hit_iff]
  have e1 : ((p : Int) + (w.length : Int)).toNat - ((p : Int)).toNat = w.length := by omega
  have e2 : ((p : Int)).toNat = p := by omega
  rw [e1, e2]
  constructor
  · intro h
    exact S_inj (V.str.inj h)
  · intro h
    rw [h]
/-! ### the counts as they lie while they are reckoned -/
theorem zeros_get {p : Nat} {L : List Int} {k : Nat} (z : Int) (hk : 1 ≤ k) (h : k - 1 < L.length) : ((List.replicate p (0 : Int) ++ (z :: L)).map V.int)[p + k]? = some (V.int (L.getD (k - 1) 0)) := by
  rw [List.getElem?_map, List.getElem?_append_right (by rw [List.length_replicate]; omega), List.length_replicate]
  have e : p + k - p = (k - 1) + 1 := by omega
  rw [e, List.getElem?_cons_succ, List.getElem?_eq_getElem h, List.getD_eq_getElem?_getD, List.getElem?_eq_getElem h]
  rfl
theorem zeros_at {p : Nat} {L : List Int} (z : Int) : ((List.replicate p (0 : Int) ++ (z :: L)).map V.int)[p]? = some (V.int z) := by
  rw [List.getElem?_map, List.getElem?_append_right (by rw [List.length_replicate]; omega), List.length_replicate, Nat.sub_self]
  rfl
theorem zeros_set {p : Nat} {L : List Int} (z y : Int) : ((List.replicate p (0 : Int) ++ (z :: L)).map V.int).set p (V.int y) = (List.replicate p (0 : Int) ++ (y :: L)).map V.int := by
  rw [List.map_append, List.map_append, List.set_append_right _ _ (by rw [List.length_map, List.length_replicate]; omega), List.length_map, List.length_replicate, Nat.sub_self]
  rfl
theorem zeros_succ (p : Nat) (L : List Int) : List.replicate (p + 1) (0 : Int) ++ L = List.replicate p (0 : Int) ++ (0 :: L) := by
  rw [List.replicate_succ', List.append_assoc]
  rfl
theorem ixN_nat {n j : Nat} (h : j < n) : ixN n (j : Int) = some j := by
  unfold ixN
  rw [if_pos (by omega), if_pos (by omega), Int.toNat_natCast]
theorem flat_rep (n : Nat) (z : V) : (List.replicate n [z]).flatten = List.replicate n z := by
  induction n with
  | zero => rfl
  | succ n ih =>
    rw [List.replicate_succ, List.flatten_cons, ih, List.replicate_succ]
    rfl
theorem small1000_of {n : Nat} (h : n ≤ 10000) : n < sizeLine := Nat.lt_of_le_of_lt h (by decide)
theorem small_S {x : List Nat} (h : x.length ≤ 1000) : (S x).length ≤ sizeLine := by rw [S_len]; exact size1000 h
theorem len_v (w : List Nat) : V.int ((S w).length : Int) = V.int (w.length : Int) := congrArg (fun n : Nat => V.int (n : Int)) (S_len w)
section
variable {P : Program} {w : World} {K : PySem.W.Frag} {mg : Str → Option Value} {base : Heap} {f fW : Addr} {fd fdW : FuncData}
/-- the counts, told as a new list -/
def spCnt (K : PySem.W.Frag) : Sp := fun vs H Q _ => ∃ (b : Addr) (ws : List (List Nat)) (t : List Nat), vs = [.ref b, tx t] ∧ SqL K H b (ws.map tx) ∧ (∀ x ∈ ws, WordOk x) ∧ ws.length ≤ 12 ∧ t.length ≤ 500 ∧
  ∀ (g : Addr) (H' : Hp), Same H H' → H g = none → H' g = some (.lst ((cnt ws t).map V.int)) → Q (.ref g) H'
end
/-! ### a range object that a name holds, walked -/
def iRngV (te : TE) : TI := fun σ H R => te σ H fun x H1 => ∃ a lo hi, x = .ref a ∧ H1 a = some (.rng lo hi) ∧ (-(2 ^ 62) ≤ lo ∧ lo < 2 ^ 62 ∧ -(2 ^ 62) ≤ hi ∧ hi < 2 ^ 62) ∧ R (Itr lo (hi - lo).toNat) H1
theorem pi_rngV {X : Cx} {tg e : Expr} {te : TE} (he : PE X e te) : PI X tg e (iRngV te) := by
  refine ⟨fun pins s σ H R I h => ?_⟩
  refine thn (he.run pins s σ H _ I h) fun v s1 ⟨x, H1, I1, r1, q1⟩ => ?_
  obtain ⟨a, lo, hi, ex, ha, ⟨h1, h2, h3, h4⟩, q⟩ := q1
  subst ex
  cases r1
  obtain ⟨t, u, v, hr⟩ := (show ObjOk X.prog X.w H1 s1.heap a (.rng lo hi) from I1.hok a _ ha)
  refine wpAny_pyIter_range (show IsRange s1.heap a lo hi 1 t u v from hr) (small_one h1 h2 h3 h4) ?_
  refine ⟨s1.heap.objs.size, [s1.heap.objs.size], _, _, H1, rfl, I1.kept (t' := s1.toks) fun b o e => Heap.get?_push_of_some _ e, turn_range _ lo (hi - lo).toNat, ?_, fun b hb => ?_, q⟩
  · have e1 : lo + ((0 : Nat) : Int) * 1 = lo := by simp
    have e2 : (((hi - lo).toNat : Nat) : Int) - ((0 : Nat) : Int) = Builtin.Range.rangeSize lo hi 1 := by rw [rangeSize_one]; split <;> omega
    show IsRangeIter _ _ (lo + ((0 : Nat) : Int) * 1) ((((hi - lo).toNat : Nat) : Int) - ((0 : Nat) : Int)) 1
    rw [e1, e2]
    exact Heap.get?_push_size _ rfl
  · have e : b = s1.heap.objs.size := by simpa using hb
    subst e
    exact I1.fpOk (Nat.le_refl _) (I1.hok.fresh (Nat.le_refl _))
/-! ### truths, and tables of them -/
noncomputable def bp (p : Prop) : Bool := @decide p (Classical.propDecidable p)
theorem bp_iff {p : Prop} : bp p = true ↔ p := by
  unfold bp
  exact @decide_eq_true_iff p (Classical.propDecidable p)
theorem bp_true {p : Prop} (h : p) : bp p = true := bp_iff.mpr h
theorem bp_false {p : Prop} (h : ¬ p) : bp p = false := by
  cases e : bp p with
  | false => rfl
  | true => exact absurd (bp_iff.mp e) h
theorem bp_congr {p q : Prop} (h : p ↔ q) : bp p = bp q := by
  rw [Bool.eq_iff_iff, bp_iff, bp_iff]
  exact h
noncomputable def tbl (n : Nat) (P : Nat → Prop) : List V := (List.range (n + 1)).map fun j => V.bl (bp (P j))
theorem tbl_len (n : Nat) (P : Nat → Prop) : (tbl n P).length = n + 1 := by
  unfold tbl
  rw [List.length_map, List.length_range]
theorem tbl_at {n : Nat} {P : Nat → Prop} {j : Nat} (h : j ≤ n) : (tbl n P)[j]? = some (V.bl (bp (P j))) := by
  unfold tbl
  rw [List.getElem?_map, List.getElem?_range (by omega)]
  rfl
theorem tbl_congr {n : Nat} {P Q : Nat → Prop} (h : ∀ i, i ≤ n → (P i ↔ Q i)) : tbl n P = tbl n Q := by
  unfold tbl
  refine List.map_congr_left fun j hj => ?_
  rw [bp_congr (h j (by have := List.mem_range.mp hj; omega))]
theorem tbl_set {n : Nat} {P : Nat → Prop} {j : Nat} : (tbl n P).set j (V.bl true) = tbl n fun i => P i ∨ i = j := by
  refine List.ext_getElem? fun i => ?_
  rw [List.getElem?_set]
  by_cases hi : i ≤ n
  · rw [tbl_at hi, tbl_at hi]
    by_cases e : j = i
    · rw [if_pos e, if_pos (by rw [tbl_len]; omega), bp_true (Or.inr e.symm)]
    · rw [if_neg e]
      refine congrArg some (congrArg V.bl (bp_congr ⟨Or.inl, fun z => ?_⟩))
      rcases z with z | z
      · exact z
      · exact absurd z.symm e
  · have l1 : (tbl n P)[i]? = none := List.getElem?_eq_none_iff.mpr (by rw [tbl_len]; omega)
    have l2 : (tbl n fun i => P i ∨ i = j)[i]? = none := List.getElem?_eq_none_iff.mpr (by rw [tbl_len]; omega)
    rw [l1, l2]
    by_cases e : j = i
    · rw [if_pos e, if_neg (by rw [tbl_len]; omega)]
    · rw [if_neg e]
theorem tbl_init (n : Nat) : V.bl true :: List.replicate n (V.bl false) = tbl n fun j => j = 0 := by
  unfold tbl
  rw [List.range_succ_eq_map, List.map_cons, bp_true rfl, List.map_map]
  refine congrArg _ ?_
  refine List.ext_getElem? fun i => ?_
  rw [List.getElem?_replicate, List.getElem?_map]
  by_cases h : i < n
  · rw [if_pos h, List.getElem?_range h]
    show _ = some (V.bl (bp (i + 1 = 0)))
    rw [bp_false (by omega)]
  · rw [if_neg h, List.getElem?_eq_none_iff.mpr (by rw [List.length_range]; omega)]
    rfl
/-! ### the places that rows reach -/
inductive RchK (ws : List (List Nat)) (t : List Nat) (k : Nat) : Nat → Prop where
  | zero : RchK ws t k 0
  | step {p : Nat} {w : List Nat} : p < k → RchK ws t k p → w ∈ ws → hit w (t.drop p) = true → RchK ws t k (p + w.length)
section
variable {ws : List (List Nat)} {t : List Nat}
theorem RchK.mono {k m j : Nat} (h : k ≤ m) (r : RchK ws t k j) : RchK ws t m j := by
  induction r with
  | zero => exact .zero
  | step a _ b c ih => exact .step (by omega) ih b c
theorem RchK.first {j : Nat} : RchK ws t 0 j ↔ j = 0 := by
  constructor
  · intro r
    cases r with
    | zero => rfl
    | step a _ _ _ => exact absurd a (Nat.not_lt_zero _)
  · rintro rfl
    exact .zero
theorem RchK.low (hw : ∀ w ∈ ws, 1 ≤ w.length) {k m j : Nat} (r : RchK ws t m j) (h : j ≤ k) : RchK ws t k j := by
  induction r with
  | zero => exact .zero
  | step a b c d ih =>
    have := hw _ c
    exact .step (by omega) (ih (by omega)) c d
theorem RchK.succ (hw : ∀ w ∈ ws, 1 ≤ w.length) {k j : Nat} : RchK ws t (k + 1) j ↔ RchK ws t k j ∨ (RchK ws t k k ∧ ∃ w ∈ ws, hit w (t.drop k) = true ∧ j = k + w.length) := by
  constructor
  · intro r
    induction r with
    | zero => exact .inl .zero
    | @step p w a b c d ih =>
      have rp : RchK ws t k p := b.low hw (by omega)
      by_cases e : p = k
      · subst e
        exact .inr ⟨rp, w, c, d, rfl⟩
      · exact .inl (.step (by omega) rp c d)
  · rintro (r | ⟨r, w, c, d, rfl⟩)
    · exact r.mono (by omega)
    · exact .step (by omega) (r.mono (by omega)) c d
theorem RchK.perm {vs : List (List Nat)} (h : ∀ w, w ∈ vs ↔ w ∈ ws) {k j : Nat} : RchK vs t k j ↔ RchK ws t k j := by
  constructor
  · intro r
    induction r with
    | zero => exact .zero
    | step a _ c d ih => exact .step a ih ((h _).mp c) d
  · intro r
    induction r with
    | zero => exact .zero
    | step a _ c d ih => exact .step a ih ((h _).mpr c) d
end
/-- some text of the code begins with t -/
def Ans (ws : List (List Nat)) (t : List Nat) : Prop := RchK ws t t.length t.length ∨ ∃ p, p < t.length ∧ RchK ws t t.length p ∧ ∃ w ∈ ws, w.take (t.length - p) = t.drop p
theorem Ans.perm {ws vs : List (List Nat)} {t : List Nat} (h : ∀ w, w ∈ vs ↔ w ∈ ws) : Ans vs t ↔ Ans ws t := by
  unfold Ans
  rw [RchK.perm h]
  refine or_congr Iff.rfl (exists_congr fun p => and_congr Iff.rfl (and_congr (RchK.perm h) (exists_congr fun w => and_congr (h w) Iff.rfl)))
theorem start1 {r w : List Nat} (hr : r ≠ []) : Txt.startswith (S w) (S r) = hit r w := by
  rw [Bool.eq_iff_iff]
  have h := TL.at_iff (x := S w) (y := S r) hr 0
  rw [List.drop_zero] at h
  unfold hit
  rw [← h]
  unfold Txt.startswith
  rw [Bool.and_eq_true, decide_eq_true_eq]
  show _ ↔ (0 + (S r).length ≤ (S w).length ∧ Builtin.Str.subAt (S w) (S r) 0 = true)
  rw [Nat.zero_add]
section
variable {Pr : Program} {w : World} {K : PySem.W.Frag} {mg : Str → Option Value} {base : Heap} {f fW : Addr} {fd fdW : FuncData}
end
/-! ### a def whose code object is known -/
theorem _root_.L2.FunD.okC {P : Program} {w : World} {K : PySem.W.Frag} {mg : Str → Option Value} {base : Heap} {x qual : Str} {params : Arguments} {body : List Stmt} {scope : Scope} {dvs : List V} {kws : List (Str × V)} {at_ : Str × Option Str} {fd : FuncData}
    {CX : CXT} {N ps : List Str} {k : Nat} {sp : Sp} (F : FunD K x qual params body scope dvs kws (He.fAd K at_) fd) (S : FnScope N ps scope) (len : ∀ vs H Q E, sp vs H Q E → vs.length = ps.length)
    (hbody : ∀ (A : Around) (outer : List Env) (s : Shared) (H : Hp) (vs : List V) (Q : VK) (E : XK), Room k (A.deeper (envOfC qual scope s.heap.objs.size (He.fAd K at_) (.ref (He.codeOf K at_)))) → sp vs H Q E →
      ∃ t, PSs (cxOf CX P w K mg base N qual scope (He.fAd K at_) (.ref (He.codeOf K at_)) A outer s H E).nox body t ∧ t { nx := fun _ H' => Q .non H', rt := Q } (start N vs) H) : FnOk P w K mg base CX (k + 1) (He.fAd K at_) fd ps sp := by
  obtain ⟨oc, od, dV, kV, doc, pm, an, cdv, ct, osl, rfl, lk, hcd, _, _⟩ := F.ex
  obtain ⟨c, rfl⟩ := He.codeIn_ref hcd
  have e : He.codeOf K at_ = c := He.codeOf_eq lk rfl
  refine fn_of lk hcd S len fun A outer s H vs Q E hr hsp => ?_
  rw [e] at hbody
  obtain ⟨t, q, r⟩ := hbody A outer s H vs Q E hr hsp
  exact ⟨t, q.nox, r⟩
/-! ### heaps but for a table -/
structure Sm (P : Addr) (H H' : Hp) : Prop where
  tab : GxR.TabG H' P
  keep : ∀ b o, b ≠ P → H b = some o → H' b = some o
theorem Sm.of_same {P : Addr} {H H' : Hp} (t : GxR.TabG H P) (s : Same H H') : Sm P H H' := by
  obtain ⟨ps, e, h⟩ := t
  exact ⟨⟨ps, s _ _ e, h⟩, fun b o _ q => s _ _ q⟩
theorem Sm.refl {P : Addr} {H : Hp} (t : GxR.TabG H P) : Sm P H H := .of_same t (Same.refl H)
theorem Sm.trans {P : Addr} {H H1 H2 : Hp} (a : Sm P H H1) (b : Sm P H1 H2) : Sm P H H2 := ⟨b.tab, fun c o n e => b.keep c o n (a.keep c o n e)⟩
theorem Sm.of_tabbed {P : Addr} {H H' : Hp} (t : GxR.Tabbed P H H') : Sm P H H' := ⟨t.1, fun b o n e => by rw [t.2 b n]; exact e⟩
theorem Sm.andThen {P : Addr} {H H1 H2 : Hp} (a : Sm P H H1) (b : Same H1 H2) : Sm P H H2 := a.trans (.of_same a.tab b)
theorem Sm.free {P : Addr} {H H' : Hp} (t : GxR.TabG H P) (s : Sm P H H') {l : Addr} (h : H' l = none) : H l = none := by
  obtain ⟨ps, e, _⟩ := s.tab
  have nl : l ≠ P := fun z => by
    rw [z, e] at h
    cases h
  cases q : H l with
  | none => rfl
  | some o =>
    rw [s.keep l o nl q] at h
    cases h
theorem TabG.ne {P : Addr} {H : Hp} (t : GxR.TabG H P) {b : Addr} {xs : List V} (h : H b = some (.lst xs)) : b ≠ P := by
  obtain ⟨ps, e, _⟩ := t
  intro z
  rw [z, e] at h
  cases h
theorem Sm.seq {K : PySem.W.Frag} {P : Addr} {H H' : Hp} {a : Addr} {xs : List V} (t : GxR.TabG H P) (s : Sm P H H') (h : SqL K H a xs) : SqL K H' a xs := by
  obtain ⟨ps, e, _⟩ := t
  rcases h with (h | ⟨o, h⟩) | h
  · exact .inl (.inl (s.keep _ _ (fun z => by rw [z, e] at h; cases h) h))
  · exact .inl (.inr ⟨o, s.keep _ _ (fun z => by rw [z, e] at h; cases h) h⟩)
  · exact .inr h
theorem Sm.lst {P : Addr} {H H' : Hp} {a : Addr} {xs : List V} (t : GxR.TabG H P) (s : Sm P H H') (h : H a = some (.lst xs)) : H' a = some (.lst xs) := s.keep _ _ (TabG.ne t h) h
theorem tab_upd {P : Addr} {H : Hp} {p : Addr} {o : HO} (t : GxR.TabG H P) (h : p ≠ P) : GxR.TabG (upd H p o) P := by
  obtain ⟨ps, e, q⟩ := t
  exact ⟨ps, by rw [upd_ne (Ne.symm h)]; exact e, q⟩
theorem iteP {c A B : Prop} [Decidable c] (hc : c) (h : A) : if decide c = true then A else B := by
  rw [if_pos (decide_eq_true hc)]
  exact h
theorem iteN {c A B : Prop} [Decidable c] (hc : ¬ c) (h : B) : if decide c = true then A else B := by
  rw [if_neg (fun z => hc (of_decide_eq_true z))]
  exact h
theorem iteNP {c A B : Prop} [Decidable c] (hc : c) (h : B) : if (!decide c) = true then A else B := by
  rw [decide_eq_true hc, if_neg (by decide)]
  exact h
theorem iteNN {c A B : Prop} [Decidable c] (hc : ¬ c) (h : A) : if (!decide c) = true then A else B := by
  rw [decide_eq_false hc, if_pos (by decide)]
  exact h
/-! ### 'a' <= sign <= 'z' -/
theorem lt_one (c d : Nat) : ([c] : List Nat) < [d] ↔ c < d := by
  rw [List.cons_lt_cons_iff]
  constructor
  · rintro (h | ⟨_, h⟩)
    · exact h
    · exact absurd h (List.not_lt_nil _)
  · exact Or.inl
theorem elt_az {prog : Program} {w : World} {scope : Scope} {x : Str} {j k : Nat} {p1 p2 p3 p4 : Pos} (hk : scope.kind = .function) (hl : scope.names.lookup x = some .local) (hd : (x == ("__debug__" : Str)) = false := by decide) :
    GxR.EltP prog w scope x (.Compare (.Constant (.str "a") j p1) [.LtE, .LtE] [.Name x p2, .Constant (.str "z") k p3] p4) (fun c => decide (97 ≤ c) && decide (c ≤ 122)) := by
  intro cenv A' E' c t s₂ m₂ hs hn hm
  have ea : (Str.ofString "a").cps.toList = [97] := by decide +kernel
  have ez : (Str.ofString "z").cps.toList = [122] := by decide +kernel
  refine Compare_chain ?_
  refine Calls.Constant_str ?_
  refine chain_link ?_
  refine wpAny_Name (wpAny_loadName_local (by rw [hs]; exact hk) (show cenv.scope.names.lookup x = some .local by rw [hs]; exact hl) hn hm ?_) hd
  refine PySem.P.le_str ?_
  refine wpAny_truthy_bool ?_
  rw [ea]
  by_cases h1 : 97 ≤ c
  · have e1 : (!(decide (([c] : List Nat) < [97]))) = true := by
      rw [decide_eq_false (fun z => by have := (lt_one c 97).mp z; omega)]
      rfl
    rw [if_pos e1]
    refine chain_last ?_
    refine Calls.Constant_str ?_
    refine PySem.P.le_str ?_
    rw [ez]
    refine ⟨?_, GxR.keeps_tok _ _⟩
    refine congrArg Value.bool ?_
    show (!decide (([122] : List Nat) < [c])) = (decide (97 ≤ c) && decide (c ≤ 122))
    rw [decide_eq_true h1, Bool.true_and]
    by_cases h2 : c ≤ 122
    · rw [decide_eq_true h2, decide_eq_false (fun z => by have := (lt_one 122 c).mp z; omega)]
      rfl
    · rw [decide_eq_false h2, decide_eq_true ((lt_one 122 c).mpr (by omega))]
      rfl
  · have e1 : (!(decide (([c] : List Nat) < [97]))) = false := by
      rw [decide_eq_true ((lt_one c 97).mpr (by omega))]
      rfl
    rw [if_neg (by rw [e1]; exact Bool.false_ne_true)]
    refine ⟨?_, GxR.keeps_tok _ _⟩
    refine congrArg Value.bool ?_
    show (!decide (([c] : List Nat) < [97])) = (decide (97 ≤ c) && decide (c ≤ 122))
    rw [e1, decide_eq_false h1]
    rfl
/-- the built-in names and constants -/
structure Bl (mg : Str → Option Value) : Prop where
  mT : mg "type" = none
  mStr : mg "str" = none
  mL : mg "len" = none
  mAll : mg "all" = none
  mList : mg "list" = none
  mSorted : mg "sorted" = none
  mR : mg "range" = none
  mV : mg "reversed" = none
  mSum : mg "sum" = none
  mIsi : mg "isinstance" = none
  mInt : mg "int" = none
  mBool : mg "bool" = none
  mAny : mg "any" = none
  mMax : mg "max" = none
  mDict : mg "dict" = none
  mTuple : mg "tuple" = none
  mMin : mg "min" = none
  mVE : mg "ValueError" = none
  mEnum : mg "enumerate" = none
  mZip : mg "zip" = none
section
variable {Pr : Program} {w : World} {K : PySem.W.Frag} {mg : Str → Option Value} {base : Heap} {fd : FuncData} {P : Addr}
theorem scWhole : FnScope ["_law_found"] ["_law_found"] (defScope sWhole) := ⟨rfl, rfl, rfl, by decide +kernel, rfl, by decide +kernel, by decide +kernel⟩
def spWhole : Sp := fun vs H Q _ => ∃ (i : Int), vs = [.int i] ∧ Q (.bl true) H
theorem ok_whole (F : FnP K "_law_whole" sWhole f fd) (B : Bl mg) : FnOk Pr w K mg base CX0 1 f fd ["_law_found"] spWhole := by
  refine F.okN scWhole (fun vs H Q E h => ?_) (fun cdv A' outer s H vs Q E hr h => ?_)
  · obtain ⟨i, rfl, _⟩ := h
    rfl
  · obtain ⟨i, rfl, q⟩ := h
    refine ⟨_, pss_one (ps_ret (pe_and (pe_callB call_isi (by rfl) B.mIsi boot_isinstance (pa_cons (pv 0) (pa_cons (pe_bltn (v := .ty "int") (by rfl) B.mInt boot_int rfl) pa_nil)))
      (pe_one (pe_not (pe_callB call_isi (by rfl) B.mIsi boot_isinstance (pa_cons (pv 0) (pa_cons (pe_bltn (v := .ty "bool") (by rfl) B.mBool boot_bool rfl) pa_nil))))))), ?_⟩
    refine ⟨_, rfl, .int i, .ty "int", .type "int", .type "int", true, rfl, .ty _, .base (.int i), kit_ty (by decide +kernel), _, rfl, ?_⟩
    refine iteT ?_
    exact ⟨_, rfl, .int i, .ty "bool", .type "int", .type "bool", false, rfl, .ty _, .base (.int i), kit_ty (by decide +kernel), _, rfl, q⟩
end
theorem dp_ints {K : PySem.W.Frag} {H : Hp} : ∀ ns : List Int, DpAll K H (ns.map V.int) (ns.map PyData.int)
  | [] => .nil
  | x :: r => .cons (.int x) (dp_ints r)
theorem shaped_ints (ns : List Int) : SeqAt.shaped (.list (ns.map PyData.int)) = true := PySem.W.ke_shaped_ints ns
theorem eqv_ints (ns : List Int) : PyData.eqv (.list (ns.map PyData.int)) (.list (ns.map PyData.int)) = true := PySem.SeqAt.eqv_refl _ (PySem.SeqAt.canLay_of_shaped (shaped_ints ns))
/-! ### how two texts begin -/
/-- the greatest length of a text with which both begin -/
def shd : List Nat → List Nat → Nat
  | x :: a, y :: b => if x = y then shd a b + 1 else 0
  | _, _ => 0
theorem shd_le : ∀ a b : List Nat, shd a b ≤ a.length ∧ shd a b ≤ b.length
  | [], _ => ⟨Nat.zero_le _, Nat.zero_le _⟩
  | _ :: _, [] => ⟨Nat.zero_le _, Nat.zero_le _⟩
  | x :: a, y :: b => by
    show (if x = y then shd a b + 1 else 0) ≤ _ ∧ (if x = y then shd a b + 1 else 0) ≤ _
    have ih := shd_le a b
    by_cases h : x = y
    · rw [if_pos h, List.length_cons, List.length_cons]
      omega
    · rw [if_neg h]
      exact ⟨Nat.zero_le _, Nat.zero_le _⟩
theorem shd_stop : ∀ {i : Nat} {a b : List Nat} {c d : Nat}, a.take i = b.take i → a[i]? = some c → b[i]? = some d → c ≠ d → shd a b = i
  | 0, x :: a, y :: b, c, d, _, h1, h2, n => by
    have e1 : x = c := Option.some.inj h1
    have e2 : y = d := Option.some.inj h2
    show (if x = y then shd a b + 1 else 0) = 0
    rw [if_neg fun z => n (by rw [← e1, ← e2, z])]
  | i + 1, x :: a, y :: b, c, d, h, h1, h2, n => by
    have h' : x :: a.take i = y :: b.take i := h
    have e := (List.cons.inj h').1
    show (if x = y then shd a b + 1 else 0) = i + 1
    rw [if_pos e, shd_stop (List.cons.inj h').2 h1 h2 n]
  | _, [], _, _, _, _, h1, _, _ => by cases h1
  | _, _ :: _, [], _, _, _, _, h2, _ => by cases h2
theorem shd_all : ∀ {i : Nat} {a b : List Nat}, a.take i = b.take i → (i = a.length ∨ i = b.length) → i ≤ a.length → i ≤ b.length → shd a b = i
  | 0, [], _, _, _, _, _ => rfl
  | 0, _ :: _, [], _, _, _, _ => rfl
  | 0, x :: a, y :: b, _, h, _, _ => by
    rcases h with h | h
    · cases h
    · cases h
  | i + 1, x :: a, y :: b, h, hl, h1, h2 => by
    have h' : x :: a.take i = y :: b.take i := h
    have e := (List.cons.inj h').1
    show (if x = y then shd a b + 1 else 0) = i + 1
    rw [if_pos e, shd_all (List.cons.inj h').2 (hl.elim (fun z => .inl (Nat.succ.inj z)) fun z => .inr (Nat.succ.inj z)) (Nat.le_of_succ_le_succ h1) (Nat.le_of_succ_le_succ h2)]
  | i + 1, [], _, _, _, h1, _ => absurd h1 (Nat.not_succ_le_zero i)
  | i + 1, _ :: _, [], _, _, _, h2 => absurd h2 (Nat.not_succ_le_zero i)
theorem take_next {i c : Nat} {a b : List Nat} (h : a.take i = b.take i) (h1 : a[i]? = some c) (h2 : b[i]? = some c) : a.take (i + 1) = b.take (i + 1) := by
  rw [List.take_add_one, List.take_add_one, h, h1, h2]
/-- the rest that a rest goes on to by a word, and whether the word goes beyond -/
def stp (r w : List Nat) : Option (List Nat × Bool) := if hit w r = true then some (r.drop w.length, false) else if hit r w = true then some (w.drop r.length, true) else none
theorem hit_nil (r : List Nat) : hit [] r = true := hit_iff.mpr rfl
theorem to_eq {t b : List Nat} : decide (V.str (cutS (S t) none (some (b.length : Int))) = V.str (S b)) = hit b t := by
  rw [cut_to (by omega), tx_eq, Int.toNat_natCast, Bool.eq_iff_iff, decide_eq_true_eq, hit_iff]
theorem from_len {t : List Nat} {n : Nat} : V.str (cutS (S t) (some (n : Int)) none) = tx (t.drop n) := by
  rw [cut_from (by omega), Int.toNat_natCast]
theorem S_get {a : List Nat} {i : Nat} : (S a).cps[i]? = a[i]? := by
  show a.toArray[i]? = a[i]?
  rw [List.getElem?_toArray]
section
variable {Pr : Program} {w : World} {K : PySem.W.Frag} {mg : Str → Option Value} {base : Heap} {f : Addr} {fd : FuncData}
def spShared : Sp := fun vs H Q _ => ∃ a b : List Nat, vs = [tx a, tx b] ∧ a.length ≤ 1000 ∧ b.length ≤ 1000 ∧ ∀ H', Same H H' → Q (.int (shd a b : Nat)) H'
def spLeft : Sp := fun vs H Q _ => ∃ a b : List Nat, vs = [tx a, tx b] ∧ a.length ≤ 1000 ∧ b.length ≤ 1000 ∧ Q (if hit b a = true then tx (a.drop b.length) else .non) H
def spStep : Sp := fun vs H Q _ => ∃ r v : List Nat, vs = [tx r, tx v] ∧ r.length ≤ 1000 ∧ v.length ≤ 1000 ∧ (stp r v = none → Q .non H) ∧ (∀ x b, stp r v = some (x, b) → ∀ (p : Addr) (H' : Hp), Same H H' → H p = none → H' p = some (.tup [tx x, .bl b]) → Q (.ref p) H')
theorem for_ez {a b : Str} {g : TG} {tb : TS} {D : Ends} {σ : L2.St} {H : Hp} (Pv : Nat → L2.St → Hp → Prop) (h0 : Pv 0 σ H)
    (hs : ∀ (i c d : Nat) (T T2 : Addr) (σ : L2.St) (H : Hp), a.cps[i]? = some c → b.cps[i]? = some d → Pv i σ H → H T = none → H T2 = none → T ≠ T2 →
      g (.ref T2) σ (upd (upd H T (.tup [.str ⟨#[c]⟩, .str ⟨#[d]⟩])) T2 (.tup [.int (i : Nat), .ref T])) fun σ2 H2 => tb { D with nx := Pv (i + 1), ct := Pv (i + 1), bk := D.nx } σ2 H2)
    (hd : ∀ i σ H, (i = a.cps.size ∨ i = b.cps.size) → i ≤ a.cps.size → i ≤ b.cps.size → Pv i σ H → D.nx σ H) :
    ∃ W : Nat → Nat → L2.St → Hp → Prop, (∃ m, W 0 m σ H) ∧ ∀ i m σ H, W i m σ H →
      ((ItZ a b).stop i H ∧ D.nx σ H) ∨ ((ItZ a b).go i H ∧ ∃ N : L2.St → Hp → Prop, (∀ σ' H', N σ' H' → ∃ m', m' < m ∧ W (i + 1) m' σ' H') ∧ ∀ x H', (ItZ a b).yld i H x H' → g x σ H' fun σ2 H2 => tb { D with nx := N, ct := N, bk := D.nx } σ2 H2) := by
  refine ⟨fun i m σ H => m = a.cps.size - i ∧ i ≤ a.cps.size ∧ i ≤ b.cps.size ∧ Pv i σ H, ⟨a.cps.size, by simp, Nat.zero_le _, Nat.zero_le _, h0⟩, ?_⟩
  rintro i m σ H ⟨rfl, h1, h2, p⟩
  by_cases hlt : i < a.cps.size ∧ i < b.cps.size
  · refine .inr ⟨hlt, Pv (i + 1), fun σ' H' p' => ⟨a.cps.size - (i + 1), by omega, rfl, hlt.1, hlt.2, p'⟩, fun x H' y => ?_⟩
    obtain ⟨T, T2, c, d, rfl, hc, hd', n1, n2, ne, rfl⟩ := y
    exact hs i c d T T2 σ H hc hd' p n1 n2 ne
  · refine .inl ⟨?_, hd i σ H ?_ h1 h2 p⟩
    · show a.cps.size ≤ i ∨ b.cps.size ≤ i
      omega
    · omega
theorem scShared : FnScope ["text", "other", "at", "sign", "facing"] ["text", "other"] (defScope s_shared) := ⟨rfl, rfl, rfl, by decide +kernel, rfl, by decide +kernel, by decide +kernel⟩
theorem ok_shared (F : FnP K "shared" s_shared f fd) (B : Bl mg) : FnOk Pr w K mg base CX0 1 f fd ["text", "other"] spShared := by
  refine F.okN scShared (fun vs H Q E h => ?_) (fun cdv A' outer s H vs Q E hr h => ?_)
  · obtain ⟨a, b, rfl, _⟩ := h
    rfl
  · obtain ⟨a, b, rfl, ha, hb, q⟩ := h
    refine ⟨_, pss_cons (ps_for PassesOwn.never rfl (pi_enumZip (by rfl) B.mEnum (by rfl) B.mZip (pa_cons (pv 0) (pa_cons (pv 1) pa_nil)))
        (pg_tup rfl (pgs_cons (pg_name (i := 2) scShared.nd rfl (Or.inl rfl)) (pgs_cons (pg_tup rfl (pgs_cons (pg_name (i := 3) scShared.nd rfl (Or.inl rfl)) (pgs_cons (pg_name (i := 4) scShared.nd rfl (Or.inl rfl)) pgs_nil))) pgs_nil)))
        (pss_one (ps_if (pt_cmpR op_ne (pv 3) (pv 4) (nomark _)) (pss_one (ps_ret (pv 2))) pss_nil)))
      (pss_one (ps_ret (pe_callB (call_min2 rfl) (by rfl) B.mMin (by decide +kernel) (pa_cons (pe_callB call_len_str (by rfl) B.mL boot_len (pa_cons (pv 0) pa_nil)) (pa_cons (pe_callB call_len_str (by rfl) B.mL boot_len (pa_cons (pv 1) pa_nil)) pa_nil))))), ?_⟩
    have za : (S a).length ≤ sizeLine := small_S ha
    have zb : (S b).length ≤ sizeLine := small_S hb
    refine ⟨_, rfl, _, rfl, S a, S b, rfl, for_ez (fun i σ H1 => Same H H1 ∧ a.take i = b.take i ∧ ∃ k2 k3 k4 : Option V, σ = [some (tx a), some (tx b), k2, k3, k4]) ⟨Same.refl H, rfl, none, none, none, rfl⟩ ?_ ?_⟩
    · rintro i c d T T2 σ H1 hc hd ⟨sm, e, k2, k3, k4, rfl⟩ n1 n2 ne
      rw [S_get] at hc hd
      have n2' : (upd H1 T (.tup [.str ⟨#[c]⟩, .str ⟨#[d]⟩])) T2 = none := by rw [upd_ne (Ne.symm ne)]; exact n2
      have s1 := (same_upd (o := .tup [.str ⟨#[c]⟩, .str ⟨#[d]⟩]) n1).trans (same_upd (o := .tup [.int (i : Nat), .ref T]) n2')
      have eT : (upd (upd H1 T (.tup [.str ⟨#[c]⟩, .str ⟨#[d]⟩])) T2 (.tup [.int (i : Nat), .ref T])) T = some (.tup [.str ⟨#[c]⟩, .str ⟨#[d]⟩]) := by rw [upd_ne ne, upd_same]
      refine ⟨T2, _, rfl, .inl (.inl upd_same), rfl, _, _, rfl, _, _, rfl, T, _, rfl, .inl (.inl eT), rfl, _, _, rfl, _, _, rfl, rfl, rfl, ?_⟩
      refine ⟨_, rfl, _, rfl, rfl, _, rfl, ?_⟩
      by_cases h : c = d
      · subst h
        exact iteNP rfl ⟨sm.trans s1, take_next e hc hd, _, _, _, rfl⟩
      · refine iteNN (fun z => h ?_) ⟨_, rfl, ?_⟩
        · have z2 : V.str (S [c]) = V.str (S [d]) := z
          exact (List.cons.inj (S_inj (V.str.inj z2))).1
        · have q2 := q _ (sm.trans s1)
          rw [shd_stop e hc hd h] at q2
          exact q2
    · rintro i σ H1 hi h1 h2 ⟨sm, e, k2, k3, k4, rfl⟩
      have e1 : (S a).cps.size = a.length := by show a.toArray.size = _; simp
      have e2 : (S b).cps.size = b.length := by show b.toArray.size = _; simp
      rw [e1] at hi h1
      rw [e2] at hi h2
      have es := shd_all e hi h1 h2
      refine ⟨_, rfl, S a, rfl, za, _, rfl, S b, rfl, zb, (a.length : Int), (b.length : Int), ?_, ?_⟩
      · rw [S_len, S_len]
      · have e3 : (if (b.length : Int) < (a.length : Int) then (b.length : Int) else (a.length : Int)) = ((shd a b : Nat) : Int) := by
          rw [es]
          split <;> omega
        rw [e3]
        exact q H1 sm
theorem scLeft : FnScope ["text", "other"] ["text", "other"] (defScope s_left_of) := ⟨rfl, rfl, rfl, by decide +kernel, rfl, by decide +kernel, by decide +kernel⟩
theorem start_all (x y : List Nat) : Txt.startswith (S x) (S y) = hit y x := by
  by_cases h : y = []
  · subst h
    rw [hit_nil]
    unfold Txt.startswith
    simp [Builtin.Str.subAt, S, Str.length]
  · exact start1 h
theorem ok_left (F : FnP K "left_of" s_left_of f fd) (B : Bl mg) : FnOk Pr w K mg base CX0 1 f fd ["text", "other"] spLeft := by
  refine F.okN scLeft (fun vs H Q E h => ?_) (fun cdv A' outer s H vs Q E hr h => ?_)
  · obtain ⟨a, b, rfl, _⟩ := h
    rfl
  · obtain ⟨a, b, rfl, ha, hb, q⟩ := h
    refine ⟨_, pss_cons (ps_if (pt_val (pe_bm PySem.F.plainAttrs_str PySem.F.slot_str_startswith PySem.F.type_str_startswith mt_startswith (pv 0) (pa_cons (pv 1) pa_nil))) (pss_one (ps_ret (pe_slice sl_str (pv 0) (po_some (pe_callB call_len_str (by rfl) B.mL boot_len (pa_cons (pv 1) pa_nil))) po_none))) pss_nil) (pss_one (ps_ret pe_non)), ?_⟩
    have za : (S a).length ≤ sizeLine := small_S ha
    have zb : (S b).length ≤ sizeLine := small_S hb
    refine ⟨_, rfl, rfl, _, rfl, S a, S b, rfl, rfl, _, rfl, ?_⟩
    rw [start_all]
    refine ite2 (fun c => ?_) (fun c => ?_)
    · rw [if_pos c] at q
      refine ⟨_, rfl, _, rfl, S b, rfl, zb, (b.length : Int), len_v _, S a, rfl, za, ?_⟩
      rw [from_len]
      exact q
    · rw [if_neg c] at q
      exact q
theorem scLawShared : FnScope ["_law_one", "_law_other", "_law_many"] ["_law_one", "_law_other"] (defScope s__law_shared) := ⟨rfl, rfl, rfl, by decide +kernel, rfl, by decide +kernel, by decide +kernel⟩
theorem ok_lawShared (F : FnP K "_law_shared" s__law_shared f fd) (B : Bl mg) : FnOk Pr w K mg base CX0 1 f fd ["_law_one", "_law_other"] spShared := by
  refine F.okN scLawShared (fun vs H Q E h => ?_) (fun cdv A' outer s H vs Q E hr h => ?_)
  · obtain ⟨a, b, rfl, _⟩ := h
    rfl
  · obtain ⟨a, b, rfl, ha, hb, q⟩ := h
    refine ⟨_, pss_cons (ps_set (i := 2) scLawShared.nd rfl (.inl rfl) pe_int)
      (pss_cons (ps_while PassesOwn.never (PW.pt (pw_and (pt_cmpR op_lt (pv 2) (pe_callB (call_min2 rfl) (by rfl) B.mMin (by decide +kernel) (pa_cons (pe_callB call_len_str (by rfl) B.mL boot_len (pa_cons (pv 0) pa_nil)) (pa_cons (pe_callB call_len_str (by rfl) B.mL boot_len (pa_cons (pv 1) pa_nil)) pa_nil))) (nomark _))
          (pw_and1 (pt_cmpR op_eq (pe_ix (r := rIxS) ix_str (pv 0) (pv 2) (fun _ _ => rfl)) (pe_ix (r := rIxS) ix_str (pv 1) (pv 2) (fun _ _ => rfl)) (nomark _)))))
        (pss_one (ps_set (i := 2) scLawShared.nd rfl (.inl rfl) (pe_op op_add (pv 2) pe_int))))
      (pss_one (ps_ret (pv 2)))), ?_⟩
    have za : (S a).length ≤ sizeLine := small_S ha
    have zb : (S b).length ≤ sizeLine := small_S hb
    have fin : ∀ i : Nat, shd a b = i → Q (.int (i : Nat)) H := fun i e => by
      have := q H (Same.refl H)
      rw [e] at this
      exact this
    refine ⟨fun m σ H1 => H1 = H ∧ ∃ i : Nat, m = a.length - i ∧ a.take i = b.take i ∧ i ≤ a.length ∧ i ≤ b.length ∧ σ = [some (tx a), some (tx b), some (.int (i : Nat))], ⟨_, rfl, 0, rfl, rfl, Nat.zero_le _, Nat.zero_le _, rfl⟩, ?_⟩
    rintro m σ H1 ⟨rfl, i, rfl, e, h1, h2, rfl⟩
    refine ⟨_, rfl, _, rfl, S a, rfl, za, _, rfl, S b, rfl, zb, (a.length : Int), (b.length : Int), by rw [S_len, S_len], (i : Int), _, rfl, rfl, _, rfl, ?_⟩
    by_cases hlt : i < a.length ∧ i < b.length
    · refine iteP (by show (i : Int) < if (b.length : Int) < (a.length : Int) then (b.length : Int) else (a.length : Int); split <;> omega) ?_
      have ga : atI (S a).cps.toList (i : Int) = some a[i] := atI_nat (List.getElem?_eq_getElem hlt.1)
      have gb : atI (S b).cps.toList (i : Int) = some b[i] := atI_nat (List.getElem?_eq_getElem hlt.2)
      refine ⟨_, rfl, _, rfl, S a, _, a[i], rfl, rfl, za, ga, _, rfl, _, rfl, S b, _, b[i], rfl, rfl, zb, gb, rfl, _, rfl, ?_⟩
      by_cases h : a[i] = b[i]
      · refine iteP (congrArg (fun c => V.str ⟨#[c]⟩) h) ?_
        refine ⟨fun σ' H' => H' = H1 ∧ σ' = [some (tx a), some (tx b), some (.int ((i + 1 : Nat) : Int))], fun σ' H' n => ⟨a.length - (i + 1), by omega, n.1, i + 1, rfl, take_next e (List.getElem?_eq_getElem hlt.1) (by rw [h]; exact List.getElem?_eq_getElem hlt.2), hlt.1, hlt.2, n.2⟩, ?_⟩
        exact ⟨_, rfl, _, _, rfl, rfl, rfl, rfl⟩
      · refine iteN (fun z => h ?_) ⟨_, rfl, fin i (shd_stop e (List.getElem?_eq_getElem hlt.1) (List.getElem?_eq_getElem hlt.2) h)⟩
        have z2 : V.str (S [a[i]]) = V.str (S [b[i]]) := z
        exact (List.cons.inj (S_inj (V.str.inj z2))).1
    · refine iteN (by show ¬ ((i : Int) < if (b.length : Int) < (a.length : Int) then (b.length : Int) else (a.length : Int)); split <;> omega) ?_
      exact ⟨_, rfl, fin i (shd_all e (by omega) h1 h2)⟩
theorem scLawLeft : FnScope ["_law_text_here", "_law_other"] ["_law_text_here", "_law_other"] (defScope s__law_left) := ⟨rfl, rfl, rfl, by decide +kernel, rfl, by decide +kernel, by decide +kernel⟩
theorem ok_lawLeft (F : FnP K "_law_left" s__law_left f fd) (B : Bl mg) : FnOk Pr w K mg base CX0 1 f fd ["_law_text_here", "_law_other"] spLeft := by
  refine F.okN scLawLeft (fun vs H Q E h => ?_) (fun cdv A' outer s H vs Q E hr h => ?_)
  · obtain ⟨a, b, rfl, _⟩ := h
    rfl
  · obtain ⟨a, b, rfl, ha, hb, q⟩ := h
    refine ⟨_, pss_cons (ps_if (pt_cmpR op_eq (pe_slice sl_str (pv 0) po_none (po_some (pe_callB call_len_str (by rfl) B.mL boot_len (pa_cons (pv 1) pa_nil)))) (pv 1) (nomark _)) (pss_one (ps_ret (pe_slice sl_str (pv 0) (po_some (pe_callB call_len_str (by rfl) B.mL boot_len (pa_cons (pv 1) pa_nil))) po_none))) pss_nil) (pss_one (ps_ret pe_non)), ?_⟩
    have za : (S a).length ≤ sizeLine := small_S ha
    have zb : (S b).length ≤ sizeLine := small_S hb
    refine ⟨_, rfl, _, rfl, S b, rfl, zb, (b.length : Int), len_v _, S a, rfl, za, _, rfl, rfl, _, rfl, ?_⟩
    rw [to_eq]
    refine ite2 (fun c => ?_) (fun c => ?_)
    · rw [if_pos c] at q
      refine ⟨_, rfl, _, rfl, S b, rfl, zb, (b.length : Int), len_v _, S a, rfl, za, ?_⟩
      rw [from_len]
      exact q
    · rw [if_neg c] at q
      exact q
theorem scLawStep : FnScope ["_law_rest", "_law_word"] ["_law_rest", "_law_word"] (defScope s__law_step) := ⟨rfl, rfl, rfl, by decide +kernel, rfl, by decide +kernel, by decide +kernel⟩
theorem ok_lawStep (F : FnP K "_law_step" s__law_step f fd) (B : Bl mg) : FnOk Pr w K mg base CX0 1 f fd ["_law_rest", "_law_word"] spStep := by
  refine F.okN scLawStep (fun vs H Q E h => ?_) (fun cdv A' outer s H vs Q E hr h => ?_)
  · obtain ⟨a, b, rfl, _⟩ := h
    rfl
  · obtain ⟨a, b, rfl, ha, hb, q0, q⟩ := h
    refine ⟨_, pss_cons (ps_if (pt_cmpR op_eq (pe_slice sl_str (pv 0) po_none (po_some (pe_callB call_len_str (by rfl) B.mL boot_len (pa_cons (pv 1) pa_nil)))) (pv 1) (nomark _)) (pss_one (ps_ret (pe_tup (pa_cons (pe_slice sl_str (pv 0) (po_some (pe_callB call_len_str (by rfl) B.mL boot_len (pa_cons (pv 1) pa_nil))) po_none) (pa_cons pe_bl pa_nil))))) pss_nil)
      (pss_cons (ps_if (pt_cmpR op_eq (pe_slice sl_str (pv 1) po_none (po_some (pe_callB call_len_str (by rfl) B.mL boot_len (pa_cons (pv 0) pa_nil)))) (pv 0) (nomark _)) (pss_one (ps_ret (pe_tup (pa_cons (pe_slice sl_str (pv 1) (po_some (pe_callB call_len_str (by rfl) B.mL boot_len (pa_cons (pv 0) pa_nil))) po_none) (pa_cons pe_bl pa_nil))))) pss_nil)
      (pss_one (ps_ret pe_non))), ?_⟩
    have za : (S a).length ≤ sizeLine := small_S ha
    have zb : (S b).length ≤ sizeLine := small_S hb
    unfold stp at q0 q
    refine ⟨_, rfl, _, rfl, S b, rfl, zb, (b.length : Int), len_v _, S a, rfl, za, _, rfl, rfl, _, rfl, ?_⟩
    rw [to_eq]
    refine ite2 (fun c => ?_) (fun c => ?_)
    · rw [if_pos c] at q
      refine ⟨_, rfl, _, rfl, S b, rfl, zb, (b.length : Int), len_v _, S a, rfl, za, ?_⟩
      rw [from_len]
      exact ⟨by show 2 ≤ sizeLine; decide, fun p hp => q _ _ rfl p _ (same_upd hp) hp upd_same⟩
    · rw [if_neg c] at q q0
      refine ⟨_, rfl, _, rfl, S a, rfl, za, (a.length : Int), len_v _, S b, rfl, zb, _, rfl, rfl, _, rfl, ?_⟩
      rw [to_eq]
      refine ite2 (fun c2 => ?_) (fun c2 => ?_)
      · rw [if_pos c2] at q
        refine ⟨_, rfl, _, rfl, S a, rfl, za, (a.length : Int), len_v _, S b, rfl, zb, ?_⟩
        rw [from_len]
        exact ⟨by show 2 ≤ sizeLine; decide, fun p hp => q _ _ rfl p _ (same_upd hp) hp upd_same⟩
      · rw [if_neg c2] at q0
        exact q0 rfl
end
section
variable {Pr : Program} {w : World} {K : PySem.W.Frag} {mg : Str → Option Value} {base : Heap} {f : Addr} {fd : FuncData}
end
/-- the defs of the text, each as it stands behind the top -/
structure Defs (K : PySem.W.Frag) (mg : Str → Option Value) : Prop where
  d_left_of : There K mg "left_of" s_left_of ["text", "other"]
  d_shared : There K mg "shared" s_shared ["text", "other"]
  d_stepped : There K mg "stepped" s_stepped ["rest", "word"]
  d__law_at : There K mg "_law_at" sAt ["_law_script", "_law_k"]
  d__law_mixed : There K mg "_law_mixed" sMixed ["_law_cell", "_law_k"]
  d__law_whole : There K mg "_law_whole" sWhole ["_law_found"]
  d__law_text : There K mg "_law_text" sText ["_law_cell", "_law_size"]
  d__law_bent : There K mg "_law_bent" s__law_bent ["_law_text_here", "_law_cell"]
  d__law_left : There K mg "_law_left" s__law_left ["_law_text_here", "_law_other"]
  d__law_step : There K mg "_law_step" s__law_step ["_law_rest", "_law_word"]
  d__law_shared : There K mg "_law_shared" s__law_shared ["_law_one", "_law_other"]
section
variable {Pr : Program} {w : World} {K : PySem.W.Frag} {mg : Str → Option Value} {base : Heap}
def spLaw (K : PySem.W.Frag) (P : Addr) : Sp := fun vs H Q _ => ∃ (a : Addr) (ns : List Int), vs = [.ref a] ∧ SqL K H a (ns.map V.int) ∧ GxR.TabG H P ∧ ∀ H', Q (.bl true) H'
end

section
variable {Pr : Program} {w : World} {K : PySem.W.Frag} {mg : Str → Option Value} {base : Heap} {f fL : Addr} {fd fdL : FuncData}
theorem scStepped : FnScope ["rest", "word", "left"] ["rest", "word"] (defScope s_stepped) := ⟨rfl, rfl, rfl, by decide +kernel, rfl, by decide +kernel, by decide +kernel⟩
theorem ok_stepped (F : FnP K "stepped" s_stepped f fd) (L : Has K mg "left_of" s_left_of ["text", "other"] fL fdL) (B : Bl mg) : FnOk Pr w K mg base CX0 2 f fd ["rest", "word"] spStep := by
  have GL : FnOk Pr w K mg base CX0 1 fL fdL ["text", "other"] spLeft := ok_left L.F B
  refine F.okN scStepped (fun vs H Q E h => ?_) (fun cdv A' outer s H vs Q E hr h => ?_)
  · obtain ⟨a, b, rfl, _⟩ := h
    rfl
  · obtain ⟨a, b, rfl, ha, hb, q0, q⟩ := h
    refine ⟨_, pss_cons (ps_set (i := 2) scStepped.nd rfl (.inl rfl) (pe_call GL hr (by rfl) L.g L.F.kp L.b .nil pass0 (pa_cons (pv 0) (pa_cons (pv 1) pa_nil))))
      (pss_cons (ps_if (pt_cmpR op_notN (pv 2) pe_non (nomark _)) (pss_one (ps_ret (pe_tup (pa_cons (pv 2) (pa_cons pe_bl pa_nil))))) pss_nil)
      (pss_cons (ps_set (i := 2) scStepped.nd rfl (.inl rfl) (pe_call GL hr (by rfl) L.g L.F.kp L.b .nil pass0 (pa_cons (pv 1) (pa_cons (pv 0) pa_nil))))
      (pss_cons (ps_if (pt_cmpR op_notN (pv 2) pe_non (nomark _)) (pss_one (ps_ret (pe_tup (pa_cons (pv 2) (pa_cons pe_bl pa_nil))))) pss_nil)
      (pss_one (ps_ret pe_non))))), ?_⟩
    unfold stp at q0 q
    refine ⟨_, rfl, _, rfl, a, b, rfl, ha, hb, ?_⟩
    by_cases c : hit b a = true
    · rw [if_pos c] at q
      rw [if_pos c]
      refine ⟨_, rfl, rfl, _, rfl, ?_⟩
      refine iteNN (fun z => nomatch z) ⟨_, rfl, by show 2 ≤ sizeLine; decide, fun p hp => q _ _ rfl p _ (same_upd hp) hp upd_same⟩
    · rw [if_neg c] at q q0
      rw [if_neg c]
      refine ⟨_, rfl, rfl, _, rfl, iteNP rfl ?_⟩
      refine ⟨_, rfl, _, rfl, b, a, rfl, hb, ha, ?_⟩
      by_cases c2 : hit a b = true
      · rw [if_pos c2] at q
        rw [if_pos c2]
        refine ⟨_, rfl, rfl, _, rfl, ?_⟩
        refine iteNN (fun z => nomatch z) ⟨_, rfl, by show 2 ≤ sizeLine; decide, fun p hp => q _ _ rfl p _ (same_upd hp) hp upd_same⟩
      · rw [if_neg c2] at q0
        rw [if_neg c2]
        exact ⟨_, rfl, rfl, _, rfl, iteNP rfl (q0 rfl)⟩
end


section
variable {Pr : Program} {w : World} {K : PySem.W.Frag} {mg : Str → Option Value} {base : Heap} {f fM : Addr} {fd fdM : FuncData}
def spLaw0 (K : PySem.W.Frag) : Sp := fun vs H Q _ => ∃ (a : Addr) (ns : List Int), vs = [.ref a] ∧ SqL K H a (ns.map V.int) ∧ ∀ H', Q (.bl true) H'
theorem scText1 : FnScope ["_law_cell", "_law_size", "_law_some", "_law_j"] ["_law_cell", "_law_size"] (defScope sText) := ⟨rfl, rfl, rfl, by decide +kernel, rfl, by decide +kernel, by decide +kernel⟩
def spText1 : Sp := fun vs H Q _ => ∃ (c n : Int), vs = [.int c, .int n] ∧ 0 ≤ n ∧ n ≤ 100 ∧ ∀ (y : List Nat) (H' : Hp), Same H H' → Let y → (y.length : Int) = n → Q (tx y) H'
theorem ok_text1 (F : FnP K "_law_text" sText f fd) (M : Has K mg "_law_mixed" sMixed ["_law_cell", "_law_k"] fM fdM) (B : Bl mg) : FnOk Pr w K mg base CX0 2 f fd ["_law_cell", "_law_size"] spText1 := by
  have GM : FnOk Pr w K mg base CX0 1 fM fdM ["_law_cell", "_law_k"] spMixed := ok_mixed M.F
  refine F.okN scText1 (fun vs H Q E h => ?_) (fun cdv A outer s H vs Q E hr h => ?_)
  · obtain ⟨c, n, rfl, _⟩ := h
    rfl
  · obtain ⟨c, n, rfl, n0, n1, q⟩ := h
    refine ⟨_, pss_cons (ps_set (i := 2) scText1.nd rfl (.inr rfl) (pe_slice sl_str pe_str po_none (po_some (pe_ix ix_list (pe_lst (pa_cons pe_int (pa_cons pe_int (pa_cons pe_int (pa_cons pe_int pa_nil))))) (pe_op op_mod (pv 0) pe_int) (fun _ _ => rfl)))))
      (pss_one (ps_ret (pe_join pe_str (pe_lc (own := [("_law_j", 3)]) (g := gName 3) (tt := tYes) rfl scText1.nd (pi_range1 (by rfl) B.mR (pa_cons (pv 1) pa_nil)) (blkOk_by (own := [("_law_j", 3)]) (N := ["_law_cell", "_law_size", "_law_some", "_law_j"]) (sc := defScope sText) (by decide +kernel))
        (fun _ _ _ _ _ => pg_name (i := 3) scText1.nd rfl (Or.inl rfl)) (fun _ _ _ _ _ => pts_nil)
        (fun _ _ _ _ _ => pe_ix ix_str (pv 2) (pe_op op_mod (pe_op op_fdiv (pe_call GM hr (by rfl) M.g M.F.kp M.b .nil pass0 (pa_cons (pe_op op_fdiv (pv 0) pe_int) (pa_cons (pv 3) pa_nil))) pe_int) (pe_callB call_len_str (by rfl) B.mL boot_len (pa_cons (pv 2) pa_nil))) (fun _ _ => rfl)))))), ?_⟩
    refine ⟨by show 4 ≤ sizeLine; decide, fun p hp => ⟨_, rfl, _, _, rfl, rfl, (by show (0 : Int) < 4; decide), ?_⟩⟩
    obtain ⟨m, hm, em⟩ := at_map V.int [26, 1, 2, 3] (i := c % 4) (Int.emod_nonneg _ (by decide)) (Int.emod_lt_of_pos _ (by decide))
    have hm1 : 1 ≤ m ∧ m ≤ 26 := by
      simp only [List.mem_cons, List.not_mem_nil, or_false] at hm
      omega
    refine ⟨p, _, _, _, rfl, rfl, .inl (.inl upd_same), em, m, rfl, Str.ofString "abcdefghijklmnopqrstuvwxyz", rfl, by decide +kernel, ?_⟩
    rw [alphaS, cut_to (by omega)]
    obtain ⟨l, el⟩ : ∃ l, l = alpha.take m.toNat := ⟨_, rfl⟩
    rw [← el]
    have hl : Let l := by rw [el]; exact let_take alphaLet _
    have l1 : 1 ≤ l.length ∧ l.length ≤ 26 := by
      have : alpha.length = 26 := rfl
      rw [el, List.length_take]
      omega
    have lz : (S l).length = l.length := S_len l
    have s1 : Same H (upd H p (.lst ([26, 1, 2, 3].map V.int))) := same_upd hp
    refine ⟨⟨_, rfl⟩, _, rfl, n, rfl, by omega, by omega, fun D hD => ?_⟩
    refine lc_range (lo := 0) (n := n.toNat) (fun i H1 => Same H H1 ∧ ∃ ys : List (List Nat), H1 D = some (.lst (ys.map tx)) ∧ ys.length = i ∧ ∀ y ∈ ys, y.length = 1 ∧ Let y) ?_ ?_ ?_
    · exact ⟨s1.trans (same_upd hD), [], upd_same, rfl, fun y hy => nomatch hy⟩
    · rintro i H1 hi ⟨sm, ys, eD, ely, hy⟩
      refine ⟨rfl, ?_⟩
      refine ⟨_, rfl, _, rfl, _, _, rfl, rfl, ⟨by decide, by decide⟩, _, rfl, _, _, rfl, fun v v0 v1 => ?_⟩
      obtain ⟨d, hd, ed⟩ := at_in l (i := v / 64 % (l.length : Int)) (Int.emod_nonneg _ (by omega)) (Int.emod_lt_of_pos _ (by omega))
      refine ⟨_, _, rfl, rfl, ⟨by decide, by decide⟩, _, rfl, S l, rfl, small_S (by omega), _, _, rfl, rfl, (by show (0 : Int) < ((S l).length : Int); rw [lz]; omega), ?_⟩
      refine ⟨S l, _, d, rfl, rfl, small_S (by omega), by rw [lz]; exact ed, ?_⟩
      refine ⟨ys.map tx, eD, ?_, ?_⟩
      · rw [List.length_map, ely]
        exact small1000 (by omega)
      · refine ⟨fun b o e => ?_, ys ++ [[d]], ?_, by rw [List.length_append, ely]; rfl, fun y hy' => ?_⟩
        · rw [upd_ne (ne_of_none (s1 _ _ e) hD)]
          exact sm _ _ e
        · rw [upd_same, List.map_append]
          rfl
        · rcases List.mem_append.mp hy' with z | z
          · exact hy y z
          · rw [List.mem_singleton.mp z]
            exact ⟨rfl, Let.one (hl d hd)⟩
    · rintro H1 ⟨sm, ys, eD, ely, hy⟩
      have h1 : ∀ y ∈ ys, y.length = 1 := fun y h => (hy y h).1
      refine ⟨_, D, ys.map S, rfl, rfl, .inl (.inl (.inl (by rw [← map_tx]; exact eD))), ?_, ?_⟩
      · rw [sum_ones h1, List.length_map, empLen]
        omega
      · rw [join0]
        exact q _ _ sm (flat_let fun y h => (hy y h).2) (by rw [flat_len h1]; omega)
theorem scBent : FnScope ["_law_text_here", "_law_cell", "_law_at_here", "_law_sign", "_law_some"] ["_law_text_here", "_law_cell"] (defScope s__law_bent) := ⟨rfl, rfl, rfl, by decide +kernel, rfl, by decide +kernel, by decide +kernel⟩
def spBent : Sp := fun vs H Q _ => ∃ (t : List Nat) (c : Int), vs = [tx t, .int c] ∧ Let t ∧ t.length ≤ 100 ∧ ∀ (y : List Nat) (H' : Hp), Same H H' → Let y → y.length ≤ t.length + 1 → Q (tx y) H'
theorem ok_bent (F : FnP K "_law_bent" s__law_bent f fd) (B : Bl mg) : FnOk Pr w K mg base CX0 1 f fd ["_law_text_here", "_law_cell"] spBent := by
  refine F.okN scBent (fun vs H Q E h => ?_) (fun cdv A outer s H vs Q E hr h => ?_)
  · obtain ⟨t, c, rfl, _⟩ := h
    rfl
  · obtain ⟨t, c, rfl, hl, hn, q⟩ := h
    refine ⟨_, pss_cons (ps_set (i := 2) scBent.nd rfl (.inl rfl) (pe_op op_mod (pe_op op_fdiv (pv 1) pe_int) (pe_op op_add (pe_callB call_len_str (by rfl) B.mL boot_len (pa_cons (pv 0) pa_nil)) pe_int)))
      (pss_cons (ps_set (i := 3) scBent.nd rfl (.inl rfl) (pe_ix ix_str pe_str (pe_op op_mod (pe_op op_fdiv (pv 1) pe_int) pe_int) (fun _ _ => rfl)))
      (pss_cons (ps_set (i := 4) scBent.nd rfl (.inl rfl) (pe_lst (pa_cons (pe_slice sl_str (pv 0) po_none (po_some (pv 2))) (pa_cons (pe_slice sl_str (pv 0) po_none (po_some (pv 2))) (pa_cons (pv 0) (pa_cons (pe_op op_add_str (pv 0) (pv 3)) (pa_cons (pe_op op_add_str (pe_slice sl_str (pv 0) po_none (po_some (pv 2))) (pv 3))
          (pa_cons (pe_op op_add_str (pe_op op_add_str (pe_slice sl_str (pv 0) po_none (po_some (pv 2))) (pv 3)) (pe_slice sl_str (pv 0) (po_some (pe_op op_add (pv 2) pe_int)) po_none)) (pa_cons (pv 3) (pa_cons pe_str pa_nil))))))))))
      (pss_one (ps_ret (pe_ix (r := rIxL K) ix_list (pv 4) (pe_op op_mod (pv 1) pe_int) (fun _ _ => rfl)))))), ?_⟩
    have zt : (S t).length ≤ sizeLine := small_S (by omega)
    have lz : (S t).length = t.length := S_len t
    refine ⟨_, rfl, _, _, rfl, rfl, ⟨by decide, by decide⟩, _, rfl, S t, rfl, zt, _, _, rfl, rfl, _, _, rfl, rfl, (by show (0 : Int) < ((S t).length : Int) + 1; omega), ?_⟩
    obtain ⟨n, hn2⟩ : ∃ n : Nat, (n : Int) = c / 8 % (((S t).length : Int) + 1) := ⟨(c / 8 % (((S t).length : Int) + 1)).toNat, by have := Int.emod_nonneg (c / 8) (show ((S t).length : Int) + 1 ≠ 0 by omega); omega⟩
    have hn3 : n ≤ t.length := by
      have := Int.emod_lt_of_pos (c / 8) (show 0 < ((S t).length : Int) + 1 by omega)
      omega
    have hval : V.int (c / 8 % (((S t).length : Int) + 1)) = V.int (n : Int) := congrArg V.int hn2.symm
    obtain ⟨d, hd, ed⟩ := at_in alpha (i := c / 256 % 26) (Int.emod_nonneg _ (by decide)) (Int.emod_lt_of_pos _ (by decide))
    refine ⟨_, rfl, _, _, rfl, rfl, ⟨by decide, by decide⟩, _, _, rfl, rfl, (by show (0 : Int) < 26; decide), _, _, d, rfl, rfl, by decide +kernel, by rw [alphaS]; exact ed, ?_⟩
    have dl : Let [d] := Let.one (alphaLet d hd)
    have c1 : cutS (S t) none (some (c / 8 % (((S t).length : Int) + 1))) = S (t.take n) := by
      rw [← hn2, cut_to (by omega), Int.toNat_natCast]
    have c2 : cutS (S t) (some ((c / 8 % (((S t).length : Int) + 1)) + 1)) none = S (t.drop (n + 1)) := by
      have e : (c / 8 % (((S t).length : Int) + 1)) + 1 = ((n + 1 : Nat) : Int) := by rw [← hn2]; rfl
      rw [e, cut_from (by omega), Int.toNat_natCast]
    have d1 : (S (t.take n)).length ≤ 100 := by rw [S_len, List.length_take]; omega
    have d2 : (S (t.drop (n + 1))).length ≤ 100 := by rw [S_len, List.length_drop]; omega
    have ld : (S [d]).length = 1 := rfl
    have z1 : (cutS (S t) none (some (c / 8 % (((S t).length : Int) + 1)))).length + (S [d]).length ≤ sizeLine := by rw [c1, ld]; exact size1000 (by omega)
    have z2 : (S t).length + (S [d]).length ≤ sizeLine := by rw [lz, ld]; exact size1000 (by omega)
    have z3 : (cutS (S t) none (some (c / 8 % (((S t).length : Int) + 1))) ++ S [d]).length + (cutS (S t) (some ((c / 8 % (((S t).length : Int) + 1)) + 1)) none).length ≤ sizeLine := by
      rw [c1, c2, S_cat, S_len, S_len, List.length_append, List.length_take, List.length_drop]
      exact size1000 (by show min n t.length + 1 + _ ≤ _; omega)
    refine ⟨_, rfl, _, rfl, _, rfl, S t, rfl, zt, _, rfl, _, rfl, _, rfl, S t, rfl, zt, _, rfl, _, rfl, _, rfl, S t, S [d], rfl, rfl, z2, _, rfl, _, rfl, _, rfl, S t, rfl, zt, _, rfl, _, S [d], rfl, rfl, z1, ?_⟩
    refine ⟨_, rfl, _, rfl, _, rfl, S t, rfl, zt, _, rfl, _, S [d], rfl, rfl, z1, _, rfl, _, rfl, _, _, rfl, rfl, _, rfl, S t, rfl, zt, _, _, rfl, rfl, z3, _, rfl, by show 8 ≤ sizeLine; decide, fun p hp => ?_⟩
    obtain ⟨ls, hls⟩ : ∃ ls : List (List Nat), ls = [t.take n, t.take n, t, t ++ [d], t.take n ++ [d], (t.take n ++ [d]) ++ t.drop (n + 1), [d], []] := ⟨_, rfl⟩
    have hV : [V.str (cutS (S t) none (some (c / 8 % (((S t).length : Int) + 1)))), V.str (cutS (S t) none (some (c / 8 % (((S t).length : Int) + 1)))), V.str (S t), V.str (S t ++ S [d]), V.str (cutS (S t) none (some (c / 8 % (((S t).length : Int) + 1))) ++ S [d]), V.str (cutS (S t) none (some (c / 8 % (((S t).length : Int) + 1))) ++ S [d] ++ cutS (S t) (some ((c / 8 % (((S t).length : Int) + 1)) + 1)) none), V.str (S [d]), V.str (Str.ofString "")] = ls.map tx := by
      rw [c1, c2, hls, S_cat, S_cat, S_cat, show Str.ofString "" = S [] by decide +kernel]
      rfl
    have s1 := same_upd (o := .lst (ls.map tx)) hp
    refine ⟨_, rfl, _, rfl, _, _, rfl, rfl, (by show (0 : Int) < 8; decide), ?_⟩
    have hll : ls.length = 8 := by rw [hls]; rfl
    obtain ⟨y, hy, ey⟩ := at_map tx ls (i := c % 8) (Int.emod_nonneg _ (by decide)) (by rw [hll]; exact Int.emod_lt_of_pos _ (by decide))
    have hy2 : Let y ∧ y.length ≤ t.length + 1 := by
      rw [hls] at hy
      simp only [List.mem_cons, List.not_mem_nil, or_false] at hy
      have lt := let_take hl n
      have lw := let_drop hl (n + 1)
      have l1 : ([d] : List Nat).length = 1 := rfl
      rcases hy with rfl | rfl | rfl | rfl | rfl | rfl | rfl | rfl
      · exact ⟨lt, by rw [List.length_take]; omega⟩
      · exact ⟨lt, by rw [List.length_take]; omega⟩
      · exact ⟨hl, by omega⟩
      · exact ⟨hl.app dl, by rw [List.length_append]; omega⟩
      · exact ⟨lt.app dl, by rw [List.length_append, List.length_take]; omega⟩
      · exact ⟨(lt.app dl).app lw, by rw [List.length_append, List.length_append, List.length_take, List.length_drop]; omega⟩
      · exact ⟨dl, by omega⟩
      · exact ⟨fun x hx => (nomatch hx), Nat.zero_le _⟩
    have e2 : (upd H p (.lst (ls.map tx))) p = some (.lst (ls.map tx)) := upd_same
    rw [← hV] at e2 s1 ey
    exact ⟨p, _, _, tx y, rfl, rfl, .inl (.inl e2), ey, q y _ s1 hy2.1 hy2.2⟩
end
section
variable {Pr : Program} {w : World} {K : PySem.W.Frag} {mg : Str → Option Value} {base : Heap} {f : Addr} {fd : FuncData}
theorem scLaw : FnScope ["_law_script", "_law_text_here", "_law_other", "_law_one", "_law_two", "_law_found", "_law_due", "_law_many", "_law_rest", "_law_words", "_law_word"] ["_law_script"] (defScope sLaw) := ⟨rfl, rfl, rfl, by decide +kernel, rfl, by decide +kernel, by decide +kernel⟩
theorem shaped_step (x : List Nat) (hx : Let x) (b : Bool) : SeqAt.shaped (.tuple [.str (S x), .bool b]) = true := by
  have h : PyData.strOk (S x) = true := by
    have q := let_ok hx
    rw [PyData.canLay0] at q
    exact q
  simp [SeqAt.shaped, PyData.canLay0, PyData.canLayAll0, PyData.depth, PyData.depthAll, h]
theorem stp_let {r v x : List Nat} {b : Bool} (hr : Let r) (hv : Let v) (h : stp r v = some (x, b)) : Let x := by
  unfold stp at h
  by_cases c : hit v r = true
  · rw [if_pos c] at h
    cases h
    exact let_drop hr _
  · rw [if_neg c] at h
    by_cases c2 : hit r v = true
    · rw [if_pos c2] at h
      cases h
      exact let_drop hv _
    · rw [if_neg c2] at h
      cases h
theorem ok_law (F : FnP K "law" sLaw f fd) (D : Defs K mg) (B : Bl mg) : FnOk Pr w K mg base CX0 3 f fd ["_law_script"] (spLaw0 K) := by
  obtain ⟨f1, d1, A⟩ := D.d__law_at
  obtain ⟨f2, d2, MX⟩ := D.d__law_mixed
  obtain ⟨f3, d3, WH⟩ := D.d__law_whole
  obtain ⟨f4, d4, TX⟩ := D.d__law_text
  obtain ⟨f5, d5, BE⟩ := D.d__law_bent
  obtain ⟨f6, d6, LL⟩ := D.d__law_left
  obtain ⟨f7, d7, LS⟩ := D.d__law_step
  obtain ⟨f8, d8, SH⟩ := D.d__law_shared
  obtain ⟨f9, d9, PL⟩ := D.d_left_of
  obtain ⟨f10, d10, PH⟩ := D.d_shared
  obtain ⟨f11, d11, PS⟩ := D.d_stepped
  have GA : FnOk Pr w K mg base CX0 2 f1 d1 ["_law_script", "_law_k"] (spAt K) := (ok_at A.F B.mL).mono (by decide)
  have GW : FnOk Pr w K mg base CX0 2 f3 d3 ["_law_found"] spWhole := (ok_whole WH.F B).mono (by decide)
  have GT : FnOk Pr w K mg base CX0 2 f4 d4 ["_law_cell", "_law_size"] spText1 := ok_text1 TX.F MX B
  have GB : FnOk Pr w K mg base CX0 2 f5 d5 ["_law_text_here", "_law_cell"] spBent := (ok_bent BE.F B).mono (by decide)
  have GLL : FnOk Pr w K mg base CX0 2 f6 d6 _ spLeft := (ok_lawLeft LL.F B).mono (by decide)
  have GLS : FnOk Pr w K mg base CX0 2 f7 d7 _ spStep := (ok_lawStep LS.F B).mono (by decide)
  have GSH : FnOk Pr w K mg base CX0 2 f8 d8 _ spShared := (ok_lawShared SH.F B).mono (by decide)
  have GPL : FnOk Pr w K mg base CX0 2 f9 d9 _ spLeft := (ok_left PL.F B).mono (by decide)
  have GPH : FnOk Pr w K mg base CX0 2 f10 d10 _ spShared := (ok_shared PH.F B).mono (by decide)
  have GPS : FnOk Pr w K mg base CX0 2 f11 d11 _ spStep := ok_stepped PS.F PL B
  refine F.okN scLaw (fun vs H Q E h => ?_) (fun cdv A' outer s H vs Q E hr h => ?_)
  · obtain ⟨a, ns, rfl, _⟩ := h
    rfl
  · obtain ⟨a, ns, rfl, hS, q⟩ := h
    refine ⟨_, pss_cons (ps_set (i := 1) scLaw.nd rfl (.inl rfl) (pe_call GT hr (by rfl) TX.g TX.F.kp TX.b .nil pass0 (pa_cons (pe_call GA hr (by rfl) A.g A.F.kp A.b .nil pass0 (pa_cons (pv 0) (pa_cons pe_int pa_nil))) (pa_cons (pe_op op_mod (pe_call GA hr (by rfl) A.g A.F.kp A.b .nil pass0 (pa_cons (pv 0) (pa_cons pe_int pa_nil))) pe_int) pa_nil))))
      (pss_cons (ps_set (i := 2) scLaw.nd rfl (.inl rfl) (pe_call GB hr (by rfl) BE.g BE.F.kp BE.b .nil pass0 (pa_cons (pv 1) (pa_cons (pe_call GA hr (by rfl) A.g A.F.kp A.b .nil pass0 (pa_cons (pv 0) (pa_cons pe_int pa_nil))) pa_nil))))
      (pss_cons (ps_for PassesOwn.never rfl (pi_list (pe_lst (pa_cons (pe_tup (pa_cons (pv 1) (pa_cons (pv 2) pa_nil))) (pa_cons (pe_tup (pa_cons (pv 2) (pa_cons (pv 1) pa_nil))) pa_nil)))) (pg_tup rfl (pgs_cons (pg_name (i := 3) scLaw.nd rfl (Or.inl rfl)) (pgs_cons (pg_name (i := 4) scLaw.nd rfl (Or.inl rfl)) pgs_nil)))
        (pss_cons (ps_set (i := 5) scLaw.nd rfl (.inl rfl) (pe_call GPL hr (by rfl) PL.g PL.F.kp PL.b .nil pass0 (pa_cons (pv 3) (pa_cons (pv 4) pa_nil))))
        (pss_cons (ps_set (i := 6) scLaw.nd rfl (.inl rfl) (pe_call GLL hr (by rfl) LL.g LL.F.kp LL.b .nil pass0 (pa_cons (pv 3) (pa_cons (pv 4) pa_nil))))
        (pss_cons (ps_if (PW.pt (pw_or (pt_cmpR op_ne (pv 5) (pv 6) (nomark _)) (pw_or1 (PW.pt (pw_and (pt_cmpR op_notN (pv 6) pe_non (nomark _)) (pw_and1 (pt_not (pt_val (pe_callB call_isi (by rfl) B.mIsi boot_isinstance (pa_cons (pv 5) (pa_cons (pe_bltn (v := .ty "str") (by rfl) B.mStr boot_str rfl) pa_nil))))))))))) (pss_one (ps_ret pe_bl)) pss_nil)
        (pss_cons (ps_set (i := 7) scLaw.nd rfl (.inl rfl) (pe_call GPH hr (by rfl) PH.g PH.F.kp PH.b .nil pass0 (pa_cons (pv 3) (pa_cons (pv 4) pa_nil))))
        (pss_one (ps_if (PW.pt (pw_or (pt_not (pt_val (pe_call GW hr (by rfl) WH.g WH.F.kp WH.b .nil pass0 (pa_cons (pv 7) pa_nil)))) (pw_or1 (pt_cmpR op_ne (pv 7) (pe_call GSH hr (by rfl) SH.g SH.F.kp SH.b .nil pass0 (pa_cons (pv 3) (pa_cons (pv 4) pa_nil))) (nomark _))))) (pss_one (ps_ret pe_bl)) pss_nil)))))))
      (pss_cons (ps_set (i := 8) scLaw.nd rfl (.inl rfl) (pe_slice sl_str (pv 1) po_none (po_some (pe_op op_mod (pe_call GA hr (by rfl) A.g A.F.kp A.b .nil pass0 (pa_cons (pv 0) (pa_cons pe_int pa_nil))) pe_int))))
      (pss_cons (ps_set (i := 9) scLaw.nd rfl (.inl rfl) (pe_lst (pa_cons (pe_slice sl_str (pe_call GB hr (by rfl) BE.g BE.F.kp BE.b .nil pass0 (pa_cons (pv 8) (pa_cons (pe_call GA hr (by rfl) A.g A.F.kp A.b .nil pass0 (pa_cons (pv 0) (pa_cons pe_int pa_nil))) pa_nil))) po_none (po_some pe_int))
          (pa_cons (pe_call GT hr (by rfl) TX.g TX.F.kp TX.b .nil pass0 (pa_cons (pe_call GA hr (by rfl) A.g A.F.kp A.b .nil pass0 (pa_cons (pv 0) (pa_cons pe_int pa_nil))) (pa_cons (pe_op op_add pe_int (pe_op op_mod (pe_call GA hr (by rfl) A.g A.F.kp A.b .nil pass0 (pa_cons (pv 0) (pa_cons pe_int pa_nil))) pe_int)) pa_nil))) pa_nil))))
      (pss_cons (ps_for PassesOwn.never rfl (pi_list (pe_op op_cat (pv 9) (pe_lst (pa_cons (pe_slice sl_str (pe_op op_add_str (pv 8) (pe_ix (r := rIxL K) ix_list (pv 9) pe_int (fun _ _ => rfl))) po_none (po_some pe_int)) pa_nil)))) (pg_name (i := 10) scLaw.nd rfl (Or.inl rfl))
        (pss_one (ps_if (pt_cmpR op_ne (pv 10) pe_str (nomark _))
          (pss_cons (ps_set (i := 5) scLaw.nd rfl (.inl rfl) (pe_call GPS hr (by rfl) PS.g PS.F.kp PS.b .nil pass0 (pa_cons (pv 8) (pa_cons (pv 10) pa_nil))))
          (pss_cons (ps_set (i := 6) scLaw.nd rfl (.inl rfl) (pe_call GLS hr (by rfl) LS.g LS.F.kp LS.b .nil pass0 (pa_cons (pv 8) (pa_cons (pv 10) pa_nil))))
          (pss_cons (ps_if (PW.pt (pw_and (pt_cmpR op_isN (pv 6) pe_non (nomark _)) (pw_and1 (pt_cmpR op_notN (pv 5) pe_non (nomark _))))) (pss_one (ps_ret pe_bl)) pss_nil)
          (pss_cons (ps_if (PW.pt (pw_and (pt_cmpR op_notN (pv 6) pe_non (nomark _)) (pw_and1 (PW.pt (pw_or (pt_not (pt_val (pe_callB call_isi (by rfl) B.mIsi boot_isinstance (pa_cons (pv 5) (pa_cons (pe_bltn (v := .ty "tuple") (by rfl) B.mTuple boot_tuple rfl) pa_nil))))) (pw_or1 (pt_cmpR (op_neD hr.units) (pv 5) (pv 6) (nomark _)))))))) (pss_one (ps_ret pe_bl)) pss_nil)
          (pss_one (ps_if (PW.pt (pw_and (pt_cmpR op_notN (pv 6) pe_non (nomark _)) (pw_and1 (pt_not (pt_val (pe_callB call_isi (by rfl) B.mIsi boot_isinstance (pa_cons (pe_ix (r := rIxT K) ix_tup (pv 5) pe_int (fun _ _ => rfl)) (pa_cons (pe_bltn (v := .ty "bool") (by rfl) B.mBool boot_bool rfl) pa_nil))))))))
            (pss_one (ps_ret pe_bl)) pss_nil)))))) pss_nil)))
      (pss_one (ps_ret pe_bl))))))), ?_⟩
    have e31 : ∀ z : Int, 0 ≤ z % 31 ∧ z % 31 ≤ 30 := fun z => ⟨Int.emod_nonneg _ (by decide), by have := Int.emod_lt_of_pos z (show (0 : Int) < 31 by decide); omega⟩
    refine ⟨_, rfl, a, ns, 0, rfl, hS, by decide, fun c0 => ⟨_, rfl, a, ns, 1, rfl, hS, by decide, fun c1 => ⟨_, _, rfl, rfl, (by show (0 : Int) < 31; decide), _, _, rfl, (e31 c1).1, (by have := (e31 c1).2; show c1 % 31 ≤ 100; omega), fun t H1 s1 tl tn => ?_⟩⟩⟩
    have tn2 : t.length ≤ 30 := by have := (e31 c1).2; have tn' : (t.length : Int) = c1 % 31 := tn; omega
    refine ⟨_, rfl, _, rfl, a, ns, 2, rfl, s1.seq hS, by decide, fun c2 => ⟨t, _, rfl, tl, by omega, fun o H2 s2 ol on => ?_⟩⟩
    have two : 2 ≤ sizeLine := by decide
    refine ⟨_, rfl, _, rfl, two, fun p1 hp1 => ⟨_, rfl, _, rfl, two, fun p2 hp2 => ⟨two, fun p3 hp3 => ?_⟩⟩⟩
    have n1 := same_upd (o := .tup [tx t, tx o]) hp1
    have n2 := same_upd (o := .tup [tx o, tx t]) hp2
    have n3 := same_upd (o := .lst [.ref p1, .ref p2]) hp3
    have e1 := n3 _ _ (n2 _ _ (upd_same (H := H2) (a := p1) (o := .tup [tx t, tx o])))
    have e2 := n3 _ _ (upd_same (H := upd H2 p1 (.tup [tx t, tx o])) (a := p2) (o := .tup [tx o, tx t]))
    have e3 : (upd (upd (upd H2 p1 (.tup [tx t, tx o])) p2 (.tup [tx o, tx t])) p3 (.lst [.ref p1, .ref p2])) p3 = some (.lst [.ref p1, .ref p2]) := upd_same
    have m3 := ((s1.trans s2).trans (n1.trans n2)).trans n3
    generalize (upd (upd (upd H2 p1 (.tup [tx t, tx o])) p2 (.tup [tx o, tx t])) p3 (.lst [.ref p1, .ref p2])) = Hb at e1 e2 e3 m3 ⊢
    have hSb := m3.seq hS
    refine ⟨p3, rfl, ⟨_, seqL e3⟩, for_list (K := K) (a := p3) (xs := [.ref p1, .ref p2]) (fun i σ Hx => Same Hb Hx ∧ ∃ k3 k4 k5 k6 k7 : Option V, σ = [some (.ref a), some (tx t), some (tx o), k3, k4, k5, k6, k7, none, none, none]) ⟨Same.refl _, none, none, none, none, none, rfl⟩ (fun i σ Hx _ hh => hh.1.seq (seqL e3)) ?_ ?_⟩
    · rintro i x σ Hx hx ⟨sm, k3, k4, k5, k6, k7, rfl⟩
      obtain ⟨u, v, p, rfl, ep, hu, hv⟩ : ∃ (u v : List Nat) (p : Addr), x = .ref p ∧ Hb p = some (.tup [tx u, tx v]) ∧ u.length ≤ 100 ∧ v.length ≤ 100 := by
        match i, hx with
        | 0, hx => cases hx; exact ⟨t, o, p1, rfl, e1, by omega, by omega⟩
        | 1, hx => cases hx; exact ⟨o, t, p2, rfl, e2, by omega, by omega⟩
      refine ⟨p, _, rfl, .inl (.inl (sm _ _ ep)), rfl, _, _, rfl, _, _, rfl, rfl, ?_⟩
      refine ⟨_, rfl, _, rfl, u, v, rfl, by omega, by omega, ?_⟩
      refine ⟨_, rfl, _, rfl, u, v, rfl, by omega, by omega, ?_⟩
      by_cases h : hit v u = true
      · rw [if_pos h]
        refine ⟨_, rfl, _, rfl, rfl, _, rfl, iteNP rfl ⟨_, rfl, rfl, _, rfl, iteNN (fun e => nomatch e) ⟨_, rfl, tx (u.drop v.length), .ty "str", .type "str", .type "str", true, rfl, .ty _, .base (.str _), kit_ty (by decide +kernel), _, rfl, iteF ?_⟩⟩⟩
        refine ⟨_, rfl, _, rfl, u, v, rfl, by omega, by omega, fun H3 s3 => ?_⟩
        refine ⟨_, rfl, ((shd u v : Nat) : Int), rfl, _, rfl, iteF ?_⟩
        refine ⟨_, rfl, _, rfl, _, rfl, u, v, rfl, by omega, by omega, fun H4 s4 => ⟨rfl, _, rfl, iteNP rfl ?_⟩⟩
        exact ⟨(sm.trans s3).trans s4, _, _, _, _, _, rfl⟩
      · rw [if_neg h]
        refine ⟨_, rfl, _, rfl, rfl, _, rfl, iteNP rfl ⟨_, rfl, rfl, _, rfl, iteNP rfl (iteF ?_)⟩⟩
        refine ⟨_, rfl, _, rfl, u, v, rfl, by omega, by omega, fun H3 s3 => ?_⟩
        refine ⟨_, rfl, ((shd u v : Nat) : Int), rfl, _, rfl, iteF ?_⟩
        refine ⟨_, rfl, _, rfl, _, rfl, u, v, rfl, by omega, by omega, fun H4 s4 => ⟨rfl, _, rfl, iteNP rfl ?_⟩⟩
        exact ⟨(sm.trans s3).trans s4, _, _, _, _, _, rfl⟩
    · rintro σ Hx ⟨sm, k3, k4, k5, k6, k7, rfl⟩
      have hSx := sm.seq hSb
      have zt : (S t).length ≤ sizeLine := small_S (by omega)
      refine ⟨_, rfl, _, rfl, a, ns, 3, rfl, hSx, by decide, fun c3 => ⟨_, _, rfl, rfl, (by show (0 : Int) < 11; decide), _, rfl, S t, rfl, zt, ?_⟩⟩
      rw [cut_to (Int.emod_nonneg _ (by decide))]
      obtain ⟨r, er⟩ : ∃ r, r = t.take (c3 % 11).toNat := ⟨_, rfl⟩
      rw [← er]
      have rl : Let r := by rw [er]; exact let_take tl _
      have rn : r.length ≤ 10 := by
        have := Int.emod_lt_of_pos c3 (show (0 : Int) < 11 by decide)
        rw [er, List.length_take]
        omega
      refine ⟨_, rfl, _, rfl, a, ns, 4, rfl, hSx, by decide, fun c4 => ⟨r, _, rfl, rl, by omega, fun y1 H5 s5 l5 n5 => ⟨_, rfl, S y1, rfl, small_S (by omega), ?_⟩⟩⟩
      rw [cut_to (by decide)]
      obtain ⟨w1, ew1⟩ : ∃ w1, w1 = y1.take (10 : Int).toNat := ⟨_, rfl⟩
      rw [← ew1]
      have w1l : Let w1 := by rw [ew1]; exact let_take l5 _
      have w1n : w1.length ≤ 20 := by rw [ew1, List.length_take]; omega
      have e10 : ∀ z : Int, 0 ≤ z % 10 ∧ z % 10 ≤ 9 := fun z => ⟨Int.emod_nonneg _ (by decide), by have := Int.emod_lt_of_pos z (show (0 : Int) < 10 by decide); omega⟩
      refine ⟨_, rfl, a, ns, 5, rfl, s5.seq hSx, by decide, fun c5 => ⟨_, rfl, a, ns, 6, rfl, s5.seq hSx, by decide, fun c6 => ⟨_, _, rfl, rfl, (by show (0 : Int) < 10; decide), _, _, rfl, rfl, _, _, rfl, (by have := (e10 c6).1; show 0 ≤ 1 + c6 % 10; omega), (by have := (e10 c6).2; show 1 + c6 % 10 ≤ 100; omega), fun y2 H6 s6 l6 n6 => ⟨two, fun p4 hp4 => ?_⟩⟩⟩⟩
      have y2n : y2.length ≤ 20 := by have := (e10 c6).2; have n6' : (y2.length : Int) = 1 + c6 % 10 := n6; omega
      have n4 := same_upd (o := .lst [tx w1, tx y2]) hp4
      have e4 : (upd H6 p4 (.lst [tx w1, tx y2])) p4 = some (.lst [tx w1, tx y2]) := upd_same
      have m4 := ((s5.trans s6).trans n4)
      generalize (upd H6 p4 (.lst [tx w1, tx y2])) = H7 at e4 m4 ⊢
      have zr : (S r ++ S y2).length ≤ 40 := by rw [S_cat, S_len, List.length_append]; omega
      have lr : (S r).length = r.length := S_len r
      have ly : (S y2).length = y2.length := S_len y2
      refine ⟨_, rfl, _, rfl, _, rfl, p4, _, 1, _, rfl, rfl, seqL e4, rfl, S r, S y2, rfl, rfl, size1000 (by omega), _, rfl, S r ++ S y2, rfl, size1000 (by omega), ?_⟩
      rw [S_cat, cut_to (by decide)]
      obtain ⟨w3, ew3⟩ : ∃ w3, w3 = (r ++ y2).take (10 : Int).toNat := ⟨_, rfl⟩
      rw [← ew3]
      have w3l : Let w3 := by rw [ew3]; exact let_take (rl.app l6) _
      have w3n : w3.length ≤ 40 := by rw [ew3, List.length_take, List.length_append]; omega
      refine ⟨by show 1 ≤ sizeLine; decide, fun p5 hp5 => ?_⟩
      have n5' := same_upd (o := .lst [tx w3]) hp5
      refine ⟨p4, p5, _, _, rfl, rfl, n5' _ _ e4, upd_same, by show 3 ≤ sizeLine; decide, fun p6 hp6 => ?_⟩
      have n6' := same_upd (o := .lst ([tx w1, tx y2] ++ [tx w3])) hp6
      have e6 : (upd (upd H7 p5 (.lst [tx w3])) p6 (.lst ([tx w1, tx y2] ++ [tx w3]))) p6 = some (.lst ([w1, y2, w3].map tx)) := upd_same
      generalize (upd (upd H7 p5 (.lst [tx w3])) p6 (.lst ([tx w1, tx y2] ++ [tx w3]))) = H8 at e6 ⊢
      refine ⟨p6, rfl, ⟨_, seqL e6⟩, for_list (K := K) (a := p6) (xs := [w1, y2, w3].map tx) (fun i σ Hx => Same H8 Hx ∧ ∃ k3 k4 k5 k6 k7 k10 : Option V, σ = [some (.ref a), some (tx t), some (tx o), k3, k4, k5, k6, k7, some (tx r), some (.ref p4), k10]) ⟨Same.refl _, _, _, _, _, _, _, rfl⟩ (fun i σ Hx _ hh => hh.1.seq (seqL e6)) ?_ ?_⟩
      · rintro i x σ Hx hx ⟨sm, k3, k4, k5, k6, k7, k10, rfl⟩
        rw [List.getElem?_map] at hx
        obtain ⟨v, hv, rfl⟩ := Option.map_eq_some_iff.mp hx
        have hv2 : Let v ∧ v.length ≤ 40 := by
          have hm := List.mem_of_getElem? hv
          simp only [List.mem_cons, List.not_mem_nil, or_false] at hm
          rcases hm with rfl | rfl | rfl
          · exact ⟨w1l, by omega⟩
          · exact ⟨l6, by omega⟩
          · exact ⟨w3l, w3n⟩
        refine ⟨_, rfl, rfl, _, rfl, ite2 (fun _ => ?_) (fun _ => ⟨sm, _, _, _, _, _, _, rfl⟩)⟩
        refine ⟨_, rfl, _, rfl, r, v, rfl, by omega, by omega, fun e => ?_, fun y b e p7 H9 s9 n9 e9 => ?_⟩
        · refine ⟨_, rfl, _, rfl, r, v, rfl, by omega, by omega, fun _ => ?_, fun y b e' => by rw [e] at e'; cases e'⟩
          refine ⟨_, rfl, rfl, _, rfl, iteP rfl ⟨_, rfl, rfl, _, rfl, iteNP rfl ?_⟩⟩
          refine ⟨_, rfl, rfl, _, rfl, iteNP rfl (iteF ?_)⟩
          refine ⟨_, rfl, rfl, _, rfl, iteNP rfl (iteF ?_)⟩
          exact ⟨sm, _, _, _, _, _, _, rfl⟩
        · refine ⟨_, rfl, _, rfl, r, v, rfl, by omega, by omega, (fun e' => by rw [e] at e'; cases e'), fun y' b' e' p8 H10 s10 n10 e10 => ?_⟩
          rw [e] at e'
          cases e'
          have e9' := s10 _ _ e9
          have yl := stp_let rl hv2.1 e
          refine ⟨_, rfl, rfl, _, rfl, iteN (fun z => nomatch z) (iteF ?_)⟩
          refine ⟨_, rfl, rfl, _, rfl, iteNN (fun z => nomatch z) ⟨_, rfl, .ref p7, .ty "tuple", .type "tuple", .type "tuple", true, rfl, .ty _, .base (.tup e9'), kit_ty (by decide +kernel), _, rfl, iteF ?_⟩⟩
          refine ⟨_, rfl, _, rfl, .tuple [.str (S y), .bool b], .tuple [.str (S y), .bool b], .tup (.inl (.inl e9')) (.cons (.str _) (.cons (.bl _) .nil)), .tup (.inl (.inl e10)) (.cons (.str _) (.cons (.bl _) .nil)), shaped_step y yl b, shaped_step y yl b, _, rfl, ?_⟩
          rw [PySem.SeqAt.eqv_refl _ (PySem.SeqAt.canLay_of_shaped (shaped_step y yl b))]
          refine iteF ?_
          refine ⟨_, rfl, rfl, _, rfl, iteNN (fun z => nomatch z) ⟨_, rfl, p7, _, 1, _, rfl, rfl, .inl (.inl e9'), rfl, .bl b, .ty "bool", .type "bool", .type "bool", true, rfl, .ty _, .base (.bl b), kit_ty (by decide +kernel), _, rfl, iteF ?_⟩⟩
          exact ⟨(sm.trans s9).trans s10, _, _, _, _, _, _, rfl⟩
      · rintro σ Hx ⟨sm, k3, k4, k5, k6, k7, k10, rfl⟩
        exact q Hx
end
def dd (x : Str) (i : Nat) : He.DefD := ⟨(x, none), x, x, defArgs (top i), defBody (top i), defScope (top i), [], []⟩
def fn : List He.DefD := [dd "left_of" 1, dd "shared" 2, dd "stepped" 4, dd "_law_at" 6, dd "_law_mixed" 7, dd "_law_whole" 8, dd "_law_text" 9, dd "_law_bent" 10, dd "_law_left" 11, dd "_law_step" 12, dd "_law_shared" 13, dd "law" 14]
def fa : List He.Fa := ([.glo "law", .glo "left_of", .glo "shared", .glo "stepped", .glo "_law_at", .glo "_law_mixed", .glo "_law_whole", .glo "_law_text", .glo "_law_bent", .glo "_law_left", .glo "_law_step", .glo "_law_shared", .free "type", .free "str", .free "len", .free "all", .free "list", .free "sorted", .free "range", .free "reversed", .free "sum", .free "isinstance", .free "int", .free "bool", .free "any", .free "max", .free "dict", .free "tuple", .free "min", .free "ValueError"] : List He.Fa) ++ ([.free "enumerate", .free "zip"] : List He.Fa)
def loose : List Str := (["left_of", "shared", "stepped", "_law_at", "_law_mixed", "_law_whole", "_law_text", "_law_bent", "_law_left", "_law_step", "_law_shared"] : List Str)
abbrev R : PySem.W.OpenRow := PySem.W.OpenLaw.row PySem.Challenge.rw_onereading_k01_rests_and_steps
def ex : PySem.W.Frag → Bool := fun _ => true
abbrev tf : List He.Defn := []
abbrev hk : PySem.W.Hook := He.hookX 4 fa fn [] tf ex
def ob (s : PySem.W.SharedT) : He.AlX := He.obsX 4 fa fn [] tf ex (HandSHeadRun.getT s)
theorem ob_eq (s : PySem.W.SharedT) : ob s = hk.obs s.abs := He.obsX_eq (HandSHeadRun.getT_eq s)
set_option maxHeartbeats 0 in
theorem run (w : World) : HandSHeadRun.RunEq R (PySem.W.view R.prog [14]) hk ob 20000 loose w := by
  intro os
  kernel_rfl
section
variable {w : World} {h : Heap} {K : PySem.W.Frag} {mg : Str → Option Value} {f : Addr}
theorem there (X : K.In h) (G : h.Ns mainGlobals mg) (c : He.SaysX fa fn [] tf ex w h K) (x : Str) (i j k : Nat) {ps : List Str} (hd : fn[j]? = some (dd x i)) (hg : fa[k]? = some (He.Fa.glo x))
    (hb : ∀ (kV doc pm : Value) (an : Option Addr) (cdv ct : Value) (us : List Value), us.length = ps.length → bindArgs (PySem.W.fnOf x x (defArgs (top i)) (defBody (top i)) (defScope (top i)) .none kV doc pm an cdv ct) ⟨us, []⟩ = pure (ps.zip us)) : There K mg x (top i) ps := by
  obtain ⟨fd, F⟩ := c.t.d.def_ j hd
  exact ⟨_, fd, F, He.glo_ok X G (c.t.d.fact k hg), FunD.bindsN F hb⟩
theorem defs (X : K.In h) (G : h.Ns mainGlobals mg) (c : He.SaysX fa fn [] tf ex w h K) : Defs K mg := {
  d_left_of := there X G c "left_of" 1 0 1 rfl rfl fun _ _ _ _ _ _ us hl => match us, hl with | [_, _], _ => rfl
  d_shared := there X G c "shared" 2 1 2 rfl rfl fun _ _ _ _ _ _ us hl => match us, hl with | [_, _], _ => rfl
  d_stepped := there X G c "stepped" 4 2 3 rfl rfl fun _ _ _ _ _ _ us hl => match us, hl with | [_, _], _ => rfl
  d__law_at := there X G c "_law_at" 6 3 4 rfl rfl fun _ _ _ _ _ _ us hl => match us, hl with | [_, _], _ => rfl
  d__law_mixed := there X G c "_law_mixed" 7 4 5 rfl rfl fun _ _ _ _ _ _ us hl => match us, hl with | [_, _], _ => rfl
  d__law_whole := there X G c "_law_whole" 8 5 6 rfl rfl fun _ _ _ _ _ _ us hl => match us, hl with | [_], _ => rfl
  d__law_text := there X G c "_law_text" 9 6 7 rfl rfl fun _ _ _ _ _ _ us hl => match us, hl with | [_, _], _ => rfl
  d__law_bent := there X G c "_law_bent" 10 7 8 rfl rfl fun _ _ _ _ _ _ us hl => match us, hl with | [_, _], _ => rfl
  d__law_left := there X G c "_law_left" 11 8 9 rfl rfl fun _ _ _ _ _ _ us hl => match us, hl with | [_, _], _ => rfl
  d__law_step := there X G c "_law_step" 12 9 10 rfl rfl fun _ _ _ _ _ _ us hl => match us, hl with | [_, _], _ => rfl
  d__law_shared := there X G c "_law_shared" 13 10 11 rfl rfl fun _ _ _ _ _ _ us hl => match us, hl with | [_, _], _ => rfl
}
theorem bl (X : K.In h) (G : h.Ns mainGlobals mg) (c : He.SaysX fa fn [] tf ex w h K) : Bl mg := {
  mT := He.free_ok X G (c.t.d.fact 12 (f := .free "type") rfl)
  mStr := He.free_ok X G (c.t.d.fact 13 (f := .free "str") rfl)
  mL := He.free_ok X G (c.t.d.fact 14 (f := .free "len") rfl)
  mAll := He.free_ok X G (c.t.d.fact 15 (f := .free "all") rfl)
  mList := He.free_ok X G (c.t.d.fact 16 (f := .free "list") rfl)
  mSorted := He.free_ok X G (c.t.d.fact 17 (f := .free "sorted") rfl)
  mR := He.free_ok X G (c.t.d.fact 18 (f := .free "range") rfl)
  mV := He.free_ok X G (c.t.d.fact 19 (f := .free "reversed") rfl)
  mSum := He.free_ok X G (c.t.d.fact 20 (f := .free "sum") rfl)
  mIsi := He.free_ok X G (c.t.d.fact 21 (f := .free "isinstance") rfl)
  mInt := He.free_ok X G (c.t.d.fact 22 (f := .free "int") rfl)
  mBool := He.free_ok X G (c.t.d.fact 23 (f := .free "bool") rfl)
  mAny := He.free_ok X G (c.t.d.fact 24 (f := .free "any") rfl)
  mMax := He.free_ok X G (c.t.d.fact 25 (f := .free "max") rfl)
  mDict := He.free_ok X G (c.t.d.fact 26 (f := .free "dict") rfl)
  mTuple := He.free_ok X G (c.t.d.fact 27 (f := .free "tuple") rfl)
  mMin := He.free_ok X G (c.t.d.fact 28 (f := .free "min") rfl)
  mVE := He.free_ok X G (c.t.d.fact 29 (f := .free "ValueError") rfl)
  mEnum := He.free_ok X G (c.t.d.fact 30 (f := .free "enumerate") rfl)
  mZip := He.free_ok X G (c.t.d.fact 31 (f := .free "zip") rfl)
}
theorem facts {l : PySem.W.OpenLaw} (X : K.In h) (G : h.Ns mainGlobals mg) (hfa : mg ("law" : Str) = some (.ref f)) (c : He.SaysX fa fn [] tf ex w h K) : LamX.LawAtS l w K CX0 3 63 "_law_script" mg f h := by
  have e := hfa.symm.trans (He.glo_ok X G (c.t.d.fact 0 (f := .glo "law") rfl))
  cases e
  obtain ⟨fd, F⟩ := c.t.d.def_ 11 (d := dd "law" 14) rfl
  have D := defs X G c
  have B := bl X G c
  have b := FunD.bindsA (ps := ["_law_script"]) F fun _ _ _ _ _ _ us hl => match us, hl with | [_], _ => rfl
  refine ⟨fd, [], spLaw0 K, fun _ hp => absurd hp List.not_mem_nil, fun _ hp => absurd hp List.not_mem_nil, fun _ hp => absurd hp List.not_mem_nil, fun s v => b s [v] rfl, fun H a ns _ _ _ hS => ⟨a, ns, rfl, hS, fun _ => rfl⟩, fun base _ _ _ => ok_law F D B⟩
end
end Ow
open PySem PySem.W PyProof.Rows
set_option maxRecDepth 100000 in
set_option maxHeartbeats 0 in
theorem PySem.Challenge.cw_onereading_k01_rests_and_steps_holds : PySem.Challenge.rw_onereading_k01_rests_and_steps.Holds := by
  w_on; o_law
  refine HandSHeadRun.head_any (r := OpenLaw.row PySem.Challenge.rw_onereading_k01_rests_and_steps) (q := view (OpenLaw.row PySem.Challenge.rw_onereading_k01_rests_and_steps).prog [14]) (H := Ow.hk) (ob := Ow.ob) (M := 20000) (loose := Ow.loose) (d := HandSHeadRun.topDef (OpenLaw.row PySem.Challenge.rw_onereading_k01_rests_and_steps).prog 14) (kwd := []) Ow.ob_eq
    (by kernel_rfl) (fun s => by kernel_rfl) Ow.run (by kernel_rfl) (by kernel_rfl) (by kernel_rfl) (by rfl) (by first | assumption | decide +kernel) (by decide +kernel) ⟨rfl, rfl, rfl, rfl, rfl, by decide +kernel⟩ ?hw ?hc
  case hw => w_witness2
  case hc =>
    refine LamX.walk_ofTsE (l := PySem.Challenge.rw_onereading_k01_rests_and_steps) (n := 63) (k := 3) (x := "_law_script") (CX := fun _ => L2.CX0) rfl (by decide) (by kernel_rfl) ⟨rfl, by decide, by decide⟩ ?F (fun _ _ _ _ _ z => z)
    intro w mg fa h Y G hmg0
    obtain ⟨K, KX, c⟩ := Y
    have hmg : mg ("law" : PySem.Str) = some (.ref fa) := by
      have e : (HandSHeadRun.topDef (OpenLaw.row PySem.Challenge.rw_onereading_k01_rests_and_steps).prog 14).name = ("law" : PySem.Str) := by kernel_rfl
      rw [← e]
      exact hmg0
    exact ⟨K, KX, Ow.facts KX G hmg c⟩
