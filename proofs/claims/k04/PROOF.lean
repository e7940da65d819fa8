import PyProof.Rows.All
import Wide.All
import OpenK.AllK
import Wide.FinOn
import HandS.ForMost
import HandS.ForExc
import HandS.Defaults
import KE.GoesEnum
import HandS.SortInts
import HandS.Iter
import HandS.Walk
import HandS.DictComp
import HandS.WordsDict
import HandS.Finally
import HandS.HotCalls
import HandS.ExcIs
import HandS.ExcCtx
import HandS.CallSlots
import HandS.Codes
import HandS.StrMore
import HandS.Conv
import HandS.RevRange
import HandS.AnyAll
import HandS.Zip
import HandS.Sort
import HandS.IsInst
import HandS.HeadHook4
import HandS.HeadWalk
import HandS.Head0
import HandS.Head1
import HandS.Head2
import PySem.Challenge.RW_onereading_k04_partings_told
set_option Elab.async false
set_option linter.all false
set_option maxRecDepth 100000
set_option maxHeartbeats 4000000
namespace Ow
open PySem PySem.Spec PyProof.Rows L2
open SX (S S_len S_cat S_inj S_tl join_S S_beq map_S_tl)
def top (i : Nat) : Stmt := PySem.Challenge.pw_onereading_k04_partings_told.main.body.getD i (.Pass ⟨0, 0, 0, 0⟩)
abbrev sIsWord : Stmt := top 14
abbrev sChecked : Stmt := top 15
abbrev s_parting : Stmt := top 17
abbrev sWordsAt : Stmt := top 18
abbrev sCounts : Stmt := top 19
abbrev sAt : Stmt := top 21
abbrev sMixed : Stmt := top 22
abbrev sSigns : Stmt := top 23
abbrev sWord : Stmt := top 24
abbrev sAny : Stmt := top 25
abbrev sMore : Stmt := top 26
abbrev sChain : Stmt := top 27
abbrev sWords : Stmt := top 28
abbrev sRow : Stmt := top 29
abbrev sText : Stmt := top 30
abbrev sLawCounts : Stmt := top 31
abbrev s__law_words_of : Stmt := top 32
abbrev s__law_is_row : Stmt := top 33
abbrev s__law_number : Stmt := top 34
abbrev s__law_ahead : Stmt := top 35
abbrev s__law_told : Stmt := top 36
abbrev sLaw : Stmt := top 37
/-! ### the end of an iterator over a list, over a tuple, while an exception is handled -/
section
variable {prog : Program} {w : World} {A : Around} {E : Value → Shared → Prop} {s : Shared} {it l x1 : Addr} {i : Nat} {items : Array Value} {Q : Option Value → Shared → Prop}
theorem hot_list_end (hot : HotX.HotAt A x1 s.heap) (nx : x1 ≠ it) (hit : s.heap.IsListIter it l i) (hl : s.heap.IsList l items) (hx : items[i]? = none) (hQ : ∀ h', Heap.ExtBut it s.heap h' → Q none { s with heap := h' }) : wpAny (model prog w) A (pyNext (.ref it)) Q E s := by
  obtain ⟨hh, o1, vs1, h1, d1, c1⟩ := hot
  obtain ⟨o, ho, hc, hd⟩ := id hit; obtain ⟨ol, hol, _, nl, hdl⟩ := hl
  unfold pyNext
  refine wpAny_bind (wpAny_attempt (wpAny_callSpecial?_slot (name := Str.ofString "__next__") hit.typeIs slot_listiter_next (wpAny_call_entry slot_listiter_next hit.typeIs entry_listiter_next ?_ (args_listiter_next _))))
  show wpAny _ _ (field (.ref it) 0 >>= _) _ _ s; refine wpAny_bind (wpAny_field ho hd (x := .ref l) rfl ?_)
  show wpAny _ _ (if (Value.ref l == Value.none) = true then _ else _) _ _ s; rw [if_neg (show ¬ ((Value.ref l == Value.none) = true) from Bool.false_ne_true)]
  show wpAny _ _ (field (.ref it) 1 >>= _) _ _ s; refine wpAny_bind (wpAny_field ho hd (x := .int i 0) rfl ?_)
  show wpAny _ _ (seqItems? (.ref l) >>= _) _ _ s; refine wpAny_bind (wpAny_seqItems hol hdl ?_); simp only [Int.toNat_natCast, hx]
  refine wpAny_bind (wpAny_rule (wpAny_bind (wpAny_setField ho hd (by simp) ?_)))
  show wpAny _ _ (newExc (.type "StopIteration") [] >>= _) _ _ _; refine wpAny_bind ?_; simp only [newExc, newTuple]; refine wpAny_bind (wpAny_newObj_type ?_ (by size_fits))
  refine wpAny_bind (m := firstArgMember _ _) (wpAny_of_eq (a := Value.none) (by first | rfl | (simp only [firstArgMember]; rfl)) ?_); refine wpAny_newObj_type ?_ (by size_fits)
  have sb : Heap.SameBut it s.heap (s.heap.update it (Obj.mapFields (·.setIfInBounds 0 .none))) := Heap.SameBut.update ..
  have h1' := sb.extBut x1 o1 nx h1
  refine HotX.raiseNew_hot ⟨hh, o1, vs1, Heap.get?_push_of_some _ (Heap.get?_push_of_some _ h1'), d1, c1⟩ (Nat.ne_of_lt (Heap.lt_size (Heap.get?_push_of_some _ h1'))) (Heap.get?_push_size _ rfl) rfl (by first | (simp; done) | (simp; omega) | (simp only [Array.size_append]; simp; omega)) ?_
  refine wpAny_bind (wpAny_isInstance (T := "StopIteration") (b := true) ⟨_, Heap.get?_update_self _ (Heap.get?_push_size _ rfl) rfl, rfl⟩ isSubtype_stop ?_)
  refine wpAny_pure (hQ _ fun b o hb e => ?_)
  have e' := sb.extBut b o hb e
  rw [Heap.get?_update_other _ _ (Nat.ne_of_gt (Heap.lt_size (Heap.get?_push_of_some _ e')))]; exact Heap.get?_push_of_some _ (Heap.get?_push_of_some _ e')
theorem hot_tuple_end (hot : HotX.HotAt A x1 s.heap) (nx : x1 ≠ it) (hit : IsTupIter s.heap it l i) (hl : IsTup s.heap l items) (hx : items[i]? = none) (hQ : ∀ h', Heap.ExtBut it s.heap h' → Q none { s with heap := h' }) : wpAny (model prog w) A (pyNext (.ref it)) Q E s := by
  obtain ⟨hh, o1, vs1, h1, d1, c1⟩ := hot
  obtain ⟨o, ho, hc, hd⟩ := id hit; obtain ⟨ol, hol, _, nl, hdl⟩ := hl
  unfold pyNext
  refine wpAny_bind (wpAny_attempt (wpAny_callSpecial?_slot (name := Str.ofString "__next__") hit.typeIs slot_tupleiter_next (wpAny_call_entry slot_tupleiter_next hit.typeIs entry_tupleiter_next ?_ (args_tupleiter_next _))))
  show wpAny _ _ (field (.ref it) 0 >>= _) _ _ s; refine wpAny_bind (wpAny_field ho hd (x := .ref l) rfl ?_)
  show wpAny _ _ (if (Value.ref l == Value.none) = true then _ else _) _ _ s; rw [if_neg (show ¬ ((Value.ref l == Value.none) = true) from Bool.false_ne_true)]
  show wpAny _ _ (field (.ref it) 1 >>= _) _ _ s; refine wpAny_bind (wpAny_field ho hd (x := .int i 0) rfl ?_)
  show wpAny _ _ (seqItems? (.ref l) >>= _) _ _ s; refine wpAny_bind (wpAny_seqItems hol hdl ?_); simp only [Int.toNat_natCast, hx]
  refine wpAny_bind (wpAny_rule (wpAny_bind (wpAny_setField ho hd (by simp) ?_)))
  show wpAny _ _ (newExc (.type "StopIteration") [] >>= _) _ _ _; refine wpAny_bind ?_; simp only [newExc, newTuple]; refine wpAny_bind (wpAny_newObj_type ?_ (by size_fits))
  refine wpAny_bind (m := firstArgMember _ _) (wpAny_of_eq (a := Value.none) (by first | rfl | (simp only [firstArgMember]; rfl)) ?_); refine wpAny_newObj_type ?_ (by size_fits)
  have sb : Heap.SameBut it s.heap (s.heap.update it (Obj.mapFields (·.setIfInBounds 0 .none))) := Heap.SameBut.update ..
  have h1' := sb.extBut x1 o1 nx h1
  refine HotX.raiseNew_hot ⟨hh, o1, vs1, Heap.get?_push_of_some _ (Heap.get?_push_of_some _ h1'), d1, c1⟩ (Nat.ne_of_lt (Heap.lt_size (Heap.get?_push_of_some _ h1'))) (Heap.get?_push_size _ rfl) rfl (by first | (simp; done) | (simp; omega) | (simp only [Array.size_append]; simp; omega)) ?_
  refine wpAny_bind (wpAny_isInstance (T := "StopIteration") (b := true) ⟨_, Heap.get?_update_self _ (Heap.get?_push_size _ rfl) rfl, rfl⟩ isSubtype_stop ?_)
  refine wpAny_pure (hQ _ fun b o hb e => ?_)
  have e' := sb.extBut b o hb e
  rw [Heap.get?_update_other _ _ (Nat.ne_of_gt (Heap.lt_size (Heap.get?_push_of_some _ e')))]; exact Heap.get?_push_of_some _ (Heap.get?_push_of_some _ e')
/-- a, b = a tuple, while an exception is handled -/
theorem hot_unpack {targets : List (Bool × (Value → Sem Unit))} {Q : Unit → Shared → Prop} (hot : HotX.HotAt A x1 s.heap) (ht : IsTup s.heap l items) (hn : targets.length = items.size) (hstar : targets.findIdx? (·.1) = none)
    (h : ∀ h', Heap.ExtBut s.heap.objs.size s.heap h' → wpAny (model prog w) A (assignInOrder (targets.map (·.2)) items.toList) Q E { s with heap := h' }) : wpAny (model prog w) A (unpack (.ref l) targets) Q E s := by
  have hlt : l ≠ s.heap.objs.size := by
    obtain ⟨o, ho, _⟩ := ht
    exact Nat.ne_of_lt (Heap.lt_size ho)
  obtain ⟨hh, o1, vs1, h1, d1, c1⟩ := hot
  have hx1 : x1 ≠ s.heap.objs.size := Nat.ne_of_lt (Heap.lt_size h1)
  unfold unpack
  rw [hn, hstar]
  refine wpAny_bind (wpAny_holding ?_)
  unfold unpackItems notIterableAtAll
  refine wpAny_bind (wpAny_bind (wpAny_specialOf ht.typeIs slot_tuple_iter.lookup (wpAny_pure ?_)))
  simp only [Bool.false_eq_true, if_false]
  refine wpAny_bind (wpAny_holding (iter_tuple ht (wpAny_bind (wpAny_holding (draw_tuple hlt items.size 0 _ _ ⟨_, Heap.get?_push_size _ rfl, rfl, rfl⟩ (ht.push _) (by omega) fun h₁ hit₁ hs₁ => ?_)))))
  have hall : (items.toList.drop 0).take items.size = items.toList := by rw [List.drop_zero, List.take_of_length_le (by simp)]
  rw [hall, if_neg (by simp)]
  have k1 : ∀ b o, b ≠ s.heap.objs.size → s.heap.get? b = some o → h₁.get? b = some o := fun b o hb e => hs₁.extBut b o hb (Heap.get?_push_of_some _ e)
  refine wpAny_bind (wpAny_holding (hot_tuple_end ⟨hh, o1, vs1, k1 _ _ hx1 h1, d1, c1⟩ hx1 hit₁ ((ht.push _).extBut hs₁.extBut hlt) (by simp) fun h₂ he₂ => ?_))
  simp only [Option.isSome_none, Bool.false_eq_true, if_false]
  exact wpAny_pure (h h₂ fun b o hb e => he₂ b o hb (k1 b o hb e))
end
/-! ### targets, walks and comprehensions while an exception is handled -/
theorem hot_at {X : Cx} {pins : List (Addr × Obj)} {σ : L2.St} {H : Hp} {s : Shared} (hc : L2H.HotC X) (I : Inv X pins σ H s) : ∃ q : Addr × Obj, q ∈ X.pn ∧ HotX.HotAt X.A q.1 s.heap := by
  obtain ⟨q, ⟨hh, v1, e1, c1⟩, hp⟩ := hc
  exact ⟨q, hp, hh, q.2, v1, (I.pin q (List.mem_append_left _ hp)).1, e1, c1⟩
theorem pg_tupH {X : Cx} {es : List Expr} {k : Nat} {pos : Pos} {t : TGs} {n : Nat} (hc : L2H.HotC X) (h : PGs X es t) (hn : (assignEach es X.env).length = n := by rfl) (hst : (assignEach es X.env).findIdx? (·.1) = none := by rfl) : PG X (.Tuple es k pos) (gTup X.K n t) := by
  refine ⟨fun pins s σ H v u Q I r hw => ?_⟩
  obtain ⟨a, xs, ev, hq, hl, hw⟩ := hw
  subst ev
  cases r
  obtain ⟨its, rv, ht, _⟩ := I.tuple hq
  obtain ⟨q, _, hot⟩ := hot_at hc I
  rw [assign_Tuple]
  refine wpAny_bind (wpAny_standAt (hot_unpack hot ht (by simp [hn, ← hl, rv.length]) hst fun h' hx => ?_))
  have J : Inv X pins σ H { s with heap := h' } := I.kept (t' := s.toks) fun b o e => hx b o (Nat.ne_of_lt (Heap.lt_size e)) e
  exact h.run pins _ σ H xs _ Q J (by simpa using rv) hw
theorem turn_listH {P : Program} {w : World} {K : PySem.W.Frag} {tg : Expr} (a it : Addr) : L2H.TurnH P w K tg (Itl K a) [it] it (fun i h => h.IsListIter it a i) where
  mem := List.mem_singleton.mpr rfl
  obj := (turn_list (P := P) (w := w) (K := K) (tg := tg) a it).obj
  keep := (turn_list (P := P) (w := w) (K := K) (tg := tg) a it).keep
  item := by
    intro X hP hw hK hc i pins s σ H E I hf st hg
    subst hP hw hK
    obtain ⟨xs, x, hq, hx⟩ := hg
    obtain ⟨its, rv, p, _⟩ := I.list hq
    obtain ⟨u, hu, ru⟩ := rv.get hx
    have F := hf it (List.mem_singleton.mpr rfl)
    refine wpAny_pyNext_list_item st p.isList (x := u) (by simpa using hu) fun h' st' sb => ?_
    have J : Inv X pins σ H { s with heap := h' } := I.turned (t' := s.toks) (fun b o hb e => (sb.2 b hb).trans e) F.1 F.2.1 F.2.2.2.1 F.2.2.2.2.1 F.2.2.2.2.2
    obtain ⟨o, e, c, d⟩ := id st'
    refine ⟨u, rfl, go_of (s := { s with heap := h' }) e c d (by decide) ⟨x, H, J, ru, ⟨rfl, fun ys hy => ?_⟩, st', fun b hb => (hf b hb).1⟩⟩
    rw [J.list_inj hy hq]
    exact hx
  done := by
    intro X hP hw hK hc i pins s σ H E I hf st hg
    subst hP hw hK
    obtain ⟨xs, hq, hx⟩ := hg
    obtain ⟨its, rv, p, _⟩ := I.list hq
    have F := hf it (List.mem_singleton.mpr rfl)
    obtain ⟨q, hm, hot⟩ := hot_at hc I
    have hl := rv.length
    exact hot_list_end hot (F.2.2.2.2.2 q (List.mem_append_left _ hm)) st p.isList (by simp; omega) fun h' eb => ⟨rfl, I.turned (t' := s.toks) (fun b o hb e => eb b o hb e) F.1 F.2.1 F.2.2.2.1 F.2.2.2.2.1 F.2.2.2.2.2⟩
  self := fun _ _ _ _ _ st h => wpAny_pyIter_listiter st h
theorem pi_listH {X : Cx} {tg l : Expr} {tl : TE} (hl : PE X l tl) : L2H.PIH X tg l (iList X.K tl) := by
  refine ⟨fun pins s σ H R I h => ?_⟩
  refine thn (hl.run pins s σ H _ I h) fun v s1 ⟨x, H1, I1, r1, q1⟩ => ?_
  obtain ⟨a, ev, ⟨xs, hq⟩, q⟩ := q1
  subst ev
  cases r1
  obtain ⟨its, rv, p, _⟩ := I1.list hq
  refine wpAny_pyIter_list p.isList ⟨s1.heap.objs.size, [s1.heap.objs.size], _, _, H1, rfl, I1.kept (t' := s1.toks) fun b o e => Heap.get?_push_of_some _ e, turn_listH a _, ⟨_, Heap.get?_push_size _ rfl, rfl, rfl⟩, fun b hb => ?_, q⟩
  rw [List.mem_singleton.mp hb]
  exact I1.fpOk (Nat.le_refl _) (I1.hok.fresh (Nat.le_refl _))
/-- a comprehension's block, the handled exception held fast in it -/
abbrev blkH (X : Cx) (s : Shared) (H : Hp) (scope : Scope) (cenv : Env) (fp : List Addr) : Cx := (X.blk s H scope cenv fp).tr X.pn (fun _ _ => False)
theorem hotC_blk {X : Cx} (hc : L2H.HotC X) {s : Shared} {H : Hp} {scope : Scope} {cenv : Env} {fp : List Addr} : L2H.HotC (blkH X s H scope cenv fp) := hc
section
variable {X : Cx}
theorem hot_lc {pins : List (Addr × Obj)} {s : Shared} {σ : L2.St} {H : Hp} {Q : VK} {elt tg iter : Expr} {ifs : List Expr} {scope : Scope} {own : List (Str × Nat)} {pos pos' : Pos} {wi : TI} {g : TG} {tt : TT} {te : TE} {use : Option (Value → Sem Unit)} {Qf : Value → Shared → Prop}
    (hc : L2H.HotC X) (hN : X.N.Nodup) (I : Inv X pins σ H s) (hi : L2H.PIH X tg iter wi) (ok : BlkOk X.N X.env.scope scope own)
    (hg : ∀ (s : Shared) (H : Hp) (C : Addr) (cl : List (Str × Addr)) (fp : List Addr), PG (blkH X s H scope (compEnvC scope cl C X.env) fp) tg g)
    (ht : ∀ (s : Shared) (H : Hp) (C : Addr) (cl : List (Str × Addr)) (fp : List Addr), PTs (blkH X s H scope (compEnvC scope cl C X.env) fp) ifs tt)
    (he : ∀ (s : Shared) (H : Hp) (C : Addr) (cl : List (Str × Addr)) (fp : List Addr), PE (blkH X s H scope (compEnvC scope cl C X.env) fp) elt te) (hs : ∀ x, foldedSetIterable iter X.env x = pure x) (h : tLc wi g tt te (own.map (·.2)) σ H Q)
    (after : ∀ D C s' m H', Inv X pins σ H' s' → Q (.ref D) H' → s'.heap.Ns C m → FpOk X pins H' C → compPost (model X.prog X.w) X.A X.xe use Qf (.ref D) C (.ok .next) s') :
    wpAny (model X.prog X.w) X.A (comprehension (.ListComp elt [⟨tg, iter, ifs, 0⟩] scope pos) scope X.env pos' (newList []) false (eval iter X.env) use) Qf X.xe s := by
  have hfree : ∀ y ∈ scope.names, y.2 = .free → ∃ c, X.env.cells.lookup y.1 = some c := fun y hy e => (ok.free y hy e).elim (fun k => I.ok.has _ (.inl k)) fun k => I.ok.has _ (.inr k)
  refine wpAny_comprehension_free (use := use) rfl hs (closure_ok hfree) ok.kind (fun y hy e => by rw [ok.uniq y hy, e]) (thn (hi.run pins s σ H _ I h) fun xv s1 hx => thn hx fun itv s2 h2 => ?_)
  obtain ⟨it, fp, tn, J, H2, eit, I2, T, st2, f2, q⟩ := h2
  subst eit
  refine wpAny_newObj_type (newEnv_comp ?_) (by show 0 ≤ sizeLine; decide)
  obtain ⟨D, hD⟩ : ∃ D, s2.heap.objs.size = D := ⟨_, rfl⟩
  rw [hD]
  have hDn : H2 D = none := I2.hok.fresh (Nat.le_of_eq hD)
  obtain ⟨W, ⟨m0, w0⟩, turn⟩ := q D hDn
  generalize hs3 : ({ heap := s2.heap.push { cls := .type "list", data := .seq ([] : List Value).toArray }, gens := s2.gens, drawn := s2.drawn, toks := s2.toks, os := s2.os } : Shared) = s3
  have h3 : s3.heap = s2.heap.push { cls := .type "list", data := .seq ([] : List Value).toArray } := by rw [← hs3]
  obtain ⟨H3, hH3⟩ : ∃ H3, upd H2 D (.lst []) = H3 := ⟨_, rfl⟩
  rw [hH3] at w0
  have I3 : Inv X pins σ H3 s3 := by
    rw [← hs3, ← hH3]
    refine I2.laid (t' := s2.toks) (fun b o e => Heap.get?_push_of_some _ e) (Nat.le_of_eq hD) ⟨Nat.zero_le _, [], 0, .nil, ?_⟩
    rw [← hD]
    exact Heap.get?_push_size _ rfl
  have f3 : ∀ b ∈ fp, FpOk X pins H3 b ∧ b < s3.heap.objs.size := fun b hb => by
    obtain ⟨o, e, _⟩ := T.obj _ _ st2 b hb
    have hlt : b < s2.heap.objs.size := Heap.lt_size e
    refine ⟨⟨?_, (f2 b hb).2⟩, by rw [h3, Heap.size_push]; exact Nat.lt_succ_of_lt hlt⟩
    rw [← hH3, upd_ne (by rw [← hD]; exact Nat.ne_of_lt hlt)]
    exact (f2 b hb).1
  have st3 : tn 0 s3.heap := T.keep _ _ _ st2 fun b _ o e => by rw [h3]; exact Heap.get?_push_of_some _ e
  have B0 := block_start I3 ok hN f3
  obtain ⟨cl, hcl⟩ : ∃ cl, cellsFrom (s3.heap.objs.size + 1) scope.names (cloFrom X.env.cells scope.names []) = cl := ⟨_, rfl⟩
  rw [hcl] at B0
  obtain ⟨ce, hce⟩ : ∃ ce, compEnvC scope cl s3.heap.objs.size X.env = ce := ⟨_, rfl⟩
  have pg := hg s3 H3 s3.heap.objs.size cl fp
  have pt := ht s3 H3 s3.heap.objs.size cl fp
  have pe := he s3 H3 s3.heap.objs.size cl fp
  rw [hce] at B0 pg pt pe
  have cL : ce.locals = s3.heap.objs.size := by rw [← hce] <;> rfl
  obtain ⟨s4, hs4⟩ : ∃ s4 : Shared, ({ s3 with heap := pushCells (s3.heap.push { cls := .type "dict", data := .dict #[] }) scope.names } : Shared) = s4 := ⟨_, rfl⟩
  rw [hs4] at B0
  have keep4 : ∀ b o, s3.heap.get? b = some o → s4.heap.get? b = some o := fun b o e => by
    rw [← hs4]
    exact pushCells_keeps _ _ _ _ (Heap.get?_push_of_some _ e)
  -- the exception is held fast in the block
  have B1 : Inv (X.blk s3 H3 scope ce fp) X.pn (wipe σ (own.map (·.2))) H3 s4 := B0.pins_of fun p hp => by
    have z := I3.pin p (List.mem_append_left _ hp)
    refine ⟨keep4 _ _ z.1, z.2.1, ?_, fun hm => (List.mem_cons.mp (I3.stkSub p.1 hm)).elim z.2.2.1 z.2.2.2.1, z.2.2.2.2⟩
    show p.1 ≠ ce.locals
    rw [cL]
    exact Nat.ne_of_lt (Heap.lt_size z.1)
  have I4 : Inv (blkH X s3 H3 scope ce fp) [] (wipe σ (own.map (·.2))) H3 s4 := B1.toTry _
  have hcB : L2H.HotC (blkH X s3 H3 scope ce fp) := hotC_blk hc
  have st4 : tn 0 s4.heap := T.keep _ _ _ st3 fun b _ o e => keep4 b o e
  have stat : ∀ {σ' : L2.St} {H' : Hp} {s' : Shared}, Inv (blkH X s3 H3 scope ce fp) [] σ' H' s' → (∀ b ∈ fp, H' b = none) → ∀ b ∈ fp, FpOk (blkH X s3 H3 scope ce fp) [] H' b := fun {σ' H' s'} J' hn b hb => by
    refine ⟨hn b hb, (J'.ok.exf b hb).1, J'.ok.exfs b hb, .inl hb, fun x c e => (J'.ok.exf b hb).2 x c e, fun p hp => ?_⟩
    rw [List.append_nil] at hp
    exact (f3 b hb).1.2.2.2.2.2 p (List.mem_append_left _ hp)
  show codeAny _ _ (.compStart (.ListComp elt [⟨tg, iter, ifs, 0⟩] scope pos) 0 (.ref it) (.ref D) (compEnvC scope (cellsFrom (s3.heap.objs.size + 1) scope.names (cloFrom X.env.cells scope.names [])) s3.heap.objs.size X.env)) (compPost (model X.prog X.w) X.A X.xe use Qf (.ref D) s3.heap.objs.size) { s3 with heap := pushCells (s3.heap.push { cls := .type "dict", data := .dict #[] }) scope.names }
  rw [hcl, hce, hs4]
  have loop : codeAny (model X.prog X.w) X.A (.compLoop (.ListComp elt [⟨tg, iter, ifs, 0⟩] scope pos) 0 (.ref it) (.ref D) ce) (compPost (model X.prog X.w) X.A X.xe use Qf (.ref D) s3.heap.objs.size) s4 := by
    refine compLoop_any (fun n s' => ∃ i H', Inv (blkH X s3 H3 scope ce fp) [] (wipe σ (own.map (·.2))) H' s' ∧ tn i s'.heap ∧ (∀ b ∈ fp, H' b = none) ∧ W i n H') ?_ m0 ⟨0, H3, I4, st4, fun b hb => (f3 b hb).1.1, w0⟩
    rintro n s5 ⟨i, H5, I5, st5, n5, w5⟩
    rcases turn i n H5 w5 with ⟨stop, qq⟩ | ⟨go, Nx, hNx, step⟩
    · refine thnF (T.done (blkH X s3 H3 scope ce fp) rfl rfl rfl hcB i [] s5 _ H5 (fun _ _ => False) I5 (stat I5 n5) st5 stop) fun r s6 ⟨hr, I6⟩ => ?_
      subst hr
      have I7 : Inv X pins σ H5 s6 := I3.call' (ch := fp) I6.os I6.base I6.hok I6.bare fun b hb => ⟨(f3 b hb).1.2.2.2.1, (f3 b hb).1.2.1, (f3 b hb).1.2.2.2.2.1, (f3 b hb).1.2.2.2.2.2⟩
      have nC : H5 s3.heap.objs.size = none := by
        have z : H5 ce.locals = none := I6.free
        rwa [cL] at z
      obtain ⟨m, hm, _⟩ := I6.loc
      have hm2 : s6.heap.Ns ce.locals m := hm
      rw [cL] at hm2
      exact after D s3.heap.objs.size s6 m H5 I7 qq hm2 (I3.fpOk (Nat.le_refl _) nC)
    · refine thnF (T.item (blkH X s3 H3 scope ce fp) rfl rfl rfl hcB i [] s5 _ H5 (fun _ _ => False) I5 (stat I5 n5) st5 go) fun r s6 ⟨u, hr, h6⟩ => ?_
      subst hr
      refine thnF h6 fun _ s7 ⟨x, H7, I7, r7, y7, st7, n7⟩ => ?_
      refine thnF (pg.run _ s7 _ H7 x u _ (I7.pinned (stat I7 n7) (T.obj _ _ st7)) r7 (step x H7 y7)) fun _ s8 ⟨σ8, H8, I8, hw8, q8⟩ => ?_
      refine thnF (pt.run _ s8 σ8 H8 _ I8 q8) fun b s9 ⟨H9, I9, q9⟩ => ?_
      have fin : ∀ {s' : Shared} {H' : Hp}, Inv (blkH X s3 H3 scope ce fp) ([] ++ pinsAt fp s7.heap) σ8 H' s' → Nx H' → ∃ m, m < n ∧ ∃ i H', Inv (blkH X s3 H3 scope ce fp) [] (wipe σ (own.map (·.2))) H' s' ∧ tn i s'.heap ∧ (∀ b ∈ fp, H' b = none) ∧ W i m H' := fun {s' H'} J' nx => by
        obtain ⟨m', hm, w'⟩ := hNx H' nx
        have held : ∀ b ∈ fp, ∀ o, s7.heap.get? b = some o → s'.heap.get? b = some o ∧ H' b = none := fun b hb o e => ⟨(J'.pin (b, o) (List.mem_append_right _ (List.mem_append_right _ (mem_pinsAt hb e)))).1, (J'.pin (b, o) (List.mem_append_right _ (List.mem_append_right _ (mem_pinsAt hb e)))).2.1⟩
        refine ⟨m', hm, i + 1, H', (J'.unpinned (pins := [])).weak (by rw [← hw8, wipe_length]) (fun j v e => ?_), T.keep _ _ _ st7 fun b hb o e => (held b hb o e).1, fun b hb => ?_, w'⟩
        · rw [← hw8] at e
          exact (wipe_some e).1
        · obtain ⟨o, e, _⟩ := T.obj _ _ st7 b hb
          exact (held b hb o e).2
      cases b with
      | false =>
        simp only [Bool.false_eq_true, if_false] at q9 ⊢
        exact fin I9 q9
      | true =>
        simp only [if_true] at q9 ⊢
        exact thnF (pe.run _ s9 σ8 H9 _ I9 q9) fun z s10 ⟨yv, H10, I10, r10, acc, hD10, hz10, nx⟩ => app_ok (X := blkH X s3 H3 scope ce fp) I10 hD10 hz10 r10 fun s11 I11 => fin I11 nx
  exact codeAny_compStart_list loop (T.self X.A 0 _ _ _ st4 loop)
theorem pe_lcH {elt tg iter : Expr} {ifs : List Expr} {scope : Scope} {own : List (Str × Nat)} {pos : Pos} {wi : TI} {g : TG} {tt : TT} {te : TE} (hc : L2H.HotC X) (hN : X.N.Nodup) (hi : L2H.PIH X tg iter wi) (ok : BlkOk X.N X.env.scope scope own)
    (hg : ∀ (s : Shared) (H : Hp) (C : Addr) (cl : List (Str × Addr)) (fp : List Addr), PG (blkH X s H scope (compEnvC scope cl C X.env) fp) tg g)
    (ht : ∀ (s : Shared) (H : Hp) (C : Addr) (cl : List (Str × Addr)) (fp : List Addr), PTs (blkH X s H scope (compEnvC scope cl C X.env) fp) ifs tt)
    (he : ∀ (s : Shared) (H : Hp) (C : Addr) (cl : List (Str × Addr)) (fp : List Addr), PE (blkH X s H scope (compEnvC scope cl C X.env) fp) elt te) (hs : ∀ x, foldedSetIterable iter X.env x = pure x := by intro _; rfl) :
    PE X (.ListComp elt [⟨tg, iter, ifs, 0⟩] scope pos) (tLc wi g tt te (own.map (·.2))) := by
  refine ⟨fun pins s σ H Q I h => ?_⟩
  rw [eval_ListComp]
  refine hot_lc hc hN I hi ok hg ht he hs h fun D C s' m H' I' q hn f => ⟨m, hn, fun h'' sb => ?_⟩
  exact ⟨.ref D, H', I'.turned (t' := s'.toks) (fun b o hb e => (sb.2 b hb).trans e) f.1 f.2.1 f.2.2.2.1 f.2.2.2.2.1 f.2.2.2.2.2, rfl, q⟩
end
/-! ### a def that is handed the caught exception, called in the suite -/
/-- what such a def promises: a the exception, D its class -/
structure FnE (P : Program) (w : World) (K : PySem.W.Frag) (mg : Str → Option Value) (base : Heap) (k : Nat) (f : Addr) (fd : FuncData) (x : Str) (spE : Addr → Addr → Hp → VK → Prop) : Prop where
  run : ∀ (A : Around) (outer : List Env) (s : Shared) (H : Hp) (a D : Addr) (oe : Obj) (Q : VK), L2H.RoomH k A → A.handled = some (.ref a) → L2N.Zn (.ref D) none oe → (∃ vs, oe.data = .fields vs) → L2H.PinOk outer H s (a, oe) →
    Env0 P w K mg base A outer s H → BindsTo s fd ⟨[.ref a], []⟩ [(x, .ref a)] → spE a D H Q → codeAny (model P w) A (.call (.ref f) ⟨[.ref a], []⟩) (CR CX0 outer P w H s Q E0) s
/-- the context of its body -/
abbrev cxE (P : Program) (w : World) (K : PySem.W.Frag) (mg : Str → Option Value) (base : Heap) (N : List Str) (qual : Str) (scope : Scope) (f : Addr) (cdv : Value) (A : Around) (outer : List Env) (s : Shared) (H : Hp) (a : Addr) (oe : Obj) : Cx :=
  L2H.cxH CX0 P w K mg base N qual scope f cdv A outer s H E0 (a, oe)
theorem okE {P : Program} {w : World} {K : PySem.W.Frag} {mg : Str → Option Value} {base : Heap} {x qual y : Str} {params : Arguments} {body : List Stmt} {scope : Scope} {f : Addr} {fd : FuncData} {N : List Str} {k : Nat} {spE : Addr → Addr → Hp → VK → Prop}
    (F : FunD K x qual params body scope [] [] f fd) (S : FnScope N [y] scope)
    (hbody : ∀ (cdv : Value) (A : Around) (outer : List Env) (s : Shared) (H : Hp) (a D : Addr) (oe : Obj) (Q : VK), L2H.Hot1 A (a, oe) → L2N.Zn (.ref D) none oe → (∃ vs, oe.data = .fields vs) → L2H.RoomH k (A.deeper (envOfC qual scope s.heap.objs.size f cdv)) → spE a D H Q →
      ∃ t, PSs (cxE P w K mg base N qual scope f cdv A outer s H a oe) body t ∧ t { nx := fun _ H' => Q .non H', rt := Q } (L2.start N [.ref a]) H) : FnE P w K mg base (k + 1) f fd y spE := by
  obtain ⟨oc, od, dV, kV, doc, pm, an, cdv, ct, osl, rfl, lk, hcd, _, _⟩ := F.ex
  refine ⟨fun A outer s H a D oe Q hr hh hz hf hpin e0 hb h => ?_⟩
  have hot : L2H.Hot1 A (a, oe) := by
    obtain ⟨vs, hv⟩ := hf
    exact ⟨hh, vs, hv, hz.2.2 vs hv⟩
  have up : ∀ b o, base.get? b = some o → s.heap.get? b = some o := fun b o e => (e0.bs b o e).1
  have hk : ∀ z ∈ [(y, Value.ref a)], scope.names.lookup z.1 = some .local ∨ (scope.names.lookup z.1 = some .cell ∧ ((cellsFrom (s.heap.objs.size + 1) scope.names []).lookup z.1).isSome = true) := fun z hz0 => by
    rw [List.mem_singleton.mp hz0]
    exact (S.par y (List.mem_singleton.mpr rfl)).elim Or.inl fun q => Or.inr ⟨q, PySem.W.cellsFrom_some _ _ _ (.inl q)⟩
  refine codeAny_call_function hr.depth ((e0.mod.kin.keeps up) _ _ lk) rfl S.co S.gen rfl (PySem.W.codeRec_of (e0.mod.kin.keeps up) hcd) (hb _ _ _ _ (wpAny_newFunctionEnv_cells S.kind hk fun env he s1 c => ?_))
  subst he
  refine ⟨(e0.mod.nolimit.keeps up).keeps c.toInCall.keep, codeAny_func ?_⟩
  obtain ⟨t, ht, hq⟩ := hbody cdv A outer s H a D oe Q hot hz hf (hr.deeper _) h
  have I : Inv (cxE P w K mg base N qual scope f cdv A outer s H a oe) [] (L2.start N [.ref a]) H s1 := L2H.inv_startH (ps := [y]) (us := [.ref a]) S hpin e0 rfl (.cons rfl .nil) c
  refine wpAny_mono (ht.run [] s1 _ H _ I hq) (fun fl s' hs => ?_) fun e s' hs => hs
  cases fl with
  | ret u =>
    obtain ⟨v, σ', H', J, rv, q⟩ := hs
    exact ⟨v, H', J.os, J.bare, J.base, J.hok, rv, q⟩
  | next =>
    obtain ⟨σ', H', J, q⟩ := hs
    exact ⟨V.non, H', J.os, J.bare, J.base, J.hok, rfl, q⟩
  | brk => exact hs.elim fun _ z => z.elim fun _ z => z.2.elim
  | cont => exact hs.elim fun _ z => z.elim fun _ z => z.2.elim
section
variable {X : Cx} {a D : Addr} {oe : Obj}
theorem pe_callE {k : Nat} {f : Addr} {fd : FuncData} {x y : Str} {q pos : Pos} {e : Expr} {te : TE} {spE : Addr → Addr → Hp → VK → Prop} (F : FnE X.prog X.w X.K X.mg X.base k f fd y spE) (hr : L2H.RoomH k X.A) (hh : X.A.handled = some (.ref a)) (hp : (a, oe) ∈ X.pn)
    (hz : L2N.Zn (.ref D) none oe) (hf : ∃ vs, oe.data = .fields vs) (hg : Gl X x) (hm : X.mg x = some (.ref f)) (hk : PySem.W.keepIn X.K (.ref f) = true) (hb : Binds X.K fd [y] []) (he : PE X e te) (hdb : (x == ("__debug__" : Str)) = false := by decide)
    (hs : starEach [e] X.env = (false, eval e X.env) :: starEach [] X.env := by rfl) (hpl : (backTo pos (starEach [] X.env)).any (·.1) = false := by rfl) : PE X (.Call (.Name x q) [e] [] pos) (fun σ H Q => te σ H fun v H1 => v = .ref a ∧ spE a D H1 Q) := by
  refine ⟨fun pins s σ H Q I h => ?_⟩
  refine wpAny_Call_Name_kw (ld_glob I hg hm ?_ hdb)
  have ha : PA X [e] (tCons te tNil) := pa_cons he pa_nil hs
  refine PySem.W.callWith_K (h₀ := X.base) I.ok.mod.kin hk (thn (ha.run pos pins s σ H (fun vs H1 => vs = [.ref a] ∧ spE a D H1 Q) I ?_) fun us s1 ⟨vs, H1, I1, r, ev, q⟩ => ⟨I1.kIn, ?_⟩) hs hpl
  · exact (show te σ H fun v H1 => [v] = [V.ref a] ∧ spE a D H1 Q from by
      have e : (fun (v : V) (H1 : Hp) => v = .ref a ∧ spE a D H1 Q) = fun v H1 => [v] = [V.ref a] ∧ spE a D H1 Q := by
        funext v H1
        exact propext ⟨fun z => ⟨by rw [z.1], z.2⟩, fun z => ⟨(List.cons.inj z.1).1, z.2⟩⟩
      rw [← e]
      exact h)
  · subst ev
    cases r with
    | cons r1 r2 =>
      cases r2
      cases r1
      have z := I1.pin (a, oe) (List.mem_append_left _ hp)
      have pin : L2H.PinOk X.stack H1 s1 (a, oe) := ⟨z.1, z.2.1, fun m => (List.mem_cons.mp (I1.stkSub a m)).elim z.2.2.1 z.2.2.2.1, z.2.2.2.2⟩
      have b := hb s1 [.ref a] I1.kIn rfl
      refine wpAny_call (codeAny_mono (F.run X.A X.stack s1 H1 a D oe Q hr hh hz hf pin I1.env0 b q) fun r s' hq => ?_)
      cases r with
      | error e => exact hq.elim
      | ok fl =>
        cases fl with
        | ret u => exact I1.after hq
        | next => exact hq.elim
        | brk => exact hq.elim
        | cont => exact hq.elim
theorem call_isH (hp : (a, oe) ∈ X.pn) (C : ExcC X.K D) (hz : Zc (.ref D) none oe) (hf : ∃ vs, oe.data = .fields vs) : CallR X (.builtin "isinstance") (rIsE X.K D a) := by
  intro pins s σ H xs us Q I r h
  obtain ⟨c, cv, b, ev, hcv, e, q⟩ := h
  subst ev
  obtain ⟨u1, u2, eu, r1, r2⟩ := vals2 r
  subst eu
  cases r1
  have ec := hcv _ r2
  subst ec
  have hget := (I.pin (a, oe) (List.mem_append_left _ hp)).1
  obtain ⟨vs, hv⟩ := hf
  have J : PySem.W.InstAt s.heap a oe D none := by
    obtain ⟨oc, od, oda, osl⟩ := oe
    obtain ⟨h1, h2⟩ := hz
    dsimp only at h1 h2 hv
    subst h1 h2 hv
    exact ⟨hget, rfl, rfl, trivial⟩
  exact PySem.W.kia_one (PySem.W.handS_kitx_exc C.hg C.hk C.hs C.hd C.ha C.hn C.ht C.hm) I.kIn J e (fun z => nomatch z) fun tk => ⟨.bl b, H, I.kept (t' := tk) fun _ _ z => z, rfl, q⟩
end

/-! ### words that stand at one place, the shorter ones first -/
theorem ltc_cons {a b : Nat} {r t : List Nat} : PySem.Spec.ltCps (a :: r) (b :: t) = false ↔ b ≤ a ∧ (a = b → PySem.Spec.ltCps r t = false) := by
  simp only [PySem.Spec.ltCps, Bool.or_eq_false_iff, decide_eq_false_iff_not, Bool.and_eq_false_iff, beq_eq_false_iff_ne]
  constructor
  · rintro ⟨h1, h2⟩
    refine ⟨by omega, fun e => ?_⟩
    rcases h2 with h | h
    · exact absurd e h
    · exact h
  · rintro ⟨h1, h2⟩
    refine ⟨by omega, ?_⟩
    by_cases e : a = b
    · exact .inr (h2 e)
    · exact .inl e
theorem ltc_tr : ∀ {a b c : List Nat}, PySem.Spec.ltCps b a = false → PySem.Spec.ltCps c b = false → PySem.Spec.ltCps c a = false
  | [], _, [], _, _ => rfl
  | [], _, _ :: _, _, _ => rfl
  | _ :: _, [], _, h, _ => by cases h
  | _ :: _, _ :: _, [], _, h => by cases h
  | x :: a, y :: b, z :: c, h, k => by
    have h1 := ltc_cons.mp h
    have h2 := ltc_cons.mp k
    refine ltc_cons.mpr ⟨by omega, fun e => ?_⟩
    exact ltc_tr (h1.2 (by omega)) (h2.2 (by omega))
theorem rising_all : ∀ {l : List (List Nat)} {p : List Nat}, risingS (S p) (l.map S) = true → ∀ x ∈ l, PySem.Spec.ltCps x p = false
  | [], _, _, _, hx => nomatch hx
  | y :: l, p, h, x, hx => by
    have h' : (!PySem.Spec.ltCps y p && risingS (S y) (l.map S)) = true := h
    rw [Bool.and_eq_true, Bool.not_eq_true'] at h'
    rcases List.mem_cons.mp hx with e | m
    · rw [e]
      exact h'.1
    · exact ltc_tr h'.1 (rising_all h'.2 x m)
theorem rising_tail {l : List (List Nat)} {p : List Nat} (h : risingS (S p) (l.map S) = true) : sortedS (l.map S) = true := by
  cases l with
  | nil => rfl
  | cons y l =>
    have h' : (!PySem.Spec.ltCps y p && risingS (S y) (l.map S)) = true := h
    rw [Bool.and_eq_true] at h'
    exact h'.2
theorem sorted_pw : ∀ {l : List (List Nat)}, sortedS (l.map S) = true → l.Pairwise fun a b => PySem.Spec.ltCps b a = false
  | [], _ => .nil
  | x :: l, h => List.pairwise_cons.mpr ⟨rising_all h, sorted_pw (rising_tail h)⟩
abbrev FnP (K : PySem.W.Frag) (x : Str) (st : Stmt) (f : Addr) (fd : FuncData) : Prop := FunD K x x (defArgs st) (defBody st) (defScope st) [] [] f fd
theorem _root_.L2.FunD.okN {P : Program} {w : World} {K : PySem.W.Frag} {mg : Str → Option Value} {base : Heap} {x qual : Str} {params : Arguments} {body : List Stmt} {scope : Scope} {dvs : List V} {kws : List (Str × V)} {f : Addr} {fd : FuncData}
    {CX : CXT} {N ps : List Str} {k : Nat} {sp : Sp} (F : FunD K x qual params body scope dvs kws f fd) (S : FnScope N ps scope) (len : ∀ vs H Q E, sp vs H Q E → vs.length = ps.length)
    (hbody : ∀ (cdv : Value) (A : Around) (outer : List Env) (s : Shared) (H : Hp) (vs : List V) (Q : VK) (E : XK), Room k (A.deeper (envOfC qual scope s.heap.objs.size f cdv)) → sp vs H Q E →
      ∃ t, PSs (cxOf CX P w K mg base N qual scope f cdv A outer s H E).nox body t ∧ t { nx := fun _ H' => Q .non H', rt := Q } (start N vs) H) : FnOk P w K mg base CX (k + 1) f fd ps sp :=
  F.ok S len fun cdv A outer s H vs Q E hr h =>
    let ⟨t, q, r⟩ := hbody cdv A outer s H vs Q E hr h
    ⟨t, q.nox, r⟩
theorem same_upd {H : Hp} {p : Addr} {o : HO} (h : H p = none) : Same H (upd H p o) := fun b x e => by
  rw [upd_ne (ne_of_none e h)]
  exact e
/-- a def of the text whose function object, name and binding are known -/
structure Has (K : PySem.W.Frag) (mg : Str → Option Value) (x : Str) (st : Stmt) (ps : List Str) (f : Addr) (fd : FuncData) : Prop where
  F : FnP K x st f fd
  g : mg x = some (.ref f)
  b : Binds K fd ps []
/-- a def of the text stands behind the top -/
def There (K : PySem.W.Frag) (mg : Str → Option Value) (x : Str) (st : Stmt) (ps : List Str) : Prop := ∃ f fd, Has K mg x st ps f fd
section
variable {P : Program} {w : World} {K : PySem.W.Frag} {mg : Str → Option Value} {base : Heap} {f : Addr} {fd : FuncData}
theorem scAt : FnScope ["_law_script", "_law_k"] ["_law_script", "_law_k"] (defScope sAt) := ⟨rfl, rfl, rfl, by decide +kernel, rfl, by decide +kernel, by decide +kernel⟩
def spAt (K : PySem.W.Frag) : Sp := fun vs H Q _ => ∃ (a : Addr) (ns : List Int) (k : Int), vs = [.ref a, .int k] ∧ SqL K H a (ns.map V.int) ∧ 0 ≤ k ∧ ∀ v : Int, Q (.int v) H
theorem ok_at (F : FnP K "_law_at" sAt f fd) (mL : mg "len" = none) : FnOk P w K mg base CX0 1 f fd ["_law_script", "_law_k"] (spAt K) := by
  refine F.okN scAt (fun vs H Q E h => ?_) (fun cdv A outer s H vs Q E hr h => ?_)
  · obtain ⟨a, ns, k, rfl, _⟩ := h
    rfl
  · obtain ⟨a, ns, k, rfl, hS, hk, q⟩ := h
    refine ⟨_, pss_cons (ps_if (pt_cmpR op_lt (pv 1) (pe_callB call_len_seq (by rfl) mL boot_len (pa_cons (pv 0) pa_nil)) (nomark _))
        (pss_one (ps_ret (pe_ix ix_list (pv 0) (pv 1) (fun _ _ => rfl)))) pss_nil) (pss_one (ps_ret pe_int)), ?_⟩
    refine ⟨_, rfl, _, rfl, a, ns.map V.int, rfl, .inl hS, k, _, rfl, rfl, _, rfl, ite2 (fun c => ?_) (fun c => ?_)⟩
    · have c1 : k < ((ns.map V.int).length : Int) := of_decide_eq_true c
      rw [List.length_map] at c1
      have hi : k.toNat < ns.length := by omega
      refine ⟨_, rfl, _, rfl, a, ns.map V.int, k, .int ns[k.toNat], rfl, rfl, hS, at_of (j := k.toNat) (by omega) ?_, q _⟩
      rw [List.getElem?_map, List.getElem?_eq_getElem hi]
      rfl
    · exact q 0
theorem scMixed : FnScope ["_law_cell", "_law_k", "_law_number_here"] ["_law_cell", "_law_k"] (defScope sMixed) := ⟨rfl, rfl, rfl, by decide +kernel, rfl, by decide +kernel, by decide +kernel⟩
def spMixed : Sp := fun vs H Q _ => ∃ (c k : Int), vs = [.int c, .int k] ∧ ∀ v : Int, 0 ≤ v → v < 2147483629 → Q (.int v) H
theorem ok_mixed (F : FnP K "_law_mixed" sMixed f fd) : FnOk P w K mg base CX0 1 f fd ["_law_cell", "_law_k"] spMixed := by
  refine F.okN scMixed (fun vs H Q E h => ?_) (fun cdv A outer s H vs Q E hr h => ?_)
  · obtain ⟨c, k, rfl, _⟩ := h
    rfl
  · obtain ⟨c, k, rfl, q⟩ := h
    refine ⟨_, pss_cons (ps_set (i := 2) scMixed.nd rfl (.inl rfl) (pe_op op_mod (pe_op op_mul (pe_op op_add (pe_op op_add (pv 0) (pe_op op_mul pe_int (pv 1))) pe_int) pe_int) pe_int))
      (pss_one (ps_ret (pe_op op_mod (pe_op op_mul (pv 2) (pv 2)) pe_int))), ?_⟩
    refine ⟨_, rfl, _, rfl, 7919, k, rfl, rfl, .inl ⟨by decide, by decide⟩, _, _, rfl, rfl, _, _, rfl, rfl, _, _, rfl, rfl, .inr ⟨by decide, by decide⟩, _, _, rfl, rfl, (by show (0 : Int) < 2147483647; decide), ?_⟩
    have h1 := Int.emod_nonneg ((c + 7919 * k + 3) * 48271) (show (2147483647 : Int) ≠ 0 by decide)
    have h2 := Int.emod_lt_of_pos ((c + 7919 * k + 3) * 48271) (show (0 : Int) < 2147483647 by decide)
    refine ⟨_, rfl, _, rfl, _, _, rfl, rfl, .inl ⟨by omega, by omega⟩, _, _, rfl, rfl, (by show (0 : Int) < 2147483629; decide), ?_⟩
    exact q _ (Int.emod_nonneg _ (by decide)) (Int.emod_lt_of_pos _ (by decide))
end
/-! ### texts by their codes -/
abbrev tx (l : List Nat) : V := V.str (S l)
def Let (l : List Nat) : Prop := ∀ c ∈ l, 97 ≤ c ∧ c ≤ 122
def WordOk (l : List Nat) : Prop := 1 ≤ l.length ∧ l.length ≤ 10 ∧ Let l
theorem Let.app {a b : List Nat} (x : Let a) (y : Let b) : Let (a ++ b) := fun c h => (List.mem_append.mp h).elim (x c) (y c)
theorem Let.sub {a b : List Nat} (x : Let a) (h : ∀ c ∈ b, c ∈ a) : Let b := fun c q => x c (h c q)
theorem Let.one {c : Nat} (h : 97 ≤ c ∧ c ≤ 122) : Let [c] := fun d q => by
  rw [List.mem_singleton.mp q]
  exact h
theorem tx_eq {a b : List Nat} : decide (V.str (S a) = V.str (S b)) = decide (a = b) := by
  rw [Bool.eq_iff_iff, decide_eq_true_eq, decide_eq_true_eq]
  exact ⟨fun h => S_inj (V.str.inj h), fun h => by rw [h]⟩
theorem joinE : ∀ ys : List (List Nat), TL.joinL [] ys = ys.flatten
  | [] => rfl
  | [x] => by
    show x = [x].flatten
    simp
  | x :: y :: r => by
    have ih := joinE (y :: r)
    have e : TL.joinL [] (x :: y :: r) = x ++ ([] ++ TL.joinL [] (y :: r)) := by simp [TL.joinL]
    rw [e, ih, List.nil_append, ← List.flatten_cons]
theorem join0 (ys : List (List Nat)) : Txt.join (Str.ofString "") (ys.map S) = S ys.flatten := by
  rw [show Str.ofString "" = S [] by decide +kernel, join_S, joinE]
theorem map_tx (ys : List (List Nat)) : ys.map tx = (ys.map S).map V.str := by rw [List.map_map]; rfl
theorem lenS (ys : List (List Nat)) : ((ys.map S).map (·.length)) = ys.map (·.length) := SX.lens ys
theorem empLen : (Str.ofString "").length = 0 := by decide +kernel
abbrev alpha : List Nat := [97,98,99,100,101,102,103,104,105,106,107,108,109,110,111,112,113,114,115,116,117,118,119,120,121,122]
theorem alphaS : Str.ofString "abcdefghijklmnopqrstuvwxyz" = S alpha := by decide +kernel
theorem alphaLet : Let alpha := by
  have h : alpha.all (fun c => decide (97 ≤ c) && decide (c ≤ 122)) = true := by decide
  intro c hc
  have q := List.all_eq_true.mp h c hc
  simp only [Bool.and_eq_true, decide_eq_true_eq] at q
  exact q
theorem at_ofI {α : Type} {xs : List α} {i : Int} {v : α} (h0 : 0 ≤ i) (h : xs[i.toNat]? = some v) : atI xs i = some v := by
  have e : ((i.toNat : Nat) : Int) = i := by omega
  have q := atI_nat h
  rw [e] at q
  exact q
/-- an item of a list at a place within it -/
theorem at_in {α : Type} (xs : List α) {i : Int} (h0 : 0 ≤ i) (h : i < (xs.length : Int)) : ∃ c ∈ xs, atI xs i = some c := by
  have hi : i.toNat < xs.length := by omega
  exact ⟨xs[i.toNat], List.getElem_mem hi, at_ofI h0 (List.getElem?_eq_getElem hi)⟩
theorem at_map {α : Type} (g : α → V) (xs : List α) {i : Int} (h0 : 0 ≤ i) (h : i < (xs.length : Int)) : ∃ c ∈ xs, atI (xs.map g) i = some (g c) := by
  obtain ⟨v, hv, e⟩ := at_in (xs.map g) h0 (by rw [List.length_map]; exact h)
  obtain ⟨c, hc, rfl⟩ := List.mem_map.mp hv
  exact ⟨c, hc, e⟩
theorem flat_len {ys : List (List Nat)} (h : ∀ y ∈ ys, y.length = 1) : ys.flatten.length = ys.length := by
  induction ys with
  | nil => rfl
  | cons y r ih =>
    rw [List.flatten_cons, List.length_append, h y List.mem_cons_self, ih fun z hz => h z (List.mem_cons_of_mem _ hz), List.length_cons]
    omega
theorem flat_let {ys : List (List Nat)} (h : ∀ y ∈ ys, Let y) : Let ys.flatten := fun c hc => by
  obtain ⟨y, hy, q⟩ := List.mem_flatten.mp hc
  exact h y hy c q
theorem sum_ones {ys : List (List Nat)} (h : ∀ y ∈ ys, y.length = 1) : ((ys.map S).map (·.length)).sum = ys.length := by
  rw [lenS, ← flat_len h, List.length_flatten]
section
variable {P : Program} {w : World} {K : PySem.W.Frag} {mg : Str → Option Value} {base : Heap} {f : Addr} {fd : FuncData}
theorem scSigns : FnScope ["_law_cell", "_law_some", "_law_many", "_law_k"] ["_law_cell"] (defScope sSigns) := ⟨rfl, rfl, rfl, by decide +kernel, rfl, by decide +kernel, by decide +kernel⟩
def spSigns : Sp := fun vs H Q _ => ∃ (c : Int), vs = [.int c] ∧ ∀ (l : List Nat) (H' : Hp), Same H H' → Let l → 1 ≤ l.length → l.length ≤ 5 → Q (tx l) H'
theorem ok_signs (F : FnP K "_law_signs" sSigns f fd) (mR : mg "range" = none) : FnOk P w K mg base CX0 1 f fd ["_law_cell"] spSigns := by
  refine F.okN scSigns (fun vs H Q E h => ?_) (fun cdv A outer s H vs Q E hr h => ?_)
  · obtain ⟨c, rfl, _⟩ := h
    rfl
  · obtain ⟨c, rfl, q⟩ := h
    refine ⟨_, pss_cons (ps_set (i := 1) scSigns.nd rfl (.inr rfl) pe_str)
      (pss_cons (ps_set (i := 2) scSigns.nd rfl (.inl rfl) (pe_ix ix_list (pe_lst (pa_cons pe_int (pa_cons pe_int (pa_cons pe_int (pa_cons pe_int (pa_cons pe_int (pa_cons pe_int pa_nil))))))) (pe_op op_mod (pv 0) pe_int) (fun _ _ => rfl)))
      (pss_one (ps_ret (pe_join pe_str (pe_lc (own := [("_law_k", 3)]) (g := gName 3) (tt := tYes) rfl scSigns.nd (pi_range1 (by rfl) mR (pa_cons (pv 2) pa_nil)) (blkOk_by (own := [("_law_k", 3)]) (N := ["_law_cell", "_law_some", "_law_many", "_law_k"]) (sc := defScope sSigns) (by decide +kernel))
        (fun _ _ _ _ _ => pg_name (i := 3) scSigns.nd rfl (Or.inl rfl)) (fun _ _ _ _ _ => pts_nil)
        (fun _ _ _ _ _ => pe_ix ix_str (pv 1) (pe_op op_mod (pe_op op_add (pe_op op_fdiv (pv 0) pe_int) (pe_op op_mul (pe_op op_add pe_int (pe_op op_mod (pe_op op_fdiv (pv 0) pe_int) pe_int)) (pv 3))) pe_int) (fun _ _ => rfl))))))), ?_⟩
    -- _law_many = [2, 1, 2, 3, 2, 5][cell % 6]
    refine ⟨by show 6 ≤ sizeLine; decide, fun p hp => ⟨_, rfl, _, _, rfl, rfl, (by show (0 : Int) < 6; decide), ?_⟩⟩
    obtain ⟨m, hm, em⟩ := at_map V.int [2, 1, 2, 3, 2, 5] (i := c % 6) (Int.emod_nonneg _ (by decide)) (Int.emod_lt_of_pos _ (by decide))
    have hm1 : 1 ≤ m ∧ m ≤ 5 := by
      simp only [List.mem_cons, List.not_mem_nil, or_false] at hm
      omega
    refine ⟨p, _, _, _, rfl, rfl, .inl (.inl upd_same), em, ?_⟩
    -- ''.join([.. for _law_k in range(_law_many)])
    refine ⟨⟨_, rfl⟩, _, rfl, m, rfl, by omega, by omega, fun D hD => ?_⟩
    have s1 : Same H (upd H p (.lst ([2, 1, 2, 3, 2, 5].map V.int))) := same_upd hp
    refine lc_range (lo := 0) (n := m.toNat) (fun i H1 => Same H H1 ∧ ∃ ys : List (List Nat), H1 D = some (.lst (ys.map tx)) ∧ ys.length = i ∧ ∀ y ∈ ys, y.length = 1 ∧ Let y) ?_ ?_ ?_
    · exact ⟨s1.trans (same_upd hD), [], upd_same, rfl, fun y hy => nomatch hy⟩
    · rintro i H1 hi ⟨sm, ys, eD, el, hy⟩
      refine ⟨rfl, ?_⟩
      obtain ⟨d, hd, ed⟩ := at_in alpha (i := (c / 6 + (1 + c / 156 % 25) * (0 + (i : Int))) % 26) (Int.emod_nonneg _ (by decide)) (Int.emod_lt_of_pos _ (by decide))
      have b1 := Int.emod_nonneg (c / 156) (show (25 : Int) ≠ 0 by decide)
      have b2 := Int.emod_lt_of_pos (c / 156) (show (0 : Int) < 25 by decide)
      refine ⟨_, rfl, _, rfl, _, _, rfl, rfl, ⟨by decide, by decide⟩, _, rfl, _, _, rfl, rfl, ⟨by decide, by decide⟩, _, _, rfl, rfl, (by show (0 : Int) < 25; decide), _, _, rfl, rfl, _, rfl, _, _, rfl, rfl, .inl ⟨by omega, by omega⟩, _, _, rfl, rfl, _, _, rfl, rfl, (by show (0 : Int) < 26; decide), ?_⟩
      refine ⟨_, _, d, rfl, rfl, by decide +kernel, by rw [alphaS]; exact ed, ?_⟩
      refine ⟨ys.map tx, eD, ?_, ?_⟩
      · rw [List.length_map, el]
        exact small1000 (by omega)
      · refine ⟨fun b o e => ?_, ys ++ [[d]], ?_, by rw [List.length_append, el]; rfl, fun y hy' => ?_⟩
        · have nb : b ≠ D := ne_of_none (s1 _ _ e) hD
          rw [upd_ne nb]
          exact sm _ _ e
        · rw [upd_same, List.map_append]
          rfl
        · rcases List.mem_append.mp hy' with z | z
          · exact hy y z
          · rw [List.mem_singleton.mp z]
            exact ⟨rfl, Let.one (alphaLet d hd)⟩
    · rintro H1 ⟨sm, ys, eD, el, hy⟩
      have h1 : ∀ y ∈ ys, y.length = 1 := fun y h => (hy y h).1
      refine ⟨_, D, ys.map S, rfl, rfl, .inl (.inl (.inl (by rw [← map_tx]; exact eD))), ?_, ?_⟩
      · rw [sum_ones h1, List.length_map, empLen]
        omega
      · rw [join0]
        exact q _ _ sm (flat_let fun y h => (hy y h).2) (by rw [flat_len h1]; omega) (by rw [flat_len h1]; omega)
end
section
variable {P : Program} {w : World} {K : PySem.W.Frag} {mg : Str → Option Value} {base : Heap} {f fM : Addr} {fd fdM : FuncData}
theorem scWord : FnScope ["_law_cell", "_law_signs_here", "_law_size", "_law_j"] ["_law_cell", "_law_signs_here"] (defScope sWord) := ⟨rfl, rfl, rfl, by decide +kernel, rfl, by decide +kernel, by decide +kernel⟩
def spWord : Sp := fun vs H Q _ => ∃ (c : Int) (l : List Nat), vs = [.int c, tx l] ∧ Let l ∧ 1 ≤ l.length ∧ l.length ≤ 1000 ∧ ∀ (y : List Nat) (H' : Hp), Same H H' → WordOk y → Q (tx y) H'
theorem ok_word (F : FnP K "_law_word" sWord f fd) (M : Has K mg "_law_mixed" sMixed ["_law_cell", "_law_k"] fM fdM) (mR : mg "range" = none) (mL : mg "len" = none) : FnOk P w K mg base CX0 2 f fd ["_law_cell", "_law_signs_here"] spWord := by
  have GM : FnOk P w K mg base CX0 1 fM fdM ["_law_cell", "_law_k"] spMixed := ok_mixed M.F
  refine F.okN scWord (fun vs H Q E h => ?_) (fun cdv A outer s H vs Q E hr h => ?_)
  · obtain ⟨c, l, rfl, _⟩ := h
    rfl
  · obtain ⟨c, l, rfl, hl, l1, l2, q⟩ := h
    refine ⟨_, pss_cons (ps_set (i := 2) scWord.nd rfl (.inl rfl) (pe_ix ix_list (pe_lst (pa_cons pe_int (pa_cons pe_int (pa_cons pe_int (pa_cons pe_int (pa_cons pe_int (pa_cons (pe_op op_add pe_int (pe_op op_mod (pe_op op_fdiv (pv 0) pe_int) pe_int)) (pa_cons pe_int (pa_cons pe_int pa_nil))))))))) (pe_op op_mod (pv 0) pe_int) (fun _ _ => rfl)))
      (pss_one (ps_ret (pe_join pe_str (pe_lc (own := [("_law_j", 3)]) (g := gName 3) (tt := tYes) rfl scWord.nd (pi_range1 (by rfl) mR (pa_cons (pv 2) pa_nil)) (blkOk_by (own := [("_law_j", 3)]) (N := ["_law_cell", "_law_signs_here", "_law_size", "_law_j"]) (sc := defScope sWord) (by decide +kernel))
        (fun _ _ _ _ _ => pg_name (i := 3) scWord.nd rfl (Or.inl rfl)) (fun _ _ _ _ _ => pts_nil)
        (fun _ _ _ _ _ => pe_ix ix_str (pv 1) (pe_op op_mod (pe_op op_fdiv (pe_call GM hr (by rfl) M.g M.F.kp M.b .nil pass0 (pa_cons (pv 0) (pa_cons (pv 3) pa_nil))) pe_int) (pe_callB call_len_str (by rfl) mL boot_len (pa_cons (pv 1) pa_nil))) (fun _ _ => rfl)))))), ?_⟩
    have b1 := Int.emod_nonneg (c / 8) (show (10 : Int) ≠ 0 by decide)
    have b2 := Int.emod_lt_of_pos (c / 8) (show (0 : Int) < 10 by decide)
    refine ⟨_, rfl, _, _, rfl, rfl, ⟨by decide, by decide⟩, _, _, rfl, rfl, (by show (0 : Int) < 10; decide), _, _, rfl, rfl, by show 8 ≤ sizeLine; decide, fun p hp => ⟨_, rfl, _, _, rfl, rfl, (by show (0 : Int) < 8; decide), ?_⟩⟩
    obtain ⟨m, hm, em⟩ := at_map V.int [1, 2, 3, 2, 4, 1 + c / 8 % 10, 3, 2] (i := c % 8) (Int.emod_nonneg _ (by decide)) (Int.emod_lt_of_pos _ (by decide))
    have hm1 : 1 ≤ m ∧ m ≤ 10 := by
      simp only [List.mem_cons, List.not_mem_nil, or_false] at hm
      omega
    refine ⟨p, _, _, _, rfl, rfl, .inl (.inl upd_same), em, ?_⟩
    refine ⟨⟨_, rfl⟩, _, rfl, m, rfl, by omega, by omega, fun D hD => ?_⟩
    have s1 : Same H (upd H p (.lst ([1, 2, 3, 2, 4, 1 + c / 8 % 10, 3, 2].map V.int))) := same_upd hp
    refine lc_range (lo := 0) (n := m.toNat) (fun i H1 => Same H H1 ∧ ∃ ys : List (List Nat), H1 D = some (.lst (ys.map tx)) ∧ ys.length = i ∧ ∀ y ∈ ys, y.length = 1 ∧ Let y) ?_ ?_ ?_
    · exact ⟨s1.trans (same_upd hD), [], upd_same, rfl, fun y hy => nomatch hy⟩
    · rintro i H1 hi ⟨sm, ys, eD, el, hy⟩
      refine ⟨rfl, ?_⟩
      refine ⟨_, rfl, _, rfl, _, rfl, c, _, rfl, fun v v0 v1 => ?_⟩
      have lz : (S l).length = l.length := S_len l
      obtain ⟨d, hd, ed⟩ := at_in l (i := v / 64 % (l.length : Int)) (Int.emod_nonneg _ (by omega)) (Int.emod_lt_of_pos _ (by omega))
      refine ⟨_, _, rfl, rfl, ⟨by decide, by decide⟩, _, rfl, S l, rfl, by rw [lz]; exact Nat.le_of_lt (small1000 l2), _, _, rfl, rfl, (by show (0 : Int) < ((S l).length : Int); rw [lz]; omega), ?_⟩
      refine ⟨S l, _, d, rfl, rfl, by rw [lz]; exact Nat.le_of_lt (small1000 l2), by rw [lz]; exact ed, ?_⟩
      refine ⟨ys.map tx, eD, ?_, ?_⟩
      · rw [List.length_map, el]
        exact small1000 (by omega)
      · refine ⟨fun b o e => ?_, ys ++ [[d]], ?_, by rw [List.length_append, el]; rfl, fun y hy' => ?_⟩
        · have nb : b ≠ D := ne_of_none (s1 _ _ e) hD
          rw [upd_ne nb]
          exact sm _ _ e
        · rw [upd_same, List.map_append]
          rfl
        · rcases List.mem_append.mp hy' with z | z
          · exact hy y z
          · rw [List.mem_singleton.mp z]
            exact ⟨rfl, Let.one (hl d hd)⟩
    · rintro H1 ⟨sm, ys, eD, el, hy⟩
      have h1 : ∀ y ∈ ys, y.length = 1 := fun y h => (hy y h).1
      refine ⟨_, D, ys.map S, rfl, rfl, .inl (.inl (.inl (by rw [← map_tx]; exact eD))), ?_, ?_⟩
      · rw [sum_ones h1, List.length_map, empLen]
        omega
      · rw [join0]
        exact q _ _ sm ⟨by rw [flat_len h1]; omega, by rw [flat_len h1]; omega, flat_let fun y h => (hy y h).2⟩
end
/-! ### slices of texts -/
theorem sIx_pos (n d : Nat) {i : Int} (h : 0 ≤ i) : HT.sIx n d (some i) = min i.toNat n := by
  have e : i = ((i.toNat : Nat) : Int) := by omega
  have q := HT.sIx_nat n d i.toNat
  rw [← e] at q
  exact q
theorem cut_from {l : List Nat} {i : Int} (h : 0 ≤ i) : cutS (S l) (some i) none = S (l.drop i.toNat) := by
  unfold cutS
  rw [sIx_pos _ _ h, HT.sIx_none, S_len]
  refine congrArg S ?_
  show (l.drop (min i.toNat l.length)).take (l.length - min i.toNat l.length) = l.drop i.toNat
  rw [List.take_of_length_le (by rw [List.length_drop]; omega)]
  by_cases c : i.toNat ≤ l.length
  · rw [Nat.min_eq_left c]
  · rw [Nat.min_eq_right (by omega), List.drop_of_length_le (Nat.le_refl _), List.drop_of_length_le (by omega)]
theorem cut_to {l : List Nat} {i : Int} (h : 0 ≤ i) : cutS (S l) none (some i) = S (l.take i.toNat) := by
  unfold cutS
  rw [sIx_pos _ _ h, HT.sIx_none, S_len]
  refine congrArg S ?_
  show (l.drop 0).take (min i.toNat l.length - 0) = l.take i.toNat
  rw [List.drop_zero, Nat.sub_zero]
  by_cases c : i.toNat ≤ l.length
  · rw [Nat.min_eq_left c]
  · rw [Nat.min_eq_right (by omega), List.take_of_length_le (Nat.le_refl _), List.take_of_length_le (by omega)]
theorem cut_mid {l : List Nat} {i j : Int} (h : 0 ≤ i) (h2 : 0 ≤ j) : cutS (S l) (some i) (some j) = S ((l.drop i.toNat).take (j.toNat - i.toNat)) := by
  unfold cutS
  rw [sIx_pos _ _ h, sIx_pos _ _ h2, S_len]
  refine congrArg S ?_
  show (l.drop (min i.toNat l.length)).take (min j.toNat l.length - min i.toNat l.length) = (l.drop i.toNat).take (j.toNat - i.toNat)
  by_cases c : i.toNat ≤ l.length
  · rw [Nat.min_eq_left c]
    by_cases d : j.toNat ≤ l.length
    · rw [Nat.min_eq_left d]
    · rw [Nat.min_eq_right (by omega), List.take_of_length_le (by rw [List.length_drop]; omega), List.take_of_length_le (by rw [List.length_drop]; omega)]
  · have e1 : min i.toNat l.length = l.length := Nat.min_eq_right (by omega)
    rw [e1, List.drop_of_length_le (Nat.le_refl _), List.drop_of_length_le (by omega : l.length ≤ i.toNat), List.take_nil, List.take_nil]
theorem let_drop {l : List Nat} (h : Let l) (n : Nat) : Let (l.drop n) := h.sub fun _ q => List.mem_of_mem_drop q
theorem let_take {l : List Nat} (h : Let l) (n : Nat) : Let (l.take n) := h.sub fun _ q => List.mem_of_mem_take q
theorem size1000 {n : Nat} (h : n ≤ 1000) : n ≤ sizeLine := Nat.le_of_lt (small1000 h)
section
variable {P : Program} {w : World} {K : PySem.W.Frag} {mg : Str → Option Value} {base : Heap} {f fM fW : Addr} {fd fdM fdW : FuncData}
theorem scAny : FnScope ["_law_cell", "_law_word_here", "_law_more_here", "_law_j"] ["_law_cell"] (defScope sAny) := ⟨rfl, rfl, rfl, by decide +kernel, rfl, by decide +kernel, by decide +kernel⟩
def spAny : Sp := fun vs H Q _ => ∃ (c : Int), vs = [.int c] ∧ ∀ (y : List Nat), WordOk y → Q (tx y) H
theorem ok_any (F : FnP K "_law_any_word" sAny f fd) (mR : mg "range" = none) : FnOk P w K mg base CX0 1 f fd ["_law_cell"] spAny := by
  refine F.okN scAny (fun vs H Q E h => ?_) (fun cdv A outer s H vs Q E hr h => ?_)
  · obtain ⟨c, rfl, _⟩ := h
    rfl
  · obtain ⟨c, rfl, q⟩ := h
    refine ⟨_, pss_cons (ps_set (i := 1) scAny.nd rfl (.inl rfl) pe_str) (pss_cons (ps_set (i := 2) scAny.nd rfl (.inl rfl) (pe_op op_fdiv (pv 0) pe_int))
      (pss_cons (ps_for PassesOwn.never rfl (pi_range1 (by rfl) mR (pa_cons (pe_op op_add pe_int (pe_op op_mod (pv 0) pe_int)) pa_nil)) (pg_name (i := 3) scAny.nd rfl (Or.inl rfl))
        (pss_cons (ps_set (i := 1) scAny.nd rfl (.inl rfl) (pe_op op_add_str (pv 1) (pe_ix ix_str pe_str (pe_op op_mod (pv 2) pe_int) (fun _ _ => rfl))))
          (pss_one (ps_set (i := 2) scAny.nd rfl (.inl rfl) (pe_op op_fdiv (pv 2) pe_int)))))
      (pss_one (ps_ret (pv 1))))), ?_⟩
    have b1 := Int.emod_nonneg c (show (10 : Int) ≠ 0 by decide)
    have b2 := Int.emod_lt_of_pos c (show (0 : Int) < 10 by decide)
    refine ⟨_, rfl, _, _, rfl, rfl, ⟨by decide, by decide⟩, ?_⟩
    refine ⟨_, rfl, _, _, rfl, rfl, (by show (0 : Int) < 10; decide), _, _, rfl, rfl, _, rfl, by omega, by omega, ?_⟩
    refine for_range (lo := 0) (n := (1 + c % 10).toNat) (fun i σ H1 => H1 = H ∧ ∃ (y : List Nat) (m : Int) (kv : Option V), σ = [some (.int c), some (tx y), some (.int m), kv] ∧ y.length = i ∧ Let y) ?_ ?_ ?_
    · refine ⟨rfl, [], c / 10, none, ?_, rfl, fun c hc => nomatch hc⟩
      show [some (V.int c), some (V.str (Str.ofString "")), some (V.int (c / 10)), none] = _
      rw [show Str.ofString "" = S [] by decide +kernel]
    · rintro i σ H1 hi ⟨rfl, y, m, kv, rfl, el, hy⟩
      obtain ⟨d, hd, ed⟩ := at_in alpha (i := m % 26) (Int.emod_nonneg _ (by decide)) (Int.emod_lt_of_pos _ (by decide))
      refine ⟨_, rfl, _, rfl, _, _, rfl, rfl, (by show (0 : Int) < 26; decide), _, _, d, rfl, rfl, by decide +kernel, by rw [alphaS]; exact ed, S y, ⟨#[d]⟩, rfl, rfl, ?_, ?_⟩
      · rw [S_len, el]
        show i + 1 ≤ sizeLine
        exact size1000 (by omega)
      · refine ⟨_, rfl, _, _, rfl, rfl, ⟨by decide, by decide⟩, rfl, y ++ [d], m / 26, some (.int (0 + (i : Int))), ?_, by rw [List.length_append, el]; rfl, hy.app (Let.one (alphaLet d hd))⟩
        have e : (S y ++ (⟨#[d]⟩ : Str)) = S (y ++ [d]) := S_cat y [d]
        rw [e]
        rfl
    · rintro σ H1 ⟨rfl, y, m, kv, rfl, el, hy⟩
      exact ⟨_, rfl, q y ⟨by omega, by omega, hy⟩⟩
theorem scMore : FnScope ["_law_words_here", "_law_cell", "_law_signs_here", "_law_one", "_law_other", "_law_at_here", "_law_some"] ["_law_words_here", "_law_cell", "_law_signs_here"] (defScope sMore) := ⟨rfl, rfl, rfl, by decide +kernel, rfl, by decide +kernel, by decide +kernel⟩
def spMore (K : PySem.W.Frag) : Sp := fun vs H Q _ => ∃ (a : Addr) (ws : List (List Nat)) (c : Int) (l : List Nat), vs = [.ref a, .int c, tx l] ∧ SqL K H a (ws.map tx) ∧ 1 ≤ ws.length ∧ (∀ x ∈ ws, WordOk x) ∧
  Let l ∧ 1 ≤ l.length ∧ l.length ≤ 1000 ∧ ∀ (y : List Nat) (H' : Hp), Same H H' → WordOk y → Q (tx y) H'
theorem ok_more (F : FnP K "_law_more" sMore f fd) (W : Has K mg "_law_word" sWord ["_law_cell", "_law_signs_here"] fW fdW) (M : Has K mg "_law_mixed" sMixed ["_law_cell", "_law_k"] fM fdM) (mR : mg "range" = none) (mL : mg "len" = none) :
    FnOk P w K mg base CX0 3 f fd ["_law_words_here", "_law_cell", "_law_signs_here"] (spMore K) := by
  have GW : FnOk P w K mg base CX0 2 fW fdW ["_law_cell", "_law_signs_here"] spWord := ok_word W.F M mR mL
  refine F.okN scMore (fun vs H Q E h => ?_) (fun cdv A outer s H vs Q E hr h => ?_)
  · obtain ⟨a, ws, c, l, rfl, _⟩ := h
    rfl
  · obtain ⟨a, ws, c, l, rfl, hS, hn, hw, hl, l1, l2, q⟩ := h
    refine ⟨_, pss_cons (ps_set (i := 3) scMore.nd rfl (.inl rfl) (pe_ix ix_list (pv 0) (pe_op op_mod (pe_op op_fdiv (pv 1) pe_int) (pe_callB call_len_seq (by rfl) mL boot_len (pa_cons (pv 0) pa_nil))) (fun _ _ => rfl)))
      (pss_cons (ps_set (i := 4) scMore.nd rfl (.inl rfl) (pe_ix ix_list (pv 0) (pe_op op_mod (pe_op op_fdiv (pv 1) pe_int) (pe_callB call_len_seq (by rfl) mL boot_len (pa_cons (pv 0) pa_nil))) (fun _ _ => rfl)))
      (pss_cons (ps_set (i := 5) scMore.nd rfl (.inl rfl) (pe_op op_mod (pe_op op_fdiv (pv 1) pe_int) (pe_callB call_len_str (by rfl) mL boot_len (pa_cons (pv 3) pa_nil))))
      (pss_cons (ps_set (i := 6) scMore.nd rfl (.inl rfl) (pe_lst (pa_cons (pe_op op_add_str (pv 3) (pv 4)) (pa_cons (pe_op op_add_str (pv 3) (pv 4)) (pa_cons (pe_op op_add_str (pv 4) (pv 3))
          (pa_cons (pe_op op_add_str (pv 3) (pe_call GW hr (by rfl) W.g W.F.kp W.b .nil pass0 (pa_cons (pe_op op_fdiv (pv 1) pe_int) (pa_cons (pv 2) pa_nil))))
          (pa_cons (pe_op op_add_str (pe_call GW hr (by rfl) W.g W.F.kp W.b .nil pass0 (pa_cons (pe_op op_fdiv (pv 1) pe_int) (pa_cons (pv 2) pa_nil))) (pv 3)) pa_nil)))))))
      (pss_one (ps_ret (pe_slice sl_str (pe_ix ix_list (pe_op op_cat (pv 6) (pe_lst (pa_cons (pe_slice sl_str (pv 3) (po_some (pv 5)) po_none) (pa_cons (pe_slice sl_str (pv 3) po_none (po_some (pe_op op_add (pv 5) pe_int)))
          (pa_cons (pe_op op_add_str (pe_slice sl_str (pv 3) (po_some (pv 5)) po_none) (pv 4)) pa_nil))))) (pe_op op_mod (pv 1) pe_int) (fun _ _ => rfl)) po_none (po_some pe_int))))))), ?_⟩
    have en : (ws.map tx).length = ws.length := List.length_map _
    obtain ⟨one, ho, eo⟩ := at_map tx ws (i := c / 8 % (ws.length : Int)) (Int.emod_nonneg _ (by omega)) (Int.emod_lt_of_pos _ (by omega))
    obtain ⟨oth, hp, ep⟩ := at_map tx ws (i := c / 104 % (ws.length : Int)) (Int.emod_nonneg _ (by omega)) (Int.emod_lt_of_pos _ (by omega))
    obtain ⟨o1, o2, o3⟩ := hw one ho
    obtain ⟨p1, p2, p3⟩ := hw oth hp
    have lo : (S one).length = one.length := S_len one
    have lp : (S oth).length = oth.length := S_len oth
    refine ⟨_, rfl, _, rfl, _, _, rfl, rfl, ⟨by decide, by decide⟩, _, rfl, a, _, rfl, .inl hS, _, _, rfl, rfl, (by show (0 : Int) < ((ws.map tx).length : Int); rw [en]; omega), a, _, _, tx one, rfl, rfl, hS, by rw [en]; exact eo, ?_⟩
    refine ⟨_, rfl, _, rfl, _, _, rfl, rfl, ⟨by decide, by decide⟩, _, rfl, a, _, rfl, .inl hS, _, _, rfl, rfl, (by show (0 : Int) < ((ws.map tx).length : Int); rw [en]; omega), a, _, _, tx oth, rfl, rfl, hS, by rw [en]; exact ep, ?_⟩
    refine ⟨_, rfl, _, _, rfl, rfl, ⟨by decide, by decide⟩, _, rfl, _, rfl, by rw [lo]; exact size1000 (by omega), _, _, rfl, rfl, (by show (0 : Int) < ((S one).length : Int); rw [lo]; omega), ?_⟩
    have i0 := Int.emod_nonneg (c / 1352) (show ((S one).length : Int) ≠ 0 by rw [lo]; omega)
    have i1 := Int.emod_lt_of_pos (c / 1352) (show (0 : Int) < ((S one).length : Int) by rw [lo]; omega)
    obtain ⟨i, hi⟩ : ∃ i : Int, i = c / 1352 % ((S one).length : Int) := ⟨_, rfl⟩
    rw [← hi] at i0 i1
    rw [lo] at i1
    have hv1 := congrArg V.int hi.symm
    -- some = [..]
    refine ⟨_, rfl, _, rfl, _, _, rfl, rfl, by rw [lo, lp]; exact size1000 (by omega), _, rfl, _, rfl, _, _, rfl, rfl, by rw [lo, lp]; exact size1000 (by omega), _, rfl, _, rfl, _, _, rfl, rfl, by rw [lo, lp]; exact size1000 (by omega), ?_⟩
    refine ⟨_, rfl, _, rfl, _, _, rfl, rfl, ⟨by decide, by decide⟩, _, rfl, _, l, rfl, hl, l1, l2, fun y1 H1 sm1 ⟨y11, y12, y13⟩ => ⟨_, _, rfl, rfl, by rw [lo, S_len]; exact size1000 (by omega), ?_⟩⟩
    refine ⟨_, rfl, _, _, rfl, rfl, ⟨by decide, by decide⟩, _, rfl, _, l, rfl, hl, l1, l2, fun y2 H2 sm2 ⟨y21, y22, y23⟩ => ⟨_, rfl, _, _, rfl, rfl, by rw [lo, S_len]; exact size1000 (by omega), ?_⟩⟩
    refine ⟨by show 5 ≤ sizeLine; decide, fun u hu => ?_⟩
    -- the second list
    have zl : ∀ {x : List Nat}, x.length ≤ 1000 → (S x).length ≤ sizeLine := fun {x} h => by rw [S_len]; exact size1000 h
    refine ⟨_, rfl, _, rfl, _, rfl, i, hv1, S one, rfl, zl (by omega), ?_⟩
    refine ⟨_, rfl, _, rfl, i, 1, hv1, rfl, i + 1, rfl, S one, rfl, zl (by omega), ?_⟩
    refine ⟨_, rfl, _, rfl, i, hv1, S one, rfl, zl (by omega), _, rfl, _, _, rfl, rfl, by rw [cut_from i0, S_len, lp, List.length_drop]; exact size1000 (by omega), ?_⟩
    refine ⟨by show 3 ≤ sizeLine; decide, fun v hv => ?_⟩
    have nuv : u ≠ v := fun e => by
      rw [← e, upd_same] at hv
      cases hv
    have hv2 : H2 v = none := (same_upd hu).free hv
    have hv3 : ∀ o, (upd H2 u o) v = none := fun o => by rw [upd_ne nuv.symm]; exact hv2
    rw [cut_from i0, cut_to (by omega : (0 : Int) ≤ i + 1), S_cat, S_cat, S_cat, S_cat, S_cat]
    refine ⟨u, v, [tx (one ++ oth), tx (one ++ oth), tx (oth ++ one), tx (one ++ y1), tx (y2 ++ one)], [tx (one.drop i.toNat), tx (one.take (i + 1).toNat), tx (one.drop i.toNat ++ oth)], rfl, rfl, by rw [upd_ne nuv, upd_same], upd_same, by show 8 ≤ sizeLine; decide, fun r hr0 => ?_⟩
    obtain ⟨z, hz, ez⟩ := at_map tx [one ++ oth, one ++ oth, oth ++ one, one ++ y1, y2 ++ one, one.drop i.toNat, one.take (i + 1).toNat, one.drop i.toNat ++ oth] (i := c % 8) (Int.emod_nonneg _ (by decide)) (Int.emod_lt_of_pos _ (by decide))
    have hz2 : 1 ≤ z.length ∧ z.length ≤ 20 ∧ Let z := by
      have d1 : (one.drop i.toNat).length = one.length - i.toNat := List.length_drop
      have d2 : (one.take (i + 1).toNat).length = min (i + 1).toNat one.length := List.length_take
      have d3 : i.toNat < one.length := by omega
      simp only [List.mem_cons, List.not_mem_nil, or_false] at hz
      rcases hz with rfl | rfl | rfl | rfl | rfl | rfl | rfl | rfl
      · rw [List.length_append]; exact ⟨by omega, by omega, o3.app p3⟩
      · rw [List.length_append]; exact ⟨by omega, by omega, o3.app p3⟩
      · rw [List.length_append]; exact ⟨by omega, by omega, p3.app o3⟩
      · rw [List.length_append]; exact ⟨by omega, by omega, o3.app y13⟩
      · rw [List.length_append]; exact ⟨by omega, by omega, y23.app o3⟩
      · rw [d1]; exact ⟨by omega, by omega, let_drop o3 _⟩
      · rw [d2]; exact ⟨by omega, by omega, let_take o3 _⟩
      · rw [List.length_append, d1]; exact ⟨by omega, by omega, (let_drop o3 _).app p3⟩
    refine ⟨_, rfl, _, _, rfl, rfl, (by show (0 : Int) < 8; decide), r, _, _, tx z, rfl, rfl, .inl (.inl upd_same), ez, 10, rfl, S z, rfl, zl (by omega), ?_⟩
    rw [cut_to (by decide)]
    refine q (z.take 10) _ ?_ ⟨?_, ?_, let_take hz2.2.2 _⟩
    · exact ((sm1.trans sm2).trans (same_upd hu)).trans ((same_upd (hv3 _)).trans (same_upd hr0))
    · rw [List.length_take]; omega
    · rw [List.length_take]; omega
end
/-! ### slices of lists -/
theorem cutv_from {xs : List V} {i : Int} (h : 0 ≤ i) : cutV xs (some i) none = xs.drop i.toNat := by
  unfold cutV
  rw [sIx_pos _ _ h, HT.sIx_none]
  rw [List.take_of_length_le (by rw [List.length_drop]; omega)]
  by_cases c : i.toNat ≤ xs.length
  · rw [Nat.min_eq_left c]
  · rw [Nat.min_eq_right (by omega), List.drop_of_length_le (Nat.le_refl _), List.drop_of_length_le (by omega)]
theorem cutv_to {xs : List V} {i : Int} (h : 0 ≤ i) : cutV xs none (some i) = xs.take i.toNat := by
  unfold cutV
  rw [sIx_pos _ _ h, HT.sIx_none, List.drop_zero, Nat.sub_zero]
  by_cases c : i.toNat ≤ xs.length
  · rw [Nat.min_eq_left c]
  · rw [Nat.min_eq_right (by omega), List.take_of_length_le (Nat.le_refl _), List.take_of_length_le (by omega)]
theorem at_last {α : Type} (g : α → V) {xs : List α} (h : 1 ≤ xs.length) : ∃ c ∈ xs, atI (xs.map g) (-1) = some (g c) := by
  have hne : xs ≠ [] := fun e => by
    rw [e] at h
    exact absurd h (Nat.not_succ_le_zero 0)
  refine ⟨xs.getLast hne, List.getLast_mem hne, ?_⟩
  have e : xs.map g = (xs.dropLast.map g) ++ [g (xs.getLast hne)] := by
    rw [← List.map_singleton, ← List.map_append, List.dropLast_concat_getLast]
  rw [e]
  exact atI_last _ _
theorem seqL {K : PySem.W.Frag} {H : Hp} {a : Addr} {xs : List V} (h : H a = some (.lst xs)) : SqL K H a xs := .inl (.inl h)
section
variable {P : Program} {w : World} {K : PySem.W.Frag} {mg : Str → Option Value} {base : Heap} {f fA fM fW : Addr} {fd fdA fdM fdW : FuncData}
theorem scChain : FnScope ["_law_script", "_law_first", "_law_signs_here", "_law_links", "_law_k", "_law_words_here", "_law_turn"] ["_law_script", "_law_first", "_law_signs_here"] (defScope sChain) := ⟨rfl, rfl, rfl, by decide +kernel, rfl, by decide +kernel, by decide +kernel⟩
def spChain (K : PySem.W.Frag) : Sp := fun vs H Q _ => ∃ (a : Addr) (ns : List Int) (first : Int) (l : List Nat), vs = [.ref a, .int first, tx l] ∧ SqL K H a (ns.map V.int) ∧ 0 ≤ first ∧ Let l ∧ 1 ≤ l.length ∧ l.length ≤ 1000 ∧
  ∀ (r : Addr) (zs : List (List Nat)) (H' : Hp), Same H H' → H r = none → H' r = some (.lst (zs.map tx)) → zs.length ≤ 9 → (∀ z ∈ zs, WordOk z) → Q (.ref r) H'
theorem ok_chain (F : FnP K "_law_chain" sChain f fd) (A : Has K mg "_law_at" sAt ["_law_script", "_law_k"] fA fdA) (W : Has K mg "_law_word" sWord ["_law_cell", "_law_signs_here"] fW fdW) (M : Has K mg "_law_mixed" sMixed ["_law_cell", "_law_k"] fM fdM) (mR : mg "range" = none) (mL : mg "len" = none) :
    FnOk P w K mg base CX0 3 f fd ["_law_script", "_law_first", "_law_signs_here"] (spChain K) := by
  have GW : FnOk P w K mg base CX0 2 fW fdW ["_law_cell", "_law_signs_here"] spWord := ok_word W.F M mR mL
  have GM : FnOk P w K mg base CX0 2 fM fdM ["_law_cell", "_law_k"] spMixed := (ok_mixed M.F).mono (by decide)
  have GA : FnOk P w K mg base CX0 2 fA fdA ["_law_script", "_law_k"] (spAt K) := (ok_at A.F mL).mono (by decide)
  refine F.okN scChain (fun vs H Q E h => ?_) (fun cdv A' outer s H vs Q E hr h => ?_)
  · obtain ⟨a, ns, first, l, rfl, _⟩ := h
    rfl
  · obtain ⟨a, ns, first, l, rfl, hS, h0, hl, l1, l2, q⟩ := h
    refine ⟨_, pss_cons (ps_set (i := 3) scChain.nd rfl (.inr rfl) (pe_lst pa_nil))
      (pss_cons (ps_for PassesOwn.never rfl (pi_range1 (by rfl) mR (pa_cons (pe_op op_add pe_int (pe_op op_mod (pe_op op_fdiv (pe_call GA hr (by rfl) A.g A.F.kp A.b .nil pass0 (pa_cons (pv 0) (pa_cons (pv 1) pa_nil))) pe_int) pe_int)) pa_nil)) (pg_name (i := 4) scChain.nd rfl (Or.inl rfl))
        (pss_one (ps_expr (pe_bm PySem.F.plainAttrs_list PySem.F.slot_list_append PySem.F.type_list_append mt_append (pv 3)
          (pa_cons (pe_slice sl_str (pe_call GW hr (by rfl) W.g W.F.kp W.b .nil pass0 (pa_cons (pe_call GM hr (by rfl) M.g M.F.kp M.b .nil pass0 (pa_cons (pe_call GA hr (by rfl) A.g A.F.kp A.b .nil pass0 (pa_cons (pv 0) (pa_cons (pe_op op_add (pe_op op_add (pv 1) pe_int) (pe_op op_mod (pv 4) pe_int)) pa_nil))) (pa_cons (pv 4) pa_nil))) (pa_cons (pv 2) pa_nil))) po_none (po_some pe_int)) pa_nil)))))
      (pss_cons (ps_set (i := 5) scChain.nd rfl (.inl rfl) (pe_op op_cat (pe_lst (pa_cons (pe_ix ix_list (pv 3) pe_int (fun _ _ => rfl)) pa_nil))
        (pe_lc (own := [("_law_k", 4)]) (g := gName 4) (tt := tYes) rfl scChain.nd (pi_range2 (by rfl) mR (pa_cons pe_int (pa_cons (pe_callB call_len_seq (by rfl) mL boot_len (pa_cons (pv 3) pa_nil)) pa_nil))) (blkOk_by (own := [("_law_k", 4)]) (N := ["_law_script", "_law_first", "_law_signs_here", "_law_links", "_law_k", "_law_words_here", "_law_turn"]) (sc := defScope sChain) (by decide +kernel))
          (fun _ _ _ _ _ => pg_name (i := 4) scChain.nd rfl (Or.inl rfl)) (fun _ _ _ _ _ => pts_nil)
          (fun _ _ _ _ _ => pe_op op_add_str (pe_ix (r := rIxL K) ix_list (pv 3) (pe_op op_sub (pv 4) pe_int) (fun _ _ => rfl)) (pe_ix (r := rIxL K) ix_list (pv 3) (pv 4) (fun _ _ => rfl))))))
      (C8.pss_cut (ps_if (pt_cmpR op_eq (pe_op op_mod (pe_op op_fdiv (pe_call GA hr (by rfl) A.g A.F.kp A.b .nil pass0 (pa_cons (pv 0) (pa_cons (pv 1) pa_nil))) pe_int) pe_int) pe_int (nomark _))
          (pss_one (ps_expr (pe_bm PySem.F.plainAttrs_list PySem.F.slot_list_append PySem.F.type_list_append mt_append (pv 5) (pa_cons (pe_ix ix_list (pv 3) (pe_un un_neg pe_int) (fun _ _ => rfl)) pa_nil)))) pss_nil)
      (pss_cons (ps_set (i := 6) scChain.nd rfl (.inl rfl) (pe_op op_mod (pe_call GA hr (by rfl) A.g A.F.kp A.b .nil pass0 (pa_cons (pv 0) (pa_cons (pe_op op_add (pv 1) pe_int) pa_nil))) (pe_callB call_len_seq (by rfl) mL boot_len (pa_cons (pv 5) pa_nil))))
      (pss_one (ps_ret (pe_op op_cat (pe_slice sl_list (pv 5) (po_some (pv 6)) po_none) (pe_slice sl_list (pv 5) po_none (po_some (pv 6)))))))))), ?_⟩
    refine ⟨Nat.zero_le _, fun p hp => ?_⟩
    have s1 : Same H (upd H p (.lst [])) := same_upd hp
    refine ⟨_, rfl, _, rfl, a, ns, first, rfl, s1.seq hS, h0, fun v => ⟨_, _, rfl, rfl, ⟨by decide, by decide⟩, _, _, rfl, rfl, (by show (0 : Int) < 7; decide), _, _, rfl, rfl, _, rfl, ?_⟩⟩
    have b1 := Int.emod_nonneg (v / 40) (show (7 : Int) ≠ 0 by decide)
    have b2 := Int.emod_lt_of_pos (v / 40) (show (0 : Int) < 7 by decide)
    refine ⟨by omega, by omega, ?_⟩
    refine for_range (lo := 0) (n := (2 + v / 40 % 7).toNat) (fun i σ H1 => Same H H1 ∧ ∃ (ys : List (List Nat)) (kv : Option V), σ = [some (.ref a), some (.int first), some (tx l), some (.ref p), kv, none, none] ∧ H1 p = some (.lst (ys.map tx)) ∧ ys.length = i ∧ ∀ y ∈ ys, 1 ≤ y.length ∧ y.length ≤ 5 ∧ Let y) ?_ ?_ ?_
    · exact ⟨s1, [], none, rfl, upd_same, rfl, fun y hy => nomatch hy⟩
    · rintro i σ H1 hi ⟨sm, ys, kv, rfl, eD, el, hy⟩
      refine ⟨_, rfl, .inl ⟨rfl, _, seqL eD⟩, ?_⟩
      refine ⟨_, rfl, _, rfl, _, _, rfl, rfl, _, rfl, _, _, rfl, rfl, (by show (0 : Int) < 6; decide), _, _, rfl, rfl, a, ns, _, rfl, sm.seq hS, by omega, fun c => ?_⟩
      refine ⟨_, rfl, c, _, rfl, fun m m0 m1 => ⟨_, rfl, m, l, rfl, hl, l1, l2, fun y H2 sm2 ⟨y1, y2, y3⟩ => ?_⟩⟩
      refine ⟨5, rfl, S y, rfl, by rw [S_len]; exact size1000 (by omega), ?_⟩
      rw [cut_to (by decide)]
      refine ⟨p, _, _, rfl, rfl, sm2 _ _ eD, by rw [List.length_map]; exact small1000 (by omega), ?_⟩
      refine ⟨fun b o e => ?_, ys ++ [y.take 5], _, rfl, ?_, by rw [List.length_append, el]; rfl, fun z hz => ?_⟩
      · rw [upd_ne (ne_of_none e hp)]
        exact sm2 _ _ (sm _ _ e)
      · rw [upd_same, List.map_append]
        rfl
      · rcases List.mem_append.mp hz with z1 | z1
        · exact hy z z1
        · rw [List.mem_singleton.mp z1, List.length_take]
          exact ⟨by omega, by omega, let_take y3 _⟩
    · rintro σ H1 ⟨sm, ys, kv, rfl, eD, el, hy⟩
      have hyl : 2 ≤ ys.length ∧ ys.length ≤ 8 := by omega
      obtain ⟨y0, hy0, e0⟩ := at_map tx ys (i := 0) (by decide) (by omega)
      refine ⟨_, rfl, p, _, 0, _, rfl, rfl, seqL eD, e0, by show 1 ≤ sizeLine; decide, fun u hu => ?_⟩
      have s2 : Same H1 (upd H1 u (.lst [tx y0])) := same_upd hu
      have npu : p ≠ u := ne_of_none eD hu
      refine ⟨_, rfl, p, _, rfl, .inl (seqL (s2 _ _ eD)), 1, _, rfl, ⟨by decide, by decide, by rw [List.length_map]; omega, by rw [List.length_map]; omega⟩, fun D hD => ?_⟩
      have nuD : u ≠ D := fun e => by
        rw [← e, upd_same] at hD
        cases hD
      have npD : p ≠ D := ne_of_none (s2 _ _ eD) hD
      have en : (((ys.map tx).length : Int) - 1).toNat = ys.length - 1 := by rw [List.length_map]; omega
      rw [en]
      refine lc_range (lo := 1) (n := ys.length - 1) (fun i H2 => Same H H2 ∧ H2 p = some (.lst (ys.map tx)) ∧ H2 u = some (.lst [tx y0]) ∧ ∃ zs : List (List Nat), H2 D = some (.lst (zs.map tx)) ∧ zs.length = i ∧ ∀ z ∈ zs, WordOk z) ?_ ?_ ?_
      · refine ⟨(sm.trans s2).trans (same_upd hD), by rw [upd_ne npD]; exact s2 _ _ eD, by rw [upd_ne nuD, upd_same], [], upd_same, rfl, fun z hz => nomatch hz⟩
      · rintro i H2 hi ⟨sm2, ep, eu, zs, eZ, ez, hz⟩
        obtain ⟨x1, hx1, e1⟩ := at_map tx ys (i := 1 + (i : Int) - 1) (by omega) (by omega)
        obtain ⟨x2, hx2, e2⟩ := at_map tx ys (i := 1 + (i : Int)) (by omega) (by omega)
        have d1 := hy x1 hx1
        have d2 := hy x2 hx2
        refine ⟨rfl, _, rfl, _, rfl, _, _, rfl, rfl, p, _, _, _, rfl, rfl, seqL ep, e1, _, rfl, _, rfl, p, _, _, _, rfl, rfl, seqL ep, e2, S x1, S x2, rfl, rfl, by rw [S_len, S_len]; exact size1000 (by omega), ?_⟩
        rw [S_cat]
        refine ⟨_, eZ, by rw [List.length_map]; exact small1000 (by omega), fun b o e => ?_, by rw [upd_ne npD]; exact ep, by rw [upd_ne nuD]; exact eu, zs ++ [x1 ++ x2], ?_, by rw [List.length_append, ez]; rfl, fun z hz' => ?_⟩
        · rw [upd_ne (ne_of_none ((sm.trans s2) _ _ e) hD)]
          exact sm2 _ _ e
        · rw [upd_same, List.map_append]
          rfl
        · rcases List.mem_append.mp hz' with z1 | z1
          · exact hz z z1
          · rw [List.mem_singleton.mp z1]
            exact ⟨by rw [List.length_append]; omega, by rw [List.length_append]; omega, d1.2.2.app d2.2.2⟩
      · rintro H2 ⟨sm2, ep, eu, zs, eZ, ez, hz⟩
        refine ⟨u, D, _, _, rfl, rfl, eu, eZ, by rw [List.length_map]; exact size1000 (by show 1 + zs.length ≤ 1000; omega), fun r hr0 => ?_⟩
        have s3 : Same H2 (upd H2 r (.lst ([tx y0] ++ zs.map tx))) := same_upd hr0
        have npr : p ≠ r := ne_of_none ep hr0
        have hHr : H r = none := sm2.free hr0
        have w0 : WordOk y0 := ⟨(hy y0 hy0).1, by have := (hy y0 hy0).2.1; omega, (hy y0 hy0).2.2⟩
        -- if .. : words_here.append(links[-1])
        refine ⟨fun σ H3 => Same H H3 ∧ ∃ (vs : List (List Nat)) (kv : Option V), σ = [some (.ref a), some (.int first), some (tx l), some (.ref p), kv, some (.ref r), none] ∧ H3 r = some (.lst (vs.map tx)) ∧ 1 ≤ vs.length ∧ vs.length ≤ 9 ∧ ∀ z ∈ vs, WordOk z, ?_, ?_⟩
        · refine ⟨_, rfl, _, rfl, a, ns, first, rfl, (sm2.trans s3).seq hS, h0, fun v2 => ⟨_, _, rfl, rfl, ⟨by decide, by decide⟩, _, _, rfl, rfl, (by show (0 : Int) < 2; decide), rfl, _, rfl, ite2 (fun _ => ?_) (fun _ => ?_)⟩⟩
          · obtain ⟨y9, hy9, e9⟩ := at_last tx (xs := ys) (by omega)
            have w9 : WordOk y9 := ⟨(hy y9 hy9).1, by have := (hy y9 hy9).2.1; omega, (hy y9 hy9).2.2⟩
            refine ⟨_, rfl, .inl ⟨rfl, _, seqL upd_same⟩, ?_⟩
            refine ⟨_, rfl, 1, rfl, p, _, _, _, rfl, rfl, seqL (s3 _ _ ep), e9, r, _, _, rfl, rfl, upd_same, ?_, ?_⟩
            · show (zs.map tx).length + 1 < sizeLine
              rw [List.length_map]
              exact small1000 (by omega)
            · refine ⟨fun b o e => ?_, y0 :: zs ++ [y9], _, rfl, ?_, by rw [List.length_append]; show 1 ≤ _ + 1; omega, by rw [List.length_append]; show (zs.length + 1) + 1 ≤ 9; omega, fun z hz' => ?_⟩
              · rw [upd_ne (ne_of_none e hHr)]
                exact s3 _ _ (sm2 _ _ e)
              · rw [upd_same, List.map_append]
                rfl
              · rcases List.mem_append.mp hz' with z1 | z1
                · rcases List.mem_cons.mp z1 with z2 | z2
                  · rw [z2]; exact w0
                  · exact hz z z2
                · rw [List.mem_singleton.mp z1]
                  exact w9
          · refine ⟨sm2.trans s3, y0 :: zs, _, rfl, upd_same, by show 1 ≤ zs.length + 1; omega, by show zs.length + 1 ≤ 9; omega, fun z hz' => ?_⟩
            rcases List.mem_cons.mp hz' with z2 | z2
            · rw [z2]; exact w0
            · exact hz z z2
        · rintro σ H3 ⟨sm3, vs, kv, rfl, eR, v1, v2, hv⟩
          refine ⟨_, rfl, _, rfl, _, _, rfl, rfl, a, ns, _, rfl, sm3.seq hS, by omega, fun c => ⟨_, rfl, r, _, rfl, .inl (seqL eR), _, _, rfl, rfl, (by show (0 : Int) < ((vs.map tx).length : Int); rw [List.length_map]; omega), ?_⟩⟩
          have i0 := Int.emod_nonneg c (show ((vs.map tx).length : Int) ≠ 0 by rw [List.length_map]; omega)
          obtain ⟨i, hi⟩ : ∃ i : Int, i = c % ((vs.map tx).length : Int) := ⟨_, rfl⟩
          have hiv := congrArg V.int hi.symm
          rw [← hi] at i0
          refine ⟨_, rfl, _, rfl, i, hiv, r, _, rfl, seqL eR, fun g1 hg1 => ?_⟩
          rw [cutv_from i0]
          have s4 := same_upd (o := .lst ((vs.map tx).drop i.toNat)) hg1
          refine ⟨_, rfl, _, rfl, i, hiv, r, _, rfl, seqL (s4 _ _ eR), fun g2 hg2 => ?_⟩
          rw [cutv_to i0]
          have n12 : g1 ≠ g2 := fun e => by
            rw [← e, upd_same] at hg2
            cases hg2
          have s5 := same_upd (o := .lst ((vs.map tx).take i.toNat)) hg2
          refine ⟨g1, g2, _, _, rfl, rfl, by rw [upd_ne n12, upd_same], upd_same, ?_, fun g3 hg3 => ?_⟩
          · rw [List.length_drop, List.length_take, List.length_map]
            exact size1000 (by omega)
          · have s6 := same_upd (o := .lst ((vs.map tx).drop i.toNat ++ (vs.map tx).take i.toNat)) hg3
            refine q g3 (vs.drop i.toNat ++ vs.take i.toNat) _ (((sm3.trans s4).trans s5).trans s6) (((sm3.trans s4).trans s5).free hg3) ?_ ?_ fun z hz' => ?_
            · rw [upd_same, List.map_append, List.map_drop, List.map_take]
            · rw [List.length_append, List.length_drop, List.length_take]
              omega
            · rcases List.mem_append.mp hz' with z1 | z1
              · exact hv z (List.mem_of_mem_drop z1)
              · exact hv z (List.mem_of_mem_take z1)
end
def CodeOk (ws : List (List Nat)) : Prop := ws.length ≤ 12 ∧ ws.Nodup ∧ ∀ x ∈ ws, WordOk x
theorem inV_tx (x : List Nat) (ws : List (List Nat)) : inV (tx x) (ws.map tx) = decide (x ∈ ws) := by
  unfold inV
  rw [List.any_map]
  have e : (fun y => eqV y (tx x)) ∘ tx = fun y : List Nat => (y == x) := by
    funext y
    show (S y == S x) = (y == x)
    exact S_beq y x
  rw [e, Bool.eq_iff_iff, List.any_eq_true, decide_eq_true_eq]
  constructor
  · rintro ⟨y, hy, q⟩
    rw [← eq_of_beq q]
    exact hy
  · intro h
    exact ⟨x, h, beq_self_eq_true x⟩
theorem flat_tx (ws : List (List Nat)) : (ws.map tx).all flatV = true := by
  rw [List.all_map, List.all_eq_true]
  intro x _
  rfl
theorem nodup_app {ws : List (List Nat)} {x : List Nat} (h : ws.Nodup) (hx : x ∉ ws) : (ws ++ [x]).Nodup := by
  rw [List.nodup_append]
  refine ⟨h, List.nodup_cons.mpr ⟨List.not_mem_nil, List.nodup_nil⟩, fun a ha b hb e => ?_⟩
  rw [List.mem_singleton.mp hb] at e
  rw [e] at ha
  exact hx ha
theorem dp_texts {K : PySem.W.Frag} {H : Hp} : ∀ ws : List (List Nat), DpAll K H (ws.map tx) (ws.map fun l => PyData.str (S l))
  | [] => .nil
  | x :: r => .cons (.str (S x)) (dp_texts r)
theorem let_ok {l : List Nat} (h : Let l) : PyData.canLay0 (.str (S l)) = true := by
  rw [PyData.canLay0]
  unfold PyData.strOk
  show l.toArray.all (fun a => decide (a < 1114112)) = true
  rw [List.all_toArray, List.all_eq_true]
  intro c hc
  have q := h c hc
  exact decide_eq_true (by omega)
theorem lay_texts : ∀ ws : List (List Nat), (∀ x ∈ ws, Let x) → PyData.canLayAll0 (ws.map fun l => PyData.str (S l)) = true
  | [], _ => by simp [PyData.canLayAll0]
  | x :: r, h => by
    rw [List.map_cons, PyData.canLayAll0, let_ok (h x List.mem_cons_self), lay_texts r fun y hy => h y (List.mem_cons_of_mem _ hy)]
    rfl
theorem depth_texts : ∀ ws : List (List Nat), PyData.depthAll (ws.map fun l => PyData.str (S l)) = 0
  | [] => by simp [PyData.depthAll]
  | x :: r => by
    rw [List.map_cons, PyData.depthAll, depth_texts r, PyData.depth]
    rfl
theorem shaped_texts {ws : List (List Nat)} (h : ∀ x ∈ ws, Let x) : SeqAt.shaped (.list (ws.map fun l => PyData.str (S l))) = true := by
  unfold SeqAt.shaped
  rw [PyData.canLay0, lay_texts ws h, PyData.depth, depth_texts]
  rfl
theorem eqv_texts {ws : List (List Nat)} (h : ∀ x ∈ ws, Let x) : PyData.eqv (.list (ws.map fun l => PyData.str (S l))) (.list (ws.map fun l => PyData.str (S l))) = true :=
  PySem.SeqAt.eqv_refl _ (by rw [PyData.canLay0]; exact lay_texts ws h)
section
variable {P : Program} {w : World} {K : PySem.W.Frag} {mg : Str → Option Value} {base : Heap} {f fA fM fW fS fC fY fO fR : Addr} {fd fdA fdM fdW fdS fdC fdY fdO fdR : FuncData}
theorem scWords : FnScope ["_law_script", "_law_first", "_law_cell", "_law_signs_here", "_law_words_here", "_law_word_here", "_law_k", "_law_one"] ["_law_script", "_law_first"] (defScope sWords) := ⟨rfl, rfl, rfl, by decide +kernel, rfl, by decide +kernel, by decide +kernel⟩
def spWords (K : PySem.W.Frag) : Sp := fun vs H Q _ => ∃ (a : Addr) (ns : List Int) (first : Int), vs = [.ref a, .int first] ∧ SqL K H a (ns.map V.int) ∧ 0 ≤ first ∧
  ∀ (r : Addr) (ws : List (List Nat)) (H' : Hp), Same H H' → H r = none → H' r = some (.lst (ws.map tx)) → CodeOk ws → Q (.ref r) H'
theorem ok_words (F : FnP K "_law_words" sWords f fd) (A : Has K mg "_law_at" sAt ["_law_script", "_law_k"] fA fdA) (W : Has K mg "_law_word" sWord ["_law_cell", "_law_signs_here"] fW fdW) (M : Has K mg "_law_mixed" sMixed ["_law_cell", "_law_k"] fM fdM)
    (Z : Has K mg "_law_signs" sSigns ["_law_cell"] fS fdS) (C : Has K mg "_law_chain" sChain ["_law_script", "_law_first", "_law_signs_here"] fC fdC) (Y : Has K mg "_law_any_word" sAny ["_law_cell"] fY fdY) (O : Has K mg "_law_more" sMore ["_law_words_here", "_law_cell", "_law_signs_here"] fO fdO)
    (mR : mg "range" = none) (mL : mg "len" = none) : FnOk P w K mg base CX0 4 f fd ["_law_script", "_law_first"] (spWords K) := by
  have GW : FnOk P w K mg base CX0 3 fW fdW ["_law_cell", "_law_signs_here"] spWord := (ok_word W.F M mR mL).mono (by decide)
  have GM : FnOk P w K mg base CX0 3 fM fdM ["_law_cell", "_law_k"] spMixed := (ok_mixed M.F).mono (by decide)
  have GA : FnOk P w K mg base CX0 3 fA fdA ["_law_script", "_law_k"] (spAt K) := (ok_at A.F mL).mono (by decide)
  have GZ : FnOk P w K mg base CX0 3 fS fdS ["_law_cell"] spSigns := (ok_signs Z.F mR).mono (by decide)
  have GC : FnOk P w K mg base CX0 3 fC fdC ["_law_script", "_law_first", "_law_signs_here"] (spChain K) := ok_chain C.F A W M mR mL
  have GY : FnOk P w K mg base CX0 3 fY fdY ["_law_cell"] spAny := (ok_any Y.F mR).mono (by decide)
  have GO : FnOk P w K mg base CX0 3 fO fdO ["_law_words_here", "_law_cell", "_law_signs_here"] (spMore K) := ok_more O.F W M mR mL
  refine F.okN scWords (fun vs H Q E h => ?_) (fun cdv A' outer s H vs Q E hr h => ?_)
  · obtain ⟨a, ns, first, rfl, _⟩ := h
    rfl
  · obtain ⟨a, ns, first, rfl, hS, h0, q⟩ := h
    refine ⟨_, pss_cons (ps_set (i := 2) scWords.nd rfl (.inl rfl) (pe_call GA hr (by rfl) A.g A.F.kp A.b .nil pass0 (pa_cons (pv 0) (pa_cons (pv 1) pa_nil))))
      (pss_cons (ps_set (i := 3) scWords.nd rfl (.inl rfl) (pe_call GZ hr (by rfl) Z.g Z.F.kp Z.b .nil pass0 (pa_cons (pe_call GA hr (by rfl) A.g A.F.kp A.b .nil pass0 (pa_cons (pv 0) (pa_cons (pe_op op_add (pv 1) pe_int) pa_nil))) pa_nil)))
      (pss_cons (ps_set (i := 4) scWords.nd rfl (.inl rfl) (pe_lst pa_nil))
      (pss_cons (ps_if (pt_cmpR op_eq (pe_op op_mod (pe_op op_fdiv (pv 2) pe_int) pe_int) pe_int (nomark _))
        (pss_cons (ps_for PassesOwn.never rfl (pi_list (pe_call GC hr (by rfl) C.g C.F.kp C.b .nil pass0 (pa_cons (pv 0) (pa_cons (pv 1) (pa_cons (pv 3) pa_nil))))) (pg_name (i := 5) scWords.nd rfl (Or.inl rfl))
          (pss_one (ps_if (pt_cmpR op_notIn_seq (pv 5) (pv 4) (by rfl)) (pss_one (ps_expr (pe_bm PySem.F.plainAttrs_list PySem.F.slot_list_append PySem.F.type_list_append mt_append (pv 4) (pa_cons (pv 5) pa_nil)))) pss_nil)))
        (pss_one (ps_ret (pv 4)))) pss_nil)
      (pss_cons (ps_for PassesOwn.never rfl (pi_range1 (by rfl) mR (pa_cons (pe_ix ix_list (pe_lst (pa_cons pe_int (pa_cons pe_int (pa_cons pe_int (pa_cons pe_int (pa_cons pe_int (pa_cons pe_int (pa_cons pe_int (pa_cons pe_int (pa_cons pe_int (pa_cons pe_int pa_nil))))))))))) (pe_op op_mod (pv 2) pe_int) (fun _ _ => rfl)) pa_nil)) (pg_name (i := 6) scWords.nd rfl (Or.inl rfl))
        (pss_cons (ps_set (i := 7) scWords.nd rfl (.inl rfl) (pe_call GA hr (by rfl) A.g A.F.kp A.b .nil pass0 (pa_cons (pv 0) (pa_cons (pe_op op_add (pe_op op_add (pv 1) pe_int) (pe_op op_mod (pv 6) pe_int)) pa_nil))))
        (pss_cons (ps_set (i := 5) scWords.nd rfl (.inl rfl) (pe_call GW hr (by rfl) W.g W.F.kp W.b .nil pass0 (pa_cons (pe_call GM hr (by rfl) M.g M.F.kp M.b .nil pass0 (pa_cons (pv 7) (pa_cons (pv 6) pa_nil))) (pa_cons (pv 3) pa_nil))))
        (C8.pss_cut (ps_if (pt_cmpR op_eq (pe_op op_mod (pe_op op_fdiv (pv 2) pe_int) pe_int) pe_int (nomark _))
            (pss_one (ps_set (i := 5) scWords.nd rfl (.inl rfl) (pe_call GY hr (by rfl) Y.g Y.F.kp Y.b .nil pass0 (pa_cons (pe_op op_add (pv 7) (pv 6)) pa_nil))))
            (pss_one (ps_if (PW.pt (pw_and (pt_cmpR (op_neD hr.units) (pv 4) (pe_lst pa_nil) (nomark _)) (pw_and1 (pt_cmpR op_eq (pe_op op_mod (pe_op op_fdiv (pe_call GM hr (by rfl) M.g M.F.kp M.b .nil pass0 (pa_cons (pv 7) (pa_cons (pv 6) pa_nil))) pe_int) pe_int) pe_int (nomark _)))))
              (pss_one (ps_set (i := 5) scWords.nd rfl (.inl rfl) (pe_call GO hr (by rfl) O.g O.F.kp O.b .nil pass0 (pa_cons (pv 4) (pa_cons (pe_call GM hr (by rfl) M.g M.F.kp M.b .nil pass0 (pa_cons (pv 7) (pa_cons (pe_op op_add (pv 6) pe_int) pa_nil))) (pa_cons (pv 3) pa_nil)))))) pss_nil)))
          (pss_one (ps_if (pt_cmpR op_notIn_seq (pv 5) (pv 4) (by rfl)) (pss_one (ps_expr (pe_bm PySem.F.plainAttrs_list PySem.F.slot_list_append PySem.F.type_list_append mt_append (pv 4) (pa_cons (pv 5) pa_nil)))) pss_nil))))))
      (pss_one (ps_ret (pv 4))))))), ?_⟩
    refine ⟨_, rfl, _, rfl, a, ns, first, rfl, hS, h0, fun c => ?_⟩
    refine ⟨_, rfl, _, rfl, _, _, rfl, rfl, a, ns, _, rfl, hS, by omega, fun c2 => ⟨c2, rfl, fun l H1 sm1 hl l1 l2 => ?_⟩⟩
    refine ⟨Nat.zero_le _, fun b hb => ?_⟩
    have s2 : Same H (upd H1 b (.lst [])) := sm1.trans (same_upd hb)
    have hHb : H b = none := sm1.free hb
    refine ⟨_, rfl, _, _, rfl, rfl, ⟨by decide, by decide⟩, _, _, rfl, rfl, (by show (0 : Int) < 4; decide), rfl, _, rfl, ite2 (fun _ => ?_) (fun _ => ?_)⟩
    · -- the chain
      refine ⟨_, rfl, _, rfl, _, rfl, a, ns, first, l, rfl, s2.seq hS, h0, hl, l1, by omega, fun r zs H2 sm2 nr eR hz hzw => ?_⟩
      have nrb : r ≠ b := fun e => by
        rw [e, upd_same] at nr
        cases nr
      refine ⟨r, rfl, ⟨_, seqL eR⟩, for_list (K := K) (a := r) (xs := zs.map tx) (fun i σ H3 => Same H H3 ∧ H3 r = some (.lst (zs.map tx)) ∧ ∃ (ws : List (List Nat)) (kv : Option V), σ = [some (.ref a), some (.int first), some (.int c), some (tx l), some (.ref b), kv, none, none] ∧ H3 b = some (.lst (ws.map tx)) ∧ ws.length ≤ i ∧ ws.Nodup ∧ ∀ x ∈ ws, WordOk x) ?_ ?_ ?_ ?_⟩
      · exact ⟨s2.trans sm2, eR, [], none, rfl, sm2 _ _ upd_same, Nat.le_refl _, List.nodup_nil, fun x hx => nomatch hx⟩
      · intro i σ H3 _ hh
        exact seqL hh.2.1
      · rintro i x σ H3 hx ⟨sm3, er3, ws, kv, rfl, eb, wl, wn, wo⟩
        have hiz : i < zs.length := by
          have := (List.getElem?_eq_some_iff.mp hx).1
          rw [List.length_map] at this
          exact this
        have hxe : x = tx zs[i] := by
          rw [List.getElem?_map, List.getElem?_eq_getElem hiz] at hx
          exact (Option.some.inj hx).symm
        subst hxe
        refine ⟨_, rfl, _, rfl, b, _, rfl, .inl (seqL eb), rfl, flat_tx ws, _, rfl, ?_⟩
        rw [inV_tx]
        refine ite2 (fun hn => ?_) (fun hn => ?_)
        · have hni : zs[i] ∉ ws := by
            intro z
            rw [decide_eq_true z] at hn
            exact Bool.noConfusion hn
          refine ⟨_, rfl, .inl ⟨rfl, _, seqL eb⟩, _, rfl, b, _, _, rfl, rfl, eb, by rw [List.length_map]; exact small1000 (by omega), ?_⟩
          refine ⟨fun d o e => ?_, by rw [upd_ne nrb]; exact er3, ws ++ [zs[i]], _, rfl, ?_, by rw [List.length_append]; exact Nat.succ_le_succ wl, nodup_app wn hni, fun z hz' => ?_⟩
          · rw [upd_ne (ne_of_none e hHb)]
            exact sm3 _ _ e
          · rw [upd_same, List.map_append]
            rfl
          · rcases List.mem_append.mp hz' with z1 | z1
            · exact wo z z1
            · rw [List.mem_singleton.mp z1]
              exact hzw _ (List.getElem_mem hiz)
        · exact ⟨sm3, er3, ws, _, rfl, eb, Nat.le_succ_of_le wl, wn, wo⟩
      · rintro σ H3 ⟨sm3, er3, ws, kv, rfl, eb, wl, wn, wo⟩
        rw [List.length_map] at wl
        exact ⟨_, rfl, q b ws H3 sm3 hHb eb ⟨by omega, wn, wo⟩⟩
    · -- the drawn words
      refine ⟨by show 10 ≤ sizeLine; decide, fun p hp => ⟨_, rfl, _, _, rfl, rfl, (by show (0 : Int) < 10; decide), ?_⟩⟩
      obtain ⟨m, hm, em⟩ := at_map V.int [2, 3, 4, 5, 3, 2, 6, 1, 0, 12] (i := c % 10) (Int.emod_nonneg _ (by decide)) (Int.emod_lt_of_pos _ (by decide))
      have hm1 : 0 ≤ m ∧ m ≤ 12 := by
        simp only [List.mem_cons, List.not_mem_nil, or_false] at hm
        omega
      have s3 : Same (upd H1 b (.lst [])) (upd (upd H1 b (.lst [])) p (.lst ([2, 3, 4, 5, 3, 2, 6, 1, 0, 12].map V.int))) := same_upd hp
      refine ⟨p, _, _, _, rfl, rfl, seqL upd_same, em, m, rfl, by omega, by omega, ?_⟩
      refine for_range (lo := 0) (n := m.toNat) (fun i σ H3 => Same H H3 ∧ ∃ (ws : List (List Nat)) (kv5 kv6 kv7 : Option V), σ = [some (.ref a), some (.int first), some (.int c), some (tx l), some (.ref b), kv5, kv6, kv7] ∧ H3 b = some (.lst (ws.map tx)) ∧ ws.length ≤ i ∧ ws.Nodup ∧ ∀ x ∈ ws, WordOk x) ?_ ?_ ?_
      · exact ⟨s2.trans s3, [], none, none, none, rfl, s3 _ _ upd_same, Nat.le_refl _, List.nodup_nil, fun x hx => nomatch hx⟩
      · rintro i σ H3 hi ⟨sm3, ws, kv5, kv6, kv7, rfl, eb, wl, wn, wo⟩
        refine ⟨_, rfl, _, rfl, _, _, rfl, rfl, _, rfl, _, _, rfl, rfl, (by show (0 : Int) < 6; decide), _, _, rfl, rfl, a, ns, _, rfl, sm3.seq hS, by omega, fun one => ?_⟩
        refine ⟨_, rfl, _, rfl, one, _, rfl, fun v _ _ => ⟨_, rfl, v, l, rfl, hl, l1, by omega, fun y H4 sm4 hy => ?_⟩⟩
        -- the word is one
        refine ⟨fun σ H5 => Same H H5 ∧ ∃ (z : List Nat) (kv6 kv7 : Option V), σ = [some (.ref a), some (.int first), some (.int c), some (tx l), some (.ref b), some (tx z), kv6, kv7] ∧ H5 b = some (.lst (ws.map tx)) ∧ WordOk z, ?_, ?_⟩
        · refine ⟨_, rfl, _, _, rfl, rfl, ⟨by decide, by decide⟩, _, _, rfl, rfl, (by show (0 : Int) < 4; decide), rfl, _, rfl, ite2 (fun _ => ?_) (fun _ => ?_)⟩
          · refine ⟨_, rfl, _, rfl, _, _, rfl, rfl, _, rfl, fun z hz => ?_⟩
            exact ⟨sm3.trans sm4, z, _, _, rfl, sm4 _ _ eb, hz⟩
          · refine ⟨_, rfl, Nat.zero_le _, fun e he => ?_⟩
            have s5 : Same H4 (upd H4 e (.lst [])) := same_upd he
            refine ⟨.list (ws.map fun l => PyData.str (S l)), .list [], .lst (seqL (s5 _ _ (sm4 _ _ eb))) (dp_texts ws), .lst (seqL upd_same) .nil, shaped_texts (fun x hx => (wo x hx).2.2), by decide +kernel, _, rfl, ?_⟩
            refine ite2 (fun hne => ?_) (fun _ => ?_)
            · have hws : 1 ≤ ws.length := by
                cases ws with
                | nil =>
                  have e0 : (!PyData.eqv (.list ([].map fun l => PyData.str (S l))) (.list [])) = false := by decide +kernel
                  rw [e0] at hne
                  exact absurd hne Bool.false_ne_true
                | cons x r => exact Nat.succ_le_succ (Nat.zero_le _)
              refine ⟨_, rfl, _, rfl, one, _, rfl, fun v2 _ _ => ⟨_, _, rfl, rfl, ⟨by decide, by decide⟩, _, _, rfl, rfl, (by show (0 : Int) < 2; decide), rfl, _, rfl, ite2 (fun _ => ?_) (fun _ => ?_)⟩⟩
              · refine ⟨_, rfl, _, rfl, _, rfl, _, _, rfl, rfl, one, _, rfl, fun v3 _ _ => ⟨_, rfl, b, ws, v3, l, rfl, seqL (s5 _ _ (sm4 _ _ eb)), hws, wo, hl, l1, by omega, fun z H6 sm6 hz => ?_⟩⟩
                exact ⟨((sm3.trans sm4).trans s5).trans sm6, z, _, _, rfl, sm6 _ _ (s5 _ _ (sm4 _ _ eb)), hz⟩
              · exact ⟨(sm3.trans sm4).trans s5, y, _, _, rfl, s5 _ _ (sm4 _ _ eb), hy⟩
            · exact ⟨(sm3.trans sm4).trans s5, y, _, _, rfl, s5 _ _ (sm4 _ _ eb), hy⟩
        · rintro σ H5 ⟨sm5, z, kv6, kv7, rfl, eb5, hz⟩
          refine ⟨_, rfl, _, rfl, b, _, rfl, .inl (seqL eb5), rfl, flat_tx ws, _, rfl, ?_⟩
          rw [inV_tx]
          refine ite2 (fun hn => ?_) (fun hn => ?_)
          · have hni : z ∉ ws := by
              intro z'
              rw [decide_eq_true z'] at hn
              exact Bool.noConfusion hn
            refine ⟨_, rfl, .inl ⟨rfl, _, seqL eb5⟩, _, rfl, b, _, _, rfl, rfl, eb5, by rw [List.length_map]; exact small1000 (by omega), ?_⟩
            refine ⟨fun d o e => ?_, ws ++ [z], _, _, _, rfl, ?_, by rw [List.length_append]; exact Nat.succ_le_succ wl, nodup_app wn hni, fun z' hz' => ?_⟩
            · rw [upd_ne (ne_of_none e hHb)]
              exact sm5 _ _ e
            · rw [upd_same, List.map_append]
              rfl
            · rcases List.mem_append.mp hz' with z1 | z1
              · exact wo z' z1
              · rw [List.mem_singleton.mp z1]
                exact hz
          · exact ⟨sm5, ws, _, _, _, rfl, eb5, Nat.le_succ_of_le wl, wn, wo⟩
      · rintro σ H3 ⟨sm3, ws, kv5, kv6, kv7, rfl, eb, wl, wn, wo⟩
        exact ⟨_, rfl, q b ws H3 sm3 hHb eb ⟨by omega, wn, wo⟩⟩
end
theorem sum_ten : ∀ {ys : List (List Nat)}, (∀ y ∈ ys, y.length ≤ 10) → (ys.map (·.length)).sum ≤ 10 * ys.length
  | [], _ => Nat.le_refl _
  | x :: r, h => by
    have i := sum_ten (ys := r) fun y hy => h y (List.mem_cons_of_mem _ hy)
    have j := h x List.mem_cons_self
    rw [List.map_cons, List.sum_cons, List.length_cons]
    omega
theorem flat_ten {ys : List (List Nat)} (h : ∀ y ∈ ys, y.length ≤ 10) : ys.flatten.length ≤ 10 * ys.length := by
  rw [List.length_flatten]
  exact sum_ten h
theorem join_room {ys : List (List Nat)} (h : ∀ y ∈ ys, y.length ≤ 10) (hl : ys.length ≤ 1000) : ((ys.map S).map (·.length)).sum + (ys.map S).length * (Str.ofString "").length ≤ 16777216 := by
  rw [lenS, empLen]
  have := sum_ten h
  omega
theorem q_list (ws : List (List Nat)) : ws.map tx ++ [V.str (Str.ofString "q")] = ((ws ++ [[113]]).map S).map V.str := by
  rw [show Str.ofString "q" = S [113] by decide +kernel, List.map_append, List.map_append, ← map_tx]
  rfl
section
variable {P : Program} {w : World} {K : PySem.W.Frag} {mg : Str → Option Value} {base : Heap} {f fA fM fR : Addr} {fd fdA fdM fdR : FuncData}
theorem scRow : FnScope ["_law_script", "_law_first", "_law_words_here", "_law_most", "_law_row_here", "_law_k"] ["_law_script", "_law_first", "_law_words_here", "_law_most"] (defScope sRow) := ⟨rfl, rfl, rfl, by decide +kernel, rfl, by decide +kernel, by decide +kernel⟩
def spRow (K : PySem.W.Frag) : Sp := fun vs H Q _ => ∃ (a : Addr) (ns : List Int) (first : Int) (b : Addr) (ws : List (List Nat)) (most : Int), vs = [.ref a, .int first, .ref b, .int most] ∧ SqL K H a (ns.map V.int) ∧ 0 ≤ first ∧ SqL K H b (ws.map tx) ∧ (∀ x ∈ ws, WordOk x) ∧ 0 ≤ most ∧ most ≤ 100 ∧
  ∀ (r : Addr) (ys : List (List Nat)) (H' : Hp), Same H H' → H r = none → H' r = some (.lst (ys.map tx)) → (ys.length : Int) ≤ most → (∀ y ∈ ys, y ∈ ws) → Q (.ref r) H'
theorem ok_row (F : FnP K "_law_row" sRow f fd) (A : Has K mg "_law_at" sAt ["_law_script", "_law_k"] fA fdA) (M : Has K mg "_law_mixed" sMixed ["_law_cell", "_law_k"] fM fdM) (mR : mg "range" = none) (mL : mg "len" = none) :
    FnOk P w K mg base CX0 2 f fd ["_law_script", "_law_first", "_law_words_here", "_law_most"] (spRow K) := by
  have GM : FnOk P w K mg base CX0 1 fM fdM ["_law_cell", "_law_k"] spMixed := ok_mixed M.F
  have GA : FnOk P w K mg base CX0 1 fA fdA ["_law_script", "_law_k"] (spAt K) := ok_at A.F mL
  refine F.okN scRow (fun vs H Q E h => ?_) (fun cdv A' outer s H vs Q E hr h => ?_)
  · obtain ⟨a, ns, first, b, ws, most, rfl, _⟩ := h
    rfl
  · obtain ⟨a, ns, first, b, ws, most, rfl, hS, h0, hB, hw, m0, m1, q⟩ := h
    refine ⟨_, pss_cons (ps_set (i := 4) scRow.nd rfl (.inl rfl) (pe_lst pa_nil))
      (C8.pss_cut (ps_if (pt_cmpR (op_neD hr.units) (pv 2) (pe_lst pa_nil) (nomark _))
        (pss_one (ps_for PassesOwn.never rfl (pi_range1 (by rfl) mR (pa_cons (pe_op op_mod (pe_call GA hr (by rfl) A.g A.F.kp A.b .nil pass0 (pa_cons (pv 0) (pa_cons (pv 1) pa_nil))) (pe_op op_add (pv 3) pe_int)) pa_nil)) (pg_name (i := 5) scRow.nd rfl (Or.inl rfl))
          (pss_one (ps_expr (pe_bm PySem.F.plainAttrs_list PySem.F.slot_list_append PySem.F.type_list_append mt_append (pv 4)
            (pa_cons (pe_ix ix_list (pv 2) (pe_op op_mod (pe_op op_fdiv (pe_call GM hr (by rfl) M.g M.F.kp M.b .nil pass0 (pa_cons (pe_call GA hr (by rfl) A.g A.F.kp A.b .nil pass0 (pa_cons (pv 0) (pa_cons (pe_op op_add (pe_op op_add (pv 1) pe_int) (pe_op op_mod (pv 5) pe_int)) pa_nil))) (pa_cons (pv 5) pa_nil))) pe_int) (pe_callB call_len_seq (by rfl) mL boot_len (pa_cons (pv 2) pa_nil))) (fun _ _ => rfl)) pa_nil)))))) pss_nil)
      (pss_one (ps_ret (pv 4)))), ?_⟩
    refine ⟨Nat.zero_le _, fun r hr0 => ?_⟩
    have s1 : Same H (upd H r (.lst [])) := same_upd hr0
    refine ⟨fun σ H3 => Same H H3 ∧ ∃ (ys : List (List Nat)) (kv : Option V), σ = [some (.ref a), some (.int first), some (.ref b), some (.int most), some (.ref r), kv] ∧ H3 r = some (.lst (ys.map tx)) ∧ (ys.length : Int) ≤ most ∧ ∀ y ∈ ys, y ∈ ws, ?_, ?_⟩
    · refine ⟨_, rfl, Nat.zero_le _, fun e he => ?_⟩
      have s5 : Same (upd H r (.lst [])) (upd (upd H r (.lst [])) e (.lst [])) := same_upd he
      refine ⟨.list (ws.map fun l => PyData.str (S l)), .list [], .lst ((s1.trans s5).seq hB) (dp_texts ws), .lst (seqL upd_same) .nil, shaped_texts (fun x hx => (hw x hx).2.2), by decide +kernel, _, rfl, ite2 (fun hne => ?_) (fun _ => ?_)⟩
      · have hws : 1 ≤ ws.length := by
          cases ws with
          | nil =>
            have e0 : (!PyData.eqv (.list ([].map fun l => PyData.str (S l))) (.list [])) = false := by decide +kernel
            rw [e0] at hne
            exact absurd hne Bool.false_ne_true
          | cons x r => exact Nat.succ_le_succ (Nat.zero_le _)
        refine ⟨_, rfl, _, rfl, a, ns, first, rfl, (s1.trans s5).seq hS, h0, fun v => ⟨_, rfl, _, _, rfl, rfl, _, _, rfl, rfl, by omega, _, rfl, ?_⟩⟩
        have b1 := Int.emod_nonneg v (show most + 1 ≠ 0 by omega)
        have b2 := Int.emod_lt_of_pos v (show (0 : Int) < most + 1 by omega)
        refine ⟨by omega, by omega, ?_⟩
        refine for_range (lo := 0) (n := (v % (most + 1)).toNat) (fun i σ H3 => Same H H3 ∧ ∃ (ys : List (List Nat)) (kv : Option V), σ = [some (.ref a), some (.int first), some (.ref b), some (.int most), some (.ref r), kv] ∧ H3 r = some (.lst (ys.map tx)) ∧ ys.length = i ∧ ∀ y ∈ ys, y ∈ ws) ?_ ?_ ?_
        · exact ⟨s1.trans s5, [], none, rfl, s5 _ _ upd_same, rfl, fun y hy => nomatch hy⟩
        · rintro i σ H3 hi ⟨sm3, ys, kv, rfl, eR, el, hy⟩
          have en : (ws.map tx).length = ws.length := List.length_map _
          refine ⟨_, rfl, .inl ⟨rfl, _, seqL eR⟩, ?_⟩
          refine ⟨_, rfl, _, rfl, _, rfl, _, _, rfl, rfl, _, rfl, _, _, rfl, rfl, (by show (0 : Int) < 5; decide), _, _, rfl, rfl, a, ns, _, rfl, sm3.seq hS, by omega, fun c => ?_⟩
          refine ⟨_, rfl, c, _, rfl, fun u u0 u1 => ?_⟩
          obtain ⟨z, hz, ez⟩ := at_map tx ws (i := u / 16 % (ws.length : Int)) (Int.emod_nonneg _ (by omega)) (Int.emod_lt_of_pos _ (by omega))
          refine ⟨_, _, rfl, rfl, ⟨by decide, by decide⟩, _, rfl, b, _, rfl, .inl (sm3.seq hB), _, _, rfl, rfl, (by show (0 : Int) < ((ws.map tx).length : Int); rw [en]; omega), b, _, _, tx z, rfl, rfl, sm3.seq hB, by rw [en]; exact ez, ?_⟩
          refine ⟨r, _, _, rfl, rfl, eR, by rw [List.length_map]; exact small1000 (by omega), fun d o e => ?_, ys ++ [z], _, rfl, ?_, by rw [List.length_append, el]; rfl, fun y hy' => ?_⟩
          · rw [upd_ne (ne_of_none e hr0)]
            exact sm3 _ _ e
          · rw [upd_same, List.map_append]
            rfl
          · rcases List.mem_append.mp hy' with z1 | z1
            · exact hy y z1
            · rw [List.mem_singleton.mp z1]
              exact hz
        · rintro σ H3 ⟨sm3, ys, kv, rfl, eR, el, hy⟩
          exact ⟨sm3, ys, kv, rfl, eR, by omega, hy⟩
      · exact ⟨s1.trans s5, [], none, rfl, s5 _ _ upd_same, m0, fun y hy => nomatch hy⟩
    · rintro σ H3 ⟨sm3, ys, kv, rfl, eR, el, hy⟩
      exact ⟨_, rfl, q r ys H3 sm3 hr0 eR el hy⟩
theorem scText : FnScope ["_law_script", "_law_first", "_law_words_here", "_law_text_here", "_law_cell", "_law_at_here", "_law_sign", "_law_some"] ["_law_script", "_law_first", "_law_words_here"] (defScope sText) := ⟨rfl, rfl, rfl, by decide +kernel, rfl, by decide +kernel, by decide +kernel⟩
def spText (K : PySem.W.Frag) : Sp := fun vs H Q _ => ∃ (a : Addr) (ns : List Int) (first : Int) (b : Addr) (ws : List (List Nat)), vs = [.ref a, .int first, .ref b] ∧ SqL K H a (ns.map V.int) ∧ 0 ≤ first ∧ H b = some (.lst (ws.map tx)) ∧ CodeOk ws ∧
  ∀ (t : List Nat) (H' : Hp), Same H H' → Let t → t.length ≤ 81 → Q (tx t) H'
theorem ok_text (F : FnP K "_law_text" sText f fd) (R : Has K mg "_law_row" sRow ["_law_script", "_law_first", "_law_words_here", "_law_most"] fR fdR) (A : Has K mg "_law_at" sAt ["_law_script", "_law_k"] fA fdA) (M : Has K mg "_law_mixed" sMixed ["_law_cell", "_law_k"] fM fdM) (mR : mg "range" = none) (mL : mg "len" = none) :
    FnOk P w K mg base CX0 3 f fd ["_law_script", "_law_first", "_law_words_here"] (spText K) := by
  have GA : FnOk P w K mg base CX0 2 fA fdA ["_law_script", "_law_k"] (spAt K) := (ok_at A.F mL).mono (by decide)
  have GR : FnOk P w K mg base CX0 2 fR fdR ["_law_script", "_law_first", "_law_words_here", "_law_most"] (spRow K) := ok_row R.F A M mR mL
  refine F.okN scText (fun vs H Q E h => ?_) (fun cdv A' outer s H vs Q E hr h => ?_)
  · obtain ⟨a, ns, first, b, ws, rfl, _⟩ := h
    rfl
  · obtain ⟨a, ns, first, b, ws, rfl, hS, h0, hB, ⟨c1, c2, c3⟩, q⟩ := h
    refine ⟨_, pss_cons (ps_set (i := 3) scText.nd rfl (.inl rfl) (pe_join pe_str (pe_call GR hr (by rfl) R.g R.F.kp R.b .nil pass0 (pa_cons (pv 0) (pa_cons (pv 1) (pa_cons (pv 2) (pa_cons pe_int pa_nil)))))))
      (pss_cons (ps_set (i := 4) scText.nd rfl (.inl rfl) (pe_call GA hr (by rfl) A.g A.F.kp A.b .nil pass0 (pa_cons (pv 0) (pa_cons (pe_op op_add (pv 1) pe_int) pa_nil))))
      (pss_cons (ps_set (i := 5) scText.nd rfl (.inl rfl) (pe_op op_mod (pe_op op_fdiv (pv 4) pe_int) (pe_op op_add (pe_callB call_len_str (by rfl) mL boot_len (pa_cons (pv 3) pa_nil)) pe_int)))
      (pss_cons (ps_set (i := 6) scText.nd rfl (.inl rfl) (pe_ix ix_str (pe_join pe_str (pe_op op_cat (pv 2) (pe_lst (pa_cons pe_str pa_nil)))) (pe_op op_mod (pe_op op_fdiv (pv 4) pe_int) (pe_callB call_len_str (by rfl) mL boot_len (pa_cons (pe_join pe_str (pe_op op_cat (pv 2) (pe_lst (pa_cons pe_str pa_nil)))) pa_nil))) (fun _ _ => rfl)))
      (pss_cons (ps_set (i := 7) scText.nd rfl (.inl rfl) (pe_lst (pa_cons (pv 3) (pa_cons (pv 3) (pa_cons (pv 3) (pa_cons (pv 3)
          (pa_cons (pe_op op_add_str (pe_op op_add_str (pe_slice sl_str (pv 3) po_none (po_some (pv 5))) (pv 6)) (pe_slice sl_str (pv 3) (po_some (pv 5)) po_none))
          (pa_cons (pe_op op_add_str (pe_slice sl_str (pv 3) po_none (po_some (pv 5))) (pe_slice sl_str (pv 3) (po_some (pe_op op_add (pv 5) pe_int)) po_none))
          (pa_cons (pe_slice sl_str (pv 3) po_none (po_some (pv 5))) pa_nil)))))))))
      (pss_one (ps_ret (pe_ix ix_list (pe_op op_cat (pv 7) (pe_lst (pa_cons (pe_op op_add_str (pe_op op_add_str (pe_slice sl_str (pv 3) po_none (po_some (pv 5))) (pv 6)) (pe_slice sl_str (pv 3) (po_some (pe_op op_add (pv 5) pe_int)) po_none)) pa_nil))) (pe_op op_mod (pv 4) pe_int) (fun _ _ => rfl)))))))), ?_⟩
    -- the joined row
    refine ⟨⟨_, rfl⟩, _, rfl, _, rfl, _, rfl, a, ns, first, b, ws, 8, rfl, hS, h0, seqL hB, c3, by decide, by decide, fun r ys H1 sm1 nr eR hl hy => ?_⟩
    have hy10 : ∀ y ∈ ys, y.length ≤ 10 := fun y h => (c3 y (hy y h)).2.1
    refine ⟨_, r, ys.map S, rfl, rfl, .inl (seqL (by rw [← map_tx]; exact eR)), join_room hy10 (by omega), ?_⟩
    rw [join0]
    have ht : Let ys.flatten := flat_let fun y h => (c3 y (hy y h)).2.2
    have htl := flat_ten hy10
    obtain ⟨t, et⟩ : ∃ t, t = ys.flatten := ⟨_, rfl⟩
    rw [← et] at ht htl ⊢
    have ht80 : t.length ≤ 80 := by omega
    have zl : ∀ {x : List Nat}, x.length ≤ 1000 → (S x).length ≤ sizeLine := fun {x} h => by rw [S_len]; exact size1000 h
    -- cell, at
    refine ⟨_, rfl, _, rfl, _, _, rfl, rfl, a, ns, _, rfl, sm1.seq hS, by omega, fun c => ?_⟩
    refine ⟨_, rfl, _, _, rfl, rfl, ⟨by decide, by decide⟩, _, rfl, S t, rfl, zl (by omega), _, _, rfl, rfl, _, _, rfl, rfl, (by show (0 : Int) < ((S t).length : Int) + 1; omega), ?_⟩
    have i0 := Int.emod_nonneg (c / 8) (show ((S t).length : Int) + 1 ≠ 0 by omega)
    have i1 := Int.emod_lt_of_pos (c / 8) (show (0 : Int) < ((S t).length : Int) + 1 by omega)
    obtain ⟨i, hi⟩ : ∃ i : Int, i = c / 8 % (((S t).length : Int) + 1) := ⟨_, rfl⟩
    have hv := congrArg V.int hi.symm
    rw [← hi] at i0 i1
    rw [S_len] at i1
    -- the sign
    have hq10 : ∀ y ∈ ws ++ [[113]], y.length ≤ 10 := fun y h => by
      rcases List.mem_append.mp h with z | z
      · exact (c3 y z).2.1
      · rw [List.mem_singleton.mp z]
        decide
    have hqL : Let (ws ++ [[113]]).flatten := flat_let fun y h => by
      rcases List.mem_append.mp h with z | z
      · exact (c3 y z).2.2
      · rw [List.mem_singleton.mp z]
        exact Let.one (by decide)
    have hql := flat_ten hq10
    have hqn : (ws ++ [[113]]).length = ws.length + 1 := List.length_append
    have hq1 : 1 ≤ (ws ++ [[113]]).flatten.length := by
      rw [List.flatten_append, List.length_append]
      show 1 ≤ _ + 1
      omega
    have eB1 : H1 b = some (.lst (ws.map tx)) := sm1 _ _ hB
    refine ⟨⟨_, rfl⟩, _, rfl, by show 1 ≤ sizeLine; decide, fun g1 hg1 => ?_⟩
    have s2 : Same H1 (upd H1 g1 (.lst [V.str (Str.ofString "q")])) := same_upd hg1
    refine ⟨b, g1, _, _, rfl, rfl, s2 _ _ eB1, upd_same, by rw [List.length_map]; exact size1000 (by show ws.length + 1 ≤ 1000; omega), fun g2 hg2 => ?_⟩
    have s3 := same_upd (o := .lst (ws.map tx ++ [V.str (Str.ofString "q")])) hg2
    refine ⟨_, g2, (ws ++ [[113]]).map S, rfl, rfl, .inl (seqL (by rw [← q_list]; exact upd_same)), join_room hq10 (by omega), ?_⟩
    rw [join0]
    obtain ⟨z, ez⟩ : ∃ z, z = (ws ++ [[113]]).flatten := ⟨_, rfl⟩
    rw [← ez] at hqL hql hq1 ⊢
    refine ⟨_, rfl, _, _, rfl, rfl, ⟨by decide, by decide⟩, ⟨_, rfl⟩, _, rfl, by show 1 ≤ sizeLine; decide, fun g3 hg3 => ?_⟩
    have s4 := same_upd (o := .lst [V.str (Str.ofString "q")]) hg3
    refine ⟨b, g3, _, _, rfl, rfl, s4 _ _ (s3 _ _ (s2 _ _ eB1)), upd_same, by rw [List.length_map]; exact size1000 (by show ws.length + 1 ≤ 1000; omega), fun g4 hg4 => ?_⟩
    have s5 := same_upd (o := .lst (ws.map tx ++ [V.str (Str.ofString "q")])) hg4
    refine ⟨_, g4, (ws ++ [[113]]).map S, rfl, rfl, .inl (seqL (by rw [← q_list]; exact upd_same)), join_room hq10 (by omega), ?_⟩
    rw [join0, ← ez]
    obtain ⟨d, hd, ed⟩ := at_in z (i := c / 512 % (z.length : Int)) (Int.emod_nonneg _ (by omega)) (Int.emod_lt_of_pos _ (by omega))
    refine ⟨S z, rfl, zl (by omega), _, _, rfl, rfl, (by show (0 : Int) < ((S z).length : Int); rw [S_len]; omega), S z, _, d, rfl, rfl, zl (by omega), by rw [S_len]; exact ed, ?_⟩
    -- some
    have d1 : (t.take i.toNat).length = min i.toNat t.length := List.length_take
    have d2 : (t.drop i.toNat).length = t.length - i.toNat := List.length_drop
    have d3 : (t.drop (i + 1).toNat).length = t.length - (i + 1).toNat := List.length_drop
    have eS : (⟨#[d]⟩ : Str) = S [d] := rfl
    rw [eS]
    refine ⟨_, rfl, _, rfl, _, rfl, _, rfl, ?_⟩
    refine ⟨_, rfl, _, rfl, i, hv, S t, rfl, zl (by omega), _, rfl, ?_⟩
    rw [cut_to i0]
    refine ⟨_, _, rfl, rfl, by rw [S_len, S_len, d1]; exact size1000 (by show _ + 1 ≤ 1000; omega), ?_⟩
    rw [S_cat]
    refine ⟨_, rfl, _, rfl, i, hv, S t, rfl, zl (by omega), ?_⟩
    rw [cut_from i0]
    refine ⟨_, _, rfl, rfl, by rw [S_len, S_len, List.length_append, d1, d2]; exact size1000 (by show _ + 1 + _ ≤ 1000; omega), ?_⟩
    rw [S_cat]
    refine ⟨_, rfl, _, rfl, i, hv, S t, rfl, zl (by omega), ?_⟩
    rw [cut_to i0]
    refine ⟨_, rfl, _, rfl, i, 1, hv, rfl, i + 1, rfl, S t, rfl, zl (by omega), ?_⟩
    rw [cut_from (by omega : (0 : Int) ≤ i + 1)]
    refine ⟨_, _, rfl, rfl, by rw [S_len, S_len, d1, d3]; exact size1000 (by omega), ?_⟩
    rw [S_cat]
    refine ⟨_, rfl, _, rfl, i, hv, S t, rfl, zl (by omega), ?_⟩
    rw [cut_to i0]
    refine ⟨by show 7 ≤ sizeLine; decide, fun u hu => ?_⟩
    have s6 := same_upd (o := .lst [tx t, tx t, tx t, tx t, tx (t.take i.toNat ++ [d] ++ t.drop i.toNat), tx (t.take i.toNat ++ t.drop (i + 1).toNat), tx (t.take i.toNat)]) hu
    refine ⟨_, rfl, ?_⟩
    refine ⟨_, rfl, _, rfl, i, hv, S t, rfl, zl (by omega), _, rfl, ?_⟩
    rw [cut_to i0]
    refine ⟨_, _, rfl, rfl, by rw [S_len, S_len, d1]; exact size1000 (by show _ + 1 ≤ 1000; omega), ?_⟩
    rw [S_cat]
    refine ⟨_, rfl, _, rfl, i, 1, hv, rfl, i + 1, rfl, S t, rfl, zl (by omega), ?_⟩
    rw [cut_from (by omega : (0 : Int) ≤ i + 1)]
    refine ⟨_, _, rfl, rfl, by rw [S_len, S_len, List.length_append, d1, d3]; exact size1000 (by show _ + 1 + _ ≤ 1000; omega), ?_⟩
    rw [S_cat]
    refine ⟨by show 1 ≤ sizeLine; decide, fun v hv0 => ?_⟩
    have nuv : u ≠ v := fun e => by
      rw [← e, upd_same] at hv0
      cases hv0
    have s7 := same_upd (o := .lst [tx (t.take i.toNat ++ [d] ++ t.drop (i + 1).toNat)]) hv0
    refine ⟨u, v, [tx t, tx t, tx t, tx t, tx (t.take i.toNat ++ [d] ++ t.drop i.toNat), tx (t.take i.toNat ++ t.drop (i + 1).toNat), tx (t.take i.toNat)], [tx (t.take i.toNat ++ [d] ++ t.drop (i + 1).toNat)], rfl, rfl, s7 _ _ upd_same, upd_same, by show 8 ≤ sizeLine; decide, fun r2 hr2 => ?_⟩
    obtain ⟨y, hy2, ey⟩ := at_map tx [t, t, t, t, t.take i.toNat ++ [d] ++ t.drop i.toNat, t.take i.toNat ++ t.drop (i + 1).toNat, t.take i.toNat, t.take i.toNat ++ [d] ++ t.drop (i + 1).toNat] (i := c % 8) (Int.emod_nonneg _ (by decide)) (Int.emod_lt_of_pos _ (by decide))
    refine ⟨_, rfl, _, _, rfl, rfl, (by show (0 : Int) < 8; decide), r2, _, _, tx y, rfl, rfl, seqL upd_same, ey, ?_⟩
    have hd1 : Let [d] := Let.one (hqL d hd)
    have hy3 : Let y ∧ y.length ≤ 81 := by
      simp only [List.mem_cons, List.not_mem_nil, or_false] at hy2
      rcases hy2 with rfl | rfl | rfl | rfl | rfl | rfl | rfl | rfl
      · exact ⟨ht, by omega⟩
      · exact ⟨ht, by omega⟩
      · exact ⟨ht, by omega⟩
      · exact ⟨ht, by omega⟩
      · exact ⟨((let_take ht _).app hd1).app (let_drop ht _), by rw [List.length_append, List.length_append, d1, d2]; show _ + 1 + _ ≤ 81; omega⟩
      · exact ⟨(let_take ht _).app (let_drop ht _), by rw [List.length_append, d1, d3]; omega⟩
      · exact ⟨let_take ht _, by rw [d1]; omega⟩
      · exact ⟨((let_take ht _).app hd1).app (let_drop ht _), by rw [List.length_append, List.length_append, d1, d3]; show _ + 1 + _ ≤ 81; omega⟩
    exact q y _ (((((((sm1.trans s2).trans s3).trans s4).trans s5).trans s6).trans s7).trans (same_upd hr2)) hy3.1 hy3.2
end
/-! ### how many partings: the mirror -/
/-- the word stands at the head of the rest -/
def hit (w r : List Nat) : Bool := TL.pre w r
theorem hit_iff {w r : List Nat} : hit w r = true ↔ r.take w.length = w := by
  unfold hit TL.pre
  exact beq_iff_eq
theorem hit_len {w r : List Nat} (h : hit w r = true) : w.length ≤ r.length := by
  have e := congrArg List.length (hit_iff.mp h)
  rw [List.length_take] at e
  omega
/-- what a word adds at a place, L: the counts behind the place -/
def adds (r : List Nat) (L : List Int) (w : List Nat) : Int := if hit w r = true then L.getD (w.length - 1) 0 else 0
def cnt (ws : List (List Nat)) : List Nat → List Int
  | [] => [1]
  | c :: r => (ws.map (adds (c :: r) (cnt ws r))).sum :: cnt ws r
theorem cnt_len (ws : List (List Nat)) : ∀ t : List Nat, (cnt ws t).length = t.length + 1
  | [] => rfl
  | c :: r => congrArg Nat.succ (cnt_len ws r)
theorem cnt_drop (ws : List (List Nat)) {t : List Nat} {p : Nat} (h : p < t.length) : cnt ws (t.drop p) = (ws.map (adds (t.drop p) (cnt ws (t.drop (p + 1))))).sum :: cnt ws (t.drop (p + 1)) := by
  rw [List.drop_eq_getElem_cons h]
  rfl
theorem perm_sum {l m : List Int} (h : l.Perm m) : l.sum = m.sum := by
  induction h with
  | nil => rfl
  | cons x _ ih => rw [List.sum_cons, List.sum_cons, ih]
  | swap x y l => rw [List.sum_cons, List.sum_cons, List.sum_cons, List.sum_cons]; omega
  | trans _ _ a b => exact a.trans b
theorem cnt_perm {ws vs : List (List Nat)} (h : ws.Perm vs) : ∀ t : List Nat, cnt ws t = cnt vs t
  | [] => rfl
  | c :: r => by
    have ih := cnt_perm h r
    show (ws.map (adds (c :: r) (cnt ws r))).sum :: cnt ws r = (vs.map (adds (c :: r) (cnt vs r))).sum :: cnt vs r
    rw [ih, perm_sum (h.map _)]
theorem sum_filter (r : List Nat) (L : List Int) : ∀ ws : List (List Nat), ((ws.filter fun w => hit w r).map fun w => L.getD (w.length - 1) 0).sum = (ws.map (adds r L)).sum
  | [] => rfl
  | x :: ws => by
    have ih := sum_filter r L ws
    rw [List.map_cons, List.sum_cons, ← ih]
    by_cases h : hit x r = true
    · rw [List.filter_cons_of_pos (p := fun w => hit w r) h, List.map_cons, List.sum_cons]
      unfold adds
      rw [if_pos h]
    · rw [List.filter_cons_of_neg (p := fun w => hit w r) h]
      unfold adds
      rw [if_neg h, Int.zero_add]
theorem take_sum {g : List Nat → Int} {ws : List (List Nat)} {i : Nat} (h : i < ws.length) : ((ws.take (i + 1)).map g).sum = ((ws.take i).map g).sum + g ws[i] := by
  rw [List.take_add_one, List.getElem?_eq_getElem h]
  show ((ws.take i ++ [ws[i]]).map g).sum = _
  rw [List.map_append, List.sum_append]
  show _ + (g ws[i] + 0) = _
  omega
/-! ### the model's startswith and slices -/
theorem start3 {t w : List Nat} (hw : w ≠ []) (p : Nat) : Txt.startswith3 (S t) (S w) (p : Int) = hit w (t.drop p) := by
  have e : PySem.fromIndex (S t).length (p : Int) = p := by
    unfold PySem.fromIndex
    rw [if_neg (by omega)]
    omega
  rw [Bool.eq_iff_iff]
  have h := TL.at_iff (x := S t) (y := S w) hw p
  unfold hit
  rw [← h]
  unfold Txt.startswith3
  rw [e, Bool.and_eq_true, decide_eq_true_eq]
  rfl
theorem slice_eq {t w : List Nat} (p : Nat) : decide (V.str (cutS (S t) (some (p : Int)) (some ((p : Int) + (w.length : Int)))) = V.str (S w)) = hit w (t.drop p) := by
  rw [cut_mid (by omega) (by omega), Bool.eq_iff_iff, decide_eq_true_eq, hit_iff]
  have e1 : ((p : Int) + (w.length : Int)).toNat - ((p : Int)).toNat = w.length := by omega
  have e2 : ((p : Int)).toNat = p := by omega
  rw [e1, e2]
  constructor
  · intro h
    exact S_inj (V.str.inj h)
  · intro h
    rw [h]
/-! ### the counts as they lie while they are reckoned -/
theorem zeros_get {p : Nat} {L : List Int} {k : Nat} (z : Int) (hk : 1 ≤ k) (h : k - 1 < L.length) : ((List.replicate p (0 : Int) ++ (z :: L)).map V.int)[p + k]? = some (V.int (L.getD (k - 1) 0)) := by
  rw [List.getElem?_map, List.getElem?_append_right (by rw [List.length_replicate]; omega), List.length_replicate]
  have e : p + k - p = (k - 1) + 1 := by omega
  rw [e, List.getElem?_cons_succ, List.getElem?_eq_getElem h, List.getD_eq_getElem?_getD, List.getElem?_eq_getElem h]
  rfl
theorem zeros_at {p : Nat} {L : List Int} (z : Int) : ((List.replicate p (0 : Int) ++ (z :: L)).map V.int)[p]? = some (V.int z) := by
  rw [List.getElem?_map, List.getElem?_append_right (by rw [List.length_replicate]; omega), List.length_replicate, Nat.sub_self]
  rfl
theorem zeros_set {p : Nat} {L : List Int} (z y : Int) : ((List.replicate p (0 : Int) ++ (z :: L)).map V.int).set p (V.int y) = (List.replicate p (0 : Int) ++ (y :: L)).map V.int := by
  rw [List.map_append, List.map_append, List.set_append_right _ _ (by rw [List.length_map, List.length_replicate]; omega), List.length_map, List.length_replicate, Nat.sub_self]
  rfl
theorem zeros_succ (p : Nat) (L : List Int) : List.replicate (p + 1) (0 : Int) ++ L = List.replicate p (0 : Int) ++ (0 :: L) := by
  rw [List.replicate_succ', List.append_assoc]
  rfl
theorem ixN_nat {n j : Nat} (h : j < n) : ixN n (j : Int) = some j := by
  unfold ixN
  rw [if_pos (by omega), if_pos (by omega), Int.toNat_natCast]
theorem flat_rep (n : Nat) (z : V) : (List.replicate n [z]).flatten = List.replicate n z := by
  induction n with
  | zero => rfl
  | succ n ih =>
    rw [List.replicate_succ, List.flatten_cons, ih, List.replicate_succ]
    rfl
theorem small1000_of {n : Nat} (h : n ≤ 10000) : n < sizeLine := Nat.lt_of_le_of_lt h (by decide)
theorem small_S {x : List Nat} (h : x.length ≤ 1000) : (S x).length ≤ sizeLine := by rw [S_len]; exact size1000 h
theorem len_v (w : List Nat) : V.int ((S w).length : Int) = V.int (w.length : Int) := congrArg (fun n : Nat => V.int (n : Int)) (S_len w)
section
variable {P : Program} {w : World} {K : PySem.W.Frag} {mg : Str → Option Value} {base : Heap} {f fW : Addr} {fd fdW : FuncData}
/-- the counts, told as a new list -/
def spCnt (K : PySem.W.Frag) : Sp := fun vs H Q _ => ∃ (b : Addr) (ws : List (List Nat)) (t : List Nat), vs = [.ref b, tx t] ∧ SqL K H b (ws.map tx) ∧ (∀ x ∈ ws, WordOk x) ∧ ws.length ≤ 12 ∧ t.length ≤ 500 ∧
  ∀ (g : Addr) (H' : Hp), Same H H' → H g = none → H' g = some (.lst ((cnt ws t).map V.int)) → Q (.ref g) H'
theorem scLawCounts : FnScope ["_law_words_here", "_law_text_here", "_law_found", "_law_place", "_law_word_here"] ["_law_words_here", "_law_text_here"] (defScope sLawCounts) := ⟨rfl, rfl, rfl, by decide +kernel, rfl, by decide +kernel, by decide +kernel⟩
theorem ok_lawCounts (F : FnP K "_law_counts" sLawCounts f fd) (mR : mg "range" = none) (mV : mg "reversed" = none) (mL : mg "len" = none) : FnOk P w K mg base CX0 1 f fd ["_law_words_here", "_law_text_here"] (spCnt K) := by
  refine F.okN scLawCounts (fun vs H Q E h => ?_) (fun cdv A' outer s H vs Q E hr h => ?_)
  · obtain ⟨b, ws, t, rfl, _⟩ := h
    rfl
  · obtain ⟨b, ws, t, rfl, hB, hw, hn, ht, q⟩ := h
    refine ⟨_, pss_cons (ps_set (i := 2) scLawCounts.nd rfl (.inl rfl) (pe_op op_cat (pe_op op_rep (pe_lst (pa_cons pe_int pa_nil)) (pe_callB call_len_str (by rfl) mL boot_len (pa_cons (pv 1) pa_nil))) (pe_lst (pa_cons pe_int pa_nil))))
      (pss_cons (ps_for PassesOwn.never rfl (pi_revR (by rfl) mV (prg_1 (by rfl) mR (pe_callB call_len_str (by rfl) mL boot_len (pa_cons (pv 1) pa_nil)))) (pg_name (i := 3) scLawCounts.nd rfl (Or.inl rfl))
        (pss_one (ps_for PassesOwn.never rfl (pi_list (pv 0)) (pg_name (i := 4) scLawCounts.nd rfl (Or.inl rfl))
          (pss_one (ps_if (pt_cmpR op_eq (pe_slice sl_str (pv 1) (po_some (pv 3)) (po_some (pe_op op_add (pv 3) (pe_callB call_len_str (by rfl) mL boot_len (pa_cons (pv 4) pa_nil))))) (pv 4) (nomark _))
            (pss_one (ps_asg (pe_op op_add (pe_ix ix_list (pv 2) (pv 3) (fun _ _ => rfl)) (pe_ix ix_list (pv 2) (pe_op op_add (pv 3) (pe_callB call_len_str (by rfl) mL boot_len (pa_cons (pv 4) pa_nil))) (fun _ _ => rfl))) (pg_sub (pv 2) (pv 3) set_list))) pss_nil)))))
      (pss_one (ps_ret (pv 2)))), ?_⟩
    have zt : (S t).length ≤ sizeLine := small_S (by omega)
    have lt : (S t).length = t.length := S_len t
    -- found
    refine ⟨by show 1 ≤ sizeLine; decide, fun p1 hp1 => ⟨_, rfl, S t, rfl, zt, p1, _, [V.int 0], rfl, rfl, upd_same, by omega, by omega, by show 1 * _ ≤ sizeLine; rw [Nat.one_mul, Int.toNat_natCast, lt]; exact size1000 (by omega), fun p2 hp2 => ?_⟩⟩
    rw [Int.toNat_natCast, flat_rep, lt]
    have s1 : Same H (upd H p1 (.lst [V.int 0])) := same_upd hp1
    have s2 := same_upd (o := .lst (List.replicate t.length (V.int 0))) hp2
    refine ⟨by show 1 ≤ sizeLine; decide, fun p3 hp3 => ?_⟩
    have s3 := same_upd (o := .lst [V.int 1]) hp3
    refine ⟨p2, p3, _, _, rfl, rfl, s3 _ _ upd_same, upd_same, by rw [List.length_replicate]; exact size1000 (by show t.length + 1 ≤ 1000; omega), fun g hg => ?_⟩
    have s4 := same_upd (o := .lst (List.replicate t.length (V.int 0) ++ [V.int 1])) hg
    have sA := ((s1.trans s2).trans s3).trans s4
    have hHg : H g = none := ((s1.trans s2).trans s3).free hg
    -- the places
    refine ⟨_, rfl, S t, rfl, zt, _, rfl, by omega, by omega, by omega, by omega, ?_⟩
    have en : (((S t).length : Int) - 0).toNat = t.length := by rw [lt]; omega
    rw [en]
    refine for_rangeC (lo := 0 + (t.length : Int) - 1) (c := -1) (n := t.length) (fun i σ H1 => Same H H1 ∧ ∃ (k3 k4 : Option V), σ = [some (.ref b), some (tx t), some (.ref g), k3, k4] ∧ H1 g = some (.lst ((List.replicate (t.length - i) (0 : Int) ++ cnt ws (t.drop (t.length - i))).map V.int))) ?_ ?_ ?_
    · refine ⟨sA, none, none, rfl, ?_⟩
      rw [upd_same, Nat.sub_zero, List.drop_length]
      show some (HO.lst (List.replicate t.length (V.int 0) ++ [V.int 1])) = some (HO.lst ((List.replicate t.length (0 : Int) ++ [1]).map V.int))
      rw [List.map_append, List.map_replicate]
      rfl
    · rintro i σ H1 hi ⟨sm, k3, k4, rfl, eg⟩
      obtain ⟨p, hp⟩ : ∃ p, p = t.length - 1 - i := ⟨_, rfl⟩
      have e1 : t.length - i = p + 1 := by omega
      have e2 : t.length - (i + 1) = p := by omega
      have hpt : p < t.length := by omega
      have hval : V.int (0 + (t.length : Int) - 1 + (i : Nat) * -1) = V.int (p : Int) := congrArg V.int (by omega)
      rw [e1, zeros_succ] at eg
      refine ⟨_, rfl, b, rfl, ⟨_, sm.seq hB⟩, for_list (K := K) (a := b) (xs := ws.map tx) (fun j σ H2 => Same H H2 ∧ ∃ (k4 : Option V), σ = [some (.ref b), some (tx t), some (.ref g), some (.int (p : Int)), k4] ∧ H2 g = some (.lst ((List.replicate p (0 : Int) ++ (((ws.take j).map (adds (t.drop p) (cnt ws (t.drop (p + 1))))).sum :: cnt ws (t.drop (p + 1)))).map V.int))) ?_ ?_ ?_ ?_⟩
      · refine ⟨sm, k4, ?_, eg⟩
        rw [← hval]
        rfl
      · intro j σ H2 _ hh
        exact hh.1.seq hB
      · rintro j x σ H2 hx ⟨sm2, k4', rfl, eg2⟩
        have hj : j < ws.length := by
          have := (List.getElem?_eq_some_iff.mp hx).1
          rw [List.length_map] at this
          exact this
        have hxe : x = tx ws[j] := by
          rw [List.getElem?_map, List.getElem?_eq_getElem hj] at hx
          exact (Option.some.inj hx).symm
        subst hxe
        obtain ⟨w1, w2, _⟩ := hw ws[j] (List.getElem_mem hj)
        have zw : (S ws[j]).length ≤ sizeLine := small_S (by omega)
        refine ⟨_, rfl, _, rfl, (p : Int), rfl, _, rfl, _, rfl, S ws[j], rfl, zw, (p : Int), (ws[j].length : Int), rfl, len_v _, _, rfl, S t, rfl, zt, _, rfl, rfl, _, rfl, ?_⟩
        rw [slice_eq, take_sum hj]
        unfold adds
        refine ite2 (fun hh => ?_) (fun hh => ?_)
        · rw [if_pos hh]
          have hle := hit_len hh
          rw [List.length_drop] at hle
          have hL : (cnt ws (t.drop (p + 1))).length = t.length - p := by rw [cnt_len, List.length_drop]; omega
          refine ⟨_, rfl, _, rfl, g, _, (p : Int), _, rfl, rfl, seqL eg2, atI_nat (zeros_at _), _, rfl, _, rfl, _, rfl, S ws[j], rfl, zw, (p : Int), (ws[j].length : Int), rfl, len_v _, g, _, _, _, rfl, rfl, seqL eg2, at_of (j := p + ws[j].length) (by omega) (zeros_get _ w1 (by omega)), _, _, rfl, rfl, ?_⟩
          refine ⟨_, rfl, _, rfl, g, _, (p : Int), p, rfl, rfl, eg2, ixN_nat (by rw [List.length_map, List.length_append, List.length_replicate]; show p < p + (_ + 1); omega), ?_⟩
          refine ⟨fun d o e => ?_, _, rfl, ?_⟩
          · rw [upd_ne (ne_of_none e hHg)]
            exact sm2 _ _ e
          · rw [upd_same, zeros_set]
            rfl
        · rw [if_neg hh, Int.add_zero]
          exact ⟨sm2, _, rfl, eg2⟩
      · rintro σ H2 ⟨sm2, k4', rfl, eg2⟩
        refine ⟨sm2, _, _, rfl, ?_⟩
        rw [List.length_map, List.take_length] at eg2
        rw [e2, eg2, ← cnt_drop ws hpt]
    · rintro σ H1 ⟨sm, k3, k4, rfl, eg⟩
      rw [Nat.sub_self, List.drop_zero] at eg
      exact ⟨_, rfl, q g H1 sm hHg eg⟩
theorem scWordsAt : FnScope ["code", "text", "at", "word"] ["code", "text", "at"] (defScope sWordsAt) := ⟨rfl, rfl, rfl, by decide +kernel, rfl, by decide +kernel, by decide +kernel⟩
def spWordsAt (K : PySem.W.Frag) : Sp := fun vs H Q _ => ∃ (b : Addr) (ws : List (List Nat)) (t : List Nat) (p : Nat), vs = [.ref b, tx t, .int (p : Int)] ∧ SqL K H b (ws.map tx) ∧ (∀ x ∈ ws, WordOk x) ∧ ws.length ≤ 12 ∧
  ∀ (r : Addr) (H' : Hp), Same H H' → H r = none → H' r = some (.lst ((ws.filter fun x => hit x (t.drop p)).map tx)) → Q (.ref r) H'
def rS3 : V → List V → Hp → VK → Prop := fun x xs H Q => ∃ (a b : Str) (i : Int), x = .str a ∧ xs = [.str b, .int i] ∧ Q (.bl (Txt.startswith3 a b i)) H
theorem take_filter {h : List Nat → Bool} {ws : List (List Nat)} {i : Nat} (hi : i < ws.length) : (ws.take (i + 1)).filter h = (ws.take i).filter h ++ (if h ws[i] = true then [ws[i]] else []) := by
  rw [List.take_add_one, List.getElem?_eq_getElem hi]
  show (ws.take i ++ [ws[i]]).filter h = _
  rw [List.filter_append]
  by_cases c : h ws[i] = true
  · rw [if_pos c, List.filter_cons_of_pos c]
    rfl
  · rw [if_neg c, List.filter_cons_of_neg c]
    rfl
theorem ok_wordsAt (F : FnP K "_words_at" sWordsAt f fd) : FnOk P w K mg base CX0 1 f fd ["code", "text", "at"] (spWordsAt K) := by
  refine F.okN scWordsAt (fun vs H Q E h => ?_) (fun cdv A' outer s H vs Q E hr h => ?_)
  · obtain ⟨b, ws, t, p, rfl, _⟩ := h
    rfl
  · obtain ⟨b, ws, t, p, rfl, hB, hw, hn, q⟩ := h
    refine ⟨_, pss_one (ps_ret (pe_lc (own := [("word", 3)]) (g := gName 3) (tt := tB (tBM K "str" rS3 (tVar 1) (tCons (tVar 3) (tCons (tVar 2) tNil)))) rfl scWordsAt.nd (pi_list (pv 0)) (blkOk_by (own := [("word", 3)]) (N := ["code", "text", "at", "word"]) (sc := defScope sWordsAt) (by decide +kernel))
      (fun _ _ _ _ _ => pg_name (i := 3) scWordsAt.nd rfl (Or.inl rfl)) (fun _ _ _ _ _ => pts_one (pt_val (pe_bm (r := rS3) PySem.F.plainAttrs_str PySem.F.slot_str_startswith PySem.F.type_str_startswith mt_startswith3 (pv 1) (pa_cons (pv 3) (pa_cons (pv 2) pa_nil))))) (fun _ _ _ _ _ => pv 3))), ?_⟩
    refine ⟨_, rfl, b, rfl, ⟨_, hB⟩, fun D hD => ?_⟩
    refine lc_list (K := K) (a := b) (xs := ws.map tx) (fun i H1 => Same H H1 ∧ H1 D = some (.lst (((ws.take i).filter fun x => hit x (t.drop p)).map tx))) ?_ ?_ ?_ ?_
    · exact ⟨same_upd hD, upd_same⟩
    · exact fun i H1 _ hh => hh.1.seq hB
    · rintro i x H1 hx ⟨sm, eD⟩
      have hj : i < ws.length := by
        have := (List.getElem?_eq_some_iff.mp hx).1
        rw [List.length_map] at this
        exact this
      have hxe : x = tx ws[i] := by
        rw [List.getElem?_map, List.getElem?_eq_getElem hj] at hx
        exact (Option.some.inj hx).symm
      subst hxe
      obtain ⟨w1, w2, _⟩ := hw ws[i] (List.getElem_mem hj)
      have wne : ws[i] ≠ [] := fun e => by
        rw [e] at w1
        exact absurd w1 (Nat.not_succ_le_zero 0)
      refine ⟨rfl, _, rfl, rfl, _, rfl, _, rfl, S t, S ws[i], (p : Int), rfl, rfl, _, rfl, ?_⟩
      rw [start3 wne, take_filter hj]
      refine ite2 (fun c => ?_) (fun c => ?_)
      · rw [if_pos c]
        refine ⟨_, rfl, _, eD, ?_, fun d o e => ?_, ?_⟩
        · rw [List.length_map]
          have h1 := List.length_filter_le (fun x => hit x (t.drop p)) (ws.take i)
          rw [List.length_take] at h1
          exact small1000 (by omega)
        · rw [upd_ne (ne_of_none e hD)]
          exact sm _ _ e
        · rw [upd_same, List.map_append]
          rfl
      · rw [if_neg c, List.append_nil]
        exact ⟨sm, eD⟩
    · rintro H1 ⟨sm, eD⟩
      rw [List.length_map, List.take_length] at eD
      exact q D H1 sm hD eD
theorem scCounts : FnScope ["code", "text", "counts", "at", "word"] ["code", "text"] (defScope sCounts) := ⟨rfl, rfl, rfl, by decide +kernel, rfl, by decide +kernel, by decide +kernel⟩
theorem ok_counts (F : FnP K "_counts" sCounts f fd) (W : Has K mg "_words_at" sWordsAt ["code", "text", "at"] fW fdW) (mR : mg "range" = none) (mV : mg "reversed" = none) (mL : mg "len" = none) (mS : mg "sum" = none) : FnOk P w K mg base CX0 2 f fd ["code", "text"] (spCnt K) := by
  have GW : FnOk P w K mg base CX0 1 fW fdW ["code", "text", "at"] (spWordsAt K) := ok_wordsAt W.F
  refine F.okN scCounts (fun vs H Q E h => ?_) (fun cdv A' outer s H vs Q E hr h => ?_)
  · obtain ⟨b, ws, t, rfl, _⟩ := h
    rfl
  · obtain ⟨b, ws, t, rfl, hB, hw, hn, ht, q⟩ := h
    refine ⟨_, pss_cons (ps_set (i := 2) scCounts.nd rfl (.inr rfl) (pe_op op_cat (pe_op op_rep (pe_lst (pa_cons pe_int pa_nil)) (pe_callB call_len_str (by rfl) mL boot_len (pa_cons (pv 1) pa_nil))) (pe_lst (pa_cons pe_int pa_nil))))
      (pss_cons (ps_for PassesOwn.never rfl (pi_revR (by rfl) mV (prg_1 (by rfl) mR (pe_callB call_len_str (by rfl) mL boot_len (pa_cons (pv 1) pa_nil)))) (pg_name (i := 3) scCounts.nd rfl (Or.inr rfl))
        (pss_one (ps_asg (pe_callB (cr_sum rfl) (by rfl) mS (by decide +kernel) (pa_cons (pe_lc (own := [("word", 4)]) (g := gName 4) (tt := tYes) rfl scCounts.nd (pi_list (pe_call GW hr (by rfl) W.g W.F.kp W.b .nil pass0 (pa_cons (pv 0) (pa_cons (pv 1) (pa_cons (pv 3) pa_nil))))) (blkOk_by (own := [("word", 4)]) (N := ["code", "text", "counts", "at", "word"]) (sc := defScope sCounts) (by decide +kernel))
          (fun _ _ _ _ _ => pg_name (i := 4) scCounts.nd rfl (Or.inl rfl)) (fun _ _ _ _ _ => pts_nil)
          (fun _ _ _ _ _ => pe_ix (r := rIxL K) ix_list (pv 2) (pe_op op_add (pv 3) (pe_callB call_len_str (by rfl) mL boot_len (pa_cons (pv 4) pa_nil))) (fun _ _ => rfl))) pa_nil)) (pg_sub (pv 2) (pv 3) set_list))))
      (pss_one (ps_ret (pv 2)))), ?_⟩
    have zt : (S t).length ≤ sizeLine := small_S (by omega)
    have lt : (S t).length = t.length := S_len t
    refine ⟨by show 1 ≤ sizeLine; decide, fun p1 hp1 => ⟨_, rfl, S t, rfl, zt, p1, _, [V.int 0], rfl, rfl, upd_same, by omega, by omega, by show 1 * _ ≤ sizeLine; rw [Nat.one_mul, Int.toNat_natCast, lt]; exact size1000 (by omega), fun p2 hp2 => ?_⟩⟩
    rw [Int.toNat_natCast, flat_rep, lt]
    have s1 : Same H (upd H p1 (.lst [V.int 0])) := same_upd hp1
    have s2 := same_upd (o := .lst (List.replicate t.length (V.int 0))) hp2
    refine ⟨by show 1 ≤ sizeLine; decide, fun p3 hp3 => ?_⟩
    have s3 := same_upd (o := .lst [V.int 1]) hp3
    refine ⟨p2, p3, _, _, rfl, rfl, s3 _ _ upd_same, upd_same, by rw [List.length_replicate]; exact size1000 (by show t.length + 1 ≤ 1000; omega), fun g hg => ?_⟩
    have s4 := same_upd (o := .lst (List.replicate t.length (V.int 0) ++ [V.int 1])) hg
    have sA := ((s1.trans s2).trans s3).trans s4
    have hHg : H g = none := ((s1.trans s2).trans s3).free hg
    refine ⟨_, rfl, S t, rfl, zt, _, rfl, by omega, by omega, by omega, by omega, ?_⟩
    have en : (((S t).length : Int) - 0).toNat = t.length := by rw [lt]; omega
    rw [en]
    refine for_rangeC (lo := 0 + (t.length : Int) - 1) (c := -1) (n := t.length) (fun i σ H1 => Same H H1 ∧ ∃ (k3 : Option V), σ = [some (.ref b), some (tx t), some (.ref g), k3, none] ∧ H1 g = some (.lst ((List.replicate (t.length - i) (0 : Int) ++ cnt ws (t.drop (t.length - i))).map V.int))) ?_ ?_ ?_
    · refine ⟨sA, none, rfl, ?_⟩
      rw [upd_same, Nat.sub_zero, List.drop_length]
      show some (HO.lst (List.replicate t.length (V.int 0) ++ [V.int 1])) = some (HO.lst ((List.replicate t.length (0 : Int) ++ [1]).map V.int))
      rw [List.map_append, List.map_replicate]
      rfl
    · rintro i σ H1 hi ⟨sm, k3, rfl, eg⟩
      obtain ⟨p, hp⟩ : ∃ p, p = t.length - 1 - i := ⟨_, rfl⟩
      have e1 : t.length - i = p + 1 := by omega
      have e2 : t.length - (i + 1) = p := by omega
      have hpt : p < t.length := by omega
      have hval : V.int (0 + (t.length : Int) - 1 + (i : Nat) * -1) = V.int (p : Int) := congrArg V.int (by omega)
      rw [e1, zeros_succ] at eg
      rw [hval]
      refine ⟨_, rfl, _, rfl, _, rfl, b, ws, t, p, rfl, sm.seq hB, hw, hn, fun r H2 sm2 nr eR => ?_⟩
      obtain ⟨vs, evs⟩ : ∃ vs, vs = ws.filter fun x => hit x (t.drop p) := ⟨_, rfl⟩
      rw [← evs] at eR
      have hvs : ∀ x ∈ vs, x ∈ ws ∧ hit x (t.drop p) = true := fun x hx => by
        rw [evs] at hx
        exact (List.mem_filter (p := fun x => hit x (t.drop p))).mp hx
      have hvl : vs.length ≤ 12 := by
        have := List.length_filter_le (fun x => hit x (t.drop p)) ws
        rw [← evs] at this
        omega
      have eg2 := sm2 _ _ eg
      have nrg : r ≠ g := fun e => by
        rw [e, eg] at nr
        cases nr
      refine ⟨r, rfl, ⟨_, seqL eR⟩, fun D hD => ?_⟩
      have nDr : r ≠ D := ne_of_none eR hD
      have nDg : g ≠ D := ne_of_none eg2 hD
      have hHD : H D = none := (sm.trans sm2).free hD
      refine lc_list (K := K) (a := r) (xs := vs.map tx) (fun j H3 => Same H H3 ∧ H3 r = some (.lst (vs.map tx)) ∧ H3 g = some (.lst ((List.replicate p (0 : Int) ++ (0 :: cnt ws (t.drop (p + 1)))).map V.int)) ∧ H3 D = some (.lst (((vs.take j).map fun x => (cnt ws (t.drop (p + 1))).getD (x.length - 1) 0).map V.int))) ?_ ?_ ?_ ?_
      · exact ⟨(sm.trans sm2).trans (same_upd hD), by rw [upd_ne nDr]; exact eR, by rw [upd_ne nDg]; exact eg2, upd_same⟩
      · exact fun j H3 _ hh => seqL hh.2.1
      · rintro j x H3 hx ⟨sm3, eR3, eg3, eD3⟩
        have hj : j < vs.length := by
          have := (List.getElem?_eq_some_iff.mp hx).1
          rw [List.length_map] at this
          exact this
        have hxe : x = tx vs[j] := by
          rw [List.getElem?_map, List.getElem?_eq_getElem hj] at hx
          exact (Option.some.inj hx).symm
        subst hxe
        obtain ⟨m1, m2⟩ := hvs vs[j] (List.getElem_mem hj)
        obtain ⟨w1, w2, _⟩ := hw vs[j] m1
        have hle := hit_len m2
        rw [List.length_drop] at hle
        have hL : (cnt ws (t.drop (p + 1))).length = t.length - p := by rw [cnt_len, List.length_drop]; omega
        refine ⟨rfl, _, rfl, _, rfl, _, rfl, S vs[j], rfl, small_S (by omega), (p : Int), (vs[j].length : Int), rfl, len_v _, g, _, _, _, rfl, rfl, seqL eg3, at_of (j := p + vs[j].length) (by omega) (zeros_get _ w1 (by omega)), ?_⟩
        refine ⟨_, eD3, by rw [List.length_map, List.length_map, List.length_take]; exact small1000 (by omega), fun d o e => ?_, by rw [upd_ne nDr]; exact eR3, by rw [upd_ne nDg]; exact eg3, ?_⟩
        · rw [upd_ne (ne_of_none e hHD)]
          exact sm3 _ _ e
        · rw [upd_same, List.take_add_one, List.getElem?_eq_getElem hj, List.map_append, List.map_append]
          rfl
      · rintro H3 ⟨sm3, eR3, eg3, eD3⟩
        rw [List.length_map, List.take_length] at eD3
        refine ⟨D, _, rfl, seqL eD3, ?_⟩
        rw [evs, sum_filter]
        refine ⟨_, rfl, _, rfl, g, _, (p : Int), p, rfl, rfl, eg3, ixN_nat (by rw [List.length_map, List.length_append, List.length_replicate]; show p < p + (_ + 1); omega), ?_⟩
        refine ⟨fun d o e => ?_, _, rfl, ?_⟩
        · rw [upd_ne (ne_of_none e hHg)]
          exact sm3 _ _ e
        · rw [upd_same, zeros_set, e2, cnt_drop ws hpt]
    · rintro σ H1 ⟨sm, k3, rfl, eg⟩
      rw [Nat.sub_self, List.drop_zero] at eg
      exact ⟨_, rfl, q g H1 sm hHg eg⟩
end
/-! ### a range object that a name holds, walked -/
def iRngV (te : TE) : TI := fun σ H R => te σ H fun x H1 => ∃ a lo hi, x = .ref a ∧ H1 a = some (.rng lo hi) ∧ (-(2 ^ 62) ≤ lo ∧ lo < 2 ^ 62 ∧ -(2 ^ 62) ≤ hi ∧ hi < 2 ^ 62) ∧ R (Itr lo (hi - lo).toNat) H1
theorem pi_rngV {X : Cx} {tg e : Expr} {te : TE} (he : PE X e te) : PI X tg e (iRngV te) := by
  refine ⟨fun pins s σ H R I h => ?_⟩
  refine thn (he.run pins s σ H _ I h) fun v s1 ⟨x, H1, I1, r1, q1⟩ => ?_
  obtain ⟨a, lo, hi, ex, ha, ⟨h1, h2, h3, h4⟩, q⟩ := q1
  subst ex
  cases r1
  obtain ⟨t, u, v, hr⟩ := (show ObjOk X.prog X.w H1 s1.heap a (.rng lo hi) from I1.hok a _ ha)
  refine wpAny_pyIter_range (show IsRange s1.heap a lo hi 1 t u v from hr) (small_one h1 h2 h3 h4) ?_
  refine ⟨s1.heap.objs.size, [s1.heap.objs.size], _, _, H1, rfl, I1.kept (t' := s1.toks) fun b o e => Heap.get?_push_of_some _ e, turn_range _ lo (hi - lo).toNat, ?_, fun b hb => ?_, q⟩
  · have e1 : lo + ((0 : Nat) : Int) * 1 = lo := by simp
    have e2 : (((hi - lo).toNat : Nat) : Int) - ((0 : Nat) : Int) = Builtin.Range.rangeSize lo hi 1 := by rw [rangeSize_one]; split <;> omega
    show IsRangeIter _ _ (lo + ((0 : Nat) : Int) * 1) ((((hi - lo).toNat : Nat) : Int) - ((0 : Nat) : Int)) 1
    rw [e1, e2]
    exact Heap.get?_push_size _ rfl
  · have e : b = s1.heap.objs.size := by simpa using hb
    subst e
    exact I1.fpOk (Nat.le_refl _) (I1.hok.fresh (Nat.le_refl _))
/-! ### truths, and tables of them -/
noncomputable def bp (p : Prop) : Bool := @decide p (Classical.propDecidable p)
theorem bp_iff {p : Prop} : bp p = true ↔ p := by
  unfold bp
  exact @decide_eq_true_iff p (Classical.propDecidable p)
theorem bp_true {p : Prop} (h : p) : bp p = true := bp_iff.mpr h
theorem bp_false {p : Prop} (h : ¬ p) : bp p = false := by
  cases e : bp p with
  | false => rfl
  | true => exact absurd (bp_iff.mp e) h
theorem bp_congr {p q : Prop} (h : p ↔ q) : bp p = bp q := by
  rw [Bool.eq_iff_iff, bp_iff, bp_iff]
  exact h
noncomputable def tbl (n : Nat) (P : Nat → Prop) : List V := (List.range (n + 1)).map fun j => V.bl (bp (P j))
theorem tbl_len (n : Nat) (P : Nat → Prop) : (tbl n P).length = n + 1 := by
  unfold tbl
  rw [List.length_map, List.length_range]
theorem tbl_at {n : Nat} {P : Nat → Prop} {j : Nat} (h : j ≤ n) : (tbl n P)[j]? = some (V.bl (bp (P j))) := by
  unfold tbl
  rw [List.getElem?_map, List.getElem?_range (by omega)]
  rfl
theorem tbl_congr {n : Nat} {P Q : Nat → Prop} (h : ∀ i, i ≤ n → (P i ↔ Q i)) : tbl n P = tbl n Q := by
  unfold tbl
  refine List.map_congr_left fun j hj => ?_
  rw [bp_congr (h j (by have := List.mem_range.mp hj; omega))]
theorem tbl_set {n : Nat} {P : Nat → Prop} {j : Nat} : (tbl n P).set j (V.bl true) = tbl n fun i => P i ∨ i = j := by
  refine List.ext_getElem? fun i => ?_
  rw [List.getElem?_set]
  by_cases hi : i ≤ n
  · rw [tbl_at hi, tbl_at hi]
    by_cases e : j = i
    · rw [if_pos e, if_pos (by rw [tbl_len]; omega), bp_true (Or.inr e.symm)]
    · rw [if_neg e]
      refine congrArg some (congrArg V.bl (bp_congr ⟨Or.inl, fun z => ?_⟩))
      rcases z with z | z
      · exact z
      · exact absurd z.symm e
  · have l1 : (tbl n P)[i]? = none := List.getElem?_eq_none_iff.mpr (by rw [tbl_len]; omega)
    have l2 : (tbl n fun i => P i ∨ i = j)[i]? = none := List.getElem?_eq_none_iff.mpr (by rw [tbl_len]; omega)
    rw [l1, l2]
    by_cases e : j = i
    · rw [if_pos e, if_neg (by rw [tbl_len]; omega)]
    · rw [if_neg e]
theorem tbl_init (n : Nat) : V.bl true :: List.replicate n (V.bl false) = tbl n fun j => j = 0 := by
  unfold tbl
  rw [List.range_succ_eq_map, List.map_cons, bp_true rfl, List.map_map]
  refine congrArg _ ?_
  refine List.ext_getElem? fun i => ?_
  rw [List.getElem?_replicate, List.getElem?_map]
  by_cases h : i < n
  · rw [if_pos h, List.getElem?_range h]
    show _ = some (V.bl (bp (i + 1 = 0)))
    rw [bp_false (by omega)]
  · rw [if_neg h, List.getElem?_eq_none_iff.mpr (by rw [List.length_range]; omega)]
    rfl
/-! ### the places that rows reach -/
inductive RchK (ws : List (List Nat)) (t : List Nat) (k : Nat) : Nat → Prop where
  | zero : RchK ws t k 0
  | step {p : Nat} {w : List Nat} : p < k → RchK ws t k p → w ∈ ws → hit w (t.drop p) = true → RchK ws t k (p + w.length)
section
variable {ws : List (List Nat)} {t : List Nat}
theorem RchK.mono {k m j : Nat} (h : k ≤ m) (r : RchK ws t k j) : RchK ws t m j := by
  induction r with
  | zero => exact .zero
  | step a _ b c ih => exact .step (by omega) ih b c
theorem RchK.first {j : Nat} : RchK ws t 0 j ↔ j = 0 := by
  constructor
  · intro r
    cases r with
    | zero => rfl
    | step a _ _ _ => exact absurd a (Nat.not_lt_zero _)
  · rintro rfl
    exact .zero
theorem RchK.low (hw : ∀ w ∈ ws, 1 ≤ w.length) {k m j : Nat} (r : RchK ws t m j) (h : j ≤ k) : RchK ws t k j := by
  induction r with
  | zero => exact .zero
  | step a b c d ih =>
    have := hw _ c
    exact .step (by omega) (ih (by omega)) c d
theorem RchK.succ (hw : ∀ w ∈ ws, 1 ≤ w.length) {k j : Nat} : RchK ws t (k + 1) j ↔ RchK ws t k j ∨ (RchK ws t k k ∧ ∃ w ∈ ws, hit w (t.drop k) = true ∧ j = k + w.length) := by
  constructor
  · intro r
    induction r with
    | zero => exact .inl .zero
    | @step p w a b c d ih =>
      have rp : RchK ws t k p := b.low hw (by omega)
      by_cases e : p = k
      · subst e
        exact .inr ⟨rp, w, c, d, rfl⟩
      · exact .inl (.step (by omega) rp c d)
  · rintro (r | ⟨r, w, c, d, rfl⟩)
    · exact r.mono (by omega)
    · exact .step (by omega) (r.mono (by omega)) c d
theorem RchK.perm {vs : List (List Nat)} (h : ∀ w, w ∈ vs ↔ w ∈ ws) {k j : Nat} : RchK vs t k j ↔ RchK ws t k j := by
  constructor
  · intro r
    induction r with
    | zero => exact .zero
    | step a _ c d ih => exact .step a ih ((h _).mp c) d
  · intro r
    induction r with
    | zero => exact .zero
    | step a _ c d ih => exact .step a ih ((h _).mpr c) d
end
/-- some text of the code begins with t -/
def Ans (ws : List (List Nat)) (t : List Nat) : Prop := RchK ws t t.length t.length ∨ ∃ p, p < t.length ∧ RchK ws t t.length p ∧ ∃ w ∈ ws, w.take (t.length - p) = t.drop p
theorem Ans.perm {ws vs : List (List Nat)} {t : List Nat} (h : ∀ w, w ∈ vs ↔ w ∈ ws) : Ans vs t ↔ Ans ws t := by
  unfold Ans
  rw [RchK.perm h]
  refine or_congr Iff.rfl (exists_congr fun p => and_congr Iff.rfl (and_congr (RchK.perm h) (exists_congr fun w => and_congr (h w) Iff.rfl)))
theorem start1 {r w : List Nat} (hr : r ≠ []) : Txt.startswith (S w) (S r) = hit r w := by
  rw [Bool.eq_iff_iff]
  have h := TL.at_iff (x := S w) (y := S r) hr 0
  rw [List.drop_zero] at h
  unfold hit
  rw [← h]
  unfold Txt.startswith
  rw [Bool.and_eq_true, decide_eq_true_eq]
  show _ ↔ (0 + (S r).length ≤ (S w).length ∧ Builtin.Str.subAt (S w) (S r) 0 = true)
  rw [Nat.zero_add]
section
variable {Pr : Program} {w : World} {K : PySem.W.Frag} {mg : Str → Option Value} {base : Heap} {f fW : Addr} {fd fdW : FuncData}
end
/-! ### a def whose code object is known -/
theorem _root_.L2.FunD.okC {P : Program} {w : World} {K : PySem.W.Frag} {mg : Str → Option Value} {base : Heap} {x qual : Str} {params : Arguments} {body : List Stmt} {scope : Scope} {dvs : List V} {kws : List (Str × V)} {at_ : Str × Option Str} {fd : FuncData}
    {CX : CXT} {N ps : List Str} {k : Nat} {sp : Sp} (F : FunD K x qual params body scope dvs kws (He.fAd K at_) fd) (S : FnScope N ps scope) (len : ∀ vs H Q E, sp vs H Q E → vs.length = ps.length)
    (hbody : ∀ (A : Around) (outer : List Env) (s : Shared) (H : Hp) (vs : List V) (Q : VK) (E : XK), Room k (A.deeper (envOfC qual scope s.heap.objs.size (He.fAd K at_) (.ref (He.codeOf K at_)))) → sp vs H Q E →
      ∃ t, PSs (cxOf CX P w K mg base N qual scope (He.fAd K at_) (.ref (He.codeOf K at_)) A outer s H E).nox body t ∧ t { nx := fun _ H' => Q .non H', rt := Q } (start N vs) H) : FnOk P w K mg base CX (k + 1) (He.fAd K at_) fd ps sp := by
  obtain ⟨oc, od, dV, kV, doc, pm, an, cdv, ct, osl, rfl, lk, hcd, _, _⟩ := F.ex
  obtain ⟨c, rfl⟩ := He.codeIn_ref hcd
  have e : He.codeOf K at_ = c := He.codeOf_eq lk rfl
  refine fn_of lk hcd S len fun A outer s H vs Q E hr hsp => ?_
  rw [e] at hbody
  obtain ⟨t, q, r⟩ := hbody A outer s H vs Q E hr hsp
  exact ⟨t, q.nox, r⟩
/-! ### heaps but for a table -/
structure Sm (P : Addr) (H H' : Hp) : Prop where
  tab : GxR.TabG H' P
  keep : ∀ b o, b ≠ P → H b = some o → H' b = some o
theorem Sm.of_same {P : Addr} {H H' : Hp} (t : GxR.TabG H P) (s : Same H H') : Sm P H H' := by
  obtain ⟨ps, e, h⟩ := t
  exact ⟨⟨ps, s _ _ e, h⟩, fun b o _ q => s _ _ q⟩
theorem Sm.refl {P : Addr} {H : Hp} (t : GxR.TabG H P) : Sm P H H := .of_same t (Same.refl H)
theorem Sm.trans {P : Addr} {H H1 H2 : Hp} (a : Sm P H H1) (b : Sm P H1 H2) : Sm P H H2 := ⟨b.tab, fun c o n e => b.keep c o n (a.keep c o n e)⟩
theorem Sm.of_tabbed {P : Addr} {H H' : Hp} (t : GxR.Tabbed P H H') : Sm P H H' := ⟨t.1, fun b o n e => by rw [t.2 b n]; exact e⟩
theorem Sm.andThen {P : Addr} {H H1 H2 : Hp} (a : Sm P H H1) (b : Same H1 H2) : Sm P H H2 := a.trans (.of_same a.tab b)
theorem Sm.free {P : Addr} {H H' : Hp} (t : GxR.TabG H P) (s : Sm P H H') {l : Addr} (h : H' l = none) : H l = none := by
  obtain ⟨ps, e, _⟩ := s.tab
  have nl : l ≠ P := fun z => by
    rw [z, e] at h
    cases h
  cases q : H l with
  | none => rfl
  | some o =>
    rw [s.keep l o nl q] at h
    cases h
theorem TabG.ne {P : Addr} {H : Hp} (t : GxR.TabG H P) {b : Addr} {xs : List V} (h : H b = some (.lst xs)) : b ≠ P := by
  obtain ⟨ps, e, _⟩ := t
  intro z
  rw [z, e] at h
  cases h
theorem Sm.seq {K : PySem.W.Frag} {P : Addr} {H H' : Hp} {a : Addr} {xs : List V} (t : GxR.TabG H P) (s : Sm P H H') (h : SqL K H a xs) : SqL K H' a xs := by
  obtain ⟨ps, e, _⟩ := t
  rcases h with (h | ⟨o, h⟩) | h
  · exact .inl (.inl (s.keep _ _ (fun z => by rw [z, e] at h; cases h) h))
  · exact .inl (.inr ⟨o, s.keep _ _ (fun z => by rw [z, e] at h; cases h) h⟩)
  · exact .inr h
theorem Sm.lst {P : Addr} {H H' : Hp} {a : Addr} {xs : List V} (t : GxR.TabG H P) (s : Sm P H H') (h : H a = some (.lst xs)) : H' a = some (.lst xs) := s.keep _ _ (TabG.ne t h) h
theorem tab_upd {P : Addr} {H : Hp} {p : Addr} {o : HO} (t : GxR.TabG H P) (h : p ≠ P) : GxR.TabG (upd H p o) P := by
  obtain ⟨ps, e, q⟩ := t
  exact ⟨ps, by rw [upd_ne (Ne.symm h)]; exact e, q⟩
theorem iteP {c A B : Prop} [Decidable c] (hc : c) (h : A) : if decide c = true then A else B := by
  rw [if_pos (decide_eq_true hc)]
  exact h
theorem iteN {c A B : Prop} [Decidable c] (hc : ¬ c) (h : B) : if decide c = true then A else B := by
  rw [if_neg (fun z => hc (of_decide_eq_true z))]
  exact h
theorem iteNP {c A B : Prop} [Decidable c] (hc : c) (h : B) : if (!decide c) = true then A else B := by
  rw [decide_eq_true hc, if_neg (by decide)]
  exact h
theorem iteNN {c A B : Prop} [Decidable c] (hc : ¬ c) (h : A) : if (!decide c) = true then A else B := by
  rw [decide_eq_false hc, if_pos (by decide)]
  exact h
/-! ### 'a' <= sign <= 'z' -/
theorem lt_one (c d : Nat) : ([c] : List Nat) < [d] ↔ c < d := by
  rw [List.cons_lt_cons_iff]
  constructor
  · rintro (h | ⟨_, h⟩)
    · exact h
    · exact absurd h (List.not_lt_nil _)
  · exact Or.inl
theorem elt_az {prog : Program} {w : World} {scope : Scope} {x : Str} {j k : Nat} {p1 p2 p3 p4 : Pos} (hk : scope.kind = .function) (hl : scope.names.lookup x = some .local) (hd : (x == ("__debug__" : Str)) = false := by decide) :
    GxR.EltP prog w scope x (.Compare (.Constant (.str "a") j p1) [.LtE, .LtE] [.Name x p2, .Constant (.str "z") k p3] p4) (fun c => decide (97 ≤ c) && decide (c ≤ 122)) := by
  intro cenv A' E' c t s₂ m₂ hs hn hm
  have ea : (Str.ofString "a").cps.toList = [97] := by decide +kernel
  have ez : (Str.ofString "z").cps.toList = [122] := by decide +kernel
  refine Compare_chain ?_
  refine Calls.Constant_str ?_
  refine chain_link ?_
  refine wpAny_Name (wpAny_loadName_local (by rw [hs]; exact hk) (show cenv.scope.names.lookup x = some .local by rw [hs]; exact hl) hn hm ?_) hd
  refine PySem.P.le_str ?_
  refine wpAny_truthy_bool ?_
  rw [ea]
  by_cases h1 : 97 ≤ c
  · have e1 : (!(decide (([c] : List Nat) < [97]))) = true := by
      rw [decide_eq_false (fun z => by have := (lt_one c 97).mp z; omega)]
      rfl
    rw [if_pos e1]
    refine chain_last ?_
    refine Calls.Constant_str ?_
    refine PySem.P.le_str ?_
    rw [ez]
    refine ⟨?_, GxR.keeps_tok _ _⟩
    refine congrArg Value.bool ?_
    show (!decide (([122] : List Nat) < [c])) = (decide (97 ≤ c) && decide (c ≤ 122))
    rw [decide_eq_true h1, Bool.true_and]
    by_cases h2 : c ≤ 122
    · rw [decide_eq_true h2, decide_eq_false (fun z => by have := (lt_one 122 c).mp z; omega)]
      rfl
    · rw [decide_eq_false h2, decide_eq_true ((lt_one 122 c).mpr (by omega))]
      rfl
  · have e1 : (!(decide (([c] : List Nat) < [97]))) = false := by
      rw [decide_eq_true ((lt_one c 97).mpr (by omega))]
      rfl
    rw [if_neg (by rw [e1]; exact Bool.false_ne_true)]
    refine ⟨?_, GxR.keeps_tok _ _⟩
    refine congrArg Value.bool ?_
    show (!decide (([c] : List Nat) < [97])) = (decide (97 ≤ c) && decide (c ≤ 122))
    rw [e1, decide_eq_false h1]
    rfl
/-- the built-in names and constants -/
structure Bl (mg : Str → Option Value) : Prop where
  mT : mg "type" = none
  mStr : mg "str" = none
  mL : mg "len" = none
  mAll : mg "all" = none
  mList : mg "list" = none
  mSorted : mg "sorted" = none
  mR : mg "range" = none
  mV : mg "reversed" = none
  mSum : mg "sum" = none
  mIsi : mg "isinstance" = none
  mInt : mg "int" = none
  mBool : mg "bool" = none
  mAny : mg "any" = none
  mMax : mg "max" = none
  mDict : mg "dict" = none
  mTuple : mg "tuple" = none
  mMin : mg "min" = none
  mVE : mg "ValueError" = none
  mEnum : mg "enumerate" = none
  mZip : mg "zip" = none
  mN : ∃ u, mg "MOST_SIGNS" = some (.int 10 u)
  mM : ∃ u, mg "MOST_WORDS" = some (.int 12 u)
section
variable {Pr : Program} {w : World} {K : PySem.W.Frag} {mg : Str → Option Value} {base : Heap} {fd : FuncData} {P : Addr}
theorem scIsWord : FnScope ["thing"] ["thing"] (defScope sIsWord) := ⟨rfl, rfl, rfl, by decide +kernel, rfl, by decide +kernel, by decide +kernel⟩
abbrev aWord : Str × Option Str := ("is_word", none)
def spIsWord (P : Addr) : Sp := fun vs H Q _ => ∃ (l : List Nat), vs = [tx l] ∧ WordOk l ∧ GxR.TabG H P ∧ ∀ H', Sm P H H' → Q (.bl true) H'
theorem ok_isWord (F : FnP K "is_word" sIsWord (He.fAd K aWord) fd) (T : GxR.TabB base mg (He.codeOf K aWord) P) (mT : mg "type" = none) (mStr : mg "str" = none) (mL : mg "len" = none) (mAll : mg "all" = none) {u : Tok} (mN : mg "MOST_SIGNS" = some (.int 10 u)) :
    FnOk Pr w K mg base CX0 1 (He.fAd K aWord) fd ["thing"] (spIsWord P) := by
  refine F.okC scIsWord (fun vs H Q E h => ?_) (fun A' outer s H vs Q E hr h => ?_)
  · obtain ⟨l, rfl, _⟩ := h
    rfl
  · obtain ⟨l, rfl, ⟨l1, l2, l3⟩, hT, q⟩ := h
    refine ⟨_, pss_cons (ps_if (pt_cmpR op_isNotTy (pe_callTy RZ.call_type4 (by rfl) mT boot_type (pa_cons (pv 0) pa_nil)) (pe_bltn (v := .ty "str") (by rfl) mStr boot_str rfl) (nomark _)) (pss_one (ps_ret pe_bl)) pss_nil)
      (pss_cons (ps_if (pt_not (pt_chain op_le op_le pe_int (pe_callB call_len_str (by rfl) mL boot_len (pa_cons (pv 0) pa_nil)) (pe_glob (v := .int 10) (by rfl) mN ⟨_, rfl⟩))) (pss_one (ps_ret pe_bl)) pss_nil)
      (pss_one (ps_ret (GxR.pe_allS hr (by rfl) mAll boot_all T rfl ⟨rfl, rfl, ?gc, rfl, rfl, ?gf⟩ (pv 0) (elt_az rfl rfl) (fun _ => rfl))))), ?_⟩
    case gc =>
      intro y hy e
      simp only [List.mem_cons, List.not_mem_nil, or_false] at hy
      rcases hy with rfl | rfl <;> cases e
    case gf =>
      intro y hy e
      simp only [List.mem_cons, List.not_mem_nil, or_false] at hy
      rcases hy with rfl | rfl <;> cases e
    refine ⟨_, rfl, _, "str", rfl, .str _, "str", "str", rfl, rfl, _, rfl, ?_⟩
    refine iteF ?_
    have ll : (S l).length = l.length := S_len l
    refine ⟨_, rfl, S l, rfl, small_S (by omega), _, _, rfl, rfl, _, rfl, ?_⟩
    refine iteP (by rw [ll]; omega) ⟨_, _, rfl, rfl, _, rfl, ?_⟩
    rw [decide_eq_true (show ((S l).length : Int) ≤ 10 by rw [ll]; omega)]
    refine iteF ?_
    refine ⟨_, rfl, S l, rfl, hT, fun H2 hH => ?_⟩
    have e : (S l).cps.toList.all (fun c => decide (97 ≤ c) && decide (c ≤ 122)) = true := by
      rw [List.all_eq_true]
      intro c hc
      have := l3 c hc
      rw [decide_eq_true this.1, decide_eq_true this.2]
      rfl
    rw [e]
    exact q H2 (.of_tabbed hH)
variable {f fI fC fH : Addr} {fdI fdC fdH : FuncData}
theorem scChecked : FnScope ["words", "found", "thing"] ["words"] (defScope sChecked) := ⟨rfl, rfl, rfl, by decide +kernel, rfl, by decide +kernel, by decide +kernel⟩
def spChecked (P : Addr) : Sp := fun vs H Q _ => ∃ (b : Addr) (ws : List (List Nat)), vs = [.ref b] ∧ H b = some (.lst (ws.map tx)) ∧ CodeOk ws ∧ GxR.TabG H P ∧
  ∀ (r : Addr) (vs : List (List Nat)) (H' : Hp), Sm P H H' → H r = none → H' r = some (.lst (vs.map tx)) → vs.Perm ws → sortedS (vs.map S) = true → Q (.ref r) H'
/-- the program's is_word, as it stands behind the top -/
structure HasI (K : PySem.W.Frag) (mg : Str → Option Value) (base : Heap) (P : Addr) (fd : FuncData) : Prop where
  F : FnP K "is_word" sIsWord (He.fAd K aWord) fd
  g : mg "is_word" = some (.ref (He.fAd K aWord))
  b : Binds K fd ["thing"] []
  T : GxR.TabB base mg (He.codeOf K aWord) P
theorem ok_checked (F : FnP K "checked" sChecked f fd) (I : HasI K mg base P fdI) (B : Bl mg) : FnOk Pr w K mg base CX0 2 f fd ["words"] (spChecked P) := by
  obtain ⟨u10, mN⟩ := B.mN
  obtain ⟨u12, mM⟩ := B.mM
  have GI : FnOk Pr w K mg base CX0 1 (He.fAd K aWord) fdI ["thing"] (spIsWord P) := ok_isWord I.F I.T B.mT B.mStr B.mL B.mAll mN
  refine F.okN scChecked (fun vs H Q E h => ?_) (fun cdv A' outer s H vs Q E hr h => ?_)
  · obtain ⟨b, ws, rfl, _⟩ := h
    rfl
  · obtain ⟨b, ws, rfl, hB, ⟨c1, c2, c3⟩, hT, q⟩ := h
    refine ⟨_, pss_cons (ps_if (pt_cmpR op_isNotTy (pe_callTy RZ.call_type4 (by rfl) B.mT boot_type (pa_cons (pv 0) pa_nil)) (pe_bltn (v := .ty "list") (by rfl) B.mList boot_list rfl) (nomark _)) pss_never pss_nil)
      (pss_cons (ps_if (pt_cmpR op_gt (pe_callB call_len_seq (by rfl) B.mL boot_len (pa_cons (pv 0) pa_nil)) (pe_glob (v := .int 12) (by rfl) mM ⟨_, rfl⟩) (nomark _)) pss_never pss_nil)
      (pss_cons (ps_set (i := 1) scChecked.nd rfl (.inl rfl) (pe_lst pa_nil))
      (pss_cons (ps_for PassesOwn.never rfl (pi_list (pv 0)) (pg_name (i := 2) scChecked.nd rfl (Or.inl rfl))
        (pss_cons (ps_if (pt_not (pt_val (pe_call GI hr (by rfl) I.g I.F.kp I.b .nil pass0 (pa_cons (pv 2) pa_nil)))) pss_never pss_nil)
        (pss_cons (ps_if (pt_cmpR op_in_seq (pv 2) (pv 1) (by rfl)) pss_never pss_nil)
        (pss_one (ps_expr (pe_bm PySem.F.plainAttrs_list PySem.F.slot_list_append PySem.F.type_list_append mt_append (pv 1) (pa_cons (pv 2) pa_nil)))))))
      (pss_one (ps_ret (pe_callB cr_sortedS (by rfl) B.mSorted boot_sorted (pa_cons (pv 1) pa_nil))))))), ?_⟩
    refine ⟨_, rfl, _, "list", rfl, .lst hB, "list", "list", rfl, rfl, _, rfl, ?_⟩
    refine iteF ?_
    refine ⟨_, rfl, b, _, rfl, .inl (seqL hB), _, _, rfl, rfl, _, rfl, iteN (by rw [List.length_map]; omega) ?_⟩
    refine ⟨Nat.zero_le _, fun g hg => ?_⟩
    have s1 : Same H (upd H g (.lst [])) := same_upd hg
    have m1 : Sm P H (upd H g (.lst [])) := .of_same hT s1
    have hbg : b ≠ g := ne_of_none hB hg
    have ngP : g ≠ P := TabG.ne m1.tab upd_same
    refine ⟨_, rfl, b, rfl, ⟨_, seqL (s1 _ _ hB)⟩, for_list (K := K) (a := b) (xs := ws.map tx) (fun i σ H3 => Sm P H H3 ∧ ∃ (kv : Option V), σ = [some (.ref b), some (.ref g), kv] ∧ H3 g = some (.lst ((ws.take i).map tx))) ?_ ?_ ?_ ?_⟩
    · exact ⟨m1, none, rfl, upd_same⟩
    · exact fun i σ H3 _ hh => seqL (Sm.lst hT hh.1 hB)
    · rintro i x σ H3 hx ⟨sm, kv, rfl, eg⟩
      have hj : i < ws.length := by
        have := (List.getElem?_eq_some_iff.mp hx).1
        rw [List.length_map] at this
        exact this
      have hxe : x = tx ws[i] := by
        rw [List.getElem?_map, List.getElem?_eq_getElem hj] at hx
        exact (Option.some.inj hx).symm
      subst hxe
      refine ⟨_, rfl, ws[i], rfl, c3 _ (List.getElem_mem hj), sm.tab, fun H4 sm4 => ⟨_, rfl, ?_⟩⟩
      refine iteF ?_
      have eg4 : H4 g = some (.lst ((ws.take i).map tx)) := sm4.keep _ _ ngP eg
      refine ⟨_, rfl, _, rfl, g, _, rfl, .inl (seqL eg4), rfl, flat_tx _, _, rfl, ?_⟩
      have hni : ws[i] ∉ ws.take i := by
        intro z
        obtain ⟨j, hj2, e2⟩ := List.mem_iff_getElem.mp z
        rw [List.length_take] at hj2
        rw [List.getElem_take] at e2
        have := (List.getElem_inj c2).mp e2
        omega
      rw [show (if (false : Bool) = true then !inV (tx ws[i]) ((ws.take i).map tx) else inV (tx ws[i]) ((ws.take i).map tx)) = decide (ws[i] ∈ ws.take i) from inV_tx _ _]
      refine iteN hni ?_
      refine ⟨_, rfl, .inl ⟨rfl, _, seqL eg4⟩, _, rfl, g, _, _, rfl, rfl, eg4, by rw [List.length_map, List.length_take]; exact small1000 (by omega), ?_⟩
      refine ⟨⟨tab_upd sm4.tab ngP, fun d o n e => ?_⟩, _, rfl, ?_⟩
      · rw [upd_ne (ne_of_none e hg)]
        exact sm4.keep _ _ n (sm.keep _ _ n e)
      · rw [upd_same, List.take_add_one, List.getElem?_eq_getElem hj, List.map_append]
        rfl
    · rintro σ H3 ⟨sm, kv, rfl, eg⟩
      rw [List.length_map, List.take_length] at eg
      refine ⟨_, rfl, g, ws.map S, rfl, seqL (by rw [← map_tx]; exact eg), by rw [List.length_map]; omega, fun ys r perm so hr0 => ?_⟩
      have e1 : (ys.map TL.tl).map S = ys := by
        rw [List.map_map]
        have : (S ∘ TL.tl) = id := funext fun z => S_tl z
        rw [this, List.map_id]
      refine q r (ys.map TL.tl) _ (sm.andThen (same_upd hr0)) (Sm.free hT sm hr0) ?_ ?_ ?_
      · rw [upd_same, map_tx, e1]
      · have := perm.map TL.tl
        rw [map_S_tl] at this
        exact this
      · rw [e1]
        exact so
end
theorem dp_ints {K : PySem.W.Frag} {H : Hp} : ∀ ns : List Int, DpAll K H (ns.map V.int) (ns.map PyData.int)
  | [] => .nil
  | x :: r => .cons (.int x) (dp_ints r)
theorem shaped_ints (ns : List Int) : SeqAt.shaped (.list (ns.map PyData.int)) = true := PySem.W.ke_shaped_ints ns
theorem eqv_ints (ns : List Int) : PyData.eqv (.list (ns.map PyData.int)) (.list (ns.map PyData.int)) = true := PySem.SeqAt.eqv_refl _ (PySem.SeqAt.canLay_of_shaped (shaped_ints ns))
/-! ### how two texts begin -/
/-- the greatest length of a text with which both begin -/
def shd : List Nat → List Nat → Nat
  | x :: a, y :: b => if x = y then shd a b + 1 else 0
  | _, _ => 0
theorem shd_le : ∀ a b : List Nat, shd a b ≤ a.length ∧ shd a b ≤ b.length
  | [], _ => ⟨Nat.zero_le _, Nat.zero_le _⟩
  | _ :: _, [] => ⟨Nat.zero_le _, Nat.zero_le _⟩
  | x :: a, y :: b => by
    show (if x = y then shd a b + 1 else 0) ≤ _ ∧ (if x = y then shd a b + 1 else 0) ≤ _
    have ih := shd_le a b
    by_cases h : x = y
    · rw [if_pos h, List.length_cons, List.length_cons]
      omega
    · rw [if_neg h]
      exact ⟨Nat.zero_le _, Nat.zero_le _⟩
theorem shd_stop : ∀ {i : Nat} {a b : List Nat} {c d : Nat}, a.take i = b.take i → a[i]? = some c → b[i]? = some d → c ≠ d → shd a b = i
  | 0, x :: a, y :: b, c, d, _, h1, h2, n => by
    have e1 : x = c := Option.some.inj h1
    have e2 : y = d := Option.some.inj h2
    show (if x = y then shd a b + 1 else 0) = 0
    rw [if_neg fun z => n (by rw [← e1, ← e2, z])]
  | i + 1, x :: a, y :: b, c, d, h, h1, h2, n => by
    have h' : x :: a.take i = y :: b.take i := h
    have e := (List.cons.inj h').1
    show (if x = y then shd a b + 1 else 0) = i + 1
    rw [if_pos e, shd_stop (List.cons.inj h').2 h1 h2 n]
  | _, [], _, _, _, _, h1, _, _ => by cases h1
  | _, _ :: _, [], _, _, _, _, h2, _ => by cases h2
theorem shd_all : ∀ {i : Nat} {a b : List Nat}, a.take i = b.take i → (i = a.length ∨ i = b.length) → i ≤ a.length → i ≤ b.length → shd a b = i
  | 0, [], _, _, _, _, _ => rfl
  | 0, _ :: _, [], _, _, _, _ => rfl
  | 0, x :: a, y :: b, _, h, _, _ => by
    rcases h with h | h
    · cases h
    · cases h
  | i + 1, x :: a, y :: b, h, hl, h1, h2 => by
    have h' : x :: a.take i = y :: b.take i := h
    have e := (List.cons.inj h').1
    show (if x = y then shd a b + 1 else 0) = i + 1
    rw [if_pos e, shd_all (List.cons.inj h').2 (hl.elim (fun z => .inl (Nat.succ.inj z)) fun z => .inr (Nat.succ.inj z)) (Nat.le_of_succ_le_succ h1) (Nat.le_of_succ_le_succ h2)]
  | i + 1, [], _, _, _, h1, _ => absurd h1 (Nat.not_succ_le_zero i)
  | i + 1, _ :: _, [], _, _, _, h2 => absurd h2 (Nat.not_succ_le_zero i)
theorem take_next {i c : Nat} {a b : List Nat} (h : a.take i = b.take i) (h1 : a[i]? = some c) (h2 : b[i]? = some c) : a.take (i + 1) = b.take (i + 1) := by
  rw [List.take_add_one, List.take_add_one, h, h1, h2]
/-- the rest that a rest goes on to by a word, and whether the word goes beyond -/
def stp (r w : List Nat) : Option (List Nat × Bool) := if hit w r = true then some (r.drop w.length, false) else if hit r w = true then some (w.drop r.length, true) else none
theorem hit_nil (r : List Nat) : hit [] r = true := hit_iff.mpr rfl
theorem to_eq {t b : List Nat} : decide (V.str (cutS (S t) none (some (b.length : Int))) = V.str (S b)) = hit b t := by
  rw [cut_to (by omega), tx_eq, Int.toNat_natCast, Bool.eq_iff_iff, decide_eq_true_eq, hit_iff]
theorem from_len {t : List Nat} {n : Nat} : V.str (cutS (S t) (some (n : Int)) none) = tx (t.drop n) := by
  rw [cut_from (by omega), Int.toNat_natCast]
theorem S_get {a : List Nat} {i : Nat} : (S a).cps[i]? = a[i]? := by
  show a.toArray[i]? = a[i]?
  rw [List.getElem?_toArray]
section
variable {Pr : Program} {w : World} {K : PySem.W.Frag} {mg : Str → Option Value} {base : Heap} {f : Addr} {fd : FuncData}
def spShared : Sp := fun vs H Q _ => ∃ a b : List Nat, vs = [tx a, tx b] ∧ a.length ≤ 1000 ∧ b.length ≤ 1000 ∧ ∀ H', Same H H' → Q (.int (shd a b : Nat)) H'
def spLeft : Sp := fun vs H Q _ => ∃ a b : List Nat, vs = [tx a, tx b] ∧ a.length ≤ 1000 ∧ b.length ≤ 1000 ∧ Q (if hit b a = true then tx (a.drop b.length) else .non) H
def spStep : Sp := fun vs H Q _ => ∃ r v : List Nat, vs = [tx r, tx v] ∧ r.length ≤ 1000 ∧ v.length ≤ 1000 ∧ (stp r v = none → Q .non H) ∧ (∀ x b, stp r v = some (x, b) → ∀ (p : Addr) (H' : Hp), Same H H' → H p = none → H' p = some (.tup [tx x, .bl b]) → Q (.ref p) H')
end
section
variable {Pr : Program} {w : World} {K : PySem.W.Frag} {mg : Str → Option Value} {base : Heap} {f : Addr} {fd : FuncData}
theorem scIsRow : FnScope ["_law_row_here", "_law_words_here", "_law_word_here"] ["_law_row_here", "_law_words_here"] (defScope s__law_is_row) := ⟨rfl, rfl, rfl, by decide +kernel, rfl, by decide +kernel, by decide +kernel⟩
def spIsRow (K : PySem.W.Frag) : Sp := fun vs H Q _ => ∃ (a b : Addr) (ys ws : List (List Nat)), vs = [.ref a, .ref b] ∧ H a = some (.lst (ys.map tx)) ∧ SqL K H b (ws.map tx) ∧ (∀ y ∈ ys, y ∈ ws) ∧ ∀ (H' : Hp), Same H H' → Q (.bl true) H'
theorem ok_isRow (F : FnP K "_law_is_row" s__law_is_row f fd) (B : Bl mg) : FnOk Pr w K mg base CX0 1 f fd ["_law_row_here", "_law_words_here"] (spIsRow K) := by
  refine F.okN scIsRow (fun vs H Q E h => ?_) (fun cdv A' outer s H vs Q E hr h => ?_)
  · obtain ⟨a, b, ys, ws, rfl, _⟩ := h
    rfl
  · obtain ⟨a, b, ys, ws, rfl, hA, hB, hm, q⟩ := h
    refine ⟨_, pss_cons (ps_if (pt_not (pt_val (pe_callB call_isi (by rfl) B.mIsi boot_isinstance (pa_cons (pv 0) (pa_cons (pe_bltn (v := .ty "list") (by rfl) B.mList boot_list rfl) pa_nil))))) (pss_one (ps_ret pe_bl)) pss_nil)
      (pss_one (ps_ret (pe_cmpR (op_eqD hr.units)
        (pe_lc (own := [("_law_word_here", 2)]) (g := gName 2) (tt := tOr (tNot (tB (tCB (rIsi K) (tCons (tVar 2) (tCons (tC (.ty "str")) tNil))))) (tTest (tOp (rIn K true) (tVar 2) (tVar 1)))) rfl scIsRow.nd (pi_list (pv 0)) (blkOk_by (own := [("_law_word_here", 2)]) (N := ["_law_row_here", "_law_words_here", "_law_word_here"]) (sc := defScope s__law_is_row) (by decide +kernel))
          (fun _ _ _ _ _ => pg_name (i := 2) scIsRow.nd rfl (Or.inl rfl))
          (fun _ _ _ _ _ => pts_one (PW.pt (pw_or (pt_not (pt_val (pe_callB call_isi (by rfl) B.mIsi boot_isinstance (pa_cons (pv 2) (pa_cons (pe_bltn (v := .ty "str") (by rfl) B.mStr boot_str rfl) pa_nil))))) (pw_or1 (pt_cmpR op_notIn_seq (pv 2) (pv 1) (by rfl))))))
          (fun _ _ _ _ _ => pv 2)) (pe_lst pa_nil) (nomark _)))), ?_⟩
    refine ⟨_, rfl, .ref a, .ty "list", .type "list", .type "list", true, rfl, .ty _, .base (.lst hA), kit_ty (by decide +kernel), _, rfl, ?_⟩
    refine iteF ?_
    refine ⟨_, rfl, a, rfl, ⟨_, seqL hA⟩, fun D hD => ?_⟩
    have ns : ∀ {H1 : Hp}, H1 = upd H D (.lst []) → Same H H1 := fun e => by
      rw [e]
      exact same_upd hD
    refine lc_list (K := K) (a := a) (xs := ys.map tx) (fun i H1 => H1 = upd H D (.lst [])) rfl (fun i H1 _ e => (ns e).seq (seqL hA)) ?_ ?_
    · rintro i x H1 hx e
      rw [List.getElem?_map] at hx
      obtain ⟨y, hy, rfl⟩ := Option.map_eq_some_iff.mp hx
      have hyw := hm y (List.mem_of_getElem? hy)
      refine ⟨rfl, _, rfl, tx y, .ty "str", .type "str", .type "str", true, rfl, .ty _, .base (.str _), kit_ty (by decide +kernel), _, rfl, ?_⟩
      refine iteF ?_
      refine ⟨_, rfl, _, rfl, b, _, rfl, .inl ((ns e).seq hB), rfl, flat_tx _, _, rfl, ?_⟩
      rw [show inV (tx y) (ws.map tx) = decide (y ∈ ws) from inV_tx _ _, decide_eq_true hyw]
      exact e
    · rintro H1 e
      refine ⟨Nat.zero_le _, fun l hl => ?_⟩
      have s7 := same_upd (o := .lst []) hl
      have eD : H1 D = some (.lst []) := by rw [e]; exact upd_same
      refine ⟨.list [], .list [], .lst (seqL (s7 _ _ eD)) .nil, .lst (seqL upd_same) .nil, by decide +kernel, by decide +kernel, ?_⟩
      rw [show PyData.eqv (.list []) (.list []) = true by decide +kernel]
      exact q _ ((ns e).trans s7)
end
/-- the defs of the text, each as it stands behind the top -/
structure Defs (K : PySem.W.Frag) (mg : Str → Option Value) : Prop where
  d_checked : There K mg "checked" sChecked ["words"]
  d_parting : There K mg "parting" s_parting ["words", "text", "number"]
  d__words_at : There K mg "_words_at" sWordsAt ["code", "text", "at"]
  d__counts : There K mg "_counts" sCounts ["code", "text"]
  d__law_at : There K mg "_law_at" sAt ["_law_script", "_law_k"]
  d__law_mixed : There K mg "_law_mixed" sMixed ["_law_cell", "_law_k"]
  d__law_signs : There K mg "_law_signs" sSigns ["_law_cell"]
  d__law_word : There K mg "_law_word" sWord ["_law_cell", "_law_signs_here"]
  d__law_any_word : There K mg "_law_any_word" sAny ["_law_cell"]
  d__law_more : There K mg "_law_more" sMore ["_law_words_here", "_law_cell", "_law_signs_here"]
  d__law_chain : There K mg "_law_chain" sChain ["_law_script", "_law_first", "_law_signs_here"]
  d__law_words : There K mg "_law_words" sWords ["_law_script", "_law_first"]
  d__law_row : There K mg "_law_row" sRow ["_law_script", "_law_first", "_law_words_here", "_law_most"]
  d__law_text : There K mg "_law_text" sText ["_law_script", "_law_first", "_law_words_here"]
  d__law_counts : There K mg "_law_counts" sLawCounts ["_law_words_here", "_law_text_here"]
  d__law_words_of : There K mg "_law_words_of" s__law_words_of ["_law_e"]
  d__law_is_row : There K mg "_law_is_row" s__law_is_row ["_law_row_here", "_law_words_here"]
  d__law_number : There K mg "_law_number" s__law_number ["_law_cell", "_law_many"]
  d__law_ahead : There K mg "_law_ahead" s__law_ahead ["_law_words_here", "_law_text_here", "_law_row_here", "_law_counts_here"]
  d__law_told : There K mg "_law_told" s__law_told ["_law_words_here", "_law_text_here", "_law_number_here"]
/-- the classes of errors -/
structure Exs (K : PySem.W.Frag) (mg : Str → Option Value) : Prop where
  c_CodeError : He.ga K "CodeError" = He.ga K "CodeError"
  g_CodeError : mg "CodeError" = some (.ref (He.ga K "CodeError"))
  x_CodeError : (He.Fa.exc "CodeError").ok K = true
  c_BadCode : He.ga K "BadCode" = He.ga K "BadCode"
  g_BadCode : mg "BadCode" = some (.ref (He.ga K "BadCode"))
  x_BadCode : (He.Fa.exc "BadCode").ok K = true
  c_Full : He.ga K "Full" = He.ga K "Full"
  g_Full : mg "Full" = some (.ref (He.ga K "Full"))
  x_Full : (He.Fa.exc "Full").ok K = true
  c_BadWord : He.ga K "BadWord" = He.ga K "BadWord"
  g_BadWord : mg "BadWord" = some (.ref (He.ga K "BadWord"))
  x_BadWord : (He.Fa.exc "BadWord").ok K = true
  c_Twice : He.ga K "Twice" = He.ga K "Twice"
  g_Twice : mg "Twice" = some (.ref (He.ga K "Twice"))
  x_Twice : (He.Fa.exc "Twice").ok K = true
  c_NotThere : He.ga K "NotThere" = He.ga K "NotThere"
  g_NotThere : mg "NotThere" = some (.ref (He.ga K "NotThere"))
  x_NotThere : (He.Fa.exc "NotThere").ok K = true
  c_NoNumber : He.ga K "NoNumber" = He.ga K "NoNumber"
  g_NoNumber : mg "NoNumber" = some (.ref (He.ga K "NoNumber"))
  x_NoNumber : (He.Fa.exc "NoNumber").ok K = true
  c_NoWait : He.ga K "NoWait" = He.ga K "NoWait"
  g_NoWait : mg "NoWait" = some (.ref (He.ga K "NoWait"))
  x_NoWait : (He.Fa.exc "NoWait").ok K = true
  c_BadSign : He.ga K "BadSign" = He.ga K "BadSign"
  g_BadSign : mg "BadSign" = some (.ref (He.ga K "BadSign"))
  x_BadSign : (He.Fa.exc "BadSign").ok K = true
  c_NoReading : He.ga K "NoReading" = He.ga K "NoReading"
  g_NoReading : mg "NoReading" = some (.ref (He.ga K "NoReading"))
  x_NoReading : (He.Fa.exc "NoReading").ok K = true
section
variable {Pr : Program} {w : World} {K : PySem.W.Frag} {mg : Str → Option Value} {base : Heap}
def spLaw (K : PySem.W.Frag) (P : Addr) : Sp := fun vs H Q _ => ∃ (a : Addr) (ns : List Int), vs = [.ref a] ∧ SqL K H a (ns.map V.int) ∧ GxR.TabG H P ∧ ∀ H', Q (.bl true) H'
theorem inWords (D : Defs K mg) (B : Bl mg) : ∃ f fd, Has K mg "_law_words" sWords ["_law_script", "_law_first"] f fd ∧ FnOk Pr w K mg base CX0 4 f fd ["_law_script", "_law_first"] (spWords K) := by
  obtain ⟨f1, d1, A⟩ := D.d__law_at
  obtain ⟨f2, d2, MX⟩ := D.d__law_mixed
  obtain ⟨f3, d3, Z⟩ := D.d__law_signs
  obtain ⟨f4, d4, W⟩ := D.d__law_word
  obtain ⟨f5, d5, Y⟩ := D.d__law_any_word
  obtain ⟨f6, d6, O⟩ := D.d__law_more
  obtain ⟨f7, d7, C⟩ := D.d__law_chain
  obtain ⟨f8, d8, WS⟩ := D.d__law_words
  exact ⟨f8, d8, WS, ok_words WS.F A W MX Z C Y O B.mR B.mL⟩
theorem inText (D : Defs K mg) (B : Bl mg) : ∃ f fd, Has K mg "_law_text" sText ["_law_script", "_law_first", "_law_words_here"] f fd ∧ FnOk Pr w K mg base CX0 3 f fd ["_law_script", "_law_first", "_law_words_here"] (spText K) := by
  obtain ⟨f1, d1, A⟩ := D.d__law_at
  obtain ⟨f2, d2, MX⟩ := D.d__law_mixed
  obtain ⟨f3, d3, R⟩ := D.d__law_row
  obtain ⟨f4, d4, T⟩ := D.d__law_text
  exact ⟨f4, d4, T, ok_text T.F R A MX B.mR B.mL⟩
end
/-! ### what a caught exception is called -/
abbrev wn : List Str := ["code", "full", "word", "twice", "there", "number", "wait", "sign", "reading"]
def told (bs : List Bool) : List V := ((wn.zip bs).filter (·.2)).map fun p => V.str p.1
/-- what isinstance says of the class D -/
structure KitE (K : PySem.W.Frag) (D : Addr) (b0 b1 b2 b3 b4 b5 b6 b7 b8 : Bool) : Prop where
  exc : ExcC K D
  ve : PySem.W.kitOne K (.ref D) (.type "ValueError") = some true
  k0 : PySem.W.kitOne K (.ref D) (.ref (He.ga K "BadCode")) = some b0
  k1 : PySem.W.kitOne K (.ref D) (.ref (He.ga K "Full")) = some b1
  k2 : PySem.W.kitOne K (.ref D) (.ref (He.ga K "BadWord")) = some b2
  k3 : PySem.W.kitOne K (.ref D) (.ref (He.ga K "Twice")) = some b3
  k4 : PySem.W.kitOne K (.ref D) (.ref (He.ga K "NotThere")) = some b4
  k5 : PySem.W.kitOne K (.ref D) (.ref (He.ga K "NoNumber")) = some b5
  k6 : PySem.W.kitOne K (.ref D) (.ref (He.ga K "NoWait")) = some b6
  k7 : PySem.W.kitOne K (.ref D) (.ref (He.ga K "BadSign")) = some b7
  k8 : PySem.W.kitOne K (.ref D) (.ref (He.ga K "NoReading")) = some b8
/-- KitE, as a test of what the head leaves -/
def kitB (K : PySem.W.Frag) (x : Str) (b0 b1 b2 b3 b4 b5 b6 b7 b8 : Bool) : Bool :=
  decide (PySem.W.findIn K (.ref (He.ga K x)) "__getattribute__" = some (some (.builtin "BaseException.__getattribute__"))) && (decide (PySem.W.findIn K (.ref (He.ga K x)) "__getattr__" = some none) &&
  (decide (PySem.W.subIn K (.ref (He.ga K x)) (.type "BaseException") = some true) && (PySem.W.hasDictIn K (He.ga K x) && (decide (PySem.W.findIn K (.ref (He.ga K x)) "__class__" = some (some (.builtin "object.__class__"))) &&
  (decide (PySem.W.specialIn K (.builtin "object.__class__") "__get__" = some (some (.builtin "getset_descriptor.__get__"))) && (decide (PySem.W.takesIn K (.builtin "object.__class__") = some true) && (decide (PySem.W.mroIn K (He.ga K x) (.type "object") = some true) &&
  (decide (PySem.W.kitOne K (.ref (He.ga K x)) (.type "ValueError") = some true) && (decide (PySem.W.kitOne K (.ref (He.ga K x)) (.ref (He.ga K "BadCode")) = some b0) && (decide (PySem.W.kitOne K (.ref (He.ga K x)) (.ref (He.ga K "Full")) = some b1) &&
  (decide (PySem.W.kitOne K (.ref (He.ga K x)) (.ref (He.ga K "BadWord")) = some b2) && (decide (PySem.W.kitOne K (.ref (He.ga K x)) (.ref (He.ga K "Twice")) = some b3) && (decide (PySem.W.kitOne K (.ref (He.ga K x)) (.ref (He.ga K "NotThere")) = some b4) &&
  (decide (PySem.W.kitOne K (.ref (He.ga K x)) (.ref (He.ga K "NoNumber")) = some b5) && (decide (PySem.W.kitOne K (.ref (He.ga K x)) (.ref (He.ga K "NoWait")) = some b6) && (decide (PySem.W.kitOne K (.ref (He.ga K x)) (.ref (He.ga K "BadSign")) = some b7) &&
  decide (PySem.W.kitOne K (.ref (He.ga K x)) (.ref (He.ga K "NoReading")) = some b8)))))))))))))))))
theorem kitB_ok {K : PySem.W.Frag} {x : Str} {b0 b1 b2 b3 b4 b5 b6 b7 b8 : Bool} (h : kitB K x b0 b1 b2 b3 b4 b5 b6 b7 b8 = true) : KitE K (He.ga K x) b0 b1 b2 b3 b4 b5 b6 b7 b8 := by
  simp only [kitB, Bool.and_eq_true, decide_eq_true_eq] at h
  obtain ⟨h1, h2, h3, h4, h5, h6, h7, h8, h9, k0, k1, k2, k3, k4, k5, k6, k7, k8⟩ := h
  exact ⟨⟨h1, h2, h3, h4, h5, h6, h7, h8⟩, h9, k0, k1, k2, k3, k4, k5, k6, k7, k8⟩
def spWordsOf (K : PySem.W.Frag) : Addr → Addr → Hp → VK → Prop := fun _ D H Q => ∃ b0 b1 b2 b3 b4 b5 b6 b7 b8, KitE K D b0 b1 b2 b3 b4 b5 b6 b7 b8 ∧
  ∀ (r : Addr) (H' : Hp), Same H H' → H r = none → H' r = some (.lst (told [b0, b1, b2, b3, b4, b5, b6, b7, b8])) → Q (.ref r) H'
section
variable {Pr : Program} {w : World} {K : PySem.W.Frag} {mg : Str → Option Value} {base : Heap} {f : Addr} {fd : FuncData}
theorem scWordsOf : FnScope ["_law_e", "_law_some", "_law_word_here", "_law_fits"] ["_law_e"] (defScope s__law_words_of) := ⟨rfl, rfl, rfl, by decide +kernel, rfl, by decide +kernel, by decide +kernel⟩
theorem boot_VE : bootBuiltins "ValueError" = some (.type "ValueError") := by decide +kernel
theorem filt_take {ps : List (Str × Bool)} {i : Nat} (hi : i < ps.length) : (ps.take (i + 1)).filter (·.2) = (ps.take i).filter (·.2) ++ (if ps[i].2 = true then [ps[i]] else []) := by
  rw [List.take_add_one, List.getElem?_eq_getElem hi]
  show (ps.take i ++ [ps[i]]).filter (·.2) = _
  rw [List.filter_append]
  by_cases c : ps[i].2 = true
  · rw [if_pos c, List.filter_cons_of_pos (p := fun q : Str × Bool => q.2) c]
    rfl
  · rw [if_neg c, List.filter_cons_of_neg (p := fun q : Str × Bool => q.2) c]
    rfl
theorem ok_wordsOf (F : FnP K "_law_words_of" s__law_words_of f fd) (B : Bl mg) (X : Exs K mg) : FnE Pr w K mg base 1 f fd "_law_e" (spWordsOf K) := by
  refine okE F scWordsOf fun cdv A outer s H a D oe Q hot hz hf hr h => ?_
  obtain ⟨b0, b1, b2, b3, b4, b5, b6, b7, b8, ⟨ec, ve, k0, k1, k2, k3, k4, k5, k6, k7, k8⟩, q⟩ := h
  have hp : (a, oe) ∈ (cxE Pr w K mg base ["_law_e", "_law_some", "_law_word_here", "_law_fits"] "_law_words_of" (defScope s__law_words_of) f cdv A outer s H a oe).pn := List.mem_singleton.mpr rfl
  have hc : L2H.HotC (cxE Pr w K mg base ["_law_e", "_law_some", "_law_word_here", "_law_fits"] "_law_words_of" (defScope s__law_words_of) f cdv A outer s H a oe) := ⟨(a, oe), hot, hp⟩
  have is : ∀ {x : Str} {C : Addr} {p1 p2 p3 p4 : Pos}, Gl (cxE Pr w K mg base ["_law_e", "_law_some", "_law_word_here", "_law_fits"] "_law_words_of" (defScope s__law_words_of) f cdv A outer s H a oe) x → mg x = some (.ref C) → (x == ("__debug__" : Str)) = false →
      PE (cxE Pr w K mg base ["_law_e", "_law_some", "_law_word_here", "_law_fits"] "_law_words_of" (defScope s__law_words_of) f cdv A outer s H a oe) (.Call (.Name "isinstance" p1) [.Name "_law_e" p2, .Name x p3] [] p4) (tCB (rIsE K D a) (tCons (tVar 0) (tCons (tC (.ref C)) tNil))) := fun g m dbg =>
    pe_callB (call_isH hp ec hz.zc hf) (by rfl) B.mIsi boot_isinstance (pa_cons (pv 0) (pa_cons (pe_glob (v := .ref _) g m rfl dbg) pa_nil))
  refine ⟨_, pss_cons (ps_set (i := 1) scWordsOf.nd rfl (.inl rfl) (pe_lst (pa_cons (pe_tup (pa_cons pe_str (pa_cons (is rfl X.g_BadCode (by decide)) pa_nil))) (pa_cons (pe_tup (pa_cons pe_str (pa_cons (is rfl X.g_Full (by decide)) pa_nil))) (pa_cons (pe_tup (pa_cons pe_str (pa_cons (is rfl X.g_BadWord (by decide)) pa_nil))) pa_nil)))))
    (pss_cons (ps_set (i := 1) scWordsOf.nd rfl (.inl rfl) (pe_op op_cat (pv 1) (pe_lst (pa_cons (pe_tup (pa_cons pe_str (pa_cons (is rfl X.g_Twice (by decide)) pa_nil))) (pa_cons (pe_tup (pa_cons pe_str (pa_cons (is rfl X.g_NotThere (by decide)) pa_nil))) pa_nil)))))
    (pss_cons (ps_set (i := 1) scWordsOf.nd rfl (.inl rfl) (pe_op op_cat (pv 1) (pe_lst (pa_cons (pe_tup (pa_cons pe_str (pa_cons (is rfl X.g_NoNumber (by decide)) pa_nil))) (pa_cons (pe_tup (pa_cons pe_str (pa_cons (is rfl X.g_NoWait (by decide)) pa_nil))) pa_nil)))))
    (pss_cons (ps_set (i := 1) scWordsOf.nd rfl (.inl rfl) (pe_op op_cat (pv 1) (pe_lst (pa_cons (pe_tup (pa_cons pe_str (pa_cons (is rfl X.g_BadSign (by decide)) pa_nil))) (pa_cons (pe_tup (pa_cons pe_str (pa_cons (is rfl X.g_NoReading (by decide)) pa_nil))) pa_nil)))))
    (pss_one (ps_ret (pe_lcH (own := [("_law_word_here", 2), ("_law_fits", 3)]) (g := gTup K 2 (gCons (gName 2) (gCons (gName 3) gNil))) (tt := tAnd (tB (tVar 3)) (tB (tCB (rIsE K D a) (tCons (tVar 0) (tCons (tC (.ty "ValueError")) tNil))))) hc scWordsOf.nd (pi_listH (pv 1)) (blkOk_by (own := [("_law_word_here", 2), ("_law_fits", 3)]) (N := ["_law_e", "_law_some", "_law_word_here", "_law_fits"]) (sc := defScope s__law_words_of) (by decide +kernel))
      (fun _ _ _ _ _ => pg_tupH (hotC_blk hc) (pgs_cons (pg_name (i := 2) scWordsOf.nd rfl (Or.inl rfl)) (pgs_cons (pg_name (i := 3) scWordsOf.nd rfl (Or.inl rfl)) pgs_nil)))
      (fun _ _ _ _ _ => pts_one (PW.pt (pw_and (pt_val (pv 3)) (pw_and1 (pt_val (pe_callB (call_isH hp ec hz.zc hf) (by rfl) B.mIsi boot_isinstance (pa_cons (pv 0) (pa_cons (pe_bltn (v := .ty "ValueError") (by rfl) B.mVE boot_VE rfl) pa_nil))))))))
      (fun _ _ _ _ _ => pv 2))))))), ?_⟩
  have two : 2 ≤ sizeLine := by decide
  refine ⟨_, rfl, _, _, b0, rfl, fun _ z => z, k0, two, fun t0 h0 => ⟨_, rfl, _, _, b1, rfl, fun _ z => z, k1, two, fun t1 h1 => ⟨_, rfl, _, _, b2, rfl, fun _ z => z, k2, two, fun t2 h2 => ⟨by show 3 ≤ sizeLine; decide, fun l1 hl1 => ?_⟩⟩⟩⟩
  refine ⟨_, rfl, _, rfl, _, _, b3, rfl, fun _ z => z, k3, two, fun t3 h3 => ⟨_, rfl, _, _, b4, rfl, fun _ z => z, k4, two, fun t4 h4 => ⟨by show 2 ≤ sizeLine; decide, fun l2 hl2 => ?_⟩⟩⟩
  have n0 := same_upd (o := .tup [V.str "code", V.bl b0]) h0
  have n1 := same_upd (o := .tup [V.str "full", V.bl b1]) h1
  have n2 := same_upd (o := .tup [V.str "word", V.bl b2]) h2
  have n3 := same_upd (o := .lst [.ref t0, .ref t1, .ref t2]) hl1
  have n4 := same_upd (o := .tup [V.str "twice", V.bl b3]) h3
  have n5 := same_upd (o := .tup [V.str "there", V.bl b4]) h4
  have n6 := same_upd (o := .lst [.ref t3, .ref t4]) hl2
  refine ⟨l1, l2, _, _, rfl, rfl, n6 _ _ (n5 _ _ (n4 _ _ upd_same)), upd_same, by show 5 ≤ sizeLine; decide, fun l3 hl3 => ?_⟩
  have n7 := same_upd (o := .lst ([.ref t0, .ref t1, .ref t2] ++ [.ref t3, .ref t4])) hl3
  refine ⟨_, rfl, _, rfl, _, _, b5, rfl, fun _ z => z, k5, two, fun t5 h5 => ⟨_, rfl, _, _, b6, rfl, fun _ z => z, k6, two, fun t6 h6 => ⟨by show 2 ≤ sizeLine; decide, fun l4 hl4 => ?_⟩⟩⟩
  have n8 := same_upd (o := .tup [V.str "number", V.bl b5]) h5
  have n9 := same_upd (o := .tup [V.str "wait", V.bl b6]) h6
  have n10 := same_upd (o := .lst [.ref t5, .ref t6]) hl4
  refine ⟨l3, l4, _, _, rfl, rfl, n10 _ _ (n9 _ _ (n8 _ _ upd_same)), upd_same, by show 7 ≤ sizeLine; decide, fun l5 hl5 => ?_⟩
  have n11 := same_upd (o := .lst ([.ref t0, .ref t1, .ref t2] ++ [.ref t3, .ref t4] ++ [.ref t5, .ref t6])) hl5
  refine ⟨_, rfl, _, rfl, _, _, b7, rfl, fun _ z => z, k7, two, fun t7 h7 => ⟨_, rfl, _, _, b8, rfl, fun _ z => z, k8, two, fun t8 h8 => ⟨by show 2 ≤ sizeLine; decide, fun l6 hl6 => ?_⟩⟩⟩
  have n12 := same_upd (o := .tup [V.str "sign", V.bl b7]) h7
  have n13 := same_upd (o := .tup [V.str "reading", V.bl b8]) h8
  have n14 := same_upd (o := .lst [.ref t7, .ref t8]) hl6
  refine ⟨l5, l6, _, _, rfl, rfl, n14 _ _ (n13 _ _ (n12 _ _ upd_same)), upd_same, by show 9 ≤ sizeLine; decide, fun l7 hl7 => ?_⟩
  have n15 := same_upd (o := .lst ([.ref t0, .ref t1, .ref t2] ++ [.ref t3, .ref t4] ++ [.ref t5, .ref t6] ++ [.ref t7, .ref t8])) hl7
  have m14 := n14.trans n15
  have m13 := n13.trans m14
  have m12 := n12.trans m13
  have m9 := n9.trans (n10.trans (n11.trans m12))
  have m8 := n8.trans m9
  have m5 := n5.trans (n6.trans (n7.trans m8))
  have m4 := n4.trans m5
  have m2 := n2.trans (n3.trans m4)
  have m1 := n1.trans m2
  have m0 := n0.trans m1
  have e0 := m1 _ _ (upd_same (H := H) (a := t0) (o := .tup [V.str "code", V.bl b0]))
  have e1 := m2 t1 _ upd_same
  have e2 := (n3.trans m4) t2 _ upd_same
  have e3 := m5 t3 _ upd_same
  have e4 := (n6.trans (n7.trans m8)) t4 _ upd_same
  have e5 := m9 t5 _ upd_same
  have e6 := (n10.trans (n11.trans m12)) t6 _ upd_same
  have e7 := m13 t7 _ upd_same
  have e8 := m14 t8 _ upd_same
  generalize hHf : upd _ l7 _ = Hf at m0 e0 e1 e2 e3 e4 e5 e6 e7 e8 ⊢
  have el7 : Hf l7 = some (.lst ([.ref t0, .ref t1, .ref t2] ++ [.ref t3, .ref t4] ++ [.ref t5, .ref t6] ++ [.ref t7, .ref t8])) := by
    rw [← hHf]
    exact upd_same
  have item : ∀ (i : Nat) (x : V), ([V.ref t0, .ref t1, .ref t2] ++ [.ref t3, .ref t4] ++ [.ref t5, .ref t6] ++ [.ref t7, .ref t8])[i]? = some x → ∃ hi : i < (wn.zip [b0, b1, b2, b3, b4, b5, b6, b7, b8]).length, ∃ t, x = .ref t ∧ Hf t = some (.tup [V.str (wn.zip [b0, b1, b2, b3, b4, b5, b6, b7, b8])[i].1, V.bl (wn.zip [b0, b1, b2, b3, b4, b5, b6, b7, b8])[i].2]) := by
    intro i x hx
    match i, hx with
    | 0, hx => cases hx; exact ⟨by show 0 < 9; decide, t0, rfl, e0⟩
    | 1, hx => cases hx; exact ⟨by show 1 < 9; decide, t1, rfl, e1⟩
    | 2, hx => cases hx; exact ⟨by show 2 < 9; decide, t2, rfl, e2⟩
    | 3, hx => cases hx; exact ⟨by show 3 < 9; decide, t3, rfl, e3⟩
    | 4, hx => cases hx; exact ⟨by show 4 < 9; decide, t4, rfl, e4⟩
    | 5, hx => cases hx; exact ⟨by show 5 < 9; decide, t5, rfl, e5⟩
    | 6, hx => cases hx; exact ⟨by show 6 < 9; decide, t6, rfl, e6⟩
    | 7, hx => cases hx; exact ⟨by show 7 < 9; decide, t7, rfl, e7⟩
    | 8, hx => cases hx; exact ⟨by show 8 < 9; decide, t8, rfl, e8⟩
    | n + 9, hx => cases hx
  obtain ⟨ps, eps⟩ : ∃ ps, ps = wn.zip [b0, b1, b2, b3, b4, b5, b6, b7, b8] := ⟨_, rfl⟩
  have plen : ps.length = 9 := by rw [eps]; rfl
  rw [← eps] at item
  refine ⟨_, rfl, l7, rfl, ⟨_, seqL el7⟩, fun Dn hD => ?_⟩
  refine lc_list (K := K) (a := l7) (xs := [V.ref t0, .ref t1, .ref t2] ++ [.ref t3, .ref t4] ++ [.ref t5, .ref t6] ++ [.ref t7, .ref t8]) (fun i H1 => Same Hf H1 ∧ H1 Dn = some (.lst (((ps.take i).filter (·.2)).map fun p => V.str p.1))) ⟨same_upd hD, upd_same⟩ (fun i H1 _ hh => hh.1.seq (seqL el7)) ?_ ?_
  · rintro i x H1 hx ⟨sm, eD⟩
    obtain ⟨hi, t, rfl, et⟩ := item i x hx
    refine ⟨t, _, rfl, .inl (.inl (sm _ _ et)), rfl, _, _, rfl, _, _, rfl, rfl, rfl, _, rfl, _, rfl, ?_⟩
    rw [filt_take hi]
    refine ite2 (fun c => ?_) (fun c => ?_)
    · rw [if_pos c]
      refine ⟨_, rfl, _, _, true, rfl, fun _ z => z, ve, _, rfl, iteT ⟨_, rfl, _, eD, ?_, fun b o e => ?_, ?_⟩⟩
      · rw [List.length_map]
        have h1 := List.length_filter_le (fun p : Str × Bool => p.2) (ps.take i)
        rw [List.length_take] at h1
        exact small1000 (by omega)
      · rw [upd_ne (ne_of_none e hD)]
        exact sm _ _ e
      · rw [upd_same, List.map_append]
        rfl
    · rw [if_neg c, List.append_nil]
      exact iteF ⟨sm, eD⟩
  · rintro H1 ⟨sm, eD⟩
    have ht : ps.take (([V.ref t0, .ref t1, .ref t2] ++ [.ref t3, .ref t4] ++ [.ref t5, .ref t6] ++ [.ref t7, .ref t8] : List V)).length = ps := List.take_of_length_le (by rw [plen]; exact Nat.le_refl 9)
    rw [ht, eps] at eD
    exact q Dn H1 (m0.trans sm) (m0.free hD) eD
end
section
variable {Pr : Program} {w : World} {K : PySem.W.Frag} {mg : Str → Option Value} {base : Heap} {f fL : Addr} {fd fdL : FuncData}
end


theorem ltc_pre : ∀ {a : List Nat} {n : Nat}, n < a.length → PySem.Spec.ltCps (a.take n) a = true
  | [], _, h => absurd h (Nat.not_lt_zero _)
  | _ :: _, 0, _ => rfl
  | x :: a, n + 1, h => by
    have ih := ltc_pre (a := a) (n := n) (Nat.lt_of_succ_lt_succ h)
    show (decide (x < x) || (x == x && PySem.Spec.ltCps (a.take n) a)) = true
    rw [ih]
    simp
theorem hits_up {vs : List (List Nat)} (so : sortedS (vs.map S) = true) (nd : vs.Nodup) (r : List Nat) : (vs.filter fun x => hit x r).Pairwise fun a b => a.length < b.length := by
  have h1 := (sorted_pw so).filter fun x => hit x r
  have h2 := List.Pairwise.filter (fun x => hit x r) nd
  rw [List.pairwise_iff_getElem] at h1 h2 ⊢
  intro i j hi hj hij
  have a1 := h1 i j hi hj hij
  have a2 := h2 i j hi hj hij
  have m1 := (List.mem_filter (p := fun x => hit x r)).mp (List.getElem_mem hi)
  have m2 := (List.mem_filter (p := fun x => hit x r)).mp (List.getElem_mem hj)
  generalize (vs.filter fun x => hit x r)[i] = x at a1 a2 m1 ⊢
  generalize (vs.filter fun x => hit x r)[j] = y at a1 a2 m2 ⊢
  have e1 : r.take x.length = x := hit_iff.mp m1.2
  have e2 : r.take y.length = y := hit_iff.mp m2.2
  rcases Nat.lt_trichotomy x.length y.length with h | h | h
  · exact h
  · rw [h, e2] at e1
    exact absurd e1.symm a2
  · have e3 : x.take y.length = y := by
      rw [← e1, List.take_take, Nat.min_eq_left (by omega)]
      exact e2
    have := ltc_pre (a := x) (n := y.length) h
    rw [e3, a1] at this
    cases this
/-! ### how many partings a rest has; which parting has a number -/
def cntH (ws : List (List Nat)) (r : List Nat) : Int := (cnt ws r).getD 0 0
theorem cnt_at {ws : List (List Nat)} : ∀ {t : List Nat} {j : Nat}, j ≤ t.length → (cnt ws t)[j]? = some (cntH ws (t.drop j))
  | [], 0, _ => rfl
  | [], j + 1, h => absurd h (Nat.not_succ_le_zero j)
  | _ :: _, 0, _ => rfl
  | c :: t, j + 1, h => cnt_at (t := t) (j := j) (Nat.le_of_succ_le_succ h)
theorem sum_nn : ∀ {l : List Int}, (∀ x ∈ l, 0 ≤ x) → 0 ≤ l.sum
  | [], _ => Int.le_refl 0
  | x :: l, h => by
    rw [List.sum_cons]
    have h1 := h x List.mem_cons_self
    have h2 := sum_nn (l := l) fun y hy => h y (List.mem_cons_of_mem _ hy)
    omega
theorem cnt_nn (ws : List (List Nat)) : ∀ t : List Nat, ∀ x ∈ cnt ws t, 0 ≤ x
  | [], x, hx => by
    rw [List.mem_singleton.mp hx]
    decide
  | c :: t, x, hx => by
    have ih := cnt_nn ws t
    rcases List.mem_cons.mp hx with e | m
    · rw [e]
      refine sum_nn fun y hy => ?_
      obtain ⟨w, _, rfl⟩ := List.mem_map.mp hy
      unfold adds
      by_cases q : hit w (c :: t) = true
      · rw [if_pos q, List.getD_eq_getElem?_getD]
        cases e : (cnt ws t)[w.length - 1]? with
        | none => exact Int.le_refl 0
        | some z => exact ih z (List.mem_of_getElem? e)
      · rw [if_neg q]
        exact Int.le_refl 0
    · exact ih x m
theorem cntH_nn (ws : List (List Nat)) (r : List Nat) : 0 ≤ cntH ws r := by
  have h := cnt_at (ws := ws) (t := r) (j := 0) (Nat.zero_le _)
  exact cnt_nn ws r _ (List.mem_of_getElem? h)
/-- how many partings go on with this word -/
def gain (ws : List (List Nat)) (r x : List Nat) : Int := cntH ws (r.drop x.length)
theorem cntH_sum {ws : List (List Nat)} (hw : ∀ x ∈ ws, 1 ≤ x.length) : ∀ {r : List Nat}, r ≠ [] → cntH ws r = ((ws.filter fun x => hit x r).map (gain ws r)).sum
  | [], h => absurd rfl h
  | c :: r, _ => by
    show (ws.map (adds (c :: r) (cnt ws r))).sum = _
    rw [← sum_filter]
    refine congrArg List.sum (List.map_congr_left fun x hx => ?_)
    obtain ⟨m1, m2⟩ := (List.mem_filter (p := fun x => hit x (c :: r))).mp hx
    have h1 := hw x m1
    have h2 : x.length ≤ r.length + 1 := hit_len m2
    unfold gain
    rw [List.getD_eq_getElem?_getD, cnt_at (by omega)]
    obtain ⟨n, hn⟩ : ∃ n, x.length = n + 1 := ⟨x.length - 1, by omega⟩
    rw [hn]
    rfl
/-- how many partings go on with a shorter word than this one -/
def stepA (ws : List (List Nat)) (r y : List Nat) : Int := (ws.map fun x => if x.length < y.length ∧ hit x r = true then gain ws r x else 0).sum
theorem sum_some {f g : List Nat → Int} {y : List Nat} : ∀ {ws : List (List Nat)}, y ∈ ws → (∀ x ∈ ws, f x ≤ g x) → f y = 0 → (ws.map f).sum + g y ≤ (ws.map g).sum
  | [], h, _, _ => nomatch h
  | x :: ws, h, le, z => by
    rw [List.map_cons, List.sum_cons, List.map_cons, List.sum_cons]
    have all : ∀ {us : List (List Nat)}, (∀ x ∈ us, f x ≤ g x) → (us.map f).sum ≤ (us.map g).sum := by
      intro us
      induction us with
      | nil => exact fun _ => Int.le_refl 0
      | cons u us ih =>
        intro hu
        rw [List.map_cons, List.sum_cons, List.map_cons, List.sum_cons]
        have a := hu u List.mem_cons_self
        have b := ih fun v hv => hu v (List.mem_cons_of_mem _ hv)
        omega
    have le1 := le x List.mem_cons_self
    have le2 : ∀ v ∈ ws, f v ≤ g v := fun v hv => le v (List.mem_cons_of_mem _ hv)
    rcases List.mem_cons.mp h with e | m
    · subst e
      have := all le2
      omega
    · have := sum_some m le2 z
      omega
theorem step_less {ws : List (List Nat)} {r y z : List Nat} (hy : y ∈ ws) (hh : hit y r = true) (h : y.length < z.length) : stepA ws r y + gain ws r y ≤ stepA ws r z := by
  have q := sum_some (f := fun x => if x.length < y.length ∧ hit x r = true then gain ws r x else 0) (g := fun x => if x.length < z.length ∧ hit x r = true then gain ws r x else 0) hy (fun x hx => ?_) ?_
  · have e : (if y.length < z.length ∧ hit y r = true then gain ws r y else 0) = gain ws r y := if_pos ⟨h, hh⟩
    have q2 : stepA ws r y + (if y.length < z.length ∧ hit y r = true then gain ws r y else 0) ≤ stepA ws r z := q
    rw [e] at q2
    exact q2
  · show (if x.length < y.length ∧ hit x r = true then gain ws r x else 0) ≤ (if x.length < z.length ∧ hit x r = true then gain ws r x else 0)
    by_cases c : x.length < y.length ∧ hit x r = true
    · rw [if_pos c, if_pos ⟨by omega, c.2⟩]
      exact Int.le_refl _
    · rw [if_neg c]
      by_cases d : x.length < z.length ∧ hit x r = true
      · rw [if_pos d]
        exact cntH_nn _ _
      · rw [if_neg d]
        exact Int.le_refl 0
  · exact if_neg fun c => Nat.lt_irrefl _ c.1
theorem sum_if {p h : List Nat → Prop} [DecidablePred p] [DecidablePred h] {f : List Nat → Int} : ∀ vs : List (List Nat), (vs.map fun x => if p x ∧ h x then f x else 0).sum = ((vs.filter fun x => decide (h x)).map fun x => if p x then f x else 0).sum
  | [] => rfl
  | x :: vs => by
    rw [List.map_cons, List.sum_cons, sum_if vs]
    by_cases c : h x
    · rw [List.filter_cons_of_pos (p := fun x => decide (h x)) (decide_eq_true c), List.map_cons, List.sum_cons]
      by_cases d : p x
      · rw [if_pos ⟨d, c⟩, if_pos d]
      · rw [if_neg fun z => d z.1, if_neg d]
    · rw [List.filter_cons_of_neg (p := fun x => decide (h x)) (fun z => c (of_decide_eq_true z)), if_neg fun z => c z.2, Int.zero_add]
theorem step_hits {vs ws : List (List Nat)} {r : List Nat} (pm : vs.Perm ws) (up : (vs.filter fun x => hit x r).Pairwise fun a b => a.length < b.length) {i : Nat} (hi : i < (vs.filter fun x => hit x r).length) :
    stepA ws r (vs.filter fun x => hit x r)[i] = (((vs.filter fun x => hit x r).take i).map (gain ws r)).sum := by
  obtain ⟨y, hy⟩ : ∃ y, y = (vs.filter fun x => hit x r)[i] := ⟨_, rfl⟩
  rw [← hy]
  unfold stepA
  rw [← perm_sum (pm.map fun x => if x.length < y.length ∧ hit x r = true then gain ws r x else 0), sum_if (p := fun x => x.length < y.length) (h := fun x => hit x r = true)]
  have ef : (vs.filter fun x => decide (hit x r = true)) = vs.filter fun x => hit x r := by
    refine congrArg (fun p => vs.filter p) (funext fun x => ?_)
    cases hit x r <;> rfl
  rw [ef]
  rw [List.pairwise_iff_getElem] at up
  generalize (vs.filter fun x => hit x r) = hs at hi hy up ⊢
  have e1 : ((hs.take i).map fun x => if x.length < y.length then gain ws r x else 0) = (hs.take i).map (gain ws r) := by
    refine List.map_congr_left fun x hx => ?_
    obtain ⟨j, hj, e⟩ := List.mem_iff_getElem.mp hx
    rw [List.length_take] at hj
    rw [List.getElem_take] at e
    have := up j i (by omega) hi (by omega)
    rw [e, ← hy] at this
    exact if_pos this
  have e2 : ((hs.drop i).map fun x => if x.length < y.length then gain ws r x else 0).sum = 0 := by
    have : ((hs.drop i).map fun x => if x.length < y.length then gain ws r x else 0) = (hs.drop i).map fun _ => (0 : Int) := by
      refine List.map_congr_left fun x hx => ?_
      obtain ⟨j, hj, e⟩ := List.mem_iff_getElem.mp hx
      rw [List.length_drop] at hj
      rw [List.getElem_drop] at e
      by_cases z : j = 0
      · subst z
        rw [← e, hy]
        exact if_neg (Nat.lt_irrefl _)
      · have := up i (i + j) hi (by omega) (by omega)
        rw [e, ← hy] at this
        exact if_neg (by omega)
    rw [this]
    generalize hs.drop i = ds
    induction ds with
    | nil => rfl
    | cons d ds ih => rw [List.map_cons, List.sum_cons, ih]; rfl
  have e3 : hs = hs.take i ++ hs.drop i := (List.take_append_drop i hs).symm
  rw [e3, List.map_append, List.sum_append, e2, ← e3, e1, Int.add_zero]
/-- the parting of a rest that has this number -/
inductive Pt (ws : List (List Nat)) : List Nat → Int → List (List Nat) → Prop where
  | nil : Pt ws [] 0 []
  | cons {r y : List Nat} {k : Int} {ys : List (List Nat)} : y ∈ ws → 1 ≤ y.length → hit y r = true → stepA ws r y ≤ k → k < stepA ws r y + gain ws r y → Pt ws (r.drop y.length) (k - stepA ws r y) ys → Pt ws r k (y :: ys)
theorem Pt.one {ws : List (List Nat)} {r : List Nat} {k : Int} {ys : List (List Nat)} (h : Pt ws r k ys) : ∀ {zs : List (List Nat)}, Pt ws r k zs → ys = zs := by
  induction h with
  | nil =>
    intro zs g
    cases g with
    | nil => rfl
    | cons a b c _ _ _ =>
      have := hit_len c
      have z : ([] : List Nat).length = 0 := rfl
      omega
  | @cons r y k ys a b c d e f ih =>
    intro zs g
    cases g with
    | nil =>
      have := hit_len c
      have z : ([] : List Nat).length = 0 := rfl
      omega
    | @cons _ z _ zs a' b' c' d' e' f' =>
      have hl : y.length = z.length := by
        rcases Nat.lt_trichotomy y.length z.length with h | h | h
        · have := step_less a c h
          omega
        · exact h
        · have := step_less a' c' h
          omega
      have hyz : y = z := by
        have e1 := hit_iff.mp c
        rw [hl, hit_iff.mp c'] at e1
        exact e1.symm
      subst hyz
      rw [ih f']
theorem Pt.flat {ws : List (List Nat)} {r : List Nat} {k : Int} {ys : List (List Nat)} (h : Pt ws r k ys) : ys.flatten = r := by
  induction h with
  | nil => rfl
  | @cons r y k ys a b c d e f ih =>
    rw [List.flatten_cons, ih]
    have e1 := hit_iff.mp c
    have e2 := List.take_append_drop y.length r
    rw [e1] at e2
    exact e2
theorem Pt.mem {ws : List (List Nat)} {r : List Nat} {k : Int} {ys : List (List Nat)} (h : Pt ws r k ys) : ∀ y ∈ ys, y ∈ ws := by
  induction h with
  | nil => exact fun y hy => nomatch hy
  | cons a _ _ _ _ _ ih => exact fun x hx => (List.mem_cons.mp hx).elim (fun e => e ▸ a) (ih x)
/-- how many partings are ahead of a row -/
def ahd (ws : List (List Nat)) : List Nat → List (List Nat) → Int
  | _, [] => 0
  | r, y :: ys => stepA ws r y + ahd ws (r.drop y.length) ys
theorem Pt.ahd {ws : List (List Nat)} {r : List Nat} {k : Int} {ys : List (List Nat)} (h : Pt ws r k ys) : Ow.ahd ws r ys = k := by
  induction h with
  | nil => rfl
  | cons _ _ _ _ _ _ ih =>
    show stepA _ _ _ + Ow.ahd _ _ _ = _
    rw [ih]
    omega
theorem Pt.len {ws : List (List Nat)} {r : List Nat} {k : Int} {ys : List (List Nat)} (h : Pt ws r k ys) : ys.length ≤ r.length := by
  induction h with
  | nil => exact Nat.le_refl _
  | @cons r y k ys a b c d e f ih =>
    rw [List.length_drop] at ih
    have := hit_len c
    rw [List.length_cons]
    omega
theorem ahd_snoc {ws : List (List Nat)} : ∀ {ys : List (List Nat)} {r y : List Nat}, ahd ws r (ys ++ [y]) = ahd ws r ys + stepA ws (r.drop ys.flatten.length) y
  | [], r, y => by
    show stepA ws r y + 0 = 0 + stepA ws r y
    omega
  | z :: ys, r, y => by
    show stepA ws r z + ahd ws (r.drop z.length) (ys ++ [y]) = stepA ws r z + ahd ws (r.drop z.length) ys + _
    rw [ahd_snoc, List.flatten_cons, List.length_append, List.drop_drop]
    omega
section
variable {Pr : Program} {w : World} {K : PySem.W.Frag} {mg : Str → Option Value} {base : Heap} {f : Addr} {fd : FuncData}
/-! ### the number that is asked -/
def NumV (v : V) : Prop := (∃ i, v = .int i) ∨ (∃ b, v = .bl b) ∨ v = .non ∨ ∃ x, v = .str x
theorem scNumber : FnScope ["_law_cell", "_law_many", "_law_some", "_law_far"] ["_law_cell", "_law_many"] (defScope s__law_number) := ⟨rfl, rfl, rfl, by decide +kernel, rfl, by decide +kernel, by decide +kernel⟩
def spNumber : Sp := fun vs H Q _ => ∃ (c m : Int), vs = [.int c, .int m] ∧ ∀ (v : V) (H' : Hp), Same H H' → NumV v → Q v H'
theorem ok_number (F : FnP K "_law_number" s__law_number f fd) (B : Bl mg) : FnOk Pr w K mg base CX0 1 f fd ["_law_cell", "_law_many"] spNumber := by
  refine F.okN scNumber (fun vs H Q E h => ?_) (fun cdv A' outer s H vs Q E hr h => ?_)
  · obtain ⟨c, m, rfl, _⟩ := h
    rfl
  · obtain ⟨c, m, rfl, q⟩ := h
    refine ⟨_, pss_cons (ps_set (i := 2) scNumber.nd rfl (.inl rfl) (pe_lst (pa_cons pe_int (pa_cons (pe_op op_sub (pv 1) pe_int) (pa_cons (pv 1)
        (pa_cons (pe_op op_mod (pe_op op_fdiv (pv 0) pe_int) (pe_callB (call_max2 rfl) (by rfl) B.mMax (by decide +kernel) (pa_cons pe_int (pa_cons (pv 1) pa_nil))))
        (pa_cons (pe_op op_mod (pe_op op_fdiv (pv 0) pe_int) (pe_callB (call_max2 rfl) (by rfl) B.mMax (by decide +kernel) (pa_cons pe_int (pa_cons (pv 1) pa_nil))))
        (pa_cons (pe_op op_mod (pe_op op_fdiv (pv 0) pe_int) (pe_callB (call_max2 rfl) (by rfl) B.mMax (by decide +kernel) (pa_cons pe_int (pa_cons (pv 1) pa_nil))))
        (pa_cons (pe_un un_neg pe_int) pa_nil)))))))))
      (pss_cons (ps_set (i := 3) scNumber.nd rfl (.inl rfl) (pe_op op_add (pv 1) (pe_op op_mod (pe_op op_fdiv (pv 0) pe_int) (pe_op op_pow pe_int pe_int))))
      (pss_one (ps_ret (pe_ix (r := rIxL K) ix_list (pe_op op_cat (pv 2) (pe_lst (pa_cons (pv 3) (pa_cons (pe_cmpR op_eq (pe_op op_mod (pe_op op_fdiv (pv 0) pe_int) pe_int) pe_int (nomark _)) (pa_cons pe_non (pa_cons pe_str (pa_cons (pe_un un_neg (pv 3)) pa_nil))))))) (pe_op op_mod (pv 0) pe_int) (fun _ _ => rfl))))), ?_⟩
    have pos : (0 : Int) < if m > 1 then m else 1 := by split <;> omega
    have d12 : (0 : Int) < 12 ∧ (12 : Int) < 1073741824 := ⟨by decide, by decide⟩
    refine ⟨_, rfl, _, _, rfl, rfl, _, rfl, _, rfl, _, _, rfl, rfl, d12, _, rfl, _, _, rfl, _, _, rfl, rfl, pos, ?_⟩
    refine ⟨_, rfl, _, _, rfl, rfl, d12, _, rfl, _, _, rfl, _, _, rfl, rfl, pos, ?_⟩
    refine ⟨_, rfl, _, _, rfl, rfl, d12, _, rfl, _, _, rfl, _, _, rfl, rfl, pos, ?_⟩
    refine ⟨_, rfl, by show 7 ≤ sizeLine; decide, fun p hp => ?_⟩
    have s1 := same_upd (o := .lst [V.int 0, V.int (m - 1), V.int m, V.int (c / 12 % (if m > 1 then m else 1)), V.int (c / 12 % (if m > 1 then m else 1)), V.int (c / 12 % (if m > 1 then m else 1)), V.int (-1)]) hp
    refine ⟨_, rfl, _, rfl, _, _, rfl, rfl, d12, _, _, rfl, rfl, ⟨by decide, by decide, by decide⟩, _, _, rfl, rfl, (by show (0 : Int) < 10 ^ 20; decide), _, _, rfl, rfl, ?_⟩
    obtain ⟨far, hfar⟩ : ∃ far, far = m + c / 12 % 10 ^ 20 := ⟨_, rfl⟩
    refine ⟨_, rfl, _, rfl, _, rfl, _, _, rfl, rfl, d12, _, _, rfl, rfl, (by show (0 : Int) < 2; decide), ?_⟩
    refine ⟨rfl, _, rfl, _, rfl, by show 5 ≤ sizeLine; decide, fun p2 hp2 => ?_⟩
    obtain ⟨l1, hl1⟩ : ∃ l1 : List V, l1 = [V.int 0, V.int (m - 1), V.int m, V.int (c / 12 % (if m > 1 then m else 1)), V.int (c / 12 % (if m > 1 then m else 1)), V.int (c / 12 % (if m > 1 then m else 1)), V.int (-1)] := ⟨_, rfl⟩
    obtain ⟨l2, hl2⟩ : ∃ l2 : List V, l2 = [V.int (m + c / 12 % 10 ^ Int.toNat 20), V.bl (decide (V.int (c / 12 % 2) = V.int 0)), V.non, V.str "0", V.int (-(m + c / 12 % 10 ^ Int.toNat 20))] := ⟨_, rfl⟩
    have s2 := same_upd (o := .lst l2) hp2
    refine ⟨p, p2, l1, l2, rfl, rfl, by rw [hl1, hl2] at *; exact s2 _ _ upd_same, by rw [hl2]; exact upd_same, by rw [hl1, hl2]; show 12 ≤ sizeLine; decide, fun p3 hp3 => ?_⟩
    have s3 := same_upd (o := .lst (l1 ++ l2)) hp3
    refine ⟨_, rfl, _, _, rfl, rfl, (by show (0 : Int) < 12; decide), ?_⟩
    have hlen : (l1 ++ l2).length = 12 := by rw [hl1, hl2]; rfl
    obtain ⟨v, hv, ev⟩ := at_in (l1 ++ l2) (i := c % 12) (Int.emod_nonneg _ (by decide)) (by rw [hlen]; exact Int.emod_lt_of_pos _ (by decide))
    refine ⟨p3, _, _, v, rfl, rfl, seqL upd_same, ev, ?_⟩
    refine q v _ ?_ ?_
    · rw [hl1, hl2] at *
      exact (s1.trans s2).trans s3
    · rcases List.mem_append.mp hv with h | h
      · rw [hl1] at h
        simp only [List.mem_cons, List.not_mem_nil, or_false] at h
        rcases h with h | h | h | h | h | h | h <;> exact .inl ⟨_, h⟩
      · rw [hl2] at h
        simp only [List.mem_cons, List.not_mem_nil, or_false] at h
        rcases h with h | h | h | h | h
        · exact .inl ⟨_, h⟩
        · exact .inr (.inl ⟨_, h⟩)
        · exact .inr (.inr (.inl h))
        · exact .inr (.inr (.inr ⟨_, h⟩))
        · exact .inl ⟨_, h⟩
theorem scAhead : FnScope ["_law_words_here", "_law_text_here", "_law_row_here", "_law_counts_here", "_law_many", "_law_place", "_law_word_here", "_law_other"] ["_law_words_here", "_law_text_here", "_law_row_here", "_law_counts_here"] (defScope s__law_ahead) := ⟨rfl, rfl, rfl, by decide +kernel, rfl, by decide +kernel, by decide +kernel⟩
def spAhead (K : PySem.W.Frag) : Sp := fun vs H Q _ => ∃ (a b g : Addr) (ys ws : List (List Nat)) (t : List Nat), vs = [.ref b, tx t, .ref a, .ref g] ∧ SqL K H a (ys.map tx) ∧ SqL K H b (ws.map tx) ∧ SqL K H g ((cnt ws t).map V.int) ∧
  (∀ x ∈ ws, WordOk x) ∧ (∀ y ∈ ys, WordOk y) ∧ ys.flatten = t ∧ t.length ≤ 500 ∧ Q (.int (ahd ws t ys)) H
theorem ok_ahead (F : FnP K "_law_ahead" s__law_ahead f fd) (B : Bl mg) : FnOk Pr w K mg base CX0 1 f fd ["_law_words_here", "_law_text_here", "_law_row_here", "_law_counts_here"] (spAhead K) := by
  refine F.okN scAhead (fun vs H Q E h => ?_) (fun cdv A' outer s H vs Q E hr h => ?_)
  · obtain ⟨a, b, g, ys, ws, t, rfl, _⟩ := h
    rfl
  · obtain ⟨a, b, g, ys, ws, t, rfl, hA, hB, hG, hw, hy, hf, ht, q⟩ := h
    refine ⟨_, pss_cons (ps_set (i := 4) scAhead.nd rfl (.inl rfl) pe_int) (pss_cons (ps_set (i := 5) scAhead.nd rfl (.inl rfl) pe_int)
      (pss_cons (ps_for PassesOwn.never rfl (pi_list (pv 2)) (pg_name (i := 6) scAhead.nd rfl (Or.inl rfl))
        (pss_cons (ps_for PassesOwn.never rfl (pi_list (pv 0)) (pg_name (i := 7) scAhead.nd rfl (Or.inl rfl))
          (pss_one (ps_if (PW.pt (pw_and (pt_cmpR op_lt (pe_callB call_len_str (by rfl) B.mL boot_len (pa_cons (pv 7) pa_nil)) (pe_callB call_len_str (by rfl) B.mL boot_len (pa_cons (pv 6) pa_nil)) (nomark _))
              (pw_and1 (pt_cmpR op_eq (pe_slice sl_str (pv 1) (po_some (pv 5)) (po_some (pe_op op_add (pv 5) (pe_callB call_len_str (by rfl) B.mL boot_len (pa_cons (pv 7) pa_nil))))) (pv 7) (nomark _)))))
            (pss_one (ps_set (i := 4) scAhead.nd rfl (.inl rfl) (pe_op op_add (pv 4) (pe_ix (r := rIxL K) ix_list (pv 3) (pe_op op_add (pv 5) (pe_callB call_len_str (by rfl) B.mL boot_len (pa_cons (pv 7) pa_nil))) (fun _ _ => rfl))))) pss_nil)))
        (pss_one (ps_set (i := 5) scAhead.nd rfl (.inl rfl) (pe_op op_add (pv 5) (pe_callB call_len_str (by rfl) B.mL boot_len (pa_cons (pv 6) pa_nil)))))))
      (pss_one (ps_ret (pv 4))))), ?_⟩
    have zt : (S t).length ≤ sizeLine := small_S (by omega)
    refine ⟨_, rfl, a, rfl, ⟨_, hA⟩, for_list (K := K) (a := a) (xs := ys.map tx) (fun i σ H1 => H1 = H ∧ ∃ (k6 k7 : Option V), σ = [some (.ref b), some (tx t), some (.ref a), some (.ref g), some (.int (ahd ws t (ys.take i))), some (.int ((ys.take i).flatten.length : Nat)), k6, k7]) ?_ ?_ ?_ ?_⟩
    · exact ⟨rfl, none, none, rfl⟩
    · rintro i σ H1 _ ⟨rfl, _⟩
      exact hA
    · rintro i x σ H1 hx ⟨rfl, k6, k7, rfl⟩
      have hi : i < ys.length := by
        have := (List.getElem?_eq_some_iff.mp hx).1
        rw [List.length_map] at this
        exact this
      have hxe : x = tx ys[i] := by
        rw [List.getElem?_map, List.getElem?_eq_getElem hi] at hx
        exact (Option.some.inj hx).symm
      subst hxe
      obtain ⟨y, ey⟩ : ∃ y, y = ys[i] := ⟨_, rfl⟩
      obtain ⟨p, hp⟩ : ∃ p, p = (ys.take i).flatten.length := ⟨_, rfl⟩
      have hyo := hy ys[i] (List.getElem_mem hi)
      have etk : ys.take (i + 1) = ys.take i ++ [ys[i]] := by
        rw [List.take_add_one, List.getElem?_eq_getElem hi]
        rfl
      rw [etk, ahd_snoc, List.flatten_append, List.length_append, ← hp]
      rw [← ey] at hyo ⊢
      have zy : (S y).length ≤ sizeLine := small_S (by have := hyo.2.1; omega)
      refine ⟨_, rfl, b, rfl, ⟨_, hB⟩, for_list (K := K) (a := b) (xs := ws.map tx) (fun j σ H2 => H2 = H1 ∧ ∃ (k7 : Option V), σ = [some (.ref b), some (tx t), some (.ref a), some (.ref g), some (.int (ahd ws t (ys.take i) + ((ws.take j).map fun x => if x.length < y.length ∧ hit x (t.drop p) = true then gain ws (t.drop p) x else 0).sum)), some (.int (p : Int)), some (tx y), k7]) ?_ ?_ ?_ ?_⟩
      · refine ⟨rfl, k7, ?_⟩
        show _ = [_, _, _, _, some (V.int (ahd ws t (ys.take i) + 0)), _, _, _]
        rw [Int.add_zero]
        rfl
      · rintro j σ H2 _ ⟨rfl, _⟩
        exact hB
      · rintro j x σ H2 hx ⟨rfl, k7', rfl⟩
        have hj : j < ws.length := by
          have := (List.getElem?_eq_some_iff.mp hx).1
          rw [List.length_map] at this
          exact this
        have hxe : x = tx ws[j] := by
          rw [List.getElem?_map, List.getElem?_eq_getElem hj] at hx
          exact (Option.some.inj hx).symm
        subst hxe
        have hwo := hw ws[j] (List.getElem_mem hj)
        have zw : (S ws[j]).length ≤ sizeLine := small_S (by have := hwo.2.1; omega)
        rw [take_sum hj]
        refine ⟨_, rfl, S ws[j], rfl, zw, _, rfl, S y, rfl, zy, (ws[j].length : Int), (y.length : Int), len_v _, len_v _, _, rfl, ?_⟩
        refine ite2 (fun c => ?_) (fun c => ?_)
        · have c1 : (ws[j].length : Int) < (y.length : Int) := of_decide_eq_true c
          refine ⟨_, rfl, _, rfl, (p : Int), rfl, _, rfl, _, rfl, S ws[j], rfl, zw, (p : Int), (ws[j].length : Int), rfl, len_v _, _, rfl, S t, rfl, zt, _, rfl, rfl, _, rfl, ?_⟩
          rw [slice_eq]
          refine ite2 (fun c2 => ?_) (fun c2 => ?_)
          · rw [if_pos ⟨by omega, c2⟩]
            have hle := hit_len c2
            rw [List.length_drop] at hle
            refine ⟨_, rfl, _, rfl, _, rfl, _, rfl, S ws[j], rfl, zw, (p : Int), (ws[j].length : Int), rfl, len_v _, g, _, _, V.int (gain ws (t.drop p) ws[j]), rfl, rfl, hG, at_of (j := p + ws[j].length) (by omega) ?_, _, _, rfl, rfl, ?_⟩
            · rw [List.getElem?_map, cnt_at (by have := hwo.1; omega)]
              unfold gain
              rw [List.drop_drop]
              rfl
            · refine ⟨rfl, some (tx ws[j]), ?_⟩
              rw [← Int.add_assoc]
              rfl
          · rw [if_neg fun z => c2 z.2, Int.add_zero]
            exact ⟨rfl, _, rfl⟩
        · rw [if_neg fun z => c (decide_eq_true (show (ws[j].length : Int) < (y.length : Int) by have := z.1; omega)), Int.add_zero]
          exact ⟨rfl, _, rfl⟩
      · rintro σ H2 ⟨rfl, k7', rfl⟩
        refine ⟨_, rfl, _, rfl, S y, rfl, zy, (p : Int), (y.length : Int), rfl, len_v _, rfl, some (tx y), k7', ?_⟩
        rw [List.length_map, List.take_length, List.flatten_singleton, Int.natCast_add]
        rfl
    · rintro σ H1 ⟨rfl, k6, k7, rfl⟩
      rw [List.length_map, List.take_length]
      exact ⟨_, rfl, q⟩
end
/-- the whole number that a slot holds -/
def slotI (σ : L2.St) (i : Nat) : Int := match σ[i]? with
  | some (some (V.int p)) => p
  | _ => 0
section
variable {Pr : Program} {w : World} {K : PySem.W.Frag} {mg : Str → Option Value} {base : Heap} {f fC fH fW : Addr} {fd fdI fdC fdH fdW : FuncData} {P : Addr}
theorem scParting : FnScope ["words", "text", "number", "code", "counts", "row", "at", "ahead", "word", "behind"] ["words", "text", "number"] (defScope s_parting) := ⟨rfl, rfl, rfl, by decide +kernel, rfl, by decide +kernel, by decide +kernel⟩
def spParting (K : PySem.W.Frag) (P : Addr) : Sp := fun vs H Q E => ∃ (b : Addr) (ws : List (List Nat)) (t : List Nat) (v : V), vs = [.ref b, tx t, v] ∧ H b = some (.lst (ws.map tx)) ∧ CodeOk ws ∧ t.length ≤ 500 ∧ GxR.TabG H P ∧ NumV v ∧
  (∀ k, v = .int k → 0 ≤ k → k < cntH ws t → ∀ (r : Addr) (ys : List (List Nat)) (H' : Hp), Sm P H H' → H r = none → H' r = some (.lst (ys.map tx)) → Pt ws t k ys → Q (.ref r) H') ∧
  ((∀ k, v = .int k → ¬ (0 ≤ k ∧ k < cntH ws t)) → ∀ H', Sm P H H' → E (.ref (He.ga K "NoNumber")) none H')
theorem ok_parting (F : FnP K "parting" s_parting f fd) (C : Has K mg "checked" sChecked ["words"] fC fdC) (N : Has K mg "_counts" sCounts ["code", "text"] fH fdH) (W : Has K mg "_words_at" sWordsAt ["code", "text", "at"] fW fdW) (I : HasI K mg base P fdI) (B : Bl mg) (X : Exs K mg) :
    FnOk Pr w K mg base (L2N.CX Pr w) 3 f fd ["words", "text", "number"] (spParting K P) := by
  have GC : FnOk Pr w K mg base CX0 2 fC fdC ["words"] (spChecked P) := ok_checked C.F I B
  have GN : FnOk Pr w K mg base CX0 2 fH fdH ["code", "text"] (spCnt K) := ok_counts N.F W B.mR B.mV B.mL B.mSum
  have GW : FnOk Pr w K mg base CX0 2 fW fdW ["code", "text", "at"] (spWordsAt K) := (ok_wordsAt W.F).mono (by decide)
  obtain ⟨xP, kP, bP, tP⟩ := He.exc_ok X.x_NoNumber
  refine F.ok scParting (fun vs H Q E h => ?_) (fun cdv A' outer s H vs Q E hr h => ?_)
  · obtain ⟨b, ws, t, v, rfl, _⟩ := h
    rfl
  · obtain ⟨b, ws, t, v, rfl, hB, ⟨c1, c2, c3⟩, ht, hT, hv, good, bad⟩ := h
    refine ⟨_, pss_cons (ps_set (i := 3) scParting.nd rfl (.inl rfl) (pe_call GC hr (by rfl) C.g C.F.kp C.b .nil pass0 (pa_cons (pv 0) pa_nil)))
      (pss_cons (ps_set (i := 4) scParting.nd rfl (.inl rfl) (pe_call GN hr (by rfl) N.g N.F.kp N.b .nil pass0 (pa_cons (pv 3) (pa_cons (pv 1) pa_nil))))
      (pss_cons (ps_if (PW.pt (pw_or (pt_cmpR op_isNotTy (pe_callTy call_type1 (by rfl) B.mT boot_type (pa_cons (pv 2) pa_nil)) (pe_bltn (v := .ty "int") (by rfl) B.mInt boot_int rfl) (nomark _))
          (pw_or1 (pt_not (pt_chain op_le op_lt pe_int (pv 2) (pe_ix (r := rIxL K) ix_list (pv 4) pe_int (fun _ _ => rfl)))))))
        (pss_one (L2N.ps_raise rfl (L2N.takes_of (E := E) rfl rfl rfl rfl) (L2N.pmk_own PySem.F.excBase_ValueError xP X.g_NoNumber kP (raises_own bP tP) rfl))) pss_nil)
      (PSs.nox (pss_cons (ps_set (i := 5) scParting.nd rfl (.inl rfl) (pe_lst pa_nil)) (pss_cons (ps_set (i := 6) scParting.nd rfl (.inl rfl) pe_int) (pss_cons (ps_set (i := 7) scParting.nd rfl (.inl rfl) (pv 2))
      (pss_cons (ps_while PassesOwn.never (pt_cmpR op_lt (pv 6) (pe_callB call_len_str (by rfl) B.mL boot_len (pa_cons (pv 1) pa_nil)) (nomark _))
        (pss_cons (ps_for PassesOwn.never rfl (pi_list (pe_call GW hr (by rfl) W.g W.F.kp W.b .nil pass0 (pa_cons (pv 3) (pa_cons (pv 1) (pa_cons (pv 6) pa_nil))))) (pg_name (i := 8) scParting.nd rfl (Or.inl rfl))
          (pss_cons (ps_set (i := 9) scParting.nd rfl (.inl rfl) (pe_ix (r := rIxL K) ix_list (pv 4) (pe_op op_add (pv 6) (pe_callB call_len_str (by rfl) B.mL boot_len (pa_cons (pv 8) pa_nil))) (fun _ _ => rfl)))
          (pss_cons (ps_if (pt_cmpR op_lt (pv 7) (pv 9) (nomark _)) (pss_one ps_break) pss_nil)
          (pss_one (ps_aug (i := 7) scParting.nd rfl (.inl rfl) (pv 9) ip_sub)))))
        (pss_cons (ps_expr (pe_bm PySem.F.plainAttrs_list PySem.F.slot_list_append PySem.F.type_list_append mt_append (pv 5) (pa_cons (pv 8) pa_nil)))
        (pss_one (ps_aug (i := 6) scParting.nd rfl (.inl rfl) (pe_callB call_len_str (by rfl) B.mL boot_len (pa_cons (pv 8) pa_nil)) ip_add)))))
      (pss_one (ps_ret (pv 5)))))))))), ?_⟩
    have zt : (S t).length ≤ sizeLine := small_S (by omega)
    refine ⟨_, rfl, b, ws, rfl, hB, ⟨c1, c2, c3⟩, hT, fun r vs H1 m1 nr eR perm so => ?_⟩
    have hvw : ∀ x, x ∈ vs ↔ x ∈ ws := fun x => perm.mem_iff
    have v3 : ∀ x ∈ vs, WordOk x := fun x hx => c3 x ((hvw x).mp hx)
    have v1 : vs.length ≤ 12 := by rw [perm.length_eq]; exact c1
    have nd : vs.Nodup := perm.nodup_iff.mpr c2
    have w1 : ∀ x ∈ ws, 1 ≤ x.length := fun x hx => (c3 x hx).1
    refine ⟨_, rfl, _, rfl, r, vs, t, rfl, seqL eR, v3, v1, ht, fun g H2 s2 ng eg => ?_⟩
    rw [cnt_perm perm] at eg
    have eR2 := s2 _ _ eR
    have m2 : Sm P H H2 := m1.andThen s2
    have g0 : ((cnt ws t).map V.int)[0]? = some (V.int (cntH ws t)) := by
      rw [List.getElem?_map, cnt_at (Nat.zero_le _)]
      rfl
    have k0 : NumV v → (∃ k, v = .int k ∧ 0 ≤ k ∧ k < cntH ws t) ∨ ∀ k, v = .int k → ¬ (0 ≤ k ∧ k < cntH ws t) := fun _ => by
      by_cases h : ∃ k, v = .int k ∧ 0 ≤ k ∧ k < cntH ws t
      · exact .inl h
      · exact .inr fun k e z => h ⟨k, e, z.1, z.2⟩
    rcases k0 hv with ⟨k, rfl, h0, h1⟩ | no
    · refine ⟨_, rfl, .int k, "int", rfl, .int k, "int", "int", rfl, rfl, _, rfl, ?_⟩
      refine iteF ?_
      refine ⟨_, rfl, _, _, rfl, rfl, _, rfl, iteP h0 ?_⟩
      refine ⟨_, rfl, g, _, 0, _, rfl, rfl, seqL eg, atI_nat g0, _, _, rfl, rfl, _, rfl, ?_⟩
      refine iteNP h1 ?_
      refine ⟨Nat.zero_le _, fun o ho => ?_⟩
      have s3 := same_upd (o := .lst []) ho
      refine ⟨_, rfl, while_by (fun σ H' => Same H2 H' ∧ ∃ (p : Nat) (a : Int) (ys : List (List Nat)) (k8 k9 : Option V), σ = [some (.ref b), some (tx t), some (.int k), some (.ref r), some (.ref g), some (.ref o), some (.int (p : Int)), some (.int a), k8, k9] ∧
          H' o = some (.lst (ys.map tx)) ∧ p ≤ t.length ∧ ys.length ≤ p ∧ 0 ≤ a ∧ a < cntH ws (t.drop p) ∧ ∀ zs, Pt ws (t.drop p) a zs → Pt ws t k (ys ++ zs)) (fun σ _ => t.length - (slotI σ 6).toNat) ?_ ?_ ?_⟩
      · exact ⟨s3, 0, k, [], none, none, rfl, upd_same, Nat.zero_le _, Nat.le_refl _, h0, h1, fun zs h => h⟩
      · rintro σ H3 ⟨s3, p, a, ys, k8, k9, rfl, eo, hp, hy, ha0, ha1, hpt⟩
        refine ⟨_, rfl, _, rfl, S t, rfl, zt, (p : Int), (t.length : Int), rfl, len_v _, _, rfl, ?_⟩
        by_cases hlt : p < t.length
        · refine iteP (by omega) ?_
          refine ⟨_, rfl, _, rfl, _, rfl, r, vs, t, p, rfl, s3.seq (seqL eR2), v3, v1, fun l H4 s4 nl el => ?_⟩
          have up := hits_up so nd (t.drop p)
          have sh : ∀ i (hi : i < (vs.filter fun x => hit x (t.drop p)).length), stepA ws (t.drop p) (vs.filter fun x => hit x (t.drop p))[i] = (((vs.filter fun x => hit x (t.drop p)).take i).map (gain ws (t.drop p))).sum := fun i hi => step_hits perm up hi
          have hmem : ∀ x ∈ (vs.filter fun x => hit x (t.drop p)), x ∈ ws ∧ hit x (t.drop p) = true := fun x hx => by
            obtain ⟨q1, q2⟩ := (List.mem_filter (p := fun x => hit x (t.drop p))).mp hx
            exact ⟨(hvw x).mp q1, q2⟩
          have tot : cntH ws (t.drop p) = ((vs.filter fun x => hit x (t.drop p)).map (gain ws (t.drop p))).sum := by
            rw [cntH_sum w1 (fun e => by
              have := congrArg List.length e
              rw [List.length_drop] at this
              have z : t.length - p = 0 := this
              omega)]
            exact perm_sum ((perm.filter _).map _).symm
          generalize (vs.filter fun x => hit x (t.drop p)) = hs at el sh hmem tot
          have eo4 := s4 _ _ eo
          have eg4 := s4 _ _ (s3 _ _ eg)
          have s24 := s3.trans s4
          refine ⟨l, rfl, ⟨_, seqL el⟩, for_list (K := K) (a := l) (xs := hs.map tx) (fun i σ H5 => H5 = H4 ∧ 0 ≤ a - ((hs.take i).map (gain ws (t.drop p))).sum ∧ ∃ (k8 k9 : Option V), σ = [some (.ref b), some (tx t), some (.int k), some (.ref r), some (.ref g), some (.ref o), some (.int (p : Int)), some (.int (a - ((hs.take i).map (gain ws (t.drop p))).sum)), k8, k9]) ?_ ?_ ?_ ?_⟩
          · refine ⟨rfl, by show 0 ≤ a - 0; omega, k8, k9, ?_⟩
            show _ = [_, _, _, _, _, _, _, some (V.int (a - 0)), _, _]
            rw [Int.sub_zero]
          · rintro i σ H5 _ ⟨rfl, _⟩
            exact seqL el
          · rintro i x σ H5 hx ⟨rfl, ha, k8', k9', rfl⟩
            have hi : i < hs.length := by
              have := (List.getElem?_eq_some_iff.mp hx).1
              rw [List.length_map] at this
              exact this
            have hxe : x = tx hs[i] := by
              rw [List.getElem?_map, List.getElem?_eq_getElem hi] at hx
              exact (Option.some.inj hx).symm
            subst hxe
            obtain ⟨y1, y2⟩ := hmem hs[i] (List.getElem_mem hi)
            have shi := sh i hi
            have tks := take_sum (g := gain ws (t.drop p)) hi
            obtain ⟨y, ey⟩ : ∃ y, y = hs[i] := ⟨_, rfl⟩
            rw [← ey] at y1 y2 shi tks ⊢
            obtain ⟨wy1, wy2, _⟩ := c3 y y1
            have zy : (S y).length ≤ sizeLine := small_S (by omega)
            have hle := hit_len y2
            rw [List.length_drop] at hle
            refine ⟨_, rfl, _, rfl, _, rfl, S y, rfl, zy, (p : Int), (y.length : Int), rfl, len_v _, g, _, _, V.int (gain ws (t.drop p) y), rfl, rfl, seqL eg4, at_of (j := p + y.length) (by omega) ?_, _, rfl, _, rfl, _, _, rfl, rfl, _, rfl, ?_⟩
            · rw [List.getElem?_map, cnt_at (by omega)]
              unfold gain
              rw [List.drop_drop]
              rfl
            refine ite2 (fun c => ?_) (fun c => ?_)
            · have c1 := of_decide_eq_true c
              refine ⟨_, rfl, .inl ⟨rfl, _, seqL eo4⟩, _, rfl, o, _, _, rfl, rfl, eo4, by rw [List.length_map]; exact small1000 (by omega), ?_⟩
              refine ⟨_, rfl, _, rfl, S y, rfl, zy, (p : Int), (y.length : Int), rfl, len_v _, ?_⟩
              refine ⟨⟨fun d ob e => ?_, p + y.length, a - ((hs.take i).map (gain ws (t.drop p))).sum, ys ++ [y], some (tx y), some (V.int (gain ws (t.drop p) y)), ?_, ?_, by omega, ?_, ha, ?_, fun zs h => ?_⟩, ?_⟩
              · rw [upd_ne (ne_of_none e ho)]
                exact s24 _ _ e
              · rw [Int.natCast_add]
                rfl
              · rw [upd_same, List.map_append]
                rfl
              · rw [List.length_append]
                show ys.length + 1 ≤ _
                omega
              · have c2 := c1
                unfold gain at c2
                rw [List.drop_drop] at c2
                exact c2
              · have q := hpt (y :: zs) (.cons y1 wy1 y2 (by rw [shi]; omega) (by rw [shi]; omega) (by rw [List.drop_drop, shi]; exact h))
                rw [List.append_assoc]
                exact q
              · show t.length - ((p : Int) + (y.length : Int)).toNat < t.length - ((p : Int)).toNat
                omega
            · have c1 : ¬ (a - ((hs.take i).map (gain ws (t.drop p))).sum < gain ws (t.drop p) y) := fun z => c (decide_eq_true z)
              refine ⟨_, rfl, _, rfl, _, _, rfl, rfl, rfl, by rw [tks]; omega, some (tx y), some (V.int (gain ws (t.drop p) y)), ?_⟩
              rw [tks, ← Int.sub_sub]
              rfl
          · rintro σ H5 ⟨rfl, ha, _⟩
            rw [List.length_map, List.take_length, ← tot] at ha
            omega
        · refine iteN (by omega) ?_
          have ep : p = t.length := by omega
          subst ep
          rw [List.drop_length] at ha1 hpt
          have ha1' : a < 1 := ha1
          have ea : a = 0 := by omega
          subst ea
          have hpt' := hpt [] .nil
          rw [List.append_nil] at hpt'
          exact ⟨_, rfl, good k rfl h0 h1 o ys H3 (m2.andThen s3) (Sm.free hT m2 ho) eo hpt'⟩
      · exact fun σ H Q Q' m h => by
          obtain ⟨x, e, y, e2, z, e3, l, i, j, e4, e5, c, e6, q⟩ := h
          exact ⟨x, e, y, e2, z, e3, l, i, j, e4, e5, c, e6, m _ _ q⟩
    · have raise := bad no H2 m2
      rcases hv with ⟨k, rfl⟩ | ⟨c, rfl⟩ | rfl | ⟨z, rfl⟩
      · refine ⟨_, rfl, .int k, "int", rfl, .int k, "int", "int", rfl, rfl, _, rfl, ?_⟩
        refine iteF ?_
        by_cases h0 : 0 ≤ k
        · refine ⟨_, rfl, _, _, rfl, rfl, _, rfl, iteP h0 ?_⟩
          refine ⟨_, rfl, g, _, 0, _, rfl, rfl, seqL eg, atI_nat g0, _, _, rfl, rfl, _, rfl, ?_⟩
          exact iteNN (fun h1 => no k rfl ⟨h0, h1⟩) raise
        · exact ⟨_, rfl, _, _, rfl, rfl, _, rfl, iteN h0 ⟨_, rfl, iteT raise⟩⟩
      · exact ⟨_, rfl, .bl c, "bool", rfl, .bl c, "bool", "int", rfl, rfl, _, rfl, iteT (iteT raise)⟩
      · exact ⟨_, rfl, .non, "NoneType", rfl, .non, "NoneType", "int", rfl, rfl, _, rfl, iteT (iteT raise)⟩
      · exact ⟨_, rfl, .str z, "str", rfl, .str z, "str", "int", rfl, rfl, _, rfl, iteT (iteT raise)⟩
end
section
variable {Pr : Program} {w : World} {K : PySem.W.Frag} {mg : Str → Option Value} {base : Heap} {f fP fW : Addr} {fd fdP fdW : FuncData} {P : Addr}
theorem scTold : FnScope ["_law_words_here", "_law_text_here", "_law_number_here", "_law_e"] ["_law_words_here", "_law_text_here", "_law_number_here"] (defScope s__law_told) := ⟨rfl, rfl, rfl, by decide +kernel, rfl, by decide +kernel, by decide +kernel⟩
def spTold (K : PySem.W.Frag) (P : Addr) : Sp := fun vs H Q _ => ∃ (b : Addr) (ws : List (List Nat)) (t : List Nat) (v : V), vs = [.ref b, tx t, v] ∧ H b = some (.lst (ws.map tx)) ∧ CodeOk ws ∧ t.length ≤ 500 ∧ GxR.TabG H P ∧ NumV v ∧
  (∀ k, v = .int k → 0 ≤ k → k < cntH ws t → ∀ (r : Addr) (ys : List (List Nat)) (H' : Hp), Sm P H H' → H r = none → H' r = some (.lst (ys.map tx)) → Pt ws t k ys → Q (.ref r) H') ∧
  ((∀ k, v = .int k → ¬ (0 ≤ k ∧ k < cntH ws t)) → ∀ (r : Addr) (H' : Hp), Sm P H H' → H' r = some (.tup [V.str "number"]) → Q (.ref r) H')
theorem ok_told (F : FnP K "_law_told" s__law_told f fd) (G : FnOk Pr w K mg base (L2N.CX Pr w) 3 fP fdP ["words", "text", "number"] (spParting K P)) (PA : Has K mg "parting" s_parting ["words", "text", "number"] fP fdP) (WO : Has K mg "_law_words_of" s__law_words_of ["_law_e"] fW fdW)
    (B : Bl mg) (X : Exs K mg) (kn : KitE K (He.ga K "NoNumber") false false false false false true false false false) (cn : PySem.W.exmOne K (.ref (He.ga K "NoNumber")) (.ref (He.ga K "CodeError")) = some true) :
    FnOk Pr w K mg base CX0 4 f fd ["_law_words_here", "_law_text_here", "_law_number_here"] (spTold K P) := by
  have GE : FnE Pr w K mg base 1 fW fdW "_law_e" (spWordsOf K) := ok_wordsOf WO.F B X
  refine F.okN scTold (fun vs H Q E h => ?_) (fun cdv A' outer s H vs Q E hr h => ?_)
  · obtain ⟨b, ws, t, v, rfl, _⟩ := h
    rfl
  · obtain ⟨b, ws, t, v, rfl, hB, hC, ht, hT, hv, good, bad⟩ := h
    refine ⟨_, pss_one (L2N.ps_try_as (i := 3) (c := .ref (He.ga K "CodeError")) (Wout := fun _ _ _ _ => False) (tb := fun W => tRet (tCallS (spParting K P) (WE W) (tCons (tVar 0) (tCons (tVar 1) (tCons (tVar 2) tNil)))))
      (ts := fun a cls d => match cls, d with
        | .ref D, none => tRet (tCB (fun xs H Q => ∃ p ys, xs = [V.ref p] ∧ ((SqL K H p ys ∧ ∀ l, H l = none → Q (.ref l) (upd H l (.tup ys))) ∨ (SqT K H p ys ∧ Q (.ref p) H))) (tCons (fun σ H Q => tVar 3 σ H fun v H1 => v = .ref a ∧ spWordsOf K a D H1 Q) tNil))
        | _, _ => tNever) rfl rfl scTold.nd rfl (by rfl) ⟨by rfl, by decide, .inl X.g_CodeError⟩ (fun u s' x => ?_) (fun W pn xe tk hp => ?_) (fun a oe cls d pn hz hf => ?_)), ?_⟩
    · obtain ⟨_, _, _, _, _, _, _, _, _, _, _, _, _, _, _, _, z⟩ := x
      exact z.elim
    · exact pss_one (ps_ret (pe_callS G (hr.mono (by decide)) (by rfl) PA.g PA.F.kp PA.b (fun σ => L2N.passAt tk σ) (pa_cons (pv 0) (pa_cons (pv 1) (pa_cons (pv 2) pa_nil)))))
    · split
      · exact pss_one (ps_ret (pe_callTy call_tuple_of (by rfl) B.mTuple (by decide +kernel) (pa_cons (pe_callE GE ⟨(hr.mono (j := 1) (by decide)).dp, (hr.mono (j := 1) (by decide)).un⟩ rfl List.mem_cons_self hz hf (by rfl) WO.g WO.F.kp WO.b (pv 3)) pa_nil)))
      · exact pss_one ps_never
    · refine ⟨_, rfl, _, rfl, _, rfl, b, ws, t, v, rfl, hB, hC, ht, hT, hv, good, fun no H' m => ⟨true, cn, fun _ a ha => ?_, fun z => nomatch z⟩⟩
      refine ⟨_, rfl, rfl, _, _, _, _, _, _, _, _, _, kn, fun r H'' sm nr er => ⟨r, _, rfl, .inl ⟨seqL er, fun l hl => ?_⟩⟩⟩
      exact bad no l _ (m.andThen (sm.trans (same_upd hl))) upd_same
end
section
variable {Pr : Program} {w : World} {K : PySem.W.Frag} {mg : Str → Option Value} {base : Heap} {f : Addr} {fd fdI : FuncData} {P : Addr}
theorem scLaw : FnScope ["_law_script", "_law_words_here", "_law_text_here", "_law_counts_here", "_law_number_here", "_law_handed", "_law_found", "_law_is_good", "_law_kept"] ["_law_script"] (defScope sLaw) := ⟨rfl, rfl, rfl, by decide +kernel, rfl, by decide +kernel, by decide +kernel⟩
/-- what else the head tells: what isinstance and except say of the class that is raised -/
def exB (K : PySem.W.Frag) : Bool := kitB K "NoNumber" false false false false false true false false false && decide (PySem.W.exmOne K (.ref (He.ga K "NoNumber")) (.ref (He.ga K "CodeError")) = some true)
theorem ok_law (F : FnP K "law" sLaw f fd) (D : Defs K mg) (I : HasI K mg base P fdI) (B : Bl mg) (E : Exs K mg) (M : exB K = true) : FnOk Pr w K mg base CX0 5 f fd ["_law_script"] (spLaw K P) := by
  obtain ⟨M1, M2⟩ := He.ba M
  obtain ⟨f8, d8, WS, GWS⟩ := inWords (Pr := Pr) (w := w) (base := base) D B
  obtain ⟨f10, d10, T, GT0⟩ := inText (Pr := Pr) (w := w) (base := base) D B
  obtain ⟨f1, d1, A⟩ := D.d__law_at
  obtain ⟨f11, d11, LC⟩ := D.d__law_counts
  obtain ⟨f12, d12, LN⟩ := D.d__law_number
  obtain ⟨f13, d13, PA⟩ := D.d_parting
  obtain ⟨f14, d14, CH⟩ := D.d_checked
  obtain ⟨f15, d15, CT⟩ := D.d__counts
  obtain ⟨f16, d16, WA⟩ := D.d__words_at
  obtain ⟨f17, d17, IR⟩ := D.d__law_is_row
  obtain ⟨f18, d18, AH⟩ := D.d__law_ahead
  obtain ⟨f19, d19, TO⟩ := D.d__law_told
  obtain ⟨f20, d20, WO⟩ := D.d__law_words_of
  have GA : FnOk Pr w K mg base CX0 4 f1 d1 ["_law_script", "_law_k"] (spAt K) := (ok_at A.F B.mL).mono (by decide)
  have GT : FnOk Pr w K mg base CX0 4 f10 d10 ["_law_script", "_law_first", "_law_words_here"] (spText K) := GT0.mono (by decide)
  have GL : FnOk Pr w K mg base CX0 4 f11 d11 ["_law_words_here", "_law_text_here"] (spCnt K) := (ok_lawCounts LC.F B.mR B.mV B.mL).mono (by decide)
  have GN : FnOk Pr w K mg base CX0 4 f12 d12 ["_law_cell", "_law_many"] spNumber := (ok_number LN.F B).mono (by decide)
  have GR : FnOk Pr w K mg base CX0 4 f17 d17 ["_law_row_here", "_law_words_here"] (spIsRow K) := (ok_isRow IR.F B).mono (by decide)
  have GH : FnOk Pr w K mg base CX0 4 f18 d18 ["_law_words_here", "_law_text_here", "_law_row_here", "_law_counts_here"] (spAhead K) := (ok_ahead AH.F B).mono (by decide)
  have GO : FnOk Pr w K mg base CX0 4 f19 d19 ["_law_words_here", "_law_text_here", "_law_number_here"] (spTold K P) := ok_told TO.F (ok_parting PA.F CH CT WA I B E) PA WO B E (kitB_ok M1) (of_decide_eq_true M2)
  refine F.okN scLaw (fun vs H Q E h => ?_) (fun cdv A' outer s H vs Q E hr h => ?_)
  · obtain ⟨a, ns, rfl, _⟩ := h
    rfl
  · obtain ⟨a, ns, rfl, hS, hT, q⟩ := h
    refine ⟨_, pss_cons (ps_set (i := 1) scLaw.nd rfl (.inl rfl) (pe_call GWS hr (by rfl) WS.g WS.F.kp WS.b .nil pass0 (pa_cons (pv 0) (pa_cons pe_int pa_nil))))
      (pss_cons (ps_set (i := 2) scLaw.nd rfl (.inl rfl) (pe_call GT hr (by rfl) T.g T.F.kp T.b .nil pass0 (pa_cons (pv 0) (pa_cons pe_int (pa_cons (pv 1) pa_nil)))))
      (pss_cons (ps_set (i := 3) scLaw.nd rfl (.inl rfl) (pe_call GL hr (by rfl) LC.g LC.F.kp LC.b .nil pass0 (pa_cons (pv 1) (pa_cons (pv 2) pa_nil))))
      (pss_cons (ps_set (i := 4) scLaw.nd rfl (.inl rfl) (pe_call GN hr (by rfl) LN.g LN.F.kp LN.b .nil pass0 (pa_cons (pe_call GA hr (by rfl) A.g A.F.kp A.b .nil pass0 (pa_cons (pv 0) (pa_cons pe_int pa_nil))) (pa_cons (pe_ix (r := rIxL K) ix_list (pv 3) pe_int (fun _ _ => rfl)) pa_nil))))
      (pss_cons (ps_set (i := 5) scLaw.nd rfl (.inl rfl) (pe_callTy call_list_of (by rfl) B.mList boot_list (pa_cons (pv 1) pa_nil)))
      (pss_cons (ps_set (i := 6) scLaw.nd rfl (.inl rfl) (pe_call GO hr (by rfl) TO.g TO.F.kp TO.b .nil pass0 (pa_cons (pv 5) (pa_cons (pv 2) (pa_cons (pv 4) pa_nil)))))
      (pss_cons (ps_set (i := 7) scLaw.nd rfl (.inl rfl) (pe_and (pe_callB call_isi (by rfl) B.mIsi boot_isinstance (pa_cons (pv 4) (pa_cons (pe_bltn (v := .ty "int") (by rfl) B.mInt boot_int rfl) pa_nil)))
        (pe_and (pe_not (pe_callB call_isi (by rfl) B.mIsi boot_isinstance (pa_cons (pv 4) (pa_cons (pe_bltn (v := .ty "bool") (by rfl) B.mBool boot_bool rfl) pa_nil)))) (pe_one (pe_chain op_le op_lt pe_int (pv 4) (pe_ix (r := rIxL K) ix_list (pv 3) pe_int (fun _ _ => rfl)))))))
      (pss_cons (ps_if (pt_not (pt_val (pv 7))) (pss_one (ps_ret (pe_and (pe_cmpR (op_eqD hr.units) (pv 6) (pe_tup (pa_cons pe_str pa_nil)) (nomark _)) (pe_one (pe_cmpR (op_eqD hr.units) (pv 5) (pv 1) (nomark _)))))) pss_nil)
      (pss_cons (ps_if (PW.pt (pw_or (pt_not (pt_val (pe_call GR hr (by rfl) IR.g IR.F.kp IR.b .nil pass0 (pa_cons (pv 6) (pa_cons (pv 1) pa_nil))))) (pw_or1 (pt_cmpR op_ne (pe_join pe_str (pv 6)) (pv 2) (nomark _))))) (pss_one (ps_ret pe_bl)) pss_nil)
      (pss_cons (ps_if (pt_cmpR op_ne (pe_call GH hr (by rfl) AH.g AH.F.kp AH.b .nil pass0 (pa_cons (pv 1) (pa_cons (pv 2) (pa_cons (pv 6) (pa_cons (pv 3) pa_nil))))) (pv 4) (nomark _)) (pss_one (ps_ret pe_bl)) pss_nil)
      (pss_cons (ps_set (i := 8) scLaw.nd rfl (.inl rfl) (pe_callTy call_list_of (by rfl) B.mList boot_list (pa_cons (pv 6) pa_nil)))
      (pss_cons (ps_expr (pe_bm PySem.F.plainAttrs_list PySem.F.slot_list_append PySem.F.type_list_append mt_append (pv 6) (pa_cons pe_str pa_nil)))
      (pss_one (ps_ret (pe_and (pe_cmpR (op_eqD hr.units) (pv 5) (pv 1) (nomark _)) (pe_one (pe_cmpR (op_eqD hr.units) (pe_call GO hr (by rfl) TO.g TO.F.kp TO.b .nil pass0 (pa_cons (pv 5) (pa_cons (pv 2) (pa_cons (pv 4) pa_nil)))) (pv 8) (nomark _))))))))))))))))), ?_⟩
    refine ⟨_, rfl, a, ns, 0, rfl, hS, by decide, fun r ws H1 s1 nr er hc => ?_⟩
    refine ⟨_, rfl, _, rfl, a, ns, 8, r, ws, rfl, s1.seq hS, by decide, er, hc, fun t H2 s2 htl tl => ?_⟩
    refine ⟨_, rfl, _, rfl, r, ws, t, rfl, seqL (s2 _ _ er), hc.2.2, hc.1, by omega, fun g H3 s3 ng eg => ?_⟩
    have hS3 := s3.seq (s2.seq (s1.seq hS))
    have er3 := s3 _ _ (s2 _ _ er)
    have g0 : ((cnt ws t).map V.int)[0]? = some (V.int (cntH ws t)) := by
      rw [List.getElem?_map, cnt_at (Nat.zero_le _)]
      rfl
    refine ⟨_, rfl, a, ns, 15, rfl, hS3, by decide, fun cell => ⟨_, rfl, g, _, 0, _, rfl, rfl, seqL eg, atI_nat g0, _, _, rfl, fun v H4 s4 hv => ?_⟩⟩
    have er4 := s4 _ _ er3
    have eg4 := s4 _ _ eg
    refine ⟨_, rfl, r, _, rfl, .inl (seqL er4), fun l hl => ?_⟩
    have s5 := same_upd (o := .lst (ws.map tx)) hl
    have m5 : Sm P H _ := .of_same hT ((((s1.trans s2).trans s3).trans s4).trans s5)
    have er5 := s5 _ _ er4
    have eg5 := s5 _ _ eg4
    have el5 : (upd H4 l (.lst (ws.map tx))) l = some (.lst (ws.map tx)) := upd_same
    have wl : ∀ x ∈ ws, Let x := fun x hx => (hc.2.2 x hx).2.2
    have zt : (S t).length ≤ sizeLine := small_S (by omega)
    generalize (upd H4 l (.lst (ws.map tx))) = H5 at m5 er5 eg5 el5 ⊢
    refine ⟨_, rfl, _, rfl, _, rfl, l, ws, t, v, rfl, el5, hc, by omega, m5.tab, hv, fun k ev h0 h1 r2 ys H6 m6 n6 e6 pt => ?_, fun no r2 H6 m6 e6 => ?_⟩
    · subst ev
      have er6 := Sm.lst m5.tab m6 er5
      have eg6 := Sm.lst m5.tab m6 eg5
      have el6 := Sm.lst m5.tab m6 el5
      have yw := pt.mem
      have yl : ∀ y ∈ ys, Let y := fun y hy => wl y (yw y hy)
      have yn : ys.length ≤ 500 := by have := pt.len; omega
      refine ⟨_, rfl, .int k, .ty "int", .type "int", .type "int", true, rfl, .ty _, .base (.int k), kit_ty (by decide +kernel), _, rfl, iteT ?_⟩
      refine ⟨_, rfl, .int k, .ty "bool", .type "int", .type "bool", false, rfl, .ty _, .base (.int k), kit_ty (by decide +kernel), _, rfl, _, rfl, iteT ?_⟩
      refine ⟨_, rfl, _, _, rfl, rfl, _, rfl, iteP h0 ?_⟩
      refine ⟨_, rfl, g, _, 0, _, rfl, rfl, seqL eg6, atI_nat g0, _, _, rfl, rfl, ?_⟩
      refine ⟨_, rfl, _, rfl, iteNP h1 ?_⟩
      refine ⟨_, rfl, _, rfl, r2, r, ys, ws, rfl, e6, seqL er6, yw, fun H7 s7 => ⟨_, rfl, iteF ?_⟩⟩
      have er7 := s7 _ _ er6
      have eg7 := s7 _ _ eg6
      have el7 := s7 _ _ el6
      have e7 := s7 _ _ e6
      have m7 : Sm P H5 H7 := m6.andThen s7
      refine ⟨⟨_, rfl⟩, _, rfl, _, r2, ys.map S, rfl, rfl, .inl (by rw [← map_tx]; exact seqL e7), join_room (fun y hy => (hc.2.2 y (yw y hy)).2.1) (by omega), ?_⟩
      rw [join0, pt.flat]
      refine ⟨_, rfl, rfl, _, rfl, iteNP rfl ?_⟩
      refine ⟨_, rfl, _, rfl, _, rfl, _, rfl, r2, r, g, ys, ws, t, rfl, seqL e7, seqL er7, seqL eg7, hc.2.2, fun y hy => hc.2.2 y (yw y hy), pt.flat, by omega, ?_⟩
      rw [pt.ahd]
      refine ⟨_, rfl, rfl, _, rfl, iteNP rfl ?_⟩
      refine ⟨_, rfl, r2, _, rfl, .inl (seqL e7), fun l2 hl2 => ?_⟩
      have s8 := same_upd (o := .lst (ys.map tx)) hl2
      have er8 := s8 _ _ er7
      have el8 := s8 _ _ el7
      have e8 := s8 _ _ e7
      have m8 : Sm P H5 _ := m7.andThen s8
      have ek8 : (upd H7 l2 (.lst (ys.map tx))) l2 = some (.lst (ys.map tx)) := upd_same
      have nk : r2 ≠ l2 := ne_of_none e7 hl2
      generalize (upd H7 l2 (.lst (ys.map tx))) = H8 at m8 er8 el8 e8 ek8 ⊢
      refine ⟨_, rfl, .inl ⟨rfl, _, seqL e8⟩, r2, _, _, rfl, rfl, e8, by rw [List.length_map]; exact small1000 (by omega), ?_⟩
      have np : r2 ≠ P := TabG.ne m6.tab e6
      have nl : l ≠ r2 := ne_of_none el5 n6
      have nr2 : r ≠ r2 := ne_of_none er5 n6
      have t9 : GxR.TabG (upd H8 r2 (.lst (ys.map tx ++ [V.str ""]))) P := tab_upd m8.tab np
      have er9 : (upd H8 r2 (.lst (ys.map tx ++ [V.str ""]))) r = some (.lst (ws.map tx)) := by rw [upd_ne nr2]; exact er8
      have el9 : (upd H8 r2 (.lst (ys.map tx ++ [V.str ""]))) l = some (.lst (ws.map tx)) := by rw [upd_ne nl]; exact el8
      have ek9 : (upd H8 r2 (.lst (ys.map tx ++ [V.str ""]))) l2 = some (.lst (ys.map tx)) := by rw [upd_ne (Ne.symm nk)]; exact ek8
      generalize (upd H8 r2 (.lst (ys.map tx ++ [V.str ""]))) = H9 at t9 er9 el9 ek9 ⊢
      refine ⟨_, rfl, _, rfl, _, _, .lst (seqL el9) (dp_texts ws), .lst (seqL er9) (dp_texts ws), shaped_texts wl, shaped_texts wl, _, rfl, ?_⟩
      rw [eqv_texts wl]
      refine iteT ?_
      refine ⟨_, rfl, _, rfl, _, rfl, l, ws, t, .int k, rfl, el9, hc, by omega, t9, hv, fun k' e' h0' h1' r3 zs H10 m10 n10 e10 pt2 => ?_, fun no => absurd ⟨h0, h1⟩ (no k rfl)⟩
      cases e'
      have ezy := pt.one pt2
      subst ezy
      refine ⟨_, rfl, _, _, .lst (seqL e10) (dp_texts ys), .lst (seqL (Sm.lst t9 m10 ek9)) (dp_texts ys), shaped_texts yl, shaped_texts yl, ?_⟩
      rw [eqv_texts yl]
      exact q H10
    · have er6 := Sm.lst m5.tab m6 er5
      have eg6 := Sm.lst m5.tab m6 eg5
      have el6 := Sm.lst m5.tab m6 el5
      rcases hv with ⟨k, rfl⟩ | ⟨c, rfl⟩ | rfl | ⟨z, rfl⟩
      · refine ⟨_, rfl, .int k, .ty "int", .type "int", .type "int", true, rfl, .ty _, .base (.int k), kit_ty (by decide +kernel), _, rfl, iteT ?_⟩
        refine ⟨_, rfl, .int k, .ty "bool", .type "int", .type "bool", false, rfl, .ty _, .base (.int k), kit_ty (by decide +kernel), _, rfl, _, rfl, iteT ?_⟩
        by_cases h0 : 0 ≤ k
        · refine ⟨_, rfl, _, _, rfl, rfl, _, rfl, iteP h0 ?_⟩
          refine ⟨_, rfl, g, _, 0, _, rfl, rfl, seqL eg6, atI_nat g0, _, _, rfl, rfl, ?_⟩
          refine ⟨_, rfl, _, rfl, iteNN (fun h1 => no k rfl ⟨h0, h1⟩) ?_⟩
          refine ⟨_, rfl, by show 1 ≤ sizeLine; decide, fun p hp => ?_⟩
          have s7 := same_upd (o := .tup [V.str "number"]) hp
          refine ⟨.tuple [.str "number"], .tuple [.str "number"], .tup (.inl (.inl (s7 _ _ e6))) (.cons (.str _) .nil), .tup (.inl (.inl upd_same)) (.cons (.str _) .nil), by decide +kernel, by decide +kernel, _, rfl, ?_⟩
          rw [show PyData.eqv (.tuple [.str "number"]) (.tuple [.str "number"]) = true by decide +kernel]
          refine iteT ?_
          refine ⟨_, rfl, _, rfl, _, _, .lst (seqL (s7 _ _ el6)) (dp_texts ws), .lst (seqL (s7 _ _ er6)) (dp_texts ws), shaped_texts wl, shaped_texts wl, ?_⟩
          rw [eqv_texts wl]
          exact q _
        · refine ⟨_, rfl, _, _, rfl, rfl, _, rfl, iteN h0 ?_⟩
          refine ⟨_, rfl, _, rfl, iteT ?_⟩
          refine ⟨_, rfl, by show 1 ≤ sizeLine; decide, fun p hp => ?_⟩
          have s7 := same_upd (o := .tup [V.str "number"]) hp
          refine ⟨.tuple [.str "number"], .tuple [.str "number"], .tup (.inl (.inl (s7 _ _ e6))) (.cons (.str _) .nil), .tup (.inl (.inl upd_same)) (.cons (.str _) .nil), by decide +kernel, by decide +kernel, _, rfl, ?_⟩
          rw [show PyData.eqv (.tuple [.str "number"]) (.tuple [.str "number"]) = true by decide +kernel]
          refine iteT ?_
          refine ⟨_, rfl, _, rfl, _, _, .lst (seqL (s7 _ _ el6)) (dp_texts ws), .lst (seqL (s7 _ _ er6)) (dp_texts ws), shaped_texts wl, shaped_texts wl, ?_⟩
          rw [eqv_texts wl]
          exact q _
      · refine ⟨_, rfl, .bl c, .ty "int", .type "bool", .type "int", true, rfl, .ty _, .base (.bl c), kit_ty (by decide +kernel), _, rfl, iteT ?_⟩
        refine ⟨_, rfl, .bl c, .ty "bool", .type "bool", .type "bool", true, rfl, .ty _, .base (.bl c), kit_ty (by decide +kernel), _, rfl, _, rfl, iteF ?_⟩
        refine ⟨_, rfl, _, rfl, iteT ?_⟩
        refine ⟨_, rfl, by show 1 ≤ sizeLine; decide, fun p hp => ?_⟩
        have s7 := same_upd (o := .tup [V.str "number"]) hp
        refine ⟨.tuple [.str "number"], .tuple [.str "number"], .tup (.inl (.inl (s7 _ _ e6))) (.cons (.str _) .nil), .tup (.inl (.inl upd_same)) (.cons (.str _) .nil), by decide +kernel, by decide +kernel, _, rfl, ?_⟩
        rw [show PyData.eqv (.tuple [.str "number"]) (.tuple [.str "number"]) = true by decide +kernel]
        refine iteT ?_
        refine ⟨_, rfl, _, rfl, _, _, .lst (seqL (s7 _ _ el6)) (dp_texts ws), .lst (seqL (s7 _ _ er6)) (dp_texts ws), shaped_texts wl, shaped_texts wl, ?_⟩
        rw [eqv_texts wl]
        exact q _
      · refine ⟨_, rfl, .non, .ty "int", .type "NoneType", .type "int", false, rfl, .ty _, .base .non, kit_ty (by decide +kernel), _, rfl, iteF ?_⟩
        refine ⟨_, rfl, _, rfl, iteT ?_⟩
        refine ⟨_, rfl, by show 1 ≤ sizeLine; decide, fun p hp => ?_⟩
        have s7 := same_upd (o := .tup [V.str "number"]) hp
        refine ⟨.tuple [.str "number"], .tuple [.str "number"], .tup (.inl (.inl (s7 _ _ e6))) (.cons (.str _) .nil), .tup (.inl (.inl upd_same)) (.cons (.str _) .nil), by decide +kernel, by decide +kernel, _, rfl, ?_⟩
        rw [show PyData.eqv (.tuple [.str "number"]) (.tuple [.str "number"]) = true by decide +kernel]
        refine iteT ?_
        refine ⟨_, rfl, _, rfl, _, _, .lst (seqL (s7 _ _ el6)) (dp_texts ws), .lst (seqL (s7 _ _ er6)) (dp_texts ws), shaped_texts wl, shaped_texts wl, ?_⟩
        rw [eqv_texts wl]
        exact q _
      · refine ⟨_, rfl, .str z, .ty "int", .type "str", .type "int", false, rfl, .ty _, .base (.str z), kit_ty (by decide +kernel), _, rfl, iteF ?_⟩
        refine ⟨_, rfl, _, rfl, iteT ?_⟩
        refine ⟨_, rfl, by show 1 ≤ sizeLine; decide, fun p hp => ?_⟩
        have s7 := same_upd (o := .tup [V.str "number"]) hp
        refine ⟨.tuple [.str "number"], .tuple [.str "number"], .tup (.inl (.inl (s7 _ _ e6))) (.cons (.str _) .nil), .tup (.inl (.inl upd_same)) (.cons (.str _) .nil), by decide +kernel, by decide +kernel, _, rfl, ?_⟩
        rw [show PyData.eqv (.tuple [.str "number"]) (.tuple [.str "number"]) = true by decide +kernel]
        refine iteT ?_
        refine ⟨_, rfl, _, rfl, _, _, .lst (seqL (s7 _ _ el6)) (dp_texts ws), .lst (seqL (s7 _ _ er6)) (dp_texts ws), shaped_texts wl, shaped_texts wl, ?_⟩
        rw [eqv_texts wl]
        exact q _
end
def dd (x : Str) (i : Nat) : He.DefD := ⟨(x, none), x, x, defArgs (top i), defBody (top i), defScope (top i), [], []⟩
def fn : List He.DefD := [dd "is_word" 14, dd "checked" 15, dd "parting" 17, dd "_words_at" 18, dd "_counts" 19, dd "_law_at" 21, dd "_law_mixed" 22, dd "_law_signs" 23, dd "_law_word" 24, dd "_law_any_word" 25, dd "_law_more" 26, dd "_law_chain" 27, dd "_law_words" 28, dd "_law_row" 29, dd "_law_text" 30, dd "_law_counts" 31, dd "_law_words_of" 32, dd "_law_is_row" 33, dd "_law_number" 34, dd "_law_ahead" 35, dd "_law_told" 36, dd "law" 37]
def fa : List He.Fa := ([.glo "law", .int "MOST_SIGNS" 10, .int "MOST_WORDS" 12, .glo "is_word", .glo "checked", .glo "parting", .glo "_words_at", .glo "_counts", .glo "_law_at", .glo "_law_mixed", .glo "_law_signs", .glo "_law_word", .glo "_law_any_word", .glo "_law_more", .glo "_law_chain", .glo "_law_words", .glo "_law_row", .glo "_law_text", .glo "_law_counts", .glo "_law_words_of", .glo "_law_is_row", .glo "_law_number", .glo "_law_ahead", .glo "_law_told", .free "type", .free "str", .free "len", .free "all", .free "list", .free "sorted"] : List He.Fa) ++ ([.free "range", .free "reversed", .free "sum", .free "isinstance", .free "int", .free "bool", .free "any", .free "max", .free "dict", .free "tuple", .free "min", .free "ValueError", .free "enumerate", .free "zip", .glo "CodeError", .glo "BadCode", .glo "Full", .glo "BadWord", .glo "Twice", .glo "NotThere", .glo "NoNumber", .glo "NoWait", .glo "BadSign", .glo "NoReading", .exc "CodeError", .exc "BadCode", .exc "Full", .exc "BadWord", .exc "Twice", .exc "NotThere"] : List He.Fa) ++ ([.exc "NoNumber", .exc "NoWait", .exc "BadSign", .exc "NoReading"] : List He.Fa)
def loose : List Str := (["CodeError", "BadCode", "Full", "BadWord", "Twice", "NotThere", "NoNumber", "NoWait", "BadSign", "NoReading", "MOST_SIGNS", "MOST_WORDS", "is_word", "checked", "parting", "_words_at", "_counts", "_law_at", "_law_mixed", "_law_signs", "_law_word", "_law_any_word", "_law_more", "_law_chain", "_law_words", "_law_row", "_law_text", "_law_counts", "_law_words_of", "_law_is_row"] : List Str) ++ (["_law_number", "_law_ahead", "_law_told"] : List Str)
abbrev R : PySem.W.OpenRow := PySem.W.OpenLaw.row PySem.Challenge.rw_onereading_k04_partings_told
def ex : PySem.W.Frag → Bool := exB
abbrev tf : List He.Defn := [aWord]
abbrev hk : PySem.W.Hook := He.hookX 4 fa fn [] tf ex
def ob (s : PySem.W.SharedT) : He.AlX := He.obsX 4 fa fn [] tf ex (HandSHeadRun.getT s)
theorem ob_eq (s : PySem.W.SharedT) : ob s = hk.obs s.abs := He.obsX_eq (HandSHeadRun.getT_eq s)
set_option maxHeartbeats 0 in
theorem run (w : World) : HandSHeadRun.RunEq R (PySem.W.view R.prog [37]) hk ob 20000 loose w := by
  intro os
  kernel_rfl
section
variable {w : World} {h : Heap} {K : PySem.W.Frag} {mg : Str → Option Value} {f : Addr}
theorem there (X : K.In h) (G : h.Ns mainGlobals mg) (c : He.SaysX fa fn [] tf ex w h K) (x : Str) (i j k : Nat) {ps : List Str} (hd : fn[j]? = some (dd x i)) (hg : fa[k]? = some (He.Fa.glo x))
    (hb : ∀ (kV doc pm : Value) (an : Option Addr) (cdv ct : Value) (us : List Value), us.length = ps.length → bindArgs (PySem.W.fnOf x x (defArgs (top i)) (defBody (top i)) (defScope (top i)) .none kV doc pm an cdv ct) ⟨us, []⟩ = pure (ps.zip us)) : There K mg x (top i) ps := by
  obtain ⟨fd, F⟩ := c.t.d.def_ j hd
  exact ⟨_, fd, F, He.glo_ok X G (c.t.d.fact k hg), FunD.bindsN F hb⟩
theorem defs (X : K.In h) (G : h.Ns mainGlobals mg) (c : He.SaysX fa fn [] tf ex w h K) : Defs K mg := {
  d_checked := there X G c "checked" 15 1 4 rfl rfl fun _ _ _ _ _ _ us hl => match us, hl with | [_], _ => rfl
  d_parting := there X G c "parting" 17 2 5 rfl rfl fun _ _ _ _ _ _ us hl => match us, hl with | [_, _, _], _ => rfl
  d__words_at := there X G c "_words_at" 18 3 6 rfl rfl fun _ _ _ _ _ _ us hl => match us, hl with | [_, _, _], _ => rfl
  d__counts := there X G c "_counts" 19 4 7 rfl rfl fun _ _ _ _ _ _ us hl => match us, hl with | [_, _], _ => rfl
  d__law_at := there X G c "_law_at" 21 5 8 rfl rfl fun _ _ _ _ _ _ us hl => match us, hl with | [_, _], _ => rfl
  d__law_mixed := there X G c "_law_mixed" 22 6 9 rfl rfl fun _ _ _ _ _ _ us hl => match us, hl with | [_, _], _ => rfl
  d__law_signs := there X G c "_law_signs" 23 7 10 rfl rfl fun _ _ _ _ _ _ us hl => match us, hl with | [_], _ => rfl
  d__law_word := there X G c "_law_word" 24 8 11 rfl rfl fun _ _ _ _ _ _ us hl => match us, hl with | [_, _], _ => rfl
  d__law_any_word := there X G c "_law_any_word" 25 9 12 rfl rfl fun _ _ _ _ _ _ us hl => match us, hl with | [_], _ => rfl
  d__law_more := there X G c "_law_more" 26 10 13 rfl rfl fun _ _ _ _ _ _ us hl => match us, hl with | [_, _, _], _ => rfl
  d__law_chain := there X G c "_law_chain" 27 11 14 rfl rfl fun _ _ _ _ _ _ us hl => match us, hl with | [_, _, _], _ => rfl
  d__law_words := there X G c "_law_words" 28 12 15 rfl rfl fun _ _ _ _ _ _ us hl => match us, hl with | [_, _], _ => rfl
  d__law_row := there X G c "_law_row" 29 13 16 rfl rfl fun _ _ _ _ _ _ us hl => match us, hl with | [_, _, _, _], _ => rfl
  d__law_text := there X G c "_law_text" 30 14 17 rfl rfl fun _ _ _ _ _ _ us hl => match us, hl with | [_, _, _], _ => rfl
  d__law_counts := there X G c "_law_counts" 31 15 18 rfl rfl fun _ _ _ _ _ _ us hl => match us, hl with | [_, _], _ => rfl
  d__law_words_of := there X G c "_law_words_of" 32 16 19 rfl rfl fun _ _ _ _ _ _ us hl => match us, hl with | [_], _ => rfl
  d__law_is_row := there X G c "_law_is_row" 33 17 20 rfl rfl fun _ _ _ _ _ _ us hl => match us, hl with | [_, _], _ => rfl
  d__law_number := there X G c "_law_number" 34 18 21 rfl rfl fun _ _ _ _ _ _ us hl => match us, hl with | [_, _], _ => rfl
  d__law_ahead := there X G c "_law_ahead" 35 19 22 rfl rfl fun _ _ _ _ _ _ us hl => match us, hl with | [_, _, _, _], _ => rfl
  d__law_told := there X G c "_law_told" 36 20 23 rfl rfl fun _ _ _ _ _ _ us hl => match us, hl with | [_, _, _], _ => rfl
}
theorem exs (X : K.In h) (G : h.Ns mainGlobals mg) (c : He.SaysX fa fn [] tf ex w h K) : Exs K mg := {
  c_CodeError := rfl
  g_CodeError := He.glo_ok X G (c.t.d.fact 44 (f := .glo "CodeError") rfl)
  x_CodeError := c.t.d.fact 54 (f := .exc "CodeError") rfl
  c_BadCode := rfl
  g_BadCode := He.glo_ok X G (c.t.d.fact 45 (f := .glo "BadCode") rfl)
  x_BadCode := c.t.d.fact 55 (f := .exc "BadCode") rfl
  c_Full := rfl
  g_Full := He.glo_ok X G (c.t.d.fact 46 (f := .glo "Full") rfl)
  x_Full := c.t.d.fact 56 (f := .exc "Full") rfl
  c_BadWord := rfl
  g_BadWord := He.glo_ok X G (c.t.d.fact 47 (f := .glo "BadWord") rfl)
  x_BadWord := c.t.d.fact 57 (f := .exc "BadWord") rfl
  c_Twice := rfl
  g_Twice := He.glo_ok X G (c.t.d.fact 48 (f := .glo "Twice") rfl)
  x_Twice := c.t.d.fact 58 (f := .exc "Twice") rfl
  c_NotThere := rfl
  g_NotThere := He.glo_ok X G (c.t.d.fact 49 (f := .glo "NotThere") rfl)
  x_NotThere := c.t.d.fact 59 (f := .exc "NotThere") rfl
  c_NoNumber := rfl
  g_NoNumber := He.glo_ok X G (c.t.d.fact 50 (f := .glo "NoNumber") rfl)
  x_NoNumber := c.t.d.fact 60 (f := .exc "NoNumber") rfl
  c_NoWait := rfl
  g_NoWait := He.glo_ok X G (c.t.d.fact 51 (f := .glo "NoWait") rfl)
  x_NoWait := c.t.d.fact 61 (f := .exc "NoWait") rfl
  c_BadSign := rfl
  g_BadSign := He.glo_ok X G (c.t.d.fact 52 (f := .glo "BadSign") rfl)
  x_BadSign := c.t.d.fact 62 (f := .exc "BadSign") rfl
  c_NoReading := rfl
  g_NoReading := He.glo_ok X G (c.t.d.fact 53 (f := .glo "NoReading") rfl)
  x_NoReading := c.t.d.fact 63 (f := .exc "NoReading") rfl
}
theorem bl (X : K.In h) (G : h.Ns mainGlobals mg) (c : He.SaysX fa fn [] tf ex w h K) : Bl mg := {
  mT := He.free_ok X G (c.t.d.fact 24 (f := .free "type") rfl)
  mStr := He.free_ok X G (c.t.d.fact 25 (f := .free "str") rfl)
  mL := He.free_ok X G (c.t.d.fact 26 (f := .free "len") rfl)
  mAll := He.free_ok X G (c.t.d.fact 27 (f := .free "all") rfl)
  mList := He.free_ok X G (c.t.d.fact 28 (f := .free "list") rfl)
  mSorted := He.free_ok X G (c.t.d.fact 29 (f := .free "sorted") rfl)
  mR := He.free_ok X G (c.t.d.fact 30 (f := .free "range") rfl)
  mV := He.free_ok X G (c.t.d.fact 31 (f := .free "reversed") rfl)
  mSum := He.free_ok X G (c.t.d.fact 32 (f := .free "sum") rfl)
  mIsi := He.free_ok X G (c.t.d.fact 33 (f := .free "isinstance") rfl)
  mInt := He.free_ok X G (c.t.d.fact 34 (f := .free "int") rfl)
  mBool := He.free_ok X G (c.t.d.fact 35 (f := .free "bool") rfl)
  mAny := He.free_ok X G (c.t.d.fact 36 (f := .free "any") rfl)
  mMax := He.free_ok X G (c.t.d.fact 37 (f := .free "max") rfl)
  mDict := He.free_ok X G (c.t.d.fact 38 (f := .free "dict") rfl)
  mTuple := He.free_ok X G (c.t.d.fact 39 (f := .free "tuple") rfl)
  mMin := He.free_ok X G (c.t.d.fact 40 (f := .free "min") rfl)
  mVE := He.free_ok X G (c.t.d.fact 41 (f := .free "ValueError") rfl)
  mEnum := He.free_ok X G (c.t.d.fact 42 (f := .free "enumerate") rfl)
  mZip := He.free_ok X G (c.t.d.fact 43 (f := .free "zip") rfl)
  mN := He.int_ok X G (c.t.d.fact 1 (f := .int "MOST_SIGNS" 10) rfl)
  mM := He.int_ok X G (c.t.d.fact 2 (f := .int "MOST_WORDS" 12) rfl)
}
theorem facts {l : PySem.W.OpenLaw} (X : K.In h) (G : h.Ns mainGlobals mg) (hfa : mg ("law" : Str) = some (.ref f)) (c : He.SaysX fa fn [] tf ex w h K) : LamX.LawAtS l w K CX0 5 63 "_law_script" mg f h := by
  have e := hfa.symm.trans (He.glo_ok X G (c.t.d.fact 0 (f := .glo "law") rfl))
  cases e
  obtain ⟨fd, F⟩ := c.t.d.def_ 21 (d := dd "law" 37) rfl
  obtain ⟨fdI, FI⟩ := c.t.d.def_ 0 (d := dd "is_word" 14) rfl
  have D := defs X G c
  have B := bl X G c
  have E := exs X G c
  have bI : Binds K fdI ["thing"] [] := FunD.bindsN FI fun _ _ _ _ _ _ us hl => match us, hl with | [_], _ => rfl
  have gI := He.glo_ok X G (c.t.d.fact 3 (f := .glo "is_word") rfl)
  have b := FunD.bindsA (ps := ["_law_script"]) F fun _ _ _ _ _ _ us hl => match us, hl with | [_], _ => rfl
  refine ⟨fd, [He.cT K aWord], spLaw K (He.cT K aWord).2, ?_, ?_, ?_, fun s v => b s [v] rfl, ?_, fun base _ _ TB => ?_⟩
  · intro p hp
    rw [List.mem_singleton.mp hp]
    exact c.empty aWord (List.mem_singleton.mpr rfl)
  · intro p hp
    rw [List.mem_singleton.mp hp]
    exact c.out aWord (List.mem_singleton.mpr rfl)
  · intro p hp
    rw [List.mem_singleton.mp hp]
    exact PySem.W.codeHd_of_K X (c.hd aWord (List.mem_singleton.mpr rfl))
  · intro H a ns _ _ hH hS
    exact ⟨a, ns, rfl, hS, ⟨#[], hH _ (List.mem_singleton.mpr rfl), trivial⟩, fun _ => rfl⟩
  · have T := TB _ (List.mem_singleton.mpr rfl)
    have I : HasI K mg base (He.cT K aWord).2 fdI := ⟨FI, gI, bI, ⟨T.code, T.bm, T.gP⟩⟩
    exact ok_law F D I B E c.more
end
end Ow
open PySem PySem.W PyProof.Rows
set_option maxRecDepth 100000 in
set_option maxHeartbeats 0 in
theorem PySem.Challenge.cw_onereading_k04_partings_told_holds : PySem.Challenge.rw_onereading_k04_partings_told.Holds := by
  w_on; o_law
  refine HandSHeadRun.head_any (r := OpenLaw.row PySem.Challenge.rw_onereading_k04_partings_told) (q := view (OpenLaw.row PySem.Challenge.rw_onereading_k04_partings_told).prog [37]) (H := Ow.hk) (ob := Ow.ob) (M := 20000) (loose := Ow.loose) (d := HandSHeadRun.topDef (OpenLaw.row PySem.Challenge.rw_onereading_k04_partings_told).prog 37) (kwd := []) Ow.ob_eq
    (by kernel_rfl) (fun s => by kernel_rfl) Ow.run (by kernel_rfl) (by kernel_rfl) (by kernel_rfl) (by rfl) (by first | assumption | decide +kernel) (by decide +kernel) ⟨rfl, rfl, rfl, rfl, rfl, by decide +kernel⟩ ?hw ?hc
  case hw => w_witness2
  case hc =>
    refine LamX.walk_ofTsE (l := PySem.Challenge.rw_onereading_k04_partings_told) (n := 63) (k := 5) (x := "_law_script") (CX := fun _ => L2.CX0) rfl (by decide) (by kernel_rfl) ⟨rfl, by decide, by decide⟩ ?F (fun _ _ _ _ _ z => z)
    intro w mg fa h Y G hmg0
    obtain ⟨K, KX, c⟩ := Y
    have hmg : mg ("law" : PySem.Str) = some (.ref fa) := by
      have e : (HandSHeadRun.topDef (OpenLaw.row PySem.Challenge.rw_onereading_k04_partings_told).prog 37).name = ("law" : PySem.Str) := by kernel_rfl
      rw [← e]
      exact hmg0
    exact ⟨K, KX, Ow.facts KX G hmg c⟩
