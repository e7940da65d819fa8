import PyProof.Rows.All
import Wide.All
import OpenK.AllK
import Wide.FinOn
import HandS.ForMost
import HandS.ForExc
import HandS.Defaults
import KE.GoesEnum
import HandS.SortInts
import HandS.Iter
import HandS.Walk
import HandS.DictComp
import HandS.WordsDict
import HandS.Finally
import HandS.HotCalls
import HandS.ExcIs
import HandS.ExcCtx
import HandS.CallSlots
import HandS.Codes
import HandS.StrMore
import HandS.Conv
import HandS.RevRange
import HandS.AnyAll
import HandS.Zip
import HandS.Sort
import HandS.IsInst
import HandS.Gcd
import HandS.ListEq
import KE.LtData
import KE.KMathG
import HandS.RepeatKit
import PyProof.TupleOfSeq
import PyProof.CallType
import PyProof.RangeIter
import PyProof.RulesTry
import PyProof.ZipIter
import HandS.HeadHook4
import HandS.HeadWalk
import HandS.Head0
import HandS.Head1
import HandS.Head2
import PySem.Challenge.RW_onereading_k09_whole_short_texts_tried
set_option Elab.async false
set_option linter.all false
set_option maxRecDepth 100000
set_option maxHeartbeats 4000000
/-! ### the head of a text that imports -/
noncomputable section
namespace HandSHeadRun
open PySem PySem.W PySem.Calls PyProof.Rows
/-- the opening, to its end, over trees -/
def impF (st : SharedT → Thread → Option (SharedT × Thread)) : Nat → SharedT → Thread → Option SharedT
  | 0, _, _ => none
  | m + 1, s, t => match t.atExitBegin with
    | some [] => some s
    | some (_ :: _) => none
    | none => match st s t with
      | some (s', t') => frS s' fun s' => impF st m s' t'
      | none => none
theorem impF_ok {tb : String → Option Builtin} {p : Program} {w : World} : ∀ {m : Nat} {s s' : SharedT} {t : Thread}, impF (stepT (denote tb) p w) m s t = some s' → importEnds tb p w m s.abs t = some s'.abs
  | 0, _, _, _, h => by cases h
  | m + 1, s, s', t, h => by
    unfold impF at h
    unfold importEnds
    cases ht : t.atExitBegin with
    | some l =>
      rw [ht] at h
      cases l with
      | nil => cases h; rfl
      | cons x l => cases h
    | none =>
      rw [ht] at h
      dsimp only at h ⊢
      cases hs : stepT (denote tb) p w s t with
      | none =>
        rw [hs] at h
        cases h
      | some r =>
        obtain ⟨s2, t2⟩ := r
        rw [hs] at h
        dsimp only at h
        rw [frS_eq] at h
        rw [stepT_spec hs]
        exact impF_ok h
/-- where it starts -/
def start0 (p : Program) : SharedT := ⟨.nil, 0, {}, #[], {}, 1, (start p).1.os⟩
theorem start0_abs (p : Program) : (start0 p).abs = (start p).1 := rfl
/-- a module's dict fenced, over trees -/
def fenceT (m : Str) (s : SharedT) : Option SharedT :=
  match boundIn s.abs.heap sysModules m, tameNamesOf? m with
  | some (.ref a), some row => (match getT s a with
    | some o => (match o.dict with
      | some D => (match getT s D with
        | some od => (match fenceDict? m row od, s.tree.get D with
          | some od', some _ => some ⟨s.tree.set D fun _ => od', s.n, s.life, s.gens, s.drawn, s.toks, s.os⟩
          | _, _ => none)
        | none => none)
      | none => none)
    | none => none)
  | _, _ => none
theorem fenceT_ok {m : Str} {s s' : SharedT} (h : fenceT m s = some s') : fenceModule? m s.abs = some s'.abs := by
  unfold fenceT at h
  unfold fenceModule?
  split at h
  · rename_i a row e1 e2
    rw [e1, e2]
    dsimp only
    rw [← getT_eq]
    split at h
    · rename_i o e3
      rw [e3]
      dsimp only
      split at h
      · rename_i D e4
        rw [e4]
        dsimp only
        rw [← getT_eq]
        split at h
        · rename_i od e5
          rw [e5]
          dsimp only
          split at h
          · rename_i od' x e6 e7
            rw [e6]
            cases h
            show some _ = some _
            congr 1
            show _ = (⟨absHeap (s.tree.set D fun _ => od') s.n s.life, s.gens, s.drawn, s.toks, s.os⟩ : Shared)
            rw [absHeap_set e7]
            rfl
          · cases h
        · cases h
      · cases h
    · cases h
  · cases h
def fencesT : List Str → SharedT → Option SharedT
  | [], s => some s
  | m :: r, s => match fenceT m s with
    | some s' => fencesT r s'
    | none => none
theorem fencesT_ok : ∀ {l : List Str} {s s' : SharedT}, fencesT l s = some s' → fenceAll? l s.abs = some s'.abs
  | [], s, s', h => by cases h; rfl
  | m :: r, s, s', h => by
    unfold fencesT at h
    cases e : fenceT m s with
    | none => rw [e] at h; cases h
    | some s1 =>
      rw [e] at h
      unfold fenceAll?
      rw [fenceT_ok e]
      exact fencesT_ok h
/-- the opening, the fence, the top: the states behind the fence and behind the top -/
def endI (stI st : SharedT → Thread → Option (SharedT × Thread)) (N M : Nat) (p : Program) : Option (SharedT × SharedT) :=
  match impF stI N (start0 (opening p)) (start (opening p)).2 with
  | none => none
  | some s1 => match fencesT (importedModules p.main.body) s1 with
    | none => none
    | some s2 => match s2.abs.heap.isNs mainGlobals && s2.gens.size == 0 with
      | false => none
      | true => match goF st s2.n (s2.abs.heap.nsMap mainGlobals "__annotations__") M s2 (topStub p) with
        | none => none
        | some s3 => some (s2, s3)
theorem left_imp {p q : Program} {loose : List Str} {Xt : Shared → Bool} {α : Type} {Yf : Shared → α} {Ya : World → α} {N M : Nat} (hnp : p.main.body.any namesNumpy = false)
    (run : ∀ (w : World), (endI (stepT (denote treeTable) (opening p) w) (stepT (denote treeTable) p w) N M p).map (fun s => (looksF p s.1.abs.heap s.2.abs, openSeen q loose (importedModules p.main.body) Xt true s.2.abs, Yf s.2.abs)) = some (true, openGood q loose, Ya w)) :
    LeftO p q loose Xt Yf Ya (N + M) true := fun w => by
  obtain ⟨⟨s2, s3⟩, hs, hv⟩ := Option.map_eq_some_iff.mp (run w)
  obtain ⟨l1, l2, l3⟩ : _ ∧ _ ∧ _ := by simpa only [Prod.mk.injEq] using hv
  unfold endI at hs
  cases e1 : impF (stepT (denote treeTable) (opening p) w) N (start0 (opening p)) (start (opening p)).2 with
  | none => rw [e1] at hs; cases hs
  | some s1 =>
    rw [e1] at hs
    dsimp only at hs
    cases e2 : fencesT (importedModules p.main.body) s1 with
    | none => rw [e2] at hs; cases hs
    | some s2' =>
      rw [e2] at hs
      dsimp only at hs
      cases e3 : (s2'.abs.heap.isNs mainGlobals && s2'.gens.size == 0) with
      | false => rw [e3] at hs; cases hs
      | true =>
        rw [e3] at hs
        dsimp only at hs
        cases e4 : goF (stepT (denote treeTable) p w) s2'.n (s2'.abs.heap.nsMap mainGlobals "__annotations__") M s2' (topStub p) with
        | none => rw [e4] at hs; cases hs
        | some s3' =>
          rw [e4] at hs
          cases hs
          have a := importEnds_mono M _ _ _ _ (impF_ok e1)
          have r := topRun_mono N _ _ _ _ (goF_ok e4)
          rw [Nat.add_comm M N] at r
          have hsz : s2.abs.heap.objs.size = s2.n := absHeap_size _ _ _
          have l1' : (staticsOk (importedModules p.main.body) s2.abs.heap s3.abs.heap && namesBound p s3.abs.heap && gensDone s3.abs && laidKept s2.abs.heap s3.abs.heap) = true := l1
          unfold openEnds fencedOpening
          rw [← start0_abs, a]
          show ((fenceModules? p s1.abs).bind _).map _ = _
          unfold fenceModules?
          rw [fencesT_ok e2]
          show ((if p.main.body.any namesNumpy then _ else some s2.abs).bind _).map _ = _
          rw [hnp]
          show (topFrom treeTable p w (N + M) s2.abs).map _ = _
          have t : topFrom treeTable p w (N + M) s2.abs = some s3.abs := by
            unfold topFrom
            have e3' : (s2.abs.heap.isNs mainGlobals && s2.abs.gens.size == 0) = true := e3
            rw [e3', hsz, r]
            show (match staticsOk (importedModules p.main.body) s2.abs.heap s3.abs.heap && namesBound p s3.abs.heap && gensDone s3.abs && laidKept s2.abs.heap s3.abs.heap with | true => some s3.abs | false => none) = _
            rw [l1']
          rw [t]
          exact congrArg some (Prod.ext l2 l3)
/-- the run's equation at a world, from the opening on -/
def RunImp (r : OpenRow) (q : Program) (H : Hook) (ob : SharedT → H.α) (N M : Nat) (loose : List PySem.Str) (w : World) : Prop :=
  (endI (stepQ (denQ tabQ) (opening r.prog) w) (stepQ (denQ tabQ) r.prog w) N M r.prog).map (fun s => (looksF r.prog s.1.abs.heap s.2.abs, seenQ q loose (importedModules r.prog.main.body) (fun s => xlAt q [] s && recOk r.toRowW.records s) s.2.abs, ob s.2)) = some (true, openGood q loose, H.val w)
theorem head_imp {r : OpenRow} {q : Program} {H : Hook} {ob : SharedT → H.α} {N M : Nat} {loose : List PySem.Str} {d : DefRec} {kwd : List (PySem.Str × PySem.Expr)} (ho : ∀ s : SharedT, ob s = H.obs s.abs)
    (hnp : r.prog.main.body.any namesNumpy = false) (run : ∀ w, RunImp r q H ob N M loose w)
    (hdef : defOf q r.name = some (d, kwd)) (hp : r.prog.theDef r.name = some (d.params, d.body, d.scope)) (hk : kwWritten? d.params.kwonlyargs d.params.kw_defaults = some kwd)
    (hwr : (!r.writes || r.records.isEmpty) = true) (k1 : r.wellSaid = true) (ok : (chainsOk q && opensWell r.prog && (frees r.toRowW && r.within.isEmpty)) = true) (hb : r.prog.bare) (hw : r.toRowW.promised)
    (call : WalkO q loose (XL q []) H.says r.toRowW d kwd fun f vs => PySem.call f vs) : r.Holds := by
  have left : LeftO r.prog q loose (fun s => xlAt q [] s && recOk r.toRowW.records s) H.obs H.val (N + M) true :=
    left_imp hnp fun w => by
      have z := run w
      have eo : ob = fun s => H.obs s.abs := funext ho
      unfold RunImp at z
      rw [eo, ← denQ_eq, ← tabQ_eq, ← stepQ_eq] at z
      simp only [seenQ_eq]
      exact z
  exact holds_open (r := r) (q := q) (loose := loose) (XP := XL q []) (YP := H.says) (d := d) (kwd := kwd) left H.of H.keeps (fun s z => xl_of s (Bool.and_eq_true_iff.mp z).1) XL.keeps hdef hp hk (fun s z => recFacts_of (Bool.and_eq_true_iff.mp z).2) hwr k1 ok hb hw call
end HandSHeadRun
end
/-! ### binary heaps: the mathematics -/
namespace HQ
section
variable {α : Type} {lt : α → α → Bool}
/-- an order in which no two are less than each other, and what isn't less stays so -/
structure Ord (M : α → Prop) (lt : α → α → Bool) : Prop where
  asym : ∀ x y, M x → M y → lt x y = true → lt y x = false
  trans : ∀ x y z, M x → M y → M z → lt x y = true → lt y z = true → lt x z = true
  ntrans : ∀ x y z, M x → M y → M z → lt x y = false → lt y z = false → lt x z = false
def par (i : Nat) : Nat := (i - 1) / 2
theorem par_lt {i : Nat} (h : 0 < i) : par i < i := by unfold par; omega
def sw (f : Nat → α) (i j k : Nat) : α := if k = i then f j else if k = j then f i else f k
def IsHp (lt : α → α → Bool) (f : Nat → α) (n : Nat) : Prop := ∀ i, 0 < i → i < n → lt (f i) (f (par i)) = false
def HB (lt : α → α → Bool) (f : Nat → α) (n pos : Nat) : Prop :=
  (∀ i, 0 < i → i < n → i ≠ pos → par i ≠ pos → lt (f i) (f (par i)) = false) ∧ (0 < pos → ∀ i, 0 < i → i < n → par i = pos → lt (f i) (f (par pos)) = false)
def HU (lt : α → α → Bool) (f : Nat → α) (n pos : Nat) : Prop := HB lt f n pos ∧ ∀ i, 0 < i → i < n → par i = pos → lt (f i) (f pos) = false
theorem sw_l {f : Nat → α} {i j : Nat} : sw f i j i = f j := if_pos rfl
theorem sw_r {f : Nat → α} {i j : Nat} : sw f i j j = f i := by
  unfold sw
  by_cases h : j = i
  · rw [if_pos h, h]
  · rw [if_neg h, if_pos rfl]
theorem sw_o {f : Nat → α} {i j k : Nat} (h1 : k ≠ i) (h2 : k ≠ j) : sw f i j k = f k := by
  unfold sw
  rw [if_neg h1, if_neg h2]
/-- one step down: the lesser child c comes up -/
theorem HB.down {f : Nat → α} {n pos c : Nat} (h : HB lt f n pos) (hc : par c = pos) (hc0 : 0 < c) (hcn : c < n) (hd : ∀ d, 0 < d → d < n → par d = pos → d ≠ c → lt (f d) (f c) = false) : HB lt (sw f c pos) n c := by
  have hcp : pos < c := hc ▸ par_lt hc0
  refine ⟨fun i h0 hn n1 n2 => ?_, fun _ i h0 hn hp => ?_⟩
  · have hpi := par_lt h0
    by_cases e : i = pos
    · subst e
      rw [sw_r, sw_o (by omega) (by omega)]
      exact h.2 h0 c hc0 hcn hc
    · by_cases e2 : par i = pos
      · rw [e2, sw_r, sw_o n1 e]
        exact hd i h0 hn e2 n1
      · rw [sw_o n1 e, sw_o n2 e2]
        exact h.1 i h0 hn e e2
  · have hpi := par_lt h0
    rw [hc, sw_r, sw_o (by omega) (by omega)]
    have := h.1 i h0 hn (by omega) (by omega)
    rw [hp] at this
    exact this
theorem HB.leaf {f : Nat → α} {n pos : Nat} (h : HB lt f n pos) (hl : n / 2 ≤ pos) : HU lt f n pos :=
  ⟨h, fun i h0 hn hp => by unfold par at hp; omega⟩
theorem HU.up {M : α → Prop} {f : Nat → α} {n pos : Nat} (O : Ord M lt) (hM : ∀ i, i < n → M (f i)) (h : HU lt f n pos) (hp0 : 0 < pos) (hpn : pos < n) (hl : lt (f pos) (f (par pos)) = true) : HU lt (sw f (par pos) pos) n (par pos) := by
  have hpp := par_lt hp0
  obtain ⟨⟨h1, h2⟩, h3⟩ := h
  refine ⟨⟨fun i h0 hn n1 n2 => ?_, fun hq i h0 hn hp => ?_⟩, fun i h0 hn hp => ?_⟩
  · have hpi := par_lt h0
    have e : i ≠ pos := fun z => n2 (by rw [z])
    by_cases e2 : par i = pos
    · rw [e2, sw_r, sw_o n1 e]
      exact h2 hp0 i h0 hn e2
    · rw [sw_o n1 e, sw_o n2 e2]
      exact h1 i h0 hn e e2
  · have hpq := par_lt hq
    rw [sw_o (k := par (par pos)) (by omega) (by omega)]
    have a1 := h1 (par pos) hq (by omega) (by omega) (by omega)
    by_cases e : i = pos
    · rw [e, sw_r]
      exact a1
    · have hpi := par_lt h0
      rw [sw_o (by omega) e]
      have a2 := h1 i h0 hn e (by omega)
      rw [hp] at a2
      exact O.ntrans _ _ _ (hM _ hn) (hM _ (by omega)) (hM _ (by omega)) a2 a1
  · rw [sw_l]
    by_cases e : i = pos
    · rw [e, sw_r]
      exact O.asym _ _ (hM _ hpn) (hM _ (by omega)) hl
    · have hpi := par_lt h0
      rw [sw_o (by omega) e]
      have a2 := h1 i h0 hn e (by omega)
      rw [hp] at a2
      cases z : lt (f i) (f pos) with
      | false => rfl
      | true =>
        have := O.trans _ _ _ (hM _ hn) (hM _ hpn) (hM _ (by omega)) z hl
        rw [this] at a2
        cases a2
theorem HU.fin {f : Nat → α} {n pos : Nat} (h : HU lt f n pos) (hl : pos = 0 ∨ lt (f pos) (f (par pos)) = false) : IsHp lt f n := fun i h0 hn => by
  by_cases e : i = pos
  · subst e
    rcases hl with z | z
    · omega
    · exact z
  · by_cases e2 : par i = pos
    · rw [e2]
      exact h.2 i h0 hn e2
    · exact h.1.1 i h0 hn e e2
theorem IsHp.push {f g : Nat → α} {n : Nat} (h : IsHp lt f n) (he : ∀ i, i < n → g i = f i) : HU lt g (n + 1) n := by
  refine ⟨⟨fun i h0 hn n1 n2 => ?_, fun hq i h0 hn hp => ?_⟩, fun i h0 hn hp => ?_⟩
  · have := par_lt h0
    rw [he i (by omega), he (par i) (by omega)]
    exact h i h0 (by omega)
  · have := par_lt h0
    omega
  · have := par_lt h0
    omega
theorem IsHp.pop {f g : Nat → α} {n m : Nat} (h : IsHp lt f n) (hm : m ≤ n) (he : ∀ i, 0 < i → i < m → g i = f i) : HB lt g m 0 := by
  refine ⟨fun i h0 hn n1 n2 => ?_, fun hq => absurd hq (Nat.lt_irrefl 0)⟩
  have := par_lt h0
  rw [he i h0 hn, he (par i) (by omega) (by omega)]
  exact h i h0 (by omega)
theorem IsHp.min {M : α → Prop} {f : Nat → α} {n : Nat} (O : Ord M lt) (hM : ∀ i, i < n → M (f i)) (h : IsHp lt f n) : ∀ i, 0 < i → i < n → lt (f i) (f 0) = false := by
  intro i
  induction i using Nat.strongRecOn with
  | _ i ih =>
    intro h0 hn
    have hp := par_lt h0
    have a := h i h0 hn
    by_cases e : par i = 0
    · rw [e] at a
      exact a
    · exact O.ntrans _ _ _ (hM _ hn) (hM _ (by omega)) (hM _ (by omega)) a (ih _ hp (by omega) (by omega))
end
end HQ

namespace HQ
open PySem PySem.W PySem.Calls PySem.SeqAt
open AutoSeq1 (wpAny_loadPart')
open MeetsSeq MeetsSeq2 MeetsSeq3 SeqRoads2
theorem entry_push : entryFor table "_heapq.heappush" = some Builtin.«_heapq.heappush» := entryFor_of_tree (by kernel_rfl)
theorem entry_pop : entryFor table "_heapq.heappop" = some Builtin.«_heapq.heappop» := entryFor_of_tree (by kernel_rfl)
theorem entry_sift : entryFor table "_heapq.heapify.sift" = some Builtin.«_heapq.heapify.sift» := entryFor_of_tree (by kernel_rfl)
theorem kind_push : builtinKind "_heapq.heappush" = none := by kernel_rfl
theorem kind_pop : builtinKind "_heapq.heappop" = none := by kernel_rfl
theorem plain_push : plainId "_heapq.heappush" = true := by decide +kernel
theorem plain_pop : plainId "_heapq.heappop" = true := by decide +kernel
theorem plain_sift : plainId "_heapq.heapify.sift" = true := by decide +kernel
theorem args_push (a b : Value) : argsOk "_heapq.heappush" ⟨[a, b], []⟩ := by unfold argsOk; kernel_rfl
theorem args_pop (a : Value) : argsOk "_heapq.heappop" ⟨[a], []⟩ := by unfold argsOk; kernel_rfl
def vat (ys : Array Value) (i : Nat) : Value := ys.getD i .none
theorem vat_get {ys : Array Value} {i : Nat} (h : i < ys.size) : ys[i]? = some (vat ys i) := by
  unfold vat
  simp [h]
theorem vat_mem {ys : Array Value} {i : Nat} (h : i < ys.size) : vat ys i ∈ ys := by
  unfold vat
  simp [h]
/-- two items change places -/
def swA (ys : Array Value) (i j : Nat) : Array Value := (ys.setIfInBounds i (vat ys j)).setIfInBounds j (vat ys i)
theorem swA_size {ys : Array Value} {i j : Nat} : (swA ys i j).size = ys.size := by simp [swA]
theorem swA_vat {ys : Array Value} {i j : Nat} (hi : i < ys.size) (hj : j < ys.size) : vat (swA ys i j) = sw (vat ys) i j := by
  funext k
  unfold swA sw
  unfold vat
  by_cases hk : k < ys.size
  · simp only [Array.getD_eq_getD_getElem?, Array.getElem?_setIfInBounds, Array.size_setIfInBounds]
    by_cases e1 : j = k
    · subst e1
      by_cases e2 : j = i
      · subst e2
        simp [hi]
      · simp [hi, hj, e2]
    · by_cases e2 : i = k
      · subst e2
        simp [hi, hj, e1]
      · simp [e1, e2, Ne.symm e1, Ne.symm e2]
  · simp only [Array.getD_eq_getD_getElem?, Array.getElem?_setIfInBounds, Array.size_setIfInBounds]
    have e1 : ¬ j = k := by omega
    have e2 : ¬ i = k := by omega
    simp [e1, e2, Ne.symm e1, Ne.symm e2]
theorem swA_perm {ys : Array Value} {i j : Nat} (hi : i < ys.size) (hj : j < ys.size) : (swA ys i j).toList.Perm ys.toList := by
  have e : swA ys i j = ys.swap i j hi hj := by
    unfold swA vat
    apply Array.ext_getElem?
    intro k
    rw [Array.getElem?_swap]
    simp only [Array.getElem?_setIfInBounds, Array.getD_eq_getD_getElem?, Array.size_setIfInBounds]
    by_cases e1 : j = k
    · subst e1
      simp [hi, hj]
    · by_cases e2 : i = k
      · subst e2
        simp [hi, hj, e1]
      · simp [e1, e2]
  rw [e]
  exact (Array.swap_perm hi hj).toList
theorem swA_mem {ys : Array Value} {i j : Nat} (hi : i < ys.size) (hj : j < ys.size) {x : Value} (hx : x ∈ swA ys i j) : x ∈ ys := Array.mem_toList_iff.mp ((swA_perm hi hj).mem_iff.mp (Array.mem_toList_iff.mpr hx))
theorem swA_line {ys : Array Value} {n i j : Nat} {x y : Value} (hz : ys.size ≤ sizeLine) : (Obj.mapSeq (fun xs => (xs.setIfInBounds i x).setIfInBounds j y) { cls := .type "list", data := .seq ys n }).data.pastItsLine = none :=
  pastItsLine_seq (by rw [Array.size_setIfInBounds, Array.size_setIfInBounds]; omega)
/-- a list's object and its comparisons, as they stay while the list is written -/
structure Lists (A : Around) (a : Addr) (lt : Value → Value → Bool) (M : Value → Prop) (J : Array Value → Shared → Prop) : Prop where
  at_ : ∀ ys s, J ys s → ∃ n, s.heap.get? a = some { cls := .type "list", data := .seq ys n }
  size : ∀ ys s, J ys s → ys.size ≤ sizeLine
  mem : ∀ ys s x, J ys s → x ∈ ys → M x
  wr : ∀ ys s (f : Array Value → Array Value), J ys s → (∀ x ∈ f ys, M x) → (f ys).size ≤ sizeLine → J (f ys) { s with heap := s.heap.update a (Obj.mapSeq f) }
  cmp : ∀ ys s x y, J ys s → M x → M y → RcLt A s x y (lt x y)
abbrev args (a : Addr) (down : Bool) (pos : Nat) (res : Value) : Args := ⟨[.ref a, .bool false, .bool down, rawInt pos, rawInt 0, res, rawInt (-1)], []⟩
abbrev After (prog : Program) (w : World) (A : Around) (R : Result → Shared → Prop) (t : Sem Fin) (s : Shared) : Prop :=
  wpAny (model prog w) A.in1 t (fun fin s' => match fin with | .done f => R (.ok f) s' | .again c' => c'.quiet = true ∧ codeAny (model prog w) A c' R s') (fun e s' => R (.error e) s') s
section
variable {prog : Program} {w : World} {A : Around} {a : Addr} {lt : Value → Value → Bool} {J : Array Value → Shared → Prop} {M : Value → Prop} {R : Result → Shared → Prop}
theorem up_ok (L : Lists A.in1 a lt M J) (O : Ord M lt) (res : Value) : ∀ (pos : Nat) (ys : Array Value) (s : Shared), J ys s → pos < ys.size → HU lt (vat ys) ys.size pos →
    (∀ zs s', J zs s' → zs.toList.Perm ys.toList → IsHp lt (vat zs) zs.size → R (.ok (.ret res)) s') → After prog w A R (Builtin.«_heapq.heapify.sift» (args a false pos res)) s := by
  intro pos
  induction pos using Nat.strongRecOn with
  | _ pos ih =>
    intro ys s hJ hp hU fin
    have hM := fun x hx => L.mem ys s x hJ hx
    obtain ⟨n, e⟩ := L.at_ _ _ hJ
    delta After
    have hz := L.size _ _ hJ
    wp_walk using wpAny_loadPart' e
    by_cases h0 : pos = 0
    · refine wpAny_ite_false (by subst h0; rfl) ?_
      wp_walk
      exact fin ys _ hJ (List.Perm.refl _) (hU.fin (.inl h0))
    · refine wpAny_ite_true (by show decide (((pos : Nat) : Int).toNat > (0 : Int).toNat) = true; exact decide_eq_true (by show 0 < pos; omega)) ?_
      have hpar : par pos < pos := par_lt (by omega)
      have hq : par pos < ys.size := by omega
      have g1 : ys[((pos : Nat) : Int).toNat]? = some (vat ys pos) := vat_get hp
      have g2 : ys[(((pos : Nat) : Int).toNat - 1) / 2]? = some (vat ys (par pos)) := vat_get hq
      wp_walk using wpAny_loadPart' e
      rw [g1]
      wp_walk using wpAny_loadPart' e
      rw [g2]
      have hc := fun E Q => L.cmp _ _ _ _ hJ (hM _ (vat_mem hp)) (hM _ (vat_mem hq)) prog w E Q
      wp_walk using wpAny_loadPart' e, hc
      cases hl : lt (vat ys pos) (vat ys (par pos)) with
      | false =>
        wp_walk using wpAny_loadPart' e
        exact fin ys _ hJ (List.Perm.refl _) (hU.fin (.inr hl))
      | true =>
        wp_walk using wpAny_loadPart' e
        rw [g2]
        wp_walk using wpAny_loadPart' e
        rw [g1]
        wp_walk using wpAny_loadPart' e
        rw [swA_line hz]
        have hJ2 := L.wr _ _ (fun xs => (xs.setIfInBounds ((((pos : Nat) : Int).toNat - 1) / 2) (vat ys pos)).setIfInBounds ((pos : Nat) : Int).toNat (vat ys (par pos))) hJ (fun x hx => hM x (swA_mem (i := par pos) (j := pos) hq hp hx)) (by rw [Array.size_setIfInBounds, Array.size_setIfInBounds]; exact hz)
        wp_walk
        refine ⟨plainId_quiet plain_sift _, codeAny_builtin entry_sift ?_⟩
        rw [Around.under_plainId plain_sift _]
        refine ih (par pos) hpar (swA ys (par pos) pos) _ hJ2 (by rw [swA_size]; exact hq) ?_ fun zs s' j p h => fin zs s' j (p.trans (swA_perm hq hp)) h
        rw [swA_size, swA_vat hq hp]
        exact hU.up O (fun i hi => hM _ (vat_mem hi)) (by omega) hp hl
theorem down_ok (L : Lists A.in1 a lt M J) (O : Ord M lt) (res : Value) : ∀ (k pos : Nat) (ys : Array Value) (s : Shared), k = ys.size - pos → J ys s → pos < ys.size → HB lt (vat ys) ys.size pos →
    (∀ zs s', J zs s' → zs.toList.Perm ys.toList → IsHp lt (vat zs) zs.size → R (.ok (.ret res)) s') → After prog w A R (Builtin.«_heapq.heapify.sift» (args a true pos res)) s := by
  intro k
  induction k using Nat.strongRecOn with
  | _ k ih =>
    intro pos ys s hk hJ hp hB fin
    have hM := fun x hx => L.mem ys s x hJ hx
    obtain ⟨n, e⟩ := L.at_ _ _ hJ
    delta After
    have hz := L.size _ _ hJ
    have toSw : ∀ c, par c = pos → 0 < c → c < ys.size → (∀ d, 0 < d → d < ys.size → par d = pos → d ≠ c → lt (vat ys d) (vat ys c) = false) → ∀ s', J (swA ys c pos) s' →
        After prog w A R (Builtin.«_heapq.heapify.sift» (args a true c res)) s' := fun c hc hc0 hcn hd s' hJ2 => by
      have hcp : pos < c := hc ▸ par_lt hc0
      refine ih (ys.size - c) (by omega) c (swA ys c pos) s' (by rw [swA_size]) hJ2 (by rw [swA_size]; exact hcn) ?_ fun zs s' j p h => fin zs s' j (p.trans (swA_perm hcn hp)) h
      rw [swA_size, swA_vat hcn hp]
      exact hB.down hc hc0 hcn hd
    wp_walk using wpAny_loadPart' e
    by_cases h0 : pos < ys.size / 2
    · refine wpAny_ite_true (by show decide (((pos : Nat) : Int).toNat < ys.size / 2) = true; exact decide_eq_true h0) ?_
      wp_walk using wpAny_loadPart' e
      have g0 : ys[((pos : Nat) : Int).toNat]? = some (vat ys pos) := vat_get hp
      have hl1 : 2 * pos + 1 < ys.size := by omega
      have g1 : ys[2 * ((pos : Nat) : Int).toNat + 1]? = some (vat ys (2 * pos + 1)) := vat_get hl1
      by_cases h2 : 2 * pos + 1 + 1 < ys.size
      · have g2 : ys[2 * ((pos : Nat) : Int).toNat + 1 + 1]? = some (vat ys (2 * pos + 1 + 1)) := vat_get h2
        refine wpAny_ite_true (by show decide (2 * ((pos : Nat) : Int).toNat + 1 + 1 < ys.size) = true; exact decide_eq_true h2) ?_
        wp_walk using wpAny_loadPart' e
        rw [g1]
        wp_walk using wpAny_loadPart' e
        rw [g2]
        have hc := fun E Q => L.cmp _ _ _ _ hJ (hM _ (vat_mem hl1)) (hM _ (vat_mem h2)) prog w E Q
        wp_walk using wpAny_loadPart' e, hc
        have m1 := hM _ (vat_mem hl1)
        have m2 := hM _ (vat_mem h2)
        cases hl : lt (vat ys (2 * pos + 1)) (vat ys (2 * pos + 1 + 1)) with
        | true =>
          wp_walk using wpAny_loadPart' e
          rw [g1]
          wp_walk using wpAny_loadPart' e
          rw [g0]
          wp_walk using wpAny_loadPart' e
          rw [swA_line hz]
          have hJ2 := L.wr _ _ (fun xs => (xs.setIfInBounds (2 * ((pos : Nat) : Int).toNat + 1) (vat ys pos)).setIfInBounds ((pos : Nat) : Int).toNat (vat ys (2 * pos + 1))) hJ (fun x hx => hM x (swA_mem (i := 2 * pos + 1) (j := pos) hl1 hp hx)) (by rw [Array.size_setIfInBounds, Array.size_setIfInBounds]; exact hz)
          wp_walk
          refine ⟨plainId_quiet plain_sift _, codeAny_builtin entry_sift ?_⟩
          rw [Around.under_plainId plain_sift _]
          refine toSw (2 * pos + 1) (by unfold par; omega) (by omega) hl1 (fun d d0 dn dp dc => by
                have e3 : d = 2 * pos + 1 + 1 := by (unfold par at dp; omega)
                rw [e3]
                exact O.asym _ _ m1 m2 hl) _ hJ2
        | false =>
          wp_walk using wpAny_loadPart' e
          rw [g2]
          wp_walk using wpAny_loadPart' e
          rw [g0]
          wp_walk using wpAny_loadPart' e
          rw [swA_line hz]
          have hJ2 := L.wr _ _ (fun xs => (xs.setIfInBounds (2 * ((pos : Nat) : Int).toNat + 1 + 1) (vat ys pos)).setIfInBounds ((pos : Nat) : Int).toNat (vat ys (2 * pos + 1 + 1))) hJ (fun x hx => hM x (swA_mem (i := 2 * pos + 1 + 1) (j := pos) h2 hp hx)) (by rw [Array.size_setIfInBounds, Array.size_setIfInBounds]; exact hz)
          wp_walk
          refine ⟨plainId_quiet plain_sift _, codeAny_builtin entry_sift ?_⟩
          rw [Around.under_plainId plain_sift _]
          refine toSw (2 * pos + 1 + 1) (by unfold par; omega) (by omega) h2 (fun d d0 dn dp dc => by
                have e3 : d = 2 * pos + 1 := by (unfold par at dp; omega)
                rw [e3]
                exact hl) _ hJ2
      · refine wpAny_ite_false (by show decide (2 * ((pos : Nat) : Int).toNat + 1 + 1 < ys.size) = false; exact decide_eq_false h2) ?_
        wp_walk using wpAny_loadPart' e
        rw [g1]
        wp_walk using wpAny_loadPart' e
        rw [g0]
        wp_walk using wpAny_loadPart' e
        rw [swA_line hz]
        have hJ2 := L.wr _ _ (fun xs => (xs.setIfInBounds (2 * ((pos : Nat) : Int).toNat + 1) (vat ys pos)).setIfInBounds ((pos : Nat) : Int).toNat (vat ys (2 * pos + 1))) hJ (fun x hx => hM x (swA_mem (i := 2 * pos + 1) (j := pos) hl1 hp hx)) (by rw [Array.size_setIfInBounds, Array.size_setIfInBounds]; exact hz)
        wp_walk
        refine ⟨plainId_quiet plain_sift _, codeAny_builtin entry_sift ?_⟩
        rw [Around.under_plainId plain_sift _]
        refine toSw (2 * pos + 1) (by unfold par; omega) (by omega) hl1 (fun d d0 dn dp dc => by unfold par at dp; omega) _ hJ2
    · refine wpAny_ite_false (by show decide (((pos : Nat) : Int).toNat < ys.size / 2) = false; exact decide_eq_false h0) ?_
      wp_walk using wpAny_loadPart' e
      refine ⟨plainId_quiet plain_sift _, codeAny_builtin entry_sift ?_⟩
      rw [Around.under_plainId plain_sift _]
      exact up_ok L O res pos ys s hJ hp (hB.leaf (by omega)) fin
end
end HQ
namespace HQ
open PySem PySem.W PySem.Calls PySem.SeqAt
open AutoSeq1 (wpAny_loadPart')
open MeetsSeq MeetsSeq2 MeetsSeq3 SeqRoads2
section
variable {prog : Program} {w : World} {A : Around} {a : Addr} {lt : Value → Value → Bool} {J : Array Value → Shared → Prop} {M : Value → Prop} {R : Result → Shared → Prop}
theorem vat_push {ys : Array Value} {v : Value} {i : Nat} (h : i < ys.size) : vat (ys.push v) i = vat ys i := by
  unfold vat
  simp [Array.getElem?_push, Nat.ne_of_lt h]
theorem seq_line {zs : Array Value} {n : Nat} (hz : zs.size ≤ sizeLine) : ({ cls := .type "list", data := .seq zs n } : Obj).data.pastItsLine = none := pastItsLine_seq (by omega)
theorem push_ok (L : Lists A.in1 a lt M J) (O : Ord M lt) {v : Value} {ys : Array Value} {s : Shared} (hJ : J ys s) (hv : M v) (hz : ys.size < sizeLine) (hh : IsHp lt (vat ys) ys.size)
    (fin : ∀ zs s', J zs s' → zs.toList.Perm (v :: ys.toList) → IsHp lt (vat zs) zs.size → R (.ok (.ret .none)) s') : After prog w A R (Builtin.«_heapq.heappush» ⟨[.ref a, v], []⟩) s := by
  obtain ⟨n, e⟩ := L.at_ _ _ hJ
  delta After
  have f3 := AutoSeq1.sub_list_list
  have hz1 : ys.size ≤ sizeLine := by omega
  have hJ2 := L.wr _ _ (fun xs => xs.push v) hJ (fun x hx => (Array.mem_push.mp hx).elim (fun q => L.mem _ _ _ hJ q) fun q => q ▸ hv) (by rw [Array.size_push]; omega)
  obtain ⟨n2, e2⟩ := L.at_ _ _ hJ2
  have hz2 := L.size _ _ hJ2
  wp_walk using wpAny_loadPart' e, wpAny_loadPart' e2
  rw [seq_line hz2]
  wp_walk using wpAny_loadPart' e2
  refine ⟨plainId_quiet plain_sift _, codeAny_builtin entry_sift ?_⟩
  rw [Around.under_plainId plain_sift _]
  have es : (ys.push v).size - 1 = ys.size := by rw [Array.size_push]; rfl
  rw [es]
  refine up_ok L O .none ys.size (ys.push v) _ hJ2 (by rw [Array.size_push]; omega) ?_ fun zs s' j p h => fin zs s' j (p.trans ?_) h
  · rw [Array.size_push]
    exact hh.push fun i hi => vat_push hi
  · rw [Array.toList_push]
    exact List.perm_append_singleton _ _
theorem vat_pop {ys : Array Value} {i : Nat} (h : i < ys.size - 1) : vat ys.pop i = vat ys i := by
  unfold vat
  have h2 : i < ys.size := by omega
  simp [Array.getElem?_pop, h, h2]
theorem pop_shape {ys : Array Value} (h : 2 ≤ ys.size) : ∃ x r y, ys = (x :: (r ++ [y])).toArray := by
  obtain ⟨l⟩ := ys
  match l, h with
  | x :: z :: r, _ => exact ⟨x, (z :: r).dropLast, (z :: r).getLast (by simp), by rw [List.dropLast_concat_getLast]⟩
theorem pop_swap {ys : Array Value} (h : 2 ≤ ys.size) : (vat ys 0 :: (ys.pop.setIfInBounds 0 (vat ys (ys.size - 1))).toList).Perm ys.toList := by
  obtain ⟨x, r, y, rfl⟩ := pop_shape h
  have e1 : vat (x :: (r ++ [y])).toArray 0 = x := rfl
  have e2 : vat (x :: (r ++ [y])).toArray ((x :: (r ++ [y])).toArray.size - 1) = y := by
    unfold vat
    simp
  rw [e1, e2]
  have e3 : ((x :: (r ++ [y])).toArray.pop.setIfInBounds 0 y).toList = y :: r := by
    rw [Array.toList_setIfInBounds, Array.toList_pop]
    show (x :: (r ++ [y])).dropLast.set 0 y = y :: r
    rw [← List.cons_append, List.dropLast_concat]
    rfl
  rw [e3]
  refine List.Perm.cons _ ?_
  exact (List.perm_append_singleton y r).symm
theorem pop_ok (L : Lists A.in1 a lt M J) (O : Ord M lt) {ys : Array Value} {s : Shared} (hJ : J ys s) (hz : 0 < ys.size) (hh : IsHp lt (vat ys) ys.size)
    (fin : ∀ v zs s', M v → J zs s' → (v :: zs.toList).Perm ys.toList → IsHp lt (vat zs) zs.size → (∀ x ∈ zs, lt x v = false) → R (.ok (.ret v)) s') : After prog w A R (Builtin.«_heapq.heappop» ⟨[.ref a], []⟩) s := by
  obtain ⟨n, e⟩ := L.at_ _ _ hJ
  delta After
  have f3 := AutoSeq1.sub_list_list
  have hz1 := L.size _ _ hJ
  have hM := fun x hx => L.mem ys s x hJ hx
  have pm : ∀ x ∈ ys.pop, x ∈ ys := fun x hx => by
    have := Array.mem_toList_iff.mpr hx
    rw [Array.toList_pop] at this
    exact Array.mem_toList_iff.mp (List.dropLast_subset _ this)
  have hJ2 := L.wr _ _ (fun xs => xs.pop) hJ (fun x hx => hM x (pm x hx)) (by rw [Array.size_pop]; omega)
  obtain ⟨n2, e2⟩ := L.at_ _ _ hJ2
  have hz2 := L.size _ _ hJ2
  have eb : ys.back? = some (vat ys (ys.size - 1)) := by
    rw [Array.back?_eq_getElem?]
    exact vat_get (by omega)
  wp_walk using wpAny_loadPart' e, wpAny_loadPart' e2
  rw [eb]
  wp_walk using wpAny_loadPart' e, wpAny_loadPart' e2
  rw [seq_line hz2]
  wp_walk using wpAny_loadPart' e2
  by_cases h1 : ys.size = 1
  · refine wpAny_ite_true (decide_eq_true (by rw [h1]; rfl)) ?_
    wp_walk
    have ep : ys.pop.size = 0 := by rw [Array.size_pop, h1]
    have ep2 : ys.pop = #[] := Array.eq_empty_of_size_eq_zero ep
    refine fin (vat ys (ys.size - 1)) ys.pop _ (hM _ (vat_mem (by omega))) hJ2 ?_ (fun i h0 hi => by rw [ep] at hi; omega) (fun x hx => by rw [ep2] at hx; exact absurd hx (Array.not_mem_empty x))
    obtain ⟨l⟩ := ys
    match l, h1 with
    | [x], _ => exact List.Perm.refl _
  · refine wpAny_ite_false (decide_eq_false (by rw [beq_eq_false_iff_ne.mpr h1]; exact Bool.false_ne_true)) ?_
    have g0 : ys[0]? = some (vat ys 0) := vat_get hz
    have h2 : 2 ≤ ys.size := by omega
    have hsub : ∀ x ∈ ys.pop.setIfInBounds 0 (vat ys (ys.size - 1)), x ∈ ys := fun x hx => Array.mem_toList_iff.mp ((pop_swap h2).mem_iff.mp (List.mem_cons_of_mem _ (Array.mem_toList_iff.mpr hx)))
    have hJ3 := L.wr _ _ (fun xs => xs.setIfInBounds 0 (vat ys (ys.size - 1))) hJ2 (fun x hx => hM x (hsub x hx)) (by rw [Array.size_setIfInBounds]; exact hz2)
    obtain ⟨n3, e3⟩ := L.at_ _ _ hJ3
    have hz3 := L.size _ _ hJ3
    wp_walk using wpAny_loadPart' e2
    rw [g0]
    wp_walk using wpAny_loadPart' e2, wpAny_loadPart' e3
    rw [seq_line hz3]
    wp_walk using wpAny_loadPart' e3
    refine ⟨plainId_quiet plain_sift _, codeAny_builtin entry_sift ?_⟩
    rw [Around.under_plainId plain_sift _]
    have es : (ys.pop.setIfInBounds 0 (vat ys (ys.size - 1))).size = ys.size - 1 := by rw [Array.size_setIfInBounds, Array.size_pop]
    refine down_ok L O (vat ys 0) _ 0 _ _ rfl hJ3 (by rw [es]; omega) ?_ fun zs s' j p h => ?_
    · rw [es]
      refine hh.pop (m := ys.size - 1) (by omega) fun i h0 hi => ?_
      rw [← vat_pop hi]
      unfold vat
      simp only [Array.getD_eq_getD_getElem?, Array.getElem?_setIfInBounds]
      rw [if_neg (by omega)]
    · have pz : (vat ys 0 :: zs.toList).Perm ys.toList := (p.cons _).trans (pop_swap h2)
      refine fin (vat ys 0) zs s' (hM _ (vat_mem hz)) j pz h fun x hx => ?_
      have hx2 : x ∈ ys := Array.mem_toList_iff.mp (pz.mem_iff.mp (List.mem_cons_of_mem _ (Array.mem_toList_iff.mpr hx)))
      obtain ⟨i, hi, ei⟩ := Array.mem_iff_getElem.mp hx2
      have ev : vat ys i = x := by
        unfold vat
        simp [hi, ei]
      rw [← ev]
      by_cases h0 : i = 0
      · subst h0
        cases z : lt (vat ys 0) (vat ys 0) with
        | false => rfl
        | true => exact z.symm.trans (O.asym _ _ (hM _ (vat_mem hz)) (hM _ (vat_mem hz)) z)
      · exact hh.min O (fun i hi => hM _ (vat_mem hi)) i (by omega) hi
end
end HQ
/-! ### heappush, heappop over the layer -/
namespace HQ
open PySem PySem.Spec PyProof.Rows L2
def kLt (a b : PyData) : Bool := PySem.W.dataLt a b
theorem ord_keys (κ : Addr → PyData) (M : Value → Prop) (hM : ∀ x, M x → ∃ t, x = .ref t) : Ord M (fun x y => match x, y with | .ref t, .ref u => PySem.W.dataLt (κ t) (κ u) | _, _ => false) := by
  refine ⟨fun x y hx hy h => ?_, fun x y z hx hy hz h1 h2 => ?_, fun x y z hx hy hz h1 h2 => ?_⟩
  · obtain ⟨t, rfl⟩ := hM x hx
    obtain ⟨u, rfl⟩ := hM y hy
    have h' : PySem.W.dataLt (κ t) (κ u) = true := h
    show PySem.W.dataLt (κ u) (κ t) = false
    cases q : PySem.W.dataLt (κ u) (κ t) with
    | false => rfl
    | true =>
      have := PyProof.Rows.lex_trans _ _ _ h' q
      rw [PyProof.Rows.lex_irrefl] at this
      cases this
  · obtain ⟨t, rfl⟩ := hM x hx
    obtain ⟨u, rfl⟩ := hM y hy
    obtain ⟨v, rfl⟩ := hM z hz
    exact PyProof.Rows.lex_trans _ _ _ h1 h2
  · obtain ⟨t, rfl⟩ := hM x hx
    obtain ⟨u, rfl⟩ := hM y hy
    obtain ⟨v, rfl⟩ := hM z hz
    show PySem.W.dataLt (κ t) (κ v) = false
    cases q : PySem.W.dataLt (κ t) (κ v) with
    | false => rfl
    | true =>
      have h1' : PySem.W.dataLt (κ t) (κ u) = false := h1
      have h2' : PySem.W.dataLt (κ u) (κ v) = false := h2
      rcases PyProof.Rows.lex_negTrans _ (PySem.W.keyToks (κ u)) _ q with z | z
      · rw [show PySem.W.dataLt (κ t) (κ u) = true from z] at h1'
        cases h1'
      · rw [show PySem.W.dataLt (κ u) (κ v) = true from z] at h2'
        cases h2'
/-- a queue: each item is not less than the one above it -/
def Queue (κ : Addr → PyData) (ts : List Addr) : Prop := IsHp (fun t u => PySem.W.dataLt (κ t) (κ u)) (fun i => ts.getD i 0) ts.length
/-- the items read as data that can be compared, whatever the list at l holds -/
def Keyed (K : PySem.W.Frag) (H : Hp) (l : Addr) (κ : Addr → PyData) (ts : List Addr) : Prop :=
  (∀ t ∈ ts, (∀ o, Dp K (upd H l o) (.ref t) (κ t)) ∧ κ t ≠ .none ∧ (κ t).depth ≤ 8) ∧ ∀ t ∈ ts, ∀ u ∈ ts, PySem.W.alike (κ t) (κ u) = true
theorem Keyed.sub {K : PySem.W.Frag} {H : Hp} {l : Addr} {κ : Addr → PyData} {ts us : List Addr} (h : Keyed K H l κ ts) (s : ∀ u ∈ us, u ∈ ts) : Keyed K H l κ us :=
  ⟨fun t ht => h.1 t (s t ht), fun t ht u hu => h.2 t (s t ht) u (s u hu)⟩
section
variable {X : Cx} {pins : List (Addr × Obj)} {σ : L2.St} {H : Hp} {l : Addr} {κ : Addr → PyData} {ps : List Addr}
def vlt (κ : Addr → PyData) : Value → Value → Bool := fun x y => match x, y with | .ref t, .ref u => PySem.W.dataLt (κ t) (κ u) | _, _ => false
def JJ (X : Cx) (pins : List (Addr × Obj)) (σ : L2.St) (H : Hp) (l : Addr) (ps : List Addr) (ys : Array Value) (s : Shared) : Prop :=
  ∃ us : List Addr, ys.toList = us.map Value.ref ∧ (∀ u ∈ us, u ∈ ps) ∧ Inv X pins σ (upd H l (.lst (us.map V.ref))) s
theorem refs_of : ∀ {us : List Addr} {its : List Value}, Vals (us.map V.ref) its → its = us.map Value.ref
  | [], _, h => by cases h; rfl
  | u :: us, _, h => by
    cases h with
    | cons r t =>
      have r' : _ = Value.ref u := r
      rw [r', refs_of t]
      rfl
theorem refs_vals : ∀ us : List Addr, Vals (us.map V.ref) (us.map Value.ref)
  | [] => .nil
  | u :: us => .cons rfl (refs_vals us)
theorem jj_at {ys : Array Value} {s : Shared} (h : JJ X pins σ H l ps ys s) : ys.size ≤ sizeLine ∧ ∃ n, s.heap.get? l = some { cls := .type "list", data := .seq ys n } := by
  obtain ⟨us, e, _, I⟩ := h
  obtain ⟨z, its, n, r, hl, g⟩ := I.lstM upd_same
  have ei := refs_of r
  have ey : its.toArray = ys := by rw [ei, ← e]
  rw [ey] at g
  refine ⟨?_, n, g⟩
  rw [← ey, List.size_toArray, ← hl]
  exact z
theorem refs_all : ∀ {l : List Value} {ps : List Addr}, (∀ x ∈ l, ∃ t, t ∈ ps ∧ x = .ref t) → ∃ us : List Addr, l = us.map Value.ref ∧ ∀ u ∈ us, u ∈ ps
  | [], _, _ => ⟨[], rfl, fun _ h => nomatch h⟩
  | x :: l, ps, h => by
    obtain ⟨t, ht, e⟩ := h x List.mem_cons_self
    obtain ⟨us, e2, h2⟩ := refs_all fun y hy => h y (List.mem_cons_of_mem _ hy)
    exact ⟨t :: us, by rw [e, e2]; rfl, fun u hu => (List.mem_cons.mp hu).elim (fun z => z ▸ ht) (h2 u)⟩
theorem lists_jj (hu : X.A.units + 64 < cLine) (hk : Keyed X.K H l κ ps) : Lists X.A.in1 l (vlt κ) (fun x => ∃ t, t ∈ ps ∧ x = .ref t) (JJ X pins σ H l ps) := by
  refine ⟨fun ys s h => (jj_at h).2, fun ys s h => (jj_at h).1, fun ys s x h hx => ?_, fun ys s f h hm hz => ?_, fun ys s x y h hx hy => ?_⟩
  · obtain ⟨us, e, hs, _⟩ := h
    have := Array.mem_toList_iff.mpr hx
    rw [e] at this
    obtain ⟨t, ht, e2⟩ := List.mem_map.mp this
    exact ⟨t, hs t ht, e2.symm⟩
  · obtain ⟨n, e⟩ := (jj_at h).2
    obtain ⟨us, e1, hs, I⟩ := h
    obtain ⟨vs, e2, hs2⟩ := refs_all fun x hx => hm x (Array.mem_toList_iff.mp hx)
    refine ⟨vs, e2, hs2, ?_⟩
    have ey : ys = (us.map Value.ref).toArray := by rw [← e1]
    rw [ey] at e
    have ef : f (us.map Value.ref).toArray = (vs.map Value.ref).toArray := by rw [← e2, ← ey]
    have q := I.lset (ys := vs.map V.ref) (t' := s.toks) (f := f) upd_same e ef (refs_vals vs) (by
      rw [List.length_map]
      have : (f ys).size = vs.length := by rw [← Array.length_toList, e2, List.length_map]
      omega)
    rw [upd_upd] at q
    exact q
  · obtain ⟨t, ht, rfl⟩ := hx
    obtain ⟨u, hu2, rfl⟩ := hy
    obtain ⟨us, e1, hs, I⟩ := h
    obtain ⟨k1, k2⟩ := hk
    obtain ⟨d1, n1, p1⟩ := k1 t ht
    obtain ⟨d2, _, _⟩ := k1 u hu2
    obtain ⟨as, r1⟩ := Dp.reads I _ _ (.ref t) (d1 _) rfl
    obtain ⟨bs, r2⟩ := Dp.reads I _ _ (.ref u) (d2 _) rfl
    refine PySem.W.rcLt_alike _ _ X.A.in1 s _ _ as bs r1 r2 (k2 t ht u hu2) n1 ?_
    have : min (κ t).depth (κ u).depth ≤ (κ t).depth := Nat.min_le_left _ _
    rw [Around.in1_units]
    omega
theorem queue_vat {ys : Array Value} {us : List Addr} (e : ys.toList = us.map Value.ref) : IsHp (vlt κ) (vat ys) ys.size ↔ Queue κ us := by
  have hz : ys.size = us.length := by rw [← Array.length_toList, e, List.length_map]
  have hv : ∀ i, i < us.length → vat ys i = .ref (us.getD i 0) := fun i hi => by
    have h1 := vat_get (ys := ys) (i := i) (by omega)
    have h2 : ys[i]? = (us.map Value.ref)[i]? := by rw [← e, Array.getElem?_toList]
    rw [h2, List.getElem?_map, List.getElem?_eq_getElem hi] at h1
    have h3 := (Option.some.inj h1).symm
    rw [h3, List.getD_eq_getElem?_getD, List.getElem?_eq_getElem hi]
    rfl
  unfold Queue IsHp
  rw [hz]
  constructor
  · intro h i h0 hi
    have q := h i h0 hi
    rw [hv i hi, hv (par i) (Nat.lt_trans (par_lt h0) hi)] at q
    exact q
  · intro h i h0 hi
    rw [hv i hi, hv (par i) (Nat.lt_trans (par_lt h0) hi)]
    exact h i h0 hi
theorem jj_start {ts : List Addr} {s : Shared} (I : Inv X pins σ H s) (h : H l = some (.lst (ts.map V.ref))) (hs : ∀ t ∈ ts, t ∈ ps) : JJ X pins σ H l ps (ts.map Value.ref).toArray s := by
  refine ⟨ts, rfl, hs, ?_⟩
  have e : upd H l (.lst (ts.map V.ref)) = H := by
    funext b
    unfold upd
    by_cases hb : b = l
    · rw [if_pos hb, hb, h]
    · rw [if_neg hb]
  rw [e]
  exact I
theorem perm_refs {us : List Addr} {vs : List Value} (p : vs.Perm (us.map Value.ref)) {ws : List Addr} (e : vs = ws.map Value.ref) : ws.Perm us := by
  rw [e] at p
  have q := p.map (fun v => match v with | .ref t => t | _ => 0)
  rw [List.map_map, List.map_map] at q
  have i1 : ∀ l : List Addr, l.map ((fun v => match v with | .ref t => t | _ => 0) ∘ Value.ref) = l := fun l => by
    conv => rhs; rw [← List.map_id l]
    rfl
  rw [i1, i1] at q
  exact q
def rPush (K : PySem.W.Frag) : List V → Hp → VK → Prop := fun vs H Q => ∃ (l T : Addr) (ts : List Addr) (κ : Addr → PyData), vs = [.ref l, .ref T] ∧ H l = some (.lst (ts.map V.ref)) ∧ ts.length < sizeLine ∧ Keyed K H l κ (T :: ts) ∧ Queue κ ts ∧
  ∀ us, us.Perm (T :: ts) → Queue κ us → Q .non (upd H l (.lst (us.map V.ref)))
def rPop (K : PySem.W.Frag) : List V → Hp → VK → Prop := fun vs H Q => ∃ (l : Addr) (ts : List Addr) (κ : Addr → PyData), vs = [.ref l] ∧ H l = some (.lst (ts.map V.ref)) ∧ 0 < ts.length ∧ Keyed K H l κ ts ∧ Queue κ ts ∧
  ∀ t us, (t :: us).Perm ts → Queue κ us → (∀ u ∈ us, PySem.W.dataLt (κ u) (κ t) = false) → Q (.ref t) (upd H l (.lst (us.map V.ref)))
def specPush (l : Addr) (v : Value) : _root_.PySem.Spec := fun A R s => ∃ lt M J ys, Lists A.in1 l lt M J ∧ Ord M lt ∧ J ys s ∧ M v ∧ ys.size < sizeLine ∧ IsHp lt (vat ys) ys.size ∧
  ∀ zs s', J zs s' → zs.toList.Perm (v :: ys.toList) → IsHp lt (vat zs) zs.size → R (.ok (.ret .none)) s'
def specPop (l : Addr) : _root_.PySem.Spec := fun A R s => ∃ lt M J ys, Lists A.in1 l lt M J ∧ Ord M lt ∧ J ys s ∧ 0 < ys.size ∧ IsHp lt (vat ys) ys.size ∧
  ∀ v zs s', M v → J zs s' → (v :: zs.toList).Perm ys.toList → IsHp lt (vat zs) zs.size → (∀ x ∈ zs, lt x v = false) → R (.ok (.ret v)) s'
theorem meets_push (l : Addr) (v : Value) : Meets (Builtin.«_heapq.heappush» ⟨[.ref l, v], []⟩) (specPush l v) := fun prog w A R s h => by
  obtain ⟨lt, M, J, ys, L, O, hJ, hv, hz, hh, fin⟩ := h
  exact push_ok L O hJ hv hz hh fin
theorem meets_pop (l : Addr) : Meets (Builtin.«_heapq.heappop» ⟨[.ref l], []⟩) (specPop l) := fun prog w A R s h => by
  obtain ⟨lt, M, J, ys, L, O, hJ, hz, hh, fin⟩ := h
  exact pop_ok L O hJ hz hh fin
theorem cr_push (hu : X.A.units + 64 < cLine) : CallR X (.builtin "_heapq.heappush") (rPush X.K) := by
  intro pins s σ H vs us Q I r h
  obtain ⟨l, T, ts, κ, rfl, hl, hz, hk, hq, q⟩ := h
  obtain ⟨u1, u2, rfl, r1, r2⟩ := r.two
  have e1 : u1 = .ref l := r1
  have e2 : u2 = .ref T := r2
  subst e1 e2
  have hJ : JJ X pins σ H l (T :: ts) (ts.map Value.ref).toArray s := jj_start I hl fun t ht => List.mem_cons_of_mem _ ht
  refine call_function_meets kind_push plain_push entry_push (args_push _ _) (meets_push l (.ref T)) ⟨vlt κ, fun x => ∃ t, t ∈ T :: ts ∧ x = .ref t, JJ X pins σ H l (T :: ts), (ts.map Value.ref).toArray, lists_jj hu hk, ord_keys κ _ fun x hx => ?_, hJ, ⟨T, List.mem_cons_self, rfl⟩, ?_, (queue_vat rfl).mpr hq, fun zs s' j p hh => ?_⟩
  · obtain ⟨t, _, e⟩ := hx
    exact ⟨t, e⟩
  · rw [List.size_toArray, List.length_map]
    exact hz
  · obtain ⟨ws, e, hs, I'⟩ := j
    have p2 : zs.toList.Perm ((T :: ts).map Value.ref) := p
    exact ⟨.non, _, I', rfl, q ws (perm_refs p2 e) ((queue_vat e).mp hh)⟩
theorem cr_pop (hu : X.A.units + 64 < cLine) : CallR X (.builtin "_heapq.heappop") (rPop X.K) := by
  intro pins s σ H vs us Q I r h
  obtain ⟨l, ts, κ, rfl, hl, hz, hk, hq, q⟩ := h
  obtain ⟨u1, rfl, r1⟩ := r.one
  have e1 : u1 = .ref l := r1
  subst e1
  have hJ : JJ X pins σ H l ts (ts.map Value.ref).toArray s := jj_start I hl fun t ht => ht
  refine call_function_meets kind_pop plain_pop entry_pop (args_pop _) (meets_pop l) ⟨vlt κ, fun x => ∃ t, t ∈ ts ∧ x = .ref t, JJ X pins σ H l ts, (ts.map Value.ref).toArray, lists_jj hu hk, ord_keys κ _ fun x hx => ?_, hJ, ?_, (queue_vat rfl).mpr hq, fun v zs s' hv j p hh hm => ?_⟩
  · obtain ⟨t, _, e⟩ := hx
    exact ⟨t, e⟩
  · rw [List.size_toArray, List.length_map]
    exact hz
  · obtain ⟨t, ht, rfl⟩ := hv
    obtain ⟨ws, e, hs, I'⟩ := j
    have p2 : (Value.ref t :: zs.toList).Perm (ts.map Value.ref) := p
    have p3 := perm_refs p2 (ws := t :: ws) (by rw [e]; rfl)
    refine ⟨.ref t, _, I', rfl, q t ws p3 ((queue_vat e).mp hh) fun u hu2 => ?_⟩
    exact hm (.ref u) (Array.mem_toList_iff.mp (by rw [e]; exact List.mem_map.mpr ⟨u, hu2, rfl⟩))
end
end HQ
namespace Ow
open PySem PySem.Spec PyProof.Rows L2
open SX (S S_len S_cat S_inj S_tl join_S S_beq map_S_tl)
def top (i : Nat) : Stmt := PySem.Challenge.pw_onereading_k09_whole_short_texts_tried.main.body.getD i (.Pass ⟨0, 0, 0, 0⟩)
abbrev sIsWord : Stmt := top 10
abbrev sChecked : Stmt := top 11
abbrev s_left_of : Stmt := top 12
abbrev s_stepped : Stmt := top 14
abbrev s_double : Stmt := top 15
abbrev s_meetings : Stmt := top 16
abbrev s__first_meetings : Stmt := top 17
abbrev s__further_meetings : Stmt := top 18
abbrev sAt : Stmt := top 20
abbrev sMixed : Stmt := top 21
abbrev s__law_short_words : Stmt := top 22
abbrev s__law_two_ways : Stmt := top 23
abbrev sLaw : Stmt := top 24



/-! ### words that stand at one place, the shorter ones first -/
theorem ltc_cons {a b : Nat} {r t : List Nat} : PySem.Spec.ltCps (a :: r) (b :: t) = false ↔ b ≤ a ∧ (a = b → PySem.Spec.ltCps r t = false) := by
  simp only [PySem.Spec.ltCps, Bool.or_eq_false_iff, decide_eq_false_iff_not, Bool.and_eq_false_iff, beq_eq_false_iff_ne]
  constructor
  · rintro ⟨h1, h2⟩
    refine ⟨by omega, fun e => ?_⟩
    rcases h2 with h | h
    · exact absurd e h
    · exact h
  · rintro ⟨h1, h2⟩
    refine ⟨by omega, ?_⟩
    by_cases e : a = b
    · exact .inr (h2 e)
    · exact .inl e
theorem ltc_tr : ∀ {a b c : List Nat}, PySem.Spec.ltCps b a = false → PySem.Spec.ltCps c b = false → PySem.Spec.ltCps c a = false
  | [], _, [], _, _ => rfl
  | [], _, _ :: _, _, _ => rfl
  | _ :: _, [], _, h, _ => by cases h
  | _ :: _, _ :: _, [], _, h => by cases h
  | x :: a, y :: b, z :: c, h, k => by
    have h1 := ltc_cons.mp h
    have h2 := ltc_cons.mp k
    refine ltc_cons.mpr ⟨by omega, fun e => ?_⟩
    exact ltc_tr (h1.2 (by omega)) (h2.2 (by omega))
theorem rising_all : ∀ {l : List (List Nat)} {p : List Nat}, risingS (S p) (l.map S) = true → ∀ x ∈ l, PySem.Spec.ltCps x p = false
  | [], _, _, _, hx => nomatch hx
  | y :: l, p, h, x, hx => by
    have h' : (!PySem.Spec.ltCps y p && risingS (S y) (l.map S)) = true := h
    rw [Bool.and_eq_true, Bool.not_eq_true'] at h'
    rcases List.mem_cons.mp hx with e | m
    · rw [e]
      exact h'.1
    · exact ltc_tr h'.1 (rising_all h'.2 x m)
theorem rising_tail {l : List (List Nat)} {p : List Nat} (h : risingS (S p) (l.map S) = true) : sortedS (l.map S) = true := by
  cases l with
  | nil => rfl
  | cons y l =>
    have h' : (!PySem.Spec.ltCps y p && risingS (S y) (l.map S)) = true := h
    rw [Bool.and_eq_true] at h'
    exact h'.2
theorem sorted_pw : ∀ {l : List (List Nat)}, sortedS (l.map S) = true → l.Pairwise fun a b => PySem.Spec.ltCps b a = false
  | [], _ => .nil
  | x :: l, h => List.pairwise_cons.mpr ⟨rising_all h, sorted_pw (rising_tail h)⟩
theorem ltc_pre : ∀ {a : List Nat} {n : Nat}, n < a.length → PySem.Spec.ltCps (a.take n) a = true
  | [], _, h => absurd h (Nat.not_lt_zero _)
  | _ :: _, 0, _ => rfl
  | x :: a, n + 1, h => by
    have ih := ltc_pre (a := a) (n := n) (Nat.lt_of_succ_lt_succ h)
    show (decide (x < x) || (x == x && PySem.Spec.ltCps (a.take n) a)) = true
    rw [ih]
    simp
abbrev FnP (K : PySem.W.Frag) (x : Str) (st : Stmt) (f : Addr) (fd : FuncData) : Prop := FunD K x x (defArgs st) (defBody st) (defScope st) [] [] f fd
theorem _root_.L2.FunD.okN {P : Program} {w : World} {K : PySem.W.Frag} {mg : Str → Option Value} {base : Heap} {x qual : Str} {params : Arguments} {body : List Stmt} {scope : Scope} {dvs : List V} {kws : List (Str × V)} {f : Addr} {fd : FuncData}
    {CX : CXT} {N ps : List Str} {k : Nat} {sp : Sp} (F : FunD K x qual params body scope dvs kws f fd) (S : FnScope N ps scope) (len : ∀ vs H Q E, sp vs H Q E → vs.length = ps.length)
    (hbody : ∀ (cdv : Value) (A : Around) (outer : List Env) (s : Shared) (H : Hp) (vs : List V) (Q : VK) (E : XK), Room k (A.deeper (envOfC qual scope s.heap.objs.size f cdv)) → sp vs H Q E →
      ∃ t, PSs (cxOf CX P w K mg base N qual scope f cdv A outer s H E).nox body t ∧ t { nx := fun _ H' => Q .non H', rt := Q } (start N vs) H) : FnOk P w K mg base CX (k + 1) f fd ps sp :=
  F.ok S len fun cdv A outer s H vs Q E hr h =>
    let ⟨t, q, r⟩ := hbody cdv A outer s H vs Q E hr h
    ⟨t, q.nox, r⟩
theorem same_upd {H : Hp} {p : Addr} {o : HO} (h : H p = none) : Same H (upd H p o) := fun b x e => by
  rw [upd_ne (ne_of_none e h)]
  exact e
/-- a def of the text whose function object, name and binding are known -/
structure Has (K : PySem.W.Frag) (mg : Str → Option Value) (x : Str) (st : Stmt) (ps : List Str) (f : Addr) (fd : FuncData) : Prop where
  F : FnP K x st f fd
  g : mg x = some (.ref f)
  b : Binds K fd ps []
/-- a def of the text stands behind the top -/
def There (K : PySem.W.Frag) (mg : Str → Option Value) (x : Str) (st : Stmt) (ps : List Str) : Prop := ∃ f fd, Has K mg x st ps f fd
section
variable {P : Program} {w : World} {K : PySem.W.Frag} {mg : Str → Option Value} {base : Heap} {f : Addr} {fd : FuncData}
theorem scAt : FnScope ["_law_script", "_law_k"] ["_law_script", "_law_k"] (defScope sAt) := ⟨rfl, rfl, rfl, by decide +kernel, rfl, by decide +kernel, by decide +kernel⟩
def spAt (K : PySem.W.Frag) : Sp := fun vs H Q _ => ∃ (a : Addr) (ns : List Int) (k : Int), vs = [.ref a, .int k] ∧ SqL K H a (ns.map V.int) ∧ 0 ≤ k ∧ ∀ v : Int, Q (.int v) H
theorem ok_at (F : FnP K "_law_at" sAt f fd) (mL : mg "len" = none) : FnOk P w K mg base CX0 1 f fd ["_law_script", "_law_k"] (spAt K) := by
  refine F.okN scAt (fun vs H Q E h => ?_) (fun cdv A outer s H vs Q E hr h => ?_)
  · obtain ⟨a, ns, k, rfl, _⟩ := h
    rfl
  · obtain ⟨a, ns, k, rfl, hS, hk, q⟩ := h
    refine ⟨_, pss_cons (ps_if (pt_cmpR op_lt (pv 1) (pe_callB call_len_seq (by rfl) mL boot_len (pa_cons (pv 0) pa_nil)) (nomark _))
        (pss_one (ps_ret (pe_ix ix_list (pv 0) (pv 1) (fun _ _ => rfl)))) pss_nil) (pss_one (ps_ret pe_int)), ?_⟩
    refine ⟨_, rfl, _, rfl, a, ns.map V.int, rfl, .inl hS, k, _, rfl, rfl, _, rfl, ite2 (fun c => ?_) (fun c => ?_)⟩
    · have c1 : k < ((ns.map V.int).length : Int) := of_decide_eq_true c
      rw [List.length_map] at c1
      have hi : k.toNat < ns.length := by omega
      refine ⟨_, rfl, _, rfl, a, ns.map V.int, k, .int ns[k.toNat], rfl, rfl, hS, at_of (j := k.toNat) (by omega) ?_, q _⟩
      rw [List.getElem?_map, List.getElem?_eq_getElem hi]
      rfl
    · exact q 0
theorem scMixed : FnScope ["_law_cell", "_law_k", "_law_number"] ["_law_cell", "_law_k"] (defScope sMixed) := ⟨rfl, rfl, rfl, by decide +kernel, rfl, by decide +kernel, by decide +kernel⟩
def spMixed : Sp := fun vs H Q _ => ∃ (c k : Int), vs = [.int c, .int k] ∧ ∀ v : Int, 0 ≤ v → v < 2147483629 → Q (.int v) H
theorem ok_mixed (F : FnP K "_law_mixed" sMixed f fd) : FnOk P w K mg base CX0 1 f fd ["_law_cell", "_law_k"] spMixed := by
  refine F.okN scMixed (fun vs H Q E h => ?_) (fun cdv A outer s H vs Q E hr h => ?_)
  · obtain ⟨c, k, rfl, _⟩ := h
    rfl
  · obtain ⟨c, k, rfl, q⟩ := h
    refine ⟨_, pss_cons (ps_set (i := 2) scMixed.nd rfl (.inl rfl) (pe_op op_mod (pe_op op_mul (pe_op op_add (pe_op op_add (pv 0) (pe_op op_mul pe_int (pv 1))) pe_int) pe_int) pe_int))
      (pss_one (ps_ret (pe_op op_mod (pe_op op_mul (pv 2) (pv 2)) pe_int))), ?_⟩
    refine ⟨_, rfl, _, rfl, 7919, k, rfl, rfl, .inl ⟨by decide, by decide⟩, _, _, rfl, rfl, _, _, rfl, rfl, _, _, rfl, rfl, .inr ⟨by decide, by decide⟩, _, _, rfl, rfl, (by show (0 : Int) < 2147483647; decide), ?_⟩
    have h1 := Int.emod_nonneg ((c + 7919 * k + 3) * 48271) (show (2147483647 : Int) ≠ 0 by decide)
    have h2 := Int.emod_lt_of_pos ((c + 7919 * k + 3) * 48271) (show (0 : Int) < 2147483647 by decide)
    refine ⟨_, rfl, _, rfl, _, _, rfl, rfl, .inl ⟨by omega, by omega⟩, _, _, rfl, rfl, (by show (0 : Int) < 2147483629; decide), ?_⟩
    exact q _ (Int.emod_nonneg _ (by decide)) (Int.emod_lt_of_pos _ (by decide))
end
/-! ### texts by their codes -/
abbrev tx (l : List Nat) : V := V.str (S l)
def Let (l : List Nat) : Prop := ∀ c ∈ l, 97 ≤ c ∧ c ≤ 122
def WordOk (l : List Nat) : Prop := 1 ≤ l.length ∧ l.length ≤ 10 ∧ Let l
theorem Let.app {a b : List Nat} (x : Let a) (y : Let b) : Let (a ++ b) := fun c h => (List.mem_append.mp h).elim (x c) (y c)
theorem Let.sub {a b : List Nat} (x : Let a) (h : ∀ c ∈ b, c ∈ a) : Let b := fun c q => x c (h c q)
theorem Let.one {c : Nat} (h : 97 ≤ c ∧ c ≤ 122) : Let [c] := fun d q => by
  rw [List.mem_singleton.mp q]
  exact h
theorem tx_eq {a b : List Nat} : decide (V.str (S a) = V.str (S b)) = decide (a = b) := by
  rw [Bool.eq_iff_iff, decide_eq_true_eq, decide_eq_true_eq]
  exact ⟨fun h => S_inj (V.str.inj h), fun h => by rw [h]⟩
theorem joinE : ∀ ys : List (List Nat), TL.joinL [] ys = ys.flatten
  | [] => rfl
  | [x] => by
    show x = [x].flatten
    simp
  | x :: y :: r => by
    have ih := joinE (y :: r)
    have e : TL.joinL [] (x :: y :: r) = x ++ ([] ++ TL.joinL [] (y :: r)) := by simp [TL.joinL]
    rw [e, ih, List.nil_append, ← List.flatten_cons]
theorem join0 (ys : List (List Nat)) : Txt.join (Str.ofString "") (ys.map S) = S ys.flatten := by
  rw [show Str.ofString "" = S [] by decide +kernel, join_S, joinE]
theorem map_tx (ys : List (List Nat)) : ys.map tx = (ys.map S).map V.str := by rw [List.map_map]; rfl
theorem lenS (ys : List (List Nat)) : ((ys.map S).map (·.length)) = ys.map (·.length) := SX.lens ys
theorem empLen : (Str.ofString "").length = 0 := by decide +kernel
abbrev alpha : List Nat := [97,98,99,100,101,102,103,104,105,106,107,108,109,110,111,112,113,114,115,116,117,118,119,120,121,122]
theorem alphaS : Str.ofString "abcdefghijklmnopqrstuvwxyz" = S alpha := by decide +kernel
theorem alphaLet : Let alpha := by
  have h : alpha.all (fun c => decide (97 ≤ c) && decide (c ≤ 122)) = true := by decide
  intro c hc
  have q := List.all_eq_true.mp h c hc
  simp only [Bool.and_eq_true, decide_eq_true_eq] at q
  exact q
theorem at_ofI {α : Type} {xs : List α} {i : Int} {v : α} (h0 : 0 ≤ i) (h : xs[i.toNat]? = some v) : atI xs i = some v := by
  have e : ((i.toNat : Nat) : Int) = i := by omega
  have q := atI_nat h
  rw [e] at q
  exact q
/-- an item of a list at a place within it -/
theorem at_in {α : Type} (xs : List α) {i : Int} (h0 : 0 ≤ i) (h : i < (xs.length : Int)) : ∃ c ∈ xs, atI xs i = some c := by
  have hi : i.toNat < xs.length := by omega
  exact ⟨xs[i.toNat], List.getElem_mem hi, at_ofI h0 (List.getElem?_eq_getElem hi)⟩
theorem at_map {α : Type} (g : α → V) (xs : List α) {i : Int} (h0 : 0 ≤ i) (h : i < (xs.length : Int)) : ∃ c ∈ xs, atI (xs.map g) i = some (g c) := by
  obtain ⟨v, hv, e⟩ := at_in (xs.map g) h0 (by rw [List.length_map]; exact h)
  obtain ⟨c, hc, rfl⟩ := List.mem_map.mp hv
  exact ⟨c, hc, e⟩
theorem flat_len {ys : List (List Nat)} (h : ∀ y ∈ ys, y.length = 1) : ys.flatten.length = ys.length := by
  induction ys with
  | nil => rfl
  | cons y r ih =>
    rw [List.flatten_cons, List.length_append, h y List.mem_cons_self, ih fun z hz => h z (List.mem_cons_of_mem _ hz), List.length_cons]
    omega
theorem flat_let {ys : List (List Nat)} (h : ∀ y ∈ ys, Let y) : Let ys.flatten := fun c hc => by
  obtain ⟨y, hy, q⟩ := List.mem_flatten.mp hc
  exact h y hy c q
theorem sum_ones {ys : List (List Nat)} (h : ∀ y ∈ ys, y.length = 1) : ((ys.map S).map (·.length)).sum = ys.length := by
  rw [lenS, ← flat_len h, List.length_flatten]
section
variable {P : Program} {w : World} {K : PySem.W.Frag} {mg : Str → Option Value} {base : Heap} {f : Addr} {fd : FuncData}
end
section
variable {P : Program} {w : World} {K : PySem.W.Frag} {mg : Str → Option Value} {base : Heap} {f fM : Addr} {fd fdM : FuncData}
end
/-! ### slices of texts -/
theorem sIx_pos (n d : Nat) {i : Int} (h : 0 ≤ i) : HT.sIx n d (some i) = min i.toNat n := by
  have e : i = ((i.toNat : Nat) : Int) := by omega
  have q := HT.sIx_nat n d i.toNat
  rw [← e] at q
  exact q
theorem cut_from {l : List Nat} {i : Int} (h : 0 ≤ i) : cutS (S l) (some i) none = S (l.drop i.toNat) := by
  unfold cutS
  rw [sIx_pos _ _ h, HT.sIx_none, S_len]
  refine congrArg S ?_
  show (l.drop (min i.toNat l.length)).take (l.length - min i.toNat l.length) = l.drop i.toNat
  rw [List.take_of_length_le (by rw [List.length_drop]; omega)]
  by_cases c : i.toNat ≤ l.length
  · rw [Nat.min_eq_left c]
  · rw [Nat.min_eq_right (by omega), List.drop_of_length_le (Nat.le_refl _), List.drop_of_length_le (by omega)]
theorem cut_to {l : List Nat} {i : Int} (h : 0 ≤ i) : cutS (S l) none (some i) = S (l.take i.toNat) := by
  unfold cutS
  rw [sIx_pos _ _ h, HT.sIx_none, S_len]
  refine congrArg S ?_
  show (l.drop 0).take (min i.toNat l.length - 0) = l.take i.toNat
  rw [List.drop_zero, Nat.sub_zero]
  by_cases c : i.toNat ≤ l.length
  · rw [Nat.min_eq_left c]
  · rw [Nat.min_eq_right (by omega), List.take_of_length_le (Nat.le_refl _), List.take_of_length_le (by omega)]
theorem cut_mid {l : List Nat} {i j : Int} (h : 0 ≤ i) (h2 : 0 ≤ j) : cutS (S l) (some i) (some j) = S ((l.drop i.toNat).take (j.toNat - i.toNat)) := by
  unfold cutS
  rw [sIx_pos _ _ h, sIx_pos _ _ h2, S_len]
  refine congrArg S ?_
  show (l.drop (min i.toNat l.length)).take (min j.toNat l.length - min i.toNat l.length) = (l.drop i.toNat).take (j.toNat - i.toNat)
  by_cases c : i.toNat ≤ l.length
  · rw [Nat.min_eq_left c]
    by_cases d : j.toNat ≤ l.length
    · rw [Nat.min_eq_left d]
    · rw [Nat.min_eq_right (by omega), List.take_of_length_le (by rw [List.length_drop]; omega), List.take_of_length_le (by rw [List.length_drop]; omega)]
  · have e1 : min i.toNat l.length = l.length := Nat.min_eq_right (by omega)
    rw [e1, List.drop_of_length_le (Nat.le_refl _), List.drop_of_length_le (by omega : l.length ≤ i.toNat), List.take_nil, List.take_nil]
theorem let_drop {l : List Nat} (h : Let l) (n : Nat) : Let (l.drop n) := h.sub fun _ q => List.mem_of_mem_drop q
theorem let_take {l : List Nat} (h : Let l) (n : Nat) : Let (l.take n) := h.sub fun _ q => List.mem_of_mem_take q
theorem size1000 {n : Nat} (h : n ≤ 1000) : n ≤ sizeLine := Nat.le_of_lt (small1000 h)
section
variable {P : Program} {w : World} {K : PySem.W.Frag} {mg : Str → Option Value} {base : Heap} {f fM fW : Addr} {fd fdM fdW : FuncData}
end
/-! ### slices of lists -/
theorem cutv_from {xs : List V} {i : Int} (h : 0 ≤ i) : cutV xs (some i) none = xs.drop i.toNat := by
  unfold cutV
  rw [sIx_pos _ _ h, HT.sIx_none]
  rw [List.take_of_length_le (by rw [List.length_drop]; omega)]
  by_cases c : i.toNat ≤ xs.length
  · rw [Nat.min_eq_left c]
  · rw [Nat.min_eq_right (by omega), List.drop_of_length_le (Nat.le_refl _), List.drop_of_length_le (by omega)]
theorem cutv_to {xs : List V} {i : Int} (h : 0 ≤ i) : cutV xs none (some i) = xs.take i.toNat := by
  unfold cutV
  rw [sIx_pos _ _ h, HT.sIx_none, List.drop_zero, Nat.sub_zero]
  by_cases c : i.toNat ≤ xs.length
  · rw [Nat.min_eq_left c]
  · rw [Nat.min_eq_right (by omega), List.take_of_length_le (Nat.le_refl _), List.take_of_length_le (by omega)]
theorem at_last {α : Type} (g : α → V) {xs : List α} (h : 1 ≤ xs.length) : ∃ c ∈ xs, atI (xs.map g) (-1) = some (g c) := by
  have hne : xs ≠ [] := fun e => by
    rw [e] at h
    exact absurd h (Nat.not_succ_le_zero 0)
  refine ⟨xs.getLast hne, List.getLast_mem hne, ?_⟩
  have e : xs.map g = (xs.dropLast.map g) ++ [g (xs.getLast hne)] := by
    rw [← List.map_singleton, ← List.map_append, List.dropLast_concat_getLast]
  rw [e]
  exact atI_last _ _
theorem seqL {K : PySem.W.Frag} {H : Hp} {a : Addr} {xs : List V} (h : H a = some (.lst xs)) : SqL K H a xs := .inl (.inl h)
section
variable {P : Program} {w : World} {K : PySem.W.Frag} {mg : Str → Option Value} {base : Heap} {f fA fM fW : Addr} {fd fdA fdM fdW : FuncData}
end
def CodeOk (ws : List (List Nat)) : Prop := ws.length ≤ 12 ∧ ws.Nodup ∧ ∀ x ∈ ws, WordOk x
theorem inV_tx (x : List Nat) (ws : List (List Nat)) : inV (tx x) (ws.map tx) = decide (x ∈ ws) := by
  unfold inV
  rw [List.any_map]
  have e : (fun y => eqV y (tx x)) ∘ tx = fun y : List Nat => (y == x) := by
    funext y
    show (S y == S x) = (y == x)
    exact S_beq y x
  rw [e, Bool.eq_iff_iff, List.any_eq_true, decide_eq_true_eq]
  constructor
  · rintro ⟨y, hy, q⟩
    rw [← eq_of_beq q]
    exact hy
  · intro h
    exact ⟨x, h, beq_self_eq_true x⟩
theorem flat_tx (ws : List (List Nat)) : (ws.map tx).all flatV = true := by
  rw [List.all_map, List.all_eq_true]
  intro x _
  rfl
theorem nodup_app {ws : List (List Nat)} {x : List Nat} (h : ws.Nodup) (hx : x ∉ ws) : (ws ++ [x]).Nodup := by
  rw [List.nodup_append]
  refine ⟨h, List.nodup_cons.mpr ⟨List.not_mem_nil, List.nodup_nil⟩, fun a ha b hb e => ?_⟩
  rw [List.mem_singleton.mp hb] at e
  rw [e] at ha
  exact hx ha
theorem dp_texts {K : PySem.W.Frag} {H : Hp} : ∀ ws : List (List Nat), DpAll K H (ws.map tx) (ws.map fun l => PyData.str (S l))
  | [] => .nil
  | x :: r => .cons (.str (S x)) (dp_texts r)
theorem let_ok {l : List Nat} (h : Let l) : PyData.canLay0 (.str (S l)) = true := by
  rw [PyData.canLay0]
  unfold PyData.strOk
  show l.toArray.all (fun a => decide (a < 1114112)) = true
  rw [List.all_toArray, List.all_eq_true]
  intro c hc
  have q := h c hc
  exact decide_eq_true (by omega)
theorem lay_texts : ∀ ws : List (List Nat), (∀ x ∈ ws, Let x) → PyData.canLayAll0 (ws.map fun l => PyData.str (S l)) = true
  | [], _ => by simp [PyData.canLayAll0]
  | x :: r, h => by
    rw [List.map_cons, PyData.canLayAll0, let_ok (h x List.mem_cons_self), lay_texts r fun y hy => h y (List.mem_cons_of_mem _ hy)]
    rfl
theorem depth_texts : ∀ ws : List (List Nat), PyData.depthAll (ws.map fun l => PyData.str (S l)) = 0
  | [] => by simp [PyData.depthAll]
  | x :: r => by
    rw [List.map_cons, PyData.depthAll, depth_texts r, PyData.depth]
    rfl
theorem shaped_texts {ws : List (List Nat)} (h : ∀ x ∈ ws, Let x) : SeqAt.shaped (.list (ws.map fun l => PyData.str (S l))) = true := by
  unfold SeqAt.shaped
  rw [PyData.canLay0, lay_texts ws h, PyData.depth, depth_texts]
  rfl
theorem eqv_texts {ws : List (List Nat)} (h : ∀ x ∈ ws, Let x) : PyData.eqv (.list (ws.map fun l => PyData.str (S l))) (.list (ws.map fun l => PyData.str (S l))) = true :=
  PySem.SeqAt.eqv_refl _ (by rw [PyData.canLay0]; exact lay_texts ws h)
section
variable {P : Program} {w : World} {K : PySem.W.Frag} {mg : Str → Option Value} {base : Heap} {f fA fM fW fS fC fY fO fR : Addr} {fd fdA fdM fdW fdS fdC fdY fdO fdR : FuncData}
end
theorem sum_ten : ∀ {ys : List (List Nat)}, (∀ y ∈ ys, y.length ≤ 10) → (ys.map (·.length)).sum ≤ 10 * ys.length
  | [], _ => Nat.le_refl _
  | x :: r, h => by
    have i := sum_ten (ys := r) fun y hy => h y (List.mem_cons_of_mem _ hy)
    have j := h x List.mem_cons_self
    rw [List.map_cons, List.sum_cons, List.length_cons]
    omega
theorem flat_ten {ys : List (List Nat)} (h : ∀ y ∈ ys, y.length ≤ 10) : ys.flatten.length ≤ 10 * ys.length := by
  rw [List.length_flatten]
  exact sum_ten h
theorem join_room {ys : List (List Nat)} (h : ∀ y ∈ ys, y.length ≤ 10) (hl : ys.length ≤ 1000) : ((ys.map S).map (·.length)).sum + (ys.map S).length * (Str.ofString "").length ≤ 16777216 := by
  rw [lenS, empLen]
  have := sum_ten h
  omega
theorem q_list (ws : List (List Nat)) : ws.map tx ++ [V.str (Str.ofString "q")] = ((ws ++ [[113]]).map S).map V.str := by
  rw [show Str.ofString "q" = S [113] by decide +kernel, List.map_append, List.map_append, ← map_tx]
  rfl
section
variable {P : Program} {w : World} {K : PySem.W.Frag} {mg : Str → Option Value} {base : Heap} {f fA fM fR : Addr} {fd fdA fdM fdR : FuncData}
end
/-! ### how many partings: the mirror -/
/-- the word stands at the head of the rest -/
def hit (w r : List Nat) : Bool := TL.pre w r
theorem hit_iff {w r : List Nat} : hit w r = true ↔ r.take w.length = w := by
  unfold hit TL.pre
  exact beq_iff_eq
theorem hit_len {w r : List Nat} (h : hit w r = true) : w.length ≤ r.length := by
  have e := congrArg List.length (hit_iff.mp h)
  rw [List.length_take] at e
  omega
/-- what a word adds at a place, L: the counts behind the place -/
def adds (r : List Nat) (L : List Int) (w : List Nat) : Int := if hit w r = true then L.getD (w.length - 1) 0 else 0
def cnt (ws : List (List Nat)) : List Nat → List Int
  | [] => [1]
  | c :: r => (ws.map (adds (c :: r) (cnt ws r))).sum :: cnt ws r
theorem cnt_len (ws : List (List Nat)) : ∀ t : List Nat, (cnt ws t).length = t.length + 1
  | [] => rfl
  | c :: r => congrArg Nat.succ (cnt_len ws r)
theorem cnt_drop (ws : List (List Nat)) {t : List Nat} {p : Nat} (h : p < t.length) : cnt ws (t.drop p) = (ws.map (adds (t.drop p) (cnt ws (t.drop (p + 1))))).sum :: cnt ws (t.drop (p + 1)) := by
  rw [List.drop_eq_getElem_cons h]
  rfl
theorem perm_sum {l m : List Int} (h : l.Perm m) : l.sum = m.sum := by
  induction h with
  | nil => rfl
  | cons x _ ih => rw [List.sum_cons, List.sum_cons, ih]
  | swap x y l => rw [List.sum_cons, List.sum_cons, List.sum_cons, List.sum_cons]; omega
  | trans _ _ a b => exact a.trans b
theorem cnt_perm {ws vs : List (List Nat)} (h : ws.Perm vs) : ∀ t : List Nat, cnt ws t = cnt vs t
  | [] => rfl
  | c :: r => by
    have ih := cnt_perm h r
    show (ws.map (adds (c :: r) (cnt ws r))).sum :: cnt ws r = (vs.map (adds (c :: r) (cnt vs r))).sum :: cnt vs r
    rw [ih, perm_sum (h.map _)]
theorem sum_filter (r : List Nat) (L : List Int) : ∀ ws : List (List Nat), ((ws.filter fun w => hit w r).map fun w => L.getD (w.length - 1) 0).sum = (ws.map (adds r L)).sum
  | [] => rfl
  | x :: ws => by
    have ih := sum_filter r L ws
    rw [List.map_cons, List.sum_cons, ← ih]
    by_cases h : hit x r = true
    · rw [List.filter_cons_of_pos (p := fun w => hit w r) h, List.map_cons, List.sum_cons]
      unfold adds
      rw [if_pos h]
    · rw [List.filter_cons_of_neg (p := fun w => hit w r) h]
      unfold adds
      rw [if_neg h, Int.zero_add]
theorem take_sum {g : List Nat → Int} {ws : List (List Nat)} {i : Nat} (h : i < ws.length) : ((ws.take (i + 1)).map g).sum = ((ws.take i).map g).sum + g ws[i] := by
  rw [List.take_add_one, List.getElem?_eq_getElem h]
  show ((ws.take i ++ [ws[i]]).map g).sum = _
  rw [List.map_append, List.sum_append]
  show _ + (g ws[i] + 0) = _
  omega
/-! ### the model's startswith and slices -/
theorem start3 {t w : List Nat} (hw : w ≠ []) (p : Nat) : Txt.startswith3 (S t) (S w) (p : Int) = hit w (t.drop p) := by
  have e : PySem.fromIndex (S t).length (p : Int) = p := by
    unfold PySem.fromIndex
    rw [if_neg (by omega)]
    omega
  rw [Bool.eq_iff_iff]
  have h := TL.at_iff (x := S t) (y := S w) hw p
  unfold hit
  rw [← h]
  unfold Txt.startswith3
  rw [e, Bool.and_eq_true, decide_eq_true_eq]
  rfl
theorem slice_eq {t w : List Nat} (p : Nat) : decide (V.str (cutS (S t) (some (p : Int)) (some ((p : Int) + (w.length : Int)))) = V.str (S w)) = hit w (t.drop p) := by
  rw [cut_mid (by omega) (by omega), Bool.eq_iff_iff, decide_eq_true_eq, hit_iff]
  have e1 : ((p : Int) + (w.length : Int)).toNat - ((p : Int)).toNat = w.length := by omega
  have e2 : ((p : Int)).toNat = p := by omega
  rw [e1, e2]
  constructor
  · intro h
    exact S_inj (V.str.inj h)
  · intro h
    rw [h]
/-! ### the counts as they lie while they are reckoned -/
theorem zeros_get {p : Nat} {L : List Int} {k : Nat} (z : Int) (hk : 1 ≤ k) (h : k - 1 < L.length) : ((List.replicate p (0 : Int) ++ (z :: L)).map V.int)[p + k]? = some (V.int (L.getD (k - 1) 0)) := by
  rw [List.getElem?_map, List.getElem?_append_right (by rw [List.length_replicate]; omega), List.length_replicate]
  have e : p + k - p = (k - 1) + 1 := by omega
  rw [e, List.getElem?_cons_succ, List.getElem?_eq_getElem h, List.getD_eq_getElem?_getD, List.getElem?_eq_getElem h]
  rfl
theorem zeros_at {p : Nat} {L : List Int} (z : Int) : ((List.replicate p (0 : Int) ++ (z :: L)).map V.int)[p]? = some (V.int z) := by
  rw [List.getElem?_map, List.getElem?_append_right (by rw [List.length_replicate]; omega), List.length_replicate, Nat.sub_self]
  rfl
theorem zeros_set {p : Nat} {L : List Int} (z y : Int) : ((List.replicate p (0 : Int) ++ (z :: L)).map V.int).set p (V.int y) = (List.replicate p (0 : Int) ++ (y :: L)).map V.int := by
  rw [List.map_append, List.map_append, List.set_append_right _ _ (by rw [List.length_map, List.length_replicate]; omega), List.length_map, List.length_replicate, Nat.sub_self]
  rfl
theorem zeros_succ (p : Nat) (L : List Int) : List.replicate (p + 1) (0 : Int) ++ L = List.replicate p (0 : Int) ++ (0 :: L) := by
  rw [List.replicate_succ', List.append_assoc]
  rfl
theorem ixN_nat {n j : Nat} (h : j < n) : ixN n (j : Int) = some j := by
  unfold ixN
  rw [if_pos (by omega), if_pos (by omega), Int.toNat_natCast]
theorem flat_rep (n : Nat) (z : V) : (List.replicate n [z]).flatten = List.replicate n z := by
  induction n with
  | zero => rfl
  | succ n ih =>
    rw [List.replicate_succ, List.flatten_cons, ih, List.replicate_succ]
    rfl
/-! ### how many partings a rest has -/
def cntH (ws : List (List Nat)) (r : List Nat) : Int := (cnt ws r).getD 0 0
theorem cnt_at {ws : List (List Nat)} : ∀ {t : List Nat} {j : Nat}, j ≤ t.length → (cnt ws t)[j]? = some (cntH ws (t.drop j))
  | [], 0, _ => rfl
  | [], j + 1, h => absurd h (Nat.not_succ_le_zero j)
  | _ :: _, 0, _ => rfl
  | c :: t, j + 1, h => cnt_at (t := t) (j := j) (Nat.le_of_succ_le_succ h)
theorem sum_nn : ∀ {l : List Int}, (∀ x ∈ l, 0 ≤ x) → 0 ≤ l.sum
  | [], _ => Int.le_refl 0
  | x :: l, h => by
    rw [List.sum_cons]
    have h1 := h x List.mem_cons_self
    have h2 := sum_nn (l := l) fun y hy => h y (List.mem_cons_of_mem _ hy)
    omega
theorem cnt_nn (ws : List (List Nat)) : ∀ t : List Nat, ∀ x ∈ cnt ws t, 0 ≤ x
  | [], x, hx => by
    rw [List.mem_singleton.mp hx]
    decide
  | c :: t, x, hx => by
    have ih := cnt_nn ws t
    rcases List.mem_cons.mp hx with e | m
    · rw [e]
      refine sum_nn fun y hy => ?_
      obtain ⟨w, _, rfl⟩ := List.mem_map.mp hy
      unfold adds
      by_cases q : hit w (c :: t) = true
      · rw [if_pos q, List.getD_eq_getElem?_getD]
        cases e : (cnt ws t)[w.length - 1]? with
        | none => exact Int.le_refl 0
        | some z => exact ih z (List.mem_of_getElem? e)
      · rw [if_neg q]
        exact Int.le_refl 0
    · exact ih x m
theorem cntH_nn (ws : List (List Nat)) (r : List Nat) : 0 ≤ cntH ws r := by
  have h := cnt_at (ws := ws) (t := r) (j := 0) (Nat.zero_le _)
  exact cnt_nn ws r _ (List.mem_of_getElem? h)
/-- how many partings go on with this word -/
def gain (ws : List (List Nat)) (r x : List Nat) : Int := cntH ws (r.drop x.length)
theorem cntH_sum {ws : List (List Nat)} (hw : ∀ x ∈ ws, 1 ≤ x.length) : ∀ {r : List Nat}, r ≠ [] → cntH ws r = ((ws.filter fun x => hit x r).map (gain ws r)).sum
  | [], h => absurd rfl h
  | c :: r, _ => by
    show (ws.map (adds (c :: r) (cnt ws r))).sum = _
    rw [← sum_filter]
    refine congrArg List.sum (List.map_congr_left fun x hx => ?_)
    obtain ⟨m1, m2⟩ := (List.mem_filter (p := fun x => hit x (c :: r))).mp hx
    have h1 := hw x m1
    have h2 : x.length ≤ r.length + 1 := hit_len m2
    unfold gain
    rw [List.getD_eq_getElem?_getD, cnt_at (by omega)]
    obtain ⟨n, hn⟩ : ∃ n, x.length = n + 1 := ⟨x.length - 1, by omega⟩
    rw [hn]
    rfl
theorem small1000_of {n : Nat} (h : n ≤ 10000) : n < sizeLine := Nat.lt_of_le_of_lt h (by decide)
theorem small_T {x : List Nat} (h : x.length ≤ 100000) : (S x).length ≤ sizeLine := by rw [S_len]; exact Nat.le_trans h (by decide)
theorem size_T {n : Nat} (h : n ≤ 100000) : n ≤ sizeLine := Nat.le_trans h (by decide)
theorem small_S {x : List Nat} (h : x.length ≤ 1000) : (S x).length ≤ sizeLine := by rw [S_len]; exact size1000 h
theorem len_v (w : List Nat) : V.int ((S w).length : Int) = V.int (w.length : Int) := congrArg (fun n : Nat => V.int (n : Int)) (S_len w)
section
variable {P : Program} {w : World} {K : PySem.W.Frag} {mg : Str → Option Value} {base : Heap} {f fW : Addr} {fd fdW : FuncData}
/-- the counts, told as a new list -/
def spCnt (K : PySem.W.Frag) : Sp := fun vs H Q _ => ∃ (b : Addr) (ws : List (List Nat)) (t : List Nat), vs = [.ref b, tx t] ∧ SqL K H b (ws.map tx) ∧ (∀ x ∈ ws, WordOk x) ∧ ws.length ≤ 12 ∧ t.length ≤ 20000 ∧
  ∀ (g : Addr) (H' : Hp), Same H H' → H g = none → H' g = some (.lst ((cnt ws t).map V.int)) → Q (.ref g) H'
end
/-! ### a range object that a name holds, walked -/
def iRngV (te : TE) : TI := fun σ H R => te σ H fun x H1 => ∃ a lo hi, x = .ref a ∧ H1 a = some (.rng lo hi) ∧ (-(2 ^ 62) ≤ lo ∧ lo < 2 ^ 62 ∧ -(2 ^ 62) ≤ hi ∧ hi < 2 ^ 62) ∧ R (Itr lo (hi - lo).toNat) H1
theorem pi_rngV {X : Cx} {tg e : Expr} {te : TE} (he : PE X e te) : PI X tg e (iRngV te) := by
  refine ⟨fun pins s σ H R I h => ?_⟩
  refine thn (he.run pins s σ H _ I h) fun v s1 ⟨x, H1, I1, r1, q1⟩ => ?_
  obtain ⟨a, lo, hi, ex, ha, ⟨h1, h2, h3, h4⟩, q⟩ := q1
  subst ex
  cases r1
  obtain ⟨t, u, v, hr⟩ := (show ObjOk X.prog X.w H1 s1.heap a (.rng lo hi) from I1.hok a _ ha)
  refine wpAny_pyIter_range (show IsRange s1.heap a lo hi 1 t u v from hr) (small_one h1 h2 h3 h4) ?_
  refine ⟨s1.heap.objs.size, [s1.heap.objs.size], _, _, H1, rfl, I1.kept (t' := s1.toks) fun b o e => Heap.get?_push_of_some _ e, turn_range _ lo (hi - lo).toNat, ?_, fun b hb => ?_, q⟩
  · have e1 : lo + ((0 : Nat) : Int) * 1 = lo := by simp
    have e2 : (((hi - lo).toNat : Nat) : Int) - ((0 : Nat) : Int) = Builtin.Range.rangeSize lo hi 1 := by rw [rangeSize_one]; split <;> omega
    show IsRangeIter _ _ (lo + ((0 : Nat) : Int) * 1) ((((hi - lo).toNat : Nat) : Int) - ((0 : Nat) : Int)) 1
    rw [e1, e2]
    exact Heap.get?_push_size _ rfl
  · have e : b = s1.heap.objs.size := by simpa using hb
    subst e
    exact I1.fpOk (Nat.le_refl _) (I1.hok.fresh (Nat.le_refl _))
/-! ### truths, and tables of them -/
noncomputable def bp (p : Prop) : Bool := @decide p (Classical.propDecidable p)
theorem bp_iff {p : Prop} : bp p = true ↔ p := by
  unfold bp
  exact @decide_eq_true_iff p (Classical.propDecidable p)
theorem bp_true {p : Prop} (h : p) : bp p = true := bp_iff.mpr h
theorem bp_false {p : Prop} (h : ¬ p) : bp p = false := by
  cases e : bp p with
  | false => rfl
  | true => exact absurd (bp_iff.mp e) h
theorem bp_congr {p q : Prop} (h : p ↔ q) : bp p = bp q := by
  rw [Bool.eq_iff_iff, bp_iff, bp_iff]
  exact h
noncomputable def tbl (n : Nat) (P : Nat → Prop) : List V := (List.range (n + 1)).map fun j => V.bl (bp (P j))
theorem tbl_len (n : Nat) (P : Nat → Prop) : (tbl n P).length = n + 1 := by
  unfold tbl
  rw [List.length_map, List.length_range]
theorem tbl_at {n : Nat} {P : Nat → Prop} {j : Nat} (h : j ≤ n) : (tbl n P)[j]? = some (V.bl (bp (P j))) := by
  unfold tbl
  rw [List.getElem?_map, List.getElem?_range (by omega)]
  rfl
theorem tbl_congr {n : Nat} {P Q : Nat → Prop} (h : ∀ i, i ≤ n → (P i ↔ Q i)) : tbl n P = tbl n Q := by
  unfold tbl
  refine List.map_congr_left fun j hj => ?_
  rw [bp_congr (h j (by have := List.mem_range.mp hj; omega))]
theorem tbl_set {n : Nat} {P : Nat → Prop} {j : Nat} : (tbl n P).set j (V.bl true) = tbl n fun i => P i ∨ i = j := by
  refine List.ext_getElem? fun i => ?_
  rw [List.getElem?_set]
  by_cases hi : i ≤ n
  · rw [tbl_at hi, tbl_at hi]
    by_cases e : j = i
    · rw [if_pos e, if_pos (by rw [tbl_len]; omega), bp_true (Or.inr e.symm)]
    · rw [if_neg e]
      refine congrArg some (congrArg V.bl (bp_congr ⟨Or.inl, fun z => ?_⟩))
      rcases z with z | z
      · exact z
      · exact absurd z.symm e
  · have l1 : (tbl n P)[i]? = none := List.getElem?_eq_none_iff.mpr (by rw [tbl_len]; omega)
    have l2 : (tbl n fun i => P i ∨ i = j)[i]? = none := List.getElem?_eq_none_iff.mpr (by rw [tbl_len]; omega)
    rw [l1, l2]
    by_cases e : j = i
    · rw [if_pos e, if_neg (by rw [tbl_len]; omega)]
    · rw [if_neg e]
theorem tbl_init (n : Nat) : V.bl true :: List.replicate n (V.bl false) = tbl n fun j => j = 0 := by
  unfold tbl
  rw [List.range_succ_eq_map, List.map_cons, bp_true rfl, List.map_map]
  refine congrArg _ ?_
  refine List.ext_getElem? fun i => ?_
  rw [List.getElem?_replicate, List.getElem?_map]
  by_cases h : i < n
  · rw [if_pos h, List.getElem?_range h]
    show _ = some (V.bl (bp (i + 1 = 0)))
    rw [bp_false (by omega)]
  · rw [if_neg h, List.getElem?_eq_none_iff.mpr (by rw [List.length_range]; omega)]
    rfl
/-! ### the places that rows reach -/
inductive RchK (ws : List (List Nat)) (t : List Nat) (k : Nat) : Nat → Prop where
  | zero : RchK ws t k 0
  | step {p : Nat} {w : List Nat} : p < k → RchK ws t k p → w ∈ ws → hit w (t.drop p) = true → RchK ws t k (p + w.length)
section
variable {ws : List (List Nat)} {t : List Nat}
theorem RchK.mono {k m j : Nat} (h : k ≤ m) (r : RchK ws t k j) : RchK ws t m j := by
  induction r with
  | zero => exact .zero
  | step a _ b c ih => exact .step (by omega) ih b c
theorem RchK.first {j : Nat} : RchK ws t 0 j ↔ j = 0 := by
  constructor
  · intro r
    cases r with
    | zero => rfl
    | step a _ _ _ => exact absurd a (Nat.not_lt_zero _)
  · rintro rfl
    exact .zero
theorem RchK.low (hw : ∀ w ∈ ws, 1 ≤ w.length) {k m j : Nat} (r : RchK ws t m j) (h : j ≤ k) : RchK ws t k j := by
  induction r with
  | zero => exact .zero
  | step a b c d ih =>
    have := hw _ c
    exact .step (by omega) (ih (by omega)) c d
theorem RchK.succ (hw : ∀ w ∈ ws, 1 ≤ w.length) {k j : Nat} : RchK ws t (k + 1) j ↔ RchK ws t k j ∨ (RchK ws t k k ∧ ∃ w ∈ ws, hit w (t.drop k) = true ∧ j = k + w.length) := by
  constructor
  · intro r
    induction r with
    | zero => exact .inl .zero
    | @step p w a b c d ih =>
      have rp : RchK ws t k p := b.low hw (by omega)
      by_cases e : p = k
      · subst e
        exact .inr ⟨rp, w, c, d, rfl⟩
      · exact .inl (.step (by omega) rp c d)
  · rintro (r | ⟨r, w, c, d, rfl⟩)
    · exact r.mono (by omega)
    · exact .step (by omega) (r.mono (by omega)) c d
theorem RchK.perm {vs : List (List Nat)} (h : ∀ w, w ∈ vs ↔ w ∈ ws) {k j : Nat} : RchK vs t k j ↔ RchK ws t k j := by
  constructor
  · intro r
    induction r with
    | zero => exact .zero
    | step a _ c d ih => exact .step a ih ((h _).mp c) d
  · intro r
    induction r with
    | zero => exact .zero
    | step a _ c d ih => exact .step a ih ((h _).mpr c) d
end
/-- some text of the code begins with t -/
def Ans (ws : List (List Nat)) (t : List Nat) : Prop := RchK ws t t.length t.length ∨ ∃ p, p < t.length ∧ RchK ws t t.length p ∧ ∃ w ∈ ws, w.take (t.length - p) = t.drop p
theorem Ans.perm {ws vs : List (List Nat)} {t : List Nat} (h : ∀ w, w ∈ vs ↔ w ∈ ws) : Ans vs t ↔ Ans ws t := by
  unfold Ans
  rw [RchK.perm h]
  refine or_congr Iff.rfl (exists_congr fun p => and_congr Iff.rfl (and_congr (RchK.perm h) (exists_congr fun w => and_congr (h w) Iff.rfl)))
theorem start1 {r w : List Nat} (hr : r ≠ []) : Txt.startswith (S w) (S r) = hit r w := by
  rw [Bool.eq_iff_iff]
  have h := TL.at_iff (x := S w) (y := S r) hr 0
  rw [List.drop_zero] at h
  unfold hit
  rw [← h]
  unfold Txt.startswith
  rw [Bool.and_eq_true, decide_eq_true_eq]
  show _ ↔ (0 + (S r).length ≤ (S w).length ∧ Builtin.Str.subAt (S w) (S r) 0 = true)
  rw [Nat.zero_add]
section
variable {Pr : Program} {w : World} {K : PySem.W.Frag} {mg : Str → Option Value} {base : Heap} {f fW : Addr} {fd fdW : FuncData}
end
/-! ### a def whose code object is known -/
theorem _root_.L2.FunD.okC {P : Program} {w : World} {K : PySem.W.Frag} {mg : Str → Option Value} {base : Heap} {x qual : Str} {params : Arguments} {body : List Stmt} {scope : Scope} {dvs : List V} {kws : List (Str × V)} {at_ : Str × Option Str} {fd : FuncData}
    {CX : CXT} {N ps : List Str} {k : Nat} {sp : Sp} (F : FunD K x qual params body scope dvs kws (He.fAd K at_) fd) (S : FnScope N ps scope) (len : ∀ vs H Q E, sp vs H Q E → vs.length = ps.length)
    (hbody : ∀ (A : Around) (outer : List Env) (s : Shared) (H : Hp) (vs : List V) (Q : VK) (E : XK), Room k (A.deeper (envOfC qual scope s.heap.objs.size (He.fAd K at_) (.ref (He.codeOf K at_)))) → sp vs H Q E →
      ∃ t, PSs (cxOf CX P w K mg base N qual scope (He.fAd K at_) (.ref (He.codeOf K at_)) A outer s H E).nox body t ∧ t { nx := fun _ H' => Q .non H', rt := Q } (start N vs) H) : FnOk P w K mg base CX (k + 1) (He.fAd K at_) fd ps sp := by
  obtain ⟨oc, od, dV, kV, doc, pm, an, cdv, ct, osl, rfl, lk, hcd, _, _⟩ := F.ex
  obtain ⟨c, rfl⟩ := He.codeIn_ref hcd
  have e : He.codeOf K at_ = c := He.codeOf_eq lk rfl
  refine fn_of lk hcd S len fun A outer s H vs Q E hr hsp => ?_
  rw [e] at hbody
  obtain ⟨t, q, r⟩ := hbody A outer s H vs Q E hr hsp
  exact ⟨t, q.nox, r⟩
/-! ### heaps but for a table -/
structure Sm (P : Addr) (H H' : Hp) : Prop where
  tab : GxR.TabG H' P
  keep : ∀ b o, b ≠ P → H b = some o → H' b = some o
theorem Sm.of_same {P : Addr} {H H' : Hp} (t : GxR.TabG H P) (s : Same H H') : Sm P H H' := by
  obtain ⟨ps, e, h⟩ := t
  exact ⟨⟨ps, s _ _ e, h⟩, fun b o _ q => s _ _ q⟩
theorem Sm.refl {P : Addr} {H : Hp} (t : GxR.TabG H P) : Sm P H H := .of_same t (Same.refl H)
theorem Sm.trans {P : Addr} {H H1 H2 : Hp} (a : Sm P H H1) (b : Sm P H1 H2) : Sm P H H2 := ⟨b.tab, fun c o n e => b.keep c o n (a.keep c o n e)⟩
theorem Sm.of_tabbed {P : Addr} {H H' : Hp} (t : GxR.Tabbed P H H') : Sm P H H' := ⟨t.1, fun b o n e => by rw [t.2 b n]; exact e⟩
theorem Sm.andThen {P : Addr} {H H1 H2 : Hp} (a : Sm P H H1) (b : Same H1 H2) : Sm P H H2 := a.trans (.of_same a.tab b)
theorem Sm.free {P : Addr} {H H' : Hp} (t : GxR.TabG H P) (s : Sm P H H') {l : Addr} (h : H' l = none) : H l = none := by
  obtain ⟨ps, e, _⟩ := s.tab
  have nl : l ≠ P := fun z => by
    rw [z, e] at h
    cases h
  cases q : H l with
  | none => rfl
  | some o =>
    rw [s.keep l o nl q] at h
    cases h
theorem TabG.ne {P : Addr} {H : Hp} (t : GxR.TabG H P) {b : Addr} {xs : List V} (h : H b = some (.lst xs)) : b ≠ P := by
  obtain ⟨ps, e, _⟩ := t
  intro z
  rw [z, e] at h
  cases h
theorem Sm.seq {K : PySem.W.Frag} {P : Addr} {H H' : Hp} {a : Addr} {xs : List V} (t : GxR.TabG H P) (s : Sm P H H') (h : SqL K H a xs) : SqL K H' a xs := by
  obtain ⟨ps, e, _⟩ := t
  rcases h with (h | ⟨o, h⟩) | h
  · exact .inl (.inl (s.keep _ _ (fun z => by rw [z, e] at h; cases h) h))
  · exact .inl (.inr ⟨o, s.keep _ _ (fun z => by rw [z, e] at h; cases h) h⟩)
  · exact .inr h
theorem Sm.lst {P : Addr} {H H' : Hp} {a : Addr} {xs : List V} (t : GxR.TabG H P) (s : Sm P H H') (h : H a = some (.lst xs)) : H' a = some (.lst xs) := s.keep _ _ (TabG.ne t h) h
theorem tab_upd {P : Addr} {H : Hp} {p : Addr} {o : HO} (t : GxR.TabG H P) (h : p ≠ P) : GxR.TabG (upd H p o) P := by
  obtain ⟨ps, e, q⟩ := t
  exact ⟨ps, by rw [upd_ne (Ne.symm h)]; exact e, q⟩
theorem iteP {c A B : Prop} [Decidable c] (hc : c) (h : A) : if decide c = true then A else B := by
  rw [if_pos (decide_eq_true hc)]
  exact h
theorem iteN {c A B : Prop} [Decidable c] (hc : ¬ c) (h : B) : if decide c = true then A else B := by
  rw [if_neg (fun z => hc (of_decide_eq_true z))]
  exact h
theorem iteNP {c A B : Prop} [Decidable c] (hc : c) (h : B) : if (!decide c) = true then A else B := by
  rw [decide_eq_true hc, if_neg (by decide)]
  exact h
theorem iteNN {c A B : Prop} [Decidable c] (hc : ¬ c) (h : A) : if (!decide c) = true then A else B := by
  rw [decide_eq_false hc, if_pos (by decide)]
  exact h
/-! ### 'a' <= sign <= 'z' -/
theorem lt_one (c d : Nat) : ([c] : List Nat) < [d] ↔ c < d := by
  rw [List.cons_lt_cons_iff]
  constructor
  · rintro (h | ⟨_, h⟩)
    · exact h
    · exact absurd h (List.not_lt_nil _)
  · exact Or.inl
theorem elt_az {prog : Program} {w : World} {scope : Scope} {x : Str} {j k : Nat} {p1 p2 p3 p4 : Pos} (hk : scope.kind = .function) (hl : scope.names.lookup x = some .local) (hd : (x == ("__debug__" : Str)) = false := by decide) :
    GxR.EltP prog w scope x (.Compare (.Constant (.str "a") j p1) [.LtE, .LtE] [.Name x p2, .Constant (.str "z") k p3] p4) (fun c => decide (97 ≤ c) && decide (c ≤ 122)) := by
  intro cenv A' E' c t s₂ m₂ hs hn hm
  have ea : (Str.ofString "a").cps.toList = [97] := by decide +kernel
  have ez : (Str.ofString "z").cps.toList = [122] := by decide +kernel
  refine Compare_chain ?_
  refine Calls.Constant_str ?_
  refine chain_link ?_
  refine wpAny_Name (wpAny_loadName_local (by rw [hs]; exact hk) (show cenv.scope.names.lookup x = some .local by rw [hs]; exact hl) hn hm ?_) hd
  refine PySem.P.le_str ?_
  refine wpAny_truthy_bool ?_
  rw [ea]
  by_cases h1 : 97 ≤ c
  · have e1 : (!(decide (([c] : List Nat) < [97]))) = true := by
      rw [decide_eq_false (fun z => by have := (lt_one c 97).mp z; omega)]
      rfl
    rw [if_pos e1]
    refine chain_last ?_
    refine Calls.Constant_str ?_
    refine PySem.P.le_str ?_
    rw [ez]
    refine ⟨?_, GxR.keeps_tok _ _⟩
    refine congrArg Value.bool ?_
    show (!decide (([122] : List Nat) < [c])) = (decide (97 ≤ c) && decide (c ≤ 122))
    rw [decide_eq_true h1, Bool.true_and]
    by_cases h2 : c ≤ 122
    · rw [decide_eq_true h2, decide_eq_false (fun z => by have := (lt_one 122 c).mp z; omega)]
      rfl
    · rw [decide_eq_false h2, decide_eq_true ((lt_one 122 c).mpr (by omega))]
      rfl
  · have e1 : (!(decide (([c] : List Nat) < [97]))) = false := by
      rw [decide_eq_true ((lt_one c 97).mpr (by omega))]
      rfl
    rw [if_neg (by rw [e1]; exact Bool.false_ne_true)]
    refine ⟨?_, GxR.keeps_tok _ _⟩
    refine congrArg Value.bool ?_
    show (!decide (([c] : List Nat) < [97])) = (decide (97 ≤ c) && decide (c ≤ 122))
    rw [e1, decide_eq_false h1]
    rfl
/-- the built-in names and constants -/
structure Bl (mg : Str → Option Value) : Prop where
  mT : mg "type" = none
  mStr : mg "str" = none
  mL : mg "len" = none
  mAll : mg "all" = none
  mList : mg "list" = none
  mSorted : mg "sorted" = none
  mR : mg "range" = none
  mV : mg "reversed" = none
  mSum : mg "sum" = none
  mIsi : mg "isinstance" = none
  mInt : mg "int" = none
  mBool : mg "bool" = none
  mAny : mg "any" = none
  mMax : mg "max" = none
  mDict : mg "dict" = none
  mTuple : mg "tuple" = none
  mMin : mg "min" = none
  mVE : mg "ValueError" = none
  mEnum : mg "enumerate" = none
  mZip : mg "zip" = none
  mN : ∃ u, mg "MOST_SIGNS" = some (.int 10 u)
  mM : ∃ u, mg "MOST_WORDS" = some (.int 12 u)
  mPush : mg "heappush" = some (.builtin "_heapq.heappush")
  mPop : mg "heappop" = some (.builtin "_heapq.heappop")
section
variable {Pr : Program} {w : World} {K : PySem.W.Frag} {mg : Str → Option Value} {base : Heap} {fd : FuncData} {P : Addr}
theorem scIsWord : FnScope ["thing"] ["thing"] (defScope sIsWord) := ⟨rfl, rfl, rfl, by decide +kernel, rfl, by decide +kernel, by decide +kernel⟩
abbrev aWord : Str × Option Str := ("is_word", none)
def spIsWord (P : Addr) : Sp := fun vs H Q _ => ∃ (l : List Nat), vs = [tx l] ∧ WordOk l ∧ GxR.TabG H P ∧ ∀ H', Sm P H H' → Q (.bl true) H'
theorem ok_isWord (F : FnP K "is_word" sIsWord (He.fAd K aWord) fd) (T : GxR.TabB base mg (He.codeOf K aWord) P) (mT : mg "type" = none) (mStr : mg "str" = none) (mL : mg "len" = none) (mAll : mg "all" = none) {u : Tok} (mN : mg "MOST_SIGNS" = some (.int 10 u)) :
    FnOk Pr w K mg base CX0 1 (He.fAd K aWord) fd ["thing"] (spIsWord P) := by
  refine F.okC scIsWord (fun vs H Q E h => ?_) (fun A' outer s H vs Q E hr h => ?_)
  · obtain ⟨l, rfl, _⟩ := h
    rfl
  · obtain ⟨l, rfl, ⟨l1, l2, l3⟩, hT, q⟩ := h
    refine ⟨_, pss_cons (ps_if (pt_cmpR op_isNotTy (pe_callTy RZ.call_type4 (by rfl) mT boot_type (pa_cons (pv 0) pa_nil)) (pe_bltn (v := .ty "str") (by rfl) mStr boot_str rfl) (nomark _)) (pss_one (ps_ret pe_bl)) pss_nil)
      (pss_cons (ps_if (pt_not (pt_chain op_le op_le pe_int (pe_callB call_len_str (by rfl) mL boot_len (pa_cons (pv 0) pa_nil)) (pe_glob (v := .int 10) (by rfl) mN ⟨_, rfl⟩))) (pss_one (ps_ret pe_bl)) pss_nil)
      (pss_one (ps_ret (GxR.pe_allS hr (by rfl) mAll boot_all T rfl ⟨rfl, rfl, ?gc, rfl, rfl, ?gf⟩ (pv 0) (elt_az rfl rfl) (fun _ => rfl))))), ?_⟩
    case gc =>
      intro y hy e
      simp only [List.mem_cons, List.not_mem_nil, or_false] at hy
      rcases hy with rfl | rfl <;> cases e
    case gf =>
      intro y hy e
      simp only [List.mem_cons, List.not_mem_nil, or_false] at hy
      rcases hy with rfl | rfl <;> cases e
    refine ⟨_, rfl, _, "str", rfl, .str _, "str", "str", rfl, rfl, _, rfl, ?_⟩
    refine iteF ?_
    have ll : (S l).length = l.length := S_len l
    refine ⟨_, rfl, S l, rfl, small_S (by omega), _, _, rfl, rfl, _, rfl, ?_⟩
    refine iteP (by rw [ll]; omega) ⟨_, _, rfl, rfl, _, rfl, ?_⟩
    rw [decide_eq_true (show ((S l).length : Int) ≤ 10 by rw [ll]; omega)]
    refine iteF ?_
    refine ⟨_, rfl, S l, rfl, hT, fun H2 hH => ?_⟩
    have e : (S l).cps.toList.all (fun c => decide (97 ≤ c) && decide (c ≤ 122)) = true := by
      rw [List.all_eq_true]
      intro c hc
      have := l3 c hc
      rw [decide_eq_true this.1, decide_eq_true this.2]
      rfl
    rw [e]
    exact q H2 (.of_tabbed hH)
variable {f fI fC fH : Addr} {fdI fdC fdH : FuncData}
theorem scChecked : FnScope ["words", "found", "thing"] ["words"] (defScope sChecked) := ⟨rfl, rfl, rfl, by decide +kernel, rfl, by decide +kernel, by decide +kernel⟩
def spChecked (P : Addr) : Sp := fun vs H Q _ => ∃ (b : Addr) (ws : List (List Nat)), vs = [.ref b] ∧ H b = some (.lst (ws.map tx)) ∧ CodeOk ws ∧ GxR.TabG H P ∧
  ∀ (r : Addr) (vs : List (List Nat)) (H' : Hp), Sm P H H' → H r = none → H' r = some (.lst (vs.map tx)) → vs.Perm ws → sortedS (vs.map S) = true → Q (.ref r) H'
/-- the program's is_word, as it stands behind the top -/
structure HasI (K : PySem.W.Frag) (mg : Str → Option Value) (base : Heap) (P : Addr) (fd : FuncData) : Prop where
  F : FnP K "is_word" sIsWord (He.fAd K aWord) fd
  g : mg "is_word" = some (.ref (He.fAd K aWord))
  b : Binds K fd ["thing"] []
  T : GxR.TabB base mg (He.codeOf K aWord) P
theorem ok_checked (F : FnP K "checked" sChecked f fd) (I : HasI K mg base P fdI) (B : Bl mg) : FnOk Pr w K mg base CX0 2 f fd ["words"] (spChecked P) := by
  obtain ⟨u10, mN⟩ := B.mN
  obtain ⟨u12, mM⟩ := B.mM
  have GI : FnOk Pr w K mg base CX0 1 (He.fAd K aWord) fdI ["thing"] (spIsWord P) := ok_isWord I.F I.T B.mT B.mStr B.mL B.mAll mN
  refine F.okN scChecked (fun vs H Q E h => ?_) (fun cdv A' outer s H vs Q E hr h => ?_)
  · obtain ⟨b, ws, rfl, _⟩ := h
    rfl
  · obtain ⟨b, ws, rfl, hB, ⟨c1, c2, c3⟩, hT, q⟩ := h
    refine ⟨_, pss_cons (ps_if (pt_cmpR op_isNotTy (pe_callTy RZ.call_type4 (by rfl) B.mT boot_type (pa_cons (pv 0) pa_nil)) (pe_bltn (v := .ty "list") (by rfl) B.mList boot_list rfl) (nomark _)) pss_never pss_nil)
      (pss_cons (ps_if (pt_cmpR op_gt (pe_callB call_len_seq (by rfl) B.mL boot_len (pa_cons (pv 0) pa_nil)) (pe_glob (v := .int 12) (by rfl) mM ⟨_, rfl⟩) (nomark _)) pss_never pss_nil)
      (pss_cons (ps_set (i := 1) scChecked.nd rfl (.inl rfl) (pe_lst pa_nil))
      (pss_cons (ps_for PassesOwn.never rfl (pi_list (pv 0)) (pg_name (i := 2) scChecked.nd rfl (Or.inl rfl))
        (pss_cons (ps_if (pt_not (pt_val (pe_call GI hr (by rfl) I.g I.F.kp I.b .nil pass0 (pa_cons (pv 2) pa_nil)))) pss_never pss_nil)
        (pss_cons (ps_if (pt_cmpR op_in_seq (pv 2) (pv 1) (by rfl)) pss_never pss_nil)
        (pss_one (ps_expr (pe_bm PySem.F.plainAttrs_list PySem.F.slot_list_append PySem.F.type_list_append mt_append (pv 1) (pa_cons (pv 2) pa_nil)))))))
      (pss_one (ps_ret (pe_callB cr_sortedS (by rfl) B.mSorted boot_sorted (pa_cons (pv 1) pa_nil))))))), ?_⟩
    refine ⟨_, rfl, _, "list", rfl, .lst hB, "list", "list", rfl, rfl, _, rfl, ?_⟩
    refine iteF ?_
    refine ⟨_, rfl, b, _, rfl, .inl (seqL hB), _, _, rfl, rfl, _, rfl, iteN (by rw [List.length_map]; omega) ?_⟩
    refine ⟨Nat.zero_le _, fun g hg => ?_⟩
    have s1 : Same H (upd H g (.lst [])) := same_upd hg
    have m1 : Sm P H (upd H g (.lst [])) := .of_same hT s1
    have hbg : b ≠ g := ne_of_none hB hg
    have ngP : g ≠ P := TabG.ne m1.tab upd_same
    refine ⟨_, rfl, b, rfl, ⟨_, seqL (s1 _ _ hB)⟩, for_list (K := K) (a := b) (xs := ws.map tx) (fun i σ H3 => Sm P H H3 ∧ ∃ (kv : Option V), σ = [some (.ref b), some (.ref g), kv] ∧ H3 g = some (.lst ((ws.take i).map tx))) ?_ ?_ ?_ ?_⟩
    · exact ⟨m1, none, rfl, upd_same⟩
    · exact fun i σ H3 _ hh => seqL (Sm.lst hT hh.1 hB)
    · rintro i x σ H3 hx ⟨sm, kv, rfl, eg⟩
      have hj : i < ws.length := by
        have := (List.getElem?_eq_some_iff.mp hx).1
        rw [List.length_map] at this
        exact this
      have hxe : x = tx ws[i] := by
        rw [List.getElem?_map, List.getElem?_eq_getElem hj] at hx
        exact (Option.some.inj hx).symm
      subst hxe
      refine ⟨_, rfl, ws[i], rfl, c3 _ (List.getElem_mem hj), sm.tab, fun H4 sm4 => ⟨_, rfl, ?_⟩⟩
      refine iteF ?_
      have eg4 : H4 g = some (.lst ((ws.take i).map tx)) := sm4.keep _ _ ngP eg
      refine ⟨_, rfl, _, rfl, g, _, rfl, .inl (seqL eg4), rfl, flat_tx _, _, rfl, ?_⟩
      have hni : ws[i] ∉ ws.take i := by
        intro z
        obtain ⟨j, hj2, e2⟩ := List.mem_iff_getElem.mp z
        rw [List.length_take] at hj2
        rw [List.getElem_take] at e2
        have := (List.getElem_inj c2).mp e2
        omega
      rw [show (if (false : Bool) = true then !inV (tx ws[i]) ((ws.take i).map tx) else inV (tx ws[i]) ((ws.take i).map tx)) = decide (ws[i] ∈ ws.take i) from inV_tx _ _]
      refine iteN hni ?_
      refine ⟨_, rfl, .inl ⟨rfl, _, seqL eg4⟩, _, rfl, g, _, _, rfl, rfl, eg4, by rw [List.length_map, List.length_take]; exact small1000 (by omega), ?_⟩
      refine ⟨⟨tab_upd sm4.tab ngP, fun d o n e => ?_⟩, _, rfl, ?_⟩
      · rw [upd_ne (ne_of_none e hg)]
        exact sm4.keep _ _ n (sm.keep _ _ n e)
      · rw [upd_same, List.take_add_one, List.getElem?_eq_getElem hj, List.map_append]
        rfl
    · rintro σ H3 ⟨sm, kv, rfl, eg⟩
      rw [List.length_map, List.take_length] at eg
      refine ⟨_, rfl, g, ws.map S, rfl, seqL (by rw [← map_tx]; exact eg), by rw [List.length_map]; omega, fun ys r perm so hr0 => ?_⟩
      have e1 : (ys.map TL.tl).map S = ys := by
        rw [List.map_map]
        have : (S ∘ TL.tl) = id := funext fun z => S_tl z
        rw [this, List.map_id]
      refine q r (ys.map TL.tl) _ (sm.andThen (same_upd hr0)) (Sm.free hT sm hr0) ?_ ?_ ?_
      · rw [upd_same, map_tx, e1]
      · have := perm.map TL.tl
        rw [map_S_tl] at this
        exact this
      · rw [e1]
        exact so
end
theorem dp_ints {K : PySem.W.Frag} {H : Hp} : ∀ ns : List Int, DpAll K H (ns.map V.int) (ns.map PyData.int)
  | [] => .nil
  | x :: r => .cons (.int x) (dp_ints r)
theorem shaped_ints (ns : List Int) : SeqAt.shaped (.list (ns.map PyData.int)) = true := PySem.W.ke_shaped_ints ns
theorem eqv_ints (ns : List Int) : PyData.eqv (.list (ns.map PyData.int)) (.list (ns.map PyData.int)) = true := PySem.SeqAt.eqv_refl _ (PySem.SeqAt.canLay_of_shaped (shaped_ints ns))
/-! ### how two texts begin -/
/-- the greatest length of a text with which both begin -/
def shd : List Nat → List Nat → Nat
  | x :: a, y :: b => if x = y then shd a b + 1 else 0
  | _, _ => 0
theorem shd_le : ∀ a b : List Nat, shd a b ≤ a.length ∧ shd a b ≤ b.length
  | [], _ => ⟨Nat.zero_le _, Nat.zero_le _⟩
  | _ :: _, [] => ⟨Nat.zero_le _, Nat.zero_le _⟩
  | x :: a, y :: b => by
    show (if x = y then shd a b + 1 else 0) ≤ _ ∧ (if x = y then shd a b + 1 else 0) ≤ _
    have ih := shd_le a b
    by_cases h : x = y
    · rw [if_pos h, List.length_cons, List.length_cons]
      omega
    · rw [if_neg h]
      exact ⟨Nat.zero_le _, Nat.zero_le _⟩
theorem shd_stop : ∀ {i : Nat} {a b : List Nat} {c d : Nat}, a.take i = b.take i → a[i]? = some c → b[i]? = some d → c ≠ d → shd a b = i
  | 0, x :: a, y :: b, c, d, _, h1, h2, n => by
    have e1 : x = c := Option.some.inj h1
    have e2 : y = d := Option.some.inj h2
    show (if x = y then shd a b + 1 else 0) = 0
    rw [if_neg fun z => n (by rw [← e1, ← e2, z])]
  | i + 1, x :: a, y :: b, c, d, h, h1, h2, n => by
    have h' : x :: a.take i = y :: b.take i := h
    have e := (List.cons.inj h').1
    show (if x = y then shd a b + 1 else 0) = i + 1
    rw [if_pos e, shd_stop (List.cons.inj h').2 h1 h2 n]
  | _, [], _, _, _, _, h1, _, _ => by cases h1
  | _, _ :: _, [], _, _, _, _, h2, _ => by cases h2
theorem shd_all : ∀ {i : Nat} {a b : List Nat}, a.take i = b.take i → (i = a.length ∨ i = b.length) → i ≤ a.length → i ≤ b.length → shd a b = i
  | 0, [], _, _, _, _, _ => rfl
  | 0, _ :: _, [], _, _, _, _ => rfl
  | 0, x :: a, y :: b, _, h, _, _ => by
    rcases h with h | h
    · cases h
    · cases h
  | i + 1, x :: a, y :: b, h, hl, h1, h2 => by
    have h' : x :: a.take i = y :: b.take i := h
    have e := (List.cons.inj h').1
    show (if x = y then shd a b + 1 else 0) = i + 1
    rw [if_pos e, shd_all (List.cons.inj h').2 (hl.elim (fun z => .inl (Nat.succ.inj z)) fun z => .inr (Nat.succ.inj z)) (Nat.le_of_succ_le_succ h1) (Nat.le_of_succ_le_succ h2)]
  | i + 1, [], _, _, _, h1, _ => absurd h1 (Nat.not_succ_le_zero i)
  | i + 1, _ :: _, [], _, _, _, h2 => absurd h2 (Nat.not_succ_le_zero i)
theorem take_next {i c : Nat} {a b : List Nat} (h : a.take i = b.take i) (h1 : a[i]? = some c) (h2 : b[i]? = some c) : a.take (i + 1) = b.take (i + 1) := by
  rw [List.take_add_one, List.take_add_one, h, h1, h2]
/-- the rest that a rest goes on to by a word, and whether the word goes beyond -/
def stp (r w : List Nat) : Option (List Nat × Bool) := if hit w r = true then some (r.drop w.length, false) else if hit r w = true then some (w.drop r.length, true) else none
theorem hit_nil (r : List Nat) : hit [] r = true := hit_iff.mpr rfl
theorem to_eq {t b : List Nat} : decide (V.str (cutS (S t) none (some (b.length : Int))) = V.str (S b)) = hit b t := by
  rw [cut_to (by omega), tx_eq, Int.toNat_natCast, Bool.eq_iff_iff, decide_eq_true_eq, hit_iff]
theorem from_len {t : List Nat} {n : Nat} : V.str (cutS (S t) (some (n : Int)) none) = tx (t.drop n) := by
  rw [cut_from (by omega), Int.toNat_natCast]
theorem S_get {a : List Nat} {i : Nat} : (S a).cps[i]? = a[i]? := by
  show a.toArray[i]? = a[i]?
  rw [List.getElem?_toArray]
section
variable {Pr : Program} {w : World} {K : PySem.W.Frag} {mg : Str → Option Value} {base : Heap} {f : Addr} {fd : FuncData}
def spShared : Sp := fun vs H Q _ => ∃ a b : List Nat, vs = [tx a, tx b] ∧ a.length ≤ 100000 ∧ b.length ≤ 100000 ∧ ∀ H', Same H H' → Q (.int (shd a b : Nat)) H'
def spLeft : Sp := fun vs H Q _ => ∃ a b : List Nat, vs = [tx a, tx b] ∧ a.length ≤ 100000 ∧ b.length ≤ 100000 ∧ Q (if hit b a = true then tx (a.drop b.length) else .non) H
def spStep : Sp := fun vs H Q _ => ∃ r v : List Nat, vs = [tx r, tx v] ∧ r.length ≤ 1000 ∧ v.length ≤ 1000 ∧ (stp r v = none → Q .non H) ∧ (∀ x b, stp r v = some (x, b) → ∀ (p : Addr) (H' : Hp), Same H H' → H p = none → H' p = some (.tup [tx x, .bl b]) → Q (.ref p) H')
theorem scLeft : FnScope ["text", "other"] ["text", "other"] (defScope s_left_of) := ⟨rfl, rfl, rfl, by decide +kernel, rfl, by decide +kernel, by decide +kernel⟩
theorem start_all (x y : List Nat) : Txt.startswith (S x) (S y) = hit y x := by
  by_cases h : y = []
  · subst h
    rw [hit_nil]
    unfold Txt.startswith
    simp [Builtin.Str.subAt, S, Str.length]
  · exact start1 h
theorem ok_left (F : FnP K "left_of" s_left_of f fd) (B : Bl mg) : FnOk Pr w K mg base CX0 1 f fd ["text", "other"] spLeft := by
  refine F.okN scLeft (fun vs H Q E h => ?_) (fun cdv A' outer s H vs Q E hr h => ?_)
  · obtain ⟨a, b, rfl, _⟩ := h
    rfl
  · obtain ⟨a, b, rfl, ha, hb, q⟩ := h
    refine ⟨_, pss_cons (ps_if (pt_val (pe_bm PySem.F.plainAttrs_str PySem.F.slot_str_startswith PySem.F.type_str_startswith mt_startswith (pv 0) (pa_cons (pv 1) pa_nil))) (pss_one (ps_ret (pe_slice sl_str (pv 0) (po_some (pe_callB call_len_str (by rfl) B.mL boot_len (pa_cons (pv 1) pa_nil))) po_none))) pss_nil) (pss_one (ps_ret pe_non)), ?_⟩
    have za : (S a).length ≤ sizeLine := small_T ha
    have zb : (S b).length ≤ sizeLine := small_T hb
    refine ⟨_, rfl, rfl, _, rfl, S a, S b, rfl, rfl, _, rfl, ?_⟩
    rw [start_all]
    refine ite2 (fun c => ?_) (fun c => ?_)
    · rw [if_pos c] at q
      refine ⟨_, rfl, _, rfl, S b, rfl, zb, (b.length : Int), len_v _, S a, rfl, za, ?_⟩
      rw [from_len]
      exact q
    · rw [if_neg c] at q
      exact q
end
section
variable {Pr : Program} {w : World} {K : PySem.W.Frag} {mg : Str → Option Value} {base : Heap} {f : Addr} {fd : FuncData}
end
/-- the defs of the text, each as it stands behind the top -/
structure Defs (K : PySem.W.Frag) (mg : Str → Option Value) : Prop where
  d_checked : There K mg "checked" sChecked ["words"]
  d_left_of : There K mg "left_of" s_left_of ["text", "other"]
  d_stepped : There K mg "stepped" s_stepped ["rest", "word"]
  d_double : There K mg "double" s_double ["words"]
  d_meetings : There K mg "meetings" s_meetings ["code"]
  d__first_meetings : There K mg "_first_meetings" s__first_meetings ["code"]
  d__further_meetings : There K mg "_further_meetings" s__further_meetings ["code", "length", "rest", "one", "other"]
  d__law_at : There K mg "_law_at" sAt ["_law_script", "_law_k"]
  d__law_mixed : There K mg "_law_mixed" sMixed ["_law_cell", "_law_k"]
  d__law_short_words : There K mg "_law_short_words" s__law_short_words ["_law_script"]
  d__law_two_ways : There K mg "_law_two_ways" s__law_two_ways ["_law_words", "_law_texts"]
/-- the classes of errors -/
structure Exs (K : PySem.W.Frag) (mg : Str → Option Value) : Prop where
  c_CodeError : He.ga K "CodeError" = He.ga K "CodeError"
  g_CodeError : mg "CodeError" = some (.ref (He.ga K "CodeError"))
  x_CodeError : (He.Fa.exc "CodeError").ok K = true
  c_BadCode : He.ga K "BadCode" = He.ga K "BadCode"
  g_BadCode : mg "BadCode" = some (.ref (He.ga K "BadCode"))
  x_BadCode : (He.Fa.exc "BadCode").ok K = true
  c_Full : He.ga K "Full" = He.ga K "Full"
  g_Full : mg "Full" = some (.ref (He.ga K "Full"))
  x_Full : (He.Fa.exc "Full").ok K = true
  c_BadWord : He.ga K "BadWord" = He.ga K "BadWord"
  g_BadWord : mg "BadWord" = some (.ref (He.ga K "BadWord"))
  x_BadWord : (He.Fa.exc "BadWord").ok K = true
  c_Twice : He.ga K "Twice" = He.ga K "Twice"
  g_Twice : mg "Twice" = some (.ref (He.ga K "Twice"))
  x_Twice : (He.Fa.exc "Twice").ok K = true
section
variable {Pr : Program} {w : World} {K : PySem.W.Frag} {mg : Str → Option Value} {base : Heap}
def spLaw (K : PySem.W.Frag) (P : Addr) : Sp := fun vs H Q _ => ∃ (a : Addr) (ns : List Int), vs = [.ref a] ∧ SqL K H a (ns.map V.int) ∧ GxR.TabG H P ∧ ∀ H', Q (.bl true) H'
end

section
variable {Pr : Program} {w : World} {K : PySem.W.Frag} {mg : Str → Option Value} {base : Heap} {f fL : Addr} {fd fdL : FuncData}
theorem scStepped : FnScope ["rest", "word", "left"] ["rest", "word"] (defScope s_stepped) := ⟨rfl, rfl, rfl, by decide +kernel, rfl, by decide +kernel, by decide +kernel⟩
theorem ok_stepped (F : FnP K "stepped" s_stepped f fd) (L : Has K mg "left_of" s_left_of ["text", "other"] fL fdL) (B : Bl mg) : FnOk Pr w K mg base CX0 2 f fd ["rest", "word"] spStep := by
  have GL : FnOk Pr w K mg base CX0 1 fL fdL ["text", "other"] spLeft := ok_left L.F B
  refine F.okN scStepped (fun vs H Q E h => ?_) (fun cdv A' outer s H vs Q E hr h => ?_)
  · obtain ⟨a, b, rfl, _⟩ := h
    rfl
  · obtain ⟨a, b, rfl, ha, hb, q0, q⟩ := h
    refine ⟨_, pss_cons (ps_set (i := 2) scStepped.nd rfl (.inl rfl) (pe_call GL hr (by rfl) L.g L.F.kp L.b .nil pass0 (pa_cons (pv 0) (pa_cons (pv 1) pa_nil))))
      (pss_cons (ps_if (pt_cmpR op_notN (pv 2) pe_non (nomark _)) (pss_one (ps_ret (pe_tup (pa_cons (pv 2) (pa_cons pe_bl pa_nil))))) pss_nil)
      (pss_cons (ps_set (i := 2) scStepped.nd rfl (.inl rfl) (pe_call GL hr (by rfl) L.g L.F.kp L.b .nil pass0 (pa_cons (pv 1) (pa_cons (pv 0) pa_nil))))
      (pss_cons (ps_if (pt_cmpR op_notN (pv 2) pe_non (nomark _)) (pss_one (ps_ret (pe_tup (pa_cons (pv 2) (pa_cons pe_bl pa_nil))))) pss_nil)
      (pss_one (ps_ret pe_non))))), ?_⟩
    unfold stp at q0 q
    refine ⟨_, rfl, _, rfl, a, b, rfl, by omega, by omega, ?_⟩
    by_cases c : hit b a = true
    · rw [if_pos c] at q
      rw [if_pos c]
      refine ⟨_, rfl, rfl, _, rfl, ?_⟩
      refine iteNN (fun z => nomatch z) ⟨_, rfl, by show 2 ≤ sizeLine; decide, fun p hp => q _ _ rfl p _ (same_upd hp) hp upd_same⟩
    · rw [if_neg c] at q q0
      rw [if_neg c]
      refine ⟨_, rfl, rfl, _, rfl, iteNP rfl ?_⟩
      refine ⟨_, rfl, _, rfl, b, a, rfl, by omega, by omega, ?_⟩
      by_cases c2 : hit a b = true
      · rw [if_pos c2] at q
        rw [if_pos c2]
        refine ⟨_, rfl, rfl, _, rfl, ?_⟩
        refine iteNN (fun z => nomatch z) ⟨_, rfl, by show 2 ≤ sizeLine; decide, fun p hp => q _ _ rfl p _ (same_upd hp) hp upd_same⟩
      · rw [if_neg c2] at q0
        rw [if_neg c2]
        exact ⟨_, rfl, rfl, _, rfl, iteNP rfl (q0 rfl)⟩
end
/-! ### rests that rows lead to, and their leasts -/
/-- a rest that two rows lead to, the one's text so long -/
inductive Off (ws : List (List Nat)) : List Nat → Nat → Prop where
  | new {w o : List Nat} : w ∈ ws → o ∈ ws → w ≠ o → hit o w = true → Off ws (w.drop o.length) w.length
  | go {r w x : List Nat} {n : Nat} {b : Bool} : Off ws r n → w ∈ ws → stp r w = some (x, b) → Off ws x (n + if b = true then x.length else 0)
def Lst (ws : List (List Nat)) (r : List Nat) (n : Nat) : Prop := Off ws r n ∧ ∀ m, Off ws r m → n ≤ m
section
variable {ws vs : List (List Nat)}
theorem lst_of {r : List Nat} : ∀ {m : Nat}, Off ws r m → ∃ n, n ≤ m ∧ Lst ws r n := by
  intro m
  induction m using Nat.strongRecOn with
  | _ m ih =>
    intro h
    by_cases c : ∃ k, k < m ∧ Off ws r k
    · obtain ⟨k, hk, ho⟩ := c
      obtain ⟨n, hn, hl⟩ := ih k hk ho
      exact ⟨n, by omega, hl⟩
    · refine ⟨m, Nat.le_refl _, h, fun k hk => ?_⟩
      by_cases z : k < m
      · exact absurd ⟨k, z, hk⟩ c
      · omega
theorem Lst.one {r : List Nat} {n m : Nat} (h : Lst ws r n) (g : Lst ws r m) : n = m := Nat.le_antisymm (h.2 _ g.1) (g.2 _ h.1)
theorem Off.perm (h : ∀ x, x ∈ vs ↔ x ∈ ws) {r : List Nat} {n : Nat} (o : Off vs r n) : Off ws r n := by
  induction o with
  | new a b c d => exact .new ((h _).mp a) ((h _).mp b) c d
  | go _ b c ih => exact .go ih ((h _).mp b) c
theorem Lst.perm (h : ∀ x, x ∈ vs ↔ x ∈ ws) {r : List Nat} {n : Nat} (o : Lst vs r n) : Lst ws r n := ⟨o.1.perm h, fun m q => o.2 m (q.perm fun x => (h x).symm)⟩
theorem stp_end {r w x : List Nat} {b : Bool} (h : stp r w = some (x, b)) : (∃ k, x = r.drop k) ∨ ∃ k, x = w.drop k := by
  unfold stp at h
  by_cases c : hit w r = true
  · rw [if_pos c] at h
    cases h
    exact .inl ⟨_, rfl⟩
  · rw [if_neg c] at h
    by_cases c2 : hit r w = true
    · rw [if_pos c2] at h
      cases h
      exact .inr ⟨_, rfl⟩
    · rw [if_neg c2] at h
      cases h
theorem Off.tail {r : List Nat} {n : Nat} (o : Off ws r n) : ∃ w ∈ ws, ∃ k, r = w.drop k := by
  induction o with
  | new a _ _ _ => exact ⟨_, a, _, rfl⟩
  | go _ b c ih =>
    rcases stp_end c with ⟨k, e⟩ | ⟨k, e⟩
    · obtain ⟨w, hw, j, ej⟩ := ih
      exact ⟨w, hw, j + k, by rw [e, ej, List.drop_drop]⟩
    · exact ⟨_, b, k, e⟩
theorem Off.let (hw : ∀ x ∈ ws, WordOk x) {r : List Nat} {n : Nat} (o : Off ws r n) : Let r ∧ r.length ≤ 10 := by
  obtain ⟨w, m, k, e⟩ := o.tail
  obtain ⟨_, h2, h3⟩ := hw w m
  rw [e]
  exact ⟨let_drop h3 _, by rw [List.length_drop]; omega⟩
theorem nodup_sub {α : Type} [DecidableEq α] : ∀ {l m : List α}, l.Nodup → (∀ x ∈ l, x ∈ m) → l.length ≤ m.length
  | [], _, _, _ => Nat.zero_le _
  | x :: l, m, nd, h => by
    have hx := h x List.mem_cons_self
    obtain ⟨n1, n2⟩ := List.nodup_cons.mp nd
    have ih := nodup_sub (l := l) (m := m.erase x) n2 fun y hy => (List.mem_erase_of_ne fun (e : y = x) => n1 (by rw [← e]; exact hy)).mpr (h y (List.mem_cons_of_mem _ hy))
    rw [List.length_erase_of_mem hx] at ih
    have : 1 ≤ m.length := List.length_pos_of_mem hx
    rw [List.length_cons]
    omega
theorem tails_len (ws : List (List Nat)) : (ws.flatMap fun w => (List.range 11).map fun k => w.drop k).length = ws.length * 11 := by
  induction ws with
  | nil => rfl
  | cons x ws ih => rw [List.flatMap_cons, List.length_append, ih, List.length_map, List.length_range, List.length_cons]; omega
theorem Off.in_tails (hw : ∀ x ∈ ws, WordOk x) {r : List Nat} {n : Nat} (o : Off ws r n) : r ∈ ws.flatMap fun w => (List.range 11).map fun k => w.drop k := by
  obtain ⟨w, m, k, e⟩ := o.tail
  have h2 := (hw w m).2.1
  refine List.mem_flatMap.mpr ⟨w, m, List.mem_map.mpr ?_⟩
  by_cases h : k < 11
  · exact ⟨k, List.mem_range.mpr h, e.symm⟩
  · refine ⟨10, List.mem_range.mpr (by decide), ?_⟩
    show w.drop 10 = r
    rw [e, List.drop_of_length_le (by omega), List.drop_of_length_le (by omega)]
/-- the table of the leasts: each rest once -/
def LD (ws : List (List Nat)) (es : List (List Nat × Nat)) : Prop := (es.map (·.1)).Nodup ∧ ∀ r n, (r, n) ∈ es ↔ Lst ws r n
theorem LD.len {es : List (List Nat × Nat)} (h : LD ws es) (hw : ∀ x ∈ ws, WordOk x) : es.length ≤ ws.length * 11 := by
  have q := nodup_sub h.1 (m := ws.flatMap fun w => (List.range 11).map fun k => w.drop k) fun x hx => by
    obtain ⟨p, hp, e⟩ := List.mem_map.mp hx
    rw [← e]
    exact ((h.2 p.1 p.2).mp hp).1.in_tails hw
  rw [List.length_map, tails_len] at q
  exact q
theorem LD.perm (p : ∀ x, x ∈ vs ↔ x ∈ ws) {es : List (List Nat × Nat)} (h : LD vs es) : LD ws es := ⟨h.1, fun r n => (h.2 r n).trans ⟨fun q => q.perm p, fun q => q.perm fun x => (p x).symm⟩⟩
end
/-- such a table as a dict -/
def dkv (es : List (List Nat × Nat)) : List (Key × V) := es.map fun e => (Sum.inr (S e.1), V.int (e.2 : Int))
theorem dkv_len (es : List (List Nat × Nat)) : (dkv es).length = es.length := List.length_map _
theorem dkv_in : ∀ {es : List (List Nat × Nat)} {r : List Nat} {n : Nat}, (es.map (·.1)).Nodup → (r, n) ∈ es → valV (dkv es) (Sum.inr (S r)) = some (V.int (n : Int))
  | [], _, _, _, h => nomatch h
  | e :: es, r, n, nd, h => by
    obtain ⟨n1, n2⟩ := List.nodup_cons.mp nd
    rcases List.mem_cons.mp h with z | z
    · rw [← z]
      exact valV_pos rfl
    · have ne : ¬ (Sum.inr (S e.1) : Key) = Sum.inr (S r) := fun q => by
        have q2 := S_inj (Sum.inr.inj q)
        exact n1 (List.mem_map.mpr ⟨(r, n), z, q2.symm⟩)
      exact (valV_neg ne).trans (dkv_in n2 z)
theorem dkv_out : ∀ {es : List (List Nat × Nat)} {r : List Nat}, (∀ n, (r, n) ∉ es) → valV (dkv es) (Sum.inr (S r)) = none
  | [], _, _ => rfl
  | e :: es, r, h => by
    have ne : ¬ (Sum.inr (S e.1) : Key) = Sum.inr (S r) := fun q => by
      have q2 := S_inj (Sum.inr.inj q)
      exact h e.2 (by rw [← q2]; exact List.mem_cons_self)
    exact (valV_neg ne).trans (dkv_out fun n hn => h n (List.mem_cons_of_mem _ hn))
theorem LD.same {ws : List (List Nat)} {es fs : List (List Nat × Nat)} (h : LD ws es) (g : LD ws fs) : (dkv es).length = (dkv fs).length ∧ ∀ p ∈ dkv es, valV (dkv fs) p.1 = some p.2 ∧ flatB p.2 = true := by
  constructor
  · rw [dkv_len, dkv_len]
    have sub : ∀ {a b : List (List Nat × Nat)}, LD ws a → LD ws b → a.length ≤ b.length := fun {a b} ha hb => by
      have q := nodup_sub ha.1 (m := b.map (·.1)) fun x hx => by
        obtain ⟨p, hp, e⟩ := List.mem_map.mp hx
        exact List.mem_map.mpr ⟨p, (hb.2 p.1 p.2).mpr ((ha.2 p.1 p.2).mp hp), e⟩
      rw [List.length_map, List.length_map] at q
      exact q
    exact Nat.le_antisymm (sub h g) (sub g h)
  · intro p hp
    obtain ⟨e, he, rfl⟩ := List.mem_map.mp hp
    exact ⟨dkv_in g.1 ((g.2 e.1 e.2).mpr ((h.2 e.1 e.2).mp he)), rfl⟩
/-- what a table of leasts offers, and that each of its rests is met -/
theorem LD.closed {ws : List (List Nat)} {es : List (List Nat × Nat)} (h : LD ws es) {r : List Nat} {m : Nat} (o : Off ws r m) : ∃ n, n ≤ m ∧ (r, n) ∈ es := by
  obtain ⟨n, hn, hl⟩ := lst_of o
  exact ⟨n, hn, (h.2 r n).mpr hl⟩
theorem LD.met {ws : List (List Nat)} {es : List (List Nat × Nat)} (h : LD ws es) {r : List Nat} {n : Nat} (hr : (r, n) ∈ es) :
    (∃ w ∈ ws, ∃ o ∈ ws, w ≠ o ∧ hit o w = true ∧ r = w.drop o.length ∧ n = w.length) ∨ ∃ q ∈ es, ∃ w ∈ ws, ∃ b, stp q.1 w = some (r, b) ∧ n = q.2 + if b = true then r.length else 0 := by
  have hl := (h.2 r n).mp hr
  obtain ⟨m, hm⟩ : ∃ m, m = n := ⟨n, rfl⟩
  have ho := hl.1
  rw [← hm] at ho
  cases ho with
  | new a b c d => exact .inl ⟨_, a, _, b, c, d, rfl, hm.symm⟩
  | @go r0 w _ n0 b o1 hw hs =>
    obtain ⟨k, hk, hin⟩ := h.closed o1
    have hk2 := ((h.2 r0 k).mp hin).1
    have := hl.2 _ (.go hk2 hw hs)
    exact .inr ⟨(r0, k), hin, w, hw, b, hs, by omega⟩
/-! ### rows that meet -/
/-- two rows meet and lead to the rest r, the one's text n long -/
structure Mt (ws : List (List Nat)) (n : Nat) (r : List Nat) (one other : List (List Nat)) : Prop where
  w1 : ∀ x ∈ one, x ∈ ws
  w2 : ∀ x ∈ other, x ∈ ws
  hd : ∃ a b, one.head? = some a ∧ other.head? = some b ∧ a ≠ b
  eq : one.flatten = other.flatten ++ r
  len : n = one.flatten.length
  short : one.dropLast.flatten.length ≤ other.flatten.length
  off : Off ws r n
theorem Mt.new {ws : List (List Nat)} {w o : List Nat} (hw : w ∈ ws) (ho : o ∈ ws) (ne : w ≠ o) (h : hit o w = true) : Mt ws w.length (w.drop o.length) [w] [o] := by
  refine ⟨fun x hx => by rw [List.mem_singleton.mp hx]; exact hw, fun x hx => by rw [List.mem_singleton.mp hx]; exact ho, ⟨w, o, rfl, rfl, ne⟩, ?_, by simp, by simp, .new hw ho ne h⟩
  have := hit_iff.mp h
  simp only [List.flatten_cons, List.flatten_nil, List.append_nil]
  conv => lhs; rw [← List.take_append_drop o.length w]
  rw [this]
theorem head_app {α : Type} {l m : List α} {a : α} (h : l.head? = some a) : (l ++ m).head? = some a := by
  cases l with
  | nil => cases h
  | cons x l => exact h
theorem flat_one {l : List (List Nat)} {w : List Nat} : (l ++ [w]).flatten = l.flatten ++ w := by simp
theorem Mt.on {ws : List (List Nat)} {n : Nat} {r : List Nat} {one other : List (List Nat)} (m : Mt ws n r one other) {w x : List Nat} (hw : w ∈ ws) (h : stp r w = some (x, false)) : Mt ws n x one (other ++ [w]) := by
  obtain ⟨a, b, ha, hb, ne⟩ := m.hd
  have h2 : hit w r = true ∧ x = r.drop w.length := by
    unfold stp at h
    by_cases c : hit w r = true
    · rw [if_pos c] at h
      cases h
      exact ⟨c, rfl⟩
    · rw [if_neg c] at h
      by_cases c2 : hit r w = true
      · rw [if_pos c2] at h
        cases h
      · rw [if_neg c2] at h
        cases h
  have h3 := hit_iff.mp h2.1
  refine ⟨m.w1, fun y hy => (List.mem_append.mp hy).elim (m.w2 y) fun z => by rw [List.mem_singleton.mp z]; exact hw, ⟨a, b, ha, head_app hb, ne⟩, ?_, m.len, ?_, ?_⟩
  · rw [m.eq, flat_one, List.append_assoc]
    congr 1
    conv => lhs; rw [← List.take_append_drop w.length r]
    rw [h3, h2.2]
  · rw [flat_one, List.length_append]
    have := m.short
    omega
  · have := Off.go m.off hw h
    exact this
theorem Mt.over {ws : List (List Nat)} {n : Nat} {r : List Nat} {one other : List (List Nat)} (m : Mt ws n r one other) {w x : List Nat} (hw : w ∈ ws) (h : stp r w = some (x, true)) : Mt ws (n + x.length) x (other ++ [w]) one := by
  obtain ⟨a, b, ha, hb, ne⟩ := m.hd
  have h2 : hit r w = true ∧ x = w.drop r.length := by
    unfold stp at h
    by_cases c : hit w r = true
    · rw [if_pos c] at h
      cases h
    · rw [if_neg c] at h
      by_cases c2 : hit r w = true
      · rw [if_pos c2] at h
        cases h
        exact ⟨c2, rfl⟩
      · rw [if_neg c2] at h
        cases h
  have h3 := hit_iff.mp h2.1
  have e : (other ++ [w]).flatten = one.flatten ++ x := by
    rw [flat_one, m.eq, List.append_assoc]
    congr 1
    conv => lhs; rw [← List.take_append_drop r.length w]
    rw [h3, h2.2]
  refine ⟨fun y hy => (List.mem_append.mp hy).elim (m.w2 y) fun z => by rw [List.mem_singleton.mp z]; exact hw, m.w1, ⟨b, a, head_app hb, ha, Ne.symm ne⟩, e, ?_, ?_, ?_⟩
  · rw [e, List.length_append, ← m.len]
  · rw [List.dropLast_concat, m.eq, List.length_append]
    omega
  · have := Off.go m.off hw h
    exact this
/-- an entry of the queue: its tuple, and what stands in it -/
structure Ent where
  T : Addr
  n : Nat
  r : List Nat
  oA : Addr
  pA : Addr
  one : List (List Nat)
  other : List (List Nat)
structure Ent.At (H : Hp) (e : Ent) : Prop where
  t : H e.T = some (.tup [.int (e.n : Int), tx e.r, .ref e.oA, .ref e.pA])
  o : H e.oA = some (.lst (e.one.map tx))
  p : H e.pA = some (.lst (e.other.map tx))
abbrev Ent.mt (ws : List (List Nat)) (e : Ent) : Prop := Mt ws e.n e.r e.one e.other
/-- what an entry's objects are to the heap before -/
structure Ent.New (H : Hp) (e : Ent) : Prop where
  t : H e.T = none
  o : H e.oA = none
  p : H e.pA = none
/-- the heap is kept but at q -/
def SameBut (q : Addr) (H H' : Hp) : Prop := ∀ b o, b ≠ q → H b = some o → H' b = some o
theorem texts_ne_refs {l : List (List Nat)} (h : l ≠ []) {us : List Addr} : HO.lst (l.map tx) ≠ HO.lst (us.map V.ref) := by
  intro e
  have e2 := HO.lst.inj e
  cases l with
  | nil => exact h rfl
  | cons x l =>
    cases us with
    | nil => cases e2
    | cons u us => cases (List.cons.inj e2).1
theorem Mt.ne1 {ws : List (List Nat)} {n : Nat} {r : List Nat} {one other : List (List Nat)} (m : Mt ws n r one other) : one ≠ [] := by
  obtain ⟨a, b, ha, hb, ne⟩ := m.hd
  rintro rfl
  cases ha
theorem Mt.ne2 {ws : List (List Nat)} {n : Nat} {r : List Nat} {one other : List (List Nat)} (m : Mt ws n r one other) : other ≠ [] := by
  obtain ⟨a, b, ha, hb, ne⟩ := m.hd
  rintro rfl
  cases hb
theorem Ent.At.keep {q : Addr} {H H' : Hp} {e : Ent} {us : List Addr} {ws : List (List Nat)} (a : e.At H) (s : SameBut q H H') (hq : H q = some (.lst (us.map V.ref))) (m : e.mt ws) : e.At H' :=
  ⟨s _ _ (ne_of a.t hq fun z => nomatch z) a.t, s _ _ (ne_of a.o hq (texts_ne_refs m.ne1)) a.o, s _ _ (ne_of a.p hq (texts_ne_refs m.ne2)) a.p⟩
theorem Ent.At.same {H H' : Hp} {e : Ent} (a : e.At H) (s : Same H H') : e.At H' := ⟨s _ _ a.t, s _ _ a.o, s _ _ a.p⟩
theorem SameBut.upd {q : Addr} {H : Hp} {o : HO} : SameBut q H (upd H q o) := fun b u hb e => by rw [upd_ne hb]; exact e
theorem none_of {H H' : Hp} (s : Same H H') {b : Addr} (h : H' b = none) : H b = none := by
  cases e : H b with
  | none => rfl
  | some o => rw [s _ _ e] at h; cases h
abbrev ents (es : List Ent) : List V := (es.map Ent.T).map V.ref
theorem ents_app {es fs : List Ent} : ents (es ++ fs) = ents es ++ ents fs := by
  unfold ents
  rw [List.map_append, List.map_append]
section
variable {Pr : Program} {w : World} {K : PySem.W.Frag} {mg : Str → Option Value} {base : Heap} {f fL fS : Addr} {fd fdL fdS : FuncData}
def spFirst : Sp := fun vs H Q _ => ∃ (c : Addr) (ws : List (List Nat)), vs = [.ref c] ∧ H c = some (.lst (ws.map tx)) ∧ ws.length ≤ 12 ∧ (∀ x ∈ ws, WordOk x) ∧
  ∀ (l : Addr) (es : List Ent) (H' : Hp), Same H H' → H l = none → H' l = some (.lst (ents es)) → (∀ e ∈ es, e.At H' ∧ e.New H ∧ e.mt ws ∧ e.one.length = 1 ∧ e.other.length = 1) →
    (∀ v ∈ ws, ∀ o ∈ ws, v ≠ o → hit o v = true → ∃ e ∈ es, e.r = v.drop o.length ∧ e.n = v.length) → es.length ≤ 144 → Q (.ref l) H'
theorem scFirst : FnScope ["code", "found", "word", "start", "rest"] ["code"] (defScope s__first_meetings) := ⟨rfl, rfl, rfl, by decide +kernel, rfl, by decide +kernel, by decide +kernel⟩
structure FI (ws : List (List Nat)) (H : Hp) (g : Addr) (C : List Nat → List Nat → Prop) (m : Nat) (H1 : Hp) : Prop where
  s : Same H H1
  ex : ∃ es : List Ent, H1 g = some (.lst (ents es)) ∧ (∀ e ∈ es, e.At H1 ∧ e.New H ∧ e.mt ws ∧ e.one.length = 1 ∧ e.other.length = 1) ∧
    (∀ v ∈ ws, ∀ o ∈ ws, C v o → v ≠ o → hit o v = true → ∃ e ∈ es, e.r = v.drop o.length ∧ e.n = v.length) ∧ es.length ≤ m
theorem FI.mono {ws : List (List Nat)} {H : Hp} {g : Addr} {C C' : List Nat → List Nat → Prop} {m m' : Nat} {H1 : Hp} (h : FI ws H g C m H1) (hc : ∀ v o, v ∈ ws → o ∈ ws → C' v o → v ≠ o → hit o v = true → C v o) (hm : m ≤ m') : FI ws H g C' m' H1 := by
  obtain ⟨s, es, h1, h2, h3, h4⟩ := h
  exact ⟨s, es, h1, h2, fun v hv o ho c ne hh => h3 v hv o ho (hc v o hv ho c ne hh) ne hh, by omega⟩
theorem ok_first (F : FnP K "_first_meetings" s__first_meetings f fd) (L : Has K mg "left_of" s_left_of ["text", "other"] fL fdL) (B : Bl mg) : FnOk Pr w K mg base CX0 2 f fd ["code"] spFirst := by
  have GL : FnOk Pr w K mg base CX0 1 fL fdL ["text", "other"] spLeft := ok_left L.F B
  refine F.okN scFirst (fun vs H Q E h => ?_) (fun cdv A' outer s H vs Q E hr h => ?_)
  · obtain ⟨c, ws, rfl, _⟩ := h
    rfl
  · obtain ⟨c, ws, rfl, hC, hn, hw, q⟩ := h
    refine ⟨_, pss_cons (ps_set (i := 1) scFirst.nd rfl (.inl rfl) (pe_lst pa_nil))
      (pss_cons (ps_for PassesOwn.never rfl (pi_list (pv 0)) (pg_name (i := 2) scFirst.nd rfl (Or.inl rfl))
        (pss_one (ps_for PassesOwn.never rfl (pi_list (pv 0)) (pg_name (i := 3) scFirst.nd rfl (Or.inl rfl))
          (pss_cons (ps_set (i := 4) scFirst.nd rfl (.inl rfl) (pe_call GL hr (by rfl) L.g L.F.kp L.b .nil pass0 (pa_cons (pv 2) (pa_cons (pv 3) pa_nil))))
          (pss_one (ps_if (PW.pt (pw_and (pt_cmpR op_notN (pv 4) pe_non (nomark _)) (pw_and1 (pt_cmpR op_ne (pv 2) (pv 3) (nomark _)))))
            (pss_one (ps_expr (pe_bm PySem.F.plainAttrs_list PySem.F.slot_list_append PySem.F.type_list_append mt_append (pv 1) (pa_cons (pe_tup (pa_cons (pe_callB call_len_str (by rfl) B.mL boot_len (pa_cons (pv 2) pa_nil)) (pa_cons (pv 4) (pa_cons (pe_lst (pa_cons (pv 2) pa_nil)) (pa_cons (pe_lst (pa_cons (pv 3) pa_nil)) pa_nil))))) pa_nil)))) pss_nil))))))
      (pss_one (ps_ret (pv 1)))), ?_⟩
    refine ⟨Nat.zero_le _, fun g hg => ?_⟩
    have s1 := same_upd (o := .lst []) hg
    have ncg : c ≠ g := ne_of_none hC hg
    refine ⟨_, rfl, c, rfl, ⟨_, seqL (s1 _ _ hC)⟩, for_list (K := K) (a := c) (xs := ws.map tx) (fun i σ H1 => FI ws H g (fun v _ => v ∈ ws.take i) (i * 12) H1 ∧ ∃ k2 k3 k4 : Option V, σ = [some (.ref c), some (.ref g), k2, k3, k4]) ?_ (fun i σ H1 _ hh => seqL (hh.1.s _ _ hC)) ?_ ?_⟩
    · exact ⟨⟨s1, [], upd_same, fun e he => absurd he List.not_mem_nil, fun v _ o _ hv => absurd hv (by rw [List.take_zero]; exact List.not_mem_nil), Nat.zero_le _⟩, _, _, _, rfl⟩
    · rintro i x σ H1 hx ⟨I1, k2, k3, k4, rfl⟩
      have hi : i < ws.length := by
        have := (List.getElem?_eq_some_iff.mp hx).1
        rw [List.length_map] at this
        exact this
      have hxe : x = tx ws[i] := by
        rw [List.getElem?_map, List.getElem?_eq_getElem hi] at hx
        exact (Option.some.inj hx).symm
      subst hxe
      obtain ⟨v, hv⟩ : ∃ v, v = ws[i] := ⟨_, rfl⟩
      rw [← hv]
      have hvm : v ∈ ws := by rw [hv]; exact List.getElem_mem hi
      have wv := hw v hvm
      refine ⟨_, rfl, c, rfl, ⟨_, seqL (I1.s _ _ hC)⟩, for_list (K := K) (a := c) (xs := ws.map tx) (fun j σ H2 => FI ws H g (fun v' o => v' ∈ ws.take i ∨ (v' = v ∧ o ∈ ws.take j)) (i * 12 + j) H2 ∧ ∃ k3 k4 : Option V, σ = [some (.ref c), some (.ref g), some (tx v), k3, k4]) ?_ (fun j σ H2 _ hh => seqL (hh.1.s _ _ hC)) ?_ ?_⟩
      · refine ⟨I1.mono (fun v' o _ _ hc _ _ => ?_) (Nat.le_refl _), _, _, rfl⟩
        rcases hc with hc | hc
        · exact hc
        · simp at hc
      · rintro j y σ H2 hy ⟨I2, k3, k4, rfl⟩
        have hj : j < ws.length := by
          have := (List.getElem?_eq_some_iff.mp hy).1
          rw [List.length_map] at this
          exact this
        have hye : y = tx ws[j] := by
          rw [List.getElem?_map, List.getElem?_eq_getElem hj] at hy
          exact (Option.some.inj hy).symm
        subst hye
        obtain ⟨o, ho⟩ : ∃ o, o = ws[j] := ⟨_, rfl⟩
        rw [← ho]
        have hom : o ∈ ws := by rw [ho]; exact List.getElem_mem hj
        have wo := hw o hom
        have tk : ∀ o', o' ∈ ws.take (j + 1) → o' ∈ ws.take j ∨ o' = o := fun o' h' => by
          rw [List.take_add_one, List.getElem?_eq_getElem hj, ← ho] at h'
          rcases List.mem_append.mp h' with z | z
          · exact .inl z
          · exact .inr (List.mem_singleton.mp z)
        have skip : ¬ (v ≠ o ∧ hit o v = true) → FI ws H g (fun v' o => v' ∈ ws.take i ∨ (v' = v ∧ o ∈ ws.take (j + 1))) (i * 12 + (j + 1)) H2 := fun nn => I2.mono (fun v' o' _ _ hc ne hh => by
          rcases hc with hc | ⟨rfl, hc⟩
          · exact .inl hc
          · rcases tk o' hc with z | rfl
            · exact .inr ⟨rfl, z⟩
            · exact absurd ⟨ne, hh⟩ nn) (by omega)
        refine ⟨_, rfl, _, rfl, v, o, rfl, by have := wv.2.1; omega, by have := wo.2.1; omega, ?_⟩
        by_cases ch : hit o v = true
        · rw [if_pos ch]
          refine ⟨_, rfl, rfl, _, rfl, iteNN (fun z => nomatch z) ?_⟩
          refine ⟨_, rfl, _, rfl, rfl, _, rfl, ?_⟩
          by_cases cv : v = o
          · refine iteNP (congrArg tx cv) ⟨skip fun z => z.1 cv, _, _, rfl⟩
          · refine iteNN (fun z => cv (S_inj (V.str.inj z))) ?_
            obtain ⟨s2, es, eg, he, hcov, hle⟩ := I2
            refine ⟨_, rfl, .inl ⟨rfl, _, seqL eg⟩, _, rfl, S v, rfl, small_S (by have := wv.2.1; omega), _, rfl, ?_⟩
            refine ⟨_, rfl, by show 1 ≤ sizeLine; decide, fun a1 n1 => ⟨_, rfl, by show 1 ≤ sizeLine; decide, fun a2 n2 => ?_⟩⟩
            have t1 := same_upd (o := .lst [tx v]) n1
            have t2 := same_upd (o := .lst [tx o]) n2
            refine ⟨by show 4 ≤ sizeLine; decide, fun a3 n3 => ?_⟩
            have t3 := same_upd (o := .tup [.int ((S v).length : Int), tx (v.drop o.length), .ref a1, .ref a2]) n3
            have t123 := (t1.trans t2).trans t3
            refine ⟨g, _, _, rfl, rfl, t123 _ _ eg, ?_, ?_⟩
            · rw [List.length_map, List.length_map]
              exact small1000 (by omega)
            · rw [show ((S v).length : Int) = (v.length : Int) by rw [S_len]] at t3 t123 ⊢
              have nag : ∀ b : Addr, H2 b = none → b ≠ g := fun b hb z => by rw [z, eg] at hb; cases hb
              have m1 : H2 a1 = none := n1
              have m2 : H2 a2 = none := none_of t1 n2
              have m3 : H2 a3 = none := none_of (t1.trans t2) n3
              have e1 : (upd (upd (upd H2 a1 (.lst [tx v])) a2 (.lst [tx o])) a3 (.tup [.int (v.length : Int), tx (v.drop o.length), .ref a1, .ref a2])) a1 = some (.lst [tx v]) := (t2.trans t3) _ _ upd_same
              have e2 : (upd (upd (upd H2 a1 (.lst [tx v])) a2 (.lst [tx o])) a3 (.tup [.int (v.length : Int), tx (v.drop o.length), .ref a1, .ref a2])) a2 = some (.lst [tx o]) := t3 _ _ upd_same
              have e3 : (upd (upd (upd H2 a1 (.lst [tx v])) a2 (.lst [tx o])) a3 (.tup [.int (v.length : Int), tx (v.drop o.length), .ref a1, .ref a2])) a3 = some (.tup [.int (v.length : Int), tx (v.drop o.length), .ref a1, .ref a2]) := upd_same
              generalize (upd (upd (upd H2 a1 (.lst [tx v])) a2 (.lst [tx o])) a3 (.tup [.int (v.length : Int), tx (v.drop o.length), .ref a1, .ref a2])) = H3 at t123 e1 e2 e3 ⊢
              have sb : SameBut g H2 (upd H3 g (.lst (ents es ++ [.ref a3]))) := fun b u hb hu => by
                rw [upd_ne hb]
                exact t123 _ _ hu
              refine ⟨⟨fun b u hu => ?_, es ++ [⟨a3, v.length, v.drop o.length, a1, a2, [v], [o]⟩], ?_, ?_, ?_, ?_⟩, _, _, rfl⟩
              · rw [upd_ne (ne_of_none hu hg)]
                exact t123 _ _ (s2 _ _ hu)
              · rw [upd_same, ents_app]
                rfl
              · intro e hm
                rcases List.mem_append.mp hm with z | z
                · obtain ⟨h1, h2, h3, h4⟩ := he e z
                  exact ⟨h1.keep sb eg h3, h2, h3, h4⟩
                · rw [List.mem_singleton.mp z]
                  refine ⟨⟨?_, ?_, ?_⟩, ⟨none_of s2 m3, none_of s2 m1, none_of s2 m2⟩, Mt.new hvm hom cv ch, rfl, rfl⟩
                  · exact (upd_ne (nag _ m3)).trans e3
                  · exact (upd_ne (nag _ m1)).trans e1
                  · exact (upd_ne (nag _ m2)).trans e2
              · intro v' hv' o' ho' hc ne hh
                have old : (v' ∈ ws.take i ∨ (v' = v ∧ o' ∈ ws.take j)) → ∃ e ∈ es ++ [(⟨a3, v.length, v.drop o.length, a1, a2, [v], [o]⟩ : Ent)], e.r = v'.drop o'.length ∧ e.n = v'.length := fun z => by
                  obtain ⟨e, h1, h2⟩ := hcov v' hv' o' ho' z ne hh
                  exact ⟨e, List.mem_append_left _ h1, h2⟩
                rcases hc with hc | ⟨rfl, hc⟩
                · exact old (.inl hc)
                · rcases tk o' hc with z | rfl
                  · exact old (.inr ⟨rfl, z⟩)
                  · exact ⟨_, List.mem_append_right _ (List.mem_singleton.mpr rfl), rfl, rfl⟩
              · rw [List.length_append, List.length_singleton]
                omega
        · rw [if_neg ch]
          refine ⟨_, rfl, rfl, _, rfl, iteNP rfl (iteF ?_)⟩
          exact ⟨skip fun z => ch z.2, _, _, rfl⟩
      · rintro σ H2 ⟨I2, k3, k4, rfl⟩
        refine ⟨I2.mono (fun v' o' _ ho' hc _ _ => ?_) (by rw [List.length_map]; omega), _, _, _, rfl⟩
        rw [List.take_add_one, List.getElem?_eq_getElem hi, ← hv] at hc
        rcases List.mem_append.mp hc with z | z
        · exact .inl z
        · refine .inr ⟨List.mem_singleton.mp z, ?_⟩
          rw [List.length_map, List.take_length]
          exact ho'
    · rintro σ H1 ⟨⟨s1, es, eg, he, hcov, hle⟩, k2, k3, k4, rfl⟩
      rw [List.length_map] at hcov hle
      refine ⟨_, rfl, q g es H1 s1 hg eg he (fun v hv o ho => hcov v hv o ho (by rw [List.take_length]; exact hv)) (by omega)⟩
end
section
variable {Pr : Program} {w : World} {K : PySem.W.Frag} {mg : Str → Option Value} {base : Heap} {f fL fS : Addr} {fd fdL fdS : FuncData}
def OneOf (H : Hp) (x a b : Addr) : Prop := H x = none ∨ x = a ∨ x = b
structure Fur (ws : List (List Nat)) (H : Hp) (oA pA : Addr) (M : Nat) (H1 : Hp) (e : Ent) : Prop where
  at_ : e.At H1
  t : H e.T = none
  o : OneOf H e.oA oA pA
  p : OneOf H e.pA oA pA
  m : e.mt ws
  l1 : e.one.length ≤ M + 1
  l2 : e.other.length ≤ M + 1
structure FU (ws : List (List Nat)) (H : Hp) (n : Nat) (r : List Nat) (oA pA : Addr) (M : Nat) (g : Addr) (C : List Nat → Prop) (m : Nat) (H1 : Hp) : Prop where
  s : Same H H1
  ex : ∃ es : List Ent, H1 g = some (.lst (ents es)) ∧ (∀ e ∈ es, Fur ws H oA pA M H1 e) ∧
    (∀ v ∈ ws, C v → ∀ x b, stp r v = some (x, b) → ∃ e ∈ es, e.r = x ∧ e.n = n + if b = true then x.length else 0) ∧ es.length ≤ m
def spFurther : Sp := fun vs H Q _ => ∃ (c oA pA : Addr) (n M : Nat) (r : List Nat) (one other ws : List (List Nat)), vs = [.ref c, .int (n : Int), tx r, .ref oA, .ref pA] ∧ H c = some (.lst (ws.map tx)) ∧ H oA = some (.lst (one.map tx)) ∧ H pA = some (.lst (other.map tx)) ∧
  ws.length ≤ 12 ∧ (∀ x ∈ ws, WordOk x) ∧ Mt ws n r one other ∧ one.length ≤ M ∧ other.length ≤ M ∧ M ≤ 1000 ∧
  ∀ (l : Addr) (es : List Ent) (H' : Hp), Same H H' → H l = none → H' l = some (.lst (ents es)) → (∀ e ∈ es, Fur ws H oA pA M H' e) →
    (∀ v ∈ ws, ∀ x b, stp r v = some (x, b) → ∃ e ∈ es, e.r = x ∧ e.n = n + if b = true then x.length else 0) → es.length ≤ 12 → Q (.ref l) H'
theorem scFurther : FnScope ["code", "length", "rest", "one", "other", "found", "word", "step", "left", "beyond"] ["code", "length", "rest", "one", "other"] (defScope s__further_meetings) := ⟨rfl, rfl, rfl, by decide +kernel, rfl, by decide +kernel, by decide +kernel⟩
/-- one more entry is appended -/
theorem FU.more {ws : List (List Nat)} {H : Hp} {n : Nat} {r : List Nat} {oA pA : Addr} {M : Nat} {g : Addr} {C C' : List Nat → Prop} {m : Nat} {H1 H3 : Hp} (h : FU ws H n r oA pA M g C m H1) (hg : H g = none) {es : List Ent} {e : Ent}
    (eg : H1 g = some (.lst (ents es))) (s : Same H1 H3) (he : Fur ws H oA pA M (upd H3 g (.lst (ents es ++ [.ref e.T]))) e) (hold : ∀ e ∈ es, Fur ws H oA pA M H1 e) (hlen : es.length ≤ m)
    (hcov : ∀ v ∈ ws, C v → ∀ x b, stp r v = some (x, b) → ∃ e ∈ es, e.r = x ∧ e.n = n + if b = true then x.length else 0)
    (hc : ∀ v ∈ ws, C' v → ∀ x b, stp r v = some (x, b) → C v ∨ (e.r = x ∧ e.n = n + if b = true then x.length else 0)) :
    FU ws H n r oA pA M g C' (m + 1) (upd H3 g (.lst (ents es ++ [.ref e.T]))) := by
  have sb : SameBut g H1 (upd H3 g (.lst (ents es ++ [.ref e.T]))) := fun b u hb hu => by
    rw [upd_ne hb]
    exact s _ _ hu
  refine ⟨fun b u hu => ?_, es ++ [e], ?_, fun x hx => ?_, fun v hv cv x b hs => ?_, ?_⟩
  · rw [upd_ne (ne_of_none hu hg)]
    exact s _ _ (h.s _ _ hu)
  · rw [upd_same, ents_app]
    rfl
  · rcases List.mem_append.mp hx with z | z
    · have q := hold x z
      exact ⟨q.at_.keep sb eg q.m, q.t, q.o, q.p, q.m, q.l1, q.l2⟩
    · rw [List.mem_singleton.mp z]
      exact he
  · rcases hc v hv cv x b hs with z | z
    · obtain ⟨e2, h1, h2⟩ := hcov v hv z x b hs
      exact ⟨e2, List.mem_append_left _ h1, h2⟩
    · exact ⟨e, List.mem_append_right _ (List.mem_singleton.mpr rfl), z⟩
  · rw [List.length_append, List.length_singleton]
    omega
theorem ok_further (F : FnP K "_further_meetings" s__further_meetings f fd) (L : Has K mg "left_of" s_left_of ["text", "other"] fL fdL) (S1 : Has K mg "stepped" s_stepped ["rest", "word"] fS fdS) (B : Bl mg) : FnOk Pr w K mg base CX0 3 f fd ["code", "length", "rest", "one", "other"] spFurther := by
  have GS : FnOk Pr w K mg base CX0 2 fS fdS ["rest", "word"] spStep := ok_stepped S1.F L B
  refine F.okN scFurther (fun vs H Q E h => ?_) (fun cdv A' outer s H vs Q E hr h => ?_)
  · obtain ⟨c, oA, pA, n, M, r, one, other, ws, rfl, _⟩ := h
    rfl
  · obtain ⟨c, oA, pA, n, M, r, one, other, ws, rfl, hC, hO, hP, hn, hw, hm, l1, l2, lM, q⟩ := h
    refine ⟨_, pss_cons (ps_set (i := 5) scFurther.nd rfl (.inl rfl) (pe_lst pa_nil))
      (pss_cons (ps_for PassesOwn.never rfl (pi_list (pv 0)) (pg_name (i := 6) scFurther.nd rfl (Or.inl rfl))
        (pss_cons (ps_set (i := 7) scFurther.nd rfl (.inl rfl) (pe_call GS hr (by rfl) S1.g S1.F.kp S1.b .nil pass0 (pa_cons (pv 2) (pa_cons (pv 6) pa_nil))))
          (pss_one (ps_if (pt_cmpR op_notN (pv 7) pe_non (nomark _))
            (pss_cons (ps_asg (pv 7) (pg_tup rfl (pgs_cons (pg_name (i := 8) scFurther.nd rfl (Or.inl rfl)) (pgs_cons (pg_name (i := 9) scFurther.nd rfl (Or.inl rfl)) pgs_nil))))
            (pss_one (ps_if (pt_val (pv 9))
              (pss_one (ps_expr (pe_bm PySem.F.plainAttrs_list PySem.F.slot_list_append PySem.F.type_list_append mt_append (pv 5) (pa_cons (pe_tup (pa_cons (pe_op op_add (pv 1) (pe_callB call_len_str (by rfl) B.mL boot_len (pa_cons (pv 8) pa_nil))) (pa_cons (pv 8) (pa_cons (pe_op op_cat (pv 4) (pe_lst (pa_cons (pv 6) pa_nil))) (pa_cons (pv 3) pa_nil))))) pa_nil))))
              (pss_one (ps_expr (pe_bm PySem.F.plainAttrs_list PySem.F.slot_list_append PySem.F.type_list_append mt_append (pv 5) (pa_cons (pe_tup (pa_cons (pv 1) (pa_cons (pv 8) (pa_cons (pv 3) (pa_cons (pe_op op_cat (pv 4) (pe_lst (pa_cons (pv 6) pa_nil))) pa_nil))))) pa_nil))))))) pss_nil))))
      (pss_one (ps_ret (pv 5)))), ?_⟩
    refine ⟨Nat.zero_le _, fun g hg => ?_⟩
    have s1 := same_upd (o := .lst []) hg
    have lr := (hm.off.let hw).2
    refine ⟨_, rfl, c, rfl, ⟨_, seqL (s1 _ _ hC)⟩, for_list (K := K) (a := c) (xs := ws.map tx) (fun i σ H1 => FU ws H n r oA pA M g (fun v => v ∈ ws.take i) i H1 ∧ ∃ k6 k7 k8 k9 : Option V, σ = [some (.ref c), some (.int (n : Int)), some (tx r), some (.ref oA), some (.ref pA), some (.ref g), k6, k7, k8, k9]) ?_ (fun i σ H1 _ hh => seqL (hh.1.s _ _ hC)) ?_ ?_⟩
    · exact ⟨⟨s1, [], upd_same, fun e he => absurd he List.not_mem_nil, fun v _ hv => absurd hv (by rw [List.take_zero]; exact List.not_mem_nil), Nat.zero_le _⟩, _, _, _, _, rfl⟩
    · rintro i x σ H1 hx ⟨I1, k6, k7, k8, k9, rfl⟩
      have hi : i < ws.length := by
        have := (List.getElem?_eq_some_iff.mp hx).1
        rw [List.length_map] at this
        exact this
      have hxe : x = tx ws[i] := by
        rw [List.getElem?_map, List.getElem?_eq_getElem hi] at hx
        exact (Option.some.inj hx).symm
      subst hxe
      obtain ⟨v, hv⟩ : ∃ v, v = ws[i] := ⟨_, rfl⟩
      rw [← hv]
      have hvm : v ∈ ws := by rw [hv]; exact List.getElem_mem hi
      have wv := hw v hvm
      have tk : ∀ o', o' ∈ ws.take (i + 1) → o' ∈ ws.take i ∨ o' = v := fun o' h' => by
        rw [List.take_add_one, List.getElem?_eq_getElem hi, ← hv] at h'
        rcases List.mem_append.mp h' with z | z
        · exact .inl z
        · exact .inr (List.mem_singleton.mp z)
      have lv := wv.2.1
      refine ⟨_, rfl, _, rfl, r, v, rfl, by omega, by omega, fun en => ?_, fun x b es p H2 s2 np ep => ?_⟩
      · refine ⟨_, rfl, rfl, _, rfl, iteNP rfl ?_⟩
        obtain ⟨s0, es, eg, he, hcov, hle⟩ := I1
        refine ⟨⟨s0, es, eg, he, fun v' hv' hc x b hs => ?_, by omega⟩, _, _, _, _, rfl⟩
        rcases tk v' hc with z | z
        · exact hcov v' hv' z x b hs
        · rw [z, en] at hs
          cases hs
      · refine ⟨_, rfl, rfl, _, rfl, iteNN (fun z => nomatch z) ?_⟩
        refine ⟨_, rfl, p, _, rfl, .inl (.inl ep), rfl, _, _, rfl, _, _, rfl, rfl, ?_⟩
        refine ⟨_, rfl, b, rfl, ?_⟩
        have lx : x.length ≤ 10 := by
          rcases stp_end es with ⟨k, e⟩ | ⟨k, e⟩ <;> rw [e, List.length_drop] <;> omega
        have hI := I1
        obtain ⟨s0, es1, eg, he, hcov, hle⟩ := I1
        have hO2 := s2 _ _ (s0 _ _ hO)
        have hP2 := s2 _ _ (s0 _ _ hP)
        have eg2 := s2 _ _ eg
        have nag : ∀ b : Addr, H2 b = none → b ≠ g := fun b hb z => by rw [z, eg2] at hb; cases hb
        have oag : oA ≠ g := ne_of_none hO hg
        have pag : pA ≠ g := ne_of_none hP hg
        have i12 : i < 12 := by omega
        have lap : es1.length < 1000 := by omega
        cases b with
        | true =>
          refine iteT ?_
          refine ⟨_, rfl, .inl ⟨rfl, _, seqL eg2⟩, _, rfl, _, rfl, S x, rfl, small_S (by omega), _, _, rfl, rfl, _, rfl, _, rfl, _, rfl, by show 1 ≤ sizeLine; decide, fun a0 n0 => ?_⟩
          have t1 := same_upd (o := .lst [tx v]) n0
          refine ⟨pA, a0, _, _, rfl, rfl, t1 _ _ hP2, upd_same, ?_, fun a1 n1 => ?_⟩
          · rw [List.length_map]
            show other.length + 1 ≤ 2 ^ 24
            omega
          have t2 := same_upd (o := .lst (other.map tx ++ [tx v])) n1
          refine ⟨_, rfl, by show 4 ≤ sizeLine; decide, fun a3 n3 => ?_⟩
          have t3 := same_upd (o := .tup [.int ((n : Int) + ((S x).length : Int)), tx x, .ref a1, .ref oA]) n3
          have t123 := (t1.trans t2).trans t3
          refine ⟨g, _, _, rfl, rfl, t123 _ _ eg2, ?_, ?_⟩
          · rw [List.length_map, List.length_map]
            exact small1000 (by omega)
          · have ei : ((n : Int) + ((S x).length : Int)) = ((n + x.length : Nat) : Int) := by rw [S_len]; omega
            have eo : other.map tx ++ [tx v] = (other ++ [v]).map tx := by rw [List.map_append]; rfl
            have m1 : H2 a1 = none := none_of t1 n1
            have m3 : H2 a3 = none := none_of (t1.trans t2) n3
            dsimp only
            rw [ei] at t3 t123 ⊢
            rw [eo] at t2 t3 t123 ⊢
            have e1 : (upd (upd (upd H2 a0 (.lst [tx v])) a1 (.lst ((other ++ [v]).map tx))) a3 (.tup [.int ((n + x.length : Nat) : Int), tx x, .ref a1, .ref oA])) a1 = some (.lst ((other ++ [v]).map tx)) := t3 _ _ upd_same
            have e3 : (upd (upd (upd H2 a0 (.lst [tx v])) a1 (.lst ((other ++ [v]).map tx))) a3 (.tup [.int ((n + x.length : Nat) : Int), tx x, .ref a1, .ref oA])) a3 = some (.tup [.int ((n + x.length : Nat) : Int), tx x, .ref a1, .ref oA]) := upd_same
            generalize (upd (upd (upd H2 a0 (.lst [tx v])) a1 (.lst ((other ++ [v]).map tx))) a3 (.tup [.int ((n + x.length : Nat) : Int), tx x, .ref a1, .ref oA])) = H3 at t123 e1 e3 ⊢
            refine ⟨hI.more (e := ⟨a3, n + x.length, x, a1, oA, other ++ [v], one⟩) hg eg (s2.trans t123) ⟨⟨(upd_ne (nag _ m3)).trans e3, (upd_ne (nag _ m1)).trans e1, (upd_ne oag).trans (t123 _ _ hO2)⟩, none_of (s0.trans s2) m3, .inl (none_of (s0.trans s2) m1), .inr (.inl rfl), hm.over hvm es, ?_, ?_⟩ he hle hcov fun v' hv' hc x' b' hs => ?_, _, _, _, _, rfl⟩
            · show (other ++ [v]).length ≤ M + 1
              rw [List.length_append, List.length_singleton]
              omega
            · show one.length ≤ M + 1
              omega
            · rcases tk v' hc with z | z
              · exact .inl z
              · rw [z, es] at hs
                cases hs
                exact .inr ⟨rfl, rfl⟩
        | false =>
          refine iteF ?_
          refine ⟨_, rfl, .inl ⟨rfl, _, seqL eg2⟩, _, rfl, _, rfl, _, rfl, _, rfl, _, rfl, by show 1 ≤ sizeLine; decide, fun a0 n0 => ?_⟩
          have t1 := same_upd (o := .lst [tx v]) n0
          refine ⟨pA, a0, _, _, rfl, rfl, t1 _ _ hP2, upd_same, ?_, fun a1 n1 => ?_⟩
          · rw [List.length_map]
            show other.length + 1 ≤ 2 ^ 24
            omega
          have t2 := same_upd (o := .lst (other.map tx ++ [tx v])) n1
          refine ⟨by show 4 ≤ sizeLine; decide, fun a3 n3 => ?_⟩
          have t3 := same_upd (o := .tup [.int (n : Int), tx x, .ref oA, .ref a1]) n3
          have t123 := (t1.trans t2).trans t3
          refine ⟨g, _, _, rfl, rfl, t123 _ _ eg2, ?_, ?_⟩
          · rw [List.length_map, List.length_map]
            exact small1000 (by omega)
          · have eo : other.map tx ++ [tx v] = (other ++ [v]).map tx := by rw [List.map_append]; rfl
            have m1 : H2 a1 = none := none_of t1 n1
            have m3 : H2 a3 = none := none_of (t1.trans t2) n3
            rw [eo] at t2 t3 t123 ⊢
            have e1 : (upd (upd (upd H2 a0 (.lst [tx v])) a1 (.lst ((other ++ [v]).map tx))) a3 (.tup [.int (n : Int), tx x, .ref oA, .ref a1])) a1 = some (.lst ((other ++ [v]).map tx)) := t3 _ _ upd_same
            have e3 : (upd (upd (upd H2 a0 (.lst [tx v])) a1 (.lst ((other ++ [v]).map tx))) a3 (.tup [.int (n : Int), tx x, .ref oA, .ref a1])) a3 = some (.tup [.int (n : Int), tx x, .ref oA, .ref a1]) := upd_same
            generalize (upd (upd (upd H2 a0 (.lst [tx v])) a1 (.lst ((other ++ [v]).map tx))) a3 (.tup [.int (n : Int), tx x, .ref oA, .ref a1])) = H3 at t123 e1 e3 ⊢
            refine ⟨hI.more (e := ⟨a3, n, x, oA, a1, one, other ++ [v]⟩) hg eg (s2.trans t123) ⟨⟨(upd_ne (nag _ m3)).trans e3, (upd_ne oag).trans (t123 _ _ hO2), (upd_ne (nag _ m1)).trans e1⟩, none_of (s0.trans s2) m3, .inr (.inl rfl), .inl (none_of (s0.trans s2) m1), hm.on hvm es, ?_, ?_⟩ he hle hcov fun v' hv' hc x' b' hs => ?_, _, _, _, _, rfl⟩
            · show one.length ≤ M + 1
              omega
            · show (other ++ [v]).length ≤ M + 1
              rw [List.length_append, List.length_singleton]
              omega
            · rcases tk v' hc with z | z
              · exact .inl z
              · rw [z, es] at hs
                cases hs
                exact .inr ⟨rfl, rfl⟩
    · rintro σ H1 ⟨⟨s1, es, eg, he, hcov, hle⟩, k6, k7, k8, k9, rfl⟩
      rw [List.length_map] at hcov hle
      refine ⟨_, rfl, q g es H1 s1 hg eg he (fun v hv => hcov v hv (by rw [List.take_length]; exact hv)) (by omega)⟩
end
/-! ### the queue of meetings -/
abbrev txD (l : List (List Nat)) : PyData := .list (l.map fun l => PyData.str (S l))
def Ent.dt (e : Ent) : PyData := .tuple [.int (e.n : Int), .str (S e.r), txD e.one, txD e.other]
/-- what stands at a tuple of the queue, as data -/
def lD (H : Hp) (a : Addr) : PyData := match H a with
  | some (.lst xs) => .list (xs.map fun v => match v with | .str z => .str z | _ => .none)
  | _ => .none
def dat (H : Hp) (t : Addr) : PyData := match H t with
  | some (.tup [.int n, .str r, .ref a, .ref b]) => .tuple [.int n, .str r, lD H a, lD H b]
  | _ => .none
theorem lD_at {H : Hp} {a : Addr} {l : List (List Nat)} (h : H a = some (.lst (l.map tx))) : lD H a = txD l := by
  unfold lD
  rw [h]
  show PyData.list _ = PyData.list _
  rw [List.map_map]
  rfl
theorem Ent.At.dat {H : Hp} {e : Ent} (a : e.At H) : dat H e.T = e.dt := by
  unfold Ow.dat
  rw [a.t]
  show PyData.tuple [.int (e.n : Int), .str (S e.r), lD H e.oA, lD H e.pA] = _
  rw [lD_at a.o, lD_at a.p]
  rfl
theorem Ent.At.dp {K : PySem.W.Frag} {H : Hp} {e : Ent} (a : e.At H) : Dp K H (.ref e.T) e.dt :=
  .tup (.inl (.inl a.t)) (.cons (.int _) (.cons (.str _) (.cons (.lst (seqL a.o) (dp_texts _)) (.cons (.lst (seqL a.p) (dp_texts _)) .nil))))
theorem txs_depth : ∀ l : List (List Nat), PyData.depthAll (l.map fun l => PyData.str (S l)) = 0
  | [] => by simp [PyData.depthAll]
  | x :: l => by
    have := txs_depth l
    simp [PyData.depthAll, PyData.depth, this]
theorem dt_depth (e : Ent) : e.dt.depth ≤ 8 := by
  unfold Ent.dt txD
  simp [PyData.depth, PyData.depthAll, txs_depth]
theorem txs_alike : ∀ l m : List (List Nat), PySem.W.alikeAll (l.map fun l => PyData.str (S l)) (m.map fun l => PyData.str (S l)) = true
  | [], _ => by simp [PySem.W.alikeAll]
  | _ :: _, [] => by simp [PySem.W.alikeAll]
  | x :: l, y :: m => by
    have := txs_alike l m
    simp only [List.map_cons, PySem.W.alikeAll, PySem.W.alike, Bool.true_and]
    exact this
theorem dt_alike (e g : Ent) : PySem.W.alike e.dt g.dt = true := by
  unfold Ent.dt txD
  simp only [PySem.W.alike, PySem.W.alikeAll, Bool.true_and, Bool.and_true, Bool.and_eq_true]
  exact ⟨txs_alike _ _, txs_alike _ _⟩
theorem dt_lt {e g : Ent} (h : e.n < g.n) : PySem.W.dataLt e.dt g.dt = true := by
  unfold Ent.dt
  rw [PySem.W.dataLt_tuple, PySem.W.dataLt_all_no (by simp [PySem.W.alike]) (by simp [PyData.eqv]; omega), PySem.W.dataLt_int]
  exact decide_eq_true (by omega)
/-- an entry of the table: a tuple of both rows -/
structure Ent.Fat (H : Hp) (e : Ent) : Prop where
  t : H e.T = some (.tup [.ref e.oA, .ref e.pA])
  o : H e.oA = some (.lst (e.one.map tx))
  p : H e.pA = some (.lst (e.other.map tx))
def fkv (fs : List Ent) : List (Key × V) := fs.map fun e => (Sum.inr (S e.r), V.ref e.T)
theorem fkv_out : ∀ {fs : List Ent} {r : List Nat}, (∀ f ∈ fs, f.r ≠ r) → valV (fkv fs) (Sum.inr (S r)) = none
  | [], _, _ => rfl
  | e :: fs, r, h => by
    have ne : ¬ (Sum.inr (S e.r) : Key) = Sum.inr (S r) := fun q => h e List.mem_cons_self (S_inj (Sum.inr.inj q))
    exact (valV_neg ne).trans (fkv_out fun f hf => h f (List.mem_cons_of_mem _ hf))
theorem fkv_in : ∀ {fs : List Ent} {f : Ent}, (fs.map Ent.r).Nodup → f ∈ fs → valV (fkv fs) (Sum.inr (S f.r)) = some (V.ref f.T)
  | [], _, _, h => nomatch h
  | e :: fs, f, nd, h => by
    obtain ⟨n1, n2⟩ := List.nodup_cons.mp nd
    rcases List.mem_cons.mp h with z | z
    · rw [z]
      exact valV_pos rfl
    · have ne : ¬ (Sum.inr (S e.r) : Key) = Sum.inr (S f.r) := fun q => n1 (by rw [S_inj (Sum.inr.inj q)]; exact List.mem_map.mpr ⟨f, z, rfl⟩)
      exact (valV_neg ne).trans (fkv_in n2 z)
structure MI (ws : List (List Nat)) (H0 : Hp) (q d : Addr) (qs fs pend : List Ent) (H : Hp) : Prop where
  s : Same H0 H
  nq : H0 q = none
  nd : H0 d = none
  hq : H q = some (.lst (ents qs))
  hd : H d = some (.dK (fkv fs))
  heap : HQ.Queue (dat H) (qs.map Ent.T)
  qe : ∀ e ∈ qs ++ pend, e.At H ∧ e.New H0 ∧ e.mt ws ∧ e.one.length ≤ fs.length + 1 ∧ e.other.length ≤ fs.length + 1
  fe : ∀ f ∈ fs, f.Fat H ∧ f.New H0 ∧ f.mt ws ∧ Lst ws f.r f.n ∧ f.one.length ≤ fs.length ∧ f.other.length ≤ fs.length
  dist : (fs.map Ent.r).Nodup
  c1 : ∀ v ∈ ws, ∀ o ∈ ws, v ≠ o → hit o v = true → (∃ f ∈ fs, f.r = v.drop o.length ∧ f.n ≤ v.length) ∨ ∃ e ∈ qs ++ pend, e.r = v.drop o.length ∧ e.n = v.length
  c2 : ∀ f ∈ fs, ∀ v ∈ ws, ∀ x b, stp f.r v = some (x, b) → (∃ g ∈ fs, g.r = x ∧ g.n ≤ f.n + if b = true then x.length else 0) ∨ ∃ e ∈ qs ++ pend, e.r = x ∧ e.n = f.n + if b = true then x.length else 0
  sz : qs.length + pend.length ≤ 144 + 12 * fs.length
section
variable {ws : List (List Nat)} {H0 H H1 : Hp} {q d : Addr} {qs fs pend : List Ent} {e : Ent} {K : PySem.W.Frag}
theorem MI.reach (I : MI ws H0 q d qs fs pend H) {r : List Nat} {m : Nat} (o : Off ws r m) : (∃ f ∈ fs, f.r = r ∧ f.n ≤ m) ∨ ∃ e ∈ qs ++ pend, e.n ≤ m := by
  induction o with
  | new a b c d =>
    rcases I.c1 _ a _ b c d with ⟨f, h1, h2, h3⟩ | ⟨e, h1, h2, h3⟩
    · exact .inl ⟨f, h1, h2, h3⟩
    · exact .inr ⟨e, h1, by omega⟩
  | @go r0 v x n b o hv hs ih =>
    rcases ih with ⟨f, h1, h2, h3⟩ | ⟨e, h1, h2⟩
    · rw [← h2] at hs
      rcases I.c2 f h1 _ hv _ _ hs with ⟨g, g1, g2, g3⟩ | ⟨e, g1, g2, g3⟩
      · exact .inl ⟨g, g1, g2, by omega⟩
      · exact .inr ⟨e, g1, by omega⟩
    · exact .inr ⟨e, h1, by omega⟩
theorem MI.fs_len (I : MI ws H0 q d qs fs pend H) (hw : ∀ x ∈ ws, WordOk x) (hn : ws.length ≤ 12) : fs.length ≤ 132 := by
  have h := nodup_sub I.dist (m := ws.flatMap fun w => (List.range 11).map fun k => w.drop k) fun x hx => by
    obtain ⟨f, hf, e⟩ := List.mem_map.mp hx
    rw [← e]
    exact (I.fe f hf).2.2.2.1.1.in_tails hw
  rw [List.length_map, tails_len] at h
  omega
theorem queue_congr {κ κ' : Addr → PyData} {ts : List Addr} (h : ∀ t ∈ ts, κ t = κ' t) (g : HQ.Queue κ ts) : HQ.Queue κ' ts := by
  intro i h0 hi
  have hp := HQ.par_lt h0
  have m : ∀ j, j < ts.length → κ (ts.getD j 0) = κ' (ts.getD j 0) := fun j hj => h _ (by
    rw [List.getD_eq_getElem?_getD, List.getElem?_eq_getElem hj]
    exact List.getElem_mem hj)
  have := g i h0 hi
  dsimp only at this ⊢
  rw [m i hi, m (HQ.par i) (by omega)] at this
  exact this
theorem perm_lift {α β : Type} {f : α → β} {us : List β} {l : List α} (p : us.Perm (l.map f)) : ∃ l' : List α, l'.Perm l ∧ l'.map f = us := by
  obtain ⟨m, hm⟩ : ∃ m, m = l.map f := ⟨_, rfl⟩
  rw [← hm] at p
  induction p generalizing l with
  | nil => 
    have : l = [] := List.map_eq_nil_iff.mp hm.symm
    subst this
    exact ⟨[], .refl _, rfl⟩
  | @cons x l1 l2 p ih =>
    cases l with
    | nil => cases hm
    | cons a l =>
      have e := List.cons.inj hm
      obtain ⟨l', p', e'⟩ := ih e.2
      exact ⟨a :: l', p'.cons a, by rw [List.map_cons, e', e.1]⟩
  | swap x y r =>
    match l, hm with
    | a :: b :: l, hm =>
      have e := List.cons.inj hm
      have e2 := List.cons.inj e.2
      exact ⟨b :: a :: l, .swap a b l, by rw [List.map_cons, List.map_cons, ← e.1, ← e2.1, ← e2.2]⟩
  | @trans l1 l2 l3 p1 p2 ih1 ih2 =>
    obtain ⟨l', p', e'⟩ := ih2 hm
    obtain ⟨l'', p'', e''⟩ := ih1 e'.symm
    exact ⟨l'', p''.trans p', e''⟩
theorem keyed_of {g : List Ent} {us : List Addr} (hq : H q = some (.lst (us.map V.ref))) (h : ∀ e ∈ g, e.At H ∧ e.mt ws) : HQ.Keyed K H q (dat H) (g.map Ent.T) := by
  refine ⟨fun t ht => ?_, fun t ht u hu => ?_⟩
  · obtain ⟨e, he, rfl⟩ := List.mem_map.mp ht
    obtain ⟨a, m⟩ := h e he
    rw [a.dat]
    exact ⟨fun o => (a.keep SameBut.upd hq m).dp, (by unfold Ent.dt; intro z; cases z), dt_depth e⟩
  · obtain ⟨e, he, rfl⟩ := List.mem_map.mp ht
    obtain ⟨g, hg, rfl⟩ := List.mem_map.mp hu
    rw [(h e he).1.dat, (h g hg).1.dat]
    exact dt_alike e g
theorem MI.same (I : MI ws H0 q d qs fs pend H) (s : Same H H1) : MI ws H0 q d qs fs pend H1 where
  s := I.s.trans s
  nq := I.nq
  nd := I.nd
  hq := s _ _ I.hq
  hd := s _ _ I.hd
  heap := queue_congr (fun t ht => by
    obtain ⟨e, he, rfl⟩ := List.mem_map.mp ht
    have a := (I.qe e (List.mem_append_left _ he)).1
    rw [a.dat, (a.same s).dat]) I.heap
  qe := fun e he => by
    obtain ⟨h1, h2⟩ := I.qe e he
    exact ⟨h1.same s, h2⟩
  fe := fun f hf => by
    obtain ⟨h1, h2⟩ := I.fe f hf
    exact ⟨⟨s _ _ h1.t, s _ _ h1.o, s _ _ h1.p⟩, h2⟩
  dist := I.dist
  c1 := I.c1
  c2 := I.c2
  sz := I.sz
theorem Ent.Fat.keep {f : Ent} {us : List Addr} (a : f.Fat H) (s : SameBut q H H1) (hq : H q = some (.lst (us.map V.ref))) (m : f.mt ws) : f.Fat H1 :=
  ⟨s _ _ (ne_of a.t hq fun z => nomatch z) a.t, s _ _ (ne_of a.o hq (texts_ne_refs m.ne1)) a.o, s _ _ (ne_of a.p hq (texts_ne_refs m.ne2)) a.p⟩
/-- an entry that was to come is pushed -/
theorem MI.push {R : V → Hp → Prop} {T : Addr} (I : MI ws H0 q d qs fs (e :: pend) H) (a : ({ e with T := T } : Ent).At H) (n : H0 T = none) (l132 : fs.length ≤ 132)
    (hR : ∀ qs' H2, MI ws H0 q d qs' fs pend H2 → SameBut q H H2 → R .non H2) : HQ.rPush K [.ref q, .ref T] H R := by
  have me := I.qe e (List.mem_append_right _ List.mem_cons_self)
  have sz := I.sz
  rw [List.length_cons] at sz
  have ke : ∀ g ∈ ({ e with T := T } : Ent) :: qs, g.At H ∧ g.mt ws := fun g hg => by
    rcases List.mem_cons.mp hg with z | z
    · rw [z]
      exact ⟨a, me.2.2.1⟩
    · have := I.qe g (List.mem_append_left _ z)
      exact ⟨this.1, this.2.2.1⟩
  refine ⟨q, T, qs.map Ent.T, dat H, rfl, I.hq, ?_, keyed_of I.hq ke, I.heap, fun us p hh => ?_⟩
  · rw [List.length_map]
    show qs.length < 2 ^ 24
    omega
  obtain ⟨qs', p', e'⟩ := perm_lift (f := Ent.T) (l := ({ e with T := T } : Ent) :: qs) p
  subst e'
  have ndq : d ≠ q := fun z => by
    have := I.hd
    rw [z, I.hq] at this
    cases this
  have sb : SameBut q H (upd H q (.lst (ents qs'))) := SameBut.upd
  have hnew : ({ e with T := T } : Ent) ∈ qs' := p'.mem_iff.mpr List.mem_cons_self
  have mem' : ∀ g ∈ qs ++ e :: pend, g = e ∨ g ∈ qs' ++ pend := fun g hg => by
    rcases List.mem_append.mp hg with z | z
    · exact .inr (List.mem_append_left _ (p'.mem_iff.mpr (List.mem_cons_of_mem _ z)))
    · rcases List.mem_cons.mp z with z | z
      · exact .inl z
      · exact .inr (List.mem_append_right _ z)
  refine hR qs' _ ⟨fun b o hb => ?_, I.nq, I.nd, upd_same, by rw [upd_ne ndq]; exact I.hd, ?_, fun g hg => ?_, fun f hf => ?_, I.dist, fun v hv o ho ne hh => ?_, fun f hf v hv x b hs => ?_, ?_⟩ sb
  · rw [upd_ne (ne_of_none hb I.nq)]
    exact I.s _ _ hb
  · refine queue_congr (fun t ht => ?_) hh
    obtain ⟨g, hg, rfl⟩ := List.mem_map.mp ht
    obtain ⟨h1, h2⟩ := ke g (p'.mem_iff.mp hg)
    rw [h1.dat, (h1.keep sb I.hq h2).dat]
  · have old : ∀ g ∈ qs ++ e :: pend, g.At (upd H q (.lst (ents qs'))) ∧ g.New H0 ∧ g.mt ws ∧ g.one.length ≤ fs.length + 1 ∧ g.other.length ≤ fs.length + 1 := fun g hg => by
      obtain ⟨h1, h2, h3, h4⟩ := I.qe g hg
      exact ⟨h1.keep sb I.hq h3, h2, h3, h4⟩
    rcases List.mem_append.mp hg with z | z
    · rcases List.mem_cons.mp (p'.mem_iff.mp z) with z | z
      · rw [z]
        exact ⟨a.keep sb I.hq me.2.2.1, ⟨n, me.2.1.o, me.2.1.p⟩, me.2.2⟩
      · exact old g (List.mem_append_left _ z)
    · exact old g (List.mem_append_right _ (List.mem_cons_of_mem _ z))
  · obtain ⟨h1, h2, h3, h4⟩ := I.fe f hf
    exact ⟨h1.keep sb I.hq h3, h2, h3, h4⟩
  · rcases I.c1 v hv o ho ne hh with z | ⟨g, h1, h2, h3⟩
    · exact .inl z
    · rcases mem' g h1 with z | z
      · subst z
        exact .inr ⟨_, List.mem_append_left _ hnew, h2, h3⟩
      · exact .inr ⟨g, z, h2, h3⟩
  · rcases I.c2 f hf v hv x b hs with z | ⟨g, h1, h2, h3⟩
    · exact .inl z
    · rcases mem' g h1 with z | z
      · subst z
        exact .inr ⟨_, List.mem_append_left _ hnew, h2, h3⟩
      · exact .inr ⟨g, z, h2, h3⟩
  · rw [p'.length_eq, List.length_cons]
    omega
/-- the least entry is taken out: it is to come then -/
theorem MI.pop {R : V → Hp → Prop} (I : MI ws H0 q d qs fs [] H) (hne : qs ≠ [])
    (hR : ∀ e qs' H2, MI ws H0 q d qs' fs [e] H2 → SameBut q H H2 → (∀ g ∈ qs', e.n ≤ g.n) → qs'.length + 1 = qs.length → R (.ref e.T) H2) : HQ.rPop K [.ref q] H R := by
  have ke : ∀ g ∈ qs, g.At H ∧ g.mt ws := fun g hg => by
    have := I.qe g (List.mem_append_left _ hg)
    exact ⟨this.1, this.2.2.1⟩
  refine ⟨q, qs.map Ent.T, dat H, rfl, I.hq, ?_, keyed_of I.hq ke, I.heap, fun t us p hh hm => ?_⟩
  · rw [List.length_map]
    exact List.length_pos_iff.mpr hne
  obtain ⟨l', p', e'⟩ := perm_lift (f := Ent.T) (l := qs) p
  cases l' with
  | nil => cases e'
  | cons e qs' =>
    rw [List.map_cons] at e'
    obtain ⟨rfl, rfl⟩ := List.cons.inj e'
    have ndq : d ≠ q := fun z => by
      have := I.hd
      rw [z, I.hq] at this
      cases this
    have sb : SameBut q H (upd H q (.lst (ents qs'))) := SameBut.upd
    have mem' : ∀ g ∈ qs ++ [], g ∈ qs' ++ [e] := fun g hg => by
      rw [List.append_nil] at hg
      rcases List.mem_cons.mp (p'.mem_iff.mpr hg) with z | z
      · exact List.mem_append_right _ (List.mem_singleton.mpr z)
      · exact List.mem_append_left _ z
    have mem2 : ∀ g ∈ qs' ++ [e], g ∈ qs ++ [] := fun g hg => by
      rw [List.append_nil]
      refine p'.mem_iff.mp ?_
      rcases List.mem_append.mp hg with z | z
      · exact List.mem_cons_of_mem _ z
      · rw [List.mem_singleton.mp z]
        exact List.mem_cons_self
    have hl := p'.length_eq
    rw [List.length_cons] at hl
    have sz := I.sz
    refine hR e qs' _ ⟨fun b o hb => ?_, I.nq, I.nd, upd_same, by rw [upd_ne ndq]; exact I.hd, ?_, fun g hg => ?_, fun f hf => ?_, I.dist, fun v hv o ho ne hh => ?_, fun f hf v hv x b hs => ?_, ?_⟩ sb (fun g hg => ?_) hl
    · rw [upd_ne (ne_of_none hb I.nq)]
      exact I.s _ _ hb
    · refine queue_congr (fun t ht => ?_) hh
      obtain ⟨g, hg, rfl⟩ := List.mem_map.mp ht
      obtain ⟨h1, h2⟩ := ke g (p'.mem_iff.mp (List.mem_cons_of_mem _ hg))
      rw [h1.dat, (h1.keep sb I.hq h2).dat]
    · obtain ⟨h1, h2, h3, h4⟩ := I.qe g (mem2 g hg)
      exact ⟨h1.keep sb I.hq h3, h2, h3, h4⟩
    · obtain ⟨h1, h2, h3, h4⟩ := I.fe f hf
      exact ⟨h1.keep sb I.hq h3, h2, h3, h4⟩
    · rcases I.c1 v hv o ho ne hh with z | ⟨g, h1, h2⟩
      · exact .inl z
      · exact .inr ⟨g, mem' g h1, h2⟩
    · rcases I.c2 f hf v hv x b hs with z | ⟨g, h1, h2⟩
      · exact .inl z
      · exact .inr ⟨g, mem' g h1, h2⟩
    · rw [List.length_singleton]
      rw [List.length_nil] at sz
      omega
    · have q1 := hm g.T (List.mem_map.mpr ⟨g, hg, rfl⟩)
      rw [(ke g (p'.mem_iff.mp (List.mem_cons_of_mem _ hg))).1.dat, (ke e (p'.mem_iff.mp List.mem_cons_self)).1.dat] at q1
      by_cases h : e.n ≤ g.n
      · exact h
      · rw [dt_lt (by omega)] at q1
        cases q1
/-- an entry whose rest is told already -/
theorem MI.skip (I : MI ws H0 q d qs fs [e] H) {f : Ent} (hf : f ∈ fs) (hr : f.r = e.r) : MI ws H0 q d qs fs [] H where
  s := I.s
  nq := I.nq
  nd := I.nd
  hq := I.hq
  hd := I.hd
  heap := I.heap
  qe := fun g hg => I.qe g (List.mem_append_left _ (by rw [List.append_nil] at hg; exact hg))
  fe := I.fe
  dist := I.dist
  c1 := fun v hv o ho ne hh => by
    have le : f.n ≤ e.n := (I.fe f hf).2.2.2.1.2 _ (by rw [hr]; exact (I.qe e (List.mem_append_right _ List.mem_cons_self)).2.2.1.off)
    rcases I.c1 v hv o ho ne hh with z | ⟨g, h1, h2, h3⟩
    · exact .inl z
    · rcases List.mem_append.mp h1 with z | z
      · exact .inr ⟨g, List.mem_append_left _ z, h2, h3⟩
      · rw [List.mem_singleton.mp z] at h2 h3
        exact .inl ⟨f, hf, by rw [hr, h2], by omega⟩
  c2 := fun f' hf' v hv x b hs => by
    have le : f.n ≤ e.n := (I.fe f hf).2.2.2.1.2 _ (by rw [hr]; exact (I.qe e (List.mem_append_right _ List.mem_cons_self)).2.2.1.off)
    rcases I.c2 f' hf' v hv x b hs with z | ⟨g, h1, h2, h3⟩
    · exact .inl z
    · rcases List.mem_append.mp h1 with z | z
      · exact .inr ⟨g, List.mem_append_left _ z, h2, h3⟩
      · rw [List.mem_singleton.mp z] at h2 h3
        exact .inl ⟨f, hf, by rw [hr, h2], by omega⟩
  sz := by
    have := I.sz
    rw [List.length_singleton] at this
    rw [List.length_nil]
    omega
theorem MI.least (I : MI ws H0 q d qs fs [e] H) (hm : ∀ g ∈ qs, e.n ≤ g.n) (hn : ∀ f ∈ fs, f.r ≠ e.r) : Lst ws e.r e.n := by
  refine ⟨(I.qe e (List.mem_append_right _ List.mem_cons_self)).2.2.1.off, fun m o => ?_⟩
  rcases I.reach o with ⟨f, h1, h2, _⟩ | ⟨g, h1, h2⟩
  · exact absurd h2 (hn f h1)
  · rcases List.mem_append.mp h1 with z | z
    · have := hm g z
      omega
    · rw [List.mem_singleton.mp z] at h2
      exact h2
/-- the rest is told, and what it goes on to is to come -/
theorem MI.grow {T : Addr} {es : List Ent} {H4 : Hp} (I : MI ws H0 q d qs fs [e] H) (hl : Lst ws e.r e.n) (hn : ∀ f ∈ fs, f.r ≠ e.r) (hT : H T = none)
    (s : Same (upd (upd H T (.tup [.ref e.oA, .ref e.pA])) d (.dK (putK (fkv fs) (Sum.inr (S e.r)) (.ref T)))) H4)
    (he : ∀ g ∈ es, Fur ws (upd (upd H T (.tup [.ref e.oA, .ref e.pA])) d (.dK (putK (fkv fs) (Sum.inr (S e.r)) (.ref T)))) e.oA e.pA (fs.length + 1) H4 g)
    (hc : ∀ v ∈ ws, ∀ x b, stp e.r v = some (x, b) → ∃ g ∈ es, g.r = x ∧ g.n = e.n + if b = true then x.length else 0) (h12 : es.length ≤ 12) :
    MI ws H0 q d qs (fs ++ [{ e with T := T }]) es H4 := by
  have ndT : T ≠ d := fun z => by
    have := I.hd
    rw [← z, hT] at this
    cases this
  have hput : putK (fkv fs) (Sum.inr (S e.r)) (.ref T) = fkv (fs ++ [{ e with T := T }]) := by
    rw [putK_new _ (fkv_out hn)]
    unfold fkv
    rw [List.map_append]
    rfl
  rw [hput] at s he
  have kd : ∀ b o, H b = some o → b ≠ d → H4 b = some o := fun b o hb nb => s _ _ (by rw [upd_ne nb, upd_ne (ne_of_none hb hT)]; exact hb)
  have n0 : H0 T = none := none_of I.s hT
  have s03 : Same H0 (upd (upd H T (.tup [.ref e.oA, .ref e.pA])) d (.dK (fkv (fs ++ [{ e with T := T }])))) := fun b o hb => by
    rw [upd_ne (ne_of_none hb I.nd), upd_ne (ne_of_none hb n0)]
    exact I.s _ _ hb
  have at4 : ∀ g : Ent, g.At H → g.At H4 := fun g a => ⟨kd _ _ a.t (ne_of a.t I.hd fun z => nomatch z), kd _ _ a.o (ne_of a.o I.hd fun z => nomatch z), kd _ _ a.p (ne_of a.p I.hd fun z => nomatch z)⟩
  have me := I.qe e (List.mem_append_right _ List.mem_cons_self)
  have one : ∀ x : Addr, OneOf (upd (upd H T (.tup [.ref e.oA, .ref e.pA])) d (.dK (fkv (fs ++ [{ e with T := T }])))) x e.oA e.pA → H0 x = none := fun x h => by
    rcases h with h | h | h
    · exact none_of s03 h
    · rw [h]
      exact me.2.1.o
    · rw [h]
      exact me.2.1.p
  refine ⟨s03.trans s, I.nq, I.nd, kd _ _ I.hq (fun z => ?_), s _ _ upd_same, ?_, fun g hg => ?_, fun f hf => ?_, ?_, fun v hv o ho ne hh => ?_, fun f hf v hv x b hs => ?_, ?_⟩
  · have := I.hd
    rw [← z, I.hq] at this
    cases this
  · refine queue_congr (fun t ht => ?_) I.heap
    obtain ⟨g, hg, rfl⟩ := List.mem_map.mp ht
    have a := (I.qe g (List.mem_append_left _ hg)).1
    rw [a.dat, (at4 g a).dat]
  · rw [List.length_append, List.length_singleton]
    rcases List.mem_append.mp hg with z | z
    · obtain ⟨h1, h2, h3, h4, h5⟩ := I.qe g (List.mem_append_left _ z)
      exact ⟨at4 g h1, h2, h3, by omega, by omega⟩
    · have h := he g z
      exact ⟨h.at_, ⟨none_of s03 h.t, one _ h.o, one _ h.p⟩, h.m, h.l1, h.l2⟩
  · rw [List.length_append, List.length_singleton]
    rcases List.mem_append.mp hf with z | z
    · obtain ⟨h1, h2, h3, h4, h5, h6⟩ := I.fe f z
      exact ⟨⟨kd _ _ h1.t (ne_of h1.t I.hd fun z => nomatch z), kd _ _ h1.o (ne_of h1.o I.hd fun z => nomatch z), kd _ _ h1.p (ne_of h1.p I.hd fun z => nomatch z)⟩, h2, h3, h4, by omega, by omega⟩
    · rw [List.mem_singleton.mp z]
      have a := at4 e me.1
      exact ⟨⟨s _ _ (by rw [upd_ne ndT, upd_same]), a.o, a.p⟩, ⟨n0, me.2.1.o, me.2.1.p⟩, me.2.2.1, hl, me.2.2.2.1, me.2.2.2.2⟩
  · rw [List.map_append]
    refine List.nodup_append.mpr ⟨I.dist, by simp, fun a ha b hb => ?_⟩
    obtain ⟨f, hf, rfl⟩ := List.mem_map.mp ha
    have : b = e.r := by simpa using hb
    rw [this]
    exact hn f hf
  · rcases I.c1 v hv o ho ne hh with ⟨f, h1, h2⟩ | ⟨g, h1, h2, h3⟩
    · exact .inl ⟨f, List.mem_append_left _ h1, h2⟩
    · rcases List.mem_append.mp h1 with z | z
      · exact .inr ⟨g, List.mem_append_left _ z, h2, h3⟩
      · rw [List.mem_singleton.mp z] at h2 h3
        exact .inl ⟨{ e with T := T }, List.mem_append_right _ (List.mem_singleton.mpr rfl), h2, Nat.le_of_eq h3⟩
  · rcases List.mem_append.mp hf with z | z
    · rcases I.c2 f z v hv x b hs with ⟨f, h1, h2⟩ | ⟨g, h1, h2, h3⟩
      · exact .inl ⟨f, List.mem_append_left _ h1, h2⟩
      · rcases List.mem_append.mp h1 with z | z
        · exact .inr ⟨g, List.mem_append_left _ z, h2, h3⟩
        · rw [List.mem_singleton.mp z] at h2 h3
          exact .inl ⟨{ e with T := T }, List.mem_append_right _ (List.mem_singleton.mpr rfl), h2, Nat.le_of_eq h3⟩
    · rw [List.mem_singleton.mp z] at hs ⊢
      obtain ⟨g, h1, h2, h3⟩ := hc v hv x b hs
      exact .inr ⟨g, List.mem_append_right _ h1, h2, h3⟩
  · have := I.sz
    rw [List.length_singleton] at this
    rw [List.length_append, List.length_singleton]
    omega
end
/-- the table of meetings -/
structure Met (ws : List (List Nat)) (H H' : Hp) (fs : List Ent) : Prop where
  fe : ∀ f ∈ fs, f.Fat H' ∧ f.New H ∧ f.mt ws ∧ Lst ws f.r f.n ∧ f.one.length ≤ 132 ∧ f.other.length ≤ 132
  nd : (fs.map Ent.r).Nodup
  all : ∀ r m, Off ws r m → ∃ f ∈ fs, f.r = r
  len : fs.length ≤ 132
def spMeet : Sp := fun vs H Q _ => ∃ (c : Addr) (ws : List (List Nat)), vs = [.ref c] ∧ H c = some (.lst (ws.map tx)) ∧ ws.length ≤ 12 ∧ (∀ x ∈ ws, WordOk x) ∧
  ∀ (d : Addr) (fs : List Ent) (H' : Hp), Same H H' → H d = none → H' d = some (.dK (fkv fs)) → Met ws H H' fs → Q (.ref d) H'
section
variable {Pr : Program} {w : World} {K : PySem.W.Frag} {mg : Str → Option Value} {base : Heap} {f fL fS f1 f2 : Addr} {fd fdL fdS fd1 fd2 : FuncData}
theorem scMeet : FnScope ["code", "found", "queue", "length", "rest", "one", "other", "further"] ["code"] (defScope s_meetings) := ⟨rfl, rfl, rfl, by decide +kernel, rfl, by decide +kernel, by decide +kernel⟩
theorem ok_meet (F : FnP K "meetings" s_meetings f fd) (L : Has K mg "left_of" s_left_of ["text", "other"] fL fdL) (S1 : Has K mg "stepped" s_stepped ["rest", "word"] fS fdS)
    (FM : Has K mg "_first_meetings" s__first_meetings ["code"] f1 fd1) (UM : Has K mg "_further_meetings" s__further_meetings ["code", "length", "rest", "one", "other"] f2 fd2) (B : Bl mg) : FnOk Pr w K mg base CX0 4 f fd ["code"] spMeet := by
  have G1 : FnOk Pr w K mg base CX0 3 f1 fd1 ["code"] spFirst := (ok_first FM.F L B).mono (by decide)
  have G2 : FnOk Pr w K mg base CX0 3 f2 fd2 ["code", "length", "rest", "one", "other"] spFurther := ok_further UM.F L S1 B
  refine F.okN scMeet (fun vs H Q E h => ?_) (fun cdv A' outer s H vs Q E hr h => ?_)
  · obtain ⟨c, ws, rfl, _⟩ := h
    rfl
  · obtain ⟨c, ws, rfl, hC, hn, hw, q⟩ := h
    have hu : (A'.deeper (envOfC "meetings" (defScope s_meetings) s.heap.objs.size f cdv)).units + 1 < cLine := by
      have := hr.units
      omega
    refine ⟨_, pss_cons (ps_set (i := 1) scMeet.nd rfl (.inl rfl) pe_dnewK)
      (pss_cons (ps_set (i := 2) scMeet.nd rfl (.inl rfl) (pe_lst pa_nil))
      (pss_cons (ps_for PassesOwn.never rfl (pi_list (pe_call G1 hr (by rfl) FM.g FM.F.kp FM.b .nil pass0 (pa_cons (pv 0) pa_nil)))
          (pg_tup rfl (pgs_cons (pg_name (i := 3) scMeet.nd rfl (Or.inl rfl)) (pgs_cons (pg_name (i := 4) scMeet.nd rfl (Or.inl rfl)) (pgs_cons (pg_name (i := 5) scMeet.nd rfl (Or.inl rfl)) (pgs_cons (pg_name (i := 6) scMeet.nd rfl (Or.inl rfl)) pgs_nil)))))
        (pss_one (ps_expr (pe_callBfun (HQ.cr_push hr.units) (by rfl) B.mPush (pa_cons (pv 2) (pa_cons (pe_tup (pa_cons (pv 3) (pa_cons (pv 4) (pa_cons (pv 5) (pa_cons (pv 6) pa_nil))))) pa_nil))))))
      (pss_cons (ps_while PassesOwn.never (pt_truth (pv 2) (by intro _; rfl))
        (pss_cons (ps_asg (pe_callBfun (HQ.cr_pop hr.units) (by rfl) B.mPop (pa_cons (pv 2) pa_nil))
            (pg_tup rfl (pgs_cons (pg_name (i := 3) scMeet.nd rfl (Or.inl rfl)) (pgs_cons (pg_name (i := 4) scMeet.nd rfl (Or.inl rfl)) (pgs_cons (pg_name (i := 5) scMeet.nd rfl (Or.inl rfl)) (pgs_cons (pg_name (i := 6) scMeet.nd rfl (Or.inl rfl)) pgs_nil))))))
          (pss_one (ps_if (pt_cmp (pc_dnotin hu (pv 4) (pv 1)))
            (pss_cons (ps_dput hu (pv 1) (pv 4) (pe_tup (pa_cons (pv 5) (pa_cons (pv 6) pa_nil))) rfl)
              (pss_one (ps_for PassesOwn.never rfl (pi_list (pe_call G2 hr (by rfl) UM.g UM.F.kp UM.b .nil pass0 (pa_cons (pv 0) (pa_cons (pv 3) (pa_cons (pv 4) (pa_cons (pv 5) (pa_cons (pv 6) pa_nil)))))))
                  (pg_name (i := 7) scMeet.nd rfl (Or.inl rfl))
                (pss_one (ps_expr (pe_callBfun (HQ.cr_push hr.units) (by rfl) B.mPush (pa_cons (pv 2) (pa_cons (pv 7) pa_nil)))))))) pss_nil))))
      (pss_one (ps_ret (pv 1)))))), ?_⟩
    refine fun d nd => ⟨Nat.zero_le _, fun g hg => ?_⟩
    have s1 := same_upd (o := .dK []) nd
    have s2 := same_upd (o := .lst []) hg
    have ng : H g = none := none_of s1 hg
    have hdg : d ≠ g := fun z => by rw [← z, upd_same] at hg; cases hg
    refine ⟨_, rfl, c, ws, rfl, (s1.trans s2) _ _ hC, hn, hw, fun l es H1 t1 nl el he hcov hle => ?_⟩
    have I0 : MI ws H g d [] [] es H1 := by
      refine ⟨(s1.trans s2).trans t1, ng, nd, t1 _ _ upd_same, t1 _ _ (by rw [upd_ne hdg, upd_same]; rfl), fun i h0 hi => absurd hi (Nat.not_lt_zero i), fun e h => ?_, fun e h => absurd h List.not_mem_nil, List.nodup_nil, fun v hv o ho ne hh => ?_, fun f hf => absurd hf List.not_mem_nil, ?_⟩
      · obtain ⟨h1, h2, h3, h4, h5⟩ := he e h
        exact ⟨h1, ⟨none_of (s1.trans s2) h2.t, none_of (s1.trans s2) h2.o, none_of (s1.trans s2) h2.p⟩, h3, by rw [h4]; exact Nat.le_refl _, by rw [h5]; exact Nat.le_refl _⟩
      · obtain ⟨e, h1, h2⟩ := hcov v hv o ho ne hh
        exact .inr ⟨e, h1, h2⟩
      · show 0 + es.length ≤ 144 + 12 * 0
        omega
    have nlg : l ≠ g := fun z => by rw [z, upd_same] at nl; cases nl
    refine ⟨l, rfl, ⟨_, seqL el⟩, for_list (K := K) (a := l) (xs := ents es) (fun i σ H2 => (∃ qs, MI ws H g d qs [] (es.drop i) H2) ∧ H2 l = some (.lst (ents es)) ∧ ∃ k3 k4 k5 k6 : Option V, σ = [some (.ref c), some (.ref d), some (.ref g), k3, k4, k5, k6, none]) ?_ (fun i σ H2 _ hh => seqL hh.2.1) ?_ ?_⟩
    · exact ⟨⟨[], I0⟩, el, _, _, _, _, rfl⟩
    · rintro i x σ H2 hx ⟨⟨qs, I⟩, el2, k3, k4, k5, k6, rfl⟩
      have hi : i < es.length := by
        have := (List.getElem?_eq_some_iff.mp hx).1
        rw [List.length_map, List.length_map] at this
        exact this
      have hxe : x = .ref es[i].T := by
        rw [List.getElem?_map, List.getElem?_map, List.getElem?_eq_getElem hi] at hx
        exact (Option.some.inj hx).symm
      subst hxe
      rw [List.drop_eq_getElem_cons hi] at I
      generalize es[i] = e at I ⊢
      have me := (I.qe e (List.mem_append_right _ List.mem_cons_self))
      refine ⟨e.T, _, rfl, .inl (.inl me.1.t), rfl, _, _, rfl, _, _, rfl, _, _, rfl, _, _, rfl, rfl, ?_⟩
      refine ⟨_, rfl, _, rfl, _, rfl, _, rfl, _, rfl, by show 4 ≤ sizeLine; decide, fun T hT => ?_⟩
      have sT := same_upd (o := .tup [.int (e.n : Int), tx e.r, .ref e.oA, .ref e.pA]) hT
      have I2 := I.same sT
      obtain ⟨_, _, ts, κ, ev, h1, h2, h3, h4, h5⟩ := I2.push (K := K) (R := fun _ H3 => ∃ qs', MI ws H g d qs' [] (es.drop (i + 1)) H3 ∧ SameBut g _ H3) (T := T) ⟨upd_same, sT _ _ me.1.o, sT _ _ me.1.p⟩ (none_of I.s hT) (Nat.zero_le _) fun qs' H3 I3 sb => ⟨qs', I3, sb⟩
      cases ev
      refine ⟨g, T, ts, κ, rfl, h1, h2, h3, h4, fun us p hh => ?_⟩
      obtain ⟨qs', I3, sb⟩ := h5 us p hh
      exact ⟨⟨qs', I3⟩, sb _ _ nlg (sT _ _ el2), _, _, _, _, rfl⟩
    · rintro σ H2 ⟨⟨qs, I⟩, el2, k3, k4, k5, k6, rfl⟩
      have ed : es.drop (ents es).length = [] := by
        rw [List.length_map, List.length_map]
        exact List.drop_length
      rw [ed] at I
      refine ⟨fun m σ H3 => ∃ (qs fs : List Ent), MI ws H g d qs fs [] H3 ∧ m = qs.length + (150 - fs.length) * 13 ∧ ∃ k3 k4 k5 k6 k7 : Option V, σ = [some (.ref c), some (.ref d), some (.ref g), k3, k4, k5, k6, k7], ⟨_, qs, [], I, rfl, _, _, _, _, _, rfl⟩, ?_⟩
      rintro m σ H3 ⟨qs, fs, I, rfl, k3, k4, k5, k6, k7, rfl⟩
      have l132 := I.fs_len hw hn
      refine ⟨_, rfl, !qs.isEmpty, .inl ⟨_, seqL I.hq, ?_⟩, ?_⟩
      · cases qs <;> rfl
      by_cases hq0 : qs = []
      · subst hq0
        refine iteF ⟨_, rfl, q d fs H3 I.s nd I.hd ⟨fun f hf => ?_, I.dist, fun r m o => ?_, l132⟩⟩
        · obtain ⟨h1, h2, h3, h4, h5, h6⟩ := I.fe f hf
          exact ⟨h1, h2, h3, h4, by omega, by omega⟩
        · rcases I.reach o with ⟨f, h1, h2, _⟩ | ⟨e, h1, _⟩
          · exact ⟨f, h1, h2⟩
          · exact absurd h1 List.not_mem_nil
      · have hem : (!qs.isEmpty) = true := by
          cases qs with
          | nil => exact absurd rfl hq0
          | cons x r => rfl
        rw [hem]
        refine iteT ⟨fun σ H4 => ∃ (qs' fs' : List Ent), MI ws H g d qs' fs' [] H4 ∧ qs'.length + (150 - fs'.length) * 13 < qs.length + (150 - fs.length) * 13 ∧ ∃ k3 k4 k5 k6 k7 : Option V, σ = [some (.ref c), some (.ref d), some (.ref g), k3, k4, k5, k6, k7], fun σ' H4 ⟨qs', fs', a1, a2, a3⟩ => ⟨_, a2, qs', fs', a1, rfl, a3⟩, ?_⟩
        obtain ⟨_, ts, κ, ev, h1, h2, h3, h4, h5⟩ := I.pop (K := K) (R := fun v H4 => ∃ (e : Ent) (qs' : List Ent), v = .ref e.T ∧ MI ws H g d qs' fs [e] H4 ∧ SameBut g H3 H4 ∧ (∀ g ∈ qs', e.n ≤ g.n) ∧ qs'.length + 1 = qs.length) hq0 fun e qs' H4 I4 sb hmin hlen => ⟨e, qs', rfl, I4, sb, hmin, hlen⟩
        cases ev
        refine ⟨_, rfl, g, ts, κ, rfl, h1, h2, h3, h4, fun t us p hh hm => ?_⟩
        obtain ⟨e, qs', ev, I4, sb, hmin, hlen⟩ := h5 t us p hh hm
        cases ev
        generalize upd H3 g (.lst (us.map V.ref)) = H4 at I4 sb ⊢
        have me := I4.qe e (List.mem_append_right _ List.mem_cons_self)
        refine ⟨e.T, _, rfl, .inl (.inl me.1.t), rfl, _, _, rfl, _, _, rfl, _, _, rfl, _, _, rfl, rfl, ?_⟩
        refine ⟨_, rfl, _, rfl, d, _, rfl, DGet.k (k := Sum.inr (S e.r)) I4.hd, _, rfl, ?_⟩
        by_cases hin : ∃ f ∈ fs, f.r = e.r
        · obtain ⟨f, hf, hr⟩ := hin
          have ev := fkv_in I4.dist hf
          rw [hr] at ev
          rw [ev]
          refine iteF ⟨qs', fs, I4.skip hf hr, by omega, _, _, _, _, _, rfl⟩
        · have hnin : ∀ f ∈ fs, f.r ≠ e.r := fun f hf z => hin ⟨f, hf, z⟩
          rw [fkv_out hnin]
          refine iteT ?_
          have hl := I4.least hmin hnin
          refine ⟨_, rfl, _, rfl, by show 2 ≤ sizeLine; decide, fun T hT => ?_⟩
          have sT := same_upd (o := .tup [.ref e.oA, .ref e.pA]) hT
          have hd4 := sT _ _ I4.hd
          have lf : (fkv fs).length < sizeLine := by
            unfold fkv
            rw [List.length_map]
            show fs.length < 2 ^ 24
            omega
          refine ⟨_, rfl, _, rfl, d, _, rfl, DPut.k (k := Sum.inr (S e.r)) hd4 lf, ?_⟩
          have k5 : ∀ b o, H4 b = some o → b ≠ d → (upd (upd H4 T (.tup [.ref e.oA, .ref e.pA])) d (.dK (putK (fkv fs) (Sum.inr (S e.r)) (.ref T)))) b = some o := fun b o hb nb => by
            rw [upd_ne nb]
            exact sT _ _ hb
          have nlst : ∀ b xs, H4 b = some (.lst xs) → b ≠ d := fun b xs hb => ne_of hb I4.hd fun z => nomatch z
          have hC4 : H4 c = some (.lst (ws.map tx)) := I4.s _ _ hC
          have l4 := I4.fs_len hw hn
          refine ⟨_, rfl, _, rfl, _, rfl, _, rfl, _, rfl, c, e.oA, e.pA, e.n, fs.length + 1, e.r, e.one, e.other, ws, rfl, k5 _ _ hC4 (nlst _ _ hC4), k5 _ _ me.1.o (nlst _ _ me.1.o), k5 _ _ me.1.p (nlst _ _ me.1.p), hn, hw, me.2.2.1, me.2.2.2.1, me.2.2.2.2, by omega, fun l2 es2 H5 s5 nl2 el2 he2 hc2 hle2 => ?_⟩
          have I5 := I4.grow hl hnin hT s5 he2 hc2 hle2
          have lfs : (fs ++ [{ e with T := T }]).length = fs.length + 1 := by rw [List.length_append, List.length_singleton]
          have sz5 := I5.sz
          have nl2g : l2 ≠ g := fun z => by
            have := k5 _ _ I4.hq (nlst _ _ I4.hq)
            rw [← z, nl2] at this
            cases this
          generalize hfs : fs ++ [{ e with T := T }] = fs2 at I5 lfs sz5
          refine ⟨l2, rfl, ⟨_, seqL el2⟩, for_list (K := K) (a := l2) (xs := ents es2) (fun i σ H6 => (∃ qs2, MI ws H g d qs2 fs2 (es2.drop i) H6 ∧ qs2.length = qs'.length + i) ∧ H6 l2 = some (.lst (ents es2)) ∧ ∃ k3 k4 k5 k6 k7 : Option V, σ = [some (.ref c), some (.ref d), some (.ref g), k3, k4, k5, k6, k7]) ?_ (fun i σ H6 _ hh => seqL hh.2.1) ?_ ?_⟩
          · exact ⟨⟨qs', I5, rfl⟩, el2, _, _, _, _, _, rfl⟩
          · rintro i x σ H6 hx ⟨⟨qs2, I, hql⟩, el6, k3, k4, k5, k6, k7, rfl⟩
            have hi : i < es2.length := by
              have := (List.getElem?_eq_some_iff.mp hx).1
              rw [List.length_map, List.length_map] at this
              exact this
            have hxe : x = .ref es2[i].T := by
              rw [List.getElem?_map, List.getElem?_map, List.getElem?_eq_getElem hi] at hx
              exact (Option.some.inj hx).symm
            subst hxe
            rw [List.drop_eq_getElem_cons hi] at I
            generalize es2[i] = e' at I ⊢
            have me' := (I.qe e' (List.mem_append_right _ List.mem_cons_self))
            obtain ⟨_, _, ts, κ, ev, h1, h2, h3, h4, h5⟩ := I.push (K := K) (R := fun _ H3 => ∃ qs', MI ws H g d qs' fs2 (es2.drop (i + 1)) H3 ∧ SameBut g H6 H3) (T := e'.T) me'.1 me'.2.1.t (I.fs_len hw hn) fun qs' H3 I3 sb => ⟨qs', I3, sb⟩
            cases ev
            refine ⟨_, rfl, _, rfl, g, e'.T, ts, κ, rfl, h1, h2, h3, h4, fun us p hh => ?_⟩
            obtain ⟨qs3, I3, sb3⟩ := h5 us p hh
            refine ⟨⟨qs3, I3, ?_⟩, sb3 _ _ nl2g el6, _, _, _, _, _, rfl⟩
            have e1 := I3.hq
            rw [upd_same] at e1
            have e2 := HO.lst.inj (Option.some.inj e1)
            have e3 := congrArg List.length e2
            rw [List.length_map, List.length_map, List.length_map] at e3
            have e4 := p.length_eq
            have e5 := I.hq
            rw [h1] at e5
            have e6 := congrArg List.length (HO.lst.inj (Option.some.inj e5))
            rw [List.length_map, List.length_map, List.length_map] at e6
            rw [List.length_cons] at e4
            omega
          · rintro σ H6 ⟨⟨qs2, I, hql⟩, el6, k3, k4, k5, k6, k7, rfl⟩
            have ed : es2.drop (ents es2).length = [] := by
              rw [List.length_map, List.length_map]
              exact List.drop_length
            rw [ed] at I
            rw [List.length_map, List.length_map] at hql
            exact ⟨qs2, fs2, I, by omega, _, _, _, _, _, rfl⟩
end
section
variable {X : Cx}
/-- what an expression gives is locked from then on: it is read alone -/
theorem pe_frz {e : Expr} {t : TE} (h : PE X e t) : PE X e (fun σ H Q => t σ H fun v H1 => ∃ d u, v = .ref d ∧ H1 d = some u ∧ Mut (some u) ∧ ∀ od, Q (.ref d) (upd H1 d (.frz od u))) := by
  refine ⟨fun pins s σ H Q I hw => ?_⟩
  refine thn (h.run pins s σ H _ I hw) fun v s1 ⟨x, H1, I1, r, d, u, ex, hd, mu, q⟩ => ?_
  subst ex
  obtain ⟨od, I2⟩ := I1.lock hd mu
  exact ⟨.ref d, _, I2, r, q od⟩
end
theorem tab_free {P : Addr} {H : Hp} {g : Addr} (hT : GxR.TabG H P) (h : H g = none) : g ≠ P := fun z => by
  obtain ⟨ps, e, _⟩ := hT
  rw [z, e] at h
  cases h
theorem sum_cnt0 (l : List Str) : l.length * (Str.ofString "").length = 0 := by rw [empLen, Nat.mul_zero]
theorem flat_sz {ws xs : List (List Nat)} (hw : ∀ z ∈ ws, WordOk z) (h : ∀ z ∈ xs, z ∈ ws) (hl : xs.length ≤ 1000) : ((xs.map S).map (·.length)).sum + (xs.map S).length * (Str.ofString "").length ≤ 16777216 := by
  have h1 := flat_ten (ys := xs) fun y hy => (hw y (h y hy)).2.1
  rw [sum_cnt0, lenS, ← List.length_flatten]
  omega
section
variable {Pr : Program} {w : World} {K : PySem.W.Frag} {mg : Str → Option Value} {base : Heap} {P f fC fM : Addr} {fd fdI fdC fdM : FuncData}
theorem inMeet (D : Defs K mg) (B : Bl mg) : ∃ f fd, Has K mg "meetings" s_meetings ["code"] f fd ∧ FnOk Pr w K mg base CX0 4 f fd ["code"] spMeet := by
  obtain ⟨f1, d1, L⟩ := D.d_left_of
  obtain ⟨f2, d2, S1⟩ := D.d_stepped
  obtain ⟨f3, d3, FM⟩ := D.d__first_meetings
  obtain ⟨f4, d4, UM⟩ := D.d__further_meetings
  obtain ⟨f5, d5, M⟩ := D.d_meetings
  exact ⟨f5, d5, M, ok_meet M.F L S1 FM UM B⟩
end
section
/-- a double as it is told: its text, both rows -/
structure DbAt (H : Hp) (p xa ya : Addr) (ws : List (List Nat)) (t : List Nat) (x : List Nat) (xs : List (List Nat)) (y : List Nat) (ys : List (List Nat)) : Prop where
  p : H p = some (.tup [tx t, .ref xa, .ref ya])
  x : H xa = some (.lst ((x :: xs).map tx))
  y : H ya = some (.lst ((y :: ys).map tx))
structure Db (ws : List (List Nat)) (t : List Nat) (x : List Nat) (xs : List (List Nat)) (y : List Nat) (ys : List (List Nat)) : Prop where
  xf : (x :: xs).flatten = t
  yf : (y :: ys).flatten = t
  xw : ∀ z ∈ x :: xs, z ∈ ws
  yw : ∀ z ∈ y :: ys, z ∈ ws
  lt : x.length < y.length
theorem row_len {ws xs : List (List Nat)} (hw : ∀ z ∈ ws, WordOk z) : (∀ z ∈ xs, z ∈ ws) → xs.length ≤ xs.flatten.length := by
  induction xs with
  | nil => exact fun _ => Nat.le_refl _
  | cons x xs ih =>
    intro h
    have h1 := (hw x (h x List.mem_cons_self)).1
    have h2 := ih fun z hz => h z (List.mem_cons_of_mem _ hz)
    rw [List.flatten_cons, List.length_append, List.length_cons]
    omega
theorem join_sz {ws xs : List (List Nat)} (hw : ∀ z ∈ ws, WordOk z) (h : ∀ z ∈ xs, z ∈ ws) (hl : xs.flatten.length ≤ 10000) : ((xs.map S).map (·.length)).sum + (xs.map S).length * (Str.ofString "").length ≤ 16777216 := by
  rw [lenS, ← List.length_flatten, empLen, Nat.mul_zero]
  omega
/-- what double promises -/
def spDouble (P : Addr) : Sp := fun vs H Q _ => ∃ (b : Addr) (ws : List (List Nat)), vs = [.ref b] ∧ H b = some (.lst (ws.map tx)) ∧ CodeOk ws ∧ GxR.TabG H P ∧
  ((∀ n, ¬ Lst ws [] n) → ∀ H', Sm P H H' → Q .non H') ∧
  (∀ n, Lst ws [] n → ∀ (p xa ya : Addr) (t x : List Nat) (xs : List (List Nat)) (y : List Nat) (ys : List (List Nat)) (H' : Hp), Sm P H H' → H p = none → H xa = none → H ya = none → xa ≠ ya → DbAt H' p xa ya ws t x xs y ys → Db ws t x xs y ys → t.length = n → n ≤ 10000 → Q (.ref p) H')
theorem heads_len {a b t : List Nat} {u v : List Nat} (h1 : a ++ u = t) (h2 : b ++ v = t) (ne : a ≠ b) : a.length ≠ b.length := fun e => ne (by
  have q : a ++ u = b ++ v := h1.trans h2.symm
  exact (List.append_inj q e).1)
variable {Pr : Program} {w : World} {K : PySem.W.Frag} {mg : Str → Option Value} {base : Heap} {P f fC fM : Addr} {fd fdI fdC fdM : FuncData}
theorem scDouble : FnScope ["words", "met", "one", "other", "text"] ["words"] (defScope s_double) := ⟨rfl, rfl, rfl, by decide +kernel, rfl, by decide +kernel, by decide +kernel⟩
theorem ok_double (F : FnP K "double" s_double f fd) (C : Has K mg "checked" sChecked ["words"] fC fdC) (I : HasI K mg base P fdI) (GM : FnOk Pr w K mg base CX0 4 fM fdM ["code"] spMeet) (M : Has K mg "meetings" s_meetings ["code"] fM fdM) (B : Bl mg) : FnOk Pr w K mg base CX0 5 f fd ["words"] (spDouble P) := by
  have GC : FnOk Pr w K mg base CX0 4 fC fdC ["words"] (spChecked P) := (ok_checked C.F I B).mono (by decide)
  refine F.okN scDouble (fun vs H Q E h => ?_) (fun cdv A' outer s H vs Q E hr h => ?_)
  · obtain ⟨b, ws, rfl, _⟩ := h
    rfl
  · obtain ⟨b, ws, rfl, hB, hc, hT, q0, q⟩ := h
    have hu : (A'.deeper (envOfC "double" (defScope s_double) s.heap.objs.size f cdv)).units + 1 < cLine := by
      have := hr.units
      omega
    refine ⟨_, pss_cons (ps_set (i := 1) scDouble.nd rfl (.inl rfl) (pe_call GM hr (by rfl) M.g M.F.kp M.b .nil pass0 (pa_cons (pe_call GC hr (by rfl) C.g C.F.kp C.b .nil pass0 (pa_cons (pv 0) pa_nil)) pa_nil)))
      (pss_cons (ps_if (pt_cmp (pc_dnotin hu pe_str (pv 1))) (pss_one (ps_ret pe_non)) pss_nil)
      (pss_cons (ps_asg (pe_dget hu (pv 1) pe_str (fun _ _ => rfl)) (pg_tup rfl (pgs_cons (pg_name (i := 2) scDouble.nd rfl (Or.inl rfl)) (pgs_cons (pg_name (i := 3) scDouble.nd rfl (Or.inl rfl)) pgs_nil))))
      (pss_cons (ps_set (i := 4) scDouble.nd rfl (.inl rfl) (pe_join pe_str (pv 2)))
      (pss_cons (ps_if (pt_cmpR op_lt (pe_callB call_len_str (by rfl) B.mL boot_len (pa_cons (pe_ix (r := rIxL K) ix_list (pv 2) pe_int (fun _ _ => rfl)) pa_nil)) (pe_callB call_len_str (by rfl) B.mL boot_len (pa_cons (pe_ix (r := rIxL K) ix_list (pv 3) pe_int (fun _ _ => rfl)) pa_nil)) (nomark _))
          (pss_one (ps_ret (pe_tup (pa_cons (pv 4) (pa_cons (pv 2) (pa_cons (pv 3) pa_nil)))))) pss_nil)
      (pss_one (ps_ret (pe_tup (pa_cons (pv 4) (pa_cons (pv 3) (pa_cons (pv 2) pa_nil)))))))))), ?_⟩
    refine ⟨_, rfl, b, ws, rfl, hB, hc, hT, fun r vs H1 m1 nr eR perm _ => ?_⟩
    have hw : ∀ x ∈ vs, WordOk x := fun x hx => hc.2.2 x (perm.mem_iff.mp hx)
    refine ⟨r, vs, rfl, eR, by rw [perm.length_eq]; exact hc.1, hw, fun d fs H2 t2 nd ed met => ?_⟩
    have m2 : Sm P H H2 := m1.andThen t2
    have eS : Str.ofString "" = S [] := by decide +kernel
    refine ⟨_, rfl, d, _, rfl, DGet.k (k := Sum.inr (Str.ofString "")) ed, _, rfl, ?_⟩
    rw [eS]
    by_cases hin : ∃ f ∈ fs, f.r = []
    · obtain ⟨g, hg, hr0⟩ := hin
      have ev := fkv_in met.nd hg
      rw [hr0] at ev
      rw [ev]
      refine iteF ?_
      obtain ⟨ga, gn, gm, gl, g1, g2⟩ := met.fe g hg
      have dg : DGet H2 d (V.str (S [])) (some (.ref g.T)) := by
        have := DGet.k (k := Sum.inr (S [])) ed
        rw [ev] at this
        exact this
      refine ⟨_, rfl, d, .ref g.T, rfl, dg, ?_⟩
      have perm' : ∀ x, x ∈ vs ↔ x ∈ ws := fun x => perm.mem_iff
      have gl2 : Lst ws [] g.n := hr0 ▸ gl.perm perm'
      obtain ⟨x, y, hx, hy, ne⟩ := gm.hd
      obtain ⟨xs, ex⟩ : ∃ xs, g.one = x :: xs := by
        cases h : g.one with
        | nil => rw [h] at hx; cases hx
        | cons a l => rw [h] at hx; cases hx; exact ⟨l, rfl⟩
      obtain ⟨ys, ey⟩ : ∃ ys, g.other = y :: ys := by
        cases h : g.other with
        | nil => rw [h] at hy; cases hy
        | cons a l => rw [h] at hy; cases hy; exact ⟨l, rfl⟩
      have eo := ga.o
      have ep := ga.p
      have eq := gm.eq
      have xw := gm.w1
      have yw := gm.w2
      have en := gm.len
      rw [hr0, List.append_nil] at eq
      rw [ex] at eo xw en eq g1
      rw [ey] at ep yw eq g2
      obtain ⟨t, ht⟩ : ∃ t, t = (x :: xs).flatten := ⟨_, rfl⟩
      have lt : t.length ≤ 1320 := by
        have := flat_ten (ys := x :: xs) fun z hz => (hw z (xw z hz)).2.1
        rw [ht]
        omega
      have wx := hw x (xw x List.mem_cons_self)
      have wy := hw y (yw y List.mem_cons_self)
      have wx2 := wx.2.1
      have wy2 := wy.2.1
      have lne : x.length ≠ y.length := heads_len (t := t) (u := xs.flatten) (v := ys.flatten) (by rw [ht]; rfl) (by rw [ht, eq]; rfl) ne
      refine ⟨g.T, _, rfl, .inl (.inl ga.t), rfl, _, _, rfl, _, _, rfl, rfl, ?_⟩
      refine ⟨⟨_, rfl⟩, _, rfl, _, g.oA, (x :: xs).map S, rfl, rfl, .inl (seqL (by rw [← map_tx]; exact eo)), flat_sz hw xw (by omega), ?_⟩
      rw [← eS, join0, ← ht]
      have nxy : g.oA ≠ g.pA := fun z => by
        rw [z, ep] at eo
        have := HO.lst.inj (Option.some.inj eo)
        exact ne (S_inj (V.str.inj (List.cons.inj this).1)).symm
      have fx : H g.oA = none := Sm.free hT m1 gn.o
      have fy : H g.pA = none := Sm.free hT m1 gn.p
      have gx : ((x :: xs).map tx)[0]? = some (V.str (S x)) := rfl
      have gy : ((y :: ys).map tx)[0]? = some (V.str (S y)) := rfl
      refine ⟨_, rfl, g.oA, _, 0, _, rfl, rfl, seqL eo, atI_nat gx, S x, rfl, small_S (by omega), ?_⟩
      refine ⟨_, rfl, g.pA, _, 0, _, rfl, rfl, seqL ep, atI_nat gy, S y, rfl, small_S (by omega), (x.length : Int), (y.length : Int), len_v x, len_v y, _, rfl, ?_⟩
      have l10 : t.length = g.n := by rw [ht, en]
      by_cases hlt : x.length < y.length
      · refine iteP (by omega) ?_
        refine ⟨_, rfl, _, rfl, _, rfl, by show 3 ≤ sizeLine; decide, fun p hp => ?_⟩
        have s3 := same_upd (o := .tup [tx t, .ref g.oA, .ref g.pA]) hp
        exact q g.n gl2 p g.oA g.pA t x xs y ys _ (m2.andThen s3) (Sm.free hT m2 hp) fx fy nxy ⟨upd_same, s3 _ _ eo, s3 _ _ ep⟩ ⟨ht.symm, by rw [ht, eq], fun z hz => perm.mem_iff.mp (xw z hz), fun z hz => perm.mem_iff.mp (yw z hz), hlt⟩ l10 (by omega)
      · refine iteN (by omega) ?_
        refine ⟨_, rfl, _, rfl, _, rfl, by show 3 ≤ sizeLine; decide, fun p hp => ?_⟩
        have s3 := same_upd (o := .tup [tx t, .ref g.pA, .ref g.oA]) hp
        exact q g.n gl2 p g.pA g.oA t y ys x xs _ (m2.andThen s3) (Sm.free hT m2 hp) fy fx (Ne.symm nxy) ⟨upd_same, s3 _ _ ep, s3 _ _ eo⟩ ⟨by rw [ht, eq], ht.symm, fun z hz => perm.mem_iff.mp (yw z hz), fun z hz => perm.mem_iff.mp (xw z hz), by omega⟩ l10 (by omega)
    · have hnin : ∀ f ∈ fs, f.r ≠ [] := fun f hf z => hin ⟨f, hf, z⟩
      rw [fkv_out hnin]
      refine iteT (q0 (fun n hn => ?_) H2 m2)
      obtain ⟨f, hf, hr0⟩ := met.all [] n ((hn.perm fun x => perm.symm.mem_iff).1)
      exact hnin f hf hr0
theorem inDouble (D : Defs K mg) (I : HasI K mg base P fdI) (B : Bl mg) : ∃ f fd, Has K mg "double" s_double ["words"] f fd ∧ FnOk Pr w K mg base CX0 5 f fd ["words"] (spDouble P) := by
  obtain ⟨f1, d1, C⟩ := D.d_checked
  obtain ⟨f2, d2, M, GM⟩ := inMeet (Pr := Pr) (w := w) (base := base) D B
  obtain ⟨f3, d3, L⟩ := D.d_double
  exact ⟨f3, d3, L, ok_double L.F C I GM M B⟩
end
/-! ### two partings of a text lead to a rest that is empty -/
section
variable {ws : List (List Nat)}
theorem cntH_nil : cntH ws [] = 1 := rfl
theorem sum_le_one {f : List Nat → Int} : ∀ {l : List (List Nat)}, (∀ x ∈ l, 0 ≤ f x) → ∀ {x : List Nat}, x ∈ l → f x ≤ (l.map f).sum
  | [], _, _, h => nomatch h
  | y :: l, h0, x, h => by
    rw [List.map_cons, List.sum_cons]
    have h1 := h0 y List.mem_cons_self
    have h2 : 0 ≤ (l.map f).sum := sum_nn fun z hz => by
      obtain ⟨u, hu, rfl⟩ := List.mem_map.mp hz
      exact h0 u (List.mem_cons_of_mem _ hu)
    rcases List.mem_cons.mp h with e | m
    · rw [e]
      omega
    · have := sum_le_one (fun z hz => h0 z (List.mem_cons_of_mem _ hz)) m
      omega
theorem sum_pos {f : List Nat → Int} : ∀ {l : List (List Nat)}, 1 ≤ (l.map f).sum → ∃ x ∈ l, 1 ≤ f x
  | [], h => absurd (show (1 : Int) ≤ 0 from h) (by decide)
  | y :: l, h => by
    rw [List.map_cons, List.sum_cons] at h
    by_cases c : 1 ≤ f y
    · exact ⟨y, List.mem_cons_self, c⟩
    · obtain ⟨x, hx, h2⟩ := sum_pos (f := f) (l := l) (by omega)
      exact ⟨x, List.mem_cons_of_mem _ hx, h2⟩
theorem sum_two {f : List Nat → Int} : ∀ {l : List (List Nat)}, l.Nodup → 2 ≤ (l.map f).sum → (∃ x ∈ l, 2 ≤ f x) ∨ ∃ x ∈ l, ∃ y ∈ l, x ≠ y ∧ 1 ≤ f x ∧ 1 ≤ f y
  | [], _, h => absurd (show (2 : Int) ≤ 0 from h) (by decide)
  | z :: l, nd, h => by
    rw [List.map_cons, List.sum_cons] at h
    obtain ⟨n1, n2⟩ := List.nodup_cons.mp nd
    by_cases c : 2 ≤ f z
    · exact .inl ⟨z, List.mem_cons_self, c⟩
    · by_cases d : 1 ≤ f z
      · obtain ⟨y, hy, h2⟩ := sum_pos (f := f) (l := l) (by omega)
        exact .inr ⟨z, List.mem_cons_self, y, List.mem_cons_of_mem _ hy, fun e => n1 (e ▸ hy), d, h2⟩
      · rcases sum_two n2 (f := f) (by omega) with ⟨x, hx, h2⟩ | ⟨x, hx, y, hy, h2⟩
        · exact .inl ⟨x, List.mem_cons_of_mem _ hx, h2⟩
        · exact .inr ⟨x, List.mem_cons_of_mem _ hx, y, List.mem_cons_of_mem _ hy, h2⟩
/-- a rest that has a parting begins with a word -/
theorem cntH_word (hw : ∀ x ∈ ws, 1 ≤ x.length) {u : List Nat} (hu : u ≠ []) (h : 1 ≤ cntH ws u) : ∃ x ∈ ws, hit x u = true ∧ 1 ≤ cntH ws (u.drop x.length) := by
  rw [cntH_sum hw hu] at h
  obtain ⟨x, hx, h2⟩ := sum_pos h
  obtain ⟨m1, m2⟩ := (List.mem_filter (p := fun x => hit x u)).mp hx
  exact ⟨x, m1, m2, h2⟩
theorem cntH_ge (hw : ∀ x ∈ ws, 1 ≤ x.length) {u x : List Nat} (hx : x ∈ ws) (hh : hit x u = true) : cntH ws (u.drop x.length) ≤ cntH ws u := by
  have hu : u ≠ [] := fun z => by
    have h1 := hit_len hh
    have h2 := hw x hx
    rw [z, List.length_nil] at h1
    omega
  rw [cntH_sum hw hu]
  exact sum_le_one (f := gain ws u) (fun z _ => cntH_nn _ _) ((List.mem_filter (p := fun x => hit x u)).mpr ⟨hx, hh⟩)
theorem hit_app (x v : List Nat) : hit x (x ++ v) = true := hit_iff.mpr List.take_left
theorem cntH_row (hw : ∀ x ∈ ws, 1 ≤ x.length) : ∀ {xs : List (List Nat)}, (∀ x ∈ xs, x ∈ ws) → 1 ≤ cntH ws xs.flatten
  | [], _ => show (1 : Int) ≤ 1 by decide
  | x :: xs, h => by
    have ih := cntH_row hw (xs := xs) fun y hy => h y (List.mem_cons_of_mem _ hy)
    have := cntH_ge hw (u := (x :: xs).flatten) (h x List.mem_cons_self) (by rw [List.flatten_cons]; exact hit_app x _)
    rw [List.flatten_cons, List.drop_left] at this
    rw [List.flatten_cons]
    omega
/-- one row is ahead by the rest; both go on to the end -/
theorem off_end (hw : ∀ x ∈ ws, 1 ≤ x.length) : ∀ (k : Nat) {r v : List Nat} {n : Nat}, r.length + 2 * v.length ≤ k → Off ws r n → 1 ≤ cntH ws (r ++ v) → 1 ≤ cntH ws v → ∃ m, m ≤ n + v.length ∧ Off ws [] m := by
  intro k
  induction k with
  | zero =>
    intro r v n hk o _ _
    have hr : r = [] := List.length_eq_zero_iff.mp (by omega)
    rw [hr] at o
    exact ⟨n, by omega, o⟩
  | succ k ih =>
    intro r v n hk o h1 h2
    by_cases hr : r = []
    · rw [hr] at o
      exact ⟨n, by omega, o⟩
    · obtain ⟨x, hx, hh, h3⟩ := cntH_word hw (u := r ++ v) (by simp [hr]) h1
      have lx := hw x hx
      have lr : 1 ≤ r.length := List.length_pos_iff.mpr hr
      have et := hit_iff.mp hh
      by_cases hl : x.length ≤ r.length
      · have hxr : hit x r = true := hit_iff.mpr (by rw [List.take_append_of_le_length hl] at et; exact et)
        have es : stp r x = some (r.drop x.length, false) := by unfold stp; rw [if_pos hxr]
        have o2 := Off.go o hx es
        rw [List.drop_append_of_le_length hl] at h3
        obtain ⟨m, m1, m2⟩ := ih (r := r.drop x.length) (v := v) (by rw [List.length_drop]; omega) o2 h3 h2
        exact ⟨m, by simpa using m1, m2⟩
      · have hl2 : r.length < x.length := by omega
        have e1 : x = r ++ v.take (x.length - r.length) := by
          conv => lhs; rw [← et]
          rw [List.take_append, List.take_of_length_le (by omega)]
        have hrx : hit r x = true := by rw [e1]; exact hit_app r _
        have hnx : ¬ hit x r = true := fun z => by
          have := hit_len z
          omega
        have es : stp r x = some (x.drop r.length, true) := by unfold stp; rw [if_neg hnx, if_pos hrx]
        have o2 := Off.go o hx es
        have lv := hit_len hh
        rw [List.length_append] at lv
        have e2 : x.drop r.length = v.take (x.length - r.length) := by
          conv => lhs; rw [e1]
          rw [List.drop_left]
        have e3 : x.drop r.length ++ v.drop (x.length - r.length) = v := by rw [e2, List.take_append_drop]
        have h4 : 1 ≤ cntH ws (v.drop (x.length - r.length)) := by
          rw [List.drop_append, List.drop_of_length_le (by omega), List.nil_append] at h3
          exact h3
        obtain ⟨m, m1, m2⟩ := ih (r := x.drop r.length) (v := v.drop (x.length - r.length)) (by rw [List.length_drop, List.length_drop]; omega) o2 (by rw [e3]; exact h2) h4
        refine ⟨m, ?_, m2⟩
        rw [List.length_drop, if_pos rfl, List.length_drop] at m1
        omega
/-- a text that has two partings is no shorter than a least of the empty rest -/
theorem two_off (hw : ∀ x ∈ ws, 1 ≤ x.length) (nd : ws.Nodup) : ∀ (k : Nat) {t : List Nat}, t.length ≤ k → 2 ≤ cntH ws t → ∃ m, m ≤ t.length ∧ Off ws [] m := by
  intro k
  induction k with
  | zero =>
    intro t hk h
    rw [List.length_eq_zero_iff.mp (Nat.le_zero.mp hk), cntH_nil] at h
    exact absurd h (by decide)
  | succ k ih =>
    intro t hk h
    by_cases ht : t = []
    · rw [ht, cntH_nil] at h
      exact absurd h (by decide)
    · rw [cntH_sum hw ht] at h
      rcases sum_two (nd.filter _) h with ⟨x, hx, h2⟩ | ⟨x, hx, y, hy, ne, h2, h3⟩
      · obtain ⟨m1, m2⟩ := (List.mem_filter (p := fun x => hit x t)).mp hx
        have lx := hw x m1
        have lt := hit_len m2
        obtain ⟨m, a, b⟩ := ih (t := t.drop x.length) (by rw [List.length_drop]; omega) h2
        rw [List.length_drop] at a
        exact ⟨m, by omega, b⟩
      · have key : ∀ {x y : List Nat}, x ∈ ws → y ∈ ws → hit x t = true → hit y t = true → x.length < y.length → 1 ≤ cntH ws (t.drop x.length) → 1 ≤ cntH ws (t.drop y.length) → ∃ m, m ≤ t.length ∧ Off ws [] m := by
          intro x y hx hy h1 h2 hl c1 c2
          have e1 := hit_iff.mp h1
          have e2 := hit_iff.mp h2
          have hxy : hit x y = true := hit_iff.mpr (by rw [← e2, List.take_take, Nat.min_eq_left (by omega)]; exact e1)
          have o := Off.new hy hx (fun z => by rw [z] at hl; omega) hxy
          have e3 : y.drop x.length ++ t.drop y.length = t.drop x.length := by
            have : t.drop x.length = (y ++ t.drop y.length).drop x.length := by
              conv => lhs; rw [← List.take_append_drop y.length t, e2]
            rw [this, List.drop_append_of_le_length (by omega)]
          have l2 := hit_len h2
          obtain ⟨m, a, b⟩ := off_end hw _ (Nat.le_refl _) o (by rw [e3]; exact c1) c2
          rw [List.length_drop] at a
          exact ⟨m, by omega, b⟩
        obtain ⟨a1, a2⟩ := (List.mem_filter (p := fun x => hit x t)).mp hx
        obtain ⟨b1, b2⟩ := (List.mem_filter (p := fun x => hit x t)).mp hy
        rcases Nat.lt_trichotomy x.length y.length with c | c | c
        · exact key a1 b1 a2 b2 c h2 h3
        · refine absurd ?_ ne
          have e1 := hit_iff.mp a2
          have e2 := hit_iff.mp b2
          rw [← e1, ← e2, c]
        · exact key b1 a1 b2 a2 c h3 h2
theorem two_lst (hw : ∀ x ∈ ws, 1 ≤ x.length) (nd : ws.Nodup) {t : List Nat} (h : 2 ≤ cntH ws t) : ∃ m, m ≤ t.length ∧ Off ws [] m := two_off hw nd _ (Nat.le_refl _) h
theorem off_lst {r : List Nat} {n : Nat} (o : Off ws r n) : ∃ m, m ≤ n ∧ Lst ws r m := by
  refine Classical.byContradiction fun no => ?_
  have : ∀ k m, m ≤ k → ¬ (m ≤ n ∧ Off ws r m) := by
    intro k
    induction k with
    | zero =>
      intro m hm ⟨h1, h2⟩
      exact no ⟨m, h1, h2, fun j _ => by omega⟩
    | succ k ih =>
      intro m hm ⟨h1, h2⟩
      refine no ⟨m, h1, h2, fun j hj => Classical.byContradiction fun z => ?_⟩
      exact ih j (by omega) ⟨by omega, hj⟩
  exact this n n (Nat.le_refl _) ⟨Nat.le_refl _, o⟩
theorem Db.two (hw : ∀ x ∈ ws, 1 ≤ x.length) (nd : ws.Nodup) {t x : List Nat} {xs : List (List Nat)} {y : List Nat} {ys : List (List Nat)} (d : Db ws t x xs y ys) : 2 ≤ cntH ws t := by
  have hx := d.xw x List.mem_cons_self
  have hy := d.yw y List.mem_cons_self
  have c1 := cntH_row hw (xs := xs) fun z hz => d.xw z (List.mem_cons_of_mem _ hz)
  have c2 := cntH_row hw (xs := ys) fun z hz => d.yw z (List.mem_cons_of_mem _ hz)
  have e1 : t = x ++ xs.flatten := by rw [← d.xf, List.flatten_cons]
  have e2 : t = y ++ ys.flatten := by rw [← d.yf, List.flatten_cons]
  have h1 : hit x t = true := by rw [e1]; exact hit_app _ _
  have h2 : hit y t = true := by rw [e2]; exact hit_app _ _
  have ht : t ≠ [] := fun z => by
    have := hit_len h1
    have := hw x hx
    rw [z, List.length_nil] at *
    omega
  have g1 : 1 ≤ gain ws t x := by
    unfold gain
    rw [e1, List.drop_left]
    exact c1
  have g2 : 1 ≤ gain ws t y := by
    unfold gain
    rw [e2, List.drop_left]
    exact c2
  have ne : x ≠ y := fun z => by
    have := d.lt
    rw [z] at this
    omega
  rw [cntH_sum hw ht]
  have m1 : x ∈ ws.filter fun x => hit x t := (List.mem_filter (p := fun x => hit x t)).mpr ⟨hx, h1⟩
  have m2 : y ∈ ws.filter fun x => hit x t := (List.mem_filter (p := fun x => hit x t)).mpr ⟨hy, h2⟩
  have pw : ∀ {l : List (List Nat)} {f : List Nat → Int}, (∀ z ∈ l, 0 ≤ f z) → x ∈ l → y ∈ l → f x + f y ≤ (l.map f).sum := by
    intro l f h0
    induction l with
    | nil => exact fun h => absurd h List.not_mem_nil
    | cons z l ih =>
      intro a b
      rw [List.map_cons, List.sum_cons]
      have h0' : ∀ u ∈ l, 0 ≤ f u := fun u hu => h0 u (List.mem_cons_of_mem _ hu)
      have z0 := h0 z List.mem_cons_self
      rcases List.mem_cons.mp a with ea | ma
      · rcases List.mem_cons.mp b with eb | mb
        · exact absurd (ea.trans eb.symm) ne
        · have := sum_le_one h0' mb
          rw [ea]
          omega
      · rcases List.mem_cons.mp b with eb | mb
        · have := sum_le_one h0' ma
          rw [eb]
          omega
        · have := ih h0' ma mb
          omega
  have := pw (l := ws.filter fun x => hit x t) (f := gain ws t) (fun z _ => cntH_nn _ _) m1 m2
  omega
end













/-! ### texts of two signs, up to a length -/
section
def AB (a b : Nat) (x : List Nat) : Prop := ∀ c ∈ x, c = a ∨ c = b
def Lv (a b : Nat) : Nat → List (List Nat)
  | 0 => [[]]
  | n + 1 => (Lv a b n).map (a :: ·) ++ (Lv a b n).map (b :: ·)
def Tz (a b : Nat) : Nat → List (List Nat)
  | 0 => []
  | n + 1 => Tz a b n ++ Lv a b (n + 1)
theorem AB.app {a b : Nat} {x y : List Nat} (h : AB a b x) (g : AB a b y) : AB a b (x ++ y) := fun c hc => (List.mem_append.mp hc).elim (h c) (g c)
theorem AB.drop {a b : Nat} {x : List Nat} (h : AB a b x) (n : Nat) : AB a b (x.drop n) := fun c hc => h c (List.mem_of_mem_drop hc)
theorem AB.take {a b : Nat} {x : List Nat} (h : AB a b x) (n : Nat) : AB a b (x.take n) := fun c hc => h c (List.mem_of_mem_take hc)
theorem mem_Lv {a b : Nat} : ∀ {n : Nat} {x : List Nat}, x ∈ Lv a b n ↔ AB a b x ∧ x.length = n
  | 0, x => by
    constructor
    · intro h
      rw [List.mem_singleton.mp h]
      exact ⟨fun c hc => absurd hc List.not_mem_nil, rfl⟩
    · rintro ⟨_, h⟩
      rw [List.length_eq_zero_iff.mp h]
      exact List.mem_singleton.mpr rfl
  | n + 1, x => by
    constructor
    · intro h
      rcases List.mem_append.mp h with z | z
      · obtain ⟨y, hy, rfl⟩ := List.mem_map.mp z
        obtain ⟨h1, h2⟩ := mem_Lv.mp hy
        exact ⟨fun c hc => (List.mem_cons.mp hc).elim .inl (h1 c), by rw [List.length_cons, h2]⟩
      · obtain ⟨y, hy, rfl⟩ := List.mem_map.mp z
        obtain ⟨h1, h2⟩ := mem_Lv.mp hy
        exact ⟨fun c hc => (List.mem_cons.mp hc).elim .inr (h1 c), by rw [List.length_cons, h2]⟩
    · rintro ⟨h1, h2⟩
      match x, h1, h2 with
      | c :: y, h1, h2 =>
        have hy : y ∈ Lv a b n := mem_Lv.mpr ⟨fun d hd => h1 d (List.mem_cons_of_mem _ hd), Nat.succ.inj h2⟩
        rcases h1 c List.mem_cons_self with e | e
        · exact List.mem_append_left _ (List.mem_map.mpr ⟨y, hy, by rw [e]⟩)
        · exact List.mem_append_right _ (List.mem_map.mpr ⟨y, hy, by rw [e]⟩)
theorem len_Lv (a b : Nat) : ∀ n, (Lv a b n).length = 2 ^ n
  | 0 => rfl
  | n + 1 => by
    show (List.map _ _ ++ List.map _ _).length = _
    rw [List.length_append, List.length_map, List.length_map, len_Lv a b n, Nat.pow_succ]
    omega
theorem len_Tz (a b : Nat) : ∀ n, (Tz a b n).length + 2 = 2 ^ (n + 1)
  | 0 => rfl
  | n + 1 => by
    show (Tz a b n ++ Lv a b (n + 1)).length + 2 = _
    have ih := len_Tz a b n
    rw [List.length_append, len_Lv, Nat.pow_succ 2 (n + 1)]
    omega
theorem mem_Tz {a b : Nat} : ∀ {n : Nat} {x : List Nat}, x ∈ Tz a b n ↔ AB a b x ∧ 1 ≤ x.length ∧ x.length ≤ n
  | 0, x => ⟨fun h => absurd h List.not_mem_nil, fun ⟨_, h1, h2⟩ => absurd h1 (by omega)⟩
  | n + 1, x => by
    show x ∈ Tz a b n ++ Lv a b (n + 1) ↔ _
    rw [List.mem_append, mem_Tz, mem_Lv]
    constructor
    · rintro (⟨h1, h2, h3⟩ | ⟨h1, h2⟩)
      · exact ⟨h1, h2, by omega⟩
      · exact ⟨h1, by omega, by omega⟩
    · rintro ⟨h1, h2, h3⟩
      by_cases h : x.length ≤ n
      · exact .inl ⟨h1, h2, h⟩
      · exact .inr ⟨h1, by omega⟩
/-- the shorter ones stand ahead -/
theorem ahead_Tz {a b : Nat} : ∀ {n i : Nat} {u x : List Nat}, (Tz a b n)[i]? = some u → AB a b x → x.length < u.length → x = [] ∨ x ∈ (Tz a b n).take i
  | 0, i, u, x, h, _, _ => by simp [Tz] at h
  | n + 1, i, u, x, h, hx, hl => by
    change (Tz a b n ++ Lv a b (n + 1))[i]? = some u at h
    show x = [] ∨ x ∈ (Tz a b n ++ Lv a b (n + 1)).take i
    by_cases hi : i < (Tz a b n).length
    · rw [List.getElem?_append_left hi] at h
      rcases ahead_Tz h hx hl with z | z
      · exact .inl z
      · rw [List.take_append_of_le_length (by omega)]
        exact .inr z
    · rw [List.getElem?_append_right (by omega)] at h
      have hu := mem_Lv.mp (List.mem_of_getElem? h)
      by_cases h0 : x = []
      · exact .inl h0
      · have hm : x ∈ Tz a b n := mem_Tz.mpr ⟨hx, List.length_pos_iff.mpr h0, by omega⟩
        rw [List.take_append, List.take_of_length_le (by omega)]
        exact .inr (List.mem_append_left _ hm)
/-- what trying them tells -/
def Due (ws : List (List Nat)) (a b : Nat) : Option Nat → Prop
  | none => ∀ u, u ∈ Tz a b 7 → cntH ws u ≤ 1
  | some n => n ≤ 7 ∧ (∃ u : List Nat, u.length = n ∧ 2 ≤ cntH ws u) ∧ ∀ u, AB a b u → 1 ≤ u.length → u.length < n → cntH ws u ≤ 1
def wV : Option Nat → V
  | none => .non
  | some m => .int (m : Int)
theorem sum_hits (ws : List (List Nat)) (u : List Nat) : ∀ vs : List (List Nat), (vs.map fun x => if hit x u = true then gain ws u x else 0).sum = ((vs.filter fun x => hit x u).map (gain ws u)).sum
  | [] => rfl
  | x :: vs => by
    rw [List.map_cons, List.sum_cons, sum_hits ws u vs]
    by_cases c : hit x u = true
    · rw [if_pos c, List.filter_cons_of_pos (p := fun x => hit x u) c, List.map_cons, List.sum_cons]
    · rw [if_neg c, List.filter_cons_of_neg (p := fun x => hit x u) c, Int.zero_add]
theorem hit_AB {a b : Nat} {x u : List Nat} (h : hit x u = true) : u.take x.length = x := hit_iff.mp h
variable {Pr : Program} {w : World} {K : PySem.W.Frag} {mg : Str → Option Value} {base : Heap} {f : Addr} {fd : FuncData}
theorem scTwo : FnScope ["_law_words", "_law_texts", "_law_counts", "_law_text", "_law_many", "_law_word"] ["_law_words", "_law_texts"] (defScope s__law_two_ways) := ⟨rfl, rfl, rfl, by decide +kernel, rfl, by decide +kernel, by decide +kernel⟩
def spTwo (K : PySem.W.Frag) : Sp := fun vs H Q _ => ∃ (p t : Addr) (ws : List (List Nat)) (a b : Nat), vs = [.ref p, .ref t] ∧ H p = some (.lst (ws.map tx)) ∧ H t = some (.lst ((Tz a b 7).map tx)) ∧ (∀ x ∈ ws, WordOk x) ∧ ws.length ≤ 12 ∧
  ∀ o, Due ws a b o → ∀ H', Same H H' → Q (wV o) H'
theorem ok_two (F : FnP K "_law_two_ways" s__law_two_ways f fd) (B : Bl mg) : FnOk Pr w K mg base CX0 1 f fd ["_law_words", "_law_texts"] (spTwo K) := by
  refine F.okN scTwo (fun vs H Q E h => ?_) (fun cdv A' outer s H vs Q E hr h => ?_)
  · obtain ⟨p, t, ws, a, b, rfl, _⟩ := h
    rfl
  · obtain ⟨p, t, ws, a, b, rfl, hP, hT, hw, hn, q⟩ := h
    have hu : (A'.deeper (envOfC "_law_two_ways" (defScope s__law_two_ways) s.heap.objs.size f cdv)).units + 1 < cLine := by
      have := hr.units
      omega
    refine ⟨_, pss_cons (ps_set (i := 2) scTwo.nd rfl (.inl rfl) (pe_disp (pps_cons pe_str pe_int pps_nil) (by rfl) (by rfl) (fun z => by cases z) (by decide)))
      (pss_cons (ps_for PassesOwn.never rfl (pi_list (pv 1)) (pg_name (i := 3) scTwo.nd rfl (Or.inl rfl))
        (pss_cons (ps_set (i := 4) scTwo.nd rfl (.inl rfl) pe_int)
        (pss_cons (ps_for PassesOwn.never rfl (pi_list (pv 0)) (pg_name (i := 5) scTwo.nd rfl (Or.inl rfl))
          (pss_one (ps_if (pt_cmpR op_eq (pe_slice sl_str (pv 3) po_none (po_some (pe_callB call_len_str (by rfl) B.mL boot_len (pa_cons (pv 5) pa_nil)))) (pv 5) (nomark _))
            (pss_one (ps_set (i := 4) scTwo.nd rfl (.inl rfl) (pe_op op_add (pv 4) (pe_dget hu (pv 2) (pe_slice sl_str (pv 3) (po_some (pe_callB call_len_str (by rfl) B.mL boot_len (pa_cons (pv 5) pa_nil))) po_none) (fun _ _ => rfl))))) pss_nil)))
        (pss_cons (ps_dput hu (pv 2) (pv 3) (pv 4) rfl)
        (pss_one (ps_if (pt_cmpR op_gt (pv 4) pe_int (nomark _)) (pss_one (ps_ret (pe_callB call_len_str (by rfl) B.mL boot_len (pa_cons (pv 3) pa_nil)))) pss_nil))))))
      (pss_one (ps_ret pe_non))), ?_⟩
    intro d nd
    have eS : Str.ofString "" = S [] := by decide +kernel
    refine ⟨upd_same, [(Sum.inr (Str.ofString ""), V.int 1)], rfl, by decide, ?_⟩
    have s0 : Same H (upd (upd H d (.dK [])) d (.dK (mergeK [] [(Sum.inr (Str.ofString ""), V.int 1)]))) := fun x o e => by
      rw [upd_ne (ne_of_none e nd), upd_ne (ne_of_none e nd)]
      exact e
    have e0 : (upd (upd H d (.dK [])) d (.dK (mergeK [] [(Sum.inr (Str.ofString ""), V.int 1)]))) d = some (.dK [(Sum.inr (S []), V.int 1)]) := by
      rw [upd_same, eS]
      rfl
    generalize (upd (upd H d (.dK [])) d (.dK (mergeK [] [(Sum.inr (Str.ofString ""), V.int 1)]))) = H0 at s0 e0 ⊢
    have w1 : ∀ x ∈ ws, 1 ≤ x.length := fun x hx => (hw x hx).1
    refine ⟨_, rfl, t, rfl, ⟨_, seqL (s0 _ _ hT)⟩, for_list (K := K) (a := t) (xs := (Tz a b 7).map tx) (fun i σ H1 => Same H H1 ∧ ∃ kvs : List (Key × V), H1 d = some (.dK kvs) ∧ kvs.length ≤ i + 1 ∧ (∀ x, (x = [] ∨ x ∈ (Tz a b 7).take i) → valV kvs (Sum.inr (S x)) = some (V.int (cntH ws x))) ∧ (∀ x ∈ (Tz a b 7).take i, cntH ws x ≤ 1) ∧
      ∃ k3 k4 k5 : Option V, σ = [some (.ref p), some (.ref t), some (.ref d), k3, k4, k5]) ?_ (fun i σ H1 _ hh => seqL (hh.1 _ _ hT)) ?_ ?_⟩
    · refine ⟨s0, _, e0, Nat.le_refl _, fun x hx => ?_, fun x hx => absurd hx (by rw [List.take_zero]; exact List.not_mem_nil), _, _, _, rfl⟩
      rcases hx with rfl | hx
      · exact valV_pos rfl
      · rw [List.take_zero] at hx
        exact absurd hx List.not_mem_nil
    · rintro i x σ H1 hx ⟨s1, kvs, eD, kl, kv, le1, k3, k4, k5, rfl⟩
      rw [List.getElem?_map] at hx
      obtain ⟨u, hu, rfl⟩ := Option.map_eq_some_iff.mp hx
      have hi : i < (Tz a b 7).length := (List.getElem?_eq_some_iff.mp hu).1
      have hlen : (Tz a b 7).length = 254 := by
        have := len_Tz a b 7
        omega
      obtain ⟨ua, u1, u7⟩ := mem_Tz.mp (List.mem_of_getElem? hu)
      have zu : (S u).length ≤ sizeLine := small_S (by omega)
      refine ⟨_, rfl, p, rfl, ⟨_, seqL (s1 _ _ hP)⟩, for_list (K := K) (a := p) (xs := ws.map tx) (fun j σ H2 => H2 = H1 ∧ ∃ k5 : Option V, σ = [some (.ref p), some (.ref t), some (.ref d), some (tx u), some (.int ((ws.take j).map fun x => if hit x u = true then gain ws u x else 0).sum), k5]) ⟨rfl, _, rfl⟩ (fun j σ H2 _ hh => by rw [hh.1]; exact seqL (s1 _ _ hP)) ?_ ?_⟩
      · rintro j y σ H2 hy ⟨rfl, k5', rfl⟩
        have hj : j < ws.length := by
          have := (List.getElem?_eq_some_iff.mp hy).1
          rw [List.length_map] at this
          exact this
        have hye : y = tx ws[j] := by
          rw [List.getElem?_map, List.getElem?_eq_getElem hj] at hy
          exact (Option.some.inj hy).symm
        subst hye
        have hm : ws[j] ∈ ws := List.getElem_mem hj
        rw [take_sum hj]
        generalize ws[j] = wd at hm ⊢
        have zw : (S wd).length ≤ sizeLine := small_S (by have := (hw wd hm).2.1; omega)
        refine ⟨_, rfl, _, rfl, S wd, rfl, zw, (wd.length : Int), len_v wd, S u, rfl, zu, _, rfl, rfl, _, rfl, ?_⟩
        rw [to_eq]
        cases hh : hit wd u with
        | false =>
          rw [show (if false = true then gain ws u wd else 0) = 0 from rfl, Int.add_zero]
          exact iteF ⟨rfl, _, rfl⟩
        | true =>
          rw [show (if true = true then gain ws u wd else 0) = gain ws u wd from rfl]
          refine iteT ?_
          have hl := w1 wd hm
          have dg : DGet H2 d (tx (u.drop wd.length)) (some (V.int (gain ws u wd))) := by
            have := DGet.k (k := Sum.inr (S (u.drop wd.length))) eD
            rw [kv (u.drop wd.length) (ahead_Tz hu (ua.drop _) (by rw [List.length_drop]; omega))] at this
            exact this
          refine ⟨_, rfl, _, rfl, _, rfl, _, rfl, S wd, rfl, zw, (wd.length : Int), len_v wd, S u, rfl, zu, ?_⟩
          rw [from_len]
          exact ⟨d, _, rfl, dg, _, _, rfl, rfl, rfl, _, rfl⟩
      · rintro σ H2 ⟨rfl, k5', rfl⟩
        rw [List.length_map, List.take_length, sum_hits, ← cntH_sum w1 (fun z => by rw [z] at u1; exact absurd u1 (by decide))]
        refine ⟨_, rfl, _, rfl, _, rfl, d, _, rfl, DPut.k (k := Sum.inr (S u)) eD (Nat.lt_of_le_of_lt kl (by rw [hlen] at hi; show _ < 2 ^ 24; omega)), ?_⟩
        have s2 : Same H (upd H2 d (.dK (putK kvs (Sum.inr (S u)) (.int (cntH ws u))))) := fun x o e => by
          rw [upd_ne (ne_of_none e nd)]
          exact s1 _ _ e
        refine ⟨_, rfl, _, _, rfl, rfl, _, rfl, ?_⟩
        by_cases h1 : (1 : Int) < cntH ws u
        · refine iteP h1 ⟨_, rfl, S u, rfl, zu, ?_⟩
          rw [len_v]
          refine q (some u.length) ⟨u7, ⟨u, rfl, by omega⟩, fun v va v1 vl => ?_⟩ _ s2
          rcases ahead_Tz hu va vl with z | z
          · rw [z] at v1
            exact absurd v1 (by decide)
          · exact le1 v z
        · refine iteN h1 ⟨s2, _, upd_same, ?_, fun x hx => ?_, fun x hx => ?_, _, _, _, rfl⟩
          · have := length_putK kvs (Sum.inr (S u)) (.int (cntH ws u))
            omega
          · rw [valV_put]
            by_cases e : (Sum.inr (S x) : Key) = Sum.inr (S u)
            · rw [if_pos e, S_inj (Sum.inr.inj e)]
            · rw [if_neg e]
              rcases hx with hx | hx
              · exact kv x (.inl hx)
              · rw [List.take_add_one, hu] at hx
                rcases List.mem_append.mp hx with z | z
                · exact kv x (.inr z)
                · exact absurd (by rw [List.mem_singleton.mp z]) e
          · rw [List.take_add_one, hu] at hx
            rcases List.mem_append.mp hx with z | z
            · exact le1 x z
            · rw [List.mem_singleton.mp z]
              omega
    · rintro σ H1 ⟨s1, kvs, eD, kl, kv, le1, k3, k4, k5, rfl⟩
      rw [List.length_map, List.take_length] at le1
      exact q none le1 H1 s1
end
section
variable {Pr : Program} {w : World} {K : PySem.W.Frag} {mg : Str → Option Value} {base : Heap} {f fA fM : Addr} {fd fdA fdM : FuncData}
theorem scShort : FnScope ["_law_script", "_law_some", "_law_cell", "_law_signs", "_law_words", "_law_k", "_law_one", "_law_word", "_law_other", "_law_j"] ["_law_script"] (defScope s__law_short_words) := ⟨rfl, rfl, rfl, by decide +kernel, rfl, by decide +kernel, by decide +kernel⟩
def spShort (K : PySem.W.Frag) : Sp := fun vs H Q _ => ∃ (a : Addr) (ns : List Int), vs = [.ref a] ∧ SqL K H a (ns.map V.int) ∧
  ∀ (T s p : Addr) (ws : List (List Nat)) (x y : Nat) (H' : Hp), Same H H' → (97 ≤ x ∧ x ≤ 122) → (97 ≤ y ∧ y ≤ 122) → H' s = some (.lst [tx [x], tx [y]]) → H' p = some (.lst (ws.map tx)) → H' T = some (.tup [.ref s, .ref p]) → H s = none → H p = none → CodeOk ws → (∀ z ∈ ws, AB x y z) → Q (.ref T) H'
theorem AB.let {a b : Nat} {x : List Nat} (h : AB a b x) (ha : 97 ≤ a ∧ a ≤ 122) (hb : 97 ≤ b ∧ b ≤ 122) : Let x := fun c hc => by
  rcases h c hc with e | e
  · rw [e]; exact ha
  · rw [e]; exact hb
theorem flat_AB {a b : Nat} {ys : List (List Nat)} (h : ∀ y ∈ ys, AB a b y) : AB a b ys.flatten := fun c hc => by
  obtain ⟨y, hy, q⟩ := List.mem_flatten.mp hc
  exact h y hy c q
theorem ok_short (F : FnP K "_law_short_words" s__law_short_words f fd) (A : Has K mg "_law_at" sAt ["_law_script", "_law_k"] fA fdA) (M : Has K mg "_law_mixed" sMixed ["_law_cell", "_law_k"] fM fdM) (B : Bl mg) : FnOk Pr w K mg base CX0 2 f fd ["_law_script"] (spShort K) := by
  have GM : FnOk Pr w K mg base CX0 1 fM fdM ["_law_cell", "_law_k"] spMixed := ok_mixed M.F
  have GA : FnOk Pr w K mg base CX0 1 fA fdA ["_law_script", "_law_k"] (spAt K) := ok_at A.F B.mL
  refine F.okN scShort (fun vs H Q E h => ?_) (fun cdv A' outer s H vs Q E hr h => ?_)
  · obtain ⟨a, ns, rfl, _⟩ := h
    rfl
  · obtain ⟨a, ns, rfl, hS, q⟩ := h
    refine ⟨_, pss_cons (ps_set (i := 1) scShort.nd rfl (.inl rfl) pe_str)
      (pss_cons (ps_set (i := 2) scShort.nd rfl (.inl rfl) (pe_call GA hr (by rfl) A.g A.F.kp A.b .nil pass0 (pa_cons (pv 0) (pa_cons pe_int pa_nil))))
      (pss_cons (ps_set (i := 3) scShort.nd rfl (.inr rfl) (pe_lst (pa_cons (pe_ix ix_str (pv 1) (pe_op op_mod (pv 2) pe_int) (fun _ _ => rfl))
          (pa_cons (pe_ix ix_str (pv 1) (pe_op op_mod (pe_op op_add (pe_op op_add (pv 2) pe_int) (pe_op op_mod (pe_op op_fdiv (pv 2) pe_int) pe_int)) pe_int) (fun _ _ => rfl)) pa_nil))))
      (pss_cons (ps_set (i := 4) scShort.nd rfl (.inl rfl) (pe_lst pa_nil))
      (pss_cons (ps_for PassesOwn.never rfl (pi_range1 (by rfl) B.mR (pa_cons (pe_op op_add pe_int (pe_op op_mod (pe_call GA hr (by rfl) A.g A.F.kp A.b .nil pass0 (pa_cons (pv 0) (pa_cons pe_int pa_nil))) pe_int)) pa_nil)) (pg_name (i := 5) scShort.nd rfl (Or.inl rfl))
        (pss_cons (ps_set (i := 6) scShort.nd rfl (.inr rfl) (pe_call GM hr (by rfl) M.g M.F.kp M.b .nil pass0 (pa_cons (pe_call GA hr (by rfl) A.g A.F.kp A.b .nil pass0 (pa_cons (pv 0) (pa_cons (pe_op op_add pe_int (pv 5)) pa_nil))) (pa_cons (pv 5) pa_nil))))
        (pss_cons (ps_set (i := 7) scShort.nd rfl (.inl rfl) (pe_join pe_str (pe_lc (own := [("_law_j", 9)]) (g := gName 9) (tt := tYes) rfl scShort.nd (pi_range1 (by rfl) B.mR (pa_cons (pe_ix ix_list (pe_lst (pa_cons pe_int (pa_cons pe_int (pa_cons pe_int (pa_cons pe_int (pa_cons pe_int (pa_cons pe_int pa_nil))))))) (pe_op op_mod (pe_op op_fdiv (pv 6) pe_int) pe_int) (fun _ _ => rfl)) pa_nil))
            (blkOk_by (own := [("_law_j", 9)]) (N := ["_law_script", "_law_some", "_law_cell", "_law_signs", "_law_words", "_law_k", "_law_one", "_law_word", "_law_other", "_law_j"]) (sc := defScope s__law_short_words) (by decide +kernel))
            (fun _ _ _ _ _ => pg_name (i := 9) scShort.nd rfl (Or.inl rfl)) (fun _ _ _ _ _ => pts_nil)
            (fun _ _ _ _ _ => pe_ix (r := rIxL K) ix_list (pv 3) (pe_op op_mod (pe_op op_fdiv (pv 6) (pe_ix (r := rIxL K) ix_list (pe_lst (pa_cons pe_int (pa_cons pe_int (pa_cons pe_int (pa_cons pe_int pa_nil))))) (pv 9) (fun _ _ => rfl))) pe_int) (fun _ _ => rfl)))))
        (C8.pss_cut (ps_if (PW.pt (pw_and (pt_cmpR op_eq (pe_op op_mod (pv 6) pe_int) pe_int (nomark _)) (pw_and1 (pt_cmpR (op_neD hr.units) (pv 4) (pe_lst pa_nil) (nomark _)))))
            (pss_cons (ps_set (i := 8) scShort.nd rfl (.inl rfl) (pe_ix ix_list (pv 4) (pe_op op_mod (pe_op op_fdiv (pv 6) pe_int) (pe_callB call_len_seq (by rfl) B.mL boot_len (pa_cons (pv 4) pa_nil))) (fun _ _ => rfl)))
            (pss_one (ps_set (i := 7) scShort.nd rfl (.inl rfl) (pe_slice sl_str (pe_ix ix_list (pe_lst (pa_cons (pe_op op_add_str (pv 8) (pv 7)) (pa_cons (pe_op op_add_str (pv 7) (pv 8)) (pa_cons (pe_op op_add_str (pe_slice sl_str (pv 8) (po_some pe_int) po_none) (pv 7)) (pa_cons (pe_slice sl_str (pv 8) (po_some pe_int) po_none) pa_nil)))))
                (pe_op op_mod (pe_op op_fdiv (pv 6) pe_int) pe_int) (fun _ _ => rfl)) po_none (po_some pe_int))))) pss_nil)
          (pss_one (ps_if (PW.pt (pw_and (pt_cmpR op_ne (pv 7) pe_str (nomark _)) (pw_and1 (pt_cmpR op_notIn_seq (pv 7) (pv 4) (by rfl)))))
            (pss_one (ps_expr (pe_bm PySem.F.plainAttrs_list PySem.F.slot_list_append PySem.F.type_list_append mt_append (pv 4) (pa_cons (pv 7) pa_nil)))) pss_nil))))))
      (pss_one (ps_ret (pe_tup (pa_cons (pv 3) (pa_cons (pv 4) pa_nil))))))))), ?_⟩
    refine ⟨_, rfl, a, ns, 0, rfl, hS, by decide, fun c => ?_⟩
    obtain ⟨x, hx, ex⟩ := at_in alpha (i := c % 26) (Int.emod_nonneg _ (by decide)) (Int.emod_lt_of_pos _ (by decide))
    obtain ⟨y, hy, ey⟩ := at_in alpha (i := (c + 1 + c / 26 % 25) % 26) (Int.emod_nonneg _ (by decide)) (Int.emod_lt_of_pos _ (by decide))
    have lx := alphaLet x hx
    have ly := alphaLet y hy
    refine ⟨_, rfl, _, rfl, _, _, rfl, rfl, (by show (0 : Int) < 26; decide), _, _, x, rfl, rfl, by decide +kernel, by rw [alphaS]; exact ex, ?_⟩
    refine ⟨_, rfl, _, rfl, _, _, rfl, rfl, _, rfl, _, _, rfl, rfl, ⟨by decide, by decide⟩, _, _, rfl, rfl, (by show (0 : Int) < 25; decide), _, _, rfl, rfl, _, _, rfl, rfl, (by show (0 : Int) < 26; decide), _, _, y, rfl, rfl, by decide +kernel, by rw [alphaS]; exact ey, ?_⟩
    refine ⟨by show 2 ≤ sizeLine; decide, fun s hs => ?_⟩
    have s1 : Same H (upd H s (.lst [tx [x], tx [y]])) := same_upd hs
    have es : (upd H s (.lst [tx [x], tx [y]])) s = some (.lst [tx [x], tx [y]]) := upd_same
    generalize (upd H s (.lst [tx [x], tx [y]])) = H1 at s1 es ⊢
    refine ⟨Nat.zero_le _, fun b hb => ?_⟩
    have s2 : Same H (upd H1 b (.lst [])) := s1.trans (same_upd hb)
    have hHb : H b = none := s1.free hb
    have nsb : s ≠ b := ne_of_none es hb
    have eb0 : (upd H1 b (.lst [])) b = some (.lst []) := upd_same
    have es2 := same_upd (o := HO.lst []) hb _ _ es
    generalize (upd H1 b (.lst [])) = H2 at s2 eb0 es2 ⊢
    refine ⟨_, rfl, a, ns, 1, rfl, s2.seq hS, by decide, fun c1 => ?_⟩
    have b1 := Int.emod_nonneg c1 (show (5 : Int) ≠ 0 by decide)
    have b2 := Int.emod_lt_of_pos c1 (show (0 : Int) < 5 by decide)
    refine ⟨_, _, rfl, rfl, (by show (0 : Int) < 5; decide), _, _, rfl, rfl, _, rfl, by omega, by omega, ?_⟩
    refine for_range (lo := 0) (n := (1 + c1 % 5).toNat) (fun i σ H3 => Same H H3 ∧ H3 s = some (.lst [tx [x], tx [y]]) ∧ ∃ (ws : List (List Nat)) (k5 k6 k7 k8 : Option V), σ = [some (.ref a), some (tx alpha), some (.int c), some (.ref s), some (.ref b), k5, k6, k7, k8, none] ∧ H3 b = some (.lst (ws.map tx)) ∧ ws.length ≤ i ∧ ws.Nodup ∧ ∀ z ∈ ws, WordOk z ∧ AB x y z) ?_ ?_ ?_
    · refine ⟨s2, es2, [], none, none, none, none, ?_, eb0, Nat.le_refl _, List.nodup_nil, fun z hz => nomatch hz⟩
      rw [show tx alpha = V.str (Str.ofString "abcdefghijklmnopqrstuvwxyz") from congrArg V.str alphaS.symm]
      rfl
    · rintro i σ H3 hi ⟨sm3, es3, ws, k5, k6, k7, k8, rfl, eb, wl, wn, wo⟩
      refine ⟨_, rfl, _, rfl, _, _, rfl, rfl, a, ns, _, rfl, sm3.seq hS, by omega, fun v1 => ⟨_, rfl, _, _, rfl, fun one o0 o1 => ?_⟩⟩
      refine ⟨⟨_, rfl⟩, by show 6 ≤ sizeLine; decide, fun p hp => ⟨_, rfl, _, _, rfl, rfl, ⟨by decide, by decide⟩, _, _, rfl, rfl, (by show (0 : Int) < 6; decide), ?_⟩⟩
      obtain ⟨m, hm, em⟩ := at_map V.int [1, 2, 3, 2, 4, 3] (i := one / 2 % 6) (Int.emod_nonneg _ (by decide)) (Int.emod_lt_of_pos _ (by decide))
      have hm1 : 1 ≤ m ∧ m ≤ 4 := by
        simp only [List.mem_cons, List.not_mem_nil, or_false] at hm
        omega
      have s4 := same_upd (o := .lst [V.int 1, V.int 2, V.int 3, V.int 2, V.int 4, V.int 3]) hp
      refine ⟨p, _, _, _, rfl, rfl, .inl (.inl upd_same), em, ?_⟩
      refine ⟨m, rfl, by omega, by omega, fun D hD => ?_⟩
      have s5 := s4.trans (same_upd (o := .lst []) hD)
      refine lc_range (lo := 0) (n := m.toNat) (fun j H4 => Same H3 H4 ∧ ∃ ys : List (List Nat), H4 D = some (.lst (ys.map tx)) ∧ ys.length = j ∧ ∀ z ∈ ys, z.length = 1 ∧ AB x y z) ?_ ?_ ?_
      · exact ⟨s5, [], upd_same, rfl, fun z hz => nomatch hz⟩
      · rintro j H4 hj ⟨s6, ys, eD, el, hys⟩
        have hD3 : H3 D = none := s4.free hD
        refine ⟨rfl, ?_⟩
        obtain ⟨d, hd, ed⟩ := at_map V.int [16, 32, 64, 128] (i := (0 + (j : Int))) (by omega) (by show 0 + (j : Int) < 4; omega)
        have hd1 : 1 ≤ d ∧ d ≤ 128 := by
          simp only [List.mem_cons, List.not_mem_nil, or_false] at hd
          omega
        refine ⟨_, rfl, _, rfl, by show 4 ≤ sizeLine; decide, fun g hg => ⟨_, rfl, g, _, _, _, rfl, rfl, .inl (.inl upd_same), ed, ?_⟩⟩
        have s7 := s6.trans (same_upd (o := .lst [V.int 16, V.int 32, V.int 64, V.int 128]) hg)
        have eD7 := same_upd (o := HO.lst [V.int 16, V.int 32, V.int 64, V.int 128]) hg _ _ eD
        generalize (upd H4 g (.lst [V.int 16, V.int 32, V.int 64, V.int 128])) = H5 at s7 eD7 ⊢
        refine ⟨one, d, rfl, rfl, ?_⟩
        refine ⟨⟨by omega, by omega⟩, _, _, rfl, rfl, (by show (0 : Int) < 2; decide), ?_⟩
        have q0 := Int.emod_nonneg (one / d) (show (2 : Int) ≠ 0 by decide)
        have q1 := Int.emod_lt_of_pos (one / d) (show (0 : Int) < 2 by decide)
        obtain ⟨z, hz, ez⟩ := at_map tx [[x], [y]] (i := one / d % 2) q0 q1
        refine ⟨s, _, _, tx z, rfl, rfl, seqL (s7 _ _ es3), ez, ys.map tx, eD7, ?_, ?_⟩
        · rw [List.length_map, el]
          exact small1000 (by omega)
        · refine ⟨fun b o e => ?_, ys ++ [z], ?_, by rw [List.length_append, el]; rfl, fun u hu => ?_⟩
          · rw [upd_ne (ne_of_none e hD3)]
            exact s7 _ _ e
          · rw [upd_same, List.map_append]
            rfl
          · rcases List.mem_append.mp hu with z1 | z1
            · exact hys u z1
            · rw [List.mem_singleton.mp z1]
              simp only [List.mem_cons, List.not_mem_nil, or_false] at hz
              rcases hz with rfl | rfl
              · exact ⟨rfl, fun e he => .inl (List.mem_singleton.mp he)⟩
              · exact ⟨rfl, fun e he => .inr (List.mem_singleton.mp he)⟩
      · rintro H4 ⟨s6, ys, eD, el, hys⟩
        have h1 : ∀ z ∈ ys, z.length = 1 := fun z hz => (hys z hz).1
        refine ⟨_, D, ys.map S, rfl, rfl, .inl (.inl (.inl (by rw [← map_tx]; exact eD))), ?_, ?_⟩
        · rw [sum_ones h1, List.length_map, empLen]
          omega
        rw [join0]
        have fa : AB x y ys.flatten := flat_AB fun z hz => (hys z hz).2
        have fl : ys.flatten.length = m.toNat := by rw [flat_len h1, el]
        have fw : 1 ≤ ys.flatten.length ∧ ys.flatten.length ≤ 4 := by omega
        generalize ys.flatten = wd at fa fw ⊢
        -- the word is one, or none signs
        refine ⟨fun σ H5 => Same H3 H5 ∧ ∃ (z : List Nat) (k8 : Option V), σ = [some (.ref a), some (tx alpha), some (.int c), some (.ref s), some (.ref b), some (.int (0 + (i : Int))), some (.int one), some (tx z), k8, none] ∧ z.length ≤ 4 ∧ AB x y z, ?_, ?_⟩
        · have s4r : Same H3 H4 := s6
          refine ⟨_, rfl, _, _, rfl, rfl, (by show (0 : Int) < 2; decide), rfl, _, rfl, ite2 (fun _ => ?_) (fun _ => ?_)⟩
          · refine ⟨_, rfl, Nat.zero_le _, fun e he => ?_⟩
            have s8 := s6.trans (same_upd (o := .lst []) he)
            have ee : (upd H4 e (.lst [])) e = some (.lst []) := upd_same
            generalize (upd H4 e (.lst [])) = H5 at s8 ee ⊢
            refine ⟨.list (ws.map fun l => PyData.str (S l)), .list [], .lst (seqL (s8 _ _ eb)) (dp_texts ws), .lst (seqL ee) .nil, shaped_texts (fun z hz => (wo z hz).1.2.2), by decide +kernel, _, rfl, ?_⟩
            refine ite2 (fun hne => ?_) (fun _ => ?_)
            · have hws : 1 ≤ ws.length := by
                cases ws with
                | nil =>
                  have e0 : (!PyData.eqv (.list ([].map fun l => PyData.str (S l))) (.list [])) = false := by decide +kernel
                  rw [e0] at hne
                  exact absurd hne Bool.false_ne_true
                | cons x r => exact Nat.succ_le_succ (Nat.zero_le _)
              have en : (ws.map tx).length = ws.length := List.length_map _
              obtain ⟨oth, ho, eo⟩ := at_map tx ws (i := one / 256 % (ws.length : Int)) (Int.emod_nonneg _ (by omega)) (Int.emod_lt_of_pos _ (by omega))
              obtain ⟨⟨p1, p2, p3⟩, pa⟩ := wo oth ho
              have lo : (S oth).length = oth.length := S_len oth
              have lw : (S wd).length = wd.length := S_len wd
              have zl : ∀ {x : List Nat}, x.length ≤ 1000 → (S x).length ≤ sizeLine := fun {x} h => by rw [S_len]; exact size1000 h
              have eb5 := s8 _ _ eb
              refine ⟨_, rfl, _, rfl, _, _, rfl, rfl, ⟨by decide, by decide⟩, _, rfl, b, _, rfl, .inl (seqL eb5), _, _, rfl, rfl, (by show (0 : Int) < ((ws.map tx).length : Int); rw [en]; omega), b, _, _, tx oth, rfl, rfl, seqL eb5, by rw [en]; exact eo, ?_⟩
              refine ⟨_, rfl, _, rfl, _, _, rfl, rfl, by rw [lo, lw]; exact size1000 (by omega), _, rfl, _, rfl, _, _, rfl, rfl, by rw [lo, lw]; exact size1000 (by omega), ?_⟩
              refine ⟨_, rfl, 1, rfl, S oth, rfl, zl (by omega), _, rfl, _, _, rfl, rfl, by rw [cut_from (by decide), S_len, lw, List.length_drop]; exact size1000 (by omega), ?_⟩
              refine ⟨_, rfl, 1, rfl, S oth, rfl, zl (by omega), by show 4 ≤ sizeLine; decide, fun u hu => ?_⟩
              rw [cut_from (by decide), S_cat, S_cat, S_cat]
              obtain ⟨z, hz, ez⟩ := at_map tx [oth ++ wd, wd ++ oth, oth.drop (1 : Int).toNat ++ wd, oth.drop (1 : Int).toNat] (i := one / 4096 % 4) (Int.emod_nonneg _ (by decide)) (Int.emod_lt_of_pos _ (by decide))
              have hz2 : z.length ≤ 20 ∧ AB x y z := by
                have d1 : (oth.drop (1 : Int).toNat).length = oth.length - (1 : Int).toNat := List.length_drop
                simp only [List.mem_cons, List.not_mem_nil, or_false] at hz
                rcases hz with rfl | rfl | rfl | rfl
                · rw [List.length_append]; exact ⟨by omega, pa.app fa⟩
                · rw [List.length_append]; exact ⟨by omega, fa.app pa⟩
                · rw [List.length_append, d1]; exact ⟨by omega, (pa.drop _).app fa⟩
                · rw [d1]; exact ⟨by omega, pa.drop _⟩
              refine ⟨_, rfl, _, _, rfl, rfl, ⟨by decide, by decide⟩, _, _, rfl, rfl, (by show (0 : Int) < 4; decide), u, _, _, tx z, rfl, rfl, .inl (.inl upd_same), ez, 4, rfl, S z, rfl, zl (by omega), ?_⟩
              rw [cut_to (by decide)]
              exact ⟨s8.trans (same_upd hu), _, _, rfl, by rw [List.length_take]; exact Nat.min_le_left _ _, hz2.2.take _⟩
            · exact ⟨s8, _, _, rfl, fw.2, fa⟩
          · exact ⟨s6, _, _, rfl, fw.2, fa⟩
        · rintro σ H5 ⟨s8, z, k8', rfl, zl, za⟩
          have eb5 := s8 _ _ eb
          have zs : (S z).length ≤ sizeLine := by rw [S_len]; exact size1000 (by omega)
          refine ⟨_, rfl, rfl, _, rfl, ite2 (fun c0 => ?_) (fun _ => ?_)⟩
          · refine ⟨_, rfl, _, rfl, b, _, rfl, .inl (seqL eb5), rfl, flat_tx ws, _, rfl, ?_⟩
            rw [inV_tx]
            refine ite2 (fun hn => ?_) (fun _ => ?_)
            · have hni : z ∉ ws := by
                intro z'
                rw [decide_eq_true z'] at hn
                exact Bool.noConfusion hn
              have z1 : 1 ≤ z.length := by
                cases z with
                | nil =>
                  exfalso
                  revert c0
                  decide +kernel
                | cons _ _ => exact Nat.succ_le_succ (Nat.zero_le _)
              refine ⟨_, rfl, .inl ⟨rfl, _, seqL eb5⟩, _, rfl, b, _, _, rfl, rfl, eb5, by rw [List.length_map]; exact small1000 (by omega), ?_⟩
              refine ⟨fun d o e => ?_, by rw [upd_ne nsb]; exact s8 _ _ es3, ws ++ [z], _, _, _, _, rfl, ?_, by rw [List.length_append]; exact Nat.succ_le_succ wl, nodup_app wn hni, fun z' hz' => ?_⟩
              · rw [upd_ne (ne_of_none e hHb)]
                exact s8 _ _ (sm3 _ _ e)
              · rw [upd_same, List.map_append]
                rfl
              · rcases List.mem_append.mp hz' with z2 | z2
                · exact wo z' z2
                · rw [List.mem_singleton.mp z2]
                  exact ⟨⟨z1, by omega, za.let lx ly⟩, za⟩
            · exact ⟨sm3.trans s8, s8 _ _ es3, ws, _, _, _, _, rfl, eb5, Nat.le_succ_of_le wl, wn, wo⟩
          · exact ⟨sm3.trans s8, s8 _ _ es3, ws, _, _, _, _, rfl, eb5, Nat.le_succ_of_le wl, wn, wo⟩
    · rintro σ H3 ⟨sm3, es3, ws, k5, k6, k7, k8, rfl, eb, wl, wn, wo⟩
      refine ⟨_, rfl, _, rfl, by show 2 ≤ sizeLine; decide, fun T hT => ?_⟩
      have s9 := same_upd (o := .tup [.ref s, .ref b]) hT
      exact q T s b ws x y _ (sm3.trans s9) lx ly (s9 _ _ es3) (s9 _ _ eb) upd_same hs hHb ⟨by omega, wn, fun z hz => (wo z hz).1⟩ fun z hz => (wo z hz).2
end
section
variable {Pr : Program} {w : World} {K : PySem.W.Frag} {mg : Str → Option Value} {base : Heap} {P f : Addr} {fd fdI : FuncData}
theorem scLaw : FnScope ["_law_script", "_law_signs", "_law_words", "_law_longest", "_law_texts", "_law_size", "_law_due", "_law_found", "_law_text"] ["_law_script"] (defScope sLaw) := ⟨rfl, rfl, rfl, by decide +kernel, rfl, by decide +kernel, by decide +kernel⟩
theorem ok_law (F : FnP K "law" sLaw f fd) (D : Defs K mg) (I : HasI K mg base P fdI) (B : Bl mg) : FnOk Pr w K mg base CX0 7 f fd ["_law_script"] (spLaw K P) := by
  obtain ⟨f2, d2, DO, GD0⟩ := inDouble (Pr := Pr) (w := w) (base := base) D I B
  obtain ⟨f1, d1, A⟩ := D.d__law_at
  obtain ⟨f3, d3, M⟩ := D.d__law_mixed
  obtain ⟨f4, d4, SH⟩ := D.d__law_short_words
  obtain ⟨f5, d5, TW⟩ := D.d__law_two_ways
  have GD : FnOk Pr w K mg base CX0 6 f2 d2 ["words"] (spDouble P) := GD0.mono (by decide)
  have GS : FnOk Pr w K mg base CX0 6 f4 d4 ["_law_script"] (spShort K) := (ok_short SH.F A M B).mono (by decide)
  have GT : FnOk Pr w K mg base CX0 6 f5 d5 ["_law_words", "_law_texts"] (spTwo K) := (ok_two TW.F B).mono (by decide)
  refine F.okN scLaw (fun vs H Q E h => ?_) (fun cdv A' outer s H vs Q E hr h => ?_)
  · obtain ⟨a, ns, rfl, _⟩ := h
    rfl
  · obtain ⟨a, ns, rfl, hS, hT, q⟩ := h
    refine ⟨_, pss_cons (ps_asg (pe_call GS hr (by rfl) SH.g SH.F.kp SH.b .nil pass0 (pa_cons (pv 0) pa_nil)) (pg_tup rfl (pgs_cons (pg_name (i := 1) scLaw.nd rfl (Or.inr rfl)) (pgs_cons (pg_name (i := 2) scLaw.nd rfl (Or.inl rfl)) pgs_nil))))
      (pss_cons (ps_set (i := 3) scLaw.nd rfl (.inl rfl) (pe_lst (pa_cons pe_str pa_nil)))
      (pss_cons (ps_set (i := 4) scLaw.nd rfl (.inl rfl) (pe_lst pa_nil))
      (pss_cons (ps_for PassesOwn.never rfl (pi_range1 (by rfl) B.mR (pa_cons pe_int pa_nil)) (pg_name (i := 5) scLaw.nd rfl (Or.inl rfl))
        (pss_cons (ps_set (i := 3) scLaw.nd rfl (.inl rfl) (pe_op op_cat
          (pe_lc (own := [("_law_text", 8)]) (g := gName 8) (tt := tYes) rfl scLaw.nd (pi_list (pv 3)) (blkOk_by (own := [("_law_text", 8)]) (N := ["_law_script", "_law_signs", "_law_words", "_law_longest", "_law_texts", "_law_size", "_law_due", "_law_found", "_law_text"]) (sc := defScope sLaw) (by decide +kernel))
            (fun _ _ _ _ _ => pg_name (i := 8) scLaw.nd rfl (Or.inl rfl)) (fun _ _ _ _ _ => pts_nil) (fun _ _ _ _ _ => pe_op op_add_str (pe_ix (r := rIxL K) ix_list (pv 1) pe_int (fun _ _ => rfl)) (pv 8)))
          (pe_lc (own := [("_law_text", 8)]) (g := gName 8) (tt := tYes) rfl scLaw.nd (pi_list (pv 3)) (blkOk_by (own := [("_law_text", 8)]) (N := ["_law_script", "_law_signs", "_law_words", "_law_longest", "_law_texts", "_law_size", "_law_due", "_law_found", "_law_text"]) (sc := defScope sLaw) (by decide +kernel))
            (fun _ _ _ _ _ => pg_name (i := 8) scLaw.nd rfl (Or.inl rfl)) (fun _ _ _ _ _ => pts_nil) (fun _ _ _ _ _ => pe_op op_add_str (pe_ix (r := rIxL K) ix_list (pv 1) pe_int (fun _ _ => rfl)) (pv 8)))))
        (pss_one (ps_set (i := 4) scLaw.nd rfl (.inl rfl) (pe_op op_cat (pv 4) (pv 3))))))
      (pss_cons (ps_set (i := 6) scLaw.nd rfl (.inl rfl) (pe_call GT hr (by rfl) TW.g TW.F.kp TW.b .nil pass0 (pa_cons (pv 2) (pa_cons (pv 4) pa_nil))))
      (pss_cons (ps_set (i := 7) scLaw.nd rfl (.inl rfl) (pe_call GD hr (by rfl) DO.g DO.F.kp DO.b .nil pass0 (pa_cons (pe_callTy call_list_of (by rfl) B.mList boot_list (pa_cons (pv 2) pa_nil)) pa_nil)))
      (pss_cons (ps_if (pt_cmpR op_isN (pv 6) pe_non (nomark _)) (pss_one (ps_ret (pe_or (pe_cmpR op_isN (pv 7) pe_non (nomark _)) (pe_one (pe_cmpR op_gt (pe_callB call_len_str (by rfl) B.mL boot_len (pa_cons (pe_ix (r := rIxT K) ix_tup (pv 7) pe_int (fun _ _ => rfl)) pa_nil)) pe_int (nomark _)))))) pss_nil)
      (pss_one (ps_ret (pe_and (pe_cmpR op_notN (pv 7) pe_non (nomark _)) (pe_one (pe_cmpR op_eq (pe_callB call_len_str (by rfl) B.mL boot_len (pa_cons (pe_ix (r := rIxT K) ix_tup (pv 7) pe_int (fun _ _ => rfl)) pa_nil)) (pv 6) (nomark _)))))))))))), ?_⟩
    refine ⟨_, rfl, a, ns, rfl, hS, fun T s p ws x y H1 s1 lx ly es ep eT ns0 np0 hc ha => ?_⟩
    refine ⟨T, [.ref s, .ref p], rfl, .inl (.inl eT), rfl, _, _, rfl, _, _, rfl, rfl, ?_⟩
    refine ⟨by show 1 ≤ sizeLine; decide, fun lg hlg => ?_⟩
    have s2 := s1.trans (same_upd (o := .lst [V.str (Str.ofString "")]) hlg)
    have es2 := same_upd (o := .lst [V.str (Str.ofString "")]) hlg _ _ es
    have ep2 := same_upd (o := .lst [V.str (Str.ofString "")]) hlg _ _ ep
    have el2 : (upd H1 lg (.lst [V.str (Str.ofString "")])) lg = some (.lst ((Lv x y 0).map tx)) := by
      rw [upd_same, show Str.ofString "" = S [] by decide +kernel]
      rfl
    generalize (upd H1 lg (.lst [V.str (Str.ofString "")])) = H2 at s2 es2 ep2 el2 ⊢
    refine ⟨Nat.zero_le _, fun tz htz => ?_⟩
    have s3 := s2.trans (same_upd (o := .lst []) htz)
    have es3 := same_upd (o := .lst []) htz _ _ es2
    have ep3 := same_upd (o := .lst []) htz _ _ ep2
    have el3 := same_upd (o := .lst []) htz _ _ el2
    have et3 : (upd H2 tz (.lst [])) tz = some (.lst ((Tz x y 0).map tx)) := upd_same
    generalize (upd H2 tz (.lst [])) = H3 at s3 es3 ep3 el3 et3 ⊢
    refine ⟨7, rfl, by decide, by decide, ?_⟩
    refine for_range (lo := 0) (n := (7 : Int).toNat) (fun i σ H4 => Same H H4 ∧ H4 s = some (.lst [tx [x], tx [y]]) ∧ H4 p = some (.lst (ws.map tx)) ∧ ∃ (lg tz : Addr) (k5 : Option V), σ = [some (.ref a), some (.ref s), some (.ref p), some (.ref lg), some (.ref tz), k5, none, none, none] ∧ H4 lg = some (.lst ((Lv x y i).map tx)) ∧ H4 tz = some (.lst ((Tz x y i).map tx))) ?_ ?_ ?_
    · exact ⟨s3, es3, ep3, lg, tz, none, rfl, el3, et3⟩
    · rintro i σ H4 hi ⟨s4, es4, ep4, lg, tz, k5, rfl, el, et⟩
      have hi7 : i < 7 := hi
      have p2 : 2 ^ (i + 1) ≤ 2 ^ 7 := Nat.pow_le_pow_right (by decide) (by omega)
      have p3 : 2 ^ (i + 1) = 2 * 2 ^ i := by rw [Nat.pow_succ]; omega
      have ll := len_Lv x y i
      have lt := len_Tz x y i
      refine ⟨_, rfl, lg, rfl, ⟨_, seqL el⟩, fun D1 hD1 => ?_⟩
      refine lc_list (K := K) (a := lg) (xs := (Lv x y i).map tx) (fun j H5 => Same H4 H5 ∧ H5 D1 = some (.lst (((Lv x y i).take j).map fun u => tx (x :: u)))) ⟨same_upd hD1, upd_same⟩ (fun j H5 _ hh => seqL (hh.1 _ _ el)) ?_ ?_
      · rintro j v H5 hv ⟨s5, eD⟩
        rw [List.getElem?_map] at hv
        obtain ⟨u, hu, rfl⟩ := Option.map_eq_some_iff.mp hv
        have hj : j < (Lv x y i).length := (List.getElem?_eq_some_iff.mp hu).1
        have ul := (mem_Lv.mp (List.mem_of_getElem? hu)).2
        refine ⟨rfl, _, rfl, s, _, 0, _, rfl, rfl, seqL (s5 _ _ es4), atI_nat (j := 0) rfl, _, rfl, S [x], S u, rfl, rfl, ?_, ?_⟩
        · rw [S_len, S_len]
          exact size1000 (by show 1 + u.length ≤ 1000; omega)
        rw [S_cat]
        refine ⟨_, eD, by rw [List.length_map, List.length_take]; exact small1000 (by omega), fun b o e => ?_, ?_⟩
        · rw [upd_ne (ne_of_none e hD1)]
          exact s5 _ _ e
        · rw [upd_same, List.take_add_one, hu, List.map_append]
          rfl
      rintro H6 ⟨sH6, eD1⟩
      rw [List.length_map, List.take_length] at eD1
      have esH6 := sH6 _ _ es4
      have elH6 := sH6 _ _ el
      refine ⟨_, rfl, lg, rfl, ⟨_, seqL elH6⟩, fun D2 hD2 => ?_⟩
      refine lc_list (K := K) (a := lg) (xs := (Lv x y i).map tx) (fun j H5 => Same H6 H5 ∧ H5 D2 = some (.lst (((Lv x y i).take j).map fun u => tx (y :: u)))) ⟨same_upd hD2, upd_same⟩ (fun j H5 _ hh => seqL (hh.1 _ _ elH6)) ?_ ?_
      · rintro j v H5 hv ⟨s5, eD⟩
        rw [List.getElem?_map] at hv
        obtain ⟨u, hu, rfl⟩ := Option.map_eq_some_iff.mp hv
        have hj : j < (Lv x y i).length := (List.getElem?_eq_some_iff.mp hu).1
        have ul := (mem_Lv.mp (List.mem_of_getElem? hu)).2
        refine ⟨rfl, _, rfl, s, _, 1, _, rfl, rfl, seqL (s5 _ _ esH6), atI_nat (j := 1) rfl, _, rfl, S [y], S u, rfl, rfl, ?_, ?_⟩
        · rw [S_len, S_len]
          exact size1000 (by show 1 + u.length ≤ 1000; omega)
        rw [S_cat]
        refine ⟨_, eD, by rw [List.length_map, List.length_take]; exact small1000 (by omega), fun b o e => ?_, ?_⟩
        · rw [upd_ne (ne_of_none e hD2)]
          exact s5 _ _ e
        · rw [upd_same, List.take_add_one, hu, List.map_append]
          rfl
      rintro H7 ⟨sH7, eD2⟩
      rw [List.length_map, List.take_length] at eD2
      have esH7 := sH7 _ _ esH6
      have elH7 := sH7 _ _ elH6
      have eD1b := sH7 _ _ eD1
      refine ⟨D1, D2, _, _, rfl, rfl, eD1b, eD2, by rw [List.length_map, List.length_map, ll]; exact size1000 (by omega), fun l2 hl2 => ?_⟩
      have eL : (upd H7 l2 (.lst ((Lv x y i).map (fun u => tx (x :: u)) ++ (Lv x y i).map fun u => tx (y :: u)))) l2 = some (.lst ((Lv x y (i + 1)).map tx)) := by
        rw [upd_same]
        show _ = some (HO.lst ((List.map (x :: ·) (Lv x y i) ++ List.map (y :: ·) (Lv x y i)).map tx))
        rw [List.map_append, List.map_map, List.map_map]
        rfl
      have s47 := (sH6.trans sH7).trans (same_upd (o := .lst ((Lv x y i).map (fun u => tx (x :: u)) ++ (Lv x y i).map fun u => tx (y :: u))) hl2)
      generalize (upd H7 l2 (.lst ((Lv x y i).map (fun u => tx (x :: u)) ++ (Lv x y i).map fun u => tx (y :: u)))) = H8 at eL s47 ⊢
      have l8 := len_Lv x y (i + 1)
      refine ⟨_, rfl, _, rfl, tz, l2, _, _, rfl, rfl, s47 _ _ et, eL, by rw [List.length_map, List.length_map, l8]; exact size1000 (by omega), fun t2 ht2 => ?_⟩
      have s8 := same_upd (o := .lst ((Tz x y i).map tx ++ (Lv x y (i + 1)).map tx)) ht2
      refine ⟨(s4.trans s47).trans s8, s8 _ _ (s47 _ _ es4), s8 _ _ (s47 _ _ ep4), l2, t2, _, rfl, s8 _ _ eL, ?_⟩
      rw [upd_same, ← List.map_append]
      rfl
    · rintro σ H4 ⟨s4, es4, ep4, lg, tz, k5, rfl, el, et⟩
      have m4 : Sm P H H4 := .of_same hT s4
      have w1 : ∀ z ∈ ws, 1 ≤ z.length := fun z hz => (hc.2.2 z hz).1
      refine ⟨_, rfl, _, rfl, p, tz, ws, x, y, rfl, ep4, et, hc.2.2, hc.1, fun o due H5 s5 => ?_⟩
      have m5 := m4.andThen s5
      have ep5 := s5 _ _ ep4
      refine ⟨_, rfl, p, _, rfl, .inl (seqL ep5), fun l hl => ?_⟩
      have m6 := m5.andThen (same_upd (o := .lst (ws.map tx)) hl)
      have el6 : (upd H5 l (.lst (ws.map tx))) l = some (.lst (ws.map tx)) := upd_same
      generalize (upd H5 l (.lst (ws.map tx))) = H6 at m6 el6 ⊢
      refine ⟨l, ws, rfl, el6, hc, m6.tab, fun no H7 m7 => ?_, fun n hn pp xa ya t z zs u us H7 m7 np nx ny nxy at7 db tl nl => ?_⟩
      · cases o with
        | none =>
          refine ⟨_, rfl, rfl, _, rfl, iteP rfl ?_⟩
          refine ⟨_, rfl, rfl, ?_⟩
          exact ⟨_, rfl, iteP rfl (q _)⟩
        | some m =>
          obtain ⟨d7, ⟨v, vl, v2⟩, _⟩ := due
          obtain ⟨k, k1, ok⟩ := two_lst w1 hc.2.1 v2
          obtain ⟨k2, _, ok2⟩ := off_lst ok
          exact absurd ok2 (no k2)
      · have hp7 : SqT K H7 pp [tx t, .ref xa, .ref ya] := .inl (.inl at7.p)
        have t2 := db.two w1 hc.2.1
        have ta : AB x y t := by
          rw [← db.xf]
          exact flat_AB fun v hv => ha v (db.xw v hv)
        cases o with
        | none =>
          refine ⟨_, rfl, rfl, _, rfl, iteP rfl ?_⟩
          refine ⟨_, rfl, rfl, ?_⟩
          refine ⟨_, rfl, iteN (fun z => nomatch z) ⟨_, rfl, pp, _, 0, _, rfl, rfl, hp7, rfl, S t, rfl, small_T (by omega), _, _, len_v t, rfl, ?_⟩⟩
          have h7 : (7 : Int) < (t.length : Int) := by
            by_cases h : t.length ≤ 7
            · have h3 : 1 ≤ t.length := by
                have := db.lt
                have := congrArg List.length db.yf
                rw [List.flatten_cons, List.length_append] at this
                omega
              have := due t (mem_Tz.mpr ⟨ta, h3, h⟩)
              omega
            · omega
          show Q (V.bl (decide ((7 : Int) < (t.length : Int)))) H7
          rw [decide_eq_true h7]
          exact q _
        | some m =>
          obtain ⟨d7, ⟨v, vl, v2⟩, lo⟩ := due
          obtain ⟨k, k1, ok⟩ := two_lst w1 hc.2.1 v2
          have h1 := hn.2 k ok
          have em : t.length = m := by
            have h2 : ¬ (1 ≤ t.length ∧ t.length < m) := fun h => by
              have := lo t ta h.1 h.2
              omega
            have h3 : 1 ≤ t.length := by
              have := db.lt
              have := congrArg List.length db.yf
              rw [List.flatten_cons, List.length_append] at this
              omega
            omega
          refine ⟨_, rfl, rfl, _, rfl, iteN (fun z => nomatch z) ?_⟩
          refine ⟨_, rfl, rfl, _, rfl, iteNN (fun z => nomatch z) ⟨_, rfl, pp, _, 0, _, rfl, rfl, hp7, rfl, S t, rfl, small_T (by omega), _, rfl, rfl, ?_⟩⟩
          show Q (V.bl (decide (V.int ((S t).length : Int) = V.int (m : Int)))) H7
          rw [S_len, em, decide_eq_true rfl]
          exact q _
end
def dd (x : Str) (i : Nat) : He.DefD := ⟨(x, none), x, x, defArgs (top i), defBody (top i), defScope (top i), [], []⟩
def fn : List He.DefD := [dd "is_word" 10, dd "checked" 11, dd "left_of" 12, dd "stepped" 14, dd "double" 15, dd "meetings" 16, dd "_first_meetings" 17, dd "_further_meetings" 18, dd "_law_at" 20, dd "_law_mixed" 21, dd "_law_short_words" 22, dd "_law_two_ways" 23, dd "law" 24]
def fa : List He.Fa := ([.glo "law", .int "MOST_SIGNS" 10, .int "MOST_WORDS" 12, .glo "is_word", .glo "checked", .glo "left_of", .glo "stepped", .glo "double", .glo "meetings", .glo "_first_meetings", .glo "_further_meetings", .glo "_law_at", .glo "_law_mixed", .glo "_law_short_words", .glo "_law_two_ways", .free "type", .free "str", .free "len", .free "all", .free "list", .free "sorted", .free "range", .free "reversed", .free "sum", .free "isinstance", .free "int", .free "bool", .free "any", .free "max", .free "dict"] : List He.Fa) ++ ([.free "tuple", .free "min", .free "ValueError", .free "enumerate", .free "zip", .glo "CodeError", .glo "BadCode", .glo "Full", .glo "BadWord", .glo "Twice", .exc "CodeError", .exc "BadCode", .exc "Full", .exc "BadWord", .exc "Twice"] : List He.Fa)
def loose : List Str := (["heappush", "heappop", "CodeError", "BadCode", "Full", "BadWord", "Twice", "MOST_SIGNS", "MOST_WORDS", "is_word", "checked", "left_of", "stepped", "double", "meetings", "_first_meetings", "_further_meetings", "_law_at", "_law_mixed", "_law_short_words", "_law_two_ways"] : List Str)
abbrev R : PySem.W.OpenRow := PySem.W.OpenLaw.row PySem.Challenge.rw_onereading_k09_whole_short_texts_tried
def exI (K : PySem.W.Frag) : Bool := He.eqO (PySem.W.nsIn K mainGlobals "heappush") (some (some (.builtin "_heapq.heappush"))) && (He.eqO (PySem.W.nsIn K mainGlobals "heappop") (some (some (.builtin "_heapq.heappop"))) && (true))
def ex : PySem.W.Frag → Bool := fun K => exI K && true
abbrev tf : List He.Defn := [aWord]
abbrev hk : PySem.W.Hook := He.hookX 4 fa fn [] tf ex
def ob (s : PySem.W.SharedT) : He.AlX := He.obsX 4 fa fn [] tf ex (HandSHeadRun.getT s)
theorem ob_eq (s : PySem.W.SharedT) : ob s = hk.obs s.abs := He.obsX_eq (HandSHeadRun.getT_eq s)
set_option maxHeartbeats 0 in
theorem run (w : World) : HandSHeadRun.RunImp R (PySem.W.view R.prog [24]) hk ob 3000 20000 loose w := by
  unfold HandSHeadRun.RunImp
  kernel_rfl
section
variable {w : World} {h : Heap} {K : PySem.W.Frag} {mg : Str → Option Value} {f : Addr}
theorem there (X : K.In h) (G : h.Ns mainGlobals mg) (c : He.SaysX fa fn [] tf ex w h K) (x : Str) (i j k : Nat) {ps : List Str} (hd : fn[j]? = some (dd x i)) (hg : fa[k]? = some (He.Fa.glo x))
    (hb : ∀ (kV doc pm : Value) (an : Option Addr) (cdv ct : Value) (us : List Value), us.length = ps.length → bindArgs (PySem.W.fnOf x x (defArgs (top i)) (defBody (top i)) (defScope (top i)) .none kV doc pm an cdv ct) ⟨us, []⟩ = pure (ps.zip us)) : There K mg x (top i) ps := by
  obtain ⟨fd, F⟩ := c.t.d.def_ j hd
  exact ⟨_, fd, F, He.glo_ok X G (c.t.d.fact k hg), FunD.bindsN F hb⟩
theorem defs (X : K.In h) (G : h.Ns mainGlobals mg) (c : He.SaysX fa fn [] tf ex w h K) : Defs K mg := {
  d_checked := there X G c "checked" 11 1 4 rfl rfl fun _ _ _ _ _ _ us hl => match us, hl with | [_], _ => rfl
  d_left_of := there X G c "left_of" 12 2 5 rfl rfl fun _ _ _ _ _ _ us hl => match us, hl with | [_, _], _ => rfl
  d_stepped := there X G c "stepped" 14 3 6 rfl rfl fun _ _ _ _ _ _ us hl => match us, hl with | [_, _], _ => rfl
  d_double := there X G c "double" 15 4 7 rfl rfl fun _ _ _ _ _ _ us hl => match us, hl with | [_], _ => rfl
  d_meetings := there X G c "meetings" 16 5 8 rfl rfl fun _ _ _ _ _ _ us hl => match us, hl with | [_], _ => rfl
  d__first_meetings := there X G c "_first_meetings" 17 6 9 rfl rfl fun _ _ _ _ _ _ us hl => match us, hl with | [_], _ => rfl
  d__further_meetings := there X G c "_further_meetings" 18 7 10 rfl rfl fun _ _ _ _ _ _ us hl => match us, hl with | [_, _, _, _, _], _ => rfl
  d__law_at := there X G c "_law_at" 20 8 11 rfl rfl fun _ _ _ _ _ _ us hl => match us, hl with | [_, _], _ => rfl
  d__law_mixed := there X G c "_law_mixed" 21 9 12 rfl rfl fun _ _ _ _ _ _ us hl => match us, hl with | [_, _], _ => rfl
  d__law_short_words := there X G c "_law_short_words" 22 10 13 rfl rfl fun _ _ _ _ _ _ us hl => match us, hl with | [_], _ => rfl
  d__law_two_ways := there X G c "_law_two_ways" 23 11 14 rfl rfl fun _ _ _ _ _ _ us hl => match us, hl with | [_, _], _ => rfl
}
theorem exs (X : K.In h) (G : h.Ns mainGlobals mg) (c : He.SaysX fa fn [] tf ex w h K) : Exs K mg := {
  c_CodeError := rfl
  g_CodeError := He.glo_ok X G (c.t.d.fact 35 (f := .glo "CodeError") rfl)
  x_CodeError := c.t.d.fact 40 (f := .exc "CodeError") rfl
  c_BadCode := rfl
  g_BadCode := He.glo_ok X G (c.t.d.fact 36 (f := .glo "BadCode") rfl)
  x_BadCode := c.t.d.fact 41 (f := .exc "BadCode") rfl
  c_Full := rfl
  g_Full := He.glo_ok X G (c.t.d.fact 37 (f := .glo "Full") rfl)
  x_Full := c.t.d.fact 42 (f := .exc "Full") rfl
  c_BadWord := rfl
  g_BadWord := He.glo_ok X G (c.t.d.fact 38 (f := .glo "BadWord") rfl)
  x_BadWord := c.t.d.fact 43 (f := .exc "BadWord") rfl
  c_Twice := rfl
  g_Twice := He.glo_ok X G (c.t.d.fact 39 (f := .glo "Twice") rfl)
  x_Twice := c.t.d.fact 44 (f := .exc "Twice") rfl
}
theorem bl (X : K.In h) (G : h.Ns mainGlobals mg) (c : He.SaysX fa fn [] tf ex w h K) : Bl mg := {
  mT := He.free_ok X G (c.t.d.fact 15 (f := .free "type") rfl)
  mStr := He.free_ok X G (c.t.d.fact 16 (f := .free "str") rfl)
  mL := He.free_ok X G (c.t.d.fact 17 (f := .free "len") rfl)
  mAll := He.free_ok X G (c.t.d.fact 18 (f := .free "all") rfl)
  mList := He.free_ok X G (c.t.d.fact 19 (f := .free "list") rfl)
  mSorted := He.free_ok X G (c.t.d.fact 20 (f := .free "sorted") rfl)
  mR := He.free_ok X G (c.t.d.fact 21 (f := .free "range") rfl)
  mV := He.free_ok X G (c.t.d.fact 22 (f := .free "reversed") rfl)
  mSum := He.free_ok X G (c.t.d.fact 23 (f := .free "sum") rfl)
  mIsi := He.free_ok X G (c.t.d.fact 24 (f := .free "isinstance") rfl)
  mInt := He.free_ok X G (c.t.d.fact 25 (f := .free "int") rfl)
  mBool := He.free_ok X G (c.t.d.fact 26 (f := .free "bool") rfl)
  mAny := He.free_ok X G (c.t.d.fact 27 (f := .free "any") rfl)
  mMax := He.free_ok X G (c.t.d.fact 28 (f := .free "max") rfl)
  mDict := He.free_ok X G (c.t.d.fact 29 (f := .free "dict") rfl)
  mTuple := He.free_ok X G (c.t.d.fact 30 (f := .free "tuple") rfl)
  mMin := He.free_ok X G (c.t.d.fact 31 (f := .free "min") rfl)
  mVE := He.free_ok X G (c.t.d.fact 32 (f := .free "ValueError") rfl)
  mEnum := He.free_ok X G (c.t.d.fact 33 (f := .free "enumerate") rfl)
  mZip := He.free_ok X G (c.t.d.fact 34 (f := .free "zip") rfl)
  mPush := PySem.W.mg_of X G (He.eqO_ok (He.ba (He.ba c.more).1).1)
  mPop := PySem.W.mg_of X G (He.eqO_ok (He.ba (He.ba (He.ba c.more).1).2).1)
  mN := He.int_ok X G (c.t.d.fact 1 (f := .int "MOST_SIGNS" 10) rfl)
  mM := He.int_ok X G (c.t.d.fact 2 (f := .int "MOST_WORDS" 12) rfl)
}
theorem facts {l : PySem.W.OpenLaw} (X : K.In h) (G : h.Ns mainGlobals mg) (hfa : mg ("law" : Str) = some (.ref f)) (c : He.SaysX fa fn [] tf ex w h K) : LamX.LawAtS l w K CX0 7 63 "_law_script" mg f h := by
  have e := hfa.symm.trans (He.glo_ok X G (c.t.d.fact 0 (f := .glo "law") rfl))
  cases e
  obtain ⟨fd, F⟩ := c.t.d.def_ 12 (d := dd "law" 24) rfl
  obtain ⟨fdI, FI⟩ := c.t.d.def_ 0 (d := dd "is_word" 10) rfl
  have D := defs X G c
  have B := bl X G c
  have bI : Binds K fdI ["thing"] [] := FunD.bindsN FI fun _ _ _ _ _ _ us hl => match us, hl with | [_], _ => rfl
  have gI := He.glo_ok X G (c.t.d.fact 3 (f := .glo "is_word") rfl)
  have b := FunD.bindsA (ps := ["_law_script"]) F fun _ _ _ _ _ _ us hl => match us, hl with | [_], _ => rfl
  refine ⟨fd, [He.cT K aWord], spLaw K (He.cT K aWord).2, ?_, ?_, ?_, fun s v => b s [v] rfl, ?_, fun base _ _ TB => ?_⟩
  · intro p hp
    rw [List.mem_singleton.mp hp]
    exact c.empty aWord (List.mem_singleton.mpr rfl)
  · intro p hp
    rw [List.mem_singleton.mp hp]
    exact c.out aWord (List.mem_singleton.mpr rfl)
  · intro p hp
    rw [List.mem_singleton.mp hp]
    exact PySem.W.codeHd_of_K X (c.hd aWord (List.mem_singleton.mpr rfl))
  · intro H a ns _ _ hH hS
    exact ⟨a, ns, rfl, hS, ⟨#[], hH _ (List.mem_singleton.mpr rfl), trivial⟩, fun _ => rfl⟩
  · have T := TB _ (List.mem_singleton.mpr rfl)
    have I : HasI K mg base (He.cT K aWord).2 fdI := ⟨FI, gI, bI, ⟨T.code, T.bm, T.gP⟩⟩
    exact ok_law F D I B
end
end Ow
open PySem PySem.W PyProof.Rows
set_option maxRecDepth 100000 in
set_option maxHeartbeats 0 in
theorem PySem.Challenge.cw_onereading_k09_whole_short_texts_tried_holds : PySem.Challenge.rw_onereading_k09_whole_short_texts_tried.Holds := by
  w_on; o_law
  refine HandSHeadRun.head_imp (r := OpenLaw.row PySem.Challenge.rw_onereading_k09_whole_short_texts_tried) (q := view (OpenLaw.row PySem.Challenge.rw_onereading_k09_whole_short_texts_tried).prog [24]) (H := Ow.hk) (ob := Ow.ob) (N := 3000) (M := 20000) (loose := Ow.loose) (d := HandSHeadRun.topDef (OpenLaw.row PySem.Challenge.rw_onereading_k09_whole_short_texts_tried).prog 24) (kwd := []) Ow.ob_eq
    (by kernel_rfl) Ow.run (by kernel_rfl) (by kernel_rfl) (by kernel_rfl) (by rfl) (by first | assumption | decide +kernel) (by decide +kernel) ⟨rfl, rfl, rfl, rfl, rfl, by decide +kernel⟩ ?hw ?hc
  case hw => w_witness2
  case hc =>
    refine LamX.walk_ofTsE (l := PySem.Challenge.rw_onereading_k09_whole_short_texts_tried) (n := 63) (k := 7) (x := "_law_script") (CX := fun _ => L2.CX0) rfl (by decide) (by kernel_rfl) ⟨rfl, by decide, by decide⟩ ?F (fun _ _ _ _ _ z => z)
    intro w mg fa h Y G hmg0
    obtain ⟨K, KX, c⟩ := Y
    have hmg : mg ("law" : PySem.Str) = some (.ref fa) := by
      have e : (HandSHeadRun.topDef (OpenLaw.row PySem.Challenge.rw_onereading_k09_whole_short_texts_tried).prog 24).name = ("law" : PySem.Str) := by kernel_rfl
      rw [← e]
      exact hmg0
    exact ⟨K, KX, Ow.facts KX G hmg c⟩
