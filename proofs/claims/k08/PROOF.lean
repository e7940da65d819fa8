import PyProof.Rows.All
import Wide.All
import OpenK.AllK
import Wide.FinOn
import HandS.ForMost
import HandS.ForExc
import HandS.Defaults
import KE.GoesEnum
import HandS.SortInts
import HandS.Iter
import HandS.Walk
import HandS.DictComp
import HandS.WordsDict
import HandS.Finally
import HandS.HotCalls
import HandS.ExcIs
import HandS.ExcCtx
import HandS.CallSlots
import HandS.Codes
import HandS.StrMore
import HandS.Conv
import HandS.RevRange
import HandS.AnyAll
import HandS.Zip
import HandS.Sort
import HandS.IsInst
import HandS.Gcd
import HandS.ListEq
import KE.LtData
import KE.KMathG
import HandS.RepeatKit
import PyProof.TupleOfSeq
import PyProof.CallType
import PyProof.RangeIter
import PyProof.RulesTry
import PyProof.ZipIter
import HandS.HeadHook4
import HandS.HeadWalk
import HandS.Head0
import HandS.Head1
import HandS.Head2
import PySem.Challenge.RW_onereading_k08_whole_no_text_parts_twice
set_option Elab.async false
set_option linter.all false
set_option maxRecDepth 100000
set_option maxHeartbeats 4000000
/-! ### the head of a text that imports -/
noncomputable section
namespace HandSHeadRun
open PySem PySem.W PySem.Calls PyProof.Rows
/-- the opening, to its end, over trees -/
def impF (st : SharedT → Thread → Option (SharedT × Thread)) : Nat → SharedT → Thread → Option SharedT
  | 0, _, _ => none
  | m + 1, s, t => match t.atExitBegin with
    | some [] => some s
    | some (_ :: _) => none
    | none => match st s t with
      | some (s', t') => frS s' fun s' => impF st m s' t'
      | none => none
theorem impF_ok {tb : String → Option Builtin} {p : Program} {w : World} : ∀ {m : Nat} {s s' : SharedT} {t : Thread}, impF (stepT (denote tb) p w) m s t = some s' → importEnds tb p w m s.abs t = some s'.abs
  | 0, _, _, _, h => by cases h
  | m + 1, s, s', t, h => by
    unfold impF at h
    unfold importEnds
    cases ht : t.atExitBegin with
    | some l =>
      rw [ht] at h
      cases l with
      | nil => cases h; rfl
      | cons x l => cases h
    | none =>
      rw [ht] at h
      dsimp only at h ⊢
      cases hs : stepT (denote tb) p w s t with
      | none =>
        rw [hs] at h
        cases h
      | some r =>
        obtain ⟨s2, t2⟩ := r
        rw [hs] at h
        dsimp only at h
        rw [frS_eq] at h
        rw [stepT_spec hs]
        exact impF_ok h
/-- where it starts -/
def start0 (p : Program) : SharedT := ⟨.nil, 0, {}, #[], {}, 1, (start p).1.os⟩
theorem start0_abs (p : Program) : (start0 p).abs = (start p).1 := rfl
/-- a module's dict fenced, over trees -/
def fenceT (m : Str) (s : SharedT) : Option SharedT :=
  match boundIn s.abs.heap sysModules m, tameNamesOf? m with
  | some (.ref a), some row => (match getT s a with
    | some o => (match o.dict with
      | some D => (match getT s D with
        | some od => (match fenceDict? m row od, s.tree.get D with
          | some od', some _ => some ⟨s.tree.set D fun _ => od', s.n, s.life, s.gens, s.drawn, s.toks, s.os⟩
          | _, _ => none)
        | none => none)
      | none => none)
    | none => none)
  | _, _ => none
theorem fenceT_ok {m : Str} {s s' : SharedT} (h : fenceT m s = some s') : fenceModule? m s.abs = some s'.abs := by
  unfold fenceT at h
  unfold fenceModule?
  split at h
  · rename_i a row e1 e2
    rw [e1, e2]
    dsimp only
    rw [← getT_eq]
    split at h
    · rename_i o e3
      rw [e3]
      dsimp only
      split at h
      · rename_i D e4
        rw [e4]
        dsimp only
        rw [← getT_eq]
        split at h
        · rename_i od e5
          rw [e5]
          dsimp only
          split at h
          · rename_i od' x e6 e7
            rw [e6]
            cases h
            show some _ = some _
            congr 1
            show _ = (⟨absHeap (s.tree.set D fun _ => od') s.n s.life, s.gens, s.drawn, s.toks, s.os⟩ : Shared)
            rw [absHeap_set e7]
            rfl
          · cases h
        · cases h
      · cases h
    · cases h
  · cases h
def fencesT : List Str → SharedT → Option SharedT
  | [], s => some s
  | m :: r, s => match fenceT m s with
    | some s' => fencesT r s'
    | none => none
theorem fencesT_ok : ∀ {l : List Str} {s s' : SharedT}, fencesT l s = some s' → fenceAll? l s.abs = some s'.abs
  | [], s, s', h => by cases h; rfl
  | m :: r, s, s', h => by
    unfold fencesT at h
    cases e : fenceT m s with
    | none => rw [e] at h; cases h
    | some s1 =>
      rw [e] at h
      unfold fenceAll?
      rw [fenceT_ok e]
      exact fencesT_ok h
/-- the opening, the fence, the top: the states behind the fence and behind the top -/
def endI (stI st : SharedT → Thread → Option (SharedT × Thread)) (N M : Nat) (p : Program) : Option (SharedT × SharedT) :=
  match impF stI N (start0 (opening p)) (start (opening p)).2 with
  | none => none
  | some s1 => match fencesT (importedModules p.main.body) s1 with
    | none => none
    | some s2 => match s2.abs.heap.isNs mainGlobals && s2.gens.size == 0 with
      | false => none
      | true => match goF st s2.n (s2.abs.heap.nsMap mainGlobals "__annotations__") M s2 (topStub p) with
        | none => none
        | some s3 => some (s2, s3)
theorem left_imp {p q : Program} {loose : List Str} {Xt : Shared → Bool} {α : Type} {Yf : Shared → α} {Ya : World → α} {N M : Nat} (hnp : p.main.body.any namesNumpy = false)
    (run : ∀ (w : World), (endI (stepT (denote treeTable) (opening p) w) (stepT (denote treeTable) p w) N M p).map (fun s => (looksF p s.1.abs.heap s.2.abs, openSeen q loose (importedModules p.main.body) Xt true s.2.abs, Yf s.2.abs)) = some (true, openGood q loose, Ya w)) :
    LeftO p q loose Xt Yf Ya (N + M) true := fun w => by
  obtain ⟨⟨s2, s3⟩, hs, hv⟩ := Option.map_eq_some_iff.mp (run w)
  obtain ⟨l1, l2, l3⟩ : _ ∧ _ ∧ _ := by simpa only [Prod.mk.injEq] using hv
  unfold endI at hs
  cases e1 : impF (stepT (denote treeTable) (opening p) w) N (start0 (opening p)) (start (opening p)).2 with
  | none => rw [e1] at hs; cases hs
  | some s1 =>
    rw [e1] at hs
    dsimp only at hs
    cases e2 : fencesT (importedModules p.main.body) s1 with
    | none => rw [e2] at hs; cases hs
    | some s2' =>
      rw [e2] at hs
      dsimp only at hs
      cases e3 : (s2'.abs.heap.isNs mainGlobals && s2'.gens.size == 0) with
      | false => rw [e3] at hs; cases hs
      | true =>
        rw [e3] at hs
        dsimp only at hs
        cases e4 : goF (stepT (denote treeTable) p w) s2'.n (s2'.abs.heap.nsMap mainGlobals "__annotations__") M s2' (topStub p) with
        | none => rw [e4] at hs; cases hs
        | some s3' =>
          rw [e4] at hs
          cases hs
          have a := importEnds_mono M _ _ _ _ (impF_ok e1)
          have r := topRun_mono N _ _ _ _ (goF_ok e4)
          rw [Nat.add_comm M N] at r
          have hsz : s2.abs.heap.objs.size = s2.n := absHeap_size _ _ _
          have l1' : (staticsOk (importedModules p.main.body) s2.abs.heap s3.abs.heap && namesBound p s3.abs.heap && gensDone s3.abs && laidKept s2.abs.heap s3.abs.heap) = true := l1
          unfold openEnds fencedOpening
          rw [← start0_abs, a]
          show ((fenceModules? p s1.abs).bind _).map _ = _
          unfold fenceModules?
          rw [fencesT_ok e2]
          show ((if p.main.body.any namesNumpy then _ else some s2.abs).bind _).map _ = _
          rw [hnp]
          show (topFrom treeTable p w (N + M) s2.abs).map _ = _
          have t : topFrom treeTable p w (N + M) s2.abs = some s3.abs := by
            unfold topFrom
            have e3' : (s2.abs.heap.isNs mainGlobals && s2.abs.gens.size == 0) = true := e3
            rw [e3', hsz, r]
            show (match staticsOk (importedModules p.main.body) s2.abs.heap s3.abs.heap && namesBound p s3.abs.heap && gensDone s3.abs && laidKept s2.abs.heap s3.abs.heap with | true => some s3.abs | false => none) = _
            rw [l1']
          rw [t]
          exact congrArg some (Prod.ext l2 l3)
/-- the run's equation at a world, from the opening on -/
def RunImp (r : OpenRow) (q : Program) (H : Hook) (ob : SharedT → H.α) (N M : Nat) (loose : List PySem.Str) (w : World) : Prop :=
  (endI (stepQ (denQ tabQ) (opening r.prog) w) (stepQ (denQ tabQ) r.prog w) N M r.prog).map (fun s => (looksF r.prog s.1.abs.heap s.2.abs, seenQ q loose (importedModules r.prog.main.body) (fun s => xlAt q [] s && recOk r.toRowW.records s) s.2.abs, ob s.2)) = some (true, openGood q loose, H.val w)
theorem head_imp {r : OpenRow} {q : Program} {H : Hook} {ob : SharedT → H.α} {N M : Nat} {loose : List PySem.Str} {d : DefRec} {kwd : List (PySem.Str × PySem.Expr)} (ho : ∀ s : SharedT, ob s = H.obs s.abs)
    (hnp : r.prog.main.body.any namesNumpy = false) (run : ∀ w, RunImp r q H ob N M loose w)
    (hdef : defOf q r.name = some (d, kwd)) (hp : r.prog.theDef r.name = some (d.params, d.body, d.scope)) (hk : kwWritten? d.params.kwonlyargs d.params.kw_defaults = some kwd)
    (hwr : (!r.writes || r.records.isEmpty) = true) (k1 : r.wellSaid = true) (ok : (chainsOk q && opensWell r.prog && (frees r.toRowW && r.within.isEmpty)) = true) (hb : r.prog.bare) (hw : r.toRowW.promised)
    (call : WalkO q loose (XL q []) H.says r.toRowW d kwd fun f vs => PySem.call f vs) : r.Holds := by
  have left : LeftO r.prog q loose (fun s => xlAt q [] s && recOk r.toRowW.records s) H.obs H.val (N + M) true :=
    left_imp hnp fun w => by
      have z := run w
      have eo : ob = fun s => H.obs s.abs := funext ho
      unfold RunImp at z
      rw [eo, ← denQ_eq, ← tabQ_eq, ← stepQ_eq] at z
      simp only [seenQ_eq]
      exact z
  exact holds_open (r := r) (q := q) (loose := loose) (XP := XL q []) (YP := H.says) (d := d) (kwd := kwd) left H.of H.keeps (fun s z => xl_of s (Bool.and_eq_true_iff.mp z).1) XL.keeps hdef hp hk (fun s z => recFacts_of (Bool.and_eq_true_iff.mp z).2) hwr k1 ok hb hw call
end HandSHeadRun
end
/-! ### binary heaps: the mathematics -/
namespace HQ
section
variable {α : Type} {lt : α → α → Bool}
/-- an order in which no two are less than each other, and what isn't less stays so -/
structure Ord (M : α → Prop) (lt : α → α → Bool) : Prop where
  asym : ∀ x y, M x → M y → lt x y = true → lt y x = false
  trans : ∀ x y z, M x → M y → M z → lt x y = true → lt y z = true → lt x z = true
  ntrans : ∀ x y z, M x → M y → M z → lt x y = false → lt y z = false → lt x z = false
def par (i : Nat) : Nat := (i - 1) / 2
theorem par_lt {i : Nat} (h : 0 < i) : par i < i := by unfold par; omega
def sw (f : Nat → α) (i j k : Nat) : α := if k = i then f j else if k = j then f i else f k
def IsHp (lt : α → α → Bool) (f : Nat → α) (n : Nat) : Prop := ∀ i, 0 < i → i < n → lt (f i) (f (par i)) = false
def HB (lt : α → α → Bool) (f : Nat → α) (n pos : Nat) : Prop :=
  (∀ i, 0 < i → i < n → i ≠ pos → par i ≠ pos → lt (f i) (f (par i)) = false) ∧ (0 < pos → ∀ i, 0 < i → i < n → par i = pos → lt (f i) (f (par pos)) = false)
def HU (lt : α → α → Bool) (f : Nat → α) (n pos : Nat) : Prop := HB lt f n pos ∧ ∀ i, 0 < i → i < n → par i = pos → lt (f i) (f pos) = false
theorem sw_l {f : Nat → α} {i j : Nat} : sw f i j i = f j := if_pos rfl
theorem sw_r {f : Nat → α} {i j : Nat} : sw f i j j = f i := by
  unfold sw
  by_cases h : j = i
  · rw [if_pos h, h]
  · rw [if_neg h, if_pos rfl]
theorem sw_o {f : Nat → α} {i j k : Nat} (h1 : k ≠ i) (h2 : k ≠ j) : sw f i j k = f k := by
  unfold sw
  rw [if_neg h1, if_neg h2]
/-- one step down: the lesser child c comes up -/
theorem HB.down {f : Nat → α} {n pos c : Nat} (h : HB lt f n pos) (hc : par c = pos) (hc0 : 0 < c) (hcn : c < n) (hd : ∀ d, 0 < d → d < n → par d = pos → d ≠ c → lt (f d) (f c) = false) : HB lt (sw f c pos) n c := by
  have hcp : pos < c := hc ▸ par_lt hc0
  refine ⟨fun i h0 hn n1 n2 => ?_, fun _ i h0 hn hp => ?_⟩
  · have hpi := par_lt h0
    by_cases e : i = pos
    · subst e
      rw [sw_r, sw_o (by omega) (by omega)]
      exact h.2 h0 c hc0 hcn hc
    · by_cases e2 : par i = pos
      · rw [e2, sw_r, sw_o n1 e]
        exact hd i h0 hn e2 n1
      · rw [sw_o n1 e, sw_o n2 e2]
        exact h.1 i h0 hn e e2
  · have hpi := par_lt h0
    rw [hc, sw_r, sw_o (by omega) (by omega)]
    have := h.1 i h0 hn (by omega) (by omega)
    rw [hp] at this
    exact this
theorem HB.leaf {f : Nat → α} {n pos : Nat} (h : HB lt f n pos) (hl : n / 2 ≤ pos) : HU lt f n pos :=
  ⟨h, fun i h0 hn hp => by unfold par at hp; omega⟩
theorem HU.up {M : α → Prop} {f : Nat → α} {n pos : Nat} (O : Ord M lt) (hM : ∀ i, i < n → M (f i)) (h : HU lt f n pos) (hp0 : 0 < pos) (hpn : pos < n) (hl : lt (f pos) (f (par pos)) = true) : HU lt (sw f (par pos) pos) n (par pos) := by
  have hpp := par_lt hp0
  obtain ⟨⟨h1, h2⟩, h3⟩ := h
  refine ⟨⟨fun i h0 hn n1 n2 => ?_, fun hq i h0 hn hp => ?_⟩, fun i h0 hn hp => ?_⟩
  · have hpi := par_lt h0
    have e : i ≠ pos := fun z => n2 (by rw [z])
    by_cases e2 : par i = pos
    · rw [e2, sw_r, sw_o n1 e]
      exact h2 hp0 i h0 hn e2
    · rw [sw_o n1 e, sw_o n2 e2]
      exact h1 i h0 hn e e2
  · have hpq := par_lt hq
    rw [sw_o (k := par (par pos)) (by omega) (by omega)]
    have a1 := h1 (par pos) hq (by omega) (by omega) (by omega)
    by_cases e : i = pos
    · rw [e, sw_r]
      exact a1
    · have hpi := par_lt h0
      rw [sw_o (by omega) e]
      have a2 := h1 i h0 hn e (by omega)
      rw [hp] at a2
      exact O.ntrans _ _ _ (hM _ hn) (hM _ (by omega)) (hM _ (by omega)) a2 a1
  · rw [sw_l]
    by_cases e : i = pos
    · rw [e, sw_r]
      exact O.asym _ _ (hM _ hpn) (hM _ (by omega)) hl
    · have hpi := par_lt h0
      rw [sw_o (by omega) e]
      have a2 := h1 i h0 hn e (by omega)
      rw [hp] at a2
      cases z : lt (f i) (f pos) with
      | false => rfl
      | true =>
        have := O.trans _ _ _ (hM _ hn) (hM _ hpn) (hM _ (by omega)) z hl
        rw [this] at a2
        cases a2
theorem HU.fin {f : Nat → α} {n pos : Nat} (h : HU lt f n pos) (hl : pos = 0 ∨ lt (f pos) (f (par pos)) = false) : IsHp lt f n := fun i h0 hn => by
  by_cases e : i = pos
  · subst e
    rcases hl with z | z
    · omega
    · exact z
  · by_cases e2 : par i = pos
    · rw [e2]
      exact h.2 i h0 hn e2
    · exact h.1.1 i h0 hn e e2
theorem IsHp.push {f g : Nat → α} {n : Nat} (h : IsHp lt f n) (he : ∀ i, i < n → g i = f i) : HU lt g (n + 1) n := by
  refine ⟨⟨fun i h0 hn n1 n2 => ?_, fun hq i h0 hn hp => ?_⟩, fun i h0 hn hp => ?_⟩
  · have := par_lt h0
    rw [he i (by omega), he (par i) (by omega)]
    exact h i h0 (by omega)
  · have := par_lt h0
    omega
  · have := par_lt h0
    omega
theorem IsHp.pop {f g : Nat → α} {n m : Nat} (h : IsHp lt f n) (hm : m ≤ n) (he : ∀ i, 0 < i → i < m → g i = f i) : HB lt g m 0 := by
  refine ⟨fun i h0 hn n1 n2 => ?_, fun hq => absurd hq (Nat.lt_irrefl 0)⟩
  have := par_lt h0
  rw [he i h0 hn, he (par i) (by omega) (by omega)]
  exact h i h0 (by omega)
theorem IsHp.min {M : α → Prop} {f : Nat → α} {n : Nat} (O : Ord M lt) (hM : ∀ i, i < n → M (f i)) (h : IsHp lt f n) : ∀ i, 0 < i → i < n → lt (f i) (f 0) = false := by
  intro i
  induction i using Nat.strongRecOn with
  | _ i ih =>
    intro h0 hn
    have hp := par_lt h0
    have a := h i h0 hn
    by_cases e : par i = 0
    · rw [e] at a
      exact a
    · exact O.ntrans _ _ _ (hM _ hn) (hM _ (by omega)) (hM _ (by omega)) a (ih _ hp (by omega) (by omega))
end
end HQ

namespace HQ
open PySem PySem.W PySem.Calls PySem.SeqAt
open AutoSeq1 (wpAny_loadPart')
open MeetsSeq MeetsSeq2 MeetsSeq3 SeqRoads2
theorem entry_push : entryFor table "_heapq.heappush" = some Builtin.«_heapq.heappush» := entryFor_of_tree (by kernel_rfl)
theorem entry_pop : entryFor table "_heapq.heappop" = some Builtin.«_heapq.heappop» := entryFor_of_tree (by kernel_rfl)
theorem entry_sift : entryFor table "_heapq.heapify.sift" = some Builtin.«_heapq.heapify.sift» := entryFor_of_tree (by kernel_rfl)
theorem kind_push : builtinKind "_heapq.heappush" = none := by kernel_rfl
theorem kind_pop : builtinKind "_heapq.heappop" = none := by kernel_rfl
theorem plain_push : plainId "_heapq.heappush" = true := by decide +kernel
theorem plain_pop : plainId "_heapq.heappop" = true := by decide +kernel
theorem plain_sift : plainId "_heapq.heapify.sift" = true := by decide +kernel
theorem args_push (a b : Value) : argsOk "_heapq.heappush" ⟨[a, b], []⟩ := by unfold argsOk; kernel_rfl
theorem args_pop (a : Value) : argsOk "_heapq.heappop" ⟨[a], []⟩ := by unfold argsOk; kernel_rfl
def vat (ys : Array Value) (i : Nat) : Value := ys.getD i .none
theorem vat_get {ys : Array Value} {i : Nat} (h : i < ys.size) : ys[i]? = some (vat ys i) := by
  unfold vat
  simp [h]
theorem vat_mem {ys : Array Value} {i : Nat} (h : i < ys.size) : vat ys i ∈ ys := by
  unfold vat
  simp [h]
/-- two items change places -/
def swA (ys : Array Value) (i j : Nat) : Array Value := (ys.setIfInBounds i (vat ys j)).setIfInBounds j (vat ys i)
theorem swA_size {ys : Array Value} {i j : Nat} : (swA ys i j).size = ys.size := by simp [swA]
theorem swA_vat {ys : Array Value} {i j : Nat} (hi : i < ys.size) (hj : j < ys.size) : vat (swA ys i j) = sw (vat ys) i j := by
  funext k
  unfold swA sw
  unfold vat
  by_cases hk : k < ys.size
  · simp only [Array.getD_eq_getD_getElem?, Array.getElem?_setIfInBounds, Array.size_setIfInBounds]
    by_cases e1 : j = k
    · subst e1
      by_cases e2 : j = i
      · subst e2
        simp [hi]
      · simp [hi, hj, e2]
    · by_cases e2 : i = k
      · subst e2
        simp [hi, hj, e1]
      · simp [e1, e2, Ne.symm e1, Ne.symm e2]
  · simp only [Array.getD_eq_getD_getElem?, Array.getElem?_setIfInBounds, Array.size_setIfInBounds]
    have e1 : ¬ j = k := by omega
    have e2 : ¬ i = k := by omega
    simp [e1, e2, Ne.symm e1, Ne.symm e2]
theorem swA_perm {ys : Array Value} {i j : Nat} (hi : i < ys.size) (hj : j < ys.size) : (swA ys i j).toList.Perm ys.toList := by
  have e : swA ys i j = ys.swap i j hi hj := by
    unfold swA vat
    apply Array.ext_getElem?
    intro k
    rw [Array.getElem?_swap]
    simp only [Array.getElem?_setIfInBounds, Array.getD_eq_getD_getElem?, Array.size_setIfInBounds]
    by_cases e1 : j = k
    · subst e1
      simp [hi, hj]
    · by_cases e2 : i = k
      · subst e2
        simp [hi, hj, e1]
      · simp [e1, e2]
  rw [e]
  exact (Array.swap_perm hi hj).toList
theorem swA_mem {ys : Array Value} {i j : Nat} (hi : i < ys.size) (hj : j < ys.size) {x : Value} (hx : x ∈ swA ys i j) : x ∈ ys := Array.mem_toList_iff.mp ((swA_perm hi hj).mem_iff.mp (Array.mem_toList_iff.mpr hx))
theorem swA_line {ys : Array Value} {n i j : Nat} {x y : Value} (hz : ys.size ≤ sizeLine) : (Obj.mapSeq (fun xs => (xs.setIfInBounds i x).setIfInBounds j y) { cls := .type "list", data := .seq ys n }).data.pastItsLine = none :=
  pastItsLine_seq (by rw [Array.size_setIfInBounds, Array.size_setIfInBounds]; omega)
/-- a list's object and its comparisons, as they stay while the list is written -/
structure Lists (A : Around) (a : Addr) (lt : Value → Value → Bool) (M : Value → Prop) (J : Array Value → Shared → Prop) : Prop where
  at_ : ∀ ys s, J ys s → ∃ n, s.heap.get? a = some { cls := .type "list", data := .seq ys n }
  size : ∀ ys s, J ys s → ys.size ≤ sizeLine
  mem : ∀ ys s x, J ys s → x ∈ ys → M x
  wr : ∀ ys s (f : Array Value → Array Value), J ys s → (∀ x ∈ f ys, M x) → (f ys).size ≤ sizeLine → J (f ys) { s with heap := s.heap.update a (Obj.mapSeq f) }
  cmp : ∀ ys s x y, J ys s → M x → M y → RcLt A s x y (lt x y)
abbrev args (a : Addr) (down : Bool) (pos : Nat) (res : Value) : Args := ⟨[.ref a, .bool false, .bool down, rawInt pos, rawInt 0, res, rawInt (-1)], []⟩
abbrev After (prog : Program) (w : World) (A : Around) (R : Result → Shared → Prop) (t : Sem Fin) (s : Shared) : Prop :=
  wpAny (model prog w) A.in1 t (fun fin s' => match fin with | .done f => R (.ok f) s' | .again c' => c'.quiet = true ∧ codeAny (model prog w) A c' R s') (fun e s' => R (.error e) s') s
section
variable {prog : Program} {w : World} {A : Around} {a : Addr} {lt : Value → Value → Bool} {J : Array Value → Shared → Prop} {M : Value → Prop} {R : Result → Shared → Prop}
theorem up_ok (L : Lists A.in1 a lt M J) (O : Ord M lt) (res : Value) : ∀ (pos : Nat) (ys : Array Value) (s : Shared), J ys s → pos < ys.size → HU lt (vat ys) ys.size pos →
    (∀ zs s', J zs s' → zs.toList.Perm ys.toList → IsHp lt (vat zs) zs.size → R (.ok (.ret res)) s') → After prog w A R (Builtin.«_heapq.heapify.sift» (args a false pos res)) s := by
  intro pos
  induction pos using Nat.strongRecOn with
  | _ pos ih =>
    intro ys s hJ hp hU fin
    have hM := fun x hx => L.mem ys s x hJ hx
    obtain ⟨n, e⟩ := L.at_ _ _ hJ
    delta After
    have hz := L.size _ _ hJ
    wp_walk using wpAny_loadPart' e
    by_cases h0 : pos = 0
    · refine wpAny_ite_false (by subst h0; rfl) ?_
      wp_walk
      exact fin ys _ hJ (List.Perm.refl _) (hU.fin (.inl h0))
    · refine wpAny_ite_true (by show decide (((pos : Nat) : Int).toNat > (0 : Int).toNat) = true; exact decide_eq_true (by show 0 < pos; omega)) ?_
      have hpar : par pos < pos := par_lt (by omega)
      have hq : par pos < ys.size := by omega
      have g1 : ys[((pos : Nat) : Int).toNat]? = some (vat ys pos) := vat_get hp
      have g2 : ys[(((pos : Nat) : Int).toNat - 1) / 2]? = some (vat ys (par pos)) := vat_get hq
      wp_walk using wpAny_loadPart' e
      rw [g1]
      wp_walk using wpAny_loadPart' e
      rw [g2]
      have hc := fun E Q => L.cmp _ _ _ _ hJ (hM _ (vat_mem hp)) (hM _ (vat_mem hq)) prog w E Q
      wp_walk using wpAny_loadPart' e, hc
      cases hl : lt (vat ys pos) (vat ys (par pos)) with
      | false =>
        wp_walk using wpAny_loadPart' e
        exact fin ys _ hJ (List.Perm.refl _) (hU.fin (.inr hl))
      | true =>
        wp_walk using wpAny_loadPart' e
        rw [g2]
        wp_walk using wpAny_loadPart' e
        rw [g1]
        wp_walk using wpAny_loadPart' e
        rw [swA_line hz]
        have hJ2 := L.wr _ _ (fun xs => (xs.setIfInBounds ((((pos : Nat) : Int).toNat - 1) / 2) (vat ys pos)).setIfInBounds ((pos : Nat) : Int).toNat (vat ys (par pos))) hJ (fun x hx => hM x (swA_mem (i := par pos) (j := pos) hq hp hx)) (by rw [Array.size_setIfInBounds, Array.size_setIfInBounds]; exact hz)
        wp_walk
        refine ⟨plainId_quiet plain_sift _, codeAny_builtin entry_sift ?_⟩
        rw [Around.under_plainId plain_sift _]
        refine ih (par pos) hpar (swA ys (par pos) pos) _ hJ2 (by rw [swA_size]; exact hq) ?_ fun zs s' j p h => fin zs s' j (p.trans (swA_perm hq hp)) h
        rw [swA_size, swA_vat hq hp]
        exact hU.up O (fun i hi => hM _ (vat_mem hi)) (by omega) hp hl
theorem down_ok (L : Lists A.in1 a lt M J) (O : Ord M lt) (res : Value) : ∀ (k pos : Nat) (ys : Array Value) (s : Shared), k = ys.size - pos → J ys s → pos < ys.size → HB lt (vat ys) ys.size pos →
    (∀ zs s', J zs s' → zs.toList.Perm ys.toList → IsHp lt (vat zs) zs.size → R (.ok (.ret res)) s') → After prog w A R (Builtin.«_heapq.heapify.sift» (args a true pos res)) s := by
  intro k
  induction k using Nat.strongRecOn with
  | _ k ih =>
    intro pos ys s hk hJ hp hB fin
    have hM := fun x hx => L.mem ys s x hJ hx
    obtain ⟨n, e⟩ := L.at_ _ _ hJ
    delta After
    have hz := L.size _ _ hJ
    have toSw : ∀ c, par c = pos → 0 < c → c < ys.size → (∀ d, 0 < d → d < ys.size → par d = pos → d ≠ c → lt (vat ys d) (vat ys c) = false) → ∀ s', J (swA ys c pos) s' →
        After prog w A R (Builtin.«_heapq.heapify.sift» (args a true c res)) s' := fun c hc hc0 hcn hd s' hJ2 => by
      have hcp : pos < c := hc ▸ par_lt hc0
      refine ih (ys.size - c) (by omega) c (swA ys c pos) s' (by rw [swA_size]) hJ2 (by rw [swA_size]; exact hcn) ?_ fun zs s' j p h => fin zs s' j (p.trans (swA_perm hcn hp)) h
      rw [swA_size, swA_vat hcn hp]
      exact hB.down hc hc0 hcn hd
    wp_walk using wpAny_loadPart' e
    by_cases h0 : pos < ys.size / 2
    · refine wpAny_ite_true (by show decide (((pos : Nat) : Int).toNat < ys.size / 2) = true; exact decide_eq_true h0) ?_
      wp_walk using wpAny_loadPart' e
      have g0 : ys[((pos : Nat) : Int).toNat]? = some (vat ys pos) := vat_get hp
      have hl1 : 2 * pos + 1 < ys.size := by omega
      have g1 : ys[2 * ((pos : Nat) : Int).toNat + 1]? = some (vat ys (2 * pos + 1)) := vat_get hl1
      by_cases h2 : 2 * pos + 1 + 1 < ys.size
      · have g2 : ys[2 * ((pos : Nat) : Int).toNat + 1 + 1]? = some (vat ys (2 * pos + 1 + 1)) := vat_get h2
        refine wpAny_ite_true (by show decide (2 * ((pos : Nat) : Int).toNat + 1 + 1 < ys.size) = true; exact decide_eq_true h2) ?_
        wp_walk using wpAny_loadPart' e
        rw [g1]
        wp_walk using wpAny_loadPart' e
        rw [g2]
        have hc := fun E Q => L.cmp _ _ _ _ hJ (hM _ (vat_mem hl1)) (hM _ (vat_mem h2)) prog w E Q
        wp_walk using wpAny_loadPart' e, hc
        have m1 := hM _ (vat_mem hl1)
        have m2 := hM _ (vat_mem h2)
        cases hl : lt (vat ys (2 * pos + 1)) (vat ys (2 * pos + 1 + 1)) with
        | true =>
          wp_walk using wpAny_loadPart' e
          rw [g1]
          wp_walk using wpAny_loadPart' e
          rw [g0]
          wp_walk using wpAny_loadPart' e
          rw [swA_line hz]
          have hJ2 := L.wr _ _ (fun xs => (xs.setIfInBounds (2 * ((pos : Nat) : Int).toNat + 1) (vat ys pos)).setIfInBounds ((pos : Nat) : Int).toNat (vat ys (2 * pos + 1))) hJ (fun x hx => hM x (swA_mem (i := 2 * pos + 1) (j := pos) hl1 hp hx)) (by rw [Array.size_setIfInBounds, Array.size_setIfInBounds]; exact hz)
          wp_walk
          refine ⟨plainId_quiet plain_sift _, codeAny_builtin entry_sift ?_⟩
          rw [Around.under_plainId plain_sift _]
          refine toSw (2 * pos + 1) (by unfold par; omega) (by omega) hl1 (fun d d0 dn dp dc => by
                have e3 : d = 2 * pos + 1 + 1 := by (unfold par at dp; omega)
                rw [e3]
                exact O.asym _ _ m1 m2 hl) _ hJ2
        | false =>
          wp_walk using wpAny_loadPart' e
          rw [g2]
          wp_walk using wpAny_loadPart' e
          rw [g0]
          wp_walk using wpAny_loadPart' e
          rw [swA_line hz]
          have hJ2 := L.wr _ _ (fun xs => (xs.setIfInBounds (2 * ((pos : Nat) : Int).toNat + 1 + 1) (vat ys pos)).setIfInBounds ((pos : Nat) : Int).toNat (vat ys (2 * pos + 1 + 1))) hJ (fun x hx => hM x (swA_mem (i := 2 * pos + 1 + 1) (j := pos) h2 hp hx)) (by rw [Array.size_setIfInBounds, Array.size_setIfInBounds]; exact hz)
          wp_walk
          refine ⟨plainId_quiet plain_sift _, codeAny_builtin entry_sift ?_⟩
          rw [Around.under_plainId plain_sift _]
          refine toSw (2 * pos + 1 + 1) (by unfold par; omega) (by omega) h2 (fun d d0 dn dp dc => by
                have e3 : d = 2 * pos + 1 := by (unfold par at dp; omega)
                rw [e3]
                exact hl) _ hJ2
      · refine wpAny_ite_false (by show decide (2 * ((pos : Nat) : Int).toNat + 1 + 1 < ys.size) = false; exact decide_eq_false h2) ?_
        wp_walk using wpAny_loadPart' e
        rw [g1]
        wp_walk using wpAny_loadPart' e
        rw [g0]
        wp_walk using wpAny_loadPart' e
        rw [swA_line hz]
        have hJ2 := L.wr _ _ (fun xs => (xs.setIfInBounds (2 * ((pos : Nat) : Int).toNat + 1) (vat ys pos)).setIfInBounds ((pos : Nat) : Int).toNat (vat ys (2 * pos + 1))) hJ (fun x hx => hM x (swA_mem (i := 2 * pos + 1) (j := pos) hl1 hp hx)) (by rw [Array.size_setIfInBounds, Array.size_setIfInBounds]; exact hz)
        wp_walk
        refine ⟨plainId_quiet plain_sift _, codeAny_builtin entry_sift ?_⟩
        rw [Around.under_plainId plain_sift _]
        refine toSw (2 * pos + 1) (by unfold par; omega) (by omega) hl1 (fun d d0 dn dp dc => by unfold par at dp; omega) _ hJ2
    · refine wpAny_ite_false (by show decide (((pos : Nat) : Int).toNat < ys.size / 2) = false; exact decide_eq_false h0) ?_
      wp_walk using wpAny_loadPart' e
      refine ⟨plainId_quiet plain_sift _, codeAny_builtin entry_sift ?_⟩
      rw [Around.under_plainId plain_sift _]
      exact up_ok L O res pos ys s hJ hp (hB.leaf (by omega)) fin
end
end HQ
namespace HQ
open PySem PySem.W PySem.Calls PySem.SeqAt
open AutoSeq1 (wpAny_loadPart')
open MeetsSeq MeetsSeq2 MeetsSeq3 SeqRoads2
section
variable {prog : Program} {w : World} {A : Around} {a : Addr} {lt : Value → Value → Bool} {J : Array Value → Shared → Prop} {M : Value → Prop} {R : Result → Shared → Prop}
theorem vat_push {ys : Array Value} {v : Value} {i : Nat} (h : i < ys.size) : vat (ys.push v) i = vat ys i := by
  unfold vat
  simp [Array.getElem?_push, Nat.ne_of_lt h]
theorem seq_line {zs : Array Value} {n : Nat} (hz : zs.size ≤ sizeLine) : ({ cls := .type "list", data := .seq zs n } : Obj).data.pastItsLine = none := pastItsLine_seq (by omega)
theorem push_ok (L : Lists A.in1 a lt M J) (O : Ord M lt) {v : Value} {ys : Array Value} {s : Shared} (hJ : J ys s) (hv : M v) (hz : ys.size < sizeLine) (hh : IsHp lt (vat ys) ys.size)
    (fin : ∀ zs s', J zs s' → zs.toList.Perm (v :: ys.toList) → IsHp lt (vat zs) zs.size → R (.ok (.ret .none)) s') : After prog w A R (Builtin.«_heapq.heappush» ⟨[.ref a, v], []⟩) s := by
  obtain ⟨n, e⟩ := L.at_ _ _ hJ
  delta After
  have f3 := AutoSeq1.sub_list_list
  have hz1 : ys.size ≤ sizeLine := by omega
  have hJ2 := L.wr _ _ (fun xs => xs.push v) hJ (fun x hx => (Array.mem_push.mp hx).elim (fun q => L.mem _ _ _ hJ q) fun q => q ▸ hv) (by rw [Array.size_push]; omega)
  obtain ⟨n2, e2⟩ := L.at_ _ _ hJ2
  have hz2 := L.size _ _ hJ2
  wp_walk using wpAny_loadPart' e, wpAny_loadPart' e2
  rw [seq_line hz2]
  wp_walk using wpAny_loadPart' e2
  refine ⟨plainId_quiet plain_sift _, codeAny_builtin entry_sift ?_⟩
  rw [Around.under_plainId plain_sift _]
  have es : (ys.push v).size - 1 = ys.size := by rw [Array.size_push]; rfl
  rw [es]
  refine up_ok L O .none ys.size (ys.push v) _ hJ2 (by rw [Array.size_push]; omega) ?_ fun zs s' j p h => fin zs s' j (p.trans ?_) h
  · rw [Array.size_push]
    exact hh.push fun i hi => vat_push hi
  · rw [Array.toList_push]
    exact List.perm_append_singleton _ _
theorem vat_pop {ys : Array Value} {i : Nat} (h : i < ys.size - 1) : vat ys.pop i = vat ys i := by
  unfold vat
  have h2 : i < ys.size := by omega
  simp [Array.getElem?_pop, h, h2]
theorem pop_shape {ys : Array Value} (h : 2 ≤ ys.size) : ∃ x r y, ys = (x :: (r ++ [y])).toArray := by
  obtain ⟨l⟩ := ys
  match l, h with
  | x :: z :: r, _ => exact ⟨x, (z :: r).dropLast, (z :: r).getLast (by simp), by rw [List.dropLast_concat_getLast]⟩
theorem pop_swap {ys : Array Value} (h : 2 ≤ ys.size) : (vat ys 0 :: (ys.pop.setIfInBounds 0 (vat ys (ys.size - 1))).toList).Perm ys.toList := by
  obtain ⟨x, r, y, rfl⟩ := pop_shape h
  have e1 : vat (x :: (r ++ [y])).toArray 0 = x := rfl
  have e2 : vat (x :: (r ++ [y])).toArray ((x :: (r ++ [y])).toArray.size - 1) = y := by
    unfold vat
    simp
  rw [e1, e2]
  have e3 : ((x :: (r ++ [y])).toArray.pop.setIfInBounds 0 y).toList = y :: r := by
    rw [Array.toList_setIfInBounds, Array.toList_pop]
    show (x :: (r ++ [y])).dropLast.set 0 y = y :: r
    rw [← List.cons_append, List.dropLast_concat]
    rfl
  rw [e3]
  refine List.Perm.cons _ ?_
  exact (List.perm_append_singleton y r).symm
theorem pop_ok (L : Lists A.in1 a lt M J) (O : Ord M lt) {ys : Array Value} {s : Shared} (hJ : J ys s) (hz : 0 < ys.size) (hh : IsHp lt (vat ys) ys.size)
    (fin : ∀ v zs s', M v → J zs s' → (v :: zs.toList).Perm ys.toList → IsHp lt (vat zs) zs.size → (∀ x ∈ zs, lt x v = false) → R (.ok (.ret v)) s') : After prog w A R (Builtin.«_heapq.heappop» ⟨[.ref a], []⟩) s := by
  obtain ⟨n, e⟩ := L.at_ _ _ hJ
  delta After
  have f3 := AutoSeq1.sub_list_list
  have hz1 := L.size _ _ hJ
  have hM := fun x hx => L.mem ys s x hJ hx
  have pm : ∀ x ∈ ys.pop, x ∈ ys := fun x hx => by
    have := Array.mem_toList_iff.mpr hx
    rw [Array.toList_pop] at this
    exact Array.mem_toList_iff.mp (List.dropLast_subset _ this)
  have hJ2 := L.wr _ _ (fun xs => xs.pop) hJ (fun x hx => hM x (pm x hx)) (by rw [Array.size_pop]; omega)
  obtain ⟨n2, e2⟩ := L.at_ _ _ hJ2
  have hz2 := L.size _ _ hJ2
  have eb : ys.back? = some (vat ys (ys.size - 1)) := by
    rw [Array.back?_eq_getElem?]
    exact vat_get (by omega)
  wp_walk using wpAny_loadPart' e, wpAny_loadPart' e2
  rw [eb]
  wp_walk using wpAny_loadPart' e, wpAny_loadPart' e2
  rw [seq_line hz2]
  wp_walk using wpAny_loadPart' e2
  by_cases h1 : ys.size = 1
  · refine wpAny_ite_true (decide_eq_true (by rw [h1]; rfl)) ?_
    wp_walk
    have ep : ys.pop.size = 0 := by rw [Array.size_pop, h1]
    have ep2 : ys.pop = #[] := Array.eq_empty_of_size_eq_zero ep
    refine fin (vat ys (ys.size - 1)) ys.pop _ (hM _ (vat_mem (by omega))) hJ2 ?_ (fun i h0 hi => by rw [ep] at hi; omega) (fun x hx => by rw [ep2] at hx; exact absurd hx (Array.not_mem_empty x))
    obtain ⟨l⟩ := ys
    match l, h1 with
    | [x], _ => exact List.Perm.refl _
  · refine wpAny_ite_false (decide_eq_false (by rw [beq_eq_false_iff_ne.mpr h1]; exact Bool.false_ne_true)) ?_
    have g0 : ys[0]? = some (vat ys 0) := vat_get hz
    have h2 : 2 ≤ ys.size := by omega
    have hsub : ∀ x ∈ ys.pop.setIfInBounds 0 (vat ys (ys.size - 1)), x ∈ ys := fun x hx => Array.mem_toList_iff.mp ((pop_swap h2).mem_iff.mp (List.mem_cons_of_mem _ (Array.mem_toList_iff.mpr hx)))
    have hJ3 := L.wr _ _ (fun xs => xs.setIfInBounds 0 (vat ys (ys.size - 1))) hJ2 (fun x hx => hM x (hsub x hx)) (by rw [Array.size_setIfInBounds]; exact hz2)
    obtain ⟨n3, e3⟩ := L.at_ _ _ hJ3
    have hz3 := L.size _ _ hJ3
    wp_walk using wpAny_loadPart' e2
    rw [g0]
    wp_walk using wpAny_loadPart' e2, wpAny_loadPart' e3
    rw [seq_line hz3]
    wp_walk using wpAny_loadPart' e3
    refine ⟨plainId_quiet plain_sift _, codeAny_builtin entry_sift ?_⟩
    rw [Around.under_plainId plain_sift _]
    have es : (ys.pop.setIfInBounds 0 (vat ys (ys.size - 1))).size = ys.size - 1 := by rw [Array.size_setIfInBounds, Array.size_pop]
    refine down_ok L O (vat ys 0) _ 0 _ _ rfl hJ3 (by rw [es]; omega) ?_ fun zs s' j p h => ?_
    · rw [es]
      refine hh.pop (m := ys.size - 1) (by omega) fun i h0 hi => ?_
      rw [← vat_pop hi]
      unfold vat
      simp only [Array.getD_eq_getD_getElem?, Array.getElem?_setIfInBounds]
      rw [if_neg (by omega)]
    · have pz : (vat ys 0 :: zs.toList).Perm ys.toList := (p.cons _).trans (pop_swap h2)
      refine fin (vat ys 0) zs s' (hM _ (vat_mem hz)) j pz h fun x hx => ?_
      have hx2 : x ∈ ys := Array.mem_toList_iff.mp (pz.mem_iff.mp (List.mem_cons_of_mem _ (Array.mem_toList_iff.mpr hx)))
      obtain ⟨i, hi, ei⟩ := Array.mem_iff_getElem.mp hx2
      have ev : vat ys i = x := by
        unfold vat
        simp [hi, ei]
      rw [← ev]
      by_cases h0 : i = 0
      · subst h0
        cases z : lt (vat ys 0) (vat ys 0) with
        | false => rfl
        | true => exact z.symm.trans (O.asym _ _ (hM _ (vat_mem hz)) (hM _ (vat_mem hz)) z)
      · exact hh.min O (fun i hi => hM _ (vat_mem hi)) i (by omega) hi
end
end HQ
/-! ### heappush, heappop over the layer -/
namespace HQ
open PySem PySem.Spec PyProof.Rows L2
def kLt (a b : PyData) : Bool := PySem.W.dataLt a b
theorem ord_keys (κ : Addr → PyData) (M : Value → Prop) (hM : ∀ x, M x → ∃ t, x = .ref t) : Ord M (fun x y => match x, y with | .ref t, .ref u => PySem.W.dataLt (κ t) (κ u) | _, _ => false) := by
  refine ⟨fun x y hx hy h => ?_, fun x y z hx hy hz h1 h2 => ?_, fun x y z hx hy hz h1 h2 => ?_⟩
  · obtain ⟨t, rfl⟩ := hM x hx
    obtain ⟨u, rfl⟩ := hM y hy
    have h' : PySem.W.dataLt (κ t) (κ u) = true := h
    show PySem.W.dataLt (κ u) (κ t) = false
    cases q : PySem.W.dataLt (κ u) (κ t) with
    | false => rfl
    | true =>
      have := PyProof.Rows.lex_trans _ _ _ h' q
      rw [PyProof.Rows.lex_irrefl] at this
      cases this
  · obtain ⟨t, rfl⟩ := hM x hx
    obtain ⟨u, rfl⟩ := hM y hy
    obtain ⟨v, rfl⟩ := hM z hz
    exact PyProof.Rows.lex_trans _ _ _ h1 h2
  · obtain ⟨t, rfl⟩ := hM x hx
    obtain ⟨u, rfl⟩ := hM y hy
    obtain ⟨v, rfl⟩ := hM z hz
    show PySem.W.dataLt (κ t) (κ v) = false
    cases q : PySem.W.dataLt (κ t) (κ v) with
    | false => rfl
    | true =>
      have h1' : PySem.W.dataLt (κ t) (κ u) = false := h1
      have h2' : PySem.W.dataLt (κ u) (κ v) = false := h2
      rcases PyProof.Rows.lex_negTrans _ (PySem.W.keyToks (κ u)) _ q with z | z
      · rw [show PySem.W.dataLt (κ t) (κ u) = true from z] at h1'
        cases h1'
      · rw [show PySem.W.dataLt (κ u) (κ v) = true from z] at h2'
        cases h2'
/-- a queue: each item is not less than the one above it -/
def Queue (κ : Addr → PyData) (ts : List Addr) : Prop := IsHp (fun t u => PySem.W.dataLt (κ t) (κ u)) (fun i => ts.getD i 0) ts.length
/-- the items read as data that can be compared, whatever the list at l holds -/
def Keyed (K : PySem.W.Frag) (H : Hp) (l : Addr) (κ : Addr → PyData) (ts : List Addr) : Prop :=
  (∀ t ∈ ts, (∀ o, Dp K (upd H l o) (.ref t) (κ t)) ∧ κ t ≠ .none ∧ (κ t).depth ≤ 8) ∧ ∀ t ∈ ts, ∀ u ∈ ts, PySem.W.alike (κ t) (κ u) = true
theorem Keyed.sub {K : PySem.W.Frag} {H : Hp} {l : Addr} {κ : Addr → PyData} {ts us : List Addr} (h : Keyed K H l κ ts) (s : ∀ u ∈ us, u ∈ ts) : Keyed K H l κ us :=
  ⟨fun t ht => h.1 t (s t ht), fun t ht u hu => h.2 t (s t ht) u (s u hu)⟩
section
variable {X : Cx} {pins : List (Addr × Obj)} {σ : L2.St} {H : Hp} {l : Addr} {κ : Addr → PyData} {ps : List Addr}
def vlt (κ : Addr → PyData) : Value → Value → Bool := fun x y => match x, y with | .ref t, .ref u => PySem.W.dataLt (κ t) (κ u) | _, _ => false
def JJ (X : Cx) (pins : List (Addr × Obj)) (σ : L2.St) (H : Hp) (l : Addr) (ps : List Addr) (ys : Array Value) (s : Shared) : Prop :=
  ∃ us : List Addr, ys.toList = us.map Value.ref ∧ (∀ u ∈ us, u ∈ ps) ∧ Inv X pins σ (upd H l (.lst (us.map V.ref))) s
theorem refs_of : ∀ {us : List Addr} {its : List Value}, Vals (us.map V.ref) its → its = us.map Value.ref
  | [], _, h => by cases h; rfl
  | u :: us, _, h => by
    cases h with
    | cons r t =>
      have r' : _ = Value.ref u := r
      rw [r', refs_of t]
      rfl
theorem refs_vals : ∀ us : List Addr, Vals (us.map V.ref) (us.map Value.ref)
  | [] => .nil
  | u :: us => .cons rfl (refs_vals us)
theorem jj_at {ys : Array Value} {s : Shared} (h : JJ X pins σ H l ps ys s) : ys.size ≤ sizeLine ∧ ∃ n, s.heap.get? l = some { cls := .type "list", data := .seq ys n } := by
  obtain ⟨us, e, _, I⟩ := h
  obtain ⟨z, its, n, r, hl, g⟩ := I.lstM upd_same
  have ei := refs_of r
  have ey : its.toArray = ys := by rw [ei, ← e]
  rw [ey] at g
  refine ⟨?_, n, g⟩
  rw [← ey, List.size_toArray, ← hl]
  exact z
theorem refs_all : ∀ {l : List Value} {ps : List Addr}, (∀ x ∈ l, ∃ t, t ∈ ps ∧ x = .ref t) → ∃ us : List Addr, l = us.map Value.ref ∧ ∀ u ∈ us, u ∈ ps
  | [], _, _ => ⟨[], rfl, fun _ h => nomatch h⟩
  | x :: l, ps, h => by
    obtain ⟨t, ht, e⟩ := h x List.mem_cons_self
    obtain ⟨us, e2, h2⟩ := refs_all fun y hy => h y (List.mem_cons_of_mem _ hy)
    exact ⟨t :: us, by rw [e, e2]; rfl, fun u hu => (List.mem_cons.mp hu).elim (fun z => z ▸ ht) (h2 u)⟩
theorem lists_jj (hu : X.A.units + 64 < cLine) (hk : Keyed X.K H l κ ps) : Lists X.A.in1 l (vlt κ) (fun x => ∃ t, t ∈ ps ∧ x = .ref t) (JJ X pins σ H l ps) := by
  refine ⟨fun ys s h => (jj_at h).2, fun ys s h => (jj_at h).1, fun ys s x h hx => ?_, fun ys s f h hm hz => ?_, fun ys s x y h hx hy => ?_⟩
  · obtain ⟨us, e, hs, _⟩ := h
    have := Array.mem_toList_iff.mpr hx
    rw [e] at this
    obtain ⟨t, ht, e2⟩ := List.mem_map.mp this
    exact ⟨t, hs t ht, e2.symm⟩
  · obtain ⟨n, e⟩ := (jj_at h).2
    obtain ⟨us, e1, hs, I⟩ := h
    obtain ⟨vs, e2, hs2⟩ := refs_all fun x hx => hm x (Array.mem_toList_iff.mp hx)
    refine ⟨vs, e2, hs2, ?_⟩
    have ey : ys = (us.map Value.ref).toArray := by rw [← e1]
    rw [ey] at e
    have ef : f (us.map Value.ref).toArray = (vs.map Value.ref).toArray := by rw [← e2, ← ey]
    have q := I.lset (ys := vs.map V.ref) (t' := s.toks) (f := f) upd_same e ef (refs_vals vs) (by
      rw [List.length_map]
      have : (f ys).size = vs.length := by rw [← Array.length_toList, e2, List.length_map]
      omega)
    rw [upd_upd] at q
    exact q
  · obtain ⟨t, ht, rfl⟩ := hx
    obtain ⟨u, hu2, rfl⟩ := hy
    obtain ⟨us, e1, hs, I⟩ := h
    obtain ⟨k1, k2⟩ := hk
    obtain ⟨d1, n1, p1⟩ := k1 t ht
    obtain ⟨d2, _, _⟩ := k1 u hu2
    obtain ⟨as, r1⟩ := Dp.reads I _ _ (.ref t) (d1 _) rfl
    obtain ⟨bs, r2⟩ := Dp.reads I _ _ (.ref u) (d2 _) rfl
    refine PySem.W.rcLt_alike _ _ X.A.in1 s _ _ as bs r1 r2 (k2 t ht u hu2) n1 ?_
    have : min (κ t).depth (κ u).depth ≤ (κ t).depth := Nat.min_le_left _ _
    rw [Around.in1_units]
    omega
theorem queue_vat {ys : Array Value} {us : List Addr} (e : ys.toList = us.map Value.ref) : IsHp (vlt κ) (vat ys) ys.size ↔ Queue κ us := by
  have hz : ys.size = us.length := by rw [← Array.length_toList, e, List.length_map]
  have hv : ∀ i, i < us.length → vat ys i = .ref (us.getD i 0) := fun i hi => by
    have h1 := vat_get (ys := ys) (i := i) (by omega)
    have h2 : ys[i]? = (us.map Value.ref)[i]? := by rw [← e, Array.getElem?_toList]
    rw [h2, List.getElem?_map, List.getElem?_eq_getElem hi] at h1
    have h3 := (Option.some.inj h1).symm
    rw [h3, List.getD_eq_getElem?_getD, List.getElem?_eq_getElem hi]
    rfl
  unfold Queue IsHp
  rw [hz]
  constructor
  · intro h i h0 hi
    have q := h i h0 hi
    rw [hv i hi, hv (par i) (Nat.lt_trans (par_lt h0) hi)] at q
    exact q
  · intro h i h0 hi
    rw [hv i hi, hv (par i) (Nat.lt_trans (par_lt h0) hi)]
    exact h i h0 hi
theorem jj_start {ts : List Addr} {s : Shared} (I : Inv X pins σ H s) (h : H l = some (.lst (ts.map V.ref))) (hs : ∀ t ∈ ts, t ∈ ps) : JJ X pins σ H l ps (ts.map Value.ref).toArray s := by
  refine ⟨ts, rfl, hs, ?_⟩
  have e : upd H l (.lst (ts.map V.ref)) = H := by
    funext b
    unfold upd
    by_cases hb : b = l
    · rw [if_pos hb, hb, h]
    · rw [if_neg hb]
  rw [e]
  exact I
theorem perm_refs {us : List Addr} {vs : List Value} (p : vs.Perm (us.map Value.ref)) {ws : List Addr} (e : vs = ws.map Value.ref) : ws.Perm us := by
  rw [e] at p
  have q := p.map (fun v => match v with | .ref t => t | _ => 0)
  rw [List.map_map, List.map_map] at q
  have i1 : ∀ l : List Addr, l.map ((fun v => match v with | .ref t => t | _ => 0) ∘ Value.ref) = l := fun l => by
    conv => rhs; rw [← List.map_id l]
    rfl
  rw [i1, i1] at q
  exact q
def rPush (K : PySem.W.Frag) : List V → Hp → VK → Prop := fun vs H Q => ∃ (l T : Addr) (ts : List Addr) (κ : Addr → PyData), vs = [.ref l, .ref T] ∧ H l = some (.lst (ts.map V.ref)) ∧ ts.length < sizeLine ∧ Keyed K H l κ (T :: ts) ∧ Queue κ ts ∧
  ∀ us, us.Perm (T :: ts) → Queue κ us → Q .non (upd H l (.lst (us.map V.ref)))
def rPop (K : PySem.W.Frag) : List V → Hp → VK → Prop := fun vs H Q => ∃ (l : Addr) (ts : List Addr) (κ : Addr → PyData), vs = [.ref l] ∧ H l = some (.lst (ts.map V.ref)) ∧ 0 < ts.length ∧ Keyed K H l κ ts ∧ Queue κ ts ∧
  ∀ t us, (t :: us).Perm ts → Queue κ us → (∀ u ∈ us, PySem.W.dataLt (κ u) (κ t) = false) → Q (.ref t) (upd H l (.lst (us.map V.ref)))
def specPush (l : Addr) (v : Value) : _root_.PySem.Spec := fun A R s => ∃ lt M J ys, Lists A.in1 l lt M J ∧ Ord M lt ∧ J ys s ∧ M v ∧ ys.size < sizeLine ∧ IsHp lt (vat ys) ys.size ∧
  ∀ zs s', J zs s' → zs.toList.Perm (v :: ys.toList) → IsHp lt (vat zs) zs.size → R (.ok (.ret .none)) s'
def specPop (l : Addr) : _root_.PySem.Spec := fun A R s => ∃ lt M J ys, Lists A.in1 l lt M J ∧ Ord M lt ∧ J ys s ∧ 0 < ys.size ∧ IsHp lt (vat ys) ys.size ∧
  ∀ v zs s', M v → J zs s' → (v :: zs.toList).Perm ys.toList → IsHp lt (vat zs) zs.size → (∀ x ∈ zs, lt x v = false) → R (.ok (.ret v)) s'
theorem meets_push (l : Addr) (v : Value) : Meets (Builtin.«_heapq.heappush» ⟨[.ref l, v], []⟩) (specPush l v) := fun prog w A R s h => by
  obtain ⟨lt, M, J, ys, L, O, hJ, hv, hz, hh, fin⟩ := h
  exact push_ok L O hJ hv hz hh fin
theorem meets_pop (l : Addr) : Meets (Builtin.«_heapq.heappop» ⟨[.ref l], []⟩) (specPop l) := fun prog w A R s h => by
  obtain ⟨lt, M, J, ys, L, O, hJ, hz, hh, fin⟩ := h
  exact pop_ok L O hJ hz hh fin
theorem cr_push (hu : X.A.units + 64 < cLine) : CallR X (.builtin "_heapq.heappush") (rPush X.K) := by
  intro pins s σ H vs us Q I r h
  obtain ⟨l, T, ts, κ, rfl, hl, hz, hk, hq, q⟩ := h
  obtain ⟨u1, u2, rfl, r1, r2⟩ := r.two
  have e1 : u1 = .ref l := r1
  have e2 : u2 = .ref T := r2
  subst e1 e2
  have hJ : JJ X pins σ H l (T :: ts) (ts.map Value.ref).toArray s := jj_start I hl fun t ht => List.mem_cons_of_mem _ ht
  refine call_function_meets kind_push plain_push entry_push (args_push _ _) (meets_push l (.ref T)) ⟨vlt κ, fun x => ∃ t, t ∈ T :: ts ∧ x = .ref t, JJ X pins σ H l (T :: ts), (ts.map Value.ref).toArray, lists_jj hu hk, ord_keys κ _ fun x hx => ?_, hJ, ⟨T, List.mem_cons_self, rfl⟩, ?_, (queue_vat rfl).mpr hq, fun zs s' j p hh => ?_⟩
  · obtain ⟨t, _, e⟩ := hx
    exact ⟨t, e⟩
  · rw [List.size_toArray, List.length_map]
    exact hz
  · obtain ⟨ws, e, hs, I'⟩ := j
    have p2 : zs.toList.Perm ((T :: ts).map Value.ref) := p
    exact ⟨.non, _, I', rfl, q ws (perm_refs p2 e) ((queue_vat e).mp hh)⟩
theorem cr_pop (hu : X.A.units + 64 < cLine) : CallR X (.builtin "_heapq.heappop") (rPop X.K) := by
  intro pins s σ H vs us Q I r h
  obtain ⟨l, ts, κ, rfl, hl, hz, hk, hq, q⟩ := h
  obtain ⟨u1, rfl, r1⟩ := r.one
  have e1 : u1 = .ref l := r1
  subst e1
  have hJ : JJ X pins σ H l ts (ts.map Value.ref).toArray s := jj_start I hl fun t ht => ht
  refine call_function_meets kind_pop plain_pop entry_pop (args_pop _) (meets_pop l) ⟨vlt κ, fun x => ∃ t, t ∈ ts ∧ x = .ref t, JJ X pins σ H l ts, (ts.map Value.ref).toArray, lists_jj hu hk, ord_keys κ _ fun x hx => ?_, hJ, ?_, (queue_vat rfl).mpr hq, fun v zs s' hv j p hh hm => ?_⟩
  · obtain ⟨t, _, e⟩ := hx
    exact ⟨t, e⟩
  · rw [List.size_toArray, List.length_map]
    exact hz
  · obtain ⟨t, ht, rfl⟩ := hv
    obtain ⟨ws, e, hs, I'⟩ := j
    have p2 : (Value.ref t :: zs.toList).Perm (ts.map Value.ref) := p
    have p3 := perm_refs p2 (ws := t :: ws) (by rw [e]; rfl)
    refine ⟨.ref t, _, I', rfl, q t ws p3 ((queue_vat e).mp hh) fun u hu2 => ?_⟩
    exact hm (.ref u) (Array.mem_toList_iff.mp (by rw [e]; exact List.mem_map.mpr ⟨u, hu2, rfl⟩))
end
end HQ
namespace Ow
open PySem PySem.Spec PyProof.Rows L2
open SX (S S_len S_cat S_inj S_tl join_S S_beq map_S_tl)
def top (i : Nat) : Stmt := PySem.Challenge.pw_onereading_k08_whole_no_text_parts_twice.main.body.getD i (.Pass ⟨0, 0, 0, 0⟩)
abbrev sIsWord : Stmt := top 10
abbrev sChecked : Stmt := top 11
abbrev s_left_of : Stmt := top 12
abbrev s_stepped : Stmt := top 14
abbrev s_double : Stmt := top 15
abbrev s_meetings : Stmt := top 16
abbrev s__first_meetings : Stmt := top 17
abbrev s__further_meetings : Stmt := top 18
abbrev sAt : Stmt := top 20
abbrev sMixed : Stmt := top 21
abbrev sSigns : Stmt := top 22
abbrev sWord : Stmt := top 23
abbrev sAny : Stmt := top 24
abbrev sMore : Stmt := top 25
abbrev sChain : Stmt := top 26
abbrev sWords : Stmt := top 27
abbrev sRow : Stmt := top 28
abbrev sLawCounts : Stmt := top 29
abbrev s__law_step : Stmt := top 30
abbrev s__law_led : Stmt := top 31
abbrev sLaw : Stmt := top 32



/-! ### words that stand at one place, the shorter ones first -/
theorem ltc_cons {a b : Nat} {r t : List Nat} : PySem.Spec.ltCps (a :: r) (b :: t) = false ↔ b ≤ a ∧ (a = b → PySem.Spec.ltCps r t = false) := by
  simp only [PySem.Spec.ltCps, Bool.or_eq_false_iff, decide_eq_false_iff_not, Bool.and_eq_false_iff, beq_eq_false_iff_ne]
  constructor
  · rintro ⟨h1, h2⟩
    refine ⟨by omega, fun e => ?_⟩
    rcases h2 with h | h
    · exact absurd e h
    · exact h
  · rintro ⟨h1, h2⟩
    refine ⟨by omega, ?_⟩
    by_cases e : a = b
    · exact .inr (h2 e)
    · exact .inl e
theorem ltc_tr : ∀ {a b c : List Nat}, PySem.Spec.ltCps b a = false → PySem.Spec.ltCps c b = false → PySem.Spec.ltCps c a = false
  | [], _, [], _, _ => rfl
  | [], _, _ :: _, _, _ => rfl
  | _ :: _, [], _, h, _ => by cases h
  | _ :: _, _ :: _, [], _, h => by cases h
  | x :: a, y :: b, z :: c, h, k => by
    have h1 := ltc_cons.mp h
    have h2 := ltc_cons.mp k
    refine ltc_cons.mpr ⟨by omega, fun e => ?_⟩
    exact ltc_tr (h1.2 (by omega)) (h2.2 (by omega))
theorem rising_all : ∀ {l : List (List Nat)} {p : List Nat}, risingS (S p) (l.map S) = true → ∀ x ∈ l, PySem.Spec.ltCps x p = false
  | [], _, _, _, hx => nomatch hx
  | y :: l, p, h, x, hx => by
    have h' : (!PySem.Spec.ltCps y p && risingS (S y) (l.map S)) = true := h
    rw [Bool.and_eq_true, Bool.not_eq_true'] at h'
    rcases List.mem_cons.mp hx with e | m
    · rw [e]
      exact h'.1
    · exact ltc_tr h'.1 (rising_all h'.2 x m)
theorem rising_tail {l : List (List Nat)} {p : List Nat} (h : risingS (S p) (l.map S) = true) : sortedS (l.map S) = true := by
  cases l with
  | nil => rfl
  | cons y l =>
    have h' : (!PySem.Spec.ltCps y p && risingS (S y) (l.map S)) = true := h
    rw [Bool.and_eq_true] at h'
    exact h'.2
theorem sorted_pw : ∀ {l : List (List Nat)}, sortedS (l.map S) = true → l.Pairwise fun a b => PySem.Spec.ltCps b a = false
  | [], _ => .nil
  | x :: l, h => List.pairwise_cons.mpr ⟨rising_all h, sorted_pw (rising_tail h)⟩
theorem ltc_pre : ∀ {a : List Nat} {n : Nat}, n < a.length → PySem.Spec.ltCps (a.take n) a = true
  | [], _, h => absurd h (Nat.not_lt_zero _)
  | _ :: _, 0, _ => rfl
  | x :: a, n + 1, h => by
    have ih := ltc_pre (a := a) (n := n) (Nat.lt_of_succ_lt_succ h)
    show (decide (x < x) || (x == x && PySem.Spec.ltCps (a.take n) a)) = true
    rw [ih]
    simp
abbrev FnP (K : PySem.W.Frag) (x : Str) (st : Stmt) (f : Addr) (fd : FuncData) : Prop := FunD K x x (defArgs st) (defBody st) (defScope st) [] [] f fd
theorem _root_.L2.FunD.okN {P : Program} {w : World} {K : PySem.W.Frag} {mg : Str → Option Value} {base : Heap} {x qual : Str} {params : Arguments} {body : List Stmt} {scope : Scope} {dvs : List V} {kws : List (Str × V)} {f : Addr} {fd : FuncData}
    {CX : CXT} {N ps : List Str} {k : Nat} {sp : Sp} (F : FunD K x qual params body scope dvs kws f fd) (S : FnScope N ps scope) (len : ∀ vs H Q E, sp vs H Q E → vs.length = ps.length)
    (hbody : ∀ (cdv : Value) (A : Around) (outer : List Env) (s : Shared) (H : Hp) (vs : List V) (Q : VK) (E : XK), Room k (A.deeper (envOfC qual scope s.heap.objs.size f cdv)) → sp vs H Q E →
      ∃ t, PSs (cxOf CX P w K mg base N qual scope f cdv A outer s H E).nox body t ∧ t { nx := fun _ H' => Q .non H', rt := Q } (start N vs) H) : FnOk P w K mg base CX (k + 1) f fd ps sp :=
  F.ok S len fun cdv A outer s H vs Q E hr h =>
    let ⟨t, q, r⟩ := hbody cdv A outer s H vs Q E hr h
    ⟨t, q.nox, r⟩
theorem same_upd {H : Hp} {p : Addr} {o : HO} (h : H p = none) : Same H (upd H p o) := fun b x e => by
  rw [upd_ne (ne_of_none e h)]
  exact e
/-- a def of the text whose function object, name and binding are known -/
structure Has (K : PySem.W.Frag) (mg : Str → Option Value) (x : Str) (st : Stmt) (ps : List Str) (f : Addr) (fd : FuncData) : Prop where
  F : FnP K x st f fd
  g : mg x = some (.ref f)
  b : Binds K fd ps []
/-- a def of the text stands behind the top -/
def There (K : PySem.W.Frag) (mg : Str → Option Value) (x : Str) (st : Stmt) (ps : List Str) : Prop := ∃ f fd, Has K mg x st ps f fd
section
variable {P : Program} {w : World} {K : PySem.W.Frag} {mg : Str → Option Value} {base : Heap} {f : Addr} {fd : FuncData}
theorem scAt : FnScope ["_law_script", "_law_k"] ["_law_script", "_law_k"] (defScope sAt) := ⟨rfl, rfl, rfl, by decide +kernel, rfl, by decide +kernel, by decide +kernel⟩
def spAt (K : PySem.W.Frag) : Sp := fun vs H Q _ => ∃ (a : Addr) (ns : List Int) (k : Int), vs = [.ref a, .int k] ∧ SqL K H a (ns.map V.int) ∧ 0 ≤ k ∧ ∀ v : Int, Q (.int v) H
theorem ok_at (F : FnP K "_law_at" sAt f fd) (mL : mg "len" = none) : FnOk P w K mg base CX0 1 f fd ["_law_script", "_law_k"] (spAt K) := by
  refine F.okN scAt (fun vs H Q E h => ?_) (fun cdv A outer s H vs Q E hr h => ?_)
  · obtain ⟨a, ns, k, rfl, _⟩ := h
    rfl
  · obtain ⟨a, ns, k, rfl, hS, hk, q⟩ := h
    refine ⟨_, pss_cons (ps_if (pt_cmpR op_lt (pv 1) (pe_callB call_len_seq (by rfl) mL boot_len (pa_cons (pv 0) pa_nil)) (nomark _))
        (pss_one (ps_ret (pe_ix ix_list (pv 0) (pv 1) (fun _ _ => rfl)))) pss_nil) (pss_one (ps_ret pe_int)), ?_⟩
    refine ⟨_, rfl, _, rfl, a, ns.map V.int, rfl, .inl hS, k, _, rfl, rfl, _, rfl, ite2 (fun c => ?_) (fun c => ?_)⟩
    · have c1 : k < ((ns.map V.int).length : Int) := of_decide_eq_true c
      rw [List.length_map] at c1
      have hi : k.toNat < ns.length := by omega
      refine ⟨_, rfl, _, rfl, a, ns.map V.int, k, .int ns[k.toNat], rfl, rfl, hS, at_of (j := k.toNat) (by omega) ?_, q _⟩
      rw [List.getElem?_map, List.getElem?_eq_getElem hi]
      rfl
    · exact q 0
theorem scMixed : FnScope ["_law_cell", "_law_k", "_law_number"] ["_law_cell", "_law_k"] (defScope sMixed) := ⟨rfl, rfl, rfl, by decide +kernel, rfl, by decide +kernel, by decide +kernel⟩
def spMixed : Sp := fun vs H Q _ => ∃ (c k : Int), vs = [.int c, .int k] ∧ ∀ v : Int, 0 ≤ v → v < 2147483629 → Q (.int v) H
theorem ok_mixed (F : FnP K "_law_mixed" sMixed f fd) : FnOk P w K mg base CX0 1 f fd ["_law_cell", "_law_k"] spMixed := by
  refine F.okN scMixed (fun vs H Q E h => ?_) (fun cdv A outer s H vs Q E hr h => ?_)
  · obtain ⟨c, k, rfl, _⟩ := h
    rfl
  · obtain ⟨c, k, rfl, q⟩ := h
    refine ⟨_, pss_cons (ps_set (i := 2) scMixed.nd rfl (.inl rfl) (pe_op op_mod (pe_op op_mul (pe_op op_add (pe_op op_add (pv 0) (pe_op op_mul pe_int (pv 1))) pe_int) pe_int) pe_int))
      (pss_one (ps_ret (pe_op op_mod (pe_op op_mul (pv 2) (pv 2)) pe_int))), ?_⟩
    refine ⟨_, rfl, _, rfl, 7919, k, rfl, rfl, .inl ⟨by decide, by decide⟩, _, _, rfl, rfl, _, _, rfl, rfl, _, _, rfl, rfl, .inr ⟨by decide, by decide⟩, _, _, rfl, rfl, (by show (0 : Int) < 2147483647; decide), ?_⟩
    have h1 := Int.emod_nonneg ((c + 7919 * k + 3) * 48271) (show (2147483647 : Int) ≠ 0 by decide)
    have h2 := Int.emod_lt_of_pos ((c + 7919 * k + 3) * 48271) (show (0 : Int) < 2147483647 by decide)
    refine ⟨_, rfl, _, rfl, _, _, rfl, rfl, .inl ⟨by omega, by omega⟩, _, _, rfl, rfl, (by show (0 : Int) < 2147483629; decide), ?_⟩
    exact q _ (Int.emod_nonneg _ (by decide)) (Int.emod_lt_of_pos _ (by decide))
end
/-! ### texts by their codes -/
abbrev tx (l : List Nat) : V := V.str (S l)
def Let (l : List Nat) : Prop := ∀ c ∈ l, 97 ≤ c ∧ c ≤ 122
def WordOk (l : List Nat) : Prop := 1 ≤ l.length ∧ l.length ≤ 10 ∧ Let l
theorem Let.app {a b : List Nat} (x : Let a) (y : Let b) : Let (a ++ b) := fun c h => (List.mem_append.mp h).elim (x c) (y c)
theorem Let.sub {a b : List Nat} (x : Let a) (h : ∀ c ∈ b, c ∈ a) : Let b := fun c q => x c (h c q)
theorem Let.one {c : Nat} (h : 97 ≤ c ∧ c ≤ 122) : Let [c] := fun d q => by
  rw [List.mem_singleton.mp q]
  exact h
theorem tx_eq {a b : List Nat} : decide (V.str (S a) = V.str (S b)) = decide (a = b) := by
  rw [Bool.eq_iff_iff, decide_eq_true_eq, decide_eq_true_eq]
  exact ⟨fun h => S_inj (V.str.inj h), fun h => by rw [h]⟩
theorem joinE : ∀ ys : List (List Nat), TL.joinL [] ys = ys.flatten
  | [] => rfl
  | [x] => by
    show x = [x].flatten
    simp
  | x :: y :: r => by
    have ih := joinE (y :: r)
    have e : TL.joinL [] (x :: y :: r) = x ++ ([] ++ TL.joinL [] (y :: r)) := by simp [TL.joinL]
    rw [e, ih, List.nil_append, ← List.flatten_cons]
theorem join0 (ys : List (List Nat)) : Txt.join (Str.ofString "") (ys.map S) = S ys.flatten := by
  rw [show Str.ofString "" = S [] by decide +kernel, join_S, joinE]
theorem map_tx (ys : List (List Nat)) : ys.map tx = (ys.map S).map V.str := by rw [List.map_map]; rfl
theorem lenS (ys : List (List Nat)) : ((ys.map S).map (·.length)) = ys.map (·.length) := SX.lens ys
theorem empLen : (Str.ofString "").length = 0 := by decide +kernel
abbrev alpha : List Nat := [97,98,99,100,101,102,103,104,105,106,107,108,109,110,111,112,113,114,115,116,117,118,119,120,121,122]
theorem alphaS : Str.ofString "abcdefghijklmnopqrstuvwxyz" = S alpha := by decide +kernel
theorem alphaLet : Let alpha := by
  have h : alpha.all (fun c => decide (97 ≤ c) && decide (c ≤ 122)) = true := by decide
  intro c hc
  have q := List.all_eq_true.mp h c hc
  simp only [Bool.and_eq_true, decide_eq_true_eq] at q
  exact q
theorem at_ofI {α : Type} {xs : List α} {i : Int} {v : α} (h0 : 0 ≤ i) (h : xs[i.toNat]? = some v) : atI xs i = some v := by
  have e : ((i.toNat : Nat) : Int) = i := by omega
  have q := atI_nat h
  rw [e] at q
  exact q
/-- an item of a list at a place within it -/
theorem at_in {α : Type} (xs : List α) {i : Int} (h0 : 0 ≤ i) (h : i < (xs.length : Int)) : ∃ c ∈ xs, atI xs i = some c := by
  have hi : i.toNat < xs.length := by omega
  exact ⟨xs[i.toNat], List.getElem_mem hi, at_ofI h0 (List.getElem?_eq_getElem hi)⟩
theorem at_map {α : Type} (g : α → V) (xs : List α) {i : Int} (h0 : 0 ≤ i) (h : i < (xs.length : Int)) : ∃ c ∈ xs, atI (xs.map g) i = some (g c) := by
  obtain ⟨v, hv, e⟩ := at_in (xs.map g) h0 (by rw [List.length_map]; exact h)
  obtain ⟨c, hc, rfl⟩ := List.mem_map.mp hv
  exact ⟨c, hc, e⟩
theorem flat_len {ys : List (List Nat)} (h : ∀ y ∈ ys, y.length = 1) : ys.flatten.length = ys.length := by
  induction ys with
  | nil => rfl
  | cons y r ih =>
    rw [List.flatten_cons, List.length_append, h y List.mem_cons_self, ih fun z hz => h z (List.mem_cons_of_mem _ hz), List.length_cons]
    omega
theorem flat_let {ys : List (List Nat)} (h : ∀ y ∈ ys, Let y) : Let ys.flatten := fun c hc => by
  obtain ⟨y, hy, q⟩ := List.mem_flatten.mp hc
  exact h y hy c q
theorem sum_ones {ys : List (List Nat)} (h : ∀ y ∈ ys, y.length = 1) : ((ys.map S).map (·.length)).sum = ys.length := by
  rw [lenS, ← flat_len h, List.length_flatten]
section
variable {P : Program} {w : World} {K : PySem.W.Frag} {mg : Str → Option Value} {base : Heap} {f : Addr} {fd : FuncData}
theorem scSigns : FnScope ["_law_cell", "_law_some", "_law_many", "_law_k"] ["_law_cell"] (defScope sSigns) := ⟨rfl, rfl, rfl, by decide +kernel, rfl, by decide +kernel, by decide +kernel⟩
def spSigns : Sp := fun vs H Q _ => ∃ (c : Int), vs = [.int c] ∧ ∀ (l : List Nat) (H' : Hp), Same H H' → Let l → 1 ≤ l.length → l.length ≤ 5 → Q (tx l) H'
theorem ok_signs (F : FnP K "_law_signs" sSigns f fd) (mR : mg "range" = none) : FnOk P w K mg base CX0 1 f fd ["_law_cell"] spSigns := by
  refine F.okN scSigns (fun vs H Q E h => ?_) (fun cdv A outer s H vs Q E hr h => ?_)
  · obtain ⟨c, rfl, _⟩ := h
    rfl
  · obtain ⟨c, rfl, q⟩ := h
    refine ⟨_, pss_cons (ps_set (i := 1) scSigns.nd rfl (.inr rfl) pe_str)
      (pss_cons (ps_set (i := 2) scSigns.nd rfl (.inl rfl) (pe_ix ix_list (pe_lst (pa_cons pe_int (pa_cons pe_int (pa_cons pe_int (pa_cons pe_int (pa_cons pe_int (pa_cons pe_int pa_nil))))))) (pe_op op_mod (pv 0) pe_int) (fun _ _ => rfl)))
      (pss_one (ps_ret (pe_join pe_str (pe_lc (own := [("_law_k", 3)]) (g := gName 3) (tt := tYes) rfl scSigns.nd (pi_range1 (by rfl) mR (pa_cons (pv 2) pa_nil)) (blkOk_by (own := [("_law_k", 3)]) (N := ["_law_cell", "_law_some", "_law_many", "_law_k"]) (sc := defScope sSigns) (by decide +kernel))
        (fun _ _ _ _ _ => pg_name (i := 3) scSigns.nd rfl (Or.inl rfl)) (fun _ _ _ _ _ => pts_nil)
        (fun _ _ _ _ _ => pe_ix ix_str (pv 1) (pe_op op_mod (pe_op op_add (pe_op op_fdiv (pv 0) pe_int) (pe_op op_mul (pe_op op_add pe_int (pe_op op_mod (pe_op op_fdiv (pv 0) pe_int) pe_int)) (pv 3))) pe_int) (fun _ _ => rfl))))))), ?_⟩
    -- _law_many = [2, 1, 2, 3, 2, 5][cell % 6]
    refine ⟨by show 6 ≤ sizeLine; decide, fun p hp => ⟨_, rfl, _, _, rfl, rfl, (by show (0 : Int) < 6; decide), ?_⟩⟩
    obtain ⟨m, hm, em⟩ := at_map V.int [2, 1, 2, 3, 2, 5] (i := c % 6) (Int.emod_nonneg _ (by decide)) (Int.emod_lt_of_pos _ (by decide))
    have hm1 : 1 ≤ m ∧ m ≤ 5 := by
      simp only [List.mem_cons, List.not_mem_nil, or_false] at hm
      omega
    refine ⟨p, _, _, _, rfl, rfl, .inl (.inl upd_same), em, ?_⟩
    -- ''.join([.. for _law_k in range(_law_many)])
    refine ⟨⟨_, rfl⟩, _, rfl, m, rfl, by omega, by omega, fun D hD => ?_⟩
    have s1 : Same H (upd H p (.lst ([2, 1, 2, 3, 2, 5].map V.int))) := same_upd hp
    refine lc_range (lo := 0) (n := m.toNat) (fun i H1 => Same H H1 ∧ ∃ ys : List (List Nat), H1 D = some (.lst (ys.map tx)) ∧ ys.length = i ∧ ∀ y ∈ ys, y.length = 1 ∧ Let y) ?_ ?_ ?_
    · exact ⟨s1.trans (same_upd hD), [], upd_same, rfl, fun y hy => nomatch hy⟩
    · rintro i H1 hi ⟨sm, ys, eD, el, hy⟩
      refine ⟨rfl, ?_⟩
      obtain ⟨d, hd, ed⟩ := at_in alpha (i := (c / 6 + (1 + c / 156 % 25) * (0 + (i : Int))) % 26) (Int.emod_nonneg _ (by decide)) (Int.emod_lt_of_pos _ (by decide))
      have b1 := Int.emod_nonneg (c / 156) (show (25 : Int) ≠ 0 by decide)
      have b2 := Int.emod_lt_of_pos (c / 156) (show (0 : Int) < 25 by decide)
      refine ⟨_, rfl, _, rfl, _, _, rfl, rfl, ⟨by decide, by decide⟩, _, rfl, _, _, rfl, rfl, ⟨by decide, by decide⟩, _, _, rfl, rfl, (by show (0 : Int) < 25; decide), _, _, rfl, rfl, _, rfl, _, _, rfl, rfl, .inl ⟨by omega, by omega⟩, _, _, rfl, rfl, _, _, rfl, rfl, (by show (0 : Int) < 26; decide), ?_⟩
      refine ⟨_, _, d, rfl, rfl, by decide +kernel, by rw [alphaS]; exact ed, ?_⟩
      refine ⟨ys.map tx, eD, ?_, ?_⟩
      · rw [List.length_map, el]
        exact small1000 (by omega)
      · refine ⟨fun b o e => ?_, ys ++ [[d]], ?_, by rw [List.length_append, el]; rfl, fun y hy' => ?_⟩
        · have nb : b ≠ D := ne_of_none (s1 _ _ e) hD
          rw [upd_ne nb]
          exact sm _ _ e
        · rw [upd_same, List.map_append]
          rfl
        · rcases List.mem_append.mp hy' with z | z
          · exact hy y z
          · rw [List.mem_singleton.mp z]
            exact ⟨rfl, Let.one (alphaLet d hd)⟩
    · rintro H1 ⟨sm, ys, eD, el, hy⟩
      have h1 : ∀ y ∈ ys, y.length = 1 := fun y h => (hy y h).1
      refine ⟨_, D, ys.map S, rfl, rfl, .inl (.inl (.inl (by rw [← map_tx]; exact eD))), ?_, ?_⟩
      · rw [sum_ones h1, List.length_map, empLen]
        omega
      · rw [join0]
        exact q _ _ sm (flat_let fun y h => (hy y h).2) (by rw [flat_len h1]; omega) (by rw [flat_len h1]; omega)
end
section
variable {P : Program} {w : World} {K : PySem.W.Frag} {mg : Str → Option Value} {base : Heap} {f fM : Addr} {fd fdM : FuncData}
theorem scWord : FnScope ["_law_cell", "_law_signs_here", "_law_size", "_law_j"] ["_law_cell", "_law_signs_here"] (defScope sWord) := ⟨rfl, rfl, rfl, by decide +kernel, rfl, by decide +kernel, by decide +kernel⟩
def spWord : Sp := fun vs H Q _ => ∃ (c : Int) (l : List Nat), vs = [.int c, tx l] ∧ Let l ∧ 1 ≤ l.length ∧ l.length ≤ 1000 ∧ ∀ (y : List Nat) (H' : Hp), Same H H' → WordOk y → Q (tx y) H'
theorem ok_word (F : FnP K "_law_word" sWord f fd) (M : Has K mg "_law_mixed" sMixed ["_law_cell", "_law_k"] fM fdM) (mR : mg "range" = none) (mL : mg "len" = none) : FnOk P w K mg base CX0 2 f fd ["_law_cell", "_law_signs_here"] spWord := by
  have GM : FnOk P w K mg base CX0 1 fM fdM ["_law_cell", "_law_k"] spMixed := ok_mixed M.F
  refine F.okN scWord (fun vs H Q E h => ?_) (fun cdv A outer s H vs Q E hr h => ?_)
  · obtain ⟨c, l, rfl, _⟩ := h
    rfl
  · obtain ⟨c, l, rfl, hl, l1, l2, q⟩ := h
    refine ⟨_, pss_cons (ps_set (i := 2) scWord.nd rfl (.inl rfl) (pe_ix ix_list (pe_lst (pa_cons pe_int (pa_cons pe_int (pa_cons pe_int (pa_cons pe_int (pa_cons pe_int (pa_cons (pe_op op_add pe_int (pe_op op_mod (pe_op op_fdiv (pv 0) pe_int) pe_int)) (pa_cons pe_int (pa_cons pe_int pa_nil))))))))) (pe_op op_mod (pv 0) pe_int) (fun _ _ => rfl)))
      (pss_one (ps_ret (pe_join pe_str (pe_lc (own := [("_law_j", 3)]) (g := gName 3) (tt := tYes) rfl scWord.nd (pi_range1 (by rfl) mR (pa_cons (pv 2) pa_nil)) (blkOk_by (own := [("_law_j", 3)]) (N := ["_law_cell", "_law_signs_here", "_law_size", "_law_j"]) (sc := defScope sWord) (by decide +kernel))
        (fun _ _ _ _ _ => pg_name (i := 3) scWord.nd rfl (Or.inl rfl)) (fun _ _ _ _ _ => pts_nil)
        (fun _ _ _ _ _ => pe_ix ix_str (pv 1) (pe_op op_mod (pe_op op_fdiv (pe_call GM hr (by rfl) M.g M.F.kp M.b .nil pass0 (pa_cons (pv 0) (pa_cons (pv 3) pa_nil))) pe_int) (pe_callB call_len_str (by rfl) mL boot_len (pa_cons (pv 1) pa_nil))) (fun _ _ => rfl)))))), ?_⟩
    have b1 := Int.emod_nonneg (c / 8) (show (10 : Int) ≠ 0 by decide)
    have b2 := Int.emod_lt_of_pos (c / 8) (show (0 : Int) < 10 by decide)
    refine ⟨_, rfl, _, _, rfl, rfl, ⟨by decide, by decide⟩, _, _, rfl, rfl, (by show (0 : Int) < 10; decide), _, _, rfl, rfl, by show 8 ≤ sizeLine; decide, fun p hp => ⟨_, rfl, _, _, rfl, rfl, (by show (0 : Int) < 8; decide), ?_⟩⟩
    obtain ⟨m, hm, em⟩ := at_map V.int [1, 2, 3, 2, 4, 1 + c / 8 % 10, 3, 2] (i := c % 8) (Int.emod_nonneg _ (by decide)) (Int.emod_lt_of_pos _ (by decide))
    have hm1 : 1 ≤ m ∧ m ≤ 10 := by
      simp only [List.mem_cons, List.not_mem_nil, or_false] at hm
      omega
    refine ⟨p, _, _, _, rfl, rfl, .inl (.inl upd_same), em, ?_⟩
    refine ⟨⟨_, rfl⟩, _, rfl, m, rfl, by omega, by omega, fun D hD => ?_⟩
    have s1 : Same H (upd H p (.lst ([1, 2, 3, 2, 4, 1 + c / 8 % 10, 3, 2].map V.int))) := same_upd hp
    refine lc_range (lo := 0) (n := m.toNat) (fun i H1 => Same H H1 ∧ ∃ ys : List (List Nat), H1 D = some (.lst (ys.map tx)) ∧ ys.length = i ∧ ∀ y ∈ ys, y.length = 1 ∧ Let y) ?_ ?_ ?_
    · exact ⟨s1.trans (same_upd hD), [], upd_same, rfl, fun y hy => nomatch hy⟩
    · rintro i H1 hi ⟨sm, ys, eD, el, hy⟩
      refine ⟨rfl, ?_⟩
      refine ⟨_, rfl, _, rfl, _, rfl, c, _, rfl, fun v v0 v1 => ?_⟩
      have lz : (S l).length = l.length := S_len l
      obtain ⟨d, hd, ed⟩ := at_in l (i := v / 64 % (l.length : Int)) (Int.emod_nonneg _ (by omega)) (Int.emod_lt_of_pos _ (by omega))
      refine ⟨_, _, rfl, rfl, ⟨by decide, by decide⟩, _, rfl, S l, rfl, by rw [lz]; exact Nat.le_of_lt (small1000 l2), _, _, rfl, rfl, (by show (0 : Int) < ((S l).length : Int); rw [lz]; omega), ?_⟩
      refine ⟨S l, _, d, rfl, rfl, by rw [lz]; exact Nat.le_of_lt (small1000 l2), by rw [lz]; exact ed, ?_⟩
      refine ⟨ys.map tx, eD, ?_, ?_⟩
      · rw [List.length_map, el]
        exact small1000 (by omega)
      · refine ⟨fun b o e => ?_, ys ++ [[d]], ?_, by rw [List.length_append, el]; rfl, fun y hy' => ?_⟩
        · have nb : b ≠ D := ne_of_none (s1 _ _ e) hD
          rw [upd_ne nb]
          exact sm _ _ e
        · rw [upd_same, List.map_append]
          rfl
        · rcases List.mem_append.mp hy' with z | z
          · exact hy y z
          · rw [List.mem_singleton.mp z]
            exact ⟨rfl, Let.one (hl d hd)⟩
    · rintro H1 ⟨sm, ys, eD, el, hy⟩
      have h1 : ∀ y ∈ ys, y.length = 1 := fun y h => (hy y h).1
      refine ⟨_, D, ys.map S, rfl, rfl, .inl (.inl (.inl (by rw [← map_tx]; exact eD))), ?_, ?_⟩
      · rw [sum_ones h1, List.length_map, empLen]
        omega
      · rw [join0]
        exact q _ _ sm ⟨by rw [flat_len h1]; omega, by rw [flat_len h1]; omega, flat_let fun y h => (hy y h).2⟩
end
/-! ### slices of texts -/
theorem sIx_pos (n d : Nat) {i : Int} (h : 0 ≤ i) : HT.sIx n d (some i) = min i.toNat n := by
  have e : i = ((i.toNat : Nat) : Int) := by omega
  have q := HT.sIx_nat n d i.toNat
  rw [← e] at q
  exact q
theorem cut_from {l : List Nat} {i : Int} (h : 0 ≤ i) : cutS (S l) (some i) none = S (l.drop i.toNat) := by
  unfold cutS
  rw [sIx_pos _ _ h, HT.sIx_none, S_len]
  refine congrArg S ?_
  show (l.drop (min i.toNat l.length)).take (l.length - min i.toNat l.length) = l.drop i.toNat
  rw [List.take_of_length_le (by rw [List.length_drop]; omega)]
  by_cases c : i.toNat ≤ l.length
  · rw [Nat.min_eq_left c]
  · rw [Nat.min_eq_right (by omega), List.drop_of_length_le (Nat.le_refl _), List.drop_of_length_le (by omega)]
theorem cut_to {l : List Nat} {i : Int} (h : 0 ≤ i) : cutS (S l) none (some i) = S (l.take i.toNat) := by
  unfold cutS
  rw [sIx_pos _ _ h, HT.sIx_none, S_len]
  refine congrArg S ?_
  show (l.drop 0).take (min i.toNat l.length - 0) = l.take i.toNat
  rw [List.drop_zero, Nat.sub_zero]
  by_cases c : i.toNat ≤ l.length
  · rw [Nat.min_eq_left c]
  · rw [Nat.min_eq_right (by omega), List.take_of_length_le (Nat.le_refl _), List.take_of_length_le (by omega)]
theorem cut_mid {l : List Nat} {i j : Int} (h : 0 ≤ i) (h2 : 0 ≤ j) : cutS (S l) (some i) (some j) = S ((l.drop i.toNat).take (j.toNat - i.toNat)) := by
  unfold cutS
  rw [sIx_pos _ _ h, sIx_pos _ _ h2, S_len]
  refine congrArg S ?_
  show (l.drop (min i.toNat l.length)).take (min j.toNat l.length - min i.toNat l.length) = (l.drop i.toNat).take (j.toNat - i.toNat)
  by_cases c : i.toNat ≤ l.length
  · rw [Nat.min_eq_left c]
    by_cases d : j.toNat ≤ l.length
    · rw [Nat.min_eq_left d]
    · rw [Nat.min_eq_right (by omega), List.take_of_length_le (by rw [List.length_drop]; omega), List.take_of_length_le (by rw [List.length_drop]; omega)]
  · have e1 : min i.toNat l.length = l.length := Nat.min_eq_right (by omega)
    rw [e1, List.drop_of_length_le (Nat.le_refl _), List.drop_of_length_le (by omega : l.length ≤ i.toNat), List.take_nil, List.take_nil]
theorem let_drop {l : List Nat} (h : Let l) (n : Nat) : Let (l.drop n) := h.sub fun _ q => List.mem_of_mem_drop q
theorem let_take {l : List Nat} (h : Let l) (n : Nat) : Let (l.take n) := h.sub fun _ q => List.mem_of_mem_take q
theorem size1000 {n : Nat} (h : n ≤ 1000) : n ≤ sizeLine := Nat.le_of_lt (small1000 h)
section
variable {P : Program} {w : World} {K : PySem.W.Frag} {mg : Str → Option Value} {base : Heap} {f fM fW : Addr} {fd fdM fdW : FuncData}
theorem scAny : FnScope ["_law_cell", "_law_word_here", "_law_more_here", "_law_j"] ["_law_cell"] (defScope sAny) := ⟨rfl, rfl, rfl, by decide +kernel, rfl, by decide +kernel, by decide +kernel⟩
def spAny : Sp := fun vs H Q _ => ∃ (c : Int), vs = [.int c] ∧ ∀ (y : List Nat), WordOk y → Q (tx y) H
theorem ok_any (F : FnP K "_law_any_word" sAny f fd) (mR : mg "range" = none) : FnOk P w K mg base CX0 1 f fd ["_law_cell"] spAny := by
  refine F.okN scAny (fun vs H Q E h => ?_) (fun cdv A outer s H vs Q E hr h => ?_)
  · obtain ⟨c, rfl, _⟩ := h
    rfl
  · obtain ⟨c, rfl, q⟩ := h
    refine ⟨_, pss_cons (ps_set (i := 1) scAny.nd rfl (.inl rfl) pe_str) (pss_cons (ps_set (i := 2) scAny.nd rfl (.inl rfl) (pe_op op_fdiv (pv 0) pe_int))
      (pss_cons (ps_for PassesOwn.never rfl (pi_range1 (by rfl) mR (pa_cons (pe_op op_add pe_int (pe_op op_mod (pv 0) pe_int)) pa_nil)) (pg_name (i := 3) scAny.nd rfl (Or.inl rfl))
        (pss_cons (ps_set (i := 1) scAny.nd rfl (.inl rfl) (pe_op op_add_str (pv 1) (pe_ix ix_str pe_str (pe_op op_mod (pv 2) pe_int) (fun _ _ => rfl))))
          (pss_one (ps_set (i := 2) scAny.nd rfl (.inl rfl) (pe_op op_fdiv (pv 2) pe_int)))))
      (pss_one (ps_ret (pv 1))))), ?_⟩
    have b1 := Int.emod_nonneg c (show (10 : Int) ≠ 0 by decide)
    have b2 := Int.emod_lt_of_pos c (show (0 : Int) < 10 by decide)
    refine ⟨_, rfl, _, _, rfl, rfl, ⟨by decide, by decide⟩, ?_⟩
    refine ⟨_, rfl, _, _, rfl, rfl, (by show (0 : Int) < 10; decide), _, _, rfl, rfl, _, rfl, by omega, by omega, ?_⟩
    refine for_range (lo := 0) (n := (1 + c % 10).toNat) (fun i σ H1 => H1 = H ∧ ∃ (y : List Nat) (m : Int) (kv : Option V), σ = [some (.int c), some (tx y), some (.int m), kv] ∧ y.length = i ∧ Let y) ?_ ?_ ?_
    · refine ⟨rfl, [], c / 10, none, ?_, rfl, fun c hc => nomatch hc⟩
      show [some (V.int c), some (V.str (Str.ofString "")), some (V.int (c / 10)), none] = _
      rw [show Str.ofString "" = S [] by decide +kernel]
    · rintro i σ H1 hi ⟨rfl, y, m, kv, rfl, el, hy⟩
      obtain ⟨d, hd, ed⟩ := at_in alpha (i := m % 26) (Int.emod_nonneg _ (by decide)) (Int.emod_lt_of_pos _ (by decide))
      refine ⟨_, rfl, _, rfl, _, _, rfl, rfl, (by show (0 : Int) < 26; decide), _, _, d, rfl, rfl, by decide +kernel, by rw [alphaS]; exact ed, S y, ⟨#[d]⟩, rfl, rfl, ?_, ?_⟩
      · rw [S_len, el]
        show i + 1 ≤ sizeLine
        exact size1000 (by omega)
      · refine ⟨_, rfl, _, _, rfl, rfl, ⟨by decide, by decide⟩, rfl, y ++ [d], m / 26, some (.int (0 + (i : Int))), ?_, by rw [List.length_append, el]; rfl, hy.app (Let.one (alphaLet d hd))⟩
        have e : (S y ++ (⟨#[d]⟩ : Str)) = S (y ++ [d]) := S_cat y [d]
        rw [e]
        rfl
    · rintro σ H1 ⟨rfl, y, m, kv, rfl, el, hy⟩
      exact ⟨_, rfl, q y ⟨by omega, by omega, hy⟩⟩
theorem scMore : FnScope ["_law_words_here", "_law_cell", "_law_signs_here", "_law_one", "_law_other", "_law_at_here", "_law_some"] ["_law_words_here", "_law_cell", "_law_signs_here"] (defScope sMore) := ⟨rfl, rfl, rfl, by decide +kernel, rfl, by decide +kernel, by decide +kernel⟩
def spMore (K : PySem.W.Frag) : Sp := fun vs H Q _ => ∃ (a : Addr) (ws : List (List Nat)) (c : Int) (l : List Nat), vs = [.ref a, .int c, tx l] ∧ SqL K H a (ws.map tx) ∧ 1 ≤ ws.length ∧ (∀ x ∈ ws, WordOk x) ∧
  Let l ∧ 1 ≤ l.length ∧ l.length ≤ 1000 ∧ ∀ (y : List Nat) (H' : Hp), Same H H' → WordOk y → Q (tx y) H'
theorem ok_more (F : FnP K "_law_more" sMore f fd) (W : Has K mg "_law_word" sWord ["_law_cell", "_law_signs_here"] fW fdW) (M : Has K mg "_law_mixed" sMixed ["_law_cell", "_law_k"] fM fdM) (mR : mg "range" = none) (mL : mg "len" = none) :
    FnOk P w K mg base CX0 3 f fd ["_law_words_here", "_law_cell", "_law_signs_here"] (spMore K) := by
  have GW : FnOk P w K mg base CX0 2 fW fdW ["_law_cell", "_law_signs_here"] spWord := ok_word W.F M mR mL
  refine F.okN scMore (fun vs H Q E h => ?_) (fun cdv A outer s H vs Q E hr h => ?_)
  · obtain ⟨a, ws, c, l, rfl, _⟩ := h
    rfl
  · obtain ⟨a, ws, c, l, rfl, hS, hn, hw, hl, l1, l2, q⟩ := h
    refine ⟨_, pss_cons (ps_set (i := 3) scMore.nd rfl (.inl rfl) (pe_ix ix_list (pv 0) (pe_op op_mod (pe_op op_fdiv (pv 1) pe_int) (pe_callB call_len_seq (by rfl) mL boot_len (pa_cons (pv 0) pa_nil))) (fun _ _ => rfl)))
      (pss_cons (ps_set (i := 4) scMore.nd rfl (.inl rfl) (pe_ix ix_list (pv 0) (pe_op op_mod (pe_op op_fdiv (pv 1) pe_int) (pe_callB call_len_seq (by rfl) mL boot_len (pa_cons (pv 0) pa_nil))) (fun _ _ => rfl)))
      (pss_cons (ps_set (i := 5) scMore.nd rfl (.inl rfl) (pe_op op_mod (pe_op op_fdiv (pv 1) pe_int) (pe_callB call_len_str (by rfl) mL boot_len (pa_cons (pv 3) pa_nil))))
      (pss_cons (ps_set (i := 6) scMore.nd rfl (.inl rfl) (pe_lst (pa_cons (pe_op op_add_str (pv 3) (pv 4)) (pa_cons (pe_op op_add_str (pv 3) (pv 4)) (pa_cons (pe_op op_add_str (pv 4) (pv 3))
          (pa_cons (pe_op op_add_str (pv 3) (pe_call GW hr (by rfl) W.g W.F.kp W.b .nil pass0 (pa_cons (pe_op op_fdiv (pv 1) pe_int) (pa_cons (pv 2) pa_nil))))
          (pa_cons (pe_op op_add_str (pe_call GW hr (by rfl) W.g W.F.kp W.b .nil pass0 (pa_cons (pe_op op_fdiv (pv 1) pe_int) (pa_cons (pv 2) pa_nil))) (pv 3)) pa_nil)))))))
      (pss_one (ps_ret (pe_slice sl_str (pe_ix ix_list (pe_op op_cat (pv 6) (pe_lst (pa_cons (pe_slice sl_str (pv 3) (po_some (pv 5)) po_none) (pa_cons (pe_slice sl_str (pv 3) po_none (po_some (pe_op op_add (pv 5) pe_int)))
          (pa_cons (pe_op op_add_str (pe_slice sl_str (pv 3) (po_some (pv 5)) po_none) (pv 4)) pa_nil))))) (pe_op op_mod (pv 1) pe_int) (fun _ _ => rfl)) po_none (po_some pe_int))))))), ?_⟩
    have en : (ws.map tx).length = ws.length := List.length_map _
    obtain ⟨one, ho, eo⟩ := at_map tx ws (i := c / 8 % (ws.length : Int)) (Int.emod_nonneg _ (by omega)) (Int.emod_lt_of_pos _ (by omega))
    obtain ⟨oth, hp, ep⟩ := at_map tx ws (i := c / 104 % (ws.length : Int)) (Int.emod_nonneg _ (by omega)) (Int.emod_lt_of_pos _ (by omega))
    obtain ⟨o1, o2, o3⟩ := hw one ho
    obtain ⟨p1, p2, p3⟩ := hw oth hp
    have lo : (S one).length = one.length := S_len one
    have lp : (S oth).length = oth.length := S_len oth
    refine ⟨_, rfl, _, rfl, _, _, rfl, rfl, ⟨by decide, by decide⟩, _, rfl, a, _, rfl, .inl hS, _, _, rfl, rfl, (by show (0 : Int) < ((ws.map tx).length : Int); rw [en]; omega), a, _, _, tx one, rfl, rfl, hS, by rw [en]; exact eo, ?_⟩
    refine ⟨_, rfl, _, rfl, _, _, rfl, rfl, ⟨by decide, by decide⟩, _, rfl, a, _, rfl, .inl hS, _, _, rfl, rfl, (by show (0 : Int) < ((ws.map tx).length : Int); rw [en]; omega), a, _, _, tx oth, rfl, rfl, hS, by rw [en]; exact ep, ?_⟩
    refine ⟨_, rfl, _, _, rfl, rfl, ⟨by decide, by decide⟩, _, rfl, _, rfl, by rw [lo]; exact size1000 (by omega), _, _, rfl, rfl, (by show (0 : Int) < ((S one).length : Int); rw [lo]; omega), ?_⟩
    have i0 := Int.emod_nonneg (c / 1352) (show ((S one).length : Int) ≠ 0 by rw [lo]; omega)
    have i1 := Int.emod_lt_of_pos (c / 1352) (show (0 : Int) < ((S one).length : Int) by rw [lo]; omega)
    obtain ⟨i, hi⟩ : ∃ i : Int, i = c / 1352 % ((S one).length : Int) := ⟨_, rfl⟩
    rw [← hi] at i0 i1
    rw [lo] at i1
    have hv1 := congrArg V.int hi.symm
    -- some = [..]
    refine ⟨_, rfl, _, rfl, _, _, rfl, rfl, by rw [lo, lp]; exact size1000 (by omega), _, rfl, _, rfl, _, _, rfl, rfl, by rw [lo, lp]; exact size1000 (by omega), _, rfl, _, rfl, _, _, rfl, rfl, by rw [lo, lp]; exact size1000 (by omega), ?_⟩
    refine ⟨_, rfl, _, rfl, _, _, rfl, rfl, ⟨by decide, by decide⟩, _, rfl, _, l, rfl, hl, l1, l2, fun y1 H1 sm1 ⟨y11, y12, y13⟩ => ⟨_, _, rfl, rfl, by rw [lo, S_len]; exact size1000 (by omega), ?_⟩⟩
    refine ⟨_, rfl, _, _, rfl, rfl, ⟨by decide, by decide⟩, _, rfl, _, l, rfl, hl, l1, l2, fun y2 H2 sm2 ⟨y21, y22, y23⟩ => ⟨_, rfl, _, _, rfl, rfl, by rw [lo, S_len]; exact size1000 (by omega), ?_⟩⟩
    refine ⟨by show 5 ≤ sizeLine; decide, fun u hu => ?_⟩
    -- the second list
    have zl : ∀ {x : List Nat}, x.length ≤ 1000 → (S x).length ≤ sizeLine := fun {x} h => by rw [S_len]; exact size1000 h
    refine ⟨_, rfl, _, rfl, _, rfl, i, hv1, S one, rfl, zl (by omega), ?_⟩
    refine ⟨_, rfl, _, rfl, i, 1, hv1, rfl, i + 1, rfl, S one, rfl, zl (by omega), ?_⟩
    refine ⟨_, rfl, _, rfl, i, hv1, S one, rfl, zl (by omega), _, rfl, _, _, rfl, rfl, by rw [cut_from i0, S_len, lp, List.length_drop]; exact size1000 (by omega), ?_⟩
    refine ⟨by show 3 ≤ sizeLine; decide, fun v hv => ?_⟩
    have nuv : u ≠ v := fun e => by
      rw [← e, upd_same] at hv
      cases hv
    have hv2 : H2 v = none := (same_upd hu).free hv
    have hv3 : ∀ o, (upd H2 u o) v = none := fun o => by rw [upd_ne nuv.symm]; exact hv2
    rw [cut_from i0, cut_to (by omega : (0 : Int) ≤ i + 1), S_cat, S_cat, S_cat, S_cat, S_cat]
    refine ⟨u, v, [tx (one ++ oth), tx (one ++ oth), tx (oth ++ one), tx (one ++ y1), tx (y2 ++ one)], [tx (one.drop i.toNat), tx (one.take (i + 1).toNat), tx (one.drop i.toNat ++ oth)], rfl, rfl, by rw [upd_ne nuv, upd_same], upd_same, by show 8 ≤ sizeLine; decide, fun r hr0 => ?_⟩
    obtain ⟨z, hz, ez⟩ := at_map tx [one ++ oth, one ++ oth, oth ++ one, one ++ y1, y2 ++ one, one.drop i.toNat, one.take (i + 1).toNat, one.drop i.toNat ++ oth] (i := c % 8) (Int.emod_nonneg _ (by decide)) (Int.emod_lt_of_pos _ (by decide))
    have hz2 : 1 ≤ z.length ∧ z.length ≤ 20 ∧ Let z := by
      have d1 : (one.drop i.toNat).length = one.length - i.toNat := List.length_drop
      have d2 : (one.take (i + 1).toNat).length = min (i + 1).toNat one.length := List.length_take
      have d3 : i.toNat < one.length := by omega
      simp only [List.mem_cons, List.not_mem_nil, or_false] at hz
      rcases hz with rfl | rfl | rfl | rfl | rfl | rfl | rfl | rfl
      · rw [List.length_append]; exact ⟨by omega, by omega, o3.app p3⟩
      · rw [List.length_append]; exact ⟨by omega, by omega, o3.app p3⟩
      · rw [List.length_append]; exact ⟨by omega, by omega, p3.app o3⟩
      · rw [List.length_append]; exact ⟨by omega, by omega, o3.app y13⟩
      · rw [List.length_append]; exact ⟨by omega, by omega, y23.app o3⟩
      · rw [d1]; exact ⟨by omega, by omega, let_drop o3 _⟩
      · rw [d2]; exact ⟨by omega, by omega, let_take o3 _⟩
      · rw [List.length_append, d1]; exact ⟨by omega, by omega, (let_drop o3 _).app p3⟩
    refine ⟨_, rfl, _, _, rfl, rfl, (by show (0 : Int) < 8; decide), r, _, _, tx z, rfl, rfl, .inl (.inl upd_same), ez, 10, rfl, S z, rfl, zl (by omega), ?_⟩
    rw [cut_to (by decide)]
    refine q (z.take 10) _ ?_ ⟨?_, ?_, let_take hz2.2.2 _⟩
    · exact ((sm1.trans sm2).trans (same_upd hu)).trans ((same_upd (hv3 _)).trans (same_upd hr0))
    · rw [List.length_take]; omega
    · rw [List.length_take]; omega
end
/-! ### slices of lists -/
theorem cutv_from {xs : List V} {i : Int} (h : 0 ≤ i) : cutV xs (some i) none = xs.drop i.toNat := by
  unfold cutV
  rw [sIx_pos _ _ h, HT.sIx_none]
  rw [List.take_of_length_le (by rw [List.length_drop]; omega)]
  by_cases c : i.toNat ≤ xs.length
  · rw [Nat.min_eq_left c]
  · rw [Nat.min_eq_right (by omega), List.drop_of_length_le (Nat.le_refl _), List.drop_of_length_le (by omega)]
theorem cutv_to {xs : List V} {i : Int} (h : 0 ≤ i) : cutV xs none (some i) = xs.take i.toNat := by
  unfold cutV
  rw [sIx_pos _ _ h, HT.sIx_none, List.drop_zero, Nat.sub_zero]
  by_cases c : i.toNat ≤ xs.length
  · rw [Nat.min_eq_left c]
  · rw [Nat.min_eq_right (by omega), List.take_of_length_le (Nat.le_refl _), List.take_of_length_le (by omega)]
theorem at_last {α : Type} (g : α → V) {xs : List α} (h : 1 ≤ xs.length) : ∃ c ∈ xs, atI (xs.map g) (-1) = some (g c) := by
  have hne : xs ≠ [] := fun e => by
    rw [e] at h
    exact absurd h (Nat.not_succ_le_zero 0)
  refine ⟨xs.getLast hne, List.getLast_mem hne, ?_⟩
  have e : xs.map g = (xs.dropLast.map g) ++ [g (xs.getLast hne)] := by
    rw [← List.map_singleton, ← List.map_append, List.dropLast_concat_getLast]
  rw [e]
  exact atI_last _ _
theorem seqL {K : PySem.W.Frag} {H : Hp} {a : Addr} {xs : List V} (h : H a = some (.lst xs)) : SqL K H a xs := .inl (.inl h)
section
variable {P : Program} {w : World} {K : PySem.W.Frag} {mg : Str → Option Value} {base : Heap} {f fA fM fW : Addr} {fd fdA fdM fdW : FuncData}
theorem scChain : FnScope ["_law_script", "_law_first", "_law_signs_here", "_law_links", "_law_k", "_law_words_here", "_law_turn"] ["_law_script", "_law_first", "_law_signs_here"] (defScope sChain) := ⟨rfl, rfl, rfl, by decide +kernel, rfl, by decide +kernel, by decide +kernel⟩
def spChain (K : PySem.W.Frag) : Sp := fun vs H Q _ => ∃ (a : Addr) (ns : List Int) (first : Int) (l : List Nat), vs = [.ref a, .int first, tx l] ∧ SqL K H a (ns.map V.int) ∧ 0 ≤ first ∧ Let l ∧ 1 ≤ l.length ∧ l.length ≤ 1000 ∧
  ∀ (r : Addr) (zs : List (List Nat)) (H' : Hp), Same H H' → H r = none → H' r = some (.lst (zs.map tx)) → zs.length ≤ 9 → (∀ z ∈ zs, WordOk z) → Q (.ref r) H'
theorem ok_chain (F : FnP K "_law_chain" sChain f fd) (A : Has K mg "_law_at" sAt ["_law_script", "_law_k"] fA fdA) (W : Has K mg "_law_word" sWord ["_law_cell", "_law_signs_here"] fW fdW) (M : Has K mg "_law_mixed" sMixed ["_law_cell", "_law_k"] fM fdM) (mR : mg "range" = none) (mL : mg "len" = none) :
    FnOk P w K mg base CX0 3 f fd ["_law_script", "_law_first", "_law_signs_here"] (spChain K) := by
  have GW : FnOk P w K mg base CX0 2 fW fdW ["_law_cell", "_law_signs_here"] spWord := ok_word W.F M mR mL
  have GM : FnOk P w K mg base CX0 2 fM fdM ["_law_cell", "_law_k"] spMixed := (ok_mixed M.F).mono (by decide)
  have GA : FnOk P w K mg base CX0 2 fA fdA ["_law_script", "_law_k"] (spAt K) := (ok_at A.F mL).mono (by decide)
  refine F.okN scChain (fun vs H Q E h => ?_) (fun cdv A' outer s H vs Q E hr h => ?_)
  · obtain ⟨a, ns, first, l, rfl, _⟩ := h
    rfl
  · obtain ⟨a, ns, first, l, rfl, hS, h0, hl, l1, l2, q⟩ := h
    refine ⟨_, pss_cons (ps_set (i := 3) scChain.nd rfl (.inr rfl) (pe_lst pa_nil))
      (pss_cons (ps_for PassesOwn.never rfl (pi_range1 (by rfl) mR (pa_cons (pe_op op_add pe_int (pe_op op_mod (pe_op op_fdiv (pe_call GA hr (by rfl) A.g A.F.kp A.b .nil pass0 (pa_cons (pv 0) (pa_cons (pv 1) pa_nil))) pe_int) pe_int)) pa_nil)) (pg_name (i := 4) scChain.nd rfl (Or.inl rfl))
        (pss_one (ps_expr (pe_bm PySem.F.plainAttrs_list PySem.F.slot_list_append PySem.F.type_list_append mt_append (pv 3)
          (pa_cons (pe_slice sl_str (pe_call GW hr (by rfl) W.g W.F.kp W.b .nil pass0 (pa_cons (pe_call GM hr (by rfl) M.g M.F.kp M.b .nil pass0 (pa_cons (pe_call GA hr (by rfl) A.g A.F.kp A.b .nil pass0 (pa_cons (pv 0) (pa_cons (pe_op op_add (pe_op op_add (pv 1) pe_int) (pe_op op_mod (pv 4) pe_int)) pa_nil))) (pa_cons (pv 4) pa_nil))) (pa_cons (pv 2) pa_nil))) po_none (po_some pe_int)) pa_nil)))))
      (pss_cons (ps_set (i := 5) scChain.nd rfl (.inl rfl) (pe_op op_cat (pe_lst (pa_cons (pe_ix ix_list (pv 3) pe_int (fun _ _ => rfl)) pa_nil))
        (pe_lc (own := [("_law_k", 4)]) (g := gName 4) (tt := tYes) rfl scChain.nd (pi_range2 (by rfl) mR (pa_cons pe_int (pa_cons (pe_callB call_len_seq (by rfl) mL boot_len (pa_cons (pv 3) pa_nil)) pa_nil))) (blkOk_by (own := [("_law_k", 4)]) (N := ["_law_script", "_law_first", "_law_signs_here", "_law_links", "_law_k", "_law_words_here", "_law_turn"]) (sc := defScope sChain) (by decide +kernel))
          (fun _ _ _ _ _ => pg_name (i := 4) scChain.nd rfl (Or.inl rfl)) (fun _ _ _ _ _ => pts_nil)
          (fun _ _ _ _ _ => pe_op op_add_str (pe_ix (r := rIxL K) ix_list (pv 3) (pe_op op_sub (pv 4) pe_int) (fun _ _ => rfl)) (pe_ix (r := rIxL K) ix_list (pv 3) (pv 4) (fun _ _ => rfl))))))
      (C8.pss_cut (ps_if (pt_cmpR op_eq (pe_op op_mod (pe_op op_fdiv (pe_call GA hr (by rfl) A.g A.F.kp A.b .nil pass0 (pa_cons (pv 0) (pa_cons (pv 1) pa_nil))) pe_int) pe_int) pe_int (nomark _))
          (pss_one (ps_expr (pe_bm PySem.F.plainAttrs_list PySem.F.slot_list_append PySem.F.type_list_append mt_append (pv 5) (pa_cons (pe_ix ix_list (pv 3) (pe_un un_neg pe_int) (fun _ _ => rfl)) pa_nil)))) pss_nil)
      (pss_cons (ps_set (i := 6) scChain.nd rfl (.inl rfl) (pe_op op_mod (pe_call GA hr (by rfl) A.g A.F.kp A.b .nil pass0 (pa_cons (pv 0) (pa_cons (pe_op op_add (pv 1) pe_int) pa_nil))) (pe_callB call_len_seq (by rfl) mL boot_len (pa_cons (pv 5) pa_nil))))
      (pss_one (ps_ret (pe_op op_cat (pe_slice sl_list (pv 5) (po_some (pv 6)) po_none) (pe_slice sl_list (pv 5) po_none (po_some (pv 6)))))))))), ?_⟩
    refine ⟨Nat.zero_le _, fun p hp => ?_⟩
    have s1 : Same H (upd H p (.lst [])) := same_upd hp
    refine ⟨_, rfl, _, rfl, a, ns, first, rfl, s1.seq hS, h0, fun v => ⟨_, _, rfl, rfl, ⟨by decide, by decide⟩, _, _, rfl, rfl, (by show (0 : Int) < 7; decide), _, _, rfl, rfl, _, rfl, ?_⟩⟩
    have b1 := Int.emod_nonneg (v / 40) (show (7 : Int) ≠ 0 by decide)
    have b2 := Int.emod_lt_of_pos (v / 40) (show (0 : Int) < 7 by decide)
    refine ⟨by omega, by omega, ?_⟩
    refine for_range (lo := 0) (n := (2 + v / 40 % 7).toNat) (fun i σ H1 => Same H H1 ∧ ∃ (ys : List (List Nat)) (kv : Option V), σ = [some (.ref a), some (.int first), some (tx l), some (.ref p), kv, none, none] ∧ H1 p = some (.lst (ys.map tx)) ∧ ys.length = i ∧ ∀ y ∈ ys, 1 ≤ y.length ∧ y.length ≤ 5 ∧ Let y) ?_ ?_ ?_
    · exact ⟨s1, [], none, rfl, upd_same, rfl, fun y hy => nomatch hy⟩
    · rintro i σ H1 hi ⟨sm, ys, kv, rfl, eD, el, hy⟩
      refine ⟨_, rfl, .inl ⟨rfl, _, seqL eD⟩, ?_⟩
      refine ⟨_, rfl, _, rfl, _, _, rfl, rfl, _, rfl, _, _, rfl, rfl, (by show (0 : Int) < 6; decide), _, _, rfl, rfl, a, ns, _, rfl, sm.seq hS, by omega, fun c => ?_⟩
      refine ⟨_, rfl, c, _, rfl, fun m m0 m1 => ⟨_, rfl, m, l, rfl, hl, l1, l2, fun y H2 sm2 ⟨y1, y2, y3⟩ => ?_⟩⟩
      refine ⟨5, rfl, S y, rfl, by rw [S_len]; exact size1000 (by omega), ?_⟩
      rw [cut_to (by decide)]
      refine ⟨p, _, _, rfl, rfl, sm2 _ _ eD, by rw [List.length_map]; exact small1000 (by omega), ?_⟩
      refine ⟨fun b o e => ?_, ys ++ [y.take 5], _, rfl, ?_, by rw [List.length_append, el]; rfl, fun z hz => ?_⟩
      · rw [upd_ne (ne_of_none e hp)]
        exact sm2 _ _ (sm _ _ e)
      · rw [upd_same, List.map_append]
        rfl
      · rcases List.mem_append.mp hz with z1 | z1
        · exact hy z z1
        · rw [List.mem_singleton.mp z1, List.length_take]
          exact ⟨by omega, by omega, let_take y3 _⟩
    · rintro σ H1 ⟨sm, ys, kv, rfl, eD, el, hy⟩
      have hyl : 2 ≤ ys.length ∧ ys.length ≤ 8 := by omega
      obtain ⟨y0, hy0, e0⟩ := at_map tx ys (i := 0) (by decide) (by omega)
      refine ⟨_, rfl, p, _, 0, _, rfl, rfl, seqL eD, e0, by show 1 ≤ sizeLine; decide, fun u hu => ?_⟩
      have s2 : Same H1 (upd H1 u (.lst [tx y0])) := same_upd hu
      have npu : p ≠ u := ne_of_none eD hu
      refine ⟨_, rfl, p, _, rfl, .inl (seqL (s2 _ _ eD)), 1, _, rfl, ⟨by decide, by decide, by rw [List.length_map]; omega, by rw [List.length_map]; omega⟩, fun D hD => ?_⟩
      have nuD : u ≠ D := fun e => by
        rw [← e, upd_same] at hD
        cases hD
      have npD : p ≠ D := ne_of_none (s2 _ _ eD) hD
      have en : (((ys.map tx).length : Int) - 1).toNat = ys.length - 1 := by rw [List.length_map]; omega
      rw [en]
      refine lc_range (lo := 1) (n := ys.length - 1) (fun i H2 => Same H H2 ∧ H2 p = some (.lst (ys.map tx)) ∧ H2 u = some (.lst [tx y0]) ∧ ∃ zs : List (List Nat), H2 D = some (.lst (zs.map tx)) ∧ zs.length = i ∧ ∀ z ∈ zs, WordOk z) ?_ ?_ ?_
      · refine ⟨(sm.trans s2).trans (same_upd hD), by rw [upd_ne npD]; exact s2 _ _ eD, by rw [upd_ne nuD, upd_same], [], upd_same, rfl, fun z hz => nomatch hz⟩
      · rintro i H2 hi ⟨sm2, ep, eu, zs, eZ, ez, hz⟩
        obtain ⟨x1, hx1, e1⟩ := at_map tx ys (i := 1 + (i : Int) - 1) (by omega) (by omega)
        obtain ⟨x2, hx2, e2⟩ := at_map tx ys (i := 1 + (i : Int)) (by omega) (by omega)
        have d1 := hy x1 hx1
        have d2 := hy x2 hx2
        refine ⟨rfl, _, rfl, _, rfl, _, _, rfl, rfl, p, _, _, _, rfl, rfl, seqL ep, e1, _, rfl, _, rfl, p, _, _, _, rfl, rfl, seqL ep, e2, S x1, S x2, rfl, rfl, by rw [S_len, S_len]; exact size1000 (by omega), ?_⟩
        rw [S_cat]
        refine ⟨_, eZ, by rw [List.length_map]; exact small1000 (by omega), fun b o e => ?_, by rw [upd_ne npD]; exact ep, by rw [upd_ne nuD]; exact eu, zs ++ [x1 ++ x2], ?_, by rw [List.length_append, ez]; rfl, fun z hz' => ?_⟩
        · rw [upd_ne (ne_of_none ((sm.trans s2) _ _ e) hD)]
          exact sm2 _ _ e
        · rw [upd_same, List.map_append]
          rfl
        · rcases List.mem_append.mp hz' with z1 | z1
          · exact hz z z1
          · rw [List.mem_singleton.mp z1]
            exact ⟨by rw [List.length_append]; omega, by rw [List.length_append]; omega, d1.2.2.app d2.2.2⟩
      · rintro H2 ⟨sm2, ep, eu, zs, eZ, ez, hz⟩
        refine ⟨u, D, _, _, rfl, rfl, eu, eZ, by rw [List.length_map]; exact size1000 (by show 1 + zs.length ≤ 1000; omega), fun r hr0 => ?_⟩
        have s3 : Same H2 (upd H2 r (.lst ([tx y0] ++ zs.map tx))) := same_upd hr0
        have npr : p ≠ r := ne_of_none ep hr0
        have hHr : H r = none := sm2.free hr0
        have w0 : WordOk y0 := ⟨(hy y0 hy0).1, by have := (hy y0 hy0).2.1; omega, (hy y0 hy0).2.2⟩
        -- if .. : words_here.append(links[-1])
        refine ⟨fun σ H3 => Same H H3 ∧ ∃ (vs : List (List Nat)) (kv : Option V), σ = [some (.ref a), some (.int first), some (tx l), some (.ref p), kv, some (.ref r), none] ∧ H3 r = some (.lst (vs.map tx)) ∧ 1 ≤ vs.length ∧ vs.length ≤ 9 ∧ ∀ z ∈ vs, WordOk z, ?_, ?_⟩
        · refine ⟨_, rfl, _, rfl, a, ns, first, rfl, (sm2.trans s3).seq hS, h0, fun v2 => ⟨_, _, rfl, rfl, ⟨by decide, by decide⟩, _, _, rfl, rfl, (by show (0 : Int) < 2; decide), rfl, _, rfl, ite2 (fun _ => ?_) (fun _ => ?_)⟩⟩
          · obtain ⟨y9, hy9, e9⟩ := at_last tx (xs := ys) (by omega)
            have w9 : WordOk y9 := ⟨(hy y9 hy9).1, by have := (hy y9 hy9).2.1; omega, (hy y9 hy9).2.2⟩
            refine ⟨_, rfl, .inl ⟨rfl, _, seqL upd_same⟩, ?_⟩
            refine ⟨_, rfl, 1, rfl, p, _, _, _, rfl, rfl, seqL (s3 _ _ ep), e9, r, _, _, rfl, rfl, upd_same, ?_, ?_⟩
            · show (zs.map tx).length + 1 < sizeLine
              rw [List.length_map]
              exact small1000 (by omega)
            · refine ⟨fun b o e => ?_, y0 :: zs ++ [y9], _, rfl, ?_, by rw [List.length_append]; show 1 ≤ _ + 1; omega, by rw [List.length_append]; show (zs.length + 1) + 1 ≤ 9; omega, fun z hz' => ?_⟩
              · rw [upd_ne (ne_of_none e hHr)]
                exact s3 _ _ (sm2 _ _ e)
              · rw [upd_same, List.map_append]
                rfl
              · rcases List.mem_append.mp hz' with z1 | z1
                · rcases List.mem_cons.mp z1 with z2 | z2
                  · rw [z2]; exact w0
                  · exact hz z z2
                · rw [List.mem_singleton.mp z1]
                  exact w9
          · refine ⟨sm2.trans s3, y0 :: zs, _, rfl, upd_same, by show 1 ≤ zs.length + 1; omega, by show zs.length + 1 ≤ 9; omega, fun z hz' => ?_⟩
            rcases List.mem_cons.mp hz' with z2 | z2
            · rw [z2]; exact w0
            · exact hz z z2
        · rintro σ H3 ⟨sm3, vs, kv, rfl, eR, v1, v2, hv⟩
          refine ⟨_, rfl, _, rfl, _, _, rfl, rfl, a, ns, _, rfl, sm3.seq hS, by omega, fun c => ⟨_, rfl, r, _, rfl, .inl (seqL eR), _, _, rfl, rfl, (by show (0 : Int) < ((vs.map tx).length : Int); rw [List.length_map]; omega), ?_⟩⟩
          have i0 := Int.emod_nonneg c (show ((vs.map tx).length : Int) ≠ 0 by rw [List.length_map]; omega)
          obtain ⟨i, hi⟩ : ∃ i : Int, i = c % ((vs.map tx).length : Int) := ⟨_, rfl⟩
          have hiv := congrArg V.int hi.symm
          rw [← hi] at i0
          refine ⟨_, rfl, _, rfl, i, hiv, r, _, rfl, seqL eR, fun g1 hg1 => ?_⟩
          rw [cutv_from i0]
          have s4 := same_upd (o := .lst ((vs.map tx).drop i.toNat)) hg1
          refine ⟨_, rfl, _, rfl, i, hiv, r, _, rfl, seqL (s4 _ _ eR), fun g2 hg2 => ?_⟩
          rw [cutv_to i0]
          have n12 : g1 ≠ g2 := fun e => by
            rw [← e, upd_same] at hg2
            cases hg2
          have s5 := same_upd (o := .lst ((vs.map tx).take i.toNat)) hg2
          refine ⟨g1, g2, _, _, rfl, rfl, by rw [upd_ne n12, upd_same], upd_same, ?_, fun g3 hg3 => ?_⟩
          · rw [List.length_drop, List.length_take, List.length_map]
            exact size1000 (by omega)
          · have s6 := same_upd (o := .lst ((vs.map tx).drop i.toNat ++ (vs.map tx).take i.toNat)) hg3
            refine q g3 (vs.drop i.toNat ++ vs.take i.toNat) _ (((sm3.trans s4).trans s5).trans s6) (((sm3.trans s4).trans s5).free hg3) ?_ ?_ fun z hz' => ?_
            · rw [upd_same, List.map_append, List.map_drop, List.map_take]
            · rw [List.length_append, List.length_drop, List.length_take]
              omega
            · rcases List.mem_append.mp hz' with z1 | z1
              · exact hv z (List.mem_of_mem_drop z1)
              · exact hv z (List.mem_of_mem_take z1)
end
def CodeOk (ws : List (List Nat)) : Prop := ws.length ≤ 12 ∧ ws.Nodup ∧ ∀ x ∈ ws, WordOk x
theorem inV_tx (x : List Nat) (ws : List (List Nat)) : inV (tx x) (ws.map tx) = decide (x ∈ ws) := by
  unfold inV
  rw [List.any_map]
  have e : (fun y => eqV y (tx x)) ∘ tx = fun y : List Nat => (y == x) := by
    funext y
    show (S y == S x) = (y == x)
    exact S_beq y x
  rw [e, Bool.eq_iff_iff, List.any_eq_true, decide_eq_true_eq]
  constructor
  · rintro ⟨y, hy, q⟩
    rw [← eq_of_beq q]
    exact hy
  · intro h
    exact ⟨x, h, beq_self_eq_true x⟩
theorem flat_tx (ws : List (List Nat)) : (ws.map tx).all flatV = true := by
  rw [List.all_map, List.all_eq_true]
  intro x _
  rfl
theorem nodup_app {ws : List (List Nat)} {x : List Nat} (h : ws.Nodup) (hx : x ∉ ws) : (ws ++ [x]).Nodup := by
  rw [List.nodup_append]
  refine ⟨h, List.nodup_cons.mpr ⟨List.not_mem_nil, List.nodup_nil⟩, fun a ha b hb e => ?_⟩
  rw [List.mem_singleton.mp hb] at e
  rw [e] at ha
  exact hx ha
theorem dp_texts {K : PySem.W.Frag} {H : Hp} : ∀ ws : List (List Nat), DpAll K H (ws.map tx) (ws.map fun l => PyData.str (S l))
  | [] => .nil
  | x :: r => .cons (.str (S x)) (dp_texts r)
theorem let_ok {l : List Nat} (h : Let l) : PyData.canLay0 (.str (S l)) = true := by
  rw [PyData.canLay0]
  unfold PyData.strOk
  show l.toArray.all (fun a => decide (a < 1114112)) = true
  rw [List.all_toArray, List.all_eq_true]
  intro c hc
  have q := h c hc
  exact decide_eq_true (by omega)
theorem lay_texts : ∀ ws : List (List Nat), (∀ x ∈ ws, Let x) → PyData.canLayAll0 (ws.map fun l => PyData.str (S l)) = true
  | [], _ => by simp [PyData.canLayAll0]
  | x :: r, h => by
    rw [List.map_cons, PyData.canLayAll0, let_ok (h x List.mem_cons_self), lay_texts r fun y hy => h y (List.mem_cons_of_mem _ hy)]
    rfl
theorem depth_texts : ∀ ws : List (List Nat), PyData.depthAll (ws.map fun l => PyData.str (S l)) = 0
  | [] => by simp [PyData.depthAll]
  | x :: r => by
    rw [List.map_cons, PyData.depthAll, depth_texts r, PyData.depth]
    rfl
theorem shaped_texts {ws : List (List Nat)} (h : ∀ x ∈ ws, Let x) : SeqAt.shaped (.list (ws.map fun l => PyData.str (S l))) = true := by
  unfold SeqAt.shaped
  rw [PyData.canLay0, lay_texts ws h, PyData.depth, depth_texts]
  rfl
theorem eqv_texts {ws : List (List Nat)} (h : ∀ x ∈ ws, Let x) : PyData.eqv (.list (ws.map fun l => PyData.str (S l))) (.list (ws.map fun l => PyData.str (S l))) = true :=
  PySem.SeqAt.eqv_refl _ (by rw [PyData.canLay0]; exact lay_texts ws h)
section
variable {P : Program} {w : World} {K : PySem.W.Frag} {mg : Str → Option Value} {base : Heap} {f fA fM fW fS fC fY fO fR : Addr} {fd fdA fdM fdW fdS fdC fdY fdO fdR : FuncData}
theorem scWords : FnScope ["_law_script", "_law_first", "_law_cell", "_law_signs_here", "_law_words_here", "_law_word_here", "_law_k", "_law_one"] ["_law_script", "_law_first"] (defScope sWords) := ⟨rfl, rfl, rfl, by decide +kernel, rfl, by decide +kernel, by decide +kernel⟩
def spWords (K : PySem.W.Frag) : Sp := fun vs H Q _ => ∃ (a : Addr) (ns : List Int) (first : Int), vs = [.ref a, .int first] ∧ SqL K H a (ns.map V.int) ∧ 0 ≤ first ∧
  ∀ (r : Addr) (ws : List (List Nat)) (H' : Hp), Same H H' → H r = none → H' r = some (.lst (ws.map tx)) → CodeOk ws → Q (.ref r) H'
theorem ok_words (F : FnP K "_law_words" sWords f fd) (A : Has K mg "_law_at" sAt ["_law_script", "_law_k"] fA fdA) (W : Has K mg "_law_word" sWord ["_law_cell", "_law_signs_here"] fW fdW) (M : Has K mg "_law_mixed" sMixed ["_law_cell", "_law_k"] fM fdM)
    (Z : Has K mg "_law_signs" sSigns ["_law_cell"] fS fdS) (C : Has K mg "_law_chain" sChain ["_law_script", "_law_first", "_law_signs_here"] fC fdC) (Y : Has K mg "_law_any_word" sAny ["_law_cell"] fY fdY) (O : Has K mg "_law_more" sMore ["_law_words_here", "_law_cell", "_law_signs_here"] fO fdO)
    (mR : mg "range" = none) (mL : mg "len" = none) : FnOk P w K mg base CX0 4 f fd ["_law_script", "_law_first"] (spWords K) := by
  have GW : FnOk P w K mg base CX0 3 fW fdW ["_law_cell", "_law_signs_here"] spWord := (ok_word W.F M mR mL).mono (by decide)
  have GM : FnOk P w K mg base CX0 3 fM fdM ["_law_cell", "_law_k"] spMixed := (ok_mixed M.F).mono (by decide)
  have GA : FnOk P w K mg base CX0 3 fA fdA ["_law_script", "_law_k"] (spAt K) := (ok_at A.F mL).mono (by decide)
  have GZ : FnOk P w K mg base CX0 3 fS fdS ["_law_cell"] spSigns := (ok_signs Z.F mR).mono (by decide)
  have GC : FnOk P w K mg base CX0 3 fC fdC ["_law_script", "_law_first", "_law_signs_here"] (spChain K) := ok_chain C.F A W M mR mL
  have GY : FnOk P w K mg base CX0 3 fY fdY ["_law_cell"] spAny := (ok_any Y.F mR).mono (by decide)
  have GO : FnOk P w K mg base CX0 3 fO fdO ["_law_words_here", "_law_cell", "_law_signs_here"] (spMore K) := ok_more O.F W M mR mL
  refine F.okN scWords (fun vs H Q E h => ?_) (fun cdv A' outer s H vs Q E hr h => ?_)
  · obtain ⟨a, ns, first, rfl, _⟩ := h
    rfl
  · obtain ⟨a, ns, first, rfl, hS, h0, q⟩ := h
    refine ⟨_, pss_cons (ps_set (i := 2) scWords.nd rfl (.inl rfl) (pe_call GA hr (by rfl) A.g A.F.kp A.b .nil pass0 (pa_cons (pv 0) (pa_cons (pv 1) pa_nil))))
      (pss_cons (ps_set (i := 3) scWords.nd rfl (.inl rfl) (pe_call GZ hr (by rfl) Z.g Z.F.kp Z.b .nil pass0 (pa_cons (pe_call GA hr (by rfl) A.g A.F.kp A.b .nil pass0 (pa_cons (pv 0) (pa_cons (pe_op op_add (pv 1) pe_int) pa_nil))) pa_nil)))
      (pss_cons (ps_set (i := 4) scWords.nd rfl (.inl rfl) (pe_lst pa_nil))
      (pss_cons (ps_if (pt_cmpR op_eq (pe_op op_mod (pe_op op_fdiv (pv 2) pe_int) pe_int) pe_int (nomark _))
        (pss_cons (ps_for PassesOwn.never rfl (pi_list (pe_call GC hr (by rfl) C.g C.F.kp C.b .nil pass0 (pa_cons (pv 0) (pa_cons (pv 1) (pa_cons (pv 3) pa_nil))))) (pg_name (i := 5) scWords.nd rfl (Or.inl rfl))
          (pss_one (ps_if (pt_cmpR op_notIn_seq (pv 5) (pv 4) (by rfl)) (pss_one (ps_expr (pe_bm PySem.F.plainAttrs_list PySem.F.slot_list_append PySem.F.type_list_append mt_append (pv 4) (pa_cons (pv 5) pa_nil)))) pss_nil)))
        (pss_one (ps_ret (pv 4)))) pss_nil)
      (pss_cons (ps_for PassesOwn.never rfl (pi_range1 (by rfl) mR (pa_cons (pe_ix ix_list (pe_lst (pa_cons pe_int (pa_cons pe_int (pa_cons pe_int (pa_cons pe_int (pa_cons pe_int (pa_cons pe_int (pa_cons pe_int (pa_cons pe_int (pa_cons pe_int (pa_cons pe_int pa_nil))))))))))) (pe_op op_mod (pv 2) pe_int) (fun _ _ => rfl)) pa_nil)) (pg_name (i := 6) scWords.nd rfl (Or.inl rfl))
        (pss_cons (ps_set (i := 7) scWords.nd rfl (.inl rfl) (pe_call GA hr (by rfl) A.g A.F.kp A.b .nil pass0 (pa_cons (pv 0) (pa_cons (pe_op op_add (pe_op op_add (pv 1) pe_int) (pe_op op_mod (pv 6) pe_int)) pa_nil))))
        (pss_cons (ps_set (i := 5) scWords.nd rfl (.inl rfl) (pe_call GW hr (by rfl) W.g W.F.kp W.b .nil pass0 (pa_cons (pe_call GM hr (by rfl) M.g M.F.kp M.b .nil pass0 (pa_cons (pv 7) (pa_cons (pv 6) pa_nil))) (pa_cons (pv 3) pa_nil))))
        (C8.pss_cut (ps_if (pt_cmpR op_eq (pe_op op_mod (pe_op op_fdiv (pv 2) pe_int) pe_int) pe_int (nomark _))
            (pss_one (ps_set (i := 5) scWords.nd rfl (.inl rfl) (pe_call GY hr (by rfl) Y.g Y.F.kp Y.b .nil pass0 (pa_cons (pe_op op_add (pv 7) (pv 6)) pa_nil))))
            (pss_one (ps_if (PW.pt (pw_and (pt_cmpR (op_neD hr.units) (pv 4) (pe_lst pa_nil) (nomark _)) (pw_and1 (pt_cmpR op_eq (pe_op op_mod (pe_op op_fdiv (pe_call GM hr (by rfl) M.g M.F.kp M.b .nil pass0 (pa_cons (pv 7) (pa_cons (pv 6) pa_nil))) pe_int) pe_int) pe_int (nomark _)))))
              (pss_one (ps_set (i := 5) scWords.nd rfl (.inl rfl) (pe_call GO hr (by rfl) O.g O.F.kp O.b .nil pass0 (pa_cons (pv 4) (pa_cons (pe_call GM hr (by rfl) M.g M.F.kp M.b .nil pass0 (pa_cons (pv 7) (pa_cons (pe_op op_add (pv 6) pe_int) pa_nil))) (pa_cons (pv 3) pa_nil)))))) pss_nil)))
          (pss_one (ps_if (pt_cmpR op_notIn_seq (pv 5) (pv 4) (by rfl)) (pss_one (ps_expr (pe_bm PySem.F.plainAttrs_list PySem.F.slot_list_append PySem.F.type_list_append mt_append (pv 4) (pa_cons (pv 5) pa_nil)))) pss_nil))))))
      (pss_one (ps_ret (pv 4))))))), ?_⟩
    refine ⟨_, rfl, _, rfl, a, ns, first, rfl, hS, h0, fun c => ?_⟩
    refine ⟨_, rfl, _, rfl, _, _, rfl, rfl, a, ns, _, rfl, hS, by omega, fun c2 => ⟨c2, rfl, fun l H1 sm1 hl l1 l2 => ?_⟩⟩
    refine ⟨Nat.zero_le _, fun b hb => ?_⟩
    have s2 : Same H (upd H1 b (.lst [])) := sm1.trans (same_upd hb)
    have hHb : H b = none := sm1.free hb
    refine ⟨_, rfl, _, _, rfl, rfl, ⟨by decide, by decide⟩, _, _, rfl, rfl, (by show (0 : Int) < 4; decide), rfl, _, rfl, ite2 (fun _ => ?_) (fun _ => ?_)⟩
    · -- the chain
      refine ⟨_, rfl, _, rfl, _, rfl, a, ns, first, l, rfl, s2.seq hS, h0, hl, l1, by omega, fun r zs H2 sm2 nr eR hz hzw => ?_⟩
      have nrb : r ≠ b := fun e => by
        rw [e, upd_same] at nr
        cases nr
      refine ⟨r, rfl, ⟨_, seqL eR⟩, for_list (K := K) (a := r) (xs := zs.map tx) (fun i σ H3 => Same H H3 ∧ H3 r = some (.lst (zs.map tx)) ∧ ∃ (ws : List (List Nat)) (kv : Option V), σ = [some (.ref a), some (.int first), some (.int c), some (tx l), some (.ref b), kv, none, none] ∧ H3 b = some (.lst (ws.map tx)) ∧ ws.length ≤ i ∧ ws.Nodup ∧ ∀ x ∈ ws, WordOk x) ?_ ?_ ?_ ?_⟩
      · exact ⟨s2.trans sm2, eR, [], none, rfl, sm2 _ _ upd_same, Nat.le_refl _, List.nodup_nil, fun x hx => nomatch hx⟩
      · intro i σ H3 _ hh
        exact seqL hh.2.1
      · rintro i x σ H3 hx ⟨sm3, er3, ws, kv, rfl, eb, wl, wn, wo⟩
        have hiz : i < zs.length := by
          have := (List.getElem?_eq_some_iff.mp hx).1
          rw [List.length_map] at this
          exact this
        have hxe : x = tx zs[i] := by
          rw [List.getElem?_map, List.getElem?_eq_getElem hiz] at hx
          exact (Option.some.inj hx).symm
        subst hxe
        refine ⟨_, rfl, _, rfl, b, _, rfl, .inl (seqL eb), rfl, flat_tx ws, _, rfl, ?_⟩
        rw [inV_tx]
        refine ite2 (fun hn => ?_) (fun hn => ?_)
        · have hni : zs[i] ∉ ws := by
            intro z
            rw [decide_eq_true z] at hn
            exact Bool.noConfusion hn
          refine ⟨_, rfl, .inl ⟨rfl, _, seqL eb⟩, _, rfl, b, _, _, rfl, rfl, eb, by rw [List.length_map]; exact small1000 (by omega), ?_⟩
          refine ⟨fun d o e => ?_, by rw [upd_ne nrb]; exact er3, ws ++ [zs[i]], _, rfl, ?_, by rw [List.length_append]; exact Nat.succ_le_succ wl, nodup_app wn hni, fun z hz' => ?_⟩
          · rw [upd_ne (ne_of_none e hHb)]
            exact sm3 _ _ e
          · rw [upd_same, List.map_append]
            rfl
          · rcases List.mem_append.mp hz' with z1 | z1
            · exact wo z z1
            · rw [List.mem_singleton.mp z1]
              exact hzw _ (List.getElem_mem hiz)
        · exact ⟨sm3, er3, ws, _, rfl, eb, Nat.le_succ_of_le wl, wn, wo⟩
      · rintro σ H3 ⟨sm3, er3, ws, kv, rfl, eb, wl, wn, wo⟩
        rw [List.length_map] at wl
        exact ⟨_, rfl, q b ws H3 sm3 hHb eb ⟨by omega, wn, wo⟩⟩
    · -- the drawn words
      refine ⟨by show 10 ≤ sizeLine; decide, fun p hp => ⟨_, rfl, _, _, rfl, rfl, (by show (0 : Int) < 10; decide), ?_⟩⟩
      obtain ⟨m, hm, em⟩ := at_map V.int [2, 3, 4, 5, 3, 2, 6, 1, 0, 12] (i := c % 10) (Int.emod_nonneg _ (by decide)) (Int.emod_lt_of_pos _ (by decide))
      have hm1 : 0 ≤ m ∧ m ≤ 12 := by
        simp only [List.mem_cons, List.not_mem_nil, or_false] at hm
        omega
      have s3 : Same (upd H1 b (.lst [])) (upd (upd H1 b (.lst [])) p (.lst ([2, 3, 4, 5, 3, 2, 6, 1, 0, 12].map V.int))) := same_upd hp
      refine ⟨p, _, _, _, rfl, rfl, seqL upd_same, em, m, rfl, by omega, by omega, ?_⟩
      refine for_range (lo := 0) (n := m.toNat) (fun i σ H3 => Same H H3 ∧ ∃ (ws : List (List Nat)) (kv5 kv6 kv7 : Option V), σ = [some (.ref a), some (.int first), some (.int c), some (tx l), some (.ref b), kv5, kv6, kv7] ∧ H3 b = some (.lst (ws.map tx)) ∧ ws.length ≤ i ∧ ws.Nodup ∧ ∀ x ∈ ws, WordOk x) ?_ ?_ ?_
      · exact ⟨s2.trans s3, [], none, none, none, rfl, s3 _ _ upd_same, Nat.le_refl _, List.nodup_nil, fun x hx => nomatch hx⟩
      · rintro i σ H3 hi ⟨sm3, ws, kv5, kv6, kv7, rfl, eb, wl, wn, wo⟩
        refine ⟨_, rfl, _, rfl, _, _, rfl, rfl, _, rfl, _, _, rfl, rfl, (by show (0 : Int) < 6; decide), _, _, rfl, rfl, a, ns, _, rfl, sm3.seq hS, by omega, fun one => ?_⟩
        refine ⟨_, rfl, _, rfl, one, _, rfl, fun v _ _ => ⟨_, rfl, v, l, rfl, hl, l1, by omega, fun y H4 sm4 hy => ?_⟩⟩
        -- the word is one
        refine ⟨fun σ H5 => Same H H5 ∧ ∃ (z : List Nat) (kv6 kv7 : Option V), σ = [some (.ref a), some (.int first), some (.int c), some (tx l), some (.ref b), some (tx z), kv6, kv7] ∧ H5 b = some (.lst (ws.map tx)) ∧ WordOk z, ?_, ?_⟩
        · refine ⟨_, rfl, _, _, rfl, rfl, ⟨by decide, by decide⟩, _, _, rfl, rfl, (by show (0 : Int) < 4; decide), rfl, _, rfl, ite2 (fun _ => ?_) (fun _ => ?_)⟩
          · refine ⟨_, rfl, _, rfl, _, _, rfl, rfl, _, rfl, fun z hz => ?_⟩
            exact ⟨sm3.trans sm4, z, _, _, rfl, sm4 _ _ eb, hz⟩
          · refine ⟨_, rfl, Nat.zero_le _, fun e he => ?_⟩
            have s5 : Same H4 (upd H4 e (.lst [])) := same_upd he
            refine ⟨.list (ws.map fun l => PyData.str (S l)), .list [], .lst (seqL (s5 _ _ (sm4 _ _ eb))) (dp_texts ws), .lst (seqL upd_same) .nil, shaped_texts (fun x hx => (wo x hx).2.2), by decide +kernel, _, rfl, ?_⟩
            refine ite2 (fun hne => ?_) (fun _ => ?_)
            · have hws : 1 ≤ ws.length := by
                cases ws with
                | nil =>
                  have e0 : (!PyData.eqv (.list ([].map fun l => PyData.str (S l))) (.list [])) = false := by decide +kernel
                  rw [e0] at hne
                  exact absurd hne Bool.false_ne_true
                | cons x r => exact Nat.succ_le_succ (Nat.zero_le _)
              refine ⟨_, rfl, _, rfl, one, _, rfl, fun v2 _ _ => ⟨_, _, rfl, rfl, ⟨by decide, by decide⟩, _, _, rfl, rfl, (by show (0 : Int) < 2; decide), rfl, _, rfl, ite2 (fun _ => ?_) (fun _ => ?_)⟩⟩
              · refine ⟨_, rfl, _, rfl, _, rfl, _, _, rfl, rfl, one, _, rfl, fun v3 _ _ => ⟨_, rfl, b, ws, v3, l, rfl, seqL (s5 _ _ (sm4 _ _ eb)), hws, wo, hl, l1, by omega, fun z H6 sm6 hz => ?_⟩⟩
                exact ⟨((sm3.trans sm4).trans s5).trans sm6, z, _, _, rfl, sm6 _ _ (s5 _ _ (sm4 _ _ eb)), hz⟩
              · exact ⟨(sm3.trans sm4).trans s5, y, _, _, rfl, s5 _ _ (sm4 _ _ eb), hy⟩
            · exact ⟨(sm3.trans sm4).trans s5, y, _, _, rfl, s5 _ _ (sm4 _ _ eb), hy⟩
        · rintro σ H5 ⟨sm5, z, kv6, kv7, rfl, eb5, hz⟩
          refine ⟨_, rfl, _, rfl, b, _, rfl, .inl (seqL eb5), rfl, flat_tx ws, _, rfl, ?_⟩
          rw [inV_tx]
          refine ite2 (fun hn => ?_) (fun hn => ?_)
          · have hni : z ∉ ws := by
              intro z'
              rw [decide_eq_true z'] at hn
              exact Bool.noConfusion hn
            refine ⟨_, rfl, .inl ⟨rfl, _, seqL eb5⟩, _, rfl, b, _, _, rfl, rfl, eb5, by rw [List.length_map]; exact small1000 (by omega), ?_⟩
            refine ⟨fun d o e => ?_, ws ++ [z], _, _, _, rfl, ?_, by rw [List.length_append]; exact Nat.succ_le_succ wl, nodup_app wn hni, fun z' hz' => ?_⟩
            · rw [upd_ne (ne_of_none e hHb)]
              exact sm5 _ _ e
            · rw [upd_same, List.map_append]
              rfl
            · rcases List.mem_append.mp hz' with z1 | z1
              · exact wo z' z1
              · rw [List.mem_singleton.mp z1]
                exact hz
          · exact ⟨sm5, ws, _, _, _, rfl, eb5, Nat.le_succ_of_le wl, wn, wo⟩
      · rintro σ H3 ⟨sm3, ws, kv5, kv6, kv7, rfl, eb, wl, wn, wo⟩
        exact ⟨_, rfl, q b ws H3 sm3 hHb eb ⟨by omega, wn, wo⟩⟩
end
theorem sum_ten : ∀ {ys : List (List Nat)}, (∀ y ∈ ys, y.length ≤ 10) → (ys.map (·.length)).sum ≤ 10 * ys.length
  | [], _ => Nat.le_refl _
  | x :: r, h => by
    have i := sum_ten (ys := r) fun y hy => h y (List.mem_cons_of_mem _ hy)
    have j := h x List.mem_cons_self
    rw [List.map_cons, List.sum_cons, List.length_cons]
    omega
theorem flat_ten {ys : List (List Nat)} (h : ∀ y ∈ ys, y.length ≤ 10) : ys.flatten.length ≤ 10 * ys.length := by
  rw [List.length_flatten]
  exact sum_ten h
theorem join_room {ys : List (List Nat)} (h : ∀ y ∈ ys, y.length ≤ 10) (hl : ys.length ≤ 1000) : ((ys.map S).map (·.length)).sum + (ys.map S).length * (Str.ofString "").length ≤ 16777216 := by
  rw [lenS, empLen]
  have := sum_ten h
  omega
theorem q_list (ws : List (List Nat)) : ws.map tx ++ [V.str (Str.ofString "q")] = ((ws ++ [[113]]).map S).map V.str := by
  rw [show Str.ofString "q" = S [113] by decide +kernel, List.map_append, List.map_append, ← map_tx]
  rfl
section
variable {P : Program} {w : World} {K : PySem.W.Frag} {mg : Str → Option Value} {base : Heap} {f fA fM fR : Addr} {fd fdA fdM fdR : FuncData}
theorem scRow : FnScope ["_law_script", "_law_first", "_law_words_here", "_law_most", "_law_row_here", "_law_k"] ["_law_script", "_law_first", "_law_words_here", "_law_most"] (defScope sRow) := ⟨rfl, rfl, rfl, by decide +kernel, rfl, by decide +kernel, by decide +kernel⟩
def spRow (K : PySem.W.Frag) : Sp := fun vs H Q _ => ∃ (a : Addr) (ns : List Int) (first : Int) (b : Addr) (ws : List (List Nat)) (most : Int), vs = [.ref a, .int first, .ref b, .int most] ∧ SqL K H a (ns.map V.int) ∧ 0 ≤ first ∧ SqL K H b (ws.map tx) ∧ (∀ x ∈ ws, WordOk x) ∧ 0 ≤ most ∧ most ≤ 100 ∧
  ∀ (r : Addr) (ys : List (List Nat)) (H' : Hp), Same H H' → H r = none → H' r = some (.lst (ys.map tx)) → (ys.length : Int) ≤ most → (∀ y ∈ ys, y ∈ ws) → Q (.ref r) H'
theorem ok_row (F : FnP K "_law_row" sRow f fd) (A : Has K mg "_law_at" sAt ["_law_script", "_law_k"] fA fdA) (M : Has K mg "_law_mixed" sMixed ["_law_cell", "_law_k"] fM fdM) (mR : mg "range" = none) (mL : mg "len" = none) :
    FnOk P w K mg base CX0 2 f fd ["_law_script", "_law_first", "_law_words_here", "_law_most"] (spRow K) := by
  have GM : FnOk P w K mg base CX0 1 fM fdM ["_law_cell", "_law_k"] spMixed := ok_mixed M.F
  have GA : FnOk P w K mg base CX0 1 fA fdA ["_law_script", "_law_k"] (spAt K) := ok_at A.F mL
  refine F.okN scRow (fun vs H Q E h => ?_) (fun cdv A' outer s H vs Q E hr h => ?_)
  · obtain ⟨a, ns, first, b, ws, most, rfl, _⟩ := h
    rfl
  · obtain ⟨a, ns, first, b, ws, most, rfl, hS, h0, hB, hw, m0, m1, q⟩ := h
    refine ⟨_, pss_cons (ps_set (i := 4) scRow.nd rfl (.inl rfl) (pe_lst pa_nil))
      (C8.pss_cut (ps_if (pt_cmpR (op_neD hr.units) (pv 2) (pe_lst pa_nil) (nomark _))
        (pss_one (ps_for PassesOwn.never rfl (pi_range1 (by rfl) mR (pa_cons (pe_op op_mod (pe_call GA hr (by rfl) A.g A.F.kp A.b .nil pass0 (pa_cons (pv 0) (pa_cons (pv 1) pa_nil))) (pe_op op_add (pv 3) pe_int)) pa_nil)) (pg_name (i := 5) scRow.nd rfl (Or.inl rfl))
          (pss_one (ps_expr (pe_bm PySem.F.plainAttrs_list PySem.F.slot_list_append PySem.F.type_list_append mt_append (pv 4)
            (pa_cons (pe_ix ix_list (pv 2) (pe_op op_mod (pe_op op_fdiv (pe_call GM hr (by rfl) M.g M.F.kp M.b .nil pass0 (pa_cons (pe_call GA hr (by rfl) A.g A.F.kp A.b .nil pass0 (pa_cons (pv 0) (pa_cons (pe_op op_add (pe_op op_add (pv 1) pe_int) (pe_op op_mod (pv 5) pe_int)) pa_nil))) (pa_cons (pv 5) pa_nil))) pe_int) (pe_callB call_len_seq (by rfl) mL boot_len (pa_cons (pv 2) pa_nil))) (fun _ _ => rfl)) pa_nil)))))) pss_nil)
      (pss_one (ps_ret (pv 4)))), ?_⟩
    refine ⟨Nat.zero_le _, fun r hr0 => ?_⟩
    have s1 : Same H (upd H r (.lst [])) := same_upd hr0
    refine ⟨fun σ H3 => Same H H3 ∧ ∃ (ys : List (List Nat)) (kv : Option V), σ = [some (.ref a), some (.int first), some (.ref b), some (.int most), some (.ref r), kv] ∧ H3 r = some (.lst (ys.map tx)) ∧ (ys.length : Int) ≤ most ∧ ∀ y ∈ ys, y ∈ ws, ?_, ?_⟩
    · refine ⟨_, rfl, Nat.zero_le _, fun e he => ?_⟩
      have s5 : Same (upd H r (.lst [])) (upd (upd H r (.lst [])) e (.lst [])) := same_upd he
      refine ⟨.list (ws.map fun l => PyData.str (S l)), .list [], .lst ((s1.trans s5).seq hB) (dp_texts ws), .lst (seqL upd_same) .nil, shaped_texts (fun x hx => (hw x hx).2.2), by decide +kernel, _, rfl, ite2 (fun hne => ?_) (fun _ => ?_)⟩
      · have hws : 1 ≤ ws.length := by
          cases ws with
          | nil =>
            have e0 : (!PyData.eqv (.list ([].map fun l => PyData.str (S l))) (.list [])) = false := by decide +kernel
            rw [e0] at hne
            exact absurd hne Bool.false_ne_true
          | cons x r => exact Nat.succ_le_succ (Nat.zero_le _)
        refine ⟨_, rfl, _, rfl, a, ns, first, rfl, (s1.trans s5).seq hS, h0, fun v => ⟨_, rfl, _, _, rfl, rfl, _, _, rfl, rfl, by omega, _, rfl, ?_⟩⟩
        have b1 := Int.emod_nonneg v (show most + 1 ≠ 0 by omega)
        have b2 := Int.emod_lt_of_pos v (show (0 : Int) < most + 1 by omega)
        refine ⟨by omega, by omega, ?_⟩
        refine for_range (lo := 0) (n := (v % (most + 1)).toNat) (fun i σ H3 => Same H H3 ∧ ∃ (ys : List (List Nat)) (kv : Option V), σ = [some (.ref a), some (.int first), some (.ref b), some (.int most), some (.ref r), kv] ∧ H3 r = some (.lst (ys.map tx)) ∧ ys.length = i ∧ ∀ y ∈ ys, y ∈ ws) ?_ ?_ ?_
        · exact ⟨s1.trans s5, [], none, rfl, s5 _ _ upd_same, rfl, fun y hy => nomatch hy⟩
        · rintro i σ H3 hi ⟨sm3, ys, kv, rfl, eR, el, hy⟩
          have en : (ws.map tx).length = ws.length := List.length_map _
          refine ⟨_, rfl, .inl ⟨rfl, _, seqL eR⟩, ?_⟩
          refine ⟨_, rfl, _, rfl, _, rfl, _, _, rfl, rfl, _, rfl, _, _, rfl, rfl, (by show (0 : Int) < 5; decide), _, _, rfl, rfl, a, ns, _, rfl, sm3.seq hS, by omega, fun c => ?_⟩
          refine ⟨_, rfl, c, _, rfl, fun u u0 u1 => ?_⟩
          obtain ⟨z, hz, ez⟩ := at_map tx ws (i := u / 16 % (ws.length : Int)) (Int.emod_nonneg _ (by omega)) (Int.emod_lt_of_pos _ (by omega))
          refine ⟨_, _, rfl, rfl, ⟨by decide, by decide⟩, _, rfl, b, _, rfl, .inl (sm3.seq hB), _, _, rfl, rfl, (by show (0 : Int) < ((ws.map tx).length : Int); rw [en]; omega), b, _, _, tx z, rfl, rfl, sm3.seq hB, by rw [en]; exact ez, ?_⟩
          refine ⟨r, _, _, rfl, rfl, eR, by rw [List.length_map]; exact small1000 (by omega), fun d o e => ?_, ys ++ [z], _, rfl, ?_, by rw [List.length_append, el]; rfl, fun y hy' => ?_⟩
          · rw [upd_ne (ne_of_none e hr0)]
            exact sm3 _ _ e
          · rw [upd_same, List.map_append]
            rfl
          · rcases List.mem_append.mp hy' with z1 | z1
            · exact hy y z1
            · rw [List.mem_singleton.mp z1]
              exact hz
        · rintro σ H3 ⟨sm3, ys, kv, rfl, eR, el, hy⟩
          exact ⟨sm3, ys, kv, rfl, eR, by omega, hy⟩
      · exact ⟨s1.trans s5, [], none, rfl, s5 _ _ upd_same, m0, fun y hy => nomatch hy⟩
    · rintro σ H3 ⟨sm3, ys, kv, rfl, eR, el, hy⟩
      exact ⟨_, rfl, q r ys H3 sm3 hr0 eR el hy⟩
end
/-! ### how many partings: the mirror -/
/-- the word stands at the head of the rest -/
def hit (w r : List Nat) : Bool := TL.pre w r
theorem hit_iff {w r : List Nat} : hit w r = true ↔ r.take w.length = w := by
  unfold hit TL.pre
  exact beq_iff_eq
theorem hit_len {w r : List Nat} (h : hit w r = true) : w.length ≤ r.length := by
  have e := congrArg List.length (hit_iff.mp h)
  rw [List.length_take] at e
  omega
/-- what a word adds at a place, L: the counts behind the place -/
def adds (r : List Nat) (L : List Int) (w : List Nat) : Int := if hit w r = true then L.getD (w.length - 1) 0 else 0
def cnt (ws : List (List Nat)) : List Nat → List Int
  | [] => [1]
  | c :: r => (ws.map (adds (c :: r) (cnt ws r))).sum :: cnt ws r
theorem cnt_len (ws : List (List Nat)) : ∀ t : List Nat, (cnt ws t).length = t.length + 1
  | [] => rfl
  | c :: r => congrArg Nat.succ (cnt_len ws r)
theorem cnt_drop (ws : List (List Nat)) {t : List Nat} {p : Nat} (h : p < t.length) : cnt ws (t.drop p) = (ws.map (adds (t.drop p) (cnt ws (t.drop (p + 1))))).sum :: cnt ws (t.drop (p + 1)) := by
  rw [List.drop_eq_getElem_cons h]
  rfl
theorem perm_sum {l m : List Int} (h : l.Perm m) : l.sum = m.sum := by
  induction h with
  | nil => rfl
  | cons x _ ih => rw [List.sum_cons, List.sum_cons, ih]
  | swap x y l => rw [List.sum_cons, List.sum_cons, List.sum_cons, List.sum_cons]; omega
  | trans _ _ a b => exact a.trans b
theorem cnt_perm {ws vs : List (List Nat)} (h : ws.Perm vs) : ∀ t : List Nat, cnt ws t = cnt vs t
  | [] => rfl
  | c :: r => by
    have ih := cnt_perm h r
    show (ws.map (adds (c :: r) (cnt ws r))).sum :: cnt ws r = (vs.map (adds (c :: r) (cnt vs r))).sum :: cnt vs r
    rw [ih, perm_sum (h.map _)]
theorem sum_filter (r : List Nat) (L : List Int) : ∀ ws : List (List Nat), ((ws.filter fun w => hit w r).map fun w => L.getD (w.length - 1) 0).sum = (ws.map (adds r L)).sum
  | [] => rfl
  | x :: ws => by
    have ih := sum_filter r L ws
    rw [List.map_cons, List.sum_cons, ← ih]
    by_cases h : hit x r = true
    · rw [List.filter_cons_of_pos (p := fun w => hit w r) h, List.map_cons, List.sum_cons]
      unfold adds
      rw [if_pos h]
    · rw [List.filter_cons_of_neg (p := fun w => hit w r) h]
      unfold adds
      rw [if_neg h, Int.zero_add]
theorem take_sum {g : List Nat → Int} {ws : List (List Nat)} {i : Nat} (h : i < ws.length) : ((ws.take (i + 1)).map g).sum = ((ws.take i).map g).sum + g ws[i] := by
  rw [List.take_add_one, List.getElem?_eq_getElem h]
  show ((ws.take i ++ [ws[i]]).map g).sum = _
  rw [List.map_append, List.sum_append]
  show _ + (g ws[i] + 0) = _
  omega
/-! ### the model's startswith and slices -/
theorem start3 {t w : List Nat} (hw : w ≠ []) (p : Nat) : Txt.startswith3 (S t) (S w) (p : Int) = hit w (t.drop p) := by
  have e : PySem.fromIndex (S t).length (p : Int) = p := by
    unfold PySem.fromIndex
    rw [if_neg (by omega)]
    omega
  rw [Bool.eq_iff_iff]
  have h := TL.at_iff (x := S t) (y := S w) hw p
  unfold hit
  rw [← h]
  unfold Txt.startswith3
  rw [e, Bool.and_eq_true, decide_eq_true_eq]
  rfl
theorem slice_eq {t w : List Nat} (p : Nat) : decide (V.str (cutS (S t) (some (p : Int)) (some ((p : Int) + (w.length : Int)))) = V.str (S w)) = hit w (t.drop p) := by
  rw [cut_mid (by omega) (by omega), Bool.eq_iff_iff, decide_eq_true_eq, hit_iff]
  have e1 : ((p : Int) + (w.length : Int)).toNat - ((p : Int)).toNat = w.length := by omega
  have e2 : ((p : Int)).toNat = p := by omega
  rw [e1, e2]
  constructor
  · intro h
    exact S_inj (V.str.inj h)
  · intro h
    rw [h]
/-! ### the counts as they lie while they are reckoned -/
theorem zeros_get {p : Nat} {L : List Int} {k : Nat} (z : Int) (hk : 1 ≤ k) (h : k - 1 < L.length) : ((List.replicate p (0 : Int) ++ (z :: L)).map V.int)[p + k]? = some (V.int (L.getD (k - 1) 0)) := by
  rw [List.getElem?_map, List.getElem?_append_right (by rw [List.length_replicate]; omega), List.length_replicate]
  have e : p + k - p = (k - 1) + 1 := by omega
  rw [e, List.getElem?_cons_succ, List.getElem?_eq_getElem h, List.getD_eq_getElem?_getD, List.getElem?_eq_getElem h]
  rfl
theorem zeros_at {p : Nat} {L : List Int} (z : Int) : ((List.replicate p (0 : Int) ++ (z :: L)).map V.int)[p]? = some (V.int z) := by
  rw [List.getElem?_map, List.getElem?_append_right (by rw [List.length_replicate]; omega), List.length_replicate, Nat.sub_self]
  rfl
theorem zeros_set {p : Nat} {L : List Int} (z y : Int) : ((List.replicate p (0 : Int) ++ (z :: L)).map V.int).set p (V.int y) = (List.replicate p (0 : Int) ++ (y :: L)).map V.int := by
  rw [List.map_append, List.map_append, List.set_append_right _ _ (by rw [List.length_map, List.length_replicate]; omega), List.length_map, List.length_replicate, Nat.sub_self]
  rfl
theorem zeros_succ (p : Nat) (L : List Int) : List.replicate (p + 1) (0 : Int) ++ L = List.replicate p (0 : Int) ++ (0 :: L) := by
  rw [List.replicate_succ', List.append_assoc]
  rfl
theorem ixN_nat {n j : Nat} (h : j < n) : ixN n (j : Int) = some j := by
  unfold ixN
  rw [if_pos (by omega), if_pos (by omega), Int.toNat_natCast]
theorem flat_rep (n : Nat) (z : V) : (List.replicate n [z]).flatten = List.replicate n z := by
  induction n with
  | zero => rfl
  | succ n ih =>
    rw [List.replicate_succ, List.flatten_cons, ih, List.replicate_succ]
    rfl
/-! ### how many partings a rest has -/
def cntH (ws : List (List Nat)) (r : List Nat) : Int := (cnt ws r).getD 0 0
theorem cnt_at {ws : List (List Nat)} : ∀ {t : List Nat} {j : Nat}, j ≤ t.length → (cnt ws t)[j]? = some (cntH ws (t.drop j))
  | [], 0, _ => rfl
  | [], j + 1, h => absurd h (Nat.not_succ_le_zero j)
  | _ :: _, 0, _ => rfl
  | c :: t, j + 1, h => cnt_at (t := t) (j := j) (Nat.le_of_succ_le_succ h)
theorem sum_nn : ∀ {l : List Int}, (∀ x ∈ l, 0 ≤ x) → 0 ≤ l.sum
  | [], _ => Int.le_refl 0
  | x :: l, h => by
    rw [List.sum_cons]
    have h1 := h x List.mem_cons_self
    have h2 := sum_nn (l := l) fun y hy => h y (List.mem_cons_of_mem _ hy)
    omega
theorem cnt_nn (ws : List (List Nat)) : ∀ t : List Nat, ∀ x ∈ cnt ws t, 0 ≤ x
  | [], x, hx => by
    rw [List.mem_singleton.mp hx]
    decide
  | c :: t, x, hx => by
    have ih := cnt_nn ws t
    rcases List.mem_cons.mp hx with e | m
    · rw [e]
      refine sum_nn fun y hy => ?_
      obtain ⟨w, _, rfl⟩ := List.mem_map.mp hy
      unfold adds
      by_cases q : hit w (c :: t) = true
      · rw [if_pos q, List.getD_eq_getElem?_getD]
        cases e : (cnt ws t)[w.length - 1]? with
        | none => exact Int.le_refl 0
        | some z => exact ih z (List.mem_of_getElem? e)
      · rw [if_neg q]
        exact Int.le_refl 0
    · exact ih x m
theorem cntH_nn (ws : List (List Nat)) (r : List Nat) : 0 ≤ cntH ws r := by
  have h := cnt_at (ws := ws) (t := r) (j := 0) (Nat.zero_le _)
  exact cnt_nn ws r _ (List.mem_of_getElem? h)
/-- how many partings go on with this word -/
def gain (ws : List (List Nat)) (r x : List Nat) : Int := cntH ws (r.drop x.length)
theorem cntH_sum {ws : List (List Nat)} (hw : ∀ x ∈ ws, 1 ≤ x.length) : ∀ {r : List Nat}, r ≠ [] → cntH ws r = ((ws.filter fun x => hit x r).map (gain ws r)).sum
  | [], h => absurd rfl h
  | c :: r, _ => by
    show (ws.map (adds (c :: r) (cnt ws r))).sum = _
    rw [← sum_filter]
    refine congrArg List.sum (List.map_congr_left fun x hx => ?_)
    obtain ⟨m1, m2⟩ := (List.mem_filter (p := fun x => hit x (c :: r))).mp hx
    have h1 := hw x m1
    have h2 : x.length ≤ r.length + 1 := hit_len m2
    unfold gain
    rw [List.getD_eq_getElem?_getD, cnt_at (by omega)]
    obtain ⟨n, hn⟩ : ∃ n, x.length = n + 1 := ⟨x.length - 1, by omega⟩
    rw [hn]
    rfl
theorem small1000_of {n : Nat} (h : n ≤ 10000) : n < sizeLine := Nat.lt_of_le_of_lt h (by decide)
theorem small_T {x : List Nat} (h : x.length ≤ 100000) : (S x).length ≤ sizeLine := by rw [S_len]; exact Nat.le_trans h (by decide)
theorem size_T {n : Nat} (h : n ≤ 100000) : n ≤ sizeLine := Nat.le_trans h (by decide)
theorem small_S {x : List Nat} (h : x.length ≤ 1000) : (S x).length ≤ sizeLine := by rw [S_len]; exact size1000 h
theorem len_v (w : List Nat) : V.int ((S w).length : Int) = V.int (w.length : Int) := congrArg (fun n : Nat => V.int (n : Int)) (S_len w)
section
variable {P : Program} {w : World} {K : PySem.W.Frag} {mg : Str → Option Value} {base : Heap} {f fW : Addr} {fd fdW : FuncData}
/-- the counts, told as a new list -/
def spCnt (K : PySem.W.Frag) : Sp := fun vs H Q _ => ∃ (b : Addr) (ws : List (List Nat)) (t : List Nat), vs = [.ref b, tx t] ∧ SqL K H b (ws.map tx) ∧ (∀ x ∈ ws, WordOk x) ∧ ws.length ≤ 12 ∧ t.length ≤ 20000 ∧
  ∀ (g : Addr) (H' : Hp), Same H H' → H g = none → H' g = some (.lst ((cnt ws t).map V.int)) → Q (.ref g) H'
theorem scLawCounts : FnScope ["_law_words_here", "_law_text", "_law_found", "_law_place", "_law_word_here"] ["_law_words_here", "_law_text"] (defScope sLawCounts) := ⟨rfl, rfl, rfl, by decide +kernel, rfl, by decide +kernel, by decide +kernel⟩
theorem ok_lawCounts (F : FnP K "_law_counts" sLawCounts f fd) (mR : mg "range" = none) (mV : mg "reversed" = none) (mL : mg "len" = none) : FnOk P w K mg base CX0 1 f fd ["_law_words_here", "_law_text"] (spCnt K) := by
  refine F.okN scLawCounts (fun vs H Q E h => ?_) (fun cdv A' outer s H vs Q E hr h => ?_)
  · obtain ⟨b, ws, t, rfl, _⟩ := h
    rfl
  · obtain ⟨b, ws, t, rfl, hB, hw, hn, ht, q⟩ := h
    refine ⟨_, pss_cons (ps_set (i := 2) scLawCounts.nd rfl (.inl rfl) (pe_op op_cat (pe_op op_rep (pe_lst (pa_cons pe_int pa_nil)) (pe_callB call_len_str (by rfl) mL boot_len (pa_cons (pv 1) pa_nil))) (pe_lst (pa_cons pe_int pa_nil))))
      (pss_cons (ps_for PassesOwn.never rfl (pi_revR (by rfl) mV (prg_1 (by rfl) mR (pe_callB call_len_str (by rfl) mL boot_len (pa_cons (pv 1) pa_nil)))) (pg_name (i := 3) scLawCounts.nd rfl (Or.inl rfl))
        (pss_one (ps_for PassesOwn.never rfl (pi_list (pv 0)) (pg_name (i := 4) scLawCounts.nd rfl (Or.inl rfl))
          (pss_one (ps_if (pt_cmpR op_eq (pe_slice sl_str (pv 1) (po_some (pv 3)) (po_some (pe_op op_add (pv 3) (pe_callB call_len_str (by rfl) mL boot_len (pa_cons (pv 4) pa_nil))))) (pv 4) (nomark _))
            (pss_one (ps_asg (pe_op op_add (pe_ix ix_list (pv 2) (pv 3) (fun _ _ => rfl)) (pe_ix ix_list (pv 2) (pe_op op_add (pv 3) (pe_callB call_len_str (by rfl) mL boot_len (pa_cons (pv 4) pa_nil))) (fun _ _ => rfl))) (pg_sub (pv 2) (pv 3) set_list))) pss_nil)))))
      (pss_one (ps_ret (pv 2)))), ?_⟩
    have zt : (S t).length ≤ sizeLine := small_T (by omega)
    have lt : (S t).length = t.length := S_len t
    -- found
    refine ⟨by show 1 ≤ sizeLine; decide, fun p1 hp1 => ⟨_, rfl, S t, rfl, zt, p1, _, [V.int 0], rfl, rfl, upd_same, by omega, by omega, by show 1 * _ ≤ sizeLine; rw [Nat.one_mul, Int.toNat_natCast, lt]; exact size_T (by omega), fun p2 hp2 => ?_⟩⟩
    rw [Int.toNat_natCast, flat_rep, lt]
    have s1 : Same H (upd H p1 (.lst [V.int 0])) := same_upd hp1
    have s2 := same_upd (o := .lst (List.replicate t.length (V.int 0))) hp2
    refine ⟨by show 1 ≤ sizeLine; decide, fun p3 hp3 => ?_⟩
    have s3 := same_upd (o := .lst [V.int 1]) hp3
    refine ⟨p2, p3, _, _, rfl, rfl, s3 _ _ upd_same, upd_same, by rw [List.length_replicate]; exact size_T (by show t.length + 1 ≤ 100000; omega), fun g hg => ?_⟩
    have s4 := same_upd (o := .lst (List.replicate t.length (V.int 0) ++ [V.int 1])) hg
    have sA := ((s1.trans s2).trans s3).trans s4
    have hHg : H g = none := ((s1.trans s2).trans s3).free hg
    -- the places
    refine ⟨_, rfl, S t, rfl, zt, _, rfl, by omega, by omega, by omega, by omega, ?_⟩
    have en : (((S t).length : Int) - 0).toNat = t.length := by rw [lt]; omega
    rw [en]
    refine for_rangeC (lo := 0 + (t.length : Int) - 1) (c := -1) (n := t.length) (fun i σ H1 => Same H H1 ∧ ∃ (k3 k4 : Option V), σ = [some (.ref b), some (tx t), some (.ref g), k3, k4] ∧ H1 g = some (.lst ((List.replicate (t.length - i) (0 : Int) ++ cnt ws (t.drop (t.length - i))).map V.int))) ?_ ?_ ?_
    · refine ⟨sA, none, none, rfl, ?_⟩
      rw [upd_same, Nat.sub_zero, List.drop_length]
      show some (HO.lst (List.replicate t.length (V.int 0) ++ [V.int 1])) = some (HO.lst ((List.replicate t.length (0 : Int) ++ [1]).map V.int))
      rw [List.map_append, List.map_replicate]
      rfl
    · rintro i σ H1 hi ⟨sm, k3, k4, rfl, eg⟩
      obtain ⟨p, hp⟩ : ∃ p, p = t.length - 1 - i := ⟨_, rfl⟩
      have e1 : t.length - i = p + 1 := by omega
      have e2 : t.length - (i + 1) = p := by omega
      have hpt : p < t.length := by omega
      have hval : V.int (0 + (t.length : Int) - 1 + (i : Nat) * -1) = V.int (p : Int) := congrArg V.int (by omega)
      rw [e1, zeros_succ] at eg
      refine ⟨_, rfl, b, rfl, ⟨_, sm.seq hB⟩, for_list (K := K) (a := b) (xs := ws.map tx) (fun j σ H2 => Same H H2 ∧ ∃ (k4 : Option V), σ = [some (.ref b), some (tx t), some (.ref g), some (.int (p : Int)), k4] ∧ H2 g = some (.lst ((List.replicate p (0 : Int) ++ (((ws.take j).map (adds (t.drop p) (cnt ws (t.drop (p + 1))))).sum :: cnt ws (t.drop (p + 1)))).map V.int))) ?_ ?_ ?_ ?_⟩
      · refine ⟨sm, k4, ?_, eg⟩
        rw [← hval]
        rfl
      · intro j σ H2 _ hh
        exact hh.1.seq hB
      · rintro j x σ H2 hx ⟨sm2, k4', rfl, eg2⟩
        have hj : j < ws.length := by
          have := (List.getElem?_eq_some_iff.mp hx).1
          rw [List.length_map] at this
          exact this
        have hxe : x = tx ws[j] := by
          rw [List.getElem?_map, List.getElem?_eq_getElem hj] at hx
          exact (Option.some.inj hx).symm
        subst hxe
        obtain ⟨w1, w2, _⟩ := hw ws[j] (List.getElem_mem hj)
        have zw : (S ws[j]).length ≤ sizeLine := small_S (by omega)
        refine ⟨_, rfl, _, rfl, (p : Int), rfl, _, rfl, _, rfl, S ws[j], rfl, zw, (p : Int), (ws[j].length : Int), rfl, len_v _, _, rfl, S t, rfl, zt, _, rfl, rfl, _, rfl, ?_⟩
        rw [slice_eq, take_sum hj]
        unfold adds
        refine ite2 (fun hh => ?_) (fun hh => ?_)
        · rw [if_pos hh]
          have hle := hit_len hh
          rw [List.length_drop] at hle
          have hL : (cnt ws (t.drop (p + 1))).length = t.length - p := by rw [cnt_len, List.length_drop]; omega
          refine ⟨_, rfl, _, rfl, g, _, (p : Int), _, rfl, rfl, seqL eg2, atI_nat (zeros_at _), _, rfl, _, rfl, _, rfl, S ws[j], rfl, zw, (p : Int), (ws[j].length : Int), rfl, len_v _, g, _, _, _, rfl, rfl, seqL eg2, at_of (j := p + ws[j].length) (by omega) (zeros_get _ w1 (by omega)), _, _, rfl, rfl, ?_⟩
          refine ⟨_, rfl, _, rfl, g, _, (p : Int), p, rfl, rfl, eg2, ixN_nat (by rw [List.length_map, List.length_append, List.length_replicate]; show p < p + (_ + 1); omega), ?_⟩
          refine ⟨fun d o e => ?_, _, rfl, ?_⟩
          · rw [upd_ne (ne_of_none e hHg)]
            exact sm2 _ _ e
          · rw [upd_same, zeros_set]
            rfl
        · rw [if_neg hh, Int.add_zero]
          exact ⟨sm2, _, rfl, eg2⟩
      · rintro σ H2 ⟨sm2, k4', rfl, eg2⟩
        refine ⟨sm2, _, _, rfl, ?_⟩
        rw [List.length_map, List.take_length] at eg2
        rw [e2, eg2, ← cnt_drop ws hpt]
    · rintro σ H1 ⟨sm, k3, k4, rfl, eg⟩
      rw [Nat.sub_self, List.drop_zero] at eg
      exact ⟨_, rfl, q g H1 sm hHg eg⟩
end
/-! ### a range object that a name holds, walked -/
def iRngV (te : TE) : TI := fun σ H R => te σ H fun x H1 => ∃ a lo hi, x = .ref a ∧ H1 a = some (.rng lo hi) ∧ (-(2 ^ 62) ≤ lo ∧ lo < 2 ^ 62 ∧ -(2 ^ 62) ≤ hi ∧ hi < 2 ^ 62) ∧ R (Itr lo (hi - lo).toNat) H1
theorem pi_rngV {X : Cx} {tg e : Expr} {te : TE} (he : PE X e te) : PI X tg e (iRngV te) := by
  refine ⟨fun pins s σ H R I h => ?_⟩
  refine thn (he.run pins s σ H _ I h) fun v s1 ⟨x, H1, I1, r1, q1⟩ => ?_
  obtain ⟨a, lo, hi, ex, ha, ⟨h1, h2, h3, h4⟩, q⟩ := q1
  subst ex
  cases r1
  obtain ⟨t, u, v, hr⟩ := (show ObjOk X.prog X.w H1 s1.heap a (.rng lo hi) from I1.hok a _ ha)
  refine wpAny_pyIter_range (show IsRange s1.heap a lo hi 1 t u v from hr) (small_one h1 h2 h3 h4) ?_
  refine ⟨s1.heap.objs.size, [s1.heap.objs.size], _, _, H1, rfl, I1.kept (t' := s1.toks) fun b o e => Heap.get?_push_of_some _ e, turn_range _ lo (hi - lo).toNat, ?_, fun b hb => ?_, q⟩
  · have e1 : lo + ((0 : Nat) : Int) * 1 = lo := by simp
    have e2 : (((hi - lo).toNat : Nat) : Int) - ((0 : Nat) : Int) = Builtin.Range.rangeSize lo hi 1 := by rw [rangeSize_one]; split <;> omega
    show IsRangeIter _ _ (lo + ((0 : Nat) : Int) * 1) ((((hi - lo).toNat : Nat) : Int) - ((0 : Nat) : Int)) 1
    rw [e1, e2]
    exact Heap.get?_push_size _ rfl
  · have e : b = s1.heap.objs.size := by simpa using hb
    subst e
    exact I1.fpOk (Nat.le_refl _) (I1.hok.fresh (Nat.le_refl _))
/-! ### truths, and tables of them -/
noncomputable def bp (p : Prop) : Bool := @decide p (Classical.propDecidable p)
theorem bp_iff {p : Prop} : bp p = true ↔ p := by
  unfold bp
  exact @decide_eq_true_iff p (Classical.propDecidable p)
theorem bp_true {p : Prop} (h : p) : bp p = true := bp_iff.mpr h
theorem bp_false {p : Prop} (h : ¬ p) : bp p = false := by
  cases e : bp p with
  | false => rfl
  | true => exact absurd (bp_iff.mp e) h
theorem bp_congr {p q : Prop} (h : p ↔ q) : bp p = bp q := by
  rw [Bool.eq_iff_iff, bp_iff, bp_iff]
  exact h
noncomputable def tbl (n : Nat) (P : Nat → Prop) : List V := (List.range (n + 1)).map fun j => V.bl (bp (P j))
theorem tbl_len (n : Nat) (P : Nat → Prop) : (tbl n P).length = n + 1 := by
  unfold tbl
  rw [List.length_map, List.length_range]
theorem tbl_at {n : Nat} {P : Nat → Prop} {j : Nat} (h : j ≤ n) : (tbl n P)[j]? = some (V.bl (bp (P j))) := by
  unfold tbl
  rw [List.getElem?_map, List.getElem?_range (by omega)]
  rfl
theorem tbl_congr {n : Nat} {P Q : Nat → Prop} (h : ∀ i, i ≤ n → (P i ↔ Q i)) : tbl n P = tbl n Q := by
  unfold tbl
  refine List.map_congr_left fun j hj => ?_
  rw [bp_congr (h j (by have := List.mem_range.mp hj; omega))]
theorem tbl_set {n : Nat} {P : Nat → Prop} {j : Nat} : (tbl n P).set j (V.bl true) = tbl n fun i => P i ∨ i = j := by
  refine List.ext_getElem? fun i => ?_
  rw [List.getElem?_set]
  by_cases hi : i ≤ n
  · rw [tbl_at hi, tbl_at hi]
    by_cases e : j = i
    · rw [if_pos e, if_pos (by rw [tbl_len]; omega), bp_true (Or.inr e.symm)]
    · rw [if_neg e]
      refine congrArg some (congrArg V.bl (bp_congr ⟨Or.inl, fun z => ?_⟩))
      rcases z with z | z
      · exact z
      · exact absurd z.symm e
  · have l1 : (tbl n P)[i]? = none := List.getElem?_eq_none_iff.mpr (by rw [tbl_len]; omega)
    have l2 : (tbl n fun i => P i ∨ i = j)[i]? = none := List.getElem?_eq_none_iff.mpr (by rw [tbl_len]; omega)
    rw [l1, l2]
    by_cases e : j = i
    · rw [if_pos e, if_neg (by rw [tbl_len]; omega)]
    · rw [if_neg e]
theorem tbl_init (n : Nat) : V.bl true :: List.replicate n (V.bl false) = tbl n fun j => j = 0 := by
  unfold tbl
  rw [List.range_succ_eq_map, List.map_cons, bp_true rfl, List.map_map]
  refine congrArg _ ?_
  refine List.ext_getElem? fun i => ?_
  rw [List.getElem?_replicate, List.getElem?_map]
  by_cases h : i < n
  · rw [if_pos h, List.getElem?_range h]
    show _ = some (V.bl (bp (i + 1 = 0)))
    rw [bp_false (by omega)]
  · rw [if_neg h, List.getElem?_eq_none_iff.mpr (by rw [List.length_range]; omega)]
    rfl
/-! ### the places that rows reach -/
inductive RchK (ws : List (List Nat)) (t : List Nat) (k : Nat) : Nat → Prop where
  | zero : RchK ws t k 0
  | step {p : Nat} {w : List Nat} : p < k → RchK ws t k p → w ∈ ws → hit w (t.drop p) = true → RchK ws t k (p + w.length)
section
variable {ws : List (List Nat)} {t : List Nat}
theorem RchK.mono {k m j : Nat} (h : k ≤ m) (r : RchK ws t k j) : RchK ws t m j := by
  induction r with
  | zero => exact .zero
  | step a _ b c ih => exact .step (by omega) ih b c
theorem RchK.first {j : Nat} : RchK ws t 0 j ↔ j = 0 := by
  constructor
  · intro r
    cases r with
    | zero => rfl
    | step a _ _ _ => exact absurd a (Nat.not_lt_zero _)
  · rintro rfl
    exact .zero
theorem RchK.low (hw : ∀ w ∈ ws, 1 ≤ w.length) {k m j : Nat} (r : RchK ws t m j) (h : j ≤ k) : RchK ws t k j := by
  induction r with
  | zero => exact .zero
  | step a b c d ih =>
    have := hw _ c
    exact .step (by omega) (ih (by omega)) c d
theorem RchK.succ (hw : ∀ w ∈ ws, 1 ≤ w.length) {k j : Nat} : RchK ws t (k + 1) j ↔ RchK ws t k j ∨ (RchK ws t k k ∧ ∃ w ∈ ws, hit w (t.drop k) = true ∧ j = k + w.length) := by
  constructor
  · intro r
    induction r with
    | zero => exact .inl .zero
    | @step p w a b c d ih =>
      have rp : RchK ws t k p := b.low hw (by omega)
      by_cases e : p = k
      · subst e
        exact .inr ⟨rp, w, c, d, rfl⟩
      · exact .inl (.step (by omega) rp c d)
  · rintro (r | ⟨r, w, c, d, rfl⟩)
    · exact r.mono (by omega)
    · exact .step (by omega) (r.mono (by omega)) c d
theorem RchK.perm {vs : List (List Nat)} (h : ∀ w, w ∈ vs ↔ w ∈ ws) {k j : Nat} : RchK vs t k j ↔ RchK ws t k j := by
  constructor
  · intro r
    induction r with
    | zero => exact .zero
    | step a _ c d ih => exact .step a ih ((h _).mp c) d
  · intro r
    induction r with
    | zero => exact .zero
    | step a _ c d ih => exact .step a ih ((h _).mpr c) d
end
/-- some text of the code begins with t -/
def Ans (ws : List (List Nat)) (t : List Nat) : Prop := RchK ws t t.length t.length ∨ ∃ p, p < t.length ∧ RchK ws t t.length p ∧ ∃ w ∈ ws, w.take (t.length - p) = t.drop p
theorem Ans.perm {ws vs : List (List Nat)} {t : List Nat} (h : ∀ w, w ∈ vs ↔ w ∈ ws) : Ans vs t ↔ Ans ws t := by
  unfold Ans
  rw [RchK.perm h]
  refine or_congr Iff.rfl (exists_congr fun p => and_congr Iff.rfl (and_congr (RchK.perm h) (exists_congr fun w => and_congr (h w) Iff.rfl)))
theorem start1 {r w : List Nat} (hr : r ≠ []) : Txt.startswith (S w) (S r) = hit r w := by
  rw [Bool.eq_iff_iff]
  have h := TL.at_iff (x := S w) (y := S r) hr 0
  rw [List.drop_zero] at h
  unfold hit
  rw [← h]
  unfold Txt.startswith
  rw [Bool.and_eq_true, decide_eq_true_eq]
  show _ ↔ (0 + (S r).length ≤ (S w).length ∧ Builtin.Str.subAt (S w) (S r) 0 = true)
  rw [Nat.zero_add]
section
variable {Pr : Program} {w : World} {K : PySem.W.Frag} {mg : Str → Option Value} {base : Heap} {f fW : Addr} {fd fdW : FuncData}
end
/-! ### a def whose code object is known -/
theorem _root_.L2.FunD.okC {P : Program} {w : World} {K : PySem.W.Frag} {mg : Str → Option Value} {base : Heap} {x qual : Str} {params : Arguments} {body : List Stmt} {scope : Scope} {dvs : List V} {kws : List (Str × V)} {at_ : Str × Option Str} {fd : FuncData}
    {CX : CXT} {N ps : List Str} {k : Nat} {sp : Sp} (F : FunD K x qual params body scope dvs kws (He.fAd K at_) fd) (S : FnScope N ps scope) (len : ∀ vs H Q E, sp vs H Q E → vs.length = ps.length)
    (hbody : ∀ (A : Around) (outer : List Env) (s : Shared) (H : Hp) (vs : List V) (Q : VK) (E : XK), Room k (A.deeper (envOfC qual scope s.heap.objs.size (He.fAd K at_) (.ref (He.codeOf K at_)))) → sp vs H Q E →
      ∃ t, PSs (cxOf CX P w K mg base N qual scope (He.fAd K at_) (.ref (He.codeOf K at_)) A outer s H E).nox body t ∧ t { nx := fun _ H' => Q .non H', rt := Q } (start N vs) H) : FnOk P w K mg base CX (k + 1) (He.fAd K at_) fd ps sp := by
  obtain ⟨oc, od, dV, kV, doc, pm, an, cdv, ct, osl, rfl, lk, hcd, _, _⟩ := F.ex
  obtain ⟨c, rfl⟩ := He.codeIn_ref hcd
  have e : He.codeOf K at_ = c := He.codeOf_eq lk rfl
  refine fn_of lk hcd S len fun A outer s H vs Q E hr hsp => ?_
  rw [e] at hbody
  obtain ⟨t, q, r⟩ := hbody A outer s H vs Q E hr hsp
  exact ⟨t, q.nox, r⟩
/-! ### heaps but for a table -/
structure Sm (P : Addr) (H H' : Hp) : Prop where
  tab : GxR.TabG H' P
  keep : ∀ b o, b ≠ P → H b = some o → H' b = some o
theorem Sm.of_same {P : Addr} {H H' : Hp} (t : GxR.TabG H P) (s : Same H H') : Sm P H H' := by
  obtain ⟨ps, e, h⟩ := t
  exact ⟨⟨ps, s _ _ e, h⟩, fun b o _ q => s _ _ q⟩
theorem Sm.refl {P : Addr} {H : Hp} (t : GxR.TabG H P) : Sm P H H := .of_same t (Same.refl H)
theorem Sm.trans {P : Addr} {H H1 H2 : Hp} (a : Sm P H H1) (b : Sm P H1 H2) : Sm P H H2 := ⟨b.tab, fun c o n e => b.keep c o n (a.keep c o n e)⟩
theorem Sm.of_tabbed {P : Addr} {H H' : Hp} (t : GxR.Tabbed P H H') : Sm P H H' := ⟨t.1, fun b o n e => by rw [t.2 b n]; exact e⟩
theorem Sm.andThen {P : Addr} {H H1 H2 : Hp} (a : Sm P H H1) (b : Same H1 H2) : Sm P H H2 := a.trans (.of_same a.tab b)
theorem Sm.free {P : Addr} {H H' : Hp} (t : GxR.TabG H P) (s : Sm P H H') {l : Addr} (h : H' l = none) : H l = none := by
  obtain ⟨ps, e, _⟩ := s.tab
  have nl : l ≠ P := fun z => by
    rw [z, e] at h
    cases h
  cases q : H l with
  | none => rfl
  | some o =>
    rw [s.keep l o nl q] at h
    cases h
theorem TabG.ne {P : Addr} {H : Hp} (t : GxR.TabG H P) {b : Addr} {xs : List V} (h : H b = some (.lst xs)) : b ≠ P := by
  obtain ⟨ps, e, _⟩ := t
  intro z
  rw [z, e] at h
  cases h
theorem Sm.seq {K : PySem.W.Frag} {P : Addr} {H H' : Hp} {a : Addr} {xs : List V} (t : GxR.TabG H P) (s : Sm P H H') (h : SqL K H a xs) : SqL K H' a xs := by
  obtain ⟨ps, e, _⟩ := t
  rcases h with (h | ⟨o, h⟩) | h
  · exact .inl (.inl (s.keep _ _ (fun z => by rw [z, e] at h; cases h) h))
  · exact .inl (.inr ⟨o, s.keep _ _ (fun z => by rw [z, e] at h; cases h) h⟩)
  · exact .inr h
theorem Sm.lst {P : Addr} {H H' : Hp} {a : Addr} {xs : List V} (t : GxR.TabG H P) (s : Sm P H H') (h : H a = some (.lst xs)) : H' a = some (.lst xs) := s.keep _ _ (TabG.ne t h) h
theorem tab_upd {P : Addr} {H : Hp} {p : Addr} {o : HO} (t : GxR.TabG H P) (h : p ≠ P) : GxR.TabG (upd H p o) P := by
  obtain ⟨ps, e, q⟩ := t
  exact ⟨ps, by rw [upd_ne (Ne.symm h)]; exact e, q⟩
theorem iteP {c A B : Prop} [Decidable c] (hc : c) (h : A) : if decide c = true then A else B := by
  rw [if_pos (decide_eq_true hc)]
  exact h
theorem iteN {c A B : Prop} [Decidable c] (hc : ¬ c) (h : B) : if decide c = true then A else B := by
  rw [if_neg (fun z => hc (of_decide_eq_true z))]
  exact h
theorem iteNP {c A B : Prop} [Decidable c] (hc : c) (h : B) : if (!decide c) = true then A else B := by
  rw [decide_eq_true hc, if_neg (by decide)]
  exact h
theorem iteNN {c A B : Prop} [Decidable c] (hc : ¬ c) (h : A) : if (!decide c) = true then A else B := by
  rw [decide_eq_false hc, if_pos (by decide)]
  exact h
/-! ### 'a' <= sign <= 'z' -/
theorem lt_one (c d : Nat) : ([c] : List Nat) < [d] ↔ c < d := by
  rw [List.cons_lt_cons_iff]
  constructor
  · rintro (h | ⟨_, h⟩)
    · exact h
    · exact absurd h (List.not_lt_nil _)
  · exact Or.inl
theorem elt_az {prog : Program} {w : World} {scope : Scope} {x : Str} {j k : Nat} {p1 p2 p3 p4 : Pos} (hk : scope.kind = .function) (hl : scope.names.lookup x = some .local) (hd : (x == ("__debug__" : Str)) = false := by decide) :
    GxR.EltP prog w scope x (.Compare (.Constant (.str "a") j p1) [.LtE, .LtE] [.Name x p2, .Constant (.str "z") k p3] p4) (fun c => decide (97 ≤ c) && decide (c ≤ 122)) := by
  intro cenv A' E' c t s₂ m₂ hs hn hm
  have ea : (Str.ofString "a").cps.toList = [97] := by decide +kernel
  have ez : (Str.ofString "z").cps.toList = [122] := by decide +kernel
  refine Compare_chain ?_
  refine Calls.Constant_str ?_
  refine chain_link ?_
  refine wpAny_Name (wpAny_loadName_local (by rw [hs]; exact hk) (show cenv.scope.names.lookup x = some .local by rw [hs]; exact hl) hn hm ?_) hd
  refine PySem.P.le_str ?_
  refine wpAny_truthy_bool ?_
  rw [ea]
  by_cases h1 : 97 ≤ c
  · have e1 : (!(decide (([c] : List Nat) < [97]))) = true := by
      rw [decide_eq_false (fun z => by have := (lt_one c 97).mp z; omega)]
      rfl
    rw [if_pos e1]
    refine chain_last ?_
    refine Calls.Constant_str ?_
    refine PySem.P.le_str ?_
    rw [ez]
    refine ⟨?_, GxR.keeps_tok _ _⟩
    refine congrArg Value.bool ?_
    show (!decide (([122] : List Nat) < [c])) = (decide (97 ≤ c) && decide (c ≤ 122))
    rw [decide_eq_true h1, Bool.true_and]
    by_cases h2 : c ≤ 122
    · rw [decide_eq_true h2, decide_eq_false (fun z => by have := (lt_one 122 c).mp z; omega)]
      rfl
    · rw [decide_eq_false h2, decide_eq_true ((lt_one 122 c).mpr (by omega))]
      rfl
  · have e1 : (!(decide (([c] : List Nat) < [97]))) = false := by
      rw [decide_eq_true ((lt_one c 97).mpr (by omega))]
      rfl
    rw [if_neg (by rw [e1]; exact Bool.false_ne_true)]
    refine ⟨?_, GxR.keeps_tok _ _⟩
    refine congrArg Value.bool ?_
    show (!decide (([c] : List Nat) < [97])) = (decide (97 ≤ c) && decide (c ≤ 122))
    rw [e1, decide_eq_false h1]
    rfl
/-- the built-in names and constants -/
structure Bl (mg : Str → Option Value) : Prop where
  mT : mg "type" = none
  mStr : mg "str" = none
  mL : mg "len" = none
  mAll : mg "all" = none
  mList : mg "list" = none
  mSorted : mg "sorted" = none
  mR : mg "range" = none
  mV : mg "reversed" = none
  mSum : mg "sum" = none
  mIsi : mg "isinstance" = none
  mInt : mg "int" = none
  mBool : mg "bool" = none
  mAny : mg "any" = none
  mMax : mg "max" = none
  mDict : mg "dict" = none
  mTuple : mg "tuple" = none
  mMin : mg "min" = none
  mVE : mg "ValueError" = none
  mEnum : mg "enumerate" = none
  mZip : mg "zip" = none
  mN : ∃ u, mg "MOST_SIGNS" = some (.int 10 u)
  mM : ∃ u, mg "MOST_WORDS" = some (.int 12 u)
  mPush : mg "heappush" = some (.builtin "_heapq.heappush")
  mPop : mg "heappop" = some (.builtin "_heapq.heappop")
section
variable {Pr : Program} {w : World} {K : PySem.W.Frag} {mg : Str → Option Value} {base : Heap} {fd : FuncData} {P : Addr}
theorem scIsWord : FnScope ["thing"] ["thing"] (defScope sIsWord) := ⟨rfl, rfl, rfl, by decide +kernel, rfl, by decide +kernel, by decide +kernel⟩
abbrev aWord : Str × Option Str := ("is_word", none)
def spIsWord (P : Addr) : Sp := fun vs H Q _ => ∃ (l : List Nat), vs = [tx l] ∧ WordOk l ∧ GxR.TabG H P ∧ ∀ H', Sm P H H' → Q (.bl true) H'
theorem ok_isWord (F : FnP K "is_word" sIsWord (He.fAd K aWord) fd) (T : GxR.TabB base mg (He.codeOf K aWord) P) (mT : mg "type" = none) (mStr : mg "str" = none) (mL : mg "len" = none) (mAll : mg "all" = none) {u : Tok} (mN : mg "MOST_SIGNS" = some (.int 10 u)) :
    FnOk Pr w K mg base CX0 1 (He.fAd K aWord) fd ["thing"] (spIsWord P) := by
  refine F.okC scIsWord (fun vs H Q E h => ?_) (fun A' outer s H vs Q E hr h => ?_)
  · obtain ⟨l, rfl, _⟩ := h
    rfl
  · obtain ⟨l, rfl, ⟨l1, l2, l3⟩, hT, q⟩ := h
    refine ⟨_, pss_cons (ps_if (pt_cmpR op_isNotTy (pe_callTy RZ.call_type4 (by rfl) mT boot_type (pa_cons (pv 0) pa_nil)) (pe_bltn (v := .ty "str") (by rfl) mStr boot_str rfl) (nomark _)) (pss_one (ps_ret pe_bl)) pss_nil)
      (pss_cons (ps_if (pt_not (pt_chain op_le op_le pe_int (pe_callB call_len_str (by rfl) mL boot_len (pa_cons (pv 0) pa_nil)) (pe_glob (v := .int 10) (by rfl) mN ⟨_, rfl⟩))) (pss_one (ps_ret pe_bl)) pss_nil)
      (pss_one (ps_ret (GxR.pe_allS hr (by rfl) mAll boot_all T rfl ⟨rfl, rfl, ?gc, rfl, rfl, ?gf⟩ (pv 0) (elt_az rfl rfl) (fun _ => rfl))))), ?_⟩
    case gc =>
      intro y hy e
      simp only [List.mem_cons, List.not_mem_nil, or_false] at hy
      rcases hy with rfl | rfl <;> cases e
    case gf =>
      intro y hy e
      simp only [List.mem_cons, List.not_mem_nil, or_false] at hy
      rcases hy with rfl | rfl <;> cases e
    refine ⟨_, rfl, _, "str", rfl, .str _, "str", "str", rfl, rfl, _, rfl, ?_⟩
    refine iteF ?_
    have ll : (S l).length = l.length := S_len l
    refine ⟨_, rfl, S l, rfl, small_S (by omega), _, _, rfl, rfl, _, rfl, ?_⟩
    refine iteP (by rw [ll]; omega) ⟨_, _, rfl, rfl, _, rfl, ?_⟩
    rw [decide_eq_true (show ((S l).length : Int) ≤ 10 by rw [ll]; omega)]
    refine iteF ?_
    refine ⟨_, rfl, S l, rfl, hT, fun H2 hH => ?_⟩
    have e : (S l).cps.toList.all (fun c => decide (97 ≤ c) && decide (c ≤ 122)) = true := by
      rw [List.all_eq_true]
      intro c hc
      have := l3 c hc
      rw [decide_eq_true this.1, decide_eq_true this.2]
      rfl
    rw [e]
    exact q H2 (.of_tabbed hH)
variable {f fI fC fH : Addr} {fdI fdC fdH : FuncData}
theorem scChecked : FnScope ["words", "found", "thing"] ["words"] (defScope sChecked) := ⟨rfl, rfl, rfl, by decide +kernel, rfl, by decide +kernel, by decide +kernel⟩
def spChecked (P : Addr) : Sp := fun vs H Q _ => ∃ (b : Addr) (ws : List (List Nat)), vs = [.ref b] ∧ H b = some (.lst (ws.map tx)) ∧ CodeOk ws ∧ GxR.TabG H P ∧
  ∀ (r : Addr) (vs : List (List Nat)) (H' : Hp), Sm P H H' → H r = none → H' r = some (.lst (vs.map tx)) → vs.Perm ws → sortedS (vs.map S) = true → Q (.ref r) H'
/-- the program's is_word, as it stands behind the top -/
structure HasI (K : PySem.W.Frag) (mg : Str → Option Value) (base : Heap) (P : Addr) (fd : FuncData) : Prop where
  F : FnP K "is_word" sIsWord (He.fAd K aWord) fd
  g : mg "is_word" = some (.ref (He.fAd K aWord))
  b : Binds K fd ["thing"] []
  T : GxR.TabB base mg (He.codeOf K aWord) P
theorem ok_checked (F : FnP K "checked" sChecked f fd) (I : HasI K mg base P fdI) (B : Bl mg) : FnOk Pr w K mg base CX0 2 f fd ["words"] (spChecked P) := by
  obtain ⟨u10, mN⟩ := B.mN
  obtain ⟨u12, mM⟩ := B.mM
  have GI : FnOk Pr w K mg base CX0 1 (He.fAd K aWord) fdI ["thing"] (spIsWord P) := ok_isWord I.F I.T B.mT B.mStr B.mL B.mAll mN
  refine F.okN scChecked (fun vs H Q E h => ?_) (fun cdv A' outer s H vs Q E hr h => ?_)
  · obtain ⟨b, ws, rfl, _⟩ := h
    rfl
  · obtain ⟨b, ws, rfl, hB, ⟨c1, c2, c3⟩, hT, q⟩ := h
    refine ⟨_, pss_cons (ps_if (pt_cmpR op_isNotTy (pe_callTy RZ.call_type4 (by rfl) B.mT boot_type (pa_cons (pv 0) pa_nil)) (pe_bltn (v := .ty "list") (by rfl) B.mList boot_list rfl) (nomark _)) pss_never pss_nil)
      (pss_cons (ps_if (pt_cmpR op_gt (pe_callB call_len_seq (by rfl) B.mL boot_len (pa_cons (pv 0) pa_nil)) (pe_glob (v := .int 12) (by rfl) mM ⟨_, rfl⟩) (nomark _)) pss_never pss_nil)
      (pss_cons (ps_set (i := 1) scChecked.nd rfl (.inl rfl) (pe_lst pa_nil))
      (pss_cons (ps_for PassesOwn.never rfl (pi_list (pv 0)) (pg_name (i := 2) scChecked.nd rfl (Or.inl rfl))
        (pss_cons (ps_if (pt_not (pt_val (pe_call GI hr (by rfl) I.g I.F.kp I.b .nil pass0 (pa_cons (pv 2) pa_nil)))) pss_never pss_nil)
        (pss_cons (ps_if (pt_cmpR op_in_seq (pv 2) (pv 1) (by rfl)) pss_never pss_nil)
        (pss_one (ps_expr (pe_bm PySem.F.plainAttrs_list PySem.F.slot_list_append PySem.F.type_list_append mt_append (pv 1) (pa_cons (pv 2) pa_nil)))))))
      (pss_one (ps_ret (pe_callB cr_sortedS (by rfl) B.mSorted boot_sorted (pa_cons (pv 1) pa_nil))))))), ?_⟩
    refine ⟨_, rfl, _, "list", rfl, .lst hB, "list", "list", rfl, rfl, _, rfl, ?_⟩
    refine iteF ?_
    refine ⟨_, rfl, b, _, rfl, .inl (seqL hB), _, _, rfl, rfl, _, rfl, iteN (by rw [List.length_map]; omega) ?_⟩
    refine ⟨Nat.zero_le _, fun g hg => ?_⟩
    have s1 : Same H (upd H g (.lst [])) := same_upd hg
    have m1 : Sm P H (upd H g (.lst [])) := .of_same hT s1
    have hbg : b ≠ g := ne_of_none hB hg
    have ngP : g ≠ P := TabG.ne m1.tab upd_same
    refine ⟨_, rfl, b, rfl, ⟨_, seqL (s1 _ _ hB)⟩, for_list (K := K) (a := b) (xs := ws.map tx) (fun i σ H3 => Sm P H H3 ∧ ∃ (kv : Option V), σ = [some (.ref b), some (.ref g), kv] ∧ H3 g = some (.lst ((ws.take i).map tx))) ?_ ?_ ?_ ?_⟩
    · exact ⟨m1, none, rfl, upd_same⟩
    · exact fun i σ H3 _ hh => seqL (Sm.lst hT hh.1 hB)
    · rintro i x σ H3 hx ⟨sm, kv, rfl, eg⟩
      have hj : i < ws.length := by
        have := (List.getElem?_eq_some_iff.mp hx).1
        rw [List.length_map] at this
        exact this
      have hxe : x = tx ws[i] := by
        rw [List.getElem?_map, List.getElem?_eq_getElem hj] at hx
        exact (Option.some.inj hx).symm
      subst hxe
      refine ⟨_, rfl, ws[i], rfl, c3 _ (List.getElem_mem hj), sm.tab, fun H4 sm4 => ⟨_, rfl, ?_⟩⟩
      refine iteF ?_
      have eg4 : H4 g = some (.lst ((ws.take i).map tx)) := sm4.keep _ _ ngP eg
      refine ⟨_, rfl, _, rfl, g, _, rfl, .inl (seqL eg4), rfl, flat_tx _, _, rfl, ?_⟩
      have hni : ws[i] ∉ ws.take i := by
        intro z
        obtain ⟨j, hj2, e2⟩ := List.mem_iff_getElem.mp z
        rw [List.length_take] at hj2
        rw [List.getElem_take] at e2
        have := (List.getElem_inj c2).mp e2
        omega
      rw [show (if (false : Bool) = true then !inV (tx ws[i]) ((ws.take i).map tx) else inV (tx ws[i]) ((ws.take i).map tx)) = decide (ws[i] ∈ ws.take i) from inV_tx _ _]
      refine iteN hni ?_
      refine ⟨_, rfl, .inl ⟨rfl, _, seqL eg4⟩, _, rfl, g, _, _, rfl, rfl, eg4, by rw [List.length_map, List.length_take]; exact small1000 (by omega), ?_⟩
      refine ⟨⟨tab_upd sm4.tab ngP, fun d o n e => ?_⟩, _, rfl, ?_⟩
      · rw [upd_ne (ne_of_none e hg)]
        exact sm4.keep _ _ n (sm.keep _ _ n e)
      · rw [upd_same, List.take_add_one, List.getElem?_eq_getElem hj, List.map_append]
        rfl
    · rintro σ H3 ⟨sm, kv, rfl, eg⟩
      rw [List.length_map, List.take_length] at eg
      refine ⟨_, rfl, g, ws.map S, rfl, seqL (by rw [← map_tx]; exact eg), by rw [List.length_map]; omega, fun ys r perm so hr0 => ?_⟩
      have e1 : (ys.map TL.tl).map S = ys := by
        rw [List.map_map]
        have : (S ∘ TL.tl) = id := funext fun z => S_tl z
        rw [this, List.map_id]
      refine q r (ys.map TL.tl) _ (sm.andThen (same_upd hr0)) (Sm.free hT sm hr0) ?_ ?_ ?_
      · rw [upd_same, map_tx, e1]
      · have := perm.map TL.tl
        rw [map_S_tl] at this
        exact this
      · rw [e1]
        exact so
end
theorem dp_ints {K : PySem.W.Frag} {H : Hp} : ∀ ns : List Int, DpAll K H (ns.map V.int) (ns.map PyData.int)
  | [] => .nil
  | x :: r => .cons (.int x) (dp_ints r)
theorem shaped_ints (ns : List Int) : SeqAt.shaped (.list (ns.map PyData.int)) = true := PySem.W.ke_shaped_ints ns
theorem eqv_ints (ns : List Int) : PyData.eqv (.list (ns.map PyData.int)) (.list (ns.map PyData.int)) = true := PySem.SeqAt.eqv_refl _ (PySem.SeqAt.canLay_of_shaped (shaped_ints ns))
/-! ### how two texts begin -/
/-- the greatest length of a text with which both begin -/
def shd : List Nat → List Nat → Nat
  | x :: a, y :: b => if x = y then shd a b + 1 else 0
  | _, _ => 0
theorem shd_le : ∀ a b : List Nat, shd a b ≤ a.length ∧ shd a b ≤ b.length
  | [], _ => ⟨Nat.zero_le _, Nat.zero_le _⟩
  | _ :: _, [] => ⟨Nat.zero_le _, Nat.zero_le _⟩
  | x :: a, y :: b => by
    show (if x = y then shd a b + 1 else 0) ≤ _ ∧ (if x = y then shd a b + 1 else 0) ≤ _
    have ih := shd_le a b
    by_cases h : x = y
    · rw [if_pos h, List.length_cons, List.length_cons]
      omega
    · rw [if_neg h]
      exact ⟨Nat.zero_le _, Nat.zero_le _⟩
theorem shd_stop : ∀ {i : Nat} {a b : List Nat} {c d : Nat}, a.take i = b.take i → a[i]? = some c → b[i]? = some d → c ≠ d → shd a b = i
  | 0, x :: a, y :: b, c, d, _, h1, h2, n => by
    have e1 : x = c := Option.some.inj h1
    have e2 : y = d := Option.some.inj h2
    show (if x = y then shd a b + 1 else 0) = 0
    rw [if_neg fun z => n (by rw [← e1, ← e2, z])]
  | i + 1, x :: a, y :: b, c, d, h, h1, h2, n => by
    have h' : x :: a.take i = y :: b.take i := h
    have e := (List.cons.inj h').1
    show (if x = y then shd a b + 1 else 0) = i + 1
    rw [if_pos e, shd_stop (List.cons.inj h').2 h1 h2 n]
  | _, [], _, _, _, _, h1, _, _ => by cases h1
  | _, _ :: _, [], _, _, _, _, h2, _ => by cases h2
theorem shd_all : ∀ {i : Nat} {a b : List Nat}, a.take i = b.take i → (i = a.length ∨ i = b.length) → i ≤ a.length → i ≤ b.length → shd a b = i
  | 0, [], _, _, _, _, _ => rfl
  | 0, _ :: _, [], _, _, _, _ => rfl
  | 0, x :: a, y :: b, _, h, _, _ => by
    rcases h with h | h
    · cases h
    · cases h
  | i + 1, x :: a, y :: b, h, hl, h1, h2 => by
    have h' : x :: a.take i = y :: b.take i := h
    have e := (List.cons.inj h').1
    show (if x = y then shd a b + 1 else 0) = i + 1
    rw [if_pos e, shd_all (List.cons.inj h').2 (hl.elim (fun z => .inl (Nat.succ.inj z)) fun z => .inr (Nat.succ.inj z)) (Nat.le_of_succ_le_succ h1) (Nat.le_of_succ_le_succ h2)]
  | i + 1, [], _, _, _, h1, _ => absurd h1 (Nat.not_succ_le_zero i)
  | i + 1, _ :: _, [], _, _, _, h2 => absurd h2 (Nat.not_succ_le_zero i)
theorem take_next {i c : Nat} {a b : List Nat} (h : a.take i = b.take i) (h1 : a[i]? = some c) (h2 : b[i]? = some c) : a.take (i + 1) = b.take (i + 1) := by
  rw [List.take_add_one, List.take_add_one, h, h1, h2]
/-- the rest that a rest goes on to by a word, and whether the word goes beyond -/
def stp (r w : List Nat) : Option (List Nat × Bool) := if hit w r = true then some (r.drop w.length, false) else if hit r w = true then some (w.drop r.length, true) else none
theorem hit_nil (r : List Nat) : hit [] r = true := hit_iff.mpr rfl
theorem to_eq {t b : List Nat} : decide (V.str (cutS (S t) none (some (b.length : Int))) = V.str (S b)) = hit b t := by
  rw [cut_to (by omega), tx_eq, Int.toNat_natCast, Bool.eq_iff_iff, decide_eq_true_eq, hit_iff]
theorem from_len {t : List Nat} {n : Nat} : V.str (cutS (S t) (some (n : Int)) none) = tx (t.drop n) := by
  rw [cut_from (by omega), Int.toNat_natCast]
theorem S_get {a : List Nat} {i : Nat} : (S a).cps[i]? = a[i]? := by
  show a.toArray[i]? = a[i]?
  rw [List.getElem?_toArray]
section
variable {Pr : Program} {w : World} {K : PySem.W.Frag} {mg : Str → Option Value} {base : Heap} {f : Addr} {fd : FuncData}
def spShared : Sp := fun vs H Q _ => ∃ a b : List Nat, vs = [tx a, tx b] ∧ a.length ≤ 100000 ∧ b.length ≤ 100000 ∧ ∀ H', Same H H' → Q (.int (shd a b : Nat)) H'
def spLeft : Sp := fun vs H Q _ => ∃ a b : List Nat, vs = [tx a, tx b] ∧ a.length ≤ 100000 ∧ b.length ≤ 100000 ∧ Q (if hit b a = true then tx (a.drop b.length) else .non) H
def spStep : Sp := fun vs H Q _ => ∃ r v : List Nat, vs = [tx r, tx v] ∧ r.length ≤ 1000 ∧ v.length ≤ 1000 ∧ (stp r v = none → Q .non H) ∧ (∀ x b, stp r v = some (x, b) → ∀ (p : Addr) (H' : Hp), Same H H' → H p = none → H' p = some (.tup [tx x, .bl b]) → Q (.ref p) H')
theorem scLeft : FnScope ["text", "other"] ["text", "other"] (defScope s_left_of) := ⟨rfl, rfl, rfl, by decide +kernel, rfl, by decide +kernel, by decide +kernel⟩
theorem start_all (x y : List Nat) : Txt.startswith (S x) (S y) = hit y x := by
  by_cases h : y = []
  · subst h
    rw [hit_nil]
    unfold Txt.startswith
    simp [Builtin.Str.subAt, S, Str.length]
  · exact start1 h
theorem ok_left (F : FnP K "left_of" s_left_of f fd) (B : Bl mg) : FnOk Pr w K mg base CX0 1 f fd ["text", "other"] spLeft := by
  refine F.okN scLeft (fun vs H Q E h => ?_) (fun cdv A' outer s H vs Q E hr h => ?_)
  · obtain ⟨a, b, rfl, _⟩ := h
    rfl
  · obtain ⟨a, b, rfl, ha, hb, q⟩ := h
    refine ⟨_, pss_cons (ps_if (pt_val (pe_bm PySem.F.plainAttrs_str PySem.F.slot_str_startswith PySem.F.type_str_startswith mt_startswith (pv 0) (pa_cons (pv 1) pa_nil))) (pss_one (ps_ret (pe_slice sl_str (pv 0) (po_some (pe_callB call_len_str (by rfl) B.mL boot_len (pa_cons (pv 1) pa_nil))) po_none))) pss_nil) (pss_one (ps_ret pe_non)), ?_⟩
    have za : (S a).length ≤ sizeLine := small_T ha
    have zb : (S b).length ≤ sizeLine := small_T hb
    refine ⟨_, rfl, rfl, _, rfl, S a, S b, rfl, rfl, _, rfl, ?_⟩
    rw [start_all]
    refine ite2 (fun c => ?_) (fun c => ?_)
    · rw [if_pos c] at q
      refine ⟨_, rfl, _, rfl, S b, rfl, zb, (b.length : Int), len_v _, S a, rfl, za, ?_⟩
      rw [from_len]
      exact q
    · rw [if_neg c] at q
      exact q
theorem scLawStep : FnScope ["_law_rest", "_law_word_here"] ["_law_rest", "_law_word_here"] (defScope s__law_step) := ⟨rfl, rfl, rfl, by decide +kernel, rfl, by decide +kernel, by decide +kernel⟩
theorem ok_lawStep (F : FnP K "_law_step" s__law_step f fd) (B : Bl mg) : FnOk Pr w K mg base CX0 1 f fd ["_law_rest", "_law_word_here"] spStep := by
  refine F.okN scLawStep (fun vs H Q E h => ?_) (fun cdv A' outer s H vs Q E hr h => ?_)
  · obtain ⟨a, b, rfl, _⟩ := h
    rfl
  · obtain ⟨a, b, rfl, ha, hb, q0, q⟩ := h
    refine ⟨_, pss_cons (ps_if (pt_cmpR op_eq (pe_slice sl_str (pv 0) po_none (po_some (pe_callB call_len_str (by rfl) B.mL boot_len (pa_cons (pv 1) pa_nil)))) (pv 1) (nomark _)) (pss_one (ps_ret (pe_tup (pa_cons (pe_slice sl_str (pv 0) (po_some (pe_callB call_len_str (by rfl) B.mL boot_len (pa_cons (pv 1) pa_nil))) po_none) (pa_cons pe_bl pa_nil))))) pss_nil)
      (pss_cons (ps_if (pt_cmpR op_eq (pe_slice sl_str (pv 1) po_none (po_some (pe_callB call_len_str (by rfl) B.mL boot_len (pa_cons (pv 0) pa_nil)))) (pv 0) (nomark _)) (pss_one (ps_ret (pe_tup (pa_cons (pe_slice sl_str (pv 1) (po_some (pe_callB call_len_str (by rfl) B.mL boot_len (pa_cons (pv 0) pa_nil))) po_none) (pa_cons pe_bl pa_nil))))) pss_nil)
      (pss_one (ps_ret pe_non))), ?_⟩
    have za : (S a).length ≤ sizeLine := small_S ha
    have zb : (S b).length ≤ sizeLine := small_S hb
    unfold stp at q0 q
    refine ⟨_, rfl, _, rfl, S b, rfl, zb, (b.length : Int), len_v _, S a, rfl, za, _, rfl, rfl, _, rfl, ?_⟩
    rw [to_eq]
    refine ite2 (fun c => ?_) (fun c => ?_)
    · rw [if_pos c] at q
      refine ⟨_, rfl, _, rfl, S b, rfl, zb, (b.length : Int), len_v _, S a, rfl, za, ?_⟩
      rw [from_len]
      exact ⟨by show 2 ≤ sizeLine; decide, fun p hp => q _ _ rfl p _ (same_upd hp) hp upd_same⟩
    · rw [if_neg c] at q q0
      refine ⟨_, rfl, _, rfl, S a, rfl, za, (a.length : Int), len_v _, S b, rfl, zb, _, rfl, rfl, _, rfl, ?_⟩
      rw [to_eq]
      refine ite2 (fun c2 => ?_) (fun c2 => ?_)
      · rw [if_pos c2] at q
        refine ⟨_, rfl, _, rfl, S a, rfl, za, (a.length : Int), len_v _, S b, rfl, zb, ?_⟩
        rw [from_len]
        exact ⟨by show 2 ≤ sizeLine; decide, fun p hp => q _ _ rfl p _ (same_upd hp) hp upd_same⟩
      · rw [if_neg c2] at q0
        exact q0 rfl
end
section
variable {Pr : Program} {w : World} {K : PySem.W.Frag} {mg : Str → Option Value} {base : Heap} {f : Addr} {fd : FuncData}
end
/-- the defs of the text, each as it stands behind the top -/
structure Defs (K : PySem.W.Frag) (mg : Str → Option Value) : Prop where
  d_checked : There K mg "checked" sChecked ["words"]
  d_left_of : There K mg "left_of" s_left_of ["text", "other"]
  d_stepped : There K mg "stepped" s_stepped ["rest", "word"]
  d_double : There K mg "double" s_double ["words"]
  d_meetings : There K mg "meetings" s_meetings ["code"]
  d__first_meetings : There K mg "_first_meetings" s__first_meetings ["code"]
  d__further_meetings : There K mg "_further_meetings" s__further_meetings ["code", "length", "rest", "one", "other"]
  d__law_at : There K mg "_law_at" sAt ["_law_script", "_law_k"]
  d__law_mixed : There K mg "_law_mixed" sMixed ["_law_cell", "_law_k"]
  d__law_signs : There K mg "_law_signs" sSigns ["_law_cell"]
  d__law_word : There K mg "_law_word" sWord ["_law_cell", "_law_signs_here"]
  d__law_any_word : There K mg "_law_any_word" sAny ["_law_cell"]
  d__law_more : There K mg "_law_more" sMore ["_law_words_here", "_law_cell", "_law_signs_here"]
  d__law_chain : There K mg "_law_chain" sChain ["_law_script", "_law_first", "_law_signs_here"]
  d__law_words : There K mg "_law_words" sWords ["_law_script", "_law_first"]
  d__law_row : There K mg "_law_row" sRow ["_law_script", "_law_first", "_law_words_here", "_law_most"]
  d__law_counts : There K mg "_law_counts" sLawCounts ["_law_words_here", "_law_text"]
  d__law_step : There K mg "_law_step" s__law_step ["_law_rest", "_law_word_here"]
  d__law_led : There K mg "_law_led" s__law_led ["_law_words_here", "_law_cell", "_law_other"]
/-- the classes of errors -/
structure Exs (K : PySem.W.Frag) (mg : Str → Option Value) : Prop where
  c_CodeError : He.ga K "CodeError" = He.ga K "CodeError"
  g_CodeError : mg "CodeError" = some (.ref (He.ga K "CodeError"))
  x_CodeError : (He.Fa.exc "CodeError").ok K = true
  c_BadCode : He.ga K "BadCode" = He.ga K "BadCode"
  g_BadCode : mg "BadCode" = some (.ref (He.ga K "BadCode"))
  x_BadCode : (He.Fa.exc "BadCode").ok K = true
  c_Full : He.ga K "Full" = He.ga K "Full"
  g_Full : mg "Full" = some (.ref (He.ga K "Full"))
  x_Full : (He.Fa.exc "Full").ok K = true
  c_BadWord : He.ga K "BadWord" = He.ga K "BadWord"
  g_BadWord : mg "BadWord" = some (.ref (He.ga K "BadWord"))
  x_BadWord : (He.Fa.exc "BadWord").ok K = true
  c_Twice : He.ga K "Twice" = He.ga K "Twice"
  g_Twice : mg "Twice" = some (.ref (He.ga K "Twice"))
  x_Twice : (He.Fa.exc "Twice").ok K = true
section
variable {Pr : Program} {w : World} {K : PySem.W.Frag} {mg : Str → Option Value} {base : Heap}
def spLaw (K : PySem.W.Frag) (P : Addr) : Sp := fun vs H Q _ => ∃ (a : Addr) (ns : List Int), vs = [.ref a] ∧ SqL K H a (ns.map V.int) ∧ GxR.TabG H P ∧ ∀ H', Q (.bl true) H'
theorem inWords (D : Defs K mg) (B : Bl mg) : ∃ f fd, Has K mg "_law_words" sWords ["_law_script", "_law_first"] f fd ∧ FnOk Pr w K mg base CX0 4 f fd ["_law_script", "_law_first"] (spWords K) := by
  obtain ⟨f1, d1, A⟩ := D.d__law_at
  obtain ⟨f2, d2, MX⟩ := D.d__law_mixed
  obtain ⟨f3, d3, Z⟩ := D.d__law_signs
  obtain ⟨f4, d4, W⟩ := D.d__law_word
  obtain ⟨f5, d5, Y⟩ := D.d__law_any_word
  obtain ⟨f6, d6, O⟩ := D.d__law_more
  obtain ⟨f7, d7, C⟩ := D.d__law_chain
  obtain ⟨f8, d8, WS⟩ := D.d__law_words
  exact ⟨f8, d8, WS, ok_words WS.F A W MX Z C Y O B.mR B.mL⟩
end

section
variable {Pr : Program} {w : World} {K : PySem.W.Frag} {mg : Str → Option Value} {base : Heap} {f fL : Addr} {fd fdL : FuncData}
theorem scStepped : FnScope ["rest", "word", "left"] ["rest", "word"] (defScope s_stepped) := ⟨rfl, rfl, rfl, by decide +kernel, rfl, by decide +kernel, by decide +kernel⟩
theorem ok_stepped (F : FnP K "stepped" s_stepped f fd) (L : Has K mg "left_of" s_left_of ["text", "other"] fL fdL) (B : Bl mg) : FnOk Pr w K mg base CX0 2 f fd ["rest", "word"] spStep := by
  have GL : FnOk Pr w K mg base CX0 1 fL fdL ["text", "other"] spLeft := ok_left L.F B
  refine F.okN scStepped (fun vs H Q E h => ?_) (fun cdv A' outer s H vs Q E hr h => ?_)
  · obtain ⟨a, b, rfl, _⟩ := h
    rfl
  · obtain ⟨a, b, rfl, ha, hb, q0, q⟩ := h
    refine ⟨_, pss_cons (ps_set (i := 2) scStepped.nd rfl (.inl rfl) (pe_call GL hr (by rfl) L.g L.F.kp L.b .nil pass0 (pa_cons (pv 0) (pa_cons (pv 1) pa_nil))))
      (pss_cons (ps_if (pt_cmpR op_notN (pv 2) pe_non (nomark _)) (pss_one (ps_ret (pe_tup (pa_cons (pv 2) (pa_cons pe_bl pa_nil))))) pss_nil)
      (pss_cons (ps_set (i := 2) scStepped.nd rfl (.inl rfl) (pe_call GL hr (by rfl) L.g L.F.kp L.b .nil pass0 (pa_cons (pv 1) (pa_cons (pv 0) pa_nil))))
      (pss_cons (ps_if (pt_cmpR op_notN (pv 2) pe_non (nomark _)) (pss_one (ps_ret (pe_tup (pa_cons (pv 2) (pa_cons pe_bl pa_nil))))) pss_nil)
      (pss_one (ps_ret pe_non))))), ?_⟩
    unfold stp at q0 q
    refine ⟨_, rfl, _, rfl, a, b, rfl, by omega, by omega, ?_⟩
    by_cases c : hit b a = true
    · rw [if_pos c] at q
      rw [if_pos c]
      refine ⟨_, rfl, rfl, _, rfl, ?_⟩
      refine iteNN (fun z => nomatch z) ⟨_, rfl, by show 2 ≤ sizeLine; decide, fun p hp => q _ _ rfl p _ (same_upd hp) hp upd_same⟩
    · rw [if_neg c] at q q0
      rw [if_neg c]
      refine ⟨_, rfl, rfl, _, rfl, iteNP rfl ?_⟩
      refine ⟨_, rfl, _, rfl, b, a, rfl, by omega, by omega, ?_⟩
      by_cases c2 : hit a b = true
      · rw [if_pos c2] at q
        rw [if_pos c2]
        refine ⟨_, rfl, rfl, _, rfl, ?_⟩
        refine iteNN (fun z => nomatch z) ⟨_, rfl, by show 2 ≤ sizeLine; decide, fun p hp => q _ _ rfl p _ (same_upd hp) hp upd_same⟩
      · rw [if_neg c2] at q0
        rw [if_neg c2]
        exact ⟨_, rfl, rfl, _, rfl, iteNP rfl (q0 rfl)⟩
end
/-! ### rests that rows lead to, and their leasts -/
/-- a rest that two rows lead to, the one's text so long -/
inductive Off (ws : List (List Nat)) : List Nat → Nat → Prop where
  | new {w o : List Nat} : w ∈ ws → o ∈ ws → w ≠ o → hit o w = true → Off ws (w.drop o.length) w.length
  | go {r w x : List Nat} {n : Nat} {b : Bool} : Off ws r n → w ∈ ws → stp r w = some (x, b) → Off ws x (n + if b = true then x.length else 0)
def Lst (ws : List (List Nat)) (r : List Nat) (n : Nat) : Prop := Off ws r n ∧ ∀ m, Off ws r m → n ≤ m
section
variable {ws vs : List (List Nat)}
theorem lst_of {r : List Nat} : ∀ {m : Nat}, Off ws r m → ∃ n, n ≤ m ∧ Lst ws r n := by
  intro m
  induction m using Nat.strongRecOn with
  | _ m ih =>
    intro h
    by_cases c : ∃ k, k < m ∧ Off ws r k
    · obtain ⟨k, hk, ho⟩ := c
      obtain ⟨n, hn, hl⟩ := ih k hk ho
      exact ⟨n, by omega, hl⟩
    · refine ⟨m, Nat.le_refl _, h, fun k hk => ?_⟩
      by_cases z : k < m
      · exact absurd ⟨k, z, hk⟩ c
      · omega
theorem Lst.one {r : List Nat} {n m : Nat} (h : Lst ws r n) (g : Lst ws r m) : n = m := Nat.le_antisymm (h.2 _ g.1) (g.2 _ h.1)
theorem Off.perm (h : ∀ x, x ∈ vs ↔ x ∈ ws) {r : List Nat} {n : Nat} (o : Off vs r n) : Off ws r n := by
  induction o with
  | new a b c d => exact .new ((h _).mp a) ((h _).mp b) c d
  | go _ b c ih => exact .go ih ((h _).mp b) c
theorem Lst.perm (h : ∀ x, x ∈ vs ↔ x ∈ ws) {r : List Nat} {n : Nat} (o : Lst vs r n) : Lst ws r n := ⟨o.1.perm h, fun m q => o.2 m (q.perm fun x => (h x).symm)⟩
theorem stp_end {r w x : List Nat} {b : Bool} (h : stp r w = some (x, b)) : (∃ k, x = r.drop k) ∨ ∃ k, x = w.drop k := by
  unfold stp at h
  by_cases c : hit w r = true
  · rw [if_pos c] at h
    cases h
    exact .inl ⟨_, rfl⟩
  · rw [if_neg c] at h
    by_cases c2 : hit r w = true
    · rw [if_pos c2] at h
      cases h
      exact .inr ⟨_, rfl⟩
    · rw [if_neg c2] at h
      cases h
theorem Off.tail {r : List Nat} {n : Nat} (o : Off ws r n) : ∃ w ∈ ws, ∃ k, r = w.drop k := by
  induction o with
  | new a _ _ _ => exact ⟨_, a, _, rfl⟩
  | go _ b c ih =>
    rcases stp_end c with ⟨k, e⟩ | ⟨k, e⟩
    · obtain ⟨w, hw, j, ej⟩ := ih
      exact ⟨w, hw, j + k, by rw [e, ej, List.drop_drop]⟩
    · exact ⟨_, b, k, e⟩
theorem Off.let (hw : ∀ x ∈ ws, WordOk x) {r : List Nat} {n : Nat} (o : Off ws r n) : Let r ∧ r.length ≤ 10 := by
  obtain ⟨w, m, k, e⟩ := o.tail
  obtain ⟨_, h2, h3⟩ := hw w m
  rw [e]
  exact ⟨let_drop h3 _, by rw [List.length_drop]; omega⟩
theorem nodup_sub {α : Type} [DecidableEq α] : ∀ {l m : List α}, l.Nodup → (∀ x ∈ l, x ∈ m) → l.length ≤ m.length
  | [], _, _, _ => Nat.zero_le _
  | x :: l, m, nd, h => by
    have hx := h x List.mem_cons_self
    obtain ⟨n1, n2⟩ := List.nodup_cons.mp nd
    have ih := nodup_sub (l := l) (m := m.erase x) n2 fun y hy => (List.mem_erase_of_ne fun (e : y = x) => n1 (by rw [← e]; exact hy)).mpr (h y (List.mem_cons_of_mem _ hy))
    rw [List.length_erase_of_mem hx] at ih
    have : 1 ≤ m.length := List.length_pos_of_mem hx
    rw [List.length_cons]
    omega
theorem tails_len (ws : List (List Nat)) : (ws.flatMap fun w => (List.range 11).map fun k => w.drop k).length = ws.length * 11 := by
  induction ws with
  | nil => rfl
  | cons x ws ih => rw [List.flatMap_cons, List.length_append, ih, List.length_map, List.length_range, List.length_cons]; omega
theorem Off.in_tails (hw : ∀ x ∈ ws, WordOk x) {r : List Nat} {n : Nat} (o : Off ws r n) : r ∈ ws.flatMap fun w => (List.range 11).map fun k => w.drop k := by
  obtain ⟨w, m, k, e⟩ := o.tail
  have h2 := (hw w m).2.1
  refine List.mem_flatMap.mpr ⟨w, m, List.mem_map.mpr ?_⟩
  by_cases h : k < 11
  · exact ⟨k, List.mem_range.mpr h, e.symm⟩
  · refine ⟨10, List.mem_range.mpr (by decide), ?_⟩
    show w.drop 10 = r
    rw [e, List.drop_of_length_le (by omega), List.drop_of_length_le (by omega)]
/-- the table of the leasts: each rest once -/
def LD (ws : List (List Nat)) (es : List (List Nat × Nat)) : Prop := (es.map (·.1)).Nodup ∧ ∀ r n, (r, n) ∈ es ↔ Lst ws r n
theorem LD.len {es : List (List Nat × Nat)} (h : LD ws es) (hw : ∀ x ∈ ws, WordOk x) : es.length ≤ ws.length * 11 := by
  have q := nodup_sub h.1 (m := ws.flatMap fun w => (List.range 11).map fun k => w.drop k) fun x hx => by
    obtain ⟨p, hp, e⟩ := List.mem_map.mp hx
    rw [← e]
    exact ((h.2 p.1 p.2).mp hp).1.in_tails hw
  rw [List.length_map, tails_len] at q
  exact q
theorem LD.perm (p : ∀ x, x ∈ vs ↔ x ∈ ws) {es : List (List Nat × Nat)} (h : LD vs es) : LD ws es := ⟨h.1, fun r n => (h.2 r n).trans ⟨fun q => q.perm p, fun q => q.perm fun x => (p x).symm⟩⟩
end
/-- such a table as a dict -/
def dkv (es : List (List Nat × Nat)) : List (Key × V) := es.map fun e => (Sum.inr (S e.1), V.int (e.2 : Int))
theorem dkv_len (es : List (List Nat × Nat)) : (dkv es).length = es.length := List.length_map _
theorem dkv_in : ∀ {es : List (List Nat × Nat)} {r : List Nat} {n : Nat}, (es.map (·.1)).Nodup → (r, n) ∈ es → valV (dkv es) (Sum.inr (S r)) = some (V.int (n : Int))
  | [], _, _, _, h => nomatch h
  | e :: es, r, n, nd, h => by
    obtain ⟨n1, n2⟩ := List.nodup_cons.mp nd
    rcases List.mem_cons.mp h with z | z
    · rw [← z]
      exact valV_pos rfl
    · have ne : ¬ (Sum.inr (S e.1) : Key) = Sum.inr (S r) := fun q => by
        have q2 := S_inj (Sum.inr.inj q)
        exact n1 (List.mem_map.mpr ⟨(r, n), z, q2.symm⟩)
      exact (valV_neg ne).trans (dkv_in n2 z)
theorem dkv_out : ∀ {es : List (List Nat × Nat)} {r : List Nat}, (∀ n, (r, n) ∉ es) → valV (dkv es) (Sum.inr (S r)) = none
  | [], _, _ => rfl
  | e :: es, r, h => by
    have ne : ¬ (Sum.inr (S e.1) : Key) = Sum.inr (S r) := fun q => by
      have q2 := S_inj (Sum.inr.inj q)
      exact h e.2 (by rw [← q2]; exact List.mem_cons_self)
    exact (valV_neg ne).trans (dkv_out fun n hn => h n (List.mem_cons_of_mem _ hn))
theorem LD.same {ws : List (List Nat)} {es fs : List (List Nat × Nat)} (h : LD ws es) (g : LD ws fs) : (dkv es).length = (dkv fs).length ∧ ∀ p ∈ dkv es, valV (dkv fs) p.1 = some p.2 ∧ flatB p.2 = true := by
  constructor
  · rw [dkv_len, dkv_len]
    have sub : ∀ {a b : List (List Nat × Nat)}, LD ws a → LD ws b → a.length ≤ b.length := fun {a b} ha hb => by
      have q := nodup_sub ha.1 (m := b.map (·.1)) fun x hx => by
        obtain ⟨p, hp, e⟩ := List.mem_map.mp hx
        exact List.mem_map.mpr ⟨p, (hb.2 p.1 p.2).mpr ((ha.2 p.1 p.2).mp hp), e⟩
      rw [List.length_map, List.length_map] at q
      exact q
    exact Nat.le_antisymm (sub h g) (sub g h)
  · intro p hp
    obtain ⟨e, he, rfl⟩ := List.mem_map.mp hp
    exact ⟨dkv_in g.1 ((g.2 e.1 e.2).mpr ((h.2 e.1 e.2).mp he)), rfl⟩
/-- what a table of leasts offers, and that each of its rests is met -/
theorem LD.closed {ws : List (List Nat)} {es : List (List Nat × Nat)} (h : LD ws es) {r : List Nat} {m : Nat} (o : Off ws r m) : ∃ n, n ≤ m ∧ (r, n) ∈ es := by
  obtain ⟨n, hn, hl⟩ := lst_of o
  exact ⟨n, hn, (h.2 r n).mpr hl⟩
theorem LD.met {ws : List (List Nat)} {es : List (List Nat × Nat)} (h : LD ws es) {r : List Nat} {n : Nat} (hr : (r, n) ∈ es) :
    (∃ w ∈ ws, ∃ o ∈ ws, w ≠ o ∧ hit o w = true ∧ r = w.drop o.length ∧ n = w.length) ∨ ∃ q ∈ es, ∃ w ∈ ws, ∃ b, stp q.1 w = some (r, b) ∧ n = q.2 + if b = true then r.length else 0 := by
  have hl := (h.2 r n).mp hr
  obtain ⟨m, hm⟩ : ∃ m, m = n := ⟨n, rfl⟩
  have ho := hl.1
  rw [← hm] at ho
  cases ho with
  | new a b c d => exact .inl ⟨_, a, _, b, c, d, rfl, hm.symm⟩
  | @go r0 w _ n0 b o1 hw hs =>
    obtain ⟨k, hk, hin⟩ := h.closed o1
    have hk2 := ((h.2 r0 k).mp hin).1
    have := hl.2 _ (.go hk2 hw hs)
    exact .inr ⟨(r0, k), hin, w, hw, b, hs, by omega⟩
/-! ### rows that meet -/
/-- two rows meet and lead to the rest r, the one's text n long -/
structure Mt (ws : List (List Nat)) (n : Nat) (r : List Nat) (one other : List (List Nat)) : Prop where
  w1 : ∀ x ∈ one, x ∈ ws
  w2 : ∀ x ∈ other, x ∈ ws
  hd : ∃ a b, one.head? = some a ∧ other.head? = some b ∧ a ≠ b
  eq : one.flatten = other.flatten ++ r
  len : n = one.flatten.length
  short : one.dropLast.flatten.length ≤ other.flatten.length
  off : Off ws r n
theorem Mt.new {ws : List (List Nat)} {w o : List Nat} (hw : w ∈ ws) (ho : o ∈ ws) (ne : w ≠ o) (h : hit o w = true) : Mt ws w.length (w.drop o.length) [w] [o] := by
  refine ⟨fun x hx => by rw [List.mem_singleton.mp hx]; exact hw, fun x hx => by rw [List.mem_singleton.mp hx]; exact ho, ⟨w, o, rfl, rfl, ne⟩, ?_, by simp, by simp, .new hw ho ne h⟩
  have := hit_iff.mp h
  simp only [List.flatten_cons, List.flatten_nil, List.append_nil]
  conv => lhs; rw [← List.take_append_drop o.length w]
  rw [this]
theorem head_app {α : Type} {l m : List α} {a : α} (h : l.head? = some a) : (l ++ m).head? = some a := by
  cases l with
  | nil => cases h
  | cons x l => exact h
theorem flat_one {l : List (List Nat)} {w : List Nat} : (l ++ [w]).flatten = l.flatten ++ w := by simp
theorem Mt.on {ws : List (List Nat)} {n : Nat} {r : List Nat} {one other : List (List Nat)} (m : Mt ws n r one other) {w x : List Nat} (hw : w ∈ ws) (h : stp r w = some (x, false)) : Mt ws n x one (other ++ [w]) := by
  obtain ⟨a, b, ha, hb, ne⟩ := m.hd
  have h2 : hit w r = true ∧ x = r.drop w.length := by
    unfold stp at h
    by_cases c : hit w r = true
    · rw [if_pos c] at h
      cases h
      exact ⟨c, rfl⟩
    · rw [if_neg c] at h
      by_cases c2 : hit r w = true
      · rw [if_pos c2] at h
        cases h
      · rw [if_neg c2] at h
        cases h
  have h3 := hit_iff.mp h2.1
  refine ⟨m.w1, fun y hy => (List.mem_append.mp hy).elim (m.w2 y) fun z => by rw [List.mem_singleton.mp z]; exact hw, ⟨a, b, ha, head_app hb, ne⟩, ?_, m.len, ?_, ?_⟩
  · rw [m.eq, flat_one, List.append_assoc]
    congr 1
    conv => lhs; rw [← List.take_append_drop w.length r]
    rw [h3, h2.2]
  · rw [flat_one, List.length_append]
    have := m.short
    omega
  · have := Off.go m.off hw h
    exact this
theorem Mt.over {ws : List (List Nat)} {n : Nat} {r : List Nat} {one other : List (List Nat)} (m : Mt ws n r one other) {w x : List Nat} (hw : w ∈ ws) (h : stp r w = some (x, true)) : Mt ws (n + x.length) x (other ++ [w]) one := by
  obtain ⟨a, b, ha, hb, ne⟩ := m.hd
  have h2 : hit r w = true ∧ x = w.drop r.length := by
    unfold stp at h
    by_cases c : hit w r = true
    · rw [if_pos c] at h
      cases h
    · rw [if_neg c] at h
      by_cases c2 : hit r w = true
      · rw [if_pos c2] at h
        cases h
        exact ⟨c2, rfl⟩
      · rw [if_neg c2] at h
        cases h
  have h3 := hit_iff.mp h2.1
  have e : (other ++ [w]).flatten = one.flatten ++ x := by
    rw [flat_one, m.eq, List.append_assoc]
    congr 1
    conv => lhs; rw [← List.take_append_drop r.length w]
    rw [h3, h2.2]
  refine ⟨fun y hy => (List.mem_append.mp hy).elim (m.w2 y) fun z => by rw [List.mem_singleton.mp z]; exact hw, m.w1, ⟨b, a, head_app hb, ha, Ne.symm ne⟩, e, ?_, ?_, ?_⟩
  · rw [e, List.length_append, ← m.len]
  · rw [List.dropLast_concat, m.eq, List.length_append]
    omega
  · have := Off.go m.off hw h
    exact this
/-- an entry of the queue: its tuple, and what stands in it -/
structure Ent where
  T : Addr
  n : Nat
  r : List Nat
  oA : Addr
  pA : Addr
  one : List (List Nat)
  other : List (List Nat)
structure Ent.At (H : Hp) (e : Ent) : Prop where
  t : H e.T = some (.tup [.int (e.n : Int), tx e.r, .ref e.oA, .ref e.pA])
  o : H e.oA = some (.lst (e.one.map tx))
  p : H e.pA = some (.lst (e.other.map tx))
abbrev Ent.mt (ws : List (List Nat)) (e : Ent) : Prop := Mt ws e.n e.r e.one e.other
/-- what an entry's objects are to the heap before -/
structure Ent.New (H : Hp) (e : Ent) : Prop where
  t : H e.T = none
  o : H e.oA = none
  p : H e.pA = none
/-- the heap is kept but at q -/
def SameBut (q : Addr) (H H' : Hp) : Prop := ∀ b o, b ≠ q → H b = some o → H' b = some o
theorem texts_ne_refs {l : List (List Nat)} (h : l ≠ []) {us : List Addr} : HO.lst (l.map tx) ≠ HO.lst (us.map V.ref) := by
  intro e
  have e2 := HO.lst.inj e
  cases l with
  | nil => exact h rfl
  | cons x l =>
    cases us with
    | nil => cases e2
    | cons u us => cases (List.cons.inj e2).1
theorem Mt.ne1 {ws : List (List Nat)} {n : Nat} {r : List Nat} {one other : List (List Nat)} (m : Mt ws n r one other) : one ≠ [] := by
  obtain ⟨a, b, ha, hb, ne⟩ := m.hd
  rintro rfl
  cases ha
theorem Mt.ne2 {ws : List (List Nat)} {n : Nat} {r : List Nat} {one other : List (List Nat)} (m : Mt ws n r one other) : other ≠ [] := by
  obtain ⟨a, b, ha, hb, ne⟩ := m.hd
  rintro rfl
  cases hb
theorem Ent.At.keep {q : Addr} {H H' : Hp} {e : Ent} {us : List Addr} {ws : List (List Nat)} (a : e.At H) (s : SameBut q H H') (hq : H q = some (.lst (us.map V.ref))) (m : e.mt ws) : e.At H' :=
  ⟨s _ _ (ne_of a.t hq fun z => nomatch z) a.t, s _ _ (ne_of a.o hq (texts_ne_refs m.ne1)) a.o, s _ _ (ne_of a.p hq (texts_ne_refs m.ne2)) a.p⟩
theorem Ent.At.same {H H' : Hp} {e : Ent} (a : e.At H) (s : Same H H') : e.At H' := ⟨s _ _ a.t, s _ _ a.o, s _ _ a.p⟩
theorem SameBut.upd {q : Addr} {H : Hp} {o : HO} : SameBut q H (upd H q o) := fun b u hb e => by rw [upd_ne hb]; exact e
theorem none_of {H H' : Hp} (s : Same H H') {b : Addr} (h : H' b = none) : H b = none := by
  cases e : H b with
  | none => rfl
  | some o => rw [s _ _ e] at h; cases h
abbrev ents (es : List Ent) : List V := (es.map Ent.T).map V.ref
theorem ents_app {es fs : List Ent} : ents (es ++ fs) = ents es ++ ents fs := by
  unfold ents
  rw [List.map_append, List.map_append]
section
variable {Pr : Program} {w : World} {K : PySem.W.Frag} {mg : Str → Option Value} {base : Heap} {f fL fS : Addr} {fd fdL fdS : FuncData}
def spFirst : Sp := fun vs H Q _ => ∃ (c : Addr) (ws : List (List Nat)), vs = [.ref c] ∧ H c = some (.lst (ws.map tx)) ∧ ws.length ≤ 12 ∧ (∀ x ∈ ws, WordOk x) ∧
  ∀ (l : Addr) (es : List Ent) (H' : Hp), Same H H' → H l = none → H' l = some (.lst (ents es)) → (∀ e ∈ es, e.At H' ∧ e.New H ∧ e.mt ws ∧ e.one.length = 1 ∧ e.other.length = 1) →
    (∀ v ∈ ws, ∀ o ∈ ws, v ≠ o → hit o v = true → ∃ e ∈ es, e.r = v.drop o.length ∧ e.n = v.length) → es.length ≤ 144 → Q (.ref l) H'
theorem scFirst : FnScope ["code", "found", "word", "start", "rest"] ["code"] (defScope s__first_meetings) := ⟨rfl, rfl, rfl, by decide +kernel, rfl, by decide +kernel, by decide +kernel⟩
structure FI (ws : List (List Nat)) (H : Hp) (g : Addr) (C : List Nat → List Nat → Prop) (m : Nat) (H1 : Hp) : Prop where
  s : Same H H1
  ex : ∃ es : List Ent, H1 g = some (.lst (ents es)) ∧ (∀ e ∈ es, e.At H1 ∧ e.New H ∧ e.mt ws ∧ e.one.length = 1 ∧ e.other.length = 1) ∧
    (∀ v ∈ ws, ∀ o ∈ ws, C v o → v ≠ o → hit o v = true → ∃ e ∈ es, e.r = v.drop o.length ∧ e.n = v.length) ∧ es.length ≤ m
theorem FI.mono {ws : List (List Nat)} {H : Hp} {g : Addr} {C C' : List Nat → List Nat → Prop} {m m' : Nat} {H1 : Hp} (h : FI ws H g C m H1) (hc : ∀ v o, v ∈ ws → o ∈ ws → C' v o → v ≠ o → hit o v = true → C v o) (hm : m ≤ m') : FI ws H g C' m' H1 := by
  obtain ⟨s, es, h1, h2, h3, h4⟩ := h
  exact ⟨s, es, h1, h2, fun v hv o ho c ne hh => h3 v hv o ho (hc v o hv ho c ne hh) ne hh, by omega⟩
theorem ok_first (F : FnP K "_first_meetings" s__first_meetings f fd) (L : Has K mg "left_of" s_left_of ["text", "other"] fL fdL) (B : Bl mg) : FnOk Pr w K mg base CX0 2 f fd ["code"] spFirst := by
  have GL : FnOk Pr w K mg base CX0 1 fL fdL ["text", "other"] spLeft := ok_left L.F B
  refine F.okN scFirst (fun vs H Q E h => ?_) (fun cdv A' outer s H vs Q E hr h => ?_)
  · obtain ⟨c, ws, rfl, _⟩ := h
    rfl
  · obtain ⟨c, ws, rfl, hC, hn, hw, q⟩ := h
    refine ⟨_, pss_cons (ps_set (i := 1) scFirst.nd rfl (.inl rfl) (pe_lst pa_nil))
      (pss_cons (ps_for PassesOwn.never rfl (pi_list (pv 0)) (pg_name (i := 2) scFirst.nd rfl (Or.inl rfl))
        (pss_one (ps_for PassesOwn.never rfl (pi_list (pv 0)) (pg_name (i := 3) scFirst.nd rfl (Or.inl rfl))
          (pss_cons (ps_set (i := 4) scFirst.nd rfl (.inl rfl) (pe_call GL hr (by rfl) L.g L.F.kp L.b .nil pass0 (pa_cons (pv 2) (pa_cons (pv 3) pa_nil))))
          (pss_one (ps_if (PW.pt (pw_and (pt_cmpR op_notN (pv 4) pe_non (nomark _)) (pw_and1 (pt_cmpR op_ne (pv 2) (pv 3) (nomark _)))))
            (pss_one (ps_expr (pe_bm PySem.F.plainAttrs_list PySem.F.slot_list_append PySem.F.type_list_append mt_append (pv 1) (pa_cons (pe_tup (pa_cons (pe_callB call_len_str (by rfl) B.mL boot_len (pa_cons (pv 2) pa_nil)) (pa_cons (pv 4) (pa_cons (pe_lst (pa_cons (pv 2) pa_nil)) (pa_cons (pe_lst (pa_cons (pv 3) pa_nil)) pa_nil))))) pa_nil)))) pss_nil))))))
      (pss_one (ps_ret (pv 1)))), ?_⟩
    refine ⟨Nat.zero_le _, fun g hg => ?_⟩
    have s1 := same_upd (o := .lst []) hg
    have ncg : c ≠ g := ne_of_none hC hg
    refine ⟨_, rfl, c, rfl, ⟨_, seqL (s1 _ _ hC)⟩, for_list (K := K) (a := c) (xs := ws.map tx) (fun i σ H1 => FI ws H g (fun v _ => v ∈ ws.take i) (i * 12) H1 ∧ ∃ k2 k3 k4 : Option V, σ = [some (.ref c), some (.ref g), k2, k3, k4]) ?_ (fun i σ H1 _ hh => seqL (hh.1.s _ _ hC)) ?_ ?_⟩
    · exact ⟨⟨s1, [], upd_same, fun e he => absurd he List.not_mem_nil, fun v _ o _ hv => absurd hv (by rw [List.take_zero]; exact List.not_mem_nil), Nat.zero_le _⟩, _, _, _, rfl⟩
    · rintro i x σ H1 hx ⟨I1, k2, k3, k4, rfl⟩
      have hi : i < ws.length := by
        have := (List.getElem?_eq_some_iff.mp hx).1
        rw [List.length_map] at this
        exact this
      have hxe : x = tx ws[i] := by
        rw [List.getElem?_map, List.getElem?_eq_getElem hi] at hx
        exact (Option.some.inj hx).symm
      subst hxe
      obtain ⟨v, hv⟩ : ∃ v, v = ws[i] := ⟨_, rfl⟩
      rw [← hv]
      have hvm : v ∈ ws := by rw [hv]; exact List.getElem_mem hi
      have wv := hw v hvm
      refine ⟨_, rfl, c, rfl, ⟨_, seqL (I1.s _ _ hC)⟩, for_list (K := K) (a := c) (xs := ws.map tx) (fun j σ H2 => FI ws H g (fun v' o => v' ∈ ws.take i ∨ (v' = v ∧ o ∈ ws.take j)) (i * 12 + j) H2 ∧ ∃ k3 k4 : Option V, σ = [some (.ref c), some (.ref g), some (tx v), k3, k4]) ?_ (fun j σ H2 _ hh => seqL (hh.1.s _ _ hC)) ?_ ?_⟩
      · refine ⟨I1.mono (fun v' o _ _ hc _ _ => ?_) (Nat.le_refl _), _, _, rfl⟩
        rcases hc with hc | hc
        · exact hc
        · simp at hc
      · rintro j y σ H2 hy ⟨I2, k3, k4, rfl⟩
        have hj : j < ws.length := by
          have := (List.getElem?_eq_some_iff.mp hy).1
          rw [List.length_map] at this
          exact this
        have hye : y = tx ws[j] := by
          rw [List.getElem?_map, List.getElem?_eq_getElem hj] at hy
          exact (Option.some.inj hy).symm
        subst hye
        obtain ⟨o, ho⟩ : ∃ o, o = ws[j] := ⟨_, rfl⟩
        rw [← ho]
        have hom : o ∈ ws := by rw [ho]; exact List.getElem_mem hj
        have wo := hw o hom
        have tk : ∀ o', o' ∈ ws.take (j + 1) → o' ∈ ws.take j ∨ o' = o := fun o' h' => by
          rw [List.take_add_one, List.getElem?_eq_getElem hj, ← ho] at h'
          rcases List.mem_append.mp h' with z | z
          · exact .inl z
          · exact .inr (List.mem_singleton.mp z)
        have skip : ¬ (v ≠ o ∧ hit o v = true) → FI ws H g (fun v' o => v' ∈ ws.take i ∨ (v' = v ∧ o ∈ ws.take (j + 1))) (i * 12 + (j + 1)) H2 := fun nn => I2.mono (fun v' o' _ _ hc ne hh => by
          rcases hc with hc | ⟨rfl, hc⟩
          · exact .inl hc
          · rcases tk o' hc with z | rfl
            · exact .inr ⟨rfl, z⟩
            · exact absurd ⟨ne, hh⟩ nn) (by omega)
        refine ⟨_, rfl, _, rfl, v, o, rfl, by have := wv.2.1; omega, by have := wo.2.1; omega, ?_⟩
        by_cases ch : hit o v = true
        · rw [if_pos ch]
          refine ⟨_, rfl, rfl, _, rfl, iteNN (fun z => nomatch z) ?_⟩
          refine ⟨_, rfl, _, rfl, rfl, _, rfl, ?_⟩
          by_cases cv : v = o
          · refine iteNP (congrArg tx cv) ⟨skip fun z => z.1 cv, _, _, rfl⟩
          · refine iteNN (fun z => cv (S_inj (V.str.inj z))) ?_
            obtain ⟨s2, es, eg, he, hcov, hle⟩ := I2
            refine ⟨_, rfl, .inl ⟨rfl, _, seqL eg⟩, _, rfl, S v, rfl, small_S (by have := wv.2.1; omega), _, rfl, ?_⟩
            refine ⟨_, rfl, by show 1 ≤ sizeLine; decide, fun a1 n1 => ⟨_, rfl, by show 1 ≤ sizeLine; decide, fun a2 n2 => ?_⟩⟩
            have t1 := same_upd (o := .lst [tx v]) n1
            have t2 := same_upd (o := .lst [tx o]) n2
            refine ⟨by show 4 ≤ sizeLine; decide, fun a3 n3 => ?_⟩
            have t3 := same_upd (o := .tup [.int ((S v).length : Int), tx (v.drop o.length), .ref a1, .ref a2]) n3
            have t123 := (t1.trans t2).trans t3
            refine ⟨g, _, _, rfl, rfl, t123 _ _ eg, ?_, ?_⟩
            · rw [List.length_map, List.length_map]
              exact small1000 (by omega)
            · rw [show ((S v).length : Int) = (v.length : Int) by rw [S_len]] at t3 t123 ⊢
              have nag : ∀ b : Addr, H2 b = none → b ≠ g := fun b hb z => by rw [z, eg] at hb; cases hb
              have m1 : H2 a1 = none := n1
              have m2 : H2 a2 = none := none_of t1 n2
              have m3 : H2 a3 = none := none_of (t1.trans t2) n3
              have e1 : (upd (upd (upd H2 a1 (.lst [tx v])) a2 (.lst [tx o])) a3 (.tup [.int (v.length : Int), tx (v.drop o.length), .ref a1, .ref a2])) a1 = some (.lst [tx v]) := (t2.trans t3) _ _ upd_same
              have e2 : (upd (upd (upd H2 a1 (.lst [tx v])) a2 (.lst [tx o])) a3 (.tup [.int (v.length : Int), tx (v.drop o.length), .ref a1, .ref a2])) a2 = some (.lst [tx o]) := t3 _ _ upd_same
              have e3 : (upd (upd (upd H2 a1 (.lst [tx v])) a2 (.lst [tx o])) a3 (.tup [.int (v.length : Int), tx (v.drop o.length), .ref a1, .ref a2])) a3 = some (.tup [.int (v.length : Int), tx (v.drop o.length), .ref a1, .ref a2]) := upd_same
              generalize (upd (upd (upd H2 a1 (.lst [tx v])) a2 (.lst [tx o])) a3 (.tup [.int (v.length : Int), tx (v.drop o.length), .ref a1, .ref a2])) = H3 at t123 e1 e2 e3 ⊢
              have sb : SameBut g H2 (upd H3 g (.lst (ents es ++ [.ref a3]))) := fun b u hb hu => by
                rw [upd_ne hb]
                exact t123 _ _ hu
              refine ⟨⟨fun b u hu => ?_, es ++ [⟨a3, v.length, v.drop o.length, a1, a2, [v], [o]⟩], ?_, ?_, ?_, ?_⟩, _, _, rfl⟩
              · rw [upd_ne (ne_of_none hu hg)]
                exact t123 _ _ (s2 _ _ hu)
              · rw [upd_same, ents_app]
                rfl
              · intro e hm
                rcases List.mem_append.mp hm with z | z
                · obtain ⟨h1, h2, h3, h4⟩ := he e z
                  exact ⟨h1.keep sb eg h3, h2, h3, h4⟩
                · rw [List.mem_singleton.mp z]
                  refine ⟨⟨?_, ?_, ?_⟩, ⟨none_of s2 m3, none_of s2 m1, none_of s2 m2⟩, Mt.new hvm hom cv ch, rfl, rfl⟩
                  · exact (upd_ne (nag _ m3)).trans e3
                  · exact (upd_ne (nag _ m1)).trans e1
                  · exact (upd_ne (nag _ m2)).trans e2
              · intro v' hv' o' ho' hc ne hh
                have old : (v' ∈ ws.take i ∨ (v' = v ∧ o' ∈ ws.take j)) → ∃ e ∈ es ++ [(⟨a3, v.length, v.drop o.length, a1, a2, [v], [o]⟩ : Ent)], e.r = v'.drop o'.length ∧ e.n = v'.length := fun z => by
                  obtain ⟨e, h1, h2⟩ := hcov v' hv' o' ho' z ne hh
                  exact ⟨e, List.mem_append_left _ h1, h2⟩
                rcases hc with hc | ⟨rfl, hc⟩
                · exact old (.inl hc)
                · rcases tk o' hc with z | rfl
                  · exact old (.inr ⟨rfl, z⟩)
                  · exact ⟨_, List.mem_append_right _ (List.mem_singleton.mpr rfl), rfl, rfl⟩
              · rw [List.length_append, List.length_singleton]
                omega
        · rw [if_neg ch]
          refine ⟨_, rfl, rfl, _, rfl, iteNP rfl (iteF ?_)⟩
          exact ⟨skip fun z => ch z.2, _, _, rfl⟩
      · rintro σ H2 ⟨I2, k3, k4, rfl⟩
        refine ⟨I2.mono (fun v' o' _ ho' hc _ _ => ?_) (by rw [List.length_map]; omega), _, _, _, rfl⟩
        rw [List.take_add_one, List.getElem?_eq_getElem hi, ← hv] at hc
        rcases List.mem_append.mp hc with z | z
        · exact .inl z
        · refine .inr ⟨List.mem_singleton.mp z, ?_⟩
          rw [List.length_map, List.take_length]
          exact ho'
    · rintro σ H1 ⟨⟨s1, es, eg, he, hcov, hle⟩, k2, k3, k4, rfl⟩
      rw [List.length_map] at hcov hle
      refine ⟨_, rfl, q g es H1 s1 hg eg he (fun v hv o ho => hcov v hv o ho (by rw [List.take_length]; exact hv)) (by omega)⟩
end
section
variable {Pr : Program} {w : World} {K : PySem.W.Frag} {mg : Str → Option Value} {base : Heap} {f fL fS : Addr} {fd fdL fdS : FuncData}
def OneOf (H : Hp) (x a b : Addr) : Prop := H x = none ∨ x = a ∨ x = b
structure Fur (ws : List (List Nat)) (H : Hp) (oA pA : Addr) (M : Nat) (H1 : Hp) (e : Ent) : Prop where
  at_ : e.At H1
  t : H e.T = none
  o : OneOf H e.oA oA pA
  p : OneOf H e.pA oA pA
  m : e.mt ws
  l1 : e.one.length ≤ M + 1
  l2 : e.other.length ≤ M + 1
structure FU (ws : List (List Nat)) (H : Hp) (n : Nat) (r : List Nat) (oA pA : Addr) (M : Nat) (g : Addr) (C : List Nat → Prop) (m : Nat) (H1 : Hp) : Prop where
  s : Same H H1
  ex : ∃ es : List Ent, H1 g = some (.lst (ents es)) ∧ (∀ e ∈ es, Fur ws H oA pA M H1 e) ∧
    (∀ v ∈ ws, C v → ∀ x b, stp r v = some (x, b) → ∃ e ∈ es, e.r = x ∧ e.n = n + if b = true then x.length else 0) ∧ es.length ≤ m
def spFurther : Sp := fun vs H Q _ => ∃ (c oA pA : Addr) (n M : Nat) (r : List Nat) (one other ws : List (List Nat)), vs = [.ref c, .int (n : Int), tx r, .ref oA, .ref pA] ∧ H c = some (.lst (ws.map tx)) ∧ H oA = some (.lst (one.map tx)) ∧ H pA = some (.lst (other.map tx)) ∧
  ws.length ≤ 12 ∧ (∀ x ∈ ws, WordOk x) ∧ Mt ws n r one other ∧ one.length ≤ M ∧ other.length ≤ M ∧ M ≤ 1000 ∧
  ∀ (l : Addr) (es : List Ent) (H' : Hp), Same H H' → H l = none → H' l = some (.lst (ents es)) → (∀ e ∈ es, Fur ws H oA pA M H' e) →
    (∀ v ∈ ws, ∀ x b, stp r v = some (x, b) → ∃ e ∈ es, e.r = x ∧ e.n = n + if b = true then x.length else 0) → es.length ≤ 12 → Q (.ref l) H'
theorem scFurther : FnScope ["code", "length", "rest", "one", "other", "found", "word", "step", "left", "beyond"] ["code", "length", "rest", "one", "other"] (defScope s__further_meetings) := ⟨rfl, rfl, rfl, by decide +kernel, rfl, by decide +kernel, by decide +kernel⟩
/-- one more entry is appended -/
theorem FU.more {ws : List (List Nat)} {H : Hp} {n : Nat} {r : List Nat} {oA pA : Addr} {M : Nat} {g : Addr} {C C' : List Nat → Prop} {m : Nat} {H1 H3 : Hp} (h : FU ws H n r oA pA M g C m H1) (hg : H g = none) {es : List Ent} {e : Ent}
    (eg : H1 g = some (.lst (ents es))) (s : Same H1 H3) (he : Fur ws H oA pA M (upd H3 g (.lst (ents es ++ [.ref e.T]))) e) (hold : ∀ e ∈ es, Fur ws H oA pA M H1 e) (hlen : es.length ≤ m)
    (hcov : ∀ v ∈ ws, C v → ∀ x b, stp r v = some (x, b) → ∃ e ∈ es, e.r = x ∧ e.n = n + if b = true then x.length else 0)
    (hc : ∀ v ∈ ws, C' v → ∀ x b, stp r v = some (x, b) → C v ∨ (e.r = x ∧ e.n = n + if b = true then x.length else 0)) :
    FU ws H n r oA pA M g C' (m + 1) (upd H3 g (.lst (ents es ++ [.ref e.T]))) := by
  have sb : SameBut g H1 (upd H3 g (.lst (ents es ++ [.ref e.T]))) := fun b u hb hu => by
    rw [upd_ne hb]
    exact s _ _ hu
  refine ⟨fun b u hu => ?_, es ++ [e], ?_, fun x hx => ?_, fun v hv cv x b hs => ?_, ?_⟩
  · rw [upd_ne (ne_of_none hu hg)]
    exact s _ _ (h.s _ _ hu)
  · rw [upd_same, ents_app]
    rfl
  · rcases List.mem_append.mp hx with z | z
    · have q := hold x z
      exact ⟨q.at_.keep sb eg q.m, q.t, q.o, q.p, q.m, q.l1, q.l2⟩
    · rw [List.mem_singleton.mp z]
      exact he
  · rcases hc v hv cv x b hs with z | z
    · obtain ⟨e2, h1, h2⟩ := hcov v hv z x b hs
      exact ⟨e2, List.mem_append_left _ h1, h2⟩
    · exact ⟨e, List.mem_append_right _ (List.mem_singleton.mpr rfl), z⟩
  · rw [List.length_append, List.length_singleton]
    omega
theorem ok_further (F : FnP K "_further_meetings" s__further_meetings f fd) (L : Has K mg "left_of" s_left_of ["text", "other"] fL fdL) (S1 : Has K mg "stepped" s_stepped ["rest", "word"] fS fdS) (B : Bl mg) : FnOk Pr w K mg base CX0 3 f fd ["code", "length", "rest", "one", "other"] spFurther := by
  have GS : FnOk Pr w K mg base CX0 2 fS fdS ["rest", "word"] spStep := ok_stepped S1.F L B
  refine F.okN scFurther (fun vs H Q E h => ?_) (fun cdv A' outer s H vs Q E hr h => ?_)
  · obtain ⟨c, oA, pA, n, M, r, one, other, ws, rfl, _⟩ := h
    rfl
  · obtain ⟨c, oA, pA, n, M, r, one, other, ws, rfl, hC, hO, hP, hn, hw, hm, l1, l2, lM, q⟩ := h
    refine ⟨_, pss_cons (ps_set (i := 5) scFurther.nd rfl (.inl rfl) (pe_lst pa_nil))
      (pss_cons (ps_for PassesOwn.never rfl (pi_list (pv 0)) (pg_name (i := 6) scFurther.nd rfl (Or.inl rfl))
        (pss_cons (ps_set (i := 7) scFurther.nd rfl (.inl rfl) (pe_call GS hr (by rfl) S1.g S1.F.kp S1.b .nil pass0 (pa_cons (pv 2) (pa_cons (pv 6) pa_nil))))
          (pss_one (ps_if (pt_cmpR op_notN (pv 7) pe_non (nomark _))
            (pss_cons (ps_asg (pv 7) (pg_tup rfl (pgs_cons (pg_name (i := 8) scFurther.nd rfl (Or.inl rfl)) (pgs_cons (pg_name (i := 9) scFurther.nd rfl (Or.inl rfl)) pgs_nil))))
            (pss_one (ps_if (pt_val (pv 9))
              (pss_one (ps_expr (pe_bm PySem.F.plainAttrs_list PySem.F.slot_list_append PySem.F.type_list_append mt_append (pv 5) (pa_cons (pe_tup (pa_cons (pe_op op_add (pv 1) (pe_callB call_len_str (by rfl) B.mL boot_len (pa_cons (pv 8) pa_nil))) (pa_cons (pv 8) (pa_cons (pe_op op_cat (pv 4) (pe_lst (pa_cons (pv 6) pa_nil))) (pa_cons (pv 3) pa_nil))))) pa_nil))))
              (pss_one (ps_expr (pe_bm PySem.F.plainAttrs_list PySem.F.slot_list_append PySem.F.type_list_append mt_append (pv 5) (pa_cons (pe_tup (pa_cons (pv 1) (pa_cons (pv 8) (pa_cons (pv 3) (pa_cons (pe_op op_cat (pv 4) (pe_lst (pa_cons (pv 6) pa_nil))) pa_nil))))) pa_nil))))))) pss_nil))))
      (pss_one (ps_ret (pv 5)))), ?_⟩
    refine ⟨Nat.zero_le _, fun g hg => ?_⟩
    have s1 := same_upd (o := .lst []) hg
    have lr := (hm.off.let hw).2
    refine ⟨_, rfl, c, rfl, ⟨_, seqL (s1 _ _ hC)⟩, for_list (K := K) (a := c) (xs := ws.map tx) (fun i σ H1 => FU ws H n r oA pA M g (fun v => v ∈ ws.take i) i H1 ∧ ∃ k6 k7 k8 k9 : Option V, σ = [some (.ref c), some (.int (n : Int)), some (tx r), some (.ref oA), some (.ref pA), some (.ref g), k6, k7, k8, k9]) ?_ (fun i σ H1 _ hh => seqL (hh.1.s _ _ hC)) ?_ ?_⟩
    · exact ⟨⟨s1, [], upd_same, fun e he => absurd he List.not_mem_nil, fun v _ hv => absurd hv (by rw [List.take_zero]; exact List.not_mem_nil), Nat.zero_le _⟩, _, _, _, _, rfl⟩
    · rintro i x σ H1 hx ⟨I1, k6, k7, k8, k9, rfl⟩
      have hi : i < ws.length := by
        have := (List.getElem?_eq_some_iff.mp hx).1
        rw [List.length_map] at this
        exact this
      have hxe : x = tx ws[i] := by
        rw [List.getElem?_map, List.getElem?_eq_getElem hi] at hx
        exact (Option.some.inj hx).symm
      subst hxe
      obtain ⟨v, hv⟩ : ∃ v, v = ws[i] := ⟨_, rfl⟩
      rw [← hv]
      have hvm : v ∈ ws := by rw [hv]; exact List.getElem_mem hi
      have wv := hw v hvm
      have tk : ∀ o', o' ∈ ws.take (i + 1) → o' ∈ ws.take i ∨ o' = v := fun o' h' => by
        rw [List.take_add_one, List.getElem?_eq_getElem hi, ← hv] at h'
        rcases List.mem_append.mp h' with z | z
        · exact .inl z
        · exact .inr (List.mem_singleton.mp z)
      have lv := wv.2.1
      refine ⟨_, rfl, _, rfl, r, v, rfl, by omega, by omega, fun en => ?_, fun x b es p H2 s2 np ep => ?_⟩
      · refine ⟨_, rfl, rfl, _, rfl, iteNP rfl ?_⟩
        obtain ⟨s0, es, eg, he, hcov, hle⟩ := I1
        refine ⟨⟨s0, es, eg, he, fun v' hv' hc x b hs => ?_, by omega⟩, _, _, _, _, rfl⟩
        rcases tk v' hc with z | z
        · exact hcov v' hv' z x b hs
        · rw [z, en] at hs
          cases hs
      · refine ⟨_, rfl, rfl, _, rfl, iteNN (fun z => nomatch z) ?_⟩
        refine ⟨_, rfl, p, _, rfl, .inl (.inl ep), rfl, _, _, rfl, _, _, rfl, rfl, ?_⟩
        refine ⟨_, rfl, b, rfl, ?_⟩
        have lx : x.length ≤ 10 := by
          rcases stp_end es with ⟨k, e⟩ | ⟨k, e⟩ <;> rw [e, List.length_drop] <;> omega
        have hI := I1
        obtain ⟨s0, es1, eg, he, hcov, hle⟩ := I1
        have hO2 := s2 _ _ (s0 _ _ hO)
        have hP2 := s2 _ _ (s0 _ _ hP)
        have eg2 := s2 _ _ eg
        have nag : ∀ b : Addr, H2 b = none → b ≠ g := fun b hb z => by rw [z, eg2] at hb; cases hb
        have oag : oA ≠ g := ne_of_none hO hg
        have pag : pA ≠ g := ne_of_none hP hg
        have i12 : i < 12 := by omega
        have lap : es1.length < 1000 := by omega
        cases b with
        | true =>
          refine iteT ?_
          refine ⟨_, rfl, .inl ⟨rfl, _, seqL eg2⟩, _, rfl, _, rfl, S x, rfl, small_S (by omega), _, _, rfl, rfl, _, rfl, _, rfl, _, rfl, by show 1 ≤ sizeLine; decide, fun a0 n0 => ?_⟩
          have t1 := same_upd (o := .lst [tx v]) n0
          refine ⟨pA, a0, _, _, rfl, rfl, t1 _ _ hP2, upd_same, ?_, fun a1 n1 => ?_⟩
          · rw [List.length_map]
            show other.length + 1 ≤ 2 ^ 24
            omega
          have t2 := same_upd (o := .lst (other.map tx ++ [tx v])) n1
          refine ⟨_, rfl, by show 4 ≤ sizeLine; decide, fun a3 n3 => ?_⟩
          have t3 := same_upd (o := .tup [.int ((n : Int) + ((S x).length : Int)), tx x, .ref a1, .ref oA]) n3
          have t123 := (t1.trans t2).trans t3
          refine ⟨g, _, _, rfl, rfl, t123 _ _ eg2, ?_, ?_⟩
          · rw [List.length_map, List.length_map]
            exact small1000 (by omega)
          · have ei : ((n : Int) + ((S x).length : Int)) = ((n + x.length : Nat) : Int) := by rw [S_len]; omega
            have eo : other.map tx ++ [tx v] = (other ++ [v]).map tx := by rw [List.map_append]; rfl
            have m1 : H2 a1 = none := none_of t1 n1
            have m3 : H2 a3 = none := none_of (t1.trans t2) n3
            dsimp only
            rw [ei] at t3 t123 ⊢
            rw [eo] at t2 t3 t123 ⊢
            have e1 : (upd (upd (upd H2 a0 (.lst [tx v])) a1 (.lst ((other ++ [v]).map tx))) a3 (.tup [.int ((n + x.length : Nat) : Int), tx x, .ref a1, .ref oA])) a1 = some (.lst ((other ++ [v]).map tx)) := t3 _ _ upd_same
            have e3 : (upd (upd (upd H2 a0 (.lst [tx v])) a1 (.lst ((other ++ [v]).map tx))) a3 (.tup [.int ((n + x.length : Nat) : Int), tx x, .ref a1, .ref oA])) a3 = some (.tup [.int ((n + x.length : Nat) : Int), tx x, .ref a1, .ref oA]) := upd_same
            generalize (upd (upd (upd H2 a0 (.lst [tx v])) a1 (.lst ((other ++ [v]).map tx))) a3 (.tup [.int ((n + x.length : Nat) : Int), tx x, .ref a1, .ref oA])) = H3 at t123 e1 e3 ⊢
            refine ⟨hI.more (e := ⟨a3, n + x.length, x, a1, oA, other ++ [v], one⟩) hg eg (s2.trans t123) ⟨⟨(upd_ne (nag _ m3)).trans e3, (upd_ne (nag _ m1)).trans e1, (upd_ne oag).trans (t123 _ _ hO2)⟩, none_of (s0.trans s2) m3, .inl (none_of (s0.trans s2) m1), .inr (.inl rfl), hm.over hvm es, ?_, ?_⟩ he hle hcov fun v' hv' hc x' b' hs => ?_, _, _, _, _, rfl⟩
            · show (other ++ [v]).length ≤ M + 1
              rw [List.length_append, List.length_singleton]
              omega
            · show one.length ≤ M + 1
              omega
            · rcases tk v' hc with z | z
              · exact .inl z
              · rw [z, es] at hs
                cases hs
                exact .inr ⟨rfl, rfl⟩
        | false =>
          refine iteF ?_
          refine ⟨_, rfl, .inl ⟨rfl, _, seqL eg2⟩, _, rfl, _, rfl, _, rfl, _, rfl, _, rfl, by show 1 ≤ sizeLine; decide, fun a0 n0 => ?_⟩
          have t1 := same_upd (o := .lst [tx v]) n0
          refine ⟨pA, a0, _, _, rfl, rfl, t1 _ _ hP2, upd_same, ?_, fun a1 n1 => ?_⟩
          · rw [List.length_map]
            show other.length + 1 ≤ 2 ^ 24
            omega
          have t2 := same_upd (o := .lst (other.map tx ++ [tx v])) n1
          refine ⟨by show 4 ≤ sizeLine; decide, fun a3 n3 => ?_⟩
          have t3 := same_upd (o := .tup [.int (n : Int), tx x, .ref oA, .ref a1]) n3
          have t123 := (t1.trans t2).trans t3
          refine ⟨g, _, _, rfl, rfl, t123 _ _ eg2, ?_, ?_⟩
          · rw [List.length_map, List.length_map]
            exact small1000 (by omega)
          · have eo : other.map tx ++ [tx v] = (other ++ [v]).map tx := by rw [List.map_append]; rfl
            have m1 : H2 a1 = none := none_of t1 n1
            have m3 : H2 a3 = none := none_of (t1.trans t2) n3
            rw [eo] at t2 t3 t123 ⊢
            have e1 : (upd (upd (upd H2 a0 (.lst [tx v])) a1 (.lst ((other ++ [v]).map tx))) a3 (.tup [.int (n : Int), tx x, .ref oA, .ref a1])) a1 = some (.lst ((other ++ [v]).map tx)) := t3 _ _ upd_same
            have e3 : (upd (upd (upd H2 a0 (.lst [tx v])) a1 (.lst ((other ++ [v]).map tx))) a3 (.tup [.int (n : Int), tx x, .ref oA, .ref a1])) a3 = some (.tup [.int (n : Int), tx x, .ref oA, .ref a1]) := upd_same
            generalize (upd (upd (upd H2 a0 (.lst [tx v])) a1 (.lst ((other ++ [v]).map tx))) a3 (.tup [.int (n : Int), tx x, .ref oA, .ref a1])) = H3 at t123 e1 e3 ⊢
            refine ⟨hI.more (e := ⟨a3, n, x, oA, a1, one, other ++ [v]⟩) hg eg (s2.trans t123) ⟨⟨(upd_ne (nag _ m3)).trans e3, (upd_ne oag).trans (t123 _ _ hO2), (upd_ne (nag _ m1)).trans e1⟩, none_of (s0.trans s2) m3, .inr (.inl rfl), .inl (none_of (s0.trans s2) m1), hm.on hvm es, ?_, ?_⟩ he hle hcov fun v' hv' hc x' b' hs => ?_, _, _, _, _, rfl⟩
            · show one.length ≤ M + 1
              omega
            · show (other ++ [v]).length ≤ M + 1
              rw [List.length_append, List.length_singleton]
              omega
            · rcases tk v' hc with z | z
              · exact .inl z
              · rw [z, es] at hs
                cases hs
                exact .inr ⟨rfl, rfl⟩
    · rintro σ H1 ⟨⟨s1, es, eg, he, hcov, hle⟩, k6, k7, k8, k9, rfl⟩
      rw [List.length_map] at hcov hle
      refine ⟨_, rfl, q g es H1 s1 hg eg he (fun v hv => hcov v hv (by rw [List.take_length]; exact hv)) (by omega)⟩
end
/-! ### the queue of meetings -/
abbrev txD (l : List (List Nat)) : PyData := .list (l.map fun l => PyData.str (S l))
def Ent.dt (e : Ent) : PyData := .tuple [.int (e.n : Int), .str (S e.r), txD e.one, txD e.other]
/-- what stands at a tuple of the queue, as data -/
def lD (H : Hp) (a : Addr) : PyData := match H a with
  | some (.lst xs) => .list (xs.map fun v => match v with | .str z => .str z | _ => .none)
  | _ => .none
def dat (H : Hp) (t : Addr) : PyData := match H t with
  | some (.tup [.int n, .str r, .ref a, .ref b]) => .tuple [.int n, .str r, lD H a, lD H b]
  | _ => .none
theorem lD_at {H : Hp} {a : Addr} {l : List (List Nat)} (h : H a = some (.lst (l.map tx))) : lD H a = txD l := by
  unfold lD
  rw [h]
  show PyData.list _ = PyData.list _
  rw [List.map_map]
  rfl
theorem Ent.At.dat {H : Hp} {e : Ent} (a : e.At H) : dat H e.T = e.dt := by
  unfold Ow.dat
  rw [a.t]
  show PyData.tuple [.int (e.n : Int), .str (S e.r), lD H e.oA, lD H e.pA] = _
  rw [lD_at a.o, lD_at a.p]
  rfl
theorem Ent.At.dp {K : PySem.W.Frag} {H : Hp} {e : Ent} (a : e.At H) : Dp K H (.ref e.T) e.dt :=
  .tup (.inl (.inl a.t)) (.cons (.int _) (.cons (.str _) (.cons (.lst (seqL a.o) (dp_texts _)) (.cons (.lst (seqL a.p) (dp_texts _)) .nil))))
theorem txs_depth : ∀ l : List (List Nat), PyData.depthAll (l.map fun l => PyData.str (S l)) = 0
  | [] => by simp [PyData.depthAll]
  | x :: l => by
    have := txs_depth l
    simp [PyData.depthAll, PyData.depth, this]
theorem dt_depth (e : Ent) : e.dt.depth ≤ 8 := by
  unfold Ent.dt txD
  simp [PyData.depth, PyData.depthAll, txs_depth]
theorem txs_alike : ∀ l m : List (List Nat), PySem.W.alikeAll (l.map fun l => PyData.str (S l)) (m.map fun l => PyData.str (S l)) = true
  | [], _ => by simp [PySem.W.alikeAll]
  | _ :: _, [] => by simp [PySem.W.alikeAll]
  | x :: l, y :: m => by
    have := txs_alike l m
    simp only [List.map_cons, PySem.W.alikeAll, PySem.W.alike, Bool.true_and]
    exact this
theorem dt_alike (e g : Ent) : PySem.W.alike e.dt g.dt = true := by
  unfold Ent.dt txD
  simp only [PySem.W.alike, PySem.W.alikeAll, Bool.true_and, Bool.and_true, Bool.and_eq_true]
  exact ⟨txs_alike _ _, txs_alike _ _⟩
theorem dt_lt {e g : Ent} (h : e.n < g.n) : PySem.W.dataLt e.dt g.dt = true := by
  unfold Ent.dt
  rw [PySem.W.dataLt_tuple, PySem.W.dataLt_all_no (by simp [PySem.W.alike]) (by simp [PyData.eqv]; omega), PySem.W.dataLt_int]
  exact decide_eq_true (by omega)
/-- an entry of the table: a tuple of both rows -/
structure Ent.Fat (H : Hp) (e : Ent) : Prop where
  t : H e.T = some (.tup [.ref e.oA, .ref e.pA])
  o : H e.oA = some (.lst (e.one.map tx))
  p : H e.pA = some (.lst (e.other.map tx))
def fkv (fs : List Ent) : List (Key × V) := fs.map fun e => (Sum.inr (S e.r), V.ref e.T)
theorem fkv_out : ∀ {fs : List Ent} {r : List Nat}, (∀ f ∈ fs, f.r ≠ r) → valV (fkv fs) (Sum.inr (S r)) = none
  | [], _, _ => rfl
  | e :: fs, r, h => by
    have ne : ¬ (Sum.inr (S e.r) : Key) = Sum.inr (S r) := fun q => h e List.mem_cons_self (S_inj (Sum.inr.inj q))
    exact (valV_neg ne).trans (fkv_out fun f hf => h f (List.mem_cons_of_mem _ hf))
theorem fkv_in : ∀ {fs : List Ent} {f : Ent}, (fs.map Ent.r).Nodup → f ∈ fs → valV (fkv fs) (Sum.inr (S f.r)) = some (V.ref f.T)
  | [], _, _, h => nomatch h
  | e :: fs, f, nd, h => by
    obtain ⟨n1, n2⟩ := List.nodup_cons.mp nd
    rcases List.mem_cons.mp h with z | z
    · rw [z]
      exact valV_pos rfl
    · have ne : ¬ (Sum.inr (S e.r) : Key) = Sum.inr (S f.r) := fun q => n1 (by rw [S_inj (Sum.inr.inj q)]; exact List.mem_map.mpr ⟨f, z, rfl⟩)
      exact (valV_neg ne).trans (fkv_in n2 z)
structure MI (ws : List (List Nat)) (H0 : Hp) (q d : Addr) (qs fs pend : List Ent) (H : Hp) : Prop where
  s : Same H0 H
  nq : H0 q = none
  nd : H0 d = none
  hq : H q = some (.lst (ents qs))
  hd : H d = some (.dK (fkv fs))
  heap : HQ.Queue (dat H) (qs.map Ent.T)
  qe : ∀ e ∈ qs ++ pend, e.At H ∧ e.New H0 ∧ e.mt ws ∧ e.one.length ≤ fs.length + 1 ∧ e.other.length ≤ fs.length + 1
  fe : ∀ f ∈ fs, f.Fat H ∧ f.New H0 ∧ f.mt ws ∧ Lst ws f.r f.n ∧ f.one.length ≤ fs.length ∧ f.other.length ≤ fs.length
  dist : (fs.map Ent.r).Nodup
  c1 : ∀ v ∈ ws, ∀ o ∈ ws, v ≠ o → hit o v = true → (∃ f ∈ fs, f.r = v.drop o.length ∧ f.n ≤ v.length) ∨ ∃ e ∈ qs ++ pend, e.r = v.drop o.length ∧ e.n = v.length
  c2 : ∀ f ∈ fs, ∀ v ∈ ws, ∀ x b, stp f.r v = some (x, b) → (∃ g ∈ fs, g.r = x ∧ g.n ≤ f.n + if b = true then x.length else 0) ∨ ∃ e ∈ qs ++ pend, e.r = x ∧ e.n = f.n + if b = true then x.length else 0
  sz : qs.length + pend.length ≤ 144 + 12 * fs.length
section
variable {ws : List (List Nat)} {H0 H H1 : Hp} {q d : Addr} {qs fs pend : List Ent} {e : Ent} {K : PySem.W.Frag}
theorem MI.reach (I : MI ws H0 q d qs fs pend H) {r : List Nat} {m : Nat} (o : Off ws r m) : (∃ f ∈ fs, f.r = r ∧ f.n ≤ m) ∨ ∃ e ∈ qs ++ pend, e.n ≤ m := by
  induction o with
  | new a b c d =>
    rcases I.c1 _ a _ b c d with ⟨f, h1, h2, h3⟩ | ⟨e, h1, h2, h3⟩
    · exact .inl ⟨f, h1, h2, h3⟩
    · exact .inr ⟨e, h1, by omega⟩
  | @go r0 v x n b o hv hs ih =>
    rcases ih with ⟨f, h1, h2, h3⟩ | ⟨e, h1, h2⟩
    · rw [← h2] at hs
      rcases I.c2 f h1 _ hv _ _ hs with ⟨g, g1, g2, g3⟩ | ⟨e, g1, g2, g3⟩
      · exact .inl ⟨g, g1, g2, by omega⟩
      · exact .inr ⟨e, g1, by omega⟩
    · exact .inr ⟨e, h1, by omega⟩
theorem MI.fs_len (I : MI ws H0 q d qs fs pend H) (hw : ∀ x ∈ ws, WordOk x) (hn : ws.length ≤ 12) : fs.length ≤ 132 := by
  have h := nodup_sub I.dist (m := ws.flatMap fun w => (List.range 11).map fun k => w.drop k) fun x hx => by
    obtain ⟨f, hf, e⟩ := List.mem_map.mp hx
    rw [← e]
    exact (I.fe f hf).2.2.2.1.1.in_tails hw
  rw [List.length_map, tails_len] at h
  omega
theorem queue_congr {κ κ' : Addr → PyData} {ts : List Addr} (h : ∀ t ∈ ts, κ t = κ' t) (g : HQ.Queue κ ts) : HQ.Queue κ' ts := by
  intro i h0 hi
  have hp := HQ.par_lt h0
  have m : ∀ j, j < ts.length → κ (ts.getD j 0) = κ' (ts.getD j 0) := fun j hj => h _ (by
    rw [List.getD_eq_getElem?_getD, List.getElem?_eq_getElem hj]
    exact List.getElem_mem hj)
  have := g i h0 hi
  dsimp only at this ⊢
  rw [m i hi, m (HQ.par i) (by omega)] at this
  exact this
theorem perm_lift {α β : Type} {f : α → β} {us : List β} {l : List α} (p : us.Perm (l.map f)) : ∃ l' : List α, l'.Perm l ∧ l'.map f = us := by
  obtain ⟨m, hm⟩ : ∃ m, m = l.map f := ⟨_, rfl⟩
  rw [← hm] at p
  induction p generalizing l with
  | nil => 
    have : l = [] := List.map_eq_nil_iff.mp hm.symm
    subst this
    exact ⟨[], .refl _, rfl⟩
  | @cons x l1 l2 p ih =>
    cases l with
    | nil => cases hm
    | cons a l =>
      have e := List.cons.inj hm
      obtain ⟨l', p', e'⟩ := ih e.2
      exact ⟨a :: l', p'.cons a, by rw [List.map_cons, e', e.1]⟩
  | swap x y r =>
    match l, hm with
    | a :: b :: l, hm =>
      have e := List.cons.inj hm
      have e2 := List.cons.inj e.2
      exact ⟨b :: a :: l, .swap a b l, by rw [List.map_cons, List.map_cons, ← e.1, ← e2.1, ← e2.2]⟩
  | @trans l1 l2 l3 p1 p2 ih1 ih2 =>
    obtain ⟨l', p', e'⟩ := ih2 hm
    obtain ⟨l'', p'', e''⟩ := ih1 e'.symm
    exact ⟨l'', p''.trans p', e''⟩
theorem keyed_of {g : List Ent} {us : List Addr} (hq : H q = some (.lst (us.map V.ref))) (h : ∀ e ∈ g, e.At H ∧ e.mt ws) : HQ.Keyed K H q (dat H) (g.map Ent.T) := by
  refine ⟨fun t ht => ?_, fun t ht u hu => ?_⟩
  · obtain ⟨e, he, rfl⟩ := List.mem_map.mp ht
    obtain ⟨a, m⟩ := h e he
    rw [a.dat]
    exact ⟨fun o => (a.keep SameBut.upd hq m).dp, (by unfold Ent.dt; intro z; cases z), dt_depth e⟩
  · obtain ⟨e, he, rfl⟩ := List.mem_map.mp ht
    obtain ⟨g, hg, rfl⟩ := List.mem_map.mp hu
    rw [(h e he).1.dat, (h g hg).1.dat]
    exact dt_alike e g
theorem MI.same (I : MI ws H0 q d qs fs pend H) (s : Same H H1) : MI ws H0 q d qs fs pend H1 where
  s := I.s.trans s
  nq := I.nq
  nd := I.nd
  hq := s _ _ I.hq
  hd := s _ _ I.hd
  heap := queue_congr (fun t ht => by
    obtain ⟨e, he, rfl⟩ := List.mem_map.mp ht
    have a := (I.qe e (List.mem_append_left _ he)).1
    rw [a.dat, (a.same s).dat]) I.heap
  qe := fun e he => by
    obtain ⟨h1, h2⟩ := I.qe e he
    exact ⟨h1.same s, h2⟩
  fe := fun f hf => by
    obtain ⟨h1, h2⟩ := I.fe f hf
    exact ⟨⟨s _ _ h1.t, s _ _ h1.o, s _ _ h1.p⟩, h2⟩
  dist := I.dist
  c1 := I.c1
  c2 := I.c2
  sz := I.sz
theorem Ent.Fat.keep {f : Ent} {us : List Addr} (a : f.Fat H) (s : SameBut q H H1) (hq : H q = some (.lst (us.map V.ref))) (m : f.mt ws) : f.Fat H1 :=
  ⟨s _ _ (ne_of a.t hq fun z => nomatch z) a.t, s _ _ (ne_of a.o hq (texts_ne_refs m.ne1)) a.o, s _ _ (ne_of a.p hq (texts_ne_refs m.ne2)) a.p⟩
/-- an entry that was to come is pushed -/
theorem MI.push {R : V → Hp → Prop} {T : Addr} (I : MI ws H0 q d qs fs (e :: pend) H) (a : ({ e with T := T } : Ent).At H) (n : H0 T = none) (l132 : fs.length ≤ 132)
    (hR : ∀ qs' H2, MI ws H0 q d qs' fs pend H2 → SameBut q H H2 → R .non H2) : HQ.rPush K [.ref q, .ref T] H R := by
  have me := I.qe e (List.mem_append_right _ List.mem_cons_self)
  have sz := I.sz
  rw [List.length_cons] at sz
  have ke : ∀ g ∈ ({ e with T := T } : Ent) :: qs, g.At H ∧ g.mt ws := fun g hg => by
    rcases List.mem_cons.mp hg with z | z
    · rw [z]
      exact ⟨a, me.2.2.1⟩
    · have := I.qe g (List.mem_append_left _ z)
      exact ⟨this.1, this.2.2.1⟩
  refine ⟨q, T, qs.map Ent.T, dat H, rfl, I.hq, ?_, keyed_of I.hq ke, I.heap, fun us p hh => ?_⟩
  · rw [List.length_map]
    show qs.length < 2 ^ 24
    omega
  obtain ⟨qs', p', e'⟩ := perm_lift (f := Ent.T) (l := ({ e with T := T } : Ent) :: qs) p
  subst e'
  have ndq : d ≠ q := fun z => by
    have := I.hd
    rw [z, I.hq] at this
    cases this
  have sb : SameBut q H (upd H q (.lst (ents qs'))) := SameBut.upd
  have hnew : ({ e with T := T } : Ent) ∈ qs' := p'.mem_iff.mpr List.mem_cons_self
  have mem' : ∀ g ∈ qs ++ e :: pend, g = e ∨ g ∈ qs' ++ pend := fun g hg => by
    rcases List.mem_append.mp hg with z | z
    · exact .inr (List.mem_append_left _ (p'.mem_iff.mpr (List.mem_cons_of_mem _ z)))
    · rcases List.mem_cons.mp z with z | z
      · exact .inl z
      · exact .inr (List.mem_append_right _ z)
  refine hR qs' _ ⟨fun b o hb => ?_, I.nq, I.nd, upd_same, by rw [upd_ne ndq]; exact I.hd, ?_, fun g hg => ?_, fun f hf => ?_, I.dist, fun v hv o ho ne hh => ?_, fun f hf v hv x b hs => ?_, ?_⟩ sb
  · rw [upd_ne (ne_of_none hb I.nq)]
    exact I.s _ _ hb
  · refine queue_congr (fun t ht => ?_) hh
    obtain ⟨g, hg, rfl⟩ := List.mem_map.mp ht
    obtain ⟨h1, h2⟩ := ke g (p'.mem_iff.mp hg)
    rw [h1.dat, (h1.keep sb I.hq h2).dat]
  · have old : ∀ g ∈ qs ++ e :: pend, g.At (upd H q (.lst (ents qs'))) ∧ g.New H0 ∧ g.mt ws ∧ g.one.length ≤ fs.length + 1 ∧ g.other.length ≤ fs.length + 1 := fun g hg => by
      obtain ⟨h1, h2, h3, h4⟩ := I.qe g hg
      exact ⟨h1.keep sb I.hq h3, h2, h3, h4⟩
    rcases List.mem_append.mp hg with z | z
    · rcases List.mem_cons.mp (p'.mem_iff.mp z) with z | z
      · rw [z]
        exact ⟨a.keep sb I.hq me.2.2.1, ⟨n, me.2.1.o, me.2.1.p⟩, me.2.2⟩
      · exact old g (List.mem_append_left _ z)
    · exact old g (List.mem_append_right _ (List.mem_cons_of_mem _ z))
  · obtain ⟨h1, h2, h3, h4⟩ := I.fe f hf
    exact ⟨h1.keep sb I.hq h3, h2, h3, h4⟩
  · rcases I.c1 v hv o ho ne hh with z | ⟨g, h1, h2, h3⟩
    · exact .inl z
    · rcases mem' g h1 with z | z
      · subst z
        exact .inr ⟨_, List.mem_append_left _ hnew, h2, h3⟩
      · exact .inr ⟨g, z, h2, h3⟩
  · rcases I.c2 f hf v hv x b hs with z | ⟨g, h1, h2, h3⟩
    · exact .inl z
    · rcases mem' g h1 with z | z
      · subst z
        exact .inr ⟨_, List.mem_append_left _ hnew, h2, h3⟩
      · exact .inr ⟨g, z, h2, h3⟩
  · rw [p'.length_eq, List.length_cons]
    omega
/-- the least entry is taken out: it is to come then -/
theorem MI.pop {R : V → Hp → Prop} (I : MI ws H0 q d qs fs [] H) (hne : qs ≠ [])
    (hR : ∀ e qs' H2, MI ws H0 q d qs' fs [e] H2 → SameBut q H H2 → (∀ g ∈ qs', e.n ≤ g.n) → qs'.length + 1 = qs.length → R (.ref e.T) H2) : HQ.rPop K [.ref q] H R := by
  have ke : ∀ g ∈ qs, g.At H ∧ g.mt ws := fun g hg => by
    have := I.qe g (List.mem_append_left _ hg)
    exact ⟨this.1, this.2.2.1⟩
  refine ⟨q, qs.map Ent.T, dat H, rfl, I.hq, ?_, keyed_of I.hq ke, I.heap, fun t us p hh hm => ?_⟩
  · rw [List.length_map]
    exact List.length_pos_iff.mpr hne
  obtain ⟨l', p', e'⟩ := perm_lift (f := Ent.T) (l := qs) p
  cases l' with
  | nil => cases e'
  | cons e qs' =>
    rw [List.map_cons] at e'
    obtain ⟨rfl, rfl⟩ := List.cons.inj e'
    have ndq : d ≠ q := fun z => by
      have := I.hd
      rw [z, I.hq] at this
      cases this
    have sb : SameBut q H (upd H q (.lst (ents qs'))) := SameBut.upd
    have mem' : ∀ g ∈ qs ++ [], g ∈ qs' ++ [e] := fun g hg => by
      rw [List.append_nil] at hg
      rcases List.mem_cons.mp (p'.mem_iff.mpr hg) with z | z
      · exact List.mem_append_right _ (List.mem_singleton.mpr z)
      · exact List.mem_append_left _ z
    have mem2 : ∀ g ∈ qs' ++ [e], g ∈ qs ++ [] := fun g hg => by
      rw [List.append_nil]
      refine p'.mem_iff.mp ?_
      rcases List.mem_append.mp hg with z | z
      · exact List.mem_cons_of_mem _ z
      · rw [List.mem_singleton.mp z]
        exact List.mem_cons_self
    have hl := p'.length_eq
    rw [List.length_cons] at hl
    have sz := I.sz
    refine hR e qs' _ ⟨fun b o hb => ?_, I.nq, I.nd, upd_same, by rw [upd_ne ndq]; exact I.hd, ?_, fun g hg => ?_, fun f hf => ?_, I.dist, fun v hv o ho ne hh => ?_, fun f hf v hv x b hs => ?_, ?_⟩ sb (fun g hg => ?_) hl
    · rw [upd_ne (ne_of_none hb I.nq)]
      exact I.s _ _ hb
    · refine queue_congr (fun t ht => ?_) hh
      obtain ⟨g, hg, rfl⟩ := List.mem_map.mp ht
      obtain ⟨h1, h2⟩ := ke g (p'.mem_iff.mp (List.mem_cons_of_mem _ hg))
      rw [h1.dat, (h1.keep sb I.hq h2).dat]
    · obtain ⟨h1, h2, h3, h4⟩ := I.qe g (mem2 g hg)
      exact ⟨h1.keep sb I.hq h3, h2, h3, h4⟩
    · obtain ⟨h1, h2, h3, h4⟩ := I.fe f hf
      exact ⟨h1.keep sb I.hq h3, h2, h3, h4⟩
    · rcases I.c1 v hv o ho ne hh with z | ⟨g, h1, h2⟩
      · exact .inl z
      · exact .inr ⟨g, mem' g h1, h2⟩
    · rcases I.c2 f hf v hv x b hs with z | ⟨g, h1, h2⟩
      · exact .inl z
      · exact .inr ⟨g, mem' g h1, h2⟩
    · rw [List.length_singleton]
      rw [List.length_nil] at sz
      omega
    · have q1 := hm g.T (List.mem_map.mpr ⟨g, hg, rfl⟩)
      rw [(ke g (p'.mem_iff.mp (List.mem_cons_of_mem _ hg))).1.dat, (ke e (p'.mem_iff.mp List.mem_cons_self)).1.dat] at q1
      by_cases h : e.n ≤ g.n
      · exact h
      · rw [dt_lt (by omega)] at q1
        cases q1
/-- an entry whose rest is told already -/
theorem MI.skip (I : MI ws H0 q d qs fs [e] H) {f : Ent} (hf : f ∈ fs) (hr : f.r = e.r) : MI ws H0 q d qs fs [] H where
  s := I.s
  nq := I.nq
  nd := I.nd
  hq := I.hq
  hd := I.hd
  heap := I.heap
  qe := fun g hg => I.qe g (List.mem_append_left _ (by rw [List.append_nil] at hg; exact hg))
  fe := I.fe
  dist := I.dist
  c1 := fun v hv o ho ne hh => by
    have le : f.n ≤ e.n := (I.fe f hf).2.2.2.1.2 _ (by rw [hr]; exact (I.qe e (List.mem_append_right _ List.mem_cons_self)).2.2.1.off)
    rcases I.c1 v hv o ho ne hh with z | ⟨g, h1, h2, h3⟩
    · exact .inl z
    · rcases List.mem_append.mp h1 with z | z
      · exact .inr ⟨g, List.mem_append_left _ z, h2, h3⟩
      · rw [List.mem_singleton.mp z] at h2 h3
        exact .inl ⟨f, hf, by rw [hr, h2], by omega⟩
  c2 := fun f' hf' v hv x b hs => by
    have le : f.n ≤ e.n := (I.fe f hf).2.2.2.1.2 _ (by rw [hr]; exact (I.qe e (List.mem_append_right _ List.mem_cons_self)).2.2.1.off)
    rcases I.c2 f' hf' v hv x b hs with z | ⟨g, h1, h2, h3⟩
    · exact .inl z
    · rcases List.mem_append.mp h1 with z | z
      · exact .inr ⟨g, List.mem_append_left _ z, h2, h3⟩
      · rw [List.mem_singleton.mp z] at h2 h3
        exact .inl ⟨f, hf, by rw [hr, h2], by omega⟩
  sz := by
    have := I.sz
    rw [List.length_singleton] at this
    rw [List.length_nil]
    omega
theorem MI.least (I : MI ws H0 q d qs fs [e] H) (hm : ∀ g ∈ qs, e.n ≤ g.n) (hn : ∀ f ∈ fs, f.r ≠ e.r) : Lst ws e.r e.n := by
  refine ⟨(I.qe e (List.mem_append_right _ List.mem_cons_self)).2.2.1.off, fun m o => ?_⟩
  rcases I.reach o with ⟨f, h1, h2, _⟩ | ⟨g, h1, h2⟩
  · exact absurd h2 (hn f h1)
  · rcases List.mem_append.mp h1 with z | z
    · have := hm g z
      omega
    · rw [List.mem_singleton.mp z] at h2
      exact h2
/-- the rest is told, and what it goes on to is to come -/
theorem MI.grow {T : Addr} {es : List Ent} {H4 : Hp} (I : MI ws H0 q d qs fs [e] H) (hl : Lst ws e.r e.n) (hn : ∀ f ∈ fs, f.r ≠ e.r) (hT : H T = none)
    (s : Same (upd (upd H T (.tup [.ref e.oA, .ref e.pA])) d (.dK (putK (fkv fs) (Sum.inr (S e.r)) (.ref T)))) H4)
    (he : ∀ g ∈ es, Fur ws (upd (upd H T (.tup [.ref e.oA, .ref e.pA])) d (.dK (putK (fkv fs) (Sum.inr (S e.r)) (.ref T)))) e.oA e.pA (fs.length + 1) H4 g)
    (hc : ∀ v ∈ ws, ∀ x b, stp e.r v = some (x, b) → ∃ g ∈ es, g.r = x ∧ g.n = e.n + if b = true then x.length else 0) (h12 : es.length ≤ 12) :
    MI ws H0 q d qs (fs ++ [{ e with T := T }]) es H4 := by
  have ndT : T ≠ d := fun z => by
    have := I.hd
    rw [← z, hT] at this
    cases this
  have hput : putK (fkv fs) (Sum.inr (S e.r)) (.ref T) = fkv (fs ++ [{ e with T := T }]) := by
    rw [putK_new _ (fkv_out hn)]
    unfold fkv
    rw [List.map_append]
    rfl
  rw [hput] at s he
  have kd : ∀ b o, H b = some o → b ≠ d → H4 b = some o := fun b o hb nb => s _ _ (by rw [upd_ne nb, upd_ne (ne_of_none hb hT)]; exact hb)
  have n0 : H0 T = none := none_of I.s hT
  have s03 : Same H0 (upd (upd H T (.tup [.ref e.oA, .ref e.pA])) d (.dK (fkv (fs ++ [{ e with T := T }])))) := fun b o hb => by
    rw [upd_ne (ne_of_none hb I.nd), upd_ne (ne_of_none hb n0)]
    exact I.s _ _ hb
  have at4 : ∀ g : Ent, g.At H → g.At H4 := fun g a => ⟨kd _ _ a.t (ne_of a.t I.hd fun z => nomatch z), kd _ _ a.o (ne_of a.o I.hd fun z => nomatch z), kd _ _ a.p (ne_of a.p I.hd fun z => nomatch z)⟩
  have me := I.qe e (List.mem_append_right _ List.mem_cons_self)
  have one : ∀ x : Addr, OneOf (upd (upd H T (.tup [.ref e.oA, .ref e.pA])) d (.dK (fkv (fs ++ [{ e with T := T }])))) x e.oA e.pA → H0 x = none := fun x h => by
    rcases h with h | h | h
    · exact none_of s03 h
    · rw [h]
      exact me.2.1.o
    · rw [h]
      exact me.2.1.p
  refine ⟨s03.trans s, I.nq, I.nd, kd _ _ I.hq (fun z => ?_), s _ _ upd_same, ?_, fun g hg => ?_, fun f hf => ?_, ?_, fun v hv o ho ne hh => ?_, fun f hf v hv x b hs => ?_, ?_⟩
  · have := I.hd
    rw [← z, I.hq] at this
    cases this
  · refine queue_congr (fun t ht => ?_) I.heap
    obtain ⟨g, hg, rfl⟩ := List.mem_map.mp ht
    have a := (I.qe g (List.mem_append_left _ hg)).1
    rw [a.dat, (at4 g a).dat]
  · rw [List.length_append, List.length_singleton]
    rcases List.mem_append.mp hg with z | z
    · obtain ⟨h1, h2, h3, h4, h5⟩ := I.qe g (List.mem_append_left _ z)
      exact ⟨at4 g h1, h2, h3, by omega, by omega⟩
    · have h := he g z
      exact ⟨h.at_, ⟨none_of s03 h.t, one _ h.o, one _ h.p⟩, h.m, h.l1, h.l2⟩
  · rw [List.length_append, List.length_singleton]
    rcases List.mem_append.mp hf with z | z
    · obtain ⟨h1, h2, h3, h4, h5, h6⟩ := I.fe f z
      exact ⟨⟨kd _ _ h1.t (ne_of h1.t I.hd fun z => nomatch z), kd _ _ h1.o (ne_of h1.o I.hd fun z => nomatch z), kd _ _ h1.p (ne_of h1.p I.hd fun z => nomatch z)⟩, h2, h3, h4, by omega, by omega⟩
    · rw [List.mem_singleton.mp z]
      have a := at4 e me.1
      exact ⟨⟨s _ _ (by rw [upd_ne ndT, upd_same]), a.o, a.p⟩, ⟨n0, me.2.1.o, me.2.1.p⟩, me.2.2.1, hl, me.2.2.2.1, me.2.2.2.2⟩
  · rw [List.map_append]
    refine List.nodup_append.mpr ⟨I.dist, by simp, fun a ha b hb => ?_⟩
    obtain ⟨f, hf, rfl⟩ := List.mem_map.mp ha
    have : b = e.r := by simpa using hb
    rw [this]
    exact hn f hf
  · rcases I.c1 v hv o ho ne hh with ⟨f, h1, h2⟩ | ⟨g, h1, h2, h3⟩
    · exact .inl ⟨f, List.mem_append_left _ h1, h2⟩
    · rcases List.mem_append.mp h1 with z | z
      · exact .inr ⟨g, List.mem_append_left _ z, h2, h3⟩
      · rw [List.mem_singleton.mp z] at h2 h3
        exact .inl ⟨{ e with T := T }, List.mem_append_right _ (List.mem_singleton.mpr rfl), h2, Nat.le_of_eq h3⟩
  · rcases List.mem_append.mp hf with z | z
    · rcases I.c2 f z v hv x b hs with ⟨f, h1, h2⟩ | ⟨g, h1, h2, h3⟩
      · exact .inl ⟨f, List.mem_append_left _ h1, h2⟩
      · rcases List.mem_append.mp h1 with z | z
        · exact .inr ⟨g, List.mem_append_left _ z, h2, h3⟩
        · rw [List.mem_singleton.mp z] at h2 h3
          exact .inl ⟨{ e with T := T }, List.mem_append_right _ (List.mem_singleton.mpr rfl), h2, Nat.le_of_eq h3⟩
    · rw [List.mem_singleton.mp z] at hs ⊢
      obtain ⟨g, h1, h2, h3⟩ := hc v hv x b hs
      exact .inr ⟨g, List.mem_append_right _ h1, h2, h3⟩
  · have := I.sz
    rw [List.length_singleton] at this
    rw [List.length_append, List.length_singleton]
    omega
end
/-- the table of meetings -/
structure Met (ws : List (List Nat)) (H H' : Hp) (fs : List Ent) : Prop where
  fe : ∀ f ∈ fs, f.Fat H' ∧ f.New H ∧ f.mt ws ∧ Lst ws f.r f.n ∧ f.one.length ≤ 132 ∧ f.other.length ≤ 132
  nd : (fs.map Ent.r).Nodup
  all : ∀ r m, Off ws r m → ∃ f ∈ fs, f.r = r
  len : fs.length ≤ 132
def spMeet : Sp := fun vs H Q _ => ∃ (c : Addr) (ws : List (List Nat)), vs = [.ref c] ∧ H c = some (.lst (ws.map tx)) ∧ ws.length ≤ 12 ∧ (∀ x ∈ ws, WordOk x) ∧
  ∀ (d : Addr) (fs : List Ent) (H' : Hp), Same H H' → H d = none → H' d = some (.dK (fkv fs)) → Met ws H H' fs → Q (.ref d) H'
section
variable {Pr : Program} {w : World} {K : PySem.W.Frag} {mg : Str → Option Value} {base : Heap} {f fL fS f1 f2 : Addr} {fd fdL fdS fd1 fd2 : FuncData}
theorem scMeet : FnScope ["code", "found", "queue", "length", "rest", "one", "other", "further"] ["code"] (defScope s_meetings) := ⟨rfl, rfl, rfl, by decide +kernel, rfl, by decide +kernel, by decide +kernel⟩
theorem ok_meet (F : FnP K "meetings" s_meetings f fd) (L : Has K mg "left_of" s_left_of ["text", "other"] fL fdL) (S1 : Has K mg "stepped" s_stepped ["rest", "word"] fS fdS)
    (FM : Has K mg "_first_meetings" s__first_meetings ["code"] f1 fd1) (UM : Has K mg "_further_meetings" s__further_meetings ["code", "length", "rest", "one", "other"] f2 fd2) (B : Bl mg) : FnOk Pr w K mg base CX0 4 f fd ["code"] spMeet := by
  have G1 : FnOk Pr w K mg base CX0 3 f1 fd1 ["code"] spFirst := (ok_first FM.F L B).mono (by decide)
  have G2 : FnOk Pr w K mg base CX0 3 f2 fd2 ["code", "length", "rest", "one", "other"] spFurther := ok_further UM.F L S1 B
  refine F.okN scMeet (fun vs H Q E h => ?_) (fun cdv A' outer s H vs Q E hr h => ?_)
  · obtain ⟨c, ws, rfl, _⟩ := h
    rfl
  · obtain ⟨c, ws, rfl, hC, hn, hw, q⟩ := h
    have hu : (A'.deeper (envOfC "meetings" (defScope s_meetings) s.heap.objs.size f cdv)).units + 1 < cLine := by
      have := hr.units
      omega
    refine ⟨_, pss_cons (ps_set (i := 1) scMeet.nd rfl (.inl rfl) pe_dnewK)
      (pss_cons (ps_set (i := 2) scMeet.nd rfl (.inl rfl) (pe_lst pa_nil))
      (pss_cons (ps_for PassesOwn.never rfl (pi_list (pe_call G1 hr (by rfl) FM.g FM.F.kp FM.b .nil pass0 (pa_cons (pv 0) pa_nil)))
          (pg_tup rfl (pgs_cons (pg_name (i := 3) scMeet.nd rfl (Or.inl rfl)) (pgs_cons (pg_name (i := 4) scMeet.nd rfl (Or.inl rfl)) (pgs_cons (pg_name (i := 5) scMeet.nd rfl (Or.inl rfl)) (pgs_cons (pg_name (i := 6) scMeet.nd rfl (Or.inl rfl)) pgs_nil)))))
        (pss_one (ps_expr (pe_callBfun (HQ.cr_push hr.units) (by rfl) B.mPush (pa_cons (pv 2) (pa_cons (pe_tup (pa_cons (pv 3) (pa_cons (pv 4) (pa_cons (pv 5) (pa_cons (pv 6) pa_nil))))) pa_nil))))))
      (pss_cons (ps_while PassesOwn.never (pt_truth (pv 2) (by intro _; rfl))
        (pss_cons (ps_asg (pe_callBfun (HQ.cr_pop hr.units) (by rfl) B.mPop (pa_cons (pv 2) pa_nil))
            (pg_tup rfl (pgs_cons (pg_name (i := 3) scMeet.nd rfl (Or.inl rfl)) (pgs_cons (pg_name (i := 4) scMeet.nd rfl (Or.inl rfl)) (pgs_cons (pg_name (i := 5) scMeet.nd rfl (Or.inl rfl)) (pgs_cons (pg_name (i := 6) scMeet.nd rfl (Or.inl rfl)) pgs_nil))))))
          (pss_one (ps_if (pt_cmp (pc_dnotin hu (pv 4) (pv 1)))
            (pss_cons (ps_dput hu (pv 1) (pv 4) (pe_tup (pa_cons (pv 5) (pa_cons (pv 6) pa_nil))) rfl)
              (pss_one (ps_for PassesOwn.never rfl (pi_list (pe_call G2 hr (by rfl) UM.g UM.F.kp UM.b .nil pass0 (pa_cons (pv 0) (pa_cons (pv 3) (pa_cons (pv 4) (pa_cons (pv 5) (pa_cons (pv 6) pa_nil)))))))
                  (pg_name (i := 7) scMeet.nd rfl (Or.inl rfl))
                (pss_one (ps_expr (pe_callBfun (HQ.cr_push hr.units) (by rfl) B.mPush (pa_cons (pv 2) (pa_cons (pv 7) pa_nil)))))))) pss_nil))))
      (pss_one (ps_ret (pv 1)))))), ?_⟩
    refine fun d nd => ⟨Nat.zero_le _, fun g hg => ?_⟩
    have s1 := same_upd (o := .dK []) nd
    have s2 := same_upd (o := .lst []) hg
    have ng : H g = none := none_of s1 hg
    have hdg : d ≠ g := fun z => by rw [← z, upd_same] at hg; cases hg
    refine ⟨_, rfl, c, ws, rfl, (s1.trans s2) _ _ hC, hn, hw, fun l es H1 t1 nl el he hcov hle => ?_⟩
    have I0 : MI ws H g d [] [] es H1 := by
      refine ⟨(s1.trans s2).trans t1, ng, nd, t1 _ _ upd_same, t1 _ _ (by rw [upd_ne hdg, upd_same]; rfl), fun i h0 hi => absurd hi (Nat.not_lt_zero i), fun e h => ?_, fun e h => absurd h List.not_mem_nil, List.nodup_nil, fun v hv o ho ne hh => ?_, fun f hf => absurd hf List.not_mem_nil, ?_⟩
      · obtain ⟨h1, h2, h3, h4, h5⟩ := he e h
        exact ⟨h1, ⟨none_of (s1.trans s2) h2.t, none_of (s1.trans s2) h2.o, none_of (s1.trans s2) h2.p⟩, h3, by rw [h4]; exact Nat.le_refl _, by rw [h5]; exact Nat.le_refl _⟩
      · obtain ⟨e, h1, h2⟩ := hcov v hv o ho ne hh
        exact .inr ⟨e, h1, h2⟩
      · show 0 + es.length ≤ 144 + 12 * 0
        omega
    have nlg : l ≠ g := fun z => by rw [z, upd_same] at nl; cases nl
    refine ⟨l, rfl, ⟨_, seqL el⟩, for_list (K := K) (a := l) (xs := ents es) (fun i σ H2 => (∃ qs, MI ws H g d qs [] (es.drop i) H2) ∧ H2 l = some (.lst (ents es)) ∧ ∃ k3 k4 k5 k6 : Option V, σ = [some (.ref c), some (.ref d), some (.ref g), k3, k4, k5, k6, none]) ?_ (fun i σ H2 _ hh => seqL hh.2.1) ?_ ?_⟩
    · exact ⟨⟨[], I0⟩, el, _, _, _, _, rfl⟩
    · rintro i x σ H2 hx ⟨⟨qs, I⟩, el2, k3, k4, k5, k6, rfl⟩
      have hi : i < es.length := by
        have := (List.getElem?_eq_some_iff.mp hx).1
        rw [List.length_map, List.length_map] at this
        exact this
      have hxe : x = .ref es[i].T := by
        rw [List.getElem?_map, List.getElem?_map, List.getElem?_eq_getElem hi] at hx
        exact (Option.some.inj hx).symm
      subst hxe
      rw [List.drop_eq_getElem_cons hi] at I
      generalize es[i] = e at I ⊢
      have me := (I.qe e (List.mem_append_right _ List.mem_cons_self))
      refine ⟨e.T, _, rfl, .inl (.inl me.1.t), rfl, _, _, rfl, _, _, rfl, _, _, rfl, _, _, rfl, rfl, ?_⟩
      refine ⟨_, rfl, _, rfl, _, rfl, _, rfl, _, rfl, by show 4 ≤ sizeLine; decide, fun T hT => ?_⟩
      have sT := same_upd (o := .tup [.int (e.n : Int), tx e.r, .ref e.oA, .ref e.pA]) hT
      have I2 := I.same sT
      obtain ⟨_, _, ts, κ, ev, h1, h2, h3, h4, h5⟩ := I2.push (K := K) (R := fun _ H3 => ∃ qs', MI ws H g d qs' [] (es.drop (i + 1)) H3 ∧ SameBut g _ H3) (T := T) ⟨upd_same, sT _ _ me.1.o, sT _ _ me.1.p⟩ (none_of I.s hT) (Nat.zero_le _) fun qs' H3 I3 sb => ⟨qs', I3, sb⟩
      cases ev
      refine ⟨g, T, ts, κ, rfl, h1, h2, h3, h4, fun us p hh => ?_⟩
      obtain ⟨qs', I3, sb⟩ := h5 us p hh
      exact ⟨⟨qs', I3⟩, sb _ _ nlg (sT _ _ el2), _, _, _, _, rfl⟩
    · rintro σ H2 ⟨⟨qs, I⟩, el2, k3, k4, k5, k6, rfl⟩
      have ed : es.drop (ents es).length = [] := by
        rw [List.length_map, List.length_map]
        exact List.drop_length
      rw [ed] at I
      refine ⟨fun m σ H3 => ∃ (qs fs : List Ent), MI ws H g d qs fs [] H3 ∧ m = qs.length + (150 - fs.length) * 13 ∧ ∃ k3 k4 k5 k6 k7 : Option V, σ = [some (.ref c), some (.ref d), some (.ref g), k3, k4, k5, k6, k7], ⟨_, qs, [], I, rfl, _, _, _, _, _, rfl⟩, ?_⟩
      rintro m σ H3 ⟨qs, fs, I, rfl, k3, k4, k5, k6, k7, rfl⟩
      have l132 := I.fs_len hw hn
      refine ⟨_, rfl, !qs.isEmpty, .inl ⟨_, seqL I.hq, ?_⟩, ?_⟩
      · cases qs <;> rfl
      by_cases hq0 : qs = []
      · subst hq0
        refine iteF ⟨_, rfl, q d fs H3 I.s nd I.hd ⟨fun f hf => ?_, I.dist, fun r m o => ?_, l132⟩⟩
        · obtain ⟨h1, h2, h3, h4, h5, h6⟩ := I.fe f hf
          exact ⟨h1, h2, h3, h4, by omega, by omega⟩
        · rcases I.reach o with ⟨f, h1, h2, _⟩ | ⟨e, h1, _⟩
          · exact ⟨f, h1, h2⟩
          · exact absurd h1 List.not_mem_nil
      · have hem : (!qs.isEmpty) = true := by
          cases qs with
          | nil => exact absurd rfl hq0
          | cons x r => rfl
        rw [hem]
        refine iteT ⟨fun σ H4 => ∃ (qs' fs' : List Ent), MI ws H g d qs' fs' [] H4 ∧ qs'.length + (150 - fs'.length) * 13 < qs.length + (150 - fs.length) * 13 ∧ ∃ k3 k4 k5 k6 k7 : Option V, σ = [some (.ref c), some (.ref d), some (.ref g), k3, k4, k5, k6, k7], fun σ' H4 ⟨qs', fs', a1, a2, a3⟩ => ⟨_, a2, qs', fs', a1, rfl, a3⟩, ?_⟩
        obtain ⟨_, ts, κ, ev, h1, h2, h3, h4, h5⟩ := I.pop (K := K) (R := fun v H4 => ∃ (e : Ent) (qs' : List Ent), v = .ref e.T ∧ MI ws H g d qs' fs [e] H4 ∧ SameBut g H3 H4 ∧ (∀ g ∈ qs', e.n ≤ g.n) ∧ qs'.length + 1 = qs.length) hq0 fun e qs' H4 I4 sb hmin hlen => ⟨e, qs', rfl, I4, sb, hmin, hlen⟩
        cases ev
        refine ⟨_, rfl, g, ts, κ, rfl, h1, h2, h3, h4, fun t us p hh hm => ?_⟩
        obtain ⟨e, qs', ev, I4, sb, hmin, hlen⟩ := h5 t us p hh hm
        cases ev
        generalize upd H3 g (.lst (us.map V.ref)) = H4 at I4 sb ⊢
        have me := I4.qe e (List.mem_append_right _ List.mem_cons_self)
        refine ⟨e.T, _, rfl, .inl (.inl me.1.t), rfl, _, _, rfl, _, _, rfl, _, _, rfl, _, _, rfl, rfl, ?_⟩
        refine ⟨_, rfl, _, rfl, d, _, rfl, DGet.k (k := Sum.inr (S e.r)) I4.hd, _, rfl, ?_⟩
        by_cases hin : ∃ f ∈ fs, f.r = e.r
        · obtain ⟨f, hf, hr⟩ := hin
          have ev := fkv_in I4.dist hf
          rw [hr] at ev
          rw [ev]
          refine iteF ⟨qs', fs, I4.skip hf hr, by omega, _, _, _, _, _, rfl⟩
        · have hnin : ∀ f ∈ fs, f.r ≠ e.r := fun f hf z => hin ⟨f, hf, z⟩
          rw [fkv_out hnin]
          refine iteT ?_
          have hl := I4.least hmin hnin
          refine ⟨_, rfl, _, rfl, by show 2 ≤ sizeLine; decide, fun T hT => ?_⟩
          have sT := same_upd (o := .tup [.ref e.oA, .ref e.pA]) hT
          have hd4 := sT _ _ I4.hd
          have lf : (fkv fs).length < sizeLine := by
            unfold fkv
            rw [List.length_map]
            show fs.length < 2 ^ 24
            omega
          refine ⟨_, rfl, _, rfl, d, _, rfl, DPut.k (k := Sum.inr (S e.r)) hd4 lf, ?_⟩
          have k5 : ∀ b o, H4 b = some o → b ≠ d → (upd (upd H4 T (.tup [.ref e.oA, .ref e.pA])) d (.dK (putK (fkv fs) (Sum.inr (S e.r)) (.ref T)))) b = some o := fun b o hb nb => by
            rw [upd_ne nb]
            exact sT _ _ hb
          have nlst : ∀ b xs, H4 b = some (.lst xs) → b ≠ d := fun b xs hb => ne_of hb I4.hd fun z => nomatch z
          have hC4 : H4 c = some (.lst (ws.map tx)) := I4.s _ _ hC
          have l4 := I4.fs_len hw hn
          refine ⟨_, rfl, _, rfl, _, rfl, _, rfl, _, rfl, c, e.oA, e.pA, e.n, fs.length + 1, e.r, e.one, e.other, ws, rfl, k5 _ _ hC4 (nlst _ _ hC4), k5 _ _ me.1.o (nlst _ _ me.1.o), k5 _ _ me.1.p (nlst _ _ me.1.p), hn, hw, me.2.2.1, me.2.2.2.1, me.2.2.2.2, by omega, fun l2 es2 H5 s5 nl2 el2 he2 hc2 hle2 => ?_⟩
          have I5 := I4.grow hl hnin hT s5 he2 hc2 hle2
          have lfs : (fs ++ [{ e with T := T }]).length = fs.length + 1 := by rw [List.length_append, List.length_singleton]
          have sz5 := I5.sz
          have nl2g : l2 ≠ g := fun z => by
            have := k5 _ _ I4.hq (nlst _ _ I4.hq)
            rw [← z, nl2] at this
            cases this
          generalize hfs : fs ++ [{ e with T := T }] = fs2 at I5 lfs sz5
          refine ⟨l2, rfl, ⟨_, seqL el2⟩, for_list (K := K) (a := l2) (xs := ents es2) (fun i σ H6 => (∃ qs2, MI ws H g d qs2 fs2 (es2.drop i) H6 ∧ qs2.length = qs'.length + i) ∧ H6 l2 = some (.lst (ents es2)) ∧ ∃ k3 k4 k5 k6 k7 : Option V, σ = [some (.ref c), some (.ref d), some (.ref g), k3, k4, k5, k6, k7]) ?_ (fun i σ H6 _ hh => seqL hh.2.1) ?_ ?_⟩
          · exact ⟨⟨qs', I5, rfl⟩, el2, _, _, _, _, _, rfl⟩
          · rintro i x σ H6 hx ⟨⟨qs2, I, hql⟩, el6, k3, k4, k5, k6, k7, rfl⟩
            have hi : i < es2.length := by
              have := (List.getElem?_eq_some_iff.mp hx).1
              rw [List.length_map, List.length_map] at this
              exact this
            have hxe : x = .ref es2[i].T := by
              rw [List.getElem?_map, List.getElem?_map, List.getElem?_eq_getElem hi] at hx
              exact (Option.some.inj hx).symm
            subst hxe
            rw [List.drop_eq_getElem_cons hi] at I
            generalize es2[i] = e' at I ⊢
            have me' := (I.qe e' (List.mem_append_right _ List.mem_cons_self))
            obtain ⟨_, _, ts, κ, ev, h1, h2, h3, h4, h5⟩ := I.push (K := K) (R := fun _ H3 => ∃ qs', MI ws H g d qs' fs2 (es2.drop (i + 1)) H3 ∧ SameBut g H6 H3) (T := e'.T) me'.1 me'.2.1.t (I.fs_len hw hn) fun qs' H3 I3 sb => ⟨qs', I3, sb⟩
            cases ev
            refine ⟨_, rfl, _, rfl, g, e'.T, ts, κ, rfl, h1, h2, h3, h4, fun us p hh => ?_⟩
            obtain ⟨qs3, I3, sb3⟩ := h5 us p hh
            refine ⟨⟨qs3, I3, ?_⟩, sb3 _ _ nl2g el6, _, _, _, _, _, rfl⟩
            have e1 := I3.hq
            rw [upd_same] at e1
            have e2 := HO.lst.inj (Option.some.inj e1)
            have e3 := congrArg List.length e2
            rw [List.length_map, List.length_map, List.length_map] at e3
            have e4 := p.length_eq
            have e5 := I.hq
            rw [h1] at e5
            have e6 := congrArg List.length (HO.lst.inj (Option.some.inj e5))
            rw [List.length_map, List.length_map, List.length_map] at e6
            rw [List.length_cons] at e4
            omega
          · rintro σ H6 ⟨⟨qs2, I, hql⟩, el6, k3, k4, k5, k6, k7, rfl⟩
            have ed : es2.drop (ents es2).length = [] := by
              rw [List.length_map, List.length_map]
              exact List.drop_length
            rw [ed] at I
            rw [List.length_map, List.length_map] at hql
            exact ⟨qs2, fs2, I, by omega, _, _, _, _, _, rfl⟩
end
section
variable {X : Cx}
/-- what an expression gives is locked from then on: it is read alone -/
theorem pe_frz {e : Expr} {t : TE} (h : PE X e t) : PE X e (fun σ H Q => t σ H fun v H1 => ∃ d u, v = .ref d ∧ H1 d = some u ∧ Mut (some u) ∧ ∀ od, Q (.ref d) (upd H1 d (.frz od u))) := by
  refine ⟨fun pins s σ H Q I hw => ?_⟩
  refine thn (h.run pins s σ H _ I hw) fun v s1 ⟨x, H1, I1, r, d, u, ex, hd, mu, q⟩ => ?_
  subst ex
  obtain ⟨od, I2⟩ := I1.lock hd mu
  exact ⟨.ref d, _, I2, r, q od⟩
end
theorem tab_free {P : Addr} {H : Hp} {g : Addr} (hT : GxR.TabG H P) (h : H g = none) : g ≠ P := fun z => by
  obtain ⟨ps, e, _⟩ := hT
  rw [z, e] at h
  cases h
theorem sum_cnt0 (l : List Str) : l.length * (Str.ofString "").length = 0 := by rw [empLen, Nat.mul_zero]
theorem flat_sz {ws xs : List (List Nat)} (hw : ∀ z ∈ ws, WordOk z) (h : ∀ z ∈ xs, z ∈ ws) (hl : xs.length ≤ 1000) : ((xs.map S).map (·.length)).sum + (xs.map S).length * (Str.ofString "").length ≤ 16777216 := by
  have h1 := flat_ten (ys := xs) fun y hy => (hw y (h y hy)).2.1
  rw [sum_cnt0, lenS, ← List.length_flatten]
  omega
section
variable {Pr : Program} {w : World} {K : PySem.W.Frag} {mg : Str → Option Value} {base : Heap} {P f fC fM : Addr} {fd fdI fdC fdM : FuncData}
theorem inMeet (D : Defs K mg) (B : Bl mg) : ∃ f fd, Has K mg "meetings" s_meetings ["code"] f fd ∧ FnOk Pr w K mg base CX0 4 f fd ["code"] spMeet := by
  obtain ⟨f1, d1, L⟩ := D.d_left_of
  obtain ⟨f2, d2, S1⟩ := D.d_stepped
  obtain ⟨f3, d3, FM⟩ := D.d__first_meetings
  obtain ⟨f4, d4, UM⟩ := D.d__further_meetings
  obtain ⟨f5, d5, M⟩ := D.d_meetings
  exact ⟨f5, d5, M, ok_meet M.F L S1 FM UM B⟩
end
section
/-- a double as it is told: its text, both rows -/
structure DbAt (H : Hp) (p xa ya : Addr) (ws : List (List Nat)) (t : List Nat) (x : List Nat) (xs : List (List Nat)) (y : List Nat) (ys : List (List Nat)) : Prop where
  p : H p = some (.tup [tx t, .ref xa, .ref ya])
  x : H xa = some (.lst ((x :: xs).map tx))
  y : H ya = some (.lst ((y :: ys).map tx))
structure Db (ws : List (List Nat)) (t : List Nat) (x : List Nat) (xs : List (List Nat)) (y : List Nat) (ys : List (List Nat)) : Prop where
  xf : (x :: xs).flatten = t
  yf : (y :: ys).flatten = t
  xw : ∀ z ∈ x :: xs, z ∈ ws
  yw : ∀ z ∈ y :: ys, z ∈ ws
  lt : x.length < y.length
theorem row_len {ws xs : List (List Nat)} (hw : ∀ z ∈ ws, WordOk z) : (∀ z ∈ xs, z ∈ ws) → xs.length ≤ xs.flatten.length := by
  induction xs with
  | nil => exact fun _ => Nat.le_refl _
  | cons x xs ih =>
    intro h
    have h1 := (hw x (h x List.mem_cons_self)).1
    have h2 := ih fun z hz => h z (List.mem_cons_of_mem _ hz)
    rw [List.flatten_cons, List.length_append, List.length_cons]
    omega
theorem join_sz {ws xs : List (List Nat)} (hw : ∀ z ∈ ws, WordOk z) (h : ∀ z ∈ xs, z ∈ ws) (hl : xs.flatten.length ≤ 10000) : ((xs.map S).map (·.length)).sum + (xs.map S).length * (Str.ofString "").length ≤ 16777216 := by
  rw [lenS, ← List.length_flatten, empLen, Nat.mul_zero]
  omega
/-- what double promises -/
def spDouble (P : Addr) : Sp := fun vs H Q _ => ∃ (b : Addr) (ws : List (List Nat)), vs = [.ref b] ∧ H b = some (.lst (ws.map tx)) ∧ CodeOk ws ∧ GxR.TabG H P ∧
  ((∀ n, ¬ Lst ws [] n) → ∀ H', Sm P H H' → Q .non H') ∧
  (∀ n, Lst ws [] n → ∀ (p xa ya : Addr) (t x : List Nat) (xs : List (List Nat)) (y : List Nat) (ys : List (List Nat)) (H' : Hp), Sm P H H' → H p = none → H xa = none → H ya = none → xa ≠ ya → DbAt H' p xa ya ws t x xs y ys → Db ws t x xs y ys → t.length = n → n ≤ 10000 → Q (.ref p) H')
theorem heads_len {a b t : List Nat} {u v : List Nat} (h1 : a ++ u = t) (h2 : b ++ v = t) (ne : a ≠ b) : a.length ≠ b.length := fun e => ne (by
  have q : a ++ u = b ++ v := h1.trans h2.symm
  exact (List.append_inj q e).1)
variable {Pr : Program} {w : World} {K : PySem.W.Frag} {mg : Str → Option Value} {base : Heap} {P f fC fM : Addr} {fd fdI fdC fdM : FuncData}
theorem scDouble : FnScope ["words", "met", "one", "other", "text"] ["words"] (defScope s_double) := ⟨rfl, rfl, rfl, by decide +kernel, rfl, by decide +kernel, by decide +kernel⟩
theorem ok_double (F : FnP K "double" s_double f fd) (C : Has K mg "checked" sChecked ["words"] fC fdC) (I : HasI K mg base P fdI) (GM : FnOk Pr w K mg base CX0 4 fM fdM ["code"] spMeet) (M : Has K mg "meetings" s_meetings ["code"] fM fdM) (B : Bl mg) : FnOk Pr w K mg base CX0 5 f fd ["words"] (spDouble P) := by
  have GC : FnOk Pr w K mg base CX0 4 fC fdC ["words"] (spChecked P) := (ok_checked C.F I B).mono (by decide)
  refine F.okN scDouble (fun vs H Q E h => ?_) (fun cdv A' outer s H vs Q E hr h => ?_)
  · obtain ⟨b, ws, rfl, _⟩ := h
    rfl
  · obtain ⟨b, ws, rfl, hB, hc, hT, q0, q⟩ := h
    have hu : (A'.deeper (envOfC "double" (defScope s_double) s.heap.objs.size f cdv)).units + 1 < cLine := by
      have := hr.units
      omega
    refine ⟨_, pss_cons (ps_set (i := 1) scDouble.nd rfl (.inl rfl) (pe_call GM hr (by rfl) M.g M.F.kp M.b .nil pass0 (pa_cons (pe_call GC hr (by rfl) C.g C.F.kp C.b .nil pass0 (pa_cons (pv 0) pa_nil)) pa_nil)))
      (pss_cons (ps_if (pt_cmp (pc_dnotin hu pe_str (pv 1))) (pss_one (ps_ret pe_non)) pss_nil)
      (pss_cons (ps_asg (pe_dget hu (pv 1) pe_str (fun _ _ => rfl)) (pg_tup rfl (pgs_cons (pg_name (i := 2) scDouble.nd rfl (Or.inl rfl)) (pgs_cons (pg_name (i := 3) scDouble.nd rfl (Or.inl rfl)) pgs_nil))))
      (pss_cons (ps_set (i := 4) scDouble.nd rfl (.inl rfl) (pe_join pe_str (pv 2)))
      (pss_cons (ps_if (pt_cmpR op_lt (pe_callB call_len_str (by rfl) B.mL boot_len (pa_cons (pe_ix (r := rIxL K) ix_list (pv 2) pe_int (fun _ _ => rfl)) pa_nil)) (pe_callB call_len_str (by rfl) B.mL boot_len (pa_cons (pe_ix (r := rIxL K) ix_list (pv 3) pe_int (fun _ _ => rfl)) pa_nil)) (nomark _))
          (pss_one (ps_ret (pe_tup (pa_cons (pv 4) (pa_cons (pv 2) (pa_cons (pv 3) pa_nil)))))) pss_nil)
      (pss_one (ps_ret (pe_tup (pa_cons (pv 4) (pa_cons (pv 3) (pa_cons (pv 2) pa_nil)))))))))), ?_⟩
    refine ⟨_, rfl, b, ws, rfl, hB, hc, hT, fun r vs H1 m1 nr eR perm _ => ?_⟩
    have hw : ∀ x ∈ vs, WordOk x := fun x hx => hc.2.2 x (perm.mem_iff.mp hx)
    refine ⟨r, vs, rfl, eR, by rw [perm.length_eq]; exact hc.1, hw, fun d fs H2 t2 nd ed met => ?_⟩
    have m2 : Sm P H H2 := m1.andThen t2
    have eS : Str.ofString "" = S [] := by decide +kernel
    refine ⟨_, rfl, d, _, rfl, DGet.k (k := Sum.inr (Str.ofString "")) ed, _, rfl, ?_⟩
    rw [eS]
    by_cases hin : ∃ f ∈ fs, f.r = []
    · obtain ⟨g, hg, hr0⟩ := hin
      have ev := fkv_in met.nd hg
      rw [hr0] at ev
      rw [ev]
      refine iteF ?_
      obtain ⟨ga, gn, gm, gl, g1, g2⟩ := met.fe g hg
      have dg : DGet H2 d (V.str (S [])) (some (.ref g.T)) := by
        have := DGet.k (k := Sum.inr (S [])) ed
        rw [ev] at this
        exact this
      refine ⟨_, rfl, d, .ref g.T, rfl, dg, ?_⟩
      have perm' : ∀ x, x ∈ vs ↔ x ∈ ws := fun x => perm.mem_iff
      have gl2 : Lst ws [] g.n := hr0 ▸ gl.perm perm'
      obtain ⟨x, y, hx, hy, ne⟩ := gm.hd
      obtain ⟨xs, ex⟩ : ∃ xs, g.one = x :: xs := by
        cases h : g.one with
        | nil => rw [h] at hx; cases hx
        | cons a l => rw [h] at hx; cases hx; exact ⟨l, rfl⟩
      obtain ⟨ys, ey⟩ : ∃ ys, g.other = y :: ys := by
        cases h : g.other with
        | nil => rw [h] at hy; cases hy
        | cons a l => rw [h] at hy; cases hy; exact ⟨l, rfl⟩
      have eo := ga.o
      have ep := ga.p
      have eq := gm.eq
      have xw := gm.w1
      have yw := gm.w2
      have en := gm.len
      rw [hr0, List.append_nil] at eq
      rw [ex] at eo xw en eq g1
      rw [ey] at ep yw eq g2
      obtain ⟨t, ht⟩ : ∃ t, t = (x :: xs).flatten := ⟨_, rfl⟩
      have lt : t.length ≤ 1320 := by
        have := flat_ten (ys := x :: xs) fun z hz => (hw z (xw z hz)).2.1
        rw [ht]
        omega
      have wx := hw x (xw x List.mem_cons_self)
      have wy := hw y (yw y List.mem_cons_self)
      have wx2 := wx.2.1
      have wy2 := wy.2.1
      have lne : x.length ≠ y.length := heads_len (t := t) (u := xs.flatten) (v := ys.flatten) (by rw [ht]; rfl) (by rw [ht, eq]; rfl) ne
      refine ⟨g.T, _, rfl, .inl (.inl ga.t), rfl, _, _, rfl, _, _, rfl, rfl, ?_⟩
      refine ⟨⟨_, rfl⟩, _, rfl, _, g.oA, (x :: xs).map S, rfl, rfl, .inl (seqL (by rw [← map_tx]; exact eo)), flat_sz hw xw (by omega), ?_⟩
      rw [← eS, join0, ← ht]
      have nxy : g.oA ≠ g.pA := fun z => by
        rw [z, ep] at eo
        have := HO.lst.inj (Option.some.inj eo)
        exact ne (S_inj (V.str.inj (List.cons.inj this).1)).symm
      have fx : H g.oA = none := Sm.free hT m1 gn.o
      have fy : H g.pA = none := Sm.free hT m1 gn.p
      have gx : ((x :: xs).map tx)[0]? = some (V.str (S x)) := rfl
      have gy : ((y :: ys).map tx)[0]? = some (V.str (S y)) := rfl
      refine ⟨_, rfl, g.oA, _, 0, _, rfl, rfl, seqL eo, atI_nat gx, S x, rfl, small_S (by omega), ?_⟩
      refine ⟨_, rfl, g.pA, _, 0, _, rfl, rfl, seqL ep, atI_nat gy, S y, rfl, small_S (by omega), (x.length : Int), (y.length : Int), len_v x, len_v y, _, rfl, ?_⟩
      have l10 : t.length = g.n := by rw [ht, en]
      by_cases hlt : x.length < y.length
      · refine iteP (by omega) ?_
        refine ⟨_, rfl, _, rfl, _, rfl, by show 3 ≤ sizeLine; decide, fun p hp => ?_⟩
        have s3 := same_upd (o := .tup [tx t, .ref g.oA, .ref g.pA]) hp
        exact q g.n gl2 p g.oA g.pA t x xs y ys _ (m2.andThen s3) (Sm.free hT m2 hp) fx fy nxy ⟨upd_same, s3 _ _ eo, s3 _ _ ep⟩ ⟨ht.symm, by rw [ht, eq], fun z hz => perm.mem_iff.mp (xw z hz), fun z hz => perm.mem_iff.mp (yw z hz), hlt⟩ l10 (by omega)
      · refine iteN (by omega) ?_
        refine ⟨_, rfl, _, rfl, _, rfl, by show 3 ≤ sizeLine; decide, fun p hp => ?_⟩
        have s3 := same_upd (o := .tup [tx t, .ref g.pA, .ref g.oA]) hp
        exact q g.n gl2 p g.pA g.oA t y ys x xs _ (m2.andThen s3) (Sm.free hT m2 hp) fy fx (Ne.symm nxy) ⟨upd_same, s3 _ _ ep, s3 _ _ eo⟩ ⟨by rw [ht, eq], ht.symm, fun z hz => perm.mem_iff.mp (yw z hz), fun z hz => perm.mem_iff.mp (xw z hz), by omega⟩ l10 (by omega)
    · have hnin : ∀ f ∈ fs, f.r ≠ [] := fun f hf z => hin ⟨f, hf, z⟩
      rw [fkv_out hnin]
      refine iteT (q0 (fun n hn => ?_) H2 m2)
      obtain ⟨f, hf, hr0⟩ := met.all [] n ((hn.perm fun x => perm.symm.mem_iff).1)
      exact hnin f hf hr0
theorem inDouble (D : Defs K mg) (I : HasI K mg base P fdI) (B : Bl mg) : ∃ f fd, Has K mg "double" s_double ["words"] f fd ∧ FnOk Pr w K mg base CX0 5 f fd ["words"] (spDouble P) := by
  obtain ⟨f1, d1, C⟩ := D.d_checked
  obtain ⟨f2, d2, M, GM⟩ := inMeet (Pr := Pr) (w := w) (base := base) D B
  obtain ⟨f3, d3, L⟩ := D.d_double
  exact ⟨f3, d3, L, ok_double L.F C I GM M B⟩
end
/-! ### two partings of a text lead to a rest that is empty -/
section
variable {ws : List (List Nat)}
theorem cntH_nil : cntH ws [] = 1 := rfl
theorem sum_le_one {f : List Nat → Int} : ∀ {l : List (List Nat)}, (∀ x ∈ l, 0 ≤ f x) → ∀ {x : List Nat}, x ∈ l → f x ≤ (l.map f).sum
  | [], _, _, h => nomatch h
  | y :: l, h0, x, h => by
    rw [List.map_cons, List.sum_cons]
    have h1 := h0 y List.mem_cons_self
    have h2 : 0 ≤ (l.map f).sum := sum_nn fun z hz => by
      obtain ⟨u, hu, rfl⟩ := List.mem_map.mp hz
      exact h0 u (List.mem_cons_of_mem _ hu)
    rcases List.mem_cons.mp h with e | m
    · rw [e]
      omega
    · have := sum_le_one (fun z hz => h0 z (List.mem_cons_of_mem _ hz)) m
      omega
theorem sum_pos {f : List Nat → Int} : ∀ {l : List (List Nat)}, 1 ≤ (l.map f).sum → ∃ x ∈ l, 1 ≤ f x
  | [], h => absurd (show (1 : Int) ≤ 0 from h) (by decide)
  | y :: l, h => by
    rw [List.map_cons, List.sum_cons] at h
    by_cases c : 1 ≤ f y
    · exact ⟨y, List.mem_cons_self, c⟩
    · obtain ⟨x, hx, h2⟩ := sum_pos (f := f) (l := l) (by omega)
      exact ⟨x, List.mem_cons_of_mem _ hx, h2⟩
theorem sum_two {f : List Nat → Int} : ∀ {l : List (List Nat)}, l.Nodup → 2 ≤ (l.map f).sum → (∃ x ∈ l, 2 ≤ f x) ∨ ∃ x ∈ l, ∃ y ∈ l, x ≠ y ∧ 1 ≤ f x ∧ 1 ≤ f y
  | [], _, h => absurd (show (2 : Int) ≤ 0 from h) (by decide)
  | z :: l, nd, h => by
    rw [List.map_cons, List.sum_cons] at h
    obtain ⟨n1, n2⟩ := List.nodup_cons.mp nd
    by_cases c : 2 ≤ f z
    · exact .inl ⟨z, List.mem_cons_self, c⟩
    · by_cases d : 1 ≤ f z
      · obtain ⟨y, hy, h2⟩ := sum_pos (f := f) (l := l) (by omega)
        exact .inr ⟨z, List.mem_cons_self, y, List.mem_cons_of_mem _ hy, fun e => n1 (e ▸ hy), d, h2⟩
      · rcases sum_two n2 (f := f) (by omega) with ⟨x, hx, h2⟩ | ⟨x, hx, y, hy, h2⟩
        · exact .inl ⟨x, List.mem_cons_of_mem _ hx, h2⟩
        · exact .inr ⟨x, List.mem_cons_of_mem _ hx, y, List.mem_cons_of_mem _ hy, h2⟩
/-- a rest that has a parting begins with a word -/
theorem cntH_word (hw : ∀ x ∈ ws, 1 ≤ x.length) {u : List Nat} (hu : u ≠ []) (h : 1 ≤ cntH ws u) : ∃ x ∈ ws, hit x u = true ∧ 1 ≤ cntH ws (u.drop x.length) := by
  rw [cntH_sum hw hu] at h
  obtain ⟨x, hx, h2⟩ := sum_pos h
  obtain ⟨m1, m2⟩ := (List.mem_filter (p := fun x => hit x u)).mp hx
  exact ⟨x, m1, m2, h2⟩
theorem cntH_ge (hw : ∀ x ∈ ws, 1 ≤ x.length) {u x : List Nat} (hx : x ∈ ws) (hh : hit x u = true) : cntH ws (u.drop x.length) ≤ cntH ws u := by
  have hu : u ≠ [] := fun z => by
    have h1 := hit_len hh
    have h2 := hw x hx
    rw [z, List.length_nil] at h1
    omega
  rw [cntH_sum hw hu]
  exact sum_le_one (f := gain ws u) (fun z _ => cntH_nn _ _) ((List.mem_filter (p := fun x => hit x u)).mpr ⟨hx, hh⟩)
theorem hit_app (x v : List Nat) : hit x (x ++ v) = true := hit_iff.mpr List.take_left
theorem cntH_row (hw : ∀ x ∈ ws, 1 ≤ x.length) : ∀ {xs : List (List Nat)}, (∀ x ∈ xs, x ∈ ws) → 1 ≤ cntH ws xs.flatten
  | [], _ => show (1 : Int) ≤ 1 by decide
  | x :: xs, h => by
    have ih := cntH_row hw (xs := xs) fun y hy => h y (List.mem_cons_of_mem _ hy)
    have := cntH_ge hw (u := (x :: xs).flatten) (h x List.mem_cons_self) (by rw [List.flatten_cons]; exact hit_app x _)
    rw [List.flatten_cons, List.drop_left] at this
    rw [List.flatten_cons]
    omega
/-- one row is ahead by the rest; both go on to the end -/
theorem off_end (hw : ∀ x ∈ ws, 1 ≤ x.length) : ∀ (k : Nat) {r v : List Nat} {n : Nat}, r.length + 2 * v.length ≤ k → Off ws r n → 1 ≤ cntH ws (r ++ v) → 1 ≤ cntH ws v → ∃ m, m ≤ n + v.length ∧ Off ws [] m := by
  intro k
  induction k with
  | zero =>
    intro r v n hk o _ _
    have hr : r = [] := List.length_eq_zero_iff.mp (by omega)
    rw [hr] at o
    exact ⟨n, by omega, o⟩
  | succ k ih =>
    intro r v n hk o h1 h2
    by_cases hr : r = []
    · rw [hr] at o
      exact ⟨n, by omega, o⟩
    · obtain ⟨x, hx, hh, h3⟩ := cntH_word hw (u := r ++ v) (by simp [hr]) h1
      have lx := hw x hx
      have lr : 1 ≤ r.length := List.length_pos_iff.mpr hr
      have et := hit_iff.mp hh
      by_cases hl : x.length ≤ r.length
      · have hxr : hit x r = true := hit_iff.mpr (by rw [List.take_append_of_le_length hl] at et; exact et)
        have es : stp r x = some (r.drop x.length, false) := by unfold stp; rw [if_pos hxr]
        have o2 := Off.go o hx es
        rw [List.drop_append_of_le_length hl] at h3
        obtain ⟨m, m1, m2⟩ := ih (r := r.drop x.length) (v := v) (by rw [List.length_drop]; omega) o2 h3 h2
        exact ⟨m, by simpa using m1, m2⟩
      · have hl2 : r.length < x.length := by omega
        have e1 : x = r ++ v.take (x.length - r.length) := by
          conv => lhs; rw [← et]
          rw [List.take_append, List.take_of_length_le (by omega)]
        have hrx : hit r x = true := by rw [e1]; exact hit_app r _
        have hnx : ¬ hit x r = true := fun z => by
          have := hit_len z
          omega
        have es : stp r x = some (x.drop r.length, true) := by unfold stp; rw [if_neg hnx, if_pos hrx]
        have o2 := Off.go o hx es
        have lv := hit_len hh
        rw [List.length_append] at lv
        have e2 : x.drop r.length = v.take (x.length - r.length) := by
          conv => lhs; rw [e1]
          rw [List.drop_left]
        have e3 : x.drop r.length ++ v.drop (x.length - r.length) = v := by rw [e2, List.take_append_drop]
        have h4 : 1 ≤ cntH ws (v.drop (x.length - r.length)) := by
          rw [List.drop_append, List.drop_of_length_le (by omega), List.nil_append] at h3
          exact h3
        obtain ⟨m, m1, m2⟩ := ih (r := x.drop r.length) (v := v.drop (x.length - r.length)) (by rw [List.length_drop, List.length_drop]; omega) o2 (by rw [e3]; exact h2) h4
        refine ⟨m, ?_, m2⟩
        rw [List.length_drop, if_pos rfl, List.length_drop] at m1
        omega
/-- a text that has two partings is no shorter than a least of the empty rest -/
theorem two_off (hw : ∀ x ∈ ws, 1 ≤ x.length) (nd : ws.Nodup) : ∀ (k : Nat) {t : List Nat}, t.length ≤ k → 2 ≤ cntH ws t → ∃ m, m ≤ t.length ∧ Off ws [] m := by
  intro k
  induction k with
  | zero =>
    intro t hk h
    rw [List.length_eq_zero_iff.mp (Nat.le_zero.mp hk), cntH_nil] at h
    exact absurd h (by decide)
  | succ k ih =>
    intro t hk h
    by_cases ht : t = []
    · rw [ht, cntH_nil] at h
      exact absurd h (by decide)
    · rw [cntH_sum hw ht] at h
      rcases sum_two (nd.filter _) h with ⟨x, hx, h2⟩ | ⟨x, hx, y, hy, ne, h2, h3⟩
      · obtain ⟨m1, m2⟩ := (List.mem_filter (p := fun x => hit x t)).mp hx
        have lx := hw x m1
        have lt := hit_len m2
        obtain ⟨m, a, b⟩ := ih (t := t.drop x.length) (by rw [List.length_drop]; omega) h2
        rw [List.length_drop] at a
        exact ⟨m, by omega, b⟩
      · have key : ∀ {x y : List Nat}, x ∈ ws → y ∈ ws → hit x t = true → hit y t = true → x.length < y.length → 1 ≤ cntH ws (t.drop x.length) → 1 ≤ cntH ws (t.drop y.length) → ∃ m, m ≤ t.length ∧ Off ws [] m := by
          intro x y hx hy h1 h2 hl c1 c2
          have e1 := hit_iff.mp h1
          have e2 := hit_iff.mp h2
          have hxy : hit x y = true := hit_iff.mpr (by rw [← e2, List.take_take, Nat.min_eq_left (by omega)]; exact e1)
          have o := Off.new hy hx (fun z => by rw [z] at hl; omega) hxy
          have e3 : y.drop x.length ++ t.drop y.length = t.drop x.length := by
            have : t.drop x.length = (y ++ t.drop y.length).drop x.length := by
              conv => lhs; rw [← List.take_append_drop y.length t, e2]
            rw [this, List.drop_append_of_le_length (by omega)]
          have l2 := hit_len h2
          obtain ⟨m, a, b⟩ := off_end hw _ (Nat.le_refl _) o (by rw [e3]; exact c1) c2
          rw [List.length_drop] at a
          exact ⟨m, by omega, b⟩
        obtain ⟨a1, a2⟩ := (List.mem_filter (p := fun x => hit x t)).mp hx
        obtain ⟨b1, b2⟩ := (List.mem_filter (p := fun x => hit x t)).mp hy
        rcases Nat.lt_trichotomy x.length y.length with c | c | c
        · exact key a1 b1 a2 b2 c h2 h3
        · refine absurd ?_ ne
          have e1 := hit_iff.mp a2
          have e2 := hit_iff.mp b2
          rw [← e1, ← e2, c]
        · exact key b1 a1 b2 a2 c h3 h2
theorem two_lst (hw : ∀ x ∈ ws, 1 ≤ x.length) (nd : ws.Nodup) {t : List Nat} (h : 2 ≤ cntH ws t) : ∃ m, m ≤ t.length ∧ Off ws [] m := two_off hw nd _ (Nat.le_refl _) h
theorem off_lst {r : List Nat} {n : Nat} (o : Off ws r n) : ∃ m, m ≤ n ∧ Lst ws r m := by
  refine Classical.byContradiction fun no => ?_
  have : ∀ k m, m ≤ k → ¬ (m ≤ n ∧ Off ws r m) := by
    intro k
    induction k with
    | zero =>
      intro m hm ⟨h1, h2⟩
      exact no ⟨m, h1, h2, fun j _ => by omega⟩
    | succ k ih =>
      intro m hm ⟨h1, h2⟩
      refine no ⟨m, h1, h2, fun j hj => Classical.byContradiction fun z => ?_⟩
      exact ih j (by omega) ⟨by omega, hj⟩
  exact this n n (Nat.le_refl _) ⟨Nat.le_refl _, o⟩
theorem Db.two (hw : ∀ x ∈ ws, 1 ≤ x.length) (nd : ws.Nodup) {t x : List Nat} {xs : List (List Nat)} {y : List Nat} {ys : List (List Nat)} (d : Db ws t x xs y ys) : 2 ≤ cntH ws t := by
  have hx := d.xw x List.mem_cons_self
  have hy := d.yw y List.mem_cons_self
  have c1 := cntH_row hw (xs := xs) fun z hz => d.xw z (List.mem_cons_of_mem _ hz)
  have c2 := cntH_row hw (xs := ys) fun z hz => d.yw z (List.mem_cons_of_mem _ hz)
  have e1 : t = x ++ xs.flatten := by rw [← d.xf, List.flatten_cons]
  have e2 : t = y ++ ys.flatten := by rw [← d.yf, List.flatten_cons]
  have h1 : hit x t = true := by rw [e1]; exact hit_app _ _
  have h2 : hit y t = true := by rw [e2]; exact hit_app _ _
  have ht : t ≠ [] := fun z => by
    have := hit_len h1
    have := hw x hx
    rw [z, List.length_nil] at *
    omega
  have g1 : 1 ≤ gain ws t x := by
    unfold gain
    rw [e1, List.drop_left]
    exact c1
  have g2 : 1 ≤ gain ws t y := by
    unfold gain
    rw [e2, List.drop_left]
    exact c2
  have ne : x ≠ y := fun z => by
    have := d.lt
    rw [z] at this
    omega
  rw [cntH_sum hw ht]
  have m1 : x ∈ ws.filter fun x => hit x t := (List.mem_filter (p := fun x => hit x t)).mpr ⟨hx, h1⟩
  have m2 : y ∈ ws.filter fun x => hit x t := (List.mem_filter (p := fun x => hit x t)).mpr ⟨hy, h2⟩
  have pw : ∀ {l : List (List Nat)} {f : List Nat → Int}, (∀ z ∈ l, 0 ≤ f z) → x ∈ l → y ∈ l → f x + f y ≤ (l.map f).sum := by
    intro l f h0
    induction l with
    | nil => exact fun h => absurd h List.not_mem_nil
    | cons z l ih =>
      intro a b
      rw [List.map_cons, List.sum_cons]
      have h0' : ∀ u ∈ l, 0 ≤ f u := fun u hu => h0 u (List.mem_cons_of_mem _ hu)
      have z0 := h0 z List.mem_cons_self
      rcases List.mem_cons.mp a with ea | ma
      · rcases List.mem_cons.mp b with eb | mb
        · exact absurd (ea.trans eb.symm) ne
        · have := sum_le_one h0' mb
          rw [ea]
          omega
      · rcases List.mem_cons.mp b with eb | mb
        · have := sum_le_one h0' ma
          rw [eb]
          omega
        · have := ih h0' ma mb
          omega
  have := pw (l := ws.filter fun x => hit x t) (f := gain ws t) (fun z _ => cntH_nn _ _) m1 m2
  omega
end













section
/-- what a step told, as a value -/
def SV (H : Hp) (v : V) : Prop := v = .non ∨ ∃ (p : Addr) (x : List Nat) (b : Bool), v = .ref p ∧ H p = some (.tup [tx x, .bl b]) ∧ Let x ∧ x.length ≤ 10
structure Stp where
  p : Addr
  x : List Nat
  b : Bool
def Stp.At (H : Hp) (e : Stp) : Prop := H e.p = some (.tup [tx e.x, .bl e.b]) ∧ Let e.x ∧ e.x.length ≤ 10
def stpD (e : Stp) : PyData := .tuple [.str (S e.x), .bool e.b]
theorem dp_stps {K : PySem.W.Frag} {H : Hp} : ∀ {es : List Stp}, (∀ e ∈ es, e.At H) → DpAll K H (es.map fun e => V.ref e.p) (es.map stpD)
  | [], _ => .nil
  | e :: es, h => .cons (.tup (.inl (.inl (h e List.mem_cons_self).1)) (.cons (.str (S e.x)) (.cons (.bl e.b) .nil))) (dp_stps fun f hf => h f (List.mem_cons_of_mem _ hf))
theorem lay_stps {H : Hp} : ∀ {es : List Stp}, (∀ e ∈ es, e.At H) → PyData.canLayAll0 (es.map stpD) = true
  | [], _ => by simp [PyData.canLayAll0]
  | e :: es, h => by
    rw [List.map_cons, PyData.canLayAll0, lay_stps fun f hf => h f (List.mem_cons_of_mem _ hf)]
    unfold stpD
    rw [PyData.canLay0, PyData.canLayAll0, let_ok (h e List.mem_cons_self).2.1, PyData.canLayAll0, PyData.canLay0, PyData.canLayAll0]
    rfl
theorem depth_stps : ∀ {es : List Stp}, PyData.depthAll (es.map stpD) ≤ 1
  | [] => by simp [PyData.depthAll]
  | e :: es => by
    have ih := depth_stps (es := es)
    rw [List.map_cons, PyData.depthAll]
    have : PyData.depth (stpD e) = 1 := by
      unfold stpD
      simp [PyData.depth, PyData.depthAll]
    rw [this]
    omega
theorem shaped_stps {H : Hp} {es : List Stp} (h : ∀ e ∈ es, e.At H) : SeqAt.shaped (.list (es.map stpD)) = true := by
  unfold SeqAt.shaped
  rw [PyData.canLay0, lay_stps h, PyData.depth]
  have := depth_stps (es := es)
  rw [Bool.true_and]
  exact decide_eq_true (by omega)
variable {Pr : Program} {w : World} {K : PySem.W.Frag} {mg : Str → Option Value} {base : Heap} {f fS fM : Addr} {fd fdS fdM : FuncData}
theorem scLed : FnScope ["_law_words_here", "_law_cell", "_law_other", "_law_one", "_law_begun", "_law_text", "_law_rest", "_law_k", "_law_steps", "_law_step_here", "_law_word_here"] ["_law_words_here", "_law_cell", "_law_other"] (defScope s__law_led) := ⟨rfl, rfl, rfl, by decide +kernel, rfl, by decide +kernel, by decide +kernel⟩
def spLed (K : PySem.W.Frag) : Sp := fun vs H Q _ => ∃ (b : Addr) (ws : List (List Nat)) (c d : Int), vs = [.ref b, .int c, .int d] ∧ SqL K H b (ws.map tx) ∧ ws ≠ [] ∧ ws.length ≤ 12 ∧ (∀ x ∈ ws, WordOk x) ∧
  ∀ (t : List Nat) (H' : Hp), Same H H' → t.length ≤ 310 → Q (tx t) H'
theorem ok_led (F : FnP K "_law_led" s__law_led f fd) (S1 : Has K mg "_law_step" s__law_step ["_law_rest", "_law_word_here"] fS fdS) (M : Has K mg "_law_mixed" sMixed ["_law_cell", "_law_k"] fM fdM) (B : Bl mg) : FnOk Pr w K mg base CX0 2 f fd ["_law_words_here", "_law_cell", "_law_other"] (spLed K) := by
  have GS : FnOk Pr w K mg base CX0 1 fS fdS ["_law_rest", "_law_word_here"] spStep := ok_lawStep S1.F B
  have GM : FnOk Pr w K mg base CX0 1 fM fdM ["_law_cell", "_law_k"] spMixed := ok_mixed M.F
  refine F.okN scLed (fun vs H Q E h => ?_) (fun cdv A' outer s H vs Q E hr h => ?_)
  · obtain ⟨b, ws, c, d, rfl, _⟩ := h
    rfl
  · obtain ⟨b, ws, c, d, rfl, hB, hne, hn, hw, q⟩ := h
    refine ⟨_, pss_cons (ps_set (i := 3) scLed.nd rfl (.inr rfl) (pe_ix ix_list (pv 0) (pe_op op_mod (pv 1) (pe_callB call_len_seq (by rfl) B.mL boot_len (pa_cons (pv 0) pa_nil))) (fun _ _ => rfl)))
      (pss_cons (ps_setLc (i := 4) (own := [("_law_word_here", 10)]) (g := gName 10) rfl scLed.nd rfl rfl (sw_true rfl rfl rfl (by decide +kernel)) (pi_list (pv 0)) (blkOk_by (own := [("_law_word_here", 10)]) (N := ["_law_words_here", "_law_cell", "_law_other", "_law_one", "_law_begun", "_law_text", "_law_rest", "_law_k", "_law_steps", "_law_step_here", "_law_word_here"]) (sc := defScope s__law_led) (by decide +kernel))
            (fun _ _ _ _ _ => pg_name (i := 10) scLed.nd rfl (Or.inl rfl)) (fun _ _ _ _ _ => pts_one (PW.pt (pw_and (pt_cmpR op_ne (pv 10) (pv 3) (nomark _)) (pw_and1 (pt_cmpR op_eq (pe_slice sl_str (pv 10) po_none (po_some (pe_callB call_len_str (by rfl) B.mL boot_len (pa_cons (pv 3) pa_nil)))) (pv 3) (nomark _)))))) (fun _ _ _ _ _ => pv 10))
      (pss_cons (ps_if (pt_cmpR (op_eqD hr.units) (pv 4) (pe_lst pa_nil) (nomark _)) (pss_one (ps_ret (pv 3))) pss_nil)
      (pss_cons (ps_set (i := 5) scLed.nd rfl (.inl rfl) (pe_ix ix_list (pv 4) (pe_op op_mod (pe_op op_fdiv (pv 1) pe_int) (pe_callB call_len_seq (by rfl) B.mL boot_len (pa_cons (pv 4) pa_nil))) (fun _ _ => rfl)))
      (pss_cons (ps_set (i := 6) scLed.nd rfl (.inr rfl) (pe_slice sl_str (pv 5) (po_some (pe_callB call_len_str (by rfl) B.mL boot_len (pa_cons (pv 3) pa_nil))) po_none))
      (pss_cons (ps_for PassesOwn.never rfl (pi_range1 (by rfl) B.mR (pa_cons pe_int pa_nil)) (pg_name (i := 7) scLed.nd rfl (Or.inl rfl))
        (pss_cons (ps_setLc (i := 8) (own := [("_law_word_here", 10)]) (g := gName 10) (tt := tYes) rfl scLed.nd rfl rfl (sw_true rfl rfl rfl (by decide +kernel)) (pi_list (pv 0)) (blkOk_by (own := [("_law_word_here", 10)]) (N := ["_law_words_here", "_law_cell", "_law_other", "_law_one", "_law_begun", "_law_text", "_law_rest", "_law_k", "_law_steps", "_law_step_here", "_law_word_here"]) (sc := defScope s__law_led) (by decide +kernel))
            (fun _ _ _ _ _ => pg_name (i := 10) scLed.nd rfl (Or.inl rfl)) (fun _ _ _ _ _ => pts_nil) (fun _ _ _ _ _ => pe_call GS hr (by rfl) S1.g S1.F.kp S1.b .nil pass0 (pa_cons (pv 6) (pa_cons (pv 10) pa_nil))))
        (pss_cons (ps_setLc (i := 8) (own := [("_law_step_here", 9)]) (g := gName 9) (tt := tTest (tOp (fun x y H Q => y = .non ∧ Q (.bl (!decide (x = .non))) H) (tVar 9) (tC .non))) rfl scLed.nd rfl rfl (sw_true rfl rfl rfl (by decide +kernel)) (pi_list (pv 8)) (blkOk_by (own := [("_law_step_here", 9)]) (N := ["_law_words_here", "_law_cell", "_law_other", "_law_one", "_law_begun", "_law_text", "_law_rest", "_law_k", "_law_steps", "_law_step_here", "_law_word_here"]) (sc := defScope s__law_led) (by decide +kernel))
            (fun _ _ _ _ _ => pg_name (i := 9) scLed.nd rfl (Or.inl rfl)) (fun _ _ _ _ _ => pts_one (pt_cmpR op_notN (pv 9) pe_non (nomark _))) (fun _ _ _ _ _ => pv 9))
        (pss_cons (ps_if (PW.pt (pw_or (pt_cmpR op_eq (pv 6) pe_str (nomark _)) (pw_or1 (pt_cmpR (op_eqD hr.units) (pv 8) (pe_lst pa_nil) (nomark _))))) (pss_one (ps_ret (pv 5))) pss_nil)
        (pss_cons (ps_set (i := 9) scLed.nd rfl (.inl rfl) (pe_ix ix_list (pv 8) (pe_op op_mod (pe_op op_fdiv (pe_call GM hr (by rfl) M.g M.F.kp M.b .nil pass0 (pa_cons (pv 2) (pa_cons (pv 7) pa_nil))) pe_int) (pe_callB call_len_seq (by rfl) B.mL boot_len (pa_cons (pv 8) pa_nil))) (fun _ _ => rfl)))
        (pss_cons (ps_if (pt_val (pe_ix (r := rIxT K) ix_tup (pv 9) pe_int (fun _ _ => rfl))) (pss_one (ps_set (i := 5) scLed.nd rfl (.inl rfl) (pe_op op_add_str (pv 5) (pe_ix (r := rIxT K) ix_tup (pv 9) pe_int (fun _ _ => rfl))))) pss_nil)
        (pss_one (ps_set (i := 6) scLed.nd rfl (.inr rfl) (pe_ix (r := rIxT K) ix_tup (pv 9) pe_int (fun _ _ => rfl))))))))))
      (pss_one (ps_ret (pv 5)))))))), ?_⟩
    have en : (ws.map tx).length = ws.length := List.length_map _
    have ln : 1 ≤ ws.length := List.length_pos_iff.mpr hne
    obtain ⟨one, ho, eo⟩ := at_map tx ws (i := c % (ws.length : Int)) (Int.emod_nonneg _ (by omega)) (Int.emod_lt_of_pos _ (by omega))
    obtain ⟨o1, o2, o3⟩ := hw one ho
    have zo : (S one).length ≤ sizeLine := small_S (by omega)
    refine ⟨_, rfl, _, rfl, _, rfl, b, _, rfl, .inl hB, _, _, rfl, rfl, (by show (0 : Int) < ((ws.map tx).length : Int); rw [en]; omega), b, _, _, tx one, rfl, rfl, hB, by rw [en]; exact eo, ?_⟩
    refine ⟨_, rfl, b, rfl, ⟨_, hB⟩, fun D hD => ?_⟩
    have sD := same_upd (o := .lst []) hD
    refine lc_list (K := K) (a := b) (xs := ws.map tx) (fun i H1 => Same H H1 ∧ ∃ us : List (List Nat), H1 D = some (.lst (us.map tx)) ∧ us.length ≤ i ∧ ∀ u ∈ us, u ∈ ws) ⟨sD, [], upd_same, Nat.le_refl _, fun u hu => absurd hu List.not_mem_nil⟩ (fun i H1 _ hh => hh.1.seq hB) ?_ ?_
    · rintro i x H1 hx ⟨sm, us, eD, ul, hu⟩
      have hi : i < ws.length := by
        have := (List.getElem?_eq_some_iff.mp hx).1
        rw [List.length_map] at this
        exact this
      have hxe : x = tx ws[i] := by
        rw [List.getElem?_map, List.getElem?_eq_getElem hi] at hx
        exact (Option.some.inj hx).symm
      subst hxe
      have hm : ws[i] ∈ ws := List.getElem_mem hi
      generalize ws[i] = wd at hm ⊢
      have zw : (S wd).length ≤ sizeLine := small_S (by have := (hw wd hm).2.1; omega)
      refine ⟨rfl, _, rfl, _, rfl, rfl, _, rfl, ?_⟩
      by_cases e : wd = one
      · exact iteNP (congrArg tx e) ⟨sm, us, eD, by omega, hu⟩
      · refine iteNN (fun z => e (S_inj (V.str.inj z))) ?_
        refine ⟨_, rfl, _, rfl, S one, rfl, zo, (one.length : Int), len_v one, S wd, rfl, zw, _, rfl, rfl, _, rfl, ?_⟩
        rw [to_eq]
        cases hh : hit one wd with
        | false => exact iteF ⟨sm, us, eD, by omega, hu⟩
        | true =>
          refine iteT ⟨_, rfl, _, eD, by rw [List.length_map]; exact small1000 (by omega), fun b o e => ?_, us ++ [wd], ?_, by rw [List.length_append, List.length_singleton]; omega, fun u h => ?_⟩
          · rw [upd_ne (ne_of_none e hD)]
            exact sm _ _ e
          · rw [upd_same, List.map_append]
            rfl
          · exact (List.mem_append.mp h).elim (hu u) fun z => by rw [List.mem_singleton.mp z]; exact hm
    rintro H1 ⟨sm, us, eD, ul, hu⟩
    rw [List.length_map] at ul
    refine ⟨_, rfl, Nat.zero_le _, fun l hl => ?_⟩
    have s1 := same_upd (o := .lst []) hl
    refine ⟨_, .list [], .lst (seqL (s1 _ _ eD)) (dp_texts us), .lst (seqL upd_same) .nil, shaped_texts (fun z hz => (hw z (hu z hz)).2.2), by decide +kernel, _, rfl, ?_⟩
    have m1 := sm.trans s1
    have eD1 := s1 _ _ eD
    generalize (upd H1 l (.lst [])) = H2 at m1 eD1 ⊢
    cases hus : us with
    | nil =>
      rw [show PyData.eqv (.list ([].map fun l => PyData.str (S l))) (.list []) = true by decide +kernel]
      exact iteT ⟨_, rfl, q one H2 m1 (by omega)⟩
    | cons u0 ur =>
      rw [← hus]
      have lu : 1 ≤ us.length := by rw [hus]; exact Nat.succ_le_succ (Nat.zero_le _)
      have e0 : PyData.eqv (.list (us.map fun l => PyData.str (S l))) (.list []) = false := by rw [hus]; rfl
      rw [e0]
      refine iteF ?_
      have eu : (us.map tx).length = us.length := List.length_map _
      obtain ⟨t0, ht, et⟩ := at_map tx us (i := c / 16 % (us.length : Int)) (Int.emod_nonneg _ (by omega)) (Int.emod_lt_of_pos _ (by omega))
      obtain ⟨t1, t2, t3⟩ := hw t0 (hu t0 ht)
      refine ⟨_, rfl, _, rfl, _, _, rfl, rfl, ⟨by decide, by decide⟩, _, rfl, D, _, rfl, .inl (seqL eD1), _, _, rfl, rfl, (by show (0 : Int) < ((us.map tx).length : Int); rw [eu]; omega), D, _, _, tx t0, rfl, rfl, seqL eD1, by rw [eu]; exact et, ?_⟩
      refine ⟨_, rfl, _, rfl, S one, rfl, zo, (one.length : Int), len_v _, S t0, rfl, small_S (by omega), ?_⟩
      rw [from_len]
      refine ⟨_, rfl, by omega, by omega, ?_⟩
      refine for_range (lo := 0) (n := 30) (fun i σ H3 => Same H H3 ∧ ∃ (t r : List Nat) (k7 k8 k9 : Option V), t.length ≤ 10 + 10 * i ∧ Let r ∧ r.length ≤ 10 ∧ σ = [some (.ref b), some (.int c), some (.int d), some (tx one), some (.ref D), some (tx t), some (tx r), k7, k8, k9, none]) ?_ ?_ ?_
      · exact ⟨m1, t0, _, _, _, _, by omega, let_drop t3 _, by rw [List.length_drop]; omega, rfl⟩
      · rintro i σ H3 hi ⟨s3, t, r, k7, k8, k9, ht, hr1, hr2, rfl⟩
        refine ⟨_, rfl, b, rfl, ⟨_, s3.seq hB⟩, fun D2 hD2 => ?_⟩
        have sD2 := same_upd (o := .lst []) hD2
        refine lc_list (K := K) (a := b) (xs := ws.map tx) (fun j H4 => Same H3 H4 ∧ ∃ vs : List V, H4 D2 = some (.lst vs) ∧ vs.length ≤ j ∧ ∀ v ∈ vs, SV H4 v) ⟨sD2, [], upd_same, Nat.le_refl _, fun u hu => absurd hu List.not_mem_nil⟩ (fun i H4 _ hh => (s3.trans hh.1).seq hB) ?_ ?_
        · rintro j x H4 hx ⟨sm4, vs, eD4, vl, hv⟩
          have hj : j < ws.length := by
            have := (List.getElem?_eq_some_iff.mp hx).1
            rw [List.length_map] at this
            exact this
          have hxe : x = tx ws[j] := by
            rw [List.getElem?_map, List.getElem?_eq_getElem hj] at hx
            exact (Option.some.inj hx).symm
          subst hxe
          have hm : ws[j] ∈ ws := List.getElem_mem hj
          generalize ws[j] = wd at hm ⊢
          obtain ⟨w1, w2, w3⟩ := hw wd hm
          have fin : ∀ (v : V) (H5 : Hp), Same H4 H5 → SV H5 v → ∃ acc, H5 D2 = some (.lst acc) ∧ acc.length < sizeLine ∧ (Same H3 (upd H5 D2 (.lst (acc ++ [v]))) ∧ ∃ vs : List V, (upd H5 D2 (.lst (acc ++ [v]))) D2 = some (.lst vs) ∧ vs.length ≤ j + 1 ∧ ∀ u ∈ vs, SV (upd H5 D2 (.lst (acc ++ [v]))) u) := fun v H5 s5 sv => by
            have e5 := s5 _ _ eD4
            have kp : ∀ u, SV H5 u → SV (upd H5 D2 (.lst (vs ++ [v]))) u := fun u h => by
              rcases h with h | ⟨p, x, b, h1, h2, h3⟩
              · exact .inl h
              · exact .inr ⟨p, x, b, h1, by rw [upd_ne (ne_of h2 e5 fun z => nomatch z)]; exact h2, h3⟩
            refine ⟨vs, e5, small1000 (by omega), fun b o e => ?_, vs ++ [v], upd_same, by rw [List.length_append, List.length_singleton]; omega, fun u h => ?_⟩
            · rw [upd_ne (ne_of_none e hD2)]
              exact s5 _ _ (sm4 _ _ e)
            · rcases List.mem_append.mp h with z | z
              · refine kp u ?_
                rcases hv u z with h | ⟨p, x, b, h1, h2, h3⟩
                · exact .inl h
                · exact .inr ⟨p, x, b, h1, s5 _ _ h2, h3⟩
              · rw [List.mem_singleton.mp z]
                exact kp v sv
          refine ⟨rfl, ?_⟩
          refine ⟨_, rfl, _, rfl, r, wd, rfl, by omega, by omega, fun _ => fin .non H4 (Same.refl _) (.inl rfl), fun x b es p H5 s5 np ep => fin (.ref p) H5 s5 (.inr ⟨p, x, b, rfl, ep, ?_⟩)⟩
          unfold stp at es
          by_cases c1 : hit wd r = true
          · rw [if_pos c1] at es
            cases es
            exact ⟨let_drop hr1 _, by rw [List.length_drop]; omega⟩
          · rw [if_neg c1] at es
            by_cases c2 : hit r wd = true
            · rw [if_pos c2] at es
              cases es
              exact ⟨let_drop w3 _, by rw [List.length_drop]; omega⟩
            · rw [if_neg c2] at es
              cases es
        rintro H4 ⟨sm4, vs, eD4, vl, hv⟩
        rw [List.length_map] at vl
        have m4 := s3.trans sm4
        refine ⟨_, rfl, D2, rfl, ⟨_, seqL eD4⟩, fun D3 hD3 => ?_⟩
        have sD3 := same_upd (o := .lst []) hD3
        refine lc_list (K := K) (a := D2) (xs := vs) (fun j H5 => Same H4 H5 ∧ ∃ es : List Stp, H5 D3 = some (.lst (es.map fun e => V.ref e.p)) ∧ es.length ≤ j ∧ ∀ e ∈ es, e.At H5) ⟨sD3, [], upd_same, Nat.le_refl _, fun u hu => absurd hu List.not_mem_nil⟩ (fun i H5 _ hh => hh.1.seq (seqL eD4)) ?_ ?_
        · rintro j v H5 hx ⟨sm5, es, eD5, el, he⟩
          have hj : j < vs.length := (List.getElem?_eq_some_iff.mp hx).1
          have sv := hv v (List.mem_of_getElem? hx)
          refine ⟨rfl, ?_⟩
          rcases sv with rfl | ⟨p, x, b', rfl, hp, hx1, hx2⟩
          · exact ⟨_, rfl, rfl, _, rfl, iteNP rfl ⟨sm5, es, eD5, by omega, he⟩⟩
          · refine ⟨_, rfl, rfl, _, rfl, iteNN (fun z => nomatch z) ?_⟩
            have kp : ∀ e : Stp, e.At H5 → e.At (upd H5 D3 (.lst ((es.map fun e => V.ref e.p) ++ [.ref p]))) := fun e h => ⟨by rw [upd_ne (ne_of h.1 eD5 fun z => nomatch z)]; exact h.1, h.2⟩
            refine ⟨_, rfl, _, eD5, by rw [List.length_map]; exact small1000 (by omega), fun b o e => ?_, es ++ [⟨p, x, b'⟩], ?_, by rw [List.length_append, List.length_singleton]; omega, fun u h => ?_⟩
            · rw [upd_ne (ne_of_none e hD3)]
              exact sm5 _ _ e
            · rw [upd_same, List.map_append]
              rfl
            · rcases List.mem_append.mp h with z | z
              · exact kp u (he u z)
              · rw [List.mem_singleton.mp z]
                exact kp ⟨p, x, b'⟩ ⟨sm5 _ _ hp, hx1, hx2⟩
        rintro H5 ⟨sm5, es, eD5, el, he⟩
        have m5 := m4.trans sm5
        refine ⟨_, rfl, rfl, _, rfl, ?_⟩
        refine ite2 (fun c => ?_) (fun c => ?_)
        · exact iteT ⟨_, rfl, q t H5 m5 (by omega)⟩
        · refine ⟨_, rfl, Nat.zero_le _, fun l hl => ?_⟩
          have s6 := same_upd (o := .lst []) hl
          have he6 : ∀ e ∈ es, e.At (upd H5 l (.lst [])) := fun e h => ⟨s6 _ _ (he e h).1, (he e h).2⟩
          refine ⟨.list (es.map stpD), .list [], .lst (seqL (s6 _ _ eD5)) (dp_stps he6), .lst (seqL upd_same) .nil, shaped_stps he6, by decide +kernel, _, rfl, ?_⟩
          have m6 := m5.trans s6
          have eD6 := s6 _ _ eD5
          generalize (upd H5 l (.lst [])) = H6 at m6 eD6 he6 ⊢
          cases hes : es with
          | nil =>
            rw [show PyData.eqv (.list ([].map stpD)) (.list []) = true by decide +kernel]
            exact iteT ⟨_, rfl, q t H6 m6 (by omega)⟩
          | cons e0 er =>
            have e1 : PyData.eqv (.list ((e0 :: er).map stpD)) (.list []) = false := rfl
            rw [e1]
            have le : 1 ≤ es.length := by rw [hes]; exact Nat.succ_le_succ (Nat.zero_le _)
            refine iteF ?_
            refine ⟨_, rfl, _, rfl, _, rfl, d, _, rfl, fun v v0 v1 => ?_⟩
            have ee : (es.map fun e => V.ref e.p).length = es.length := List.length_map _
            obtain ⟨e, hem, hat⟩ := at_map (fun e : Stp => V.ref e.p) es (i := v / 16 % (es.length : Int)) (Int.emod_nonneg _ (by omega)) (Int.emod_lt_of_pos _ (by omega))
            obtain ⟨ep, ex1, ex2⟩ := he6 e hem
            refine ⟨_, _, rfl, rfl, ⟨by decide, by decide⟩, _, rfl, D3, _, rfl, .inl (seqL eD6), _, _, rfl, rfl, (by show (0 : Int) < ((es.map fun e => V.ref e.p).length : Int); rw [ee]; omega), D3, _, _, .ref e.p, rfl, rfl, seqL eD6, by rw [ee]; exact hat, ?_⟩
            refine ⟨_, rfl, e.p, _, 1, _, rfl, rfl, .inl (.inl ep), rfl, e.b, rfl, ?_⟩
            cases eb : e.b with
            | true =>
              refine iteT ⟨_, rfl, _, rfl, e.p, _, 0, _, rfl, rfl, .inl (.inl ep), rfl, S t, S e.x, rfl, rfl, by rw [S_len, S_len]; show _ ≤ 2 ^ 24; omega, ?_⟩
              rw [S_cat]
              exact ⟨_, rfl, e.p, _, 0, _, rfl, rfl, .inl (.inl ep), rfl, m6, t ++ e.x, e.x, _, _, _, by rw [List.length_append]; omega, ex1, ex2, rfl⟩
            | false =>
              exact iteF ⟨_, rfl, e.p, _, 0, _, rfl, rfl, .inl (.inl ep), rfl, m6, t, e.x, _, _, _, by omega, ex1, ex2, rfl⟩
      · rintro σ H3 ⟨s3, t, r, k7, k8, k9, ht, hr1, hr2, rfl⟩
        exact ⟨_, rfl, q t H3 s3 (by omega)⟩
end
section
variable {Pr : Program} {w : World} {K : PySem.W.Frag} {mg : Str → Option Value} {base : Heap} {f fD : Addr} {fd fdI fdD : FuncData} {P : Addr}
theorem scLaw : FnScope ["_law_script", "_law_words_here", "_law_told", "_law_some", "_law_k", "_law_text", "_law_many"] ["_law_script"] (defScope sLaw) := ⟨rfl, rfl, rfl, by decide +kernel, rfl, by decide +kernel, by decide +kernel⟩
/-- what double told -/
def TD (ws : List (List Nat)) (H : Hp) (tv : V) : Prop := (tv = .non ∧ ∀ n, ¬ Lst ws [] n) ∨ ∃ (p xa ya : Addr) (t : List Nat), tv = .ref p ∧ H p = some (.tup [tx t, .ref xa, .ref ya]) ∧ Lst ws [] t.length ∧ 2 ≤ cntH ws t ∧ t.length ≤ 10000
theorem TD.same {ws : List (List Nat)} {H H' : Hp} {tv : V} (h : TD ws H tv) (s : Same H H') : TD ws H' tv := by
  rcases h with h | ⟨p, xa, ya, t, e, h1, h2⟩
  · exact .inl h
  · exact .inr ⟨p, xa, ya, t, e, s _ _ h1, h2⟩
theorem law_of (F : FnP K "law" sLaw f fd) (D : Defs K mg) (B : Bl mg) (DO : Has K mg "double" s_double ["words"] fD fdD) (GD : FnOk Pr w K mg base CX0 6 fD fdD ["words"] (spDouble P)) : FnOk Pr w K mg base CX0 7 f fd ["_law_script"] (spLaw K P) := by
  obtain ⟨f8, d8, WS, GWS0⟩ := inWords (Pr := Pr) (w := w) (base := base) D B
  obtain ⟨f1, d1, A⟩ := D.d__law_at
  obtain ⟨f2, d2, M⟩ := D.d__law_mixed
  obtain ⟨f3, d3, RO⟩ := D.d__law_row
  obtain ⟨f4, d4, CT⟩ := D.d__law_counts
  obtain ⟨f5, d5, LE⟩ := D.d__law_led
  obtain ⟨f6, d6, ST⟩ := D.d__law_step
  have GWS : FnOk Pr w K mg base CX0 6 f8 d8 ["_law_script", "_law_first"] (spWords K) := GWS0.mono (by decide)
  have GA : FnOk Pr w K mg base CX0 6 f1 d1 ["_law_script", "_law_k"] (spAt K) := (ok_at A.F B.mL).mono (by decide)
  have GM : FnOk Pr w K mg base CX0 6 f2 d2 ["_law_cell", "_law_k"] spMixed := (ok_mixed M.F).mono (by decide)
  have GR : FnOk Pr w K mg base CX0 6 f3 d3 ["_law_script", "_law_first", "_law_words_here", "_law_most"] (spRow K) := (ok_row RO.F A M B.mR B.mL).mono (by decide)
  have GC : FnOk Pr w K mg base CX0 6 f4 d4 ["_law_words_here", "_law_text"] (spCnt K) := (ok_lawCounts CT.F B.mR B.mV B.mL).mono (by decide)
  have GL : FnOk Pr w K mg base CX0 6 f5 d5 ["_law_words_here", "_law_cell", "_law_other"] (spLed K) := (ok_led LE.F ST M B).mono (by decide)
  refine F.okN scLaw (fun vs H Q E h => ?_) (fun cdv A' outer s H vs Q E hr h => ?_)
  · obtain ⟨a, ns, rfl, _⟩ := h
    rfl
  · obtain ⟨a, ns, rfl, hS, hT, q⟩ := h
    refine ⟨_, pss_cons (ps_set (i := 1) scLaw.nd rfl (.inl rfl) (pe_call GWS hr (by rfl) WS.g WS.F.kp WS.b .nil pass0 (pa_cons (pv 0) (pa_cons pe_int pa_nil))))
      (C8.pss_cut (ps_set (i := 2) scLaw.nd rfl (.inl rfl) (pe_call GD hr (by rfl) DO.g DO.F.kp DO.b .nil pass0 (pa_cons (pe_callTy call_list_of (by rfl) B.mList boot_list (pa_cons (pv 1) pa_nil)) pa_nil)))
      (pss_cons (ps_set (i := 3) scLaw.nd rfl (.inl rfl) (pe_lst (pa_cons (pe_join pe_str (pe_call GR hr (by rfl) RO.g RO.F.kp RO.b .nil pass0 (pa_cons (pv 0) (pa_cons pe_int (pa_cons (pv 1) (pa_cons pe_int pa_nil)))))) (pa_cons pe_str pa_nil))))
      (C8.pss_cut (ps_if (pt_cmpR (op_neD hr.units) (pv 1) (pe_lst pa_nil) (nomark _))
          (pss_one (ps_for PassesOwn.never rfl (pi_range1 (by rfl) B.mR (pa_cons pe_int pa_nil)) (pg_name (i := 4) scLaw.nd rfl (Or.inl rfl))
            (pss_one (ps_expr (pe_bm PySem.F.plainAttrs_list PySem.F.slot_list_append PySem.F.type_list_append mt_append (pv 3)
              (pa_cons (pe_call GL hr (by rfl) LE.g LE.F.kp LE.b .nil pass0 (pa_cons (pv 1) (pa_cons (pe_call GM hr (by rfl) M.g M.F.kp M.b .nil pass0 (pa_cons (pe_call GA hr (by rfl) A.g A.F.kp A.b .nil pass0 (pa_cons (pv 0) (pa_cons pe_int pa_nil))) (pa_cons (pv 4) pa_nil)))
                (pa_cons (pe_op op_add (pe_call GA hr (by rfl) A.g A.F.kp A.b .nil pass0 (pa_cons (pv 0) (pa_cons pe_int pa_nil))) (pv 4)) pa_nil)))) pa_nil)))))) pss_nil)
      (C8.pss_cut (ps_if (pt_cmpR op_notN (pv 2) pe_non (nomark _))
          (pss_cons (ps_expr (pe_bm PySem.F.plainAttrs_list PySem.F.slot_list_append PySem.F.type_list_append mt_append (pv 3) (pa_cons (pe_op op_add_str (pe_ix (r := rIxT K) ix_tup (pv 2) pe_int (fun _ _ => rfl)) (pe_ix (r := rIxL K) ix_list (pv 3) pe_int (fun _ _ => rfl))) pa_nil)))
          (pss_one (ps_if (pt_cmpR op_lt (pe_ix (r := rIxL K) ix_list (pe_call GC hr (by rfl) CT.g CT.F.kp CT.b .nil pass0 (pa_cons (pv 1) (pa_cons (pe_ix (r := rIxT K) ix_tup (pv 2) pe_int (fun _ _ => rfl)) pa_nil))) pe_int (fun _ _ => rfl)) pe_int (nomark _)) (pss_one (ps_ret pe_bl)) pss_nil))) pss_nil)
      (pss_cons (ps_for PassesOwn.never rfl (pi_list (pv 3)) (pg_name (i := 5) scLaw.nd rfl (Or.inl rfl))
          (pss_cons (ps_set (i := 6) scLaw.nd rfl (.inl rfl) (pe_ix (r := rIxL K) ix_list (pe_call GC hr (by rfl) CT.g CT.F.kp CT.b .nil pass0 (pa_cons (pv 1) (pa_cons (pv 5) pa_nil))) pe_int (fun _ _ => rfl)))
          (pss_one (ps_if (PW.pt (pw_or (PW.pt (pw_and (pt_cmpR op_isN (pv 2) pe_non (nomark _)) (pw_and1 (pt_cmpR op_gt (pv 6) pe_int (nomark _)))))
              (pw_or1 (PW.pt (pw_and (pt_cmpR op_notN (pv 2) pe_non (nomark _)) (pw_and (pt_cmpR op_gt (pv 6) pe_int (nomark _)) (pw_and1 (pt_cmpR op_gt (pe_callB call_len_str (by rfl) B.mL boot_len (pa_cons (pe_ix (r := rIxT K) ix_tup (pv 2) pe_int (fun _ _ => rfl)) pa_nil)) (pe_callB call_len_str (by rfl) B.mL boot_len (pa_cons (pv 5) pa_nil)) (nomark _))))))))) (pss_one (ps_ret pe_bl)) pss_nil))))
      (pss_one (ps_ret pe_bl)))))))
      , ?_⟩
    refine ⟨_, rfl, a, ns, 0, rfl, hS, by decide, fun r ws H1 s1 nr er hc => ?_⟩
    have wl : ∀ x ∈ ws, Let x := fun x hx => (hc.2.2 x hx).2.2
    have w1 : ∀ x ∈ ws, 1 ≤ x.length := fun x hx => (hc.2.2 x hx).1
    refine ⟨fun σ H3 => SqL K H3 a (ns.map V.int) ∧ H3 r = some (.lst (ws.map tx)) ∧ ∃ tv, TD ws H3 tv ∧ σ = [some (.ref a), some (.ref r), some tv, none, none, none, none], ?_, ?_⟩
    · refine ⟨_, rfl, r, _, rfl, .inl (seqL er), fun l hl => ?_⟩
      have s2 := same_upd (o := .lst (ws.map tx)) hl
      have er2 := s2 _ _ er
      have el2 : (upd H1 l (.lst (ws.map tx))) l = some (.lst (ws.map tx)) := upd_same
      have m2 : Sm P H _ := .of_same hT (s1.trans s2)
      have hS2 := (s1.trans s2).seq hS
      generalize (upd H1 l (.lst (ws.map tx))) = H2 at m2 er2 el2 hS2 ⊢
      refine ⟨l, ws, rfl, el2, hc, m2.tab, fun no H3 m3 => ?_, fun n hn p xa ya t x xs y ys H3 m3 np nx ny nxy at3 db tl nl => ?_⟩
      · exact ⟨Sm.seq m2.tab m3 hS2, Sm.lst m2.tab m3 er2, .non, .inl ⟨rfl, no⟩, rfl⟩
      · exact ⟨Sm.seq m2.tab m3 hS2, Sm.lst m2.tab m3 er2, .ref p, .inr ⟨p, xa, ya, t, rfl, at3.p, by rw [tl]; exact hn, db.two w1 hc.2.1, by omega⟩, rfl⟩
    rintro σ H3 ⟨hS3, er3, tv, td, rfl⟩
    refine ⟨⟨_, rfl⟩, _, rfl, _, rfl, a, ns, 8, r, ws, 8, rfl, hS3, by decide, seqL er3, hc.2.2, by decide, by decide, fun r2 ys H4 s4 n4 e4 yl yw => ?_⟩
    refine ⟨_, r2, ys.map S, rfl, rfl, .inl (by rw [← map_tx]; exact seqL e4), flat_sz hc.2.2 yw (by omega), ?_⟩
    rw [join0]
    refine ⟨by show 2 ≤ sizeLine; decide, fun g hg => ?_⟩
    have s5 := same_upd (o := .lst [V.str (S ys.flatten), V.str ""]) hg
    have eg : (upd H4 g (.lst [V.str (S ys.flatten), V.str ""])) g = some (.lst ([ys.flatten, []].map tx)) := by
      rw [upd_same, show Str.ofString "" = S [] by decide +kernel]
      rfl
    generalize (upd H4 g (.lst [V.str (S ys.flatten), V.str ""])) = H5 at s5 eg ⊢
    have y10 := flat_ten (ys := ys) fun y hy => (hc.2.2 y (yw y hy)).2.1
    have hS4 := s4.seq hS3
    have er4 := s4 _ _ er3
    have td4 := td.same s4
    refine ⟨fun σ H6 => Same H4 H6 ∧ ∃ (ts : List (List Nat)) (k4 : Option V), H6 g = some (.lst (ts.map tx)) ∧ ts ≠ [] ∧ ts.length ≤ 10 ∧ (∀ t ∈ ts, t.length ≤ 400) ∧ σ = [some (.ref a), some (.ref r), some tv, some (.ref g), k4, none, none], ?_, ?_⟩
    · refine ⟨_, rfl, Nat.zero_le _, fun e he => ?_⟩
      have s6 := same_upd (o := .lst []) he
      have s46 := s5.trans s6
      refine ⟨.list (ws.map fun l => PyData.str (S l)), .list [], .lst (seqL (s46 _ _ er4)) (dp_texts ws), .lst (seqL upd_same) .nil, shaped_texts wl, by decide +kernel, _, rfl, ?_⟩
      have i0 : Same H4 (upd H5 e (.lst [])) ∧ (upd H5 e (.lst [])) g = some (.lst ([ys.flatten, []].map tx)) := ⟨s46, s6 _ _ eg⟩
      generalize (upd H5 e (.lst [])) = H6 at i0 ⊢
      refine ite2 (fun hne => ?_) (fun _ => ?_)
      · have hws : ws ≠ [] := fun z => by
          rw [z] at hne
          exact absurd hne (by decide +kernel)
        refine ⟨_, rfl, by omega, by omega, ?_⟩
        refine for_range (lo := 0) (n := 4) (fun i σ H7 => Same H4 H7 ∧ ∃ (ts : List (List Nat)) (k4 : Option V), H7 g = some (.lst (ts.map tx)) ∧ ts ≠ [] ∧ ts.length ≤ 2 + i ∧ (∀ t ∈ ts, t.length ≤ 400) ∧ σ = [some (.ref a), some (.ref r), some tv, some (.ref g), k4, none, none]) ?_ ?_ ?_
        · refine ⟨i0.1, _, none, i0.2, List.cons_ne_nil _ _, Nat.le_refl _, fun t ht => ?_, rfl⟩
          simp only [List.mem_cons, List.not_mem_nil, or_false] at ht
          rcases ht with rfl | rfl
          · omega
          · exact Nat.zero_le _
        · rintro i σ H7 hi ⟨s7, ts, k4, eG, ne, tl, th, rfl⟩
          refine ⟨_, rfl, .inl ⟨rfl, _, seqL eG⟩, _, rfl, _, rfl, a, ns, 14, rfl, s7.seq hS4, by decide, fun v => ⟨_, rfl, v, _, rfl, fun m m0 m1 => ?_⟩⟩
          refine ⟨_, rfl, a, ns, 15, rfl, s7.seq hS4, by decide, fun v2 => ⟨_, rfl, _, _, rfl, rfl, r, ws, _, _, rfl, seqL (s7 _ _ er4), hws, hc.1, hc.2.2, fun t H8 s8 tl8 => ?_⟩⟩
          have eG8 := s8 _ _ eG
          refine ⟨g, _, _, rfl, rfl, eG8, by rw [List.length_map]; exact small1000 (by omega), fun b o e => ?_, ts ++ [t], _, ?_, by simp, by rw [List.length_append, List.length_singleton]; omega, fun u hu => ?_, rfl⟩
          · rw [upd_ne (ne_of_none e hg)]
            exact s8 _ _ (s7 _ _ e)
          · rw [upd_same, List.map_append]
            rfl
          · rcases List.mem_append.mp hu with z | z
            · exact th u z
            · rw [List.mem_singleton.mp z]
              omega
        · rintro σ H7 ⟨s7, ts, k4, eG, ne, tl, th, rfl⟩
          exact ⟨s7, ts, k4, eG, ne, by omega, th, rfl⟩
      · refine ⟨i0.1, _, none, i0.2, List.cons_ne_nil _ _, (by show 2 ≤ 10; decide), fun t ht => ?_, rfl⟩
        simp only [List.mem_cons, List.not_mem_nil, or_false] at ht
        rcases ht with rfl | rfl
        · omega
        · exact Nat.zero_le _
    rintro σ H6 ⟨s6, ts, k4, eG, ne, tl, th, rfl⟩
    refine ⟨fun σ H7 => Same H4 H7 ∧ ∃ (ts : List (List Nat)), H7 g = some (.lst (ts.map tx)) ∧ (∀ t ∈ ts, t.length ≤ 20000) ∧ σ = [some (.ref a), some (.ref r), some tv, some (.ref g), k4, none, none], ?_, ?_⟩
    · refine ⟨_, rfl, rfl, _, rfl, ?_⟩
      rcases td4 with ⟨rfl, no⟩ | ⟨p, xa, ya, t, rfl, ep, hl, h2, tl2⟩
      · exact iteNP rfl ⟨s6, ts, eG, fun t ht => by have := th t ht; omega, rfl⟩
      · refine iteNN (fun z => nomatch z) ?_
        obtain ⟨t0, tr, rfl⟩ : ∃ t0 tr, ts = t0 :: tr := by
          cases ts with
          | nil => exact absurd rfl ne
          | cons u v => exact ⟨u, v, rfl⟩
        have l0 := th t0 List.mem_cons_self
        have hp6 : SqT K H6 p [tx t, .ref xa, .ref ya] := .inl (.inl (s6 _ _ ep))
        have g0 : ((t0 :: tr).map tx)[0]? = some (V.str (S t0)) := rfl
        refine ⟨_, rfl, .inl ⟨rfl, _, seqL eG⟩, _, rfl, p, _, 0, _, rfl, rfl, hp6, rfl, _, rfl, g, _, 0, _, rfl, rfl, seqL eG, atI_nat g0, S t, S t0, rfl, rfl, by rw [S_len, S_len]; show _ ≤ 2 ^ 24; omega, ?_⟩
        rw [S_cat]
        refine ⟨g, _, _, rfl, rfl, eG, by rw [List.length_map]; exact small1000 (by omega), ?_⟩
        have e7 : (upd H6 g (.lst ((t0 :: tr).map tx ++ [V.str (S (t ++ t0))]))) g = some (.lst (((t0 :: tr) ++ [t ++ t0]).map tx)) := by
          rw [upd_same, List.map_append]
          rfl
        have s7 : Same H4 (upd H6 g (.lst ((t0 :: tr).map tx ++ [V.str (S (t ++ t0))]))) := fun b o e => by
          rw [upd_ne (ne_of_none e hg)]
          exact s6 _ _ e
        generalize (upd H6 g (.lst ((t0 :: tr).map tx ++ [V.str (S (t ++ t0))]))) = H7 at e7 s7 ⊢
        have hp7 : SqT K H7 p [tx t, .ref xa, .ref ya] := .inl (.inl (s7 _ _ ep))
        refine ⟨_, rfl, _, rfl, p, _, 0, _, rfl, rfl, hp7, rfl, r, ws, t, rfl, seqL (s7 _ _ er4), hc.2.2, hc.1, by omega, fun c H8 s8 nc ec => ?_⟩
        have c0 : ((cnt ws t).map V.int)[0]? = some (V.int (cntH ws t)) := by
          rw [List.getElem?_map, cnt_at (Nat.zero_le _)]
          rfl
        refine ⟨c, _, 0, _, rfl, rfl, seqL ec, atI_nat c0, _, _, rfl, rfl, _, rfl, iteN (by omega) ?_⟩
        refine ⟨s7.trans s8, _, s8 _ _ e7, fun u hu => ?_, rfl⟩
        rcases List.mem_append.mp hu with z | z
        · have := th u z
          omega
        · rw [List.mem_singleton.mp z, List.length_append]
          omega
    rintro σ H7 ⟨s7, ts, eG, th, rfl⟩
    refine ⟨_, rfl, g, rfl, ⟨_, seqL eG⟩, for_list (K := K) (a := g) (xs := ts.map tx) (fun i σ H8 => Same H7 H8 ∧ ∃ (k5 k6 : Option V), σ = [some (.ref a), some (.ref r), some tv, some (.ref g), k4, k5, k6]) ⟨Same.refl _, _, _, rfl⟩ (fun i σ H8 _ hh => seqL (hh.1 _ _ eG)) ?_ ?_⟩
    · rintro i x σ H8 hx ⟨s8, k5, k6, rfl⟩
      rw [List.getElem?_map] at hx
      obtain ⟨u, hu, rfl⟩ := Option.map_eq_some_iff.mp hx
      have lu := th u (List.mem_of_getElem? hu)
      have s48 := s7.trans s8
      refine ⟨_, rfl, _, rfl, r, ws, u, rfl, seqL (s48 _ _ er4), hc.2.2, hc.1, lu, fun c H9 s9 nc ec => ?_⟩
      have c0 : ((cnt ws u).map V.int)[0]? = some (V.int (cntH ws u)) := by
        rw [List.getElem?_map, cnt_at (Nat.zero_le _)]
        rfl
      refine ⟨c, _, 0, _, rfl, rfl, seqL ec, atI_nat c0, ?_⟩
      have s49 := s48.trans s9
      rcases td4 with ⟨rfl, no⟩ | ⟨p, xa, ya, t, rfl, ep, hl, h2, tl2⟩
      · have h1 : ¬ 2 ≤ cntH ws u := fun z => by
          obtain ⟨m, _, o⟩ := two_lst w1 hc.2.1 z
          obtain ⟨n, _, o2⟩ := off_lst o
          exact no n o2
        refine ⟨_, rfl, rfl, _, rfl, iteP rfl ?_⟩
        refine ⟨_, rfl, _, _, rfl, rfl, _, rfl, iteN (by omega) ?_⟩
        refine ⟨_, rfl, rfl, _, rfl, iteNP rfl ?_⟩
        exact ⟨s8.trans s9, _, _, rfl⟩
      · refine ⟨_, rfl, rfl, _, rfl, iteN (fun z => nomatch z) ?_⟩
        refine ⟨_, rfl, rfl, _, rfl, iteNN (fun z => nomatch z) ?_⟩
        by_cases h1 : 2 ≤ cntH ws u
        · refine ⟨_, rfl, _, _, rfl, rfl, _, rfl, iteP (by omega) ?_⟩
          obtain ⟨m, m1, o⟩ := two_lst w1 hc.2.1 h1
          have := hl.2 m o
          have hp9 : SqT K H9 p [tx t, .ref xa, .ref ya] := .inl (.inl (s49 _ _ ep))
          refine ⟨_, rfl, p, _, 0, _, rfl, rfl, hp9, rfl, S t, rfl, small_T (by omega), _, rfl, S u, rfl, small_T (by omega), _, _, len_v t, len_v u, _, rfl, iteN (by omega) ?_⟩
          exact ⟨s8.trans s9, _, _, rfl⟩
        · refine ⟨_, rfl, _, _, rfl, rfl, _, rfl, iteN (by omega) ?_⟩
          exact ⟨s8.trans s9, _, _, rfl⟩
    · rintro σ H8 ⟨s8, k5, k6, rfl⟩
      exact q _
theorem ok_law (F : FnP K "law" sLaw f fd) (D : Defs K mg) (I : HasI K mg base P fdI) (B : Bl mg) : FnOk Pr w K mg base CX0 7 f fd ["_law_script"] (spLaw K P) := by
  obtain ⟨f2, d2, DO, GD⟩ := inDouble (Pr := Pr) (w := w) (base := base) D I B
  exact law_of F D B DO (GD.mono (by decide))
end
def dd (x : Str) (i : Nat) : He.DefD := ⟨(x, none), x, x, defArgs (top i), defBody (top i), defScope (top i), [], []⟩
def fn : List He.DefD := [dd "is_word" 10, dd "checked" 11, dd "left_of" 12, dd "stepped" 14, dd "double" 15, dd "meetings" 16, dd "_first_meetings" 17, dd "_further_meetings" 18, dd "_law_at" 20, dd "_law_mixed" 21, dd "_law_signs" 22, dd "_law_word" 23, dd "_law_any_word" 24, dd "_law_more" 25, dd "_law_chain" 26, dd "_law_words" 27, dd "_law_row" 28, dd "_law_counts" 29, dd "_law_step" 30, dd "_law_led" 31, dd "law" 32]
def fa : List He.Fa := ([.glo "law", .int "MOST_SIGNS" 10, .int "MOST_WORDS" 12, .glo "is_word", .glo "checked", .glo "left_of", .glo "stepped", .glo "double", .glo "meetings", .glo "_first_meetings", .glo "_further_meetings", .glo "_law_at", .glo "_law_mixed", .glo "_law_signs", .glo "_law_word", .glo "_law_any_word", .glo "_law_more", .glo "_law_chain", .glo "_law_words", .glo "_law_row", .glo "_law_counts", .glo "_law_step", .glo "_law_led", .free "type", .free "str", .free "len", .free "all", .free "list", .free "sorted", .free "range"] : List He.Fa) ++ ([.free "reversed", .free "sum", .free "isinstance", .free "int", .free "bool", .free "any", .free "max", .free "dict", .free "tuple", .free "min", .free "ValueError", .free "enumerate", .free "zip", .glo "CodeError", .glo "BadCode", .glo "Full", .glo "BadWord", .glo "Twice", .exc "CodeError", .exc "BadCode", .exc "Full", .exc "BadWord", .exc "Twice"] : List He.Fa)
def loose : List Str := (["heappush", "heappop", "CodeError", "BadCode", "Full", "BadWord", "Twice", "MOST_SIGNS", "MOST_WORDS", "is_word", "checked", "left_of", "stepped", "double", "meetings", "_first_meetings", "_further_meetings", "_law_at", "_law_mixed", "_law_signs", "_law_word", "_law_any_word", "_law_more", "_law_chain", "_law_words", "_law_row", "_law_counts", "_law_step", "_law_led"] : List Str)
abbrev R : PySem.W.OpenRow := PySem.W.OpenLaw.row PySem.Challenge.rw_onereading_k08_whole_no_text_parts_twice
def exI (K : PySem.W.Frag) : Bool := He.eqO (PySem.W.nsIn K mainGlobals "heappush") (some (some (.builtin "_heapq.heappush"))) && (He.eqO (PySem.W.nsIn K mainGlobals "heappop") (some (some (.builtin "_heapq.heappop"))) && (true))
def ex : PySem.W.Frag → Bool := fun K => exI K && true
abbrev tf : List He.Defn := [aWord]
abbrev hk : PySem.W.Hook := He.hookX 4 fa fn [] tf ex
def ob (s : PySem.W.SharedT) : He.AlX := He.obsX 4 fa fn [] tf ex (HandSHeadRun.getT s)
theorem ob_eq (s : PySem.W.SharedT) : ob s = hk.obs s.abs := He.obsX_eq (HandSHeadRun.getT_eq s)
set_option maxHeartbeats 0 in
theorem run (w : World) : HandSHeadRun.RunImp R (PySem.W.view R.prog [32]) hk ob 3000 20000 loose w := by
  unfold HandSHeadRun.RunImp
  kernel_rfl
section
variable {w : World} {h : Heap} {K : PySem.W.Frag} {mg : Str → Option Value} {f : Addr}
theorem there (X : K.In h) (G : h.Ns mainGlobals mg) (c : He.SaysX fa fn [] tf ex w h K) (x : Str) (i j k : Nat) {ps : List Str} (hd : fn[j]? = some (dd x i)) (hg : fa[k]? = some (He.Fa.glo x))
    (hb : ∀ (kV doc pm : Value) (an : Option Addr) (cdv ct : Value) (us : List Value), us.length = ps.length → bindArgs (PySem.W.fnOf x x (defArgs (top i)) (defBody (top i)) (defScope (top i)) .none kV doc pm an cdv ct) ⟨us, []⟩ = pure (ps.zip us)) : There K mg x (top i) ps := by
  obtain ⟨fd, F⟩ := c.t.d.def_ j hd
  exact ⟨_, fd, F, He.glo_ok X G (c.t.d.fact k hg), FunD.bindsN F hb⟩
theorem defs (X : K.In h) (G : h.Ns mainGlobals mg) (c : He.SaysX fa fn [] tf ex w h K) : Defs K mg := {
  d_checked := there X G c "checked" 11 1 4 rfl rfl fun _ _ _ _ _ _ us hl => match us, hl with | [_], _ => rfl
  d_left_of := there X G c "left_of" 12 2 5 rfl rfl fun _ _ _ _ _ _ us hl => match us, hl with | [_, _], _ => rfl
  d_stepped := there X G c "stepped" 14 3 6 rfl rfl fun _ _ _ _ _ _ us hl => match us, hl with | [_, _], _ => rfl
  d_double := there X G c "double" 15 4 7 rfl rfl fun _ _ _ _ _ _ us hl => match us, hl with | [_], _ => rfl
  d_meetings := there X G c "meetings" 16 5 8 rfl rfl fun _ _ _ _ _ _ us hl => match us, hl with | [_], _ => rfl
  d__first_meetings := there X G c "_first_meetings" 17 6 9 rfl rfl fun _ _ _ _ _ _ us hl => match us, hl with | [_], _ => rfl
  d__further_meetings := there X G c "_further_meetings" 18 7 10 rfl rfl fun _ _ _ _ _ _ us hl => match us, hl with | [_, _, _, _, _], _ => rfl
  d__law_at := there X G c "_law_at" 20 8 11 rfl rfl fun _ _ _ _ _ _ us hl => match us, hl with | [_, _], _ => rfl
  d__law_mixed := there X G c "_law_mixed" 21 9 12 rfl rfl fun _ _ _ _ _ _ us hl => match us, hl with | [_, _], _ => rfl
  d__law_signs := there X G c "_law_signs" 22 10 13 rfl rfl fun _ _ _ _ _ _ us hl => match us, hl with | [_], _ => rfl
  d__law_word := there X G c "_law_word" 23 11 14 rfl rfl fun _ _ _ _ _ _ us hl => match us, hl with | [_, _], _ => rfl
  d__law_any_word := there X G c "_law_any_word" 24 12 15 rfl rfl fun _ _ _ _ _ _ us hl => match us, hl with | [_], _ => rfl
  d__law_more := there X G c "_law_more" 25 13 16 rfl rfl fun _ _ _ _ _ _ us hl => match us, hl with | [_, _, _], _ => rfl
  d__law_chain := there X G c "_law_chain" 26 14 17 rfl rfl fun _ _ _ _ _ _ us hl => match us, hl with | [_, _, _], _ => rfl
  d__law_words := there X G c "_law_words" 27 15 18 rfl rfl fun _ _ _ _ _ _ us hl => match us, hl with | [_, _], _ => rfl
  d__law_row := there X G c "_law_row" 28 16 19 rfl rfl fun _ _ _ _ _ _ us hl => match us, hl with | [_, _, _, _], _ => rfl
  d__law_counts := there X G c "_law_counts" 29 17 20 rfl rfl fun _ _ _ _ _ _ us hl => match us, hl with | [_, _], _ => rfl
  d__law_step := there X G c "_law_step" 30 18 21 rfl rfl fun _ _ _ _ _ _ us hl => match us, hl with | [_, _], _ => rfl
  d__law_led := there X G c "_law_led" 31 19 22 rfl rfl fun _ _ _ _ _ _ us hl => match us, hl with | [_, _, _], _ => rfl
}
theorem exs (X : K.In h) (G : h.Ns mainGlobals mg) (c : He.SaysX fa fn [] tf ex w h K) : Exs K mg := {
  c_CodeError := rfl
  g_CodeError := He.glo_ok X G (c.t.d.fact 43 (f := .glo "CodeError") rfl)
  x_CodeError := c.t.d.fact 48 (f := .exc "CodeError") rfl
  c_BadCode := rfl
  g_BadCode := He.glo_ok X G (c.t.d.fact 44 (f := .glo "BadCode") rfl)
  x_BadCode := c.t.d.fact 49 (f := .exc "BadCode") rfl
  c_Full := rfl
  g_Full := He.glo_ok X G (c.t.d.fact 45 (f := .glo "Full") rfl)
  x_Full := c.t.d.fact 50 (f := .exc "Full") rfl
  c_BadWord := rfl
  g_BadWord := He.glo_ok X G (c.t.d.fact 46 (f := .glo "BadWord") rfl)
  x_BadWord := c.t.d.fact 51 (f := .exc "BadWord") rfl
  c_Twice := rfl
  g_Twice := He.glo_ok X G (c.t.d.fact 47 (f := .glo "Twice") rfl)
  x_Twice := c.t.d.fact 52 (f := .exc "Twice") rfl
}
theorem bl (X : K.In h) (G : h.Ns mainGlobals mg) (c : He.SaysX fa fn [] tf ex w h K) : Bl mg := {
  mT := He.free_ok X G (c.t.d.fact 23 (f := .free "type") rfl)
  mStr := He.free_ok X G (c.t.d.fact 24 (f := .free "str") rfl)
  mL := He.free_ok X G (c.t.d.fact 25 (f := .free "len") rfl)
  mAll := He.free_ok X G (c.t.d.fact 26 (f := .free "all") rfl)
  mList := He.free_ok X G (c.t.d.fact 27 (f := .free "list") rfl)
  mSorted := He.free_ok X G (c.t.d.fact 28 (f := .free "sorted") rfl)
  mR := He.free_ok X G (c.t.d.fact 29 (f := .free "range") rfl)
  mV := He.free_ok X G (c.t.d.fact 30 (f := .free "reversed") rfl)
  mSum := He.free_ok X G (c.t.d.fact 31 (f := .free "sum") rfl)
  mIsi := He.free_ok X G (c.t.d.fact 32 (f := .free "isinstance") rfl)
  mInt := He.free_ok X G (c.t.d.fact 33 (f := .free "int") rfl)
  mBool := He.free_ok X G (c.t.d.fact 34 (f := .free "bool") rfl)
  mAny := He.free_ok X G (c.t.d.fact 35 (f := .free "any") rfl)
  mMax := He.free_ok X G (c.t.d.fact 36 (f := .free "max") rfl)
  mDict := He.free_ok X G (c.t.d.fact 37 (f := .free "dict") rfl)
  mTuple := He.free_ok X G (c.t.d.fact 38 (f := .free "tuple") rfl)
  mMin := He.free_ok X G (c.t.d.fact 39 (f := .free "min") rfl)
  mVE := He.free_ok X G (c.t.d.fact 40 (f := .free "ValueError") rfl)
  mEnum := He.free_ok X G (c.t.d.fact 41 (f := .free "enumerate") rfl)
  mZip := He.free_ok X G (c.t.d.fact 42 (f := .free "zip") rfl)
  mPush := PySem.W.mg_of X G (He.eqO_ok (He.ba (He.ba c.more).1).1)
  mPop := PySem.W.mg_of X G (He.eqO_ok (He.ba (He.ba (He.ba c.more).1).2).1)
  mN := He.int_ok X G (c.t.d.fact 1 (f := .int "MOST_SIGNS" 10) rfl)
  mM := He.int_ok X G (c.t.d.fact 2 (f := .int "MOST_WORDS" 12) rfl)
}
theorem facts {l : PySem.W.OpenLaw} (X : K.In h) (G : h.Ns mainGlobals mg) (hfa : mg ("law" : Str) = some (.ref f)) (c : He.SaysX fa fn [] tf ex w h K) : LamX.LawAtS l w K CX0 7 63 "_law_script" mg f h := by
  have e := hfa.symm.trans (He.glo_ok X G (c.t.d.fact 0 (f := .glo "law") rfl))
  cases e
  obtain ⟨fd, F⟩ := c.t.d.def_ 20 (d := dd "law" 32) rfl
  obtain ⟨fdI, FI⟩ := c.t.d.def_ 0 (d := dd "is_word" 10) rfl
  have D := defs X G c
  have B := bl X G c
  have bI : Binds K fdI ["thing"] [] := FunD.bindsN FI fun _ _ _ _ _ _ us hl => match us, hl with | [_], _ => rfl
  have gI := He.glo_ok X G (c.t.d.fact 3 (f := .glo "is_word") rfl)
  have b := FunD.bindsA (ps := ["_law_script"]) F fun _ _ _ _ _ _ us hl => match us, hl with | [_], _ => rfl
  refine ⟨fd, [He.cT K aWord], spLaw K (He.cT K aWord).2, ?_, ?_, ?_, fun s v => b s [v] rfl, ?_, fun base _ _ TB => ?_⟩
  · intro p hp
    rw [List.mem_singleton.mp hp]
    exact c.empty aWord (List.mem_singleton.mpr rfl)
  · intro p hp
    rw [List.mem_singleton.mp hp]
    exact c.out aWord (List.mem_singleton.mpr rfl)
  · intro p hp
    rw [List.mem_singleton.mp hp]
    exact PySem.W.codeHd_of_K X (c.hd aWord (List.mem_singleton.mpr rfl))
  · intro H a ns _ _ hH hS
    exact ⟨a, ns, rfl, hS, ⟨#[], hH _ (List.mem_singleton.mpr rfl), trivial⟩, fun _ => rfl⟩
  · have T := TB _ (List.mem_singleton.mpr rfl)
    have I : HasI K mg base (He.cT K aWord).2 fdI := ⟨FI, gI, bI, ⟨T.code, T.bm, T.gP⟩⟩
    exact ok_law F D I B
end
end Ow
open PySem PySem.W PyProof.Rows
set_option maxRecDepth 100000 in
set_option maxHeartbeats 0 in
theorem PySem.Challenge.cw_onereading_k08_whole_no_text_parts_twice_holds : PySem.Challenge.rw_onereading_k08_whole_no_text_parts_twice.Holds := by
  w_on; o_law
  refine HandSHeadRun.head_imp (r := OpenLaw.row PySem.Challenge.rw_onereading_k08_whole_no_text_parts_twice) (q := view (OpenLaw.row PySem.Challenge.rw_onereading_k08_whole_no_text_parts_twice).prog [32]) (H := Ow.hk) (ob := Ow.ob) (N := 3000) (M := 20000) (loose := Ow.loose) (d := HandSHeadRun.topDef (OpenLaw.row PySem.Challenge.rw_onereading_k08_whole_no_text_parts_twice).prog 32) (kwd := []) Ow.ob_eq
    (by kernel_rfl) Ow.run (by kernel_rfl) (by kernel_rfl) (by kernel_rfl) (by rfl) (by first | assumption | decide +kernel) (by decide +kernel) ⟨rfl, rfl, rfl, rfl, rfl, by decide +kernel⟩ ?hw ?hc
  case hw => w_witness2
  case hc =>
    refine LamX.walk_ofTsE (l := PySem.Challenge.rw_onereading_k08_whole_no_text_parts_twice) (n := 63) (k := 7) (x := "_law_script") (CX := fun _ => L2.CX0) rfl (by decide) (by kernel_rfl) ⟨rfl, by decide, by decide⟩ ?F (fun _ _ _ _ _ z => z)
    intro w mg fa h Y G hmg0
    obtain ⟨K, KX, c⟩ := Y
    have hmg : mg ("law" : PySem.Str) = some (.ref fa) := by
      have e : (HandSHeadRun.topDef (OpenLaw.row PySem.Challenge.rw_onereading_k08_whole_no_text_parts_twice).prog 32).name = ("law" : PySem.Str) := by kernel_rfl
      rw [← e]
      exact hmg0
    exact ⟨K, KX, Ow.facts KX G hmg c⟩
