import PyProof.Rows.All
import Wide.All
import OpenK.AllK
import Wide.FinOn
import HandS.ForMost
import HandS.ForExc
import HandS.Defaults
import KE.GoesEnum
import HandS.SortInts
import HandS.Iter
import HandS.Walk
import HandS.DictComp
import HandS.WordsDict
import HandS.Finally
import HandS.HotCalls
import HandS.ExcIs
import HandS.ExcCtx
import HandS.CallSlots
import HandS.Codes
import HandS.StrMore
import HandS.Conv
import HandS.RevRange
import HandS.AnyAll
import HandS.Zip
import HandS.Sort
import HandS.IsInst
import HandS.Gcd
import HandS.ListEq
import KE.LtData
import KE.KMathG
import HandS.RepeatKit
import PyProof.TupleOfSeq
import PyProof.CallType
import PyProof.RangeIter
import PyProof.RulesTry
import PyProof.ZipIter
import HandS.HeadHook4
import HandS.HeadWalk
import HandS.Head0
import HandS.Head1
import HandS.Head2
import PySem.Challenge.RW_onereading_k11_wait_and_late
set_option Elab.async false
set_option linter.all false
set_option maxRecDepth 100000
set_option maxHeartbeats 4000000
/-! ### the head of a text that imports -/
noncomputable section
namespace HandSHeadRun
open PySem PySem.W PySem.Calls PyProof.Rows
/-- the opening, to its end, over trees -/
def impF (st : SharedT → Thread → Option (SharedT × Thread)) : Nat → SharedT → Thread → Option SharedT
  | 0, _, _ => none
  | m + 1, s, t => match t.atExitBegin with
    | some [] => some s
    | some (_ :: _) => none
    | none => match st s t with
      | some (s', t') => frS s' fun s' => impF st m s' t'
      | none => none
theorem impF_ok {tb : String → Option Builtin} {p : Program} {w : World} : ∀ {m : Nat} {s s' : SharedT} {t : Thread}, impF (stepT (denote tb) p w) m s t = some s' → importEnds tb p w m s.abs t = some s'.abs
  | 0, _, _, _, h => by cases h
  | m + 1, s, s', t, h => by
    unfold impF at h
    unfold importEnds
    cases ht : t.atExitBegin with
    | some l =>
      rw [ht] at h
      cases l with
      | nil => cases h; rfl
      | cons x l => cases h
    | none =>
      rw [ht] at h
      dsimp only at h ⊢
      cases hs : stepT (denote tb) p w s t with
      | none =>
        rw [hs] at h
        cases h
      | some r =>
        obtain ⟨s2, t2⟩ := r
        rw [hs] at h
        dsimp only at h
        rw [frS_eq] at h
        rw [stepT_spec hs]
        exact impF_ok h
/-- where it starts -/
def start0 (p : Program) : SharedT := ⟨.nil, 0, {}, #[], {}, 1, (start p).1.os⟩
theorem start0_abs (p : Program) : (start0 p).abs = (start p).1 := rfl
/-- a module's dict fenced, over trees -/
def fenceT (m : Str) (s : SharedT) : Option SharedT :=
  match boundIn s.abs.heap sysModules m, tameNamesOf? m with
  | some (.ref a), some row => (match getT s a with
    | some o => (match o.dict with
      | some D => (match getT s D with
        | some od => (match fenceDict? m row od, s.tree.get D with
          | some od', some _ => some ⟨s.tree.set D fun _ => od', s.n, s.life, s.gens, s.drawn, s.toks, s.os⟩
          | _, _ => none)
        | none => none)
      | none => none)
    | none => none)
  | _, _ => none
theorem fenceT_ok {m : Str} {s s' : SharedT} (h : fenceT m s = some s') : fenceModule? m s.abs = some s'.abs := by
  unfold fenceT at h
  unfold fenceModule?
  split at h
  · rename_i a row e1 e2
    rw [e1, e2]
    dsimp only
    rw [← getT_eq]
    split at h
    · rename_i o e3
      rw [e3]
      dsimp only
      split at h
      · rename_i D e4
        rw [e4]
        dsimp only
        rw [← getT_eq]
        split at h
        · rename_i od e5
          rw [e5]
          dsimp only
          split at h
          · rename_i od' x e6 e7
            rw [e6]
            cases h
            show some _ = some _
            congr 1
            show _ = (⟨absHeap (s.tree.set D fun _ => od') s.n s.life, s.gens, s.drawn, s.toks, s.os⟩ : Shared)
            rw [absHeap_set e7]
            rfl
          · cases h
        · cases h
      · cases h
    · cases h
  · cases h
def fencesT : List Str → SharedT → Option SharedT
  | [], s => some s
  | m :: r, s => match fenceT m s with
    | some s' => fencesT r s'
    | none => none
theorem fencesT_ok : ∀ {l : List Str} {s s' : SharedT}, fencesT l s = some s' → fenceAll? l s.abs = some s'.abs
  | [], s, s', h => by cases h; rfl
  | m :: r, s, s', h => by
    unfold fencesT at h
    cases e : fenceT m s with
    | none => rw [e] at h; cases h
    | some s1 =>
      rw [e] at h
      unfold fenceAll?
      rw [fenceT_ok e]
      exact fencesT_ok h
/-- the opening, the fence, the top: the states behind the fence and behind the top -/
def endI (stI st : SharedT → Thread → Option (SharedT × Thread)) (N M : Nat) (p : Program) : Option (SharedT × SharedT) :=
  match impF stI N (start0 (opening p)) (start (opening p)).2 with
  | none => none
  | some s1 => match fencesT (importedModules p.main.body) s1 with
    | none => none
    | some s2 => match s2.abs.heap.isNs mainGlobals && s2.gens.size == 0 with
      | false => none
      | true => match goF st s2.n (s2.abs.heap.nsMap mainGlobals "__annotations__") M s2 (topStub p) with
        | none => none
        | some s3 => some (s2, s3)
theorem left_imp {p q : Program} {loose : List Str} {Xt : Shared → Bool} {α : Type} {Yf : Shared → α} {Ya : World → α} {N M : Nat} (hnp : p.main.body.any namesNumpy = false)
    (run : ∀ (w : World), (endI (stepT (denote treeTable) (opening p) w) (stepT (denote treeTable) p w) N M p).map (fun s => (looksF p s.1.abs.heap s.2.abs, openSeen q loose (importedModules p.main.body) Xt true s.2.abs, Yf s.2.abs)) = some (true, openGood q loose, Ya w)) :
    LeftO p q loose Xt Yf Ya (N + M) true := fun w => by
  obtain ⟨⟨s2, s3⟩, hs, hv⟩ := Option.map_eq_some_iff.mp (run w)
  obtain ⟨l1, l2, l3⟩ : _ ∧ _ ∧ _ := by simpa only [Prod.mk.injEq] using hv
  unfold endI at hs
  cases e1 : impF (stepT (denote treeTable) (opening p) w) N (start0 (opening p)) (start (opening p)).2 with
  | none => rw [e1] at hs; cases hs
  | some s1 =>
    rw [e1] at hs
    dsimp only at hs
    cases e2 : fencesT (importedModules p.main.body) s1 with
    | none => rw [e2] at hs; cases hs
    | some s2' =>
      rw [e2] at hs
      dsimp only at hs
      cases e3 : (s2'.abs.heap.isNs mainGlobals && s2'.gens.size == 0) with
      | false => rw [e3] at hs; cases hs
      | true =>
        rw [e3] at hs
        dsimp only at hs
        cases e4 : goF (stepT (denote treeTable) p w) s2'.n (s2'.abs.heap.nsMap mainGlobals "__annotations__") M s2' (topStub p) with
        | none => rw [e4] at hs; cases hs
        | some s3' =>
          rw [e4] at hs
          cases hs
          have a := importEnds_mono M _ _ _ _ (impF_ok e1)
          have r := topRun_mono N _ _ _ _ (goF_ok e4)
          rw [Nat.add_comm M N] at r
          have hsz : s2.abs.heap.objs.size = s2.n := absHeap_size _ _ _
          have l1' : (staticsOk (importedModules p.main.body) s2.abs.heap s3.abs.heap && namesBound p s3.abs.heap && gensDone s3.abs && laidKept s2.abs.heap s3.abs.heap) = true := l1
          unfold openEnds fencedOpening
          rw [← start0_abs, a]
          show ((fenceModules? p s1.abs).bind _).map _ = _
          unfold fenceModules?
          rw [fencesT_ok e2]
          show ((if p.main.body.any namesNumpy then _ else some s2.abs).bind _).map _ = _
          rw [hnp]
          show (topFrom treeTable p w (N + M) s2.abs).map _ = _
          have t : topFrom treeTable p w (N + M) s2.abs = some s3.abs := by
            unfold topFrom
            have e3' : (s2.abs.heap.isNs mainGlobals && s2.abs.gens.size == 0) = true := e3
            rw [e3', hsz, r]
            show (match staticsOk (importedModules p.main.body) s2.abs.heap s3.abs.heap && namesBound p s3.abs.heap && gensDone s3.abs && laidKept s2.abs.heap s3.abs.heap with | true => some s3.abs | false => none) = _
            rw [l1']
          rw [t]
          exact congrArg some (Prod.ext l2 l3)
/-- the run's equation at a world, from the opening on -/
def RunImp (r : OpenRow) (q : Program) (H : Hook) (ob : SharedT → H.α) (N M : Nat) (loose : List PySem.Str) (w : World) : Prop :=
  (endI (stepQ (denQ tabQ) (opening r.prog) w) (stepQ (denQ tabQ) r.prog w) N M r.prog).map (fun s => (looksF r.prog s.1.abs.heap s.2.abs, seenQ q loose (importedModules r.prog.main.body) (fun s => xlAt q [] s && recOk r.toRowW.records s) s.2.abs, ob s.2)) = some (true, openGood q loose, H.val w)
theorem head_imp {r : OpenRow} {q : Program} {H : Hook} {ob : SharedT → H.α} {N M : Nat} {loose : List PySem.Str} {d : DefRec} {kwd : List (PySem.Str × PySem.Expr)} (ho : ∀ s : SharedT, ob s = H.obs s.abs)
    (hnp : r.prog.main.body.any namesNumpy = false) (run : ∀ w, RunImp r q H ob N M loose w)
    (hdef : defOf q r.name = some (d, kwd)) (hp : r.prog.theDef r.name = some (d.params, d.body, d.scope)) (hk : kwWritten? d.params.kwonlyargs d.params.kw_defaults = some kwd)
    (hwr : (!r.writes || r.records.isEmpty) = true) (k1 : r.wellSaid = true) (ok : (chainsOk q && opensWell r.prog && (frees r.toRowW && r.within.isEmpty)) = true) (hb : r.prog.bare) (hw : r.toRowW.promised)
    (call : WalkO q loose (XL q []) H.says r.toRowW d kwd fun f vs => PySem.call f vs) : r.Holds := by
  have left : LeftO r.prog q loose (fun s => xlAt q [] s && recOk r.toRowW.records s) H.obs H.val (N + M) true :=
    left_imp hnp fun w => by
      have z := run w
      have eo : ob = fun s => H.obs s.abs := funext ho
      unfold RunImp at z
      rw [eo, ← denQ_eq, ← tabQ_eq, ← stepQ_eq] at z
      simp only [seenQ_eq]
      exact z
  exact holds_open (r := r) (q := q) (loose := loose) (XP := XL q []) (YP := H.says) (d := d) (kwd := kwd) left H.of H.keeps (fun s z => xl_of s (Bool.and_eq_true_iff.mp z).1) XL.keeps hdef hp hk (fun s z => recFacts_of (Bool.and_eq_true_iff.mp z).2) hwr k1 ok hb hw call
end HandSHeadRun
end
/-! ### binary heaps: the mathematics -/
namespace HQ
section
variable {α : Type} {lt : α → α → Bool}
/-- an order in which no two are less than each other, and what isn't less stays so -/
structure Ord (M : α → Prop) (lt : α → α → Bool) : Prop where
  asym : ∀ x y, M x → M y → lt x y = true → lt y x = false
  trans : ∀ x y z, M x → M y → M z → lt x y = true → lt y z = true → lt x z = true
  ntrans : ∀ x y z, M x → M y → M z → lt x y = false → lt y z = false → lt x z = false
def par (i : Nat) : Nat := (i - 1) / 2
theorem par_lt {i : Nat} (h : 0 < i) : par i < i := by unfold par; omega
def sw (f : Nat → α) (i j k : Nat) : α := if k = i then f j else if k = j then f i else f k
def IsHp (lt : α → α → Bool) (f : Nat → α) (n : Nat) : Prop := ∀ i, 0 < i → i < n → lt (f i) (f (par i)) = false
def HB (lt : α → α → Bool) (f : Nat → α) (n pos : Nat) : Prop :=
  (∀ i, 0 < i → i < n → i ≠ pos → par i ≠ pos → lt (f i) (f (par i)) = false) ∧ (0 < pos → ∀ i, 0 < i → i < n → par i = pos → lt (f i) (f (par pos)) = false)
def HU (lt : α → α → Bool) (f : Nat → α) (n pos : Nat) : Prop := HB lt f n pos ∧ ∀ i, 0 < i → i < n → par i = pos → lt (f i) (f pos) = false
theorem sw_l {f : Nat → α} {i j : Nat} : sw f i j i = f j := if_pos rfl
theorem sw_r {f : Nat → α} {i j : Nat} : sw f i j j = f i := by
  unfold sw
  by_cases h : j = i
  · rw [if_pos h, h]
  · rw [if_neg h, if_pos rfl]
theorem sw_o {f : Nat → α} {i j k : Nat} (h1 : k ≠ i) (h2 : k ≠ j) : sw f i j k = f k := by
  unfold sw
  rw [if_neg h1, if_neg h2]
/-- one step down: the lesser child c comes up -/
theorem HB.down {f : Nat → α} {n pos c : Nat} (h : HB lt f n pos) (hc : par c = pos) (hc0 : 0 < c) (hcn : c < n) (hd : ∀ d, 0 < d → d < n → par d = pos → d ≠ c → lt (f d) (f c) = false) : HB lt (sw f c pos) n c := by
  have hcp : pos < c := hc ▸ par_lt hc0
  refine ⟨fun i h0 hn n1 n2 => ?_, fun _ i h0 hn hp => ?_⟩
  · have hpi := par_lt h0
    by_cases e : i = pos
    · subst e
      rw [sw_r, sw_o (by omega) (by omega)]
      exact h.2 h0 c hc0 hcn hc
    · by_cases e2 : par i = pos
      · rw [e2, sw_r, sw_o n1 e]
        exact hd i h0 hn e2 n1
      · rw [sw_o n1 e, sw_o n2 e2]
        exact h.1 i h0 hn e e2
  · have hpi := par_lt h0
    rw [hc, sw_r, sw_o (by omega) (by omega)]
    have := h.1 i h0 hn (by omega) (by omega)
    rw [hp] at this
    exact this
theorem HB.leaf {f : Nat → α} {n pos : Nat} (h : HB lt f n pos) (hl : n / 2 ≤ pos) : HU lt f n pos :=
  ⟨h, fun i h0 hn hp => by unfold par at hp; omega⟩
theorem HU.up {M : α → Prop} {f : Nat → α} {n pos : Nat} (O : Ord M lt) (hM : ∀ i, i < n → M (f i)) (h : HU lt f n pos) (hp0 : 0 < pos) (hpn : pos < n) (hl : lt (f pos) (f (par pos)) = true) : HU lt (sw f (par pos) pos) n (par pos) := by
  have hpp := par_lt hp0
  obtain ⟨⟨h1, h2⟩, h3⟩ := h
  refine ⟨⟨fun i h0 hn n1 n2 => ?_, fun hq i h0 hn hp => ?_⟩, fun i h0 hn hp => ?_⟩
  · have hpi := par_lt h0
    have e : i ≠ pos := fun z => n2 (by rw [z])
    by_cases e2 : par i = pos
    · rw [e2, sw_r, sw_o n1 e]
      exact h2 hp0 i h0 hn e2
    · rw [sw_o n1 e, sw_o n2 e2]
      exact h1 i h0 hn e e2
  · have hpq := par_lt hq
    rw [sw_o (k := par (par pos)) (by omega) (by omega)]
    have a1 := h1 (par pos) hq (by omega) (by omega) (by omega)
    by_cases e : i = pos
    · rw [e, sw_r]
      exact a1
    · have hpi := par_lt h0
      rw [sw_o (by omega) e]
      have a2 := h1 i h0 hn e (by omega)
      rw [hp] at a2
      exact O.ntrans _ _ _ (hM _ hn) (hM _ (by omega)) (hM _ (by omega)) a2 a1
  · rw [sw_l]
    by_cases e : i = pos
    · rw [e, sw_r]
      exact O.asym _ _ (hM _ hpn) (hM _ (by omega)) hl
    · have hpi := par_lt h0
      rw [sw_o (by omega) e]
      have a2 := h1 i h0 hn e (by omega)
      rw [hp] at a2
      cases z : lt (f i) (f pos) with
      | false => rfl
      | true =>
        have := O.trans _ _ _ (hM _ hn) (hM _ hpn) (hM _ (by omega)) z hl
        rw [this] at a2
        cases a2
theorem HU.fin {f : Nat → α} {n pos : Nat} (h : HU lt f n pos) (hl : pos = 0 ∨ lt (f pos) (f (par pos)) = false) : IsHp lt f n := fun i h0 hn => by
  by_cases e : i = pos
  · subst e
    rcases hl with z | z
    · omega
    · exact z
  · by_cases e2 : par i = pos
    · rw [e2]
      exact h.2 i h0 hn e2
    · exact h.1.1 i h0 hn e e2
theorem IsHp.push {f g : Nat → α} {n : Nat} (h : IsHp lt f n) (he : ∀ i, i < n → g i = f i) : HU lt g (n + 1) n := by
  refine ⟨⟨fun i h0 hn n1 n2 => ?_, fun hq i h0 hn hp => ?_⟩, fun i h0 hn hp => ?_⟩
  · have := par_lt h0
    rw [he i (by omega), he (par i) (by omega)]
    exact h i h0 (by omega)
  · have := par_lt h0
    omega
  · have := par_lt h0
    omega
theorem IsHp.pop {f g : Nat → α} {n m : Nat} (h : IsHp lt f n) (hm : m ≤ n) (he : ∀ i, 0 < i → i < m → g i = f i) : HB lt g m 0 := by
  refine ⟨fun i h0 hn n1 n2 => ?_, fun hq => absurd hq (Nat.lt_irrefl 0)⟩
  have := par_lt h0
  rw [he i h0 hn, he (par i) (by omega) (by omega)]
  exact h i h0 (by omega)
theorem IsHp.min {M : α → Prop} {f : Nat → α} {n : Nat} (O : Ord M lt) (hM : ∀ i, i < n → M (f i)) (h : IsHp lt f n) : ∀ i, 0 < i → i < n → lt (f i) (f 0) = false := by
  intro i
  induction i using Nat.strongRecOn with
  | _ i ih =>
    intro h0 hn
    have hp := par_lt h0
    have a := h i h0 hn
    by_cases e : par i = 0
    · rw [e] at a
      exact a
    · exact O.ntrans _ _ _ (hM _ hn) (hM _ (by omega)) (hM _ (by omega)) a (ih _ hp (by omega) (by omega))
end
end HQ

namespace HQ
open PySem PySem.W PySem.Calls PySem.SeqAt
open AutoSeq1 (wpAny_loadPart')
open MeetsSeq MeetsSeq2 MeetsSeq3 SeqRoads2
theorem entry_push : entryFor table "_heapq.heappush" = some Builtin.«_heapq.heappush» := entryFor_of_tree (by kernel_rfl)
theorem entry_pop : entryFor table "_heapq.heappop" = some Builtin.«_heapq.heappop» := entryFor_of_tree (by kernel_rfl)
theorem entry_sift : entryFor table "_heapq.heapify.sift" = some Builtin.«_heapq.heapify.sift» := entryFor_of_tree (by kernel_rfl)
theorem kind_push : builtinKind "_heapq.heappush" = none := by kernel_rfl
theorem kind_pop : builtinKind "_heapq.heappop" = none := by kernel_rfl
theorem plain_push : plainId "_heapq.heappush" = true := by decide +kernel
theorem plain_pop : plainId "_heapq.heappop" = true := by decide +kernel
theorem plain_sift : plainId "_heapq.heapify.sift" = true := by decide +kernel
theorem args_push (a b : Value) : argsOk "_heapq.heappush" ⟨[a, b], []⟩ := by unfold argsOk; kernel_rfl
theorem args_pop (a : Value) : argsOk "_heapq.heappop" ⟨[a], []⟩ := by unfold argsOk; kernel_rfl
def vat (ys : Array Value) (i : Nat) : Value := ys.getD i .none
theorem vat_get {ys : Array Value} {i : Nat} (h : i < ys.size) : ys[i]? = some (vat ys i) := by
  unfold vat
  simp [h]
theorem vat_mem {ys : Array Value} {i : Nat} (h : i < ys.size) : vat ys i ∈ ys := by
  unfold vat
  simp [h]
/-- two items change places -/
def swA (ys : Array Value) (i j : Nat) : Array Value := (ys.setIfInBounds i (vat ys j)).setIfInBounds j (vat ys i)
theorem swA_size {ys : Array Value} {i j : Nat} : (swA ys i j).size = ys.size := by simp [swA]
theorem swA_vat {ys : Array Value} {i j : Nat} (hi : i < ys.size) (hj : j < ys.size) : vat (swA ys i j) = sw (vat ys) i j := by
  funext k
  unfold swA sw
  unfold vat
  by_cases hk : k < ys.size
  · simp only [Array.getD_eq_getD_getElem?, Array.getElem?_setIfInBounds, Array.size_setIfInBounds]
    by_cases e1 : j = k
    · subst e1
      by_cases e2 : j = i
      · subst e2
        simp [hi]
      · simp [hi, hj, e2]
    · by_cases e2 : i = k
      · subst e2
        simp [hi, hj, e1]
      · simp [e1, e2, Ne.symm e1, Ne.symm e2]
  · simp only [Array.getD_eq_getD_getElem?, Array.getElem?_setIfInBounds, Array.size_setIfInBounds]
    have e1 : ¬ j = k := by omega
    have e2 : ¬ i = k := by omega
    simp [e1, e2, Ne.symm e1, Ne.symm e2]
theorem swA_perm {ys : Array Value} {i j : Nat} (hi : i < ys.size) (hj : j < ys.size) : (swA ys i j).toList.Perm ys.toList := by
  have e : swA ys i j = ys.swap i j hi hj := by
    unfold swA vat
    apply Array.ext_getElem?
    intro k
    rw [Array.getElem?_swap]
    simp only [Array.getElem?_setIfInBounds, Array.getD_eq_getD_getElem?, Array.size_setIfInBounds]
    by_cases e1 : j = k
    · subst e1
      simp [hi, hj]
    · by_cases e2 : i = k
      · subst e2
        simp [hi, hj, e1]
      · simp [e1, e2]
  rw [e]
  exact (Array.swap_perm hi hj).toList
theorem swA_mem {ys : Array Value} {i j : Nat} (hi : i < ys.size) (hj : j < ys.size) {x : Value} (hx : x ∈ swA ys i j) : x ∈ ys := Array.mem_toList_iff.mp ((swA_perm hi hj).mem_iff.mp (Array.mem_toList_iff.mpr hx))
theorem swA_line {ys : Array Value} {n i j : Nat} {x y : Value} (hz : ys.size ≤ sizeLine) : (Obj.mapSeq (fun xs => (xs.setIfInBounds i x).setIfInBounds j y) { cls := .type "list", data := .seq ys n }).data.pastItsLine = none :=
  pastItsLine_seq (by rw [Array.size_setIfInBounds, Array.size_setIfInBounds]; omega)
/-- a list's object and its comparisons, as they stay while the list is written -/
structure Lists (A : Around) (a : Addr) (lt : Value → Value → Bool) (M : Value → Prop) (J : Array Value → Shared → Prop) : Prop where
  at_ : ∀ ys s, J ys s → ∃ n, s.heap.get? a = some { cls := .type "list", data := .seq ys n }
  size : ∀ ys s, J ys s → ys.size ≤ sizeLine
  mem : ∀ ys s x, J ys s → x ∈ ys → M x
  wr : ∀ ys s (f : Array Value → Array Value), J ys s → (∀ x ∈ f ys, M x) → (f ys).size ≤ sizeLine → J (f ys) { s with heap := s.heap.update a (Obj.mapSeq f) }
  cmp : ∀ ys s x y, J ys s → M x → M y → RcLt A s x y (lt x y)
abbrev args (a : Addr) (down : Bool) (pos : Nat) (res : Value) : Args := ⟨[.ref a, .bool false, .bool down, rawInt pos, rawInt 0, res, rawInt (-1)], []⟩
abbrev After (prog : Program) (w : World) (A : Around) (R : Result → Shared → Prop) (t : Sem Fin) (s : Shared) : Prop :=
  wpAny (model prog w) A.in1 t (fun fin s' => match fin with | .done f => R (.ok f) s' | .again c' => c'.quiet = true ∧ codeAny (model prog w) A c' R s') (fun e s' => R (.error e) s') s
section
variable {prog : Program} {w : World} {A : Around} {a : Addr} {lt : Value → Value → Bool} {J : Array Value → Shared → Prop} {M : Value → Prop} {R : Result → Shared → Prop}
theorem up_ok (L : Lists A.in1 a lt M J) (O : Ord M lt) (res : Value) : ∀ (pos : Nat) (ys : Array Value) (s : Shared), J ys s → pos < ys.size → HU lt (vat ys) ys.size pos →
    (∀ zs s', J zs s' → zs.toList.Perm ys.toList → IsHp lt (vat zs) zs.size → R (.ok (.ret res)) s') → After prog w A R (Builtin.«_heapq.heapify.sift» (args a false pos res)) s := by
  intro pos
  induction pos using Nat.strongRecOn with
  | _ pos ih =>
    intro ys s hJ hp hU fin
    have hM := fun x hx => L.mem ys s x hJ hx
    obtain ⟨n, e⟩ := L.at_ _ _ hJ
    delta After
    have hz := L.size _ _ hJ
    wp_walk using wpAny_loadPart' e
    by_cases h0 : pos = 0
    · refine wpAny_ite_false (by subst h0; rfl) ?_
      wp_walk
      exact fin ys _ hJ (List.Perm.refl _) (hU.fin (.inl h0))
    · refine wpAny_ite_true (by show decide (((pos : Nat) : Int).toNat > (0 : Int).toNat) = true; exact decide_eq_true (by show 0 < pos; omega)) ?_
      have hpar : par pos < pos := par_lt (by omega)
      have hq : par pos < ys.size := by omega
      have g1 : ys[((pos : Nat) : Int).toNat]? = some (vat ys pos) := vat_get hp
      have g2 : ys[(((pos : Nat) : Int).toNat - 1) / 2]? = some (vat ys (par pos)) := vat_get hq
      wp_walk using wpAny_loadPart' e
      rw [g1]
      wp_walk using wpAny_loadPart' e
      rw [g2]
      have hc := fun E Q => L.cmp _ _ _ _ hJ (hM _ (vat_mem hp)) (hM _ (vat_mem hq)) prog w E Q
      wp_walk using wpAny_loadPart' e, hc
      cases hl : lt (vat ys pos) (vat ys (par pos)) with
      | false =>
        wp_walk using wpAny_loadPart' e
        exact fin ys _ hJ (List.Perm.refl _) (hU.fin (.inr hl))
      | true =>
        wp_walk using wpAny_loadPart' e
        rw [g2]
        wp_walk using wpAny_loadPart' e
        rw [g1]
        wp_walk using wpAny_loadPart' e
        rw [swA_line hz]
        have hJ2 := L.wr _ _ (fun xs => (xs.setIfInBounds ((((pos : Nat) : Int).toNat - 1) / 2) (vat ys pos)).setIfInBounds ((pos : Nat) : Int).toNat (vat ys (par pos))) hJ (fun x hx => hM x (swA_mem (i := par pos) (j := pos) hq hp hx)) (by rw [Array.size_setIfInBounds, Array.size_setIfInBounds]; exact hz)
        wp_walk
        refine ⟨plainId_quiet plain_sift _, codeAny_builtin entry_sift ?_⟩
        rw [Around.under_plainId plain_sift _]
        refine ih (par pos) hpar (swA ys (par pos) pos) _ hJ2 (by rw [swA_size]; exact hq) ?_ fun zs s' j p h => fin zs s' j (p.trans (swA_perm hq hp)) h
        rw [swA_size, swA_vat hq hp]
        exact hU.up O (fun i hi => hM _ (vat_mem hi)) (by omega) hp hl
theorem down_ok (L : Lists A.in1 a lt M J) (O : Ord M lt) (res : Value) : ∀ (k pos : Nat) (ys : Array Value) (s : Shared), k = ys.size - pos → J ys s → pos < ys.size → HB lt (vat ys) ys.size pos →
    (∀ zs s', J zs s' → zs.toList.Perm ys.toList → IsHp lt (vat zs) zs.size → R (.ok (.ret res)) s') → After prog w A R (Builtin.«_heapq.heapify.sift» (args a true pos res)) s := by
  intro k
  induction k using Nat.strongRecOn with
  | _ k ih =>
    intro pos ys s hk hJ hp hB fin
    have hM := fun x hx => L.mem ys s x hJ hx
    obtain ⟨n, e⟩ := L.at_ _ _ hJ
    delta After
    have hz := L.size _ _ hJ
    have toSw : ∀ c, par c = pos → 0 < c → c < ys.size → (∀ d, 0 < d → d < ys.size → par d = pos → d ≠ c → lt (vat ys d) (vat ys c) = false) → ∀ s', J (swA ys c pos) s' →
        After prog w A R (Builtin.«_heapq.heapify.sift» (args a true c res)) s' := fun c hc hc0 hcn hd s' hJ2 => by
      have hcp : pos < c := hc ▸ par_lt hc0
      refine ih (ys.size - c) (by omega) c (swA ys c pos) s' (by rw [swA_size]) hJ2 (by rw [swA_size]; exact hcn) ?_ fun zs s' j p h => fin zs s' j (p.trans (swA_perm hcn hp)) h
      rw [swA_size, swA_vat hcn hp]
      exact hB.down hc hc0 hcn hd
    wp_walk using wpAny_loadPart' e
    by_cases h0 : pos < ys.size / 2
    · refine wpAny_ite_true (by show decide (((pos : Nat) : Int).toNat < ys.size / 2) = true; exact decide_eq_true h0) ?_
      wp_walk using wpAny_loadPart' e
      have g0 : ys[((pos : Nat) : Int).toNat]? = some (vat ys pos) := vat_get hp
      have hl1 : 2 * pos + 1 < ys.size := by omega
      have g1 : ys[2 * ((pos : Nat) : Int).toNat + 1]? = some (vat ys (2 * pos + 1)) := vat_get hl1
      by_cases h2 : 2 * pos + 1 + 1 < ys.size
      · have g2 : ys[2 * ((pos : Nat) : Int).toNat + 1 + 1]? = some (vat ys (2 * pos + 1 + 1)) := vat_get h2
        refine wpAny_ite_true (by show decide (2 * ((pos : Nat) : Int).toNat + 1 + 1 < ys.size) = true; exact decide_eq_true h2) ?_
        wp_walk using wpAny_loadPart' e
        rw [g1]
        wp_walk using wpAny_loadPart' e
        rw [g2]
        have hc := fun E Q => L.cmp _ _ _ _ hJ (hM _ (vat_mem hl1)) (hM _ (vat_mem h2)) prog w E Q
        wp_walk using wpAny_loadPart' e, hc
        have m1 := hM _ (vat_mem hl1)
        have m2 := hM _ (vat_mem h2)
        cases hl : lt (vat ys (2 * pos + 1)) (vat ys (2 * pos + 1 + 1)) with
        | true =>
          wp_walk using wpAny_loadPart' e
          rw [g1]
          wp_walk using wpAny_loadPart' e
          rw [g0]
          wp_walk using wpAny_loadPart' e
          rw [swA_line hz]
          have hJ2 := L.wr _ _ (fun xs => (xs.setIfInBounds (2 * ((pos : Nat) : Int).toNat + 1) (vat ys pos)).setIfInBounds ((pos : Nat) : Int).toNat (vat ys (2 * pos + 1))) hJ (fun x hx => hM x (swA_mem (i := 2 * pos + 1) (j := pos) hl1 hp hx)) (by rw [Array.size_setIfInBounds, Array.size_setIfInBounds]; exact hz)
          wp_walk
          refine ⟨plainId_quiet plain_sift _, codeAny_builtin entry_sift ?_⟩
          rw [Around.under_plainId plain_sift _]
          refine toSw (2 * pos + 1) (by unfold par; omega) (by omega) hl1 (fun d d0 dn dp dc => by
                have e3 : d = 2 * pos + 1 + 1 := by (unfold par at dp; omega)
                rw [e3]
                exact O.asym _ _ m1 m2 hl) _ hJ2
        | false =>
          wp_walk using wpAny_loadPart' e
          rw [g2]
          wp_walk using wpAny_loadPart' e
          rw [g0]
          wp_walk using wpAny_loadPart' e
          rw [swA_line hz]
          have hJ2 := L.wr _ _ (fun xs => (xs.setIfInBounds (2 * ((pos : Nat) : Int).toNat + 1 + 1) (vat ys pos)).setIfInBounds ((pos : Nat) : Int).toNat (vat ys (2 * pos + 1 + 1))) hJ (fun x hx => hM x (swA_mem (i := 2 * pos + 1 + 1) (j := pos) h2 hp hx)) (by rw [Array.size_setIfInBounds, Array.size_setIfInBounds]; exact hz)
          wp_walk
          refine ⟨plainId_quiet plain_sift _, codeAny_builtin entry_sift ?_⟩
          rw [Around.under_plainId plain_sift _]
          refine toSw (2 * pos + 1 + 1) (by unfold par; omega) (by omega) h2 (fun d d0 dn dp dc => by
                have e3 : d = 2 * pos + 1 := by (unfold par at dp; omega)
                rw [e3]
                exact hl) _ hJ2
      · refine wpAny_ite_false (by show decide (2 * ((pos : Nat) : Int).toNat + 1 + 1 < ys.size) = false; exact decide_eq_false h2) ?_
        wp_walk using wpAny_loadPart' e
        rw [g1]
        wp_walk using wpAny_loadPart' e
        rw [g0]
        wp_walk using wpAny_loadPart' e
        rw [swA_line hz]
        have hJ2 := L.wr _ _ (fun xs => (xs.setIfInBounds (2 * ((pos : Nat) : Int).toNat + 1) (vat ys pos)).setIfInBounds ((pos : Nat) : Int).toNat (vat ys (2 * pos + 1))) hJ (fun x hx => hM x (swA_mem (i := 2 * pos + 1) (j := pos) hl1 hp hx)) (by rw [Array.size_setIfInBounds, Array.size_setIfInBounds]; exact hz)
        wp_walk
        refine ⟨plainId_quiet plain_sift _, codeAny_builtin entry_sift ?_⟩
        rw [Around.under_plainId plain_sift _]
        refine toSw (2 * pos + 1) (by unfold par; omega) (by omega) hl1 (fun d d0 dn dp dc => by unfold par at dp; omega) _ hJ2
    · refine wpAny_ite_false (by show decide (((pos : Nat) : Int).toNat < ys.size / 2) = false; exact decide_eq_false h0) ?_
      wp_walk using wpAny_loadPart' e
      refine ⟨plainId_quiet plain_sift _, codeAny_builtin entry_sift ?_⟩
      rw [Around.under_plainId plain_sift _]
      exact up_ok L O res pos ys s hJ hp (hB.leaf (by omega)) fin
end
end HQ
namespace HQ
open PySem PySem.W PySem.Calls PySem.SeqAt
open AutoSeq1 (wpAny_loadPart')
open MeetsSeq MeetsSeq2 MeetsSeq3 SeqRoads2
section
variable {prog : Program} {w : World} {A : Around} {a : Addr} {lt : Value → Value → Bool} {J : Array Value → Shared → Prop} {M : Value → Prop} {R : Result → Shared → Prop}
theorem vat_push {ys : Array Value} {v : Value} {i : Nat} (h : i < ys.size) : vat (ys.push v) i = vat ys i := by
  unfold vat
  simp [Array.getElem?_push, Nat.ne_of_lt h]
theorem seq_line {zs : Array Value} {n : Nat} (hz : zs.size ≤ sizeLine) : ({ cls := .type "list", data := .seq zs n } : Obj).data.pastItsLine = none := pastItsLine_seq (by omega)
theorem push_ok (L : Lists A.in1 a lt M J) (O : Ord M lt) {v : Value} {ys : Array Value} {s : Shared} (hJ : J ys s) (hv : M v) (hz : ys.size < sizeLine) (hh : IsHp lt (vat ys) ys.size)
    (fin : ∀ zs s', J zs s' → zs.toList.Perm (v :: ys.toList) → IsHp lt (vat zs) zs.size → R (.ok (.ret .none)) s') : After prog w A R (Builtin.«_heapq.heappush» ⟨[.ref a, v], []⟩) s := by
  obtain ⟨n, e⟩ := L.at_ _ _ hJ
  delta After
  have f3 := AutoSeq1.sub_list_list
  have hz1 : ys.size ≤ sizeLine := by omega
  have hJ2 := L.wr _ _ (fun xs => xs.push v) hJ (fun x hx => (Array.mem_push.mp hx).elim (fun q => L.mem _ _ _ hJ q) fun q => q ▸ hv) (by rw [Array.size_push]; omega)
  obtain ⟨n2, e2⟩ := L.at_ _ _ hJ2
  have hz2 := L.size _ _ hJ2
  wp_walk using wpAny_loadPart' e, wpAny_loadPart' e2
  rw [seq_line hz2]
  wp_walk using wpAny_loadPart' e2
  refine ⟨plainId_quiet plain_sift _, codeAny_builtin entry_sift ?_⟩
  rw [Around.under_plainId plain_sift _]
  have es : (ys.push v).size - 1 = ys.size := by rw [Array.size_push]; rfl
  rw [es]
  refine up_ok L O .none ys.size (ys.push v) _ hJ2 (by rw [Array.size_push]; omega) ?_ fun zs s' j p h => fin zs s' j (p.trans ?_) h
  · rw [Array.size_push]
    exact hh.push fun i hi => vat_push hi
  · rw [Array.toList_push]
    exact List.perm_append_singleton _ _
theorem vat_pop {ys : Array Value} {i : Nat} (h : i < ys.size - 1) : vat ys.pop i = vat ys i := by
  unfold vat
  have h2 : i < ys.size := by omega
  simp [Array.getElem?_pop, h, h2]
theorem pop_shape {ys : Array Value} (h : 2 ≤ ys.size) : ∃ x r y, ys = (x :: (r ++ [y])).toArray := by
  obtain ⟨l⟩ := ys
  match l, h with
  | x :: z :: r, _ => exact ⟨x, (z :: r).dropLast, (z :: r).getLast (by simp), by rw [List.dropLast_concat_getLast]⟩
theorem pop_swap {ys : Array Value} (h : 2 ≤ ys.size) : (vat ys 0 :: (ys.pop.setIfInBounds 0 (vat ys (ys.size - 1))).toList).Perm ys.toList := by
  obtain ⟨x, r, y, rfl⟩ := pop_shape h
  have e1 : vat (x :: (r ++ [y])).toArray 0 = x := rfl
  have e2 : vat (x :: (r ++ [y])).toArray ((x :: (r ++ [y])).toArray.size - 1) = y := by
    unfold vat
    simp
  rw [e1, e2]
  have e3 : ((x :: (r ++ [y])).toArray.pop.setIfInBounds 0 y).toList = y :: r := by
    rw [Array.toList_setIfInBounds, Array.toList_pop]
    show (x :: (r ++ [y])).dropLast.set 0 y = y :: r
    rw [← List.cons_append, List.dropLast_concat]
    rfl
  rw [e3]
  refine List.Perm.cons _ ?_
  exact (List.perm_append_singleton y r).symm
theorem pop_ok (L : Lists A.in1 a lt M J) (O : Ord M lt) {ys : Array Value} {s : Shared} (hJ : J ys s) (hz : 0 < ys.size) (hh : IsHp lt (vat ys) ys.size)
    (fin : ∀ v zs s', M v → J zs s' → (v :: zs.toList).Perm ys.toList → IsHp lt (vat zs) zs.size → (∀ x ∈ zs, lt x v = false) → R (.ok (.ret v)) s') : After prog w A R (Builtin.«_heapq.heappop» ⟨[.ref a], []⟩) s := by
  obtain ⟨n, e⟩ := L.at_ _ _ hJ
  delta After
  have f3 := AutoSeq1.sub_list_list
  have hz1 := L.size _ _ hJ
  have hM := fun x hx => L.mem ys s x hJ hx
  have pm : ∀ x ∈ ys.pop, x ∈ ys := fun x hx => by
    have := Array.mem_toList_iff.mpr hx
    rw [Array.toList_pop] at this
    exact Array.mem_toList_iff.mp (List.dropLast_subset _ this)
  have hJ2 := L.wr _ _ (fun xs => xs.pop) hJ (fun x hx => hM x (pm x hx)) (by rw [Array.size_pop]; omega)
  obtain ⟨n2, e2⟩ := L.at_ _ _ hJ2
  have hz2 := L.size _ _ hJ2
  have eb : ys.back? = some (vat ys (ys.size - 1)) := by
    rw [Array.back?_eq_getElem?]
    exact vat_get (by omega)
  wp_walk using wpAny_loadPart' e, wpAny_loadPart' e2
  rw [eb]
  wp_walk using wpAny_loadPart' e, wpAny_loadPart' e2
  rw [seq_line hz2]
  wp_walk using wpAny_loadPart' e2
  by_cases h1 : ys.size = 1
  · refine wpAny_ite_true (decide_eq_true (by rw [h1]; rfl)) ?_
    wp_walk
    have ep : ys.pop.size = 0 := by rw [Array.size_pop, h1]
    have ep2 : ys.pop = #[] := Array.eq_empty_of_size_eq_zero ep
    refine fin (vat ys (ys.size - 1)) ys.pop _ (hM _ (vat_mem (by omega))) hJ2 ?_ (fun i h0 hi => by rw [ep] at hi; omega) (fun x hx => by rw [ep2] at hx; exact absurd hx (Array.not_mem_empty x))
    obtain ⟨l⟩ := ys
    match l, h1 with
    | [x], _ => exact List.Perm.refl _
  · refine wpAny_ite_false (decide_eq_false (by rw [beq_eq_false_iff_ne.mpr h1]; exact Bool.false_ne_true)) ?_
    have g0 : ys[0]? = some (vat ys 0) := vat_get hz
    have h2 : 2 ≤ ys.size := by omega
    have hsub : ∀ x ∈ ys.pop.setIfInBounds 0 (vat ys (ys.size - 1)), x ∈ ys := fun x hx => Array.mem_toList_iff.mp ((pop_swap h2).mem_iff.mp (List.mem_cons_of_mem _ (Array.mem_toList_iff.mpr hx)))
    have hJ3 := L.wr _ _ (fun xs => xs.setIfInBounds 0 (vat ys (ys.size - 1))) hJ2 (fun x hx => hM x (hsub x hx)) (by rw [Array.size_setIfInBounds]; exact hz2)
    obtain ⟨n3, e3⟩ := L.at_ _ _ hJ3
    have hz3 := L.size _ _ hJ3
    wp_walk using wpAny_loadPart' e2
    rw [g0]
    wp_walk using wpAny_loadPart' e2, wpAny_loadPart' e3
    rw [seq_line hz3]
    wp_walk using wpAny_loadPart' e3
    refine ⟨plainId_quiet plain_sift _, codeAny_builtin entry_sift ?_⟩
    rw [Around.under_plainId plain_sift _]
    have es : (ys.pop.setIfInBounds 0 (vat ys (ys.size - 1))).size = ys.size - 1 := by rw [Array.size_setIfInBounds, Array.size_pop]
    refine down_ok L O (vat ys 0) _ 0 _ _ rfl hJ3 (by rw [es]; omega) ?_ fun zs s' j p h => ?_
    · rw [es]
      refine hh.pop (m := ys.size - 1) (by omega) fun i h0 hi => ?_
      rw [← vat_pop hi]
      unfold vat
      simp only [Array.getD_eq_getD_getElem?, Array.getElem?_setIfInBounds]
      rw [if_neg (by omega)]
    · have pz : (vat ys 0 :: zs.toList).Perm ys.toList := (p.cons _).trans (pop_swap h2)
      refine fin (vat ys 0) zs s' (hM _ (vat_mem hz)) j pz h fun x hx => ?_
      have hx2 : x ∈ ys := Array.mem_toList_iff.mp (pz.mem_iff.mp (List.mem_cons_of_mem _ (Array.mem_toList_iff.mpr hx)))
      obtain ⟨i, hi, ei⟩ := Array.mem_iff_getElem.mp hx2
      have ev : vat ys i = x := by
        unfold vat
        simp [hi, ei]
      rw [← ev]
      by_cases h0 : i = 0
      · subst h0
        cases z : lt (vat ys 0) (vat ys 0) with
        | false => rfl
        | true => exact z.symm.trans (O.asym _ _ (hM _ (vat_mem hz)) (hM _ (vat_mem hz)) z)
      · exact hh.min O (fun i hi => hM _ (vat_mem hi)) i (by omega) hi
end
end HQ
/-! ### heappush, heappop over the layer -/
namespace HQ
open PySem PySem.Spec PyProof.Rows L2
def kLt (a b : PyData) : Bool := PySem.W.dataLt a b
theorem ord_keys (κ : Addr → PyData) (M : Value → Prop) (hM : ∀ x, M x → ∃ t, x = .ref t) : Ord M (fun x y => match x, y with | .ref t, .ref u => PySem.W.dataLt (κ t) (κ u) | _, _ => false) := by
  refine ⟨fun x y hx hy h => ?_, fun x y z hx hy hz h1 h2 => ?_, fun x y z hx hy hz h1 h2 => ?_⟩
  · obtain ⟨t, rfl⟩ := hM x hx
    obtain ⟨u, rfl⟩ := hM y hy
    have h' : PySem.W.dataLt (κ t) (κ u) = true := h
    show PySem.W.dataLt (κ u) (κ t) = false
    cases q : PySem.W.dataLt (κ u) (κ t) with
    | false => rfl
    | true =>
      have := PyProof.Rows.lex_trans _ _ _ h' q
      rw [PyProof.Rows.lex_irrefl] at this
      cases this
  · obtain ⟨t, rfl⟩ := hM x hx
    obtain ⟨u, rfl⟩ := hM y hy
    obtain ⟨v, rfl⟩ := hM z hz
    exact PyProof.Rows.lex_trans _ _ _ h1 h2
  · obtain ⟨t, rfl⟩ := hM x hx
    obtain ⟨u, rfl⟩ := hM y hy
    obtain ⟨v, rfl⟩ := hM z hz
    show PySem.W.dataLt (κ t) (κ v) = false
    cases q : PySem.W.dataLt (κ t) (κ v) with
    | false => rfl
    | true =>
      have h1' : PySem.W.dataLt (κ t) (κ u) = false := h1
      have h2' : PySem.W.dataLt (κ u) (κ v) = false := h2
      rcases PyProof.Rows.lex_negTrans _ (PySem.W.keyToks (κ u)) _ q with z | z
      · rw [show PySem.W.dataLt (κ t) (κ u) = true from z] at h1'
        cases h1'
      · rw [show PySem.W.dataLt (κ u) (κ v) = true from z] at h2'
        cases h2'
/-- a queue: each item is not less than the one above it -/
def Queue (κ : Addr → PyData) (ts : List Addr) : Prop := IsHp (fun t u => PySem.W.dataLt (κ t) (κ u)) (fun i => ts.getD i 0) ts.length
/-- the items read as data that can be compared, whatever the list at l holds -/
def Keyed (K : PySem.W.Frag) (H : Hp) (l : Addr) (κ : Addr → PyData) (ts : List Addr) : Prop :=
  (∀ t ∈ ts, (∀ o, Dp K (upd H l o) (.ref t) (κ t)) ∧ κ t ≠ .none ∧ (κ t).depth ≤ 8) ∧ ∀ t ∈ ts, ∀ u ∈ ts, PySem.W.alike (κ t) (κ u) = true
theorem Keyed.sub {K : PySem.W.Frag} {H : Hp} {l : Addr} {κ : Addr → PyData} {ts us : List Addr} (h : Keyed K H l κ ts) (s : ∀ u ∈ us, u ∈ ts) : Keyed K H l κ us :=
  ⟨fun t ht => h.1 t (s t ht), fun t ht u hu => h.2 t (s t ht) u (s u hu)⟩
section
variable {X : Cx} {pins : List (Addr × Obj)} {σ : L2.St} {H : Hp} {l : Addr} {κ : Addr → PyData} {ps : List Addr}
def vlt (κ : Addr → PyData) : Value → Value → Bool := fun x y => match x, y with | .ref t, .ref u => PySem.W.dataLt (κ t) (κ u) | _, _ => false
def JJ (X : Cx) (pins : List (Addr × Obj)) (σ : L2.St) (H : Hp) (l : Addr) (ps : List Addr) (ys : Array Value) (s : Shared) : Prop :=
  ∃ us : List Addr, ys.toList = us.map Value.ref ∧ (∀ u ∈ us, u ∈ ps) ∧ Inv X pins σ (upd H l (.lst (us.map V.ref))) s
theorem refs_of : ∀ {us : List Addr} {its : List Value}, Vals (us.map V.ref) its → its = us.map Value.ref
  | [], _, h => by cases h; rfl
  | u :: us, _, h => by
    cases h with
    | cons r t =>
      have r' : _ = Value.ref u := r
      rw [r', refs_of t]
      rfl
theorem refs_vals : ∀ us : List Addr, Vals (us.map V.ref) (us.map Value.ref)
  | [] => .nil
  | u :: us => .cons rfl (refs_vals us)
theorem jj_at {ys : Array Value} {s : Shared} (h : JJ X pins σ H l ps ys s) : ys.size ≤ sizeLine ∧ ∃ n, s.heap.get? l = some { cls := .type "list", data := .seq ys n } := by
  obtain ⟨us, e, _, I⟩ := h
  obtain ⟨z, its, n, r, hl, g⟩ := I.lstM upd_same
  have ei := refs_of r
  have ey : its.toArray = ys := by rw [ei, ← e]
  rw [ey] at g
  refine ⟨?_, n, g⟩
  rw [← ey, List.size_toArray, ← hl]
  exact z
theorem refs_all : ∀ {l : List Value} {ps : List Addr}, (∀ x ∈ l, ∃ t, t ∈ ps ∧ x = .ref t) → ∃ us : List Addr, l = us.map Value.ref ∧ ∀ u ∈ us, u ∈ ps
  | [], _, _ => ⟨[], rfl, fun _ h => nomatch h⟩
  | x :: l, ps, h => by
    obtain ⟨t, ht, e⟩ := h x List.mem_cons_self
    obtain ⟨us, e2, h2⟩ := refs_all fun y hy => h y (List.mem_cons_of_mem _ hy)
    exact ⟨t :: us, by rw [e, e2]; rfl, fun u hu => (List.mem_cons.mp hu).elim (fun z => z ▸ ht) (h2 u)⟩
theorem lists_jj (hu : X.A.units + 64 < cLine) (hk : Keyed X.K H l κ ps) : Lists X.A.in1 l (vlt κ) (fun x => ∃ t, t ∈ ps ∧ x = .ref t) (JJ X pins σ H l ps) := by
  refine ⟨fun ys s h => (jj_at h).2, fun ys s h => (jj_at h).1, fun ys s x h hx => ?_, fun ys s f h hm hz => ?_, fun ys s x y h hx hy => ?_⟩
  · obtain ⟨us, e, hs, _⟩ := h
    have := Array.mem_toList_iff.mpr hx
    rw [e] at this
    obtain ⟨t, ht, e2⟩ := List.mem_map.mp this
    exact ⟨t, hs t ht, e2.symm⟩
  · obtain ⟨n, e⟩ := (jj_at h).2
    obtain ⟨us, e1, hs, I⟩ := h
    obtain ⟨vs, e2, hs2⟩ := refs_all fun x hx => hm x (Array.mem_toList_iff.mp hx)
    refine ⟨vs, e2, hs2, ?_⟩
    have ey : ys = (us.map Value.ref).toArray := by rw [← e1]
    rw [ey] at e
    have ef : f (us.map Value.ref).toArray = (vs.map Value.ref).toArray := by rw [← e2, ← ey]
    have q := I.lset (ys := vs.map V.ref) (t' := s.toks) (f := f) upd_same e ef (refs_vals vs) (by
      rw [List.length_map]
      have : (f ys).size = vs.length := by rw [← Array.length_toList, e2, List.length_map]
      omega)
    rw [upd_upd] at q
    exact q
  · obtain ⟨t, ht, rfl⟩ := hx
    obtain ⟨u, hu2, rfl⟩ := hy
    obtain ⟨us, e1, hs, I⟩ := h
    obtain ⟨k1, k2⟩ := hk
    obtain ⟨d1, n1, p1⟩ := k1 t ht
    obtain ⟨d2, _, _⟩ := k1 u hu2
    obtain ⟨as, r1⟩ := Dp.reads I _ _ (.ref t) (d1 _) rfl
    obtain ⟨bs, r2⟩ := Dp.reads I _ _ (.ref u) (d2 _) rfl
    refine PySem.W.rcLt_alike _ _ X.A.in1 s _ _ as bs r1 r2 (k2 t ht u hu2) n1 ?_
    have : min (κ t).depth (κ u).depth ≤ (κ t).depth := Nat.min_le_left _ _
    rw [Around.in1_units]
    omega
theorem queue_vat {ys : Array Value} {us : List Addr} (e : ys.toList = us.map Value.ref) : IsHp (vlt κ) (vat ys) ys.size ↔ Queue κ us := by
  have hz : ys.size = us.length := by rw [← Array.length_toList, e, List.length_map]
  have hv : ∀ i, i < us.length → vat ys i = .ref (us.getD i 0) := fun i hi => by
    have h1 := vat_get (ys := ys) (i := i) (by omega)
    have h2 : ys[i]? = (us.map Value.ref)[i]? := by rw [← e, Array.getElem?_toList]
    rw [h2, List.getElem?_map, List.getElem?_eq_getElem hi] at h1
    have h3 := (Option.some.inj h1).symm
    rw [h3, List.getD_eq_getElem?_getD, List.getElem?_eq_getElem hi]
    rfl
  unfold Queue IsHp
  rw [hz]
  constructor
  · intro h i h0 hi
    have q := h i h0 hi
    rw [hv i hi, hv (par i) (Nat.lt_trans (par_lt h0) hi)] at q
    exact q
  · intro h i h0 hi
    rw [hv i hi, hv (par i) (Nat.lt_trans (par_lt h0) hi)]
    exact h i h0 hi
theorem jj_start {ts : List Addr} {s : Shared} (I : Inv X pins σ H s) (h : H l = some (.lst (ts.map V.ref))) (hs : ∀ t ∈ ts, t ∈ ps) : JJ X pins σ H l ps (ts.map Value.ref).toArray s := by
  refine ⟨ts, rfl, hs, ?_⟩
  have e : upd H l (.lst (ts.map V.ref)) = H := by
    funext b
    unfold upd
    by_cases hb : b = l
    · rw [if_pos hb, hb, h]
    · rw [if_neg hb]
  rw [e]
  exact I
theorem perm_refs {us : List Addr} {vs : List Value} (p : vs.Perm (us.map Value.ref)) {ws : List Addr} (e : vs = ws.map Value.ref) : ws.Perm us := by
  rw [e] at p
  have q := p.map (fun v => match v with | .ref t => t | _ => 0)
  rw [List.map_map, List.map_map] at q
  have i1 : ∀ l : List Addr, l.map ((fun v => match v with | .ref t => t | _ => 0) ∘ Value.ref) = l := fun l => by
    conv => rhs; rw [← List.map_id l]
    rfl
  rw [i1, i1] at q
  exact q
def rPush (K : PySem.W.Frag) : List V → Hp → VK → Prop := fun vs H Q => ∃ (l T : Addr) (ts : List Addr) (κ : Addr → PyData), vs = [.ref l, .ref T] ∧ H l = some (.lst (ts.map V.ref)) ∧ ts.length < sizeLine ∧ Keyed K H l κ (T :: ts) ∧ Queue κ ts ∧
  ∀ us, us.Perm (T :: ts) → Queue κ us → Q .non (upd H l (.lst (us.map V.ref)))
def rPop (K : PySem.W.Frag) : List V → Hp → VK → Prop := fun vs H Q => ∃ (l : Addr) (ts : List Addr) (κ : Addr → PyData), vs = [.ref l] ∧ H l = some (.lst (ts.map V.ref)) ∧ 0 < ts.length ∧ Keyed K H l κ ts ∧ Queue κ ts ∧
  ∀ t us, (t :: us).Perm ts → Queue κ us → (∀ u ∈ us, PySem.W.dataLt (κ u) (κ t) = false) → Q (.ref t) (upd H l (.lst (us.map V.ref)))
def specPush (l : Addr) (v : Value) : _root_.PySem.Spec := fun A R s => ∃ lt M J ys, Lists A.in1 l lt M J ∧ Ord M lt ∧ J ys s ∧ M v ∧ ys.size < sizeLine ∧ IsHp lt (vat ys) ys.size ∧
  ∀ zs s', J zs s' → zs.toList.Perm (v :: ys.toList) → IsHp lt (vat zs) zs.size → R (.ok (.ret .none)) s'
def specPop (l : Addr) : _root_.PySem.Spec := fun A R s => ∃ lt M J ys, Lists A.in1 l lt M J ∧ Ord M lt ∧ J ys s ∧ 0 < ys.size ∧ IsHp lt (vat ys) ys.size ∧
  ∀ v zs s', M v → J zs s' → (v :: zs.toList).Perm ys.toList → IsHp lt (vat zs) zs.size → (∀ x ∈ zs, lt x v = false) → R (.ok (.ret v)) s'
theorem meets_push (l : Addr) (v : Value) : Meets (Builtin.«_heapq.heappush» ⟨[.ref l, v], []⟩) (specPush l v) := fun prog w A R s h => by
  obtain ⟨lt, M, J, ys, L, O, hJ, hv, hz, hh, fin⟩ := h
  exact push_ok L O hJ hv hz hh fin
theorem meets_pop (l : Addr) : Meets (Builtin.«_heapq.heappop» ⟨[.ref l], []⟩) (specPop l) := fun prog w A R s h => by
  obtain ⟨lt, M, J, ys, L, O, hJ, hz, hh, fin⟩ := h
  exact pop_ok L O hJ hz hh fin
theorem cr_push (hu : X.A.units + 64 < cLine) : CallR X (.builtin "_heapq.heappush") (rPush X.K) := by
  intro pins s σ H vs us Q I r h
  obtain ⟨l, T, ts, κ, rfl, hl, hz, hk, hq, q⟩ := h
  obtain ⟨u1, u2, rfl, r1, r2⟩ := r.two
  have e1 : u1 = .ref l := r1
  have e2 : u2 = .ref T := r2
  subst e1 e2
  have hJ : JJ X pins σ H l (T :: ts) (ts.map Value.ref).toArray s := jj_start I hl fun t ht => List.mem_cons_of_mem _ ht
  refine call_function_meets kind_push plain_push entry_push (args_push _ _) (meets_push l (.ref T)) ⟨vlt κ, fun x => ∃ t, t ∈ T :: ts ∧ x = .ref t, JJ X pins σ H l (T :: ts), (ts.map Value.ref).toArray, lists_jj hu hk, ord_keys κ _ fun x hx => ?_, hJ, ⟨T, List.mem_cons_self, rfl⟩, ?_, (queue_vat rfl).mpr hq, fun zs s' j p hh => ?_⟩
  · obtain ⟨t, _, e⟩ := hx
    exact ⟨t, e⟩
  · rw [List.size_toArray, List.length_map]
    exact hz
  · obtain ⟨ws, e, hs, I'⟩ := j
    have p2 : zs.toList.Perm ((T :: ts).map Value.ref) := p
    exact ⟨.non, _, I', rfl, q ws (perm_refs p2 e) ((queue_vat e).mp hh)⟩
theorem cr_pop (hu : X.A.units + 64 < cLine) : CallR X (.builtin "_heapq.heappop") (rPop X.K) := by
  intro pins s σ H vs us Q I r h
  obtain ⟨l, ts, κ, rfl, hl, hz, hk, hq, q⟩ := h
  obtain ⟨u1, rfl, r1⟩ := r.one
  have e1 : u1 = .ref l := r1
  subst e1
  have hJ : JJ X pins σ H l ts (ts.map Value.ref).toArray s := jj_start I hl fun t ht => ht
  refine call_function_meets kind_pop plain_pop entry_pop (args_pop _) (meets_pop l) ⟨vlt κ, fun x => ∃ t, t ∈ ts ∧ x = .ref t, JJ X pins σ H l ts, (ts.map Value.ref).toArray, lists_jj hu hk, ord_keys κ _ fun x hx => ?_, hJ, ?_, (queue_vat rfl).mpr hq, fun v zs s' hv j p hh hm => ?_⟩
  · obtain ⟨t, _, e⟩ := hx
    exact ⟨t, e⟩
  · rw [List.size_toArray, List.length_map]
    exact hz
  · obtain ⟨t, ht, rfl⟩ := hv
    obtain ⟨ws, e, hs, I'⟩ := j
    have p2 : (Value.ref t :: zs.toList).Perm (ts.map Value.ref) := p
    have p3 := perm_refs p2 (ws := t :: ws) (by rw [e]; rfl)
    refine ⟨.ref t, _, I', rfl, q t ws p3 ((queue_vat e).mp hh) fun u hu2 => ?_⟩
    exact hm (.ref u) (Array.mem_toList_iff.mp (by rw [e]; exact List.mem_map.mpr ⟨u, hu2, rfl⟩))
end
end HQ
namespace Ow
open PySem PySem.Spec PyProof.Rows L2
open SX (S S_len S_cat S_inj S_tl join_S S_beq map_S_tl)
def top (i : Nat) : Stmt := PySem.Challenge.pw_onereading_k11_wait_and_late.main.body.getD i (.Pass ⟨0, 0, 0, 0⟩)
abbrev sIsWord : Stmt := top 16
abbrev sChecked : Stmt := top 17
abbrev s_left_of : Stmt := top 18
abbrev s_shared : Stmt := top 19
abbrev s_stepped : Stmt := top 21
abbrev s_meetings : Stmt := top 22
abbrev s__first_meetings : Stmt := top 23
abbrev s__further_meetings : Stmt := top 24
abbrev s_heights : Stmt := top 26
abbrev s_wait : Stmt := top 27
abbrev s_late : Stmt := top 28
abbrev s__settled : Stmt := top 29
abbrev s__all_settled : Stmt := top 30
abbrev s__highest : Stmt := top 31
abbrev s__by_word : Stmt := top 32
abbrev s__latest : Stmt := top 33
abbrev sAt : Stmt := top 35
abbrev sMixed : Stmt := top 36
abbrev sWhole : Stmt := top 37
abbrev sSigns : Stmt := top 38
abbrev sWord : Stmt := top 39
abbrev sAny : Stmt := top 40
abbrev sMore : Stmt := top 41
abbrev sChain : Stmt := top 42
abbrev sWords : Stmt := top 43
abbrev s__law_words_of : Stmt := top 44
abbrev s__law_is_row : Stmt := top 45
abbrev s__law_shared : Stmt := top 46
abbrev s__law_due : Stmt := top 47
abbrev s__law_late : Stmt := top 48
abbrev s__law_late_good : Stmt := top 49
abbrev sLaw : Stmt := top 50
abbrev aWord : Str × Option Str := ("is_word", none)
def kitB (K : PySem.W.Frag) (x : Str) (b0 b1 b2 b3 b4 b5 b6 b7 b8 : Bool) : Bool :=
  decide (PySem.W.findIn K (.ref (He.ga K x)) "__getattribute__" = some (some (.builtin "BaseException.__getattribute__"))) && (decide (PySem.W.findIn K (.ref (He.ga K x)) "__getattr__" = some none) &&
  (decide (PySem.W.subIn K (.ref (He.ga K x)) (.type "BaseException") = some true) && (PySem.W.hasDictIn K (He.ga K x) && (decide (PySem.W.findIn K (.ref (He.ga K x)) "__class__" = some (some (.builtin "object.__class__"))) &&
  (decide (PySem.W.specialIn K (.builtin "object.__class__") "__get__" = some (some (.builtin "getset_descriptor.__get__"))) && (decide (PySem.W.takesIn K (.builtin "object.__class__") = some true) && (decide (PySem.W.mroIn K (He.ga K x) (.type "object") = some true) &&
  (decide (PySem.W.kitOne K (.ref (He.ga K x)) (.type "ValueError") = some true) && (decide (PySem.W.kitOne K (.ref (He.ga K x)) (.ref (He.ga K "BadCode")) = some b0) && (decide (PySem.W.kitOne K (.ref (He.ga K x)) (.ref (He.ga K "Full")) = some b1) &&
  (decide (PySem.W.kitOne K (.ref (He.ga K x)) (.ref (He.ga K "BadWord")) = some b2) && (decide (PySem.W.kitOne K (.ref (He.ga K x)) (.ref (He.ga K "Twice")) = some b3) && (decide (PySem.W.kitOne K (.ref (He.ga K x)) (.ref (He.ga K "NotThere")) = some b4) &&
  (decide (PySem.W.kitOne K (.ref (He.ga K x)) (.ref (He.ga K "NoNumber")) = some b5) && (decide (PySem.W.kitOne K (.ref (He.ga K x)) (.ref (He.ga K "NoWait")) = some b6) && (decide (PySem.W.kitOne K (.ref (He.ga K x)) (.ref (He.ga K "BadSign")) = some b7) &&
  decide (PySem.W.kitOne K (.ref (He.ga K x)) (.ref (He.ga K "NoReading")) = some b8)))))))))))))))))
def exB (K : PySem.W.Frag) : Bool := kitB K "NoWait" false false false false false false true false false && decide (PySem.W.exmOne K (.ref (He.ga K "NoWait")) (.ref (He.ga K "CodeError")) = some true)
namespace Hd
def dd (x : Str) (i : Nat) : He.DefD := ⟨(x, none), x, x, defArgs (top i), defBody (top i), defScope (top i), [], []⟩
def fn : List He.DefD := [dd "is_word" 16, dd "checked" 17, dd "left_of" 18, dd "shared" 19, dd "stepped" 21, dd "meetings" 22, dd "_first_meetings" 23, dd "_further_meetings" 24, dd "heights" 26, dd "wait" 27, dd "late" 28, dd "_settled" 29, dd "_all_settled" 30, dd "_highest" 31, dd "_by_word" 32, dd "_latest" 33, dd "_law_at" 35, dd "_law_mixed" 36, dd "_law_whole" 37, dd "_law_signs" 38, dd "_law_word" 39, dd "_law_any_word" 40, dd "_law_more" 41, dd "_law_chain" 42, dd "_law_words" 43, dd "_law_words_of" 44, dd "_law_is_row" 45, dd "_law_shared" 46, dd "_law_due" 47, dd "_law_late" 48, dd "_law_late_good" 49, dd "law" 50]
def fa : List He.Fa := ([.glo "law", .int "MOST_SIGNS" 10, .int "MOST_WORDS" 12, .glo "is_word", .glo "checked", .glo "left_of", .glo "shared", .glo "stepped", .glo "meetings", .glo "_first_meetings", .glo "_further_meetings", .glo "heights", .glo "wait", .glo "late", .glo "_settled", .glo "_all_settled", .glo "_highest", .glo "_by_word", .glo "_latest", .glo "_law_at", .glo "_law_mixed", .glo "_law_whole", .glo "_law_signs", .glo "_law_word", .glo "_law_any_word", .glo "_law_more", .glo "_law_chain", .glo "_law_words", .glo "_law_words_of", .glo "_law_is_row"] : List He.Fa) ++ ([.glo "_law_shared", .glo "_law_due", .glo "_law_late", .glo "_law_late_good", .free "type", .free "str", .free "len", .free "all", .free "list", .free "sorted", .free "range", .free "reversed", .free "sum", .free "isinstance", .free "int", .free "bool", .free "any", .free "max", .free "dict", .free "tuple", .free "min", .free "ValueError", .free "enumerate", .free "zip", .glo "CodeError", .glo "BadCode", .glo "Full", .glo "BadWord", .glo "Twice", .glo "NotThere"] : List He.Fa) ++ ([.glo "NoNumber", .glo "NoWait", .glo "BadSign", .glo "NoReading", .exc "CodeError", .exc "BadCode", .exc "Full", .exc "BadWord", .exc "Twice", .exc "NotThere", .exc "NoNumber", .exc "NoWait", .exc "BadSign", .exc "NoReading"] : List He.Fa)
def loose : List Str := (["heappush", "heappop", "combinations", "CodeError", "BadCode", "Full", "BadWord", "Twice", "NotThere", "NoNumber", "NoWait", "BadSign", "NoReading", "MOST_SIGNS", "MOST_WORDS", "is_word", "checked", "left_of", "shared", "stepped", "meetings", "_first_meetings", "_further_meetings", "heights", "wait", "late", "_settled", "_all_settled", "_highest", "_by_word"] : List Str) ++ (["_latest", "_law_at", "_law_mixed", "_law_whole", "_law_signs", "_law_word", "_law_any_word", "_law_more", "_law_chain", "_law_words", "_law_words_of", "_law_is_row", "_law_shared", "_law_due", "_law_late", "_law_late_good"] : List Str)
abbrev R : PySem.W.OpenRow := PySem.W.OpenLaw.row PySem.Challenge.rw_onereading_k11_wait_and_late
def exI (K : PySem.W.Frag) : Bool := He.eqO (PySem.W.nsIn K mainGlobals "heappush") (some (some (.builtin "_heapq.heappush"))) && (He.eqO (PySem.W.nsIn K mainGlobals "heappop") (some (some (.builtin "_heapq.heappop"))) && (He.eqO (PySem.W.nsIn K mainGlobals "combinations") (some (some (.type "itertools.combinations"))) && (true)))
def ex : PySem.W.Frag → Bool := fun K => exI K && exB K
abbrev tf : List He.Defn := [aWord]
abbrev hk : PySem.W.Hook := He.hookX 4 fa fn [] tf ex
def ob (s : PySem.W.SharedT) : He.AlX := He.obsX 4 fa fn [] tf ex (HandSHeadRun.getT s)
theorem ob_eq (s : PySem.W.SharedT) : ob s = hk.obs s.abs := He.obsX_eq (HandSHeadRun.getT_eq s)
set_option maxHeartbeats 0 in
theorem run (w : World) : HandSHeadRun.RunImp R (PySem.W.view R.prog [50]) hk ob 3000 20000 loose w := by
  unfold HandSHeadRun.RunImp
  kernel_rfl
end Hd
/-! ### itertools.combinations of a list, by pairs -/
theorem mro_cmb : mroOf (.type "itertools.combinations") = pure [.type "itertools.combinations", .type "object"] := by rw [mroOf_type]; kernel_rfl
theorem lookup_cmb_new : typeLookup (.type "itertools.combinations") "__new__" = pure (some (.builtin "itertools.combinations.__new__")) := by rw [typeLookup_type, builtinLookup_eq_fast]; kernel_rfl
theorem slot_cmb_init : Slot "itertools.combinations" "__init__" "object.__init__" :=
  .of (owner := "object") (n := "__init__") (by rw [typeLookup_type, builtinLookup_eq_fast]; kernel_rfl) (by decide +kernel) (by decide +kernel) (by decide +kernel)
    (by first | exact .inl (by decide +kernel) | exact .inr (by decide +kernel)) (by rw [isSubtype_type]; kernel_rfl)
theorem sub_cmb : isSubtype (.type "itertools.combinations") (.type "itertools.combinations") = pure true := by rw [isSubtype_type]; kernel_rfl
theorem called_cmb : TypeCalled "itertools.combinations" "itertools.combinations.__new__" "object.__init__" :=
  ⟨by decide +kernel, by decide +kernel, ⟨_, _, mro_cmb⟩, madeBy_type mro_cmb lookup_cmb_new (by decide +kernel), by decide +kernel, sub_cmb, slot_cmb_init⟩
theorem typeCall_cmb_2 (a b : Value) : checkTypeCall "itertools.combinations" ⟨[a, b], []⟩ = pure () := by kernel_rfl
theorem newCall_cmb_2 (a b : Value) : checkBuiltinCall "itertools.combinations.__new__" ⟨[.type "itertools.combinations", a, b], []⟩ = pure () := by kernel_rfl
theorem entry_cmb_new : entryFor table "itertools.combinations.__new__" = some Builtin.«itertools.combinations.__new__» := entryFor_of_tree (by kernel_rfl)
theorem slot_cmb_iter : Slot "itertools.combinations" "__iter__" "itertools.combinations.__iter__" :=
  .of (owner := "itertools.combinations") (n := "__iter__") (by rw [typeLookup_type, builtinLookup_eq_fast]; kernel_rfl) (by decide +kernel) (by decide +kernel) (by decide +kernel)
    (by first | exact .inl (by decide +kernel) | exact .inr (by decide +kernel)) sub_cmb
theorem slot_cmb_next : Slot "itertools.combinations" "__next__" "itertools.combinations.__next__" :=
  .of (owner := "itertools.combinations") (n := "__next__") (by rw [typeLookup_type, builtinLookup_eq_fast]; kernel_rfl) (by decide +kernel) (by decide +kernel) (by decide +kernel)
    (by first | exact .inl (by decide +kernel) | exact .inr (by decide +kernel)) sub_cmb
theorem entry_cmb_iter : entryFor table "itertools.combinations.__iter__" = some Builtin.«dict_keyiterator.__iter__» :=
  entryFor_alias (id' := "dict_keyiterator.__iter__") (by kernel_rfl) (by first | rfl | decide +kernel | (unfold String.splitOn; simp +decide [String.splitOnAux])) (by decide +kernel) (by kernel_rfl)
theorem entry_cmb_next : entryFor table "itertools.combinations.__next__" = some Builtin.«itertools.combinations.__next__» := entryFor_of_tree (by kernel_rfl)
theorem args_cmb_iter (a : Value) : argsOk "itertools.combinations.__iter__" ⟨[a], []⟩ := by unfold argsOk; kernel_rfl
theorem args_cmb_next (a : Value) : argsOk "itertools.combinations.__next__" ⟨[a], []⟩ := by unfold argsOk; kernel_rfl
theorem noDict_cmb : typeHasDict (.type "itertools.combinations") = false := by decide +kernel
/-- such an object: its pool, how far it is, what it handed out, the places -/
abbrev IsCmb (h : Heap) (c : Addr) (pool last : Value) (mode : Int) (i j : Nat) : Prop := h.get? c = some { cls := .type "itertools.combinations", dict := none, data := .fields #[pool, rawInt mode, last, rawInt i, rawInt j], slots := #[] }
abbrev IsPool (h : Heap) (p : Addr) (us : List Value) : Prop := h.get? p = some { cls := .type "tuple", data := .seq us.toArray }
theorem cmb_bind (l : Addr) (t : Tok) : Builtin.Itertools.itBindNamed "combinations" ["iterable", "r"] 2 2 [.ref l, .int 2 t] [] = pure [some (.ref l), some (.int 2 t)] := by kernel_rfl
theorem cmb_size (t : Tok) : Builtin.Itertools.itSsizeArg (.int 2 t) = pure 2 := by kernel_rfl
theorem cmb_rest {prog : Program} {w : World} {A : Around} {E : Value → Shared → Prop} {s : Shared} {l : Addr} {t : Tok} {Q : Value × List Value → Shared → Prop} (h : Q (.type "itertools.combinations", [.ref l, .int 2 t]) s) :
    wpAny (model prog w) A (Builtin.Itertools.itClassAndRest "combinations" ⟨[.type "itertools.combinations", .ref l, .int 2 t], []⟩) Q E s := by
  obtain ⟨hp, g, dd, tk, os⟩ := s
  have hstr : ("itertools." ++ "combinations" : String) = "itertools.combinations" := by decide +kernel
  have hsub : isSubtype (.type "itertools.combinations") (.type ("itertools." ++ "combinations")) = pure true := by rw [hstr]; exact sub_cmb
  wp_walk
  exact h
theorem meets_cmb_new (l : Addr) (o : Obj) (items : Array Value) (n : Nat) (t : Tok) (hc : o.cls = .type "list") (hd : o.data = .seq items n) (hsz : items.size ≤ sizeLine) (h2 : 2 ≤ items.size) :
    Meets (Builtin.«itertools.combinations.__new__» ⟨[.type "itertools.combinations", .ref l, .int 2 t], []⟩)
      (fun _ R s => s.heap.get? l = some o ∧ ∀ h' : Heap, (∀ b o', s.heap.get? b = some o' → h'.get? b = some o') →
        R (.ok (.ret (.ref (h'.objs.size + 1)))) { s with heap := (h'.push { cls := .type "tuple", data := .seq items }).push { cls := .type "itertools.combinations", data := .fields #[.ref h'.objs.size, rawInt 0, .none, rawInt 0, rawInt 1] } }) :=
  .of_wp fun prog w A R s h => by
    obtain ⟨hp, g, dd, tk, os⟩ := s
    obtain ⟨ht, h⟩ := h
    have hd' := noDict_cmb
    have hb := cmb_bind l t
    have hix := cmb_size t
    refine wpAny_bind ?_
    wp_delta
    refine wpAny_bind (cmb_rest ?_)
    dsimp only
    refine wpAny_bind (wpAny_of_eq hb ?_)
    dsimp only
    refine wpAny_bind (wpAny_of_eq hix ?_)
    refine wpAny_bind (wpAny_collect_seq (hsz := hsz) l (.inl rfl) ht hc hd ?_)
    intro h' hk
    refine wpAny_ite_false (by decide) ?_
    refine wpAny_ite_false (by decide) ?_
    refine wpAny_bind (wpAny_newTuple ?_)
    refine wpAny_pure ?_
    dsimp only
    refine wpAny_bind ?_
    have hl : ¬ (Int.toNat 2 > items.toList.length) := by
      rw [Array.length_toList]
      show ¬ (2 > items.size)
      omega
    rw [if_neg hl]
    unfold Builtin.Itertools.itNewRecord
    rw [noDict_cmb]
    refine wpAny_ite_true (by decide) ?_
    refine wpAny_newObj_type ?_ (by simp [sizeOk]; show 3 ≤ 2 ^ 24; decide)
    refine wpAny_pure ⟨_, rfl, ?_⟩
    have := h h' hk
    rw [Heap.size_push]
    exact this
abbrev poolObj (us : List Value) : Obj := { cls := .type "tuple", data := .seq us.toArray }
abbrev cmbObj (p : Addr) : Obj := { cls := .type "itertools.combinations", data := .fields #[.ref p, rawInt 0, .none, rawInt 0, rawInt 1] }
section
variable {prog : Program} {w : World} {A : Around} {E : Value → Shared → Prop} {s : Shared} {c p : Addr} {last : Value} {us : List Value} {i j : Nat} {mode : Int}
theorem call_cmb {l : Addr} {o : Obj} {items : Array Value} {n : Nat} {t : Tok} {Q : Value → Shared → Prop} (hc : o.cls = .type "list") (hd : o.data = .seq items n) (hsz : items.size ≤ sizeLine) (h2 : 2 ≤ items.size) (ho : s.heap.get? l = some o)
    (h : ∀ h1 : Heap, (∀ b o', s.heap.get? b = some o' → h1.get? b = some o') → Q (.ref (h1.objs.size + 1)) { s with heap := (h1.push (poolObj items.toList)).push (cmbObj h1.objs.size) }) :
    wpAny (model prog w) A (call (.type "itertools.combinations") [.ref l, .int 2 t]) Q E s := by
  refine callType_new called_cmb (by decide +kernel) (typeCall_cmb_2 _ _) (newCall_cmb_2 _ _) (fun obj => F.args_object_init_3 obj _ _) entry_cmb_new (meets_cmb_new l o items n t hc hd hsz h2) ⟨ho, fun h' hk => ?_⟩
  show _ ∧ _
  have e1 : (h'.push { cls := .type "tuple", data := .seq items }).objs.size = h'.objs.size + 1 := Heap.size_push ..
  have g2 : ((h'.push { cls := .type "tuple", data := .seq items }).push (cmbObj h'.objs.size)).get? (h'.objs.size + 1) = some (cmbObj h'.objs.size) := by
    rw [← e1]
    exact Heap.get?_push_size _ rfl
  exact ⟨⟨_, g2, rfl⟩, h h' hk⟩
theorem iter_cmb {Q : Value → Shared → Prop} (hit : IsCmb s.heap c (.ref p) last mode i j) (h : Q (.ref c) s) : wpAny (model prog w) A (pyIter (.ref c)) Q E s := by
  have hT : s.TypeIs (.ref c) "itertools.combinations" := ⟨_, hit, rfl⟩
  refine wpAny_pyIter_slot hT slot_cmb_iter (wpAny_call_entry slot_cmb_iter hT entry_cmb_iter ?_ (args_cmb_iter _))
  show wpAny _ _ (ret (.ref c)) _ _ s
  exact wpAny_pure ⟨_, rfl, "itertools.combinations", _, hT, slot_cmb_next.lookup, h⟩
/-- the first pair -/
theorem cmb_first {Q : Option Value → Shared → Prop} (hit : IsCmb s.heap c (.ref p) last 0 i j) (hp : IsPool s.heap p us) (hpc : p ≠ c)
    (hQ : ∀ h', IsCmb h' c (.ref p) (.ref s.heap.objs.size) 1 i j → h'.get? s.heap.objs.size = some { cls := .type "tuple", data := .seq #[us.toArray.getD i .none, us.toArray.getD j .none] } →
      (∀ b o, b ≠ c → s.heap.get? b = some o → h'.get? b = some o) → Q (some (.ref s.heap.objs.size)) { s with heap := h' }) : wpAny (model prog w) A (callSpecial? (.ref c) "__next__") Q E s := by
  have hT : s.TypeIs (.ref c) "itertools.combinations" := ⟨_, hit, rfl⟩
  refine wpAny_callSpecial?_slot (name := Str.ofString "__next__") hT slot_cmb_next (wpAny_call_entry slot_cmb_next hT entry_cmb_next ?_ (args_cmb_next _))
  obtain ⟨h0, g, d, tk, os⟩ := s
  replace hit : IsCmb h0 c (.ref p) last 0 i j := hit
  replace hp : IsPool h0 p us := hp
  have hcl : c < h0.objs.size := Heap.lt_size hit
  wp_walk
  have ez : (h0.update c (Obj.mapFields fun x => x.setIfInBounds 1 (rawInt 1))).objs.size = h0.objs.size := Heap.size_update _ _ _
  have u1 : IsCmb (h0.update c (Obj.mapFields fun x => x.setIfInBounds 1 (rawInt 1))) c (.ref p) last 1 i j := Heap.get?_update_self _ hit rfl
  have o1 : ∀ b o, b ≠ c → h0.get? b = some o → (h0.update c (Obj.mapFields fun x => x.setIfInBounds 1 (rawInt 1))).get? b = some o := fun b o nb e => (Heap.get?_update_other _ _ (Ne.symm nb)).trans e
  generalize h0.update c (Obj.mapFields fun x => x.setIfInBounds 1 (rawInt 1)) = h1 at *
  refine ⟨_, rfl, ?_⟩
  have q := hQ ((h1.push { cls := .type "tuple", data := .seq #[us.toArray.getD i .none, us.toArray.getD j .none] }).update c (Obj.mapFields fun x => x.setIfInBounds 2 (.ref h1.objs.size))) ?_ ?_ ?_
  · rw [ez]
    rw [ez] at q
    exact q
  · rw [← ez]
    exact Heap.get?_update_self _ (Heap.get?_push_of_some _ u1) rfl
  · show _ = some _
    rw [Heap.get?_update_other _ _ (show c ≠ h0.objs.size from Nat.ne_of_lt hcl), ← ez]
    exact Heap.get?_push_size _ rfl
  · intro b o nb e
    rw [Heap.get?_update_other _ _ (Ne.symm nb)]
    exact Heap.get?_push_of_some _ (o1 b o nb e)
/-- the next places -/
def cmbNx (n : Nat) (q : Nat × Nat) : Option (Nat × Nat) := if q.2 + 1 < n then some (q.1, q.2 + 1) else if q.1 + 2 < n then some (q.1 + 1, q.1 + 2) else none
/-- a further pair -/
theorem cmb_more {Q : Option Value → Shared → Prop} (hit : IsCmb s.heap c (.ref p) last 1 i j) (hp : IsPool s.heap p us) (hpc : p ≠ c) (hij : i < j) (hj : j < us.length) (h13 : us.length < 13) {i' j' : Nat} (hn : cmbNx us.length (i, j) = some (i', j'))
    (hQ : ∀ h', IsCmb h' c (.ref p) (.ref s.heap.objs.size) 1 i' j' → h'.get? s.heap.objs.size = some { cls := .type "tuple", data := .seq #[us.toArray.getD i' .none, us.toArray.getD j' .none] } →
      (∀ b o, b ≠ c → s.heap.get? b = some o → h'.get? b = some o) → Q (some (.ref s.heap.objs.size)) { s with heap := h' }) : wpAny (model prog w) A (callSpecial? (.ref c) "__next__") Q E s := by
  have hT : s.TypeIs (.ref c) "itertools.combinations" := ⟨_, hit, rfl⟩
  refine wpAny_callSpecial?_slot (name := Str.ofString "__next__") hT slot_cmb_next (wpAny_call_entry slot_cmb_next hT entry_cmb_next ?_ (args_cmb_next _))
  obtain ⟨h0, g, d, tk, os⟩ := s
  replace hit : IsCmb h0 c (.ref p) last 1 i j := hit
  replace hp : IsPool h0 p us := hp
  have hcl : c < h0.objs.size := Heap.lt_size hit
  wp_walk
  split
  · rename_i next heq
    have hx2 : some next = some [i', j'] := by
      rw [← heq]
      have e2 : some [i', j'] = (cmbNx us.length (i, j)).map fun q => [q.1, q.2] := by rw [hn]; rfl
      rw [e2]
      have hs : us.toArray.size = us.length := by simp
      rw [hs]
      generalize hL : List.map _ (List.drop 3 _) = L
      have eL : L = [i, j] := by rw [← hL]; rfl
      rw [eL]
      clear hn hL eL e2 hQ hp hit hcl hT heq hs
      generalize us.length = n at *
      clear us
      revert i
      revert j
      revert h13
      revert n
      decide +kernel
    have hx3 := Option.some.inj hx2
    subst hx3
    wp_walk
    refine ⟨_, rfl, ?_⟩
    rw [Heap.size_update]
    refine hQ _ ?_ ?_ ?_
    · exact Heap.get?_update_self _ (Heap.get?_push_of_some _ (Heap.get?_update_self _ hit rfl)) rfl
    · show _ = some _
      rw [Heap.get?_update_other _ _ (show c ≠ h0.objs.size from Nat.ne_of_lt hcl)]
      conv => lhs; arg 2; rw [← Heap.size_update h0 c (Obj.mapFields fun fs => fs.extract 0 3 ++ (List.map (fun (n : Nat) => rawInt n) [i', j']).toArray)]
      exact Heap.get?_push_size _ rfl
    · intro b o nb e
      rw [Heap.get?_update_other _ _ (Ne.symm nb)]
      exact Heap.get?_push_of_some _ ((Heap.get?_update_other _ _ (Ne.symm nb)).trans e)
  · rename_i heq
    have hx2 : none = some [i', j'] := by
      rw [← heq]
      have e2 : some [i', j'] = (cmbNx us.length (i, j)).map fun q => [q.1, q.2] := by rw [hn]; rfl
      rw [e2]
      have hs : us.toArray.size = us.length := by simp
      rw [hs]
      generalize hL : List.map _ (List.drop 3 _) = L
      have eL : L = [i, j] := by rw [← hL]; rfl
      rw [eL]
      clear hn hL eL e2 hQ hp hit hcl hT heq hs
      generalize us.length = n at *
      clear us
      revert i
      revert j
      revert h13
      revert n
      decide +kernel
    cases hx2
/-- there is no further pair -/
theorem cmb_end {Q : Option Value → Shared → Prop} (hh : A.handled = none) (hit : IsCmb s.heap c (.ref p) last 1 i j) (hp : IsPool s.heap p us) (hpc : p ≠ c) (hij : i < j) (hj : j < us.length) (h13 : us.length < 13) (hn : cmbNx us.length (i, j) = none)
    (hE : ∀ e h', CpRep.StopE e h' → (∀ b o, b ≠ c → s.heap.get? b = some o → h'.get? b = some o) → E e { s with heap := h' }) : wpAny (model prog w) A (callSpecial? (.ref c) "__next__") Q E s := by
  have hT : s.TypeIs (.ref c) "itertools.combinations" := ⟨_, hit, rfl⟩
  refine wpAny_callSpecial?_slot (name := Str.ofString "__next__") hT slot_cmb_next (wpAny_call_entry slot_cmb_next hT entry_cmb_next ?_ (args_cmb_next _))
  obtain ⟨h0, g, d, tk, os⟩ := s
  replace hit : IsCmb h0 c (.ref p) last 1 i j := hit
  replace hp : IsPool h0 p us := hp
  have hcl : c < h0.objs.size := Heap.lt_size hit
  wp_walk
  split
  · rename_i next heq
    have hx2 : some next = none := by
      rw [← heq]
      have e2 : none = (cmbNx us.length (i, j)).map fun q => [q.1, q.2] := by rw [hn]; rfl
      rw [e2]
      have hs : us.toArray.size = us.length := by simp
      rw [hs]
      generalize hL : List.map _ (List.drop 3 _) = L
      have eL : L = [i, j] := by rw [← hL]; rfl
      rw [eL]
      clear hn hL eL e2 hE hp hit hcl hT heq hs
      generalize us.length = n at *
      clear us
      revert i
      revert j
      revert h13
      revert n
      decide +kernel
    cases hx2
  · have o1 : ∀ b o, b ≠ c → h0.get? b = some o → (h0.update c (Obj.mapFields fun x => x.setIfInBounds 1 (rawInt 2))).get? b = some o := fun b o nb e => (Heap.get?_update_other _ _ (Ne.symm nb)).trans e
    refine wpAny_bind (wpAny_setField hit rfl (by simp) ?_)
    show wpAny _ _ (newExc (.type "StopIteration") [] >>= _) _ _ _
    refine wpAny_bind ?_
    simp only [newExc, newTuple]
    refine wpAny_bind (wpAny_newObj_type ?_ (by size_fits))
    refine wpAny_bind (m := firstArgMember _ _) (wpAny_of_eq (a := Value.none) (by first | rfl | (simp only [firstArgMember]; rfl)) ?_)
    refine wpAny_newObj_type ?_ (by size_fits)
    simp only [raiseNew]
    refine wpAny_bind (wpAny_handled ?_)
    rw [show A.in1.handled = none from hh]
    refine wpAny_bind (wpAny_pure (wpAny_throw ?_))
    exact hE _ _ ⟨_, _, _, rfl, Heap.get?_push_size _ rfl, rfl, rfl, rfl⟩ fun b o nb e => Heap.get?_push_of_some _ (Heap.get?_push_of_some _ (o1 b o nb e))
end
/-- the places of the pairs, in their order -/
def prs (n : Nat) : List (Nat × Nat) := (List.range n).flatMap fun i => (List.range (n - (i + 1))).map fun d => (i, i + 1 + d)
theorem mem_prs {n i j : Nat} : (i, j) ∈ prs n ↔ i < j ∧ j < n := by
  unfold prs
  simp only [List.mem_flatMap, List.mem_range, List.mem_map, Prod.mk.injEq]
  constructor
  · rintro ⟨a, ha, d, hd, rfl, rfl⟩
    omega
  · rintro ⟨h1, h2⟩
    exact ⟨i, by omega, j - (i + 1), by omega, rfl, by omega⟩
theorem prs_first : ∀ n, n < 13 → 2 ≤ n → (prs n)[0]? = some (0, 1) := by decide +kernel
theorem prs_next : ∀ n, n < 13 → ∀ k, k < (prs n).length → cmbNx n ((prs n).getD k (0, 0)) = (prs n)[k + 1]? := by decide +kernel
theorem prs_len : ∀ n, n < 13 → (prs n).length ≤ 66 := by decide +kernel
section
variable {prog : Program} {w : World} {A : Around} {E : Value → Shared → Prop} {s : Shared} {c p : Addr} {last : Value} {us : List Value} {i j : Nat}
theorem next_first {Q : Option Value → Shared → Prop} (hit : IsCmb s.heap c (.ref p) last 0 i j) (hp : IsPool s.heap p us) (hpc : p ≠ c)
    (hQ : ∀ h', IsCmb h' c (.ref p) (.ref s.heap.objs.size) 1 i j → h'.get? s.heap.objs.size = some { cls := .type "tuple", data := .seq #[us.toArray.getD i .none, us.toArray.getD j .none] } →
      (∀ b o, b ≠ c → s.heap.get? b = some o → h'.get? b = some o) → Q (some (.ref s.heap.objs.size)) { s with heap := h' }) : wpAny (model prog w) A (pyNext (.ref c)) Q E s := by
  unfold pyNext
  exact wpAny_bind (wpAny_attempt (cmb_first hit hp hpc fun h' a b d => wpAny_pure (hQ h' a b d)))
theorem next_more {Q : Option Value → Shared → Prop} (hit : IsCmb s.heap c (.ref p) last 1 i j) (hp : IsPool s.heap p us) (hpc : p ≠ c) (hij : i < j) (hj : j < us.length) (h13 : us.length < 13) {i' j' : Nat} (hn : cmbNx us.length (i, j) = some (i', j'))
    (hQ : ∀ h', IsCmb h' c (.ref p) (.ref s.heap.objs.size) 1 i' j' → h'.get? s.heap.objs.size = some { cls := .type "tuple", data := .seq #[us.toArray.getD i' .none, us.toArray.getD j' .none] } →
      (∀ b o, b ≠ c → s.heap.get? b = some o → h'.get? b = some o) → Q (some (.ref s.heap.objs.size)) { s with heap := h' }) : wpAny (model prog w) A (pyNext (.ref c)) Q E s := by
  unfold pyNext
  exact wpAny_bind (wpAny_attempt (cmb_more hit hp hpc hij hj h13 hn fun h' a b d => wpAny_pure (hQ h' a b d)))
theorem next_end {Q : Option Value → Shared → Prop} (hh : A.handled = none) (hit : IsCmb s.heap c (.ref p) last 1 i j) (hp : IsPool s.heap p us) (hpc : p ≠ c) (hij : i < j) (hj : j < us.length) (h13 : us.length < 13) (hn : cmbNx us.length (i, j) = none)
    (hQ : ∀ h', (∀ b o, b ≠ c → s.heap.get? b = some o → h'.get? b = some o) → Q none { s with heap := h' }) : wpAny (model prog w) A (pyNext (.ref c)) Q E s := by
  unfold pyNext
  refine wpAny_bind (wpAny_attempt (cmb_end hh hit hp hpc hij hj h13 hn fun e h' hs hk => ?_))
  obtain ⟨a, o, vs, rfl, ho, hc, _, _⟩ := hs
  exact wpAny_bind (wpAny_isInstance (T := "StopIteration") (b := true) ⟨o, ho, hc⟩ isSubtype_stop (wpAny_pure (hQ h' hk)))
end
/-- the pairs of the items of a list, each in a new tuple -/
def ItC (xs : List V) : It :=
  ⟨fun k _ => k < (prs xs.length).length, fun k H v H' => ∃ (T : Addr) (i j : Nat) (x y : V), (prs xs.length)[k]? = some (i, j) ∧ xs[i]? = some x ∧ xs[j]? = some y ∧ v = .ref T ∧ H T = none ∧ H' = upd H T (.tup [x, y]), fun k _ => (prs xs.length).length ≤ k⟩
structure CmbT (c p : Addr) (us : List Value) (k : Nat) (h : Heap) : Prop where
  pool : IsPool h p us
  at0 : k = 0 → ∃ last, IsCmb h c (.ref p) last 0 0 1
  at1 : ∀ k', k = k' + 1 → ∃ last i j, (prs us.length)[k']? = some (i, j) ∧ IsCmb h c (.ref p) last 1 i j
theorem CmbT.obj {c p : Addr} {us : List Value} {k : Nat} {h : Heap} (t : CmbT c p us k h) : ∃ q m l i j, IsCmb h c q l m i j := by
  cases k with
  | zero =>
    obtain ⟨l, e⟩ := t.at0 rfl
    exact ⟨_, _, _, _, _, e⟩
  | succ k =>
    obtain ⟨l, i, j, _, e⟩ := t.at1 k rfl
    exact ⟨_, _, _, _, _, e⟩
theorem vals_get {xs : List V} {us : List Value} (r : Vals xs us) {i : Nat} {x : V} (h : xs[i]? = some x) : RelV x (us.toArray.getD i .none) := by
  obtain ⟨u, h1, h2⟩ := r.get h
  have e : us.toArray.getD i .none = u := by
    rw [Array.getD_eq_getD_getElem?, List.getElem?_toArray, h1]
    rfl
  rw [e]
  exact h2
theorem turn_cmb {P : Program} {w : World} {K : PySem.W.Frag} {elts : List Expr} {kk : Nat} {tpos : Pos} {xs : List V} {us : List Value} (r : Vals xs us) (h2 : 2 ≤ xs.length) (h13 : xs.length < 13) (c p : Addr) (hpc : p ≠ c) :
    Turn P w K (.Tuple elts kk tpos) (ItC xs) [c, p] c (CmbT c p us) where
  mem := by simp
  obj := fun i h st b hb => by
    have e' : b = c ∨ b = p := by simpa using hb
    rcases e' with e | e
    · rw [e]
      obtain ⟨q, m, l, i, j, e⟩ := st.obj
      exact ⟨_, e, fun v z => nomatch z⟩
    · rw [e]
      exact ⟨_, st.pool, fun v z => nomatch z⟩
  keep := fun i h h' st k => ⟨k p (by simp) _ st.pool, fun e => by
    obtain ⟨l, g⟩ := st.at0 e
    exact ⟨l, k c (by simp) _ g⟩, fun k' e => by
    obtain ⟨l, i, j, g1, g2⟩ := st.at1 k' e
    exact ⟨l, i, j, g1, k c (by simp) _ g2⟩⟩
  item := by
    intro X hP hw hK hc k pins s σ H E I hf st hg
    subst hP hw hK
    have hl : xs.length = us.length := r.length
    have hg' : k < (prs xs.length).length := hg
    obtain ⟨q, m, l, i0, j0, eo⟩ := st.obj
    have hcl : c < s.heap.objs.size := Heap.lt_size eo
    have hpl : p < s.heap.objs.size := Heap.lt_size st.pool
    have fin : ∀ i j last h', (prs xs.length)[k]? = some (i, j) → IsCmb h' c (.ref p) last 1 i j → h'.get? s.heap.objs.size = some { cls := .type "tuple", data := .seq #[us.toArray.getD i .none, us.toArray.getD j .none] } →
        (∀ b o, b ≠ c → s.heap.get? b = some o → h'.get? b = some o) → ∃ u, some (Value.ref s.heap.objs.size) = some u ∧ wpAny (model X.prog X.w) X.A (letOwnedTupleGo (.Tuple elts kk tpos) (.ref c) u) (fun _ s2 => ∃ x H', Inv X pins σ H' s2 ∧ RelV x u ∧ (ItC xs).yld k H x H' ∧ CmbT c p us (k + 1) s2.heap ∧ ∀ b ∈ [c, p], H' b = none) E { s with heap := h' } := fun i j last h' hk hc' hT hkp => by
      have hm : (i, j) ∈ prs xs.length := List.mem_of_getElem? hk
      obtain ⟨hij, hj⟩ := mem_prs.mp hm
      have hi : i < xs.length := by omega
      have ex : xs[i]? = some xs[i] := List.getElem?_eq_getElem hi
      have ey : xs[j]? = some xs[j] := List.getElem?_eq_getElem hj
      have rx := vals_get r ex
      have ry := vals_get r ey
      refine ⟨_, rfl, go_of (s := { s with heap := h' }) hc' rfl rfl (by decide) ?_⟩
      have I2 := I.turnedNew (h' := h') (t' := s.toks) (ch := [c]) (T := s.heap.objs.size) (ob := .tup [xs[i], xs[j]]) (fun b o hb e => hkp b o (by simpa using hb) e) (fun b hb => hf b (by simp at hb; simp [hb])) (Nat.le_refl _)
        ⟨by show 2 ≤ sizeLine; decide, [us.toArray.getD i .none, us.toArray.getD j .none], .cons rx (.cons ry .nil), ⟨_, hT, rfl, _, rfl⟩⟩
      refine ⟨.ref s.heap.objs.size, _, I2, rfl, ⟨_, i, j, _, _, hk, ex, ey, rfl, I.hok.fresh (Nat.le_refl _), rfl⟩, ⟨hkp p _ hpc st.pool, fun e => absurd e (Nat.succ_ne_zero k), fun k' e => ?_⟩, fun b hb => ?_⟩
      · cases e
        rw [← hl]
        exact ⟨last, i, j, hk, hc'⟩
      · have e' : b = c ∨ b = p := by simpa using hb
        have hbl : b < s.heap.objs.size := by rcases e' with e | e <;> rw [e] <;> assumption
        rw [upd_ne (Nat.ne_of_lt hbl)]
        exact (hf b hb).1
    cases k with
    | zero =>
      obtain ⟨l, e⟩ := st.at0 rfl
      exact next_first e st.pool hpc fun h' a b d => fin 0 1 _ h' (prs_first _ h13 h2) a b d
    | succ k =>
      obtain ⟨l, i, j, e1, e2⟩ := st.at1 k rfl
      rw [← hl] at e1
      obtain ⟨hij, hj⟩ := mem_prs.mp (List.mem_of_getElem? e1)
      have nx := prs_next _ h13 k (by omega)
      rw [List.getD_eq_getElem?_getD, e1, List.getElem?_eq_getElem hg'] at nx
      have nx' : cmbNx xs.length (i, j) = some (prs xs.length)[k + 1] := nx
      generalize hq : (prs xs.length)[k + 1] = q at nx'
      obtain ⟨i', j'⟩ := q
      rw [hl] at nx' hj h13
      exact next_more e2 st.pool hpc hij hj h13 nx' fun h' a b d => fin i' j' _ h' (by rw [List.getElem?_eq_getElem hg', hq]) a b d
  done := by
    intro X hP hw hK hc k pins s σ H E I hf st hg
    subst hP hw hK
    have hl : xs.length = us.length := r.length
    have hg' : (prs xs.length).length ≤ k := hg
    have hh := I.ok.hd hc
    cases k with
    | zero =>
      have := prs_first _ h13 h2
      rw [List.getElem?_eq_none (by omega)] at this
      cases this
    | succ k =>
      obtain ⟨l, i, j, e1, e2⟩ := st.at1 k rfl
      rw [← hl] at e1
      obtain ⟨hij, hj⟩ := mem_prs.mp (List.mem_of_getElem? e1)
      have hk : k < (prs xs.length).length := (List.getElem?_eq_some_iff.mp e1).1
      have nx := prs_next _ h13 k hk
      rw [List.getD_eq_getElem?_getD, e1, List.getElem?_eq_none hg'] at nx
      have nx' : cmbNx xs.length (i, j) = none := nx
      rw [hl] at nx' hj h13
      obtain ⟨f0, f1, f2, f3, f4, f5⟩ := hf c (by simp)
      exact next_end hh e2 st.pool hpc hij hj h13 nx' fun h' hk => ⟨rfl, I.turnedL (t' := s.toks) (ch := [c]) (fun b o hb e => hk b o (by simpa using hb) e) (fun b hb => hf b (by simp at hb; simp [hb]))⟩
  self := fun A i s Q E st h => by
    obtain ⟨last, i, j, e⟩ : ∃ last i j, ∃ m, IsCmb s.heap c (.ref p) last m i j := by
      cases i with
      | zero =>
        obtain ⟨l, e⟩ := st.at0 rfl
        exact ⟨l, 0, 1, 0, e⟩
      | succ k =>
        obtain ⟨l, i, j, _, e⟩ := st.at1 k rfl
        exact ⟨l, i, j, 1, e⟩
    obtain ⟨m, e⟩ := e
    exact iter_cmb e h
def iCmb (K : PySem.W.Frag) (ta : TA) : TI := fun σ H R => ta σ H fun vs H1 => ∃ (l : Addr) (xs : List V), vs = [.ref l, .int 2] ∧ SqL K H1 l xs ∧ 2 ≤ xs.length ∧ xs.length < 13 ∧ R (ItC xs) H1
theorem pi_cmb {X : Cx} {e1 e2 : Expr} {ta : TA} {p pos tpos : Pos} {elts : List Expr} {kk : Nat} (hg : Gl X "combinations") (hm : X.mg "combinations" = some (.type "itertools.combinations")) (ha : PA X [e1, e2] ta)
    (hs : starEach [e1, e2] X.env = (false, eval e1 X.env) :: starEach [e2] X.env := by rfl) (hpl : (backTo pos (starEach [e2] X.env)).any (·.1) = false := by rfl) :
    PI X (.Tuple elts kk tpos) (.Call (.Name "combinations" p) [e1, e2] [] pos) (iCmb X.K ta) := by
  refine ⟨fun pins s σ H R I h => ?_⟩
  refine wpAny_Call_Name_kw (ld_glob I hg hm ?_ (by decide))
  refine PyProof.Rows.callWith_type1 (thn (ha.run pos pins s σ H _ I h) fun us s1 ⟨vs, H1, I1, r1, q1⟩ => ?_) hs hpl
  obtain ⟨l, xs, rfl, hx, h2, h13, q⟩ := q1
  obtain ⟨u1, u2, rfl, ra, rb⟩ := r1.two
  have e1 : u1 = .ref l := ra
  obtain ⟨t, e2⟩ : ∃ t, u2 = .int 2 t := rb
  subst e1 e2
  obtain ⟨its, rv, ⟨⟨cls, dd, data, sls⟩, n, ho, hcl, hdn, hdt⟩, hlen⟩ := I1.list hx
  simp only at hcl hdt
  subst hcl hdt
  have hl := rv.length
  have hsl := sizeLine_eq
  refine call_cmb (o := _) (items := its.toArray) (n := n) rfl rfl (by rw [List.size_toArray]; omega) (by rw [List.size_toArray]; omega) ho fun h1 hk => ?_
  have Ik : Inv X pins σ H1 { s1 with heap := h1 } := I1.kept (t' := s1.toks) fun b o e => hk b o e
  have e1 : (h1.push (poolObj its.toArray.toList)).objs.size = h1.objs.size + 1 := Heap.size_push ..
  have gp : ((h1.push (poolObj its.toArray.toList)).push (cmbObj h1.objs.size)).get? h1.objs.size = some (poolObj its.toArray.toList) := Heap.get?_push_of_some _ (Heap.get?_push_size _ rfl)
  have gc : ((h1.push (poolObj its.toArray.toList)).push (cmbObj h1.objs.size)).get? (h1.objs.size + 1) = some (cmbObj h1.objs.size) := by
    rw [← e1]
    exact Heap.get?_push_size _ rfl
  refine iter_cmb (p := h1.objs.size) (last := .none) (mode := 0) (i := 0) (j := 1) gc ?_
  have I2 : Inv X pins σ H1 { s1 with heap := (h1.push (poolObj its.toArray.toList)).push (cmbObj h1.objs.size) } := Ik.kept (t' := s1.toks) fun b o e => Heap.get?_push_of_some _ (Heap.get?_push_of_some _ e)
  refine ⟨h1.objs.size + 1, [h1.objs.size + 1, h1.objs.size], _, _, H1, rfl, I2, turn_cmb rv h2 h13 _ _ (Nat.ne_of_lt (Nat.lt_succ_self _)), ⟨gp, fun _ => ⟨_, gc⟩, fun k' e => nomatch e⟩, fun b hb => ?_, q⟩
  have hle : h1.objs.size ≤ b := by
    have e' : b = h1.objs.size + 1 ∨ b = h1.objs.size := by simpa using hb
    rcases e' with e | e
    · rw [e]
      exact Nat.le_succ _
    · rw [e]
      exact Nat.le_refl _
  exact Ik.fpOk (s := { s1 with heap := h1 }) hle (Ik.hok.fresh hle)
theorem walk_cmb {xs : List V} : Walk (ItC xs) (prs xs.length).length (fun _ => True) (fun k H v H' => ∃ (T : Addr) (i j : Nat) (x y : V), (prs xs.length)[k]? = some (i, j) ∧ xs[i]? = some x ∧ xs[j]? = some y ∧ v = .ref T ∧ H T = none ∧ H' = upd H T (.tup [x, y])) :=
  ⟨fun i H hi _ => hi, fun H _ => Nat.le_refl _, fun i H x H' hi _ y => y⟩
/-! ### the end of an iterator over a list, over a tuple, while an exception is handled -/
section
variable {prog : Program} {w : World} {A : Around} {E : Value → Shared → Prop} {s : Shared} {it l x1 : Addr} {i : Nat} {items : Array Value} {Q : Option Value → Shared → Prop}
theorem hot_list_end (hot : HotX.HotAt A x1 s.heap) (nx : x1 ≠ it) (hit : s.heap.IsListIter it l i) (hl : s.heap.IsList l items) (hx : items[i]? = none) (hQ : ∀ h', Heap.ExtBut it s.heap h' → Q none { s with heap := h' }) : wpAny (model prog w) A (pyNext (.ref it)) Q E s := by
  obtain ⟨hh, o1, vs1, h1, d1, c1⟩ := hot
  obtain ⟨o, ho, hc, hd⟩ := id hit; obtain ⟨ol, hol, _, nl, hdl⟩ := hl
  unfold pyNext
  refine wpAny_bind (wpAny_attempt (wpAny_callSpecial?_slot (name := Str.ofString "__next__") hit.typeIs slot_listiter_next (wpAny_call_entry slot_listiter_next hit.typeIs entry_listiter_next ?_ (args_listiter_next _))))
  show wpAny _ _ (field (.ref it) 0 >>= _) _ _ s; refine wpAny_bind (wpAny_field ho hd (x := .ref l) rfl ?_)
  show wpAny _ _ (if (Value.ref l == Value.none) = true then _ else _) _ _ s; rw [if_neg (show ¬ ((Value.ref l == Value.none) = true) from Bool.false_ne_true)]
  show wpAny _ _ (field (.ref it) 1 >>= _) _ _ s; refine wpAny_bind (wpAny_field ho hd (x := .int i 0) rfl ?_)
  show wpAny _ _ (seqItems? (.ref l) >>= _) _ _ s; refine wpAny_bind (wpAny_seqItems hol hdl ?_); simp only [Int.toNat_natCast, hx]
  refine wpAny_bind (wpAny_rule (wpAny_bind (wpAny_setField ho hd (by simp) ?_)))
  show wpAny _ _ (newExc (.type "StopIteration") [] >>= _) _ _ _; refine wpAny_bind ?_; simp only [newExc, newTuple]; refine wpAny_bind (wpAny_newObj_type ?_ (by size_fits))
  refine wpAny_bind (m := firstArgMember _ _) (wpAny_of_eq (a := Value.none) (by first | rfl | (simp only [firstArgMember]; rfl)) ?_); refine wpAny_newObj_type ?_ (by size_fits)
  have sb : Heap.SameBut it s.heap (s.heap.update it (Obj.mapFields (·.setIfInBounds 0 .none))) := Heap.SameBut.update ..
  have h1' := sb.extBut x1 o1 nx h1
  refine HotX.raiseNew_hot ⟨hh, o1, vs1, Heap.get?_push_of_some _ (Heap.get?_push_of_some _ h1'), d1, c1⟩ (Nat.ne_of_lt (Heap.lt_size (Heap.get?_push_of_some _ h1'))) (Heap.get?_push_size _ rfl) rfl (by first | (simp; done) | (simp; omega) | (simp only [Array.size_append]; simp; omega)) ?_
  refine wpAny_bind (wpAny_isInstance (T := "StopIteration") (b := true) ⟨_, Heap.get?_update_self _ (Heap.get?_push_size _ rfl) rfl, rfl⟩ isSubtype_stop ?_)
  refine wpAny_pure (hQ _ fun b o hb e => ?_)
  have e' := sb.extBut b o hb e
  rw [Heap.get?_update_other _ _ (Nat.ne_of_gt (Heap.lt_size (Heap.get?_push_of_some _ e')))]; exact Heap.get?_push_of_some _ (Heap.get?_push_of_some _ e')
theorem hot_tuple_end (hot : HotX.HotAt A x1 s.heap) (nx : x1 ≠ it) (hit : IsTupIter s.heap it l i) (hl : IsTup s.heap l items) (hx : items[i]? = none) (hQ : ∀ h', Heap.ExtBut it s.heap h' → Q none { s with heap := h' }) : wpAny (model prog w) A (pyNext (.ref it)) Q E s := by
  obtain ⟨hh, o1, vs1, h1, d1, c1⟩ := hot
  obtain ⟨o, ho, hc, hd⟩ := id hit; obtain ⟨ol, hol, _, nl, hdl⟩ := hl
  unfold pyNext
  refine wpAny_bind (wpAny_attempt (wpAny_callSpecial?_slot (name := Str.ofString "__next__") hit.typeIs slot_tupleiter_next (wpAny_call_entry slot_tupleiter_next hit.typeIs entry_tupleiter_next ?_ (args_tupleiter_next _))))
  show wpAny _ _ (field (.ref it) 0 >>= _) _ _ s; refine wpAny_bind (wpAny_field ho hd (x := .ref l) rfl ?_)
  show wpAny _ _ (if (Value.ref l == Value.none) = true then _ else _) _ _ s; rw [if_neg (show ¬ ((Value.ref l == Value.none) = true) from Bool.false_ne_true)]
  show wpAny _ _ (field (.ref it) 1 >>= _) _ _ s; refine wpAny_bind (wpAny_field ho hd (x := .int i 0) rfl ?_)
  show wpAny _ _ (seqItems? (.ref l) >>= _) _ _ s; refine wpAny_bind (wpAny_seqItems hol hdl ?_); simp only [Int.toNat_natCast, hx]
  refine wpAny_bind (wpAny_rule (wpAny_bind (wpAny_setField ho hd (by simp) ?_)))
  show wpAny _ _ (newExc (.type "StopIteration") [] >>= _) _ _ _; refine wpAny_bind ?_; simp only [newExc, newTuple]; refine wpAny_bind (wpAny_newObj_type ?_ (by size_fits))
  refine wpAny_bind (m := firstArgMember _ _) (wpAny_of_eq (a := Value.none) (by first | rfl | (simp only [firstArgMember]; rfl)) ?_); refine wpAny_newObj_type ?_ (by size_fits)
  have sb : Heap.SameBut it s.heap (s.heap.update it (Obj.mapFields (·.setIfInBounds 0 .none))) := Heap.SameBut.update ..
  have h1' := sb.extBut x1 o1 nx h1
  refine HotX.raiseNew_hot ⟨hh, o1, vs1, Heap.get?_push_of_some _ (Heap.get?_push_of_some _ h1'), d1, c1⟩ (Nat.ne_of_lt (Heap.lt_size (Heap.get?_push_of_some _ h1'))) (Heap.get?_push_size _ rfl) rfl (by first | (simp; done) | (simp; omega) | (simp only [Array.size_append]; simp; omega)) ?_
  refine wpAny_bind (wpAny_isInstance (T := "StopIteration") (b := true) ⟨_, Heap.get?_update_self _ (Heap.get?_push_size _ rfl) rfl, rfl⟩ isSubtype_stop ?_)
  refine wpAny_pure (hQ _ fun b o hb e => ?_)
  have e' := sb.extBut b o hb e
  rw [Heap.get?_update_other _ _ (Nat.ne_of_gt (Heap.lt_size (Heap.get?_push_of_some _ e')))]; exact Heap.get?_push_of_some _ (Heap.get?_push_of_some _ e')
/-- a, b = a tuple, while an exception is handled -/
theorem hot_unpack {targets : List (Bool × (Value → Sem Unit))} {Q : Unit → Shared → Prop} (hot : HotX.HotAt A x1 s.heap) (ht : IsTup s.heap l items) (hn : targets.length = items.size) (hstar : targets.findIdx? (·.1) = none)
    (h : ∀ h', Heap.ExtBut s.heap.objs.size s.heap h' → wpAny (model prog w) A (assignInOrder (targets.map (·.2)) items.toList) Q E { s with heap := h' }) : wpAny (model prog w) A (unpack (.ref l) targets) Q E s := by
  have hlt : l ≠ s.heap.objs.size := by
    obtain ⟨o, ho, _⟩ := ht
    exact Nat.ne_of_lt (Heap.lt_size ho)
  obtain ⟨hh, o1, vs1, h1, d1, c1⟩ := hot
  have hx1 : x1 ≠ s.heap.objs.size := Nat.ne_of_lt (Heap.lt_size h1)
  unfold unpack
  rw [hn, hstar]
  refine wpAny_bind (wpAny_holding ?_)
  unfold unpackItems notIterableAtAll
  refine wpAny_bind (wpAny_bind (wpAny_specialOf ht.typeIs slot_tuple_iter.lookup (wpAny_pure ?_)))
  simp only [Bool.false_eq_true, if_false]
  refine wpAny_bind (wpAny_holding (iter_tuple ht (wpAny_bind (wpAny_holding (draw_tuple hlt items.size 0 _ _ ⟨_, Heap.get?_push_size _ rfl, rfl, rfl⟩ (ht.push _) (by omega) fun h₁ hit₁ hs₁ => ?_)))))
  have hall : (items.toList.drop 0).take items.size = items.toList := by rw [List.drop_zero, List.take_of_length_le (by simp)]
  rw [hall, if_neg (by simp)]
  have k1 : ∀ b o, b ≠ s.heap.objs.size → s.heap.get? b = some o → h₁.get? b = some o := fun b o hb e => hs₁.extBut b o hb (Heap.get?_push_of_some _ e)
  refine wpAny_bind (wpAny_holding (hot_tuple_end ⟨hh, o1, vs1, k1 _ _ hx1 h1, d1, c1⟩ hx1 hit₁ ((ht.push _).extBut hs₁.extBut hlt) (by simp) fun h₂ he₂ => ?_))
  simp only [Option.isSome_none, Bool.false_eq_true, if_false]
  exact wpAny_pure (h h₂ fun b o hb e => he₂ b o hb (k1 b o hb e))
end
/-! ### targets, walks and comprehensions while an exception is handled -/
theorem hot_at {X : Cx} {pins : List (Addr × Obj)} {σ : L2.St} {H : Hp} {s : Shared} (hc : L2H.HotC X) (I : Inv X pins σ H s) : ∃ q : Addr × Obj, q ∈ X.pn ∧ HotX.HotAt X.A q.1 s.heap := by
  obtain ⟨q, ⟨hh, v1, e1, c1⟩, hp⟩ := hc
  exact ⟨q, hp, hh, q.2, v1, (I.pin q (List.mem_append_left _ hp)).1, e1, c1⟩
theorem pg_tupH {X : Cx} {es : List Expr} {k : Nat} {pos : Pos} {t : TGs} {n : Nat} (hc : L2H.HotC X) (h : PGs X es t) (hn : (assignEach es X.env).length = n := by rfl) (hst : (assignEach es X.env).findIdx? (·.1) = none := by rfl) : PG X (.Tuple es k pos) (gTup X.K n t) := by
  refine ⟨fun pins s σ H v u Q I r hw => ?_⟩
  obtain ⟨a, xs, ev, hq, hl, hw⟩ := hw
  subst ev
  cases r
  obtain ⟨its, rv, ht, _⟩ := I.tuple hq
  obtain ⟨q, _, hot⟩ := hot_at hc I
  rw [assign_Tuple]
  refine wpAny_bind (wpAny_standAt (hot_unpack hot ht (by simp [hn, ← hl, rv.length]) hst fun h' hx => ?_))
  have J : Inv X pins σ H { s with heap := h' } := I.kept (t' := s.toks) fun b o e => hx b o (Nat.ne_of_lt (Heap.lt_size e)) e
  exact h.run pins _ σ H xs _ Q J (by simpa using rv) hw
theorem turn_listH {P : Program} {w : World} {K : PySem.W.Frag} {tg : Expr} (a it : Addr) : L2H.TurnH P w K tg (Itl K a) [it] it (fun i h => h.IsListIter it a i) where
  mem := List.mem_singleton.mpr rfl
  obj := (turn_list (P := P) (w := w) (K := K) (tg := tg) a it).obj
  keep := (turn_list (P := P) (w := w) (K := K) (tg := tg) a it).keep
  item := by
    intro X hP hw hK hc i pins s σ H E I hf st hg
    subst hP hw hK
    obtain ⟨xs, x, hq, hx⟩ := hg
    obtain ⟨its, rv, p, _⟩ := I.list hq
    obtain ⟨u, hu, ru⟩ := rv.get hx
    have F := hf it (List.mem_singleton.mpr rfl)
    refine wpAny_pyNext_list_item st p.isList (x := u) (by simpa using hu) fun h' st' sb => ?_
    have J : Inv X pins σ H { s with heap := h' } := I.turned (t' := s.toks) (fun b o hb e => (sb.2 b hb).trans e) F.1 F.2.1 F.2.2.2.1 F.2.2.2.2.1 F.2.2.2.2.2
    obtain ⟨o, e, c, d⟩ := id st'
    refine ⟨u, rfl, go_of (s := { s with heap := h' }) e c d (by decide) ⟨x, H, J, ru, ⟨rfl, fun ys hy => ?_⟩, st', fun b hb => (hf b hb).1⟩⟩
    rw [J.list_inj hy hq]
    exact hx
  done := by
    intro X hP hw hK hc i pins s σ H E I hf st hg
    subst hP hw hK
    obtain ⟨xs, hq, hx⟩ := hg
    obtain ⟨its, rv, p, _⟩ := I.list hq
    have F := hf it (List.mem_singleton.mpr rfl)
    obtain ⟨q, hm, hot⟩ := hot_at hc I
    have hl := rv.length
    exact hot_list_end hot (F.2.2.2.2.2 q (List.mem_append_left _ hm)) st p.isList (by simp; omega) fun h' eb => ⟨rfl, I.turned (t' := s.toks) (fun b o hb e => eb b o hb e) F.1 F.2.1 F.2.2.2.1 F.2.2.2.2.1 F.2.2.2.2.2⟩
  self := fun _ _ _ _ _ st h => wpAny_pyIter_listiter st h
theorem pi_listH {X : Cx} {tg l : Expr} {tl : TE} (hl : PE X l tl) : L2H.PIH X tg l (iList X.K tl) := by
  refine ⟨fun pins s σ H R I h => ?_⟩
  refine thn (hl.run pins s σ H _ I h) fun v s1 ⟨x, H1, I1, r1, q1⟩ => ?_
  obtain ⟨a, ev, ⟨xs, hq⟩, q⟩ := q1
  subst ev
  cases r1
  obtain ⟨its, rv, p, _⟩ := I1.list hq
  refine wpAny_pyIter_list p.isList ⟨s1.heap.objs.size, [s1.heap.objs.size], _, _, H1, rfl, I1.kept (t' := s1.toks) fun b o e => Heap.get?_push_of_some _ e, turn_listH a _, ⟨_, Heap.get?_push_size _ rfl, rfl, rfl⟩, fun b hb => ?_, q⟩
  rw [List.mem_singleton.mp hb]
  exact I1.fpOk (Nat.le_refl _) (I1.hok.fresh (Nat.le_refl _))
/-- a comprehension's block, the handled exception held fast in it -/
abbrev blkH (X : Cx) (s : Shared) (H : Hp) (scope : Scope) (cenv : Env) (fp : List Addr) : Cx := (X.blk s H scope cenv fp).tr X.pn (fun _ _ => False)
theorem hotC_blk {X : Cx} (hc : L2H.HotC X) {s : Shared} {H : Hp} {scope : Scope} {cenv : Env} {fp : List Addr} : L2H.HotC (blkH X s H scope cenv fp) := hc
section
variable {X : Cx}
theorem hot_lc {pins : List (Addr × Obj)} {s : Shared} {σ : L2.St} {H : Hp} {Q : VK} {elt tg iter : Expr} {ifs : List Expr} {scope : Scope} {own : List (Str × Nat)} {pos pos' : Pos} {wi : TI} {g : TG} {tt : TT} {te : TE} {use : Option (Value → Sem Unit)} {Qf : Value → Shared → Prop}
    (hc : L2H.HotC X) (hN : X.N.Nodup) (I : Inv X pins σ H s) (hi : L2H.PIH X tg iter wi) (ok : BlkOk X.N X.env.scope scope own)
    (hg : ∀ (s : Shared) (H : Hp) (C : Addr) (cl : List (Str × Addr)) (fp : List Addr), PG (blkH X s H scope (compEnvC scope cl C X.env) fp) tg g)
    (ht : ∀ (s : Shared) (H : Hp) (C : Addr) (cl : List (Str × Addr)) (fp : List Addr), PTs (blkH X s H scope (compEnvC scope cl C X.env) fp) ifs tt)
    (he : ∀ (s : Shared) (H : Hp) (C : Addr) (cl : List (Str × Addr)) (fp : List Addr), PE (blkH X s H scope (compEnvC scope cl C X.env) fp) elt te) (hs : ∀ x, foldedSetIterable iter X.env x = pure x) (h : tLc wi g tt te (own.map (·.2)) σ H Q)
    (after : ∀ D C s' m H', Inv X pins σ H' s' → Q (.ref D) H' → s'.heap.Ns C m → FpOk X pins H' C → compPost (model X.prog X.w) X.A X.xe use Qf (.ref D) C (.ok .next) s') :
    wpAny (model X.prog X.w) X.A (comprehension (.ListComp elt [⟨tg, iter, ifs, 0⟩] scope pos) scope X.env pos' (newList []) false (eval iter X.env) use) Qf X.xe s := by
  have hfree : ∀ y ∈ scope.names, y.2 = .free → ∃ c, X.env.cells.lookup y.1 = some c := fun y hy e => (ok.free y hy e).elim (fun k => I.ok.has _ (.inl k)) fun k => I.ok.has _ (.inr k)
  refine wpAny_comprehension_free (use := use) rfl hs (closure_ok hfree) ok.kind (fun y hy e => by rw [ok.uniq y hy, e]) (thn (hi.run pins s σ H _ I h) fun xv s1 hx => thn hx fun itv s2 h2 => ?_)
  obtain ⟨it, fp, tn, J, H2, eit, I2, T, st2, f2, q⟩ := h2
  subst eit
  refine wpAny_newObj_type (newEnv_comp ?_) (by show 0 ≤ sizeLine; decide)
  obtain ⟨D, hD⟩ : ∃ D, s2.heap.objs.size = D := ⟨_, rfl⟩
  rw [hD]
  have hDn : H2 D = none := I2.hok.fresh (Nat.le_of_eq hD)
  obtain ⟨W, ⟨m0, w0⟩, turn⟩ := q D hDn
  generalize hs3 : ({ heap := s2.heap.push { cls := .type "list", data := .seq ([] : List Value).toArray }, gens := s2.gens, drawn := s2.drawn, toks := s2.toks, os := s2.os } : Shared) = s3
  have h3 : s3.heap = s2.heap.push { cls := .type "list", data := .seq ([] : List Value).toArray } := by rw [← hs3]
  obtain ⟨H3, hH3⟩ : ∃ H3, upd H2 D (.lst []) = H3 := ⟨_, rfl⟩
  rw [hH3] at w0
  have I3 : Inv X pins σ H3 s3 := by
    rw [← hs3, ← hH3]
    refine I2.laid (t' := s2.toks) (fun b o e => Heap.get?_push_of_some _ e) (Nat.le_of_eq hD) ⟨Nat.zero_le _, [], 0, .nil, ?_⟩
    rw [← hD]
    exact Heap.get?_push_size _ rfl
  have f3 : ∀ b ∈ fp, FpOk X pins H3 b ∧ b < s3.heap.objs.size := fun b hb => by
    obtain ⟨o, e, _⟩ := T.obj _ _ st2 b hb
    have hlt : b < s2.heap.objs.size := Heap.lt_size e
    refine ⟨⟨?_, (f2 b hb).2⟩, by rw [h3, Heap.size_push]; exact Nat.lt_succ_of_lt hlt⟩
    rw [← hH3, upd_ne (by rw [← hD]; exact Nat.ne_of_lt hlt)]
    exact (f2 b hb).1
  have st3 : tn 0 s3.heap := T.keep _ _ _ st2 fun b _ o e => by rw [h3]; exact Heap.get?_push_of_some _ e
  have B0 := block_start I3 ok hN f3
  obtain ⟨cl, hcl⟩ : ∃ cl, cellsFrom (s3.heap.objs.size + 1) scope.names (cloFrom X.env.cells scope.names []) = cl := ⟨_, rfl⟩
  rw [hcl] at B0
  obtain ⟨ce, hce⟩ : ∃ ce, compEnvC scope cl s3.heap.objs.size X.env = ce := ⟨_, rfl⟩
  have pg := hg s3 H3 s3.heap.objs.size cl fp
  have pt := ht s3 H3 s3.heap.objs.size cl fp
  have pe := he s3 H3 s3.heap.objs.size cl fp
  rw [hce] at B0 pg pt pe
  have cL : ce.locals = s3.heap.objs.size := by rw [← hce] <;> rfl
  obtain ⟨s4, hs4⟩ : ∃ s4 : Shared, ({ s3 with heap := pushCells (s3.heap.push { cls := .type "dict", data := .dict #[] }) scope.names } : Shared) = s4 := ⟨_, rfl⟩
  rw [hs4] at B0
  have keep4 : ∀ b o, s3.heap.get? b = some o → s4.heap.get? b = some o := fun b o e => by
    rw [← hs4]
    exact pushCells_keeps _ _ _ _ (Heap.get?_push_of_some _ e)
  -- the exception is held fast in the block
  have B1 : Inv (X.blk s3 H3 scope ce fp) X.pn (wipe σ (own.map (·.2))) H3 s4 := B0.pins_of fun p hp => by
    have z := I3.pin p (List.mem_append_left _ hp)
    refine ⟨keep4 _ _ z.1, z.2.1, ?_, fun hm => (List.mem_cons.mp (I3.stkSub p.1 hm)).elim z.2.2.1 z.2.2.2.1, z.2.2.2.2⟩
    show p.1 ≠ ce.locals
    rw [cL]
    exact Nat.ne_of_lt (Heap.lt_size z.1)
  have I4 : Inv (blkH X s3 H3 scope ce fp) [] (wipe σ (own.map (·.2))) H3 s4 := B1.toTry _
  have hcB : L2H.HotC (blkH X s3 H3 scope ce fp) := hotC_blk hc
  have st4 : tn 0 s4.heap := T.keep _ _ _ st3 fun b _ o e => keep4 b o e
  have stat : ∀ {σ' : L2.St} {H' : Hp} {s' : Shared}, Inv (blkH X s3 H3 scope ce fp) [] σ' H' s' → (∀ b ∈ fp, H' b = none) → ∀ b ∈ fp, FpOk (blkH X s3 H3 scope ce fp) [] H' b := fun {σ' H' s'} J' hn b hb => by
    refine ⟨hn b hb, (J'.ok.exf b hb).1, J'.ok.exfs b hb, .inl hb, fun x c e => (J'.ok.exf b hb).2 x c e, fun p hp => ?_⟩
    rw [List.append_nil] at hp
    exact (f3 b hb).1.2.2.2.2.2 p (List.mem_append_left _ hp)
  show codeAny _ _ (.compStart (.ListComp elt [⟨tg, iter, ifs, 0⟩] scope pos) 0 (.ref it) (.ref D) (compEnvC scope (cellsFrom (s3.heap.objs.size + 1) scope.names (cloFrom X.env.cells scope.names [])) s3.heap.objs.size X.env)) (compPost (model X.prog X.w) X.A X.xe use Qf (.ref D) s3.heap.objs.size) { s3 with heap := pushCells (s3.heap.push { cls := .type "dict", data := .dict #[] }) scope.names }
  rw [hcl, hce, hs4]
  have loop : codeAny (model X.prog X.w) X.A (.compLoop (.ListComp elt [⟨tg, iter, ifs, 0⟩] scope pos) 0 (.ref it) (.ref D) ce) (compPost (model X.prog X.w) X.A X.xe use Qf (.ref D) s3.heap.objs.size) s4 := by
    refine compLoop_any (fun n s' => ∃ i H', Inv (blkH X s3 H3 scope ce fp) [] (wipe σ (own.map (·.2))) H' s' ∧ tn i s'.heap ∧ (∀ b ∈ fp, H' b = none) ∧ W i n H') ?_ m0 ⟨0, H3, I4, st4, fun b hb => (f3 b hb).1.1, w0⟩
    rintro n s5 ⟨i, H5, I5, st5, n5, w5⟩
    rcases turn i n H5 w5 with ⟨stop, qq⟩ | ⟨go, Nx, hNx, step⟩
    · refine thnF (T.done (blkH X s3 H3 scope ce fp) rfl rfl rfl hcB i [] s5 _ H5 (fun _ _ => False) I5 (stat I5 n5) st5 stop) fun r s6 ⟨hr, I6⟩ => ?_
      subst hr
      have I7 : Inv X pins σ H5 s6 := I3.call' (ch := fp) I6.os I6.base I6.hok I6.bare fun b hb => ⟨(f3 b hb).1.2.2.2.1, (f3 b hb).1.2.1, (f3 b hb).1.2.2.2.2.1, (f3 b hb).1.2.2.2.2.2⟩
      have nC : H5 s3.heap.objs.size = none := by
        have z : H5 ce.locals = none := I6.free
        rwa [cL] at z
      obtain ⟨m, hm, _⟩ := I6.loc
      have hm2 : s6.heap.Ns ce.locals m := hm
      rw [cL] at hm2
      exact after D s3.heap.objs.size s6 m H5 I7 qq hm2 (I3.fpOk (Nat.le_refl _) nC)
    · refine thnF (T.item (blkH X s3 H3 scope ce fp) rfl rfl rfl hcB i [] s5 _ H5 (fun _ _ => False) I5 (stat I5 n5) st5 go) fun r s6 ⟨u, hr, h6⟩ => ?_
      subst hr
      refine thnF h6 fun _ s7 ⟨x, H7, I7, r7, y7, st7, n7⟩ => ?_
      refine thnF (pg.run _ s7 _ H7 x u _ (I7.pinned (stat I7 n7) (T.obj _ _ st7)) r7 (step x H7 y7)) fun _ s8 ⟨σ8, H8, I8, hw8, q8⟩ => ?_
      refine thnF (pt.run _ s8 σ8 H8 _ I8 q8) fun b s9 ⟨H9, I9, q9⟩ => ?_
      have fin : ∀ {s' : Shared} {H' : Hp}, Inv (blkH X s3 H3 scope ce fp) ([] ++ pinsAt fp s7.heap) σ8 H' s' → Nx H' → ∃ m, m < n ∧ ∃ i H', Inv (blkH X s3 H3 scope ce fp) [] (wipe σ (own.map (·.2))) H' s' ∧ tn i s'.heap ∧ (∀ b ∈ fp, H' b = none) ∧ W i m H' := fun {s' H'} J' nx => by
        obtain ⟨m', hm, w'⟩ := hNx H' nx
        have held : ∀ b ∈ fp, ∀ o, s7.heap.get? b = some o → s'.heap.get? b = some o ∧ H' b = none := fun b hb o e => ⟨(J'.pin (b, o) (List.mem_append_right _ (List.mem_append_right _ (mem_pinsAt hb e)))).1, (J'.pin (b, o) (List.mem_append_right _ (List.mem_append_right _ (mem_pinsAt hb e)))).2.1⟩
        refine ⟨m', hm, i + 1, H', (J'.unpinned (pins := [])).weak (by rw [← hw8, wipe_length]) (fun j v e => ?_), T.keep _ _ _ st7 fun b hb o e => (held b hb o e).1, fun b hb => ?_, w'⟩
        · rw [← hw8] at e
          exact (wipe_some e).1
        · obtain ⟨o, e, _⟩ := T.obj _ _ st7 b hb
          exact (held b hb o e).2
      cases b with
      | false =>
        simp only [Bool.false_eq_true, if_false] at q9 ⊢
        exact fin I9 q9
      | true =>
        simp only [if_true] at q9 ⊢
        exact thnF (pe.run _ s9 σ8 H9 _ I9 q9) fun z s10 ⟨yv, H10, I10, r10, acc, hD10, hz10, nx⟩ => app_ok (X := blkH X s3 H3 scope ce fp) I10 hD10 hz10 r10 fun s11 I11 => fin I11 nx
  exact codeAny_compStart_list loop (T.self X.A 0 _ _ _ st4 loop)
theorem pe_lcH {elt tg iter : Expr} {ifs : List Expr} {scope : Scope} {own : List (Str × Nat)} {pos : Pos} {wi : TI} {g : TG} {tt : TT} {te : TE} (hc : L2H.HotC X) (hN : X.N.Nodup) (hi : L2H.PIH X tg iter wi) (ok : BlkOk X.N X.env.scope scope own)
    (hg : ∀ (s : Shared) (H : Hp) (C : Addr) (cl : List (Str × Addr)) (fp : List Addr), PG (blkH X s H scope (compEnvC scope cl C X.env) fp) tg g)
    (ht : ∀ (s : Shared) (H : Hp) (C : Addr) (cl : List (Str × Addr)) (fp : List Addr), PTs (blkH X s H scope (compEnvC scope cl C X.env) fp) ifs tt)
    (he : ∀ (s : Shared) (H : Hp) (C : Addr) (cl : List (Str × Addr)) (fp : List Addr), PE (blkH X s H scope (compEnvC scope cl C X.env) fp) elt te) (hs : ∀ x, foldedSetIterable iter X.env x = pure x := by intro _; rfl) :
    PE X (.ListComp elt [⟨tg, iter, ifs, 0⟩] scope pos) (tLc wi g tt te (own.map (·.2))) := by
  refine ⟨fun pins s σ H Q I h => ?_⟩
  rw [eval_ListComp]
  refine hot_lc hc hN I hi ok hg ht he hs h fun D C s' m H' I' q hn f => ⟨m, hn, fun h'' sb => ?_⟩
  exact ⟨.ref D, H', I'.turned (t' := s'.toks) (fun b o hb e => (sb.2 b hb).trans e) f.1 f.2.1 f.2.2.2.1 f.2.2.2.2.1 f.2.2.2.2.2, rfl, q⟩
end
/-! ### a def that is handed the caught exception, called in the suite -/
/-- what such a def promises: a the exception, D its class -/
structure FnE (P : Program) (w : World) (K : PySem.W.Frag) (mg : Str → Option Value) (base : Heap) (k : Nat) (f : Addr) (fd : FuncData) (x : Str) (spE : Addr → Addr → Hp → VK → Prop) : Prop where
  run : ∀ (A : Around) (outer : List Env) (s : Shared) (H : Hp) (a D : Addr) (oe : Obj) (Q : VK), L2H.RoomH k A → A.handled = some (.ref a) → L2N.Zn (.ref D) none oe → (∃ vs, oe.data = .fields vs) → L2H.PinOk outer H s (a, oe) →
    Env0 P w K mg base A outer s H → BindsTo s fd ⟨[.ref a], []⟩ [(x, .ref a)] → spE a D H Q → codeAny (model P w) A (.call (.ref f) ⟨[.ref a], []⟩) (CR CX0 outer P w H s Q E0) s
/-- the context of its body -/
abbrev cxE (P : Program) (w : World) (K : PySem.W.Frag) (mg : Str → Option Value) (base : Heap) (N : List Str) (qual : Str) (scope : Scope) (f : Addr) (cdv : Value) (A : Around) (outer : List Env) (s : Shared) (H : Hp) (a : Addr) (oe : Obj) : Cx :=
  L2H.cxH CX0 P w K mg base N qual scope f cdv A outer s H E0 (a, oe)
theorem okE {P : Program} {w : World} {K : PySem.W.Frag} {mg : Str → Option Value} {base : Heap} {x qual y : Str} {params : Arguments} {body : List Stmt} {scope : Scope} {f : Addr} {fd : FuncData} {N : List Str} {k : Nat} {spE : Addr → Addr → Hp → VK → Prop}
    (F : FunD K x qual params body scope [] [] f fd) (S : FnScope N [y] scope)
    (hbody : ∀ (cdv : Value) (A : Around) (outer : List Env) (s : Shared) (H : Hp) (a D : Addr) (oe : Obj) (Q : VK), L2H.Hot1 A (a, oe) → L2N.Zn (.ref D) none oe → (∃ vs, oe.data = .fields vs) → L2H.RoomH k (A.deeper (envOfC qual scope s.heap.objs.size f cdv)) → spE a D H Q →
      ∃ t, PSs (cxE P w K mg base N qual scope f cdv A outer s H a oe) body t ∧ t { nx := fun _ H' => Q .non H', rt := Q } (L2.start N [.ref a]) H) : FnE P w K mg base (k + 1) f fd y spE := by
  obtain ⟨oc, od, dV, kV, doc, pm, an, cdv, ct, osl, rfl, lk, hcd, _, _⟩ := F.ex
  refine ⟨fun A outer s H a D oe Q hr hh hz hf hpin e0 hb h => ?_⟩
  have hot : L2H.Hot1 A (a, oe) := by
    obtain ⟨vs, hv⟩ := hf
    exact ⟨hh, vs, hv, hz.2.2 vs hv⟩
  have up : ∀ b o, base.get? b = some o → s.heap.get? b = some o := fun b o e => (e0.bs b o e).1
  have hk : ∀ z ∈ [(y, Value.ref a)], scope.names.lookup z.1 = some .local ∨ (scope.names.lookup z.1 = some .cell ∧ ((cellsFrom (s.heap.objs.size + 1) scope.names []).lookup z.1).isSome = true) := fun z hz0 => by
    rw [List.mem_singleton.mp hz0]
    exact (S.par y (List.mem_singleton.mpr rfl)).elim Or.inl fun q => Or.inr ⟨q, PySem.W.cellsFrom_some _ _ _ (.inl q)⟩
  refine codeAny_call_function hr.depth ((e0.mod.kin.keeps up) _ _ lk) rfl S.co S.gen rfl (PySem.W.codeRec_of (e0.mod.kin.keeps up) hcd) (hb _ _ _ _ (wpAny_newFunctionEnv_cells S.kind hk fun env he s1 c => ?_))
  subst he
  refine ⟨(e0.mod.nolimit.keeps up).keeps c.toInCall.keep, codeAny_func ?_⟩
  obtain ⟨t, ht, hq⟩ := hbody cdv A outer s H a D oe Q hot hz hf (hr.deeper _) h
  have I : Inv (cxE P w K mg base N qual scope f cdv A outer s H a oe) [] (L2.start N [.ref a]) H s1 := L2H.inv_startH (ps := [y]) (us := [.ref a]) S hpin e0 rfl (.cons rfl .nil) c
  refine wpAny_mono (ht.run [] s1 _ H _ I hq) (fun fl s' hs => ?_) fun e s' hs => hs
  cases fl with
  | ret u =>
    obtain ⟨v, σ', H', J, rv, q⟩ := hs
    exact ⟨v, H', J.os, J.bare, J.base, J.hok, rv, q⟩
  | next =>
    obtain ⟨σ', H', J, q⟩ := hs
    exact ⟨V.non, H', J.os, J.bare, J.base, J.hok, rfl, q⟩
  | brk => exact hs.elim fun _ z => z.elim fun _ z => z.2.elim
  | cont => exact hs.elim fun _ z => z.elim fun _ z => z.2.elim
section
variable {X : Cx} {a D : Addr} {oe : Obj}
theorem pe_callE {k : Nat} {f : Addr} {fd : FuncData} {x y : Str} {q pos : Pos} {e : Expr} {te : TE} {spE : Addr → Addr → Hp → VK → Prop} (F : FnE X.prog X.w X.K X.mg X.base k f fd y spE) (hr : L2H.RoomH k X.A) (hh : X.A.handled = some (.ref a)) (hp : (a, oe) ∈ X.pn)
    (hz : L2N.Zn (.ref D) none oe) (hf : ∃ vs, oe.data = .fields vs) (hg : Gl X x) (hm : X.mg x = some (.ref f)) (hk : PySem.W.keepIn X.K (.ref f) = true) (hb : Binds X.K fd [y] []) (he : PE X e te) (hdb : (x == ("__debug__" : Str)) = false := by decide)
    (hs : starEach [e] X.env = (false, eval e X.env) :: starEach [] X.env := by rfl) (hpl : (backTo pos (starEach [] X.env)).any (·.1) = false := by rfl) : PE X (.Call (.Name x q) [e] [] pos) (fun σ H Q => te σ H fun v H1 => v = .ref a ∧ spE a D H1 Q) := by
  refine ⟨fun pins s σ H Q I h => ?_⟩
  refine wpAny_Call_Name_kw (ld_glob I hg hm ?_ hdb)
  have ha : PA X [e] (tCons te tNil) := pa_cons he pa_nil hs
  refine PySem.W.callWith_K (h₀ := X.base) I.ok.mod.kin hk (thn (ha.run pos pins s σ H (fun vs H1 => vs = [.ref a] ∧ spE a D H1 Q) I ?_) fun us s1 ⟨vs, H1, I1, r, ev, q⟩ => ⟨I1.kIn, ?_⟩) hs hpl
  · exact (show te σ H fun v H1 => [v] = [V.ref a] ∧ spE a D H1 Q from by
      have e : (fun (v : V) (H1 : Hp) => v = .ref a ∧ spE a D H1 Q) = fun v H1 => [v] = [V.ref a] ∧ spE a D H1 Q := by
        funext v H1
        exact propext ⟨fun z => ⟨by rw [z.1], z.2⟩, fun z => ⟨(List.cons.inj z.1).1, z.2⟩⟩
      rw [← e]
      exact h)
  · subst ev
    cases r with
    | cons r1 r2 =>
      cases r2
      cases r1
      have z := I1.pin (a, oe) (List.mem_append_left _ hp)
      have pin : L2H.PinOk X.stack H1 s1 (a, oe) := ⟨z.1, z.2.1, fun m => (List.mem_cons.mp (I1.stkSub a m)).elim z.2.2.1 z.2.2.2.1, z.2.2.2.2⟩
      have b := hb s1 [.ref a] I1.kIn rfl
      refine wpAny_call (codeAny_mono (F.run X.A X.stack s1 H1 a D oe Q hr hh hz hf pin I1.env0 b q) fun r s' hq => ?_)
      cases r with
      | error e => exact hq.elim
      | ok fl =>
        cases fl with
        | ret u => exact I1.after hq
        | next => exact hq.elim
        | brk => exact hq.elim
        | cont => exact hq.elim
theorem call_isH (hp : (a, oe) ∈ X.pn) (C : ExcC X.K D) (hz : Zc (.ref D) none oe) (hf : ∃ vs, oe.data = .fields vs) : CallR X (.builtin "isinstance") (rIsE X.K D a) := by
  intro pins s σ H xs us Q I r h
  obtain ⟨c, cv, b, ev, hcv, e, q⟩ := h
  subst ev
  obtain ⟨u1, u2, eu, r1, r2⟩ := vals2 r
  subst eu
  cases r1
  have ec := hcv _ r2
  subst ec
  have hget := (I.pin (a, oe) (List.mem_append_left _ hp)).1
  obtain ⟨vs, hv⟩ := hf
  have J : PySem.W.InstAt s.heap a oe D none := by
    obtain ⟨oc, od, oda, osl⟩ := oe
    obtain ⟨h1, h2⟩ := hz
    dsimp only at h1 h2 hv
    subst h1 h2 hv
    exact ⟨hget, rfl, rfl, trivial⟩
  exact PySem.W.kia_one (PySem.W.handS_kitx_exc C.hg C.hk C.hs C.hd C.ha C.hn C.ht C.hm) I.kIn J e (fun z => nomatch z) fun tk => ⟨.bl b, H, I.kept (t' := tk) fun _ _ z => z, rfl, q⟩
end
/-! ### enumerate over zip of two iterators: a zip, whatever it knows of the tuple that it told last -/
abbrev ZipG (h : Heap) (z TI TO : Addr) (f0 : Value) (f : Bool) : Prop := h.get? z = some { cls := .type "zip", dict := none, data := .fields #[f0, .bool f, .bool false, .ref TI, .ref TO], slots := #[] }
abbrev Kn (f0 : Value) : Prop := f0 = Value.none ∨ ∃ T : Nat, f0 = rawInt T
structure EzS (z TI TO i1 i2 : Addr) (St1 St2 : Nat → Heap → Prop) (i : Nat) (h : Heap) : Prop where
  zip : ∃ f0 f, Kn f0 ∧ ZipG h z TI TO f0 f
  ti : IsTupOf2 h TI (.ref i1) (.ref i2)
  out : ∃ a1 a2, IsTupOf2 h TO a1 a2
  s1 : St1 i h
  s2 : St2 i h
section
variable {prog : Program} {w : World} {A : Around} {E : Value → Shared → Prop} {s : Shared} {z TI TO i1 i2 : Addr} {fp1 fp2 : List Addr} {n1 n2 i : Nat} {P1 P2 : Nat → Value → Prop} {St1 St2 : Nat → Heap → Prop} {a1 a2 f0 : Value} {f : Bool}
theorem alive_any {a : Addr} {Q : Option Obj → Shared → Prop} (h : Q (s.heap.get? a) s) : wpAny (model prog w) A (loadIfAlive a) Q E s := fun _ _ _ => h
theorem zipG_free {Q : Bool → Shared → Prop} (hz : ZipG s.heap z TI TO f0 f) (h0 : Kn f0) (h : ∀ b f' h', ZipG h' z TI TO f0 f' → Heap.SameBut z s.heap h' → Q b { s with heap := h' }) : wpAny (model prog w) A (Builtin.SmallTypes.ownedTupleIsFree (.ref z)) Q E s := by
  unfold Builtin.SmallTypes.ownedTupleIsFree
  refine wpAny_bind (wpAny_field hz rfl (x := f0) rfl ?_)
  rcases h0 with rfl | ⟨T, rfl⟩
  · exact wpAny_pure (h true f s.heap hz (Heap.SameBut.refl _ _))
  · show wpAny _ _ (loadIfAlive ((T : Int).toNat) >>= _) _ _ _
    refine wpAny_bind (alive_any ?_)
    cases s.heap.get? ((T : Int).toNat) with
    | none =>
      simp only [Option.isNone_none, if_true]
      exact wpAny_pure (h true f s.heap hz (Heap.SameBut.refl _ _))
    | some o =>
      simp only [Option.isNone_some, Bool.false_eq_true, if_false]
      refine wpAny_bind (wpAny_field hz rfl (x := .bool f) rfl ?_)
      cases f with
      | true =>
        rw [if_neg (by decide)]
        exact wpAny_pure (h false true s.heap hz (Heap.SameBut.refl _ _))
      | false =>
        rw [if_pos (by decide)]
        exact wpAny_bind (wpAny_setField_rec hz (by simp) fun h₁ hz₁ hs₁ => wpAny_pure (h false true h₁ hz₁ hs₁))
theorem zipG_item {Q : Value → Shared → Prop} (S : ZipSep2 z TI TO i1 i2 fp1 fp2) (D1 : Draws prog w A i1 fp1 n1 P1 St1) (D2 : Draws prog w A i2 fp2 n2 P2 St2) (st : EzS z TI TO i1 i2 St1 St2 i s.heap) (hlt1 : i < n1) (hlt2 : i < n2)
    (hQ : ∀ x1 x2 h' tk, P1 i x1 → P2 i x2 → EzS z TI TO i1 i2 St1 St2 (i + 1) h' → IsTupOf2 h' s.heap.objs.size x1 x2 → h'.objs.size = s.heap.objs.size + 1 →
      (∀ c o, c ≠ z → c ≠ TO → c ≠ i1 → c ≠ i2 → s.heap.get? c = some o → h'.get? c = some o) → Q (.ref s.heap.objs.size) { s with heap := h', toks := tk }) :
    wpAny (model prog w) A (Builtin.«zip.__next__» ⟨[.ref z], []⟩) (fun fin s' => ∃ v, fin = .done (.ret v) ∧ Q v s') E s := by
  obtain ⟨hp, g, d, tk0, os⟩ := s
  obtain ⟨⟨f0, f, h0, hz⟩, hTI, ⟨a1, a2, hTO⟩, st1, st2⟩ := st
  show wpAny _ _ (field (.ref z) 2 >>= _) _ _ _
  refine wpAny_bind (wpAny_field hz rfl (x := .bool false) rfl ?_)
  show wpAny _ _ (field (.ref z) 3 >>= _) _ _ _
  refine wpAny_bind (wpAny_field hz rfl (x := .ref TI) rfl (wpAny_bind (wpAny_seqItems hTI rfl ?_)))
  show wpAny _ _ (Builtin.SmallTypes.ownedTupleIsFree (.ref z) >>= _) _ _ _
  refine wpAny_bind (zipG_free hz h0 fun b f' hq hz hsq => ?_)
  replace hsq : Heap.SameBut z hp hq := hsq
  replace hz : ZipG hq z TI TO f0 f' := hz
  have hTIq : IsTupOf2 hq TI (.ref i1) (.ref i2) := hsq.extBut _ _ S.TIz hTI
  have hTOq : IsTupOf2 hq TO a1 a2 := hsq.extBut _ _ S.TOz hTO
  have st1q := D1.over st1 hsq S.zf1
  have st2q := D2.over st2 hsq S.zf2
  have szq : hq.objs.size = hp.objs.size := hsq.1
  cases b with
  | true =>
    simp only [if_true]
    refine wpAny_bind (wpAny_rule (wpAny_bind (wpAny_field hz rfl (x := .ref TO) rfl (wpAny_bind (wpAny_setField_rec hz (by simp) fun g0 hz0 hs0 => ?_)))))
    replace hz0 : ZipG g0 z TI TO .ellipsis f' := hz0
    replace hs0 : Heap.SameBut z hq g0 := hs0
    refine wpAny_bind ?_
    simp only [List.zipIdx_cons, List.zipIdx_nil, List.forIn_cons, List.forIn_nil]
    refine wpAny_bind (wpAny_bind (wpAny_onRaise ?_))
    show wpAny _ _ (Builtin.SmallTypes.nextOf (.ref i1) >>= _) _ _ ⟨g0, g, d, tk0, os⟩
    refine wpAny_bind (D1.item i _ _ _ hlt1 (D1.over st1q hs0 S.zf1) fun x1 p1 tk1 hx1 sn1 hp1 => wpAny_pure ?_)
    replace hp1 : Heap.SameBut i1 g0 p1 := hp1
    have hU1 : IsTupOf2 p1 TO a1 a2 := hp1.extBut _ _ S.Ti1 (hs0.extBut _ _ S.TOz hTOq)
    refine wpAny_bind (wpAny_seqItems (s := ⟨p1, g, d, tk1, os⟩) hU1 rfl (wpAny_bind (updateSeq_IsTupOf2 (s := ⟨p1, g, d, tk1, os⟩) hU1 fun g1 hT1 hs1 => ?_)))
    replace hT1 : IsTupOf2 g1 TO x1 a2 := hT1
    replace hs1 : Heap.SameBut TO p1 g1 := hs1
    refine wpAny_bind (wpAny_letGo (wpAny_pure (wpAny_bind (wpAny_bind (wpAny_onRaise ?_)))))
    show wpAny _ _ (Builtin.SmallTypes.nextOf (.ref i2) >>= _) _ _ ⟨g1, g, d, tk1, os⟩
    refine wpAny_bind (D2.item i _ _ _ hlt2 (D2.over (D2.over (D2.over st2q hs0 S.zf2) hp1 S.sep1_2) hs1 S.Tf2) fun x2 p2 tk2 hx2 sn2 hp2 => wpAny_pure ?_)
    replace hp2 : Heap.SameBut i2 g1 p2 := hp2
    have hU2 : IsTupOf2 p2 TO x1 a2 := hp2.extBut _ _ S.Ti2 hT1
    refine wpAny_bind (wpAny_seqItems (s := ⟨p2, g, d, tk2, os⟩) hU2 rfl (wpAny_bind (updateSeq_IsTupOf2 (s := ⟨p2, g, d, tk2, os⟩) hU2 fun g2 hT2 hs2 => ?_)))
    replace hT2 : IsTupOf2 g2 TO x1 x2 := hT2
    replace hs2 : Heap.SameBut TO p2 g2 := hs2
    refine wpAny_bind (wpAny_letGo (wpAny_pure (wpAny_pure (wpAny_bind (wpAny_seqItems (s := ⟨g2, g, d, tk2, os⟩) hT2 rfl (wpAny_bind (wpAny_newTuple ?_)))))))
    have hsz : g2.objs.size = hp.objs.size := by rw [hs2.1, hp2.1, hs1.1, hp1.1, hs0.1, szq]
    have hzz : ZipG g2 z TI TO .ellipsis f' := hs2.extBut _ _ S.TOz.symm (hp2.extBut _ _ S.zi2 (hs1.extBut _ _ S.TOz.symm (hp1.extBut _ _ S.zi1 hz0)))
    have hkk : ∀ c o, c ≠ z → c ≠ TO → c ≠ i1 → c ≠ i2 → hp.get? c = some o → g2.get? c = some o := fun c o cz cT c1 c2 e => hs2.extBut _ _ cT (hp2.extBut _ _ c2 (hs1.extBut _ _ cT (hp1.extBut _ _ c1 (hs0.extBut _ _ cz (hsq.extBut _ _ cz e)))))
    have hti2 : IsTupOf2 g2 TI (.ref i1) (.ref i2) := hs2.extBut _ _ S.TITO (hp2.extBut _ _ S.TIi2 (hs1.extBut _ _ S.TITO (hp1.extBut _ _ S.TIi1 (hs0.extBut _ _ S.TIz hTIq))))
    have hj1 := D1.over (D1.over (D1.over sn1 hs1 S.Tf1) hp2 S.sep2_1) hs2 S.Tf1
    have hj2 := D2.over sn2 hs2 S.Tf2
    have hzlt : z < g2.objs.size := Heap.lt_size hzz
    show wpAny _ _ (Builtin.SmallTypes.ownedTupleHandOut (.ref z) (.ref g2.objs.size) >>= _) _ _ ⟨g2.push { cls := .type "tuple", data := .seq #[x1, x2] }, g, d, tk2, os⟩
    refine wpAny_bind ?_
    unfold Builtin.SmallTypes.ownedTupleHandOut
    have hz₆ : ZipG (g2.push { cls := .type "tuple", data := .seq #[x1, x2] }) z TI TO .ellipsis f' := Heap.get?_push_of_some _ hzz
    refine wpAny_bind (wpAny_setField_rec hz₆ (by simp) fun h₇ hz₇ hs₇ => ?_)
    replace hz₇ : ZipG h₇ z TI TO (rawInt g2.objs.size) f' := hz₇
    refine wpAny_setField_rec hz₇ (by simp) fun h₈ hz₈ hs₈ => ?_
    replace hz₈ : ZipG h₈ z TI TO (rawInt g2.objs.size) false := hz₈
    replace hs₇ : Heap.SameBut z (g2.push { cls := .type "tuple", data := .seq #[x1, x2] }) h₇ := hs₇
    replace hs₈ : Heap.SameBut z h₇ h₈ := hs₈
    have up : ∀ c o, c ≠ z → g2.get? c = some o → h₈.get? c = some o := fun c o c1 e => hs₈.extBut _ _ c1 (hs₇.extBut _ _ c1 (Heap.get?_push_of_some _ e))
    have hT₈ : IsTupOf2 h₈ g2.objs.size x1 x2 := hs₈.extBut _ _ (Nat.ne_of_gt hzlt) (hs₇.extBut _ _ (Nat.ne_of_gt hzlt) (Heap.get?_push_size _ rfl))
    have hz8 : h₈.objs.size = g2.objs.size + 1 := by rw [hs₈.1, hs₇.1, Heap.size_push]
    refine wpAny_pure ⟨_, rfl, ?_⟩
    have hz₉ : ZipG h₈ z TI TO (rawInt hp.objs.size) false := by rw [← hsz]; exact hz₈
    rw [hsz] at hT₈ hz8
    show Q (.ref g2.objs.size) ⟨h₈, g, d, tk2, os⟩
    rw [hsz]
    exact hQ x1 x2 h₈ tk2 hx1 hx2 ⟨⟨_, _, .inr ⟨_, rfl⟩, hz₉⟩, up _ _ S.TIz hti2, ⟨_, _, up _ _ S.TOz hT2⟩, D1.frame _ _ _ hj1 fun b hb o e => up b o (fun q => S.zf1 (q ▸ hb)) e, D2.frame _ _ _ hj2 fun b hb o e => up b o (fun q => S.zf2 (q ▸ hb)) e⟩ hT₈ hz8
      fun c o cz cT c1 c2 e => up c o cz (hkk c o cz cT c1 c2 e)
  | false =>
    simp only [Bool.false_eq_true, if_false]
    refine wpAny_bind ?_
    rw [← Array.forIn_toList]
    simp only [List.forIn_cons, List.forIn_nil]
    refine wpAny_bind (wpAny_bind (wpAny_holding ?_))
    show wpAny _ _ (Builtin.SmallTypes.nextOf (.ref i1) >>= _) _ _ ⟨hq, g, d, tk0, os⟩
    refine wpAny_bind (D1.item i _ _ _ hlt1 st1q fun x1 p1 tk1 hx1 sn1 hp1 => wpAny_pure (wpAny_pure (wpAny_bind (wpAny_bind (wpAny_holding ?_)))))
    replace hp1 : Heap.SameBut i1 hq p1 := hp1
    show wpAny _ _ (Builtin.SmallTypes.nextOf (.ref i2) >>= _) _ _ ⟨p1, g, d, tk1, os⟩
    refine wpAny_bind (D2.item i _ _ _ hlt2 (D2.over st2q hp1 S.sep1_2) fun x2 p2 tk2 hx2 sn2 hp2 => wpAny_pure (wpAny_pure (wpAny_pure ?_)))
    replace hp2 : Heap.SameBut i2 p1 p2 := hp2
    show wpAny _ _ (newTuple [x1, x2] >>= _) _ _ ⟨p2, g, d, tk2, os⟩
    refine wpAny_bind (wpAny_newTuple (wpAny_pure ⟨_, rfl, ?_⟩))
    have hsz : p2.objs.size = hp.objs.size := by rw [hp2.1, hp1.1, szq]
    have up : ∀ c o, p2.get? c = some o → (p2.push { cls := .type "tuple", data := .seq #[x1, x2] }).get? c = some o := fun c o e => Heap.get?_push_of_some _ e
    have hT : IsTupOf2 (p2.push { cls := .type "tuple", data := .seq #[x1, x2] }) p2.objs.size x1 x2 := Heap.get?_push_size _ rfl
    have hz4 : (p2.push { cls := .type "tuple", data := .seq #[x1, x2] }).objs.size = p2.objs.size + 1 := Heap.size_push ..
    show Q (.ref p2.objs.size) ⟨_, g, d, tk2, os⟩
    rw [hsz] at hT hz4 ⊢
    exact hQ x1 x2 _ tk2 hx1 hx2 ⟨⟨f0, f', h0, up _ _ (hp2.extBut _ _ S.zi2 (hp1.extBut _ _ S.zi1 hz))⟩, up _ _ (hp2.extBut _ _ S.TIi2 (hp1.extBut _ _ S.TIi1 hTIq)), ⟨_, _, up _ _ (hp2.extBut _ _ S.Ti2 (hp1.extBut _ _ S.Ti1 hTOq))⟩,
      D1.frame _ _ _ (D1.over sn1 hp2 S.sep2_1) fun b _ o e => up b o e, D2.frame _ _ _ sn2 fun b _ o e => up b o e⟩ hT hz4 fun c o cz _ c1 c2 e => up c o (hp2.extBut _ _ c2 (hp1.extBut _ _ c1 (hsq.extBut _ _ cz e)))
end
section
variable {prog : Program} {w : World} {A : Around} {E : Value → Shared → Prop} {s : Shared} {e z TI TO i1 i2 : Addr} {fp1 fp2 : List Addr} {n1 n2 i : Nat} {P1 P2 : Nat → Value → Prop} {St1 St2 : Nat → Heap → Prop} {a1 a2 f0 old : Value} {f : Bool} {c : Int}
theorem zipG_end {Q : Fin → Shared → Prop} (S : ZipSep2 z TI TO i1 i2 fp1 fp2) (D1 : Draws prog w A i1 fp1 n1 P1 St1) (D2 : Draws prog w A i2 fp2 n2 P2 St2) (st : EzS z TI TO i1 i2 St1 St2 i s.heap) (hle1 : i ≤ n1) (hle2 : i ≤ n2) (hend : i = n1 ∨ i = n2)
    (hE : ∀ h' tk x, (∀ c o, c ≠ z → c ≠ TO → c ≠ i1 → c ≠ i2 → s.heap.get? c = some o → h'.get? c = some o) → (∃ o, h'.get? x = some o ∧ o.cls = .type "StopIteration") → E (.ref x) { s with heap := h', toks := tk }) :
    wpAny (model prog w) A (Builtin.«zip.__next__» ⟨[.ref z], []⟩) Q E s := by
  obtain ⟨hp, g, d, tk0, os⟩ := s
  obtain ⟨⟨f0, f, h0, hz⟩, hTI, ⟨a1, a2, hTO⟩, st1, st2⟩ := st
  show wpAny _ _ (field (.ref z) 2 >>= _) _ _ _
  refine wpAny_bind (wpAny_field hz rfl (x := .bool false) rfl ?_)
  show wpAny _ _ (field (.ref z) 3 >>= _) _ _ _
  refine wpAny_bind (wpAny_field hz rfl (x := .ref TI) rfl (wpAny_bind (wpAny_seqItems hTI rfl ?_)))
  show wpAny _ _ (Builtin.SmallTypes.ownedTupleIsFree (.ref z) >>= _) _ _ _
  refine wpAny_bind (zipG_free hz h0 fun b f' hq hz hsq => ?_)
  replace hsq : Heap.SameBut z hp hq := hsq
  replace hz : ZipG hq z TI TO f0 f' := hz
  have hTOq : IsTupOf2 hq TO a1 a2 := hsq.extBut _ _ S.TOz hTO
  have st1q := D1.over st1 hsq S.zf1
  have st2q := D2.over st2 hsq S.zf2
  cases b with
  | true =>
    simp only [if_true]
    refine wpAny_bind (wpAny_rule (wpAny_bind (wpAny_field hz rfl (x := .ref TO) rfl (wpAny_bind (wpAny_setField_rec hz (by simp) fun g0 hz0 hs0 => ?_)))))
    replace hz0 : ZipG g0 z TI TO .ellipsis f' := hz0
    replace hs0 : Heap.SameBut z hq g0 := hs0
    refine wpAny_bind ?_
    simp only [List.zipIdx_cons, List.zipIdx_nil, List.forIn_cons, List.forIn_nil]
    refine wpAny_bind (wpAny_bind (wpAny_onRaise ?_))
    show wpAny _ _ (Builtin.SmallTypes.nextOf (.ref i1) >>= _) _ _ ⟨g0, g, d, tk0, os⟩
    by_cases hlt1 : i < n1
    · refine wpAny_bind (D1.item i _ _ _ hlt1 (D1.over st1q hs0 S.zf1) fun x1 p1 tk1 hx1 sn1 hp1 => wpAny_pure ?_)
      replace hp1 : Heap.SameBut i1 g0 p1 := hp1
      have hU1 : IsTupOf2 p1 TO a1 a2 := hp1.extBut _ _ S.Ti1 (hs0.extBut _ _ S.TOz hTOq)
      refine wpAny_bind (wpAny_seqItems (s := ⟨p1, g, d, tk1, os⟩) hU1 rfl (wpAny_bind (updateSeq_IsTupOf2 (s := ⟨p1, g, d, tk1, os⟩) hU1 fun g1 hT1 hs1 => ?_)))
      replace hs1 : Heap.SameBut TO p1 g1 := hs1
      have hi2 : i = n2 := by omega
      refine wpAny_bind (wpAny_letGo (wpAny_pure (wpAny_bind (wpAny_bind (wpAny_onRaise ?_)))))
      show wpAny _ _ (Builtin.SmallTypes.nextOf (.ref i2) >>= _) _ _ ⟨g1, g, d, tk1, os⟩
      refine wpAny_bind (D2.done ⟨g1, g, d, tk1, os⟩ _ _ (by rw [← hi2]; exact D2.over (D2.over (D2.over st2q hs0 S.zf2) hp1 S.sep1_2) hs1 S.Tf2) fun q x hq2 he => ?_)
      obtain ⟨oe, hoe, hce⟩ := he
      replace hq2 : Heap.ExtBut i2 g1 q := hq2
      replace hoe : q.get? x = some oe := hoe
      have hzq : ZipG q z TI TO .ellipsis f' := hq2 _ _ S.zi2 (hs1.extBut _ _ S.TOz.symm (hp1.extBut _ _ S.zi1 hz0))
      have hez : x ≠ z := fun y => by
        subst y
        rw [hzq] at hoe
        cases hoe
        simp at hce
      refine wpAny_setField_rec (s := ⟨q, g, d, tk1, os⟩) hzq (by simp) fun q' _ hq' => ?_
      replace hq' : Heap.SameBut z q q' := hq'
      exact hE q' tk1 x (fun c o cz cT c1 c2 y => hq'.extBut _ _ cz (hq2 _ _ c2 (hs1.extBut _ _ cT (hp1.extBut _ _ c1 (hs0.extBut _ _ cz (hsq.extBut _ _ cz y)))))) ⟨oe, hq'.extBut _ _ hez hoe, hce⟩
    · have hi1 : i = n1 := by omega
      refine wpAny_bind (D1.done ⟨g0, g, d, tk0, os⟩ _ _ (by rw [← hi1]; exact D1.over st1q hs0 S.zf1) fun q x hq2 he => ?_)
      obtain ⟨oe, hoe, hce⟩ := he
      replace hq2 : Heap.ExtBut i1 g0 q := hq2
      replace hoe : q.get? x = some oe := hoe
      have hzq : ZipG q z TI TO .ellipsis f' := hq2 _ _ S.zi1 hz0
      have hez : x ≠ z := fun y => by
        subst y
        rw [hzq] at hoe
        cases hoe
        simp at hce
      refine wpAny_setField_rec (s := ⟨q, g, d, tk0, os⟩) hzq (by simp) fun q' _ hq' => ?_
      replace hq' : Heap.SameBut z q q' := hq'
      exact hE q' tk0 x (fun c o cz cT c1 c2 y => hq'.extBut _ _ cz (hq2 _ _ c1 (hs0.extBut _ _ cz (hsq.extBut _ _ cz y)))) ⟨oe, hq'.extBut _ _ hez hoe, hce⟩
  | false =>
    simp only [Bool.false_eq_true, if_false]
    refine wpAny_bind ?_
    rw [← Array.forIn_toList]
    simp only [List.forIn_cons, List.forIn_nil]
    refine wpAny_bind (wpAny_bind (wpAny_holding ?_))
    show wpAny _ _ (Builtin.SmallTypes.nextOf (.ref i1) >>= _) _ _ ⟨hq, g, d, tk0, os⟩
    by_cases hlt1 : i < n1
    · have hi2 : i = n2 := by omega
      refine wpAny_bind (D1.item i _ _ _ hlt1 st1q fun x1 p1 tk1 hx1 sn1 hp1 => wpAny_pure (wpAny_pure (wpAny_bind (wpAny_bind (wpAny_holding ?_)))))
      replace hp1 : Heap.SameBut i1 hq p1 := hp1
      show wpAny _ _ (Builtin.SmallTypes.nextOf (.ref i2) >>= _) _ _ ⟨p1, g, d, tk1, os⟩
      refine wpAny_bind (D2.done ⟨p1, g, d, tk1, os⟩ _ _ (by rw [← hi2]; exact D2.over st2q hp1 S.sep1_2) fun q x hq2 he => ?_)
      exact hE q tk1 x (fun c o cz _ c1 c2 y => hq2 _ _ c2 (hp1.extBut _ _ c1 (hsq.extBut _ _ cz y))) he
    · have hi1 : i = n1 := by omega
      refine wpAny_bind (D1.done ⟨hq, g, d, tk0, os⟩ _ _ (by rw [← hi1]; exact st1q) fun q x hq2 he => ?_)
      exact hE q tk0 x (fun c o cz _ c1 _ y => hq2 _ _ c1 (hsq.extBut _ _ cz y)) he
theorem EzS.typeIs (st : EzS z TI TO i1 i2 St1 St2 i s.heap) : s.TypeIs (.ref z) "zip" := by
  obtain ⟨f0, f, _, hz⟩ := st.zip
  exact ⟨_, hz, rfl⟩
theorem ez_next {Q : Value → Shared → Prop} (S : ZipSep2 z TI TO i1 i2 fp1 fp2) (D1 : Draws prog w A.in1 i1 fp1 n1 P1 St1) (D2 : Draws prog w A.in1 i2 fp2 n2 P2 St2) (st : EzS z TI TO i1 i2 St1 St2 i s.heap) (hlt1 : i < n1) (hlt2 : i < n2)
    (hQ : ∀ x1 x2 h' tk, P1 i x1 → P2 i x2 → EzS z TI TO i1 i2 St1 St2 (i + 1) h' → IsTupOf2 h' s.heap.objs.size x1 x2 → h'.objs.size = s.heap.objs.size + 1 →
      (∀ c o, c ≠ z → c ≠ TO → c ≠ i1 → c ≠ i2 → s.heap.get? c = some o → h'.get? c = some o) → Q (.ref s.heap.objs.size) { s with heap := h', toks := tk }) :
    wpAny (model prog w) A (Builtin.SmallTypes.nextOf (.ref z)) Q E s := by
  unfold Builtin.SmallTypes.nextOf
  refine wpAny_bind (wpAny_callSpecial?_slot (name := Str.ofString "__next__") st.typeIs F.slot_zip_next (wpAny_call_entry F.slot_zip_next st.typeIs F.entry_zip_next (zipG_item S D1 D2 st hlt1 hlt2 fun x1 x2 h' tk b1 b2 b3 b4 b5 b6 => ?_) (F.args_zip_next_1 _)))
  exact wpAny_pure (hQ x1 x2 h' tk b1 b2 b3 b4 b5 b6)
theorem ez_stop {Q : Value → Shared → Prop} (S : ZipSep2 z TI TO i1 i2 fp1 fp2) (D1 : Draws prog w A.in1 i1 fp1 n1 P1 St1) (D2 : Draws prog w A.in1 i2 fp2 n2 P2 St2) (st : EzS z TI TO i1 i2 St1 St2 i s.heap) (hle1 : i ≤ n1) (hle2 : i ≤ n2) (hend : i = n1 ∨ i = n2)
    (hE : ∀ h' tk x, (∀ c o, c ≠ z → c ≠ TO → c ≠ i1 → c ≠ i2 → s.heap.get? c = some o → h'.get? c = some o) → (∃ o, h'.get? x = some o ∧ o.cls = .type "StopIteration") → E (.ref x) { s with heap := h', toks := tk }) :
    wpAny (model prog w) A (Builtin.SmallTypes.nextOf (.ref z)) Q E s := by
  unfold Builtin.SmallTypes.nextOf
  exact wpAny_bind (wpAny_callSpecial?_slot (name := Str.ofString "__next__") st.typeIs F.slot_zip_next (wpAny_call_entry F.slot_zip_next st.typeIs F.entry_zip_next (zipG_end S D1 D2 st hle1 hle2 hend hE) (F.args_zip_next_1 _)))
end
/-- the enumerate lies apart from the zip's cells -/
structure EzApart (e z TI TO i1 i2 : Addr) (fp1 fp2 : List Addr) : Prop where
  z : e ≠ z
  ti : e ≠ TI
  to : e ≠ TO
  m1 : i1 ∈ fp1
  m2 : i2 ∈ fp2
  f1 : e ∉ fp1
  f2 : e ∉ fp2
theorem EzS.at {prog : Program} {w : World} {A : Around} {z TI TO i1 i2 : Addr} {fp1 fp2 : List Addr} {n1 n2 i : Nat} {P1 P2 : Nat → Value → Prop} {St1 St2 : Nat → Heap → Prop} {h h' : Heap} (st : EzS z TI TO i1 i2 St1 St2 i h) (D1 : Draws prog w A i1 fp1 n1 P1 St1) (D2 : Draws prog w A i2 fp2 n2 P2 St2)
    (k : ∀ b, b = z ∨ b = TI ∨ b = TO ∨ b ∈ fp1 ∨ b ∈ fp2 → ∀ o, h.get? b = some o → h'.get? b = some o) : EzS z TI TO i1 i2 St1 St2 i h' := by
  obtain ⟨⟨f0, f, h0, hz⟩, ti, ⟨a1, a2, to⟩, s1, s2⟩ := st
  exact ⟨⟨f0, f, h0, k _ (.inl rfl) _ hz⟩, k _ (.inr (.inl rfl)) _ ti, ⟨a1, a2, k _ (.inr (.inr (.inl rfl))) _ to⟩, D1.frame _ _ _ s1 fun b hb o q => k b (.inr (.inr (.inr (.inl hb)))) o q, D2.frame _ _ _ s2 fun b hb o q => k b (.inr (.inr (.inr (.inr hb)))) o q⟩
section
variable {prog : Program} {w : World} {A : Around} {E : Value → Shared → Prop} {s : Shared} {e z TI TO i1 i2 : Addr} {fp1 fp2 : List Addr} {n1 n2 i : Nat} {P1 P2 : Nat → Value → Prop} {St1 St2 : Nat → Heap → Prop} {old : Value} {c : Int}
theorem ezn_item0 {Q : Value → Shared → Prop} (S : ZipSep2 z TI TO i1 i2 fp1 fp2) (U : EzApart e z TI TO i1 i2 fp1 fp2) (D1 : Draws prog w A.in1 i1 fp1 n1 P1 St1) (D2 : Draws prog w A.in1 i2 fp2 n2 P2 St2) (he : IsEnum s.heap e z c old) (st : EzS z TI TO i1 i2 St1 St2 i s.heap) (hlt1 : i < n1) (hlt2 : i < n2)
    (hQ : ∀ x1 x2 h' tk, P1 i x1 → P2 i x2 → EzS z TI TO i1 i2 St1 St2 (i + 1) h' → IsTupOf2 h' s.heap.objs.size x1 x2 → IsEnumOut h' e z (c + 1) (.ref s.heap.objs.size) (s.heap.objs.size + 1) →
      h'.get? (s.heap.objs.size + 1) = some { cls := .type "tuple", data := .seq #[.int c tk, .ref s.heap.objs.size] } → h'.objs.size = s.heap.objs.size + 2 →
      (∀ b o, b ≠ e → b ≠ z → b ≠ TO → b ≠ i1 → b ≠ i2 → s.heap.get? b = some o → h'.get? b = some o) → Q (.ref (s.heap.objs.size + 1)) { s with heap := h', toks := tk + 1 }) :
    wpAny (model prog w) A (Builtin.«enumerate.__next__» ⟨[.ref e], []⟩) (fun fin s' => ∃ v, fin = .done (.ret v) ∧ Q v s') E s := by
  obtain ⟨hp, g, d, tk0, os⟩ := s
  have ei1 : e ≠ i1 := fun q => U.f1 (by rw [q]; exact U.m1)
  have ei2 : e ≠ i2 := fun q => U.f2 (by rw [q]; exact U.m2)
  have hel : e < hp.objs.size := Heap.lt_size he
  show wpAny _ _ (field (.ref e) 2 >>= _) _ _ _
  refine wpAny_bind (wpAny_field he rfl (x := .ref z) rfl (wpAny_bind (ez_next S D1 D2 st hlt1 hlt2 fun x1 x2 h1 tk p1 p2 st1 hT1 sz1 k1 => ?_)))
  replace hT1 : IsTupOf2 h1 hp.objs.size x1 x2 := hT1
  replace sz1 : h1.objs.size = hp.objs.size + 1 := sz1
  replace k1 : ∀ c o, c ≠ z → c ≠ TO → c ≠ i1 → c ≠ i2 → hp.get? c = some o → h1.get? c = some o := k1
  have he1 : IsEnum h1 e z c old := k1 e _ U.z U.to ei1 ei2 he
  show wpAny _ _ (field (.ref e) 3 >>= _) _ _ ⟨h1, g, d, tk, os⟩
  refine wpAny_bind (wpAny_field he1 rfl (x := rawInt c) rfl ?_)
  show wpAny _ _ (field (.ref e) 4 >>= _) _ _ ⟨h1, g, d, tk, os⟩
  refine wpAny_bind (wpAny_field he1 rfl (x := .none) rfl ?_)
  show wpAny _ _ (mkInt c >>= _) _ _ ⟨h1, g, d, tk, os⟩
  refine wpAny_bind (wpAny_mkInt ?_)
  show wpAny _ _ (setField (.ref e) 3 (rawInt (c + 1)) >>= _) _ _ ⟨h1, g, d, tk + 1, os⟩
  refine wpAny_bind (wpAny_setField_rec he1 (by simp) fun h2 he2 hs2 => ?_)
  replace hs2 : Heap.SameBut e h1 h2 := hs2
  replace he2 : IsEnum h2 e z (c + 1) old := he2
  show wpAny _ _ (setField (.ref e) 4 .none >>= _) _ _ ⟨h2, g, d, tk + 1, os⟩
  refine wpAny_bind (wpAny_setField_rec he2 (by simp) fun h3 he3 hs3 => ?_)
  replace hs3 : Heap.SameBut e h2 h3 := hs3
  replace he3 : IsEnum h3 e z (c + 1) old := he3
  show wpAny _ _ (newTuple [.int c tk, .ref hp.objs.size] >>= _) _ _ ⟨h3, g, d, tk + 1, os⟩
  refine wpAny_bind (wpAny_newTuple ?_)
  have he4 : IsEnum (h3.push { cls := .type "tuple", data := .seq #[.int c tk, .ref hp.objs.size] }) e z (c + 1) old := Heap.get?_push_of_some _ he3
  generalize hh4 : h3.push { cls := .type "tuple", data := .seq #[.int c tk, .ref hp.objs.size] } = h4 at he4
  have hsz : h3.objs.size = hp.objs.size + 1 := by rw [hs3.1, hs2.1, sz1]
  have ht4 : h4.get? (hp.objs.size + 1) = some { cls := .type "tuple", data := .seq #[.int c tk, .ref hp.objs.size] } := by
    rw [← hh4, ← hsz]
    exact Heap.get?_push_size _ rfl
  have hz4 : h4.objs.size = hp.objs.size + 2 := by rw [← hh4, Heap.size_push, hsz]
  have up4 : ∀ b o, b ≠ e → h1.get? b = some o → h4.get? b = some o := fun b o hb q => by
    rw [← hh4]
    exact Heap.get?_push_of_some _ (hs3.extBut b o hb (hs2.extBut b o hb q))
  show wpAny _ _ (Builtin.SmallTypes.ownedTupleIsFree (.ref e) >>= _) _ _ ⟨h4, g, d, tk + 1, os⟩
  rw [hsz]
  clear hh4 he3 hs3 he2 hs2 hsz h3 h2
  refine wpAny_bind ?_
  unfold Builtin.SmallTypes.ownedTupleIsFree
  refine wpAny_bind (wpAny_field he4 rfl (x := .none) rfl (wpAny_pure ?_))
  simp only [if_true]
  refine wpAny_bind (wpAny_rule (wpAny_bind (wpAny_field he4 rfl (x := old) rfl (wpAny_bind (wpAny_setField_rec he4 (by simp) fun h5 he5 hs5 => ?_)))))
  replace hs5 : Heap.SameBut e h4 h5 := hs5
  replace he5 : IsEnum h5 e z (c + 1) (.ref hp.objs.size) := he5
  show wpAny _ _ (Builtin.SmallTypes.ownedTupleHandOut (.ref e) (.ref (hp.objs.size + 1)) >>= _) _ _ ⟨h5, g, d, tk + 1, os⟩
  refine wpAny_bind ?_
  unfold Builtin.SmallTypes.ownedTupleHandOut
  refine wpAny_bind (wpAny_setField_rec he5 (by simp) fun h6 he6 hs6 => ?_)
  replace hs6 : Heap.SameBut e h5 h6 := hs6
  replace he6 : IsEnumOut h6 e z (c + 1) (.ref hp.objs.size) (hp.objs.size + 1) := he6
  refine wpAny_setField_rec he6 (by simp) fun h7 he7 hs7 => ?_
  replace hs7 : Heap.SameBut e h6 h7 := hs7
  replace he7 : IsEnumOut h7 e z (c + 1) (.ref hp.objs.size) (hp.objs.size + 1) := he7
  have up7 : ∀ b o, b ≠ e → h4.get? b = some o → h7.get? b = some o := fun b o hb q => hs7.extBut b o hb (hs6.extBut b o hb (hs5.extBut b o hb q))
  have n0 : hp.objs.size ≠ e := Nat.ne_of_gt hel
  have n1' : hp.objs.size + 1 ≠ e := Nat.ne_of_gt (Nat.lt_succ_of_lt hel)
  refine wpAny_bind (wpAny_letGo (wpAny_pure ⟨_, rfl, hQ x1 x2 h7 tk p1 p2 ?_ (up7 _ _ n0 (up4 _ _ n0 hT1)) he7 (up7 _ _ n1' ht4) (by rw [hs7.1, hs6.1, hs5.1, hz4]) fun b o b1 b2 b3 b4 b5 q => up7 b o b1 (up4 b o b1 (k1 b o b2 b3 b4 b5 q))⟩))
  refine st1.at D1 D2 fun b hb o q => ?_
  have be : b ≠ e := fun y => by
    subst y
    rcases hb with y | y | y | y | y
    · exact U.z y
    · exact U.ti y
    · exact U.to y
    · exact U.f1 y
    · exact U.f2 y
  exact up7 b o be (up4 b o be q)
theorem ezn_item {Q : Option Value → Shared → Prop} (S : ZipSep2 z TI TO i1 i2 fp1 fp2) (U : EzApart e z TI TO i1 i2 fp1 fp2) (D1 : Draws prog w A.in1.in1 i1 fp1 n1 P1 St1) (D2 : Draws prog w A.in1.in1 i2 fp2 n2 P2 St2) (he : IsEnum s.heap e z c old) (st : EzS z TI TO i1 i2 St1 St2 i s.heap) (hlt1 : i < n1) (hlt2 : i < n2)
    (hQ : ∀ x1 x2 h' tk, P1 i x1 → P2 i x2 → EzS z TI TO i1 i2 St1 St2 (i + 1) h' → IsTupOf2 h' s.heap.objs.size x1 x2 → IsEnumOut h' e z (c + 1) (.ref s.heap.objs.size) (s.heap.objs.size + 1) →
      h'.get? (s.heap.objs.size + 1) = some { cls := .type "tuple", data := .seq #[.int c tk, .ref s.heap.objs.size] } → h'.objs.size = s.heap.objs.size + 2 →
      (∀ b o, b ≠ e → b ≠ z → b ≠ TO → b ≠ i1 → b ≠ i2 → s.heap.get? b = some o → h'.get? b = some o) → Q (some (.ref (s.heap.objs.size + 1))) { s with heap := h', toks := tk + 1 }) :
    wpAny (model prog w) A (pyNext (.ref e)) Q E s := by
  have hT : s.TypeIs (.ref e) "enumerate" := ⟨_, he, rfl⟩
  unfold pyNext
  exact wpAny_bind (wpAny_attempt (wpAny_callSpecial?_slot (name := Str.ofString "__next__") hT F.slot_enumerate_next (wpAny_call_entry F.slot_enumerate_next hT F.entry_enumerate_next
    (ezn_item0 S U D1 D2 he st hlt1 hlt2 fun x1 x2 h' tk b1 b2 b3 b4 b5 b6 b7 b8 => wpAny_pure (hQ x1 x2 h' tk b1 b2 b3 b4 b5 b6 b7 b8)) (F.args_enumerate_next_1 _))))
theorem ezn_end {Q : Option Value → Shared → Prop} (S : ZipSep2 z TI TO i1 i2 fp1 fp2) (D1 : Draws prog w A.in1.in1 i1 fp1 n1 P1 St1) (D2 : Draws prog w A.in1.in1 i2 fp2 n2 P2 St2) (he : IsEnum s.heap e z c old) (st : EzS z TI TO i1 i2 St1 St2 i s.heap) (hle1 : i ≤ n1) (hle2 : i ≤ n2) (hend : i = n1 ∨ i = n2)
    (hQ : ∀ h' tk, (∀ b o, b ≠ z → b ≠ TO → b ≠ i1 → b ≠ i2 → s.heap.get? b = some o → h'.get? b = some o) → Q none { s with heap := h', toks := tk }) : wpAny (model prog w) A (pyNext (.ref e)) Q E s := by
  have hT : s.TypeIs (.ref e) "enumerate" := ⟨_, he, rfl⟩
  unfold pyNext
  refine wpAny_bind (wpAny_attempt (wpAny_callSpecial?_slot (name := Str.ofString "__next__") hT F.slot_enumerate_next (wpAny_call_entry F.slot_enumerate_next hT F.entry_enumerate_next ?_ (F.args_enumerate_next_1 _))))
  show wpAny _ _ (field (.ref e) 2 >>= _) _ _ _
  refine wpAny_bind (wpAny_field he rfl (x := .ref z) rfl (wpAny_bind (ez_stop S D1 D2 st hle1 hle2 hend fun h' tk x k hx => ?_)))
  obtain ⟨o, ho, hc⟩ := hx
  exact wpAny_bind (wpAny_isInstance (T := "StopIteration") (b := true) ⟨o, ho, hc⟩ isSubtype_stop (wpAny_pure (hQ h' tk k)))
end
theorem meets_enum_zip (z TI TO : Addr) : Meets (Builtin.«enumerate.__new__» ⟨[.type "enumerate", .ref z], []⟩) (fun _ R s => IsZip s.heap z TI TO .none ∧
    R (.ok (.ret (.ref s.heap.objs.size))) { s with heap := s.heap.push { cls := .type "enumerate", data := .fields #[.none, .bool false, .ref z, rawInt 0, .none, .none] } }) :=
  .of_wp fun prog w A R s h => by
    obtain ⟨hp, g, d, tk, os⟩ := s
    obtain ⟨hl, h⟩ := h
    have hsub := sub_enumerate
    have hL : ∀ {A' : Around} {E : Value → Shared → Prop} {Q : Value → Shared → Prop}, Q (.ref z) ⟨hp, g, d, tk, os⟩ → wpAny (model prog w) A' (pyIter (.ref z)) Q E ⟨hp, g, d, tk, os⟩ := fun q => wpAny_pyIter_zip hl q
    wp_walk using AutoSeq1.wpAny_loadPart' hl
    refine wpAny_stack_any fun st => wpAny_pure ?_
    split
    · rename_i c _ _ _ _ _
      cases (c == Value.type "enumerate")
      · wp_walk using AutoSeq1.wpAny_loadPart' hl, hL
        exact ⟨_, rfl, h⟩
      · wp_walk using AutoSeq1.wpAny_loadPart' hl, hL
        exact ⟨_, rfl, h⟩
    · wp_walk using AutoSeq1.wpAny_loadPart' hl, hL
      exact ⟨_, rfl, h⟩
theorem call_enum_zip {prog : Program} {w : World} {A : Around} {E : Value → Shared → Prop} {s : Shared} {z TI TO : Addr} {Q : Value → Shared → Prop} (hz : IsZip s.heap z TI TO .none)
    (h : IsEnum (s.heap.push { cls := .type "enumerate", data := .fields #[.none, .bool false, .ref z, rawInt 0, .none, .none] }) s.heap.objs.size z 0 .none →
      Q (.ref s.heap.objs.size) { s with heap := s.heap.push { cls := .type "enumerate", data := .fields #[.none, .bool false, .ref z, rawInt 0, .none, .none] } }) :
    wpAny (model prog w) A (call (.type "enumerate") [.ref z]) Q E s := by
  refine callType_new F.called_enumerate (by decide) (F.typeCall_enumerate_1 _) (F.newCall_enumerate_1 _) (fun obj => F.args_object_init_2 obj _) F.entry_enumerate_new (meets_enum_zip z TI TO) ⟨hz, ?_⟩
  have he : IsEnum (s.heap.push { cls := .type "enumerate", data := .fields #[.none, .bool false, .ref z, rawInt 0, .none, .none] }) s.heap.objs.size z 0 .none := Heap.get?_push_size _ rfl
  exact ⟨⟨_, he, rfl⟩, h he⟩
/-- the signs of two texts by place: each place with the pair of them, in new tuples -/
def ItZ (a b : Str) : It :=
  ⟨fun i _ => i < a.cps.size ∧ i < b.cps.size,
    fun i H v H' => ∃ (T T2 : Addr) (c d : Nat), v = .ref T2 ∧ a.cps[i]? = some c ∧ b.cps[i]? = some d ∧ H T = none ∧ H T2 = none ∧ T ≠ T2 ∧ H' = upd (upd H T (.tup [.str ⟨#[c]⟩, .str ⟨#[d]⟩])) T2 (.tup [.int (i : Nat), .ref T]),
    fun i _ => a.cps.size ≤ i ∨ b.cps.size ≤ i⟩
/-- where its cells stand -/
structure EzT (e z TI TO i1 i2 : Addr) (a b : Str) (ta tb : Tok) (i : Nat) (h : Heap) : Prop where
  le1 : i ≤ a.cps.size
  le2 : i ≤ b.cps.size
  en : ∃ old, IsEnum h e z (i : Nat) old
  st : EzS z TI TO i1 i2 (fun i h => h.IsStrIter i1 (strIterType a) a ta i) (fun i h => h.IsStrIter i2 (strIterType b) b tb i) i h
theorem ez_apart {n : Nat} : ZipSep2 (n + 4) (n + 2) (n + 3) n (n + 1) [n] [n + 1] ∧ EzApart (n + 5) (n + 4) (n + 2) (n + 3) n (n + 1) [n] [n + 1] := by
  constructor
  · constructor <;> simp <;> omega
  · constructor <;> simp <;> omega
theorem turn_ez {P : Program} {w : World} {K : PySem.W.Frag} {elts : List Expr} {kk : Nat} {tpos : Pos} {e z TI TO i1 i2 : Addr} {a b : Str} {ta tb : Tok} (S : ZipSep2 z TI TO i1 i2 [i1] [i2]) (U : EzApart e z TI TO i1 i2 [i1] [i2]) :
    Turn P w K (.Tuple elts kk tpos) (ItZ a b) [e, z, TI, TO, i1, i2] e (EzT e z TI TO i1 i2 a b ta tb) where
  mem := by simp
  obj := fun i h st c hc => by
    obtain ⟨_, _, ⟨old, he⟩, ⟨⟨f0, f, _, hz⟩, hti, ⟨a1, a2, hto⟩, ⟨o1, q1, _, d1⟩, ⟨o2, q2, _, d2⟩⟩⟩ := st
    have e' : c = e ∨ c = z ∨ c = TI ∨ c = TO ∨ c = i1 ∨ c = i2 := by simpa using hc
    rcases e' with q | q | q | q | q | q
    · rw [q]; exact ⟨_, he, fun v q => nomatch q⟩
    · rw [q]; exact ⟨_, hz, fun v q => nomatch q⟩
    · rw [q]; exact ⟨_, hti, fun v q => nomatch q⟩
    · rw [q]; exact ⟨_, hto, fun v q => nomatch q⟩
    · rw [q]; exact ⟨o1, q1, fun v q => by rw [d1] at q; cases q⟩
    · rw [q]; exact ⟨o2, q2, fun v q => by rw [d2] at q; cases q⟩
  keep := fun i h h' st k => by
    obtain ⟨l1, l2, ⟨old, he⟩, ⟨⟨f0, f, h0, hz⟩, hti, ⟨a1, a2, hto⟩, ⟨o1, q1, r1⟩, ⟨o2, q2, r2⟩⟩⟩ := st
    exact ⟨l1, l2, ⟨old, k e (by simp) _ he⟩, ⟨⟨f0, f, h0, k z (by simp) _ hz⟩, k TI (by simp) _ hti, ⟨a1, a2, k TO (by simp) _ hto⟩, ⟨o1, k i1 (by simp) _ q1, r1⟩, ⟨o2, k i2 (by simp) _ q2, r2⟩⟩⟩
  item := by
    intro X hP hw hK hc i pins s σ H E I hf st hg
    subst hP hw hK
    obtain ⟨l1, l2, ⟨old, he⟩, st⟩ := st
    have hh := I.ok.hd hc
    have D1 := Draws.text (prog := X.prog) (w := X.w) (A := X.A.in1.in1) hh i1 a ta
    have D2 := Draws.text (prog := X.prog) (w := X.w) (A := X.A.in1.in1) hh i2 b tb
    have lt : ∀ c ∈ [e, z, TI, TO, i1, i2], c < s.heap.objs.size := fun c hcm => by
      obtain ⟨⟨f0, f, _, hz⟩, hti, ⟨a1, a2, hto⟩, ⟨o1, q1, _⟩, ⟨o2, q2, _⟩⟩ := st
      have e' : c = e ∨ c = z ∨ c = TI ∨ c = TO ∨ c = i1 ∨ c = i2 := by simpa using hcm
      rcases e' with q | q | q | q | q | q
      · rw [q]; exact Heap.lt_size he
      · rw [q]; exact Heap.lt_size hz
      · rw [q]; exact Heap.lt_size hti
      · rw [q]; exact Heap.lt_size hto
      · rw [q]; exact Heap.lt_size q1
      · rw [q]; exact Heap.lt_size q2
    refine ezn_item S U D1 D2 he st hg.1 hg.2 fun x1 x2 h' tk ⟨c, u1, hc1, e1⟩ ⟨d, u2, hd1, e2⟩ st' hT ho hT2 hsz hk => ?_
    subst e1 e2
    refine ⟨_, rfl, wpAny_letOwnedTupleGo_enum (s := { s with heap := h', toks := tk + 1 }) ho fun h'' he' sb => ?_⟩
    replace sb : Heap.SameBut e h' h'' := sb
    have el := lt e (by simp)
    have ne0 : s.heap.objs.size ≠ e := Nat.ne_of_gt el
    have ne1 : s.heap.objs.size + 1 ≠ e := Nat.ne_of_gt (Nat.lt_succ_of_lt el)
    have hT'' : h''.get? s.heap.objs.size = some { cls := .type "tuple", data := .seq #[.str ⟨#[c]⟩ u1, .str ⟨#[d]⟩ u2] } := (sb.2 _ ne0).trans hT
    have hT2'' : h''.get? (s.heap.objs.size + 1) = some { cls := .type "tuple", data := .seq #[.int (i : Nat) tk, .ref s.heap.objs.size] } := (sb.2 _ ne1).trans hT2
    have Im : Inv X pins σ (upd H s.heap.objs.size (.tup [.str ⟨#[c]⟩, .str ⟨#[d]⟩])) { s with heap := s.heap.push { cls := .type "tuple", data := .seq #[.str ⟨#[c]⟩ u1, .str ⟨#[d]⟩ u2] }, toks := tk + 1 } :=
      I.laid (fun b o q => Heap.get?_push_of_some _ q) (Nat.le_refl _) ⟨by show 2 ≤ sizeLine; decide, [.str ⟨#[c]⟩ u1, .str ⟨#[d]⟩ u2], .cons ⟨_, rfl⟩ (.cons ⟨_, rfl⟩ .nil), ⟨_, Heap.get?_push_size _ rfl, rfl, _, rfl⟩⟩
    have szm : (s.heap.push { cls := .type "tuple", data := .seq #[.str ⟨#[c]⟩ u1, .str ⟨#[d]⟩ u2] }).objs.size = s.heap.objs.size + 1 := Heap.size_push ..
    have I2 := Im.turnedNew (h' := h'') (t' := tk + 1) (ch := [e, z, TI, TO, i1, i2]) (T := s.heap.objs.size + 1) (ob := .tup [.int (i : Nat), .ref s.heap.objs.size]) (fun b o hb q => ?_) (fun b hb => ?_) (by rw [← szm]; exact Nat.le_refl _)
      ⟨by show 2 ≤ sizeLine; decide, [.int (i : Nat) tk, .ref s.heap.objs.size], .cons ⟨_, rfl⟩ (.cons rfl .nil), ⟨_, hT2'', rfl, _, rfl⟩⟩
    · refine ⟨.ref (s.heap.objs.size + 1), _, I2, rfl, ⟨_, _, c, d, rfl, hc1, hd1, I.hok.fresh (Nat.le_refl _), I.hok.fresh (Nat.le_succ _), Nat.ne_of_lt (Nat.lt_succ_self _), rfl⟩, ⟨hg.1, hg.2, ⟨.ref s.heap.objs.size, ?_⟩, ?_⟩, fun b hb => ?_⟩
      · have e1 : ((i + 1 : Nat) : Int) = (i : Int) + 1 := by omega
        rw [e1]
        exact he'
      · refine st'.at D1 D2 fun b hb o q => (sb.2 b fun y => ?_).trans q
        subst y
        rcases hb with y | y | y | y | y
        · exact U.z y
        · exact U.ti y
        · exact U.to y
        · exact U.f1 y
        · exact U.f2 y
      · have hl := lt b hb
        rw [upd_ne (Nat.ne_of_lt (Nat.lt_succ_of_lt hl)), upd_ne (Nat.ne_of_lt hl)]
        exact (hf b hb).1
    · simp only [List.mem_cons, List.not_mem_nil, or_false, not_or] at hb
      obtain ⟨b1, b2, _, b4, b5, b6⟩ := hb
      rw [sb.2 b b1]
      rcases Heap.get?_push_cases q with ⟨hn, hob⟩ | q0
      · rw [hn, hob]
        exact hT
      · exact hk b o b1 b2 b4 b5 b6 q0
    · obtain ⟨q0, q1, q2, q3, q4, q5⟩ := hf b hb
      exact ⟨by rw [upd_ne (Nat.ne_of_lt (lt b hb))]; exact q0, q1, q2, q3, q4, q5⟩
  done := by
    intro X hP hw hK hc i pins s σ H E I hf st hg
    subst hP hw hK
    obtain ⟨l1, l2, ⟨old, he⟩, st⟩ := st
    have hh := I.ok.hd hc
    have D1 := Draws.text (prog := X.prog) (w := X.w) (A := X.A.in1.in1) hh i1 a ta
    have D2 := Draws.text (prog := X.prog) (w := X.w) (A := X.A.in1.in1) hh i2 b tb
    have hg' : a.cps.size ≤ i ∨ b.cps.size ≤ i := hg
    refine ezn_end S D1 D2 he st l1 l2 (by omega) fun h' tk hk => ⟨rfl, I.turnedL (t' := tk) (ch := [e, z, TI, TO, i1, i2]) (fun c o hb q => ?_) hf⟩
    simp only [List.mem_cons, List.not_mem_nil, or_false, not_or] at hb
    obtain ⟨_, b2, _, b4, b5, b6⟩ := hb
    exact hk c o b2 b4 b5 b6 q
  self := fun A i s Q E st h => let ⟨_, he⟩ := st.en; wpAny_pyIter_enum he h
def iEZ (ta : TA) : TI := fun σ H R => ta σ H fun vs H1 => ∃ a b, vs = [.str a, .str b] ∧ R (ItZ a b) H1
theorem pi_enumZip {X : Cx} {e1 e2 : Expr} {ta : TA} {p pos p2 pos2 tpos : Pos} {elts : List Expr} {kk : Nat} (hg : Gl X "enumerate") (hm : X.mg "enumerate" = none) (hg2 : Gl X "zip") (hm2 : X.mg "zip" = none) (ha : PA X [e1, e2] ta)
    (hs : starEach [.Call (.Name "zip" p2) [e1, e2] [] pos2] X.env = [(false, eval (.Call (.Name "zip" p2) [e1, e2] [] pos2) X.env)] := by rfl)
    (hs2 : starEach [e1, e2] X.env = (false, eval e1 X.env) :: starEach [e2] X.env := by rfl) (hpl : (backTo pos2 (starEach [e2] X.env)).any (·.1) = false := by rfl) :
    PI X (.Tuple elts kk tpos) (.Call (.Name "enumerate" p) [.Call (.Name "zip" p2) [e1, e2] [] pos2] [] pos) (iEZ ta) := by
  refine ⟨fun pins s σ H R I h => ?_⟩
  refine Call_ (ld_blt I hg hm boot_enumerate (PyProof.Rows.callWith_type1 ?_ hs rfl))
  rw [hs]
  refine Calls.spliced_cons (Call_ (ld_blt I hg2 hm2 PyProof.Rows.boot_zip (PyProof.Rows.callWith_type1 (thn (ha.run pos2 pins s σ H _ I h) fun us s1 ⟨vs, H1, I1, r1, q1⟩ => ?_) hs2 hpl)))
  obtain ⟨a, b, ex, q⟩ := q1
  subst ex
  cases r1 with
  | cons r rr =>
    cases rr with
    | cons r' rr =>
      cases rr
      obtain ⟨ta', rfl⟩ := (show ∃ t, _ = Value.str a t from r)
      obtain ⟨tb', rfl⟩ := (show ∃ t, _ = Value.str b t from r')
      refine zip_begins2 (begins_text a ta') (begins_text b tb') trivial trivial fun h' hz hti hto g1 g2 hsz hk => ?_
      refine Calls.spliced_nil (call_enum_zip (s := { s1 with heap := h' }) hz fun he => ?_)
      obtain ⟨n, hn⟩ : ∃ n, n = s1.heap.objs.size := ⟨_, rfl⟩
      rw [← hn] at hz hti hto g1 g2 hsz
      have he' : IsEnum (h'.push { cls := .type "enumerate", data := .fields #[.none, .bool false, .ref (n + 4), rawInt 0, .none, .none] }) (n + 5) (n + 4) 0 .none := by
        rw [← hsz, hn]
        exact he
      refine wpAny_pyIter_enum he ?_
      have up : ∀ c o, h'.get? c = some o → (h'.push { cls := .type "enumerate", data := .fields #[.none, .bool false, .ref (n + 4), rawInt 0, .none, .none] }).get? c = some o := fun c o e => Heap.get?_push_of_some _ e
      have I2 : Inv X pins σ H1 { s1 with heap := h'.push { cls := .type "enumerate", data := .fields #[.none, .bool false, .ref (n + 4), rawInt 0, .none, .none] } } := I1.kept (t' := s1.toks) fun c o e => up _ _ (hk c o e)
      have ev : Value.ref h'.objs.size = Value.ref (n + 5) := by rw [hsz]
      show PIE X pins σ _ R (Value.ref h'.objs.size) _
      rw [ev, ← hn]
      refine ⟨n + 5, [n + 5, n + 4, n + 2, n + 3, n, n + 1], _, _, H1, rfl, I2, turn_ez (ta := ta') (tb := tb') ez_apart.1 ez_apart.2, ⟨Nat.zero_le _, Nat.zero_le _, ⟨_, he'⟩, ⟨⟨_, _, .inl rfl, up _ _ hz⟩, up _ _ hti, ⟨_, _, up _ _ hto⟩, ⟨_, up _ _ g1, rfl, rfl⟩, ⟨_, up _ _ g2, rfl, rfl⟩⟩⟩, fun b hb => ?_, q⟩
      have hle : s1.heap.objs.size ≤ b := by
        simp only [List.mem_cons, List.not_mem_nil, or_false] at hb
        rw [← hn]
        rcases hb with rfl | rfl | rfl | rfl | rfl | rfl <;> first | exact Nat.le_add_right _ _ | exact Nat.le_refl _
      exact I1.fpOk hle (I1.hok.fresh hle)
/-! ### words that stand at one place, the shorter ones first -/
theorem ltc_cons {a b : Nat} {r t : List Nat} : PySem.Spec.ltCps (a :: r) (b :: t) = false ↔ b ≤ a ∧ (a = b → PySem.Spec.ltCps r t = false) := by
  simp only [PySem.Spec.ltCps, Bool.or_eq_false_iff, decide_eq_false_iff_not, Bool.and_eq_false_iff, beq_eq_false_iff_ne]
  constructor
  · rintro ⟨h1, h2⟩
    refine ⟨by omega, fun e => ?_⟩
    rcases h2 with h | h
    · exact absurd e h
    · exact h
  · rintro ⟨h1, h2⟩
    refine ⟨by omega, ?_⟩
    by_cases e : a = b
    · exact .inr (h2 e)
    · exact .inl e
theorem ltc_tr : ∀ {a b c : List Nat}, PySem.Spec.ltCps b a = false → PySem.Spec.ltCps c b = false → PySem.Spec.ltCps c a = false
  | [], _, [], _, _ => rfl
  | [], _, _ :: _, _, _ => rfl
  | _ :: _, [], _, h, _ => by cases h
  | _ :: _, _ :: _, [], _, h => by cases h
  | x :: a, y :: b, z :: c, h, k => by
    have h1 := ltc_cons.mp h
    have h2 := ltc_cons.mp k
    refine ltc_cons.mpr ⟨by omega, fun e => ?_⟩
    exact ltc_tr (h1.2 (by omega)) (h2.2 (by omega))
theorem rising_all : ∀ {l : List (List Nat)} {p : List Nat}, risingS (S p) (l.map S) = true → ∀ x ∈ l, PySem.Spec.ltCps x p = false
  | [], _, _, _, hx => nomatch hx
  | y :: l, p, h, x, hx => by
    have h' : (!PySem.Spec.ltCps y p && risingS (S y) (l.map S)) = true := h
    rw [Bool.and_eq_true, Bool.not_eq_true'] at h'
    rcases List.mem_cons.mp hx with e | m
    · rw [e]
      exact h'.1
    · exact ltc_tr h'.1 (rising_all h'.2 x m)
theorem rising_tail {l : List (List Nat)} {p : List Nat} (h : risingS (S p) (l.map S) = true) : sortedS (l.map S) = true := by
  cases l with
  | nil => rfl
  | cons y l =>
    have h' : (!PySem.Spec.ltCps y p && risingS (S y) (l.map S)) = true := h
    rw [Bool.and_eq_true] at h'
    exact h'.2
theorem sorted_pw : ∀ {l : List (List Nat)}, sortedS (l.map S) = true → l.Pairwise fun a b => PySem.Spec.ltCps b a = false
  | [], _ => .nil
  | x :: l, h => List.pairwise_cons.mpr ⟨rising_all h, sorted_pw (rising_tail h)⟩
theorem ltc_pre : ∀ {a : List Nat} {n : Nat}, n < a.length → PySem.Spec.ltCps (a.take n) a = true
  | [], _, h => absurd h (Nat.not_lt_zero _)
  | _ :: _, 0, _ => rfl
  | x :: a, n + 1, h => by
    have ih := ltc_pre (a := a) (n := n) (Nat.lt_of_succ_lt_succ h)
    show (decide (x < x) || (x == x && PySem.Spec.ltCps (a.take n) a)) = true
    rw [ih]
    simp
abbrev FnP (K : PySem.W.Frag) (x : Str) (st : Stmt) (f : Addr) (fd : FuncData) : Prop := FunD K x x (defArgs st) (defBody st) (defScope st) [] [] f fd
theorem _root_.L2.FunD.okN {P : Program} {w : World} {K : PySem.W.Frag} {mg : Str → Option Value} {base : Heap} {x qual : Str} {params : Arguments} {body : List Stmt} {scope : Scope} {dvs : List V} {kws : List (Str × V)} {f : Addr} {fd : FuncData}
    {CX : CXT} {N ps : List Str} {k : Nat} {sp : Sp} (F : FunD K x qual params body scope dvs kws f fd) (S : FnScope N ps scope) (len : ∀ vs H Q E, sp vs H Q E → vs.length = ps.length)
    (hbody : ∀ (cdv : Value) (A : Around) (outer : List Env) (s : Shared) (H : Hp) (vs : List V) (Q : VK) (E : XK), Room k (A.deeper (envOfC qual scope s.heap.objs.size f cdv)) → sp vs H Q E →
      ∃ t, PSs (cxOf CX P w K mg base N qual scope f cdv A outer s H E).nox body t ∧ t { nx := fun _ H' => Q .non H', rt := Q } (start N vs) H) : FnOk P w K mg base CX (k + 1) f fd ps sp :=
  F.ok S len fun cdv A outer s H vs Q E hr h =>
    let ⟨t, q, r⟩ := hbody cdv A outer s H vs Q E hr h
    ⟨t, q.nox, r⟩
theorem same_upd {H : Hp} {p : Addr} {o : HO} (h : H p = none) : Same H (upd H p o) := fun b x e => by
  rw [upd_ne (ne_of_none e h)]
  exact e
/-- a def of the text whose function object, name and binding are known -/
structure Has (K : PySem.W.Frag) (mg : Str → Option Value) (x : Str) (st : Stmt) (ps : List Str) (f : Addr) (fd : FuncData) : Prop where
  F : FnP K x st f fd
  g : mg x = some (.ref f)
  b : Binds K fd ps []
/-- a def of the text stands behind the top -/
def There (K : PySem.W.Frag) (mg : Str → Option Value) (x : Str) (st : Stmt) (ps : List Str) : Prop := ∃ f fd, Has K mg x st ps f fd
section
variable {P : Program} {w : World} {K : PySem.W.Frag} {mg : Str → Option Value} {base : Heap} {f : Addr} {fd : FuncData}
theorem scAt : FnScope ["_law_script", "_law_k"] ["_law_script", "_law_k"] (defScope sAt) := ⟨rfl, rfl, rfl, by decide +kernel, rfl, by decide +kernel, by decide +kernel⟩
def spAt (K : PySem.W.Frag) : Sp := fun vs H Q _ => ∃ (a : Addr) (ns : List Int) (k : Int), vs = [.ref a, .int k] ∧ SqL K H a (ns.map V.int) ∧ 0 ≤ k ∧ ∀ v : Int, Q (.int v) H
theorem ok_at (F : FnP K "_law_at" sAt f fd) (mL : mg "len" = none) : FnOk P w K mg base CX0 1 f fd ["_law_script", "_law_k"] (spAt K) := by
  refine F.okN scAt (fun vs H Q E h => ?_) (fun cdv A outer s H vs Q E hr h => ?_)
  · obtain ⟨a, ns, k, rfl, _⟩ := h
    rfl
  · obtain ⟨a, ns, k, rfl, hS, hk, q⟩ := h
    refine ⟨_, pss_cons (ps_if (pt_cmpR op_lt (pv 1) (pe_callB call_len_seq (by rfl) mL boot_len (pa_cons (pv 0) pa_nil)) (nomark _))
        (pss_one (ps_ret (pe_ix ix_list (pv 0) (pv 1) (fun _ _ => rfl)))) pss_nil) (pss_one (ps_ret pe_int)), ?_⟩
    refine ⟨_, rfl, _, rfl, a, ns.map V.int, rfl, .inl hS, k, _, rfl, rfl, _, rfl, ite2 (fun c => ?_) (fun c => ?_)⟩
    · have c1 : k < ((ns.map V.int).length : Int) := of_decide_eq_true c
      rw [List.length_map] at c1
      have hi : k.toNat < ns.length := by omega
      refine ⟨_, rfl, _, rfl, a, ns.map V.int, k, .int ns[k.toNat], rfl, rfl, hS, at_of (j := k.toNat) (by omega) ?_, q _⟩
      rw [List.getElem?_map, List.getElem?_eq_getElem hi]
      rfl
    · exact q 0
theorem scMixed : FnScope ["_law_cell", "_law_k", "_law_number"] ["_law_cell", "_law_k"] (defScope sMixed) := ⟨rfl, rfl, rfl, by decide +kernel, rfl, by decide +kernel, by decide +kernel⟩
def spMixed : Sp := fun vs H Q _ => ∃ (c k : Int), vs = [.int c, .int k] ∧ ∀ v : Int, 0 ≤ v → v < 2147483629 → Q (.int v) H
theorem ok_mixed (F : FnP K "_law_mixed" sMixed f fd) : FnOk P w K mg base CX0 1 f fd ["_law_cell", "_law_k"] spMixed := by
  refine F.okN scMixed (fun vs H Q E h => ?_) (fun cdv A outer s H vs Q E hr h => ?_)
  · obtain ⟨c, k, rfl, _⟩ := h
    rfl
  · obtain ⟨c, k, rfl, q⟩ := h
    refine ⟨_, pss_cons (ps_set (i := 2) scMixed.nd rfl (.inl rfl) (pe_op op_mod (pe_op op_mul (pe_op op_add (pe_op op_add (pv 0) (pe_op op_mul pe_int (pv 1))) pe_int) pe_int) pe_int))
      (pss_one (ps_ret (pe_op op_mod (pe_op op_mul (pv 2) (pv 2)) pe_int))), ?_⟩
    refine ⟨_, rfl, _, rfl, 7919, k, rfl, rfl, .inl ⟨by decide, by decide⟩, _, _, rfl, rfl, _, _, rfl, rfl, _, _, rfl, rfl, .inr ⟨by decide, by decide⟩, _, _, rfl, rfl, (by show (0 : Int) < 2147483647; decide), ?_⟩
    have h1 := Int.emod_nonneg ((c + 7919 * k + 3) * 48271) (show (2147483647 : Int) ≠ 0 by decide)
    have h2 := Int.emod_lt_of_pos ((c + 7919 * k + 3) * 48271) (show (0 : Int) < 2147483647 by decide)
    refine ⟨_, rfl, _, rfl, _, _, rfl, rfl, .inl ⟨by omega, by omega⟩, _, _, rfl, rfl, (by show (0 : Int) < 2147483629; decide), ?_⟩
    exact q _ (Int.emod_nonneg _ (by decide)) (Int.emod_lt_of_pos _ (by decide))
end
/-! ### texts by their codes -/
abbrev tx (l : List Nat) : V := V.str (S l)
def Let (l : List Nat) : Prop := ∀ c ∈ l, 97 ≤ c ∧ c ≤ 122
def WordOk (l : List Nat) : Prop := 1 ≤ l.length ∧ l.length ≤ 10 ∧ Let l
theorem Let.app {a b : List Nat} (x : Let a) (y : Let b) : Let (a ++ b) := fun c h => (List.mem_append.mp h).elim (x c) (y c)
theorem Let.sub {a b : List Nat} (x : Let a) (h : ∀ c ∈ b, c ∈ a) : Let b := fun c q => x c (h c q)
theorem Let.one {c : Nat} (h : 97 ≤ c ∧ c ≤ 122) : Let [c] := fun d q => by
  rw [List.mem_singleton.mp q]
  exact h
theorem tx_eq {a b : List Nat} : decide (V.str (S a) = V.str (S b)) = decide (a = b) := by
  rw [Bool.eq_iff_iff, decide_eq_true_eq, decide_eq_true_eq]
  exact ⟨fun h => S_inj (V.str.inj h), fun h => by rw [h]⟩
theorem joinE : ∀ ys : List (List Nat), TL.joinL [] ys = ys.flatten
  | [] => rfl
  | [x] => by
    show x = [x].flatten
    simp
  | x :: y :: r => by
    have ih := joinE (y :: r)
    have e : TL.joinL [] (x :: y :: r) = x ++ ([] ++ TL.joinL [] (y :: r)) := by simp [TL.joinL]
    rw [e, ih, List.nil_append, ← List.flatten_cons]
theorem join0 (ys : List (List Nat)) : Txt.join (Str.ofString "") (ys.map S) = S ys.flatten := by
  rw [show Str.ofString "" = S [] by decide +kernel, join_S, joinE]
theorem map_tx (ys : List (List Nat)) : ys.map tx = (ys.map S).map V.str := by rw [List.map_map]; rfl
theorem lenS (ys : List (List Nat)) : ((ys.map S).map (·.length)) = ys.map (·.length) := SX.lens ys
theorem empLen : (Str.ofString "").length = 0 := by decide +kernel
abbrev alpha : List Nat := [97,98,99,100,101,102,103,104,105,106,107,108,109,110,111,112,113,114,115,116,117,118,119,120,121,122]
theorem alphaS : Str.ofString "abcdefghijklmnopqrstuvwxyz" = S alpha := by decide +kernel
theorem alphaLet : Let alpha := by
  have h : alpha.all (fun c => decide (97 ≤ c) && decide (c ≤ 122)) = true := by decide
  intro c hc
  have q := List.all_eq_true.mp h c hc
  simp only [Bool.and_eq_true, decide_eq_true_eq] at q
  exact q
theorem at_ofI {α : Type} {xs : List α} {i : Int} {v : α} (h0 : 0 ≤ i) (h : xs[i.toNat]? = some v) : atI xs i = some v := by
  have e : ((i.toNat : Nat) : Int) = i := by omega
  have q := atI_nat h
  rw [e] at q
  exact q
/-- an item of a list at a place within it -/
theorem at_in {α : Type} (xs : List α) {i : Int} (h0 : 0 ≤ i) (h : i < (xs.length : Int)) : ∃ c ∈ xs, atI xs i = some c := by
  have hi : i.toNat < xs.length := by omega
  exact ⟨xs[i.toNat], List.getElem_mem hi, at_ofI h0 (List.getElem?_eq_getElem hi)⟩
theorem at_map {α : Type} (g : α → V) (xs : List α) {i : Int} (h0 : 0 ≤ i) (h : i < (xs.length : Int)) : ∃ c ∈ xs, atI (xs.map g) i = some (g c) := by
  obtain ⟨v, hv, e⟩ := at_in (xs.map g) h0 (by rw [List.length_map]; exact h)
  obtain ⟨c, hc, rfl⟩ := List.mem_map.mp hv
  exact ⟨c, hc, e⟩
theorem flat_len {ys : List (List Nat)} (h : ∀ y ∈ ys, y.length = 1) : ys.flatten.length = ys.length := by
  induction ys with
  | nil => rfl
  | cons y r ih =>
    rw [List.flatten_cons, List.length_append, h y List.mem_cons_self, ih fun z hz => h z (List.mem_cons_of_mem _ hz), List.length_cons]
    omega
theorem flat_let {ys : List (List Nat)} (h : ∀ y ∈ ys, Let y) : Let ys.flatten := fun c hc => by
  obtain ⟨y, hy, q⟩ := List.mem_flatten.mp hc
  exact h y hy c q
theorem sum_ones {ys : List (List Nat)} (h : ∀ y ∈ ys, y.length = 1) : ((ys.map S).map (·.length)).sum = ys.length := by
  rw [lenS, ← flat_len h, List.length_flatten]
section
variable {P : Program} {w : World} {K : PySem.W.Frag} {mg : Str → Option Value} {base : Heap} {f : Addr} {fd : FuncData}
theorem scSigns : FnScope ["_law_cell", "_law_some", "_law_many", "_law_k"] ["_law_cell"] (defScope sSigns) := ⟨rfl, rfl, rfl, by decide +kernel, rfl, by decide +kernel, by decide +kernel⟩
def spSigns : Sp := fun vs H Q _ => ∃ (c : Int), vs = [.int c] ∧ ∀ (l : List Nat) (H' : Hp), Same H H' → Let l → 1 ≤ l.length → l.length ≤ 5 → Q (tx l) H'
theorem ok_signs (F : FnP K "_law_signs" sSigns f fd) (mR : mg "range" = none) : FnOk P w K mg base CX0 1 f fd ["_law_cell"] spSigns := by
  refine F.okN scSigns (fun vs H Q E h => ?_) (fun cdv A outer s H vs Q E hr h => ?_)
  · obtain ⟨c, rfl, _⟩ := h
    rfl
  · obtain ⟨c, rfl, q⟩ := h
    refine ⟨_, pss_cons (ps_set (i := 1) scSigns.nd rfl (.inr rfl) pe_str)
      (pss_cons (ps_set (i := 2) scSigns.nd rfl (.inl rfl) (pe_ix ix_list (pe_lst (pa_cons pe_int (pa_cons pe_int (pa_cons pe_int (pa_cons pe_int (pa_cons pe_int (pa_cons pe_int pa_nil))))))) (pe_op op_mod (pv 0) pe_int) (fun _ _ => rfl)))
      (pss_one (ps_ret (pe_join pe_str (pe_lc (own := [("_law_k", 3)]) (g := gName 3) (tt := tYes) rfl scSigns.nd (pi_range1 (by rfl) mR (pa_cons (pv 2) pa_nil)) (blkOk_by (own := [("_law_k", 3)]) (N := ["_law_cell", "_law_some", "_law_many", "_law_k"]) (sc := defScope sSigns) (by decide +kernel))
        (fun _ _ _ _ _ => pg_name (i := 3) scSigns.nd rfl (Or.inl rfl)) (fun _ _ _ _ _ => pts_nil)
        (fun _ _ _ _ _ => pe_ix ix_str (pv 1) (pe_op op_mod (pe_op op_add (pe_op op_fdiv (pv 0) pe_int) (pe_op op_mul (pe_op op_add pe_int (pe_op op_mod (pe_op op_fdiv (pv 0) pe_int) pe_int)) (pv 3))) pe_int) (fun _ _ => rfl))))))), ?_⟩
    -- _law_many = [2, 1, 2, 3, 2, 5][cell % 6]
    refine ⟨by show 6 ≤ sizeLine; decide, fun p hp => ⟨_, rfl, _, _, rfl, rfl, (by show (0 : Int) < 6; decide), ?_⟩⟩
    obtain ⟨m, hm, em⟩ := at_map V.int [2, 1, 2, 3, 2, 5] (i := c % 6) (Int.emod_nonneg _ (by decide)) (Int.emod_lt_of_pos _ (by decide))
    have hm1 : 1 ≤ m ∧ m ≤ 5 := by
      simp only [List.mem_cons, List.not_mem_nil, or_false] at hm
      omega
    refine ⟨p, _, _, _, rfl, rfl, .inl (.inl upd_same), em, ?_⟩
    -- ''.join([.. for _law_k in range(_law_many)])
    refine ⟨⟨_, rfl⟩, _, rfl, m, rfl, by omega, by omega, fun D hD => ?_⟩
    have s1 : Same H (upd H p (.lst ([2, 1, 2, 3, 2, 5].map V.int))) := same_upd hp
    refine lc_range (lo := 0) (n := m.toNat) (fun i H1 => Same H H1 ∧ ∃ ys : List (List Nat), H1 D = some (.lst (ys.map tx)) ∧ ys.length = i ∧ ∀ y ∈ ys, y.length = 1 ∧ Let y) ?_ ?_ ?_
    · exact ⟨s1.trans (same_upd hD), [], upd_same, rfl, fun y hy => nomatch hy⟩
    · rintro i H1 hi ⟨sm, ys, eD, el, hy⟩
      refine ⟨rfl, ?_⟩
      obtain ⟨d, hd, ed⟩ := at_in alpha (i := (c / 6 + (1 + c / 156 % 25) * (0 + (i : Int))) % 26) (Int.emod_nonneg _ (by decide)) (Int.emod_lt_of_pos _ (by decide))
      have b1 := Int.emod_nonneg (c / 156) (show (25 : Int) ≠ 0 by decide)
      have b2 := Int.emod_lt_of_pos (c / 156) (show (0 : Int) < 25 by decide)
      refine ⟨_, rfl, _, rfl, _, _, rfl, rfl, ⟨by decide, by decide⟩, _, rfl, _, _, rfl, rfl, ⟨by decide, by decide⟩, _, _, rfl, rfl, (by show (0 : Int) < 25; decide), _, _, rfl, rfl, _, rfl, _, _, rfl, rfl, .inl ⟨by omega, by omega⟩, _, _, rfl, rfl, _, _, rfl, rfl, (by show (0 : Int) < 26; decide), ?_⟩
      refine ⟨_, _, d, rfl, rfl, by decide +kernel, by rw [alphaS]; exact ed, ?_⟩
      refine ⟨ys.map tx, eD, ?_, ?_⟩
      · rw [List.length_map, el]
        exact small1000 (by omega)
      · refine ⟨fun b o e => ?_, ys ++ [[d]], ?_, by rw [List.length_append, el]; rfl, fun y hy' => ?_⟩
        · have nb : b ≠ D := ne_of_none (s1 _ _ e) hD
          rw [upd_ne nb]
          exact sm _ _ e
        · rw [upd_same, List.map_append]
          rfl
        · rcases List.mem_append.mp hy' with z | z
          · exact hy y z
          · rw [List.mem_singleton.mp z]
            exact ⟨rfl, Let.one (alphaLet d hd)⟩
    · rintro H1 ⟨sm, ys, eD, el, hy⟩
      have h1 : ∀ y ∈ ys, y.length = 1 := fun y h => (hy y h).1
      refine ⟨_, D, ys.map S, rfl, rfl, .inl (.inl (.inl (by rw [← map_tx]; exact eD))), ?_, ?_⟩
      · rw [sum_ones h1, List.length_map, empLen]
        omega
      · rw [join0]
        exact q _ _ sm (flat_let fun y h => (hy y h).2) (by rw [flat_len h1]; omega) (by rw [flat_len h1]; omega)
end
section
variable {P : Program} {w : World} {K : PySem.W.Frag} {mg : Str → Option Value} {base : Heap} {f fM : Addr} {fd fdM : FuncData}
theorem scWord : FnScope ["_law_cell", "_law_signs_here", "_law_size", "_law_j"] ["_law_cell", "_law_signs_here"] (defScope sWord) := ⟨rfl, rfl, rfl, by decide +kernel, rfl, by decide +kernel, by decide +kernel⟩
def spWord : Sp := fun vs H Q _ => ∃ (c : Int) (l : List Nat), vs = [.int c, tx l] ∧ Let l ∧ 1 ≤ l.length ∧ l.length ≤ 1000 ∧ ∀ (y : List Nat) (H' : Hp), Same H H' → WordOk y → Q (tx y) H'
theorem ok_word (F : FnP K "_law_word" sWord f fd) (M : Has K mg "_law_mixed" sMixed ["_law_cell", "_law_k"] fM fdM) (mR : mg "range" = none) (mL : mg "len" = none) : FnOk P w K mg base CX0 2 f fd ["_law_cell", "_law_signs_here"] spWord := by
  have GM : FnOk P w K mg base CX0 1 fM fdM ["_law_cell", "_law_k"] spMixed := ok_mixed M.F
  refine F.okN scWord (fun vs H Q E h => ?_) (fun cdv A outer s H vs Q E hr h => ?_)
  · obtain ⟨c, l, rfl, _⟩ := h
    rfl
  · obtain ⟨c, l, rfl, hl, l1, l2, q⟩ := h
    refine ⟨_, pss_cons (ps_set (i := 2) scWord.nd rfl (.inl rfl) (pe_ix ix_list (pe_lst (pa_cons pe_int (pa_cons pe_int (pa_cons pe_int (pa_cons pe_int (pa_cons pe_int (pa_cons (pe_op op_add pe_int (pe_op op_mod (pe_op op_fdiv (pv 0) pe_int) pe_int)) (pa_cons pe_int (pa_cons pe_int pa_nil))))))))) (pe_op op_mod (pv 0) pe_int) (fun _ _ => rfl)))
      (pss_one (ps_ret (pe_join pe_str (pe_lc (own := [("_law_j", 3)]) (g := gName 3) (tt := tYes) rfl scWord.nd (pi_range1 (by rfl) mR (pa_cons (pv 2) pa_nil)) (blkOk_by (own := [("_law_j", 3)]) (N := ["_law_cell", "_law_signs_here", "_law_size", "_law_j"]) (sc := defScope sWord) (by decide +kernel))
        (fun _ _ _ _ _ => pg_name (i := 3) scWord.nd rfl (Or.inl rfl)) (fun _ _ _ _ _ => pts_nil)
        (fun _ _ _ _ _ => pe_ix ix_str (pv 1) (pe_op op_mod (pe_op op_fdiv (pe_call GM hr (by rfl) M.g M.F.kp M.b .nil pass0 (pa_cons (pv 0) (pa_cons (pv 3) pa_nil))) pe_int) (pe_callB call_len_str (by rfl) mL boot_len (pa_cons (pv 1) pa_nil))) (fun _ _ => rfl)))))), ?_⟩
    have b1 := Int.emod_nonneg (c / 8) (show (10 : Int) ≠ 0 by decide)
    have b2 := Int.emod_lt_of_pos (c / 8) (show (0 : Int) < 10 by decide)
    refine ⟨_, rfl, _, _, rfl, rfl, ⟨by decide, by decide⟩, _, _, rfl, rfl, (by show (0 : Int) < 10; decide), _, _, rfl, rfl, by show 8 ≤ sizeLine; decide, fun p hp => ⟨_, rfl, _, _, rfl, rfl, (by show (0 : Int) < 8; decide), ?_⟩⟩
    obtain ⟨m, hm, em⟩ := at_map V.int [1, 2, 3, 2, 4, 1 + c / 8 % 10, 3, 2] (i := c % 8) (Int.emod_nonneg _ (by decide)) (Int.emod_lt_of_pos _ (by decide))
    have hm1 : 1 ≤ m ∧ m ≤ 10 := by
      simp only [List.mem_cons, List.not_mem_nil, or_false] at hm
      omega
    refine ⟨p, _, _, _, rfl, rfl, .inl (.inl upd_same), em, ?_⟩
    refine ⟨⟨_, rfl⟩, _, rfl, m, rfl, by omega, by omega, fun D hD => ?_⟩
    have s1 : Same H (upd H p (.lst ([1, 2, 3, 2, 4, 1 + c / 8 % 10, 3, 2].map V.int))) := same_upd hp
    refine lc_range (lo := 0) (n := m.toNat) (fun i H1 => Same H H1 ∧ ∃ ys : List (List Nat), H1 D = some (.lst (ys.map tx)) ∧ ys.length = i ∧ ∀ y ∈ ys, y.length = 1 ∧ Let y) ?_ ?_ ?_
    · exact ⟨s1.trans (same_upd hD), [], upd_same, rfl, fun y hy => nomatch hy⟩
    · rintro i H1 hi ⟨sm, ys, eD, el, hy⟩
      refine ⟨rfl, ?_⟩
      refine ⟨_, rfl, _, rfl, _, rfl, c, _, rfl, fun v v0 v1 => ?_⟩
      have lz : (S l).length = l.length := S_len l
      obtain ⟨d, hd, ed⟩ := at_in l (i := v / 64 % (l.length : Int)) (Int.emod_nonneg _ (by omega)) (Int.emod_lt_of_pos _ (by omega))
      refine ⟨_, _, rfl, rfl, ⟨by decide, by decide⟩, _, rfl, S l, rfl, by rw [lz]; exact Nat.le_of_lt (small1000 l2), _, _, rfl, rfl, (by show (0 : Int) < ((S l).length : Int); rw [lz]; omega), ?_⟩
      refine ⟨S l, _, d, rfl, rfl, by rw [lz]; exact Nat.le_of_lt (small1000 l2), by rw [lz]; exact ed, ?_⟩
      refine ⟨ys.map tx, eD, ?_, ?_⟩
      · rw [List.length_map, el]
        exact small1000 (by omega)
      · refine ⟨fun b o e => ?_, ys ++ [[d]], ?_, by rw [List.length_append, el]; rfl, fun y hy' => ?_⟩
        · have nb : b ≠ D := ne_of_none (s1 _ _ e) hD
          rw [upd_ne nb]
          exact sm _ _ e
        · rw [upd_same, List.map_append]
          rfl
        · rcases List.mem_append.mp hy' with z | z
          · exact hy y z
          · rw [List.mem_singleton.mp z]
            exact ⟨rfl, Let.one (hl d hd)⟩
    · rintro H1 ⟨sm, ys, eD, el, hy⟩
      have h1 : ∀ y ∈ ys, y.length = 1 := fun y h => (hy y h).1
      refine ⟨_, D, ys.map S, rfl, rfl, .inl (.inl (.inl (by rw [← map_tx]; exact eD))), ?_, ?_⟩
      · rw [sum_ones h1, List.length_map, empLen]
        omega
      · rw [join0]
        exact q _ _ sm ⟨by rw [flat_len h1]; omega, by rw [flat_len h1]; omega, flat_let fun y h => (hy y h).2⟩
end
/-! ### slices of texts -/
theorem sIx_pos (n d : Nat) {i : Int} (h : 0 ≤ i) : HT.sIx n d (some i) = min i.toNat n := by
  have e : i = ((i.toNat : Nat) : Int) := by omega
  have q := HT.sIx_nat n d i.toNat
  rw [← e] at q
  exact q
theorem cut_from {l : List Nat} {i : Int} (h : 0 ≤ i) : cutS (S l) (some i) none = S (l.drop i.toNat) := by
  unfold cutS
  rw [sIx_pos _ _ h, HT.sIx_none, S_len]
  refine congrArg S ?_
  show (l.drop (min i.toNat l.length)).take (l.length - min i.toNat l.length) = l.drop i.toNat
  rw [List.take_of_length_le (by rw [List.length_drop]; omega)]
  by_cases c : i.toNat ≤ l.length
  · rw [Nat.min_eq_left c]
  · rw [Nat.min_eq_right (by omega), List.drop_of_length_le (Nat.le_refl _), List.drop_of_length_le (by omega)]
theorem cut_to {l : List Nat} {i : Int} (h : 0 ≤ i) : cutS (S l) none (some i) = S (l.take i.toNat) := by
  unfold cutS
  rw [sIx_pos _ _ h, HT.sIx_none, S_len]
  refine congrArg S ?_
  show (l.drop 0).take (min i.toNat l.length - 0) = l.take i.toNat
  rw [List.drop_zero, Nat.sub_zero]
  by_cases c : i.toNat ≤ l.length
  · rw [Nat.min_eq_left c]
  · rw [Nat.min_eq_right (by omega), List.take_of_length_le (Nat.le_refl _), List.take_of_length_le (by omega)]
theorem cut_mid {l : List Nat} {i j : Int} (h : 0 ≤ i) (h2 : 0 ≤ j) : cutS (S l) (some i) (some j) = S ((l.drop i.toNat).take (j.toNat - i.toNat)) := by
  unfold cutS
  rw [sIx_pos _ _ h, sIx_pos _ _ h2, S_len]
  refine congrArg S ?_
  show (l.drop (min i.toNat l.length)).take (min j.toNat l.length - min i.toNat l.length) = (l.drop i.toNat).take (j.toNat - i.toNat)
  by_cases c : i.toNat ≤ l.length
  · rw [Nat.min_eq_left c]
    by_cases d : j.toNat ≤ l.length
    · rw [Nat.min_eq_left d]
    · rw [Nat.min_eq_right (by omega), List.take_of_length_le (by rw [List.length_drop]; omega), List.take_of_length_le (by rw [List.length_drop]; omega)]
  · have e1 : min i.toNat l.length = l.length := Nat.min_eq_right (by omega)
    rw [e1, List.drop_of_length_le (Nat.le_refl _), List.drop_of_length_le (by omega : l.length ≤ i.toNat), List.take_nil, List.take_nil]
theorem let_drop {l : List Nat} (h : Let l) (n : Nat) : Let (l.drop n) := h.sub fun _ q => List.mem_of_mem_drop q
theorem let_take {l : List Nat} (h : Let l) (n : Nat) : Let (l.take n) := h.sub fun _ q => List.mem_of_mem_take q
theorem size1000 {n : Nat} (h : n ≤ 1000) : n ≤ sizeLine := Nat.le_of_lt (small1000 h)
section
variable {P : Program} {w : World} {K : PySem.W.Frag} {mg : Str → Option Value} {base : Heap} {f fM fW : Addr} {fd fdM fdW : FuncData}
theorem scAny : FnScope ["_law_cell", "_law_word_here", "_law_more_here", "_law_j"] ["_law_cell"] (defScope sAny) := ⟨rfl, rfl, rfl, by decide +kernel, rfl, by decide +kernel, by decide +kernel⟩
def spAny : Sp := fun vs H Q _ => ∃ (c : Int), vs = [.int c] ∧ ∀ (y : List Nat), WordOk y → Q (tx y) H
theorem ok_any (F : FnP K "_law_any_word" sAny f fd) (mR : mg "range" = none) : FnOk P w K mg base CX0 1 f fd ["_law_cell"] spAny := by
  refine F.okN scAny (fun vs H Q E h => ?_) (fun cdv A outer s H vs Q E hr h => ?_)
  · obtain ⟨c, rfl, _⟩ := h
    rfl
  · obtain ⟨c, rfl, q⟩ := h
    refine ⟨_, pss_cons (ps_set (i := 1) scAny.nd rfl (.inl rfl) pe_str) (pss_cons (ps_set (i := 2) scAny.nd rfl (.inl rfl) (pe_op op_fdiv (pv 0) pe_int))
      (pss_cons (ps_for PassesOwn.never rfl (pi_range1 (by rfl) mR (pa_cons (pe_op op_add pe_int (pe_op op_mod (pv 0) pe_int)) pa_nil)) (pg_name (i := 3) scAny.nd rfl (Or.inl rfl))
        (pss_cons (ps_set (i := 1) scAny.nd rfl (.inl rfl) (pe_op op_add_str (pv 1) (pe_ix ix_str pe_str (pe_op op_mod (pv 2) pe_int) (fun _ _ => rfl))))
          (pss_one (ps_set (i := 2) scAny.nd rfl (.inl rfl) (pe_op op_fdiv (pv 2) pe_int)))))
      (pss_one (ps_ret (pv 1))))), ?_⟩
    have b1 := Int.emod_nonneg c (show (10 : Int) ≠ 0 by decide)
    have b2 := Int.emod_lt_of_pos c (show (0 : Int) < 10 by decide)
    refine ⟨_, rfl, _, _, rfl, rfl, ⟨by decide, by decide⟩, ?_⟩
    refine ⟨_, rfl, _, _, rfl, rfl, (by show (0 : Int) < 10; decide), _, _, rfl, rfl, _, rfl, by omega, by omega, ?_⟩
    refine for_range (lo := 0) (n := (1 + c % 10).toNat) (fun i σ H1 => H1 = H ∧ ∃ (y : List Nat) (m : Int) (kv : Option V), σ = [some (.int c), some (tx y), some (.int m), kv] ∧ y.length = i ∧ Let y) ?_ ?_ ?_
    · refine ⟨rfl, [], c / 10, none, ?_, rfl, fun c hc => nomatch hc⟩
      show [some (V.int c), some (V.str (Str.ofString "")), some (V.int (c / 10)), none] = _
      rw [show Str.ofString "" = S [] by decide +kernel]
    · rintro i σ H1 hi ⟨rfl, y, m, kv, rfl, el, hy⟩
      obtain ⟨d, hd, ed⟩ := at_in alpha (i := m % 26) (Int.emod_nonneg _ (by decide)) (Int.emod_lt_of_pos _ (by decide))
      refine ⟨_, rfl, _, rfl, _, _, rfl, rfl, (by show (0 : Int) < 26; decide), _, _, d, rfl, rfl, by decide +kernel, by rw [alphaS]; exact ed, S y, ⟨#[d]⟩, rfl, rfl, ?_, ?_⟩
      · rw [S_len, el]
        show i + 1 ≤ sizeLine
        exact size1000 (by omega)
      · refine ⟨_, rfl, _, _, rfl, rfl, ⟨by decide, by decide⟩, rfl, y ++ [d], m / 26, some (.int (0 + (i : Int))), ?_, by rw [List.length_append, el]; rfl, hy.app (Let.one (alphaLet d hd))⟩
        have e : (S y ++ (⟨#[d]⟩ : Str)) = S (y ++ [d]) := S_cat y [d]
        rw [e]
        rfl
    · rintro σ H1 ⟨rfl, y, m, kv, rfl, el, hy⟩
      exact ⟨_, rfl, q y ⟨by omega, by omega, hy⟩⟩
theorem scMore : FnScope ["_law_words_here", "_law_cell", "_law_signs_here", "_law_one", "_law_other", "_law_at_here", "_law_some"] ["_law_words_here", "_law_cell", "_law_signs_here"] (defScope sMore) := ⟨rfl, rfl, rfl, by decide +kernel, rfl, by decide +kernel, by decide +kernel⟩
def spMore (K : PySem.W.Frag) : Sp := fun vs H Q _ => ∃ (a : Addr) (ws : List (List Nat)) (c : Int) (l : List Nat), vs = [.ref a, .int c, tx l] ∧ SqL K H a (ws.map tx) ∧ 1 ≤ ws.length ∧ (∀ x ∈ ws, WordOk x) ∧
  Let l ∧ 1 ≤ l.length ∧ l.length ≤ 1000 ∧ ∀ (y : List Nat) (H' : Hp), Same H H' → WordOk y → Q (tx y) H'
theorem ok_more (F : FnP K "_law_more" sMore f fd) (W : Has K mg "_law_word" sWord ["_law_cell", "_law_signs_here"] fW fdW) (M : Has K mg "_law_mixed" sMixed ["_law_cell", "_law_k"] fM fdM) (mR : mg "range" = none) (mL : mg "len" = none) :
    FnOk P w K mg base CX0 3 f fd ["_law_words_here", "_law_cell", "_law_signs_here"] (spMore K) := by
  have GW : FnOk P w K mg base CX0 2 fW fdW ["_law_cell", "_law_signs_here"] spWord := ok_word W.F M mR mL
  refine F.okN scMore (fun vs H Q E h => ?_) (fun cdv A outer s H vs Q E hr h => ?_)
  · obtain ⟨a, ws, c, l, rfl, _⟩ := h
    rfl
  · obtain ⟨a, ws, c, l, rfl, hS, hn, hw, hl, l1, l2, q⟩ := h
    refine ⟨_, pss_cons (ps_set (i := 3) scMore.nd rfl (.inl rfl) (pe_ix ix_list (pv 0) (pe_op op_mod (pe_op op_fdiv (pv 1) pe_int) (pe_callB call_len_seq (by rfl) mL boot_len (pa_cons (pv 0) pa_nil))) (fun _ _ => rfl)))
      (pss_cons (ps_set (i := 4) scMore.nd rfl (.inl rfl) (pe_ix ix_list (pv 0) (pe_op op_mod (pe_op op_fdiv (pv 1) pe_int) (pe_callB call_len_seq (by rfl) mL boot_len (pa_cons (pv 0) pa_nil))) (fun _ _ => rfl)))
      (pss_cons (ps_set (i := 5) scMore.nd rfl (.inl rfl) (pe_op op_mod (pe_op op_fdiv (pv 1) pe_int) (pe_callB call_len_str (by rfl) mL boot_len (pa_cons (pv 3) pa_nil))))
      (pss_cons (ps_set (i := 6) scMore.nd rfl (.inl rfl) (pe_lst (pa_cons (pe_op op_add_str (pv 3) (pv 4)) (pa_cons (pe_op op_add_str (pv 3) (pv 4)) (pa_cons (pe_op op_add_str (pv 4) (pv 3))
          (pa_cons (pe_op op_add_str (pv 3) (pe_call GW hr (by rfl) W.g W.F.kp W.b .nil pass0 (pa_cons (pe_op op_fdiv (pv 1) pe_int) (pa_cons (pv 2) pa_nil))))
          (pa_cons (pe_op op_add_str (pe_call GW hr (by rfl) W.g W.F.kp W.b .nil pass0 (pa_cons (pe_op op_fdiv (pv 1) pe_int) (pa_cons (pv 2) pa_nil))) (pv 3)) pa_nil)))))))
      (pss_one (ps_ret (pe_slice sl_str (pe_ix ix_list (pe_op op_cat (pv 6) (pe_lst (pa_cons (pe_slice sl_str (pv 3) (po_some (pv 5)) po_none) (pa_cons (pe_slice sl_str (pv 3) po_none (po_some (pe_op op_add (pv 5) pe_int)))
          (pa_cons (pe_op op_add_str (pe_slice sl_str (pv 3) (po_some (pv 5)) po_none) (pv 4)) pa_nil))))) (pe_op op_mod (pv 1) pe_int) (fun _ _ => rfl)) po_none (po_some pe_int))))))), ?_⟩
    have en : (ws.map tx).length = ws.length := List.length_map _
    obtain ⟨one, ho, eo⟩ := at_map tx ws (i := c / 8 % (ws.length : Int)) (Int.emod_nonneg _ (by omega)) (Int.emod_lt_of_pos _ (by omega))
    obtain ⟨oth, hp, ep⟩ := at_map tx ws (i := c / 104 % (ws.length : Int)) (Int.emod_nonneg _ (by omega)) (Int.emod_lt_of_pos _ (by omega))
    obtain ⟨o1, o2, o3⟩ := hw one ho
    obtain ⟨p1, p2, p3⟩ := hw oth hp
    have lo : (S one).length = one.length := S_len one
    have lp : (S oth).length = oth.length := S_len oth
    refine ⟨_, rfl, _, rfl, _, _, rfl, rfl, ⟨by decide, by decide⟩, _, rfl, a, _, rfl, .inl hS, _, _, rfl, rfl, (by show (0 : Int) < ((ws.map tx).length : Int); rw [en]; omega), a, _, _, tx one, rfl, rfl, hS, by rw [en]; exact eo, ?_⟩
    refine ⟨_, rfl, _, rfl, _, _, rfl, rfl, ⟨by decide, by decide⟩, _, rfl, a, _, rfl, .inl hS, _, _, rfl, rfl, (by show (0 : Int) < ((ws.map tx).length : Int); rw [en]; omega), a, _, _, tx oth, rfl, rfl, hS, by rw [en]; exact ep, ?_⟩
    refine ⟨_, rfl, _, _, rfl, rfl, ⟨by decide, by decide⟩, _, rfl, _, rfl, by rw [lo]; exact size1000 (by omega), _, _, rfl, rfl, (by show (0 : Int) < ((S one).length : Int); rw [lo]; omega), ?_⟩
    have i0 := Int.emod_nonneg (c / 1352) (show ((S one).length : Int) ≠ 0 by rw [lo]; omega)
    have i1 := Int.emod_lt_of_pos (c / 1352) (show (0 : Int) < ((S one).length : Int) by rw [lo]; omega)
    obtain ⟨i, hi⟩ : ∃ i : Int, i = c / 1352 % ((S one).length : Int) := ⟨_, rfl⟩
    rw [← hi] at i0 i1
    rw [lo] at i1
    have hv1 := congrArg V.int hi.symm
    -- some = [..]
    refine ⟨_, rfl, _, rfl, _, _, rfl, rfl, by rw [lo, lp]; exact size1000 (by omega), _, rfl, _, rfl, _, _, rfl, rfl, by rw [lo, lp]; exact size1000 (by omega), _, rfl, _, rfl, _, _, rfl, rfl, by rw [lo, lp]; exact size1000 (by omega), ?_⟩
    refine ⟨_, rfl, _, rfl, _, _, rfl, rfl, ⟨by decide, by decide⟩, _, rfl, _, l, rfl, hl, l1, l2, fun y1 H1 sm1 ⟨y11, y12, y13⟩ => ⟨_, _, rfl, rfl, by rw [lo, S_len]; exact size1000 (by omega), ?_⟩⟩
    refine ⟨_, rfl, _, _, rfl, rfl, ⟨by decide, by decide⟩, _, rfl, _, l, rfl, hl, l1, l2, fun y2 H2 sm2 ⟨y21, y22, y23⟩ => ⟨_, rfl, _, _, rfl, rfl, by rw [lo, S_len]; exact size1000 (by omega), ?_⟩⟩
    refine ⟨by show 5 ≤ sizeLine; decide, fun u hu => ?_⟩
    -- the second list
    have zl : ∀ {x : List Nat}, x.length ≤ 1000 → (S x).length ≤ sizeLine := fun {x} h => by rw [S_len]; exact size1000 h
    refine ⟨_, rfl, _, rfl, _, rfl, i, hv1, S one, rfl, zl (by omega), ?_⟩
    refine ⟨_, rfl, _, rfl, i, 1, hv1, rfl, i + 1, rfl, S one, rfl, zl (by omega), ?_⟩
    refine ⟨_, rfl, _, rfl, i, hv1, S one, rfl, zl (by omega), _, rfl, _, _, rfl, rfl, by rw [cut_from i0, S_len, lp, List.length_drop]; exact size1000 (by omega), ?_⟩
    refine ⟨by show 3 ≤ sizeLine; decide, fun v hv => ?_⟩
    have nuv : u ≠ v := fun e => by
      rw [← e, upd_same] at hv
      cases hv
    have hv2 : H2 v = none := (same_upd hu).free hv
    have hv3 : ∀ o, (upd H2 u o) v = none := fun o => by rw [upd_ne nuv.symm]; exact hv2
    rw [cut_from i0, cut_to (by omega : (0 : Int) ≤ i + 1), S_cat, S_cat, S_cat, S_cat, S_cat]
    refine ⟨u, v, [tx (one ++ oth), tx (one ++ oth), tx (oth ++ one), tx (one ++ y1), tx (y2 ++ one)], [tx (one.drop i.toNat), tx (one.take (i + 1).toNat), tx (one.drop i.toNat ++ oth)], rfl, rfl, by rw [upd_ne nuv, upd_same], upd_same, by show 8 ≤ sizeLine; decide, fun r hr0 => ?_⟩
    obtain ⟨z, hz, ez⟩ := at_map tx [one ++ oth, one ++ oth, oth ++ one, one ++ y1, y2 ++ one, one.drop i.toNat, one.take (i + 1).toNat, one.drop i.toNat ++ oth] (i := c % 8) (Int.emod_nonneg _ (by decide)) (Int.emod_lt_of_pos _ (by decide))
    have hz2 : 1 ≤ z.length ∧ z.length ≤ 20 ∧ Let z := by
      have d1 : (one.drop i.toNat).length = one.length - i.toNat := List.length_drop
      have d2 : (one.take (i + 1).toNat).length = min (i + 1).toNat one.length := List.length_take
      have d3 : i.toNat < one.length := by omega
      simp only [List.mem_cons, List.not_mem_nil, or_false] at hz
      rcases hz with rfl | rfl | rfl | rfl | rfl | rfl | rfl | rfl
      · rw [List.length_append]; exact ⟨by omega, by omega, o3.app p3⟩
      · rw [List.length_append]; exact ⟨by omega, by omega, o3.app p3⟩
      · rw [List.length_append]; exact ⟨by omega, by omega, p3.app o3⟩
      · rw [List.length_append]; exact ⟨by omega, by omega, o3.app y13⟩
      · rw [List.length_append]; exact ⟨by omega, by omega, y23.app o3⟩
      · rw [d1]; exact ⟨by omega, by omega, let_drop o3 _⟩
      · rw [d2]; exact ⟨by omega, by omega, let_take o3 _⟩
      · rw [List.length_append, d1]; exact ⟨by omega, by omega, (let_drop o3 _).app p3⟩
    refine ⟨_, rfl, _, _, rfl, rfl, (by show (0 : Int) < 8; decide), r, _, _, tx z, rfl, rfl, .inl (.inl upd_same), ez, 10, rfl, S z, rfl, zl (by omega), ?_⟩
    rw [cut_to (by decide)]
    refine q (z.take 10) _ ?_ ⟨?_, ?_, let_take hz2.2.2 _⟩
    · exact ((sm1.trans sm2).trans (same_upd hu)).trans ((same_upd (hv3 _)).trans (same_upd hr0))
    · rw [List.length_take]; omega
    · rw [List.length_take]; omega
end
/-! ### slices of lists -/
theorem cutv_from {xs : List V} {i : Int} (h : 0 ≤ i) : cutV xs (some i) none = xs.drop i.toNat := by
  unfold cutV
  rw [sIx_pos _ _ h, HT.sIx_none]
  rw [List.take_of_length_le (by rw [List.length_drop]; omega)]
  by_cases c : i.toNat ≤ xs.length
  · rw [Nat.min_eq_left c]
  · rw [Nat.min_eq_right (by omega), List.drop_of_length_le (Nat.le_refl _), List.drop_of_length_le (by omega)]
theorem cutv_to {xs : List V} {i : Int} (h : 0 ≤ i) : cutV xs none (some i) = xs.take i.toNat := by
  unfold cutV
  rw [sIx_pos _ _ h, HT.sIx_none, List.drop_zero, Nat.sub_zero]
  by_cases c : i.toNat ≤ xs.length
  · rw [Nat.min_eq_left c]
  · rw [Nat.min_eq_right (by omega), List.take_of_length_le (Nat.le_refl _), List.take_of_length_le (by omega)]
theorem at_last {α : Type} (g : α → V) {xs : List α} (h : 1 ≤ xs.length) : ∃ c ∈ xs, atI (xs.map g) (-1) = some (g c) := by
  have hne : xs ≠ [] := fun e => by
    rw [e] at h
    exact absurd h (Nat.not_succ_le_zero 0)
  refine ⟨xs.getLast hne, List.getLast_mem hne, ?_⟩
  have e : xs.map g = (xs.dropLast.map g) ++ [g (xs.getLast hne)] := by
    rw [← List.map_singleton, ← List.map_append, List.dropLast_concat_getLast]
  rw [e]
  exact atI_last _ _
theorem seqL {K : PySem.W.Frag} {H : Hp} {a : Addr} {xs : List V} (h : H a = some (.lst xs)) : SqL K H a xs := .inl (.inl h)
section
variable {P : Program} {w : World} {K : PySem.W.Frag} {mg : Str → Option Value} {base : Heap} {f fA fM fW : Addr} {fd fdA fdM fdW : FuncData}
theorem scChain : FnScope ["_law_script", "_law_first", "_law_signs_here", "_law_links", "_law_k", "_law_words_here", "_law_turn"] ["_law_script", "_law_first", "_law_signs_here"] (defScope sChain) := ⟨rfl, rfl, rfl, by decide +kernel, rfl, by decide +kernel, by decide +kernel⟩
def spChain (K : PySem.W.Frag) : Sp := fun vs H Q _ => ∃ (a : Addr) (ns : List Int) (first : Int) (l : List Nat), vs = [.ref a, .int first, tx l] ∧ SqL K H a (ns.map V.int) ∧ 0 ≤ first ∧ Let l ∧ 1 ≤ l.length ∧ l.length ≤ 1000 ∧
  ∀ (r : Addr) (zs : List (List Nat)) (H' : Hp), Same H H' → H r = none → H' r = some (.lst (zs.map tx)) → zs.length ≤ 9 → (∀ z ∈ zs, WordOk z) → Q (.ref r) H'
theorem ok_chain (F : FnP K "_law_chain" sChain f fd) (A : Has K mg "_law_at" sAt ["_law_script", "_law_k"] fA fdA) (W : Has K mg "_law_word" sWord ["_law_cell", "_law_signs_here"] fW fdW) (M : Has K mg "_law_mixed" sMixed ["_law_cell", "_law_k"] fM fdM) (mR : mg "range" = none) (mL : mg "len" = none) :
    FnOk P w K mg base CX0 3 f fd ["_law_script", "_law_first", "_law_signs_here"] (spChain K) := by
  have GW : FnOk P w K mg base CX0 2 fW fdW ["_law_cell", "_law_signs_here"] spWord := ok_word W.F M mR mL
  have GM : FnOk P w K mg base CX0 2 fM fdM ["_law_cell", "_law_k"] spMixed := (ok_mixed M.F).mono (by decide)
  have GA : FnOk P w K mg base CX0 2 fA fdA ["_law_script", "_law_k"] (spAt K) := (ok_at A.F mL).mono (by decide)
  refine F.okN scChain (fun vs H Q E h => ?_) (fun cdv A' outer s H vs Q E hr h => ?_)
  · obtain ⟨a, ns, first, l, rfl, _⟩ := h
    rfl
  · obtain ⟨a, ns, first, l, rfl, hS, h0, hl, l1, l2, q⟩ := h
    refine ⟨_, pss_cons (ps_set (i := 3) scChain.nd rfl (.inr rfl) (pe_lst pa_nil))
      (pss_cons (ps_for PassesOwn.never rfl (pi_range1 (by rfl) mR (pa_cons (pe_op op_add pe_int (pe_op op_mod (pe_op op_fdiv (pe_call GA hr (by rfl) A.g A.F.kp A.b .nil pass0 (pa_cons (pv 0) (pa_cons (pv 1) pa_nil))) pe_int) pe_int)) pa_nil)) (pg_name (i := 4) scChain.nd rfl (Or.inl rfl))
        (pss_one (ps_expr (pe_bm PySem.F.plainAttrs_list PySem.F.slot_list_append PySem.F.type_list_append mt_append (pv 3)
          (pa_cons (pe_slice sl_str (pe_call GW hr (by rfl) W.g W.F.kp W.b .nil pass0 (pa_cons (pe_call GM hr (by rfl) M.g M.F.kp M.b .nil pass0 (pa_cons (pe_call GA hr (by rfl) A.g A.F.kp A.b .nil pass0 (pa_cons (pv 0) (pa_cons (pe_op op_add (pe_op op_add (pv 1) pe_int) (pe_op op_mod (pv 4) pe_int)) pa_nil))) (pa_cons (pv 4) pa_nil))) (pa_cons (pv 2) pa_nil))) po_none (po_some pe_int)) pa_nil)))))
      (pss_cons (ps_set (i := 5) scChain.nd rfl (.inl rfl) (pe_op op_cat (pe_lst (pa_cons (pe_ix ix_list (pv 3) pe_int (fun _ _ => rfl)) pa_nil))
        (pe_lc (own := [("_law_k", 4)]) (g := gName 4) (tt := tYes) rfl scChain.nd (pi_range2 (by rfl) mR (pa_cons pe_int (pa_cons (pe_callB call_len_seq (by rfl) mL boot_len (pa_cons (pv 3) pa_nil)) pa_nil))) (blkOk_by (own := [("_law_k", 4)]) (N := ["_law_script", "_law_first", "_law_signs_here", "_law_links", "_law_k", "_law_words_here", "_law_turn"]) (sc := defScope sChain) (by decide +kernel))
          (fun _ _ _ _ _ => pg_name (i := 4) scChain.nd rfl (Or.inl rfl)) (fun _ _ _ _ _ => pts_nil)
          (fun _ _ _ _ _ => pe_op op_add_str (pe_ix (r := rIxL K) ix_list (pv 3) (pe_op op_sub (pv 4) pe_int) (fun _ _ => rfl)) (pe_ix (r := rIxL K) ix_list (pv 3) (pv 4) (fun _ _ => rfl))))))
      (C8.pss_cut (ps_if (pt_cmpR op_eq (pe_op op_mod (pe_op op_fdiv (pe_call GA hr (by rfl) A.g A.F.kp A.b .nil pass0 (pa_cons (pv 0) (pa_cons (pv 1) pa_nil))) pe_int) pe_int) pe_int (nomark _))
          (pss_one (ps_expr (pe_bm PySem.F.plainAttrs_list PySem.F.slot_list_append PySem.F.type_list_append mt_append (pv 5) (pa_cons (pe_ix ix_list (pv 3) (pe_un un_neg pe_int) (fun _ _ => rfl)) pa_nil)))) pss_nil)
      (pss_cons (ps_set (i := 6) scChain.nd rfl (.inl rfl) (pe_op op_mod (pe_call GA hr (by rfl) A.g A.F.kp A.b .nil pass0 (pa_cons (pv 0) (pa_cons (pe_op op_add (pv 1) pe_int) pa_nil))) (pe_callB call_len_seq (by rfl) mL boot_len (pa_cons (pv 5) pa_nil))))
      (pss_one (ps_ret (pe_op op_cat (pe_slice sl_list (pv 5) (po_some (pv 6)) po_none) (pe_slice sl_list (pv 5) po_none (po_some (pv 6)))))))))), ?_⟩
    refine ⟨Nat.zero_le _, fun p hp => ?_⟩
    have s1 : Same H (upd H p (.lst [])) := same_upd hp
    refine ⟨_, rfl, _, rfl, a, ns, first, rfl, s1.seq hS, h0, fun v => ⟨_, _, rfl, rfl, ⟨by decide, by decide⟩, _, _, rfl, rfl, (by show (0 : Int) < 7; decide), _, _, rfl, rfl, _, rfl, ?_⟩⟩
    have b1 := Int.emod_nonneg (v / 40) (show (7 : Int) ≠ 0 by decide)
    have b2 := Int.emod_lt_of_pos (v / 40) (show (0 : Int) < 7 by decide)
    refine ⟨by omega, by omega, ?_⟩
    refine for_range (lo := 0) (n := (2 + v / 40 % 7).toNat) (fun i σ H1 => Same H H1 ∧ ∃ (ys : List (List Nat)) (kv : Option V), σ = [some (.ref a), some (.int first), some (tx l), some (.ref p), kv, none, none] ∧ H1 p = some (.lst (ys.map tx)) ∧ ys.length = i ∧ ∀ y ∈ ys, 1 ≤ y.length ∧ y.length ≤ 5 ∧ Let y) ?_ ?_ ?_
    · exact ⟨s1, [], none, rfl, upd_same, rfl, fun y hy => nomatch hy⟩
    · rintro i σ H1 hi ⟨sm, ys, kv, rfl, eD, el, hy⟩
      refine ⟨_, rfl, .inl ⟨rfl, _, seqL eD⟩, ?_⟩
      refine ⟨_, rfl, _, rfl, _, _, rfl, rfl, _, rfl, _, _, rfl, rfl, (by show (0 : Int) < 6; decide), _, _, rfl, rfl, a, ns, _, rfl, sm.seq hS, by omega, fun c => ?_⟩
      refine ⟨_, rfl, c, _, rfl, fun m m0 m1 => ⟨_, rfl, m, l, rfl, hl, l1, l2, fun y H2 sm2 ⟨y1, y2, y3⟩ => ?_⟩⟩
      refine ⟨5, rfl, S y, rfl, by rw [S_len]; exact size1000 (by omega), ?_⟩
      rw [cut_to (by decide)]
      refine ⟨p, _, _, rfl, rfl, sm2 _ _ eD, by rw [List.length_map]; exact small1000 (by omega), ?_⟩
      refine ⟨fun b o e => ?_, ys ++ [y.take 5], _, rfl, ?_, by rw [List.length_append, el]; rfl, fun z hz => ?_⟩
      · rw [upd_ne (ne_of_none e hp)]
        exact sm2 _ _ (sm _ _ e)
      · rw [upd_same, List.map_append]
        rfl
      · rcases List.mem_append.mp hz with z1 | z1
        · exact hy z z1
        · rw [List.mem_singleton.mp z1, List.length_take]
          exact ⟨by omega, by omega, let_take y3 _⟩
    · rintro σ H1 ⟨sm, ys, kv, rfl, eD, el, hy⟩
      have hyl : 2 ≤ ys.length ∧ ys.length ≤ 8 := by omega
      obtain ⟨y0, hy0, e0⟩ := at_map tx ys (i := 0) (by decide) (by omega)
      refine ⟨_, rfl, p, _, 0, _, rfl, rfl, seqL eD, e0, by show 1 ≤ sizeLine; decide, fun u hu => ?_⟩
      have s2 : Same H1 (upd H1 u (.lst [tx y0])) := same_upd hu
      have npu : p ≠ u := ne_of_none eD hu
      refine ⟨_, rfl, p, _, rfl, .inl (seqL (s2 _ _ eD)), 1, _, rfl, ⟨by decide, by decide, by rw [List.length_map]; omega, by rw [List.length_map]; omega⟩, fun D hD => ?_⟩
      have nuD : u ≠ D := fun e => by
        rw [← e, upd_same] at hD
        cases hD
      have npD : p ≠ D := ne_of_none (s2 _ _ eD) hD
      have en : (((ys.map tx).length : Int) - 1).toNat = ys.length - 1 := by rw [List.length_map]; omega
      rw [en]
      refine lc_range (lo := 1) (n := ys.length - 1) (fun i H2 => Same H H2 ∧ H2 p = some (.lst (ys.map tx)) ∧ H2 u = some (.lst [tx y0]) ∧ ∃ zs : List (List Nat), H2 D = some (.lst (zs.map tx)) ∧ zs.length = i ∧ ∀ z ∈ zs, WordOk z) ?_ ?_ ?_
      · refine ⟨(sm.trans s2).trans (same_upd hD), by rw [upd_ne npD]; exact s2 _ _ eD, by rw [upd_ne nuD, upd_same], [], upd_same, rfl, fun z hz => nomatch hz⟩
      · rintro i H2 hi ⟨sm2, ep, eu, zs, eZ, ez, hz⟩
        obtain ⟨x1, hx1, e1⟩ := at_map tx ys (i := 1 + (i : Int) - 1) (by omega) (by omega)
        obtain ⟨x2, hx2, e2⟩ := at_map tx ys (i := 1 + (i : Int)) (by omega) (by omega)
        have d1 := hy x1 hx1
        have d2 := hy x2 hx2
        refine ⟨rfl, _, rfl, _, rfl, _, _, rfl, rfl, p, _, _, _, rfl, rfl, seqL ep, e1, _, rfl, _, rfl, p, _, _, _, rfl, rfl, seqL ep, e2, S x1, S x2, rfl, rfl, by rw [S_len, S_len]; exact size1000 (by omega), ?_⟩
        rw [S_cat]
        refine ⟨_, eZ, by rw [List.length_map]; exact small1000 (by omega), fun b o e => ?_, by rw [upd_ne npD]; exact ep, by rw [upd_ne nuD]; exact eu, zs ++ [x1 ++ x2], ?_, by rw [List.length_append, ez]; rfl, fun z hz' => ?_⟩
        · rw [upd_ne (ne_of_none ((sm.trans s2) _ _ e) hD)]
          exact sm2 _ _ e
        · rw [upd_same, List.map_append]
          rfl
        · rcases List.mem_append.mp hz' with z1 | z1
          · exact hz z z1
          · rw [List.mem_singleton.mp z1]
            exact ⟨by rw [List.length_append]; omega, by rw [List.length_append]; omega, d1.2.2.app d2.2.2⟩
      · rintro H2 ⟨sm2, ep, eu, zs, eZ, ez, hz⟩
        refine ⟨u, D, _, _, rfl, rfl, eu, eZ, by rw [List.length_map]; exact size1000 (by show 1 + zs.length ≤ 1000; omega), fun r hr0 => ?_⟩
        have s3 : Same H2 (upd H2 r (.lst ([tx y0] ++ zs.map tx))) := same_upd hr0
        have npr : p ≠ r := ne_of_none ep hr0
        have hHr : H r = none := sm2.free hr0
        have w0 : WordOk y0 := ⟨(hy y0 hy0).1, by have := (hy y0 hy0).2.1; omega, (hy y0 hy0).2.2⟩
        -- if .. : words_here.append(links[-1])
        refine ⟨fun σ H3 => Same H H3 ∧ ∃ (vs : List (List Nat)) (kv : Option V), σ = [some (.ref a), some (.int first), some (tx l), some (.ref p), kv, some (.ref r), none] ∧ H3 r = some (.lst (vs.map tx)) ∧ 1 ≤ vs.length ∧ vs.length ≤ 9 ∧ ∀ z ∈ vs, WordOk z, ?_, ?_⟩
        · refine ⟨_, rfl, _, rfl, a, ns, first, rfl, (sm2.trans s3).seq hS, h0, fun v2 => ⟨_, _, rfl, rfl, ⟨by decide, by decide⟩, _, _, rfl, rfl, (by show (0 : Int) < 2; decide), rfl, _, rfl, ite2 (fun _ => ?_) (fun _ => ?_)⟩⟩
          · obtain ⟨y9, hy9, e9⟩ := at_last tx (xs := ys) (by omega)
            have w9 : WordOk y9 := ⟨(hy y9 hy9).1, by have := (hy y9 hy9).2.1; omega, (hy y9 hy9).2.2⟩
            refine ⟨_, rfl, .inl ⟨rfl, _, seqL upd_same⟩, ?_⟩
            refine ⟨_, rfl, 1, rfl, p, _, _, _, rfl, rfl, seqL (s3 _ _ ep), e9, r, _, _, rfl, rfl, upd_same, ?_, ?_⟩
            · show (zs.map tx).length + 1 < sizeLine
              rw [List.length_map]
              exact small1000 (by omega)
            · refine ⟨fun b o e => ?_, y0 :: zs ++ [y9], _, rfl, ?_, by rw [List.length_append]; show 1 ≤ _ + 1; omega, by rw [List.length_append]; show (zs.length + 1) + 1 ≤ 9; omega, fun z hz' => ?_⟩
              · rw [upd_ne (ne_of_none e hHr)]
                exact s3 _ _ (sm2 _ _ e)
              · rw [upd_same, List.map_append]
                rfl
              · rcases List.mem_append.mp hz' with z1 | z1
                · rcases List.mem_cons.mp z1 with z2 | z2
                  · rw [z2]; exact w0
                  · exact hz z z2
                · rw [List.mem_singleton.mp z1]
                  exact w9
          · refine ⟨sm2.trans s3, y0 :: zs, _, rfl, upd_same, by show 1 ≤ zs.length + 1; omega, by show zs.length + 1 ≤ 9; omega, fun z hz' => ?_⟩
            rcases List.mem_cons.mp hz' with z2 | z2
            · rw [z2]; exact w0
            · exact hz z z2
        · rintro σ H3 ⟨sm3, vs, kv, rfl, eR, v1, v2, hv⟩
          refine ⟨_, rfl, _, rfl, _, _, rfl, rfl, a, ns, _, rfl, sm3.seq hS, by omega, fun c => ⟨_, rfl, r, _, rfl, .inl (seqL eR), _, _, rfl, rfl, (by show (0 : Int) < ((vs.map tx).length : Int); rw [List.length_map]; omega), ?_⟩⟩
          have i0 := Int.emod_nonneg c (show ((vs.map tx).length : Int) ≠ 0 by rw [List.length_map]; omega)
          obtain ⟨i, hi⟩ : ∃ i : Int, i = c % ((vs.map tx).length : Int) := ⟨_, rfl⟩
          have hiv := congrArg V.int hi.symm
          rw [← hi] at i0
          refine ⟨_, rfl, _, rfl, i, hiv, r, _, rfl, seqL eR, fun g1 hg1 => ?_⟩
          rw [cutv_from i0]
          have s4 := same_upd (o := .lst ((vs.map tx).drop i.toNat)) hg1
          refine ⟨_, rfl, _, rfl, i, hiv, r, _, rfl, seqL (s4 _ _ eR), fun g2 hg2 => ?_⟩
          rw [cutv_to i0]
          have n12 : g1 ≠ g2 := fun e => by
            rw [← e, upd_same] at hg2
            cases hg2
          have s5 := same_upd (o := .lst ((vs.map tx).take i.toNat)) hg2
          refine ⟨g1, g2, _, _, rfl, rfl, by rw [upd_ne n12, upd_same], upd_same, ?_, fun g3 hg3 => ?_⟩
          · rw [List.length_drop, List.length_take, List.length_map]
            exact size1000 (by omega)
          · have s6 := same_upd (o := .lst ((vs.map tx).drop i.toNat ++ (vs.map tx).take i.toNat)) hg3
            refine q g3 (vs.drop i.toNat ++ vs.take i.toNat) _ (((sm3.trans s4).trans s5).trans s6) (((sm3.trans s4).trans s5).free hg3) ?_ ?_ fun z hz' => ?_
            · rw [upd_same, List.map_append, List.map_drop, List.map_take]
            · rw [List.length_append, List.length_drop, List.length_take]
              omega
            · rcases List.mem_append.mp hz' with z1 | z1
              · exact hv z (List.mem_of_mem_drop z1)
              · exact hv z (List.mem_of_mem_take z1)
end
def CodeOk (ws : List (List Nat)) : Prop := ws.length ≤ 12 ∧ ws.Nodup ∧ ∀ x ∈ ws, WordOk x
theorem inV_tx (x : List Nat) (ws : List (List Nat)) : inV (tx x) (ws.map tx) = decide (x ∈ ws) := by
  unfold inV
  rw [List.any_map]
  have e : (fun y => eqV y (tx x)) ∘ tx = fun y : List Nat => (y == x) := by
    funext y
    show (S y == S x) = (y == x)
    exact S_beq y x
  rw [e, Bool.eq_iff_iff, List.any_eq_true, decide_eq_true_eq]
  constructor
  · rintro ⟨y, hy, q⟩
    rw [← eq_of_beq q]
    exact hy
  · intro h
    exact ⟨x, h, beq_self_eq_true x⟩
theorem flat_tx (ws : List (List Nat)) : (ws.map tx).all flatV = true := by
  rw [List.all_map, List.all_eq_true]
  intro x _
  rfl
theorem nodup_app {ws : List (List Nat)} {x : List Nat} (h : ws.Nodup) (hx : x ∉ ws) : (ws ++ [x]).Nodup := by
  rw [List.nodup_append]
  refine ⟨h, List.nodup_cons.mpr ⟨List.not_mem_nil, List.nodup_nil⟩, fun a ha b hb e => ?_⟩
  rw [List.mem_singleton.mp hb] at e
  rw [e] at ha
  exact hx ha
theorem dp_texts {K : PySem.W.Frag} {H : Hp} : ∀ ws : List (List Nat), DpAll K H (ws.map tx) (ws.map fun l => PyData.str (S l))
  | [] => .nil
  | x :: r => .cons (.str (S x)) (dp_texts r)
theorem let_ok {l : List Nat} (h : Let l) : PyData.canLay0 (.str (S l)) = true := by
  rw [PyData.canLay0]
  unfold PyData.strOk
  show l.toArray.all (fun a => decide (a < 1114112)) = true
  rw [List.all_toArray, List.all_eq_true]
  intro c hc
  have q := h c hc
  exact decide_eq_true (by omega)
theorem lay_texts : ∀ ws : List (List Nat), (∀ x ∈ ws, Let x) → PyData.canLayAll0 (ws.map fun l => PyData.str (S l)) = true
  | [], _ => by simp [PyData.canLayAll0]
  | x :: r, h => by
    rw [List.map_cons, PyData.canLayAll0, let_ok (h x List.mem_cons_self), lay_texts r fun y hy => h y (List.mem_cons_of_mem _ hy)]
    rfl
theorem depth_texts : ∀ ws : List (List Nat), PyData.depthAll (ws.map fun l => PyData.str (S l)) = 0
  | [] => by simp [PyData.depthAll]
  | x :: r => by
    rw [List.map_cons, PyData.depthAll, depth_texts r, PyData.depth]
    rfl
theorem shaped_texts {ws : List (List Nat)} (h : ∀ x ∈ ws, Let x) : SeqAt.shaped (.list (ws.map fun l => PyData.str (S l))) = true := by
  unfold SeqAt.shaped
  rw [PyData.canLay0, lay_texts ws h, PyData.depth, depth_texts]
  rfl
theorem eqv_texts {ws : List (List Nat)} (h : ∀ x ∈ ws, Let x) : PyData.eqv (.list (ws.map fun l => PyData.str (S l))) (.list (ws.map fun l => PyData.str (S l))) = true :=
  PySem.SeqAt.eqv_refl _ (by rw [PyData.canLay0]; exact lay_texts ws h)
section
variable {P : Program} {w : World} {K : PySem.W.Frag} {mg : Str → Option Value} {base : Heap} {f fA fM fW fS fC fY fO fR : Addr} {fd fdA fdM fdW fdS fdC fdY fdO fdR : FuncData}
theorem scWords : FnScope ["_law_script", "_law_first", "_law_cell", "_law_signs_here", "_law_words_here", "_law_word_here", "_law_k", "_law_one"] ["_law_script", "_law_first"] (defScope sWords) := ⟨rfl, rfl, rfl, by decide +kernel, rfl, by decide +kernel, by decide +kernel⟩
def spWords (K : PySem.W.Frag) : Sp := fun vs H Q _ => ∃ (a : Addr) (ns : List Int) (first : Int), vs = [.ref a, .int first] ∧ SqL K H a (ns.map V.int) ∧ 0 ≤ first ∧
  ∀ (r : Addr) (ws : List (List Nat)) (H' : Hp), Same H H' → H r = none → H' r = some (.lst (ws.map tx)) → CodeOk ws → Q (.ref r) H'
theorem ok_words (F : FnP K "_law_words" sWords f fd) (A : Has K mg "_law_at" sAt ["_law_script", "_law_k"] fA fdA) (W : Has K mg "_law_word" sWord ["_law_cell", "_law_signs_here"] fW fdW) (M : Has K mg "_law_mixed" sMixed ["_law_cell", "_law_k"] fM fdM)
    (Z : Has K mg "_law_signs" sSigns ["_law_cell"] fS fdS) (C : Has K mg "_law_chain" sChain ["_law_script", "_law_first", "_law_signs_here"] fC fdC) (Y : Has K mg "_law_any_word" sAny ["_law_cell"] fY fdY) (O : Has K mg "_law_more" sMore ["_law_words_here", "_law_cell", "_law_signs_here"] fO fdO)
    (mR : mg "range" = none) (mL : mg "len" = none) : FnOk P w K mg base CX0 4 f fd ["_law_script", "_law_first"] (spWords K) := by
  have GW : FnOk P w K mg base CX0 3 fW fdW ["_law_cell", "_law_signs_here"] spWord := (ok_word W.F M mR mL).mono (by decide)
  have GM : FnOk P w K mg base CX0 3 fM fdM ["_law_cell", "_law_k"] spMixed := (ok_mixed M.F).mono (by decide)
  have GA : FnOk P w K mg base CX0 3 fA fdA ["_law_script", "_law_k"] (spAt K) := (ok_at A.F mL).mono (by decide)
  have GZ : FnOk P w K mg base CX0 3 fS fdS ["_law_cell"] spSigns := (ok_signs Z.F mR).mono (by decide)
  have GC : FnOk P w K mg base CX0 3 fC fdC ["_law_script", "_law_first", "_law_signs_here"] (spChain K) := ok_chain C.F A W M mR mL
  have GY : FnOk P w K mg base CX0 3 fY fdY ["_law_cell"] spAny := (ok_any Y.F mR).mono (by decide)
  have GO : FnOk P w K mg base CX0 3 fO fdO ["_law_words_here", "_law_cell", "_law_signs_here"] (spMore K) := ok_more O.F W M mR mL
  refine F.okN scWords (fun vs H Q E h => ?_) (fun cdv A' outer s H vs Q E hr h => ?_)
  · obtain ⟨a, ns, first, rfl, _⟩ := h
    rfl
  · obtain ⟨a, ns, first, rfl, hS, h0, q⟩ := h
    refine ⟨_, pss_cons (ps_set (i := 2) scWords.nd rfl (.inl rfl) (pe_call GA hr (by rfl) A.g A.F.kp A.b .nil pass0 (pa_cons (pv 0) (pa_cons (pv 1) pa_nil))))
      (pss_cons (ps_set (i := 3) scWords.nd rfl (.inl rfl) (pe_call GZ hr (by rfl) Z.g Z.F.kp Z.b .nil pass0 (pa_cons (pe_call GA hr (by rfl) A.g A.F.kp A.b .nil pass0 (pa_cons (pv 0) (pa_cons (pe_op op_add (pv 1) pe_int) pa_nil))) pa_nil)))
      (pss_cons (ps_set (i := 4) scWords.nd rfl (.inl rfl) (pe_lst pa_nil))
      (pss_cons (ps_if (pt_cmpR op_eq (pe_op op_mod (pe_op op_fdiv (pv 2) pe_int) pe_int) pe_int (nomark _))
        (pss_cons (ps_for PassesOwn.never rfl (pi_list (pe_call GC hr (by rfl) C.g C.F.kp C.b .nil pass0 (pa_cons (pv 0) (pa_cons (pv 1) (pa_cons (pv 3) pa_nil))))) (pg_name (i := 5) scWords.nd rfl (Or.inl rfl))
          (pss_one (ps_if (pt_cmpR op_notIn_seq (pv 5) (pv 4) (by rfl)) (pss_one (ps_expr (pe_bm PySem.F.plainAttrs_list PySem.F.slot_list_append PySem.F.type_list_append mt_append (pv 4) (pa_cons (pv 5) pa_nil)))) pss_nil)))
        (pss_one (ps_ret (pv 4)))) pss_nil)
      (pss_cons (ps_for PassesOwn.never rfl (pi_range1 (by rfl) mR (pa_cons (pe_ix ix_list (pe_lst (pa_cons pe_int (pa_cons pe_int (pa_cons pe_int (pa_cons pe_int (pa_cons pe_int (pa_cons pe_int (pa_cons pe_int (pa_cons pe_int (pa_cons pe_int (pa_cons pe_int pa_nil))))))))))) (pe_op op_mod (pv 2) pe_int) (fun _ _ => rfl)) pa_nil)) (pg_name (i := 6) scWords.nd rfl (Or.inl rfl))
        (pss_cons (ps_set (i := 7) scWords.nd rfl (.inl rfl) (pe_call GA hr (by rfl) A.g A.F.kp A.b .nil pass0 (pa_cons (pv 0) (pa_cons (pe_op op_add (pe_op op_add (pv 1) pe_int) (pe_op op_mod (pv 6) pe_int)) pa_nil))))
        (pss_cons (ps_set (i := 5) scWords.nd rfl (.inl rfl) (pe_call GW hr (by rfl) W.g W.F.kp W.b .nil pass0 (pa_cons (pe_call GM hr (by rfl) M.g M.F.kp M.b .nil pass0 (pa_cons (pv 7) (pa_cons (pv 6) pa_nil))) (pa_cons (pv 3) pa_nil))))
        (C8.pss_cut (ps_if (pt_cmpR op_eq (pe_op op_mod (pe_op op_fdiv (pv 2) pe_int) pe_int) pe_int (nomark _))
            (pss_one (ps_set (i := 5) scWords.nd rfl (.inl rfl) (pe_call GY hr (by rfl) Y.g Y.F.kp Y.b .nil pass0 (pa_cons (pe_op op_add (pv 7) (pv 6)) pa_nil))))
            (pss_one (ps_if (PW.pt (pw_and (pt_cmpR (op_neD hr.units) (pv 4) (pe_lst pa_nil) (nomark _)) (pw_and1 (pt_cmpR op_eq (pe_op op_mod (pe_op op_fdiv (pe_call GM hr (by rfl) M.g M.F.kp M.b .nil pass0 (pa_cons (pv 7) (pa_cons (pv 6) pa_nil))) pe_int) pe_int) pe_int (nomark _)))))
              (pss_one (ps_set (i := 5) scWords.nd rfl (.inl rfl) (pe_call GO hr (by rfl) O.g O.F.kp O.b .nil pass0 (pa_cons (pv 4) (pa_cons (pe_call GM hr (by rfl) M.g M.F.kp M.b .nil pass0 (pa_cons (pv 7) (pa_cons (pe_op op_add (pv 6) pe_int) pa_nil))) (pa_cons (pv 3) pa_nil)))))) pss_nil)))
          (pss_one (ps_if (pt_cmpR op_notIn_seq (pv 5) (pv 4) (by rfl)) (pss_one (ps_expr (pe_bm PySem.F.plainAttrs_list PySem.F.slot_list_append PySem.F.type_list_append mt_append (pv 4) (pa_cons (pv 5) pa_nil)))) pss_nil))))))
      (pss_one (ps_ret (pv 4))))))), ?_⟩
    refine ⟨_, rfl, _, rfl, a, ns, first, rfl, hS, h0, fun c => ?_⟩
    refine ⟨_, rfl, _, rfl, _, _, rfl, rfl, a, ns, _, rfl, hS, by omega, fun c2 => ⟨c2, rfl, fun l H1 sm1 hl l1 l2 => ?_⟩⟩
    refine ⟨Nat.zero_le _, fun b hb => ?_⟩
    have s2 : Same H (upd H1 b (.lst [])) := sm1.trans (same_upd hb)
    have hHb : H b = none := sm1.free hb
    refine ⟨_, rfl, _, _, rfl, rfl, ⟨by decide, by decide⟩, _, _, rfl, rfl, (by show (0 : Int) < 4; decide), rfl, _, rfl, ite2 (fun _ => ?_) (fun _ => ?_)⟩
    · -- the chain
      refine ⟨_, rfl, _, rfl, _, rfl, a, ns, first, l, rfl, s2.seq hS, h0, hl, l1, by omega, fun r zs H2 sm2 nr eR hz hzw => ?_⟩
      have nrb : r ≠ b := fun e => by
        rw [e, upd_same] at nr
        cases nr
      refine ⟨r, rfl, ⟨_, seqL eR⟩, for_list (K := K) (a := r) (xs := zs.map tx) (fun i σ H3 => Same H H3 ∧ H3 r = some (.lst (zs.map tx)) ∧ ∃ (ws : List (List Nat)) (kv : Option V), σ = [some (.ref a), some (.int first), some (.int c), some (tx l), some (.ref b), kv, none, none] ∧ H3 b = some (.lst (ws.map tx)) ∧ ws.length ≤ i ∧ ws.Nodup ∧ ∀ x ∈ ws, WordOk x) ?_ ?_ ?_ ?_⟩
      · exact ⟨s2.trans sm2, eR, [], none, rfl, sm2 _ _ upd_same, Nat.le_refl _, List.nodup_nil, fun x hx => nomatch hx⟩
      · intro i σ H3 _ hh
        exact seqL hh.2.1
      · rintro i x σ H3 hx ⟨sm3, er3, ws, kv, rfl, eb, wl, wn, wo⟩
        have hiz : i < zs.length := by
          have := (List.getElem?_eq_some_iff.mp hx).1
          rw [List.length_map] at this
          exact this
        have hxe : x = tx zs[i] := by
          rw [List.getElem?_map, List.getElem?_eq_getElem hiz] at hx
          exact (Option.some.inj hx).symm
        subst hxe
        refine ⟨_, rfl, _, rfl, b, _, rfl, .inl (seqL eb), rfl, flat_tx ws, _, rfl, ?_⟩
        rw [inV_tx]
        refine ite2 (fun hn => ?_) (fun hn => ?_)
        · have hni : zs[i] ∉ ws := by
            intro z
            rw [decide_eq_true z] at hn
            exact Bool.noConfusion hn
          refine ⟨_, rfl, .inl ⟨rfl, _, seqL eb⟩, _, rfl, b, _, _, rfl, rfl, eb, by rw [List.length_map]; exact small1000 (by omega), ?_⟩
          refine ⟨fun d o e => ?_, by rw [upd_ne nrb]; exact er3, ws ++ [zs[i]], _, rfl, ?_, by rw [List.length_append]; exact Nat.succ_le_succ wl, nodup_app wn hni, fun z hz' => ?_⟩
          · rw [upd_ne (ne_of_none e hHb)]
            exact sm3 _ _ e
          · rw [upd_same, List.map_append]
            rfl
          · rcases List.mem_append.mp hz' with z1 | z1
            · exact wo z z1
            · rw [List.mem_singleton.mp z1]
              exact hzw _ (List.getElem_mem hiz)
        · exact ⟨sm3, er3, ws, _, rfl, eb, Nat.le_succ_of_le wl, wn, wo⟩
      · rintro σ H3 ⟨sm3, er3, ws, kv, rfl, eb, wl, wn, wo⟩
        rw [List.length_map] at wl
        exact ⟨_, rfl, q b ws H3 sm3 hHb eb ⟨by omega, wn, wo⟩⟩
    · -- the drawn words
      refine ⟨by show 10 ≤ sizeLine; decide, fun p hp => ⟨_, rfl, _, _, rfl, rfl, (by show (0 : Int) < 10; decide), ?_⟩⟩
      obtain ⟨m, hm, em⟩ := at_map V.int [2, 3, 4, 5, 3, 2, 6, 1, 0, 12] (i := c % 10) (Int.emod_nonneg _ (by decide)) (Int.emod_lt_of_pos _ (by decide))
      have hm1 : 0 ≤ m ∧ m ≤ 12 := by
        simp only [List.mem_cons, List.not_mem_nil, or_false] at hm
        omega
      have s3 : Same (upd H1 b (.lst [])) (upd (upd H1 b (.lst [])) p (.lst ([2, 3, 4, 5, 3, 2, 6, 1, 0, 12].map V.int))) := same_upd hp
      refine ⟨p, _, _, _, rfl, rfl, seqL upd_same, em, m, rfl, by omega, by omega, ?_⟩
      refine for_range (lo := 0) (n := m.toNat) (fun i σ H3 => Same H H3 ∧ ∃ (ws : List (List Nat)) (kv5 kv6 kv7 : Option V), σ = [some (.ref a), some (.int first), some (.int c), some (tx l), some (.ref b), kv5, kv6, kv7] ∧ H3 b = some (.lst (ws.map tx)) ∧ ws.length ≤ i ∧ ws.Nodup ∧ ∀ x ∈ ws, WordOk x) ?_ ?_ ?_
      · exact ⟨s2.trans s3, [], none, none, none, rfl, s3 _ _ upd_same, Nat.le_refl _, List.nodup_nil, fun x hx => nomatch hx⟩
      · rintro i σ H3 hi ⟨sm3, ws, kv5, kv6, kv7, rfl, eb, wl, wn, wo⟩
        refine ⟨_, rfl, _, rfl, _, _, rfl, rfl, _, rfl, _, _, rfl, rfl, (by show (0 : Int) < 6; decide), _, _, rfl, rfl, a, ns, _, rfl, sm3.seq hS, by omega, fun one => ?_⟩
        refine ⟨_, rfl, _, rfl, one, _, rfl, fun v _ _ => ⟨_, rfl, v, l, rfl, hl, l1, by omega, fun y H4 sm4 hy => ?_⟩⟩
        -- the word is one
        refine ⟨fun σ H5 => Same H H5 ∧ ∃ (z : List Nat) (kv6 kv7 : Option V), σ = [some (.ref a), some (.int first), some (.int c), some (tx l), some (.ref b), some (tx z), kv6, kv7] ∧ H5 b = some (.lst (ws.map tx)) ∧ WordOk z, ?_, ?_⟩
        · refine ⟨_, rfl, _, _, rfl, rfl, ⟨by decide, by decide⟩, _, _, rfl, rfl, (by show (0 : Int) < 4; decide), rfl, _, rfl, ite2 (fun _ => ?_) (fun _ => ?_)⟩
          · refine ⟨_, rfl, _, rfl, _, _, rfl, rfl, _, rfl, fun z hz => ?_⟩
            exact ⟨sm3.trans sm4, z, _, _, rfl, sm4 _ _ eb, hz⟩
          · refine ⟨_, rfl, Nat.zero_le _, fun e he => ?_⟩
            have s5 : Same H4 (upd H4 e (.lst [])) := same_upd he
            refine ⟨.list (ws.map fun l => PyData.str (S l)), .list [], .lst (seqL (s5 _ _ (sm4 _ _ eb))) (dp_texts ws), .lst (seqL upd_same) .nil, shaped_texts (fun x hx => (wo x hx).2.2), by decide +kernel, _, rfl, ?_⟩
            refine ite2 (fun hne => ?_) (fun _ => ?_)
            · have hws : 1 ≤ ws.length := by
                cases ws with
                | nil =>
                  have e0 : (!PyData.eqv (.list ([].map fun l => PyData.str (S l))) (.list [])) = false := by decide +kernel
                  rw [e0] at hne
                  exact absurd hne Bool.false_ne_true
                | cons x r => exact Nat.succ_le_succ (Nat.zero_le _)
              refine ⟨_, rfl, _, rfl, one, _, rfl, fun v2 _ _ => ⟨_, _, rfl, rfl, ⟨by decide, by decide⟩, _, _, rfl, rfl, (by show (0 : Int) < 2; decide), rfl, _, rfl, ite2 (fun _ => ?_) (fun _ => ?_)⟩⟩
              · refine ⟨_, rfl, _, rfl, _, rfl, _, _, rfl, rfl, one, _, rfl, fun v3 _ _ => ⟨_, rfl, b, ws, v3, l, rfl, seqL (s5 _ _ (sm4 _ _ eb)), hws, wo, hl, l1, by omega, fun z H6 sm6 hz => ?_⟩⟩
                exact ⟨((sm3.trans sm4).trans s5).trans sm6, z, _, _, rfl, sm6 _ _ (s5 _ _ (sm4 _ _ eb)), hz⟩
              · exact ⟨(sm3.trans sm4).trans s5, y, _, _, rfl, s5 _ _ (sm4 _ _ eb), hy⟩
            · exact ⟨(sm3.trans sm4).trans s5, y, _, _, rfl, s5 _ _ (sm4 _ _ eb), hy⟩
        · rintro σ H5 ⟨sm5, z, kv6, kv7, rfl, eb5, hz⟩
          refine ⟨_, rfl, _, rfl, b, _, rfl, .inl (seqL eb5), rfl, flat_tx ws, _, rfl, ?_⟩
          rw [inV_tx]
          refine ite2 (fun hn => ?_) (fun hn => ?_)
          · have hni : z ∉ ws := by
              intro z'
              rw [decide_eq_true z'] at hn
              exact Bool.noConfusion hn
            refine ⟨_, rfl, .inl ⟨rfl, _, seqL eb5⟩, _, rfl, b, _, _, rfl, rfl, eb5, by rw [List.length_map]; exact small1000 (by omega), ?_⟩
            refine ⟨fun d o e => ?_, ws ++ [z], _, _, _, rfl, ?_, by rw [List.length_append]; exact Nat.succ_le_succ wl, nodup_app wn hni, fun z' hz' => ?_⟩
            · rw [upd_ne (ne_of_none e hHb)]
              exact sm5 _ _ e
            · rw [upd_same, List.map_append]
              rfl
            · rcases List.mem_append.mp hz' with z1 | z1
              · exact wo z' z1
              · rw [List.mem_singleton.mp z1]
                exact hz
          · exact ⟨sm5, ws, _, _, _, rfl, eb5, Nat.le_succ_of_le wl, wn, wo⟩
      · rintro σ H3 ⟨sm3, ws, kv5, kv6, kv7, rfl, eb, wl, wn, wo⟩
        exact ⟨_, rfl, q b ws H3 sm3 hHb eb ⟨by omega, wn, wo⟩⟩
end
theorem sum_ten : ∀ {ys : List (List Nat)}, (∀ y ∈ ys, y.length ≤ 10) → (ys.map (·.length)).sum ≤ 10 * ys.length
  | [], _ => Nat.le_refl _
  | x :: r, h => by
    have i := sum_ten (ys := r) fun y hy => h y (List.mem_cons_of_mem _ hy)
    have j := h x List.mem_cons_self
    rw [List.map_cons, List.sum_cons, List.length_cons]
    omega
theorem flat_ten {ys : List (List Nat)} (h : ∀ y ∈ ys, y.length ≤ 10) : ys.flatten.length ≤ 10 * ys.length := by
  rw [List.length_flatten]
  exact sum_ten h
theorem join_room {ys : List (List Nat)} (h : ∀ y ∈ ys, y.length ≤ 10) (hl : ys.length ≤ 1000) : ((ys.map S).map (·.length)).sum + (ys.map S).length * (Str.ofString "").length ≤ 16777216 := by
  rw [lenS, empLen]
  have := sum_ten h
  omega
theorem q_list (ws : List (List Nat)) : ws.map tx ++ [V.str (Str.ofString "q")] = ((ws ++ [[113]]).map S).map V.str := by
  rw [show Str.ofString "q" = S [113] by decide +kernel, List.map_append, List.map_append, ← map_tx]
  rfl
section
variable {P : Program} {w : World} {K : PySem.W.Frag} {mg : Str → Option Value} {base : Heap} {f fA fM fR : Addr} {fd fdA fdM fdR : FuncData}
end
/-! ### how many partings: the mirror -/
/-- the word stands at the head of the rest -/
def hit (w r : List Nat) : Bool := TL.pre w r
theorem hit_iff {w r : List Nat} : hit w r = true ↔ r.take w.length = w := by
  unfold hit TL.pre
  exact beq_iff_eq
theorem hit_len {w r : List Nat} (h : hit w r = true) : w.length ≤ r.length := by
  have e := congrArg List.length (hit_iff.mp h)
  rw [List.length_take] at e
  omega
/-- what a word adds at a place, L: the counts behind the place -/
def adds (r : List Nat) (L : List Int) (w : List Nat) : Int := if hit w r = true then L.getD (w.length - 1) 0 else 0
def cnt (ws : List (List Nat)) : List Nat → List Int
  | [] => [1]
  | c :: r => (ws.map (adds (c :: r) (cnt ws r))).sum :: cnt ws r
theorem cnt_len (ws : List (List Nat)) : ∀ t : List Nat, (cnt ws t).length = t.length + 1
  | [] => rfl
  | c :: r => congrArg Nat.succ (cnt_len ws r)
theorem cnt_drop (ws : List (List Nat)) {t : List Nat} {p : Nat} (h : p < t.length) : cnt ws (t.drop p) = (ws.map (adds (t.drop p) (cnt ws (t.drop (p + 1))))).sum :: cnt ws (t.drop (p + 1)) := by
  rw [List.drop_eq_getElem_cons h]
  rfl
theorem perm_sum {l m : List Int} (h : l.Perm m) : l.sum = m.sum := by
  induction h with
  | nil => rfl
  | cons x _ ih => rw [List.sum_cons, List.sum_cons, ih]
  | swap x y l => rw [List.sum_cons, List.sum_cons, List.sum_cons, List.sum_cons]; omega
  | trans _ _ a b => exact a.trans b
theorem cnt_perm {ws vs : List (List Nat)} (h : ws.Perm vs) : ∀ t : List Nat, cnt ws t = cnt vs t
  | [] => rfl
  | c :: r => by
    have ih := cnt_perm h r
    show (ws.map (adds (c :: r) (cnt ws r))).sum :: cnt ws r = (vs.map (adds (c :: r) (cnt vs r))).sum :: cnt vs r
    rw [ih, perm_sum (h.map _)]
theorem sum_filter (r : List Nat) (L : List Int) : ∀ ws : List (List Nat), ((ws.filter fun w => hit w r).map fun w => L.getD (w.length - 1) 0).sum = (ws.map (adds r L)).sum
  | [] => rfl
  | x :: ws => by
    have ih := sum_filter r L ws
    rw [List.map_cons, List.sum_cons, ← ih]
    by_cases h : hit x r = true
    · rw [List.filter_cons_of_pos (p := fun w => hit w r) h, List.map_cons, List.sum_cons]
      unfold adds
      rw [if_pos h]
    · rw [List.filter_cons_of_neg (p := fun w => hit w r) h]
      unfold adds
      rw [if_neg h, Int.zero_add]
theorem take_sum {g : List Nat → Int} {ws : List (List Nat)} {i : Nat} (h : i < ws.length) : ((ws.take (i + 1)).map g).sum = ((ws.take i).map g).sum + g ws[i] := by
  rw [List.take_add_one, List.getElem?_eq_getElem h]
  show ((ws.take i ++ [ws[i]]).map g).sum = _
  rw [List.map_append, List.sum_append]
  show _ + (g ws[i] + 0) = _
  omega
/-! ### the model's startswith and slices -/
theorem start3 {t w : List Nat} (hw : w ≠ []) (p : Nat) : Txt.startswith3 (S t) (S w) (p : Int) = hit w (t.drop p) := by
  have e : PySem.fromIndex (S t).length (p : Int) = p := by
    unfold PySem.fromIndex
    rw [if_neg (by omega)]
    omega
  rw [Bool.eq_iff_iff]
  have h := TL.at_iff (x := S t) (y := S w) hw p
  unfold hit
  rw [← h]
  unfold Txt.startswith3
  rw [e, Bool.and_eq_true, decide_eq_true_eq]
  rfl
theorem slice_eq {t w : List Nat} (p : Nat) : decide (V.str (cutS (S t) (some (p : Int)) (some ((p : Int) + (w.length : Int)))) = V.str (S w)) = hit w (t.drop p) := by
  rw [cut_mid (by omega) (by omega), Bool.eq_iff_iff, decide_eq_true_eq, hit_iff]
  have e1 : ((p : Int) + (w.length : Int)).toNat - ((p : Int)).toNat = w.length := by omega
  have e2 : ((p : Int)).toNat = p := by omega
  rw [e1, e2]
  constructor
  · intro h
    exact S_inj (V.str.inj h)
  · intro h
    rw [h]
/-! ### the counts as they lie while they are reckoned -/
theorem zeros_get {p : Nat} {L : List Int} {k : Nat} (z : Int) (hk : 1 ≤ k) (h : k - 1 < L.length) : ((List.replicate p (0 : Int) ++ (z :: L)).map V.int)[p + k]? = some (V.int (L.getD (k - 1) 0)) := by
  rw [List.getElem?_map, List.getElem?_append_right (by rw [List.length_replicate]; omega), List.length_replicate]
  have e : p + k - p = (k - 1) + 1 := by omega
  rw [e, List.getElem?_cons_succ, List.getElem?_eq_getElem h, List.getD_eq_getElem?_getD, List.getElem?_eq_getElem h]
  rfl
theorem zeros_at {p : Nat} {L : List Int} (z : Int) : ((List.replicate p (0 : Int) ++ (z :: L)).map V.int)[p]? = some (V.int z) := by
  rw [List.getElem?_map, List.getElem?_append_right (by rw [List.length_replicate]; omega), List.length_replicate, Nat.sub_self]
  rfl
theorem zeros_set {p : Nat} {L : List Int} (z y : Int) : ((List.replicate p (0 : Int) ++ (z :: L)).map V.int).set p (V.int y) = (List.replicate p (0 : Int) ++ (y :: L)).map V.int := by
  rw [List.map_append, List.map_append, List.set_append_right _ _ (by rw [List.length_map, List.length_replicate]; omega), List.length_map, List.length_replicate, Nat.sub_self]
  rfl
theorem zeros_succ (p : Nat) (L : List Int) : List.replicate (p + 1) (0 : Int) ++ L = List.replicate p (0 : Int) ++ (0 :: L) := by
  rw [List.replicate_succ', List.append_assoc]
  rfl
theorem ixN_nat {n j : Nat} (h : j < n) : ixN n (j : Int) = some j := by
  unfold ixN
  rw [if_pos (by omega), if_pos (by omega), Int.toNat_natCast]
theorem flat_rep (n : Nat) (z : V) : (List.replicate n [z]).flatten = List.replicate n z := by
  induction n with
  | zero => rfl
  | succ n ih =>
    rw [List.replicate_succ, List.flatten_cons, ih, List.replicate_succ]
    rfl
/-! ### how many partings a rest has -/
def cntH (ws : List (List Nat)) (r : List Nat) : Int := (cnt ws r).getD 0 0
theorem cnt_at {ws : List (List Nat)} : ∀ {t : List Nat} {j : Nat}, j ≤ t.length → (cnt ws t)[j]? = some (cntH ws (t.drop j))
  | [], 0, _ => rfl
  | [], j + 1, h => absurd h (Nat.not_succ_le_zero j)
  | _ :: _, 0, _ => rfl
  | c :: t, j + 1, h => cnt_at (t := t) (j := j) (Nat.le_of_succ_le_succ h)
theorem sum_nn : ∀ {l : List Int}, (∀ x ∈ l, 0 ≤ x) → 0 ≤ l.sum
  | [], _ => Int.le_refl 0
  | x :: l, h => by
    rw [List.sum_cons]
    have h1 := h x List.mem_cons_self
    have h2 := sum_nn (l := l) fun y hy => h y (List.mem_cons_of_mem _ hy)
    omega
theorem cnt_nn (ws : List (List Nat)) : ∀ t : List Nat, ∀ x ∈ cnt ws t, 0 ≤ x
  | [], x, hx => by
    rw [List.mem_singleton.mp hx]
    decide
  | c :: t, x, hx => by
    have ih := cnt_nn ws t
    rcases List.mem_cons.mp hx with e | m
    · rw [e]
      refine sum_nn fun y hy => ?_
      obtain ⟨w, _, rfl⟩ := List.mem_map.mp hy
      unfold adds
      by_cases q : hit w (c :: t) = true
      · rw [if_pos q, List.getD_eq_getElem?_getD]
        cases e : (cnt ws t)[w.length - 1]? with
        | none => exact Int.le_refl 0
        | some z => exact ih z (List.mem_of_getElem? e)
      · rw [if_neg q]
        exact Int.le_refl 0
    · exact ih x m
theorem cntH_nn (ws : List (List Nat)) (r : List Nat) : 0 ≤ cntH ws r := by
  have h := cnt_at (ws := ws) (t := r) (j := 0) (Nat.zero_le _)
  exact cnt_nn ws r _ (List.mem_of_getElem? h)
/-- how many partings go on with this word -/
def gain (ws : List (List Nat)) (r x : List Nat) : Int := cntH ws (r.drop x.length)
theorem cntH_sum {ws : List (List Nat)} (hw : ∀ x ∈ ws, 1 ≤ x.length) : ∀ {r : List Nat}, r ≠ [] → cntH ws r = ((ws.filter fun x => hit x r).map (gain ws r)).sum
  | [], h => absurd rfl h
  | c :: r, _ => by
    show (ws.map (adds (c :: r) (cnt ws r))).sum = _
    rw [← sum_filter]
    refine congrArg List.sum (List.map_congr_left fun x hx => ?_)
    obtain ⟨m1, m2⟩ := (List.mem_filter (p := fun x => hit x (c :: r))).mp hx
    have h1 := hw x m1
    have h2 : x.length ≤ r.length + 1 := hit_len m2
    unfold gain
    rw [List.getD_eq_getElem?_getD, cnt_at (by omega)]
    obtain ⟨n, hn⟩ : ∃ n, x.length = n + 1 := ⟨x.length - 1, by omega⟩
    rw [hn]
    rfl
theorem small1000_of {n : Nat} (h : n ≤ 10000) : n < sizeLine := Nat.lt_of_le_of_lt h (by decide)
theorem small_T {x : List Nat} (h : x.length ≤ 100000) : (S x).length ≤ sizeLine := by rw [S_len]; exact Nat.le_trans h (by decide)
theorem size_T {n : Nat} (h : n ≤ 100000) : n ≤ sizeLine := Nat.le_trans h (by decide)
theorem small_S {x : List Nat} (h : x.length ≤ 1000) : (S x).length ≤ sizeLine := by rw [S_len]; exact size1000 h
theorem len_v (w : List Nat) : V.int ((S w).length : Int) = V.int (w.length : Int) := congrArg (fun n : Nat => V.int (n : Int)) (S_len w)
section
variable {P : Program} {w : World} {K : PySem.W.Frag} {mg : Str → Option Value} {base : Heap} {f fW : Addr} {fd fdW : FuncData}
/-- the counts, told as a new list -/
def spCnt (K : PySem.W.Frag) : Sp := fun vs H Q _ => ∃ (b : Addr) (ws : List (List Nat)) (t : List Nat), vs = [.ref b, tx t] ∧ SqL K H b (ws.map tx) ∧ (∀ x ∈ ws, WordOk x) ∧ ws.length ≤ 12 ∧ t.length ≤ 20000 ∧
  ∀ (g : Addr) (H' : Hp), Same H H' → H g = none → H' g = some (.lst ((cnt ws t).map V.int)) → Q (.ref g) H'
end
/-! ### a range object that a name holds, walked -/
def iRngV (te : TE) : TI := fun σ H R => te σ H fun x H1 => ∃ a lo hi, x = .ref a ∧ H1 a = some (.rng lo hi) ∧ (-(2 ^ 62) ≤ lo ∧ lo < 2 ^ 62 ∧ -(2 ^ 62) ≤ hi ∧ hi < 2 ^ 62) ∧ R (Itr lo (hi - lo).toNat) H1
theorem pi_rngV {X : Cx} {tg e : Expr} {te : TE} (he : PE X e te) : PI X tg e (iRngV te) := by
  refine ⟨fun pins s σ H R I h => ?_⟩
  refine thn (he.run pins s σ H _ I h) fun v s1 ⟨x, H1, I1, r1, q1⟩ => ?_
  obtain ⟨a, lo, hi, ex, ha, ⟨h1, h2, h3, h4⟩, q⟩ := q1
  subst ex
  cases r1
  obtain ⟨t, u, v, hr⟩ := (show ObjOk X.prog X.w H1 s1.heap a (.rng lo hi) from I1.hok a _ ha)
  refine wpAny_pyIter_range (show IsRange s1.heap a lo hi 1 t u v from hr) (small_one h1 h2 h3 h4) ?_
  refine ⟨s1.heap.objs.size, [s1.heap.objs.size], _, _, H1, rfl, I1.kept (t' := s1.toks) fun b o e => Heap.get?_push_of_some _ e, turn_range _ lo (hi - lo).toNat, ?_, fun b hb => ?_, q⟩
  · have e1 : lo + ((0 : Nat) : Int) * 1 = lo := by simp
    have e2 : (((hi - lo).toNat : Nat) : Int) - ((0 : Nat) : Int) = Builtin.Range.rangeSize lo hi 1 := by rw [rangeSize_one]; split <;> omega
    show IsRangeIter _ _ (lo + ((0 : Nat) : Int) * 1) ((((hi - lo).toNat : Nat) : Int) - ((0 : Nat) : Int)) 1
    rw [e1, e2]
    exact Heap.get?_push_size _ rfl
  · have e : b = s1.heap.objs.size := by simpa using hb
    subst e
    exact I1.fpOk (Nat.le_refl _) (I1.hok.fresh (Nat.le_refl _))
/-! ### truths, and tables of them -/
noncomputable def bp (p : Prop) : Bool := @decide p (Classical.propDecidable p)
theorem bp_iff {p : Prop} : bp p = true ↔ p := by
  unfold bp
  exact @decide_eq_true_iff p (Classical.propDecidable p)
theorem bp_true {p : Prop} (h : p) : bp p = true := bp_iff.mpr h
theorem bp_false {p : Prop} (h : ¬ p) : bp p = false := by
  cases e : bp p with
  | false => rfl
  | true => exact absurd (bp_iff.mp e) h
theorem bp_congr {p q : Prop} (h : p ↔ q) : bp p = bp q := by
  rw [Bool.eq_iff_iff, bp_iff, bp_iff]
  exact h
noncomputable def tbl (n : Nat) (P : Nat → Prop) : List V := (List.range (n + 1)).map fun j => V.bl (bp (P j))
theorem tbl_len (n : Nat) (P : Nat → Prop) : (tbl n P).length = n + 1 := by
  unfold tbl
  rw [List.length_map, List.length_range]
theorem tbl_at {n : Nat} {P : Nat → Prop} {j : Nat} (h : j ≤ n) : (tbl n P)[j]? = some (V.bl (bp (P j))) := by
  unfold tbl
  rw [List.getElem?_map, List.getElem?_range (by omega)]
  rfl
theorem tbl_congr {n : Nat} {P Q : Nat → Prop} (h : ∀ i, i ≤ n → (P i ↔ Q i)) : tbl n P = tbl n Q := by
  unfold tbl
  refine List.map_congr_left fun j hj => ?_
  rw [bp_congr (h j (by have := List.mem_range.mp hj; omega))]
theorem tbl_set {n : Nat} {P : Nat → Prop} {j : Nat} : (tbl n P).set j (V.bl true) = tbl n fun i => P i ∨ i = j := by
  refine List.ext_getElem? fun i => ?_
  rw [List.getElem?_set]
  by_cases hi : i ≤ n
  · rw [tbl_at hi, tbl_at hi]
    by_cases e : j = i
    · rw [if_pos e, if_pos (by rw [tbl_len]; omega), bp_true (Or.inr e.symm)]
    · rw [if_neg e]
      refine congrArg some (congrArg V.bl (bp_congr ⟨Or.inl, fun z => ?_⟩))
      rcases z with z | z
      · exact z
      · exact absurd z.symm e
  · have l1 : (tbl n P)[i]? = none := List.getElem?_eq_none_iff.mpr (by rw [tbl_len]; omega)
    have l2 : (tbl n fun i => P i ∨ i = j)[i]? = none := List.getElem?_eq_none_iff.mpr (by rw [tbl_len]; omega)
    rw [l1, l2]
    by_cases e : j = i
    · rw [if_pos e, if_neg (by rw [tbl_len]; omega)]
    · rw [if_neg e]
theorem tbl_init (n : Nat) : V.bl true :: List.replicate n (V.bl false) = tbl n fun j => j = 0 := by
  unfold tbl
  rw [List.range_succ_eq_map, List.map_cons, bp_true rfl, List.map_map]
  refine congrArg _ ?_
  refine List.ext_getElem? fun i => ?_
  rw [List.getElem?_replicate, List.getElem?_map]
  by_cases h : i < n
  · rw [if_pos h, List.getElem?_range h]
    show _ = some (V.bl (bp (i + 1 = 0)))
    rw [bp_false (by omega)]
  · rw [if_neg h, List.getElem?_eq_none_iff.mpr (by rw [List.length_range]; omega)]
    rfl
/-! ### the places that rows reach -/
inductive RchK (ws : List (List Nat)) (t : List Nat) (k : Nat) : Nat → Prop where
  | zero : RchK ws t k 0
  | step {p : Nat} {w : List Nat} : p < k → RchK ws t k p → w ∈ ws → hit w (t.drop p) = true → RchK ws t k (p + w.length)
section
variable {ws : List (List Nat)} {t : List Nat}
theorem RchK.mono {k m j : Nat} (h : k ≤ m) (r : RchK ws t k j) : RchK ws t m j := by
  induction r with
  | zero => exact .zero
  | step a _ b c ih => exact .step (by omega) ih b c
theorem RchK.first {j : Nat} : RchK ws t 0 j ↔ j = 0 := by
  constructor
  · intro r
    cases r with
    | zero => rfl
    | step a _ _ _ => exact absurd a (Nat.not_lt_zero _)
  · rintro rfl
    exact .zero
theorem RchK.low (hw : ∀ w ∈ ws, 1 ≤ w.length) {k m j : Nat} (r : RchK ws t m j) (h : j ≤ k) : RchK ws t k j := by
  induction r with
  | zero => exact .zero
  | step a b c d ih =>
    have := hw _ c
    exact .step (by omega) (ih (by omega)) c d
theorem RchK.succ (hw : ∀ w ∈ ws, 1 ≤ w.length) {k j : Nat} : RchK ws t (k + 1) j ↔ RchK ws t k j ∨ (RchK ws t k k ∧ ∃ w ∈ ws, hit w (t.drop k) = true ∧ j = k + w.length) := by
  constructor
  · intro r
    induction r with
    | zero => exact .inl .zero
    | @step p w a b c d ih =>
      have rp : RchK ws t k p := b.low hw (by omega)
      by_cases e : p = k
      · subst e
        exact .inr ⟨rp, w, c, d, rfl⟩
      · exact .inl (.step (by omega) rp c d)
  · rintro (r | ⟨r, w, c, d, rfl⟩)
    · exact r.mono (by omega)
    · exact .step (by omega) (r.mono (by omega)) c d
theorem RchK.perm {vs : List (List Nat)} (h : ∀ w, w ∈ vs ↔ w ∈ ws) {k j : Nat} : RchK vs t k j ↔ RchK ws t k j := by
  constructor
  · intro r
    induction r with
    | zero => exact .zero
    | step a _ c d ih => exact .step a ih ((h _).mp c) d
  · intro r
    induction r with
    | zero => exact .zero
    | step a _ c d ih => exact .step a ih ((h _).mpr c) d
end
/-- some text of the code begins with t -/
def Ans (ws : List (List Nat)) (t : List Nat) : Prop := RchK ws t t.length t.length ∨ ∃ p, p < t.length ∧ RchK ws t t.length p ∧ ∃ w ∈ ws, w.take (t.length - p) = t.drop p
theorem Ans.perm {ws vs : List (List Nat)} {t : List Nat} (h : ∀ w, w ∈ vs ↔ w ∈ ws) : Ans vs t ↔ Ans ws t := by
  unfold Ans
  rw [RchK.perm h]
  refine or_congr Iff.rfl (exists_congr fun p => and_congr Iff.rfl (and_congr (RchK.perm h) (exists_congr fun w => and_congr (h w) Iff.rfl)))
theorem start1 {r w : List Nat} (hr : r ≠ []) : Txt.startswith (S w) (S r) = hit r w := by
  rw [Bool.eq_iff_iff]
  have h := TL.at_iff (x := S w) (y := S r) hr 0
  rw [List.drop_zero] at h
  unfold hit
  rw [← h]
  unfold Txt.startswith
  rw [Bool.and_eq_true, decide_eq_true_eq]
  show _ ↔ (0 + (S r).length ≤ (S w).length ∧ Builtin.Str.subAt (S w) (S r) 0 = true)
  rw [Nat.zero_add]
section
variable {Pr : Program} {w : World} {K : PySem.W.Frag} {mg : Str → Option Value} {base : Heap} {f fW : Addr} {fd fdW : FuncData}
end
/-! ### a def whose code object is known -/
theorem _root_.L2.FunD.okC {P : Program} {w : World} {K : PySem.W.Frag} {mg : Str → Option Value} {base : Heap} {x qual : Str} {params : Arguments} {body : List Stmt} {scope : Scope} {dvs : List V} {kws : List (Str × V)} {at_ : Str × Option Str} {fd : FuncData}
    {CX : CXT} {N ps : List Str} {k : Nat} {sp : Sp} (F : FunD K x qual params body scope dvs kws (He.fAd K at_) fd) (S : FnScope N ps scope) (len : ∀ vs H Q E, sp vs H Q E → vs.length = ps.length)
    (hbody : ∀ (A : Around) (outer : List Env) (s : Shared) (H : Hp) (vs : List V) (Q : VK) (E : XK), Room k (A.deeper (envOfC qual scope s.heap.objs.size (He.fAd K at_) (.ref (He.codeOf K at_)))) → sp vs H Q E →
      ∃ t, PSs (cxOf CX P w K mg base N qual scope (He.fAd K at_) (.ref (He.codeOf K at_)) A outer s H E).nox body t ∧ t { nx := fun _ H' => Q .non H', rt := Q } (start N vs) H) : FnOk P w K mg base CX (k + 1) (He.fAd K at_) fd ps sp := by
  obtain ⟨oc, od, dV, kV, doc, pm, an, cdv, ct, osl, rfl, lk, hcd, _, _⟩ := F.ex
  obtain ⟨c, rfl⟩ := He.codeIn_ref hcd
  have e : He.codeOf K at_ = c := He.codeOf_eq lk rfl
  refine fn_of lk hcd S len fun A outer s H vs Q E hr hsp => ?_
  rw [e] at hbody
  obtain ⟨t, q, r⟩ := hbody A outer s H vs Q E hr hsp
  exact ⟨t, q.nox, r⟩
/-! ### heaps but for a table -/
structure Sm (P : Addr) (H H' : Hp) : Prop where
  tab : GxR.TabG H' P
  keep : ∀ b o, b ≠ P → H b = some o → H' b = some o
theorem Sm.of_same {P : Addr} {H H' : Hp} (t : GxR.TabG H P) (s : Same H H') : Sm P H H' := by
  obtain ⟨ps, e, h⟩ := t
  exact ⟨⟨ps, s _ _ e, h⟩, fun b o _ q => s _ _ q⟩
theorem Sm.refl {P : Addr} {H : Hp} (t : GxR.TabG H P) : Sm P H H := .of_same t (Same.refl H)
theorem Sm.trans {P : Addr} {H H1 H2 : Hp} (a : Sm P H H1) (b : Sm P H1 H2) : Sm P H H2 := ⟨b.tab, fun c o n e => b.keep c o n (a.keep c o n e)⟩
theorem Sm.of_tabbed {P : Addr} {H H' : Hp} (t : GxR.Tabbed P H H') : Sm P H H' := ⟨t.1, fun b o n e => by rw [t.2 b n]; exact e⟩
theorem Sm.andThen {P : Addr} {H H1 H2 : Hp} (a : Sm P H H1) (b : Same H1 H2) : Sm P H H2 := a.trans (.of_same a.tab b)
theorem Sm.free {P : Addr} {H H' : Hp} (t : GxR.TabG H P) (s : Sm P H H') {l : Addr} (h : H' l = none) : H l = none := by
  obtain ⟨ps, e, _⟩ := s.tab
  have nl : l ≠ P := fun z => by
    rw [z, e] at h
    cases h
  cases q : H l with
  | none => rfl
  | some o =>
    rw [s.keep l o nl q] at h
    cases h
theorem TabG.ne {P : Addr} {H : Hp} (t : GxR.TabG H P) {b : Addr} {xs : List V} (h : H b = some (.lst xs)) : b ≠ P := by
  obtain ⟨ps, e, _⟩ := t
  intro z
  rw [z, e] at h
  cases h
theorem Sm.seq {K : PySem.W.Frag} {P : Addr} {H H' : Hp} {a : Addr} {xs : List V} (t : GxR.TabG H P) (s : Sm P H H') (h : SqL K H a xs) : SqL K H' a xs := by
  obtain ⟨ps, e, _⟩ := t
  rcases h with (h | ⟨o, h⟩) | h
  · exact .inl (.inl (s.keep _ _ (fun z => by rw [z, e] at h; cases h) h))
  · exact .inl (.inr ⟨o, s.keep _ _ (fun z => by rw [z, e] at h; cases h) h⟩)
  · exact .inr h
theorem Sm.lst {P : Addr} {H H' : Hp} {a : Addr} {xs : List V} (t : GxR.TabG H P) (s : Sm P H H') (h : H a = some (.lst xs)) : H' a = some (.lst xs) := s.keep _ _ (TabG.ne t h) h
theorem tab_upd {P : Addr} {H : Hp} {p : Addr} {o : HO} (t : GxR.TabG H P) (h : p ≠ P) : GxR.TabG (upd H p o) P := by
  obtain ⟨ps, e, q⟩ := t
  exact ⟨ps, by rw [upd_ne (Ne.symm h)]; exact e, q⟩
theorem iteP {c A B : Prop} [Decidable c] (hc : c) (h : A) : if decide c = true then A else B := by
  rw [if_pos (decide_eq_true hc)]
  exact h
theorem iteN {c A B : Prop} [Decidable c] (hc : ¬ c) (h : B) : if decide c = true then A else B := by
  rw [if_neg (fun z => hc (of_decide_eq_true z))]
  exact h
theorem iteNP {c A B : Prop} [Decidable c] (hc : c) (h : B) : if (!decide c) = true then A else B := by
  rw [decide_eq_true hc, if_neg (by decide)]
  exact h
theorem iteNN {c A B : Prop} [Decidable c] (hc : ¬ c) (h : A) : if (!decide c) = true then A else B := by
  rw [decide_eq_false hc, if_pos (by decide)]
  exact h
/-! ### 'a' <= sign <= 'z' -/
theorem lt_one (c d : Nat) : ([c] : List Nat) < [d] ↔ c < d := by
  rw [List.cons_lt_cons_iff]
  constructor
  · rintro (h | ⟨_, h⟩)
    · exact h
    · exact absurd h (List.not_lt_nil _)
  · exact Or.inl
theorem elt_az {prog : Program} {w : World} {scope : Scope} {x : Str} {j k : Nat} {p1 p2 p3 p4 : Pos} (hk : scope.kind = .function) (hl : scope.names.lookup x = some .local) (hd : (x == ("__debug__" : Str)) = false := by decide) :
    GxR.EltP prog w scope x (.Compare (.Constant (.str "a") j p1) [.LtE, .LtE] [.Name x p2, .Constant (.str "z") k p3] p4) (fun c => decide (97 ≤ c) && decide (c ≤ 122)) := by
  intro cenv A' E' c t s₂ m₂ hs hn hm
  have ea : (Str.ofString "a").cps.toList = [97] := by decide +kernel
  have ez : (Str.ofString "z").cps.toList = [122] := by decide +kernel
  refine Compare_chain ?_
  refine Calls.Constant_str ?_
  refine chain_link ?_
  refine wpAny_Name (wpAny_loadName_local (by rw [hs]; exact hk) (show cenv.scope.names.lookup x = some .local by rw [hs]; exact hl) hn hm ?_) hd
  refine PySem.P.le_str ?_
  refine wpAny_truthy_bool ?_
  rw [ea]
  by_cases h1 : 97 ≤ c
  · have e1 : (!(decide (([c] : List Nat) < [97]))) = true := by
      rw [decide_eq_false (fun z => by have := (lt_one c 97).mp z; omega)]
      rfl
    rw [if_pos e1]
    refine chain_last ?_
    refine Calls.Constant_str ?_
    refine PySem.P.le_str ?_
    rw [ez]
    refine ⟨?_, GxR.keeps_tok _ _⟩
    refine congrArg Value.bool ?_
    show (!decide (([122] : List Nat) < [c])) = (decide (97 ≤ c) && decide (c ≤ 122))
    rw [decide_eq_true h1, Bool.true_and]
    by_cases h2 : c ≤ 122
    · rw [decide_eq_true h2, decide_eq_false (fun z => by have := (lt_one 122 c).mp z; omega)]
      rfl
    · rw [decide_eq_false h2, decide_eq_true ((lt_one 122 c).mpr (by omega))]
      rfl
  · have e1 : (!(decide (([c] : List Nat) < [97]))) = false := by
      rw [decide_eq_true ((lt_one c 97).mpr (by omega))]
      rfl
    rw [if_neg (by rw [e1]; exact Bool.false_ne_true)]
    refine ⟨?_, GxR.keeps_tok _ _⟩
    refine congrArg Value.bool ?_
    show (!decide (([c] : List Nat) < [97])) = (decide (97 ≤ c) && decide (c ≤ 122))
    rw [e1, decide_eq_false h1]
    rfl
/-- the built-in names and constants -/
structure Bl (mg : Str → Option Value) : Prop where
  mT : mg "type" = none
  mStr : mg "str" = none
  mL : mg "len" = none
  mAll : mg "all" = none
  mList : mg "list" = none
  mSorted : mg "sorted" = none
  mR : mg "range" = none
  mV : mg "reversed" = none
  mSum : mg "sum" = none
  mIsi : mg "isinstance" = none
  mInt : mg "int" = none
  mBool : mg "bool" = none
  mAny : mg "any" = none
  mMax : mg "max" = none
  mDict : mg "dict" = none
  mTuple : mg "tuple" = none
  mMin : mg "min" = none
  mVE : mg "ValueError" = none
  mEnum : mg "enumerate" = none
  mZip : mg "zip" = none
  mN : ∃ u, mg "MOST_SIGNS" = some (.int 10 u)
  mM : ∃ u, mg "MOST_WORDS" = some (.int 12 u)
  mPush : mg "heappush" = some (.builtin "_heapq.heappush")
  mPop : mg "heappop" = some (.builtin "_heapq.heappop")
  mCombi : mg "combinations" = some (.type "itertools.combinations")
section
variable {Pr : Program} {w : World} {K : PySem.W.Frag} {mg : Str → Option Value} {base : Heap} {fd : FuncData} {P : Addr}
theorem scIsWord : FnScope ["thing"] ["thing"] (defScope sIsWord) := ⟨rfl, rfl, rfl, by decide +kernel, rfl, by decide +kernel, by decide +kernel⟩
def spIsWord (P : Addr) : Sp := fun vs H Q _ => ∃ (l : List Nat), vs = [tx l] ∧ WordOk l ∧ GxR.TabG H P ∧ ∀ H', Sm P H H' → Q (.bl true) H'
theorem ok_isWord (F : FnP K "is_word" sIsWord (He.fAd K aWord) fd) (T : GxR.TabB base mg (He.codeOf K aWord) P) (mT : mg "type" = none) (mStr : mg "str" = none) (mL : mg "len" = none) (mAll : mg "all" = none) {u : Tok} (mN : mg "MOST_SIGNS" = some (.int 10 u)) :
    FnOk Pr w K mg base CX0 1 (He.fAd K aWord) fd ["thing"] (spIsWord P) := by
  refine F.okC scIsWord (fun vs H Q E h => ?_) (fun A' outer s H vs Q E hr h => ?_)
  · obtain ⟨l, rfl, _⟩ := h
    rfl
  · obtain ⟨l, rfl, ⟨l1, l2, l3⟩, hT, q⟩ := h
    refine ⟨_, pss_cons (ps_if (pt_cmpR op_isNotTy (pe_callTy RZ.call_type4 (by rfl) mT boot_type (pa_cons (pv 0) pa_nil)) (pe_bltn (v := .ty "str") (by rfl) mStr boot_str rfl) (nomark _)) (pss_one (ps_ret pe_bl)) pss_nil)
      (pss_cons (ps_if (pt_not (pt_chain op_le op_le pe_int (pe_callB call_len_str (by rfl) mL boot_len (pa_cons (pv 0) pa_nil)) (pe_glob (v := .int 10) (by rfl) mN ⟨_, rfl⟩))) (pss_one (ps_ret pe_bl)) pss_nil)
      (pss_one (ps_ret (GxR.pe_allS hr (by rfl) mAll boot_all T rfl ⟨rfl, rfl, ?gc, rfl, rfl, ?gf⟩ (pv 0) (elt_az rfl rfl) (fun _ => rfl))))), ?_⟩
    case gc =>
      intro y hy e
      simp only [List.mem_cons, List.not_mem_nil, or_false] at hy
      rcases hy with rfl | rfl <;> cases e
    case gf =>
      intro y hy e
      simp only [List.mem_cons, List.not_mem_nil, or_false] at hy
      rcases hy with rfl | rfl <;> cases e
    refine ⟨_, rfl, _, "str", rfl, .str _, "str", "str", rfl, rfl, _, rfl, ?_⟩
    refine iteF ?_
    have ll : (S l).length = l.length := S_len l
    refine ⟨_, rfl, S l, rfl, small_S (by omega), _, _, rfl, rfl, _, rfl, ?_⟩
    refine iteP (by rw [ll]; omega) ⟨_, _, rfl, rfl, _, rfl, ?_⟩
    rw [decide_eq_true (show ((S l).length : Int) ≤ 10 by rw [ll]; omega)]
    refine iteF ?_
    refine ⟨_, rfl, S l, rfl, hT, fun H2 hH => ?_⟩
    have e : (S l).cps.toList.all (fun c => decide (97 ≤ c) && decide (c ≤ 122)) = true := by
      rw [List.all_eq_true]
      intro c hc
      have := l3 c hc
      rw [decide_eq_true this.1, decide_eq_true this.2]
      rfl
    rw [e]
    exact q H2 (.of_tabbed hH)
variable {f fI fC fH : Addr} {fdI fdC fdH : FuncData}
theorem scChecked : FnScope ["words", "found", "thing"] ["words"] (defScope sChecked) := ⟨rfl, rfl, rfl, by decide +kernel, rfl, by decide +kernel, by decide +kernel⟩
def spChecked (P : Addr) : Sp := fun vs H Q _ => ∃ (b : Addr) (ws : List (List Nat)), vs = [.ref b] ∧ H b = some (.lst (ws.map tx)) ∧ CodeOk ws ∧ GxR.TabG H P ∧
  ∀ (r : Addr) (vs : List (List Nat)) (H' : Hp), Sm P H H' → H r = none → H' r = some (.lst (vs.map tx)) → vs.Perm ws → sortedS (vs.map S) = true → Q (.ref r) H'
/-- the program's is_word, as it stands behind the top -/
structure HasI (K : PySem.W.Frag) (mg : Str → Option Value) (base : Heap) (P : Addr) (fd : FuncData) : Prop where
  F : FnP K "is_word" sIsWord (He.fAd K aWord) fd
  g : mg "is_word" = some (.ref (He.fAd K aWord))
  b : Binds K fd ["thing"] []
  T : GxR.TabB base mg (He.codeOf K aWord) P
theorem ok_checked (F : FnP K "checked" sChecked f fd) (I : HasI K mg base P fdI) (B : Bl mg) : FnOk Pr w K mg base CX0 2 f fd ["words"] (spChecked P) := by
  obtain ⟨u10, mN⟩ := B.mN
  obtain ⟨u12, mM⟩ := B.mM
  have GI : FnOk Pr w K mg base CX0 1 (He.fAd K aWord) fdI ["thing"] (spIsWord P) := ok_isWord I.F I.T B.mT B.mStr B.mL B.mAll mN
  refine F.okN scChecked (fun vs H Q E h => ?_) (fun cdv A' outer s H vs Q E hr h => ?_)
  · obtain ⟨b, ws, rfl, _⟩ := h
    rfl
  · obtain ⟨b, ws, rfl, hB, ⟨c1, c2, c3⟩, hT, q⟩ := h
    refine ⟨_, pss_cons (ps_if (pt_cmpR op_isNotTy (pe_callTy RZ.call_type4 (by rfl) B.mT boot_type (pa_cons (pv 0) pa_nil)) (pe_bltn (v := .ty "list") (by rfl) B.mList boot_list rfl) (nomark _)) pss_never pss_nil)
      (pss_cons (ps_if (pt_cmpR op_gt (pe_callB call_len_seq (by rfl) B.mL boot_len (pa_cons (pv 0) pa_nil)) (pe_glob (v := .int 12) (by rfl) mM ⟨_, rfl⟩) (nomark _)) pss_never pss_nil)
      (pss_cons (ps_set (i := 1) scChecked.nd rfl (.inl rfl) (pe_lst pa_nil))
      (pss_cons (ps_for PassesOwn.never rfl (pi_list (pv 0)) (pg_name (i := 2) scChecked.nd rfl (Or.inl rfl))
        (pss_cons (ps_if (pt_not (pt_val (pe_call GI hr (by rfl) I.g I.F.kp I.b .nil pass0 (pa_cons (pv 2) pa_nil)))) pss_never pss_nil)
        (pss_cons (ps_if (pt_cmpR op_in_seq (pv 2) (pv 1) (by rfl)) pss_never pss_nil)
        (pss_one (ps_expr (pe_bm PySem.F.plainAttrs_list PySem.F.slot_list_append PySem.F.type_list_append mt_append (pv 1) (pa_cons (pv 2) pa_nil)))))))
      (pss_one (ps_ret (pe_callB cr_sortedS (by rfl) B.mSorted boot_sorted (pa_cons (pv 1) pa_nil))))))), ?_⟩
    refine ⟨_, rfl, _, "list", rfl, .lst hB, "list", "list", rfl, rfl, _, rfl, ?_⟩
    refine iteF ?_
    refine ⟨_, rfl, b, _, rfl, .inl (seqL hB), _, _, rfl, rfl, _, rfl, iteN (by rw [List.length_map]; omega) ?_⟩
    refine ⟨Nat.zero_le _, fun g hg => ?_⟩
    have s1 : Same H (upd H g (.lst [])) := same_upd hg
    have m1 : Sm P H (upd H g (.lst [])) := .of_same hT s1
    have hbg : b ≠ g := ne_of_none hB hg
    have ngP : g ≠ P := TabG.ne m1.tab upd_same
    refine ⟨_, rfl, b, rfl, ⟨_, seqL (s1 _ _ hB)⟩, for_list (K := K) (a := b) (xs := ws.map tx) (fun i σ H3 => Sm P H H3 ∧ ∃ (kv : Option V), σ = [some (.ref b), some (.ref g), kv] ∧ H3 g = some (.lst ((ws.take i).map tx))) ?_ ?_ ?_ ?_⟩
    · exact ⟨m1, none, rfl, upd_same⟩
    · exact fun i σ H3 _ hh => seqL (Sm.lst hT hh.1 hB)
    · rintro i x σ H3 hx ⟨sm, kv, rfl, eg⟩
      have hj : i < ws.length := by
        have := (List.getElem?_eq_some_iff.mp hx).1
        rw [List.length_map] at this
        exact this
      have hxe : x = tx ws[i] := by
        rw [List.getElem?_map, List.getElem?_eq_getElem hj] at hx
        exact (Option.some.inj hx).symm
      subst hxe
      refine ⟨_, rfl, ws[i], rfl, c3 _ (List.getElem_mem hj), sm.tab, fun H4 sm4 => ⟨_, rfl, ?_⟩⟩
      refine iteF ?_
      have eg4 : H4 g = some (.lst ((ws.take i).map tx)) := sm4.keep _ _ ngP eg
      refine ⟨_, rfl, _, rfl, g, _, rfl, .inl (seqL eg4), rfl, flat_tx _, _, rfl, ?_⟩
      have hni : ws[i] ∉ ws.take i := by
        intro z
        obtain ⟨j, hj2, e2⟩ := List.mem_iff_getElem.mp z
        rw [List.length_take] at hj2
        rw [List.getElem_take] at e2
        have := (List.getElem_inj c2).mp e2
        omega
      rw [show (if (false : Bool) = true then !inV (tx ws[i]) ((ws.take i).map tx) else inV (tx ws[i]) ((ws.take i).map tx)) = decide (ws[i] ∈ ws.take i) from inV_tx _ _]
      refine iteN hni ?_
      refine ⟨_, rfl, .inl ⟨rfl, _, seqL eg4⟩, _, rfl, g, _, _, rfl, rfl, eg4, by rw [List.length_map, List.length_take]; exact small1000 (by omega), ?_⟩
      refine ⟨⟨tab_upd sm4.tab ngP, fun d o n e => ?_⟩, _, rfl, ?_⟩
      · rw [upd_ne (ne_of_none e hg)]
        exact sm4.keep _ _ n (sm.keep _ _ n e)
      · rw [upd_same, List.take_add_one, List.getElem?_eq_getElem hj, List.map_append]
        rfl
    · rintro σ H3 ⟨sm, kv, rfl, eg⟩
      rw [List.length_map, List.take_length] at eg
      refine ⟨_, rfl, g, ws.map S, rfl, seqL (by rw [← map_tx]; exact eg), by rw [List.length_map]; omega, fun ys r perm so hr0 => ?_⟩
      have e1 : (ys.map TL.tl).map S = ys := by
        rw [List.map_map]
        have : (S ∘ TL.tl) = id := funext fun z => S_tl z
        rw [this, List.map_id]
      refine q r (ys.map TL.tl) _ (sm.andThen (same_upd hr0)) (Sm.free hT sm hr0) ?_ ?_ ?_
      · rw [upd_same, map_tx, e1]
      · have := perm.map TL.tl
        rw [map_S_tl] at this
        exact this
      · rw [e1]
        exact so
theorem scWhole : FnScope ["_law_found"] ["_law_found"] (defScope sWhole) := ⟨rfl, rfl, rfl, by decide +kernel, rfl, by decide +kernel, by decide +kernel⟩
def spWhole : Sp := fun vs H Q _ => ∃ (i : Int), vs = [.int i] ∧ Q (.bl true) H
theorem ok_whole (F : FnP K "_law_whole" sWhole f fd) (B : Bl mg) : FnOk Pr w K mg base CX0 1 f fd ["_law_found"] spWhole := by
  refine F.okN scWhole (fun vs H Q E h => ?_) (fun cdv A' outer s H vs Q E hr h => ?_)
  · obtain ⟨i, rfl, _⟩ := h
    rfl
  · obtain ⟨i, rfl, q⟩ := h
    refine ⟨_, pss_one (ps_ret (pe_and (pe_callB call_isi (by rfl) B.mIsi boot_isinstance (pa_cons (pv 0) (pa_cons (pe_bltn (v := .ty "int") (by rfl) B.mInt boot_int rfl) pa_nil)))
      (pe_one (pe_not (pe_callB call_isi (by rfl) B.mIsi boot_isinstance (pa_cons (pv 0) (pa_cons (pe_bltn (v := .ty "bool") (by rfl) B.mBool boot_bool rfl) pa_nil))))))), ?_⟩
    refine ⟨_, rfl, .int i, .ty "int", .type "int", .type "int", true, rfl, .ty _, .base (.int i), kit_ty (by decide +kernel), _, rfl, ?_⟩
    refine iteT ?_
    exact ⟨_, rfl, .int i, .ty "bool", .type "int", .type "bool", false, rfl, .ty _, .base (.int i), kit_ty (by decide +kernel), _, rfl, q⟩
end
theorem dp_ints {K : PySem.W.Frag} {H : Hp} : ∀ ns : List Int, DpAll K H (ns.map V.int) (ns.map PyData.int)
  | [] => .nil
  | x :: r => .cons (.int x) (dp_ints r)
theorem shaped_ints (ns : List Int) : SeqAt.shaped (.list (ns.map PyData.int)) = true := PySem.W.ke_shaped_ints ns
theorem eqv_ints (ns : List Int) : PyData.eqv (.list (ns.map PyData.int)) (.list (ns.map PyData.int)) = true := PySem.SeqAt.eqv_refl _ (PySem.SeqAt.canLay_of_shaped (shaped_ints ns))
/-! ### how two texts begin -/
/-- the greatest length of a text with which both begin -/
def shd : List Nat → List Nat → Nat
  | x :: a, y :: b => if x = y then shd a b + 1 else 0
  | _, _ => 0
theorem shd_le : ∀ a b : List Nat, shd a b ≤ a.length ∧ shd a b ≤ b.length
  | [], _ => ⟨Nat.zero_le _, Nat.zero_le _⟩
  | _ :: _, [] => ⟨Nat.zero_le _, Nat.zero_le _⟩
  | x :: a, y :: b => by
    show (if x = y then shd a b + 1 else 0) ≤ _ ∧ (if x = y then shd a b + 1 else 0) ≤ _
    have ih := shd_le a b
    by_cases h : x = y
    · rw [if_pos h, List.length_cons, List.length_cons]
      omega
    · rw [if_neg h]
      exact ⟨Nat.zero_le _, Nat.zero_le _⟩
theorem shd_stop : ∀ {i : Nat} {a b : List Nat} {c d : Nat}, a.take i = b.take i → a[i]? = some c → b[i]? = some d → c ≠ d → shd a b = i
  | 0, x :: a, y :: b, c, d, _, h1, h2, n => by
    have e1 : x = c := Option.some.inj h1
    have e2 : y = d := Option.some.inj h2
    show (if x = y then shd a b + 1 else 0) = 0
    rw [if_neg fun z => n (by rw [← e1, ← e2, z])]
  | i + 1, x :: a, y :: b, c, d, h, h1, h2, n => by
    have h' : x :: a.take i = y :: b.take i := h
    have e := (List.cons.inj h').1
    show (if x = y then shd a b + 1 else 0) = i + 1
    rw [if_pos e, shd_stop (List.cons.inj h').2 h1 h2 n]
  | _, [], _, _, _, _, h1, _, _ => by cases h1
  | _, _ :: _, [], _, _, _, _, h2, _ => by cases h2
theorem shd_all : ∀ {i : Nat} {a b : List Nat}, a.take i = b.take i → (i = a.length ∨ i = b.length) → i ≤ a.length → i ≤ b.length → shd a b = i
  | 0, [], _, _, _, _, _ => rfl
  | 0, _ :: _, [], _, _, _, _ => rfl
  | 0, x :: a, y :: b, _, h, _, _ => by
    rcases h with h | h
    · cases h
    · cases h
  | i + 1, x :: a, y :: b, h, hl, h1, h2 => by
    have h' : x :: a.take i = y :: b.take i := h
    have e := (List.cons.inj h').1
    show (if x = y then shd a b + 1 else 0) = i + 1
    rw [if_pos e, shd_all (List.cons.inj h').2 (hl.elim (fun z => .inl (Nat.succ.inj z)) fun z => .inr (Nat.succ.inj z)) (Nat.le_of_succ_le_succ h1) (Nat.le_of_succ_le_succ h2)]
  | i + 1, [], _, _, _, h1, _ => absurd h1 (Nat.not_succ_le_zero i)
  | i + 1, _ :: _, [], _, _, _, h2 => absurd h2 (Nat.not_succ_le_zero i)
theorem take_next {i c : Nat} {a b : List Nat} (h : a.take i = b.take i) (h1 : a[i]? = some c) (h2 : b[i]? = some c) : a.take (i + 1) = b.take (i + 1) := by
  rw [List.take_add_one, List.take_add_one, h, h1, h2]
/-- the rest that a rest goes on to by a word, and whether the word goes beyond -/
def stp (r w : List Nat) : Option (List Nat × Bool) := if hit w r = true then some (r.drop w.length, false) else if hit r w = true then some (w.drop r.length, true) else none
theorem hit_nil (r : List Nat) : hit [] r = true := hit_iff.mpr rfl
theorem to_eq {t b : List Nat} : decide (V.str (cutS (S t) none (some (b.length : Int))) = V.str (S b)) = hit b t := by
  rw [cut_to (by omega), tx_eq, Int.toNat_natCast, Bool.eq_iff_iff, decide_eq_true_eq, hit_iff]
theorem from_len {t : List Nat} {n : Nat} : V.str (cutS (S t) (some (n : Int)) none) = tx (t.drop n) := by
  rw [cut_from (by omega), Int.toNat_natCast]
theorem S_get {a : List Nat} {i : Nat} : (S a).cps[i]? = a[i]? := by
  show a.toArray[i]? = a[i]?
  rw [List.getElem?_toArray]
section
variable {Pr : Program} {w : World} {K : PySem.W.Frag} {mg : Str → Option Value} {base : Heap} {f : Addr} {fd : FuncData}
def spShared : Sp := fun vs H Q _ => ∃ a b : List Nat, vs = [tx a, tx b] ∧ a.length ≤ 100000 ∧ b.length ≤ 100000 ∧ ∀ H', Same H H' → Q (.int (shd a b : Nat)) H'
def spLeft : Sp := fun vs H Q _ => ∃ a b : List Nat, vs = [tx a, tx b] ∧ a.length ≤ 100000 ∧ b.length ≤ 100000 ∧ Q (if hit b a = true then tx (a.drop b.length) else .non) H
def spStep : Sp := fun vs H Q _ => ∃ r v : List Nat, vs = [tx r, tx v] ∧ r.length ≤ 1000 ∧ v.length ≤ 1000 ∧ (stp r v = none → Q .non H) ∧ (∀ x b, stp r v = some (x, b) → ∀ (p : Addr) (H' : Hp), Same H H' → H p = none → H' p = some (.tup [tx x, .bl b]) → Q (.ref p) H')
theorem for_ez {a b : Str} {g : TG} {tb : TS} {D : Ends} {σ : L2.St} {H : Hp} (Pv : Nat → L2.St → Hp → Prop) (h0 : Pv 0 σ H)
    (hs : ∀ (i c d : Nat) (T T2 : Addr) (σ : L2.St) (H : Hp), a.cps[i]? = some c → b.cps[i]? = some d → Pv i σ H → H T = none → H T2 = none → T ≠ T2 →
      g (.ref T2) σ (upd (upd H T (.tup [.str ⟨#[c]⟩, .str ⟨#[d]⟩])) T2 (.tup [.int (i : Nat), .ref T])) fun σ2 H2 => tb { D with nx := Pv (i + 1), ct := Pv (i + 1), bk := D.nx } σ2 H2)
    (hd : ∀ i σ H, (i = a.cps.size ∨ i = b.cps.size) → i ≤ a.cps.size → i ≤ b.cps.size → Pv i σ H → D.nx σ H) :
    ∃ W : Nat → Nat → L2.St → Hp → Prop, (∃ m, W 0 m σ H) ∧ ∀ i m σ H, W i m σ H →
      ((ItZ a b).stop i H ∧ D.nx σ H) ∨ ((ItZ a b).go i H ∧ ∃ N : L2.St → Hp → Prop, (∀ σ' H', N σ' H' → ∃ m', m' < m ∧ W (i + 1) m' σ' H') ∧ ∀ x H', (ItZ a b).yld i H x H' → g x σ H' fun σ2 H2 => tb { D with nx := N, ct := N, bk := D.nx } σ2 H2) := by
  refine ⟨fun i m σ H => m = a.cps.size - i ∧ i ≤ a.cps.size ∧ i ≤ b.cps.size ∧ Pv i σ H, ⟨a.cps.size, by simp, Nat.zero_le _, Nat.zero_le _, h0⟩, ?_⟩
  rintro i m σ H ⟨rfl, h1, h2, p⟩
  by_cases hlt : i < a.cps.size ∧ i < b.cps.size
  · refine .inr ⟨hlt, Pv (i + 1), fun σ' H' p' => ⟨a.cps.size - (i + 1), by omega, rfl, hlt.1, hlt.2, p'⟩, fun x H' y => ?_⟩
    obtain ⟨T, T2, c, d, rfl, hc, hd', n1, n2, ne, rfl⟩ := y
    exact hs i c d T T2 σ H hc hd' p n1 n2 ne
  · refine .inl ⟨?_, hd i σ H ?_ h1 h2 p⟩
    · show a.cps.size ≤ i ∨ b.cps.size ≤ i
      omega
    · omega
theorem scShared : FnScope ["text", "other", "at", "sign", "facing"] ["text", "other"] (defScope s_shared) := ⟨rfl, rfl, rfl, by decide +kernel, rfl, by decide +kernel, by decide +kernel⟩
theorem ok_shared (F : FnP K "shared" s_shared f fd) (B : Bl mg) : FnOk Pr w K mg base CX0 1 f fd ["text", "other"] spShared := by
  refine F.okN scShared (fun vs H Q E h => ?_) (fun cdv A' outer s H vs Q E hr h => ?_)
  · obtain ⟨a, b, rfl, _⟩ := h
    rfl
  · obtain ⟨a, b, rfl, ha, hb, q⟩ := h
    refine ⟨_, pss_cons (ps_for PassesOwn.never rfl (pi_enumZip (by rfl) B.mEnum (by rfl) B.mZip (pa_cons (pv 0) (pa_cons (pv 1) pa_nil)))
        (pg_tup rfl (pgs_cons (pg_name (i := 2) scShared.nd rfl (Or.inl rfl)) (pgs_cons (pg_tup rfl (pgs_cons (pg_name (i := 3) scShared.nd rfl (Or.inl rfl)) (pgs_cons (pg_name (i := 4) scShared.nd rfl (Or.inl rfl)) pgs_nil))) pgs_nil)))
        (pss_one (ps_if (pt_cmpR op_ne (pv 3) (pv 4) (nomark _)) (pss_one (ps_ret (pv 2))) pss_nil)))
      (pss_one (ps_ret (pe_callB (call_min2 rfl) (by rfl) B.mMin (by decide +kernel) (pa_cons (pe_callB call_len_str (by rfl) B.mL boot_len (pa_cons (pv 0) pa_nil)) (pa_cons (pe_callB call_len_str (by rfl) B.mL boot_len (pa_cons (pv 1) pa_nil)) pa_nil))))), ?_⟩
    have za : (S a).length ≤ sizeLine := small_T ha
    have zb : (S b).length ≤ sizeLine := small_T hb
    refine ⟨_, rfl, _, rfl, S a, S b, rfl, for_ez (fun i σ H1 => Same H H1 ∧ a.take i = b.take i ∧ ∃ k2 k3 k4 : Option V, σ = [some (tx a), some (tx b), k2, k3, k4]) ⟨Same.refl H, rfl, none, none, none, rfl⟩ ?_ ?_⟩
    · rintro i c d T T2 σ H1 hc hd ⟨sm, e, k2, k3, k4, rfl⟩ n1 n2 ne
      rw [S_get] at hc hd
      have n2' : (upd H1 T (.tup [.str ⟨#[c]⟩, .str ⟨#[d]⟩])) T2 = none := by rw [upd_ne (Ne.symm ne)]; exact n2
      have s1 := (same_upd (o := .tup [.str ⟨#[c]⟩, .str ⟨#[d]⟩]) n1).trans (same_upd (o := .tup [.int (i : Nat), .ref T]) n2')
      have eT : (upd (upd H1 T (.tup [.str ⟨#[c]⟩, .str ⟨#[d]⟩])) T2 (.tup [.int (i : Nat), .ref T])) T = some (.tup [.str ⟨#[c]⟩, .str ⟨#[d]⟩]) := by rw [upd_ne ne, upd_same]
      refine ⟨T2, _, rfl, .inl (.inl upd_same), rfl, _, _, rfl, _, _, rfl, T, _, rfl, .inl (.inl eT), rfl, _, _, rfl, _, _, rfl, rfl, rfl, ?_⟩
      refine ⟨_, rfl, _, rfl, rfl, _, rfl, ?_⟩
      by_cases h : c = d
      · subst h
        exact iteNP rfl ⟨sm.trans s1, take_next e hc hd, _, _, _, rfl⟩
      · refine iteNN (fun z => h ?_) ⟨_, rfl, ?_⟩
        · have z2 : V.str (S [c]) = V.str (S [d]) := z
          exact (List.cons.inj (S_inj (V.str.inj z2))).1
        · have q2 := q _ (sm.trans s1)
          rw [shd_stop e hc hd h] at q2
          exact q2
    · rintro i σ H1 hi h1 h2 ⟨sm, e, k2, k3, k4, rfl⟩
      have e1 : (S a).cps.size = a.length := by show a.toArray.size = _; simp
      have e2 : (S b).cps.size = b.length := by show b.toArray.size = _; simp
      rw [e1] at hi h1
      rw [e2] at hi h2
      have es := shd_all e hi h1 h2
      refine ⟨_, rfl, S a, rfl, za, _, rfl, S b, rfl, zb, (a.length : Int), (b.length : Int), ?_, ?_⟩
      · rw [S_len, S_len]
      · have e3 : (if (b.length : Int) < (a.length : Int) then (b.length : Int) else (a.length : Int)) = ((shd a b : Nat) : Int) := by
          rw [es]
          split <;> omega
        rw [e3]
        exact q H1 sm
theorem scLeft : FnScope ["text", "other"] ["text", "other"] (defScope s_left_of) := ⟨rfl, rfl, rfl, by decide +kernel, rfl, by decide +kernel, by decide +kernel⟩
theorem start_all (x y : List Nat) : Txt.startswith (S x) (S y) = hit y x := by
  by_cases h : y = []
  · subst h
    rw [hit_nil]
    unfold Txt.startswith
    simp [Builtin.Str.subAt, S, Str.length]
  · exact start1 h
theorem ok_left (F : FnP K "left_of" s_left_of f fd) (B : Bl mg) : FnOk Pr w K mg base CX0 1 f fd ["text", "other"] spLeft := by
  refine F.okN scLeft (fun vs H Q E h => ?_) (fun cdv A' outer s H vs Q E hr h => ?_)
  · obtain ⟨a, b, rfl, _⟩ := h
    rfl
  · obtain ⟨a, b, rfl, ha, hb, q⟩ := h
    refine ⟨_, pss_cons (ps_if (pt_val (pe_bm PySem.F.plainAttrs_str PySem.F.slot_str_startswith PySem.F.type_str_startswith mt_startswith (pv 0) (pa_cons (pv 1) pa_nil))) (pss_one (ps_ret (pe_slice sl_str (pv 0) (po_some (pe_callB call_len_str (by rfl) B.mL boot_len (pa_cons (pv 1) pa_nil))) po_none))) pss_nil) (pss_one (ps_ret pe_non)), ?_⟩
    have za : (S a).length ≤ sizeLine := small_T ha
    have zb : (S b).length ≤ sizeLine := small_T hb
    refine ⟨_, rfl, rfl, _, rfl, S a, S b, rfl, rfl, _, rfl, ?_⟩
    rw [start_all]
    refine ite2 (fun c => ?_) (fun c => ?_)
    · rw [if_pos c] at q
      refine ⟨_, rfl, _, rfl, S b, rfl, zb, (b.length : Int), len_v _, S a, rfl, za, ?_⟩
      rw [from_len]
      exact q
    · rw [if_neg c] at q
      exact q
theorem scLawShared : FnScope ["_law_one", "_law_other", "_law_many"] ["_law_one", "_law_other"] (defScope s__law_shared) := ⟨rfl, rfl, rfl, by decide +kernel, rfl, by decide +kernel, by decide +kernel⟩
theorem ok_lawShared (F : FnP K "_law_shared" s__law_shared f fd) (B : Bl mg) : FnOk Pr w K mg base CX0 1 f fd ["_law_one", "_law_other"] spShared := by
  refine F.okN scLawShared (fun vs H Q E h => ?_) (fun cdv A' outer s H vs Q E hr h => ?_)
  · obtain ⟨a, b, rfl, _⟩ := h
    rfl
  · obtain ⟨a, b, rfl, ha, hb, q⟩ := h
    refine ⟨_, pss_cons (ps_set (i := 2) scLawShared.nd rfl (.inl rfl) pe_int)
      (pss_cons (ps_while PassesOwn.never (PW.pt (pw_and (pt_cmpR op_lt (pv 2) (pe_callB (call_min2 rfl) (by rfl) B.mMin (by decide +kernel) (pa_cons (pe_callB call_len_str (by rfl) B.mL boot_len (pa_cons (pv 0) pa_nil)) (pa_cons (pe_callB call_len_str (by rfl) B.mL boot_len (pa_cons (pv 1) pa_nil)) pa_nil))) (nomark _))
          (pw_and1 (pt_cmpR op_eq (pe_ix (r := rIxS) ix_str (pv 0) (pv 2) (fun _ _ => rfl)) (pe_ix (r := rIxS) ix_str (pv 1) (pv 2) (fun _ _ => rfl)) (nomark _)))))
        (pss_one (ps_set (i := 2) scLawShared.nd rfl (.inl rfl) (pe_op op_add (pv 2) pe_int))))
      (pss_one (ps_ret (pv 2)))), ?_⟩
    have za : (S a).length ≤ sizeLine := small_T ha
    have zb : (S b).length ≤ sizeLine := small_T hb
    have fin : ∀ i : Nat, shd a b = i → Q (.int (i : Nat)) H := fun i e => by
      have := q H (Same.refl H)
      rw [e] at this
      exact this
    refine ⟨fun m σ H1 => H1 = H ∧ ∃ i : Nat, m = a.length - i ∧ a.take i = b.take i ∧ i ≤ a.length ∧ i ≤ b.length ∧ σ = [some (tx a), some (tx b), some (.int (i : Nat))], ⟨_, rfl, 0, rfl, rfl, Nat.zero_le _, Nat.zero_le _, rfl⟩, ?_⟩
    rintro m σ H1 ⟨rfl, i, rfl, e, h1, h2, rfl⟩
    refine ⟨_, rfl, _, rfl, S a, rfl, za, _, rfl, S b, rfl, zb, (a.length : Int), (b.length : Int), by rw [S_len, S_len], (i : Int), _, rfl, rfl, _, rfl, ?_⟩
    by_cases hlt : i < a.length ∧ i < b.length
    · refine iteP (by show (i : Int) < if (b.length : Int) < (a.length : Int) then (b.length : Int) else (a.length : Int); split <;> omega) ?_
      have ga : atI (S a).cps.toList (i : Int) = some a[i] := atI_nat (List.getElem?_eq_getElem hlt.1)
      have gb : atI (S b).cps.toList (i : Int) = some b[i] := atI_nat (List.getElem?_eq_getElem hlt.2)
      refine ⟨_, rfl, _, rfl, S a, _, a[i], rfl, rfl, za, ga, _, rfl, _, rfl, S b, _, b[i], rfl, rfl, zb, gb, rfl, _, rfl, ?_⟩
      by_cases h : a[i] = b[i]
      · refine iteP (congrArg (fun c => V.str ⟨#[c]⟩) h) ?_
        refine ⟨fun σ' H' => H' = H1 ∧ σ' = [some (tx a), some (tx b), some (.int ((i + 1 : Nat) : Int))], fun σ' H' n => ⟨a.length - (i + 1), by omega, n.1, i + 1, rfl, take_next e (List.getElem?_eq_getElem hlt.1) (by rw [h]; exact List.getElem?_eq_getElem hlt.2), hlt.1, hlt.2, n.2⟩, ?_⟩
        exact ⟨_, rfl, _, _, rfl, rfl, rfl, rfl⟩
      · refine iteN (fun z => h ?_) ⟨_, rfl, fin i (shd_stop e (List.getElem?_eq_getElem hlt.1) (List.getElem?_eq_getElem hlt.2) h)⟩
        have z2 : V.str (S [a[i]]) = V.str (S [b[i]]) := z
        exact (List.cons.inj (S_inj (V.str.inj z2))).1
    · refine iteN (by show ¬ ((i : Int) < if (b.length : Int) < (a.length : Int) then (b.length : Int) else (a.length : Int)); split <;> omega) ?_
      exact ⟨_, rfl, fin i (shd_all e (by omega) h1 h2)⟩
end
section
variable {Pr : Program} {w : World} {K : PySem.W.Frag} {mg : Str → Option Value} {base : Heap} {f : Addr} {fd : FuncData}
theorem scIsRow : FnScope ["_law_row", "_law_words_here", "_law_word_here"] ["_law_row", "_law_words_here"] (defScope s__law_is_row) := ⟨rfl, rfl, rfl, by decide +kernel, rfl, by decide +kernel, by decide +kernel⟩
def spIsRow (K : PySem.W.Frag) : Sp := fun vs H Q _ => ∃ (a b : Addr) (ys ws : List (List Nat)), vs = [.ref a, .ref b] ∧ H a = some (.lst (ys.map tx)) ∧ SqL K H b (ws.map tx) ∧ (∀ y ∈ ys, y ∈ ws) ∧ ∀ (H' : Hp), Same H H' → Q (.bl true) H'
theorem ok_isRow (F : FnP K "_law_is_row" s__law_is_row f fd) (B : Bl mg) : FnOk Pr w K mg base CX0 1 f fd ["_law_row", "_law_words_here"] (spIsRow K) := by
  refine F.okN scIsRow (fun vs H Q E h => ?_) (fun cdv A' outer s H vs Q E hr h => ?_)
  · obtain ⟨a, b, ys, ws, rfl, _⟩ := h
    rfl
  · obtain ⟨a, b, ys, ws, rfl, hA, hB, hm, q⟩ := h
    refine ⟨_, pss_cons (ps_if (pt_not (pt_val (pe_callB call_isi (by rfl) B.mIsi boot_isinstance (pa_cons (pv 0) (pa_cons (pe_bltn (v := .ty "list") (by rfl) B.mList boot_list rfl) pa_nil))))) (pss_one (ps_ret pe_bl)) pss_nil)
      (pss_one (ps_ret (pe_cmpR (op_eqD hr.units)
        (pe_lc (own := [("_law_word_here", 2)]) (g := gName 2) (tt := tOr (tNot (tB (tCB (rIsi K) (tCons (tVar 2) (tCons (tC (.ty "str")) tNil))))) (tTest (tOp (rIn K true) (tVar 2) (tVar 1)))) rfl scIsRow.nd (pi_list (pv 0)) (blkOk_by (own := [("_law_word_here", 2)]) (N := ["_law_row", "_law_words_here", "_law_word_here"]) (sc := defScope s__law_is_row) (by decide +kernel))
          (fun _ _ _ _ _ => pg_name (i := 2) scIsRow.nd rfl (Or.inl rfl))
          (fun _ _ _ _ _ => pts_one (PW.pt (pw_or (pt_not (pt_val (pe_callB call_isi (by rfl) B.mIsi boot_isinstance (pa_cons (pv 2) (pa_cons (pe_bltn (v := .ty "str") (by rfl) B.mStr boot_str rfl) pa_nil))))) (pw_or1 (pt_cmpR op_notIn_seq (pv 2) (pv 1) (by rfl))))))
          (fun _ _ _ _ _ => pv 2)) (pe_lst pa_nil) (nomark _)))), ?_⟩
    refine ⟨_, rfl, .ref a, .ty "list", .type "list", .type "list", true, rfl, .ty _, .base (.lst hA), kit_ty (by decide +kernel), _, rfl, ?_⟩
    refine iteF ?_
    refine ⟨_, rfl, a, rfl, ⟨_, seqL hA⟩, fun D hD => ?_⟩
    have ns : ∀ {H1 : Hp}, H1 = upd H D (.lst []) → Same H H1 := fun e => by
      rw [e]
      exact same_upd hD
    refine lc_list (K := K) (a := a) (xs := ys.map tx) (fun i H1 => H1 = upd H D (.lst [])) rfl (fun i H1 _ e => (ns e).seq (seqL hA)) ?_ ?_
    · rintro i x H1 hx e
      rw [List.getElem?_map] at hx
      obtain ⟨y, hy, rfl⟩ := Option.map_eq_some_iff.mp hx
      have hyw := hm y (List.mem_of_getElem? hy)
      refine ⟨rfl, _, rfl, tx y, .ty "str", .type "str", .type "str", true, rfl, .ty _, .base (.str _), kit_ty (by decide +kernel), _, rfl, ?_⟩
      refine iteF ?_
      refine ⟨_, rfl, _, rfl, b, _, rfl, .inl ((ns e).seq hB), rfl, flat_tx _, _, rfl, ?_⟩
      rw [show inV (tx y) (ws.map tx) = decide (y ∈ ws) from inV_tx _ _, decide_eq_true hyw]
      exact e
    · rintro H1 e
      refine ⟨Nat.zero_le _, fun l hl => ?_⟩
      have s7 := same_upd (o := .lst []) hl
      have eD : H1 D = some (.lst []) := by rw [e]; exact upd_same
      refine ⟨.list [], .list [], .lst (seqL (s7 _ _ eD)) .nil, .lst (seqL upd_same) .nil, by decide +kernel, by decide +kernel, ?_⟩
      rw [show PyData.eqv (.list []) (.list []) = true by decide +kernel]
      exact q _ ((ns e).trans s7)
end
/-- the defs of the text, each as it stands behind the top -/
structure Defs (K : PySem.W.Frag) (mg : Str → Option Value) : Prop where
  d_checked : There K mg "checked" sChecked ["words"]
  d_left_of : There K mg "left_of" s_left_of ["text", "other"]
  d_shared : There K mg "shared" s_shared ["text", "other"]
  d_stepped : There K mg "stepped" s_stepped ["rest", "word"]
  d_meetings : There K mg "meetings" s_meetings ["code"]
  d__first_meetings : There K mg "_first_meetings" s__first_meetings ["code"]
  d__further_meetings : There K mg "_further_meetings" s__further_meetings ["code", "length", "rest", "one", "other"]
  d_heights : There K mg "heights" s_heights ["words"]
  d_wait : There K mg "wait" s_wait ["words"]
  d_late : There K mg "late" s_late ["words"]
  d__settled : There K mg "_settled" s__settled ["code", "met"]
  d__all_settled : There K mg "_all_settled" s__all_settled ["code", "settled", "rest"]
  d__highest : There K mg "_highest" s__highest ["code", "settled", "rest"]
  d__by_word : There K mg "_by_word" s__by_word ["settled", "rest", "word"]
  d__latest : There K mg "_latest" s__latest ["code"]
  d__law_at : There K mg "_law_at" sAt ["_law_script", "_law_k"]
  d__law_mixed : There K mg "_law_mixed" sMixed ["_law_cell", "_law_k"]
  d__law_whole : There K mg "_law_whole" sWhole ["_law_found"]
  d__law_signs : There K mg "_law_signs" sSigns ["_law_cell"]
  d__law_word : There K mg "_law_word" sWord ["_law_cell", "_law_signs_here"]
  d__law_any_word : There K mg "_law_any_word" sAny ["_law_cell"]
  d__law_more : There K mg "_law_more" sMore ["_law_words_here", "_law_cell", "_law_signs_here"]
  d__law_chain : There K mg "_law_chain" sChain ["_law_script", "_law_first", "_law_signs_here"]
  d__law_words : There K mg "_law_words" sWords ["_law_script", "_law_first"]
  d__law_words_of : There K mg "_law_words_of" s__law_words_of ["_law_e"]
  d__law_is_row : There K mg "_law_is_row" s__law_is_row ["_law_row", "_law_words_here"]
  d__law_shared : There K mg "_law_shared" s__law_shared ["_law_one", "_law_other"]
  d__law_due : There K mg "_law_due" s__law_due ["_law_words_here"]
  d__law_late : There K mg "_law_late" s__law_late ["_law_words_here"]
  d__law_late_good : There K mg "_law_late_good" s__law_late_good ["_law_found", "_law_words_here", "_law_many"]
/-- the classes of errors -/
structure Exs (K : PySem.W.Frag) (mg : Str → Option Value) : Prop where
  c_CodeError : He.ga K "CodeError" = He.ga K "CodeError"
  g_CodeError : mg "CodeError" = some (.ref (He.ga K "CodeError"))
  x_CodeError : (He.Fa.exc "CodeError").ok K = true
  c_BadCode : He.ga K "BadCode" = He.ga K "BadCode"
  g_BadCode : mg "BadCode" = some (.ref (He.ga K "BadCode"))
  x_BadCode : (He.Fa.exc "BadCode").ok K = true
  c_Full : He.ga K "Full" = He.ga K "Full"
  g_Full : mg "Full" = some (.ref (He.ga K "Full"))
  x_Full : (He.Fa.exc "Full").ok K = true
  c_BadWord : He.ga K "BadWord" = He.ga K "BadWord"
  g_BadWord : mg "BadWord" = some (.ref (He.ga K "BadWord"))
  x_BadWord : (He.Fa.exc "BadWord").ok K = true
  c_Twice : He.ga K "Twice" = He.ga K "Twice"
  g_Twice : mg "Twice" = some (.ref (He.ga K "Twice"))
  x_Twice : (He.Fa.exc "Twice").ok K = true
  c_NotThere : He.ga K "NotThere" = He.ga K "NotThere"
  g_NotThere : mg "NotThere" = some (.ref (He.ga K "NotThere"))
  x_NotThere : (He.Fa.exc "NotThere").ok K = true
  c_NoNumber : He.ga K "NoNumber" = He.ga K "NoNumber"
  g_NoNumber : mg "NoNumber" = some (.ref (He.ga K "NoNumber"))
  x_NoNumber : (He.Fa.exc "NoNumber").ok K = true
  c_NoWait : He.ga K "NoWait" = He.ga K "NoWait"
  g_NoWait : mg "NoWait" = some (.ref (He.ga K "NoWait"))
  x_NoWait : (He.Fa.exc "NoWait").ok K = true
  c_BadSign : He.ga K "BadSign" = He.ga K "BadSign"
  g_BadSign : mg "BadSign" = some (.ref (He.ga K "BadSign"))
  x_BadSign : (He.Fa.exc "BadSign").ok K = true
  c_NoReading : He.ga K "NoReading" = He.ga K "NoReading"
  g_NoReading : mg "NoReading" = some (.ref (He.ga K "NoReading"))
  x_NoReading : (He.Fa.exc "NoReading").ok K = true
section
variable {Pr : Program} {w : World} {K : PySem.W.Frag} {mg : Str → Option Value} {base : Heap}
def spLaw (K : PySem.W.Frag) (P : Addr) : Sp := fun vs H Q _ => ∃ (a : Addr) (ns : List Int), vs = [.ref a] ∧ SqL K H a (ns.map V.int) ∧ GxR.TabG H P ∧ ∀ H', Q (.bl true) H'
theorem inWords (D : Defs K mg) (B : Bl mg) : ∃ f fd, Has K mg "_law_words" sWords ["_law_script", "_law_first"] f fd ∧ FnOk Pr w K mg base CX0 4 f fd ["_law_script", "_law_first"] (spWords K) := by
  obtain ⟨f1, d1, A⟩ := D.d__law_at
  obtain ⟨f2, d2, MX⟩ := D.d__law_mixed
  obtain ⟨f3, d3, Z⟩ := D.d__law_signs
  obtain ⟨f4, d4, W⟩ := D.d__law_word
  obtain ⟨f5, d5, Y⟩ := D.d__law_any_word
  obtain ⟨f6, d6, O⟩ := D.d__law_more
  obtain ⟨f7, d7, C⟩ := D.d__law_chain
  obtain ⟨f8, d8, WS⟩ := D.d__law_words
  exact ⟨f8, d8, WS, ok_words WS.F A W MX Z C Y O B.mR B.mL⟩
end
/-! ### what a caught exception is called -/
abbrev wn : List Str := ["code", "full", "word", "twice", "there", "number", "wait", "sign", "reading"]
def told (bs : List Bool) : List V := ((wn.zip bs).filter (·.2)).map fun p => V.str p.1
/-- what isinstance says of the class D -/
structure KitE (K : PySem.W.Frag) (D : Addr) (b0 b1 b2 b3 b4 b5 b6 b7 b8 : Bool) : Prop where
  exc : ExcC K D
  ve : PySem.W.kitOne K (.ref D) (.type "ValueError") = some true
  k0 : PySem.W.kitOne K (.ref D) (.ref (He.ga K "BadCode")) = some b0
  k1 : PySem.W.kitOne K (.ref D) (.ref (He.ga K "Full")) = some b1
  k2 : PySem.W.kitOne K (.ref D) (.ref (He.ga K "BadWord")) = some b2
  k3 : PySem.W.kitOne K (.ref D) (.ref (He.ga K "Twice")) = some b3
  k4 : PySem.W.kitOne K (.ref D) (.ref (He.ga K "NotThere")) = some b4
  k5 : PySem.W.kitOne K (.ref D) (.ref (He.ga K "NoNumber")) = some b5
  k6 : PySem.W.kitOne K (.ref D) (.ref (He.ga K "NoWait")) = some b6
  k7 : PySem.W.kitOne K (.ref D) (.ref (He.ga K "BadSign")) = some b7
  k8 : PySem.W.kitOne K (.ref D) (.ref (He.ga K "NoReading")) = some b8
/-- KitE, as a test of what the head leaves -/
theorem kitB_ok {K : PySem.W.Frag} {x : Str} {b0 b1 b2 b3 b4 b5 b6 b7 b8 : Bool} (h : kitB K x b0 b1 b2 b3 b4 b5 b6 b7 b8 = true) : KitE K (He.ga K x) b0 b1 b2 b3 b4 b5 b6 b7 b8 := by
  simp only [kitB, Bool.and_eq_true, decide_eq_true_eq] at h
  obtain ⟨h1, h2, h3, h4, h5, h6, h7, h8, h9, k0, k1, k2, k3, k4, k5, k6, k7, k8⟩ := h
  exact ⟨⟨h1, h2, h3, h4, h5, h6, h7, h8⟩, h9, k0, k1, k2, k3, k4, k5, k6, k7, k8⟩
def spWordsOf (K : PySem.W.Frag) : Addr → Addr → Hp → VK → Prop := fun _ D H Q => ∃ b0 b1 b2 b3 b4 b5 b6 b7 b8, KitE K D b0 b1 b2 b3 b4 b5 b6 b7 b8 ∧
  ∀ (r : Addr) (H' : Hp), Same H H' → H r = none → H' r = some (.lst (told [b0, b1, b2, b3, b4, b5, b6, b7, b8])) → Q (.ref r) H'
section
variable {Pr : Program} {w : World} {K : PySem.W.Frag} {mg : Str → Option Value} {base : Heap} {f : Addr} {fd : FuncData}
theorem scWordsOf : FnScope ["_law_e", "_law_some", "_law_word_here", "_law_fits"] ["_law_e"] (defScope s__law_words_of) := ⟨rfl, rfl, rfl, by decide +kernel, rfl, by decide +kernel, by decide +kernel⟩
theorem boot_VE : bootBuiltins "ValueError" = some (.type "ValueError") := by decide +kernel
theorem filt_take {ps : List (Str × Bool)} {i : Nat} (hi : i < ps.length) : (ps.take (i + 1)).filter (·.2) = (ps.take i).filter (·.2) ++ (if ps[i].2 = true then [ps[i]] else []) := by
  rw [List.take_add_one, List.getElem?_eq_getElem hi]
  show (ps.take i ++ [ps[i]]).filter (·.2) = _
  rw [List.filter_append]
  by_cases c : ps[i].2 = true
  · rw [if_pos c, List.filter_cons_of_pos (p := fun q : Str × Bool => q.2) c]
    rfl
  · rw [if_neg c, List.filter_cons_of_neg (p := fun q : Str × Bool => q.2) c]
    rfl
theorem ok_wordsOf (F : FnP K "_law_words_of" s__law_words_of f fd) (B : Bl mg) (X : Exs K mg) : FnE Pr w K mg base 1 f fd "_law_e" (spWordsOf K) := by
  refine okE F scWordsOf fun cdv A outer s H a D oe Q hot hz hf hr h => ?_
  obtain ⟨b0, b1, b2, b3, b4, b5, b6, b7, b8, ⟨ec, ve, k0, k1, k2, k3, k4, k5, k6, k7, k8⟩, q⟩ := h
  have hp : (a, oe) ∈ (cxE Pr w K mg base ["_law_e", "_law_some", "_law_word_here", "_law_fits"] "_law_words_of" (defScope s__law_words_of) f cdv A outer s H a oe).pn := List.mem_singleton.mpr rfl
  have hc : L2H.HotC (cxE Pr w K mg base ["_law_e", "_law_some", "_law_word_here", "_law_fits"] "_law_words_of" (defScope s__law_words_of) f cdv A outer s H a oe) := ⟨(a, oe), hot, hp⟩
  have is : ∀ {x : Str} {C : Addr} {p1 p2 p3 p4 : Pos}, Gl (cxE Pr w K mg base ["_law_e", "_law_some", "_law_word_here", "_law_fits"] "_law_words_of" (defScope s__law_words_of) f cdv A outer s H a oe) x → mg x = some (.ref C) → (x == ("__debug__" : Str)) = false →
      PE (cxE Pr w K mg base ["_law_e", "_law_some", "_law_word_here", "_law_fits"] "_law_words_of" (defScope s__law_words_of) f cdv A outer s H a oe) (.Call (.Name "isinstance" p1) [.Name "_law_e" p2, .Name x p3] [] p4) (tCB (rIsE K D a) (tCons (tVar 0) (tCons (tC (.ref C)) tNil))) := fun g m dbg =>
    pe_callB (call_isH hp ec hz.zc hf) (by rfl) B.mIsi boot_isinstance (pa_cons (pv 0) (pa_cons (pe_glob (v := .ref _) g m rfl dbg) pa_nil))
  refine ⟨_, pss_cons (ps_set (i := 1) scWordsOf.nd rfl (.inl rfl) (pe_lst (pa_cons (pe_tup (pa_cons pe_str (pa_cons (is rfl X.g_BadCode (by decide)) pa_nil))) (pa_cons (pe_tup (pa_cons pe_str (pa_cons (is rfl X.g_Full (by decide)) pa_nil))) (pa_cons (pe_tup (pa_cons pe_str (pa_cons (is rfl X.g_BadWord (by decide)) pa_nil))) pa_nil)))))
    (pss_cons (ps_set (i := 1) scWordsOf.nd rfl (.inl rfl) (pe_op op_cat (pv 1) (pe_lst (pa_cons (pe_tup (pa_cons pe_str (pa_cons (is rfl X.g_Twice (by decide)) pa_nil))) (pa_cons (pe_tup (pa_cons pe_str (pa_cons (is rfl X.g_NotThere (by decide)) pa_nil))) pa_nil)))))
    (pss_cons (ps_set (i := 1) scWordsOf.nd rfl (.inl rfl) (pe_op op_cat (pv 1) (pe_lst (pa_cons (pe_tup (pa_cons pe_str (pa_cons (is rfl X.g_NoNumber (by decide)) pa_nil))) (pa_cons (pe_tup (pa_cons pe_str (pa_cons (is rfl X.g_NoWait (by decide)) pa_nil))) pa_nil)))))
    (pss_cons (ps_set (i := 1) scWordsOf.nd rfl (.inl rfl) (pe_op op_cat (pv 1) (pe_lst (pa_cons (pe_tup (pa_cons pe_str (pa_cons (is rfl X.g_BadSign (by decide)) pa_nil))) (pa_cons (pe_tup (pa_cons pe_str (pa_cons (is rfl X.g_NoReading (by decide)) pa_nil))) pa_nil)))))
    (pss_one (ps_ret (pe_lcH (own := [("_law_word_here", 2), ("_law_fits", 3)]) (g := gTup K 2 (gCons (gName 2) (gCons (gName 3) gNil))) (tt := tAnd (tB (tVar 3)) (tB (tCB (rIsE K D a) (tCons (tVar 0) (tCons (tC (.ty "ValueError")) tNil))))) hc scWordsOf.nd (pi_listH (pv 1)) (blkOk_by (own := [("_law_word_here", 2), ("_law_fits", 3)]) (N := ["_law_e", "_law_some", "_law_word_here", "_law_fits"]) (sc := defScope s__law_words_of) (by decide +kernel))
      (fun _ _ _ _ _ => pg_tupH (hotC_blk hc) (pgs_cons (pg_name (i := 2) scWordsOf.nd rfl (Or.inl rfl)) (pgs_cons (pg_name (i := 3) scWordsOf.nd rfl (Or.inl rfl)) pgs_nil)))
      (fun _ _ _ _ _ => pts_one (PW.pt (pw_and (pt_val (pv 3)) (pw_and1 (pt_val (pe_callB (call_isH hp ec hz.zc hf) (by rfl) B.mIsi boot_isinstance (pa_cons (pv 0) (pa_cons (pe_bltn (v := .ty "ValueError") (by rfl) B.mVE boot_VE rfl) pa_nil))))))))
      (fun _ _ _ _ _ => pv 2))))))), ?_⟩
  have two : 2 ≤ sizeLine := by decide
  refine ⟨_, rfl, _, _, b0, rfl, fun _ z => z, k0, two, fun t0 h0 => ⟨_, rfl, _, _, b1, rfl, fun _ z => z, k1, two, fun t1 h1 => ⟨_, rfl, _, _, b2, rfl, fun _ z => z, k2, two, fun t2 h2 => ⟨by show 3 ≤ sizeLine; decide, fun l1 hl1 => ?_⟩⟩⟩⟩
  refine ⟨_, rfl, _, rfl, _, _, b3, rfl, fun _ z => z, k3, two, fun t3 h3 => ⟨_, rfl, _, _, b4, rfl, fun _ z => z, k4, two, fun t4 h4 => ⟨by show 2 ≤ sizeLine; decide, fun l2 hl2 => ?_⟩⟩⟩
  have n0 := same_upd (o := .tup [V.str "code", V.bl b0]) h0
  have n1 := same_upd (o := .tup [V.str "full", V.bl b1]) h1
  have n2 := same_upd (o := .tup [V.str "word", V.bl b2]) h2
  have n3 := same_upd (o := .lst [.ref t0, .ref t1, .ref t2]) hl1
  have n4 := same_upd (o := .tup [V.str "twice", V.bl b3]) h3
  have n5 := same_upd (o := .tup [V.str "there", V.bl b4]) h4
  have n6 := same_upd (o := .lst [.ref t3, .ref t4]) hl2
  refine ⟨l1, l2, _, _, rfl, rfl, n6 _ _ (n5 _ _ (n4 _ _ upd_same)), upd_same, by show 5 ≤ sizeLine; decide, fun l3 hl3 => ?_⟩
  have n7 := same_upd (o := .lst ([.ref t0, .ref t1, .ref t2] ++ [.ref t3, .ref t4])) hl3
  refine ⟨_, rfl, _, rfl, _, _, b5, rfl, fun _ z => z, k5, two, fun t5 h5 => ⟨_, rfl, _, _, b6, rfl, fun _ z => z, k6, two, fun t6 h6 => ⟨by show 2 ≤ sizeLine; decide, fun l4 hl4 => ?_⟩⟩⟩
  have n8 := same_upd (o := .tup [V.str "number", V.bl b5]) h5
  have n9 := same_upd (o := .tup [V.str "wait", V.bl b6]) h6
  have n10 := same_upd (o := .lst [.ref t5, .ref t6]) hl4
  refine ⟨l3, l4, _, _, rfl, rfl, n10 _ _ (n9 _ _ (n8 _ _ upd_same)), upd_same, by show 7 ≤ sizeLine; decide, fun l5 hl5 => ?_⟩
  have n11 := same_upd (o := .lst ([.ref t0, .ref t1, .ref t2] ++ [.ref t3, .ref t4] ++ [.ref t5, .ref t6])) hl5
  refine ⟨_, rfl, _, rfl, _, _, b7, rfl, fun _ z => z, k7, two, fun t7 h7 => ⟨_, rfl, _, _, b8, rfl, fun _ z => z, k8, two, fun t8 h8 => ⟨by show 2 ≤ sizeLine; decide, fun l6 hl6 => ?_⟩⟩⟩
  have n12 := same_upd (o := .tup [V.str "sign", V.bl b7]) h7
  have n13 := same_upd (o := .tup [V.str "reading", V.bl b8]) h8
  have n14 := same_upd (o := .lst [.ref t7, .ref t8]) hl6
  refine ⟨l5, l6, _, _, rfl, rfl, n14 _ _ (n13 _ _ (n12 _ _ upd_same)), upd_same, by show 9 ≤ sizeLine; decide, fun l7 hl7 => ?_⟩
  have n15 := same_upd (o := .lst ([.ref t0, .ref t1, .ref t2] ++ [.ref t3, .ref t4] ++ [.ref t5, .ref t6] ++ [.ref t7, .ref t8])) hl7
  have m14 := n14.trans n15
  have m13 := n13.trans m14
  have m12 := n12.trans m13
  have m9 := n9.trans (n10.trans (n11.trans m12))
  have m8 := n8.trans m9
  have m5 := n5.trans (n6.trans (n7.trans m8))
  have m4 := n4.trans m5
  have m2 := n2.trans (n3.trans m4)
  have m1 := n1.trans m2
  have m0 := n0.trans m1
  have e0 := m1 _ _ (upd_same (H := H) (a := t0) (o := .tup [V.str "code", V.bl b0]))
  have e1 := m2 t1 _ upd_same
  have e2 := (n3.trans m4) t2 _ upd_same
  have e3 := m5 t3 _ upd_same
  have e4 := (n6.trans (n7.trans m8)) t4 _ upd_same
  have e5 := m9 t5 _ upd_same
  have e6 := (n10.trans (n11.trans m12)) t6 _ upd_same
  have e7 := m13 t7 _ upd_same
  have e8 := m14 t8 _ upd_same
  generalize hHf : upd _ l7 _ = Hf at m0 e0 e1 e2 e3 e4 e5 e6 e7 e8 ⊢
  have el7 : Hf l7 = some (.lst ([.ref t0, .ref t1, .ref t2] ++ [.ref t3, .ref t4] ++ [.ref t5, .ref t6] ++ [.ref t7, .ref t8])) := by
    rw [← hHf]
    exact upd_same
  have item : ∀ (i : Nat) (x : V), ([V.ref t0, .ref t1, .ref t2] ++ [.ref t3, .ref t4] ++ [.ref t5, .ref t6] ++ [.ref t7, .ref t8])[i]? = some x → ∃ hi : i < (wn.zip [b0, b1, b2, b3, b4, b5, b6, b7, b8]).length, ∃ t, x = .ref t ∧ Hf t = some (.tup [V.str (wn.zip [b0, b1, b2, b3, b4, b5, b6, b7, b8])[i].1, V.bl (wn.zip [b0, b1, b2, b3, b4, b5, b6, b7, b8])[i].2]) := by
    intro i x hx
    match i, hx with
    | 0, hx => cases hx; exact ⟨by show 0 < 9; decide, t0, rfl, e0⟩
    | 1, hx => cases hx; exact ⟨by show 1 < 9; decide, t1, rfl, e1⟩
    | 2, hx => cases hx; exact ⟨by show 2 < 9; decide, t2, rfl, e2⟩
    | 3, hx => cases hx; exact ⟨by show 3 < 9; decide, t3, rfl, e3⟩
    | 4, hx => cases hx; exact ⟨by show 4 < 9; decide, t4, rfl, e4⟩
    | 5, hx => cases hx; exact ⟨by show 5 < 9; decide, t5, rfl, e5⟩
    | 6, hx => cases hx; exact ⟨by show 6 < 9; decide, t6, rfl, e6⟩
    | 7, hx => cases hx; exact ⟨by show 7 < 9; decide, t7, rfl, e7⟩
    | 8, hx => cases hx; exact ⟨by show 8 < 9; decide, t8, rfl, e8⟩
    | n + 9, hx => cases hx
  obtain ⟨ps, eps⟩ : ∃ ps, ps = wn.zip [b0, b1, b2, b3, b4, b5, b6, b7, b8] := ⟨_, rfl⟩
  have plen : ps.length = 9 := by rw [eps]; rfl
  rw [← eps] at item
  refine ⟨_, rfl, l7, rfl, ⟨_, seqL el7⟩, fun Dn hD => ?_⟩
  refine lc_list (K := K) (a := l7) (xs := [V.ref t0, .ref t1, .ref t2] ++ [.ref t3, .ref t4] ++ [.ref t5, .ref t6] ++ [.ref t7, .ref t8]) (fun i H1 => Same Hf H1 ∧ H1 Dn = some (.lst (((ps.take i).filter (·.2)).map fun p => V.str p.1))) ⟨same_upd hD, upd_same⟩ (fun i H1 _ hh => hh.1.seq (seqL el7)) ?_ ?_
  · rintro i x H1 hx ⟨sm, eD⟩
    obtain ⟨hi, t, rfl, et⟩ := item i x hx
    refine ⟨t, _, rfl, .inl (.inl (sm _ _ et)), rfl, _, _, rfl, _, _, rfl, rfl, rfl, _, rfl, _, rfl, ?_⟩
    rw [filt_take hi]
    refine ite2 (fun c => ?_) (fun c => ?_)
    · rw [if_pos c]
      refine ⟨_, rfl, _, _, true, rfl, fun _ z => z, ve, _, rfl, iteT ⟨_, rfl, _, eD, ?_, fun b o e => ?_, ?_⟩⟩
      · rw [List.length_map]
        have h1 := List.length_filter_le (fun p : Str × Bool => p.2) (ps.take i)
        rw [List.length_take] at h1
        exact small1000 (by omega)
      · rw [upd_ne (ne_of_none e hD)]
        exact sm _ _ e
      · rw [upd_same, List.map_append]
        rfl
    · rw [if_neg c, List.append_nil]
      exact iteF ⟨sm, eD⟩
  · rintro H1 ⟨sm, eD⟩
    have ht : ps.take (([V.ref t0, .ref t1, .ref t2] ++ [.ref t3, .ref t4] ++ [.ref t5, .ref t6] ++ [.ref t7, .ref t8] : List V)).length = ps := List.take_of_length_le (by rw [plen]; exact Nat.le_refl 9)
    rw [ht, eps] at eD
    exact q Dn H1 (m0.trans sm) (m0.free hD) eD
end
section
variable {Pr : Program} {w : World} {K : PySem.W.Frag} {mg : Str → Option Value} {base : Heap} {f fL : Addr} {fd fdL : FuncData}
theorem scStepped : FnScope ["rest", "word", "left"] ["rest", "word"] (defScope s_stepped) := ⟨rfl, rfl, rfl, by decide +kernel, rfl, by decide +kernel, by decide +kernel⟩
theorem ok_stepped (F : FnP K "stepped" s_stepped f fd) (L : Has K mg "left_of" s_left_of ["text", "other"] fL fdL) (B : Bl mg) : FnOk Pr w K mg base CX0 2 f fd ["rest", "word"] spStep := by
  have GL : FnOk Pr w K mg base CX0 1 fL fdL ["text", "other"] spLeft := ok_left L.F B
  refine F.okN scStepped (fun vs H Q E h => ?_) (fun cdv A' outer s H vs Q E hr h => ?_)
  · obtain ⟨a, b, rfl, _⟩ := h
    rfl
  · obtain ⟨a, b, rfl, ha, hb, q0, q⟩ := h
    refine ⟨_, pss_cons (ps_set (i := 2) scStepped.nd rfl (.inl rfl) (pe_call GL hr (by rfl) L.g L.F.kp L.b .nil pass0 (pa_cons (pv 0) (pa_cons (pv 1) pa_nil))))
      (pss_cons (ps_if (pt_cmpR op_notN (pv 2) pe_non (nomark _)) (pss_one (ps_ret (pe_tup (pa_cons (pv 2) (pa_cons pe_bl pa_nil))))) pss_nil)
      (pss_cons (ps_set (i := 2) scStepped.nd rfl (.inl rfl) (pe_call GL hr (by rfl) L.g L.F.kp L.b .nil pass0 (pa_cons (pv 1) (pa_cons (pv 0) pa_nil))))
      (pss_cons (ps_if (pt_cmpR op_notN (pv 2) pe_non (nomark _)) (pss_one (ps_ret (pe_tup (pa_cons (pv 2) (pa_cons pe_bl pa_nil))))) pss_nil)
      (pss_one (ps_ret pe_non))))), ?_⟩
    unfold stp at q0 q
    refine ⟨_, rfl, _, rfl, a, b, rfl, by omega, by omega, ?_⟩
    by_cases c : hit b a = true
    · rw [if_pos c] at q
      rw [if_pos c]
      refine ⟨_, rfl, rfl, _, rfl, ?_⟩
      refine iteNN (fun z => nomatch z) ⟨_, rfl, by show 2 ≤ sizeLine; decide, fun p hp => q _ _ rfl p _ (same_upd hp) hp upd_same⟩
    · rw [if_neg c] at q q0
      rw [if_neg c]
      refine ⟨_, rfl, rfl, _, rfl, iteNP rfl ?_⟩
      refine ⟨_, rfl, _, rfl, b, a, rfl, by omega, by omega, ?_⟩
      by_cases c2 : hit a b = true
      · rw [if_pos c2] at q
        rw [if_pos c2]
        refine ⟨_, rfl, rfl, _, rfl, ?_⟩
        refine iteNN (fun z => nomatch z) ⟨_, rfl, by show 2 ≤ sizeLine; decide, fun p hp => q _ _ rfl p _ (same_upd hp) hp upd_same⟩
      · rw [if_neg c2] at q0
        rw [if_neg c2]
        exact ⟨_, rfl, rfl, _, rfl, iteNP rfl (q0 rfl)⟩
end
/-! ### rests that rows lead to, and their leasts -/
/-- a rest that two rows lead to, the one's text so long -/
inductive Off (ws : List (List Nat)) : List Nat → Nat → Prop where
  | new {w o : List Nat} : w ∈ ws → o ∈ ws → w ≠ o → hit o w = true → Off ws (w.drop o.length) w.length
  | go {r w x : List Nat} {n : Nat} {b : Bool} : Off ws r n → w ∈ ws → stp r w = some (x, b) → Off ws x (n + if b = true then x.length else 0)
def Lst (ws : List (List Nat)) (r : List Nat) (n : Nat) : Prop := Off ws r n ∧ ∀ m, Off ws r m → n ≤ m
section
variable {ws vs : List (List Nat)}
theorem lst_of {r : List Nat} : ∀ {m : Nat}, Off ws r m → ∃ n, n ≤ m ∧ Lst ws r n := by
  intro m
  induction m using Nat.strongRecOn with
  | _ m ih =>
    intro h
    by_cases c : ∃ k, k < m ∧ Off ws r k
    · obtain ⟨k, hk, ho⟩ := c
      obtain ⟨n, hn, hl⟩ := ih k hk ho
      exact ⟨n, by omega, hl⟩
    · refine ⟨m, Nat.le_refl _, h, fun k hk => ?_⟩
      by_cases z : k < m
      · exact absurd ⟨k, z, hk⟩ c
      · omega
theorem Lst.one {r : List Nat} {n m : Nat} (h : Lst ws r n) (g : Lst ws r m) : n = m := Nat.le_antisymm (h.2 _ g.1) (g.2 _ h.1)
theorem Off.perm (h : ∀ x, x ∈ vs ↔ x ∈ ws) {r : List Nat} {n : Nat} (o : Off vs r n) : Off ws r n := by
  induction o with
  | new a b c d => exact .new ((h _).mp a) ((h _).mp b) c d
  | go _ b c ih => exact .go ih ((h _).mp b) c
theorem Lst.perm (h : ∀ x, x ∈ vs ↔ x ∈ ws) {r : List Nat} {n : Nat} (o : Lst vs r n) : Lst ws r n := ⟨o.1.perm h, fun m q => o.2 m (q.perm fun x => (h x).symm)⟩
theorem stp_end {r w x : List Nat} {b : Bool} (h : stp r w = some (x, b)) : (∃ k, x = r.drop k) ∨ ∃ k, x = w.drop k := by
  unfold stp at h
  by_cases c : hit w r = true
  · rw [if_pos c] at h
    cases h
    exact .inl ⟨_, rfl⟩
  · rw [if_neg c] at h
    by_cases c2 : hit r w = true
    · rw [if_pos c2] at h
      cases h
      exact .inr ⟨_, rfl⟩
    · rw [if_neg c2] at h
      cases h
theorem Off.tail {r : List Nat} {n : Nat} (o : Off ws r n) : ∃ w ∈ ws, ∃ k, r = w.drop k := by
  induction o with
  | new a _ _ _ => exact ⟨_, a, _, rfl⟩
  | go _ b c ih =>
    rcases stp_end c with ⟨k, e⟩ | ⟨k, e⟩
    · obtain ⟨w, hw, j, ej⟩ := ih
      exact ⟨w, hw, j + k, by rw [e, ej, List.drop_drop]⟩
    · exact ⟨_, b, k, e⟩
theorem Off.let (hw : ∀ x ∈ ws, WordOk x) {r : List Nat} {n : Nat} (o : Off ws r n) : Let r ∧ r.length ≤ 10 := by
  obtain ⟨w, m, k, e⟩ := o.tail
  obtain ⟨_, h2, h3⟩ := hw w m
  rw [e]
  exact ⟨let_drop h3 _, by rw [List.length_drop]; omega⟩
theorem nodup_sub {α : Type} [DecidableEq α] : ∀ {l m : List α}, l.Nodup → (∀ x ∈ l, x ∈ m) → l.length ≤ m.length
  | [], _, _, _ => Nat.zero_le _
  | x :: l, m, nd, h => by
    have hx := h x List.mem_cons_self
    obtain ⟨n1, n2⟩ := List.nodup_cons.mp nd
    have ih := nodup_sub (l := l) (m := m.erase x) n2 fun y hy => (List.mem_erase_of_ne fun (e : y = x) => n1 (by rw [← e]; exact hy)).mpr (h y (List.mem_cons_of_mem _ hy))
    rw [List.length_erase_of_mem hx] at ih
    have : 1 ≤ m.length := List.length_pos_of_mem hx
    rw [List.length_cons]
    omega
theorem tails_len (ws : List (List Nat)) : (ws.flatMap fun w => (List.range 11).map fun k => w.drop k).length = ws.length * 11 := by
  induction ws with
  | nil => rfl
  | cons x ws ih => rw [List.flatMap_cons, List.length_append, ih, List.length_map, List.length_range, List.length_cons]; omega
theorem Off.in_tails (hw : ∀ x ∈ ws, WordOk x) {r : List Nat} {n : Nat} (o : Off ws r n) : r ∈ ws.flatMap fun w => (List.range 11).map fun k => w.drop k := by
  obtain ⟨w, m, k, e⟩ := o.tail
  have h2 := (hw w m).2.1
  refine List.mem_flatMap.mpr ⟨w, m, List.mem_map.mpr ?_⟩
  by_cases h : k < 11
  · exact ⟨k, List.mem_range.mpr h, e.symm⟩
  · refine ⟨10, List.mem_range.mpr (by decide), ?_⟩
    show w.drop 10 = r
    rw [e, List.drop_of_length_le (by omega), List.drop_of_length_le (by omega)]
/-- the table of the leasts: each rest once -/
def LD (ws : List (List Nat)) (es : List (List Nat × Nat)) : Prop := (es.map (·.1)).Nodup ∧ ∀ r n, (r, n) ∈ es ↔ Lst ws r n
theorem LD.len {es : List (List Nat × Nat)} (h : LD ws es) (hw : ∀ x ∈ ws, WordOk x) : es.length ≤ ws.length * 11 := by
  have q := nodup_sub h.1 (m := ws.flatMap fun w => (List.range 11).map fun k => w.drop k) fun x hx => by
    obtain ⟨p, hp, e⟩ := List.mem_map.mp hx
    rw [← e]
    exact ((h.2 p.1 p.2).mp hp).1.in_tails hw
  rw [List.length_map, tails_len] at q
  exact q
theorem LD.perm (p : ∀ x, x ∈ vs ↔ x ∈ ws) {es : List (List Nat × Nat)} (h : LD vs es) : LD ws es := ⟨h.1, fun r n => (h.2 r n).trans ⟨fun q => q.perm p, fun q => q.perm fun x => (p x).symm⟩⟩
end
/-- such a table as a dict -/
def dkv (es : List (List Nat × Nat)) : List (Key × V) := es.map fun e => (Sum.inr (S e.1), V.int (e.2 : Int))
theorem dkv_len (es : List (List Nat × Nat)) : (dkv es).length = es.length := List.length_map _
theorem dkv_in : ∀ {es : List (List Nat × Nat)} {r : List Nat} {n : Nat}, (es.map (·.1)).Nodup → (r, n) ∈ es → valV (dkv es) (Sum.inr (S r)) = some (V.int (n : Int))
  | [], _, _, _, h => nomatch h
  | e :: es, r, n, nd, h => by
    obtain ⟨n1, n2⟩ := List.nodup_cons.mp nd
    rcases List.mem_cons.mp h with z | z
    · rw [← z]
      exact valV_pos rfl
    · have ne : ¬ (Sum.inr (S e.1) : Key) = Sum.inr (S r) := fun q => by
        have q2 := S_inj (Sum.inr.inj q)
        exact n1 (List.mem_map.mpr ⟨(r, n), z, q2.symm⟩)
      exact (valV_neg ne).trans (dkv_in n2 z)
theorem dkv_out : ∀ {es : List (List Nat × Nat)} {r : List Nat}, (∀ n, (r, n) ∉ es) → valV (dkv es) (Sum.inr (S r)) = none
  | [], _, _ => rfl
  | e :: es, r, h => by
    have ne : ¬ (Sum.inr (S e.1) : Key) = Sum.inr (S r) := fun q => by
      have q2 := S_inj (Sum.inr.inj q)
      exact h e.2 (by rw [← q2]; exact List.mem_cons_self)
    exact (valV_neg ne).trans (dkv_out fun n hn => h n (List.mem_cons_of_mem _ hn))
theorem LD.same {ws : List (List Nat)} {es fs : List (List Nat × Nat)} (h : LD ws es) (g : LD ws fs) : (dkv es).length = (dkv fs).length ∧ ∀ p ∈ dkv es, valV (dkv fs) p.1 = some p.2 ∧ flatB p.2 = true := by
  constructor
  · rw [dkv_len, dkv_len]
    have sub : ∀ {a b : List (List Nat × Nat)}, LD ws a → LD ws b → a.length ≤ b.length := fun {a b} ha hb => by
      have q := nodup_sub ha.1 (m := b.map (·.1)) fun x hx => by
        obtain ⟨p, hp, e⟩ := List.mem_map.mp hx
        exact List.mem_map.mpr ⟨p, (hb.2 p.1 p.2).mpr ((ha.2 p.1 p.2).mp hp), e⟩
      rw [List.length_map, List.length_map] at q
      exact q
    exact Nat.le_antisymm (sub h g) (sub g h)
  · intro p hp
    obtain ⟨e, he, rfl⟩ := List.mem_map.mp hp
    exact ⟨dkv_in g.1 ((g.2 e.1 e.2).mpr ((h.2 e.1 e.2).mp he)), rfl⟩
/-- what a table of leasts offers, and that each of its rests is met -/
theorem LD.closed {ws : List (List Nat)} {es : List (List Nat × Nat)} (h : LD ws es) {r : List Nat} {m : Nat} (o : Off ws r m) : ∃ n, n ≤ m ∧ (r, n) ∈ es := by
  obtain ⟨n, hn, hl⟩ := lst_of o
  exact ⟨n, hn, (h.2 r n).mpr hl⟩
theorem LD.met {ws : List (List Nat)} {es : List (List Nat × Nat)} (h : LD ws es) {r : List Nat} {n : Nat} (hr : (r, n) ∈ es) :
    (∃ w ∈ ws, ∃ o ∈ ws, w ≠ o ∧ hit o w = true ∧ r = w.drop o.length ∧ n = w.length) ∨ ∃ q ∈ es, ∃ w ∈ ws, ∃ b, stp q.1 w = some (r, b) ∧ n = q.2 + if b = true then r.length else 0 := by
  have hl := (h.2 r n).mp hr
  obtain ⟨m, hm⟩ : ∃ m, m = n := ⟨n, rfl⟩
  have ho := hl.1
  rw [← hm] at ho
  cases ho with
  | new a b c d => exact .inl ⟨_, a, _, b, c, d, rfl, hm.symm⟩
  | @go r0 w _ n0 b o1 hw hs =>
    obtain ⟨k, hk, hin⟩ := h.closed o1
    have hk2 := ((h.2 r0 k).mp hin).1
    have := hl.2 _ (.go hk2 hw hs)
    exact .inr ⟨(r0, k), hin, w, hw, b, hs, by omega⟩
/-! ### rows that meet -/
/-- two rows meet and lead to the rest r, the one's text n long -/
structure Mt (ws : List (List Nat)) (n : Nat) (r : List Nat) (one other : List (List Nat)) : Prop where
  w1 : ∀ x ∈ one, x ∈ ws
  w2 : ∀ x ∈ other, x ∈ ws
  hd : ∃ a b, one.head? = some a ∧ other.head? = some b ∧ a ≠ b
  eq : one.flatten = other.flatten ++ r
  len : n = one.flatten.length
  short : one.dropLast.flatten.length ≤ other.flatten.length
  off : Off ws r n
theorem Mt.new {ws : List (List Nat)} {w o : List Nat} (hw : w ∈ ws) (ho : o ∈ ws) (ne : w ≠ o) (h : hit o w = true) : Mt ws w.length (w.drop o.length) [w] [o] := by
  refine ⟨fun x hx => by rw [List.mem_singleton.mp hx]; exact hw, fun x hx => by rw [List.mem_singleton.mp hx]; exact ho, ⟨w, o, rfl, rfl, ne⟩, ?_, by simp, by simp, .new hw ho ne h⟩
  have := hit_iff.mp h
  simp only [List.flatten_cons, List.flatten_nil, List.append_nil]
  conv => lhs; rw [← List.take_append_drop o.length w]
  rw [this]
theorem head_app {α : Type} {l m : List α} {a : α} (h : l.head? = some a) : (l ++ m).head? = some a := by
  cases l with
  | nil => cases h
  | cons x l => exact h
theorem flat_one {l : List (List Nat)} {w : List Nat} : (l ++ [w]).flatten = l.flatten ++ w := by simp
theorem Mt.on {ws : List (List Nat)} {n : Nat} {r : List Nat} {one other : List (List Nat)} (m : Mt ws n r one other) {w x : List Nat} (hw : w ∈ ws) (h : stp r w = some (x, false)) : Mt ws n x one (other ++ [w]) := by
  obtain ⟨a, b, ha, hb, ne⟩ := m.hd
  have h2 : hit w r = true ∧ x = r.drop w.length := by
    unfold stp at h
    by_cases c : hit w r = true
    · rw [if_pos c] at h
      cases h
      exact ⟨c, rfl⟩
    · rw [if_neg c] at h
      by_cases c2 : hit r w = true
      · rw [if_pos c2] at h
        cases h
      · rw [if_neg c2] at h
        cases h
  have h3 := hit_iff.mp h2.1
  refine ⟨m.w1, fun y hy => (List.mem_append.mp hy).elim (m.w2 y) fun z => by rw [List.mem_singleton.mp z]; exact hw, ⟨a, b, ha, head_app hb, ne⟩, ?_, m.len, ?_, ?_⟩
  · rw [m.eq, flat_one, List.append_assoc]
    congr 1
    conv => lhs; rw [← List.take_append_drop w.length r]
    rw [h3, h2.2]
  · rw [flat_one, List.length_append]
    have := m.short
    omega
  · have := Off.go m.off hw h
    exact this
theorem Mt.over {ws : List (List Nat)} {n : Nat} {r : List Nat} {one other : List (List Nat)} (m : Mt ws n r one other) {w x : List Nat} (hw : w ∈ ws) (h : stp r w = some (x, true)) : Mt ws (n + x.length) x (other ++ [w]) one := by
  obtain ⟨a, b, ha, hb, ne⟩ := m.hd
  have h2 : hit r w = true ∧ x = w.drop r.length := by
    unfold stp at h
    by_cases c : hit w r = true
    · rw [if_pos c] at h
      cases h
    · rw [if_neg c] at h
      by_cases c2 : hit r w = true
      · rw [if_pos c2] at h
        cases h
        exact ⟨c2, rfl⟩
      · rw [if_neg c2] at h
        cases h
  have h3 := hit_iff.mp h2.1
  have e : (other ++ [w]).flatten = one.flatten ++ x := by
    rw [flat_one, m.eq, List.append_assoc]
    congr 1
    conv => lhs; rw [← List.take_append_drop r.length w]
    rw [h3, h2.2]
  refine ⟨fun y hy => (List.mem_append.mp hy).elim (m.w2 y) fun z => by rw [List.mem_singleton.mp z]; exact hw, m.w1, ⟨b, a, head_app hb, ha, Ne.symm ne⟩, e, ?_, ?_, ?_⟩
  · rw [e, List.length_append, ← m.len]
  · rw [List.dropLast_concat, m.eq, List.length_append]
    omega
  · have := Off.go m.off hw h
    exact this
/-- an entry of the queue: its tuple, and what stands in it -/
structure Ent where
  T : Addr
  n : Nat
  r : List Nat
  oA : Addr
  pA : Addr
  one : List (List Nat)
  other : List (List Nat)
structure Ent.At (H : Hp) (e : Ent) : Prop where
  t : H e.T = some (.tup [.int (e.n : Int), tx e.r, .ref e.oA, .ref e.pA])
  o : H e.oA = some (.lst (e.one.map tx))
  p : H e.pA = some (.lst (e.other.map tx))
abbrev Ent.mt (ws : List (List Nat)) (e : Ent) : Prop := Mt ws e.n e.r e.one e.other
/-- what an entry's objects are to the heap before -/
structure Ent.New (H : Hp) (e : Ent) : Prop where
  t : H e.T = none
  o : H e.oA = none
  p : H e.pA = none
/-- the heap is kept but at q -/
def SameBut (q : Addr) (H H' : Hp) : Prop := ∀ b o, b ≠ q → H b = some o → H' b = some o
theorem texts_ne_refs {l : List (List Nat)} (h : l ≠ []) {us : List Addr} : HO.lst (l.map tx) ≠ HO.lst (us.map V.ref) := by
  intro e
  have e2 := HO.lst.inj e
  cases l with
  | nil => exact h rfl
  | cons x l =>
    cases us with
    | nil => cases e2
    | cons u us => cases (List.cons.inj e2).1
theorem Mt.ne1 {ws : List (List Nat)} {n : Nat} {r : List Nat} {one other : List (List Nat)} (m : Mt ws n r one other) : one ≠ [] := by
  obtain ⟨a, b, ha, hb, ne⟩ := m.hd
  rintro rfl
  cases ha
theorem Mt.ne2 {ws : List (List Nat)} {n : Nat} {r : List Nat} {one other : List (List Nat)} (m : Mt ws n r one other) : other ≠ [] := by
  obtain ⟨a, b, ha, hb, ne⟩ := m.hd
  rintro rfl
  cases hb
theorem Ent.At.keep {q : Addr} {H H' : Hp} {e : Ent} {us : List Addr} {ws : List (List Nat)} (a : e.At H) (s : SameBut q H H') (hq : H q = some (.lst (us.map V.ref))) (m : e.mt ws) : e.At H' :=
  ⟨s _ _ (ne_of a.t hq fun z => nomatch z) a.t, s _ _ (ne_of a.o hq (texts_ne_refs m.ne1)) a.o, s _ _ (ne_of a.p hq (texts_ne_refs m.ne2)) a.p⟩
theorem Ent.At.same {H H' : Hp} {e : Ent} (a : e.At H) (s : Same H H') : e.At H' := ⟨s _ _ a.t, s _ _ a.o, s _ _ a.p⟩
theorem SameBut.upd {q : Addr} {H : Hp} {o : HO} : SameBut q H (upd H q o) := fun b u hb e => by rw [upd_ne hb]; exact e
theorem none_of {H H' : Hp} (s : Same H H') {b : Addr} (h : H' b = none) : H b = none := by
  cases e : H b with
  | none => rfl
  | some o => rw [s _ _ e] at h; cases h
abbrev ents (es : List Ent) : List V := (es.map Ent.T).map V.ref
theorem ents_app {es fs : List Ent} : ents (es ++ fs) = ents es ++ ents fs := by
  unfold ents
  rw [List.map_append, List.map_append]
section
variable {Pr : Program} {w : World} {K : PySem.W.Frag} {mg : Str → Option Value} {base : Heap} {f fL fS : Addr} {fd fdL fdS : FuncData}
def spFirst : Sp := fun vs H Q _ => ∃ (c : Addr) (ws : List (List Nat)), vs = [.ref c] ∧ H c = some (.lst (ws.map tx)) ∧ ws.length ≤ 12 ∧ (∀ x ∈ ws, WordOk x) ∧
  ∀ (l : Addr) (es : List Ent) (H' : Hp), Same H H' → H l = none → H' l = some (.lst (ents es)) → (∀ e ∈ es, e.At H' ∧ e.New H ∧ e.mt ws ∧ e.one.length = 1 ∧ e.other.length = 1) →
    (∀ v ∈ ws, ∀ o ∈ ws, v ≠ o → hit o v = true → ∃ e ∈ es, e.r = v.drop o.length ∧ e.n = v.length) → es.length ≤ 144 → Q (.ref l) H'
theorem scFirst : FnScope ["code", "found", "word", "start", "rest"] ["code"] (defScope s__first_meetings) := ⟨rfl, rfl, rfl, by decide +kernel, rfl, by decide +kernel, by decide +kernel⟩
structure FI (ws : List (List Nat)) (H : Hp) (g : Addr) (C : List Nat → List Nat → Prop) (m : Nat) (H1 : Hp) : Prop where
  s : Same H H1
  ex : ∃ es : List Ent, H1 g = some (.lst (ents es)) ∧ (∀ e ∈ es, e.At H1 ∧ e.New H ∧ e.mt ws ∧ e.one.length = 1 ∧ e.other.length = 1) ∧
    (∀ v ∈ ws, ∀ o ∈ ws, C v o → v ≠ o → hit o v = true → ∃ e ∈ es, e.r = v.drop o.length ∧ e.n = v.length) ∧ es.length ≤ m
theorem FI.mono {ws : List (List Nat)} {H : Hp} {g : Addr} {C C' : List Nat → List Nat → Prop} {m m' : Nat} {H1 : Hp} (h : FI ws H g C m H1) (hc : ∀ v o, v ∈ ws → o ∈ ws → C' v o → v ≠ o → hit o v = true → C v o) (hm : m ≤ m') : FI ws H g C' m' H1 := by
  obtain ⟨s, es, h1, h2, h3, h4⟩ := h
  exact ⟨s, es, h1, h2, fun v hv o ho c ne hh => h3 v hv o ho (hc v o hv ho c ne hh) ne hh, by omega⟩
theorem ok_first (F : FnP K "_first_meetings" s__first_meetings f fd) (L : Has K mg "left_of" s_left_of ["text", "other"] fL fdL) (B : Bl mg) : FnOk Pr w K mg base CX0 2 f fd ["code"] spFirst := by
  have GL : FnOk Pr w K mg base CX0 1 fL fdL ["text", "other"] spLeft := ok_left L.F B
  refine F.okN scFirst (fun vs H Q E h => ?_) (fun cdv A' outer s H vs Q E hr h => ?_)
  · obtain ⟨c, ws, rfl, _⟩ := h
    rfl
  · obtain ⟨c, ws, rfl, hC, hn, hw, q⟩ := h
    refine ⟨_, pss_cons (ps_set (i := 1) scFirst.nd rfl (.inl rfl) (pe_lst pa_nil))
      (pss_cons (ps_for PassesOwn.never rfl (pi_list (pv 0)) (pg_name (i := 2) scFirst.nd rfl (Or.inl rfl))
        (pss_one (ps_for PassesOwn.never rfl (pi_list (pv 0)) (pg_name (i := 3) scFirst.nd rfl (Or.inl rfl))
          (pss_cons (ps_set (i := 4) scFirst.nd rfl (.inl rfl) (pe_call GL hr (by rfl) L.g L.F.kp L.b .nil pass0 (pa_cons (pv 2) (pa_cons (pv 3) pa_nil))))
          (pss_one (ps_if (PW.pt (pw_and (pt_cmpR op_notN (pv 4) pe_non (nomark _)) (pw_and1 (pt_cmpR op_ne (pv 2) (pv 3) (nomark _)))))
            (pss_one (ps_expr (pe_bm PySem.F.plainAttrs_list PySem.F.slot_list_append PySem.F.type_list_append mt_append (pv 1) (pa_cons (pe_tup (pa_cons (pe_callB call_len_str (by rfl) B.mL boot_len (pa_cons (pv 2) pa_nil)) (pa_cons (pv 4) (pa_cons (pe_lst (pa_cons (pv 2) pa_nil)) (pa_cons (pe_lst (pa_cons (pv 3) pa_nil)) pa_nil))))) pa_nil)))) pss_nil))))))
      (pss_one (ps_ret (pv 1)))), ?_⟩
    refine ⟨Nat.zero_le _, fun g hg => ?_⟩
    have s1 := same_upd (o := .lst []) hg
    have ncg : c ≠ g := ne_of_none hC hg
    refine ⟨_, rfl, c, rfl, ⟨_, seqL (s1 _ _ hC)⟩, for_list (K := K) (a := c) (xs := ws.map tx) (fun i σ H1 => FI ws H g (fun v _ => v ∈ ws.take i) (i * 12) H1 ∧ ∃ k2 k3 k4 : Option V, σ = [some (.ref c), some (.ref g), k2, k3, k4]) ?_ (fun i σ H1 _ hh => seqL (hh.1.s _ _ hC)) ?_ ?_⟩
    · exact ⟨⟨s1, [], upd_same, fun e he => absurd he List.not_mem_nil, fun v _ o _ hv => absurd hv (by rw [List.take_zero]; exact List.not_mem_nil), Nat.zero_le _⟩, _, _, _, rfl⟩
    · rintro i x σ H1 hx ⟨I1, k2, k3, k4, rfl⟩
      have hi : i < ws.length := by
        have := (List.getElem?_eq_some_iff.mp hx).1
        rw [List.length_map] at this
        exact this
      have hxe : x = tx ws[i] := by
        rw [List.getElem?_map, List.getElem?_eq_getElem hi] at hx
        exact (Option.some.inj hx).symm
      subst hxe
      obtain ⟨v, hv⟩ : ∃ v, v = ws[i] := ⟨_, rfl⟩
      rw [← hv]
      have hvm : v ∈ ws := by rw [hv]; exact List.getElem_mem hi
      have wv := hw v hvm
      refine ⟨_, rfl, c, rfl, ⟨_, seqL (I1.s _ _ hC)⟩, for_list (K := K) (a := c) (xs := ws.map tx) (fun j σ H2 => FI ws H g (fun v' o => v' ∈ ws.take i ∨ (v' = v ∧ o ∈ ws.take j)) (i * 12 + j) H2 ∧ ∃ k3 k4 : Option V, σ = [some (.ref c), some (.ref g), some (tx v), k3, k4]) ?_ (fun j σ H2 _ hh => seqL (hh.1.s _ _ hC)) ?_ ?_⟩
      · refine ⟨I1.mono (fun v' o _ _ hc _ _ => ?_) (Nat.le_refl _), _, _, rfl⟩
        rcases hc with hc | hc
        · exact hc
        · simp at hc
      · rintro j y σ H2 hy ⟨I2, k3, k4, rfl⟩
        have hj : j < ws.length := by
          have := (List.getElem?_eq_some_iff.mp hy).1
          rw [List.length_map] at this
          exact this
        have hye : y = tx ws[j] := by
          rw [List.getElem?_map, List.getElem?_eq_getElem hj] at hy
          exact (Option.some.inj hy).symm
        subst hye
        obtain ⟨o, ho⟩ : ∃ o, o = ws[j] := ⟨_, rfl⟩
        rw [← ho]
        have hom : o ∈ ws := by rw [ho]; exact List.getElem_mem hj
        have wo := hw o hom
        have tk : ∀ o', o' ∈ ws.take (j + 1) → o' ∈ ws.take j ∨ o' = o := fun o' h' => by
          rw [List.take_add_one, List.getElem?_eq_getElem hj, ← ho] at h'
          rcases List.mem_append.mp h' with z | z
          · exact .inl z
          · exact .inr (List.mem_singleton.mp z)
        have skip : ¬ (v ≠ o ∧ hit o v = true) → FI ws H g (fun v' o => v' ∈ ws.take i ∨ (v' = v ∧ o ∈ ws.take (j + 1))) (i * 12 + (j + 1)) H2 := fun nn => I2.mono (fun v' o' _ _ hc ne hh => by
          rcases hc with hc | ⟨rfl, hc⟩
          · exact .inl hc
          · rcases tk o' hc with z | rfl
            · exact .inr ⟨rfl, z⟩
            · exact absurd ⟨ne, hh⟩ nn) (by omega)
        refine ⟨_, rfl, _, rfl, v, o, rfl, by have := wv.2.1; omega, by have := wo.2.1; omega, ?_⟩
        by_cases ch : hit o v = true
        · rw [if_pos ch]
          refine ⟨_, rfl, rfl, _, rfl, iteNN (fun z => nomatch z) ?_⟩
          refine ⟨_, rfl, _, rfl, rfl, _, rfl, ?_⟩
          by_cases cv : v = o
          · refine iteNP (congrArg tx cv) ⟨skip fun z => z.1 cv, _, _, rfl⟩
          · refine iteNN (fun z => cv (S_inj (V.str.inj z))) ?_
            obtain ⟨s2, es, eg, he, hcov, hle⟩ := I2
            refine ⟨_, rfl, .inl ⟨rfl, _, seqL eg⟩, _, rfl, S v, rfl, small_S (by have := wv.2.1; omega), _, rfl, ?_⟩
            refine ⟨_, rfl, by show 1 ≤ sizeLine; decide, fun a1 n1 => ⟨_, rfl, by show 1 ≤ sizeLine; decide, fun a2 n2 => ?_⟩⟩
            have t1 := same_upd (o := .lst [tx v]) n1
            have t2 := same_upd (o := .lst [tx o]) n2
            refine ⟨by show 4 ≤ sizeLine; decide, fun a3 n3 => ?_⟩
            have t3 := same_upd (o := .tup [.int ((S v).length : Int), tx (v.drop o.length), .ref a1, .ref a2]) n3
            have t123 := (t1.trans t2).trans t3
            refine ⟨g, _, _, rfl, rfl, t123 _ _ eg, ?_, ?_⟩
            · rw [List.length_map, List.length_map]
              exact small1000 (by omega)
            · rw [show ((S v).length : Int) = (v.length : Int) by rw [S_len]] at t3 t123 ⊢
              have nag : ∀ b : Addr, H2 b = none → b ≠ g := fun b hb z => by rw [z, eg] at hb; cases hb
              have m1 : H2 a1 = none := n1
              have m2 : H2 a2 = none := none_of t1 n2
              have m3 : H2 a3 = none := none_of (t1.trans t2) n3
              have e1 : (upd (upd (upd H2 a1 (.lst [tx v])) a2 (.lst [tx o])) a3 (.tup [.int (v.length : Int), tx (v.drop o.length), .ref a1, .ref a2])) a1 = some (.lst [tx v]) := (t2.trans t3) _ _ upd_same
              have e2 : (upd (upd (upd H2 a1 (.lst [tx v])) a2 (.lst [tx o])) a3 (.tup [.int (v.length : Int), tx (v.drop o.length), .ref a1, .ref a2])) a2 = some (.lst [tx o]) := t3 _ _ upd_same
              have e3 : (upd (upd (upd H2 a1 (.lst [tx v])) a2 (.lst [tx o])) a3 (.tup [.int (v.length : Int), tx (v.drop o.length), .ref a1, .ref a2])) a3 = some (.tup [.int (v.length : Int), tx (v.drop o.length), .ref a1, .ref a2]) := upd_same
              generalize (upd (upd (upd H2 a1 (.lst [tx v])) a2 (.lst [tx o])) a3 (.tup [.int (v.length : Int), tx (v.drop o.length), .ref a1, .ref a2])) = H3 at t123 e1 e2 e3 ⊢
              have sb : SameBut g H2 (upd H3 g (.lst (ents es ++ [.ref a3]))) := fun b u hb hu => by
                rw [upd_ne hb]
                exact t123 _ _ hu
              refine ⟨⟨fun b u hu => ?_, es ++ [⟨a3, v.length, v.drop o.length, a1, a2, [v], [o]⟩], ?_, ?_, ?_, ?_⟩, _, _, rfl⟩
              · rw [upd_ne (ne_of_none hu hg)]
                exact t123 _ _ (s2 _ _ hu)
              · rw [upd_same, ents_app]
                rfl
              · intro e hm
                rcases List.mem_append.mp hm with z | z
                · obtain ⟨h1, h2, h3, h4⟩ := he e z
                  exact ⟨h1.keep sb eg h3, h2, h3, h4⟩
                · rw [List.mem_singleton.mp z]
                  refine ⟨⟨?_, ?_, ?_⟩, ⟨none_of s2 m3, none_of s2 m1, none_of s2 m2⟩, Mt.new hvm hom cv ch, rfl, rfl⟩
                  · exact (upd_ne (nag _ m3)).trans e3
                  · exact (upd_ne (nag _ m1)).trans e1
                  · exact (upd_ne (nag _ m2)).trans e2
              · intro v' hv' o' ho' hc ne hh
                have old : (v' ∈ ws.take i ∨ (v' = v ∧ o' ∈ ws.take j)) → ∃ e ∈ es ++ [(⟨a3, v.length, v.drop o.length, a1, a2, [v], [o]⟩ : Ent)], e.r = v'.drop o'.length ∧ e.n = v'.length := fun z => by
                  obtain ⟨e, h1, h2⟩ := hcov v' hv' o' ho' z ne hh
                  exact ⟨e, List.mem_append_left _ h1, h2⟩
                rcases hc with hc | ⟨rfl, hc⟩
                · exact old (.inl hc)
                · rcases tk o' hc with z | rfl
                  · exact old (.inr ⟨rfl, z⟩)
                  · exact ⟨_, List.mem_append_right _ (List.mem_singleton.mpr rfl), rfl, rfl⟩
              · rw [List.length_append, List.length_singleton]
                omega
        · rw [if_neg ch]
          refine ⟨_, rfl, rfl, _, rfl, iteNP rfl (iteF ?_)⟩
          exact ⟨skip fun z => ch z.2, _, _, rfl⟩
      · rintro σ H2 ⟨I2, k3, k4, rfl⟩
        refine ⟨I2.mono (fun v' o' _ ho' hc _ _ => ?_) (by rw [List.length_map]; omega), _, _, _, rfl⟩
        rw [List.take_add_one, List.getElem?_eq_getElem hi, ← hv] at hc
        rcases List.mem_append.mp hc with z | z
        · exact .inl z
        · refine .inr ⟨List.mem_singleton.mp z, ?_⟩
          rw [List.length_map, List.take_length]
          exact ho'
    · rintro σ H1 ⟨⟨s1, es, eg, he, hcov, hle⟩, k2, k3, k4, rfl⟩
      rw [List.length_map] at hcov hle
      refine ⟨_, rfl, q g es H1 s1 hg eg he (fun v hv o ho => hcov v hv o ho (by rw [List.take_length]; exact hv)) (by omega)⟩
end
section
variable {Pr : Program} {w : World} {K : PySem.W.Frag} {mg : Str → Option Value} {base : Heap} {f fL fS : Addr} {fd fdL fdS : FuncData}
def OneOf (H : Hp) (x a b : Addr) : Prop := H x = none ∨ x = a ∨ x = b
structure Fur (ws : List (List Nat)) (H : Hp) (oA pA : Addr) (M : Nat) (H1 : Hp) (e : Ent) : Prop where
  at_ : e.At H1
  t : H e.T = none
  o : OneOf H e.oA oA pA
  p : OneOf H e.pA oA pA
  m : e.mt ws
  l1 : e.one.length ≤ M + 1
  l2 : e.other.length ≤ M + 1
structure FU (ws : List (List Nat)) (H : Hp) (n : Nat) (r : List Nat) (oA pA : Addr) (M : Nat) (g : Addr) (C : List Nat → Prop) (m : Nat) (H1 : Hp) : Prop where
  s : Same H H1
  ex : ∃ es : List Ent, H1 g = some (.lst (ents es)) ∧ (∀ e ∈ es, Fur ws H oA pA M H1 e) ∧
    (∀ v ∈ ws, C v → ∀ x b, stp r v = some (x, b) → ∃ e ∈ es, e.r = x ∧ e.n = n + if b = true then x.length else 0) ∧ es.length ≤ m
def spFurther : Sp := fun vs H Q _ => ∃ (c oA pA : Addr) (n M : Nat) (r : List Nat) (one other ws : List (List Nat)), vs = [.ref c, .int (n : Int), tx r, .ref oA, .ref pA] ∧ H c = some (.lst (ws.map tx)) ∧ H oA = some (.lst (one.map tx)) ∧ H pA = some (.lst (other.map tx)) ∧
  ws.length ≤ 12 ∧ (∀ x ∈ ws, WordOk x) ∧ Mt ws n r one other ∧ one.length ≤ M ∧ other.length ≤ M ∧ M ≤ 1000 ∧
  ∀ (l : Addr) (es : List Ent) (H' : Hp), Same H H' → H l = none → H' l = some (.lst (ents es)) → (∀ e ∈ es, Fur ws H oA pA M H' e) →
    (∀ v ∈ ws, ∀ x b, stp r v = some (x, b) → ∃ e ∈ es, e.r = x ∧ e.n = n + if b = true then x.length else 0) → es.length ≤ 12 → Q (.ref l) H'
theorem scFurther : FnScope ["code", "length", "rest", "one", "other", "found", "word", "step", "left", "beyond"] ["code", "length", "rest", "one", "other"] (defScope s__further_meetings) := ⟨rfl, rfl, rfl, by decide +kernel, rfl, by decide +kernel, by decide +kernel⟩
/-- one more entry is appended -/
theorem FU.more {ws : List (List Nat)} {H : Hp} {n : Nat} {r : List Nat} {oA pA : Addr} {M : Nat} {g : Addr} {C C' : List Nat → Prop} {m : Nat} {H1 H3 : Hp} (h : FU ws H n r oA pA M g C m H1) (hg : H g = none) {es : List Ent} {e : Ent}
    (eg : H1 g = some (.lst (ents es))) (s : Same H1 H3) (he : Fur ws H oA pA M (upd H3 g (.lst (ents es ++ [.ref e.T]))) e) (hold : ∀ e ∈ es, Fur ws H oA pA M H1 e) (hlen : es.length ≤ m)
    (hcov : ∀ v ∈ ws, C v → ∀ x b, stp r v = some (x, b) → ∃ e ∈ es, e.r = x ∧ e.n = n + if b = true then x.length else 0)
    (hc : ∀ v ∈ ws, C' v → ∀ x b, stp r v = some (x, b) → C v ∨ (e.r = x ∧ e.n = n + if b = true then x.length else 0)) :
    FU ws H n r oA pA M g C' (m + 1) (upd H3 g (.lst (ents es ++ [.ref e.T]))) := by
  have sb : SameBut g H1 (upd H3 g (.lst (ents es ++ [.ref e.T]))) := fun b u hb hu => by
    rw [upd_ne hb]
    exact s _ _ hu
  refine ⟨fun b u hu => ?_, es ++ [e], ?_, fun x hx => ?_, fun v hv cv x b hs => ?_, ?_⟩
  · rw [upd_ne (ne_of_none hu hg)]
    exact s _ _ (h.s _ _ hu)
  · rw [upd_same, ents_app]
    rfl
  · rcases List.mem_append.mp hx with z | z
    · have q := hold x z
      exact ⟨q.at_.keep sb eg q.m, q.t, q.o, q.p, q.m, q.l1, q.l2⟩
    · rw [List.mem_singleton.mp z]
      exact he
  · rcases hc v hv cv x b hs with z | z
    · obtain ⟨e2, h1, h2⟩ := hcov v hv z x b hs
      exact ⟨e2, List.mem_append_left _ h1, h2⟩
    · exact ⟨e, List.mem_append_right _ (List.mem_singleton.mpr rfl), z⟩
  · rw [List.length_append, List.length_singleton]
    omega
theorem ok_further (F : FnP K "_further_meetings" s__further_meetings f fd) (L : Has K mg "left_of" s_left_of ["text", "other"] fL fdL) (S1 : Has K mg "stepped" s_stepped ["rest", "word"] fS fdS) (B : Bl mg) : FnOk Pr w K mg base CX0 3 f fd ["code", "length", "rest", "one", "other"] spFurther := by
  have GS : FnOk Pr w K mg base CX0 2 fS fdS ["rest", "word"] spStep := ok_stepped S1.F L B
  refine F.okN scFurther (fun vs H Q E h => ?_) (fun cdv A' outer s H vs Q E hr h => ?_)
  · obtain ⟨c, oA, pA, n, M, r, one, other, ws, rfl, _⟩ := h
    rfl
  · obtain ⟨c, oA, pA, n, M, r, one, other, ws, rfl, hC, hO, hP, hn, hw, hm, l1, l2, lM, q⟩ := h
    refine ⟨_, pss_cons (ps_set (i := 5) scFurther.nd rfl (.inl rfl) (pe_lst pa_nil))
      (pss_cons (ps_for PassesOwn.never rfl (pi_list (pv 0)) (pg_name (i := 6) scFurther.nd rfl (Or.inl rfl))
        (pss_cons (ps_set (i := 7) scFurther.nd rfl (.inl rfl) (pe_call GS hr (by rfl) S1.g S1.F.kp S1.b .nil pass0 (pa_cons (pv 2) (pa_cons (pv 6) pa_nil))))
          (pss_one (ps_if (pt_cmpR op_notN (pv 7) pe_non (nomark _))
            (pss_cons (ps_asg (pv 7) (pg_tup rfl (pgs_cons (pg_name (i := 8) scFurther.nd rfl (Or.inl rfl)) (pgs_cons (pg_name (i := 9) scFurther.nd rfl (Or.inl rfl)) pgs_nil))))
            (pss_one (ps_if (pt_val (pv 9))
              (pss_one (ps_expr (pe_bm PySem.F.plainAttrs_list PySem.F.slot_list_append PySem.F.type_list_append mt_append (pv 5) (pa_cons (pe_tup (pa_cons (pe_op op_add (pv 1) (pe_callB call_len_str (by rfl) B.mL boot_len (pa_cons (pv 8) pa_nil))) (pa_cons (pv 8) (pa_cons (pe_op op_cat (pv 4) (pe_lst (pa_cons (pv 6) pa_nil))) (pa_cons (pv 3) pa_nil))))) pa_nil))))
              (pss_one (ps_expr (pe_bm PySem.F.plainAttrs_list PySem.F.slot_list_append PySem.F.type_list_append mt_append (pv 5) (pa_cons (pe_tup (pa_cons (pv 1) (pa_cons (pv 8) (pa_cons (pv 3) (pa_cons (pe_op op_cat (pv 4) (pe_lst (pa_cons (pv 6) pa_nil))) pa_nil))))) pa_nil))))))) pss_nil))))
      (pss_one (ps_ret (pv 5)))), ?_⟩
    refine ⟨Nat.zero_le _, fun g hg => ?_⟩
    have s1 := same_upd (o := .lst []) hg
    have lr := (hm.off.let hw).2
    refine ⟨_, rfl, c, rfl, ⟨_, seqL (s1 _ _ hC)⟩, for_list (K := K) (a := c) (xs := ws.map tx) (fun i σ H1 => FU ws H n r oA pA M g (fun v => v ∈ ws.take i) i H1 ∧ ∃ k6 k7 k8 k9 : Option V, σ = [some (.ref c), some (.int (n : Int)), some (tx r), some (.ref oA), some (.ref pA), some (.ref g), k6, k7, k8, k9]) ?_ (fun i σ H1 _ hh => seqL (hh.1.s _ _ hC)) ?_ ?_⟩
    · exact ⟨⟨s1, [], upd_same, fun e he => absurd he List.not_mem_nil, fun v _ hv => absurd hv (by rw [List.take_zero]; exact List.not_mem_nil), Nat.zero_le _⟩, _, _, _, _, rfl⟩
    · rintro i x σ H1 hx ⟨I1, k6, k7, k8, k9, rfl⟩
      have hi : i < ws.length := by
        have := (List.getElem?_eq_some_iff.mp hx).1
        rw [List.length_map] at this
        exact this
      have hxe : x = tx ws[i] := by
        rw [List.getElem?_map, List.getElem?_eq_getElem hi] at hx
        exact (Option.some.inj hx).symm
      subst hxe
      obtain ⟨v, hv⟩ : ∃ v, v = ws[i] := ⟨_, rfl⟩
      rw [← hv]
      have hvm : v ∈ ws := by rw [hv]; exact List.getElem_mem hi
      have wv := hw v hvm
      have tk : ∀ o', o' ∈ ws.take (i + 1) → o' ∈ ws.take i ∨ o' = v := fun o' h' => by
        rw [List.take_add_one, List.getElem?_eq_getElem hi, ← hv] at h'
        rcases List.mem_append.mp h' with z | z
        · exact .inl z
        · exact .inr (List.mem_singleton.mp z)
      have lv := wv.2.1
      refine ⟨_, rfl, _, rfl, r, v, rfl, by omega, by omega, fun en => ?_, fun x b es p H2 s2 np ep => ?_⟩
      · refine ⟨_, rfl, rfl, _, rfl, iteNP rfl ?_⟩
        obtain ⟨s0, es, eg, he, hcov, hle⟩ := I1
        refine ⟨⟨s0, es, eg, he, fun v' hv' hc x b hs => ?_, by omega⟩, _, _, _, _, rfl⟩
        rcases tk v' hc with z | z
        · exact hcov v' hv' z x b hs
        · rw [z, en] at hs
          cases hs
      · refine ⟨_, rfl, rfl, _, rfl, iteNN (fun z => nomatch z) ?_⟩
        refine ⟨_, rfl, p, _, rfl, .inl (.inl ep), rfl, _, _, rfl, _, _, rfl, rfl, ?_⟩
        refine ⟨_, rfl, b, rfl, ?_⟩
        have lx : x.length ≤ 10 := by
          rcases stp_end es with ⟨k, e⟩ | ⟨k, e⟩ <;> rw [e, List.length_drop] <;> omega
        have hI := I1
        obtain ⟨s0, es1, eg, he, hcov, hle⟩ := I1
        have hO2 := s2 _ _ (s0 _ _ hO)
        have hP2 := s2 _ _ (s0 _ _ hP)
        have eg2 := s2 _ _ eg
        have nag : ∀ b : Addr, H2 b = none → b ≠ g := fun b hb z => by rw [z, eg2] at hb; cases hb
        have oag : oA ≠ g := ne_of_none hO hg
        have pag : pA ≠ g := ne_of_none hP hg
        have i12 : i < 12 := by omega
        have lap : es1.length < 1000 := by omega
        cases b with
        | true =>
          refine iteT ?_
          refine ⟨_, rfl, .inl ⟨rfl, _, seqL eg2⟩, _, rfl, _, rfl, S x, rfl, small_S (by omega), _, _, rfl, rfl, _, rfl, _, rfl, _, rfl, by show 1 ≤ sizeLine; decide, fun a0 n0 => ?_⟩
          have t1 := same_upd (o := .lst [tx v]) n0
          refine ⟨pA, a0, _, _, rfl, rfl, t1 _ _ hP2, upd_same, ?_, fun a1 n1 => ?_⟩
          · rw [List.length_map]
            show other.length + 1 ≤ 2 ^ 24
            omega
          have t2 := same_upd (o := .lst (other.map tx ++ [tx v])) n1
          refine ⟨_, rfl, by show 4 ≤ sizeLine; decide, fun a3 n3 => ?_⟩
          have t3 := same_upd (o := .tup [.int ((n : Int) + ((S x).length : Int)), tx x, .ref a1, .ref oA]) n3
          have t123 := (t1.trans t2).trans t3
          refine ⟨g, _, _, rfl, rfl, t123 _ _ eg2, ?_, ?_⟩
          · rw [List.length_map, List.length_map]
            exact small1000 (by omega)
          · have ei : ((n : Int) + ((S x).length : Int)) = ((n + x.length : Nat) : Int) := by rw [S_len]; omega
            have eo : other.map tx ++ [tx v] = (other ++ [v]).map tx := by rw [List.map_append]; rfl
            have m1 : H2 a1 = none := none_of t1 n1
            have m3 : H2 a3 = none := none_of (t1.trans t2) n3
            dsimp only
            rw [ei] at t3 t123 ⊢
            rw [eo] at t2 t3 t123 ⊢
            have e1 : (upd (upd (upd H2 a0 (.lst [tx v])) a1 (.lst ((other ++ [v]).map tx))) a3 (.tup [.int ((n + x.length : Nat) : Int), tx x, .ref a1, .ref oA])) a1 = some (.lst ((other ++ [v]).map tx)) := t3 _ _ upd_same
            have e3 : (upd (upd (upd H2 a0 (.lst [tx v])) a1 (.lst ((other ++ [v]).map tx))) a3 (.tup [.int ((n + x.length : Nat) : Int), tx x, .ref a1, .ref oA])) a3 = some (.tup [.int ((n + x.length : Nat) : Int), tx x, .ref a1, .ref oA]) := upd_same
            generalize (upd (upd (upd H2 a0 (.lst [tx v])) a1 (.lst ((other ++ [v]).map tx))) a3 (.tup [.int ((n + x.length : Nat) : Int), tx x, .ref a1, .ref oA])) = H3 at t123 e1 e3 ⊢
            refine ⟨hI.more (e := ⟨a3, n + x.length, x, a1, oA, other ++ [v], one⟩) hg eg (s2.trans t123) ⟨⟨(upd_ne (nag _ m3)).trans e3, (upd_ne (nag _ m1)).trans e1, (upd_ne oag).trans (t123 _ _ hO2)⟩, none_of (s0.trans s2) m3, .inl (none_of (s0.trans s2) m1), .inr (.inl rfl), hm.over hvm es, ?_, ?_⟩ he hle hcov fun v' hv' hc x' b' hs => ?_, _, _, _, _, rfl⟩
            · show (other ++ [v]).length ≤ M + 1
              rw [List.length_append, List.length_singleton]
              omega
            · show one.length ≤ M + 1
              omega
            · rcases tk v' hc with z | z
              · exact .inl z
              · rw [z, es] at hs
                cases hs
                exact .inr ⟨rfl, rfl⟩
        | false =>
          refine iteF ?_
          refine ⟨_, rfl, .inl ⟨rfl, _, seqL eg2⟩, _, rfl, _, rfl, _, rfl, _, rfl, _, rfl, by show 1 ≤ sizeLine; decide, fun a0 n0 => ?_⟩
          have t1 := same_upd (o := .lst [tx v]) n0
          refine ⟨pA, a0, _, _, rfl, rfl, t1 _ _ hP2, upd_same, ?_, fun a1 n1 => ?_⟩
          · rw [List.length_map]
            show other.length + 1 ≤ 2 ^ 24
            omega
          have t2 := same_upd (o := .lst (other.map tx ++ [tx v])) n1
          refine ⟨by show 4 ≤ sizeLine; decide, fun a3 n3 => ?_⟩
          have t3 := same_upd (o := .tup [.int (n : Int), tx x, .ref oA, .ref a1]) n3
          have t123 := (t1.trans t2).trans t3
          refine ⟨g, _, _, rfl, rfl, t123 _ _ eg2, ?_, ?_⟩
          · rw [List.length_map, List.length_map]
            exact small1000 (by omega)
          · have eo : other.map tx ++ [tx v] = (other ++ [v]).map tx := by rw [List.map_append]; rfl
            have m1 : H2 a1 = none := none_of t1 n1
            have m3 : H2 a3 = none := none_of (t1.trans t2) n3
            rw [eo] at t2 t3 t123 ⊢
            have e1 : (upd (upd (upd H2 a0 (.lst [tx v])) a1 (.lst ((other ++ [v]).map tx))) a3 (.tup [.int (n : Int), tx x, .ref oA, .ref a1])) a1 = some (.lst ((other ++ [v]).map tx)) := t3 _ _ upd_same
            have e3 : (upd (upd (upd H2 a0 (.lst [tx v])) a1 (.lst ((other ++ [v]).map tx))) a3 (.tup [.int (n : Int), tx x, .ref oA, .ref a1])) a3 = some (.tup [.int (n : Int), tx x, .ref oA, .ref a1]) := upd_same
            generalize (upd (upd (upd H2 a0 (.lst [tx v])) a1 (.lst ((other ++ [v]).map tx))) a3 (.tup [.int (n : Int), tx x, .ref oA, .ref a1])) = H3 at t123 e1 e3 ⊢
            refine ⟨hI.more (e := ⟨a3, n, x, oA, a1, one, other ++ [v]⟩) hg eg (s2.trans t123) ⟨⟨(upd_ne (nag _ m3)).trans e3, (upd_ne oag).trans (t123 _ _ hO2), (upd_ne (nag _ m1)).trans e1⟩, none_of (s0.trans s2) m3, .inr (.inl rfl), .inl (none_of (s0.trans s2) m1), hm.on hvm es, ?_, ?_⟩ he hle hcov fun v' hv' hc x' b' hs => ?_, _, _, _, _, rfl⟩
            · show one.length ≤ M + 1
              omega
            · show (other ++ [v]).length ≤ M + 1
              rw [List.length_append, List.length_singleton]
              omega
            · rcases tk v' hc with z | z
              · exact .inl z
              · rw [z, es] at hs
                cases hs
                exact .inr ⟨rfl, rfl⟩
    · rintro σ H1 ⟨⟨s1, es, eg, he, hcov, hle⟩, k6, k7, k8, k9, rfl⟩
      rw [List.length_map] at hcov hle
      refine ⟨_, rfl, q g es H1 s1 hg eg he (fun v hv => hcov v hv (by rw [List.take_length]; exact hv)) (by omega)⟩
end
/-! ### the queue of meetings -/
abbrev txD (l : List (List Nat)) : PyData := .list (l.map fun l => PyData.str (S l))
def Ent.dt (e : Ent) : PyData := .tuple [.int (e.n : Int), .str (S e.r), txD e.one, txD e.other]
/-- what stands at a tuple of the queue, as data -/
def lD (H : Hp) (a : Addr) : PyData := match H a with
  | some (.lst xs) => .list (xs.map fun v => match v with | .str z => .str z | _ => .none)
  | _ => .none
def dat (H : Hp) (t : Addr) : PyData := match H t with
  | some (.tup [.int n, .str r, .ref a, .ref b]) => .tuple [.int n, .str r, lD H a, lD H b]
  | _ => .none
theorem lD_at {H : Hp} {a : Addr} {l : List (List Nat)} (h : H a = some (.lst (l.map tx))) : lD H a = txD l := by
  unfold lD
  rw [h]
  show PyData.list _ = PyData.list _
  rw [List.map_map]
  rfl
theorem Ent.At.dat {H : Hp} {e : Ent} (a : e.At H) : dat H e.T = e.dt := by
  unfold Ow.dat
  rw [a.t]
  show PyData.tuple [.int (e.n : Int), .str (S e.r), lD H e.oA, lD H e.pA] = _
  rw [lD_at a.o, lD_at a.p]
  rfl
theorem Ent.At.dp {K : PySem.W.Frag} {H : Hp} {e : Ent} (a : e.At H) : Dp K H (.ref e.T) e.dt :=
  .tup (.inl (.inl a.t)) (.cons (.int _) (.cons (.str _) (.cons (.lst (seqL a.o) (dp_texts _)) (.cons (.lst (seqL a.p) (dp_texts _)) .nil))))
theorem txs_depth : ∀ l : List (List Nat), PyData.depthAll (l.map fun l => PyData.str (S l)) = 0
  | [] => by simp [PyData.depthAll]
  | x :: l => by
    have := txs_depth l
    simp [PyData.depthAll, PyData.depth, this]
theorem dt_depth (e : Ent) : e.dt.depth ≤ 8 := by
  unfold Ent.dt txD
  simp [PyData.depth, PyData.depthAll, txs_depth]
theorem txs_alike : ∀ l m : List (List Nat), PySem.W.alikeAll (l.map fun l => PyData.str (S l)) (m.map fun l => PyData.str (S l)) = true
  | [], _ => by simp [PySem.W.alikeAll]
  | _ :: _, [] => by simp [PySem.W.alikeAll]
  | x :: l, y :: m => by
    have := txs_alike l m
    simp only [List.map_cons, PySem.W.alikeAll, PySem.W.alike, Bool.true_and]
    exact this
theorem dt_alike (e g : Ent) : PySem.W.alike e.dt g.dt = true := by
  unfold Ent.dt txD
  simp only [PySem.W.alike, PySem.W.alikeAll, Bool.true_and, Bool.and_true, Bool.and_eq_true]
  exact ⟨txs_alike _ _, txs_alike _ _⟩
theorem dt_lt {e g : Ent} (h : e.n < g.n) : PySem.W.dataLt e.dt g.dt = true := by
  unfold Ent.dt
  rw [PySem.W.dataLt_tuple, PySem.W.dataLt_all_no (by simp [PySem.W.alike]) (by simp [PyData.eqv]; omega), PySem.W.dataLt_int]
  exact decide_eq_true (by omega)
/-- an entry of the table: a tuple of both rows -/
structure Ent.Fat (H : Hp) (e : Ent) : Prop where
  t : H e.T = some (.tup [.ref e.oA, .ref e.pA])
  o : H e.oA = some (.lst (e.one.map tx))
  p : H e.pA = some (.lst (e.other.map tx))
def fkv (fs : List Ent) : List (Key × V) := fs.map fun e => (Sum.inr (S e.r), V.ref e.T)
theorem fkv_out : ∀ {fs : List Ent} {r : List Nat}, (∀ f ∈ fs, f.r ≠ r) → valV (fkv fs) (Sum.inr (S r)) = none
  | [], _, _ => rfl
  | e :: fs, r, h => by
    have ne : ¬ (Sum.inr (S e.r) : Key) = Sum.inr (S r) := fun q => h e List.mem_cons_self (S_inj (Sum.inr.inj q))
    exact (valV_neg ne).trans (fkv_out fun f hf => h f (List.mem_cons_of_mem _ hf))
theorem fkv_in : ∀ {fs : List Ent} {f : Ent}, (fs.map Ent.r).Nodup → f ∈ fs → valV (fkv fs) (Sum.inr (S f.r)) = some (V.ref f.T)
  | [], _, _, h => nomatch h
  | e :: fs, f, nd, h => by
    obtain ⟨n1, n2⟩ := List.nodup_cons.mp nd
    rcases List.mem_cons.mp h with z | z
    · rw [z]
      exact valV_pos rfl
    · have ne : ¬ (Sum.inr (S e.r) : Key) = Sum.inr (S f.r) := fun q => n1 (by rw [S_inj (Sum.inr.inj q)]; exact List.mem_map.mpr ⟨f, z, rfl⟩)
      exact (valV_neg ne).trans (fkv_in n2 z)
structure MI (ws : List (List Nat)) (H0 : Hp) (q d : Addr) (qs fs pend : List Ent) (H : Hp) : Prop where
  s : Same H0 H
  nq : H0 q = none
  nd : H0 d = none
  hq : H q = some (.lst (ents qs))
  hd : H d = some (.dK (fkv fs))
  heap : HQ.Queue (dat H) (qs.map Ent.T)
  qe : ∀ e ∈ qs ++ pend, e.At H ∧ e.New H0 ∧ e.mt ws ∧ e.one.length ≤ fs.length + 1 ∧ e.other.length ≤ fs.length + 1
  fe : ∀ f ∈ fs, f.Fat H ∧ f.New H0 ∧ f.mt ws ∧ Lst ws f.r f.n ∧ f.one.length ≤ fs.length ∧ f.other.length ≤ fs.length
  dist : (fs.map Ent.r).Nodup
  c1 : ∀ v ∈ ws, ∀ o ∈ ws, v ≠ o → hit o v = true → (∃ f ∈ fs, f.r = v.drop o.length ∧ f.n ≤ v.length) ∨ ∃ e ∈ qs ++ pend, e.r = v.drop o.length ∧ e.n = v.length
  c2 : ∀ f ∈ fs, ∀ v ∈ ws, ∀ x b, stp f.r v = some (x, b) → (∃ g ∈ fs, g.r = x ∧ g.n ≤ f.n + if b = true then x.length else 0) ∨ ∃ e ∈ qs ++ pend, e.r = x ∧ e.n = f.n + if b = true then x.length else 0
  sz : qs.length + pend.length ≤ 144 + 12 * fs.length
section
variable {ws : List (List Nat)} {H0 H H1 : Hp} {q d : Addr} {qs fs pend : List Ent} {e : Ent} {K : PySem.W.Frag}
theorem MI.reach (I : MI ws H0 q d qs fs pend H) {r : List Nat} {m : Nat} (o : Off ws r m) : (∃ f ∈ fs, f.r = r ∧ f.n ≤ m) ∨ ∃ e ∈ qs ++ pend, e.n ≤ m := by
  induction o with
  | new a b c d =>
    rcases I.c1 _ a _ b c d with ⟨f, h1, h2, h3⟩ | ⟨e, h1, h2, h3⟩
    · exact .inl ⟨f, h1, h2, h3⟩
    · exact .inr ⟨e, h1, by omega⟩
  | @go r0 v x n b o hv hs ih =>
    rcases ih with ⟨f, h1, h2, h3⟩ | ⟨e, h1, h2⟩
    · rw [← h2] at hs
      rcases I.c2 f h1 _ hv _ _ hs with ⟨g, g1, g2, g3⟩ | ⟨e, g1, g2, g3⟩
      · exact .inl ⟨g, g1, g2, by omega⟩
      · exact .inr ⟨e, g1, by omega⟩
    · exact .inr ⟨e, h1, by omega⟩
theorem MI.fs_len (I : MI ws H0 q d qs fs pend H) (hw : ∀ x ∈ ws, WordOk x) (hn : ws.length ≤ 12) : fs.length ≤ 132 := by
  have h := nodup_sub I.dist (m := ws.flatMap fun w => (List.range 11).map fun k => w.drop k) fun x hx => by
    obtain ⟨f, hf, e⟩ := List.mem_map.mp hx
    rw [← e]
    exact (I.fe f hf).2.2.2.1.1.in_tails hw
  rw [List.length_map, tails_len] at h
  omega
theorem queue_congr {κ κ' : Addr → PyData} {ts : List Addr} (h : ∀ t ∈ ts, κ t = κ' t) (g : HQ.Queue κ ts) : HQ.Queue κ' ts := by
  intro i h0 hi
  have hp := HQ.par_lt h0
  have m : ∀ j, j < ts.length → κ (ts.getD j 0) = κ' (ts.getD j 0) := fun j hj => h _ (by
    rw [List.getD_eq_getElem?_getD, List.getElem?_eq_getElem hj]
    exact List.getElem_mem hj)
  have := g i h0 hi
  dsimp only at this ⊢
  rw [m i hi, m (HQ.par i) (by omega)] at this
  exact this
theorem perm_lift {α β : Type} {f : α → β} {us : List β} {l : List α} (p : us.Perm (l.map f)) : ∃ l' : List α, l'.Perm l ∧ l'.map f = us := by
  obtain ⟨m, hm⟩ : ∃ m, m = l.map f := ⟨_, rfl⟩
  rw [← hm] at p
  induction p generalizing l with
  | nil => 
    have : l = [] := List.map_eq_nil_iff.mp hm.symm
    subst this
    exact ⟨[], .refl _, rfl⟩
  | @cons x l1 l2 p ih =>
    cases l with
    | nil => cases hm
    | cons a l =>
      have e := List.cons.inj hm
      obtain ⟨l', p', e'⟩ := ih e.2
      exact ⟨a :: l', p'.cons a, by rw [List.map_cons, e', e.1]⟩
  | swap x y r =>
    match l, hm with
    | a :: b :: l, hm =>
      have e := List.cons.inj hm
      have e2 := List.cons.inj e.2
      exact ⟨b :: a :: l, .swap a b l, by rw [List.map_cons, List.map_cons, ← e.1, ← e2.1, ← e2.2]⟩
  | @trans l1 l2 l3 p1 p2 ih1 ih2 =>
    obtain ⟨l', p', e'⟩ := ih2 hm
    obtain ⟨l'', p'', e''⟩ := ih1 e'.symm
    exact ⟨l'', p''.trans p', e''⟩
theorem keyed_of {g : List Ent} {us : List Addr} (hq : H q = some (.lst (us.map V.ref))) (h : ∀ e ∈ g, e.At H ∧ e.mt ws) : HQ.Keyed K H q (dat H) (g.map Ent.T) := by
  refine ⟨fun t ht => ?_, fun t ht u hu => ?_⟩
  · obtain ⟨e, he, rfl⟩ := List.mem_map.mp ht
    obtain ⟨a, m⟩ := h e he
    rw [a.dat]
    exact ⟨fun o => (a.keep SameBut.upd hq m).dp, (by unfold Ent.dt; intro z; cases z), dt_depth e⟩
  · obtain ⟨e, he, rfl⟩ := List.mem_map.mp ht
    obtain ⟨g, hg, rfl⟩ := List.mem_map.mp hu
    rw [(h e he).1.dat, (h g hg).1.dat]
    exact dt_alike e g
theorem MI.same (I : MI ws H0 q d qs fs pend H) (s : Same H H1) : MI ws H0 q d qs fs pend H1 where
  s := I.s.trans s
  nq := I.nq
  nd := I.nd
  hq := s _ _ I.hq
  hd := s _ _ I.hd
  heap := queue_congr (fun t ht => by
    obtain ⟨e, he, rfl⟩ := List.mem_map.mp ht
    have a := (I.qe e (List.mem_append_left _ he)).1
    rw [a.dat, (a.same s).dat]) I.heap
  qe := fun e he => by
    obtain ⟨h1, h2⟩ := I.qe e he
    exact ⟨h1.same s, h2⟩
  fe := fun f hf => by
    obtain ⟨h1, h2⟩ := I.fe f hf
    exact ⟨⟨s _ _ h1.t, s _ _ h1.o, s _ _ h1.p⟩, h2⟩
  dist := I.dist
  c1 := I.c1
  c2 := I.c2
  sz := I.sz
theorem Ent.Fat.keep {f : Ent} {us : List Addr} (a : f.Fat H) (s : SameBut q H H1) (hq : H q = some (.lst (us.map V.ref))) (m : f.mt ws) : f.Fat H1 :=
  ⟨s _ _ (ne_of a.t hq fun z => nomatch z) a.t, s _ _ (ne_of a.o hq (texts_ne_refs m.ne1)) a.o, s _ _ (ne_of a.p hq (texts_ne_refs m.ne2)) a.p⟩
/-- an entry that was to come is pushed -/
theorem MI.push {R : V → Hp → Prop} {T : Addr} (I : MI ws H0 q d qs fs (e :: pend) H) (a : ({ e with T := T } : Ent).At H) (n : H0 T = none) (l132 : fs.length ≤ 132)
    (hR : ∀ qs' H2, MI ws H0 q d qs' fs pend H2 → SameBut q H H2 → R .non H2) : HQ.rPush K [.ref q, .ref T] H R := by
  have me := I.qe e (List.mem_append_right _ List.mem_cons_self)
  have sz := I.sz
  rw [List.length_cons] at sz
  have ke : ∀ g ∈ ({ e with T := T } : Ent) :: qs, g.At H ∧ g.mt ws := fun g hg => by
    rcases List.mem_cons.mp hg with z | z
    · rw [z]
      exact ⟨a, me.2.2.1⟩
    · have := I.qe g (List.mem_append_left _ z)
      exact ⟨this.1, this.2.2.1⟩
  refine ⟨q, T, qs.map Ent.T, dat H, rfl, I.hq, ?_, keyed_of I.hq ke, I.heap, fun us p hh => ?_⟩
  · rw [List.length_map]
    show qs.length < 2 ^ 24
    omega
  obtain ⟨qs', p', e'⟩ := perm_lift (f := Ent.T) (l := ({ e with T := T } : Ent) :: qs) p
  subst e'
  have ndq : d ≠ q := fun z => by
    have := I.hd
    rw [z, I.hq] at this
    cases this
  have sb : SameBut q H (upd H q (.lst (ents qs'))) := SameBut.upd
  have hnew : ({ e with T := T } : Ent) ∈ qs' := p'.mem_iff.mpr List.mem_cons_self
  have mem' : ∀ g ∈ qs ++ e :: pend, g = e ∨ g ∈ qs' ++ pend := fun g hg => by
    rcases List.mem_append.mp hg with z | z
    · exact .inr (List.mem_append_left _ (p'.mem_iff.mpr (List.mem_cons_of_mem _ z)))
    · rcases List.mem_cons.mp z with z | z
      · exact .inl z
      · exact .inr (List.mem_append_right _ z)
  refine hR qs' _ ⟨fun b o hb => ?_, I.nq, I.nd, upd_same, by rw [upd_ne ndq]; exact I.hd, ?_, fun g hg => ?_, fun f hf => ?_, I.dist, fun v hv o ho ne hh => ?_, fun f hf v hv x b hs => ?_, ?_⟩ sb
  · rw [upd_ne (ne_of_none hb I.nq)]
    exact I.s _ _ hb
  · refine queue_congr (fun t ht => ?_) hh
    obtain ⟨g, hg, rfl⟩ := List.mem_map.mp ht
    obtain ⟨h1, h2⟩ := ke g (p'.mem_iff.mp hg)
    rw [h1.dat, (h1.keep sb I.hq h2).dat]
  · have old : ∀ g ∈ qs ++ e :: pend, g.At (upd H q (.lst (ents qs'))) ∧ g.New H0 ∧ g.mt ws ∧ g.one.length ≤ fs.length + 1 ∧ g.other.length ≤ fs.length + 1 := fun g hg => by
      obtain ⟨h1, h2, h3, h4⟩ := I.qe g hg
      exact ⟨h1.keep sb I.hq h3, h2, h3, h4⟩
    rcases List.mem_append.mp hg with z | z
    · rcases List.mem_cons.mp (p'.mem_iff.mp z) with z | z
      · rw [z]
        exact ⟨a.keep sb I.hq me.2.2.1, ⟨n, me.2.1.o, me.2.1.p⟩, me.2.2⟩
      · exact old g (List.mem_append_left _ z)
    · exact old g (List.mem_append_right _ (List.mem_cons_of_mem _ z))
  · obtain ⟨h1, h2, h3, h4⟩ := I.fe f hf
    exact ⟨h1.keep sb I.hq h3, h2, h3, h4⟩
  · rcases I.c1 v hv o ho ne hh with z | ⟨g, h1, h2, h3⟩
    · exact .inl z
    · rcases mem' g h1 with z | z
      · subst z
        exact .inr ⟨_, List.mem_append_left _ hnew, h2, h3⟩
      · exact .inr ⟨g, z, h2, h3⟩
  · rcases I.c2 f hf v hv x b hs with z | ⟨g, h1, h2, h3⟩
    · exact .inl z
    · rcases mem' g h1 with z | z
      · subst z
        exact .inr ⟨_, List.mem_append_left _ hnew, h2, h3⟩
      · exact .inr ⟨g, z, h2, h3⟩
  · rw [p'.length_eq, List.length_cons]
    omega
/-- the least entry is taken out: it is to come then -/
theorem MI.pop {R : V → Hp → Prop} (I : MI ws H0 q d qs fs [] H) (hne : qs ≠ [])
    (hR : ∀ e qs' H2, MI ws H0 q d qs' fs [e] H2 → SameBut q H H2 → (∀ g ∈ qs', e.n ≤ g.n) → qs'.length + 1 = qs.length → R (.ref e.T) H2) : HQ.rPop K [.ref q] H R := by
  have ke : ∀ g ∈ qs, g.At H ∧ g.mt ws := fun g hg => by
    have := I.qe g (List.mem_append_left _ hg)
    exact ⟨this.1, this.2.2.1⟩
  refine ⟨q, qs.map Ent.T, dat H, rfl, I.hq, ?_, keyed_of I.hq ke, I.heap, fun t us p hh hm => ?_⟩
  · rw [List.length_map]
    exact List.length_pos_iff.mpr hne
  obtain ⟨l', p', e'⟩ := perm_lift (f := Ent.T) (l := qs) p
  cases l' with
  | nil => cases e'
  | cons e qs' =>
    rw [List.map_cons] at e'
    obtain ⟨rfl, rfl⟩ := List.cons.inj e'
    have ndq : d ≠ q := fun z => by
      have := I.hd
      rw [z, I.hq] at this
      cases this
    have sb : SameBut q H (upd H q (.lst (ents qs'))) := SameBut.upd
    have mem' : ∀ g ∈ qs ++ [], g ∈ qs' ++ [e] := fun g hg => by
      rw [List.append_nil] at hg
      rcases List.mem_cons.mp (p'.mem_iff.mpr hg) with z | z
      · exact List.mem_append_right _ (List.mem_singleton.mpr z)
      · exact List.mem_append_left _ z
    have mem2 : ∀ g ∈ qs' ++ [e], g ∈ qs ++ [] := fun g hg => by
      rw [List.append_nil]
      refine p'.mem_iff.mp ?_
      rcases List.mem_append.mp hg with z | z
      · exact List.mem_cons_of_mem _ z
      · rw [List.mem_singleton.mp z]
        exact List.mem_cons_self
    have hl := p'.length_eq
    rw [List.length_cons] at hl
    have sz := I.sz
    refine hR e qs' _ ⟨fun b o hb => ?_, I.nq, I.nd, upd_same, by rw [upd_ne ndq]; exact I.hd, ?_, fun g hg => ?_, fun f hf => ?_, I.dist, fun v hv o ho ne hh => ?_, fun f hf v hv x b hs => ?_, ?_⟩ sb (fun g hg => ?_) hl
    · rw [upd_ne (ne_of_none hb I.nq)]
      exact I.s _ _ hb
    · refine queue_congr (fun t ht => ?_) hh
      obtain ⟨g, hg, rfl⟩ := List.mem_map.mp ht
      obtain ⟨h1, h2⟩ := ke g (p'.mem_iff.mp (List.mem_cons_of_mem _ hg))
      rw [h1.dat, (h1.keep sb I.hq h2).dat]
    · obtain ⟨h1, h2, h3, h4⟩ := I.qe g (mem2 g hg)
      exact ⟨h1.keep sb I.hq h3, h2, h3, h4⟩
    · obtain ⟨h1, h2, h3, h4⟩ := I.fe f hf
      exact ⟨h1.keep sb I.hq h3, h2, h3, h4⟩
    · rcases I.c1 v hv o ho ne hh with z | ⟨g, h1, h2⟩
      · exact .inl z
      · exact .inr ⟨g, mem' g h1, h2⟩
    · rcases I.c2 f hf v hv x b hs with z | ⟨g, h1, h2⟩
      · exact .inl z
      · exact .inr ⟨g, mem' g h1, h2⟩
    · rw [List.length_singleton]
      rw [List.length_nil] at sz
      omega
    · have q1 := hm g.T (List.mem_map.mpr ⟨g, hg, rfl⟩)
      rw [(ke g (p'.mem_iff.mp (List.mem_cons_of_mem _ hg))).1.dat, (ke e (p'.mem_iff.mp List.mem_cons_self)).1.dat] at q1
      by_cases h : e.n ≤ g.n
      · exact h
      · rw [dt_lt (by omega)] at q1
        cases q1
/-- an entry whose rest is told already -/
theorem MI.skip (I : MI ws H0 q d qs fs [e] H) {f : Ent} (hf : f ∈ fs) (hr : f.r = e.r) : MI ws H0 q d qs fs [] H where
  s := I.s
  nq := I.nq
  nd := I.nd
  hq := I.hq
  hd := I.hd
  heap := I.heap
  qe := fun g hg => I.qe g (List.mem_append_left _ (by rw [List.append_nil] at hg; exact hg))
  fe := I.fe
  dist := I.dist
  c1 := fun v hv o ho ne hh => by
    have le : f.n ≤ e.n := (I.fe f hf).2.2.2.1.2 _ (by rw [hr]; exact (I.qe e (List.mem_append_right _ List.mem_cons_self)).2.2.1.off)
    rcases I.c1 v hv o ho ne hh with z | ⟨g, h1, h2, h3⟩
    · exact .inl z
    · rcases List.mem_append.mp h1 with z | z
      · exact .inr ⟨g, List.mem_append_left _ z, h2, h3⟩
      · rw [List.mem_singleton.mp z] at h2 h3
        exact .inl ⟨f, hf, by rw [hr, h2], by omega⟩
  c2 := fun f' hf' v hv x b hs => by
    have le : f.n ≤ e.n := (I.fe f hf).2.2.2.1.2 _ (by rw [hr]; exact (I.qe e (List.mem_append_right _ List.mem_cons_self)).2.2.1.off)
    rcases I.c2 f' hf' v hv x b hs with z | ⟨g, h1, h2, h3⟩
    · exact .inl z
    · rcases List.mem_append.mp h1 with z | z
      · exact .inr ⟨g, List.mem_append_left _ z, h2, h3⟩
      · rw [List.mem_singleton.mp z] at h2 h3
        exact .inl ⟨f, hf, by rw [hr, h2], by omega⟩
  sz := by
    have := I.sz
    rw [List.length_singleton] at this
    rw [List.length_nil]
    omega
theorem MI.least (I : MI ws H0 q d qs fs [e] H) (hm : ∀ g ∈ qs, e.n ≤ g.n) (hn : ∀ f ∈ fs, f.r ≠ e.r) : Lst ws e.r e.n := by
  refine ⟨(I.qe e (List.mem_append_right _ List.mem_cons_self)).2.2.1.off, fun m o => ?_⟩
  rcases I.reach o with ⟨f, h1, h2, _⟩ | ⟨g, h1, h2⟩
  · exact absurd h2 (hn f h1)
  · rcases List.mem_append.mp h1 with z | z
    · have := hm g z
      omega
    · rw [List.mem_singleton.mp z] at h2
      exact h2
/-- the rest is told, and what it goes on to is to come -/
theorem MI.grow {T : Addr} {es : List Ent} {H4 : Hp} (I : MI ws H0 q d qs fs [e] H) (hl : Lst ws e.r e.n) (hn : ∀ f ∈ fs, f.r ≠ e.r) (hT : H T = none)
    (s : Same (upd (upd H T (.tup [.ref e.oA, .ref e.pA])) d (.dK (putK (fkv fs) (Sum.inr (S e.r)) (.ref T)))) H4)
    (he : ∀ g ∈ es, Fur ws (upd (upd H T (.tup [.ref e.oA, .ref e.pA])) d (.dK (putK (fkv fs) (Sum.inr (S e.r)) (.ref T)))) e.oA e.pA (fs.length + 1) H4 g)
    (hc : ∀ v ∈ ws, ∀ x b, stp e.r v = some (x, b) → ∃ g ∈ es, g.r = x ∧ g.n = e.n + if b = true then x.length else 0) (h12 : es.length ≤ 12) :
    MI ws H0 q d qs (fs ++ [{ e with T := T }]) es H4 := by
  have ndT : T ≠ d := fun z => by
    have := I.hd
    rw [← z, hT] at this
    cases this
  have hput : putK (fkv fs) (Sum.inr (S e.r)) (.ref T) = fkv (fs ++ [{ e with T := T }]) := by
    rw [putK_new _ (fkv_out hn)]
    unfold fkv
    rw [List.map_append]
    rfl
  rw [hput] at s he
  have kd : ∀ b o, H b = some o → b ≠ d → H4 b = some o := fun b o hb nb => s _ _ (by rw [upd_ne nb, upd_ne (ne_of_none hb hT)]; exact hb)
  have n0 : H0 T = none := none_of I.s hT
  have s03 : Same H0 (upd (upd H T (.tup [.ref e.oA, .ref e.pA])) d (.dK (fkv (fs ++ [{ e with T := T }])))) := fun b o hb => by
    rw [upd_ne (ne_of_none hb I.nd), upd_ne (ne_of_none hb n0)]
    exact I.s _ _ hb
  have at4 : ∀ g : Ent, g.At H → g.At H4 := fun g a => ⟨kd _ _ a.t (ne_of a.t I.hd fun z => nomatch z), kd _ _ a.o (ne_of a.o I.hd fun z => nomatch z), kd _ _ a.p (ne_of a.p I.hd fun z => nomatch z)⟩
  have me := I.qe e (List.mem_append_right _ List.mem_cons_self)
  have one : ∀ x : Addr, OneOf (upd (upd H T (.tup [.ref e.oA, .ref e.pA])) d (.dK (fkv (fs ++ [{ e with T := T }])))) x e.oA e.pA → H0 x = none := fun x h => by
    rcases h with h | h | h
    · exact none_of s03 h
    · rw [h]
      exact me.2.1.o
    · rw [h]
      exact me.2.1.p
  refine ⟨s03.trans s, I.nq, I.nd, kd _ _ I.hq (fun z => ?_), s _ _ upd_same, ?_, fun g hg => ?_, fun f hf => ?_, ?_, fun v hv o ho ne hh => ?_, fun f hf v hv x b hs => ?_, ?_⟩
  · have := I.hd
    rw [← z, I.hq] at this
    cases this
  · refine queue_congr (fun t ht => ?_) I.heap
    obtain ⟨g, hg, rfl⟩ := List.mem_map.mp ht
    have a := (I.qe g (List.mem_append_left _ hg)).1
    rw [a.dat, (at4 g a).dat]
  · rw [List.length_append, List.length_singleton]
    rcases List.mem_append.mp hg with z | z
    · obtain ⟨h1, h2, h3, h4, h5⟩ := I.qe g (List.mem_append_left _ z)
      exact ⟨at4 g h1, h2, h3, by omega, by omega⟩
    · have h := he g z
      exact ⟨h.at_, ⟨none_of s03 h.t, one _ h.o, one _ h.p⟩, h.m, h.l1, h.l2⟩
  · rw [List.length_append, List.length_singleton]
    rcases List.mem_append.mp hf with z | z
    · obtain ⟨h1, h2, h3, h4, h5, h6⟩ := I.fe f z
      exact ⟨⟨kd _ _ h1.t (ne_of h1.t I.hd fun z => nomatch z), kd _ _ h1.o (ne_of h1.o I.hd fun z => nomatch z), kd _ _ h1.p (ne_of h1.p I.hd fun z => nomatch z)⟩, h2, h3, h4, by omega, by omega⟩
    · rw [List.mem_singleton.mp z]
      have a := at4 e me.1
      exact ⟨⟨s _ _ (by rw [upd_ne ndT, upd_same]), a.o, a.p⟩, ⟨n0, me.2.1.o, me.2.1.p⟩, me.2.2.1, hl, me.2.2.2.1, me.2.2.2.2⟩
  · rw [List.map_append]
    refine List.nodup_append.mpr ⟨I.dist, by simp, fun a ha b hb => ?_⟩
    obtain ⟨f, hf, rfl⟩ := List.mem_map.mp ha
    have : b = e.r := by simpa using hb
    rw [this]
    exact hn f hf
  · rcases I.c1 v hv o ho ne hh with ⟨f, h1, h2⟩ | ⟨g, h1, h2, h3⟩
    · exact .inl ⟨f, List.mem_append_left _ h1, h2⟩
    · rcases List.mem_append.mp h1 with z | z
      · exact .inr ⟨g, List.mem_append_left _ z, h2, h3⟩
      · rw [List.mem_singleton.mp z] at h2 h3
        exact .inl ⟨{ e with T := T }, List.mem_append_right _ (List.mem_singleton.mpr rfl), h2, Nat.le_of_eq h3⟩
  · rcases List.mem_append.mp hf with z | z
    · rcases I.c2 f z v hv x b hs with ⟨f, h1, h2⟩ | ⟨g, h1, h2, h3⟩
      · exact .inl ⟨f, List.mem_append_left _ h1, h2⟩
      · rcases List.mem_append.mp h1 with z | z
        · exact .inr ⟨g, List.mem_append_left _ z, h2, h3⟩
        · rw [List.mem_singleton.mp z] at h2 h3
          exact .inl ⟨{ e with T := T }, List.mem_append_right _ (List.mem_singleton.mpr rfl), h2, Nat.le_of_eq h3⟩
    · rw [List.mem_singleton.mp z] at hs ⊢
      obtain ⟨g, h1, h2, h3⟩ := hc v hv x b hs
      exact .inr ⟨g, List.mem_append_right _ h1, h2, h3⟩
  · have := I.sz
    rw [List.length_singleton] at this
    rw [List.length_append, List.length_singleton]
    omega
end
/-- the table of meetings -/
structure Met (ws : List (List Nat)) (H H' : Hp) (fs : List Ent) : Prop where
  fe : ∀ f ∈ fs, f.Fat H' ∧ f.New H ∧ f.mt ws ∧ Lst ws f.r f.n ∧ f.one.length ≤ 132 ∧ f.other.length ≤ 132
  nd : (fs.map Ent.r).Nodup
  all : ∀ r m, Off ws r m → ∃ f ∈ fs, f.r = r
  len : fs.length ≤ 132
def spMeet : Sp := fun vs H Q _ => ∃ (c : Addr) (ws : List (List Nat)), vs = [.ref c] ∧ H c = some (.lst (ws.map tx)) ∧ ws.length ≤ 12 ∧ (∀ x ∈ ws, WordOk x) ∧
  ∀ (d : Addr) (fs : List Ent) (H' : Hp), Same H H' → H d = none → H' d = some (.dK (fkv fs)) → Met ws H H' fs → Q (.ref d) H'
section
variable {Pr : Program} {w : World} {K : PySem.W.Frag} {mg : Str → Option Value} {base : Heap} {f fL fS f1 f2 : Addr} {fd fdL fdS fd1 fd2 : FuncData}
theorem scMeet : FnScope ["code", "found", "queue", "length", "rest", "one", "other", "further"] ["code"] (defScope s_meetings) := ⟨rfl, rfl, rfl, by decide +kernel, rfl, by decide +kernel, by decide +kernel⟩
theorem ok_meet (F : FnP K "meetings" s_meetings f fd) (L : Has K mg "left_of" s_left_of ["text", "other"] fL fdL) (S1 : Has K mg "stepped" s_stepped ["rest", "word"] fS fdS)
    (FM : Has K mg "_first_meetings" s__first_meetings ["code"] f1 fd1) (UM : Has K mg "_further_meetings" s__further_meetings ["code", "length", "rest", "one", "other"] f2 fd2) (B : Bl mg) : FnOk Pr w K mg base CX0 4 f fd ["code"] spMeet := by
  have G1 : FnOk Pr w K mg base CX0 3 f1 fd1 ["code"] spFirst := (ok_first FM.F L B).mono (by decide)
  have G2 : FnOk Pr w K mg base CX0 3 f2 fd2 ["code", "length", "rest", "one", "other"] spFurther := ok_further UM.F L S1 B
  refine F.okN scMeet (fun vs H Q E h => ?_) (fun cdv A' outer s H vs Q E hr h => ?_)
  · obtain ⟨c, ws, rfl, _⟩ := h
    rfl
  · obtain ⟨c, ws, rfl, hC, hn, hw, q⟩ := h
    have hu : (A'.deeper (envOfC "meetings" (defScope s_meetings) s.heap.objs.size f cdv)).units + 1 < cLine := by
      have := hr.units
      omega
    refine ⟨_, pss_cons (ps_set (i := 1) scMeet.nd rfl (.inl rfl) pe_dnewK)
      (pss_cons (ps_set (i := 2) scMeet.nd rfl (.inl rfl) (pe_lst pa_nil))
      (pss_cons (ps_for PassesOwn.never rfl (pi_list (pe_call G1 hr (by rfl) FM.g FM.F.kp FM.b .nil pass0 (pa_cons (pv 0) pa_nil)))
          (pg_tup rfl (pgs_cons (pg_name (i := 3) scMeet.nd rfl (Or.inl rfl)) (pgs_cons (pg_name (i := 4) scMeet.nd rfl (Or.inl rfl)) (pgs_cons (pg_name (i := 5) scMeet.nd rfl (Or.inl rfl)) (pgs_cons (pg_name (i := 6) scMeet.nd rfl (Or.inl rfl)) pgs_nil)))))
        (pss_one (ps_expr (pe_callBfun (HQ.cr_push hr.units) (by rfl) B.mPush (pa_cons (pv 2) (pa_cons (pe_tup (pa_cons (pv 3) (pa_cons (pv 4) (pa_cons (pv 5) (pa_cons (pv 6) pa_nil))))) pa_nil))))))
      (pss_cons (ps_while PassesOwn.never (pt_truth (pv 2) (by intro _; rfl))
        (pss_cons (ps_asg (pe_callBfun (HQ.cr_pop hr.units) (by rfl) B.mPop (pa_cons (pv 2) pa_nil))
            (pg_tup rfl (pgs_cons (pg_name (i := 3) scMeet.nd rfl (Or.inl rfl)) (pgs_cons (pg_name (i := 4) scMeet.nd rfl (Or.inl rfl)) (pgs_cons (pg_name (i := 5) scMeet.nd rfl (Or.inl rfl)) (pgs_cons (pg_name (i := 6) scMeet.nd rfl (Or.inl rfl)) pgs_nil))))))
          (pss_one (ps_if (pt_cmp (pc_dnotin hu (pv 4) (pv 1)))
            (pss_cons (ps_dput hu (pv 1) (pv 4) (pe_tup (pa_cons (pv 5) (pa_cons (pv 6) pa_nil))) rfl)
              (pss_one (ps_for PassesOwn.never rfl (pi_list (pe_call G2 hr (by rfl) UM.g UM.F.kp UM.b .nil pass0 (pa_cons (pv 0) (pa_cons (pv 3) (pa_cons (pv 4) (pa_cons (pv 5) (pa_cons (pv 6) pa_nil)))))))
                  (pg_name (i := 7) scMeet.nd rfl (Or.inl rfl))
                (pss_one (ps_expr (pe_callBfun (HQ.cr_push hr.units) (by rfl) B.mPush (pa_cons (pv 2) (pa_cons (pv 7) pa_nil)))))))) pss_nil))))
      (pss_one (ps_ret (pv 1)))))), ?_⟩
    refine fun d nd => ⟨Nat.zero_le _, fun g hg => ?_⟩
    have s1 := same_upd (o := .dK []) nd
    have s2 := same_upd (o := .lst []) hg
    have ng : H g = none := none_of s1 hg
    have hdg : d ≠ g := fun z => by rw [← z, upd_same] at hg; cases hg
    refine ⟨_, rfl, c, ws, rfl, (s1.trans s2) _ _ hC, hn, hw, fun l es H1 t1 nl el he hcov hle => ?_⟩
    have I0 : MI ws H g d [] [] es H1 := by
      refine ⟨(s1.trans s2).trans t1, ng, nd, t1 _ _ upd_same, t1 _ _ (by rw [upd_ne hdg, upd_same]; rfl), fun i h0 hi => absurd hi (Nat.not_lt_zero i), fun e h => ?_, fun e h => absurd h List.not_mem_nil, List.nodup_nil, fun v hv o ho ne hh => ?_, fun f hf => absurd hf List.not_mem_nil, ?_⟩
      · obtain ⟨h1, h2, h3, h4, h5⟩ := he e h
        exact ⟨h1, ⟨none_of (s1.trans s2) h2.t, none_of (s1.trans s2) h2.o, none_of (s1.trans s2) h2.p⟩, h3, by rw [h4]; exact Nat.le_refl _, by rw [h5]; exact Nat.le_refl _⟩
      · obtain ⟨e, h1, h2⟩ := hcov v hv o ho ne hh
        exact .inr ⟨e, h1, h2⟩
      · show 0 + es.length ≤ 144 + 12 * 0
        omega
    have nlg : l ≠ g := fun z => by rw [z, upd_same] at nl; cases nl
    refine ⟨l, rfl, ⟨_, seqL el⟩, for_list (K := K) (a := l) (xs := ents es) (fun i σ H2 => (∃ qs, MI ws H g d qs [] (es.drop i) H2) ∧ H2 l = some (.lst (ents es)) ∧ ∃ k3 k4 k5 k6 : Option V, σ = [some (.ref c), some (.ref d), some (.ref g), k3, k4, k5, k6, none]) ?_ (fun i σ H2 _ hh => seqL hh.2.1) ?_ ?_⟩
    · exact ⟨⟨[], I0⟩, el, _, _, _, _, rfl⟩
    · rintro i x σ H2 hx ⟨⟨qs, I⟩, el2, k3, k4, k5, k6, rfl⟩
      have hi : i < es.length := by
        have := (List.getElem?_eq_some_iff.mp hx).1
        rw [List.length_map, List.length_map] at this
        exact this
      have hxe : x = .ref es[i].T := by
        rw [List.getElem?_map, List.getElem?_map, List.getElem?_eq_getElem hi] at hx
        exact (Option.some.inj hx).symm
      subst hxe
      rw [List.drop_eq_getElem_cons hi] at I
      generalize es[i] = e at I ⊢
      have me := (I.qe e (List.mem_append_right _ List.mem_cons_self))
      refine ⟨e.T, _, rfl, .inl (.inl me.1.t), rfl, _, _, rfl, _, _, rfl, _, _, rfl, _, _, rfl, rfl, ?_⟩
      refine ⟨_, rfl, _, rfl, _, rfl, _, rfl, _, rfl, by show 4 ≤ sizeLine; decide, fun T hT => ?_⟩
      have sT := same_upd (o := .tup [.int (e.n : Int), tx e.r, .ref e.oA, .ref e.pA]) hT
      have I2 := I.same sT
      obtain ⟨_, _, ts, κ, ev, h1, h2, h3, h4, h5⟩ := I2.push (K := K) (R := fun _ H3 => ∃ qs', MI ws H g d qs' [] (es.drop (i + 1)) H3 ∧ SameBut g _ H3) (T := T) ⟨upd_same, sT _ _ me.1.o, sT _ _ me.1.p⟩ (none_of I.s hT) (Nat.zero_le _) fun qs' H3 I3 sb => ⟨qs', I3, sb⟩
      cases ev
      refine ⟨g, T, ts, κ, rfl, h1, h2, h3, h4, fun us p hh => ?_⟩
      obtain ⟨qs', I3, sb⟩ := h5 us p hh
      exact ⟨⟨qs', I3⟩, sb _ _ nlg (sT _ _ el2), _, _, _, _, rfl⟩
    · rintro σ H2 ⟨⟨qs, I⟩, el2, k3, k4, k5, k6, rfl⟩
      have ed : es.drop (ents es).length = [] := by
        rw [List.length_map, List.length_map]
        exact List.drop_length
      rw [ed] at I
      refine ⟨fun m σ H3 => ∃ (qs fs : List Ent), MI ws H g d qs fs [] H3 ∧ m = qs.length + (150 - fs.length) * 13 ∧ ∃ k3 k4 k5 k6 k7 : Option V, σ = [some (.ref c), some (.ref d), some (.ref g), k3, k4, k5, k6, k7], ⟨_, qs, [], I, rfl, _, _, _, _, _, rfl⟩, ?_⟩
      rintro m σ H3 ⟨qs, fs, I, rfl, k3, k4, k5, k6, k7, rfl⟩
      have l132 := I.fs_len hw hn
      refine ⟨_, rfl, !qs.isEmpty, .inl ⟨_, seqL I.hq, ?_⟩, ?_⟩
      · cases qs <;> rfl
      by_cases hq0 : qs = []
      · subst hq0
        refine iteF ⟨_, rfl, q d fs H3 I.s nd I.hd ⟨fun f hf => ?_, I.dist, fun r m o => ?_, l132⟩⟩
        · obtain ⟨h1, h2, h3, h4, h5, h6⟩ := I.fe f hf
          exact ⟨h1, h2, h3, h4, by omega, by omega⟩
        · rcases I.reach o with ⟨f, h1, h2, _⟩ | ⟨e, h1, _⟩
          · exact ⟨f, h1, h2⟩
          · exact absurd h1 List.not_mem_nil
      · have hem : (!qs.isEmpty) = true := by
          cases qs with
          | nil => exact absurd rfl hq0
          | cons x r => rfl
        rw [hem]
        refine iteT ⟨fun σ H4 => ∃ (qs' fs' : List Ent), MI ws H g d qs' fs' [] H4 ∧ qs'.length + (150 - fs'.length) * 13 < qs.length + (150 - fs.length) * 13 ∧ ∃ k3 k4 k5 k6 k7 : Option V, σ = [some (.ref c), some (.ref d), some (.ref g), k3, k4, k5, k6, k7], fun σ' H4 ⟨qs', fs', a1, a2, a3⟩ => ⟨_, a2, qs', fs', a1, rfl, a3⟩, ?_⟩
        obtain ⟨_, ts, κ, ev, h1, h2, h3, h4, h5⟩ := I.pop (K := K) (R := fun v H4 => ∃ (e : Ent) (qs' : List Ent), v = .ref e.T ∧ MI ws H g d qs' fs [e] H4 ∧ SameBut g H3 H4 ∧ (∀ g ∈ qs', e.n ≤ g.n) ∧ qs'.length + 1 = qs.length) hq0 fun e qs' H4 I4 sb hmin hlen => ⟨e, qs', rfl, I4, sb, hmin, hlen⟩
        cases ev
        refine ⟨_, rfl, g, ts, κ, rfl, h1, h2, h3, h4, fun t us p hh hm => ?_⟩
        obtain ⟨e, qs', ev, I4, sb, hmin, hlen⟩ := h5 t us p hh hm
        cases ev
        generalize upd H3 g (.lst (us.map V.ref)) = H4 at I4 sb ⊢
        have me := I4.qe e (List.mem_append_right _ List.mem_cons_self)
        refine ⟨e.T, _, rfl, .inl (.inl me.1.t), rfl, _, _, rfl, _, _, rfl, _, _, rfl, _, _, rfl, rfl, ?_⟩
        refine ⟨_, rfl, _, rfl, d, _, rfl, DGet.k (k := Sum.inr (S e.r)) I4.hd, _, rfl, ?_⟩
        by_cases hin : ∃ f ∈ fs, f.r = e.r
        · obtain ⟨f, hf, hr⟩ := hin
          have ev := fkv_in I4.dist hf
          rw [hr] at ev
          rw [ev]
          refine iteF ⟨qs', fs, I4.skip hf hr, by omega, _, _, _, _, _, rfl⟩
        · have hnin : ∀ f ∈ fs, f.r ≠ e.r := fun f hf z => hin ⟨f, hf, z⟩
          rw [fkv_out hnin]
          refine iteT ?_
          have hl := I4.least hmin hnin
          refine ⟨_, rfl, _, rfl, by show 2 ≤ sizeLine; decide, fun T hT => ?_⟩
          have sT := same_upd (o := .tup [.ref e.oA, .ref e.pA]) hT
          have hd4 := sT _ _ I4.hd
          have lf : (fkv fs).length < sizeLine := by
            unfold fkv
            rw [List.length_map]
            show fs.length < 2 ^ 24
            omega
          refine ⟨_, rfl, _, rfl, d, _, rfl, DPut.k (k := Sum.inr (S e.r)) hd4 lf, ?_⟩
          have k5 : ∀ b o, H4 b = some o → b ≠ d → (upd (upd H4 T (.tup [.ref e.oA, .ref e.pA])) d (.dK (putK (fkv fs) (Sum.inr (S e.r)) (.ref T)))) b = some o := fun b o hb nb => by
            rw [upd_ne nb]
            exact sT _ _ hb
          have nlst : ∀ b xs, H4 b = some (.lst xs) → b ≠ d := fun b xs hb => ne_of hb I4.hd fun z => nomatch z
          have hC4 : H4 c = some (.lst (ws.map tx)) := I4.s _ _ hC
          have l4 := I4.fs_len hw hn
          refine ⟨_, rfl, _, rfl, _, rfl, _, rfl, _, rfl, c, e.oA, e.pA, e.n, fs.length + 1, e.r, e.one, e.other, ws, rfl, k5 _ _ hC4 (nlst _ _ hC4), k5 _ _ me.1.o (nlst _ _ me.1.o), k5 _ _ me.1.p (nlst _ _ me.1.p), hn, hw, me.2.2.1, me.2.2.2.1, me.2.2.2.2, by omega, fun l2 es2 H5 s5 nl2 el2 he2 hc2 hle2 => ?_⟩
          have I5 := I4.grow hl hnin hT s5 he2 hc2 hle2
          have lfs : (fs ++ [{ e with T := T }]).length = fs.length + 1 := by rw [List.length_append, List.length_singleton]
          have sz5 := I5.sz
          have nl2g : l2 ≠ g := fun z => by
            have := k5 _ _ I4.hq (nlst _ _ I4.hq)
            rw [← z, nl2] at this
            cases this
          generalize hfs : fs ++ [{ e with T := T }] = fs2 at I5 lfs sz5
          refine ⟨l2, rfl, ⟨_, seqL el2⟩, for_list (K := K) (a := l2) (xs := ents es2) (fun i σ H6 => (∃ qs2, MI ws H g d qs2 fs2 (es2.drop i) H6 ∧ qs2.length = qs'.length + i) ∧ H6 l2 = some (.lst (ents es2)) ∧ ∃ k3 k4 k5 k6 k7 : Option V, σ = [some (.ref c), some (.ref d), some (.ref g), k3, k4, k5, k6, k7]) ?_ (fun i σ H6 _ hh => seqL hh.2.1) ?_ ?_⟩
          · exact ⟨⟨qs', I5, rfl⟩, el2, _, _, _, _, _, rfl⟩
          · rintro i x σ H6 hx ⟨⟨qs2, I, hql⟩, el6, k3, k4, k5, k6, k7, rfl⟩
            have hi : i < es2.length := by
              have := (List.getElem?_eq_some_iff.mp hx).1
              rw [List.length_map, List.length_map] at this
              exact this
            have hxe : x = .ref es2[i].T := by
              rw [List.getElem?_map, List.getElem?_map, List.getElem?_eq_getElem hi] at hx
              exact (Option.some.inj hx).symm
            subst hxe
            rw [List.drop_eq_getElem_cons hi] at I
            generalize es2[i] = e' at I ⊢
            have me' := (I.qe e' (List.mem_append_right _ List.mem_cons_self))
            obtain ⟨_, _, ts, κ, ev, h1, h2, h3, h4, h5⟩ := I.push (K := K) (R := fun _ H3 => ∃ qs', MI ws H g d qs' fs2 (es2.drop (i + 1)) H3 ∧ SameBut g H6 H3) (T := e'.T) me'.1 me'.2.1.t (I.fs_len hw hn) fun qs' H3 I3 sb => ⟨qs', I3, sb⟩
            cases ev
            refine ⟨_, rfl, _, rfl, g, e'.T, ts, κ, rfl, h1, h2, h3, h4, fun us p hh => ?_⟩
            obtain ⟨qs3, I3, sb3⟩ := h5 us p hh
            refine ⟨⟨qs3, I3, ?_⟩, sb3 _ _ nl2g el6, _, _, _, _, _, rfl⟩
            have e1 := I3.hq
            rw [upd_same] at e1
            have e2 := HO.lst.inj (Option.some.inj e1)
            have e3 := congrArg List.length e2
            rw [List.length_map, List.length_map, List.length_map] at e3
            have e4 := p.length_eq
            have e5 := I.hq
            rw [h1] at e5
            have e6 := congrArg List.length (HO.lst.inj (Option.some.inj e5))
            rw [List.length_map, List.length_map, List.length_map] at e6
            rw [List.length_cons] at e4
            omega
          · rintro σ H6 ⟨⟨qs2, I, hql⟩, el6, k3, k4, k5, k6, k7, rfl⟩
            have ed : es2.drop (ents es2).length = [] := by
              rw [List.length_map, List.length_map]
              exact List.drop_length
            rw [ed] at I
            rw [List.length_map, List.length_map] at hql
            exact ⟨qs2, fs2, I, by omega, _, _, _, _, _, rfl⟩
end
section
variable {X : Cx}
/-- what an expression gives is locked from then on: it is read alone -/
theorem pe_frz {e : Expr} {t : TE} (h : PE X e t) : PE X e (fun σ H Q => t σ H fun v H1 => ∃ d u, v = .ref d ∧ H1 d = some u ∧ Mut (some u) ∧ ∀ od, Q (.ref d) (upd H1 d (.frz od u))) := by
  refine ⟨fun pins s σ H Q I hw => ?_⟩
  refine thn (h.run pins s σ H _ I hw) fun v s1 ⟨x, H1, I1, r, d, u, ex, hd, mu, q⟩ => ?_
  subst ex
  obtain ⟨od, I2⟩ := I1.lock hd mu
  exact ⟨.ref d, _, I2, r, q od⟩
end
theorem tab_free {P : Addr} {H : Hp} {g : Addr} (hT : GxR.TabG H P) (h : H g = none) : g ≠ P := fun z => by
  obtain ⟨ps, e, _⟩ := hT
  rw [z, e] at h
  cases h
theorem sum_cnt0 (l : List Str) : l.length * (Str.ofString "").length = 0 := by rw [empLen, Nat.mul_zero]
theorem flat_sz {ws xs : List (List Nat)} (hw : ∀ z ∈ ws, WordOk z) (h : ∀ z ∈ xs, z ∈ ws) (hl : xs.length ≤ 1000) : ((xs.map S).map (·.length)).sum + (xs.map S).length * (Str.ofString "").length ≤ 16777216 := by
  have h1 := flat_ten (ys := xs) fun y hy => (hw y (h y hy)).2.1
  rw [sum_cnt0, lenS, ← List.length_flatten]
  omega
section
variable {Pr : Program} {w : World} {K : PySem.W.Frag} {mg : Str → Option Value} {base : Heap} {P f fC fM : Addr} {fd fdI fdC fdM : FuncData}
theorem inMeet (D : Defs K mg) (B : Bl mg) : ∃ f fd, Has K mg "meetings" s_meetings ["code"] f fd ∧ FnOk Pr w K mg base CX0 4 f fd ["code"] spMeet := by
  obtain ⟨f1, d1, L⟩ := D.d_left_of
  obtain ⟨f2, d2, S1⟩ := D.d_stepped
  obtain ⟨f3, d3, FM⟩ := D.d__first_meetings
  obtain ⟨f4, d4, UM⟩ := D.d__further_meetings
  obtain ⟨f5, d5, M⟩ := D.d_meetings
  exact ⟨f5, d5, M, ok_meet M.F L S1 FM UM B⟩
end


/-! ### X(e), e a text that is made -/
theorem _root_.L2N.pmk_ownE {X : Cx} {C : Addr} {bmB : List Value} {B newId initId : String} {x : Str} {e : Expr} {te : TE} {p pos : Pos} (F : ExcBaseFacts B newId initId bmB) (q : PySem.W.excIn X.K C bmB newId = true) (gC : X.mg x = some (.ref C)) (kC : PySem.W.keepIn X.K (.ref C) = true) (r : Raises X (.ref C)) (hg : Gl X x) (he : PE X e te)
    (hdb : (x == ("__debug__" : Str)) = false := by decide) (hs : starEach [e] X.env = (false, eval e X.env) :: starEach [] X.env := by rfl) (hpl : (backTo pos (starEach [] X.env)).any (·.1) = false := by rfl) : L2N.PMk X (.Call (.Name x p) [e] [] pos) (fun σ H Q => te σ H fun _ H1 => Q (.ref C) none H1) := by
  intro pins s σ H Q I h
  refine wpAny_Call_Name_kw (ld_glob I hg gC ?_ hdb)
  have ha : PA X [e] (tCons te tNil) := pa_cons he pa_nil hs
  refine PySem.W.callWith_K (h₀ := X.base) I.ok.mod.kin kC (thn (ha.run pos pins s σ H (fun vs H1 => match vs with | [_] => Q (.ref C) none H1 | _ => False) I h) fun us s1 hh => ?_) hs hpl
  obtain ⟨vs, H1, I1, r1, qq⟩ := hh
  refine ⟨I1.kIn, ?_⟩
  obtain ⟨v, rfl⟩ : ∃ v, vs = [v] := by
    match vs, qq with
    | [v], _ => exact ⟨v, rfl⟩
  obtain ⟨u, rfl, _⟩ := vals1 r1
  show wpAny _ _ (call (.ref C) [u]) _ _ _
  obtain ⟨bm, N, nm, qn, bs, hdct, sn, sub, ab, col, dd, k0, k1, k2, k3, k5, mN, hC, hN, hni, T⟩ := exc_obj I1.kIn q
  refine wpAny_call_exc_subT F T hC hN hni (fun h' e hm => ?_) (by show 1 ≤ sizeLine; rw [sizeLine_eq]; omega)
  exact L2N.mk_of I1 hm r qq (I1.hok.gone hm.new)

/-! ### is_word of anything -/
def isW : V → Bool
  | .str s => decide (1 ≤ s.length) && (decide (s.length ≤ 10) && s.cps.toList.all (fun c => decide (97 ≤ c) && decide (c ≤ 122)))
  | _ => false
theorem isW_tx {l : List Nat} : isW (tx l) = true ↔ WordOk l := by
  show (decide (1 ≤ (S l).length) && (decide ((S l).length ≤ 10) && (S l).cps.toList.all (fun c => decide (97 ≤ c) && decide (c ≤ 122)))) = true ↔ _
  rw [S_len, Bool.and_eq_true, Bool.and_eq_true, decide_eq_true_eq, decide_eq_true_eq, List.all_eq_true]
  have e : (S l).cps.toList = l := rfl
  rw [e]
  constructor
  · rintro ⟨h1, h2, h3⟩
    refine ⟨h1, h2, fun c hc => ?_⟩
    have := h3 c hc
    simp only [Bool.and_eq_true, decide_eq_true_eq] at this
    exact this
  · rintro ⟨h1, h2, h3⟩
    refine ⟨h1, h2, fun c hc => ?_⟩
    have := h3 c hc
    simp only [Bool.and_eq_true, decide_eq_true_eq]
    exact this
theorem isW_word {l : List Nat} (h : WordOk l) : isW (tx l) = true := isW_tx.mpr h
theorem isW_ex {v : V} (h : isW v = true) : ∃ l, v = tx l ∧ WordOk l := by
  cases v with
  | str s =>
    refine ⟨TL.tl s, congrArg V.str (S_tl s).symm, isW_tx.mp ?_⟩
    rw [show tx (TL.tl s) = V.str s from congrArg V.str (S_tl s)]
    exact h
  | _ => cases h
/-- what is no text, but of a kind that the rules know -/
def NoText (K : PySem.W.Frag) (H : Hp) (v : V) : Prop := ∃ T, TyB K H v T ∧ T ≠ "str"
theorem NoText.isW {K : PySem.W.Frag} {H : Hp} {v : V} (h : NoText K H v) : isW v = false := by
  obtain ⟨T, t, n⟩ := h
  cases t with
  | str x => exact absurd rfl n
  | _ => rfl
section
variable {Pr : Program} {w : World} {K : PySem.W.Frag} {mg : Str → Option Value} {base : Heap} {fd : FuncData} {P : Addr}
def spIsAny (K : PySem.W.Frag) (P : Addr) : Sp := fun vs H Q _ => ∃ (v : V), vs = [v] ∧ ((∃ l : List Nat, v = tx l ∧ l.length ≤ 1000) ∨ NoText K H v) ∧ GxR.TabG H P ∧ ∀ H', Sm P H H' → Q (.bl (isW v)) H'
theorem ok_isAny (F : FnP K "is_word" sIsWord (He.fAd K aWord) fd) (T : GxR.TabB base mg (He.codeOf K aWord) P) (mT : mg "type" = none) (mStr : mg "str" = none) (mL : mg "len" = none) (mAll : mg "all" = none) {u : Tok} (mN : mg "MOST_SIGNS" = some (.int 10 u)) :
    FnOk Pr w K mg base CX0 1 (He.fAd K aWord) fd ["thing"] (spIsAny K P) := by
  refine F.okC scIsWord (fun vs H Q E h => ?_) (fun A' outer s H vs Q E hr h => ?_)
  · obtain ⟨l, rfl, _⟩ := h
    rfl
  · obtain ⟨v, rfl, hv, hT, q⟩ := h
    refine ⟨_, pss_cons (ps_if (pt_cmpR op_isNotTy (pe_callTy call_type1 (by rfl) mT boot_type (pa_cons (pv 0) pa_nil)) (pe_bltn (v := .ty "str") (by rfl) mStr boot_str rfl) (nomark _)) (pss_one (ps_ret pe_bl)) pss_nil)
      (pss_cons (ps_if (pt_not (pt_chain op_le op_le pe_int (pe_callB call_len_str (by rfl) mL boot_len (pa_cons (pv 0) pa_nil)) (pe_glob (v := .int 10) (by rfl) mN ⟨_, rfl⟩))) (pss_one (ps_ret pe_bl)) pss_nil)
      (pss_one (ps_ret (GxR.pe_allS hr (by rfl) mAll boot_all T rfl ⟨rfl, rfl, ?gc, rfl, rfl, ?gf⟩ (pv 0) (elt_az rfl rfl) (fun _ => rfl))))), ?_⟩
    case gc =>
      intro y hy e
      simp only [List.mem_cons, List.not_mem_nil, or_false] at hy
      rcases hy with rfl | rfl <;> cases e
    case gf =>
      intro y hy e
      simp only [List.mem_cons, List.not_mem_nil, or_false] at hy
      rcases hy with rfl | rfl <;> cases e
    rcases hv with ⟨l, rfl, lz⟩ | hv
    · refine ⟨_, rfl, _, "str", rfl, .str _, "str", "str", rfl, rfl, _, rfl, ?_⟩
      refine iteF ?_
      have ll : (S l).length = l.length := S_len l
      refine ⟨_, rfl, S l, rfl, by rw [ll]; exact size1000 lz, _, _, rfl, rfl, _, rfl, ?_⟩
      by_cases h1 : 1 ≤ l.length
      · refine iteP (by rw [ll]; omega) ⟨_, _, rfl, rfl, _, rfl, ?_⟩
        by_cases h2 : l.length ≤ 10
        · rw [decide_eq_true (show ((S l).length : Int) ≤ 10 by rw [ll]; omega)]
          refine iteF ?_
          refine ⟨_, rfl, S l, rfl, hT, fun H2 hH => ?_⟩
          have e : (S l).cps.toList.all (fun c => decide (97 ≤ c) && decide (c ≤ 122)) = isW (tx l) := by
            show _ = (decide (1 ≤ (S l).length) && (decide ((S l).length ≤ 10) && _))
            rw [ll, decide_eq_true h1, decide_eq_true h2, Bool.true_and, Bool.true_and]
          rw [e]
          exact q H2 (.of_tabbed hH)
        · rw [decide_eq_false (show ¬ ((S l).length : Int) ≤ 10 by rw [ll]; omega)]
          refine iteT ?_
          have e : isW (tx l) = false := by
            show (decide (1 ≤ (S l).length) && (decide ((S l).length ≤ 10) && _)) = false
            rw [ll, decide_eq_false h2, Bool.false_and, Bool.and_false]
          have := q H (.refl hT)
          rw [e] at this
          exact this
      · refine iteN (by rw [ll]; omega) ⟨_, rfl, ?_⟩
        refine iteT ?_
        have e : isW (tx l) = false := by
          show (decide (1 ≤ (S l).length) && (decide ((S l).length ≤ 10) && _)) = false
          rw [ll, decide_eq_false h1, Bool.false_and]
        have := q H (.refl hT)
        rw [e] at this
        exact this
    · have e := NoText.isW hv
      obtain ⟨T, t, n⟩ := hv
      refine ⟨_, rfl, _, T, rfl, t, T, "str", rfl, rfl, _, rfl, ?_⟩
      rw [decide_eq_false n]
      refine iteT ?_
      have := q H (.refl hT)
      rw [e] at this
      exact this
end
/-- a thing: a text, or what is none -/
def NoTx (H : Hp) (v : V) : Prop := v = .non ∨ (∃ i, v = .int i) ∨ (∃ b, v = .bl b) ∨ ∃ p, v = .ref p ∧ ((∃ xs, H p = some (.lst xs)) ∨ (∃ xs, H p = some (.tup xs)) ∨ ∃ kvs, H p = some (.dK kvs))
def Sg (l : List Nat) : Prop := ∀ c ∈ l, c < 1114112
def Thg (H : Hp) (v : V) : Prop := (∃ l : List Nat, v = tx l ∧ l.length ≤ 100 ∧ Sg l) ∨ NoTx H v
theorem Sg.ok {l : List Nat} (h : Sg l) : PyData.canLay0 (.str (S l)) = true := by
  rw [PyData.canLay0]
  unfold PyData.strOk
  show l.toArray.all (fun a => decide (a < 1114112)) = true
  rw [List.all_toArray, List.all_eq_true]
  intro c hc
  exact decide_eq_true (h c hc)
theorem sg_lay : ∀ ws : List (List Nat), (∀ x ∈ ws, Sg x) → PyData.canLayAll0 (ws.map fun l => PyData.str (S l)) = true
  | [], _ => by simp [PyData.canLayAll0]
  | x :: r, h => by
    rw [List.map_cons, PyData.canLayAll0, (h x List.mem_cons_self).ok, sg_lay r fun y hy => h y (List.mem_cons_of_mem _ hy)]
    rfl
theorem sg_shaped {ws : List (List Nat)} (h : ∀ x ∈ ws, Sg x) : SeqAt.shaped (.list (ws.map fun l => PyData.str (S l))) = true := by
  unfold SeqAt.shaped
  rw [PyData.canLay0, sg_lay ws h, PyData.depth, depth_texts]
  rfl
theorem Let.sg {l : List Nat} (h : Let l) : Sg l := fun c hc => by
  have := h c hc
  omega
theorem NoTx.no {K : PySem.W.Frag} {H : Hp} {v : V} (h : NoTx H v) : NoText K H v := by
  rcases h with rfl | ⟨i, rfl⟩ | ⟨b, rfl⟩ | ⟨p, rfl, ⟨xs, e⟩ | ⟨xs, e⟩ | ⟨kvs, e⟩⟩
  · exact ⟨_, .non, by decide⟩
  · exact ⟨_, .int i, by decide⟩
  · exact ⟨_, .bl b, by decide⟩
  · exact ⟨_, .lst (seqL e), by decide⟩
  · exact ⟨_, .tup (.inl (.inl e)), by decide⟩
  · exact ⟨_, .dK e, by decide⟩
/-- isinstance(v, str) of it -/
theorem NoTx.isi {K : PySem.W.Frag} {H : Hp} {v : V} (h : NoTx H v) : ∃ t, TyX K H v t ∧ PySem.W.kitOne K t (.type "str") = some false := by
  rcases h with rfl | ⟨i, rfl⟩ | ⟨b, rfl⟩ | ⟨p, rfl, ⟨xs, e⟩ | ⟨xs, e⟩ | ⟨kvs, e⟩⟩
  · exact ⟨_, .base .non, kit_ty (by decide +kernel)⟩
  · exact ⟨_, .base (.int i), kit_ty (by decide +kernel)⟩
  · exact ⟨_, .base (.bl b), kit_ty (by decide +kernel)⟩
  · exact ⟨_, .base (.lst e), kit_ty (by decide +kernel)⟩
  · exact ⟨_, .base (.tup e), kit_ty (by decide +kernel)⟩
  · exact ⟨_, .base (.dK e), kit_ty (by decide +kernel)⟩
theorem alpha_let {c : Nat} : c ∈ alpha ↔ 97 ≤ c ∧ c ≤ 122 := by
  constructor
  · exact alphaLet c
  · rintro ⟨h1, h2⟩
    simp only [List.mem_cons, List.not_mem_nil, or_false]
    omega
/-! ### o.m(e, ..), o.m(), C(e, ..) where what is raised is wished for at the caller's slots -/
section
variable {X : Cx} {CX : CXT} {k : Nat} {f C : Addr} {fd : FuncData} {ps : List Str} {sp : Sp} {E : L2.St → XK} {x m : Str} {p pos apos : Pos} {e o : Expr} {es : List Expr} {ta : TE} {t : TA}
def tMethE (C : Addr) (m : Str) (sp : Sp) (E : L2.St → XK) (ta : TE) (t : TA) : TE := fun σ H Q => ta σ H fun x H1 => ∃ a dx fs, x = .ref a ∧ H1 a = some (.ins C dx fs) ∧ fs.lookup m = none ∧ t σ H1 fun vs H2 => sp (x :: vs) H2 Q (E σ)
theorem run_fnE {pins : List (Addr × Obj)} {σ : L2.St} {H : Hp} {s : Shared} {Q : VK} {us : List Value} {vs : List V} (F : FnOk X.prog X.w X.K X.mg X.base CX k f fd ps sp) (hr : Room k X.A) (hb : Binds X.K fd ps []) (hx : PassesAt CX X σ (E σ))
    (I : L2.Inv X pins σ H s) (r : Vals vs us) (h : sp vs H Q (E σ)) : wpAny (model X.prog X.w) X.A (call (.ref f) us) (EP X pins σ Q) X.xe s :=
  run_fnSD (dvs := []) (ds := []) F hr hb .nil hx I r (by rw [List.append_nil]; exact h)
theorem pe_methE {pl : Sem Bool} (he : PE X o ta) (c : Cls X.K C) (hm : Meth X.K C m f) (F : FnOk X.prog X.w X.K X.mg X.base CX k f fd ps sp) (hr : Room k X.A) (hb : Binds X.K fd ps []) (hx : ∀ σ, PassesAt CX X σ (E σ)) (ha : PA X (e :: es) t)
    (hst : starEach (e :: es) X.env = (false, eval e X.env) :: starEach es X.env := by rfl) (hpl : (backTo pos (starEach es X.env)).any (·.1) = false := by rfl)
    (ht : eval (.Call (.Attribute o m apos) (e :: es) [] pos) X.env = (do
      let ov ← eval o X.env
      standAt apos.atName
      let (f, first) ← holding [ov] (getMethod ov m pl)
      callWith pos f first (backTo pos (starEach (e :: es) X.env)) (backToKw pos (keywordEach [] X.env))) := by rfl) :
    PE X (.Call (.Attribute o m apos) (e :: es) [] pos) (tMethE C m sp E ta t) := by
  refine ⟨fun pins s σ H Q I h => ?_⟩
  refine PySem.W.methodCall_KW (pl := pl) (thn (he.run pins s σ H _ I h) fun u s1 ⟨x, H1, I1, rx, a, dx, fs, ex, ea, l, q⟩ => ?_) ht
  subst ex
  obtain rfl : u = Value.ref a := rx
  refine getmeth_ok I1 ea c hm l ?_
  refine PySem.W.callWith_K (first := [.ref a]) (h₀ := X.base) I.ok.mod.kin hm.kp (thn (ha.run pos pins s1 σ H1 _ I1 q) fun us s2 ⟨vs, H2, I2, r, q2⟩ => ⟨I2.kIn, ?_⟩) hst hpl
  exact run_fnE (us := .ref a :: us) (vs := .ref a :: vs) F hr hb (hx σ) I2 (.cons rfl r) q2
theorem pe_methE0 {pl : Sem Bool} (he : PE X o ta) (c : Cls X.K C) (hm : Meth X.K C m f) (F : FnOk X.prog X.w X.K X.mg X.base CX k f fd ps sp) (hr : Room k X.A) (hb : Binds X.K fd ps []) (hx : ∀ σ, PassesAt CX X σ (E σ))
    (ht : eval (.Call (.Attribute o m apos) [] [] pos) X.env = (do
      let ov ← eval o X.env
      standAt apos.atName
      let (f, first) ← holding [ov] (getMethod ov m pl)
      callWith pos f first (backTo pos (starEach [] X.env)) (backToKw pos (keywordEach [] X.env))) := by rfl) :
    PE X (.Call (.Attribute o m apos) [] [] pos) (tMethE C m sp E ta tNil) := by
  refine ⟨fun pins s σ H Q I h => ?_⟩
  refine PySem.W.methodCall_KW (pl := pl) (thn (he.run pins s σ H _ I h) fun u s1 ⟨x, H1, I1, rx, a, dx, fs, ex, ea, l, q⟩ => ?_) ht
  subst ex
  obtain rfl : u = Value.ref a := rx
  refine getmeth_ok I1 ea c hm l ?_
  exact PySem.W.callWith_K0 (first := [.ref a]) I1.kIn hm.kp (run_fnE (us := [.ref a]) (vs := [.ref a]) F hr hb (hx σ) I1 (.cons rfl .nil) q)
/-- C(..), the exception wished for at the caller's slots -/
def tMakeE (C : Addr) (sp : Sp) (E : L2.St → XK) (t : TA) : TE := fun σ H Q => t σ H fun vs H1 => ∀ x dx, H1 x = none → H1 dx = none → dx ≠ x →
  sp (.ref x :: vs) (upd (upd H1 dx (.own x)) x (.ins C dx [])) (fun v H2 => v = .non ∧ Q (.ref x) H2) (E σ)
theorem run_makeE {pins : List (Addr × Obj)} {σ : L2.St} {H : Hp} {s : Shared} {Q : VK} {us : List Value} {vs : List V} (M : Mk X.K C f) (F : FnOk X.prog X.w X.K X.mg X.base CX k f fd ps sp) (hr : Room (k + 1) X.A) (hb : Binds X.K fd ps [])
    (hx : PassesAt CX X σ (E σ)) (I : L2.Inv X pins σ H s) (r : Vals vs us)
    (h : ∀ x dx, H x = none → H dx = none → dx ≠ x → sp (.ref x :: vs) (upd (upd H dx (.own x)) x (.ins C dx [])) (fun v H2 => v = .non ∧ Q (.ref x) H2) (E σ)) :
    wpAny (model X.prog X.w) X.A (call (.ref C) us) (EP X pins σ Q) X.xe s := by
  have hq := h (s.heap.objs.size + 1) s.heap.objs.size (I.hok.fresh (Nat.le_succ _)) (I.hok.fresh (Nat.le_refl _)) (Nat.ne_of_lt (Nat.lt_succ_self _))
  have I2 := Inv.made (C := C) I
  have r2 : Vals (V.ref (s.heap.objs.size + 1) :: vs) (Value.ref (s.heap.objs.size + 1) :: us) := .cons rfl r
  have hl : (Value.ref (s.heap.objs.size + 1) :: us).length = ps.length := by
    have e := r2.length
    rw [F.len _ _ _ _ hq] at e
    exact e.symm
  have bb := hb _ (Value.ref (s.heap.objs.size + 1) :: us) I2.kIn (by rw [List.append_nil]; exact hl)
  rw [List.append_nil] at bb
  refine wpAny_call (make_map (f := f) I.kIn M.makes M.init (beq_iff_eq.mp M.fn) (codeAny_mono (F.run _ X.stack _ _ ⟨Value.ref (s.heap.objs.size + 1) :: us, []⟩ (Value.ref (s.heap.objs.size + 1) :: us) _ _ (E σ) (hr.make C us [])
    (I2.env0.make C us []) bb r2 hq) fun r s' hq' => ?_))
  cases r with
  | error e => exact hx pins _ _ e s' I2 hq'
  | ok fl =>
    cases fl with
    | ret u =>
      obtain ⟨v, H', I3, rv, ev, q3⟩ := I2.after hq'
      subst ev
      exact ⟨rv, ⟨V.ref (s.heap.objs.size + 1), H', I3, rfl, q3⟩⟩
    | next => exact False.elim hq'
    | brk => exact False.elim hq'
    | cont => exact False.elim hq'
theorem pe_makeE (M : Mk X.K C f) (F : FnOk X.prog X.w X.K X.mg X.base CX k f fd ps sp) (hr : Room (k + 1) X.A) (hg : Gl X x) (hm : X.mg x = some (.ref C)) (hb : Binds X.K fd ps []) (hx : ∀ σ, PassesAt CX X σ (E σ))
    (ha : PA X (e :: es) t) (hdb : (x == ("__debug__" : Str)) = false := by decide) (he : starEach (e :: es) X.env = (false, eval e X.env) :: starEach es X.env := by rfl) (hpl : (backTo pos (starEach es X.env)).any (·.1) = false := by rfl) :
    PE X (.Call (.Name x p) (e :: es) [] pos) (tMakeE C sp E t) := by
  refine ⟨fun pins s σ H Q I h => ?_⟩
  refine wpAny_Call_Name_kw (ld_glob I hg hm ?_ hdb)
  refine PySem.W.callWith_K (h₀ := X.base) I.ok.mod.kin M.kp (thn (ha.run pos pins s σ H _ I h) fun us s1 ⟨vs, H1, I1, r, q⟩ => ⟨I1.kIn, ?_⟩) he hpl
  exact run_makeE M F hr hb (hx σ) I1 r q
end
/-- a def that raises nothing, where one may raise -/
theorem _root_.L2.FnOk.up {Pr : Program} {w : World} {K : PySem.W.Frag} {mg : Str → Option Value} {base : Heap} {CX : CXT} {k : Nat} {f : Addr} {fd : FuncData} {ps : List Str} {sp : Sp} (F : FnOk Pr w K mg base CX0 k f fd ps sp) : FnOk Pr w K mg base CX k f fd ps sp :=
  ⟨F.len, fun A outer s H args us vs Q E hr he hb hv hs => codeAny_mono (F.run A outer s H args us vs Q E hr he hb hv hs) fun r s' h => by
    cases r with
    | ok fl => cases fl <;> exact h
    | error e => exact (show False from h).elim⟩
/-- two promises of one def -/
theorem _root_.L2.FnOk.or {Pr : Program} {w : World} {K : PySem.W.Frag} {mg : Str → Option Value} {base : Heap} {CX : CXT} {k : Nat} {f : Addr} {fd : FuncData} {ps : List Str} {sp sp' : Sp} (F : FnOk Pr w K mg base CX k f fd ps sp) (G : FnOk Pr w K mg base CX k f fd ps sp') : FnOk Pr w K mg base CX k f fd ps (fun vs H Q E => sp vs H Q E ∨ sp' vs H Q E) :=
  ⟨fun vs H Q E h => h.elim (F.len vs H Q E) (G.len vs H Q E), fun A outer s H args us vs Q E hr he hb hv hs => hs.elim (F.run A outer s H args us vs Q E hr he hb hv) (G.run A outer s H args us vs Q E hr he hb hv)⟩
/-- a def that is never called -/
theorem FnOk.not {Pr : Program} {w : World} {K : PySem.W.Frag} {mg : Str → Option Value} {base : Heap} {CX : CXT} {k : Nat} {f : Addr} {fd : FuncData} {ps : List Str} : FnOk Pr w K mg base CX k f fd ps (fun _ _ _ _ => False) :=
  ⟨fun _ _ _ _ h => h.elim, fun _ _ _ _ _ _ _ _ _ _ _ _ _ h => h.elim⟩
/-! ### heights: the greatest shared over goings-on of bounded length -/
/-- what a word adds, the heights of the rests behind being g -/
def hterm (g : List Nat → Nat) (r w : List Nat) : Nat := match stp r w with
  | none => shd r w
  | some (x, b) => (if b = true then r.length else w.length) + g x
def hmax (us : List (List Nat)) (g : List Nat → Nat) (r : List Nat) : Nat := us.foldl (fun m w => max m (hterm g r w)) 0
def hN (ws : List (List Nat)) : Nat → List Nat → Nat
  | 0 => fun _ => 0
  | k + 1 => hmax ws (hN ws k)
/-- the height: a least bound, or none -/
def Hgt (ws : List (List Nat)) (r : List Nat) : Option Nat → Prop
  | some m => (∃ k, hN ws k r = m) ∧ ∀ k, hN ws k r ≤ m
  | none => ∀ m, ∃ k, m < hN ws k r
section
variable {ws : List (List Nat)}
theorem fold_ge (f : List Nat → Nat) : ∀ (us : List (List Nat)) (a : Nat), a ≤ us.foldl (fun m w => max m (f w)) a ∧ ∀ w ∈ us, f w ≤ us.foldl (fun m w => max m (f w)) a
  | [], a => ⟨Nat.le_refl _, fun _ h => nomatch h⟩
  | u :: us, a => by
    obtain ⟨h1, h2⟩ := fold_ge f us (max a (f u))
    refine ⟨Nat.le_trans (Nat.le_max_left _ _) h1, fun w hw => ?_⟩
    rcases List.mem_cons.mp hw with e | m
    · rw [e]
      exact Nat.le_trans (Nat.le_max_right _ _) h1
    · exact h2 w m
theorem fold_le {f : List Nat → Nat} {b : Nat} : ∀ (us : List (List Nat)) (a : Nat), a ≤ b → (∀ w ∈ us, f w ≤ b) → us.foldl (fun m w => max m (f w)) a ≤ b
  | [], a, h, _ => h
  | u :: us, a, h, g => fold_le us _ (Nat.max_le.mpr ⟨h, g u List.mem_cons_self⟩) fun w hw => g w (List.mem_cons_of_mem _ hw)
theorem fold_congr {f g : List Nat → Nat} : ∀ (us : List (List Nat)) (a : Nat), (∀ w ∈ us, f w = g w) → us.foldl (fun m w => max m (f w)) a = us.foldl (fun m w => max m (g w)) a
  | [], _, _ => rfl
  | u :: us, a, h => by
    show us.foldl _ (max a (f u)) = us.foldl _ (max a (g u))
    rw [h u List.mem_cons_self]
    exact fold_congr us _ fun w hw => h w (List.mem_cons_of_mem _ hw)
theorem hterm_mono {g h : List Nat → Nat} {r w : List Nat} (le : ∀ x b, stp r w = some (x, b) → g x ≤ h x) : hterm g r w ≤ hterm h r w := by
  unfold hterm
  cases e : stp r w with
  | none => exact Nat.le_refl _
  | some p => exact Nat.add_le_add_left (le p.1 p.2 e) _
theorem hN_up : ∀ (k : Nat) (r : List Nat), hN ws k r ≤ hN ws (k + 1) r
  | 0, _ => Nat.zero_le _
  | k + 1, r => fold_le ws 0 (Nat.zero_le _) fun w hw => Nat.le_trans (hterm_mono fun x _ _ => hN_up k x) ((fold_ge _ ws 0).2 w hw)
theorem hN_mono {k j : Nat} (h : k ≤ j) (r : List Nat) : hN ws k r ≤ hN ws j r := by
  induction h with
  | refl => exact Nat.le_refl _
  | step _ ih => exact Nat.le_trans ih (hN_up _ r)
theorem Hgt.one {r : List Nat} : ∀ {h g : Option Nat}, Hgt ws r h → Hgt ws r g → h = g
  | some m, some n, ⟨⟨k, e⟩, a⟩, ⟨⟨j, e2⟩, b⟩ => by
    have h1 := a j
    have h2 := b k
    rw [e2] at h1
    rw [e] at h2
    rw [Nat.le_antisymm h2 h1]
  | some m, none, ⟨_, a⟩, b => by
    obtain ⟨k, hk⟩ := b m
    have := a k
    omega
  | none, some n, a, ⟨_, b⟩ => by
    obtain ⟨k, hk⟩ := a n
    have := b k
    omega
  | none, none, _, _ => rfl
theorem Hgt.is (r : List Nat) : ∃ h, Hgt ws r h := by
  by_cases c : ∃ m, ∀ k, hN ws k r ≤ m
  · obtain ⟨m, hm⟩ := c
    induction m using Nat.strongRecOn with
    | _ m ih =>
      by_cases d : ∃ n, n < m ∧ ∀ k, hN ws k r ≤ n
      · obtain ⟨n, hn, hb⟩ := d
        exact ih n hn hb
      · refine ⟨some m, ?_, hm⟩
        by_cases z : m = 0
        · exact ⟨0, z.symm⟩
        · by_cases e : ∃ k, hN ws k r = m
          · exact e
          · refine absurd ⟨m - 1, by omega, fun k => ?_⟩ d
            have h1 := hm k
            have h2 : hN ws k r ≠ m := fun q => e ⟨k, q⟩
            omega
  · refine ⟨none, fun m => ?_⟩
    by_cases d : ∃ k, m < hN ws k r
    · exact d
    · exact absurd ⟨m, fun k => Nat.le_of_not_lt fun q => d ⟨k, q⟩⟩ c
/-- the equation of a height: all rests behind have one -/
theorem Hgt.step {r : List Nat} {v : List Nat → Nat} (h : ∀ w ∈ ws, ∀ x b, stp r w = some (x, b) → Hgt ws x (some (v x))) : Hgt ws r (some (hmax ws v r)) := by
  have up : ∀ k, hN ws k r ≤ hmax ws v r := fun k => by
    cases k with
    | zero => exact Nat.zero_le _
    | succ k => exact fold_le ws 0 (Nat.zero_le _) fun w hw => Nat.le_trans (hterm_mono fun x b e => (h w hw x b e).2 k) ((fold_ge _ ws 0).2 w hw)
  have all : ∀ us : List (List Nat), (∀ w ∈ us, w ∈ ws) → ∃ K, ∀ w ∈ us, ∀ x b, stp r w = some (x, b) → hN ws K x = v x := by
    intro us
    induction us with
    | nil => exact fun _ => ⟨0, fun _ hw => nomatch hw⟩
    | cons u us ih =>
      intro hu
      obtain ⟨K, hK⟩ := ih fun w hw => hu w (List.mem_cons_of_mem _ hw)
      obtain ⟨J, hJ⟩ : ∃ J, ∀ x b, stp r u = some (x, b) → hN ws J x = v x := by
        cases e : stp r u with
        | none => exact ⟨0, fun _ _ z => nomatch z⟩
        | some p =>
          obtain ⟨J, hJ⟩ := (h u (hu u List.mem_cons_self) p.1 p.2 e).1
          exact ⟨J, fun x b z => by cases z; exact hJ⟩
      refine ⟨max K J, fun w hw x b e => ?_⟩
      have top := (h w (hu w hw) x b e).2 (max K J)
      rcases List.mem_cons.mp hw with z | z
      · rw [z] at e
        have h1 := hN_mono (ws := ws) (Nat.le_max_right K J) x
        rw [hJ x b e] at h1
        exact Nat.le_antisymm top h1
      · have h1 := hN_mono (ws := ws) (Nat.le_max_left K J) x
        rw [hK w z x b e] at h1
        exact Nat.le_antisymm top h1
  obtain ⟨K, hK⟩ := all ws fun _ hw => hw
  refine ⟨⟨K + 1, fold_congr ws 0 fun w hw => ?_⟩, up⟩
  unfold hterm
  cases e : stp r w with
  | none => rfl
  | some p => exact congrArg (fun n => (if p.2 = true then r.length else w.length) + n) (hK w hw p.1 p.2 e)
/-- a rest behind has none -/
theorem Hgt.far {r w x : List Nat} {b : Bool} (hw : w ∈ ws) (e : stp r w = some (x, b)) (h : Hgt ws x none) : Hgt ws r none := fun m => by
  obtain ⟨k, hk⟩ := h m
  refine ⟨k + 1, Nat.lt_of_lt_of_le (Nat.lt_of_lt_of_le hk ?_) ((fold_ge (hterm (hN ws k) r) ws 0).2 w hw)⟩
  unfold hterm
  rw [e]
  exact Nat.le_add_left _ _
theorem hterm_perm {vs : List (List Nat)} (h : vs.Perm ws) : ∀ (k : Nat) (r : List Nat), hN vs k r = hN ws k r
  | 0, _ => rfl
  | k + 1, r => by
    have e : hN vs k = hN ws k := funext fun x => hterm_perm h k x
    show hmax vs (hN vs k) r = hmax ws (hN ws k) r
    rw [e]
    refine Nat.le_antisymm (fold_le vs 0 (Nat.zero_le _) fun w hw => (fold_ge _ ws 0).2 w (h.mem_iff.mp hw)) (fold_le ws 0 (Nat.zero_le _) fun w hw => (fold_ge _ vs 0).2 w (h.mem_iff.mpr hw))
theorem Hgt.perm {vs : List (List Nat)} (p : vs.Perm ws) {r : List Nat} : ∀ {h : Option Nat}, Hgt vs r h → Hgt ws r h
  | some m, ⟨⟨k, e⟩, a⟩ => ⟨⟨k, by rw [← hterm_perm p]; exact e⟩, fun j => by rw [← hterm_perm p]; exact a j⟩
  | none, a => fun m => by
    obtain ⟨k, hk⟩ := a m
    exact ⟨k, by rw [← hterm_perm p]; exact hk⟩
end
section
/-- the table of the heights -/
def HD (ws : List (List Nat)) (hs : List (List Nat × Option Nat)) : Prop := (hs.map (·.1)).Nodup ∧ ∀ r h, (r, h) ∈ hs ↔ (∃ n, Off ws r n) ∧ Hgt ws r h
def hv : Option Nat → V
  | none => .non
  | some m => .int (m : Int)
def hkv (hs : List (List Nat × Option Nat)) : List (Key × V) := hs.map fun e => (Sum.inr (S e.1), hv e.2)
theorem hkv_len (hs : List (List Nat × Option Nat)) : (hkv hs).length = hs.length := List.length_map _
theorem hkv_in : ∀ {hs : List (List Nat × Option Nat)} {r : List Nat} {h : Option Nat}, (hs.map (·.1)).Nodup → (r, h) ∈ hs → valV (hkv hs) (Sum.inr (S r)) = some (hv h)
  | [], _, _, _, h => nomatch h
  | e :: es, r, n, nd, h => by
    obtain ⟨n1, n2⟩ := List.nodup_cons.mp nd
    rcases List.mem_cons.mp h with z | z
    · rw [← z]
      exact valV_pos rfl
    · have ne : ¬ (Sum.inr (S e.1) : Key) = Sum.inr (S r) := fun q => by
        have q2 := S_inj (Sum.inr.inj q)
        exact n1 (List.mem_map.mpr ⟨(r, n), z, q2.symm⟩)
      exact (valV_neg ne).trans (hkv_in n2 z)
theorem HD.same {ws : List (List Nat)} {es fs : List (List Nat × Option Nat)} (h : HD ws es) (g : HD ws fs) : (hkv es).length = (hkv fs).length ∧ ∀ p ∈ hkv es, valV (hkv fs) p.1 = some p.2 ∧ flatB p.2 = true := by
  constructor
  · rw [hkv_len, hkv_len]
    have sub : ∀ {a b : List (List Nat × Option Nat)}, HD ws a → HD ws b → a.length ≤ b.length := fun {a b} ha hb => by
      have q := nodup_sub ha.1 (m := b.map (·.1)) fun x hx => by
        obtain ⟨p, hp, e⟩ := List.mem_map.mp hx
        exact List.mem_map.mpr ⟨p, (hb.2 p.1 p.2).mpr ((ha.2 p.1 p.2).mp hp), e⟩
      rw [List.length_map, List.length_map] at q
      exact q
    exact Nat.le_antisymm (sub h g) (sub g h)
  · intro p hp
    obtain ⟨e, he, rfl⟩ := List.mem_map.mp hp
    refine ⟨hkv_in g.1 ((g.2 e.1 e.2).mpr ((h.2 e.1 e.2).mp he)), ?_⟩
    show flatB (hv e.2) = true
    cases e.2 <;> rfl
/-- what heights promises -/
def spHeights (P : Addr) : Sp := fun vs H Q _ => ∃ (b : Addr) (ws : List (List Nat)), vs = [.ref b] ∧ H b = some (.lst (ws.map tx)) ∧ CodeOk ws ∧ GxR.TabG H P ∧
  ∀ (p : Addr) (hs : List (List Nat × Option Nat)) (H' : Hp), Sm P H H' → H p = none → H' p = some (.dK (hkv hs)) → HD ws hs → Q (.ref p) H'
end
/-! ### rests that have a height, and rows that share it -/
theorem max_int (a b : Nat) : (if (b : Int) > (a : Int) then (b : Int) else (a : Int)) = ((max a b : Nat) : Int) := by
  split <;> omega
theorem hmax_take {us : List (List Nat)} {g : List Nat → Nat} {r : List Nat} {i : Nat} (h : i < us.length) : hmax (us.take (i + 1)) g r = max (hmax (us.take i) g r) (hterm g r us[i]) := by
  unfold hmax
  rw [List.take_add_one, List.getElem?_eq_getElem h, List.foldl_append]
  rfl
structure Stl where
  r : List Nat
  h : Nat
  T : Addr
  fA : Addr
  bA : Addr
  fc : List (List Nat)
  bh : List (List Nat)
structure Stl.At (H : Hp) (e : Stl) : Prop where
  t : H e.T = some (.tup [.int (e.h : Int), .ref e.fA, .ref e.bA])
  f : H e.fA = some (.lst (e.fc.map tx))
  b : H e.bA = some (.lst (e.bh.map tx))
theorem Stl.At.same {H H' : Hp} {e : Stl} (a : e.At H) (s : Same H H') : e.At H' := ⟨s _ _ a.t, s _ _ a.f, s _ _ a.b⟩
/-- two rows, the second one behind the rest, that share so much -/
structure Rws (ws : List (List Nat)) (r : List Nat) (h : Nat) (fc bh : List (List Nat)) : Prop where
  w1 : ∀ x ∈ fc, x ∈ ws
  w2 : ∀ x ∈ bh, x ∈ ws
  sh : shd fc.flatten (r ++ bh.flatten) = h
theorem shd_comm : ∀ a b : List Nat, shd a b = shd b a
  | [], [] => rfl
  | [], _ :: _ => rfl
  | _ :: _, [] => rfl
  | x :: a, y :: b => by
    show (if x = y then shd a b + 1 else 0) = if y = x then shd b a + 1 else 0
    by_cases h : x = y
    · rw [if_pos h, if_pos h.symm, shd_comm a b]
    · rw [if_neg h, if_neg (Ne.symm h)]
theorem shd_app : ∀ p a b : List Nat, shd (p ++ a) (p ++ b) = p.length + shd a b
  | [], a, b => by simp
  | x :: p, a, b => by
    show (if x = x then shd (p ++ a) (p ++ b) + 1 else 0) = (p.length + 1) + shd a b
    rw [if_pos rfl, shd_app p a b]
    omega
theorem shd_nil (b : List Nat) : shd [] b = 0 := by cases b <;> rfl
theorem hit_split {w r : List Nat} (h : hit w r = true) : r = w ++ r.drop w.length := by
  have := hit_iff.mp h
  conv => lhs; rw [← List.take_append_drop w.length r]
  rw [this]
theorem stp_on {r w x : List Nat} (h : stp r w = some (x, false)) : r = w ++ x := by
  unfold stp at h
  by_cases c : hit w r = true
  · rw [if_pos c] at h
    cases h
    exact hit_split c
  · rw [if_neg c] at h
    by_cases c2 : hit r w = true
    · rw [if_pos c2] at h
      cases h
    · rw [if_neg c2] at h
      cases h
theorem stp_over {r w x : List Nat} (h : stp r w = some (x, true)) : w = r ++ x := by
  unfold stp at h
  by_cases c : hit w r = true
  · rw [if_pos c] at h
    cases h
  · rw [if_neg c] at h
    by_cases c2 : hit r w = true
    · rw [if_pos c2] at h
      cases h
      exact hit_split c2
    · rw [if_neg c2] at h
      cases h
/-- neither begins with the other: what follows does not matter -/
theorem shd_off : ∀ {a b : List Nat} (u v : List Nat), hit a b = false → hit b a = false → shd (a ++ u) (b ++ v) = shd a b
  | [], b, u, v, h, _ => by rw [hit_nil] at h; cases h
  | _ :: _, [], u, v, _, h => by rw [hit_nil] at h; cases h
  | x :: a, y :: b, u, v, h1, h2 => by
    show (if x = y then shd (a ++ u) (b ++ v) + 1 else 0) = if x = y then shd a b + 1 else 0
    by_cases e : x = y
    · subst e
      rw [if_pos rfl, if_pos rfl]
      have k1 : hit a b = false := by
        cases z : hit a b with
        | false => rfl
        | true =>
          have := hit_iff.mp z
          have q : hit (x :: a) (x :: b) = true := hit_iff.mpr (by rw [List.length_cons, List.take_succ_cons, this])
          rw [q] at h1
          cases h1
      have k2 : hit b a = false := by
        cases z : hit b a with
        | false => rfl
        | true =>
          have := hit_iff.mp z
          have q : hit (x :: b) (x :: a) = true := hit_iff.mpr (by rw [List.length_cons, List.take_succ_cons, this])
          rw [q] at h2
          cases h2
      rw [shd_off u v k1 k2]
    · rw [if_neg e, if_neg e]
theorem stp_none {r w : List Nat} (h : stp r w = none) : hit w r = false ∧ hit r w = false := by
  unfold stp at h
  by_cases c : hit w r = true
  · rw [if_pos c] at h
    cases h
  · rw [if_neg c] at h
    by_cases c2 : hit r w = true
    · rw [if_pos c2] at h
      cases h
    · exact ⟨Bool.eq_false_iff.mpr c, Bool.eq_false_iff.mpr c2⟩
theorem Rws.none {ws : List (List Nat)} {r w : List Nat} (hw : w ∈ ws) (h : stp r w = none) : Rws ws r (shd r w) [w] [] := by
  refine ⟨fun x hx => by rw [List.mem_singleton.mp hx]; exact hw, fun x hx => absurd hx List.not_mem_nil, ?_⟩
  rw [shd_comm r w]
  simp
theorem Rws.on {ws : List (List Nat)} {r w x : List Nat} {h : Nat} {fc bh : List (List Nat)} (hw : w ∈ ws) (e : stp r w = some (x, false)) (g : Rws ws x h fc bh) : Rws ws r (w.length + h) (w :: fc) bh := by
  refine ⟨fun y hy => (List.mem_cons.mp hy).elim (fun z => z ▸ hw) (g.w1 y), g.w2, ?_⟩
  rw [stp_on e, List.flatten_cons, List.append_assoc, shd_app, g.sh]
theorem Rws.over {ws : List (List Nat)} {r w x : List Nat} {h : Nat} {fc bh : List (List Nat)} (hw : w ∈ ws) (e : stp r w = some (x, true)) (g : Rws ws x h fc bh) : Rws ws r (r.length + h) (w :: bh) fc := by
  refine ⟨fun y hy => (List.mem_cons.mp hy).elim (fun z => z ▸ hw) (g.w2 y), g.w1, ?_⟩
  rw [List.flatten_cons]
  conv => lhs; rw [stp_over e]
  rw [List.append_assoc, shd_app, shd_comm, g.sh]
def skv (ss : List Stl) : List (Key × V) := ss.map fun e => (Sum.inr (S e.r), V.ref e.T)
theorem skv_out : ∀ {ss : List Stl} {r : List Nat}, (∀ s ∈ ss, s.r ≠ r) → valV (skv ss) (Sum.inr (S r)) = none
  | [], _, _ => rfl
  | e :: ss, r, h => by
    have ne : ¬ (Sum.inr (S e.r) : Key) = Sum.inr (S r) := fun q => h e List.mem_cons_self (S_inj (Sum.inr.inj q))
    exact (valV_neg ne).trans (skv_out fun f hf => h f (List.mem_cons_of_mem _ hf))
theorem skv_in : ∀ {ss : List Stl} {f : Stl}, (ss.map Stl.r).Nodup → f ∈ ss → valV (skv ss) (Sum.inr (S f.r)) = some (V.ref f.T)
  | [], _, _, h => nomatch h
  | e :: ss, f, nd, h => by
    obtain ⟨n1, n2⟩ := List.nodup_cons.mp nd
    rcases List.mem_cons.mp h with z | z
    · rw [z]
      exact valV_pos rfl
    · have ne : ¬ (Sum.inr (S e.r) : Key) = Sum.inr (S f.r) := fun q => n1 (by rw [S_inj (Sum.inr.inj q)]; exact List.mem_map.mpr ⟨f, z, rfl⟩)
      exact (valV_neg ne).trans (skv_in n2 z)
/-- the table of heights as it stands: at most M words in a row -/
structure Ss (ws : List (List Nat)) (M : Nat) (H : Hp) (ss : List Stl) : Prop where
  at_ : ∀ s ∈ ss, s.At H
  g : ∀ s ∈ ss, Rws ws s.r s.h s.fc s.bh
  l1 : ∀ s ∈ ss, s.fc.length ≤ M
  l2 : ∀ s ∈ ss, s.bh.length ≤ M
  nd : (ss.map Stl.r).Nodup
theorem Ss.same {ws : List (List Nat)} {M : Nat} {H H' : Hp} {ss : List Stl} (h : Ss ws M H ss) (s : Same H H') : Ss ws M H' ss := ⟨fun x hx => (h.at_ x hx).same s, h.g, h.l1, h.l2, h.nd⟩
/-- what a tuple tells: a number and two rows -/
def TupAt (H : Hp) (T : Addr) (h : Nat) (fA bA : Addr) (fc bh : List (List Nat)) : Prop := H T = some (.tup [.int (h : Int), .ref fA, .ref bA]) ∧ H fA = some (.lst (fc.map tx)) ∧ H bA = some (.lst (bh.map tx))
def NewOr (H : Hp) (ss : List Stl) (a : Addr) : Prop := H a = none ∨ ∃ s ∈ ss, a = s.fA ∨ a = s.bA
section
variable {Pr : Program} {w : World} {K : PySem.W.Frag} {mg : Str → Option Value} {base : Heap} {f fL fS fH fB fA : Addr} {fd fdL fdS fdH fdB fdA : FuncData}
def spByWord : Sp := fun vs H Q _ => ∃ (d : Addr) (ws : List (List Nat)) (M : Nat) (ss : List Stl) (r wd : List Nat) (v : List Nat → Nat), vs = [.ref d, tx r, tx wd] ∧ H d = some (.dK (skv ss)) ∧ Ss ws M H ss ∧ M ≤ 1000 ∧ wd ∈ ws ∧ (∀ x ∈ ws, WordOk x) ∧ r.length ≤ 10 ∧
  (∀ s ∈ ss, v s.r = s.h) ∧ (∀ x b, stp r wd = some (x, b) → ∃ s ∈ ss, s.r = x) ∧
  ∀ (T fA bA : Addr) (fc bh : List (List Nat)) (H' : Hp), Same H H' → H T = none → NewOr H ss fA → NewOr H ss bA → TupAt H' T (hterm v r wd) fA bA fc bh → Rws ws r (hterm v r wd) fc bh → fc.length ≤ M + 1 → bh.length ≤ M + 1 → Q (.ref T) H'
theorem scByWord : FnScope ["settled", "rest", "word", "step", "left", "beyond", "height", "facing", "behind"] ["settled", "rest", "word"] (defScope s__by_word) := ⟨rfl, rfl, rfl, by decide +kernel, rfl, by decide +kernel, by decide +kernel⟩
theorem ok_byWord (F : FnP K "_by_word" s__by_word f fd) (L : Has K mg "left_of" s_left_of ["text", "other"] fL fdL) (S1 : Has K mg "stepped" s_stepped ["rest", "word"] fS fdS) (SH : Has K mg "shared" s_shared ["text", "other"] fH fdH) (B : Bl mg) : FnOk Pr w K mg base CX0 3 f fd ["settled", "rest", "word"] spByWord := by
  have GS : FnOk Pr w K mg base CX0 2 fS fdS ["rest", "word"] spStep := ok_stepped S1.F L B
  have GH : FnOk Pr w K mg base CX0 2 fH fdH ["text", "other"] spShared := (ok_shared SH.F B).mono (by decide)
  refine F.okN scByWord (fun vs H Q E h => ?_) (fun cdv A' outer s H vs Q E hr h => ?_)
  · obtain ⟨d, ws, M, ss, r, wd, v, rfl, _⟩ := h
    rfl
  · obtain ⟨d, ws, M, ss, r, wd, v, rfl, hD, hs, lM, hwd, hw, lr, hv, hst, q⟩ := h
    have hu : (A'.deeper (envOfC "_by_word" (defScope s__by_word) s.heap.objs.size f cdv)).units + 1 < cLine := by
      have := hr.units
      omega
    refine ⟨_, pss_cons (ps_set (i := 3) scByWord.nd rfl (.inl rfl) (pe_call GS hr (by rfl) S1.g S1.F.kp S1.b .nil pass0 (pa_cons (pv 1) (pa_cons (pv 2) pa_nil))))
      (pss_cons (ps_if (pt_cmpR op_isN (pv 3) pe_non (nomark _)) (pss_one (ps_ret (pe_tup (pa_cons (pe_call GH hr (by rfl) SH.g SH.F.kp SH.b .nil pass0 (pa_cons (pv 1) (pa_cons (pv 2) pa_nil))) (pa_cons (pe_lst (pa_cons (pv 2) pa_nil)) (pa_cons (pe_lst pa_nil) pa_nil)))))) pss_nil)
      (pss_cons (ps_asg (pv 3) (pg_tup rfl (pgs_cons (pg_name (i := 4) scByWord.nd rfl (Or.inl rfl)) (pgs_cons (pg_name (i := 5) scByWord.nd rfl (Or.inl rfl)) pgs_nil))))
      (pss_cons (ps_asg (pe_dget hu (pv 0) (pv 4) (fun _ _ => rfl)) (pg_tup rfl (pgs_cons (pg_name (i := 6) scByWord.nd rfl (Or.inl rfl)) (pgs_cons (pg_name (i := 7) scByWord.nd rfl (Or.inl rfl)) (pgs_cons (pg_name (i := 8) scByWord.nd rfl (Or.inl rfl)) pgs_nil)))))
      (pss_cons (ps_if (pt_val (pv 5)) (pss_one (ps_ret (pe_tup (pa_cons (pe_op op_add (pe_callB call_len_str (by rfl) B.mL boot_len (pa_cons (pv 1) pa_nil)) (pv 6)) (pa_cons (pe_op op_cat (pe_lst (pa_cons (pv 2) pa_nil)) (pv 8)) (pa_cons (pv 7) pa_nil)))))) pss_nil)
      (pss_one (ps_ret (pe_tup (pa_cons (pe_op op_add (pe_callB call_len_str (by rfl) B.mL boot_len (pa_cons (pv 2) pa_nil)) (pv 6)) (pa_cons (pe_op op_cat (pe_lst (pa_cons (pv 2) pa_nil)) (pv 7)) (pa_cons (pv 8) pa_nil)))))))))), ?_⟩
    have lw := (hw wd hwd).2.1
    have one1 : (1 : Nat) ≤ sizeLine := by decide
    refine ⟨_, rfl, _, rfl, r, wd, rfl, by omega, by omega, fun en => ?_, fun x b es p H1 s1 np ep => ?_⟩
    · refine ⟨_, rfl, rfl, _, rfl, iteP rfl ?_⟩
      refine ⟨_, rfl, _, rfl, r, wd, rfl, by omega, by omega, fun H1 s1 => ⟨_, rfl, one1, fun a1 n1 => ⟨Nat.zero_le _, fun a2 n2 => ⟨by show 3 ≤ sizeLine; decide, fun a3 n3 => ?_⟩⟩⟩⟩
      have t1 := same_upd (o := .lst [tx wd]) n1
      have t2 := same_upd (o := .lst []) n2
      have t3 := same_upd (o := .tup [.int ((shd r wd : Nat) : Int), .ref a1, .ref a2]) n3
      have eh : hterm v r wd = shd r wd := by unfold hterm; rw [en]
      refine q a3 a1 a2 [wd] [] _ (((s1.trans t1).trans t2).trans t3) (none_of ((s1.trans t1).trans t2) n3) (.inl (none_of s1 n1)) (.inl (none_of (s1.trans t1) n2)) ?_ ?_ (by simp) (by simp)
      · rw [eh]
        exact ⟨upd_same, (t2.trans t3) _ _ upd_same, t3 _ _ upd_same⟩
      · rw [eh]
        exact Rws.none hwd en
    · obtain ⟨st, hst1, hst2⟩ := hst x b es
      have sa := (hs.at_ st hst1).same s1
      have sg := hs.g st hst1
      have m1 := hs.l1 st hst1
      have m2 := hs.l2 st hst1
      have hx : v x = st.h := by rw [← hst2]; exact hv st hst1
      refine ⟨_, rfl, rfl, _, rfl, iteN (fun z => nomatch z) ?_⟩
      refine ⟨_, rfl, p, _, rfl, .inl (.inl ep), rfl, _, _, rfl, _, _, rfl, rfl, ?_⟩
      have dg : DGet H1 d (tx x) (some (.ref st.T)) := by
        have := DGet.k (k := Sum.inr (S st.r)) (s1 _ _ hD)
        rw [skv_in hs.nd hst1] at this
        rw [← hst2]
        exact this
      refine ⟨_, rfl, _, rfl, d, .ref st.T, rfl, dg, ?_⟩
      refine ⟨st.T, _, rfl, .inl (.inl sa.t), rfl, _, _, rfl, _, _, rfl, _, _, rfl, rfl, ?_⟩
      refine ⟨_, rfl, b, rfl, ?_⟩
      rw [hst2] at sg
      cases b with
      | true =>
        refine iteT ⟨_, rfl, S r, rfl, small_S (by omega), _, rfl, _, _, rfl, rfl, _, rfl, one1, fun a1 n1 => ?_⟩
        have t1 := same_upd (o := .lst [tx wd]) n1
        refine ⟨_, rfl, a1, st.bA, _, _, rfl, rfl, upd_same, t1 _ _ sa.b, by rw [List.length_map]; show 1 + st.bh.length ≤ 2 ^ 24; omega, fun a2 n2 => ?_⟩
        have t2 := same_upd (o := .lst ([tx wd] ++ st.bh.map tx)) n2
        refine ⟨_, rfl, by show 3 ≤ sizeLine; decide, fun a3 n3 => ?_⟩
        have eh : hterm v r wd = r.length + st.h := by unfold hterm; rw [es]; dsimp only; rw [if_pos rfl, hx]
        have ei : (((S r).length : Int) + (st.h : Int)) = ((hterm v r wd : Nat) : Int) := by rw [eh, S_len]; omega
        dsimp only
        rw [ei]
        have t3 := same_upd (o := .tup [.int ((hterm v r wd : Nat) : Int), .ref a2, .ref st.fA]) n3
        refine q a3 a2 st.fA (wd :: st.bh) st.fc _ (((s1.trans t1).trans t2).trans t3) (none_of ((s1.trans t1).trans t2) n3) (.inl (none_of (s1.trans t1) n2)) (.inr ⟨st, hst1, .inl rfl⟩) ⟨upd_same, t3 _ _ upd_same, (t1.trans (t2.trans t3)) _ _ sa.f⟩ ?_ (by rw [List.length_cons]; omega) (by omega)
        rw [eh]
        exact sg.over hwd es
      | false =>
        refine iteF ⟨_, rfl, S wd, rfl, small_S (by omega), _, rfl, _, _, rfl, rfl, _, rfl, one1, fun a1 n1 => ?_⟩
        have t1 := same_upd (o := .lst [tx wd]) n1
        refine ⟨_, rfl, a1, st.fA, _, _, rfl, rfl, upd_same, t1 _ _ sa.f, by rw [List.length_map]; show 1 + st.fc.length ≤ 2 ^ 24; omega, fun a2 n2 => ?_⟩
        have t2 := same_upd (o := .lst ([tx wd] ++ st.fc.map tx)) n2
        refine ⟨_, rfl, by show 3 ≤ sizeLine; decide, fun a3 n3 => ?_⟩
        have eh : hterm v r wd = wd.length + st.h := by unfold hterm; rw [es]; dsimp only; rw [if_neg (by decide), hx]
        have ei : (((S wd).length : Int) + (st.h : Int)) = ((hterm v r wd : Nat) : Int) := by rw [eh, S_len]; omega
        dsimp only
        rw [ei]
        have t3 := same_upd (o := .tup [.int ((hterm v r wd : Nat) : Int), .ref a2, .ref st.bA]) n3
        refine q a3 a2 st.bA (wd :: st.fc) st.bh _ (((s1.trans t1).trans t2).trans t3) (none_of ((s1.trans t1).trans t2) n3) (.inl (none_of (s1.trans t1) n2)) (.inr ⟨st, hst1, .inr rfl⟩) ⟨upd_same, t3 _ _ upd_same, (t1.trans (t2.trans t3)) _ _ sa.b⟩ ?_ (by rw [List.length_cons]; omega) (by omega)
        rw [eh]
        exact sg.on hwd es
end
section
variable {Pr : Program} {w : World} {K : PySem.W.Frag} {mg : Str → Option Value} {base : Heap} {f fL fS fH fB fA : Addr} {fd fdL fdS fdH fdB fdA : FuncData}
def spHighest : Sp := fun vs H Q _ => ∃ (c d : Addr) (ws : List (List Nat)) (M : Nat) (ss : List Stl) (r : List Nat) (v : List Nat → Nat), vs = [.ref c, .ref d, tx r] ∧ H c = some (.lst (ws.map tx)) ∧ H d = some (.dK (skv ss)) ∧ Ss ws M H ss ∧ M ≤ 1000 ∧ (∀ x ∈ ws, WordOk x) ∧ r.length ≤ 10 ∧
  (∀ s ∈ ss, v s.r = s.h) ∧ (∀ wd ∈ ws, ∀ x b, stp r wd = some (x, b) → ∃ s ∈ ss, s.r = x) ∧
  ∀ (T fA bA : Addr) (fc bh : List (List Nat)) (H' : Hp), Same H H' → H T = none → NewOr H ss fA → NewOr H ss bA → TupAt H' T (hmax ws v r) fA bA fc bh → Rws ws r (hmax ws v r) fc bh → fc.length ≤ M + 1 → bh.length ≤ M + 1 → Q (.ref T) H'
theorem TupAt.same {H H' : Hp} {T fA bA : Addr} {h : Nat} {fc bh : List (List Nat)} (a : TupAt H T h fA bA fc bh) (s : Same H H') : TupAt H' T h fA bA fc bh := ⟨s _ _ a.1, s _ _ a.2.1, s _ _ a.2.2⟩
theorem NewOr.old {H H' : Hp} {ss : List Stl} {a : Addr} (s : Same H H') (h : NewOr H' ss a) : NewOr H ss a := h.imp (none_of s) id
theorem scHighest : FnScope ["code", "settled", "rest", "best", "word", "found"] ["code", "settled", "rest"] (defScope s__highest) := ⟨rfl, rfl, rfl, by decide +kernel, rfl, by decide +kernel, by decide +kernel⟩
theorem ok_highest (F : FnP K "_highest" s__highest f fd) (GB : FnOk Pr w K mg base CX0 3 fB fdB ["settled", "rest", "word"] spByWord) (BW : Has K mg "_by_word" s__by_word ["settled", "rest", "word"] fB fdB) : FnOk Pr w K mg base CX0 4 f fd ["code", "settled", "rest"] spHighest := by
  refine F.okN scHighest (fun vs H Q E h => ?_) (fun cdv A' outer s H vs Q E hr h => ?_)
  · obtain ⟨c, d, ws, M, ss, r, v, rfl, _⟩ := h
    rfl
  · obtain ⟨c, d, ws, M, ss, r, v, rfl, hC, hD, hs, lM, hw, lr, hv, hst, q⟩ := h
    refine ⟨_, pss_cons (ps_set (i := 3) scHighest.nd rfl (.inl rfl) (pe_tup (pa_cons pe_int (pa_cons (pe_lst pa_nil) (pa_cons (pe_lst pa_nil) pa_nil)))))
      (pss_cons (ps_for PassesOwn.never rfl (pi_list (pv 0)) (pg_name (i := 4) scHighest.nd rfl (Or.inl rfl))
        (pss_cons (ps_set (i := 5) scHighest.nd rfl (.inl rfl) (pe_call GB hr (by rfl) BW.g BW.F.kp BW.b .nil pass0 (pa_cons (pv 1) (pa_cons (pv 2) (pa_cons (pv 4) pa_nil)))))
        (pss_one (ps_if (pt_cmpR op_gt (pe_ix (r := rIxT K) ix_tup (pv 5) pe_int (fun _ _ => rfl)) (pe_ix (r := rIxT K) ix_tup (pv 3) pe_int (fun _ _ => rfl)) (nomark _)) (pss_one (ps_set (i := 3) scHighest.nd rfl (.inl rfl) (pv 5))) pss_nil))))
      (pss_one (ps_ret (pv 3)))), ?_⟩
    refine ⟨Nat.zero_le _, fun a1 n1 => ⟨Nat.zero_le _, fun a2 n2 => ⟨by show 3 ≤ sizeLine; decide, fun a3 n3 => ?_⟩⟩⟩
    have t1 := same_upd (o := .lst []) n1
    have t2 := same_upd (o := .lst []) n2
    have t3 := same_upd (o := .tup [.int 0, .ref a1, .ref a2]) n3
    have t123 := (t1.trans t2).trans t3
    refine ⟨_, rfl, c, rfl, ⟨_, seqL (t123 _ _ hC)⟩, for_list (K := K) (a := c) (xs := ws.map tx) (fun i σ H1 => Same H H1 ∧ ∃ (T fA bA : Addr) (fc bh : List (List Nat)), H T = none ∧ NewOr H ss fA ∧ NewOr H ss bA ∧ TupAt H1 T (hmax (ws.take i) v r) fA bA fc bh ∧ Rws ws r (hmax (ws.take i) v r) fc bh ∧ fc.length ≤ M + 1 ∧ bh.length ≤ M + 1 ∧ ∃ k4 k5 : Option V, σ = [some (.ref c), some (.ref d), some (tx r), some (.ref T), k4, k5]) ?_ (fun i σ H1 _ hh => seqL (hh.1 _ _ hC)) ?_ ?_⟩
    · refine ⟨t123, a3, a1, a2, [], [], none_of (t1.trans t2) n3, .inl n1, .inl (none_of t1 n2), ⟨upd_same, (t2.trans t3) _ _ upd_same, t3 _ _ upd_same⟩, ⟨fun x hx => absurd hx List.not_mem_nil, fun x hx => absurd hx List.not_mem_nil, ?_⟩, Nat.zero_le _, Nat.zero_le _, _, _, rfl⟩
      show shd [] (r ++ []) = 0
      exact shd_nil _
    · rintro i x σ H1 hx ⟨s1, T, fA, bA, fc, bh, nT, nf, nb, ta, rw_, l1, l2, k4, k5, rfl⟩
      have hi : i < ws.length := by
        have := (List.getElem?_eq_some_iff.mp hx).1
        rw [List.length_map] at this
        exact this
      have hxe : x = tx ws[i] := by
        rw [List.getElem?_map, List.getElem?_eq_getElem hi] at hx
        exact (Option.some.inj hx).symm
      subst hxe
      have hm := hmax_take (g := v) (r := r) hi
      have hwm : ws[i] ∈ ws := List.getElem_mem hi
      rw [hm]
      generalize ws[i] = wd at hwm ⊢
      refine ⟨_, rfl, _, rfl, _, rfl, d, ws, M, ss, r, wd, v, rfl, s1 _ _ hD, hs.same s1, lM, hwm, hw, lr, hv, hst wd hwm, fun T2 fA2 bA2 fc2 bh2 H2 s2 nT2 nf2 nb2 ta2 rw2 m1 m2 => ?_⟩
      have ta' := ta.same s2
      refine ⟨_, rfl, T2, _, 0, _, rfl, rfl, .inl (.inl ta2.1), rfl, _, rfl, T, _, 0, _, rfl, rfl, .inl (.inl ta'.1), rfl, _, _, rfl, rfl, _, rfl, ?_⟩
      by_cases hlt : hterm v r wd > hmax (ws.take i) v r
      · refine iteP (by omega) ⟨_, rfl, ?_⟩
        rw [Nat.max_eq_right (by omega)]
        exact ⟨s1.trans s2, T2, fA2, bA2, fc2, bh2, none_of s1 nT2, nf2.old s1, nb2.old s1, ta2, rw2, m1, m2, _, _, rfl⟩
      · refine iteN (by omega) ?_
        rw [Nat.max_eq_left (by omega)]
        exact ⟨s1.trans s2, T, fA, bA, fc, bh, nT, nf, nb, ta', rw_, l1, l2, _, _, rfl⟩
    · rintro σ H1 ⟨s1, T, fA, bA, fc, bh, nT, nf, nb, ta, rw_, l1, l2, k4, k5, rfl⟩
      rw [List.length_map, List.take_length] at ta rw_
      exact ⟨_, rfl, q T fA bA fc bh H1 s1 nT nf nb ta rw_ l1 l2⟩
end
section
variable {Pr : Program} {w : World} {K : PySem.W.Frag} {mg : Str → Option Value} {base : Heap} {f fL fS fH fB fA : Addr} {fd fdL fdS fdH fdB fdA : FuncData}
def StepV (H : Hp) (r wd : List Nat) (v : V) : Prop := (stp r wd = none ∧ v = .non) ∨ ∃ (p : Addr) (x : List Nat) (b : Bool), stp r wd = some (x, b) ∧ v = .ref p ∧ H p = some (.tup [tx x, .bl b])
theorem StepV.same {H H' : Hp} {r wd : List Nat} {v : V} (h : StepV H r wd v) (s : Same H H') : StepV H' r wd v := by
  rcases h with h | ⟨p, x, b, h1, h2, h3⟩
  · exact .inl h
  · exact .inr ⟨p, x, b, h1, h2, s _ _ h3⟩
def Behind (ss : List Stl) (r wd : List Nat) : Prop := ∀ x b, stp r wd = some (x, b) → ∃ s ∈ ss, s.r = x
def spAllS (K : PySem.W.Frag) : Sp := fun vs H Q _ => ∃ (c d : Addr) (ws : List (List Nat)) (ss : List Stl) (r : List Nat), vs = [.ref c, .ref d, tx r] ∧ SqL K H c (ws.map tx) ∧ H d = some (.dK (skv ss)) ∧ (ss.map Stl.r).Nodup ∧ ws.length ≤ 12 ∧ (∀ x ∈ ws, WordOk x) ∧ r.length ≤ 10 ∧
  ∀ (k : Bool) (H' : Hp), Same H H' → (k = true ↔ ∀ wd ∈ ws, Behind ss r wd) → Q (.bl k) H'
theorem scAllS : FnScope ["code", "settled", "rest", "steps", "step", "word"] ["code", "settled", "rest"] (defScope s__all_settled) := ⟨rfl, rfl, rfl, by decide +kernel, rfl, by decide +kernel, by decide +kernel⟩
theorem skv_some {ss : List Stl} {x : List Nat} (nd : (ss.map Stl.r).Nodup) : (valV (skv ss) (Sum.inr (S x))).isSome = true ↔ ∃ s ∈ ss, s.r = x := by
  constructor
  · intro h
    by_cases c : ∃ s ∈ ss, s.r = x
    · exact c
    · rw [skv_out fun s hs z => c ⟨s, hs, z⟩] at h
      cases h
  · rintro ⟨s, hs, e⟩
    have := skv_in nd hs
    rw [e] at this
    rw [this]
    rfl
theorem ok_allS (F : FnP K "_all_settled" s__all_settled f fd) (L : Has K mg "left_of" s_left_of ["text", "other"] fL fdL) (S1 : Has K mg "stepped" s_stepped ["rest", "word"] fS fdS) (B : Bl mg) : FnOk Pr w K mg base CX0 3 f fd ["code", "settled", "rest"] (spAllS K) := by
  have GS : FnOk Pr w K mg base CX0 2 fS fdS ["rest", "word"] spStep := ok_stepped S1.F L B
  refine F.okN scAllS (fun vs H Q E h => ?_) (fun cdv A' outer s H vs Q E hr h => ?_)
  · obtain ⟨c, d, ws, ss, r, rfl, _⟩ := h
    rfl
  · obtain ⟨c, d, ws, ss, r, rfl, hC, hDict, nd, hn, hw, lr, q⟩ := h
    have hu : (A'.deeper (envOfC "_all_settled" (defScope s__all_settled) s.heap.objs.size f cdv)).units + 1 < cLine := by
      have := hr.units
      omega
    refine ⟨_, pss_cons (ps_setLc (i := 3) (own := [("word", 5)]) (g := gName 5) (tt := tYes) rfl scAllS.nd rfl rfl (sw_true rfl rfl rfl (by decide +kernel)) (pi_list (pv 0)) (blkOk_by (own := [("word", 5)]) (N := ["code", "settled", "rest", "steps", "step", "word"]) (sc := defScope s__all_settled) (by decide +kernel))
        (fun _ _ _ _ _ => pg_name (i := 5) scAllS.nd rfl (Or.inl rfl)) (fun _ _ _ _ _ => pts_nil)
        (fun _ _ _ _ _ => pe_call GS hr (by rfl) S1.g S1.F.kp S1.b .nil pass0 (pa_cons (pv 2) (pa_cons (pv 5) pa_nil))))
      (pss_one (ps_ret (pe_callB (cr_all rfl) (by rfl) B.mAll (by decide +kernel) (pa_cons (pe_lc (own := [("step", 4)]) (g := gName 4) (tt := tTest (tOp (fun x y H Q => y = .non ∧ Q (.bl (!decide (x = .non))) H) (tVar 4) (tC .non))) (te := tDIn (tOp (rIxT K) (tVar 4) (tC (.int 0))) (tVar 1)) rfl scAllS.nd (pi_list (pv 3)) (blkOk_by (own := [("step", 4)]) (N := ["code", "settled", "rest", "steps", "step", "word"]) (sc := defScope s__all_settled) (by decide +kernel))
        (fun _ _ _ _ _ => pg_name (i := 4) scAllS.nd rfl (Or.inl rfl)) (fun _ _ _ _ _ => pts_one (pt_cmpR op_notN (pv 4) pe_non (nomark _)))
        (fun _ _ _ _ _ => pe_cmp (pc_din hu (pe_ix (r := rIxT K) ix_tup (pv 4) pe_int (fun _ _ => rfl)) (pv 1)) rfl)) pa_nil)))), ?_⟩
    refine ⟨_, rfl, c, rfl, ⟨_, hC⟩, fun D hD => ?_⟩
    have s1 := same_upd (o := .lst []) hD
    refine lc_list (K := K) (a := c) (xs := ws.map tx) (fun i H1 => Same H H1 ∧ ∃ vs : List V, H1 D = some (.lst vs) ∧ vs.length = i ∧ ∀ (j : Nat) v wd, vs[j]? = some v → ws[j]? = some wd → StepV H1 r wd v) ?_ ?_ ?_ ?_
    · exact ⟨s1, [], upd_same, rfl, fun j v wd h => by simp at h⟩
    · exact fun i H1 _ hh => hh.1.seq hC
    · rintro i x H1 hx ⟨sm, vs, eD, el, hv⟩
      have hi : i < ws.length := by
        have := (List.getElem?_eq_some_iff.mp hx).1
        rw [List.length_map] at this
        exact this
      have hxe : x = tx ws[i] := by
        rw [List.getElem?_map, List.getElem?_eq_getElem hi] at hx
        exact (Option.some.inj hx).symm
      subst hxe
      have lw := (hw ws[i] (List.getElem_mem hi)).2.1
      have fin : ∀ (v : V) (H2 : Hp), Same H1 H2 → StepV H2 r ws[i] v → ∃ acc, H2 D = some (.lst acc) ∧ acc.length < sizeLine ∧ (Same H (upd H2 D (.lst (acc ++ [v]))) ∧ ∃ vs : List V, (upd H2 D (.lst (acc ++ [v]))) D = some (.lst vs) ∧ vs.length = i + 1 ∧ ∀ (j : Nat) u wd, vs[j]? = some u → ws[j]? = some wd → StepV (upd H2 D (.lst (acc ++ [v]))) r wd u) := fun v H2 s2 sv => by
        have kp : ∀ v wd, StepV H2 r wd v → StepV (upd H2 D (.lst (vs ++ [v]))) r wd v := fun v wd h => by
          rcases h with h | ⟨p, x, b, h1, h2, h3⟩
          · exact .inl h
          · exact .inr ⟨p, x, b, h1, h2, by rw [upd_ne (ne_of h3 (s2 _ _ eD) fun z => nomatch z)]; exact h3⟩
        have kp2 : ∀ u v wd, StepV H2 r wd v → StepV (upd H2 D (.lst (vs ++ [u]))) r wd v := fun u v wd h => by
          rcases h with h | ⟨p, x, b, h1, h2, h3⟩
          · exact .inl h
          · exact .inr ⟨p, x, b, h1, h2, by rw [upd_ne (ne_of h3 (s2 _ _ eD) fun z => nomatch z)]; exact h3⟩
        refine ⟨vs, s2 _ _ eD, small1000 (by omega), fun b o e => ?_, vs ++ [v], upd_same, by rw [List.length_append, el]; rfl, fun j u wd h1 h2 => ?_⟩
        · rw [upd_ne (ne_of_none e hD)]
          exact s2 _ _ (sm _ _ e)
        · by_cases hj : j < vs.length
          · rw [List.getElem?_append_left hj] at h1
            exact kp2 v u wd ((hv j u wd h1 h2).same s2)
          · have hj2 : j = i := by
              have := (List.getElem?_eq_some_iff.mp h1).1
              rw [List.length_append, List.length_singleton] at this
              omega
            subst hj2
            rw [List.getElem?_append_right (by omega), el, Nat.sub_self] at h1
            have e1 : v = u := Option.some.inj h1
            rw [List.getElem?_eq_getElem hi] at h2
            rw [← e1, ← Option.some.inj h2]
            exact kp2 v v _ sv
      refine ⟨rfl, ?_⟩
      refine ⟨_, rfl, _, rfl, r, ws[i], rfl, by omega, by omega, fun en => ?_, fun x b es p H2 s2 np ep => ?_⟩
      · exact fin .non H1 (Same.refl _) (.inl ⟨en, rfl⟩)
      · exact fin (.ref p) H2 s2 (.inr ⟨p, x, b, es, rfl, ep⟩)
    · rintro H1 ⟨sm, vs, eD, el, hv⟩
      rw [List.length_map] at el
      refine ⟨_, rfl, D, rfl, ⟨_, seqL eD⟩, fun D2 hD2 => ?_⟩
      have s2 := same_upd (o := .lst []) hD2
      refine lc_list (K := K) (a := D) (xs := vs) (fun i H2 => Same H1 H2 ∧ ∃ bs : List Bool, H2 D2 = some (.lst (bs.map V.bl)) ∧ bs.length ≤ i ∧ (bs.all id = true ↔ ∀ (j : Nat) wd, j < i → ws[j]? = some wd → Behind ss r wd)) ?_ ?_ ?_ ?_
      · exact ⟨s2, [], upd_same, Nat.le_refl _, ⟨fun _ j wd h => absurd h (Nat.not_lt_zero j), fun _ => rfl⟩⟩
      · exact fun i H2 _ hh => hh.1.seq (seqL eD)
      · rintro i v H2 hx ⟨sm2, bs, eD2, bl, hb⟩
        have hi : i < vs.length := (List.getElem?_eq_some_iff.mp hx).1
        have hiw : i < ws.length := by omega
        have sv := (hv i v ws[i] hx (List.getElem?_eq_getElem hiw)).same sm2
        have nxt : ∀ {p : Prop}, ((∀ (j : Nat) wd, j < i → ws[j]? = some wd → Behind ss r wd) ∧ Behind ss r ws[i] ↔ p) → ((∀ (j : Nat) wd, j < i + 1 → ws[j]? = some wd → Behind ss r wd) ↔ p) := fun {p} h => by
          rw [← h]
          constructor
          · exact fun g => ⟨fun j wd hj e => g j wd (by omega) e, g i _ (Nat.lt_succ_self i) (List.getElem?_eq_getElem hiw)⟩
          · rintro ⟨g1, g2⟩ j wd hj e
            by_cases hji : j = i
            · subst hji
              rw [List.getElem?_eq_getElem hiw] at e
              rw [← Option.some.inj e]
              exact g2
            · exact g1 j wd (by omega) e
        refine ⟨rfl, ?_⟩
        rcases sv with ⟨en, rfl⟩ | ⟨p, x, b, es, rfl, ep⟩
        · refine ⟨_, rfl, rfl, _, rfl, iteNP rfl ?_⟩
          refine ⟨sm2, bs, eD2, by omega, ?_⟩
          rw [nxt ⟨fun h => hb.mpr h.1, fun h => ⟨hb.mp h, fun x b e => by rw [en] at e; cases e⟩⟩]
        · refine ⟨_, rfl, rfl, _, rfl, iteNN (fun z => nomatch z) ?_⟩
          have dg := DGet.k (k := Sum.inr (S x)) (sm2 _ _ (sm _ _ hDict))
          refine ⟨_, rfl, p, _, 0, _, rfl, rfl, .inl (.inl ep), rfl, _, rfl, d, _, rfl, dg, ?_⟩
          refine ⟨_, eD2, by rw [List.length_map]; exact small1000 (by omega), ?_⟩
          refine ⟨fun b o e => ?_, bs ++ [(valV (skv ss) (Sum.inr (S x))).isSome], ?_, by rw [List.length_append]; show bs.length + 1 ≤ i + 1; omega, ?_⟩
          · rw [upd_ne (ne_of_none e hD2)]
            exact sm2 _ _ e
          · rw [upd_same, List.map_append]
            rfl
          · rw [List.all_append, Bool.and_eq_true, hb]
            refine (nxt ⟨fun h => ⟨h.1, ?ga⟩, fun h => ⟨h.1, fun x' b' e => ?gb⟩⟩).symm
            case ga =>
              show ((valV (skv ss) (Sum.inr (S x))).isSome && true) = true
              rw [Bool.and_true]
              exact (skv_some nd).mpr (h.2 x b es)
            case gb =>
              rw [es] at e
              cases e
              have h2 : ((valV (skv ss) (Sum.inr (S x))).isSome && true) = true := h.2
              rw [Bool.and_true] at h2
              exact (skv_some nd).mp h2
      · rintro H2 ⟨sm2, bs, eD2, bl, hb⟩
        refine ⟨D2, bs, rfl, seqL eD2, q _ H2 (sm.trans sm2) (hb.trans ⟨fun h wd hwd => ?_, fun h j wd hj e => h wd (List.mem_of_getElem? e)⟩)⟩
        obtain ⟨j, hj, e⟩ := List.mem_iff_getElem.mp hwd
        exact h j wd (by omega) (by rw [List.getElem?_eq_getElem hj, e])
end
section
def hOf : List Stl → List Nat → Nat
  | [], _ => 0
  | s :: ss, x => if s.r = x then s.h else hOf ss x
theorem hOf_in : ∀ {ss : List Stl} {s : Stl}, (ss.map Stl.r).Nodup → s ∈ ss → hOf ss s.r = s.h
  | [], _, _, h => nomatch h
  | e :: ss, s, nd, h => by
    obtain ⟨n1, n2⟩ := List.nodup_cons.mp nd
    rcases List.mem_cons.mp h with z | z
    · rw [z]
      exact if_pos rfl
    · have ne : ¬ e.r = s.r := fun q => n1 (by rw [q]; exact List.mem_map.mpr ⟨s, z, rfl⟩)
      exact (if_neg ne).trans (hOf_in n2 z)
/-- rests that go on to rests of the same kind have no height -/
theorem Hgt.endless {ws : List (List Nat)} {U : List Nat → Prop} (hw : ∀ x ∈ ws, WordOk x) (h : ∀ r, U r → ∃ w ∈ ws, ∃ x b, stp r w = some (x, b) ∧ U x) {r : List Nat} (hr : U r) : Hgt ws r none := by
  have step : ∀ {r w x : List Nat} {b : Bool} {k : Nat}, w ∈ ws → stp r w = some (x, b) → (if b = true then r.length else w.length) + hN ws k x ≤ hN ws (k + 1) r := fun {r w x b k} hw e => by
    have := (fold_ge (hterm (hN ws k) r) ws 0).2 w hw
    unfold hterm at this
    rw [e] at this
    exact this
  have two : ∀ (m : Nat) (r : List Nat), U r → m ≤ hN ws (2 * m) r := by
    intro m
    induction m with
    | zero => exact fun _ _ => Nat.zero_le _
    | succ m ih =>
      intro r hr
      obtain ⟨w, hw1, x, b, e1, ux⟩ := h r hr
      obtain ⟨w2, hw2, y, b2, e2, uy⟩ := h x ux
      have i := ih y uy
      have s2 := step (k := 2 * m) hw2 e2
      have s1 := step (k := 2 * m + 1) hw1 e1
      have e : 2 * (m + 1) = 2 * m + 1 + 1 := by omega
      rw [e]
      have l1 := (hw w hw1).1
      have l2 := (hw w2 hw2).1
      by_cases hn : r = []
      · have hx : x = w := by
          subst hn
          unfold stp at e1
          by_cases c : hit w [] = true
          · have := hit_iff.mp c
            rw [List.take_nil] at this
            rw [← this] at l1
            exact absurd l1 (by decide)
          · rw [if_neg c, if_pos (hit_nil w)] at e1
            cases e1
            rfl
        have lx : 1 ≤ x.length := by rw [hx]; exact l1
        have : 1 ≤ (if b2 = true then x.length else w2.length) := by split <;> omega
        omega
      · have lr : 1 ≤ r.length := List.length_pos_iff.mpr hn
        have : 1 ≤ (if b = true then r.length else w.length) := by split <;> omega
        omega
  exact fun m => ⟨2 * (m + 1), two (m + 1) r hr⟩
/-- the table as it grows -/
structure SI (ws fr : List (List Nat)) (H0 : Hp) (d : Addr) (ss : List Stl) (H : Hp) : Prop where
  s : Same H0 H
  nd : H0 d = none
  hd : H d = some (.dK (skv ss))
  tb : Ss ws ss.length H ss
  hg : ∀ s ∈ ss, Hgt ws s.r (some s.h)
  new : ∀ s ∈ ss, H0 s.T = none ∧ H0 s.fA = none ∧ H0 s.bA = none
  sub : ∀ s ∈ ss, s.r ∈ fr
theorem SI.same {ws fr : List (List Nat)} {H0 H H1 : Hp} {d : Addr} {ss : List Stl} (I : SI ws fr H0 d ss H) (s : Same H H1) : SI ws fr H0 d ss H1 := ⟨I.s.trans s, I.nd, s _ _ I.hd, I.tb.same s, I.hg, I.new, I.sub⟩
theorem SI.len {ws fr : List (List Nat)} {H0 H : Hp} {d : Addr} {ss : List Stl} (I : SI ws fr H0 d ss H) (hf : fr.length ≤ 132) : ss.length ≤ 132 := by
  have h := nodup_sub I.tb.nd (m := fr) fun x hx => by
    obtain ⟨s, hs, e⟩ := List.mem_map.mp hx
    rw [← e]
    exact I.sub s hs
  rw [List.length_map] at h
  omega
/-- one more rest -/
theorem SI.add {ws fr : List (List Nat)} {H0 H H1 : Hp} {d T fA bA : Addr} {ss : List Stl} {r : List Nat} {fc bh : List (List Nat)} (I : SI ws fr H0 d ss H) (s : Same H H1) (hr : r ∈ fr) (hn : ∀ s ∈ ss, s.r ≠ r) (hb : ∀ wd ∈ ws, Behind ss r wd)
    (nT : H T = none) (nf : NewOr H ss fA) (nb : NewOr H ss bA) (ta : TupAt H1 T (hmax ws (hOf ss) r) fA bA fc bh) (g : Rws ws r (hmax ws (hOf ss) r) fc bh) (l1 : fc.length ≤ ss.length + 1) (l2 : bh.length ≤ ss.length + 1) :
    SI ws fr H0 d (ss ++ [⟨r, hmax ws (hOf ss) r, T, fA, bA, fc, bh⟩]) (upd H1 d (.dK (putK (skv ss) (Sum.inr (S r)) (.ref T)))) := by
  have I1 := I.same s
  have kp : ∀ b o, (∀ kvs, o ≠ .dK kvs) → H1 b = some o → (upd H1 d (.dK (putK (skv ss) (Sum.inr (S r)) (.ref T)))) b = some o := fun b o n e => by rw [upd_ne (ne_of e I1.hd (n _))]; exact e
  have old : ∀ a, NewOr H ss a → H0 a = none := fun a h => by
    rcases h with h | ⟨s, hs, h | h⟩
    · exact none_of I.s h
    · rw [h]
      exact (I.new s hs).2.1
    · rw [h]
      exact (I.new s hs).2.2
  have ll : (ss ++ [(⟨r, hmax ws (hOf ss) r, T, fA, bA, fc, bh⟩ : Stl)]).length = ss.length + 1 := by rw [List.length_append, List.length_singleton]
  refine ⟨fun b o e => ?_, I.nd, ?_, ⟨fun x hx => ?_, fun x hx => ?_, fun x hx => ?_, fun x hx => ?_, ?_⟩, fun x hx => ?_, fun x hx => ?_, fun x hx => ?_⟩
  · rw [upd_ne (ne_of_none e I.nd)]
    exact I1.s _ _ e
  · rw [upd_same, putK_new _ (skv_out hn)]
    unfold skv
    rw [List.map_append]
    rfl
  · rcases List.mem_append.mp hx with z | z
    · have a := I1.tb.at_ x z
      exact ⟨kp _ _ (fun _ z => nomatch z) a.t, kp _ _ (fun _ z => nomatch z) a.f, kp _ _ (fun _ z => nomatch z) a.b⟩
    · rw [List.mem_singleton.mp z]
      exact ⟨kp _ _ (fun _ z => nomatch z) ta.1, kp _ _ (fun _ z => nomatch z) ta.2.1, kp _ _ (fun _ z => nomatch z) ta.2.2⟩
  · rcases List.mem_append.mp hx with z | z
    · exact I.tb.g x z
    · rw [List.mem_singleton.mp z]
      exact g
  · rw [ll]
    rcases List.mem_append.mp hx with z | z
    · have := I.tb.l1 x z
      omega
    · rw [List.mem_singleton.mp z]
      exact l1
  · rw [ll]
    rcases List.mem_append.mp hx with z | z
    · have := I.tb.l2 x z
      omega
    · rw [List.mem_singleton.mp z]
      exact l2
  · rw [List.map_append]
    refine List.nodup_append.mpr ⟨I.tb.nd, by simp, fun a ha b hb => ?_⟩
    obtain ⟨s, hs, rfl⟩ := List.mem_map.mp ha
    have : b = r := by simpa using hb
    rw [this]
    exact hn s hs
  · rcases List.mem_append.mp hx with z | z
    · exact I.hg x z
    · rw [List.mem_singleton.mp z]
      refine Hgt.step fun w hw x b e => ?_
      obtain ⟨s, hs, es⟩ := hb w hw x b e
      have := I.hg s hs
      rw [es] at this
      rw [← es, hOf_in I.tb.nd hs, es]
      exact this
  · rcases List.mem_append.mp hx with z | z
    · exact I.new x z
    · rw [List.mem_singleton.mp z]
      exact ⟨none_of I.s nT, old _ nf, old _ nb⟩
  · rcases List.mem_append.mp hx with z | z
    · exact I.sub x z
    · rw [List.mem_singleton.mp z]
      exact hr
/-- all that is settled in a table of rests -/
structure Std (ws : List (List Nat)) (fr : List (List Nat)) (H H' : Hp) (ss : List Stl) : Prop where
  tb : Ss ws 132 H' ss
  hg : ∀ s ∈ ss, Hgt ws s.r (some s.h)
  new : ∀ s ∈ ss, H s.T = none ∧ H s.fA = none ∧ H s.bA = none
  sub : ∀ s ∈ ss, s.r ∈ fr
  far : ∀ r ∈ fr, (∀ s ∈ ss, s.r ≠ r) → Hgt ws r none ∧ ∃ w ∈ ws, ∃ x b, stp r w = some (x, b) ∧ x ∈ fr ∧ ∀ s ∈ ss, s.r ≠ x
variable {Pr : Program} {w : World} {K : PySem.W.Frag} {mg : Str → Option Value} {base : Heap} {f fL fS fH fB fA : Addr} {fd fdL fdS fdH fdB fdA : FuncData}
def Closed (ws fr : List (List Nat)) : Prop := ∀ r ∈ fr, ∀ w ∈ ws, ∀ x b, stp r w = some (x, b) → x ∈ fr
def spSettled : Sp := fun vs H Q _ => ∃ (c m : Addr) (ws : List (List Nat)) (fs : List Ent), vs = [.ref c, .ref m] ∧ H c = some (.lst (ws.map tx)) ∧ H m = some (.dK (fkv fs)) ∧ (fs.map Ent.r).Nodup ∧ Closed ws (fs.map Ent.r) ∧ (∀ r ∈ fs.map Ent.r, r.length ≤ 10) ∧ fs.length ≤ 132 ∧ ws.length ≤ 12 ∧ (∀ x ∈ ws, WordOk x) ∧
  ∀ (d : Addr) (ss : List Stl) (H' : Hp), Same H H' → H d = none → H' d = some (.dK (skv ss)) → Std ws (fs.map Ent.r) H H' ss → Q (.ref d) H'
theorem scSettled : FnScope ["code", "met", "found", "left", "ready", "rest"] ["code", "met"] (defScope s__settled) := ⟨rfl, rfl, rfl, by decide +kernel, rfl, by decide +kernel, by decide +kernel⟩
theorem ok_settled (F : FnP K "_settled" s__settled f fd) (GA : FnOk Pr w K mg base CX0 3 fA fdA ["code", "settled", "rest"] (spAllS K)) (AS : Has K mg "_all_settled" s__all_settled ["code", "settled", "rest"] fA fdA)
    (GH : FnOk Pr w K mg base CX0 4 fH fdH ["code", "settled", "rest"] spHighest) (HI : Has K mg "_highest" s__highest ["code", "settled", "rest"] fH fdH) (B : Bl mg) : FnOk Pr w K mg base CX0 5 f fd ["code", "met"] spSettled := by
  have GA4 : FnOk Pr w K mg base CX0 4 fA fdA ["code", "settled", "rest"] (spAllS K) := GA.mono (by decide)
  refine F.okN scSettled (fun vs H Q E h => ?_) (fun cdv A' outer s H vs Q E hr h => ?_)
  · obtain ⟨c, m, ws, fs, rfl, _⟩ := h
    rfl
  · obtain ⟨c, m, ws, fs, rfl, hC, hM, ndf, hcl, l10, l132, hn, hw, q⟩ := h
    have hu : (A'.deeper (envOfC "_settled" (defScope s__settled) s.heap.objs.size f cdv)).units + 1 < cLine := by
      have := hr.units
      omega
    refine ⟨_, pss_cons (ps_set (i := 2) scSettled.nd rfl (.inr rfl) pe_dnewK)
      (pss_cons (ps_set (i := 3) scSettled.nd rfl (.inl rfl) (pe_callTy (call_list_dK rfl) (by rfl) B.mList boot_list (pa_cons (pv 1) pa_nil)))
      (pss_one (ps_while PassesOwn.never (pt_val pe_bl)
        (pss_cons (ps_setLc (i := 4) (own := [("rest", 5)]) (g := gName 5) rfl scSettled.nd rfl rfl (sw_true rfl rfl rfl (by decide +kernel)) (pi_list (pv 3)) (blkOk_by (own := [("rest", 5)]) (N := ["code", "met", "found", "left", "ready", "rest"]) (sc := defScope s__settled) (by decide +kernel))
            (fun _ _ _ _ _ => pg_name (i := 5) scSettled.nd rfl (Or.inl rfl)) (fun _ _ _ _ _ => pts_one (pt_val (pe_call GA4 hr (by rfl) AS.g AS.F.kp AS.b .nil pass0 (pa_cons (pv 0) (pa_cons (pv 2) (pa_cons (pv 5) pa_nil)))))) (fun _ _ _ _ _ => pv 5))
        (pss_cons (ps_if (pt_cmpR op_eq (pe_callB call_len_seq (by rfl) B.mL boot_len (pa_cons (pv 4) pa_nil)) pe_int (nomark _)) (pss_one (ps_ret (pv 2))) pss_nil)
        (pss_cons (ps_for PassesOwn.never rfl (pi_list (pv 4)) (pg_name (i := 5) scSettled.nd rfl (Or.inl rfl))
            (pss_one (ps_dput hu (pv 2) (pv 5) (pe_call GH hr (by rfl) HI.g HI.F.kp HI.b .nil pass0 (pa_cons (pv 0) (pa_cons (pv 2) (pa_cons (pv 5) pa_nil)))) rfl)))
        (pss_one (ps_setLc (i := 3) (own := [("rest", 5)]) (g := gName 5) (tt := tTest (tDNotIn (tVar 5) (tVar 2))) rfl scSettled.nd rfl rfl (sw_true rfl rfl rfl (by decide +kernel)) (pi_list (pv 3)) (blkOk_by (own := [("rest", 5)]) (N := ["code", "met", "found", "left", "ready", "rest"]) (sc := defScope s__settled) (by decide +kernel))
            (fun _ _ _ _ _ => pg_name (i := 5) scSettled.nd rfl (Or.inl rfl)) (fun _ _ _ _ _ => pts_one (pt_cmp (pc_dnotin hu (pv 5) (pv 2)))) (fun _ _ _ _ _ => pv 5))))))))), ?_⟩
    refine fun d nd => ?_
    have s1 := same_upd (o := .dK []) nd
    refine ⟨_, rfl, m, fkv fs, rfl, s1 _ _ hM, fun la nla => ?_⟩
    have ek : (fkv fs).map (fun kv => kV kv.1) = (fs.map Ent.r).map tx := by
      unfold fkv
      rw [List.map_map, List.map_map]
      rfl
    rw [ek]
    have s2 := same_upd (o := .lst ((fs.map Ent.r).map tx)) nla
    have I0 : SI ws (fs.map Ent.r) H d [] (upd (upd H d (.dK [])) la (.lst ((fs.map Ent.r).map tx))) := ⟨s1.trans s2, nd, s2 _ _ upd_same, ⟨fun x hx => absurd hx List.not_mem_nil, fun x hx => absurd hx List.not_mem_nil, fun x hx => absurd hx List.not_mem_nil, fun x hx => absurd hx List.not_mem_nil, List.nodup_nil⟩, fun x hx => absurd hx List.not_mem_nil, fun x hx => absurd hx List.not_mem_nil, fun x hx => absurd hx List.not_mem_nil⟩
    generalize hfr : fs.map Ent.r = fr at *
    have lfr : fr.length ≤ 132 := by rw [← hfr, List.length_map]; exact l132
    refine ⟨fun k σ H1 => ∃ (ss : List Stl) (ls : List (List Nat)) (la : Addr), SI ws fr H d ss H1 ∧ H1 la = some (.lst (ls.map tx)) ∧ ls.Nodup ∧ (∀ r, r ∈ ls ↔ r ∈ fr ∧ ∀ s ∈ ss, s.r ≠ r) ∧ k = ls.length ∧ ∃ k4 k5 : Option V, σ = [some (.ref c), some (.ref m), some (.ref d), some (.ref la), k4, k5], ⟨_, [], fr, la, I0, upd_same, ndf, fun r => ⟨fun h => ⟨h, fun s hs => absurd hs List.not_mem_nil⟩, fun h => h.1⟩, rfl, _, _, rfl⟩, ?_⟩
    rintro k σ H1 ⟨ss, ls, la, I, el, ndl, hls, rfl, k4, k5, rfl⟩
    refine ⟨true, rfl, ?_⟩
    refine iteT ⟨fun σ H4 => ∃ (ss : List Stl) (ls' : List (List Nat)) (la : Addr), SI ws fr H d ss H4 ∧ H4 la = some (.lst (ls'.map tx)) ∧ ls'.Nodup ∧ (∀ r, r ∈ ls' ↔ r ∈ fr ∧ ∀ s ∈ ss, s.r ≠ r) ∧ ls'.length < ls.length ∧ ∃ k4 k5 : Option V, σ = [some (.ref c), some (.ref m), some (.ref d), some (.ref la), k4, k5], fun σ' H4 ⟨ss', ls', la', a1, a2, a3, a4, a5, a6⟩ => ⟨ls'.length, a5, ss', ls', la', a1, a2, a3, a4, rfl, a6⟩, ?_⟩
    have lsl : ls.length ≤ 132 := by
      have h := nodup_sub ndl (m := fr) fun x hx => ((hls x).mp hx).1
      omega
    have lss := I.len lfr
    have hC1 := I.s _ _ hC
    refine ⟨_, rfl, la, rfl, ⟨_, seqL el⟩, fun D hD => ?_⟩
    have sD := same_upd (o := .lst []) hD
    refine lc_list (K := K) (a := la) (xs := ls.map tx) (fun i H2 => Same H1 H2 ∧ ∃ rs : List (List Nat), H2 D = some (.lst (rs.map tx)) ∧ rs.Sublist (ls.take i) ∧ ∀ r ∈ ls.take i, r ∈ rs ↔ ∀ wd ∈ ws, Behind ss r wd) ?_ ?_ ?_ ?_
    · exact ⟨sD, [], upd_same, List.nil_sublist _, fun r hr => absurd hr (by rw [List.take_zero]; exact List.not_mem_nil)⟩
    · exact fun i H2 _ hh => hh.1.seq (seqL el)
    · rintro i x H2 hx ⟨sm, rs, eD, sub, hrs⟩
      have hi : i < ls.length := by
        have := (List.getElem?_eq_some_iff.mp hx).1
        rw [List.length_map] at this
        exact this
      have hxe : x = tx ls[i] := by
        rw [List.getElem?_map, List.getElem?_eq_getElem hi] at hx
        exact (Option.some.inj hx).symm
      subst hxe
      have htk : ls.take (i + 1) = ls.take i ++ [ls[i]] := by rw [List.take_add_one, List.getElem?_eq_getElem hi]; rfl
      have hrm : ls[i] ∈ fr := ((hls _).mp (List.getElem_mem hi)).1
      have hnt : ls[i] ∉ ls.take i := fun z => by
        have := ndl.sublist (List.take_sublist (i + 1) ls)
        rw [htk] at this
        exact (List.nodup_append.mp this).2.2 _ z _ (List.mem_singleton.mpr rfl) rfl
      rw [htk]
      generalize ls[i] = r at *
      have lrs : rs.length ≤ 132 := by
        have h1 := sub.length_le
        have h2 := List.length_take_le i ls
        omega
      refine ⟨rfl, _, rfl, _, rfl, _, rfl, c, d, ws, ss, r, rfl, seqL (sm _ _ hC1), sm _ _ I.hd, I.tb.nd, hn, hw, l10 r hrm, fun kb H3 s3 hk => ⟨kb, rfl, ?_⟩⟩
      cases kb with
      | true =>
        refine iteT ⟨_, rfl, _, s3 _ _ eD, by rw [List.length_map]; exact small1000 (by omega), ?_⟩
        refine ⟨fun b o e => ?_, rs ++ [r], ?_, sub.append (List.Sublist.refl _), fun r' hr' => ?_⟩
        · rw [upd_ne (ne_of_none e hD)]
          exact s3 _ _ (sm _ _ e)
        · rw [upd_same, List.map_append]
          rfl
        · rcases List.mem_append.mp hr' with z | z
          · rw [List.mem_append, hrs r' z]
            refine ⟨fun h => h.elim id fun h => ?_, .inl⟩
            rw [List.mem_singleton.mp h]
            exact hk.mp rfl
          · rw [List.mem_singleton.mp z]
            exact ⟨fun _ => hk.mp rfl, fun _ => List.mem_append_right _ (List.mem_singleton.mpr rfl)⟩
      | false =>
        refine iteF ⟨sm.trans s3, rs, s3 _ _ eD, sub.trans (List.sublist_append_left _ _), fun r' hr' => ?_⟩
        rcases List.mem_append.mp hr' with z | z
        · exact hrs r' z
        · rw [List.mem_singleton.mp z]
          exact ⟨fun h => absurd (sub.subset h) hnt, fun h => absurd (hk.mpr h) (by decide)⟩
    · rintro H2 ⟨sm, rs, eD, sub, hrs⟩
      rw [List.length_map, List.take_length] at sub hrs
      have I2 := I.same sm
      refine ⟨_, rfl, D, _, rfl, .inl (seqL eD), rfl, _, rfl, ?_⟩
      by_cases hr0 : rs = []
      · subst hr0
        refine iteP rfl ⟨_, rfl, q d ss H2 I2.s I2.nd I2.hd ⟨⟨I2.tb.at_, I2.tb.g, fun x hx => Nat.le_trans (I2.tb.l1 x hx) lss, fun x hx => Nat.le_trans (I2.tb.l2 x hx) lss, I2.tb.nd⟩, I2.hg, I2.new, I2.sub, fun r hr hns => ?_⟩⟩
        have stp1 : ∀ r, (r ∈ fr ∧ ∀ s ∈ ss, s.r ≠ r) → ∃ w ∈ ws, ∃ x b, stp r w = some (x, b) ∧ (x ∈ fr ∧ ∀ s ∈ ss, s.r ≠ x) := fun r hr => by
          have h1 := (hrs r ((hls r).mpr hr))
          have h2 : ¬ ∀ wd ∈ ws, Behind ss r wd := fun z => absurd (h1.mpr z) List.not_mem_nil
          by_cases h3 : ∃ w ∈ ws, ∃ x b, stp r w = some (x, b) ∧ ∀ s ∈ ss, s.r ≠ x
          · obtain ⟨w, hw1, x, b, e1, e2⟩ := h3
            exact ⟨w, hw1, x, b, e1, hcl r hr.1 w hw1 x b e1, e2⟩
          · refine absurd (fun wd hwd x b e => ?_) h2
            by_cases h4 : ∃ s ∈ ss, s.r = x
            · exact h4
            · exact absurd ⟨wd, hwd, x, b, e, fun s hs z => h4 ⟨s, hs, z⟩⟩ h3
        refine ⟨Hgt.endless hw (U := fun r => r ∈ fr ∧ ∀ s ∈ ss, s.r ≠ r) stp1 ⟨hr, hns⟩, ?_⟩
        obtain ⟨w, h1, x, b, h2, h3, h4⟩ := stp1 r ⟨hr, hns⟩
        exact ⟨w, h1, x, b, h2, h3, h4⟩
      · have hl0 : rs.length ≠ 0 := fun z => hr0 (List.length_eq_zero_iff.mp z)
        refine iteN (fun z => hl0 ?_) ?_
        · have z2 := V.int.inj z
          rw [List.length_map] at z2
          omega
        have ndr : rs.Nodup := ndl.sublist sub
        have lrs : rs.length ≤ 132 := by have := sub.length_le; omega
        refine ⟨_, rfl, D, rfl, ⟨_, seqL eD⟩, for_list (K := K) (a := D) (xs := rs.map tx) (fun i σ H3 => (∃ ss' : List Stl, SI ws fr H d ss' H3 ∧ ∀ r, (∃ s ∈ ss', s.r = r) ↔ (∃ s ∈ ss, s.r = r) ∨ r ∈ rs.take i) ∧ H3 la = some (.lst (ls.map tx)) ∧ H3 D = some (.lst (rs.map tx)) ∧ ∃ k5 : Option V, σ = [some (.ref c), some (.ref m), some (.ref d), some (.ref la), some (.ref D), k5]) ?_ (fun i σ H3 _ hh => seqL hh.2.2.1) ?_ ?_⟩
        · exact ⟨⟨ss, I2, fun r => ⟨.inl, fun h => h.elim id fun z => absurd z (by rw [List.take_zero]; exact List.not_mem_nil)⟩⟩, sm _ _ el, eD, _, rfl⟩
        · rintro i x σ H3 hx ⟨⟨ss', I3, hss⟩, el3, eD3, k5, rfl⟩
          have hi : i < rs.length := by
            have := (List.getElem?_eq_some_iff.mp hx).1
            rw [List.length_map] at this
            exact this
          have hxe : x = tx rs[i] := by
            rw [List.getElem?_map, List.getElem?_eq_getElem hi] at hx
            exact (Option.some.inj hx).symm
          subst hxe
          have htk : rs.take (i + 1) = rs.take i ++ [rs[i]] := by rw [List.take_add_one, List.getElem?_eq_getElem hi]; rfl
          have hrl : rs[i] ∈ ls := sub.subset (List.getElem_mem hi)
          have hrd := (hrs _ hrl).mp (List.getElem_mem hi)
          have hnt : rs[i] ∉ rs.take i := fun z => by
            have := ndr.sublist (List.take_sublist (i + 1) rs)
            rw [htk] at this
            exact (List.nodup_append.mp this).2.2 _ z _ (List.mem_singleton.mpr rfl) rfl
          rw [htk]
          generalize rs[i] = r at *
          obtain ⟨hrf, hrn⟩ := (hls r).mp hrl
          have l3 := I3.len lfr
          have hb : ∀ wd ∈ ws, Behind ss' r wd := fun wd hwd x b e => by
            obtain ⟨s, hs, es⟩ := hrd wd hwd x b e
            exact (hss x).mpr (.inl ⟨s, hs, es⟩)
          have hn3 : ∀ s ∈ ss', s.r ≠ r := fun s hs e => by
            rcases (hss r).mp ⟨s, hs, e⟩ with ⟨s', h1, h2⟩ | z
            · exact hrn s' h1 h2
            · exact hnt z
          refine ⟨_, rfl, _, rfl, _, rfl, c, d, ws, ss'.length, ss', r, hOf ss', rfl, I3.s _ _ hC, I3.hd, I3.tb, by omega, hw, l10 r hrf, fun s hs => hOf_in I3.tb.nd hs, hb, fun T fA bA fc bh H4 s4 nT nf nb ta g m1 m2 => ?_⟩
          have lk : (skv ss').length < sizeLine := by
            unfold skv
            rw [List.length_map]
            show ss'.length < 2 ^ 24
            omega
          refine ⟨_, rfl, _, rfl, d, _, rfl, DPut.k (k := Sum.inr (S r)) (s4 _ _ I3.hd) lk, ?_⟩
          have I4 := I3.add s4 hrf hn3 hb nT nf nb ta g m1 m2
          have kl : ∀ b xs, H3 b = some (.lst xs) → (upd H4 d (.dK (putK (skv ss') (Sum.inr (S r)) (.ref T)))) b = some (.lst xs) := fun b xs e => by
            rw [upd_ne (ne_of e I3.hd fun z => nomatch z)]
            exact s4 _ _ e
          refine ⟨⟨_, I4, fun r' => ?_⟩, kl _ _ el3, kl _ _ eD3, _, rfl⟩
          constructor
          · rintro ⟨s, hs, e⟩
            rcases List.mem_append.mp hs with z | z
            · rcases (hss r').mp ⟨s, z, e⟩ with y | y
              · exact .inl y
              · exact .inr (List.mem_append_left _ y)
            · rw [List.mem_singleton.mp z] at e
              exact .inr (List.mem_append_right _ (List.mem_singleton.mpr e.symm))
          · rintro (h | h)
            · obtain ⟨s, hs, e⟩ := (hss r').mpr (.inl h)
              exact ⟨s, List.mem_append_left _ hs, e⟩
            · rcases List.mem_append.mp h with z | z
              · obtain ⟨s, hs, e⟩ := (hss r').mpr (.inr z)
                exact ⟨s, List.mem_append_left _ hs, e⟩
              · exact ⟨_, List.mem_append_right _ (List.mem_singleton.mpr rfl), (List.mem_singleton.mp z).symm⟩
        · rintro σ H3 ⟨⟨ss', I3, hss⟩, el3, eD3, k5, rfl⟩
          rw [List.length_map, List.take_length] at hss
          refine ⟨_, rfl, la, rfl, ⟨_, seqL el3⟩, fun D3 hD3 => ?_⟩
          have sD3 := same_upd (o := .lst []) hD3
          refine lc_list (K := K) (a := la) (xs := ls.map tx) (fun i H4 => Same H3 H4 ∧ ∃ ls' : List (List Nat), H4 D3 = some (.lst (ls'.map tx)) ∧ ls'.Sublist (ls.take i) ∧ ∀ r, r ∈ ls' ↔ r ∈ ls.take i ∧ ∀ s ∈ ss', s.r ≠ r) ?_ ?_ ?_ ?_
          · exact ⟨sD3, [], upd_same, List.nil_sublist _, fun r => ⟨fun h => absurd h List.not_mem_nil, fun h => absurd h.1 (by rw [List.take_zero]; exact List.not_mem_nil)⟩⟩
          · exact fun i H4 _ hh => hh.1.seq (seqL el3)
          · rintro i x H4 hx ⟨sm4, ls', e4, sub4, hl4⟩
            have hi : i < ls.length := by
              have := (List.getElem?_eq_some_iff.mp hx).1
              rw [List.length_map] at this
              exact this
            have hxe : x = tx ls[i] := by
              rw [List.getElem?_map, List.getElem?_eq_getElem hi] at hx
              exact (Option.some.inj hx).symm
            subst hxe
            have htk : ls.take (i + 1) = ls.take i ++ [ls[i]] := by rw [List.take_add_one, List.getElem?_eq_getElem hi]; rfl
            rw [htk]
            generalize ls[i] = r at *
            have ll4 : ls'.length ≤ 132 := by
              have h1 := sub4.length_le
              have h2 := List.length_take_le i ls
              omega
            refine ⟨rfl, _, rfl, _, rfl, d, _, rfl, DGet.k (k := Sum.inr (S r)) (sm4 _ _ I3.hd), _, rfl, ?_⟩
            by_cases hin : ∃ s ∈ ss', s.r = r
            · have hv := (skv_some I3.tb.nd).mpr hin
              rw [hv]
              refine iteF ⟨sm4, ls', e4, sub4.trans (List.sublist_append_left _ _), fun r' => ?_⟩
              rw [hl4 r', List.mem_append]
              refine ⟨fun h => ⟨.inl h.1, h.2⟩, fun h => ⟨h.1.elim id fun z => ?_, h.2⟩⟩
              obtain ⟨s, hs, e⟩ := hin
              exact absurd (e.trans (List.mem_singleton.mp z).symm) (h.2 s hs)
            · have hno : ∀ s ∈ ss', s.r ≠ r := fun s hs e => hin ⟨s, hs, e⟩
              rw [skv_out hno]
              refine iteT ⟨_, rfl, _, e4, by rw [List.length_map]; exact small1000 (by omega), fun b o e => ?_, ls' ++ [r], ?_, sub4.append (List.Sublist.refl _), fun r' => ?_⟩
              · rw [upd_ne (ne_of_none e hD3)]
                exact sm4 _ _ e
              · rw [upd_same, List.map_append]
                rfl
              · rw [List.mem_append, List.mem_append, hl4 r']
                constructor
                · rintro (h | h)
                  · exact ⟨.inl h.1, h.2⟩
                  · rw [List.mem_singleton.mp h]
                    exact ⟨.inr (List.mem_singleton.mpr rfl), hno⟩
                · rintro ⟨h | h, h2⟩
                  · exact .inl ⟨h, h2⟩
                  · exact .inr h
          · rintro H4 ⟨sm4, ls', e4, sub4, hl4⟩
            rw [List.length_map, List.take_length] at sub4 hl4
            refine ⟨ss', ls', D3, I3.same sm4, e4, ndl.sublist sub4, fun r => ?_, ?_, _, _, rfl⟩
            · rw [hl4 r, hls r]
              refine ⟨fun h => ⟨h.1.1, h.2⟩, fun h => ⟨⟨h.1, fun s hs e => ?_⟩, h.2⟩⟩
              obtain ⟨s', h1, h2⟩ := (hss r).mpr (.inl ⟨s, hs, e⟩)
              exact h.2 s' h1 h2
            · refine Nat.lt_of_le_of_ne sub4.length_le fun e => ?_
              have e5 := sub4.eq_of_length e
              obtain ⟨r, hr⟩ := List.exists_mem_of_ne_nil rs hr0
              have h1 : r ∈ ls' := by rw [e5]; exact sub.subset hr
              obtain ⟨s, h2, h3⟩ := (hss r).mpr (.inr hr)
              exact ((hl4 r).mp h1).2 s h2 h3
end
section
variable {Pr : Program} {w : World} {K : PySem.W.Frag} {mg : Str → Option Value} {base : Heap} {P : Addr} {fdI : FuncData}
theorem inSettled (D : Defs K mg) (B : Bl mg) : ∃ f fd, Has K mg "_settled" s__settled ["code", "met"] f fd ∧ FnOk Pr w K mg base CX0 5 f fd ["code", "met"] spSettled := by
  obtain ⟨f1, d1, L⟩ := D.d_left_of
  obtain ⟨f2, d2, S1⟩ := D.d_stepped
  obtain ⟨f3, d3, SH⟩ := D.d_shared
  obtain ⟨f4, d4, BW⟩ := D.d__by_word
  obtain ⟨f5, d5, HI⟩ := D.d__highest
  obtain ⟨f6, d6, AS⟩ := D.d__all_settled
  obtain ⟨f7, d7, SE⟩ := D.d__settled
  have GB := ok_byWord (Pr := Pr) (w := w) (base := base) BW.F L S1 SH B
  exact ⟨f7, d7, SE, ok_settled SE.F (ok_allS AS.F L S1 B) AS (ok_highest HI.F GB BW) HI B⟩
/-- what a table of meetings has for the settling -/
theorem Met.closed {ws : List (List Nat)} {H H' : Hp} {fs : List Ent} (m : Met ws H H' fs) : Closed ws (fs.map Ent.r) := fun r hr w hw x b e => by
  obtain ⟨f, hf, rfl⟩ := List.mem_map.mp hr
  obtain ⟨g, hg, eg⟩ := m.all x _ (.go (m.fe f hf).2.2.2.1.1 hw e)
  exact List.mem_map.mpr ⟨g, hg, eg⟩
theorem Met.short {ws : List (List Nat)} {H H' : Hp} {fs : List Ent} (m : Met ws H H' fs) (hw : ∀ x ∈ ws, WordOk x) : ∀ r ∈ fs.map Ent.r, r.length ≤ 10 := fun r hr => by
  obtain ⟨f, hf, rfl⟩ := List.mem_map.mp hr
  exact ((m.fe f hf).2.2.2.1.1.let hw).2
end
section
def hAt : List Stl → List Nat → Option Nat
  | [], _ => none
  | s :: ss, x => if s.r = x then some s.h else hAt ss x
theorem hAt_in : ∀ {ss : List Stl} {s : Stl}, (ss.map Stl.r).Nodup → s ∈ ss → hAt ss s.r = some s.h
  | [], _, _, h => nomatch h
  | e :: ss, s, nd, h => by
    obtain ⟨n1, n2⟩ := List.nodup_cons.mp nd
    rcases List.mem_cons.mp h with z | z
    · rw [z]
      exact if_pos rfl
    · have ne : ¬ e.r = s.r := fun q => n1 (by rw [q]; exact List.mem_map.mpr ⟨s, z, rfl⟩)
      exact (if_neg ne).trans (hAt_in n2 z)
theorem hAt_out : ∀ {ss : List Stl} {x : List Nat}, (∀ s ∈ ss, s.r ≠ x) → hAt ss x = none
  | [], _, _ => rfl
  | e :: ss, x, h => (if_neg (h e List.mem_cons_self)).trans (hAt_out fun s hs => h s (List.mem_cons_of_mem _ hs))
def hpr (ss : List Stl) (fs : List Ent) : List (List Nat × Option Nat) := fs.map fun f => (f.r, hAt ss f.r)
theorem Std.hgt {ws fr : List (List Nat)} {H H' : Hp} {ss : List Stl} (s : Std ws fr H H' ss) {r : List Nat} (hr : r ∈ fr) : Hgt ws r (hAt ss r) := by
  by_cases h : ∃ x ∈ ss, x.r = r
  · obtain ⟨x, hx, rfl⟩ := h
    rw [hAt_in s.tb.nd hx]
    exact s.hg x hx
  · have hn : ∀ x ∈ ss, x.r ≠ r := fun x hx e => h ⟨x, hx, e⟩
    rw [hAt_out hn]
    exact (s.far r hr hn).1
theorem hd_of {ws : List (List Nat)} {H H' H0 H1 : Hp} {fs : List Ent} {ss : List Stl} (m : Met ws H H' fs) (s : Std ws (fs.map Ent.r) H0 H1 ss) : HD ws (hpr ss fs) := by
  refine ⟨by unfold hpr; rw [List.map_map]; exact m.nd, fun r h => ⟨fun hh => ?_, fun ⟨⟨n, o⟩, hh⟩ => ?_⟩⟩
  · obtain ⟨f, hf, e⟩ := List.mem_map.mp hh
    have e1 := (Prod.mk.inj e).1
    have e2 := (Prod.mk.inj e).2
    rw [← e2, ← e1]
    exact ⟨⟨f.n, (m.fe f hf).2.2.2.1.1⟩, s.hgt (List.mem_map.mpr ⟨f, hf, rfl⟩)⟩
  · obtain ⟨f, hf, e⟩ := m.all r n o
    have h2 := s.hgt (r := r) (List.mem_map.mpr ⟨f, hf, e⟩)
    rw [hh.one h2]
    exact List.mem_map.mpr ⟨f, hf, by rw [e]⟩
theorem HD.perm {ws vs : List (List Nat)} (p : vs.Perm ws) {hs : List (List Nat × Option Nat)} (h : HD vs hs) : HD ws hs :=
  ⟨h.1, fun r g => (h.2 r g).trans ⟨fun ⟨⟨n, o⟩, q⟩ => ⟨⟨n, o.perm fun x => p.mem_iff⟩, q.perm p⟩, fun ⟨⟨n, o⟩, q⟩ => ⟨⟨n, o.perm fun x => p.symm.mem_iff⟩, q.perm p.symm⟩⟩⟩
theorem hkv_out : ∀ {hs : List (List Nat × Option Nat)} {r : List Nat}, (∀ e ∈ hs, e.1 ≠ r) → valV (hkv hs) (Sum.inr (S r)) = none
  | [], _, _ => rfl
  | e :: es, r, h => by
    have ne : ¬ (Sum.inr (S e.1) : Key) = Sum.inr (S r) := fun q => h e List.mem_cons_self (S_inj (Sum.inr.inj q))
    exact (valV_neg ne).trans (hkv_out fun f hf => h f (List.mem_cons_of_mem _ hf))
variable {Pr : Program} {w : World} {K : PySem.W.Frag} {mg : Str → Option Value} {base : Heap} {P f fC fM fS : Addr} {fd fdI fdC fdM fdS : FuncData}
theorem scHeights : FnScope ["words", "code", "met", "settled", "found", "rest"] ["words"] (defScope s_heights) := ⟨rfl, rfl, rfl, by decide +kernel, rfl, by decide +kernel, by decide +kernel⟩
theorem ok_heights (F : FnP K "heights" s_heights f fd) (C : Has K mg "checked" sChecked ["words"] fC fdC) (I : HasI K mg base P fdI) (GM : FnOk Pr w K mg base CX0 4 fM fdM ["code"] spMeet) (M : Has K mg "meetings" s_meetings ["code"] fM fdM)
    (GS : FnOk Pr w K mg base CX0 5 fS fdS ["code", "met"] spSettled) (SE : Has K mg "_settled" s__settled ["code", "met"] fS fdS) (B : Bl mg) : FnOk Pr w K mg base CX0 6 f fd ["words"] (spHeights P) := by
  have GC : FnOk Pr w K mg base CX0 5 fC fdC ["words"] (spChecked P) := (ok_checked C.F I B).mono (by decide)
  have GM5 : FnOk Pr w K mg base CX0 5 fM fdM ["code"] spMeet := GM.mono (by decide)
  refine F.okN scHeights (fun vs H Q E h => ?_) (fun cdv A' outer s H vs Q E hr h => ?_)
  · obtain ⟨b, ws, rfl, _⟩ := h
    rfl
  · obtain ⟨b, ws, rfl, hB, hc, hT, q⟩ := h
    have hu : (A'.deeper (envOfC "heights" (defScope s_heights) s.heap.objs.size f cdv)).units + 1 < cLine := by
      have := hr.units
      omega
    refine ⟨_, pss_cons (ps_set (i := 1) scHeights.nd rfl (.inl rfl) (pe_call GC hr (by rfl) C.g C.F.kp C.b .nil pass0 (pa_cons (pv 0) pa_nil)))
      (pss_cons (ps_set (i := 2) scHeights.nd rfl (.inl rfl) (pe_call GM5 hr (by rfl) M.g M.F.kp M.b .nil pass0 (pa_cons (pv 1) pa_nil)))
      (pss_cons (ps_set (i := 3) scHeights.nd rfl (.inl rfl) (pe_call GS hr (by rfl) SE.g SE.F.kp SE.b .nil pass0 (pa_cons (pv 1) (pa_cons (pv 2) pa_nil))))
      (pss_cons (ps_set (i := 4) scHeights.nd rfl (.inl rfl) pe_dnewK)
      (pss_cons (ps_lock (ps_for PassesOwn.never rfl (pi_keys (pv 2)) (pg_name (i := 5) scHeights.nd rfl (Or.inl rfl))
        (pss_one (ps_dput hu (pv 4) (pv 5) (pe_ifExp (pt_cmp (pc_din hu (pv 5) (pv 3))) (pe_ix (r := rIxT K) ix_tup (pe_dget hu (pv 3) (pv 5) (fun _ _ => rfl)) pe_int (fun _ _ => rfl)) pe_non) rfl))))
      (pss_one (ps_ret (pv 4))))))), ?_⟩
    refine ⟨_, rfl, b, ws, rfl, hB, hc, hT, fun r vs H1 m1 nr eR perm _ => ?_⟩
    have hw : ∀ x ∈ vs, WordOk x := fun x hx => hc.2.2 x (perm.mem_iff.mp hx)
    have hn : vs.length ≤ 12 := by rw [perm.length_eq]; exact hc.1
    refine ⟨_, rfl, r, vs, rfl, eR, hn, hw, fun d fs H2 t2 nd ed met => ?_⟩
    refine ⟨_, rfl, _, rfl, r, d, vs, fs, rfl, t2 _ _ eR, ed, met.nd, met.closed, met.short hw, met.len, hn, hw, fun e ss H3 t3 ne ee std => ?_⟩
    refine fun g ng => ?_
    have s4 := same_upd (o := .dK []) ng
    have t24 := t3.trans s4
    have m4 : Sm P H _ := (m1.andThen t2).andThen t24
    have g0 : H g = none := Sm.free hT ((m1.andThen t2).andThen t3) ng
    have ed4 := t24 _ _ ed
    have ee4 := s4 _ _ ee
    have ss4 := std.tb.same s4
    have eg4 : (upd H3 g (.dK [])) g = some (.dK []) := upd_same
    generalize upd H3 g (.dK []) = H4 at *
    refine ⟨d, _, ed4, trivial, fun od => ⟨_, rfl, d, od, rfl, .inl ⟨fkv fs, upd_same, ?_⟩⟩⟩
    have nde : d ≠ e := ne_of_none (t2 |> fun _ => ed) ne
    have ndg : d ≠ g := ne_of_none (t3 _ _ ed) ng
    have neg : e ≠ g := ne_of_none ee ng
    have wk := walk_keys (d := d) (o := od) (kvs := fkv fs)
    refine L2.for_it wk (fun i σ H5 => (∀ b o, b ≠ g → (upd H4 d (.frz od (.dK (fkv fs)))) b = some o → H5 b = some o) ∧ H5 g = some (.dK (hkv (hpr ss (fs.take i)))) ∧ ∃ k5 : Option V, σ = [some (.ref b), some (.ref r), some (.ref d), some (.ref e), some (.ref g), k5]) ?_ (fun i σ H5 _ hh => hh.1 _ _ ndg upd_same) ?_ ?_
    · exact ⟨fun b o _ q => q, by rw [upd_ne (Ne.symm ndg)]; exact eg4, _, rfl⟩
    · rintro i x σ H6 H5 hi ⟨kp, eg, k5, rfl⟩ ⟨rfl, k, v, ek, rfl⟩
      have hi' : i < fs.length := by
        unfold fkv at hi
        rw [List.length_map] at hi
        exact hi
      have ekv : (fkv fs)[i]? = some (Sum.inr (S fs[i].r), V.ref fs[i].T) := by
        unfold fkv
        rw [List.getElem?_map, List.getElem?_eq_getElem hi']
        rfl
      rw [ekv] at ek
      have ek1 := (Prod.mk.inj (Option.some.inj ek)).1
      subst ek1
      have hfm : fs[i] ∈ fs := List.getElem_mem hi'
      have htk : fs.take (i + 1) = fs.take i ++ [fs[i]] := by rw [List.take_add_one, List.getElem?_eq_getElem hi']; rfl
      generalize fs[i] = f at hfm htk ⊢
      have hnew : ∀ g ∈ fs.take i, g.r ≠ f.r := fun g hg z => by
        have nd2 : ((fs.take (i + 1)).map Ent.r).Nodup := by
          rw [List.map_take]
          exact met.nd.sublist (List.take_sublist _ _)
        rw [htk, List.map_append] at nd2
        exact (List.nodup_append.mp nd2).2.2 g.r (List.mem_map.mpr ⟨g, hg, rfl⟩) f.r (by simp) z
      have ee5 := kp e _ neg (by rw [upd_ne (Ne.symm nde)]; exact ee4)
      have lk : (hkv (hpr ss (fs.take i))).length < sizeLine := by
        rw [hkv_len]
        unfold hpr
        rw [List.length_map, List.length_take]
        have := met.len
        show _ < 2 ^ 24
        omega
      have fin : ∀ u, u = hv (hAt ss f.r) → ∃ σ', σ' = ([some (.ref b), some (.ref r), some (.ref d), some (.ref e), some (.ref g), k5] : L2.St).set 5 (some (tx f.r)) ∧ (∀ b o, b ≠ g → (upd H4 d (.frz od (.dK (fkv fs)))) b = some o → (upd H5 g (.dK (putK (hkv (hpr ss (fs.take i))) (Sum.inr (S f.r)) u))) b = some o) ∧ (upd H5 g (.dK (putK (hkv (hpr ss (fs.take i))) (Sum.inr (S f.r)) u))) g = some (.dK (hkv (hpr ss (fs.take (i + 1))))) ∧ ∃ k5 : Option V, σ' = [some (.ref b), some (.ref r), some (.ref d), some (.ref e), some (.ref g), k5] := fun u hu2 => by
        refine ⟨_, rfl, fun b o nb q => by rw [upd_ne nb]; exact kp b o nb q, ?_, _, rfl⟩
        rw [upd_same, htk, putK_new _ (hkv_out fun y hy => ?_), hu2]
        · unfold hkv hpr
          rw [List.map_append, List.map_append]
          rfl
        · obtain ⟨f', hf', rfl⟩ := List.mem_map.mp hy
          exact hnew f' hf'
      refine ⟨_, rfl, _, rfl, e, _, rfl, DGet.k (k := Sum.inr (S f.r)) ee5, _, rfl, ?_⟩
      by_cases hin : ∃ s ∈ ss, s.r = f.r
      · rw [(skv_some ss4.nd).mpr hin]
        obtain ⟨s, hs, es⟩ := hin
        have ev := skv_in ss4.nd hs
        rw [es] at ev
        have dg : DGet H5 e (tx f.r) (some (.ref s.T)) := by
          have := DGet.k (k := Sum.inr (S f.r)) ee5
          rw [ev] at this
          exact this
        have sT : H5 s.T = some (.tup [.int (s.h : Int), .ref s.fA, .ref s.bA]) := by
          have a := (ss4.at_ s hs).t
          exact kp _ _ (ne_of a eg4 fun z => nomatch z) (by rw [upd_ne (ne_of a ed4 fun z => nomatch z)]; exact a)
        refine iteT ⟨_, rfl, _, rfl, e, _, rfl, dg, s.T, _, 0, _, rfl, rfl, .inl (.inl sT), rfl, ?_⟩
        refine ⟨_, rfl, _, rfl, g, _, rfl, DPut.k (k := Sum.inr (S f.r)) eg lk, ?_⟩
        obtain ⟨σ', e1, e2⟩ := fin (.int (s.h : Int)) (by rw [← es, hAt_in ss4.nd hs]; rfl)
        subst e1
        exact e2
      · have hno : ∀ s ∈ ss, s.r ≠ f.r := fun s hs z => hin ⟨s, hs, z⟩
        rw [skv_out hno]
        refine iteF ⟨_, rfl, _, rfl, g, _, rfl, DPut.k (k := Sum.inr (S f.r)) eg lk, ?_⟩
        obtain ⟨σ', e1, e2⟩ := fin .non (by rw [hAt_out hno]; rfl)
        subst e1
        exact e2
    · rintro σ H5 ⟨kp, eg, k5, rfl⟩
      have el : fs.take (fkv fs).length = fs := by
        unfold fkv
        rw [List.length_map, List.take_length]
      rw [el] at eg
      refine ⟨kp _ _ ndg upd_same, ?_⟩
      have k6 : ∀ b o, b ≠ g → H4 b = some o → (upd H5 d (.dK (fkv fs))) b = some o := fun b o nb q => by
        by_cases hb : b = d
        · rw [hb, upd_same]
          rw [hb, ed4] at q
          exact q
        · rw [upd_ne hb]
          exact kp b o nb (by rw [upd_ne hb]; exact q)
      refine ⟨_, rfl, q g (hpr ss fs) _ ⟨?_, fun b o n q => k6 b o (ne_of_none q g0) (m4.keep _ _ n q)⟩ g0 (by rw [upd_ne (Ne.symm ndg)]; exact eg) ((hd_of met std).perm perm)⟩
      obtain ⟨ps, z, z2⟩ := m4.tab
      exact ⟨ps, k6 _ _ (Ne.symm (tab_free hT g0)) z, z2⟩
theorem inHeights (D : Defs K mg) (I : HasI K mg base P fdI) (B : Bl mg) : ∃ f fd, Has K mg "heights" s_heights ["words"] f fd ∧ FnOk Pr w K mg base CX0 6 f fd ["words"] (spHeights P) := by
  obtain ⟨f1, d1, C⟩ := D.d_checked
  obtain ⟨f2, d2, M, GM⟩ := inMeet (Pr := Pr) (w := w) (base := base) D B
  obtain ⟨f3, d3, SE, GS⟩ := inSettled (Pr := Pr) (w := w) (base := base) D B
  obtain ⟨f4, d4, L⟩ := D.d_heights
  exact ⟨f4, d4, L, ok_heights L.F C I GM M GS SE B⟩
end
/-! ### the wait -/
theorem ltc_pre2 : ∀ {a : List Nat} {n : Nat}, n < a.length → PySem.Spec.ltCps (a.take n) a = true
  | [], _, h => absurd h (Nat.not_lt_zero _)
  | _ :: _, 0, _ => rfl
  | x :: a, n + 1, h => by
    have ih := ltc_pre2 (a := a) (n := n) (Nat.lt_of_succ_lt_succ h)
    show (decide (x < x) || (x == x && PySem.Spec.ltCps (a.take n) a)) = true
    rw [ih]
    simp
def Wt (ws : List (List Nat)) : Option Nat → Prop
  | none => ∃ o ∈ ws, ∃ w ∈ ws, w ≠ o ∧ hit o w = true ∧ Hgt ws (w.drop o.length) none
  | some m => (∀ o ∈ ws, ∀ w ∈ ws, w ≠ o → hit o w = true → ∃ h, Hgt ws (w.drop o.length) (some h) ∧ o.length + h ≤ m) ∧
      (∀ o ∈ ws, ∀ w ∈ ws, w ≠ o → hit o w = false → hit w o = false → shd w o ≤ m) ∧
      (m = 0 ∨ (∃ o ∈ ws, ∃ w ∈ ws, w ≠ o ∧ hit o w = true ∧ ∃ h, Hgt ws (w.drop o.length) (some h) ∧ m = o.length + h) ∨ ∃ o ∈ ws, ∃ w ∈ ws, w ≠ o ∧ hit o w = false ∧ hit w o = false ∧ m = shd w o)
theorem Wt.le {ws : List (List Nat)} {m n : Nat} (h : Wt ws (some m)) (g : Wt ws (some n)) : m ≤ n := by
  rcases h.2.2 with z | ⟨o, ho, w, hw, ne, hh, k, hk, e⟩ | ⟨o, ho, w, hw, ne, h1, h2, e⟩
  · omega
  · obtain ⟨k', hk', le⟩ := g.1 o ho w hw ne hh
    have := hk.one hk'
    have := Option.some.inj this
    omega
  · have := g.2.1 o ho w hw ne h1 h2
    omega
theorem Wt.one {ws : List (List Nat)} : ∀ {a b : Option Nat}, Wt ws a → Wt ws b → a = b
  | none, none, _, _ => rfl
  | some m, some n, h, g => by rw [Nat.le_antisymm (h.le g) (g.le h)]
  | none, some n, ⟨o, ho, w, hw, ne, hh, k⟩, g => by
    obtain ⟨k', hk', _⟩ := g.1 o ho w hw ne hh
    cases k.one hk'
  | some n, none, g, ⟨o, ho, w, hw, ne, hh, k⟩ => by
    obtain ⟨k', hk', _⟩ := g.1 o ho w hw ne hh
    cases k.one hk'
theorem Wt.perm {vs ws : List (List Nat)} (p : vs.Perm ws) : ∀ {a : Option Nat}, Wt vs a → Wt ws a
  | none, ⟨o, ho, w, hw, ne, hh, k⟩ => ⟨o, p.mem_iff.mp ho, w, p.mem_iff.mp hw, ne, hh, k.perm p⟩
  | some m, ⟨h1, h2, h3⟩ => by
    refine ⟨fun o ho w hw ne hh => ?_, fun o ho w hw ne a b => h2 o (p.mem_iff.mpr ho) w (p.mem_iff.mpr hw) ne a b, ?_⟩
    · obtain ⟨h, k, le⟩ := h1 o (p.mem_iff.mpr ho) w (p.mem_iff.mpr hw) ne hh
      exact ⟨h, k.perm p, le⟩
    · rcases h3 with z | ⟨o, ho, w, hw, ne, hh, k, hk, e⟩ | ⟨o, ho, w, hw, ne, h1, h2, e⟩
      · exact .inl z
      · exact .inr (.inl ⟨o, p.mem_iff.mp ho, w, p.mem_iff.mp hw, ne, hh, k, hk.perm p, e⟩)
      · exact .inr (.inr ⟨o, p.mem_iff.mp ho, w, p.mem_iff.mp hw, ne, h1, h2, e⟩)
theorem Wt.few {ws : List (List Nat)} (h : ws.length < 2) : Wt ws (some 0) := by
  have no : ∀ o ∈ ws, ∀ w ∈ ws, w ≠ o → False := fun o ho w hw ne => by
    match ws, h, ho, hw with
    | [x], _, ho, hw => exact ne ((List.mem_singleton.mp hw).trans (List.mem_singleton.mp ho).symm)
  exact ⟨fun o ho w hw ne _ => (no o ho w hw ne).elim, fun o ho w hw ne _ _ => (no o ho w hw ne).elim, .inl rfl⟩
/-- two rows with unlike first words that share so much -/
structure Lrow (ws : List (List Nat)) (m : Nat) (one other : List (List Nat)) : Prop where
  w1 : ∀ x ∈ one, x ∈ ws
  w2 : ∀ x ∈ other, x ∈ ws
  hd : ∃ a b, one.head? = some a ∧ other.head? = some b ∧ a ≠ b
  sh : shd one.flatten other.flatten = m
def Fresh3 (H : Hp) (a b : Addr) : Prop := H a = none ∧ H b = none ∧ a ≠ b
section
variable {Pr : Program} {w : World} {K : PySem.W.Frag} {mg : Str → Option Value} {base : Heap} {f fL fS fH fM : Addr} {fd fdL fdS fdH fdM : FuncData}
def spLatest : Sp := fun vs H Q _ => ∃ (c : Addr) (ws : List (List Nat)), vs = [.ref c] ∧ H c = some (.lst (ws.map tx)) ∧ 2 ≤ ws.length ∧ ws.length ≤ 12 ∧ ws.Nodup ∧ sortedS (ws.map S) = true ∧ (∀ x ∈ ws, WordOk x) ∧
  (Wt ws none → ∀ H', Same H H' → Q .non H') ∧
  ∀ m, Wt ws (some m) → ∀ (T a b : Addr) (one other : List (List Nat)) (H' : Hp), Same H H' → H T = none → Fresh3 H a b → TupAt H' T m a b one other → Lrow ws m one other → one.length ≤ 133 → other.length ≤ 133 → Q (.ref T) H'
theorem scLatest : FnScope ["code", "settled", "best", "start", "word", "rest", "found", "height", "facing", "behind"] ["code"] (defScope s__latest) := ⟨rfl, rfl, rfl, by decide +kernel, rfl, by decide +kernel, by decide +kernel⟩
/-- what is known when some pairs have been looked at -/
structure LI (ws : List (List Nat)) (ps : List (Nat × Nat)) (H H1 : Hp) (T : Addr) : Prop where
  s : Same H H1
  ex : ∃ (M : Int) (a b : Addr) (one other : List (List Nat)), H T = none ∧ Fresh3 H a b ∧ H1 T = some (.tup [.int M, .ref a, .ref b]) ∧ H1 a = some (.lst (one.map tx)) ∧ H1 b = some (.lst (other.map tx)) ∧ one.length ≤ 133 ∧ other.length ≤ 133 ∧
    (∀ i j o w, (i, j) ∈ ps → ws[i]? = some o → ws[j]? = some w → (hit o w = true → ∃ h : Nat, Hgt ws (w.drop o.length) (some h) ∧ ((o.length + h : Nat) : Int) ≤ M) ∧ (hit o w = false → ((shd w o : Nat) : Int) ≤ M)) ∧
    ((ps = [] ∧ M = -1) ∨ ∃ m : Nat, M = (m : Int) ∧ Lrow ws m one other ∧ ((∃ o ∈ ws, ∃ w ∈ ws, w ≠ o ∧ hit o w = true ∧ ∃ h, Hgt ws (w.drop o.length) (some h) ∧ m = o.length + h) ∨ ∃ o ∈ ws, ∃ w ∈ ws, w ≠ o ∧ hit o w = false ∧ hit w o = false ∧ m = shd w o))
theorem LI.same {ws : List (List Nat)} {ps : List (Nat × Nat)} {H H1 H2 : Hp} {T : Addr} (I : LI ws ps H H1 T) (s : Same H1 H2) : LI ws ps H H2 T := by
  obtain ⟨s0, M, a, b, one, other, h1, h2, h3, h4, h5, h6⟩ := I
  exact ⟨s0.trans s, M, a, b, one, other, h1, h2, s _ _ h3, s _ _ h4, s _ _ h5, h6⟩
theorem two_words {ws : List (List Nat)} (nd : ws.Nodup) (so : sortedS (ws.map S) = true) {i j : Nat} {o w : List Nat} (hij : i < j) (ho : ws[i]? = some o) (hw : ws[j]? = some w) : w ≠ o ∧ hit w o = false := by
  obtain ⟨li, ei⟩ := List.getElem?_eq_some_iff.mp ho
  obtain ⟨lj, ej⟩ := List.getElem?_eq_some_iff.mp hw
  have h1 := List.pairwise_iff_getElem.mp (sorted_pw so) i j li lj hij
  have h2 := List.pairwise_iff_getElem.mp nd i j li lj hij
  rw [ei, ej] at h1 h2
  refine ⟨fun z => h2 z.symm, ?_⟩
  cases z : hit w o with
  | false => rfl
  | true =>
    have e := hit_iff.mp z
    have lt : w.length < o.length := by
      have le := hit_len z
      rcases Nat.lt_or_ge w.length o.length with q | q
      · exact q
      · rw [List.take_of_length_le q] at e
        exact absurd e h2
    have := ltc_pre2 lt
    rw [e, h1] at this
    cases this
/-- one more pair is looked at -/
theorem LI.step {ws : List (List Nat)} {ps : List (Nat × Nat)} {H H5 H6 : Hp} {T T6 a6 b6 : Addr} {i j m : Nat} {o wd : List Nat} {one other : List (List Nat)} (I : LI ws ps H H5 T) (ho : ws[i]? = some o) (hwd : ws[j]? = some wd) (ne : wd ≠ o) (noh : hit wd o = false)
    (s6 : Same H5 H6) (nT : H5 T6 = none) (nf : Fresh3 H5 a6 b6) (ta : TupAt H6 T6 m a6 b6 one other) (lr : Lrow ws m one other) (l1 : one.length ≤ 133) (l2 : other.length ≤ 133)
    (ht : (hit o wd = true ∧ ∃ h, Hgt ws (wd.drop o.length) (some h) ∧ m = o.length + h) ∨ (hit o wd = false ∧ m = shd wd o)) :
    ∃ (M : Int) (x y : V), H6 T = some (.tup [.int M, x, y]) ∧ ((m : Int) > M → LI ws (ps ++ [(i, j)]) H H6 T6) ∧ (¬ (m : Int) > M → LI ws (ps ++ [(i, j)]) H H6 T) := by
  obtain ⟨s0, M, a, b, on, ot, h1, h2, h3, h4, h5, h6, h7, h8, h9⟩ := I
  have hom := List.mem_of_getElem? ho
  have hwm := List.mem_of_getElem? hwd
  have cov : ∀ N : Int, M ≤ N → (m : Int) ≤ N → ∀ i' j' o' w', (i', j') ∈ ps ++ [(i, j)] → ws[i']? = some o' → ws[j']? = some w' → (hit o' w' = true → ∃ h : Nat, Hgt ws (w'.drop o'.length) (some h) ∧ ((o'.length + h : Nat) : Int) ≤ N) ∧ (hit o' w' = false → ((shd w' o' : Nat) : Int) ≤ N) := fun N hM hm i' j' o' w' hp ho' hw' => by
    rcases List.mem_append.mp hp with z | z
    · obtain ⟨c1, c2⟩ := h8 i' j' o' w' z ho' hw'
      refine ⟨fun hh => ?_, fun hh => ?_⟩
      · obtain ⟨h, k1, k2⟩ := c1 hh
        exact ⟨h, k1, by omega⟩
      · have := c2 hh
        omega
    · have e := List.mem_singleton.mp z
      cases e
      rw [ho] at ho'
      rw [hwd] at hw'
      cases ho'
      cases hw'
      rcases ht with ⟨q, h, k1, k2⟩ | ⟨q, k2⟩
      · refine ⟨fun _ => ⟨h, k1, by omega⟩, fun hh => by rw [q] at hh; cases hh⟩
      · exact ⟨(fun hh => by rw [q] at hh; cases hh), fun _ => by omega⟩
  have att : (∃ o ∈ ws, ∃ w ∈ ws, w ≠ o ∧ hit o w = true ∧ ∃ h, Hgt ws (w.drop o.length) (some h) ∧ m = o.length + h) ∨ ∃ o ∈ ws, ∃ w ∈ ws, w ≠ o ∧ hit o w = false ∧ hit w o = false ∧ m = shd w o := by
    rcases ht with ⟨q, h, k1, k2⟩ | ⟨q, k2⟩
    · exact .inl ⟨o, hom, wd, hwm, ne, q, h, k1, k2⟩
    · exact .inr ⟨o, hom, wd, hwm, ne, q, noh, k2⟩
  refine ⟨M, .ref a, .ref b, s6 _ _ h3, fun hgt => ?_, fun hle => ?_⟩
  · exact ⟨s0.trans s6, (m : Int), a6, b6, one, other, none_of s0 nT, ⟨none_of s0 nf.1, none_of s0 nf.2.1, nf.2.2⟩, ta.1, ta.2.1, ta.2.2, l1, l2, cov _ (by omega) (by omega), .inr ⟨m, rfl, lr, att⟩⟩
  · refine ⟨s0.trans s6, M, a, b, on, ot, h1, h2, s6 _ _ h3, s6 _ _ h4, s6 _ _ h5, h6, h7, cov _ (by omega) (by omega), ?_⟩
    rcases h9 with ⟨_, z⟩ | z
    · omega
    · exact .inr z
theorem ok_latest (F : FnP K "_latest" s__latest f fd) (L : Has K mg "left_of" s_left_of ["text", "other"] fL fdL) (SH : Has K mg "shared" s_shared ["text", "other"] fH fdH) (GM : FnOk Pr w K mg base CX0 4 fM fdM ["code"] spMeet) (M : Has K mg "meetings" s_meetings ["code"] fM fdM)
    (GS : FnOk Pr w K mg base CX0 5 fS fdS ["code", "met"] spSettled) (SE : Has K mg "_settled" s__settled ["code", "met"] fS fdS) (B : Bl mg) : FnOk Pr w K mg base CX0 6 f fd ["code"] spLatest := by
  have GL : FnOk Pr w K mg base CX0 5 fL fdL ["text", "other"] spLeft := (ok_left L.F B).mono (by decide)
  have GH : FnOk Pr w K mg base CX0 5 fH fdH ["text", "other"] spShared := (ok_shared SH.F B).mono (by decide)
  have GM5 : FnOk Pr w K mg base CX0 5 fM fdM ["code"] spMeet := GM.mono (by decide)
  refine F.okN scLatest (fun vs H Q E h => ?_) (fun cdv A' outer s H vs Q E hr h => ?_)
  · obtain ⟨c, ws, rfl, _⟩ := h
    rfl
  · obtain ⟨c, ws, rfl, hC, n2, n12, nd, so, hw, q0, q⟩ := h
    have hu : (A'.deeper (envOfC "_latest" (defScope s__latest) s.heap.objs.size f cdv)).units + 1 < cLine := by
      have := hr.units
      omega
    refine ⟨_, pss_cons (ps_set (i := 1) scLatest.nd rfl (.inl rfl) (pe_call GS hr (by rfl) SE.g SE.F.kp SE.b .nil pass0 (pa_cons (pv 0) (pa_cons (pe_call GM5 hr (by rfl) M.g M.F.kp M.b .nil pass0 (pa_cons (pv 0) pa_nil)) pa_nil))))
      (pss_cons (ps_set (i := 2) scLatest.nd rfl (.inl rfl) (pe_tup (pa_cons (pe_un un_neg pe_int) (pa_cons (pe_lst pa_nil) (pa_cons (pe_lst pa_nil) pa_nil)))))
      (pss_cons (ps_for PassesOwn.never rfl (pi_cmb (by rfl) B.mCombi (pa_cons (pv 0) (pa_cons pe_int pa_nil))) (pg_tup rfl (pgs_cons (pg_name (i := 3) scLatest.nd rfl (Or.inl rfl)) (pgs_cons (pg_name (i := 4) scLatest.nd rfl (Or.inl rfl)) pgs_nil)))
        (pss_cons (ps_set (i := 5) scLatest.nd rfl (.inl rfl) (pe_call GL hr (by rfl) L.g L.F.kp L.b .nil pass0 (pa_cons (pv 4) (pa_cons (pv 3) pa_nil))))
        (pss_cons (ps_if (pt_cmpR op_isN (pv 5) pe_non (nomark _))
            (pss_one (ps_set (i := 6) scLatest.nd rfl (.inl rfl) (pe_tup (pa_cons (pe_call GH hr (by rfl) SH.g SH.F.kp SH.b .nil pass0 (pa_cons (pv 4) (pa_cons (pv 3) pa_nil))) (pa_cons (pe_lst (pa_cons (pv 4) pa_nil)) (pa_cons (pe_lst (pa_cons (pv 3) pa_nil)) pa_nil))))))
            (pss_one (ps_if (pt_cmp (pc_din hu (pv 5) (pv 1)))
              (pss_cons (ps_asg (pe_dget hu (pv 1) (pv 5) (fun _ _ => rfl)) (pg_tup rfl (pgs_cons (pg_name (i := 7) scLatest.nd rfl (Or.inl rfl)) (pgs_cons (pg_name (i := 8) scLatest.nd rfl (Or.inl rfl)) (pgs_cons (pg_name (i := 9) scLatest.nd rfl (Or.inl rfl)) pgs_nil)))))
                (pss_one (ps_set (i := 6) scLatest.nd rfl (.inl rfl) (pe_tup (pa_cons (pe_op op_add (pe_callB call_len_str (by rfl) B.mL boot_len (pa_cons (pv 3) pa_nil)) (pv 7)) (pa_cons (pe_op op_cat (pe_lst (pa_cons (pv 4) pa_nil)) (pv 9)) (pa_cons (pe_op op_cat (pe_lst (pa_cons (pv 3) pa_nil)) (pv 8)) pa_nil)))))))
              (pss_one (ps_ret pe_non)))))
        (pss_one (ps_if (pt_cmpR op_gt (pe_ix (r := rIxT K) ix_tup (pv 6) pe_int (fun _ _ => rfl)) (pe_ix (r := rIxT K) ix_tup (pv 2) pe_int (fun _ _ => rfl)) (nomark _)) (pss_one (ps_set (i := 2) scLatest.nd rfl (.inl rfl) (pv 6))) pss_nil)))))
      (pss_one (ps_ret (pv 2))))), ?_⟩
    refine ⟨_, rfl, _, rfl, c, ws, rfl, hC, n12, hw, fun d fs H1 t1 nd1 ed met => ?_⟩
    refine ⟨c, d, ws, fs, rfl, t1 _ _ hC, ed, met.nd, met.closed, met.short hw, met.len, n12, hw, fun e ss H2 t2 ne ee std => ?_⟩
    have t12 := t1.trans t2
    refine ⟨1, rfl, Nat.zero_le _, fun a1 n1 => ⟨Nat.zero_le _, fun a2 n2' => ⟨by show 3 ≤ sizeLine; decide, fun a3 n3 => ?_⟩⟩⟩
    have u1 := same_upd (o := .lst []) n1
    have u2 := same_upd (o := .lst []) n2'
    have u3 := same_upd (o := .tup [.int (-1), .ref a1, .ref a2]) n3
    have u123 := (u1.trans u2).trans u3
    have I0 : LI ws [] H (upd (upd (upd H2 a1 (.lst [])) a2 (.lst [])) a3 (.tup [.int (-1), .ref a1, .ref a2])) a3 := by
      refine ⟨t12.trans u123, -1, a1, a2, [], [], none_of (t12.trans (u1.trans u2)) n3, ⟨none_of t12 n1, none_of (t12.trans u1) n2', fun z => ?_⟩, upd_same, (u2.trans u3) _ _ upd_same, u3 _ _ upd_same, Nat.zero_le _, Nat.zero_le _, fun i j o w h => absurd h List.not_mem_nil, .inl ⟨rfl, rfl⟩⟩
      rw [← z, upd_same] at n2'
      cases n2'
    have ee3 := u123 _ _ ee
    have ss3 := std.tb.same u123
    have hC3 := (t12.trans u123) _ _ hC
    generalize (upd (upd (upd H2 a1 (.lst [])) a2 (.lst [])) a3 (.tup [.int (-1), .ref a1, .ref a2])) = H3 at I0 ee3 ss3 hC3
    have lm : (ws.map tx).length = ws.length := List.length_map _
    have wk := walk_cmb (xs := ws.map tx)
    rw [lm] at wk
    refine ⟨_, rfl, c, ws.map tx, rfl, seqL hC3, by rw [lm]; exact n2, by rw [lm]; omega, L2.for_it wk (fun k σ H4 => (∃ T, LI ws ((prs ws.length).take k) H H4 T ∧ ∃ k3 k4 k5 k6 k7 k8 k9 : Option V, σ = [some (.ref c), some (.ref e), some (.ref T), k3, k4, k5, k6, k7, k8, k9]) ∧ Same H3 H4) ?_ (fun _ _ _ _ _ => trivial) ?_ ?_⟩
    · exact ⟨⟨a3, I0, _, _, _, _, _, _, _, rfl⟩, Same.refl _⟩
    · rintro k x σ H4 H5 hk ⟨⟨T, I, k3, k4, k5, k6, k7, k8, k9, rfl⟩, s34⟩ ⟨P2, i, j, x1, y1, ek, ex, ey, rfl, nP, rfl⟩
      obtain ⟨hij, hj⟩ := mem_prs.mp (List.mem_of_getElem? ek)
      rw [List.getElem?_map] at ex ey
      obtain ⟨o, ho, rfl⟩ := Option.map_eq_some_iff.mp ex
      obtain ⟨wd, hwd, rfl⟩ := Option.map_eq_some_iff.mp ey
      have hom := List.mem_of_getElem? ho
      have hwm := List.mem_of_getElem? hwd
      have lo := (hw o hom).2.1
      have lw := (hw wd hwm).2.1
      obtain ⟨ne, noh⟩ := two_words nd so hij ho hwd
      have sP := same_upd (o := .tup [tx o, tx wd]) nP
      have eP : (upd H4 P2 (.tup [tx o, tx wd])) P2 = some (.tup [tx o, tx wd]) := upd_same
      have I1 := I.same sP
      have s35 := s34.trans sP
      generalize upd H4 P2 (.tup [tx o, tx wd]) = H5 at *
      have htk : (prs ws.length).take (k + 1) = (prs ws.length).take k ++ [(i, j)] := by rw [List.take_add_one, ek]; rfl
      refine ⟨P2, _, rfl, .inl (.inl eP), rfl, _, _, rfl, _, _, rfl, rfl, ?_⟩
      refine ⟨_, rfl, _, rfl, wd, o, rfl, by omega, by omega, ?_⟩
      -- the end of a turn: the new tuple against the best one
      by_cases hh : hit o wd = true
      · rw [if_pos hh]
        refine ⟨_, rfl, rfl, _, rfl, iteN (fun z => nomatch z) ?_⟩
        refine ⟨_, rfl, _, rfl, e, _, rfl, DGet.k (k := Sum.inr (S (wd.drop o.length))) (s35 _ _ ee3), _, rfl, ?_⟩
        have hoff : Off ws (wd.drop o.length) wd.length := .new hwm hom ne hh
        obtain ⟨g, hg, eg⟩ := met.all _ _ hoff
        have hfr : wd.drop o.length ∈ fs.map Ent.r := List.mem_map.mpr ⟨g, hg, eg⟩
        by_cases hin : ∃ st ∈ ss, st.r = wd.drop o.length
        · rw [(skv_some ss3.nd).mpr hin]
          obtain ⟨st, hst, est⟩ := hin
          have ev := skv_in ss3.nd hst
          rw [est] at ev
          have dg : DGet H5 e (tx (wd.drop o.length)) (some (.ref st.T)) := by
            have := DGet.k (k := Sum.inr (S (wd.drop o.length))) (s35 _ _ ee3)
            rw [ev] at this
            exact this
          have sa := (ss3.at_ st hst).same s35
          have sg := ss3.g st hst
          have m1 := ss3.l1 st hst
          have m2 := ss3.l2 st hst
          have hgt := std.hg st hst
          rw [est] at sg hgt
          have one1 : (1 : Nat) ≤ sizeLine := by decide
          refine iteT ⟨_, rfl, _, rfl, e, .ref st.T, rfl, dg, ?_⟩
          refine ⟨st.T, _, rfl, .inl (.inl sa.t), rfl, _, _, rfl, _, _, rfl, _, _, rfl, rfl, ?_⟩
          refine ⟨_, rfl, S o, rfl, small_S (by omega), _, rfl, _, _, rfl, rfl, _, rfl, one1, fun b1 p1 => ?_⟩
          have v1 := same_upd (o := .lst [tx wd]) p1
          refine ⟨_, rfl, b1, st.bA, _, _, rfl, rfl, upd_same, v1 _ _ sa.b, by rw [List.length_map]; show 1 + st.bh.length ≤ 2 ^ 24; omega, fun b2 p2 => ?_⟩
          have v2 := same_upd (o := .lst ([tx wd] ++ st.bh.map tx)) p2
          refine ⟨_, rfl, one1, fun b3 p3 => ?_⟩
          have v3 := same_upd (o := .lst [tx o]) p3
          refine ⟨_, rfl, b3, st.fA, _, _, rfl, rfl, upd_same, (v1.trans (v2.trans v3)) _ _ sa.f, by rw [List.length_map]; show 1 + st.fc.length ≤ 2 ^ 24; omega, fun b4 p4 => ?_⟩
          have v4 := same_upd (o := .lst ([tx o] ++ st.fc.map tx)) p4
          refine ⟨by show 3 ≤ sizeLine; decide, fun b5 p5 => ?_⟩
          have ei : (((S o).length : Int) + (st.h : Int)) = ((o.length + st.h : Nat) : Int) := by rw [S_len]; omega
          have v5 := same_upd (o := .tup [.int (((S o).length : Int) + (st.h : Int)), .ref b2, .ref b4]) p5
          have v15 := (((v1.trans v2).trans v3).trans v4).trans v5
          have eT : (upd (upd (upd (upd (upd H5 b1 (.lst [tx wd])) b2 (.lst ([tx wd] ++ st.bh.map tx))) b3 (.lst [tx o])) b4 (.lst ([tx o] ++ st.fc.map tx))) b5 (.tup [.int (((S o).length : Int) + (st.h : Int)), .ref b2, .ref b4])) b5 = some (.tup [.int (((S o).length : Int) + (st.h : Int)), .ref b2, .ref b4]) := upd_same
          have e2 : (upd (upd (upd (upd (upd H5 b1 (.lst [tx wd])) b2 (.lst ([tx wd] ++ st.bh.map tx))) b3 (.lst [tx o])) b4 (.lst ([tx o] ++ st.fc.map tx))) b5 (.tup [.int (((S o).length : Int) + (st.h : Int)), .ref b2, .ref b4])) b2 = some (.lst ((wd :: st.bh).map tx)) := (v3.trans (v4.trans v5)) _ _ upd_same
          have e4 : (upd (upd (upd (upd (upd H5 b1 (.lst [tx wd])) b2 (.lst ([tx wd] ++ st.bh.map tx))) b3 (.lst [tx o])) b4 (.lst ([tx o] ++ st.fc.map tx))) b5 (.tup [.int (((S o).length : Int) + (st.h : Int)), .ref b2, .ref b4])) b4 = some (.lst ((o :: st.fc).map tx)) := v5 _ _ upd_same
          have q5 : H5 b5 = none := none_of (((v1.trans v2).trans v3).trans v4) p5
          have q2 : H5 b2 = none := none_of v1 p2
          have q4 : H5 b4 = none := none_of ((v1.trans v2).trans v3) p4
          have n24 : b2 ≠ b4 := ne_of_none (v3 _ _ upd_same) p4
          dsimp only
          rw [ei] at v15 eT e2 e4 ⊢
          generalize (upd (upd (upd (upd (upd H5 b1 (.lst [tx wd])) b2 (.lst ([tx wd] ++ st.bh.map tx))) b3 (.lst [tx o])) b4 (.lst ([tx o] ++ st.fc.map tx))) b5 (.tup [.int ((o.length + st.h : Nat) : Int), .ref b2, .ref b4])) = H6 at *
          have lr : Lrow ws (o.length + st.h) (wd :: st.bh) (o :: st.fc) := by
            refine ⟨fun y hy => (List.mem_cons.mp hy).elim (fun z => z ▸ hwm) (sg.w2 y), fun y hy => (List.mem_cons.mp hy).elim (fun z => z ▸ hom) (sg.w1 y), ⟨wd, o, rfl, rfl, ne⟩, ?_⟩
            rw [List.flatten_cons, List.flatten_cons]
            conv => lhs; arg 1; arg 1; rw [hit_split hh]
            rw [List.append_assoc, shd_app, shd_comm, sg.sh]
          obtain ⟨MM, xx, yy, eTT, g1, g2⟩ := I1.step ho hwd ne noh v15 q5 ⟨q2, q4, n24⟩ ⟨eT, e2, e4⟩ lr (by rw [List.length_cons]; omega) (by rw [List.length_cons]; omega) (.inl ⟨hh, st.h, hgt, rfl⟩)
          refine ⟨_, rfl, b5, _, 0, _, rfl, rfl, .inl (.inl eT), rfl, _, rfl, T, _, 0, _, rfl, rfl, .inl (.inl eTT), rfl, _, _, rfl, rfl, _, rfl, ?_⟩
          rw [htk]
          by_cases hlt : ((o.length + st.h : Nat) : Int) > MM
          · exact iteP hlt ⟨_, rfl, ⟨b5, g1 hlt, _, _, _, _, _, _, _, rfl⟩, s35.trans v15⟩
          · exact iteN hlt ⟨⟨T, g2 hlt, _, _, _, _, _, _, _, rfl⟩, s35.trans v15⟩
        · have hno : ∀ st ∈ ss, st.r ≠ wd.drop o.length := fun st hs z => hin ⟨st, hs, z⟩
          rw [skv_out hno]
          exact iteF (q0 ⟨o, hom, wd, hwm, ne, hh, (std.far _ hfr hno).1⟩ _ I1.s)
      · have hh' : hit o wd = false := Bool.eq_false_iff.mpr hh
        rw [if_neg hh]
        refine ⟨_, rfl, rfl, _, rfl, iteP rfl ?_⟩
        have one1 : (1 : Nat) ≤ sizeLine := by decide
        refine ⟨_, rfl, _, rfl, wd, o, rfl, by omega, by omega, fun H6 v0 => ⟨_, rfl, one1, fun b1 p1 => ⟨_, rfl, one1, fun b2 p2 => ⟨by show 3 ≤ sizeLine; decide, fun b5 p5 => ?_⟩⟩⟩⟩
        have v1 := same_upd (o := .lst [tx wd]) p1
        have v2 := same_upd (o := .lst [tx o]) p2
        have v3 := same_upd (o := .tup [.int ((shd wd o : Nat) : Int), .ref b1, .ref b2]) p5
        have v15 := ((v0.trans v1).trans v2).trans v3
        have n12' : b1 ≠ b2 := fun z => by
          rw [← z, upd_same] at p2
          cases p2
        obtain ⟨MM, xx, yy, eTT, g1, g2⟩ := I1.step (m := shd wd o) (one := [wd]) (other := [o]) ho hwd ne noh v15 (none_of ((v0.trans v1).trans v2) p5) ⟨none_of v0 p1, none_of (v0.trans v1) p2, n12'⟩ ⟨upd_same, (v2.trans v3) _ _ upd_same, v3 _ _ upd_same⟩
          ⟨fun y hy => by rw [List.mem_singleton.mp hy]; exact hwm, fun y hy => by rw [List.mem_singleton.mp hy]; exact hom, ⟨wd, o, rfl, rfl, ne⟩, by simp⟩ (by simp) (by simp) (.inr ⟨hh', rfl⟩)
        refine ⟨_, rfl, b5, _, 0, _, rfl, rfl, .inl (.inl upd_same), rfl, _, rfl, T, _, 0, _, rfl, rfl, .inl (.inl eTT), rfl, _, _, rfl, rfl, _, rfl, ?_⟩
        rw [htk]
        by_cases hlt : ((shd wd o : Nat) : Int) > MM
        · exact iteP hlt ⟨_, rfl, ⟨b5, g1 hlt, _, _, _, _, _, _, _, rfl⟩, s35.trans v15⟩
        · exact iteN hlt ⟨⟨T, g2 hlt, _, _, _, _, _, _, _, rfl⟩, s35.trans v15⟩
    · rintro σ H4 ⟨⟨T, I, k3, k4, k5, k6, k7, k8, k9, rfl⟩, s34⟩
      rw [List.take_length] at I
      obtain ⟨s0, M, a, b, on, ot, h1, h2, h3, h4, h5, h6, h7, h8, h9⟩ := I
      rcases h9 with ⟨z, _⟩ | ⟨m, rfl, lr, att⟩
      · have : (0, 1) ∈ prs ws.length := mem_prs.mpr ⟨by omega, by omega⟩
        rw [z] at this
        cases this
      have both : ∀ o ∈ ws, ∀ w ∈ ws, w ≠ o → hit w o = false → (∃ i j, i < j ∧ ws[i]? = some o ∧ ws[j]? = some w) ∨ (hit o w = false ∧ ∃ i j, i < j ∧ ws[i]? = some w ∧ ws[j]? = some o) := fun o ho w hw ne nh => by
        obtain ⟨i, hi, ei⟩ := List.mem_iff_getElem.mp ho
        obtain ⟨j, hj, ej⟩ := List.mem_iff_getElem.mp hw
        have gi : ws[i]? = some o := by rw [List.getElem?_eq_getElem hi, ei]
        have gj : ws[j]? = some w := by rw [List.getElem?_eq_getElem hj, ej]
        rcases Nat.lt_trichotomy i j with z | z | z
        · exact .inl ⟨i, j, z, gi, gj⟩
        · subst z
          exact absurd (ej.symm.trans ei) ne
        · exact .inr ⟨(two_words nd so z gj gi).2, j, i, z, gj, gi⟩
      have hitno : ∀ o w : List Nat, w ≠ o → hit o w = true → hit w o = false := fun o w ne hh => by
        cases z : hit w o with
        | false => rfl
        | true =>
          have l1 := hit_len hh
          have l2 := hit_len z
          have e := hit_iff.mp hh
          rw [List.take_of_length_le (by omega)] at e
          exact absurd e ne
      have wt : Wt ws (some m) := by
        refine ⟨fun o ho w hw ne hh => ?_, fun o ho w hw ne a1 a2 => ?_, .inr att⟩
        · rcases both o ho w hw ne (hitno o w ne hh) with ⟨i, j, hij, gi, gj⟩ | ⟨z, _⟩
          · obtain ⟨h, k1, k2⟩ := (h8 i j o w (mem_prs.mpr ⟨hij, (List.getElem?_eq_some_iff.mp gj).1⟩) gi gj).1 hh
            exact ⟨h, k1, by omega⟩
          · rw [hh] at z
            cases z
        · rcases both o ho w hw ne a2 with ⟨i, j, hij, gi, gj⟩ | ⟨_, i, j, hij, gi, gj⟩
          · have := (h8 i j o w (mem_prs.mpr ⟨hij, (List.getElem?_eq_some_iff.mp gj).1⟩) gi gj).2 a1
            omega
          · have := (h8 i j w o (mem_prs.mpr ⟨hij, (List.getElem?_eq_some_iff.mp gj).1⟩) gi gj).2 a2
            rw [shd_comm] at this
            omega
      exact ⟨_, rfl, q m wt T a b on ot H4 s0 h1 h2 ⟨h3, h4, h5⟩ lr h6 h7⟩
end
section
def wV : Option Nat → V
  | none => .non
  | some m => .int (m : Int)
variable {Pr : Program} {w : World} {K : PySem.W.Frag} {mg : Str → Option Value} {base : Heap} {P f fC fT : Addr} {fd fdI fdC fdT : FuncData}
theorem codeOk_vs {ws vs : List (List Nat)} (h : CodeOk ws) (p : vs.Perm ws) : vs.length ≤ 12 ∧ vs.Nodup ∧ ∀ x ∈ vs, WordOk x :=
  ⟨by rw [p.length_eq]; exact h.1, p.nodup_iff.mpr h.2.1, fun x hx => h.2.2 x (p.mem_iff.mp hx)⟩
/-- what wait promises -/
def spWait (P : Addr) : Sp := fun vs H Q _ => ∃ (b : Addr) (ws : List (List Nat)), vs = [.ref b] ∧ H b = some (.lst (ws.map tx)) ∧ CodeOk ws ∧ GxR.TabG H P ∧ ∀ a, Wt ws a → ∀ H', Sm P H H' → Q (wV a) H'
theorem scWait : FnScope ["words", "code", "latest"] ["words"] (defScope s_wait) := ⟨rfl, rfl, rfl, by decide +kernel, rfl, by decide +kernel, by decide +kernel⟩
theorem ok_wait (F : FnP K "wait" s_wait f fd) (C : Has K mg "checked" sChecked ["words"] fC fdC) (I : HasI K mg base P fdI) (GT : FnOk Pr w K mg base CX0 6 fT fdT ["code"] spLatest) (LT : Has K mg "_latest" s__latest ["code"] fT fdT) (B : Bl mg) : FnOk Pr w K mg base CX0 7 f fd ["words"] (spWait P) := by
  have GC : FnOk Pr w K mg base CX0 6 fC fdC ["words"] (spChecked P) := (ok_checked C.F I B).mono (by decide)
  refine F.okN scWait (fun vs H Q E h => ?_) (fun cdv A' outer s H vs Q E hr h => ?_)
  · obtain ⟨b, ws, rfl, _⟩ := h
    rfl
  · obtain ⟨b, ws, rfl, hB, hc, hT, q⟩ := h
    refine ⟨_, pss_cons (ps_set (i := 1) scWait.nd rfl (.inl rfl) (pe_call GC hr (by rfl) C.g C.F.kp C.b .nil pass0 (pa_cons (pv 0) pa_nil)))
      (pss_cons (ps_if (pt_cmpR op_lt (pe_callB call_len_seq (by rfl) B.mL boot_len (pa_cons (pv 1) pa_nil)) pe_int (nomark _)) (pss_one (ps_ret pe_int)) pss_nil)
      (pss_cons (ps_set (i := 2) scWait.nd rfl (.inl rfl) (pe_call GT hr (by rfl) LT.g LT.F.kp LT.b .nil pass0 (pa_cons (pv 1) pa_nil)))
      (pss_one (ps_ret (pe_ifExp (pt_cmpR op_notN (pv 2) pe_non (nomark _)) (pe_ix (r := rIxT K) ix_tup (pv 2) pe_int (fun _ _ => rfl)) pe_non))))), ?_⟩
    refine ⟨_, rfl, b, ws, rfl, hB, hc, hT, fun r vs H1 m1 nr eR perm so => ?_⟩
    obtain ⟨v1, v2, v3⟩ := codeOk_vs hc perm
    refine ⟨_, rfl, r, _, rfl, .inl (seqL eR), _, _, rfl, rfl, _, rfl, ?_⟩
    rw [List.length_map]
    by_cases h2 : vs.length < 2
    · refine iteP (by omega) (q (some 0) ((Wt.few h2).perm perm) H1 m1)
    · refine iteN (by omega) ?_
      refine ⟨_, rfl, r, vs, rfl, eR, by omega, v1, v2, so, v3, fun hn H2 s2 => ?_, fun m hm T a b one other H2 s2 nT nf ta lr _ _ => ?_⟩
      · refine ⟨_, rfl, rfl, _, rfl, iteNP rfl ?_⟩
        exact q none (hn.perm perm) H2 (m1.andThen s2)
      · refine ⟨_, rfl, rfl, _, rfl, iteNN (fun z => nomatch z) ?_⟩
        exact ⟨_, rfl, T, _, 0, _, rfl, rfl, .inl (.inl ta.1), rfl, q (some m) (hm.perm perm) H2 (m1.andThen s2)⟩
theorem inLatest (D : Defs K mg) (B : Bl mg) : ∃ f fd, Has K mg "_latest" s__latest ["code"] f fd ∧ FnOk Pr w K mg base CX0 6 f fd ["code"] spLatest := by
  obtain ⟨f1, d1, L⟩ := D.d_left_of
  obtain ⟨f2, d2, SH⟩ := D.d_shared
  obtain ⟨f3, d3, M, GM⟩ := inMeet (Pr := Pr) (w := w) (base := base) D B
  obtain ⟨f4, d4, SE, GS⟩ := inSettled (Pr := Pr) (w := w) (base := base) D B
  obtain ⟨f5, d5, LT⟩ := D.d__latest
  exact ⟨f5, d5, LT, ok_latest LT.F L SH GM M GS SE B⟩
theorem inWait (D : Defs K mg) (I : HasI K mg base P fdI) (B : Bl mg) : ∃ f fd, Has K mg "wait" s_wait ["words"] f fd ∧ FnOk Pr w K mg base CX0 7 f fd ["words"] (spWait P) := by
  obtain ⟨f1, d1, C⟩ := D.d_checked
  obtain ⟨f2, d2, LT, GT⟩ := inLatest (Pr := Pr) (w := w) (base := base) D B
  obtain ⟨f3, d3, W⟩ := D.d_wait
  exact ⟨f3, d3, W, ok_wait W.F C I GT LT B⟩
theorem scLate : FnScope ["words", "code", "latest", "_", "one", "other"] ["words"] (defScope s_late) := ⟨rfl, rfl, rfl, by decide +kernel, rfl, by decide +kernel, by decide +kernel⟩
/-- what late promises -/
def spLate (K : PySem.W.Frag) (P : Addr) : Sp := fun vs H Q E => ∃ (b : Addr) (ws : List (List Nat)), vs = [.ref b] ∧ H b = some (.lst (ws.map tx)) ∧ CodeOk ws ∧ GxR.TabG H P ∧
  (ws.length < 2 → ∀ H', Sm P H H' → Q .non H') ∧
  (2 ≤ ws.length → Wt ws none → ∀ H', Sm P H H' → E (.ref (He.ga K "NoWait")) none H') ∧
  (2 ≤ ws.length → ∀ m, Wt ws (some m) → ∀ (T a b : Addr) (one other : List (List Nat)) (H' : Hp), Sm P H H' → H T = none → Fresh3 H a b → H' T = some (.tup [.ref a, .ref b]) → H' a = some (.lst (one.map tx)) → H' b = some (.lst (other.map tx)) → Lrow ws m one other → one.length ≤ 133 → other.length ≤ 133 → Q (.ref T) H')
theorem Lrow.perm {vs ws : List (List Nat)} (p : vs.Perm ws) {m : Nat} {one other : List (List Nat)} (h : Lrow vs m one other) : Lrow ws m one other := ⟨fun x hx => p.mem_iff.mp (h.w1 x hx), fun x hx => p.mem_iff.mp (h.w2 x hx), h.hd, h.sh⟩
theorem ok_late (F : FnP K "late" s_late f fd) (C : Has K mg "checked" sChecked ["words"] fC fdC) (I : HasI K mg base P fdI) (GT : FnOk Pr w K mg base CX0 6 fT fdT ["code"] spLatest) (LT : Has K mg "_latest" s__latest ["code"] fT fdT) (B : Bl mg) (X : Exs K mg) : FnOk Pr w K mg base (L2N.CX Pr w) 7 f fd ["words"] (spLate K P) := by
  have GC : FnOk Pr w K mg base CX0 6 fC fdC ["words"] (spChecked P) := (ok_checked C.F I B).mono (by decide)
  obtain ⟨xP, kP, bP, tP⟩ := He.exc_ok X.x_NoWait
  refine F.ok scLate (fun vs H Q E h => ?_) (fun cdv A' outer s H vs Q E hr h => ?_)
  · obtain ⟨b, ws, rfl, _⟩ := h
    rfl
  · obtain ⟨b, ws, rfl, hB, hc, hT, q0, q1, q⟩ := h
    refine ⟨_, pss_cons (ps_set (i := 1) scLate.nd rfl (.inl rfl) (pe_call GC hr (by rfl) C.g C.F.kp C.b .nil pass0 (pa_cons (pv 0) pa_nil)))
      (pss_cons (ps_if (pt_cmpR op_lt (pe_callB call_len_seq (by rfl) B.mL boot_len (pa_cons (pv 1) pa_nil)) pe_int (nomark _)) (pss_one (ps_ret pe_non)) pss_nil)
      (pss_cons (ps_set (i := 2) scLate.nd rfl (.inl rfl) (pe_call GT hr (by rfl) LT.g LT.F.kp LT.b .nil pass0 (pa_cons (pv 1) pa_nil)))
      (pss_cons (ps_if (pt_cmpR op_isN (pv 2) pe_non (nomark _))
        (pss_one (L2N.ps_raise rfl (L2N.takes_of (E := E) rfl rfl rfl rfl) (L2N.pmk_own PySem.F.excBase_ValueError xP X.g_NoWait kP (raises_own bP tP) rfl))) pss_nil)
      (PSs.nox (pss_cons (ps_asg (pv 2) (pg_tup rfl (pgs_cons (pg_name (i := 3) scLate.nd rfl (Or.inl rfl)) (pgs_cons (pg_name (i := 4) scLate.nd rfl (Or.inl rfl)) (pgs_cons (pg_name (i := 5) scLate.nd rfl (Or.inl rfl)) pgs_nil)))))
      (pss_one (ps_ret (pe_tup (pa_cons (pv 4) (pa_cons (pv 5) pa_nil)))))))))), ?_⟩
    refine ⟨_, rfl, b, ws, rfl, hB, hc, hT, fun r vs H1 m1 nr eR perm so => ?_⟩
    obtain ⟨v1, v2, v3⟩ := codeOk_vs hc perm
    have le := perm.length_eq
    refine ⟨_, rfl, r, _, rfl, .inl (seqL eR), _, _, rfl, rfl, _, rfl, ?_⟩
    rw [List.length_map]
    by_cases h2 : vs.length < 2
    · refine iteP (by omega) (q0 (by omega) H1 m1)
    · refine iteN (by omega) ?_
      refine ⟨_, rfl, r, vs, rfl, eR, by omega, v1, v2, so, v3, fun hn H2 s2 => ?_, fun m hm T a b one other H2 s2 nT nf ta lr l1 l2 => ?_⟩
      · refine ⟨_, rfl, rfl, _, rfl, iteP rfl ?_⟩
        exact q1 (by omega) (hn.perm perm) H2 (m1.andThen s2)
      · refine ⟨_, rfl, rfl, _, rfl, iteN (fun z => nomatch z) ?_⟩
        refine ⟨_, rfl, T, _, rfl, .inl (.inl ta.1), rfl, _, _, rfl, _, _, rfl, _, _, rfl, rfl, ?_⟩
        refine ⟨_, rfl, _, rfl, by show 2 ≤ sizeLine; decide, fun T2 n2 => ?_⟩
        have s3 := same_upd (o := .tup [.ref a, .ref b]) n2
        have fr : ∀ x, H1 x = none → H x = none := fun x => Sm.free hT m1
        exact q (by omega) m (hm.perm perm) T2 a b one other _ ((m1.andThen s2).andThen s3) (fr _ (none_of s2 n2)) ⟨fr _ nf.1, fr _ nf.2.1, nf.2.2⟩ upd_same (s3 _ _ ta.2.1) (s3 _ _ ta.2.2) (lr.perm perm) l1 l2
end




section
variable {Pr : Program} {w : World} {K : PySem.W.Frag} {mg : Str → Option Value} {base : Heap} {P f fS fH fE : Addr} {fd fdI fdS fdH fdE : FuncData}
theorem scDue : FnScope ["_law_words_here", "_law_told", "_law_best", "_law_one", "_law_other", "_law_height"] ["_law_words_here"] (defScope s__law_due) := ⟨rfl, rfl, rfl, by decide +kernel, rfl, by decide +kernel, by decide +kernel⟩
def spDue (P : Addr) : Sp := fun vs H Q _ => ∃ (b : Addr) (ws : List (List Nat)), vs = [.ref b] ∧ H b = some (.lst (ws.map tx)) ∧ CodeOk ws ∧ GxR.TabG H P ∧ ∀ a, Wt ws a → ∀ H', Sm P H H' → Q (wV a) H'
structure DI (ws : List (List Nat)) (C : List Nat → List Nat → Prop) (m : Nat) : Prop where
  c : ∀ w ∈ ws, ∀ o ∈ ws, C w o → w ≠ o → (hit o w = true → ∃ h, Hgt ws (w.drop o.length) (some h) ∧ o.length + h ≤ m) ∧ (hit o w = false → hit w o = false → shd w o ≤ m)
  a : m = 0 ∨ (∃ o ∈ ws, ∃ w ∈ ws, w ≠ o ∧ hit o w = true ∧ ∃ h, Hgt ws (w.drop o.length) (some h) ∧ m = o.length + h) ∨ ∃ o ∈ ws, ∃ w ∈ ws, w ≠ o ∧ hit o w = false ∧ hit w o = false ∧ m = shd w o
theorem DI.mono {ws : List (List Nat)} {C C' : List Nat → List Nat → Prop} {m : Nat} (d : DI ws C m) (h : ∀ w o, w ∈ ws → o ∈ ws → C' w o → w ≠ o → ((hit o w = true) ∨ (hit o w = false ∧ hit w o = false)) → C w o) : DI ws C' m :=
  ⟨fun w hw o ho c ne => ⟨fun hh => (d.c w hw o ho (h w o hw ho c ne (.inl hh)) ne).1 hh, fun h1 h2 => (d.c w hw o ho (h w o hw ho c ne (.inr ⟨h1, h2⟩)) ne).2 h1 h2⟩, d.a⟩
theorem DI.more {ws : List (List Nat)} {C C' : List Nat → List Nat → Prop} {m n : Nat} {w o : List Nat} (d : DI ws C m) (hw : w ∈ ws) (ho : o ∈ ws) (ne : w ≠ o) (h : ∀ w' o', C' w' o' → C w' o' ∨ (w' = w ∧ o' = o))
    (t : (hit o w = true ∧ ∃ h, Hgt ws (w.drop o.length) (some h) ∧ n = o.length + h) ∨ (hit o w = false ∧ hit w o = false ∧ n = shd w o)) : DI ws C' (max m n) := by
  refine ⟨fun w' hw' o' ho' c ne' => ?_, ?_⟩
  · rcases h w' o' c with z | ⟨rfl, rfl⟩
    · obtain ⟨d1, d2⟩ := d.c w' hw' o' ho' z ne'
      refine ⟨fun hh => ?_, fun h1 h2 => Nat.le_trans (d2 h1 h2) (Nat.le_max_left _ _)⟩
      obtain ⟨k, k1, k2⟩ := d1 hh
      exact ⟨k, k1, Nat.le_trans k2 (Nat.le_max_left _ _)⟩
    · rcases t with ⟨q, k, k1, k2⟩ | ⟨q1, q2, k2⟩
      · refine ⟨fun _ => ⟨k, k1, by rw [← k2]; exact Nat.le_max_right _ _⟩, fun h1 => by rw [q] at h1; cases h1⟩
      · refine ⟨(fun h1 => by rw [q1] at h1; cases h1), fun _ _ => by rw [← k2]; exact Nat.le_max_right _ _⟩
  · by_cases hm : m ≤ n
    · rw [Nat.max_eq_right hm]
      rcases t with ⟨q, k, k1, k2⟩ | ⟨q1, q2, k2⟩
      · exact .inr (.inl ⟨o, ho, w, hw, ne, q, k, k1, k2⟩)
      · exact .inr (.inr ⟨o, ho, w, hw, ne, q1, q2, k2⟩)
    · rw [Nat.max_eq_left (by omega)]
      exact d.a
theorem ok_due (F : FnP K "_law_due" s__law_due f fd) (SH : Has K mg "_law_shared" s__law_shared ["_law_one", "_law_other"] fH fdH) (HE : Has K mg "heights" s_heights ["words"] fE fdE) (GE : FnOk Pr w K mg base CX0 6 fE fdE ["words"] (spHeights P)) (B : Bl mg) : FnOk Pr w K mg base CX0 7 f fd ["_law_words_here"] (spDue P) := by
  have GH : FnOk Pr w K mg base CX0 6 fH fdH ["_law_one", "_law_other"] spShared := (ok_lawShared SH.F B).mono (by decide)
  refine F.okN scDue (fun vs H Q E h => ?_) (fun cdv A' outer s H vs Q E hr h => ?_)
  · obtain ⟨b, ws, rfl, _⟩ := h
    rfl
  · obtain ⟨b, ws, rfl, hB, hc, hT, q⟩ := h
    have hu : (A'.deeper (envOfC "_law_due" (defScope s__law_due) s.heap.objs.size f cdv)).units + 1 < cLine := by
      have := hr.units
      omega
    refine ⟨_, pss_cons (ps_set (i := 1) scDue.nd rfl (.inl rfl) (pe_call GE hr (by rfl) HE.g HE.F.kp HE.b .nil pass0 (pa_cons (pe_callTy call_list_of (by rfl) B.mList boot_list (pa_cons (pv 0) pa_nil)) pa_nil)))
      (pss_cons (ps_set (i := 2) scDue.nd rfl (.inl rfl) pe_int)
      (pss_cons (ps_for PassesOwn.never rfl (pi_list (pv 0)) (pg_name (i := 3) scDue.nd rfl (Or.inl rfl))
        (pss_one (ps_for PassesOwn.never rfl (pi_list (pv 0)) (pg_name (i := 4) scDue.nd rfl (Or.inl rfl))
          (pss_one (ps_if (PW.pt (pw_and (pt_cmpR op_ne (pv 3) (pv 4) (nomark _)) (pw_and1 (pt_cmpR op_eq (pe_slice sl_str (pv 3) po_none (po_some (pe_callB call_len_str (by rfl) B.mL boot_len (pa_cons (pv 4) pa_nil)))) (pv 4) (nomark _)))))
            (pss_cons (ps_set (i := 5) scDue.nd rfl (.inl rfl) (pe_dget1 hu (pv 1) (pe_slice sl_str (pv 3) (po_some (pe_callB call_len_str (by rfl) B.mL boot_len (pa_cons (pv 4) pa_nil))) po_none) ⟨by rfl, by rfl, by rfl, by rfl⟩))
            (pss_cons (ps_if (pt_cmpR op_isN (pv 5) pe_non (nomark _)) (pss_one (ps_ret pe_non)) pss_nil)
            (pss_one (ps_set (i := 2) scDue.nd rfl (.inl rfl) (pe_callB (call_max2 rfl) (by rfl) B.mMax (by decide +kernel) (pa_cons (pv 2) (pa_cons (pe_op op_add (pe_callB call_len_str (by rfl) B.mL boot_len (pa_cons (pv 4) pa_nil)) (pv 5)) pa_nil)))))))
            (pss_one (ps_if (PW.pt (pw_and (pt_cmpR op_ne (pv 3) (pv 4) (nomark _)) (pw_and1 (pt_cmpR op_ne (pe_slice sl_str (pv 4) po_none (po_some (pe_callB call_len_str (by rfl) B.mL boot_len (pa_cons (pv 3) pa_nil)))) (pv 3) (nomark _)))))
              (pss_one (ps_set (i := 2) scDue.nd rfl (.inl rfl) (pe_callB (call_max2 rfl) (by rfl) B.mMax (by decide +kernel) (pa_cons (pv 2) (pa_cons (pe_call GH hr (by rfl) SH.g SH.F.kp SH.b .nil pass0 (pa_cons (pv 3) (pa_cons (pv 4) pa_nil))) pa_nil)))))
              pss_nil)))))))
      (pss_one (ps_ret (pv 2))))), ?_⟩
    refine ⟨_, rfl, b, _, rfl, .inl (seqL hB), fun l hl => ?_⟩
    have s1 := same_upd (o := .lst (ws.map tx)) hl
    have m1 : Sm P H _ := .of_same hT s1
    refine ⟨l, ws, rfl, upd_same, hc, m1.tab, fun p hs H2 m2 np ep hd => ?_⟩
    have m12 : Sm P H H2 := m1.trans m2
    have hB2 := Sm.lst hT m12 hB
    obtain ⟨n12, nd, hw⟩ := hc
    have fin : ∀ m : Nat, DI ws (fun w _ => w ∈ ws.take ws.length) m → ∀ H3, Same H2 H3 → Q (.int (m : Int)) H3 := fun m d H3 s3 => by
      refine q (some m) ⟨fun o ho w hw ne hh => ?_, fun o ho w hw ne h1 h2 => ?_, d.a⟩ H3 (m12.andThen s3)
      · exact (d.c w hw o ho (by rw [List.take_length]; exact hw) ne).1 hh
      · exact (d.c w hw o ho (by rw [List.take_length]; exact hw) ne).2 h1 h2
    refine ⟨_, rfl, b, rfl, ⟨_, seqL hB2⟩, for_list (K := K) (a := b) (xs := ws.map tx) (fun i σ H3 => Same H2 H3 ∧ ∃ m : Nat, DI ws (fun w _ => w ∈ ws.take i) m ∧ ∃ k3 k4 k5 : Option V, σ = [some (.ref b), some (.ref p), some (.int (m : Int)), k3, k4, k5]) ?_ (fun i σ H3 _ hh => seqL (hh.1 _ _ hB2)) ?_ ?_⟩
    · exact ⟨Same.refl _, 0, ⟨fun w _ o _ hw => absurd hw (by rw [List.take_zero]; exact List.not_mem_nil), .inl rfl⟩, _, _, _, rfl⟩
    · rintro i x σ H3 hx ⟨s3, m, d, k3, k4, k5, rfl⟩
      have hi : i < ws.length := by
        have := (List.getElem?_eq_some_iff.mp hx).1
        rw [List.length_map] at this
        exact this
      have hxe : x = tx ws[i] := by
        rw [List.getElem?_map, List.getElem?_eq_getElem hi] at hx
        exact (Option.some.inj hx).symm
      subst hxe
      have htk : ws.take (i + 1) = ws.take i ++ [ws[i]] := by rw [List.take_add_one, List.getElem?_eq_getElem hi]; rfl
      have hwm : ws[i] ∈ ws := List.getElem_mem hi
      rw [htk]
      generalize ws[i] = wd at hwm ⊢
      have lw := (hw wd hwm).2.1
      have zw : (S wd).length ≤ sizeLine := small_S (by omega)
      refine ⟨_, rfl, b, rfl, ⟨_, seqL (s3 _ _ hB2)⟩, for_list (K := K) (a := b) (xs := ws.map tx) (fun j σ H4 => Same H2 H4 ∧ ∃ m : Nat, DI ws (fun w o => w ∈ ws.take i ∨ (w = wd ∧ o ∈ ws.take j)) m ∧ ∃ k4 k5 : Option V, σ = [some (.ref b), some (.ref p), some (.int (m : Int)), some (tx wd), k4, k5]) ?_ (fun j σ H4 _ hh => seqL (hh.1 _ _ hB2)) ?_ ?_⟩
      · refine ⟨s3, m, d.mono fun w o _ _ c _ _ => c.elim id fun z => absurd z.2 (by rw [List.take_zero]; exact List.not_mem_nil), _, _, rfl⟩
      · rintro j y σ H4 hy ⟨s4, m, d, k4, k5, rfl⟩
        have hj : j < ws.length := by
          have := (List.getElem?_eq_some_iff.mp hy).1
          rw [List.length_map] at this
          exact this
        have hye : y = tx ws[j] := by
          rw [List.getElem?_map, List.getElem?_eq_getElem hj] at hy
          exact (Option.some.inj hy).symm
        subst hye
        have htk2 : ws.take (j + 1) = ws.take j ++ [ws[j]] := by rw [List.take_add_one, List.getElem?_eq_getElem hj]; rfl
        have hom : ws[j] ∈ ws := List.getElem_mem hj
        rw [htk2]
        generalize ws[j] = o at hom ⊢
        have lo := (hw o hom).2.1
        have zo : (S o).length ≤ sizeLine := small_S (by omega)
        have ext : ∀ w' o', (w' ∈ ws.take i ∨ (w' = wd ∧ o' ∈ ws.take j ++ [o])) → (w' ∈ ws.take i ∨ (w' = wd ∧ o' ∈ ws.take j)) ∨ (w' = wd ∧ o' = o) := fun w' o' h => by
          rcases h with h | ⟨h1, h2⟩
          · exact .inl (.inl h)
          · rcases List.mem_append.mp h2 with z | z
            · exact .inl (.inr ⟨h1, z⟩)
            · exact .inr ⟨h1, List.mem_singleton.mp z⟩
        have skip : (wd = o ∨ ¬ (hit o wd = true ∨ (hit o wd = false ∧ hit wd o = false))) → DI ws (fun w' o' => w' ∈ ws.take i ∨ (w' = wd ∧ o' ∈ ws.take j ++ [o])) m := fun hs => d.mono fun w' o' _ _ c ne hh => by
          rcases ext w' o' c with z | ⟨rfl, rfl⟩
          · exact z
          · exact absurd hh (hs.elim (fun z => absurd z ne) id)
        have hs4 : Rd H4 p (.dK (hkv hs)) := .inl (s4 _ _ ep)
        refine ⟨_, rfl, _, rfl, rfl, _, rfl, ?_⟩
        by_cases e : wd = o
        · refine iteNP (congrArg tx e) ?_
          refine ⟨_, rfl, _, rfl, rfl, _, rfl, iteNP (congrArg tx e) ?_⟩
          exact ⟨s4, m, skip (.inl e), _, _, rfl⟩
        · have ne : ¬ (tx wd = tx o) := fun z => e (S_inj (V.str.inj z))
          refine iteNN ne ?_
          refine ⟨_, rfl, _, rfl, S o, rfl, zo, (o.length : Int), len_v o, S wd, rfl, zw, _, rfl, rfl, _, rfl, ?_⟩
          rw [to_eq]
          by_cases hh : hit o wd = true
          · rw [hh]
            refine iteT ?_
            have hoff : Off ws (wd.drop o.length) wd.length := .new hwm hom e hh
            obtain ⟨h, hg⟩ := Hgt.is (ws := ws) (wd.drop o.length)
            have hin : (wd.drop o.length, h) ∈ hs := (hd.2 _ h).mpr ⟨⟨_, hoff⟩, hg⟩
            have dg : DGet H4 p (tx (wd.drop o.length)) (some (hv h)) := .inl ⟨hkv hs, Sum.inr (S (wd.drop o.length)), hs4, rfl, (hkv_in hd.1 hin).symm⟩
            refine ⟨_, rfl, _, rfl, .inl ⟨_, hs4⟩, _, rfl, _, rfl, S o, rfl, zo, (o.length : Int), len_v o, S wd, rfl, zw, ?_⟩
            rw [from_len]
            refine ⟨some (hv h), dg, ?_⟩
            refine ⟨_, rfl, rfl, _, rfl, ?_⟩
            cases h with
            | none => exact iteP rfl (q none ⟨o, hom, wd, hwm, e, hh, hg⟩ H4 (m12.andThen s4))
            | some k =>
              refine iteN (fun z => nomatch z) ?_
              refine ⟨_, rfl, _, rfl, S o, rfl, zo, _, rfl, (o.length : Int), (k : Int), len_v o, rfl, _, _, rfl, ?_⟩
              rw [← Int.natCast_add, max_int]
              exact ⟨s4, max m (o.length + k), d.more hwm hom e (fun w' o' c => ext w' o' c) (.inl ⟨hh, k, hg, rfl⟩), _, _, rfl⟩
          · rw [Bool.eq_false_iff.mpr hh]
            refine iteF ?_
            refine ⟨_, rfl, _, rfl, rfl, _, rfl, iteNN ne ?_⟩
            refine ⟨_, rfl, _, rfl, S wd, rfl, zw, (wd.length : Int), len_v wd, S o, rfl, zo, _, rfl, rfl, _, rfl, ?_⟩
            rw [to_eq]
            by_cases h2 : hit wd o = true
            · rw [h2]
              refine iteF ?_
              exact ⟨s4, m, skip (.inr fun z => z.elim hh fun z => by rw [h2] at z; exact absurd z.2 (by decide)), _, _, rfl⟩
            · rw [Bool.eq_false_iff.mpr h2]
              refine iteT ?_
              refine ⟨_, rfl, _, rfl, _, rfl, wd, o, rfl, by omega, by omega, fun H5 s5 => ⟨_, _, rfl, ?_⟩⟩
              rw [max_int]
              exact ⟨s4.trans s5, max m (shd wd o), d.more hwm hom e (fun w' o' c => ext w' o' c) (.inr ⟨Bool.eq_false_iff.mpr hh, Bool.eq_false_iff.mpr h2, rfl⟩), _, _, rfl⟩
      · rintro σ H4 ⟨s4, m, d, k4, k5, rfl⟩
        rw [List.length_map, List.take_length] at d
        refine ⟨s4, m, d.mono fun w' o' _ ho' c _ _ => ?_, _, _, _, rfl⟩
        rcases List.mem_append.mp c with z | z
        · exact .inl z
        · exact .inr ⟨List.mem_singleton.mp z, ho'⟩
    · rintro σ H3 ⟨s3, m, d, k3, k4, k5, rfl⟩
      rw [List.length_map] at d
      exact ⟨_, rfl, fin m d H3 s3⟩
end
section
variable {Pr : Program} {w : World} {K : PySem.W.Frag} {mg : Str → Option Value} {base : Heap} {P f fL fW : Addr} {fd fdL fdW : FuncData}
theorem scLateT : FnScope ["_law_words_here", "_law_e"] ["_law_words_here"] (defScope s__law_late) := ⟨rfl, rfl, rfl, by decide +kernel, rfl, by decide +kernel, by decide +kernel⟩
def spLateT (P : Addr) : Sp := fun vs H Q _ => ∃ (b : Addr) (ws : List (List Nat)), vs = [.ref b] ∧ H b = some (.lst (ws.map tx)) ∧ CodeOk ws ∧ GxR.TabG H P ∧
  (ws.length < 2 → ∀ T H', Sm P H H' → H' T = some (.tup [.str "told", .non]) → Q (.ref T) H') ∧
  (2 ≤ ws.length → Wt ws none → ∀ T r H', Sm P H H' → H' T = some (.tup [.str "refused", .ref r]) → H' r = some (.lst [V.str "wait"]) → Q (.ref T) H') ∧
  (2 ≤ ws.length → ∀ m, Wt ws (some m) → ∀ (T T1 a b : Addr) (one other : List (List Nat)) (H' : Hp), Sm P H H' → H T1 = none → Fresh3 H a b → H' T = some (.tup [.str "told", .ref T1]) → H' T1 = some (.tup [.ref a, .ref b]) → H' a = some (.lst (one.map tx)) → H' b = some (.lst (other.map tx)) → Lrow ws m one other → one.length ≤ 133 → other.length ≤ 133 → Q (.ref T) H')
theorem ok_lateT (F : FnP K "_law_late" s__law_late f fd) (G : FnOk Pr w K mg base (L2N.CX Pr w) 7 fL fdL ["words"] (spLate K P)) (LA : Has K mg "late" s_late ["words"] fL fdL) (WO : Has K mg "_law_words_of" s__law_words_of ["_law_e"] fW fdW)
    (B : Bl mg) (X : Exs K mg) (kn : KitE K (He.ga K "NoWait") false false false false false false true false false) (cn : PySem.W.exmOne K (.ref (He.ga K "NoWait")) (.ref (He.ga K "CodeError")) = some true) :
    FnOk Pr w K mg base CX0 8 f fd ["_law_words_here"] (spLateT P) := by
  have GE : FnE Pr w K mg base 1 fW fdW "_law_e" (spWordsOf K) := ok_wordsOf WO.F B X
  refine F.okN scLateT (fun vs H Q E h => ?_) (fun cdv A' outer s H vs Q E hr h => ?_)
  · obtain ⟨b, ws, rfl, _⟩ := h
    rfl
  · obtain ⟨b, ws, rfl, hB, hC, hT, q0, q1, q2⟩ := h
    refine ⟨_, pss_one (L2N.ps_try_as (i := 1) (c := .ref (He.ga K "CodeError")) (Wout := fun _ _ _ _ => False) (tb := fun W => tRet (tTup (tCons (tC (.str "told")) (tCons (tCallS (spLate K P) (WE W) (tCons (tVar 0) tNil)) tNil))))
      (ts := fun a cls d => match cls, d with
        | .ref D, none => tRet (tTup (tCons (tC (.str "refused")) (tCons (fun σ H Q => tVar 1 σ H fun v H1 => v = .ref a ∧ spWordsOf K a D H1 Q) tNil)))
        | _, _ => tNever) rfl rfl scLateT.nd rfl (by rfl) ⟨by rfl, by decide, .inl X.g_CodeError⟩ (fun u s' x => ?_) (fun W pn xe tk hp => ?_) (fun a oe cls d pn hz hf => ?_)), ?_⟩
    · obtain ⟨_, _, _, _, _, _, _, _, _, _, _, _, _, _, _, _, z⟩ := x
      exact z.elim
    · exact pss_one (ps_ret (pe_tup (pa_cons pe_str (pa_cons (pe_callS G (hr.mono (by decide)) (by rfl) LA.g LA.F.kp LA.b (fun σ => L2N.passAt tk σ) (pa_cons (pv 0) pa_nil)) pa_nil))))
    · split
      · exact pss_one (ps_ret (pe_tup (pa_cons pe_str (pa_cons (pe_callE GE ⟨(hr.mono (j := 1) (by decide)).dp, (hr.mono (j := 1) (by decide)).un⟩ rfl List.mem_cons_self hz hf (by rfl) WO.g WO.F.kp WO.b (pv 1)) pa_nil))))
      · exact pss_one ps_never
    · refine ⟨_, rfl, b, ws, rfl, hB, hC, hT, fun h2 H1 m1 => ?_, fun h2 hn H1 m1 => ⟨true, cn, fun _ a ha => ?_, fun z => nomatch z⟩, fun h2 m hm T a c one other H1 m1 nT nf eT ea ec lr l1 l2 => ?_⟩
      · refine ⟨by show 2 ≤ sizeLine; decide, fun T n => ?_⟩
        exact q0 h2 T _ (m1.andThen (same_upd n)) upd_same
      · refine ⟨_, rfl, rfl, _, _, _, _, _, _, _, _, _, kn, fun r H2 s2 nr er => ⟨by show 2 ≤ sizeLine; decide, fun T n => ?_⟩⟩
        have s3 := same_upd (o := .tup [V.str "refused", .ref r]) n
        exact q1 h2 hn T r _ (m1.andThen (s2.trans s3)) upd_same (s3 _ _ er)
      · refine ⟨by show 2 ≤ sizeLine; decide, fun T2 n => ?_⟩
        have s3 := same_upd (o := .tup [V.str "told", .ref T]) n
        exact q2 h2 m hm T2 T a c one other _ (m1.andThen s3) nT nf upd_same (s3 _ _ eT) (s3 _ _ ea) (s3 _ _ ec) lr l1 l2
end
section
variable {Pr : Program} {w : World} {K : PySem.W.Frag} {mg : Str → Option Value} {base : Heap} {f fR fH : Addr} {fd fdR fdH : FuncData}
theorem eqv_more {ws : List (List Nat)} (h : ws ≠ []) : PyData.eqv (.list (ws.map fun l => PyData.str (S l))) (.list []) = false := by
  cases ws with
  | nil => exact absurd rfl h
  | cons x r => rfl
theorem scLateG : FnScope ["_law_found", "_law_words_here", "_law_many", "_law_one", "_law_other"] ["_law_found", "_law_words_here", "_law_many"] (defScope s__law_late_good) := ⟨rfl, rfl, rfl, by decide +kernel, rfl, by decide +kernel, by decide +kernel⟩
def spLateG (K : PySem.W.Frag) : Sp := fun vs H Q _ => ∃ (T b xa ya : Addr) (ws : List (List Nat)) (m : Nat) (one other : List (List Nat)), vs = [.ref T, .ref b, .int (m : Int)] ∧ H T = some (.tup [.ref xa, .ref ya]) ∧ H xa = some (.lst (one.map tx)) ∧ H ya = some (.lst (other.map tx)) ∧ Lrow ws m one other ∧ SqL K H b (ws.map tx) ∧
  (∀ z ∈ ws, WordOk z) ∧ one.length ≤ 133 ∧ other.length ≤ 133 ∧ ∀ H', Same H H' → Q (.bl true) H'
theorem ok_lateG (F : FnP K "_law_late_good" s__law_late_good f fd) (R : Has K mg "_law_is_row" s__law_is_row ["_law_row", "_law_words_here"] fR fdR) (SH : Has K mg "_law_shared" s__law_shared ["_law_one", "_law_other"] fH fdH) (B : Bl mg) : FnOk Pr w K mg base CX0 2 f fd ["_law_found", "_law_words_here", "_law_many"] (spLateG K) := by
  have GR : FnOk Pr w K mg base CX0 1 fR fdR ["_law_row", "_law_words_here"] (spIsRow K) := ok_isRow R.F B
  have GH : FnOk Pr w K mg base CX0 1 fH fdH ["_law_one", "_law_other"] spShared := ok_lawShared SH.F B
  refine F.okN scLateG (fun vs H Q E h => ?_) (fun cdv A' outer s H vs Q E hr h => ?_)
  · obtain ⟨T, b, xa, ya, ws, m, one, other, rfl, _⟩ := h
    rfl
  · obtain ⟨T, b, xa, ya, ws, m, one, other, rfl, hT, hx, hy, ⟨w1, w2, ⟨a0, b0, e0, f0, ne⟩, sh⟩, hB, hw, l1, l2, q⟩ := h
    obtain ⟨xs, rfl⟩ : ∃ xs, one = a0 :: xs := by
      cases one with
      | nil => cases e0
      | cons u v => cases e0; exact ⟨v, rfl⟩
    obtain ⟨ys, rfl⟩ : ∃ ys, other = b0 :: ys := by
      cases other with
      | nil => cases f0
      | cons u v => cases f0; exact ⟨v, rfl⟩
    refine ⟨_, pss_cons (ps_if (PW.pt (pw_or (pt_not (pt_val (pe_callB call_isi (by rfl) B.mIsi boot_isinstance (pa_cons (pv 0) (pa_cons (pe_bltn (v := .ty "tuple") (by rfl) B.mTuple boot_tuple rfl) pa_nil)))))
        (pw_or1 (pt_cmpR op_ne (pe_callB call_len_seq (by rfl) B.mL boot_len (pa_cons (pv 0) pa_nil)) pe_int (nomark _))))) (pss_one (ps_ret pe_bl)) pss_nil)
      (pss_cons (ps_asg (pv 0) (pg_tup rfl (pgs_cons (pg_name (i := 3) scLateG.nd rfl (Or.inl rfl)) (pgs_cons (pg_name (i := 4) scLateG.nd rfl (Or.inl rfl)) pgs_nil))))
      (pss_cons (ps_if (PW.pt (pw_or (pt_not (pt_val (pe_call GR hr (by rfl) R.g R.F.kp R.b .nil pass0 (pa_cons (pv 3) (pa_cons (pv 1) pa_nil)))))
        (pw_or (pt_not (pt_val (pe_call GR hr (by rfl) R.g R.F.kp R.b .nil pass0 (pa_cons (pv 4) (pa_cons (pv 1) pa_nil)))))
        (pw_or (pt_cmpR (op_eqD hr.units) (pv 3) (pe_lst pa_nil) (nomark _))
        (pw_or1 (pt_cmpR (op_eqD hr.units) (pv 4) (pe_lst pa_nil) (nomark _))))))) (pss_one (ps_ret pe_bl)) pss_nil)
      (pss_one (ps_ret (pe_and (pe_cmpR op_ne (pe_ix (r := rIxL K) ix_list (pv 3) pe_int (fun _ _ => rfl)) (pe_ix (r := rIxL K) ix_list (pv 4) pe_int (fun _ _ => rfl)) (nomark _))
        (pe_one (pe_cmpR op_eq (pe_call GH hr (by rfl) SH.g SH.F.kp SH.b .nil pass0 (pa_cons (pe_join pe_str (pv 3)) (pa_cons (pe_join pe_str (pv 4)) pa_nil))) (pv 2) (nomark _)))))))), ?_⟩
    have wl : ∀ z ∈ ws, Let z := fun z hz => (hw z hz).2.2
    have hT' : SqT K H T [.ref xa, .ref ya] := .inl (.inl hT)
    refine ⟨_, rfl, .ref T, .ty "tuple", .type "tuple", .type "tuple", true, rfl, .ty _, .base (.tup hT), kit_ty (by decide +kernel), _, rfl, iteF ?_⟩
    refine ⟨_, rfl, T, _, rfl, .inr hT', rfl, _, rfl, iteNP rfl ?_⟩
    refine ⟨_, rfl, T, _, rfl, hT', rfl, _, _, rfl, _, _, rfl, rfl, ?_⟩
    refine ⟨_, rfl, _, rfl, xa, b, a0 :: xs, ws, rfl, hx, hB, w1, fun H1 s1 => ⟨_, rfl, iteF ?_⟩⟩
    refine ⟨_, rfl, _, rfl, ya, b, b0 :: ys, ws, rfl, s1 _ _ hy, s1.seq hB, w2, fun H2 s2 => ⟨_, rfl, iteF ?_⟩⟩
    have hx2 := s2 _ _ (s1 _ _ hx)
    have hy2 := s2 _ _ (s1 _ _ hy)
    refine ⟨_, rfl, Nat.zero_le _, fun l hl => ?_⟩
    have s3 := same_upd (o := .lst []) hl
    refine ⟨_, .list [], .lst (seqL (s3 _ _ hx2)) (dp_texts (a0 :: xs)), .lst (seqL upd_same) .nil, shaped_texts (fun z hz => wl z (w1 z hz)), by decide +kernel, _, rfl, ?_⟩
    rw [eqv_more (ws := a0 :: xs) (List.cons_ne_nil _ _)]
    refine iteF ?_
    have hx3 := s3 _ _ hx2
    have hy3 := s3 _ _ hy2
    have m3 := (s1.trans s2).trans s3
    generalize (upd H2 l (.lst [])) = H3 at hx3 hy3 m3 ⊢
    refine ⟨_, rfl, Nat.zero_le _, fun l hl => ?_⟩
    have s4 := same_upd (o := .lst []) hl
    refine ⟨_, .list [], .lst (seqL (s4 _ _ hy3)) (dp_texts (b0 :: ys)), .lst (seqL upd_same) .nil, shaped_texts (fun z hz => wl z (w2 z hz)), by decide +kernel, _, rfl, ?_⟩
    rw [eqv_more (ws := b0 :: ys) (List.cons_ne_nil _ _)]
    refine iteF ?_
    have hx4 := s4 _ _ hx3
    have hy4 := s4 _ _ hy3
    have m4 := m3.trans s4
    generalize (upd H3 l (.lst [])) = H4 at hx4 hy4 m4 ⊢
    have gx : ((a0 :: xs).map tx)[0]? = some (V.str (S a0)) := rfl
    have gy : ((b0 :: ys).map tx)[0]? = some (V.str (S b0)) := rfl
    refine ⟨_, rfl, xa, _, 0, _, rfl, rfl, seqL hx4, atI_nat gx, _, rfl, ya, _, 0, _, rfl, rfl, seqL hy4, atI_nat gy, rfl, ?_⟩
    refine ⟨_, rfl, iteNN (fun z => ne (S_inj (V.str.inj z))) ?_⟩
    have j1 := flat_ten (ys := a0 :: xs) fun y hy => (hw y (w1 y hy)).2.1
    have j2 := flat_ten (ys := b0 :: ys) fun y hy => (hw y (w2 y hy)).2.1
    refine ⟨⟨_, rfl⟩, _, rfl, _, xa, (a0 :: xs).map S, rfl, rfl, .inl (by rw [← map_tx]; exact seqL hx4), flat_sz hw w1 (by omega), ?_⟩
    rw [join0]
    refine ⟨⟨_, rfl⟩, _, rfl, _, ya, (b0 :: ys).map S, rfl, rfl, .inl (by rw [← map_tx]; exact seqL hy4), flat_sz hw w2 (by omega), ?_⟩
    rw [join0]
    refine ⟨(a0 :: xs).flatten, (b0 :: ys).flatten, rfl, by omega, by omega, fun H5 s5 => ?_⟩
    rw [sh]
    refine ⟨_, rfl, rfl, ?_⟩
    have e : V.bl true = V.bl (decide (V.int (m : Int) = V.int (m : Int))) := by rw [decide_eq_true rfl]
    have qq := q _ (m4.trans s5)
    rw [e] at qq
    exact qq
end
section
variable {Pr : Program} {w : World} {K : PySem.W.Frag} {mg : Str → Option Value} {base : Heap} {f fD fW fL fG fH : Addr} {fd fdI fdD fdW fdL fdG fdH : FuncData} {P : Addr}
theorem scLaw : FnScope ["_law_script", "_law_words_here", "_law_handed", "_law_due_here", "_law_many", "_law_said", "_law_found", "_law_again"] ["_law_script"] (defScope sLaw) := ⟨rfl, rfl, rfl, by decide +kernel, rfl, by decide +kernel, by decide +kernel⟩
theorem law_of (F : FnP K "law" sLaw f fd) (D : Defs K mg) (B : Bl mg) (DU : Has K mg "_law_due" s__law_due ["_law_words_here"] fD fdD) (GDU : FnOk Pr w K mg base CX0 8 fD fdD ["_law_words_here"] (spDue P))
    (WA : Has K mg "wait" s_wait ["words"] fW fdW) (GWA : FnOk Pr w K mg base CX0 8 fW fdW ["words"] (spWait P))
    (LA : Has K mg "_law_late" s__law_late ["_law_words_here"] fL fdL) (GLA : FnOk Pr w K mg base CX0 8 fL fdL ["_law_words_here"] (spLateT P)) : FnOk Pr w K mg base CX0 9 f fd ["_law_script"] (spLaw K P) := by
  obtain ⟨f8, d8, WS, GWS0⟩ := inWords (Pr := Pr) (w := w) (base := base) D B
  obtain ⟨f3, d3, IR⟩ := D.d__law_is_row
  obtain ⟨f4, d4, GO⟩ := D.d__law_late_good
  obtain ⟨f5, d5, SH⟩ := D.d__law_shared
  obtain ⟨f6, d6, WH⟩ := D.d__law_whole
  have GWS : FnOk Pr w K mg base CX0 8 f8 d8 ["_law_script", "_law_first"] (spWords K) := GWS0.mono (by decide)
  have GG : FnOk Pr w K mg base CX0 8 f4 d4 ["_law_found", "_law_words_here", "_law_many"] (spLateG K) := (ok_lateG GO.F IR SH B).mono (by decide)
  have GH : FnOk Pr w K mg base CX0 8 f6 d6 ["_law_found"] spWhole := (ok_whole WH.F B).mono (by decide)
  refine F.okN scLaw (fun vs H Q E h => ?_) (fun cdv A' outer s H vs Q E hr h => ?_)
  · obtain ⟨a, ns, rfl, _⟩ := h
    rfl
  · obtain ⟨a, ns, rfl, hS, hT, q⟩ := h
    refine ⟨_, pss_cons (ps_set (i := 1) scLaw.nd rfl (.inl rfl) (pe_call GWS hr (by rfl) WS.g WS.F.kp WS.b .nil pass0 (pa_cons (pv 0) (pa_cons pe_int pa_nil))))
      (pss_cons (ps_set (i := 2) scLaw.nd rfl (.inl rfl) (pe_callTy call_list_of (by rfl) B.mList boot_list (pa_cons (pv 1) pa_nil)))
      (pss_cons (ps_set (i := 3) scLaw.nd rfl (.inl rfl) (pe_call GDU hr (by rfl) DU.g DU.F.kp DU.b .nil pass0 (pa_cons (pv 1) pa_nil)))
      (pss_cons (ps_set (i := 4) scLaw.nd rfl (.inl rfl) (pe_call GWA hr (by rfl) WA.g WA.F.kp WA.b .nil pass0 (pa_cons (pv 2) pa_nil)))
      (pss_cons (ps_if (PW.pt (pw_or (PW.pt (pw_and (pt_cmpR op_isN (pv 3) pe_non (nomark _)) (pw_and1 (pt_cmpR op_notN (pv 4) pe_non (nomark _)))))
        (pw_or1 (PW.pt (pw_and (pt_cmpR op_notN (pv 3) pe_non (nomark _)) (pw_and1 (PW.pt (pw_or (pt_not (pt_val (pe_call GH hr (by rfl) WH.g WH.F.kp WH.b .nil pass0 (pa_cons (pv 4) pa_nil)))) (pw_or1 (pt_cmpR op_ne (pv 4) (pv 3) (nomark _)))))))))))
        (pss_one (ps_ret pe_bl)) pss_nil)
      (pss_cons (ps_asg (pe_call GLA hr (by rfl) LA.g LA.F.kp LA.b .nil pass0 (pa_cons (pv 2) pa_nil)) (pg_tup rfl (pgs_cons (pg_name (i := 5) scLaw.nd rfl (Or.inl rfl)) (pgs_cons (pg_name (i := 6) scLaw.nd rfl (Or.inl rfl)) pgs_nil))))
      (pss_cons (ps_if (pt_cmpR op_lt (pe_callB call_len_seq (by rfl) B.mL boot_len (pa_cons (pv 1) pa_nil)) pe_int (nomark _))
        (pss_one (ps_ret (pe_and (pe_cmpR op_eq (pv 5) pe_str (nomark _)) (pe_and (pe_cmpR op_isN (pv 6) pe_non (nomark _)) (pe_one (pe_cmpR (op_eqD hr.units) (pv 2) (pv 1) (nomark _))))))) pss_nil)
      (pss_cons (ps_if (pt_cmpR op_isN (pv 3) pe_non (nomark _))
        (pss_one (ps_ret (pe_and (pe_cmpR (op_eqD hr.units) (pe_tup (pa_cons (pv 5) (pa_cons (pv 6) pa_nil))) (pe_tup (pa_cons pe_str (pa_cons (pe_lst (pa_cons pe_str pa_nil)) pa_nil))) (nomark _)) (pe_one (pe_cmpR (op_eqD hr.units) (pv 2) (pv 1) (nomark _)))))) pss_nil)
      (pss_cons (ps_if (PW.pt (pw_or (pt_cmpR op_ne (pv 5) pe_str (nomark _)) (pw_or1 (pt_not (pt_val (pe_call GG hr (by rfl) GO.g GO.F.kp GO.b .nil pass0 (pa_cons (pv 6) (pa_cons (pv 1) (pa_cons (pv 3) pa_nil)))))))))
        (pss_one (ps_ret pe_bl)) pss_nil)
      (pss_cons (ps_expr (pe_bm PySem.F.plainAttrs_list PySem.F.slot_list_append PySem.F.type_list_append mt_append (pe_ix (r := rIxT K) ix_tup (pv 6) pe_int (fun _ _ => rfl)) (pa_cons pe_str pa_nil)))
      (pss_cons (ps_set (i := 7) scLaw.nd rfl (.inl rfl) (pe_call GLA hr (by rfl) LA.g LA.F.kp LA.b .nil pass0 (pa_cons (pv 2) pa_nil)))
      (pss_one (ps_ret (pe_and (pe_cmpR op_eq (pe_ix (r := rIxT K) ix_tup (pv 7) pe_int (fun _ _ => rfl)) pe_str (nomark _))
        (pe_and (pe_call GG hr (by rfl) GO.g GO.F.kp GO.b .nil pass0 (pa_cons (pe_ix (r := rIxT K) ix_tup (pv 7) pe_int (fun _ _ => rfl)) (pa_cons (pv 1) (pa_cons (pv 3) pa_nil))))
        (pe_and (pe_cmpR (op_eqD hr.units) (pv 2) (pv 1) (nomark _))
        (pe_one (pe_cmpR op_eq (pe_call GWA hr (by rfl) WA.g WA.F.kp WA.b .nil pass0 (pa_cons (pv 2) pa_nil)) (pv 3) (nomark _))))))))))))))))))
      , ?_⟩
    refine ⟨_, rfl, a, ns, 0, rfl, hS, by decide, fun r ws H1 s1 nr er hc => ?_⟩
    refine ⟨_, rfl, r, _, rfl, .inl (seqL er), fun l hl => ?_⟩
    have s2 := same_upd (o := .lst (ws.map tx)) hl
    have er2 := s2 _ _ er
    have el2 : (upd H1 l (.lst (ws.map tx))) l = some (.lst (ws.map tx)) := upd_same
    have m2 : Sm P H _ := .of_same hT (s1.trans s2)
    generalize (upd H1 l (.lst (ws.map tx))) = H2 at m2 er2 el2 ⊢
    refine ⟨_, rfl, r, ws, rfl, er2, hc, m2.tab, fun o hw H3 m3 => ?_⟩
    have er3 := Sm.lst m2.tab m3 er2
    have el3 := Sm.lst m2.tab m3 el2
    refine ⟨_, rfl, l, ws, rfl, el3, hc, m3.tab, fun o' hw' H4 m4 => ?_⟩
    have eo := hw'.one hw
    subst eo
    have er4 := Sm.lst m3.tab m4 er3
    have el4 := Sm.lst m3.tab m4 el3
    have wl : ∀ x ∈ ws, Let x := fun x hx => (hc.2.2 x hx).2.2
    cases o' with
    | none =>
      refine ⟨_, rfl, rfl, _, rfl, iteP rfl ?_⟩
      refine ⟨_, rfl, rfl, _, rfl, iteNP rfl ?_⟩
      refine ⟨_, rfl, rfl, _, rfl, iteNP rfl ?_⟩
      have two : 2 ≤ ws.length := by
        rcases hw with ⟨o, ho, v, hv, ne, _⟩
        match ws, ho, hv with
        | [], ho, _ => nomatch ho
        | [x], ho, hv =>
          rw [List.mem_singleton.mp ho, List.mem_singleton.mp hv] at ne
          exact absurd rfl ne
        | _ :: _ :: _, _, _ => exact Nat.le_add_left _ _
      refine ⟨_, rfl, l, ws, rfl, el4, hc, m4.tab, (fun h => absurd two (by omega)), (fun _ _ T z H5 m5 eT ez => ?_), fun _ m hm => nomatch hm.one hw⟩
      have er5 := Sm.lst m4.tab m5 er4
      have el5 := Sm.lst m4.tab m5 el4
      refine ⟨T, _, rfl, .inl (.inl eT), rfl, _, _, rfl, _, _, rfl, rfl, ?_⟩
      refine ⟨_, rfl, r, _, rfl, .inl (seqL er5), _, _, rfl, rfl, _, rfl, ?_⟩
      rw [List.length_map]
      refine iteN (by omega) ?_
      refine ⟨_, rfl, rfl, _, rfl, iteP rfl ?_⟩
      refine ⟨_, rfl, _, rfl, by show 2 ≤ sizeLine; decide, fun p hp => ?_⟩
      have s6 := same_upd (o := .tup [V.str "refused", .ref z]) hp
      refine ⟨by show 1 ≤ sizeLine; decide, fun z2 hz2 => ?_⟩
      have s7 := same_upd (o := .lst [V.str "wait"]) hz2
      refine ⟨by show 2 ≤ sizeLine; decide, fun p2 hp2 => ?_⟩
      have s8 := same_upd (o := .tup [V.str "refused", .ref z2]) hp2
      have ep8 := s8 _ _ (s7 _ _ (upd_same (H := H5) (a := p) (o := .tup [V.str "refused", .ref z])))
      have ez8 := s8 _ _ (s7 _ _ (s6 _ _ ez))
      have ez28 := s8 z2 _ upd_same
      refine ⟨.tuple [.str "refused", .list [.str "wait"]], .tuple [.str "refused", .list [.str "wait"]], .tup (.inl (.inl ep8)) (.cons (.str _) (.cons (.lst (seqL ez8) (.cons (.str _) .nil)) .nil)), .tup (.inl (.inl upd_same)) (.cons (.str _) (.cons (.lst (seqL ez28) (.cons (.str _) .nil)) .nil)), by decide +kernel, by decide +kernel, _, rfl, ?_⟩
      rw [show PyData.eqv (.tuple [.str "refused", .list [.str "wait"]]) (.tuple [.str "refused", .list [.str "wait"]]) = true by decide +kernel]
      refine iteT ?_
      have s9 := (s6.trans s7).trans s8
      refine ⟨_, rfl, _, rfl, _, _, .lst (seqL (s9 _ _ el5)) (dp_texts ws), .lst (seqL (s9 _ _ er5)) (dp_texts ws), shaped_texts wl, shaped_texts wl, ?_⟩
      rw [eqv_texts wl]
      exact q _
    | some m =>
      refine ⟨_, rfl, rfl, _, rfl, iteN (fun z => nomatch z) ?_⟩
      refine ⟨_, rfl, rfl, _, rfl, iteNN (fun z => nomatch z) ?_⟩
      refine ⟨_, rfl, _, rfl, _, rfl, iteF ?_⟩
      refine ⟨_, rfl, _, rfl, rfl, _, rfl, iteNP rfl ?_⟩
      by_cases h2 : ws.length < 2
      · refine ⟨_, rfl, l, ws, rfl, el4, hc, m4.tab, (fun _ T H5 m5 eT => ?_), (fun h => absurd h2 (by omega)), fun h => absurd h2 (by omega)⟩
        have er5 := Sm.lst m4.tab m5 er4
        have el5 := Sm.lst m4.tab m5 el4
        refine ⟨T, _, rfl, .inl (.inl eT), rfl, _, _, rfl, _, _, rfl, rfl, ?_⟩
        refine ⟨_, rfl, r, _, rfl, .inl (seqL er5), _, _, rfl, rfl, _, rfl, ?_⟩
        rw [List.length_map]
        refine iteP (by omega) ?_
        refine ⟨_, rfl, rfl, _, rfl, iteP rfl ?_⟩
        refine ⟨_, rfl, rfl, _, rfl, iteP rfl ?_⟩
        refine ⟨_, rfl, _, rfl, _, _, .lst (seqL el5) (dp_texts ws), .lst (seqL er5) (dp_texts ws), shaped_texts wl, shaped_texts wl, ?_⟩
        rw [eqv_texts wl]
        exact q _
      · have two : 2 ≤ ws.length := by omega
        refine ⟨_, rfl, l, ws, rfl, el4, hc, m4.tab, (fun h => absurd two (by omega)), (fun _ hn => nomatch hn.one hw), fun _ m' hm T T1 x y one other H5 m5 nT nf eT eT1 ex ey lr l1 l2 => ?_⟩
        have em := Option.some.inj (hm.one hw)
        subst em
        have er5 := Sm.lst m4.tab m5 er4
        have el5 := Sm.lst m4.tab m5 el4
        refine ⟨T, _, rfl, .inl (.inl eT), rfl, _, _, rfl, _, _, rfl, rfl, ?_⟩
        refine ⟨_, rfl, r, _, rfl, .inl (seqL er5), _, _, rfl, rfl, _, rfl, ?_⟩
        rw [List.length_map]
        refine iteN (by omega) ?_
        refine ⟨_, rfl, rfl, _, rfl, iteN (fun z => nomatch z) ?_⟩
        refine ⟨_, rfl, rfl, _, rfl, iteNP rfl ?_⟩
        refine ⟨_, rfl, _, rfl, _, rfl, T1, r, x, y, ws, m', one, other, rfl, eT1, ex, ey, lr, seqL er5, hc.2.2, l1, l2, fun H6 s6 => ⟨_, rfl, iteF ?_⟩⟩
        have ex6 := s6 _ _ ex
        have m56 : Sm P H4 H6 := m5.andThen s6
        have nx : x ≠ P := TabG.ne m56.tab ex6
        refine ⟨_, rfl, T1, _, 0, _, rfl, rfl, .inl (.inl (s6 _ _ eT1)), rfl, .inl ⟨rfl, _, seqL ex6⟩, x, _, _, rfl, rfl, ex6, by rw [List.length_map]; exact small1000 (by omega), ?_⟩
        have t7 : GxR.TabG (upd H6 x (.lst (one.map tx ++ [V.str ""]))) P := tab_upd m56.tab nx
        have er7 : (upd H6 x (.lst (one.map tx ++ [V.str ""]))) r = some (.lst (ws.map tx)) := by rw [upd_ne (ne_of_none er4 nf.1)]; exact s6 _ _ er5
        have el7 : (upd H6 x (.lst (one.map tx ++ [V.str ""]))) l = some (.lst (ws.map tx)) := by rw [upd_ne (ne_of_none el4 nf.1)]; exact s6 _ _ el5
        generalize (upd H6 x (.lst (one.map tx ++ [V.str ""]))) = H7 at t7 er7 el7 ⊢
        refine ⟨_, rfl, l, ws, rfl, el7, hc, t7, (fun h => absurd two (by omega)), (fun _ hn => nomatch hn.one hw), fun _ m2 hm2 T' T1' x' y' one' other' H8 m8 nT' nf' eT' eT1' ex' ey' lr' l1' l2' => ?_⟩
        have em := Option.some.inj (hm2.one hw)
        subst em
        have er8 := Sm.lst t7 m8 er7
        have el8 := Sm.lst t7 m8 el7
        refine ⟨_, rfl, T', _, 0, _, rfl, rfl, .inl (.inl eT'), rfl, rfl, _, rfl, iteP rfl ?_⟩
        refine ⟨_, rfl, T', _, 1, _, rfl, rfl, .inl (.inl eT'), rfl, _, rfl, _, rfl, T1', r, x', y', ws, m2, one', other', rfl, eT1', ex', ey', lr', seqL er8, hc.2.2, l1', l2', fun H9 s9 => ⟨_, rfl, iteT ?_⟩⟩
        have er9 := s9 _ _ er8
        have el9 := s9 _ _ el8
        have m9 : Sm P H7 H9 := m8.andThen s9
        refine ⟨_, rfl, _, rfl, _, _, .lst (seqL el9) (dp_texts ws), .lst (seqL er9) (dp_texts ws), shaped_texts wl, shaped_texts wl, _, rfl, ?_⟩
        rw [eqv_texts wl]
        refine iteT ?_
        refine ⟨_, rfl, l, ws, rfl, el9, hc, m9.tab, fun o hw' H10 m10 => ?_⟩
        have eo := hw'.one hw
        subst eo
        refine ⟨_, rfl, rfl, ?_⟩
        have qq := q H10
        have e : V.bl true = V.bl (decide (wV (some m2) = wV (some m2))) := by rw [decide_eq_true rfl]
        rw [e] at qq
        exact qq
/-- what else the head tells: what isinstance and except say of the class that is raised -/
theorem ok_law (F : FnP K "law" sLaw f fd) (D : Defs K mg) (I : HasI K mg base P fdI) (B : Bl mg) (E : Exs K mg) (M : exB K = true) : FnOk Pr w K mg base CX0 9 f fd ["_law_script"] (spLaw K P) := by
  obtain ⟨M1, M2⟩ := He.ba M
  obtain ⟨f1, d1, WA, GWA⟩ := inWait (Pr := Pr) (w := w) (base := base) D I B
  obtain ⟨f2, d2, LT, GT⟩ := inLatest (Pr := Pr) (w := w) (base := base) D B
  obtain ⟨f3, d3, L⟩ := D.d_late
  obtain ⟨f4, d4, C⟩ := D.d_checked
  obtain ⟨f5, d5, HE, GE⟩ := inHeights (Pr := Pr) (w := w) (base := base) D I B
  obtain ⟨f6, d6, DU⟩ := D.d__law_due
  obtain ⟨f7, d7, SH⟩ := D.d__law_shared
  obtain ⟨f8, d8, LA⟩ := D.d__law_late
  obtain ⟨f9, d9, WO⟩ := D.d__law_words_of
  exact law_of F D B DU ((ok_due DU.F SH HE GE B).mono (by decide)) WA (GWA.mono (by decide)) LA (ok_lateT LA.F (ok_late L.F C I GT LT B E) L WO B E (kitB_ok M1) (of_decide_eq_true M2))
end
open Hd
section
variable {w : World} {h : Heap} {K : PySem.W.Frag} {mg : Str → Option Value} {f : Addr}
theorem there (X : K.In h) (G : h.Ns mainGlobals mg) (c : He.SaysX fa fn [] tf ex w h K) (x : Str) (i j k : Nat) {ps : List Str} (hd : fn[j]? = some (dd x i)) (hg : fa[k]? = some (He.Fa.glo x))
    (hb : ∀ (kV doc pm : Value) (an : Option Addr) (cdv ct : Value) (us : List Value), us.length = ps.length → bindArgs (PySem.W.fnOf x x (defArgs (top i)) (defBody (top i)) (defScope (top i)) .none kV doc pm an cdv ct) ⟨us, []⟩ = pure (ps.zip us)) : There K mg x (top i) ps := by
  obtain ⟨fd, F⟩ := c.t.d.def_ j hd
  exact ⟨_, fd, F, He.glo_ok X G (c.t.d.fact k hg), FunD.bindsN F hb⟩
theorem defs (X : K.In h) (G : h.Ns mainGlobals mg) (c : He.SaysX fa fn [] tf ex w h K) : Defs K mg := {
  d_checked := there X G c "checked" 17 1 4 rfl rfl fun _ _ _ _ _ _ us hl => match us, hl with | [_], _ => rfl
  d_left_of := there X G c "left_of" 18 2 5 rfl rfl fun _ _ _ _ _ _ us hl => match us, hl with | [_, _], _ => rfl
  d_shared := there X G c "shared" 19 3 6 rfl rfl fun _ _ _ _ _ _ us hl => match us, hl with | [_, _], _ => rfl
  d_stepped := there X G c "stepped" 21 4 7 rfl rfl fun _ _ _ _ _ _ us hl => match us, hl with | [_, _], _ => rfl
  d_meetings := there X G c "meetings" 22 5 8 rfl rfl fun _ _ _ _ _ _ us hl => match us, hl with | [_], _ => rfl
  d__first_meetings := there X G c "_first_meetings" 23 6 9 rfl rfl fun _ _ _ _ _ _ us hl => match us, hl with | [_], _ => rfl
  d__further_meetings := there X G c "_further_meetings" 24 7 10 rfl rfl fun _ _ _ _ _ _ us hl => match us, hl with | [_, _, _, _, _], _ => rfl
  d_heights := there X G c "heights" 26 8 11 rfl rfl fun _ _ _ _ _ _ us hl => match us, hl with | [_], _ => rfl
  d_wait := there X G c "wait" 27 9 12 rfl rfl fun _ _ _ _ _ _ us hl => match us, hl with | [_], _ => rfl
  d_late := there X G c "late" 28 10 13 rfl rfl fun _ _ _ _ _ _ us hl => match us, hl with | [_], _ => rfl
  d__settled := there X G c "_settled" 29 11 14 rfl rfl fun _ _ _ _ _ _ us hl => match us, hl with | [_, _], _ => rfl
  d__all_settled := there X G c "_all_settled" 30 12 15 rfl rfl fun _ _ _ _ _ _ us hl => match us, hl with | [_, _, _], _ => rfl
  d__highest := there X G c "_highest" 31 13 16 rfl rfl fun _ _ _ _ _ _ us hl => match us, hl with | [_, _, _], _ => rfl
  d__by_word := there X G c "_by_word" 32 14 17 rfl rfl fun _ _ _ _ _ _ us hl => match us, hl with | [_, _, _], _ => rfl
  d__latest := there X G c "_latest" 33 15 18 rfl rfl fun _ _ _ _ _ _ us hl => match us, hl with | [_], _ => rfl
  d__law_at := there X G c "_law_at" 35 16 19 rfl rfl fun _ _ _ _ _ _ us hl => match us, hl with | [_, _], _ => rfl
  d__law_mixed := there X G c "_law_mixed" 36 17 20 rfl rfl fun _ _ _ _ _ _ us hl => match us, hl with | [_, _], _ => rfl
  d__law_whole := there X G c "_law_whole" 37 18 21 rfl rfl fun _ _ _ _ _ _ us hl => match us, hl with | [_], _ => rfl
  d__law_signs := there X G c "_law_signs" 38 19 22 rfl rfl fun _ _ _ _ _ _ us hl => match us, hl with | [_], _ => rfl
  d__law_word := there X G c "_law_word" 39 20 23 rfl rfl fun _ _ _ _ _ _ us hl => match us, hl with | [_, _], _ => rfl
  d__law_any_word := there X G c "_law_any_word" 40 21 24 rfl rfl fun _ _ _ _ _ _ us hl => match us, hl with | [_], _ => rfl
  d__law_more := there X G c "_law_more" 41 22 25 rfl rfl fun _ _ _ _ _ _ us hl => match us, hl with | [_, _, _], _ => rfl
  d__law_chain := there X G c "_law_chain" 42 23 26 rfl rfl fun _ _ _ _ _ _ us hl => match us, hl with | [_, _, _], _ => rfl
  d__law_words := there X G c "_law_words" 43 24 27 rfl rfl fun _ _ _ _ _ _ us hl => match us, hl with | [_, _], _ => rfl
  d__law_words_of := there X G c "_law_words_of" 44 25 28 rfl rfl fun _ _ _ _ _ _ us hl => match us, hl with | [_], _ => rfl
  d__law_is_row := there X G c "_law_is_row" 45 26 29 rfl rfl fun _ _ _ _ _ _ us hl => match us, hl with | [_, _], _ => rfl
  d__law_shared := there X G c "_law_shared" 46 27 30 rfl rfl fun _ _ _ _ _ _ us hl => match us, hl with | [_, _], _ => rfl
  d__law_due := there X G c "_law_due" 47 28 31 rfl rfl fun _ _ _ _ _ _ us hl => match us, hl with | [_], _ => rfl
  d__law_late := there X G c "_law_late" 48 29 32 rfl rfl fun _ _ _ _ _ _ us hl => match us, hl with | [_], _ => rfl
  d__law_late_good := there X G c "_law_late_good" 49 30 33 rfl rfl fun _ _ _ _ _ _ us hl => match us, hl with | [_, _, _], _ => rfl
}
theorem exs (X : K.In h) (G : h.Ns mainGlobals mg) (c : He.SaysX fa fn [] tf ex w h K) : Exs K mg := {
  c_CodeError := rfl
  g_CodeError := He.glo_ok X G (c.t.d.fact 54 (f := .glo "CodeError") rfl)
  x_CodeError := c.t.d.fact 64 (f := .exc "CodeError") rfl
  c_BadCode := rfl
  g_BadCode := He.glo_ok X G (c.t.d.fact 55 (f := .glo "BadCode") rfl)
  x_BadCode := c.t.d.fact 65 (f := .exc "BadCode") rfl
  c_Full := rfl
  g_Full := He.glo_ok X G (c.t.d.fact 56 (f := .glo "Full") rfl)
  x_Full := c.t.d.fact 66 (f := .exc "Full") rfl
  c_BadWord := rfl
  g_BadWord := He.glo_ok X G (c.t.d.fact 57 (f := .glo "BadWord") rfl)
  x_BadWord := c.t.d.fact 67 (f := .exc "BadWord") rfl
  c_Twice := rfl
  g_Twice := He.glo_ok X G (c.t.d.fact 58 (f := .glo "Twice") rfl)
  x_Twice := c.t.d.fact 68 (f := .exc "Twice") rfl
  c_NotThere := rfl
  g_NotThere := He.glo_ok X G (c.t.d.fact 59 (f := .glo "NotThere") rfl)
  x_NotThere := c.t.d.fact 69 (f := .exc "NotThere") rfl
  c_NoNumber := rfl
  g_NoNumber := He.glo_ok X G (c.t.d.fact 60 (f := .glo "NoNumber") rfl)
  x_NoNumber := c.t.d.fact 70 (f := .exc "NoNumber") rfl
  c_NoWait := rfl
  g_NoWait := He.glo_ok X G (c.t.d.fact 61 (f := .glo "NoWait") rfl)
  x_NoWait := c.t.d.fact 71 (f := .exc "NoWait") rfl
  c_BadSign := rfl
  g_BadSign := He.glo_ok X G (c.t.d.fact 62 (f := .glo "BadSign") rfl)
  x_BadSign := c.t.d.fact 72 (f := .exc "BadSign") rfl
  c_NoReading := rfl
  g_NoReading := He.glo_ok X G (c.t.d.fact 63 (f := .glo "NoReading") rfl)
  x_NoReading := c.t.d.fact 73 (f := .exc "NoReading") rfl
}
theorem bl (X : K.In h) (G : h.Ns mainGlobals mg) (c : He.SaysX fa fn [] tf ex w h K) : Bl mg := {
  mT := He.free_ok X G (c.t.d.fact 34 (f := .free "type") rfl)
  mStr := He.free_ok X G (c.t.d.fact 35 (f := .free "str") rfl)
  mL := He.free_ok X G (c.t.d.fact 36 (f := .free "len") rfl)
  mAll := He.free_ok X G (c.t.d.fact 37 (f := .free "all") rfl)
  mList := He.free_ok X G (c.t.d.fact 38 (f := .free "list") rfl)
  mSorted := He.free_ok X G (c.t.d.fact 39 (f := .free "sorted") rfl)
  mR := He.free_ok X G (c.t.d.fact 40 (f := .free "range") rfl)
  mV := He.free_ok X G (c.t.d.fact 41 (f := .free "reversed") rfl)
  mSum := He.free_ok X G (c.t.d.fact 42 (f := .free "sum") rfl)
  mIsi := He.free_ok X G (c.t.d.fact 43 (f := .free "isinstance") rfl)
  mInt := He.free_ok X G (c.t.d.fact 44 (f := .free "int") rfl)
  mBool := He.free_ok X G (c.t.d.fact 45 (f := .free "bool") rfl)
  mAny := He.free_ok X G (c.t.d.fact 46 (f := .free "any") rfl)
  mMax := He.free_ok X G (c.t.d.fact 47 (f := .free "max") rfl)
  mDict := He.free_ok X G (c.t.d.fact 48 (f := .free "dict") rfl)
  mTuple := He.free_ok X G (c.t.d.fact 49 (f := .free "tuple") rfl)
  mMin := He.free_ok X G (c.t.d.fact 50 (f := .free "min") rfl)
  mVE := He.free_ok X G (c.t.d.fact 51 (f := .free "ValueError") rfl)
  mEnum := He.free_ok X G (c.t.d.fact 52 (f := .free "enumerate") rfl)
  mZip := He.free_ok X G (c.t.d.fact 53 (f := .free "zip") rfl)
  mPush := PySem.W.mg_of X G (He.eqO_ok (He.ba (He.ba c.more).1).1)
  mPop := PySem.W.mg_of X G (He.eqO_ok (He.ba (He.ba (He.ba c.more).1).2).1)
  mCombi := PySem.W.mg_of X G (He.eqO_ok (He.ba (He.ba (He.ba (He.ba c.more).1).2).2).1)
  mN := He.int_ok X G (c.t.d.fact 1 (f := .int "MOST_SIGNS" 10) rfl)
  mM := He.int_ok X G (c.t.d.fact 2 (f := .int "MOST_WORDS" 12) rfl)
}
theorem facts {l : PySem.W.OpenLaw} (X : K.In h) (G : h.Ns mainGlobals mg) (hfa : mg ("law" : Str) = some (.ref f)) (c : He.SaysX fa fn [] tf ex w h K) : LamX.LawAtS l w K CX0 9 63 "_law_script" mg f h := by
  have e := hfa.symm.trans (He.glo_ok X G (c.t.d.fact 0 (f := .glo "law") rfl))
  cases e
  obtain ⟨fd, F⟩ := c.t.d.def_ 31 (d := dd "law" 50) rfl
  obtain ⟨fdI, FI⟩ := c.t.d.def_ 0 (d := dd "is_word" 16) rfl
  have D := defs X G c
  have B := bl X G c
  have E := exs X G c
  have bI : Binds K fdI ["thing"] [] := FunD.bindsN FI fun _ _ _ _ _ _ us hl => match us, hl with | [_], _ => rfl
  have gI := He.glo_ok X G (c.t.d.fact 3 (f := .glo "is_word") rfl)
  have b := FunD.bindsA (ps := ["_law_script"]) F fun _ _ _ _ _ _ us hl => match us, hl with | [_], _ => rfl
  refine ⟨fd, [He.cT K aWord], spLaw K (He.cT K aWord).2, ?_, ?_, ?_, fun s v => b s [v] rfl, ?_, fun base _ _ TB => ?_⟩
  · intro p hp
    rw [List.mem_singleton.mp hp]
    exact c.empty aWord (List.mem_singleton.mpr rfl)
  · intro p hp
    rw [List.mem_singleton.mp hp]
    exact c.out aWord (List.mem_singleton.mpr rfl)
  · intro p hp
    rw [List.mem_singleton.mp hp]
    exact PySem.W.codeHd_of_K X (c.hd aWord (List.mem_singleton.mpr rfl))
  · intro H a ns _ _ hH hS
    exact ⟨a, ns, rfl, hS, ⟨#[], hH _ (List.mem_singleton.mpr rfl), trivial⟩, fun _ => rfl⟩
  · have T := TB _ (List.mem_singleton.mpr rfl)
    have I : HasI K mg base (He.cT K aWord).2 fdI := ⟨FI, gI, bI, ⟨T.code, T.bm, T.gP⟩⟩
    exact ok_law F D I B E (He.ba c.more).2
end
end Ow
open PySem PySem.W PyProof.Rows
set_option maxRecDepth 100000 in
set_option maxHeartbeats 0 in
theorem PySem.Challenge.cw_onereading_k11_wait_and_late_holds : PySem.Challenge.rw_onereading_k11_wait_and_late.Holds := by
  w_on; o_law
  refine HandSHeadRun.head_imp (r := OpenLaw.row PySem.Challenge.rw_onereading_k11_wait_and_late) (q := view (OpenLaw.row PySem.Challenge.rw_onereading_k11_wait_and_late).prog [50]) (H := Ow.Hd.hk) (ob := Ow.Hd.ob) (N := 3000) (M := 20000) (loose := Ow.Hd.loose) (d := HandSHeadRun.topDef (OpenLaw.row PySem.Challenge.rw_onereading_k11_wait_and_late).prog 50) (kwd := []) Ow.Hd.ob_eq
    (by kernel_rfl) Ow.Hd.run (by kernel_rfl) (by kernel_rfl) (by kernel_rfl) (by rfl) (by first | assumption | decide +kernel) (by decide +kernel) ⟨rfl, rfl, rfl, rfl, rfl, by decide +kernel⟩ ?hw ?hc
  case hw => w_witness2
  case hc =>
    refine LamX.walk_ofTsE (l := PySem.Challenge.rw_onereading_k11_wait_and_late) (n := 63) (k := 9) (x := "_law_script") (CX := fun _ => L2.CX0) rfl (by decide) (by kernel_rfl) ⟨rfl, by decide, by decide⟩ ?F (fun _ _ _ _ _ z => z)
    intro w mg fa h Y G hmg0
    obtain ⟨K, KX, c⟩ := Y
    have hmg : mg ("law" : PySem.Str) = some (.ref fa) := by
      have e : (HandSHeadRun.topDef (OpenLaw.row PySem.Challenge.rw_onereading_k11_wait_and_late).prog 50).name = ("law" : PySem.Str) := by kernel_rfl
      rw [← e]
      exact hmg0
    exact ⟨K, KX, Ow.facts KX G hmg c⟩
