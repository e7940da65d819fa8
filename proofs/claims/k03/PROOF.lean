import PyProof.Rows.All
import Wide.All
import OpenK.AllK
import Wide.FinOn
import HandS.ForMost
import HandS.ForExc
import HandS.Defaults
import KE.GoesEnum
import HandS.SortInts
import HandS.Iter
import HandS.Walk
import HandS.DictComp
import HandS.WordsDict
import HandS.Finally
import HandS.HotCalls
import HandS.ExcIs
import HandS.ExcCtx
import HandS.CallSlots
import HandS.Codes
import HandS.StrMore
import HandS.Conv
import HandS.RevRange
import HandS.AnyAll
import HandS.Zip
import HandS.Sort
import HandS.IsInst
import HandS.HeadHook4
import HandS.HeadWalk
import HandS.Head0
import HandS.Head1
import HandS.Head2
import PySem.Challenge.RW_onereading_k03_partings_counted
set_option Elab.async false
set_option linter.all false
set_option maxRecDepth 100000
set_option maxHeartbeats 4000000
namespace Ow
open PySem PySem.Spec PyProof.Rows L2
open SX (S S_len S_cat S_inj S_tl join_S S_beq map_S_tl)
def top (i : Nat) : Stmt := PySem.Challenge.pw_onereading_k03_partings_counted.main.body.getD i (.Pass ⟨0, 0, 0, 0⟩)
abbrev sIsWord : Stmt := top 9
abbrev sChecked : Stmt := top 10
abbrev sCounted : Stmt := top 12
abbrev sWordsAt : Stmt := top 13
abbrev sCounts : Stmt := top 14
abbrev sAt : Stmt := top 16
abbrev sMixed : Stmt := top 17
abbrev sWhole : Stmt := top 18
abbrev sSigns : Stmt := top 19
abbrev sWord : Stmt := top 20
abbrev sAny : Stmt := top 21
abbrev sMore : Stmt := top 22
abbrev sChain : Stmt := top 23
abbrev sWords : Stmt := top 24
abbrev sRow : Stmt := top 25
abbrev sText : Stmt := top 26
abbrev sLawCounts : Stmt := top 27
abbrev sLaw : Stmt := top 28


/-! ### words that stand at one place, the shorter ones first -/
theorem ltc_cons {a b : Nat} {r t : List Nat} : PySem.Spec.ltCps (a :: r) (b :: t) = false ↔ b ≤ a ∧ (a = b → PySem.Spec.ltCps r t = false) := by
  simp only [PySem.Spec.ltCps, Bool.or_eq_false_iff, decide_eq_false_iff_not, Bool.and_eq_false_iff, beq_eq_false_iff_ne]
  constructor
  · rintro ⟨h1, h2⟩
    refine ⟨by omega, fun e => ?_⟩
    rcases h2 with h | h
    · exact absurd e h
    · exact h
  · rintro ⟨h1, h2⟩
    refine ⟨by omega, ?_⟩
    by_cases e : a = b
    · exact .inr (h2 e)
    · exact .inl e
theorem ltc_tr : ∀ {a b c : List Nat}, PySem.Spec.ltCps b a = false → PySem.Spec.ltCps c b = false → PySem.Spec.ltCps c a = false
  | [], _, [], _, _ => rfl
  | [], _, _ :: _, _, _ => rfl
  | _ :: _, [], _, h, _ => by cases h
  | _ :: _, _ :: _, [], _, h => by cases h
  | x :: a, y :: b, z :: c, h, k => by
    have h1 := ltc_cons.mp h
    have h2 := ltc_cons.mp k
    refine ltc_cons.mpr ⟨by omega, fun e => ?_⟩
    exact ltc_tr (h1.2 (by omega)) (h2.2 (by omega))
theorem rising_all : ∀ {l : List (List Nat)} {p : List Nat}, risingS (S p) (l.map S) = true → ∀ x ∈ l, PySem.Spec.ltCps x p = false
  | [], _, _, _, hx => nomatch hx
  | y :: l, p, h, x, hx => by
    have h' : (!PySem.Spec.ltCps y p && risingS (S y) (l.map S)) = true := h
    rw [Bool.and_eq_true, Bool.not_eq_true'] at h'
    rcases List.mem_cons.mp hx with e | m
    · rw [e]
      exact h'.1
    · exact ltc_tr h'.1 (rising_all h'.2 x m)
theorem rising_tail {l : List (List Nat)} {p : List Nat} (h : risingS (S p) (l.map S) = true) : sortedS (l.map S) = true := by
  cases l with
  | nil => rfl
  | cons y l =>
    have h' : (!PySem.Spec.ltCps y p && risingS (S y) (l.map S)) = true := h
    rw [Bool.and_eq_true] at h'
    exact h'.2
theorem sorted_pw : ∀ {l : List (List Nat)}, sortedS (l.map S) = true → l.Pairwise fun a b => PySem.Spec.ltCps b a = false
  | [], _ => .nil
  | x :: l, h => List.pairwise_cons.mpr ⟨rising_all h, sorted_pw (rising_tail h)⟩
abbrev FnP (K : PySem.W.Frag) (x : Str) (st : Stmt) (f : Addr) (fd : FuncData) : Prop := FunD K x x (defArgs st) (defBody st) (defScope st) [] [] f fd
theorem _root_.L2.FunD.okN {P : Program} {w : World} {K : PySem.W.Frag} {mg : Str → Option Value} {base : Heap} {x qual : Str} {params : Arguments} {body : List Stmt} {scope : Scope} {dvs : List V} {kws : List (Str × V)} {f : Addr} {fd : FuncData}
    {CX : CXT} {N ps : List Str} {k : Nat} {sp : Sp} (F : FunD K x qual params body scope dvs kws f fd) (S : FnScope N ps scope) (len : ∀ vs H Q E, sp vs H Q E → vs.length = ps.length)
    (hbody : ∀ (cdv : Value) (A : Around) (outer : List Env) (s : Shared) (H : Hp) (vs : List V) (Q : VK) (E : XK), Room k (A.deeper (envOfC qual scope s.heap.objs.size f cdv)) → sp vs H Q E →
      ∃ t, PSs (cxOf CX P w K mg base N qual scope f cdv A outer s H E).nox body t ∧ t { nx := fun _ H' => Q .non H', rt := Q } (start N vs) H) : FnOk P w K mg base CX (k + 1) f fd ps sp :=
  F.ok S len fun cdv A outer s H vs Q E hr h =>
    let ⟨t, q, r⟩ := hbody cdv A outer s H vs Q E hr h
    ⟨t, q.nox, r⟩
theorem same_upd {H : Hp} {p : Addr} {o : HO} (h : H p = none) : Same H (upd H p o) := fun b x e => by
  rw [upd_ne (ne_of_none e h)]
  exact e
/-- a def of the text whose function object, name and binding are known -/
structure Has (K : PySem.W.Frag) (mg : Str → Option Value) (x : Str) (st : Stmt) (ps : List Str) (f : Addr) (fd : FuncData) : Prop where
  F : FnP K x st f fd
  g : mg x = some (.ref f)
  b : Binds K fd ps []
/-- a def of the text stands behind the top -/
def There (K : PySem.W.Frag) (mg : Str → Option Value) (x : Str) (st : Stmt) (ps : List Str) : Prop := ∃ f fd, Has K mg x st ps f fd
section
variable {P : Program} {w : World} {K : PySem.W.Frag} {mg : Str → Option Value} {base : Heap} {f : Addr} {fd : FuncData}
theorem scAt : FnScope ["_law_script", "_law_k"] ["_law_script", "_law_k"] (defScope sAt) := ⟨rfl, rfl, rfl, by decide +kernel, rfl, by decide +kernel, by decide +kernel⟩
def spAt (K : PySem.W.Frag) : Sp := fun vs H Q _ => ∃ (a : Addr) (ns : List Int) (k : Int), vs = [.ref a, .int k] ∧ SqL K H a (ns.map V.int) ∧ 0 ≤ k ∧ ∀ v : Int, Q (.int v) H
theorem ok_at (F : FnP K "_law_at" sAt f fd) (mL : mg "len" = none) : FnOk P w K mg base CX0 1 f fd ["_law_script", "_law_k"] (spAt K) := by
  refine F.okN scAt (fun vs H Q E h => ?_) (fun cdv A outer s H vs Q E hr h => ?_)
  · obtain ⟨a, ns, k, rfl, _⟩ := h
    rfl
  · obtain ⟨a, ns, k, rfl, hS, hk, q⟩ := h
    refine ⟨_, pss_cons (ps_if (pt_cmpR op_lt (pv 1) (pe_callB call_len_seq (by rfl) mL boot_len (pa_cons (pv 0) pa_nil)) (nomark _))
        (pss_one (ps_ret (pe_ix ix_list (pv 0) (pv 1) (fun _ _ => rfl)))) pss_nil) (pss_one (ps_ret pe_int)), ?_⟩
    refine ⟨_, rfl, _, rfl, a, ns.map V.int, rfl, .inl hS, k, _, rfl, rfl, _, rfl, ite2 (fun c => ?_) (fun c => ?_)⟩
    · have c1 : k < ((ns.map V.int).length : Int) := of_decide_eq_true c
      rw [List.length_map] at c1
      have hi : k.toNat < ns.length := by omega
      refine ⟨_, rfl, _, rfl, a, ns.map V.int, k, .int ns[k.toNat], rfl, rfl, hS, at_of (j := k.toNat) (by omega) ?_, q _⟩
      rw [List.getElem?_map, List.getElem?_eq_getElem hi]
      rfl
    · exact q 0
theorem scMixed : FnScope ["_law_cell", "_law_k", "_law_number"] ["_law_cell", "_law_k"] (defScope sMixed) := ⟨rfl, rfl, rfl, by decide +kernel, rfl, by decide +kernel, by decide +kernel⟩
def spMixed : Sp := fun vs H Q _ => ∃ (c k : Int), vs = [.int c, .int k] ∧ ∀ v : Int, 0 ≤ v → v < 2147483629 → Q (.int v) H
theorem ok_mixed (F : FnP K "_law_mixed" sMixed f fd) : FnOk P w K mg base CX0 1 f fd ["_law_cell", "_law_k"] spMixed := by
  refine F.okN scMixed (fun vs H Q E h => ?_) (fun cdv A outer s H vs Q E hr h => ?_)
  · obtain ⟨c, k, rfl, _⟩ := h
    rfl
  · obtain ⟨c, k, rfl, q⟩ := h
    refine ⟨_, pss_cons (ps_set (i := 2) scMixed.nd rfl (.inl rfl) (pe_op op_mod (pe_op op_mul (pe_op op_add (pe_op op_add (pv 0) (pe_op op_mul pe_int (pv 1))) pe_int) pe_int) pe_int))
      (pss_one (ps_ret (pe_op op_mod (pe_op op_mul (pv 2) (pv 2)) pe_int))), ?_⟩
    refine ⟨_, rfl, _, rfl, 7919, k, rfl, rfl, .inl ⟨by decide, by decide⟩, _, _, rfl, rfl, _, _, rfl, rfl, _, _, rfl, rfl, .inr ⟨by decide, by decide⟩, _, _, rfl, rfl, (by show (0 : Int) < 2147483647; decide), ?_⟩
    have h1 := Int.emod_nonneg ((c + 7919 * k + 3) * 48271) (show (2147483647 : Int) ≠ 0 by decide)
    have h2 := Int.emod_lt_of_pos ((c + 7919 * k + 3) * 48271) (show (0 : Int) < 2147483647 by decide)
    refine ⟨_, rfl, _, rfl, _, _, rfl, rfl, .inl ⟨by omega, by omega⟩, _, _, rfl, rfl, (by show (0 : Int) < 2147483629; decide), ?_⟩
    exact q _ (Int.emod_nonneg _ (by decide)) (Int.emod_lt_of_pos _ (by decide))
end
/-! ### texts by their codes -/
abbrev tx (l : List Nat) : V := V.str (S l)
def Let (l : List Nat) : Prop := ∀ c ∈ l, 97 ≤ c ∧ c ≤ 122
def WordOk (l : List Nat) : Prop := 1 ≤ l.length ∧ l.length ≤ 10 ∧ Let l
theorem Let.app {a b : List Nat} (x : Let a) (y : Let b) : Let (a ++ b) := fun c h => (List.mem_append.mp h).elim (x c) (y c)
theorem Let.sub {a b : List Nat} (x : Let a) (h : ∀ c ∈ b, c ∈ a) : Let b := fun c q => x c (h c q)
theorem Let.one {c : Nat} (h : 97 ≤ c ∧ c ≤ 122) : Let [c] := fun d q => by
  rw [List.mem_singleton.mp q]
  exact h
theorem tx_eq {a b : List Nat} : decide (V.str (S a) = V.str (S b)) = decide (a = b) := by
  rw [Bool.eq_iff_iff, decide_eq_true_eq, decide_eq_true_eq]
  exact ⟨fun h => S_inj (V.str.inj h), fun h => by rw [h]⟩
theorem joinE : ∀ ys : List (List Nat), TL.joinL [] ys = ys.flatten
  | [] => rfl
  | [x] => by
    show x = [x].flatten
    simp
  | x :: y :: r => by
    have ih := joinE (y :: r)
    have e : TL.joinL [] (x :: y :: r) = x ++ ([] ++ TL.joinL [] (y :: r)) := by simp [TL.joinL]
    rw [e, ih, List.nil_append, ← List.flatten_cons]
theorem join0 (ys : List (List Nat)) : Txt.join (Str.ofString "") (ys.map S) = S ys.flatten := by
  rw [show Str.ofString "" = S [] by decide +kernel, join_S, joinE]
theorem map_tx (ys : List (List Nat)) : ys.map tx = (ys.map S).map V.str := by rw [List.map_map]; rfl
theorem lenS (ys : List (List Nat)) : ((ys.map S).map (·.length)) = ys.map (·.length) := SX.lens ys
theorem empLen : (Str.ofString "").length = 0 := by decide +kernel
abbrev alpha : List Nat := [97,98,99,100,101,102,103,104,105,106,107,108,109,110,111,112,113,114,115,116,117,118,119,120,121,122]
theorem alphaS : Str.ofString "abcdefghijklmnopqrstuvwxyz" = S alpha := by decide +kernel
theorem alphaLet : Let alpha := by
  have h : alpha.all (fun c => decide (97 ≤ c) && decide (c ≤ 122)) = true := by decide
  intro c hc
  have q := List.all_eq_true.mp h c hc
  simp only [Bool.and_eq_true, decide_eq_true_eq] at q
  exact q
theorem at_ofI {α : Type} {xs : List α} {i : Int} {v : α} (h0 : 0 ≤ i) (h : xs[i.toNat]? = some v) : atI xs i = some v := by
  have e : ((i.toNat : Nat) : Int) = i := by omega
  have q := atI_nat h
  rw [e] at q
  exact q
/-- an item of a list at a place within it -/
theorem at_in {α : Type} (xs : List α) {i : Int} (h0 : 0 ≤ i) (h : i < (xs.length : Int)) : ∃ c ∈ xs, atI xs i = some c := by
  have hi : i.toNat < xs.length := by omega
  exact ⟨xs[i.toNat], List.getElem_mem hi, at_ofI h0 (List.getElem?_eq_getElem hi)⟩
theorem at_map {α : Type} (g : α → V) (xs : List α) {i : Int} (h0 : 0 ≤ i) (h : i < (xs.length : Int)) : ∃ c ∈ xs, atI (xs.map g) i = some (g c) := by
  obtain ⟨v, hv, e⟩ := at_in (xs.map g) h0 (by rw [List.length_map]; exact h)
  obtain ⟨c, hc, rfl⟩ := List.mem_map.mp hv
  exact ⟨c, hc, e⟩
theorem flat_len {ys : List (List Nat)} (h : ∀ y ∈ ys, y.length = 1) : ys.flatten.length = ys.length := by
  induction ys with
  | nil => rfl
  | cons y r ih =>
    rw [List.flatten_cons, List.length_append, h y List.mem_cons_self, ih fun z hz => h z (List.mem_cons_of_mem _ hz), List.length_cons]
    omega
theorem flat_let {ys : List (List Nat)} (h : ∀ y ∈ ys, Let y) : Let ys.flatten := fun c hc => by
  obtain ⟨y, hy, q⟩ := List.mem_flatten.mp hc
  exact h y hy c q
theorem sum_ones {ys : List (List Nat)} (h : ∀ y ∈ ys, y.length = 1) : ((ys.map S).map (·.length)).sum = ys.length := by
  rw [lenS, ← flat_len h, List.length_flatten]
section
variable {P : Program} {w : World} {K : PySem.W.Frag} {mg : Str → Option Value} {base : Heap} {f : Addr} {fd : FuncData}
theorem scSigns : FnScope ["_law_cell", "_law_some", "_law_many", "_law_k"] ["_law_cell"] (defScope sSigns) := ⟨rfl, rfl, rfl, by decide +kernel, rfl, by decide +kernel, by decide +kernel⟩
def spSigns : Sp := fun vs H Q _ => ∃ (c : Int), vs = [.int c] ∧ ∀ (l : List Nat) (H' : Hp), Same H H' → Let l → 1 ≤ l.length → l.length ≤ 5 → Q (tx l) H'
theorem ok_signs (F : FnP K "_law_signs" sSigns f fd) (mR : mg "range" = none) : FnOk P w K mg base CX0 1 f fd ["_law_cell"] spSigns := by
  refine F.okN scSigns (fun vs H Q E h => ?_) (fun cdv A outer s H vs Q E hr h => ?_)
  · obtain ⟨c, rfl, _⟩ := h
    rfl
  · obtain ⟨c, rfl, q⟩ := h
    refine ⟨_, pss_cons (ps_set (i := 1) scSigns.nd rfl (.inr rfl) pe_str)
      (pss_cons (ps_set (i := 2) scSigns.nd rfl (.inl rfl) (pe_ix ix_list (pe_lst (pa_cons pe_int (pa_cons pe_int (pa_cons pe_int (pa_cons pe_int (pa_cons pe_int (pa_cons pe_int pa_nil))))))) (pe_op op_mod (pv 0) pe_int) (fun _ _ => rfl)))
      (pss_one (ps_ret (pe_join pe_str (pe_lc (own := [("_law_k", 3)]) (g := gName 3) (tt := tYes) rfl scSigns.nd (pi_range1 (by rfl) mR (pa_cons (pv 2) pa_nil)) (blkOk_by (own := [("_law_k", 3)]) (N := ["_law_cell", "_law_some", "_law_many", "_law_k"]) (sc := defScope sSigns) (by decide +kernel))
        (fun _ _ _ _ _ => pg_name (i := 3) scSigns.nd rfl (Or.inl rfl)) (fun _ _ _ _ _ => pts_nil)
        (fun _ _ _ _ _ => pe_ix ix_str (pv 1) (pe_op op_mod (pe_op op_add (pe_op op_fdiv (pv 0) pe_int) (pe_op op_mul (pe_op op_add pe_int (pe_op op_mod (pe_op op_fdiv (pv 0) pe_int) pe_int)) (pv 3))) pe_int) (fun _ _ => rfl))))))), ?_⟩
    -- _law_many = [2, 1, 2, 3, 2, 5][cell % 6]
    refine ⟨by show 6 ≤ sizeLine; decide, fun p hp => ⟨_, rfl, _, _, rfl, rfl, (by show (0 : Int) < 6; decide), ?_⟩⟩
    obtain ⟨m, hm, em⟩ := at_map V.int [2, 1, 2, 3, 2, 5] (i := c % 6) (Int.emod_nonneg _ (by decide)) (Int.emod_lt_of_pos _ (by decide))
    have hm1 : 1 ≤ m ∧ m ≤ 5 := by
      simp only [List.mem_cons, List.not_mem_nil, or_false] at hm
      omega
    refine ⟨p, _, _, _, rfl, rfl, .inl (.inl upd_same), em, ?_⟩
    -- ''.join([.. for _law_k in range(_law_many)])
    refine ⟨⟨_, rfl⟩, _, rfl, m, rfl, by omega, by omega, fun D hD => ?_⟩
    have s1 : Same H (upd H p (.lst ([2, 1, 2, 3, 2, 5].map V.int))) := same_upd hp
    refine lc_range (lo := 0) (n := m.toNat) (fun i H1 => Same H H1 ∧ ∃ ys : List (List Nat), H1 D = some (.lst (ys.map tx)) ∧ ys.length = i ∧ ∀ y ∈ ys, y.length = 1 ∧ Let y) ?_ ?_ ?_
    · exact ⟨s1.trans (same_upd hD), [], upd_same, rfl, fun y hy => nomatch hy⟩
    · rintro i H1 hi ⟨sm, ys, eD, el, hy⟩
      refine ⟨rfl, ?_⟩
      obtain ⟨d, hd, ed⟩ := at_in alpha (i := (c / 6 + (1 + c / 156 % 25) * (0 + (i : Int))) % 26) (Int.emod_nonneg _ (by decide)) (Int.emod_lt_of_pos _ (by decide))
      have b1 := Int.emod_nonneg (c / 156) (show (25 : Int) ≠ 0 by decide)
      have b2 := Int.emod_lt_of_pos (c / 156) (show (0 : Int) < 25 by decide)
      refine ⟨_, rfl, _, rfl, _, _, rfl, rfl, ⟨by decide, by decide⟩, _, rfl, _, _, rfl, rfl, ⟨by decide, by decide⟩, _, _, rfl, rfl, (by show (0 : Int) < 25; decide), _, _, rfl, rfl, _, rfl, _, _, rfl, rfl, .inl ⟨by omega, by omega⟩, _, _, rfl, rfl, _, _, rfl, rfl, (by show (0 : Int) < 26; decide), ?_⟩
      refine ⟨_, _, d, rfl, rfl, by decide +kernel, by rw [alphaS]; exact ed, ?_⟩
      refine ⟨ys.map tx, eD, ?_, ?_⟩
      · rw [List.length_map, el]
        exact small1000 (by omega)
      · refine ⟨fun b o e => ?_, ys ++ [[d]], ?_, by rw [List.length_append, el]; rfl, fun y hy' => ?_⟩
        · have nb : b ≠ D := ne_of_none (s1 _ _ e) hD
          rw [upd_ne nb]
          exact sm _ _ e
        · rw [upd_same, List.map_append]
          rfl
        · rcases List.mem_append.mp hy' with z | z
          · exact hy y z
          · rw [List.mem_singleton.mp z]
            exact ⟨rfl, Let.one (alphaLet d hd)⟩
    · rintro H1 ⟨sm, ys, eD, el, hy⟩
      have h1 : ∀ y ∈ ys, y.length = 1 := fun y h => (hy y h).1
      refine ⟨_, D, ys.map S, rfl, rfl, .inl (.inl (.inl (by rw [← map_tx]; exact eD))), ?_, ?_⟩
      · rw [sum_ones h1, List.length_map, empLen]
        omega
      · rw [join0]
        exact q _ _ sm (flat_let fun y h => (hy y h).2) (by rw [flat_len h1]; omega) (by rw [flat_len h1]; omega)
end
section
variable {P : Program} {w : World} {K : PySem.W.Frag} {mg : Str → Option Value} {base : Heap} {f fM : Addr} {fd fdM : FuncData}
theorem scWord : FnScope ["_law_cell", "_law_signs_here", "_law_size", "_law_j"] ["_law_cell", "_law_signs_here"] (defScope sWord) := ⟨rfl, rfl, rfl, by decide +kernel, rfl, by decide +kernel, by decide +kernel⟩
def spWord : Sp := fun vs H Q _ => ∃ (c : Int) (l : List Nat), vs = [.int c, tx l] ∧ Let l ∧ 1 ≤ l.length ∧ l.length ≤ 1000 ∧ ∀ (y : List Nat) (H' : Hp), Same H H' → WordOk y → Q (tx y) H'
theorem ok_word (F : FnP K "_law_word" sWord f fd) (M : Has K mg "_law_mixed" sMixed ["_law_cell", "_law_k"] fM fdM) (mR : mg "range" = none) (mL : mg "len" = none) : FnOk P w K mg base CX0 2 f fd ["_law_cell", "_law_signs_here"] spWord := by
  have GM : FnOk P w K mg base CX0 1 fM fdM ["_law_cell", "_law_k"] spMixed := ok_mixed M.F
  refine F.okN scWord (fun vs H Q E h => ?_) (fun cdv A outer s H vs Q E hr h => ?_)
  · obtain ⟨c, l, rfl, _⟩ := h
    rfl
  · obtain ⟨c, l, rfl, hl, l1, l2, q⟩ := h
    refine ⟨_, pss_cons (ps_set (i := 2) scWord.nd rfl (.inl rfl) (pe_ix ix_list (pe_lst (pa_cons pe_int (pa_cons pe_int (pa_cons pe_int (pa_cons pe_int (pa_cons pe_int (pa_cons (pe_op op_add pe_int (pe_op op_mod (pe_op op_fdiv (pv 0) pe_int) pe_int)) (pa_cons pe_int (pa_cons pe_int pa_nil))))))))) (pe_op op_mod (pv 0) pe_int) (fun _ _ => rfl)))
      (pss_one (ps_ret (pe_join pe_str (pe_lc (own := [("_law_j", 3)]) (g := gName 3) (tt := tYes) rfl scWord.nd (pi_range1 (by rfl) mR (pa_cons (pv 2) pa_nil)) (blkOk_by (own := [("_law_j", 3)]) (N := ["_law_cell", "_law_signs_here", "_law_size", "_law_j"]) (sc := defScope sWord) (by decide +kernel))
        (fun _ _ _ _ _ => pg_name (i := 3) scWord.nd rfl (Or.inl rfl)) (fun _ _ _ _ _ => pts_nil)
        (fun _ _ _ _ _ => pe_ix ix_str (pv 1) (pe_op op_mod (pe_op op_fdiv (pe_call GM hr (by rfl) M.g M.F.kp M.b .nil pass0 (pa_cons (pv 0) (pa_cons (pv 3) pa_nil))) pe_int) (pe_callB call_len_str (by rfl) mL boot_len (pa_cons (pv 1) pa_nil))) (fun _ _ => rfl)))))), ?_⟩
    have b1 := Int.emod_nonneg (c / 8) (show (10 : Int) ≠ 0 by decide)
    have b2 := Int.emod_lt_of_pos (c / 8) (show (0 : Int) < 10 by decide)
    refine ⟨_, rfl, _, _, rfl, rfl, ⟨by decide, by decide⟩, _, _, rfl, rfl, (by show (0 : Int) < 10; decide), _, _, rfl, rfl, by show 8 ≤ sizeLine; decide, fun p hp => ⟨_, rfl, _, _, rfl, rfl, (by show (0 : Int) < 8; decide), ?_⟩⟩
    obtain ⟨m, hm, em⟩ := at_map V.int [1, 2, 3, 2, 4, 1 + c / 8 % 10, 3, 2] (i := c % 8) (Int.emod_nonneg _ (by decide)) (Int.emod_lt_of_pos _ (by decide))
    have hm1 : 1 ≤ m ∧ m ≤ 10 := by
      simp only [List.mem_cons, List.not_mem_nil, or_false] at hm
      omega
    refine ⟨p, _, _, _, rfl, rfl, .inl (.inl upd_same), em, ?_⟩
    refine ⟨⟨_, rfl⟩, _, rfl, m, rfl, by omega, by omega, fun D hD => ?_⟩
    have s1 : Same H (upd H p (.lst ([1, 2, 3, 2, 4, 1 + c / 8 % 10, 3, 2].map V.int))) := same_upd hp
    refine lc_range (lo := 0) (n := m.toNat) (fun i H1 => Same H H1 ∧ ∃ ys : List (List Nat), H1 D = some (.lst (ys.map tx)) ∧ ys.length = i ∧ ∀ y ∈ ys, y.length = 1 ∧ Let y) ?_ ?_ ?_
    · exact ⟨s1.trans (same_upd hD), [], upd_same, rfl, fun y hy => nomatch hy⟩
    · rintro i H1 hi ⟨sm, ys, eD, el, hy⟩
      refine ⟨rfl, ?_⟩
      refine ⟨_, rfl, _, rfl, _, rfl, c, _, rfl, fun v v0 v1 => ?_⟩
      have lz : (S l).length = l.length := S_len l
      obtain ⟨d, hd, ed⟩ := at_in l (i := v / 64 % (l.length : Int)) (Int.emod_nonneg _ (by omega)) (Int.emod_lt_of_pos _ (by omega))
      refine ⟨_, _, rfl, rfl, ⟨by decide, by decide⟩, _, rfl, S l, rfl, by rw [lz]; exact Nat.le_of_lt (small1000 l2), _, _, rfl, rfl, (by show (0 : Int) < ((S l).length : Int); rw [lz]; omega), ?_⟩
      refine ⟨S l, _, d, rfl, rfl, by rw [lz]; exact Nat.le_of_lt (small1000 l2), by rw [lz]; exact ed, ?_⟩
      refine ⟨ys.map tx, eD, ?_, ?_⟩
      · rw [List.length_map, el]
        exact small1000 (by omega)
      · refine ⟨fun b o e => ?_, ys ++ [[d]], ?_, by rw [List.length_append, el]; rfl, fun y hy' => ?_⟩
        · have nb : b ≠ D := ne_of_none (s1 _ _ e) hD
          rw [upd_ne nb]
          exact sm _ _ e
        · rw [upd_same, List.map_append]
          rfl
        · rcases List.mem_append.mp hy' with z | z
          · exact hy y z
          · rw [List.mem_singleton.mp z]
            exact ⟨rfl, Let.one (hl d hd)⟩
    · rintro H1 ⟨sm, ys, eD, el, hy⟩
      have h1 : ∀ y ∈ ys, y.length = 1 := fun y h => (hy y h).1
      refine ⟨_, D, ys.map S, rfl, rfl, .inl (.inl (.inl (by rw [← map_tx]; exact eD))), ?_, ?_⟩
      · rw [sum_ones h1, List.length_map, empLen]
        omega
      · rw [join0]
        exact q _ _ sm ⟨by rw [flat_len h1]; omega, by rw [flat_len h1]; omega, flat_let fun y h => (hy y h).2⟩
end
/-! ### slices of texts -/
theorem sIx_pos (n d : Nat) {i : Int} (h : 0 ≤ i) : HT.sIx n d (some i) = min i.toNat n := by
  have e : i = ((i.toNat : Nat) : Int) := by omega
  have q := HT.sIx_nat n d i.toNat
  rw [← e] at q
  exact q
theorem cut_from {l : List Nat} {i : Int} (h : 0 ≤ i) : cutS (S l) (some i) none = S (l.drop i.toNat) := by
  unfold cutS
  rw [sIx_pos _ _ h, HT.sIx_none, S_len]
  refine congrArg S ?_
  show (l.drop (min i.toNat l.length)).take (l.length - min i.toNat l.length) = l.drop i.toNat
  rw [List.take_of_length_le (by rw [List.length_drop]; omega)]
  by_cases c : i.toNat ≤ l.length
  · rw [Nat.min_eq_left c]
  · rw [Nat.min_eq_right (by omega), List.drop_of_length_le (Nat.le_refl _), List.drop_of_length_le (by omega)]
theorem cut_to {l : List Nat} {i : Int} (h : 0 ≤ i) : cutS (S l) none (some i) = S (l.take i.toNat) := by
  unfold cutS
  rw [sIx_pos _ _ h, HT.sIx_none, S_len]
  refine congrArg S ?_
  show (l.drop 0).take (min i.toNat l.length - 0) = l.take i.toNat
  rw [List.drop_zero, Nat.sub_zero]
  by_cases c : i.toNat ≤ l.length
  · rw [Nat.min_eq_left c]
  · rw [Nat.min_eq_right (by omega), List.take_of_length_le (Nat.le_refl _), List.take_of_length_le (by omega)]
theorem cut_mid {l : List Nat} {i j : Int} (h : 0 ≤ i) (h2 : 0 ≤ j) : cutS (S l) (some i) (some j) = S ((l.drop i.toNat).take (j.toNat - i.toNat)) := by
  unfold cutS
  rw [sIx_pos _ _ h, sIx_pos _ _ h2, S_len]
  refine congrArg S ?_
  show (l.drop (min i.toNat l.length)).take (min j.toNat l.length - min i.toNat l.length) = (l.drop i.toNat).take (j.toNat - i.toNat)
  by_cases c : i.toNat ≤ l.length
  · rw [Nat.min_eq_left c]
    by_cases d : j.toNat ≤ l.length
    · rw [Nat.min_eq_left d]
    · rw [Nat.min_eq_right (by omega), List.take_of_length_le (by rw [List.length_drop]; omega), List.take_of_length_le (by rw [List.length_drop]; omega)]
  · have e1 : min i.toNat l.length = l.length := Nat.min_eq_right (by omega)
    rw [e1, List.drop_of_length_le (Nat.le_refl _), List.drop_of_length_le (by omega : l.length ≤ i.toNat), List.take_nil, List.take_nil]
theorem let_drop {l : List Nat} (h : Let l) (n : Nat) : Let (l.drop n) := h.sub fun _ q => List.mem_of_mem_drop q
theorem let_take {l : List Nat} (h : Let l) (n : Nat) : Let (l.take n) := h.sub fun _ q => List.mem_of_mem_take q
theorem size1000 {n : Nat} (h : n ≤ 1000) : n ≤ sizeLine := Nat.le_of_lt (small1000 h)
section
variable {P : Program} {w : World} {K : PySem.W.Frag} {mg : Str → Option Value} {base : Heap} {f fM fW : Addr} {fd fdM fdW : FuncData}
theorem scAny : FnScope ["_law_cell", "_law_word_here", "_law_more_here", "_law_j"] ["_law_cell"] (defScope sAny) := ⟨rfl, rfl, rfl, by decide +kernel, rfl, by decide +kernel, by decide +kernel⟩
def spAny : Sp := fun vs H Q _ => ∃ (c : Int), vs = [.int c] ∧ ∀ (y : List Nat), WordOk y → Q (tx y) H
theorem ok_any (F : FnP K "_law_any_word" sAny f fd) (mR : mg "range" = none) : FnOk P w K mg base CX0 1 f fd ["_law_cell"] spAny := by
  refine F.okN scAny (fun vs H Q E h => ?_) (fun cdv A outer s H vs Q E hr h => ?_)
  · obtain ⟨c, rfl, _⟩ := h
    rfl
  · obtain ⟨c, rfl, q⟩ := h
    refine ⟨_, pss_cons (ps_set (i := 1) scAny.nd rfl (.inl rfl) pe_str) (pss_cons (ps_set (i := 2) scAny.nd rfl (.inl rfl) (pe_op op_fdiv (pv 0) pe_int))
      (pss_cons (ps_for PassesOwn.never rfl (pi_range1 (by rfl) mR (pa_cons (pe_op op_add pe_int (pe_op op_mod (pv 0) pe_int)) pa_nil)) (pg_name (i := 3) scAny.nd rfl (Or.inl rfl))
        (pss_cons (ps_set (i := 1) scAny.nd rfl (.inl rfl) (pe_op op_add_str (pv 1) (pe_ix ix_str pe_str (pe_op op_mod (pv 2) pe_int) (fun _ _ => rfl))))
          (pss_one (ps_set (i := 2) scAny.nd rfl (.inl rfl) (pe_op op_fdiv (pv 2) pe_int)))))
      (pss_one (ps_ret (pv 1))))), ?_⟩
    have b1 := Int.emod_nonneg c (show (10 : Int) ≠ 0 by decide)
    have b2 := Int.emod_lt_of_pos c (show (0 : Int) < 10 by decide)
    refine ⟨_, rfl, _, _, rfl, rfl, ⟨by decide, by decide⟩, ?_⟩
    refine ⟨_, rfl, _, _, rfl, rfl, (by show (0 : Int) < 10; decide), _, _, rfl, rfl, _, rfl, by omega, by omega, ?_⟩
    refine for_range (lo := 0) (n := (1 + c % 10).toNat) (fun i σ H1 => H1 = H ∧ ∃ (y : List Nat) (m : Int) (kv : Option V), σ = [some (.int c), some (tx y), some (.int m), kv] ∧ y.length = i ∧ Let y) ?_ ?_ ?_
    · refine ⟨rfl, [], c / 10, none, ?_, rfl, fun c hc => nomatch hc⟩
      show [some (V.int c), some (V.str (Str.ofString "")), some (V.int (c / 10)), none] = _
      rw [show Str.ofString "" = S [] by decide +kernel]
    · rintro i σ H1 hi ⟨rfl, y, m, kv, rfl, el, hy⟩
      obtain ⟨d, hd, ed⟩ := at_in alpha (i := m % 26) (Int.emod_nonneg _ (by decide)) (Int.emod_lt_of_pos _ (by decide))
      refine ⟨_, rfl, _, rfl, _, _, rfl, rfl, (by show (0 : Int) < 26; decide), _, _, d, rfl, rfl, by decide +kernel, by rw [alphaS]; exact ed, S y, ⟨#[d]⟩, rfl, rfl, ?_, ?_⟩
      · rw [S_len, el]
        show i + 1 ≤ sizeLine
        exact size1000 (by omega)
      · refine ⟨_, rfl, _, _, rfl, rfl, ⟨by decide, by decide⟩, rfl, y ++ [d], m / 26, some (.int (0 + (i : Int))), ?_, by rw [List.length_append, el]; rfl, hy.app (Let.one (alphaLet d hd))⟩
        have e : (S y ++ (⟨#[d]⟩ : Str)) = S (y ++ [d]) := S_cat y [d]
        rw [e]
        rfl
    · rintro σ H1 ⟨rfl, y, m, kv, rfl, el, hy⟩
      exact ⟨_, rfl, q y ⟨by omega, by omega, hy⟩⟩
theorem scMore : FnScope ["_law_words_here", "_law_cell", "_law_signs_here", "_law_one", "_law_other", "_law_at_here", "_law_some"] ["_law_words_here", "_law_cell", "_law_signs_here"] (defScope sMore) := ⟨rfl, rfl, rfl, by decide +kernel, rfl, by decide +kernel, by decide +kernel⟩
def spMore (K : PySem.W.Frag) : Sp := fun vs H Q _ => ∃ (a : Addr) (ws : List (List Nat)) (c : Int) (l : List Nat), vs = [.ref a, .int c, tx l] ∧ SqL K H a (ws.map tx) ∧ 1 ≤ ws.length ∧ (∀ x ∈ ws, WordOk x) ∧
  Let l ∧ 1 ≤ l.length ∧ l.length ≤ 1000 ∧ ∀ (y : List Nat) (H' : Hp), Same H H' → WordOk y → Q (tx y) H'
theorem ok_more (F : FnP K "_law_more" sMore f fd) (W : Has K mg "_law_word" sWord ["_law_cell", "_law_signs_here"] fW fdW) (M : Has K mg "_law_mixed" sMixed ["_law_cell", "_law_k"] fM fdM) (mR : mg "range" = none) (mL : mg "len" = none) :
    FnOk P w K mg base CX0 3 f fd ["_law_words_here", "_law_cell", "_law_signs_here"] (spMore K) := by
  have GW : FnOk P w K mg base CX0 2 fW fdW ["_law_cell", "_law_signs_here"] spWord := ok_word W.F M mR mL
  refine F.okN scMore (fun vs H Q E h => ?_) (fun cdv A outer s H vs Q E hr h => ?_)
  · obtain ⟨a, ws, c, l, rfl, _⟩ := h
    rfl
  · obtain ⟨a, ws, c, l, rfl, hS, hn, hw, hl, l1, l2, q⟩ := h
    refine ⟨_, pss_cons (ps_set (i := 3) scMore.nd rfl (.inl rfl) (pe_ix ix_list (pv 0) (pe_op op_mod (pe_op op_fdiv (pv 1) pe_int) (pe_callB call_len_seq (by rfl) mL boot_len (pa_cons (pv 0) pa_nil))) (fun _ _ => rfl)))
      (pss_cons (ps_set (i := 4) scMore.nd rfl (.inl rfl) (pe_ix ix_list (pv 0) (pe_op op_mod (pe_op op_fdiv (pv 1) pe_int) (pe_callB call_len_seq (by rfl) mL boot_len (pa_cons (pv 0) pa_nil))) (fun _ _ => rfl)))
      (pss_cons (ps_set (i := 5) scMore.nd rfl (.inl rfl) (pe_op op_mod (pe_op op_fdiv (pv 1) pe_int) (pe_callB call_len_str (by rfl) mL boot_len (pa_cons (pv 3) pa_nil))))
      (pss_cons (ps_set (i := 6) scMore.nd rfl (.inl rfl) (pe_lst (pa_cons (pe_op op_add_str (pv 3) (pv 4)) (pa_cons (pe_op op_add_str (pv 3) (pv 4)) (pa_cons (pe_op op_add_str (pv 4) (pv 3))
          (pa_cons (pe_op op_add_str (pv 3) (pe_call GW hr (by rfl) W.g W.F.kp W.b .nil pass0 (pa_cons (pe_op op_fdiv (pv 1) pe_int) (pa_cons (pv 2) pa_nil))))
          (pa_cons (pe_op op_add_str (pe_call GW hr (by rfl) W.g W.F.kp W.b .nil pass0 (pa_cons (pe_op op_fdiv (pv 1) pe_int) (pa_cons (pv 2) pa_nil))) (pv 3)) pa_nil)))))))
      (pss_one (ps_ret (pe_slice sl_str (pe_ix ix_list (pe_op op_cat (pv 6) (pe_lst (pa_cons (pe_slice sl_str (pv 3) (po_some (pv 5)) po_none) (pa_cons (pe_slice sl_str (pv 3) po_none (po_some (pe_op op_add (pv 5) pe_int)))
          (pa_cons (pe_op op_add_str (pe_slice sl_str (pv 3) (po_some (pv 5)) po_none) (pv 4)) pa_nil))))) (pe_op op_mod (pv 1) pe_int) (fun _ _ => rfl)) po_none (po_some pe_int))))))), ?_⟩
    have en : (ws.map tx).length = ws.length := List.length_map _
    obtain ⟨one, ho, eo⟩ := at_map tx ws (i := c / 8 % (ws.length : Int)) (Int.emod_nonneg _ (by omega)) (Int.emod_lt_of_pos _ (by omega))
    obtain ⟨oth, hp, ep⟩ := at_map tx ws (i := c / 104 % (ws.length : Int)) (Int.emod_nonneg _ (by omega)) (Int.emod_lt_of_pos _ (by omega))
    obtain ⟨o1, o2, o3⟩ := hw one ho
    obtain ⟨p1, p2, p3⟩ := hw oth hp
    have lo : (S one).length = one.length := S_len one
    have lp : (S oth).length = oth.length := S_len oth
    refine ⟨_, rfl, _, rfl, _, _, rfl, rfl, ⟨by decide, by decide⟩, _, rfl, a, _, rfl, .inl hS, _, _, rfl, rfl, (by show (0 : Int) < ((ws.map tx).length : Int); rw [en]; omega), a, _, _, tx one, rfl, rfl, hS, by rw [en]; exact eo, ?_⟩
    refine ⟨_, rfl, _, rfl, _, _, rfl, rfl, ⟨by decide, by decide⟩, _, rfl, a, _, rfl, .inl hS, _, _, rfl, rfl, (by show (0 : Int) < ((ws.map tx).length : Int); rw [en]; omega), a, _, _, tx oth, rfl, rfl, hS, by rw [en]; exact ep, ?_⟩
    refine ⟨_, rfl, _, _, rfl, rfl, ⟨by decide, by decide⟩, _, rfl, _, rfl, by rw [lo]; exact size1000 (by omega), _, _, rfl, rfl, (by show (0 : Int) < ((S one).length : Int); rw [lo]; omega), ?_⟩
    have i0 := Int.emod_nonneg (c / 1352) (show ((S one).length : Int) ≠ 0 by rw [lo]; omega)
    have i1 := Int.emod_lt_of_pos (c / 1352) (show (0 : Int) < ((S one).length : Int) by rw [lo]; omega)
    obtain ⟨i, hi⟩ : ∃ i : Int, i = c / 1352 % ((S one).length : Int) := ⟨_, rfl⟩
    rw [← hi] at i0 i1
    rw [lo] at i1
    have hv1 := congrArg V.int hi.symm
    -- some = [..]
    refine ⟨_, rfl, _, rfl, _, _, rfl, rfl, by rw [lo, lp]; exact size1000 (by omega), _, rfl, _, rfl, _, _, rfl, rfl, by rw [lo, lp]; exact size1000 (by omega), _, rfl, _, rfl, _, _, rfl, rfl, by rw [lo, lp]; exact size1000 (by omega), ?_⟩
    refine ⟨_, rfl, _, rfl, _, _, rfl, rfl, ⟨by decide, by decide⟩, _, rfl, _, l, rfl, hl, l1, l2, fun y1 H1 sm1 ⟨y11, y12, y13⟩ => ⟨_, _, rfl, rfl, by rw [lo, S_len]; exact size1000 (by omega), ?_⟩⟩
    refine ⟨_, rfl, _, _, rfl, rfl, ⟨by decide, by decide⟩, _, rfl, _, l, rfl, hl, l1, l2, fun y2 H2 sm2 ⟨y21, y22, y23⟩ => ⟨_, rfl, _, _, rfl, rfl, by rw [lo, S_len]; exact size1000 (by omega), ?_⟩⟩
    refine ⟨by show 5 ≤ sizeLine; decide, fun u hu => ?_⟩
    -- the second list
    have zl : ∀ {x : List Nat}, x.length ≤ 1000 → (S x).length ≤ sizeLine := fun {x} h => by rw [S_len]; exact size1000 h
    refine ⟨_, rfl, _, rfl, _, rfl, i, hv1, S one, rfl, zl (by omega), ?_⟩
    refine ⟨_, rfl, _, rfl, i, 1, hv1, rfl, i + 1, rfl, S one, rfl, zl (by omega), ?_⟩
    refine ⟨_, rfl, _, rfl, i, hv1, S one, rfl, zl (by omega), _, rfl, _, _, rfl, rfl, by rw [cut_from i0, S_len, lp, List.length_drop]; exact size1000 (by omega), ?_⟩
    refine ⟨by show 3 ≤ sizeLine; decide, fun v hv => ?_⟩
    have nuv : u ≠ v := fun e => by
      rw [← e, upd_same] at hv
      cases hv
    have hv2 : H2 v = none := (same_upd hu).free hv
    have hv3 : ∀ o, (upd H2 u o) v = none := fun o => by rw [upd_ne nuv.symm]; exact hv2
    rw [cut_from i0, cut_to (by omega : (0 : Int) ≤ i + 1), S_cat, S_cat, S_cat, S_cat, S_cat]
    refine ⟨u, v, [tx (one ++ oth), tx (one ++ oth), tx (oth ++ one), tx (one ++ y1), tx (y2 ++ one)], [tx (one.drop i.toNat), tx (one.take (i + 1).toNat), tx (one.drop i.toNat ++ oth)], rfl, rfl, by rw [upd_ne nuv, upd_same], upd_same, by show 8 ≤ sizeLine; decide, fun r hr0 => ?_⟩
    obtain ⟨z, hz, ez⟩ := at_map tx [one ++ oth, one ++ oth, oth ++ one, one ++ y1, y2 ++ one, one.drop i.toNat, one.take (i + 1).toNat, one.drop i.toNat ++ oth] (i := c % 8) (Int.emod_nonneg _ (by decide)) (Int.emod_lt_of_pos _ (by decide))
    have hz2 : 1 ≤ z.length ∧ z.length ≤ 20 ∧ Let z := by
      have d1 : (one.drop i.toNat).length = one.length - i.toNat := List.length_drop
      have d2 : (one.take (i + 1).toNat).length = min (i + 1).toNat one.length := List.length_take
      have d3 : i.toNat < one.length := by omega
      simp only [List.mem_cons, List.not_mem_nil, or_false] at hz
      rcases hz with rfl | rfl | rfl | rfl | rfl | rfl | rfl | rfl
      · rw [List.length_append]; exact ⟨by omega, by omega, o3.app p3⟩
      · rw [List.length_append]; exact ⟨by omega, by omega, o3.app p3⟩
      · rw [List.length_append]; exact ⟨by omega, by omega, p3.app o3⟩
      · rw [List.length_append]; exact ⟨by omega, by omega, o3.app y13⟩
      · rw [List.length_append]; exact ⟨by omega, by omega, y23.app o3⟩
      · rw [d1]; exact ⟨by omega, by omega, let_drop o3 _⟩
      · rw [d2]; exact ⟨by omega, by omega, let_take o3 _⟩
      · rw [List.length_append, d1]; exact ⟨by omega, by omega, (let_drop o3 _).app p3⟩
    refine ⟨_, rfl, _, _, rfl, rfl, (by show (0 : Int) < 8; decide), r, _, _, tx z, rfl, rfl, .inl (.inl upd_same), ez, 10, rfl, S z, rfl, zl (by omega), ?_⟩
    rw [cut_to (by decide)]
    refine q (z.take 10) _ ?_ ⟨?_, ?_, let_take hz2.2.2 _⟩
    · exact ((sm1.trans sm2).trans (same_upd hu)).trans ((same_upd (hv3 _)).trans (same_upd hr0))
    · rw [List.length_take]; omega
    · rw [List.length_take]; omega
end
/-! ### slices of lists -/
theorem cutv_from {xs : List V} {i : Int} (h : 0 ≤ i) : cutV xs (some i) none = xs.drop i.toNat := by
  unfold cutV
  rw [sIx_pos _ _ h, HT.sIx_none]
  rw [List.take_of_length_le (by rw [List.length_drop]; omega)]
  by_cases c : i.toNat ≤ xs.length
  · rw [Nat.min_eq_left c]
  · rw [Nat.min_eq_right (by omega), List.drop_of_length_le (Nat.le_refl _), List.drop_of_length_le (by omega)]
theorem cutv_to {xs : List V} {i : Int} (h : 0 ≤ i) : cutV xs none (some i) = xs.take i.toNat := by
  unfold cutV
  rw [sIx_pos _ _ h, HT.sIx_none, List.drop_zero, Nat.sub_zero]
  by_cases c : i.toNat ≤ xs.length
  · rw [Nat.min_eq_left c]
  · rw [Nat.min_eq_right (by omega), List.take_of_length_le (Nat.le_refl _), List.take_of_length_le (by omega)]
theorem at_last {α : Type} (g : α → V) {xs : List α} (h : 1 ≤ xs.length) : ∃ c ∈ xs, atI (xs.map g) (-1) = some (g c) := by
  have hne : xs ≠ [] := fun e => by
    rw [e] at h
    exact absurd h (Nat.not_succ_le_zero 0)
  refine ⟨xs.getLast hne, List.getLast_mem hne, ?_⟩
  have e : xs.map g = (xs.dropLast.map g) ++ [g (xs.getLast hne)] := by
    rw [← List.map_singleton, ← List.map_append, List.dropLast_concat_getLast]
  rw [e]
  exact atI_last _ _
theorem seqL {K : PySem.W.Frag} {H : Hp} {a : Addr} {xs : List V} (h : H a = some (.lst xs)) : SqL K H a xs := .inl (.inl h)
section
variable {P : Program} {w : World} {K : PySem.W.Frag} {mg : Str → Option Value} {base : Heap} {f fA fM fW : Addr} {fd fdA fdM fdW : FuncData}
theorem scChain : FnScope ["_law_script", "_law_first", "_law_signs_here", "_law_links", "_law_k", "_law_words_here", "_law_turn"] ["_law_script", "_law_first", "_law_signs_here"] (defScope sChain) := ⟨rfl, rfl, rfl, by decide +kernel, rfl, by decide +kernel, by decide +kernel⟩
def spChain (K : PySem.W.Frag) : Sp := fun vs H Q _ => ∃ (a : Addr) (ns : List Int) (first : Int) (l : List Nat), vs = [.ref a, .int first, tx l] ∧ SqL K H a (ns.map V.int) ∧ 0 ≤ first ∧ Let l ∧ 1 ≤ l.length ∧ l.length ≤ 1000 ∧
  ∀ (r : Addr) (zs : List (List Nat)) (H' : Hp), Same H H' → H r = none → H' r = some (.lst (zs.map tx)) → zs.length ≤ 9 → (∀ z ∈ zs, WordOk z) → Q (.ref r) H'
theorem ok_chain (F : FnP K "_law_chain" sChain f fd) (A : Has K mg "_law_at" sAt ["_law_script", "_law_k"] fA fdA) (W : Has K mg "_law_word" sWord ["_law_cell", "_law_signs_here"] fW fdW) (M : Has K mg "_law_mixed" sMixed ["_law_cell", "_law_k"] fM fdM) (mR : mg "range" = none) (mL : mg "len" = none) :
    FnOk P w K mg base CX0 3 f fd ["_law_script", "_law_first", "_law_signs_here"] (spChain K) := by
  have GW : FnOk P w K mg base CX0 2 fW fdW ["_law_cell", "_law_signs_here"] spWord := ok_word W.F M mR mL
  have GM : FnOk P w K mg base CX0 2 fM fdM ["_law_cell", "_law_k"] spMixed := (ok_mixed M.F).mono (by decide)
  have GA : FnOk P w K mg base CX0 2 fA fdA ["_law_script", "_law_k"] (spAt K) := (ok_at A.F mL).mono (by decide)
  refine F.okN scChain (fun vs H Q E h => ?_) (fun cdv A' outer s H vs Q E hr h => ?_)
  · obtain ⟨a, ns, first, l, rfl, _⟩ := h
    rfl
  · obtain ⟨a, ns, first, l, rfl, hS, h0, hl, l1, l2, q⟩ := h
    refine ⟨_, pss_cons (ps_set (i := 3) scChain.nd rfl (.inr rfl) (pe_lst pa_nil))
      (pss_cons (ps_for PassesOwn.never rfl (pi_range1 (by rfl) mR (pa_cons (pe_op op_add pe_int (pe_op op_mod (pe_op op_fdiv (pe_call GA hr (by rfl) A.g A.F.kp A.b .nil pass0 (pa_cons (pv 0) (pa_cons (pv 1) pa_nil))) pe_int) pe_int)) pa_nil)) (pg_name (i := 4) scChain.nd rfl (Or.inl rfl))
        (pss_one (ps_expr (pe_bm PySem.F.plainAttrs_list PySem.F.slot_list_append PySem.F.type_list_append mt_append (pv 3)
          (pa_cons (pe_slice sl_str (pe_call GW hr (by rfl) W.g W.F.kp W.b .nil pass0 (pa_cons (pe_call GM hr (by rfl) M.g M.F.kp M.b .nil pass0 (pa_cons (pe_call GA hr (by rfl) A.g A.F.kp A.b .nil pass0 (pa_cons (pv 0) (pa_cons (pe_op op_add (pe_op op_add (pv 1) pe_int) (pe_op op_mod (pv 4) pe_int)) pa_nil))) (pa_cons (pv 4) pa_nil))) (pa_cons (pv 2) pa_nil))) po_none (po_some pe_int)) pa_nil)))))
      (pss_cons (ps_set (i := 5) scChain.nd rfl (.inl rfl) (pe_op op_cat (pe_lst (pa_cons (pe_ix ix_list (pv 3) pe_int (fun _ _ => rfl)) pa_nil))
        (pe_lc (own := [("_law_k", 4)]) (g := gName 4) (tt := tYes) rfl scChain.nd (pi_range2 (by rfl) mR (pa_cons pe_int (pa_cons (pe_callB call_len_seq (by rfl) mL boot_len (pa_cons (pv 3) pa_nil)) pa_nil))) (blkOk_by (own := [("_law_k", 4)]) (N := ["_law_script", "_law_first", "_law_signs_here", "_law_links", "_law_k", "_law_words_here", "_law_turn"]) (sc := defScope sChain) (by decide +kernel))
          (fun _ _ _ _ _ => pg_name (i := 4) scChain.nd rfl (Or.inl rfl)) (fun _ _ _ _ _ => pts_nil)
          (fun _ _ _ _ _ => pe_op op_add_str (pe_ix (r := rIxL K) ix_list (pv 3) (pe_op op_sub (pv 4) pe_int) (fun _ _ => rfl)) (pe_ix (r := rIxL K) ix_list (pv 3) (pv 4) (fun _ _ => rfl))))))
      (C8.pss_cut (ps_if (pt_cmpR op_eq (pe_op op_mod (pe_op op_fdiv (pe_call GA hr (by rfl) A.g A.F.kp A.b .nil pass0 (pa_cons (pv 0) (pa_cons (pv 1) pa_nil))) pe_int) pe_int) pe_int (nomark _))
          (pss_one (ps_expr (pe_bm PySem.F.plainAttrs_list PySem.F.slot_list_append PySem.F.type_list_append mt_append (pv 5) (pa_cons (pe_ix ix_list (pv 3) (pe_un un_neg pe_int) (fun _ _ => rfl)) pa_nil)))) pss_nil)
      (pss_cons (ps_set (i := 6) scChain.nd rfl (.inl rfl) (pe_op op_mod (pe_call GA hr (by rfl) A.g A.F.kp A.b .nil pass0 (pa_cons (pv 0) (pa_cons (pe_op op_add (pv 1) pe_int) pa_nil))) (pe_callB call_len_seq (by rfl) mL boot_len (pa_cons (pv 5) pa_nil))))
      (pss_one (ps_ret (pe_op op_cat (pe_slice sl_list (pv 5) (po_some (pv 6)) po_none) (pe_slice sl_list (pv 5) po_none (po_some (pv 6)))))))))), ?_⟩
    refine ⟨Nat.zero_le _, fun p hp => ?_⟩
    have s1 : Same H (upd H p (.lst [])) := same_upd hp
    refine ⟨_, rfl, _, rfl, a, ns, first, rfl, s1.seq hS, h0, fun v => ⟨_, _, rfl, rfl, ⟨by decide, by decide⟩, _, _, rfl, rfl, (by show (0 : Int) < 7; decide), _, _, rfl, rfl, _, rfl, ?_⟩⟩
    have b1 := Int.emod_nonneg (v / 40) (show (7 : Int) ≠ 0 by decide)
    have b2 := Int.emod_lt_of_pos (v / 40) (show (0 : Int) < 7 by decide)
    refine ⟨by omega, by omega, ?_⟩
    refine for_range (lo := 0) (n := (2 + v / 40 % 7).toNat) (fun i σ H1 => Same H H1 ∧ ∃ (ys : List (List Nat)) (kv : Option V), σ = [some (.ref a), some (.int first), some (tx l), some (.ref p), kv, none, none] ∧ H1 p = some (.lst (ys.map tx)) ∧ ys.length = i ∧ ∀ y ∈ ys, 1 ≤ y.length ∧ y.length ≤ 5 ∧ Let y) ?_ ?_ ?_
    · exact ⟨s1, [], none, rfl, upd_same, rfl, fun y hy => nomatch hy⟩
    · rintro i σ H1 hi ⟨sm, ys, kv, rfl, eD, el, hy⟩
      refine ⟨_, rfl, .inl ⟨rfl, _, seqL eD⟩, ?_⟩
      refine ⟨_, rfl, _, rfl, _, _, rfl, rfl, _, rfl, _, _, rfl, rfl, (by show (0 : Int) < 6; decide), _, _, rfl, rfl, a, ns, _, rfl, sm.seq hS, by omega, fun c => ?_⟩
      refine ⟨_, rfl, c, _, rfl, fun m m0 m1 => ⟨_, rfl, m, l, rfl, hl, l1, l2, fun y H2 sm2 ⟨y1, y2, y3⟩ => ?_⟩⟩
      refine ⟨5, rfl, S y, rfl, by rw [S_len]; exact size1000 (by omega), ?_⟩
      rw [cut_to (by decide)]
      refine ⟨p, _, _, rfl, rfl, sm2 _ _ eD, by rw [List.length_map]; exact small1000 (by omega), ?_⟩
      refine ⟨fun b o e => ?_, ys ++ [y.take 5], _, rfl, ?_, by rw [List.length_append, el]; rfl, fun z hz => ?_⟩
      · rw [upd_ne (ne_of_none e hp)]
        exact sm2 _ _ (sm _ _ e)
      · rw [upd_same, List.map_append]
        rfl
      · rcases List.mem_append.mp hz with z1 | z1
        · exact hy z z1
        · rw [List.mem_singleton.mp z1, List.length_take]
          exact ⟨by omega, by omega, let_take y3 _⟩
    · rintro σ H1 ⟨sm, ys, kv, rfl, eD, el, hy⟩
      have hyl : 2 ≤ ys.length ∧ ys.length ≤ 8 := by omega
      obtain ⟨y0, hy0, e0⟩ := at_map tx ys (i := 0) (by decide) (by omega)
      refine ⟨_, rfl, p, _, 0, _, rfl, rfl, seqL eD, e0, by show 1 ≤ sizeLine; decide, fun u hu => ?_⟩
      have s2 : Same H1 (upd H1 u (.lst [tx y0])) := same_upd hu
      have npu : p ≠ u := ne_of_none eD hu
      refine ⟨_, rfl, p, _, rfl, .inl (seqL (s2 _ _ eD)), 1, _, rfl, ⟨by decide, by decide, by rw [List.length_map]; omega, by rw [List.length_map]; omega⟩, fun D hD => ?_⟩
      have nuD : u ≠ D := fun e => by
        rw [← e, upd_same] at hD
        cases hD
      have npD : p ≠ D := ne_of_none (s2 _ _ eD) hD
      have en : (((ys.map tx).length : Int) - 1).toNat = ys.length - 1 := by rw [List.length_map]; omega
      rw [en]
      refine lc_range (lo := 1) (n := ys.length - 1) (fun i H2 => Same H H2 ∧ H2 p = some (.lst (ys.map tx)) ∧ H2 u = some (.lst [tx y0]) ∧ ∃ zs : List (List Nat), H2 D = some (.lst (zs.map tx)) ∧ zs.length = i ∧ ∀ z ∈ zs, WordOk z) ?_ ?_ ?_
      · refine ⟨(sm.trans s2).trans (same_upd hD), by rw [upd_ne npD]; exact s2 _ _ eD, by rw [upd_ne nuD, upd_same], [], upd_same, rfl, fun z hz => nomatch hz⟩
      · rintro i H2 hi ⟨sm2, ep, eu, zs, eZ, ez, hz⟩
        obtain ⟨x1, hx1, e1⟩ := at_map tx ys (i := 1 + (i : Int) - 1) (by omega) (by omega)
        obtain ⟨x2, hx2, e2⟩ := at_map tx ys (i := 1 + (i : Int)) (by omega) (by omega)
        have d1 := hy x1 hx1
        have d2 := hy x2 hx2
        refine ⟨rfl, _, rfl, _, rfl, _, _, rfl, rfl, p, _, _, _, rfl, rfl, seqL ep, e1, _, rfl, _, rfl, p, _, _, _, rfl, rfl, seqL ep, e2, S x1, S x2, rfl, rfl, by rw [S_len, S_len]; exact size1000 (by omega), ?_⟩
        rw [S_cat]
        refine ⟨_, eZ, by rw [List.length_map]; exact small1000 (by omega), fun b o e => ?_, by rw [upd_ne npD]; exact ep, by rw [upd_ne nuD]; exact eu, zs ++ [x1 ++ x2], ?_, by rw [List.length_append, ez]; rfl, fun z hz' => ?_⟩
        · rw [upd_ne (ne_of_none ((sm.trans s2) _ _ e) hD)]
          exact sm2 _ _ e
        · rw [upd_same, List.map_append]
          rfl
        · rcases List.mem_append.mp hz' with z1 | z1
          · exact hz z z1
          · rw [List.mem_singleton.mp z1]
            exact ⟨by rw [List.length_append]; omega, by rw [List.length_append]; omega, d1.2.2.app d2.2.2⟩
      · rintro H2 ⟨sm2, ep, eu, zs, eZ, ez, hz⟩
        refine ⟨u, D, _, _, rfl, rfl, eu, eZ, by rw [List.length_map]; exact size1000 (by show 1 + zs.length ≤ 1000; omega), fun r hr0 => ?_⟩
        have s3 : Same H2 (upd H2 r (.lst ([tx y0] ++ zs.map tx))) := same_upd hr0
        have npr : p ≠ r := ne_of_none ep hr0
        have hHr : H r = none := sm2.free hr0
        have w0 : WordOk y0 := ⟨(hy y0 hy0).1, by have := (hy y0 hy0).2.1; omega, (hy y0 hy0).2.2⟩
        -- if .. : words_here.append(links[-1])
        refine ⟨fun σ H3 => Same H H3 ∧ ∃ (vs : List (List Nat)) (kv : Option V), σ = [some (.ref a), some (.int first), some (tx l), some (.ref p), kv, some (.ref r), none] ∧ H3 r = some (.lst (vs.map tx)) ∧ 1 ≤ vs.length ∧ vs.length ≤ 9 ∧ ∀ z ∈ vs, WordOk z, ?_, ?_⟩
        · refine ⟨_, rfl, _, rfl, a, ns, first, rfl, (sm2.trans s3).seq hS, h0, fun v2 => ⟨_, _, rfl, rfl, ⟨by decide, by decide⟩, _, _, rfl, rfl, (by show (0 : Int) < 2; decide), rfl, _, rfl, ite2 (fun _ => ?_) (fun _ => ?_)⟩⟩
          · obtain ⟨y9, hy9, e9⟩ := at_last tx (xs := ys) (by omega)
            have w9 : WordOk y9 := ⟨(hy y9 hy9).1, by have := (hy y9 hy9).2.1; omega, (hy y9 hy9).2.2⟩
            refine ⟨_, rfl, .inl ⟨rfl, _, seqL upd_same⟩, ?_⟩
            refine ⟨_, rfl, 1, rfl, p, _, _, _, rfl, rfl, seqL (s3 _ _ ep), e9, r, _, _, rfl, rfl, upd_same, ?_, ?_⟩
            · show (zs.map tx).length + 1 < sizeLine
              rw [List.length_map]
              exact small1000 (by omega)
            · refine ⟨fun b o e => ?_, y0 :: zs ++ [y9], _, rfl, ?_, by rw [List.length_append]; show 1 ≤ _ + 1; omega, by rw [List.length_append]; show (zs.length + 1) + 1 ≤ 9; omega, fun z hz' => ?_⟩
              · rw [upd_ne (ne_of_none e hHr)]
                exact s3 _ _ (sm2 _ _ e)
              · rw [upd_same, List.map_append]
                rfl
              · rcases List.mem_append.mp hz' with z1 | z1
                · rcases List.mem_cons.mp z1 with z2 | z2
                  · rw [z2]; exact w0
                  · exact hz z z2
                · rw [List.mem_singleton.mp z1]
                  exact w9
          · refine ⟨sm2.trans s3, y0 :: zs, _, rfl, upd_same, by show 1 ≤ zs.length + 1; omega, by show zs.length + 1 ≤ 9; omega, fun z hz' => ?_⟩
            rcases List.mem_cons.mp hz' with z2 | z2
            · rw [z2]; exact w0
            · exact hz z z2
        · rintro σ H3 ⟨sm3, vs, kv, rfl, eR, v1, v2, hv⟩
          refine ⟨_, rfl, _, rfl, _, _, rfl, rfl, a, ns, _, rfl, sm3.seq hS, by omega, fun c => ⟨_, rfl, r, _, rfl, .inl (seqL eR), _, _, rfl, rfl, (by show (0 : Int) < ((vs.map tx).length : Int); rw [List.length_map]; omega), ?_⟩⟩
          have i0 := Int.emod_nonneg c (show ((vs.map tx).length : Int) ≠ 0 by rw [List.length_map]; omega)
          obtain ⟨i, hi⟩ : ∃ i : Int, i = c % ((vs.map tx).length : Int) := ⟨_, rfl⟩
          have hiv := congrArg V.int hi.symm
          rw [← hi] at i0
          refine ⟨_, rfl, _, rfl, i, hiv, r, _, rfl, seqL eR, fun g1 hg1 => ?_⟩
          rw [cutv_from i0]
          have s4 := same_upd (o := .lst ((vs.map tx).drop i.toNat)) hg1
          refine ⟨_, rfl, _, rfl, i, hiv, r, _, rfl, seqL (s4 _ _ eR), fun g2 hg2 => ?_⟩
          rw [cutv_to i0]
          have n12 : g1 ≠ g2 := fun e => by
            rw [← e, upd_same] at hg2
            cases hg2
          have s5 := same_upd (o := .lst ((vs.map tx).take i.toNat)) hg2
          refine ⟨g1, g2, _, _, rfl, rfl, by rw [upd_ne n12, upd_same], upd_same, ?_, fun g3 hg3 => ?_⟩
          · rw [List.length_drop, List.length_take, List.length_map]
            exact size1000 (by omega)
          · have s6 := same_upd (o := .lst ((vs.map tx).drop i.toNat ++ (vs.map tx).take i.toNat)) hg3
            refine q g3 (vs.drop i.toNat ++ vs.take i.toNat) _ (((sm3.trans s4).trans s5).trans s6) (((sm3.trans s4).trans s5).free hg3) ?_ ?_ fun z hz' => ?_
            · rw [upd_same, List.map_append, List.map_drop, List.map_take]
            · rw [List.length_append, List.length_drop, List.length_take]
              omega
            · rcases List.mem_append.mp hz' with z1 | z1
              · exact hv z (List.mem_of_mem_drop z1)
              · exact hv z (List.mem_of_mem_take z1)
end
def CodeOk (ws : List (List Nat)) : Prop := ws.length ≤ 12 ∧ ws.Nodup ∧ ∀ x ∈ ws, WordOk x
theorem inV_tx (x : List Nat) (ws : List (List Nat)) : inV (tx x) (ws.map tx) = decide (x ∈ ws) := by
  unfold inV
  rw [List.any_map]
  have e : (fun y => eqV y (tx x)) ∘ tx = fun y : List Nat => (y == x) := by
    funext y
    show (S y == S x) = (y == x)
    exact S_beq y x
  rw [e, Bool.eq_iff_iff, List.any_eq_true, decide_eq_true_eq]
  constructor
  · rintro ⟨y, hy, q⟩
    rw [← eq_of_beq q]
    exact hy
  · intro h
    exact ⟨x, h, beq_self_eq_true x⟩
theorem flat_tx (ws : List (List Nat)) : (ws.map tx).all flatV = true := by
  rw [List.all_map, List.all_eq_true]
  intro x _
  rfl
theorem nodup_app {ws : List (List Nat)} {x : List Nat} (h : ws.Nodup) (hx : x ∉ ws) : (ws ++ [x]).Nodup := by
  rw [List.nodup_append]
  refine ⟨h, List.nodup_cons.mpr ⟨List.not_mem_nil, List.nodup_nil⟩, fun a ha b hb e => ?_⟩
  rw [List.mem_singleton.mp hb] at e
  rw [e] at ha
  exact hx ha
theorem dp_texts {K : PySem.W.Frag} {H : Hp} : ∀ ws : List (List Nat), DpAll K H (ws.map tx) (ws.map fun l => PyData.str (S l))
  | [] => .nil
  | x :: r => .cons (.str (S x)) (dp_texts r)
theorem let_ok {l : List Nat} (h : Let l) : PyData.canLay0 (.str (S l)) = true := by
  rw [PyData.canLay0]
  unfold PyData.strOk
  show l.toArray.all (fun a => decide (a < 1114112)) = true
  rw [List.all_toArray, List.all_eq_true]
  intro c hc
  have q := h c hc
  exact decide_eq_true (by omega)
theorem lay_texts : ∀ ws : List (List Nat), (∀ x ∈ ws, Let x) → PyData.canLayAll0 (ws.map fun l => PyData.str (S l)) = true
  | [], _ => by simp [PyData.canLayAll0]
  | x :: r, h => by
    rw [List.map_cons, PyData.canLayAll0, let_ok (h x List.mem_cons_self), lay_texts r fun y hy => h y (List.mem_cons_of_mem _ hy)]
    rfl
theorem depth_texts : ∀ ws : List (List Nat), PyData.depthAll (ws.map fun l => PyData.str (S l)) = 0
  | [] => by simp [PyData.depthAll]
  | x :: r => by
    rw [List.map_cons, PyData.depthAll, depth_texts r, PyData.depth]
    rfl
theorem shaped_texts {ws : List (List Nat)} (h : ∀ x ∈ ws, Let x) : SeqAt.shaped (.list (ws.map fun l => PyData.str (S l))) = true := by
  unfold SeqAt.shaped
  rw [PyData.canLay0, lay_texts ws h, PyData.depth, depth_texts]
  rfl
theorem eqv_texts {ws : List (List Nat)} (h : ∀ x ∈ ws, Let x) : PyData.eqv (.list (ws.map fun l => PyData.str (S l))) (.list (ws.map fun l => PyData.str (S l))) = true :=
  PySem.SeqAt.eqv_refl _ (by rw [PyData.canLay0]; exact lay_texts ws h)
section
variable {P : Program} {w : World} {K : PySem.W.Frag} {mg : Str → Option Value} {base : Heap} {f fA fM fW fS fC fY fO fR : Addr} {fd fdA fdM fdW fdS fdC fdY fdO fdR : FuncData}
theorem scWords : FnScope ["_law_script", "_law_first", "_law_cell", "_law_signs_here", "_law_words_here", "_law_word_here", "_law_k", "_law_one"] ["_law_script", "_law_first"] (defScope sWords) := ⟨rfl, rfl, rfl, by decide +kernel, rfl, by decide +kernel, by decide +kernel⟩
def spWords (K : PySem.W.Frag) : Sp := fun vs H Q _ => ∃ (a : Addr) (ns : List Int) (first : Int), vs = [.ref a, .int first] ∧ SqL K H a (ns.map V.int) ∧ 0 ≤ first ∧
  ∀ (r : Addr) (ws : List (List Nat)) (H' : Hp), Same H H' → H r = none → H' r = some (.lst (ws.map tx)) → CodeOk ws → Q (.ref r) H'
theorem ok_words (F : FnP K "_law_words" sWords f fd) (A : Has K mg "_law_at" sAt ["_law_script", "_law_k"] fA fdA) (W : Has K mg "_law_word" sWord ["_law_cell", "_law_signs_here"] fW fdW) (M : Has K mg "_law_mixed" sMixed ["_law_cell", "_law_k"] fM fdM)
    (Z : Has K mg "_law_signs" sSigns ["_law_cell"] fS fdS) (C : Has K mg "_law_chain" sChain ["_law_script", "_law_first", "_law_signs_here"] fC fdC) (Y : Has K mg "_law_any_word" sAny ["_law_cell"] fY fdY) (O : Has K mg "_law_more" sMore ["_law_words_here", "_law_cell", "_law_signs_here"] fO fdO)
    (mR : mg "range" = none) (mL : mg "len" = none) : FnOk P w K mg base CX0 4 f fd ["_law_script", "_law_first"] (spWords K) := by
  have GW : FnOk P w K mg base CX0 3 fW fdW ["_law_cell", "_law_signs_here"] spWord := (ok_word W.F M mR mL).mono (by decide)
  have GM : FnOk P w K mg base CX0 3 fM fdM ["_law_cell", "_law_k"] spMixed := (ok_mixed M.F).mono (by decide)
  have GA : FnOk P w K mg base CX0 3 fA fdA ["_law_script", "_law_k"] (spAt K) := (ok_at A.F mL).mono (by decide)
  have GZ : FnOk P w K mg base CX0 3 fS fdS ["_law_cell"] spSigns := (ok_signs Z.F mR).mono (by decide)
  have GC : FnOk P w K mg base CX0 3 fC fdC ["_law_script", "_law_first", "_law_signs_here"] (spChain K) := ok_chain C.F A W M mR mL
  have GY : FnOk P w K mg base CX0 3 fY fdY ["_law_cell"] spAny := (ok_any Y.F mR).mono (by decide)
  have GO : FnOk P w K mg base CX0 3 fO fdO ["_law_words_here", "_law_cell", "_law_signs_here"] (spMore K) := ok_more O.F W M mR mL
  refine F.okN scWords (fun vs H Q E h => ?_) (fun cdv A' outer s H vs Q E hr h => ?_)
  · obtain ⟨a, ns, first, rfl, _⟩ := h
    rfl
  · obtain ⟨a, ns, first, rfl, hS, h0, q⟩ := h
    refine ⟨_, pss_cons (ps_set (i := 2) scWords.nd rfl (.inl rfl) (pe_call GA hr (by rfl) A.g A.F.kp A.b .nil pass0 (pa_cons (pv 0) (pa_cons (pv 1) pa_nil))))
      (pss_cons (ps_set (i := 3) scWords.nd rfl (.inl rfl) (pe_call GZ hr (by rfl) Z.g Z.F.kp Z.b .nil pass0 (pa_cons (pe_call GA hr (by rfl) A.g A.F.kp A.b .nil pass0 (pa_cons (pv 0) (pa_cons (pe_op op_add (pv 1) pe_int) pa_nil))) pa_nil)))
      (pss_cons (ps_set (i := 4) scWords.nd rfl (.inl rfl) (pe_lst pa_nil))
      (pss_cons (ps_if (pt_cmpR op_eq (pe_op op_mod (pe_op op_fdiv (pv 2) pe_int) pe_int) pe_int (nomark _))
        (pss_cons (ps_for PassesOwn.never rfl (pi_list (pe_call GC hr (by rfl) C.g C.F.kp C.b .nil pass0 (pa_cons (pv 0) (pa_cons (pv 1) (pa_cons (pv 3) pa_nil))))) (pg_name (i := 5) scWords.nd rfl (Or.inl rfl))
          (pss_one (ps_if (pt_cmpR op_notIn_seq (pv 5) (pv 4) (by rfl)) (pss_one (ps_expr (pe_bm PySem.F.plainAttrs_list PySem.F.slot_list_append PySem.F.type_list_append mt_append (pv 4) (pa_cons (pv 5) pa_nil)))) pss_nil)))
        (pss_one (ps_ret (pv 4)))) pss_nil)
      (pss_cons (ps_for PassesOwn.never rfl (pi_range1 (by rfl) mR (pa_cons (pe_ix ix_list (pe_lst (pa_cons pe_int (pa_cons pe_int (pa_cons pe_int (pa_cons pe_int (pa_cons pe_int (pa_cons pe_int (pa_cons pe_int (pa_cons pe_int (pa_cons pe_int (pa_cons pe_int pa_nil))))))))))) (pe_op op_mod (pv 2) pe_int) (fun _ _ => rfl)) pa_nil)) (pg_name (i := 6) scWords.nd rfl (Or.inl rfl))
        (pss_cons (ps_set (i := 7) scWords.nd rfl (.inl rfl) (pe_call GA hr (by rfl) A.g A.F.kp A.b .nil pass0 (pa_cons (pv 0) (pa_cons (pe_op op_add (pe_op op_add (pv 1) pe_int) (pe_op op_mod (pv 6) pe_int)) pa_nil))))
        (pss_cons (ps_set (i := 5) scWords.nd rfl (.inl rfl) (pe_call GW hr (by rfl) W.g W.F.kp W.b .nil pass0 (pa_cons (pe_call GM hr (by rfl) M.g M.F.kp M.b .nil pass0 (pa_cons (pv 7) (pa_cons (pv 6) pa_nil))) (pa_cons (pv 3) pa_nil))))
        (C8.pss_cut (ps_if (pt_cmpR op_eq (pe_op op_mod (pe_op op_fdiv (pv 2) pe_int) pe_int) pe_int (nomark _))
            (pss_one (ps_set (i := 5) scWords.nd rfl (.inl rfl) (pe_call GY hr (by rfl) Y.g Y.F.kp Y.b .nil pass0 (pa_cons (pe_op op_add (pv 7) (pv 6)) pa_nil))))
            (pss_one (ps_if (PW.pt (pw_and (pt_cmpR (op_neD hr.units) (pv 4) (pe_lst pa_nil) (nomark _)) (pw_and1 (pt_cmpR op_eq (pe_op op_mod (pe_op op_fdiv (pe_call GM hr (by rfl) M.g M.F.kp M.b .nil pass0 (pa_cons (pv 7) (pa_cons (pv 6) pa_nil))) pe_int) pe_int) pe_int (nomark _)))))
              (pss_one (ps_set (i := 5) scWords.nd rfl (.inl rfl) (pe_call GO hr (by rfl) O.g O.F.kp O.b .nil pass0 (pa_cons (pv 4) (pa_cons (pe_call GM hr (by rfl) M.g M.F.kp M.b .nil pass0 (pa_cons (pv 7) (pa_cons (pe_op op_add (pv 6) pe_int) pa_nil))) (pa_cons (pv 3) pa_nil)))))) pss_nil)))
          (pss_one (ps_if (pt_cmpR op_notIn_seq (pv 5) (pv 4) (by rfl)) (pss_one (ps_expr (pe_bm PySem.F.plainAttrs_list PySem.F.slot_list_append PySem.F.type_list_append mt_append (pv 4) (pa_cons (pv 5) pa_nil)))) pss_nil))))))
      (pss_one (ps_ret (pv 4))))))), ?_⟩
    refine ⟨_, rfl, _, rfl, a, ns, first, rfl, hS, h0, fun c => ?_⟩
    refine ⟨_, rfl, _, rfl, _, _, rfl, rfl, a, ns, _, rfl, hS, by omega, fun c2 => ⟨c2, rfl, fun l H1 sm1 hl l1 l2 => ?_⟩⟩
    refine ⟨Nat.zero_le _, fun b hb => ?_⟩
    have s2 : Same H (upd H1 b (.lst [])) := sm1.trans (same_upd hb)
    have hHb : H b = none := sm1.free hb
    refine ⟨_, rfl, _, _, rfl, rfl, ⟨by decide, by decide⟩, _, _, rfl, rfl, (by show (0 : Int) < 4; decide), rfl, _, rfl, ite2 (fun _ => ?_) (fun _ => ?_)⟩
    · -- the chain
      refine ⟨_, rfl, _, rfl, _, rfl, a, ns, first, l, rfl, s2.seq hS, h0, hl, l1, by omega, fun r zs H2 sm2 nr eR hz hzw => ?_⟩
      have nrb : r ≠ b := fun e => by
        rw [e, upd_same] at nr
        cases nr
      refine ⟨r, rfl, ⟨_, seqL eR⟩, for_list (K := K) (a := r) (xs := zs.map tx) (fun i σ H3 => Same H H3 ∧ H3 r = some (.lst (zs.map tx)) ∧ ∃ (ws : List (List Nat)) (kv : Option V), σ = [some (.ref a), some (.int first), some (.int c), some (tx l), some (.ref b), kv, none, none] ∧ H3 b = some (.lst (ws.map tx)) ∧ ws.length ≤ i ∧ ws.Nodup ∧ ∀ x ∈ ws, WordOk x) ?_ ?_ ?_ ?_⟩
      · exact ⟨s2.trans sm2, eR, [], none, rfl, sm2 _ _ upd_same, Nat.le_refl _, List.nodup_nil, fun x hx => nomatch hx⟩
      · intro i σ H3 _ hh
        exact seqL hh.2.1
      · rintro i x σ H3 hx ⟨sm3, er3, ws, kv, rfl, eb, wl, wn, wo⟩
        have hiz : i < zs.length := by
          have := (List.getElem?_eq_some_iff.mp hx).1
          rw [List.length_map] at this
          exact this
        have hxe : x = tx zs[i] := by
          rw [List.getElem?_map, List.getElem?_eq_getElem hiz] at hx
          exact (Option.some.inj hx).symm
        subst hxe
        refine ⟨_, rfl, _, rfl, b, _, rfl, .inl (seqL eb), rfl, flat_tx ws, _, rfl, ?_⟩
        rw [inV_tx]
        refine ite2 (fun hn => ?_) (fun hn => ?_)
        · have hni : zs[i] ∉ ws := by
            intro z
            rw [decide_eq_true z] at hn
            exact Bool.noConfusion hn
          refine ⟨_, rfl, .inl ⟨rfl, _, seqL eb⟩, _, rfl, b, _, _, rfl, rfl, eb, by rw [List.length_map]; exact small1000 (by omega), ?_⟩
          refine ⟨fun d o e => ?_, by rw [upd_ne nrb]; exact er3, ws ++ [zs[i]], _, rfl, ?_, by rw [List.length_append]; exact Nat.succ_le_succ wl, nodup_app wn hni, fun z hz' => ?_⟩
          · rw [upd_ne (ne_of_none e hHb)]
            exact sm3 _ _ e
          · rw [upd_same, List.map_append]
            rfl
          · rcases List.mem_append.mp hz' with z1 | z1
            · exact wo z z1
            · rw [List.mem_singleton.mp z1]
              exact hzw _ (List.getElem_mem hiz)
        · exact ⟨sm3, er3, ws, _, rfl, eb, Nat.le_succ_of_le wl, wn, wo⟩
      · rintro σ H3 ⟨sm3, er3, ws, kv, rfl, eb, wl, wn, wo⟩
        rw [List.length_map] at wl
        exact ⟨_, rfl, q b ws H3 sm3 hHb eb ⟨by omega, wn, wo⟩⟩
    · -- the drawn words
      refine ⟨by show 10 ≤ sizeLine; decide, fun p hp => ⟨_, rfl, _, _, rfl, rfl, (by show (0 : Int) < 10; decide), ?_⟩⟩
      obtain ⟨m, hm, em⟩ := at_map V.int [2, 3, 4, 5, 3, 2, 6, 1, 0, 12] (i := c % 10) (Int.emod_nonneg _ (by decide)) (Int.emod_lt_of_pos _ (by decide))
      have hm1 : 0 ≤ m ∧ m ≤ 12 := by
        simp only [List.mem_cons, List.not_mem_nil, or_false] at hm
        omega
      have s3 : Same (upd H1 b (.lst [])) (upd (upd H1 b (.lst [])) p (.lst ([2, 3, 4, 5, 3, 2, 6, 1, 0, 12].map V.int))) := same_upd hp
      refine ⟨p, _, _, _, rfl, rfl, seqL upd_same, em, m, rfl, by omega, by omega, ?_⟩
      refine for_range (lo := 0) (n := m.toNat) (fun i σ H3 => Same H H3 ∧ ∃ (ws : List (List Nat)) (kv5 kv6 kv7 : Option V), σ = [some (.ref a), some (.int first), some (.int c), some (tx l), some (.ref b), kv5, kv6, kv7] ∧ H3 b = some (.lst (ws.map tx)) ∧ ws.length ≤ i ∧ ws.Nodup ∧ ∀ x ∈ ws, WordOk x) ?_ ?_ ?_
      · exact ⟨s2.trans s3, [], none, none, none, rfl, s3 _ _ upd_same, Nat.le_refl _, List.nodup_nil, fun x hx => nomatch hx⟩
      · rintro i σ H3 hi ⟨sm3, ws, kv5, kv6, kv7, rfl, eb, wl, wn, wo⟩
        refine ⟨_, rfl, _, rfl, _, _, rfl, rfl, _, rfl, _, _, rfl, rfl, (by show (0 : Int) < 6; decide), _, _, rfl, rfl, a, ns, _, rfl, sm3.seq hS, by omega, fun one => ?_⟩
        refine ⟨_, rfl, _, rfl, one, _, rfl, fun v _ _ => ⟨_, rfl, v, l, rfl, hl, l1, by omega, fun y H4 sm4 hy => ?_⟩⟩
        -- the word is one
        refine ⟨fun σ H5 => Same H H5 ∧ ∃ (z : List Nat) (kv6 kv7 : Option V), σ = [some (.ref a), some (.int first), some (.int c), some (tx l), some (.ref b), some (tx z), kv6, kv7] ∧ H5 b = some (.lst (ws.map tx)) ∧ WordOk z, ?_, ?_⟩
        · refine ⟨_, rfl, _, _, rfl, rfl, ⟨by decide, by decide⟩, _, _, rfl, rfl, (by show (0 : Int) < 4; decide), rfl, _, rfl, ite2 (fun _ => ?_) (fun _ => ?_)⟩
          · refine ⟨_, rfl, _, rfl, _, _, rfl, rfl, _, rfl, fun z hz => ?_⟩
            exact ⟨sm3.trans sm4, z, _, _, rfl, sm4 _ _ eb, hz⟩
          · refine ⟨_, rfl, Nat.zero_le _, fun e he => ?_⟩
            have s5 : Same H4 (upd H4 e (.lst [])) := same_upd he
            refine ⟨.list (ws.map fun l => PyData.str (S l)), .list [], .lst (seqL (s5 _ _ (sm4 _ _ eb))) (dp_texts ws), .lst (seqL upd_same) .nil, shaped_texts (fun x hx => (wo x hx).2.2), by decide +kernel, _, rfl, ?_⟩
            refine ite2 (fun hne => ?_) (fun _ => ?_)
            · have hws : 1 ≤ ws.length := by
                cases ws with
                | nil =>
                  have e0 : (!PyData.eqv (.list ([].map fun l => PyData.str (S l))) (.list [])) = false := by decide +kernel
                  rw [e0] at hne
                  exact absurd hne Bool.false_ne_true
                | cons x r => exact Nat.succ_le_succ (Nat.zero_le _)
              refine ⟨_, rfl, _, rfl, one, _, rfl, fun v2 _ _ => ⟨_, _, rfl, rfl, ⟨by decide, by decide⟩, _, _, rfl, rfl, (by show (0 : Int) < 2; decide), rfl, _, rfl, ite2 (fun _ => ?_) (fun _ => ?_)⟩⟩
              · refine ⟨_, rfl, _, rfl, _, rfl, _, _, rfl, rfl, one, _, rfl, fun v3 _ _ => ⟨_, rfl, b, ws, v3, l, rfl, seqL (s5 _ _ (sm4 _ _ eb)), hws, wo, hl, l1, by omega, fun z H6 sm6 hz => ?_⟩⟩
                exact ⟨((sm3.trans sm4).trans s5).trans sm6, z, _, _, rfl, sm6 _ _ (s5 _ _ (sm4 _ _ eb)), hz⟩
              · exact ⟨(sm3.trans sm4).trans s5, y, _, _, rfl, s5 _ _ (sm4 _ _ eb), hy⟩
            · exact ⟨(sm3.trans sm4).trans s5, y, _, _, rfl, s5 _ _ (sm4 _ _ eb), hy⟩
        · rintro σ H5 ⟨sm5, z, kv6, kv7, rfl, eb5, hz⟩
          refine ⟨_, rfl, _, rfl, b, _, rfl, .inl (seqL eb5), rfl, flat_tx ws, _, rfl, ?_⟩
          rw [inV_tx]
          refine ite2 (fun hn => ?_) (fun hn => ?_)
          · have hni : z ∉ ws := by
              intro z'
              rw [decide_eq_true z'] at hn
              exact Bool.noConfusion hn
            refine ⟨_, rfl, .inl ⟨rfl, _, seqL eb5⟩, _, rfl, b, _, _, rfl, rfl, eb5, by rw [List.length_map]; exact small1000 (by omega), ?_⟩
            refine ⟨fun d o e => ?_, ws ++ [z], _, _, _, rfl, ?_, by rw [List.length_append]; exact Nat.succ_le_succ wl, nodup_app wn hni, fun z' hz' => ?_⟩
            · rw [upd_ne (ne_of_none e hHb)]
              exact sm5 _ _ e
            · rw [upd_same, List.map_append]
              rfl
            · rcases List.mem_append.mp hz' with z1 | z1
              · exact wo z' z1
              · rw [List.mem_singleton.mp z1]
                exact hz
          · exact ⟨sm5, ws, _, _, _, rfl, eb5, Nat.le_succ_of_le wl, wn, wo⟩
      · rintro σ H3 ⟨sm3, ws, kv5, kv6, kv7, rfl, eb, wl, wn, wo⟩
        exact ⟨_, rfl, q b ws H3 sm3 hHb eb ⟨by omega, wn, wo⟩⟩
end
theorem sum_ten : ∀ {ys : List (List Nat)}, (∀ y ∈ ys, y.length ≤ 10) → (ys.map (·.length)).sum ≤ 10 * ys.length
  | [], _ => Nat.le_refl _
  | x :: r, h => by
    have i := sum_ten (ys := r) fun y hy => h y (List.mem_cons_of_mem _ hy)
    have j := h x List.mem_cons_self
    rw [List.map_cons, List.sum_cons, List.length_cons]
    omega
theorem flat_ten {ys : List (List Nat)} (h : ∀ y ∈ ys, y.length ≤ 10) : ys.flatten.length ≤ 10 * ys.length := by
  rw [List.length_flatten]
  exact sum_ten h
theorem join_room {ys : List (List Nat)} (h : ∀ y ∈ ys, y.length ≤ 10) (hl : ys.length ≤ 1000) : ((ys.map S).map (·.length)).sum + (ys.map S).length * (Str.ofString "").length ≤ 16777216 := by
  rw [lenS, empLen]
  have := sum_ten h
  omega
theorem q_list (ws : List (List Nat)) : ws.map tx ++ [V.str (Str.ofString "q")] = ((ws ++ [[113]]).map S).map V.str := by
  rw [show Str.ofString "q" = S [113] by decide +kernel, List.map_append, List.map_append, ← map_tx]
  rfl
section
variable {P : Program} {w : World} {K : PySem.W.Frag} {mg : Str → Option Value} {base : Heap} {f fA fM fR : Addr} {fd fdA fdM fdR : FuncData}
theorem scRow : FnScope ["_law_script", "_law_first", "_law_words_here", "_law_most", "_law_row_here", "_law_k"] ["_law_script", "_law_first", "_law_words_here", "_law_most"] (defScope sRow) := ⟨rfl, rfl, rfl, by decide +kernel, rfl, by decide +kernel, by decide +kernel⟩
def spRow (K : PySem.W.Frag) : Sp := fun vs H Q _ => ∃ (a : Addr) (ns : List Int) (first : Int) (b : Addr) (ws : List (List Nat)) (most : Int), vs = [.ref a, .int first, .ref b, .int most] ∧ SqL K H a (ns.map V.int) ∧ 0 ≤ first ∧ SqL K H b (ws.map tx) ∧ (∀ x ∈ ws, WordOk x) ∧ 0 ≤ most ∧ most ≤ 100 ∧
  ∀ (r : Addr) (ys : List (List Nat)) (H' : Hp), Same H H' → H r = none → H' r = some (.lst (ys.map tx)) → (ys.length : Int) ≤ most → (∀ y ∈ ys, y ∈ ws) → Q (.ref r) H'
theorem ok_row (F : FnP K "_law_row" sRow f fd) (A : Has K mg "_law_at" sAt ["_law_script", "_law_k"] fA fdA) (M : Has K mg "_law_mixed" sMixed ["_law_cell", "_law_k"] fM fdM) (mR : mg "range" = none) (mL : mg "len" = none) :
    FnOk P w K mg base CX0 2 f fd ["_law_script", "_law_first", "_law_words_here", "_law_most"] (spRow K) := by
  have GM : FnOk P w K mg base CX0 1 fM fdM ["_law_cell", "_law_k"] spMixed := ok_mixed M.F
  have GA : FnOk P w K mg base CX0 1 fA fdA ["_law_script", "_law_k"] (spAt K) := ok_at A.F mL
  refine F.okN scRow (fun vs H Q E h => ?_) (fun cdv A' outer s H vs Q E hr h => ?_)
  · obtain ⟨a, ns, first, b, ws, most, rfl, _⟩ := h
    rfl
  · obtain ⟨a, ns, first, b, ws, most, rfl, hS, h0, hB, hw, m0, m1, q⟩ := h
    refine ⟨_, pss_cons (ps_set (i := 4) scRow.nd rfl (.inl rfl) (pe_lst pa_nil))
      (C8.pss_cut (ps_if (pt_cmpR (op_neD hr.units) (pv 2) (pe_lst pa_nil) (nomark _))
        (pss_one (ps_for PassesOwn.never rfl (pi_range1 (by rfl) mR (pa_cons (pe_op op_mod (pe_call GA hr (by rfl) A.g A.F.kp A.b .nil pass0 (pa_cons (pv 0) (pa_cons (pv 1) pa_nil))) (pe_op op_add (pv 3) pe_int)) pa_nil)) (pg_name (i := 5) scRow.nd rfl (Or.inl rfl))
          (pss_one (ps_expr (pe_bm PySem.F.plainAttrs_list PySem.F.slot_list_append PySem.F.type_list_append mt_append (pv 4)
            (pa_cons (pe_ix ix_list (pv 2) (pe_op op_mod (pe_op op_fdiv (pe_call GM hr (by rfl) M.g M.F.kp M.b .nil pass0 (pa_cons (pe_call GA hr (by rfl) A.g A.F.kp A.b .nil pass0 (pa_cons (pv 0) (pa_cons (pe_op op_add (pe_op op_add (pv 1) pe_int) (pe_op op_mod (pv 5) pe_int)) pa_nil))) (pa_cons (pv 5) pa_nil))) pe_int) (pe_callB call_len_seq (by rfl) mL boot_len (pa_cons (pv 2) pa_nil))) (fun _ _ => rfl)) pa_nil)))))) pss_nil)
      (pss_one (ps_ret (pv 4)))), ?_⟩
    refine ⟨Nat.zero_le _, fun r hr0 => ?_⟩
    have s1 : Same H (upd H r (.lst [])) := same_upd hr0
    refine ⟨fun σ H3 => Same H H3 ∧ ∃ (ys : List (List Nat)) (kv : Option V), σ = [some (.ref a), some (.int first), some (.ref b), some (.int most), some (.ref r), kv] ∧ H3 r = some (.lst (ys.map tx)) ∧ (ys.length : Int) ≤ most ∧ ∀ y ∈ ys, y ∈ ws, ?_, ?_⟩
    · refine ⟨_, rfl, Nat.zero_le _, fun e he => ?_⟩
      have s5 : Same (upd H r (.lst [])) (upd (upd H r (.lst [])) e (.lst [])) := same_upd he
      refine ⟨.list (ws.map fun l => PyData.str (S l)), .list [], .lst ((s1.trans s5).seq hB) (dp_texts ws), .lst (seqL upd_same) .nil, shaped_texts (fun x hx => (hw x hx).2.2), by decide +kernel, _, rfl, ite2 (fun hne => ?_) (fun _ => ?_)⟩
      · have hws : 1 ≤ ws.length := by
          cases ws with
          | nil =>
            have e0 : (!PyData.eqv (.list ([].map fun l => PyData.str (S l))) (.list [])) = false := by decide +kernel
            rw [e0] at hne
            exact absurd hne Bool.false_ne_true
          | cons x r => exact Nat.succ_le_succ (Nat.zero_le _)
        refine ⟨_, rfl, _, rfl, a, ns, first, rfl, (s1.trans s5).seq hS, h0, fun v => ⟨_, rfl, _, _, rfl, rfl, _, _, rfl, rfl, by omega, _, rfl, ?_⟩⟩
        have b1 := Int.emod_nonneg v (show most + 1 ≠ 0 by omega)
        have b2 := Int.emod_lt_of_pos v (show (0 : Int) < most + 1 by omega)
        refine ⟨by omega, by omega, ?_⟩
        refine for_range (lo := 0) (n := (v % (most + 1)).toNat) (fun i σ H3 => Same H H3 ∧ ∃ (ys : List (List Nat)) (kv : Option V), σ = [some (.ref a), some (.int first), some (.ref b), some (.int most), some (.ref r), kv] ∧ H3 r = some (.lst (ys.map tx)) ∧ ys.length = i ∧ ∀ y ∈ ys, y ∈ ws) ?_ ?_ ?_
        · exact ⟨s1.trans s5, [], none, rfl, s5 _ _ upd_same, rfl, fun y hy => nomatch hy⟩
        · rintro i σ H3 hi ⟨sm3, ys, kv, rfl, eR, el, hy⟩
          have en : (ws.map tx).length = ws.length := List.length_map _
          refine ⟨_, rfl, .inl ⟨rfl, _, seqL eR⟩, ?_⟩
          refine ⟨_, rfl, _, rfl, _, rfl, _, _, rfl, rfl, _, rfl, _, _, rfl, rfl, (by show (0 : Int) < 5; decide), _, _, rfl, rfl, a, ns, _, rfl, sm3.seq hS, by omega, fun c => ?_⟩
          refine ⟨_, rfl, c, _, rfl, fun u u0 u1 => ?_⟩
          obtain ⟨z, hz, ez⟩ := at_map tx ws (i := u / 16 % (ws.length : Int)) (Int.emod_nonneg _ (by omega)) (Int.emod_lt_of_pos _ (by omega))
          refine ⟨_, _, rfl, rfl, ⟨by decide, by decide⟩, _, rfl, b, _, rfl, .inl (sm3.seq hB), _, _, rfl, rfl, (by show (0 : Int) < ((ws.map tx).length : Int); rw [en]; omega), b, _, _, tx z, rfl, rfl, sm3.seq hB, by rw [en]; exact ez, ?_⟩
          refine ⟨r, _, _, rfl, rfl, eR, by rw [List.length_map]; exact small1000 (by omega), fun d o e => ?_, ys ++ [z], _, rfl, ?_, by rw [List.length_append, el]; rfl, fun y hy' => ?_⟩
          · rw [upd_ne (ne_of_none e hr0)]
            exact sm3 _ _ e
          · rw [upd_same, List.map_append]
            rfl
          · rcases List.mem_append.mp hy' with z1 | z1
            · exact hy y z1
            · rw [List.mem_singleton.mp z1]
              exact hz
        · rintro σ H3 ⟨sm3, ys, kv, rfl, eR, el, hy⟩
          exact ⟨sm3, ys, kv, rfl, eR, by omega, hy⟩
      · exact ⟨s1.trans s5, [], none, rfl, s5 _ _ upd_same, m0, fun y hy => nomatch hy⟩
    · rintro σ H3 ⟨sm3, ys, kv, rfl, eR, el, hy⟩
      exact ⟨_, rfl, q r ys H3 sm3 hr0 eR el hy⟩
theorem scText : FnScope ["_law_script", "_law_first", "_law_words_here", "_law_text_here", "_law_cell", "_law_at_here", "_law_sign", "_law_some"] ["_law_script", "_law_first", "_law_words_here"] (defScope sText) := ⟨rfl, rfl, rfl, by decide +kernel, rfl, by decide +kernel, by decide +kernel⟩
def spText (K : PySem.W.Frag) : Sp := fun vs H Q _ => ∃ (a : Addr) (ns : List Int) (first : Int) (b : Addr) (ws : List (List Nat)), vs = [.ref a, .int first, .ref b] ∧ SqL K H a (ns.map V.int) ∧ 0 ≤ first ∧ H b = some (.lst (ws.map tx)) ∧ CodeOk ws ∧
  ∀ (t : List Nat) (H' : Hp), Same H H' → Let t → t.length ≤ 81 → Q (tx t) H'
theorem ok_text (F : FnP K "_law_text" sText f fd) (R : Has K mg "_law_row" sRow ["_law_script", "_law_first", "_law_words_here", "_law_most"] fR fdR) (A : Has K mg "_law_at" sAt ["_law_script", "_law_k"] fA fdA) (M : Has K mg "_law_mixed" sMixed ["_law_cell", "_law_k"] fM fdM) (mR : mg "range" = none) (mL : mg "len" = none) :
    FnOk P w K mg base CX0 3 f fd ["_law_script", "_law_first", "_law_words_here"] (spText K) := by
  have GA : FnOk P w K mg base CX0 2 fA fdA ["_law_script", "_law_k"] (spAt K) := (ok_at A.F mL).mono (by decide)
  have GR : FnOk P w K mg base CX0 2 fR fdR ["_law_script", "_law_first", "_law_words_here", "_law_most"] (spRow K) := ok_row R.F A M mR mL
  refine F.okN scText (fun vs H Q E h => ?_) (fun cdv A' outer s H vs Q E hr h => ?_)
  · obtain ⟨a, ns, first, b, ws, rfl, _⟩ := h
    rfl
  · obtain ⟨a, ns, first, b, ws, rfl, hS, h0, hB, ⟨c1, c2, c3⟩, q⟩ := h
    refine ⟨_, pss_cons (ps_set (i := 3) scText.nd rfl (.inl rfl) (pe_join pe_str (pe_call GR hr (by rfl) R.g R.F.kp R.b .nil pass0 (pa_cons (pv 0) (pa_cons (pv 1) (pa_cons (pv 2) (pa_cons pe_int pa_nil)))))))
      (pss_cons (ps_set (i := 4) scText.nd rfl (.inl rfl) (pe_call GA hr (by rfl) A.g A.F.kp A.b .nil pass0 (pa_cons (pv 0) (pa_cons (pe_op op_add (pv 1) pe_int) pa_nil))))
      (pss_cons (ps_set (i := 5) scText.nd rfl (.inl rfl) (pe_op op_mod (pe_op op_fdiv (pv 4) pe_int) (pe_op op_add (pe_callB call_len_str (by rfl) mL boot_len (pa_cons (pv 3) pa_nil)) pe_int)))
      (pss_cons (ps_set (i := 6) scText.nd rfl (.inl rfl) (pe_ix ix_str (pe_join pe_str (pe_op op_cat (pv 2) (pe_lst (pa_cons pe_str pa_nil)))) (pe_op op_mod (pe_op op_fdiv (pv 4) pe_int) (pe_callB call_len_str (by rfl) mL boot_len (pa_cons (pe_join pe_str (pe_op op_cat (pv 2) (pe_lst (pa_cons pe_str pa_nil)))) pa_nil))) (fun _ _ => rfl)))
      (pss_cons (ps_set (i := 7) scText.nd rfl (.inl rfl) (pe_lst (pa_cons (pv 3) (pa_cons (pv 3) (pa_cons (pv 3) (pa_cons (pv 3)
          (pa_cons (pe_op op_add_str (pe_op op_add_str (pe_slice sl_str (pv 3) po_none (po_some (pv 5))) (pv 6)) (pe_slice sl_str (pv 3) (po_some (pv 5)) po_none))
          (pa_cons (pe_op op_add_str (pe_slice sl_str (pv 3) po_none (po_some (pv 5))) (pe_slice sl_str (pv 3) (po_some (pe_op op_add (pv 5) pe_int)) po_none))
          (pa_cons (pe_slice sl_str (pv 3) po_none (po_some (pv 5))) pa_nil)))))))))
      (pss_one (ps_ret (pe_ix ix_list (pe_op op_cat (pv 7) (pe_lst (pa_cons (pe_op op_add_str (pe_op op_add_str (pe_slice sl_str (pv 3) po_none (po_some (pv 5))) (pv 6)) (pe_slice sl_str (pv 3) (po_some (pe_op op_add (pv 5) pe_int)) po_none)) pa_nil))) (pe_op op_mod (pv 4) pe_int) (fun _ _ => rfl)))))))), ?_⟩
    -- the joined row
    refine ⟨⟨_, rfl⟩, _, rfl, _, rfl, _, rfl, a, ns, first, b, ws, 8, rfl, hS, h0, seqL hB, c3, by decide, by decide, fun r ys H1 sm1 nr eR hl hy => ?_⟩
    have hy10 : ∀ y ∈ ys, y.length ≤ 10 := fun y h => (c3 y (hy y h)).2.1
    refine ⟨_, r, ys.map S, rfl, rfl, .inl (seqL (by rw [← map_tx]; exact eR)), join_room hy10 (by omega), ?_⟩
    rw [join0]
    have ht : Let ys.flatten := flat_let fun y h => (c3 y (hy y h)).2.2
    have htl := flat_ten hy10
    obtain ⟨t, et⟩ : ∃ t, t = ys.flatten := ⟨_, rfl⟩
    rw [← et] at ht htl ⊢
    have ht80 : t.length ≤ 80 := by omega
    have zl : ∀ {x : List Nat}, x.length ≤ 1000 → (S x).length ≤ sizeLine := fun {x} h => by rw [S_len]; exact size1000 h
    -- cell, at
    refine ⟨_, rfl, _, rfl, _, _, rfl, rfl, a, ns, _, rfl, sm1.seq hS, by omega, fun c => ?_⟩
    refine ⟨_, rfl, _, _, rfl, rfl, ⟨by decide, by decide⟩, _, rfl, S t, rfl, zl (by omega), _, _, rfl, rfl, _, _, rfl, rfl, (by show (0 : Int) < ((S t).length : Int) + 1; omega), ?_⟩
    have i0 := Int.emod_nonneg (c / 8) (show ((S t).length : Int) + 1 ≠ 0 by omega)
    have i1 := Int.emod_lt_of_pos (c / 8) (show (0 : Int) < ((S t).length : Int) + 1 by omega)
    obtain ⟨i, hi⟩ : ∃ i : Int, i = c / 8 % (((S t).length : Int) + 1) := ⟨_, rfl⟩
    have hv := congrArg V.int hi.symm
    rw [← hi] at i0 i1
    rw [S_len] at i1
    -- the sign
    have hq10 : ∀ y ∈ ws ++ [[113]], y.length ≤ 10 := fun y h => by
      rcases List.mem_append.mp h with z | z
      · exact (c3 y z).2.1
      · rw [List.mem_singleton.mp z]
        decide
    have hqL : Let (ws ++ [[113]]).flatten := flat_let fun y h => by
      rcases List.mem_append.mp h with z | z
      · exact (c3 y z).2.2
      · rw [List.mem_singleton.mp z]
        exact Let.one (by decide)
    have hql := flat_ten hq10
    have hqn : (ws ++ [[113]]).length = ws.length + 1 := List.length_append
    have hq1 : 1 ≤ (ws ++ [[113]]).flatten.length := by
      rw [List.flatten_append, List.length_append]
      show 1 ≤ _ + 1
      omega
    have eB1 : H1 b = some (.lst (ws.map tx)) := sm1 _ _ hB
    refine ⟨⟨_, rfl⟩, _, rfl, by show 1 ≤ sizeLine; decide, fun g1 hg1 => ?_⟩
    have s2 : Same H1 (upd H1 g1 (.lst [V.str (Str.ofString "q")])) := same_upd hg1
    refine ⟨b, g1, _, _, rfl, rfl, s2 _ _ eB1, upd_same, by rw [List.length_map]; exact size1000 (by show ws.length + 1 ≤ 1000; omega), fun g2 hg2 => ?_⟩
    have s3 := same_upd (o := .lst (ws.map tx ++ [V.str (Str.ofString "q")])) hg2
    refine ⟨_, g2, (ws ++ [[113]]).map S, rfl, rfl, .inl (seqL (by rw [← q_list]; exact upd_same)), join_room hq10 (by omega), ?_⟩
    rw [join0]
    obtain ⟨z, ez⟩ : ∃ z, z = (ws ++ [[113]]).flatten := ⟨_, rfl⟩
    rw [← ez] at hqL hql hq1 ⊢
    refine ⟨_, rfl, _, _, rfl, rfl, ⟨by decide, by decide⟩, ⟨_, rfl⟩, _, rfl, by show 1 ≤ sizeLine; decide, fun g3 hg3 => ?_⟩
    have s4 := same_upd (o := .lst [V.str (Str.ofString "q")]) hg3
    refine ⟨b, g3, _, _, rfl, rfl, s4 _ _ (s3 _ _ (s2 _ _ eB1)), upd_same, by rw [List.length_map]; exact size1000 (by show ws.length + 1 ≤ 1000; omega), fun g4 hg4 => ?_⟩
    have s5 := same_upd (o := .lst (ws.map tx ++ [V.str (Str.ofString "q")])) hg4
    refine ⟨_, g4, (ws ++ [[113]]).map S, rfl, rfl, .inl (seqL (by rw [← q_list]; exact upd_same)), join_room hq10 (by omega), ?_⟩
    rw [join0, ← ez]
    obtain ⟨d, hd, ed⟩ := at_in z (i := c / 512 % (z.length : Int)) (Int.emod_nonneg _ (by omega)) (Int.emod_lt_of_pos _ (by omega))
    refine ⟨S z, rfl, zl (by omega), _, _, rfl, rfl, (by show (0 : Int) < ((S z).length : Int); rw [S_len]; omega), S z, _, d, rfl, rfl, zl (by omega), by rw [S_len]; exact ed, ?_⟩
    -- some
    have d1 : (t.take i.toNat).length = min i.toNat t.length := List.length_take
    have d2 : (t.drop i.toNat).length = t.length - i.toNat := List.length_drop
    have d3 : (t.drop (i + 1).toNat).length = t.length - (i + 1).toNat := List.length_drop
    have eS : (⟨#[d]⟩ : Str) = S [d] := rfl
    rw [eS]
    refine ⟨_, rfl, _, rfl, _, rfl, _, rfl, ?_⟩
    refine ⟨_, rfl, _, rfl, i, hv, S t, rfl, zl (by omega), _, rfl, ?_⟩
    rw [cut_to i0]
    refine ⟨_, _, rfl, rfl, by rw [S_len, S_len, d1]; exact size1000 (by show _ + 1 ≤ 1000; omega), ?_⟩
    rw [S_cat]
    refine ⟨_, rfl, _, rfl, i, hv, S t, rfl, zl (by omega), ?_⟩
    rw [cut_from i0]
    refine ⟨_, _, rfl, rfl, by rw [S_len, S_len, List.length_append, d1, d2]; exact size1000 (by show _ + 1 + _ ≤ 1000; omega), ?_⟩
    rw [S_cat]
    refine ⟨_, rfl, _, rfl, i, hv, S t, rfl, zl (by omega), ?_⟩
    rw [cut_to i0]
    refine ⟨_, rfl, _, rfl, i, 1, hv, rfl, i + 1, rfl, S t, rfl, zl (by omega), ?_⟩
    rw [cut_from (by omega : (0 : Int) ≤ i + 1)]
    refine ⟨_, _, rfl, rfl, by rw [S_len, S_len, d1, d3]; exact size1000 (by omega), ?_⟩
    rw [S_cat]
    refine ⟨_, rfl, _, rfl, i, hv, S t, rfl, zl (by omega), ?_⟩
    rw [cut_to i0]
    refine ⟨by show 7 ≤ sizeLine; decide, fun u hu => ?_⟩
    have s6 := same_upd (o := .lst [tx t, tx t, tx t, tx t, tx (t.take i.toNat ++ [d] ++ t.drop i.toNat), tx (t.take i.toNat ++ t.drop (i + 1).toNat), tx (t.take i.toNat)]) hu
    refine ⟨_, rfl, ?_⟩
    refine ⟨_, rfl, _, rfl, i, hv, S t, rfl, zl (by omega), _, rfl, ?_⟩
    rw [cut_to i0]
    refine ⟨_, _, rfl, rfl, by rw [S_len, S_len, d1]; exact size1000 (by show _ + 1 ≤ 1000; omega), ?_⟩
    rw [S_cat]
    refine ⟨_, rfl, _, rfl, i, 1, hv, rfl, i + 1, rfl, S t, rfl, zl (by omega), ?_⟩
    rw [cut_from (by omega : (0 : Int) ≤ i + 1)]
    refine ⟨_, _, rfl, rfl, by rw [S_len, S_len, List.length_append, d1, d3]; exact size1000 (by show _ + 1 + _ ≤ 1000; omega), ?_⟩
    rw [S_cat]
    refine ⟨by show 1 ≤ sizeLine; decide, fun v hv0 => ?_⟩
    have nuv : u ≠ v := fun e => by
      rw [← e, upd_same] at hv0
      cases hv0
    have s7 := same_upd (o := .lst [tx (t.take i.toNat ++ [d] ++ t.drop (i + 1).toNat)]) hv0
    refine ⟨u, v, [tx t, tx t, tx t, tx t, tx (t.take i.toNat ++ [d] ++ t.drop i.toNat), tx (t.take i.toNat ++ t.drop (i + 1).toNat), tx (t.take i.toNat)], [tx (t.take i.toNat ++ [d] ++ t.drop (i + 1).toNat)], rfl, rfl, s7 _ _ upd_same, upd_same, by show 8 ≤ sizeLine; decide, fun r2 hr2 => ?_⟩
    obtain ⟨y, hy2, ey⟩ := at_map tx [t, t, t, t, t.take i.toNat ++ [d] ++ t.drop i.toNat, t.take i.toNat ++ t.drop (i + 1).toNat, t.take i.toNat, t.take i.toNat ++ [d] ++ t.drop (i + 1).toNat] (i := c % 8) (Int.emod_nonneg _ (by decide)) (Int.emod_lt_of_pos _ (by decide))
    refine ⟨_, rfl, _, _, rfl, rfl, (by show (0 : Int) < 8; decide), r2, _, _, tx y, rfl, rfl, seqL upd_same, ey, ?_⟩
    have hd1 : Let [d] := Let.one (hqL d hd)
    have hy3 : Let y ∧ y.length ≤ 81 := by
      simp only [List.mem_cons, List.not_mem_nil, or_false] at hy2
      rcases hy2 with rfl | rfl | rfl | rfl | rfl | rfl | rfl | rfl
      · exact ⟨ht, by omega⟩
      · exact ⟨ht, by omega⟩
      · exact ⟨ht, by omega⟩
      · exact ⟨ht, by omega⟩
      · exact ⟨((let_take ht _).app hd1).app (let_drop ht _), by rw [List.length_append, List.length_append, d1, d2]; show _ + 1 + _ ≤ 81; omega⟩
      · exact ⟨(let_take ht _).app (let_drop ht _), by rw [List.length_append, d1, d3]; omega⟩
      · exact ⟨let_take ht _, by rw [d1]; omega⟩
      · exact ⟨((let_take ht _).app hd1).app (let_drop ht _), by rw [List.length_append, List.length_append, d1, d3]; show _ + 1 + _ ≤ 81; omega⟩
    exact q y _ (((((((sm1.trans s2).trans s3).trans s4).trans s5).trans s6).trans s7).trans (same_upd hr2)) hy3.1 hy3.2
end
/-! ### how many partings: the mirror -/
/-- the word stands at the head of the rest -/
def hit (w r : List Nat) : Bool := TL.pre w r
theorem hit_iff {w r : List Nat} : hit w r = true ↔ r.take w.length = w := by
  unfold hit TL.pre
  exact beq_iff_eq
theorem hit_len {w r : List Nat} (h : hit w r = true) : w.length ≤ r.length := by
  have e := congrArg List.length (hit_iff.mp h)
  rw [List.length_take] at e
  omega
/-- what a word adds at a place, L: the counts behind the place -/
def adds (r : List Nat) (L : List Int) (w : List Nat) : Int := if hit w r = true then L.getD (w.length - 1) 0 else 0
def cnt (ws : List (List Nat)) : List Nat → List Int
  | [] => [1]
  | c :: r => (ws.map (adds (c :: r) (cnt ws r))).sum :: cnt ws r
theorem cnt_len (ws : List (List Nat)) : ∀ t : List Nat, (cnt ws t).length = t.length + 1
  | [] => rfl
  | c :: r => congrArg Nat.succ (cnt_len ws r)
theorem cnt_drop (ws : List (List Nat)) {t : List Nat} {p : Nat} (h : p < t.length) : cnt ws (t.drop p) = (ws.map (adds (t.drop p) (cnt ws (t.drop (p + 1))))).sum :: cnt ws (t.drop (p + 1)) := by
  rw [List.drop_eq_getElem_cons h]
  rfl
theorem perm_sum {l m : List Int} (h : l.Perm m) : l.sum = m.sum := by
  induction h with
  | nil => rfl
  | cons x _ ih => rw [List.sum_cons, List.sum_cons, ih]
  | swap x y l => rw [List.sum_cons, List.sum_cons, List.sum_cons, List.sum_cons]; omega
  | trans _ _ a b => exact a.trans b
theorem cnt_perm {ws vs : List (List Nat)} (h : ws.Perm vs) : ∀ t : List Nat, cnt ws t = cnt vs t
  | [] => rfl
  | c :: r => by
    have ih := cnt_perm h r
    show (ws.map (adds (c :: r) (cnt ws r))).sum :: cnt ws r = (vs.map (adds (c :: r) (cnt vs r))).sum :: cnt vs r
    rw [ih, perm_sum (h.map _)]
theorem sum_filter (r : List Nat) (L : List Int) : ∀ ws : List (List Nat), ((ws.filter fun w => hit w r).map fun w => L.getD (w.length - 1) 0).sum = (ws.map (adds r L)).sum
  | [] => rfl
  | x :: ws => by
    have ih := sum_filter r L ws
    rw [List.map_cons, List.sum_cons, ← ih]
    by_cases h : hit x r = true
    · rw [List.filter_cons_of_pos (p := fun w => hit w r) h, List.map_cons, List.sum_cons]
      unfold adds
      rw [if_pos h]
    · rw [List.filter_cons_of_neg (p := fun w => hit w r) h]
      unfold adds
      rw [if_neg h, Int.zero_add]
theorem take_sum {g : List Nat → Int} {ws : List (List Nat)} {i : Nat} (h : i < ws.length) : ((ws.take (i + 1)).map g).sum = ((ws.take i).map g).sum + g ws[i] := by
  rw [List.take_add_one, List.getElem?_eq_getElem h]
  show ((ws.take i ++ [ws[i]]).map g).sum = _
  rw [List.map_append, List.sum_append]
  show _ + (g ws[i] + 0) = _
  omega
/-! ### the model's startswith and slices -/
theorem start3 {t w : List Nat} (hw : w ≠ []) (p : Nat) : Txt.startswith3 (S t) (S w) (p : Int) = hit w (t.drop p) := by
  have e : PySem.fromIndex (S t).length (p : Int) = p := by
    unfold PySem.fromIndex
    rw [if_neg (by omega)]
    omega
  rw [Bool.eq_iff_iff]
  have h := TL.at_iff (x := S t) (y := S w) hw p
  unfold hit
  rw [← h]
  unfold Txt.startswith3
  rw [e, Bool.and_eq_true, decide_eq_true_eq]
  rfl
theorem slice_eq {t w : List Nat} (p : Nat) : decide (V.str (cutS (S t) (some (p : Int)) (some ((p : Int) + (w.length : Int)))) = V.str (S w)) = hit w (t.drop p) := by
  rw [cut_mid (by omega) (by omega), Bool.eq_iff_iff, decide_eq_true_eq, hit_iff]
  have e1 : ((p : Int) + (w.length : Int)).toNat - ((p : Int)).toNat = w.length := by omega
  have e2 : ((p : Int)).toNat = p := by omega
  rw [e1, e2]
  constructor
  · intro h
    exact S_inj (V.str.inj h)
  · intro h
    rw [h]
/-! ### the counts as they lie while they are reckoned -/
theorem zeros_get {p : Nat} {L : List Int} {k : Nat} (z : Int) (hk : 1 ≤ k) (h : k - 1 < L.length) : ((List.replicate p (0 : Int) ++ (z :: L)).map V.int)[p + k]? = some (V.int (L.getD (k - 1) 0)) := by
  rw [List.getElem?_map, List.getElem?_append_right (by rw [List.length_replicate]; omega), List.length_replicate]
  have e : p + k - p = (k - 1) + 1 := by omega
  rw [e, List.getElem?_cons_succ, List.getElem?_eq_getElem h, List.getD_eq_getElem?_getD, List.getElem?_eq_getElem h]
  rfl
theorem zeros_at {p : Nat} {L : List Int} (z : Int) : ((List.replicate p (0 : Int) ++ (z :: L)).map V.int)[p]? = some (V.int z) := by
  rw [List.getElem?_map, List.getElem?_append_right (by rw [List.length_replicate]; omega), List.length_replicate, Nat.sub_self]
  rfl
theorem zeros_set {p : Nat} {L : List Int} (z y : Int) : ((List.replicate p (0 : Int) ++ (z :: L)).map V.int).set p (V.int y) = (List.replicate p (0 : Int) ++ (y :: L)).map V.int := by
  rw [List.map_append, List.map_append, List.set_append_right _ _ (by rw [List.length_map, List.length_replicate]; omega), List.length_map, List.length_replicate, Nat.sub_self]
  rfl
theorem zeros_succ (p : Nat) (L : List Int) : List.replicate (p + 1) (0 : Int) ++ L = List.replicate p (0 : Int) ++ (0 :: L) := by
  rw [List.replicate_succ', List.append_assoc]
  rfl
theorem ixN_nat {n j : Nat} (h : j < n) : ixN n (j : Int) = some j := by
  unfold ixN
  rw [if_pos (by omega), if_pos (by omega), Int.toNat_natCast]
theorem flat_rep (n : Nat) (z : V) : (List.replicate n [z]).flatten = List.replicate n z := by
  induction n with
  | zero => rfl
  | succ n ih =>
    rw [List.replicate_succ, List.flatten_cons, ih, List.replicate_succ]
    rfl
theorem small1000_of {n : Nat} (h : n ≤ 10000) : n < sizeLine := Nat.lt_of_le_of_lt h (by decide)
theorem small_S {x : List Nat} (h : x.length ≤ 1000) : (S x).length ≤ sizeLine := by rw [S_len]; exact size1000 h
theorem len_v (w : List Nat) : V.int ((S w).length : Int) = V.int (w.length : Int) := congrArg (fun n : Nat => V.int (n : Int)) (S_len w)
section
variable {P : Program} {w : World} {K : PySem.W.Frag} {mg : Str → Option Value} {base : Heap} {f fW : Addr} {fd fdW : FuncData}
/-- the counts, told as a new list -/
def spCnt (K : PySem.W.Frag) : Sp := fun vs H Q _ => ∃ (b : Addr) (ws : List (List Nat)) (t : List Nat), vs = [.ref b, tx t] ∧ SqL K H b (ws.map tx) ∧ (∀ x ∈ ws, WordOk x) ∧ ws.length ≤ 12 ∧ t.length ≤ 500 ∧
  ∀ (g : Addr) (H' : Hp), Same H H' → H g = none → H' g = some (.lst ((cnt ws t).map V.int)) → Q (.ref g) H'
theorem scLawCounts : FnScope ["_law_words_here", "_law_text_here", "_law_found", "_law_place", "_law_word_here"] ["_law_words_here", "_law_text_here"] (defScope sLawCounts) := ⟨rfl, rfl, rfl, by decide +kernel, rfl, by decide +kernel, by decide +kernel⟩
theorem ok_lawCounts (F : FnP K "_law_counts" sLawCounts f fd) (mR : mg "range" = none) (mV : mg "reversed" = none) (mL : mg "len" = none) : FnOk P w K mg base CX0 1 f fd ["_law_words_here", "_law_text_here"] (spCnt K) := by
  refine F.okN scLawCounts (fun vs H Q E h => ?_) (fun cdv A' outer s H vs Q E hr h => ?_)
  · obtain ⟨b, ws, t, rfl, _⟩ := h
    rfl
  · obtain ⟨b, ws, t, rfl, hB, hw, hn, ht, q⟩ := h
    refine ⟨_, pss_cons (ps_set (i := 2) scLawCounts.nd rfl (.inl rfl) (pe_op op_cat (pe_op op_rep (pe_lst (pa_cons pe_int pa_nil)) (pe_callB call_len_str (by rfl) mL boot_len (pa_cons (pv 1) pa_nil))) (pe_lst (pa_cons pe_int pa_nil))))
      (pss_cons (ps_for PassesOwn.never rfl (pi_revR (by rfl) mV (prg_1 (by rfl) mR (pe_callB call_len_str (by rfl) mL boot_len (pa_cons (pv 1) pa_nil)))) (pg_name (i := 3) scLawCounts.nd rfl (Or.inl rfl))
        (pss_one (ps_for PassesOwn.never rfl (pi_list (pv 0)) (pg_name (i := 4) scLawCounts.nd rfl (Or.inl rfl))
          (pss_one (ps_if (pt_cmpR op_eq (pe_slice sl_str (pv 1) (po_some (pv 3)) (po_some (pe_op op_add (pv 3) (pe_callB call_len_str (by rfl) mL boot_len (pa_cons (pv 4) pa_nil))))) (pv 4) (nomark _))
            (pss_one (ps_asg (pe_op op_add (pe_ix ix_list (pv 2) (pv 3) (fun _ _ => rfl)) (pe_ix ix_list (pv 2) (pe_op op_add (pv 3) (pe_callB call_len_str (by rfl) mL boot_len (pa_cons (pv 4) pa_nil))) (fun _ _ => rfl))) (pg_sub (pv 2) (pv 3) set_list))) pss_nil)))))
      (pss_one (ps_ret (pv 2)))), ?_⟩
    have zt : (S t).length ≤ sizeLine := small_S (by omega)
    have lt : (S t).length = t.length := S_len t
    -- found
    refine ⟨by show 1 ≤ sizeLine; decide, fun p1 hp1 => ⟨_, rfl, S t, rfl, zt, p1, _, [V.int 0], rfl, rfl, upd_same, by omega, by omega, by show 1 * _ ≤ sizeLine; rw [Nat.one_mul, Int.toNat_natCast, lt]; exact size1000 (by omega), fun p2 hp2 => ?_⟩⟩
    rw [Int.toNat_natCast, flat_rep, lt]
    have s1 : Same H (upd H p1 (.lst [V.int 0])) := same_upd hp1
    have s2 := same_upd (o := .lst (List.replicate t.length (V.int 0))) hp2
    refine ⟨by show 1 ≤ sizeLine; decide, fun p3 hp3 => ?_⟩
    have s3 := same_upd (o := .lst [V.int 1]) hp3
    refine ⟨p2, p3, _, _, rfl, rfl, s3 _ _ upd_same, upd_same, by rw [List.length_replicate]; exact size1000 (by show t.length + 1 ≤ 1000; omega), fun g hg => ?_⟩
    have s4 := same_upd (o := .lst (List.replicate t.length (V.int 0) ++ [V.int 1])) hg
    have sA := ((s1.trans s2).trans s3).trans s4
    have hHg : H g = none := ((s1.trans s2).trans s3).free hg
    -- the places
    refine ⟨_, rfl, S t, rfl, zt, _, rfl, by omega, by omega, by omega, by omega, ?_⟩
    have en : (((S t).length : Int) - 0).toNat = t.length := by rw [lt]; omega
    rw [en]
    refine for_rangeC (lo := 0 + (t.length : Int) - 1) (c := -1) (n := t.length) (fun i σ H1 => Same H H1 ∧ ∃ (k3 k4 : Option V), σ = [some (.ref b), some (tx t), some (.ref g), k3, k4] ∧ H1 g = some (.lst ((List.replicate (t.length - i) (0 : Int) ++ cnt ws (t.drop (t.length - i))).map V.int))) ?_ ?_ ?_
    · refine ⟨sA, none, none, rfl, ?_⟩
      rw [upd_same, Nat.sub_zero, List.drop_length]
      show some (HO.lst (List.replicate t.length (V.int 0) ++ [V.int 1])) = some (HO.lst ((List.replicate t.length (0 : Int) ++ [1]).map V.int))
      rw [List.map_append, List.map_replicate]
      rfl
    · rintro i σ H1 hi ⟨sm, k3, k4, rfl, eg⟩
      obtain ⟨p, hp⟩ : ∃ p, p = t.length - 1 - i := ⟨_, rfl⟩
      have e1 : t.length - i = p + 1 := by omega
      have e2 : t.length - (i + 1) = p := by omega
      have hpt : p < t.length := by omega
      have hval : V.int (0 + (t.length : Int) - 1 + (i : Nat) * -1) = V.int (p : Int) := congrArg V.int (by omega)
      rw [e1, zeros_succ] at eg
      refine ⟨_, rfl, b, rfl, ⟨_, sm.seq hB⟩, for_list (K := K) (a := b) (xs := ws.map tx) (fun j σ H2 => Same H H2 ∧ ∃ (k4 : Option V), σ = [some (.ref b), some (tx t), some (.ref g), some (.int (p : Int)), k4] ∧ H2 g = some (.lst ((List.replicate p (0 : Int) ++ (((ws.take j).map (adds (t.drop p) (cnt ws (t.drop (p + 1))))).sum :: cnt ws (t.drop (p + 1)))).map V.int))) ?_ ?_ ?_ ?_⟩
      · refine ⟨sm, k4, ?_, eg⟩
        rw [← hval]
        rfl
      · intro j σ H2 _ hh
        exact hh.1.seq hB
      · rintro j x σ H2 hx ⟨sm2, k4', rfl, eg2⟩
        have hj : j < ws.length := by
          have := (List.getElem?_eq_some_iff.mp hx).1
          rw [List.length_map] at this
          exact this
        have hxe : x = tx ws[j] := by
          rw [List.getElem?_map, List.getElem?_eq_getElem hj] at hx
          exact (Option.some.inj hx).symm
        subst hxe
        obtain ⟨w1, w2, _⟩ := hw ws[j] (List.getElem_mem hj)
        have zw : (S ws[j]).length ≤ sizeLine := small_S (by omega)
        refine ⟨_, rfl, _, rfl, (p : Int), rfl, _, rfl, _, rfl, S ws[j], rfl, zw, (p : Int), (ws[j].length : Int), rfl, len_v _, _, rfl, S t, rfl, zt, _, rfl, rfl, _, rfl, ?_⟩
        rw [slice_eq, take_sum hj]
        unfold adds
        refine ite2 (fun hh => ?_) (fun hh => ?_)
        · rw [if_pos hh]
          have hle := hit_len hh
          rw [List.length_drop] at hle
          have hL : (cnt ws (t.drop (p + 1))).length = t.length - p := by rw [cnt_len, List.length_drop]; omega
          refine ⟨_, rfl, _, rfl, g, _, (p : Int), _, rfl, rfl, seqL eg2, atI_nat (zeros_at _), _, rfl, _, rfl, _, rfl, S ws[j], rfl, zw, (p : Int), (ws[j].length : Int), rfl, len_v _, g, _, _, _, rfl, rfl, seqL eg2, at_of (j := p + ws[j].length) (by omega) (zeros_get _ w1 (by omega)), _, _, rfl, rfl, ?_⟩
          refine ⟨_, rfl, _, rfl, g, _, (p : Int), p, rfl, rfl, eg2, ixN_nat (by rw [List.length_map, List.length_append, List.length_replicate]; show p < p + (_ + 1); omega), ?_⟩
          refine ⟨fun d o e => ?_, _, rfl, ?_⟩
          · rw [upd_ne (ne_of_none e hHg)]
            exact sm2 _ _ e
          · rw [upd_same, zeros_set]
            rfl
        · rw [if_neg hh, Int.add_zero]
          exact ⟨sm2, _, rfl, eg2⟩
      · rintro σ H2 ⟨sm2, k4', rfl, eg2⟩
        refine ⟨sm2, _, _, rfl, ?_⟩
        rw [List.length_map, List.take_length] at eg2
        rw [e2, eg2, ← cnt_drop ws hpt]
    · rintro σ H1 ⟨sm, k3, k4, rfl, eg⟩
      rw [Nat.sub_self, List.drop_zero] at eg
      exact ⟨_, rfl, q g H1 sm hHg eg⟩
theorem scWordsAt : FnScope ["code", "text", "at", "word"] ["code", "text", "at"] (defScope sWordsAt) := ⟨rfl, rfl, rfl, by decide +kernel, rfl, by decide +kernel, by decide +kernel⟩
def spWordsAt (K : PySem.W.Frag) : Sp := fun vs H Q _ => ∃ (b : Addr) (ws : List (List Nat)) (t : List Nat) (p : Nat), vs = [.ref b, tx t, .int (p : Int)] ∧ SqL K H b (ws.map tx) ∧ (∀ x ∈ ws, WordOk x) ∧ ws.length ≤ 12 ∧
  ∀ (r : Addr) (H' : Hp), Same H H' → H r = none → H' r = some (.lst ((ws.filter fun x => hit x (t.drop p)).map tx)) → Q (.ref r) H'
def rS3 : V → List V → Hp → VK → Prop := fun x xs H Q => ∃ (a b : Str) (i : Int), x = .str a ∧ xs = [.str b, .int i] ∧ Q (.bl (Txt.startswith3 a b i)) H
theorem take_filter {h : List Nat → Bool} {ws : List (List Nat)} {i : Nat} (hi : i < ws.length) : (ws.take (i + 1)).filter h = (ws.take i).filter h ++ (if h ws[i] = true then [ws[i]] else []) := by
  rw [List.take_add_one, List.getElem?_eq_getElem hi]
  show (ws.take i ++ [ws[i]]).filter h = _
  rw [List.filter_append]
  by_cases c : h ws[i] = true
  · rw [if_pos c, List.filter_cons_of_pos c]
    rfl
  · rw [if_neg c, List.filter_cons_of_neg c]
    rfl
theorem ok_wordsAt (F : FnP K "_words_at" sWordsAt f fd) : FnOk P w K mg base CX0 1 f fd ["code", "text", "at"] (spWordsAt K) := by
  refine F.okN scWordsAt (fun vs H Q E h => ?_) (fun cdv A' outer s H vs Q E hr h => ?_)
  · obtain ⟨b, ws, t, p, rfl, _⟩ := h
    rfl
  · obtain ⟨b, ws, t, p, rfl, hB, hw, hn, q⟩ := h
    refine ⟨_, pss_one (ps_ret (pe_lc (own := [("word", 3)]) (g := gName 3) (tt := tB (tBM K "str" rS3 (tVar 1) (tCons (tVar 3) (tCons (tVar 2) tNil)))) rfl scWordsAt.nd (pi_list (pv 0)) (blkOk_by (own := [("word", 3)]) (N := ["code", "text", "at", "word"]) (sc := defScope sWordsAt) (by decide +kernel))
      (fun _ _ _ _ _ => pg_name (i := 3) scWordsAt.nd rfl (Or.inl rfl)) (fun _ _ _ _ _ => pts_one (pt_val (pe_bm (r := rS3) PySem.F.plainAttrs_str PySem.F.slot_str_startswith PySem.F.type_str_startswith mt_startswith3 (pv 1) (pa_cons (pv 3) (pa_cons (pv 2) pa_nil))))) (fun _ _ _ _ _ => pv 3))), ?_⟩
    refine ⟨_, rfl, b, rfl, ⟨_, hB⟩, fun D hD => ?_⟩
    refine lc_list (K := K) (a := b) (xs := ws.map tx) (fun i H1 => Same H H1 ∧ H1 D = some (.lst (((ws.take i).filter fun x => hit x (t.drop p)).map tx))) ?_ ?_ ?_ ?_
    · exact ⟨same_upd hD, upd_same⟩
    · exact fun i H1 _ hh => hh.1.seq hB
    · rintro i x H1 hx ⟨sm, eD⟩
      have hj : i < ws.length := by
        have := (List.getElem?_eq_some_iff.mp hx).1
        rw [List.length_map] at this
        exact this
      have hxe : x = tx ws[i] := by
        rw [List.getElem?_map, List.getElem?_eq_getElem hj] at hx
        exact (Option.some.inj hx).symm
      subst hxe
      obtain ⟨w1, w2, _⟩ := hw ws[i] (List.getElem_mem hj)
      have wne : ws[i] ≠ [] := fun e => by
        rw [e] at w1
        exact absurd w1 (Nat.not_succ_le_zero 0)
      refine ⟨rfl, _, rfl, rfl, _, rfl, _, rfl, S t, S ws[i], (p : Int), rfl, rfl, _, rfl, ?_⟩
      rw [start3 wne, take_filter hj]
      refine ite2 (fun c => ?_) (fun c => ?_)
      · rw [if_pos c]
        refine ⟨_, rfl, _, eD, ?_, fun d o e => ?_, ?_⟩
        · rw [List.length_map]
          have h1 := List.length_filter_le (fun x => hit x (t.drop p)) (ws.take i)
          rw [List.length_take] at h1
          exact small1000 (by omega)
        · rw [upd_ne (ne_of_none e hD)]
          exact sm _ _ e
        · rw [upd_same, List.map_append]
          rfl
      · rw [if_neg c, List.append_nil]
        exact ⟨sm, eD⟩
    · rintro H1 ⟨sm, eD⟩
      rw [List.length_map, List.take_length] at eD
      exact q D H1 sm hD eD
theorem scCounts : FnScope ["code", "text", "counts", "at", "word"] ["code", "text"] (defScope sCounts) := ⟨rfl, rfl, rfl, by decide +kernel, rfl, by decide +kernel, by decide +kernel⟩
theorem ok_counts (F : FnP K "_counts" sCounts f fd) (W : Has K mg "_words_at" sWordsAt ["code", "text", "at"] fW fdW) (mR : mg "range" = none) (mV : mg "reversed" = none) (mL : mg "len" = none) (mS : mg "sum" = none) : FnOk P w K mg base CX0 2 f fd ["code", "text"] (spCnt K) := by
  have GW : FnOk P w K mg base CX0 1 fW fdW ["code", "text", "at"] (spWordsAt K) := ok_wordsAt W.F
  refine F.okN scCounts (fun vs H Q E h => ?_) (fun cdv A' outer s H vs Q E hr h => ?_)
  · obtain ⟨b, ws, t, rfl, _⟩ := h
    rfl
  · obtain ⟨b, ws, t, rfl, hB, hw, hn, ht, q⟩ := h
    refine ⟨_, pss_cons (ps_set (i := 2) scCounts.nd rfl (.inr rfl) (pe_op op_cat (pe_op op_rep (pe_lst (pa_cons pe_int pa_nil)) (pe_callB call_len_str (by rfl) mL boot_len (pa_cons (pv 1) pa_nil))) (pe_lst (pa_cons pe_int pa_nil))))
      (pss_cons (ps_for PassesOwn.never rfl (pi_revR (by rfl) mV (prg_1 (by rfl) mR (pe_callB call_len_str (by rfl) mL boot_len (pa_cons (pv 1) pa_nil)))) (pg_name (i := 3) scCounts.nd rfl (Or.inr rfl))
        (pss_one (ps_asg (pe_callB (cr_sum rfl) (by rfl) mS (by decide +kernel) (pa_cons (pe_lc (own := [("word", 4)]) (g := gName 4) (tt := tYes) rfl scCounts.nd (pi_list (pe_call GW hr (by rfl) W.g W.F.kp W.b .nil pass0 (pa_cons (pv 0) (pa_cons (pv 1) (pa_cons (pv 3) pa_nil))))) (blkOk_by (own := [("word", 4)]) (N := ["code", "text", "counts", "at", "word"]) (sc := defScope sCounts) (by decide +kernel))
          (fun _ _ _ _ _ => pg_name (i := 4) scCounts.nd rfl (Or.inl rfl)) (fun _ _ _ _ _ => pts_nil)
          (fun _ _ _ _ _ => pe_ix (r := rIxL K) ix_list (pv 2) (pe_op op_add (pv 3) (pe_callB call_len_str (by rfl) mL boot_len (pa_cons (pv 4) pa_nil))) (fun _ _ => rfl))) pa_nil)) (pg_sub (pv 2) (pv 3) set_list))))
      (pss_one (ps_ret (pv 2)))), ?_⟩
    have zt : (S t).length ≤ sizeLine := small_S (by omega)
    have lt : (S t).length = t.length := S_len t
    refine ⟨by show 1 ≤ sizeLine; decide, fun p1 hp1 => ⟨_, rfl, S t, rfl, zt, p1, _, [V.int 0], rfl, rfl, upd_same, by omega, by omega, by show 1 * _ ≤ sizeLine; rw [Nat.one_mul, Int.toNat_natCast, lt]; exact size1000 (by omega), fun p2 hp2 => ?_⟩⟩
    rw [Int.toNat_natCast, flat_rep, lt]
    have s1 : Same H (upd H p1 (.lst [V.int 0])) := same_upd hp1
    have s2 := same_upd (o := .lst (List.replicate t.length (V.int 0))) hp2
    refine ⟨by show 1 ≤ sizeLine; decide, fun p3 hp3 => ?_⟩
    have s3 := same_upd (o := .lst [V.int 1]) hp3
    refine ⟨p2, p3, _, _, rfl, rfl, s3 _ _ upd_same, upd_same, by rw [List.length_replicate]; exact size1000 (by show t.length + 1 ≤ 1000; omega), fun g hg => ?_⟩
    have s4 := same_upd (o := .lst (List.replicate t.length (V.int 0) ++ [V.int 1])) hg
    have sA := ((s1.trans s2).trans s3).trans s4
    have hHg : H g = none := ((s1.trans s2).trans s3).free hg
    refine ⟨_, rfl, S t, rfl, zt, _, rfl, by omega, by omega, by omega, by omega, ?_⟩
    have en : (((S t).length : Int) - 0).toNat = t.length := by rw [lt]; omega
    rw [en]
    refine for_rangeC (lo := 0 + (t.length : Int) - 1) (c := -1) (n := t.length) (fun i σ H1 => Same H H1 ∧ ∃ (k3 : Option V), σ = [some (.ref b), some (tx t), some (.ref g), k3, none] ∧ H1 g = some (.lst ((List.replicate (t.length - i) (0 : Int) ++ cnt ws (t.drop (t.length - i))).map V.int))) ?_ ?_ ?_
    · refine ⟨sA, none, rfl, ?_⟩
      rw [upd_same, Nat.sub_zero, List.drop_length]
      show some (HO.lst (List.replicate t.length (V.int 0) ++ [V.int 1])) = some (HO.lst ((List.replicate t.length (0 : Int) ++ [1]).map V.int))
      rw [List.map_append, List.map_replicate]
      rfl
    · rintro i σ H1 hi ⟨sm, k3, rfl, eg⟩
      obtain ⟨p, hp⟩ : ∃ p, p = t.length - 1 - i := ⟨_, rfl⟩
      have e1 : t.length - i = p + 1 := by omega
      have e2 : t.length - (i + 1) = p := by omega
      have hpt : p < t.length := by omega
      have hval : V.int (0 + (t.length : Int) - 1 + (i : Nat) * -1) = V.int (p : Int) := congrArg V.int (by omega)
      rw [e1, zeros_succ] at eg
      rw [hval]
      refine ⟨_, rfl, _, rfl, _, rfl, b, ws, t, p, rfl, sm.seq hB, hw, hn, fun r H2 sm2 nr eR => ?_⟩
      obtain ⟨vs, evs⟩ : ∃ vs, vs = ws.filter fun x => hit x (t.drop p) := ⟨_, rfl⟩
      rw [← evs] at eR
      have hvs : ∀ x ∈ vs, x ∈ ws ∧ hit x (t.drop p) = true := fun x hx => by
        rw [evs] at hx
        exact (List.mem_filter (p := fun x => hit x (t.drop p))).mp hx
      have hvl : vs.length ≤ 12 := by
        have := List.length_filter_le (fun x => hit x (t.drop p)) ws
        rw [← evs] at this
        omega
      have eg2 := sm2 _ _ eg
      have nrg : r ≠ g := fun e => by
        rw [e, eg] at nr
        cases nr
      refine ⟨r, rfl, ⟨_, seqL eR⟩, fun D hD => ?_⟩
      have nDr : r ≠ D := ne_of_none eR hD
      have nDg : g ≠ D := ne_of_none eg2 hD
      have hHD : H D = none := (sm.trans sm2).free hD
      refine lc_list (K := K) (a := r) (xs := vs.map tx) (fun j H3 => Same H H3 ∧ H3 r = some (.lst (vs.map tx)) ∧ H3 g = some (.lst ((List.replicate p (0 : Int) ++ (0 :: cnt ws (t.drop (p + 1)))).map V.int)) ∧ H3 D = some (.lst (((vs.take j).map fun x => (cnt ws (t.drop (p + 1))).getD (x.length - 1) 0).map V.int))) ?_ ?_ ?_ ?_
      · exact ⟨(sm.trans sm2).trans (same_upd hD), by rw [upd_ne nDr]; exact eR, by rw [upd_ne nDg]; exact eg2, upd_same⟩
      · exact fun j H3 _ hh => seqL hh.2.1
      · rintro j x H3 hx ⟨sm3, eR3, eg3, eD3⟩
        have hj : j < vs.length := by
          have := (List.getElem?_eq_some_iff.mp hx).1
          rw [List.length_map] at this
          exact this
        have hxe : x = tx vs[j] := by
          rw [List.getElem?_map, List.getElem?_eq_getElem hj] at hx
          exact (Option.some.inj hx).symm
        subst hxe
        obtain ⟨m1, m2⟩ := hvs vs[j] (List.getElem_mem hj)
        obtain ⟨w1, w2, _⟩ := hw vs[j] m1
        have hle := hit_len m2
        rw [List.length_drop] at hle
        have hL : (cnt ws (t.drop (p + 1))).length = t.length - p := by rw [cnt_len, List.length_drop]; omega
        refine ⟨rfl, _, rfl, _, rfl, _, rfl, S vs[j], rfl, small_S (by omega), (p : Int), (vs[j].length : Int), rfl, len_v _, g, _, _, _, rfl, rfl, seqL eg3, at_of (j := p + vs[j].length) (by omega) (zeros_get _ w1 (by omega)), ?_⟩
        refine ⟨_, eD3, by rw [List.length_map, List.length_map, List.length_take]; exact small1000 (by omega), fun d o e => ?_, by rw [upd_ne nDr]; exact eR3, by rw [upd_ne nDg]; exact eg3, ?_⟩
        · rw [upd_ne (ne_of_none e hHD)]
          exact sm3 _ _ e
        · rw [upd_same, List.take_add_one, List.getElem?_eq_getElem hj, List.map_append, List.map_append]
          rfl
      · rintro H3 ⟨sm3, eR3, eg3, eD3⟩
        rw [List.length_map, List.take_length] at eD3
        refine ⟨D, _, rfl, seqL eD3, ?_⟩
        rw [evs, sum_filter]
        refine ⟨_, rfl, _, rfl, g, _, (p : Int), p, rfl, rfl, eg3, ixN_nat (by rw [List.length_map, List.length_append, List.length_replicate]; show p < p + (_ + 1); omega), ?_⟩
        refine ⟨fun d o e => ?_, _, rfl, ?_⟩
        · rw [upd_ne (ne_of_none e hHg)]
          exact sm3 _ _ e
        · rw [upd_same, zeros_set, e2, cnt_drop ws hpt]
    · rintro σ H1 ⟨sm, k3, rfl, eg⟩
      rw [Nat.sub_self, List.drop_zero] at eg
      exact ⟨_, rfl, q g H1 sm hHg eg⟩
end
/-! ### a range object that a name holds, walked -/
def iRngV (te : TE) : TI := fun σ H R => te σ H fun x H1 => ∃ a lo hi, x = .ref a ∧ H1 a = some (.rng lo hi) ∧ (-(2 ^ 62) ≤ lo ∧ lo < 2 ^ 62 ∧ -(2 ^ 62) ≤ hi ∧ hi < 2 ^ 62) ∧ R (Itr lo (hi - lo).toNat) H1
theorem pi_rngV {X : Cx} {tg e : Expr} {te : TE} (he : PE X e te) : PI X tg e (iRngV te) := by
  refine ⟨fun pins s σ H R I h => ?_⟩
  refine thn (he.run pins s σ H _ I h) fun v s1 ⟨x, H1, I1, r1, q1⟩ => ?_
  obtain ⟨a, lo, hi, ex, ha, ⟨h1, h2, h3, h4⟩, q⟩ := q1
  subst ex
  cases r1
  obtain ⟨t, u, v, hr⟩ := (show ObjOk X.prog X.w H1 s1.heap a (.rng lo hi) from I1.hok a _ ha)
  refine wpAny_pyIter_range (show IsRange s1.heap a lo hi 1 t u v from hr) (small_one h1 h2 h3 h4) ?_
  refine ⟨s1.heap.objs.size, [s1.heap.objs.size], _, _, H1, rfl, I1.kept (t' := s1.toks) fun b o e => Heap.get?_push_of_some _ e, turn_range _ lo (hi - lo).toNat, ?_, fun b hb => ?_, q⟩
  · have e1 : lo + ((0 : Nat) : Int) * 1 = lo := by simp
    have e2 : (((hi - lo).toNat : Nat) : Int) - ((0 : Nat) : Int) = Builtin.Range.rangeSize lo hi 1 := by rw [rangeSize_one]; split <;> omega
    show IsRangeIter _ _ (lo + ((0 : Nat) : Int) * 1) ((((hi - lo).toNat : Nat) : Int) - ((0 : Nat) : Int)) 1
    rw [e1, e2]
    exact Heap.get?_push_size _ rfl
  · have e : b = s1.heap.objs.size := by simpa using hb
    subst e
    exact I1.fpOk (Nat.le_refl _) (I1.hok.fresh (Nat.le_refl _))
/-! ### truths, and tables of them -/
noncomputable def bp (p : Prop) : Bool := @decide p (Classical.propDecidable p)
theorem bp_iff {p : Prop} : bp p = true ↔ p := by
  unfold bp
  exact @decide_eq_true_iff p (Classical.propDecidable p)
theorem bp_true {p : Prop} (h : p) : bp p = true := bp_iff.mpr h
theorem bp_false {p : Prop} (h : ¬ p) : bp p = false := by
  cases e : bp p with
  | false => rfl
  | true => exact absurd (bp_iff.mp e) h
theorem bp_congr {p q : Prop} (h : p ↔ q) : bp p = bp q := by
  rw [Bool.eq_iff_iff, bp_iff, bp_iff]
  exact h
noncomputable def tbl (n : Nat) (P : Nat → Prop) : List V := (List.range (n + 1)).map fun j => V.bl (bp (P j))
theorem tbl_len (n : Nat) (P : Nat → Prop) : (tbl n P).length = n + 1 := by
  unfold tbl
  rw [List.length_map, List.length_range]
theorem tbl_at {n : Nat} {P : Nat → Prop} {j : Nat} (h : j ≤ n) : (tbl n P)[j]? = some (V.bl (bp (P j))) := by
  unfold tbl
  rw [List.getElem?_map, List.getElem?_range (by omega)]
  rfl
theorem tbl_congr {n : Nat} {P Q : Nat → Prop} (h : ∀ i, i ≤ n → (P i ↔ Q i)) : tbl n P = tbl n Q := by
  unfold tbl
  refine List.map_congr_left fun j hj => ?_
  rw [bp_congr (h j (by have := List.mem_range.mp hj; omega))]
theorem tbl_set {n : Nat} {P : Nat → Prop} {j : Nat} : (tbl n P).set j (V.bl true) = tbl n fun i => P i ∨ i = j := by
  refine List.ext_getElem? fun i => ?_
  rw [List.getElem?_set]
  by_cases hi : i ≤ n
  · rw [tbl_at hi, tbl_at hi]
    by_cases e : j = i
    · rw [if_pos e, if_pos (by rw [tbl_len]; omega), bp_true (Or.inr e.symm)]
    · rw [if_neg e]
      refine congrArg some (congrArg V.bl (bp_congr ⟨Or.inl, fun z => ?_⟩))
      rcases z with z | z
      · exact z
      · exact absurd z.symm e
  · have l1 : (tbl n P)[i]? = none := List.getElem?_eq_none_iff.mpr (by rw [tbl_len]; omega)
    have l2 : (tbl n fun i => P i ∨ i = j)[i]? = none := List.getElem?_eq_none_iff.mpr (by rw [tbl_len]; omega)
    rw [l1, l2]
    by_cases e : j = i
    · rw [if_pos e, if_neg (by rw [tbl_len]; omega)]
    · rw [if_neg e]
theorem tbl_init (n : Nat) : V.bl true :: List.replicate n (V.bl false) = tbl n fun j => j = 0 := by
  unfold tbl
  rw [List.range_succ_eq_map, List.map_cons, bp_true rfl, List.map_map]
  refine congrArg _ ?_
  refine List.ext_getElem? fun i => ?_
  rw [List.getElem?_replicate, List.getElem?_map]
  by_cases h : i < n
  · rw [if_pos h, List.getElem?_range h]
    show _ = some (V.bl (bp (i + 1 = 0)))
    rw [bp_false (by omega)]
  · rw [if_neg h, List.getElem?_eq_none_iff.mpr (by rw [List.length_range]; omega)]
    rfl
/-! ### the places that rows reach -/
inductive RchK (ws : List (List Nat)) (t : List Nat) (k : Nat) : Nat → Prop where
  | zero : RchK ws t k 0
  | step {p : Nat} {w : List Nat} : p < k → RchK ws t k p → w ∈ ws → hit w (t.drop p) = true → RchK ws t k (p + w.length)
section
variable {ws : List (List Nat)} {t : List Nat}
theorem RchK.mono {k m j : Nat} (h : k ≤ m) (r : RchK ws t k j) : RchK ws t m j := by
  induction r with
  | zero => exact .zero
  | step a _ b c ih => exact .step (by omega) ih b c
theorem RchK.first {j : Nat} : RchK ws t 0 j ↔ j = 0 := by
  constructor
  · intro r
    cases r with
    | zero => rfl
    | step a _ _ _ => exact absurd a (Nat.not_lt_zero _)
  · rintro rfl
    exact .zero
theorem RchK.low (hw : ∀ w ∈ ws, 1 ≤ w.length) {k m j : Nat} (r : RchK ws t m j) (h : j ≤ k) : RchK ws t k j := by
  induction r with
  | zero => exact .zero
  | step a b c d ih =>
    have := hw _ c
    exact .step (by omega) (ih (by omega)) c d
theorem RchK.succ (hw : ∀ w ∈ ws, 1 ≤ w.length) {k j : Nat} : RchK ws t (k + 1) j ↔ RchK ws t k j ∨ (RchK ws t k k ∧ ∃ w ∈ ws, hit w (t.drop k) = true ∧ j = k + w.length) := by
  constructor
  · intro r
    induction r with
    | zero => exact .inl .zero
    | @step p w a b c d ih =>
      have rp : RchK ws t k p := b.low hw (by omega)
      by_cases e : p = k
      · subst e
        exact .inr ⟨rp, w, c, d, rfl⟩
      · exact .inl (.step (by omega) rp c d)
  · rintro (r | ⟨r, w, c, d, rfl⟩)
    · exact r.mono (by omega)
    · exact .step (by omega) (r.mono (by omega)) c d
theorem RchK.perm {vs : List (List Nat)} (h : ∀ w, w ∈ vs ↔ w ∈ ws) {k j : Nat} : RchK vs t k j ↔ RchK ws t k j := by
  constructor
  · intro r
    induction r with
    | zero => exact .zero
    | step a _ c d ih => exact .step a ih ((h _).mp c) d
  · intro r
    induction r with
    | zero => exact .zero
    | step a _ c d ih => exact .step a ih ((h _).mpr c) d
end
/-- some text of the code begins with t -/
def Ans (ws : List (List Nat)) (t : List Nat) : Prop := RchK ws t t.length t.length ∨ ∃ p, p < t.length ∧ RchK ws t t.length p ∧ ∃ w ∈ ws, w.take (t.length - p) = t.drop p
theorem Ans.perm {ws vs : List (List Nat)} {t : List Nat} (h : ∀ w, w ∈ vs ↔ w ∈ ws) : Ans vs t ↔ Ans ws t := by
  unfold Ans
  rw [RchK.perm h]
  refine or_congr Iff.rfl (exists_congr fun p => and_congr Iff.rfl (and_congr (RchK.perm h) (exists_congr fun w => and_congr (h w) Iff.rfl)))
theorem start1 {r w : List Nat} (hr : r ≠ []) : Txt.startswith (S w) (S r) = hit r w := by
  rw [Bool.eq_iff_iff]
  have h := TL.at_iff (x := S w) (y := S r) hr 0
  rw [List.drop_zero] at h
  unfold hit
  rw [← h]
  unfold Txt.startswith
  rw [Bool.and_eq_true, decide_eq_true_eq]
  show _ ↔ (0 + (S r).length ≤ (S w).length ∧ Builtin.Str.subAt (S w) (S r) 0 = true)
  rw [Nat.zero_add]
section
variable {Pr : Program} {w : World} {K : PySem.W.Frag} {mg : Str → Option Value} {base : Heap} {f fW : Addr} {fd fdW : FuncData}
end
/-! ### a def whose code object is known -/
theorem _root_.L2.FunD.okC {P : Program} {w : World} {K : PySem.W.Frag} {mg : Str → Option Value} {base : Heap} {x qual : Str} {params : Arguments} {body : List Stmt} {scope : Scope} {dvs : List V} {kws : List (Str × V)} {at_ : Str × Option Str} {fd : FuncData}
    {CX : CXT} {N ps : List Str} {k : Nat} {sp : Sp} (F : FunD K x qual params body scope dvs kws (He.fAd K at_) fd) (S : FnScope N ps scope) (len : ∀ vs H Q E, sp vs H Q E → vs.length = ps.length)
    (hbody : ∀ (A : Around) (outer : List Env) (s : Shared) (H : Hp) (vs : List V) (Q : VK) (E : XK), Room k (A.deeper (envOfC qual scope s.heap.objs.size (He.fAd K at_) (.ref (He.codeOf K at_)))) → sp vs H Q E →
      ∃ t, PSs (cxOf CX P w K mg base N qual scope (He.fAd K at_) (.ref (He.codeOf K at_)) A outer s H E).nox body t ∧ t { nx := fun _ H' => Q .non H', rt := Q } (start N vs) H) : FnOk P w K mg base CX (k + 1) (He.fAd K at_) fd ps sp := by
  obtain ⟨oc, od, dV, kV, doc, pm, an, cdv, ct, osl, rfl, lk, hcd, _, _⟩ := F.ex
  obtain ⟨c, rfl⟩ := He.codeIn_ref hcd
  have e : He.codeOf K at_ = c := He.codeOf_eq lk rfl
  refine fn_of lk hcd S len fun A outer s H vs Q E hr hsp => ?_
  rw [e] at hbody
  obtain ⟨t, q, r⟩ := hbody A outer s H vs Q E hr hsp
  exact ⟨t, q.nox, r⟩
/-! ### heaps but for a table -/
structure Sm (P : Addr) (H H' : Hp) : Prop where
  tab : GxR.TabG H' P
  keep : ∀ b o, b ≠ P → H b = some o → H' b = some o
theorem Sm.of_same {P : Addr} {H H' : Hp} (t : GxR.TabG H P) (s : Same H H') : Sm P H H' := by
  obtain ⟨ps, e, h⟩ := t
  exact ⟨⟨ps, s _ _ e, h⟩, fun b o _ q => s _ _ q⟩
theorem Sm.refl {P : Addr} {H : Hp} (t : GxR.TabG H P) : Sm P H H := .of_same t (Same.refl H)
theorem Sm.trans {P : Addr} {H H1 H2 : Hp} (a : Sm P H H1) (b : Sm P H1 H2) : Sm P H H2 := ⟨b.tab, fun c o n e => b.keep c o n (a.keep c o n e)⟩
theorem Sm.of_tabbed {P : Addr} {H H' : Hp} (t : GxR.Tabbed P H H') : Sm P H H' := ⟨t.1, fun b o n e => by rw [t.2 b n]; exact e⟩
theorem Sm.andThen {P : Addr} {H H1 H2 : Hp} (a : Sm P H H1) (b : Same H1 H2) : Sm P H H2 := a.trans (.of_same a.tab b)
theorem Sm.free {P : Addr} {H H' : Hp} (t : GxR.TabG H P) (s : Sm P H H') {l : Addr} (h : H' l = none) : H l = none := by
  obtain ⟨ps, e, _⟩ := s.tab
  have nl : l ≠ P := fun z => by
    rw [z, e] at h
    cases h
  cases q : H l with
  | none => rfl
  | some o =>
    rw [s.keep l o nl q] at h
    cases h
theorem TabG.ne {P : Addr} {H : Hp} (t : GxR.TabG H P) {b : Addr} {xs : List V} (h : H b = some (.lst xs)) : b ≠ P := by
  obtain ⟨ps, e, _⟩ := t
  intro z
  rw [z, e] at h
  cases h
theorem Sm.seq {K : PySem.W.Frag} {P : Addr} {H H' : Hp} {a : Addr} {xs : List V} (t : GxR.TabG H P) (s : Sm P H H') (h : SqL K H a xs) : SqL K H' a xs := by
  obtain ⟨ps, e, _⟩ := t
  rcases h with (h | ⟨o, h⟩) | h
  · exact .inl (.inl (s.keep _ _ (fun z => by rw [z, e] at h; cases h) h))
  · exact .inl (.inr ⟨o, s.keep _ _ (fun z => by rw [z, e] at h; cases h) h⟩)
  · exact .inr h
theorem Sm.lst {P : Addr} {H H' : Hp} {a : Addr} {xs : List V} (t : GxR.TabG H P) (s : Sm P H H') (h : H a = some (.lst xs)) : H' a = some (.lst xs) := s.keep _ _ (TabG.ne t h) h
theorem tab_upd {P : Addr} {H : Hp} {p : Addr} {o : HO} (t : GxR.TabG H P) (h : p ≠ P) : GxR.TabG (upd H p o) P := by
  obtain ⟨ps, e, q⟩ := t
  exact ⟨ps, by rw [upd_ne (Ne.symm h)]; exact e, q⟩
theorem iteP {c A B : Prop} [Decidable c] (hc : c) (h : A) : if decide c = true then A else B := by
  rw [if_pos (decide_eq_true hc)]
  exact h
theorem iteN {c A B : Prop} [Decidable c] (hc : ¬ c) (h : B) : if decide c = true then A else B := by
  rw [if_neg (fun z => hc (of_decide_eq_true z))]
  exact h
theorem iteNP {c A B : Prop} [Decidable c] (hc : c) (h : B) : if (!decide c) = true then A else B := by
  rw [decide_eq_true hc, if_neg (by decide)]
  exact h
theorem iteNN {c A B : Prop} [Decidable c] (hc : ¬ c) (h : A) : if (!decide c) = true then A else B := by
  rw [decide_eq_false hc, if_pos (by decide)]
  exact h
/-! ### 'a' <= sign <= 'z' -/
theorem lt_one (c d : Nat) : ([c] : List Nat) < [d] ↔ c < d := by
  rw [List.cons_lt_cons_iff]
  constructor
  · rintro (h | ⟨_, h⟩)
    · exact h
    · exact absurd h (List.not_lt_nil _)
  · exact Or.inl
theorem elt_az {prog : Program} {w : World} {scope : Scope} {x : Str} {j k : Nat} {p1 p2 p3 p4 : Pos} (hk : scope.kind = .function) (hl : scope.names.lookup x = some .local) (hd : (x == ("__debug__" : Str)) = false := by decide) :
    GxR.EltP prog w scope x (.Compare (.Constant (.str "a") j p1) [.LtE, .LtE] [.Name x p2, .Constant (.str "z") k p3] p4) (fun c => decide (97 ≤ c) && decide (c ≤ 122)) := by
  intro cenv A' E' c t s₂ m₂ hs hn hm
  have ea : (Str.ofString "a").cps.toList = [97] := by decide +kernel
  have ez : (Str.ofString "z").cps.toList = [122] := by decide +kernel
  refine Compare_chain ?_
  refine Calls.Constant_str ?_
  refine chain_link ?_
  refine wpAny_Name (wpAny_loadName_local (by rw [hs]; exact hk) (show cenv.scope.names.lookup x = some .local by rw [hs]; exact hl) hn hm ?_) hd
  refine PySem.P.le_str ?_
  refine wpAny_truthy_bool ?_
  rw [ea]
  by_cases h1 : 97 ≤ c
  · have e1 : (!(decide (([c] : List Nat) < [97]))) = true := by
      rw [decide_eq_false (fun z => by have := (lt_one c 97).mp z; omega)]
      rfl
    rw [if_pos e1]
    refine chain_last ?_
    refine Calls.Constant_str ?_
    refine PySem.P.le_str ?_
    rw [ez]
    refine ⟨?_, GxR.keeps_tok _ _⟩
    refine congrArg Value.bool ?_
    show (!decide (([122] : List Nat) < [c])) = (decide (97 ≤ c) && decide (c ≤ 122))
    rw [decide_eq_true h1, Bool.true_and]
    by_cases h2 : c ≤ 122
    · rw [decide_eq_true h2, decide_eq_false (fun z => by have := (lt_one 122 c).mp z; omega)]
      rfl
    · rw [decide_eq_false h2, decide_eq_true ((lt_one 122 c).mpr (by omega))]
      rfl
  · have e1 : (!(decide (([c] : List Nat) < [97]))) = false := by
      rw [decide_eq_true ((lt_one c 97).mpr (by omega))]
      rfl
    rw [if_neg (by rw [e1]; exact Bool.false_ne_true)]
    refine ⟨?_, GxR.keeps_tok _ _⟩
    refine congrArg Value.bool ?_
    show (!decide (([c] : List Nat) < [97])) = (decide (97 ≤ c) && decide (c ≤ 122))
    rw [e1, decide_eq_false h1]
    rfl
/-- the built-in names and constants -/
structure Bl (mg : Str → Option Value) : Prop where
  mT : mg "type" = none
  mStr : mg "str" = none
  mL : mg "len" = none
  mAll : mg "all" = none
  mList : mg "list" = none
  mSorted : mg "sorted" = none
  mR : mg "range" = none
  mV : mg "reversed" = none
  mSum : mg "sum" = none
  mIsi : mg "isinstance" = none
  mInt : mg "int" = none
  mBool : mg "bool" = none
  mAny : mg "any" = none
  mMax : mg "max" = none
  mDict : mg "dict" = none
  mTuple : mg "tuple" = none
  mMin : mg "min" = none
  mVE : mg "ValueError" = none
  mEnum : mg "enumerate" = none
  mZip : mg "zip" = none
  mN : ∃ u, mg "MOST_SIGNS" = some (.int 10 u)
  mM : ∃ u, mg "MOST_WORDS" = some (.int 12 u)
section
variable {Pr : Program} {w : World} {K : PySem.W.Frag} {mg : Str → Option Value} {base : Heap} {fd : FuncData} {P : Addr}
theorem scIsWord : FnScope ["thing"] ["thing"] (defScope sIsWord) := ⟨rfl, rfl, rfl, by decide +kernel, rfl, by decide +kernel, by decide +kernel⟩
abbrev aWord : Str × Option Str := ("is_word", none)
def spIsWord (P : Addr) : Sp := fun vs H Q _ => ∃ (l : List Nat), vs = [tx l] ∧ WordOk l ∧ GxR.TabG H P ∧ ∀ H', Sm P H H' → Q (.bl true) H'
theorem ok_isWord (F : FnP K "is_word" sIsWord (He.fAd K aWord) fd) (T : GxR.TabB base mg (He.codeOf K aWord) P) (mT : mg "type" = none) (mStr : mg "str" = none) (mL : mg "len" = none) (mAll : mg "all" = none) {u : Tok} (mN : mg "MOST_SIGNS" = some (.int 10 u)) :
    FnOk Pr w K mg base CX0 1 (He.fAd K aWord) fd ["thing"] (spIsWord P) := by
  refine F.okC scIsWord (fun vs H Q E h => ?_) (fun A' outer s H vs Q E hr h => ?_)
  · obtain ⟨l, rfl, _⟩ := h
    rfl
  · obtain ⟨l, rfl, ⟨l1, l2, l3⟩, hT, q⟩ := h
    refine ⟨_, pss_cons (ps_if (pt_cmpR op_isNotTy (pe_callTy RZ.call_type4 (by rfl) mT boot_type (pa_cons (pv 0) pa_nil)) (pe_bltn (v := .ty "str") (by rfl) mStr boot_str rfl) (nomark _)) (pss_one (ps_ret pe_bl)) pss_nil)
      (pss_cons (ps_if (pt_not (pt_chain op_le op_le pe_int (pe_callB call_len_str (by rfl) mL boot_len (pa_cons (pv 0) pa_nil)) (pe_glob (v := .int 10) (by rfl) mN ⟨_, rfl⟩))) (pss_one (ps_ret pe_bl)) pss_nil)
      (pss_one (ps_ret (GxR.pe_allS hr (by rfl) mAll boot_all T rfl ⟨rfl, rfl, ?gc, rfl, rfl, ?gf⟩ (pv 0) (elt_az rfl rfl) (fun _ => rfl))))), ?_⟩
    case gc =>
      intro y hy e
      simp only [List.mem_cons, List.not_mem_nil, or_false] at hy
      rcases hy with rfl | rfl <;> cases e
    case gf =>
      intro y hy e
      simp only [List.mem_cons, List.not_mem_nil, or_false] at hy
      rcases hy with rfl | rfl <;> cases e
    refine ⟨_, rfl, _, "str", rfl, .str _, "str", "str", rfl, rfl, _, rfl, ?_⟩
    refine iteF ?_
    have ll : (S l).length = l.length := S_len l
    refine ⟨_, rfl, S l, rfl, small_S (by omega), _, _, rfl, rfl, _, rfl, ?_⟩
    refine iteP (by rw [ll]; omega) ⟨_, _, rfl, rfl, _, rfl, ?_⟩
    rw [decide_eq_true (show ((S l).length : Int) ≤ 10 by rw [ll]; omega)]
    refine iteF ?_
    refine ⟨_, rfl, S l, rfl, hT, fun H2 hH => ?_⟩
    have e : (S l).cps.toList.all (fun c => decide (97 ≤ c) && decide (c ≤ 122)) = true := by
      rw [List.all_eq_true]
      intro c hc
      have := l3 c hc
      rw [decide_eq_true this.1, decide_eq_true this.2]
      rfl
    rw [e]
    exact q H2 (.of_tabbed hH)
variable {f fI fC fH : Addr} {fdI fdC fdH : FuncData}
theorem scChecked : FnScope ["words", "found", "thing"] ["words"] (defScope sChecked) := ⟨rfl, rfl, rfl, by decide +kernel, rfl, by decide +kernel, by decide +kernel⟩
def spChecked (P : Addr) : Sp := fun vs H Q _ => ∃ (b : Addr) (ws : List (List Nat)), vs = [.ref b] ∧ H b = some (.lst (ws.map tx)) ∧ CodeOk ws ∧ GxR.TabG H P ∧
  ∀ (r : Addr) (vs : List (List Nat)) (H' : Hp), Sm P H H' → H r = none → H' r = some (.lst (vs.map tx)) → vs.Perm ws → sortedS (vs.map S) = true → Q (.ref r) H'
/-- the program's is_word, as it stands behind the top -/
structure HasI (K : PySem.W.Frag) (mg : Str → Option Value) (base : Heap) (P : Addr) (fd : FuncData) : Prop where
  F : FnP K "is_word" sIsWord (He.fAd K aWord) fd
  g : mg "is_word" = some (.ref (He.fAd K aWord))
  b : Binds K fd ["thing"] []
  T : GxR.TabB base mg (He.codeOf K aWord) P
theorem ok_checked (F : FnP K "checked" sChecked f fd) (I : HasI K mg base P fdI) (B : Bl mg) : FnOk Pr w K mg base CX0 2 f fd ["words"] (spChecked P) := by
  obtain ⟨u10, mN⟩ := B.mN
  obtain ⟨u12, mM⟩ := B.mM
  have GI : FnOk Pr w K mg base CX0 1 (He.fAd K aWord) fdI ["thing"] (spIsWord P) := ok_isWord I.F I.T B.mT B.mStr B.mL B.mAll mN
  refine F.okN scChecked (fun vs H Q E h => ?_) (fun cdv A' outer s H vs Q E hr h => ?_)
  · obtain ⟨b, ws, rfl, _⟩ := h
    rfl
  · obtain ⟨b, ws, rfl, hB, ⟨c1, c2, c3⟩, hT, q⟩ := h
    refine ⟨_, pss_cons (ps_if (pt_cmpR op_isNotTy (pe_callTy RZ.call_type4 (by rfl) B.mT boot_type (pa_cons (pv 0) pa_nil)) (pe_bltn (v := .ty "list") (by rfl) B.mList boot_list rfl) (nomark _)) pss_never pss_nil)
      (pss_cons (ps_if (pt_cmpR op_gt (pe_callB call_len_seq (by rfl) B.mL boot_len (pa_cons (pv 0) pa_nil)) (pe_glob (v := .int 12) (by rfl) mM ⟨_, rfl⟩) (nomark _)) pss_never pss_nil)
      (pss_cons (ps_set (i := 1) scChecked.nd rfl (.inl rfl) (pe_lst pa_nil))
      (pss_cons (ps_for PassesOwn.never rfl (pi_list (pv 0)) (pg_name (i := 2) scChecked.nd rfl (Or.inl rfl))
        (pss_cons (ps_if (pt_not (pt_val (pe_call GI hr (by rfl) I.g I.F.kp I.b .nil pass0 (pa_cons (pv 2) pa_nil)))) pss_never pss_nil)
        (pss_cons (ps_if (pt_cmpR op_in_seq (pv 2) (pv 1) (by rfl)) pss_never pss_nil)
        (pss_one (ps_expr (pe_bm PySem.F.plainAttrs_list PySem.F.slot_list_append PySem.F.type_list_append mt_append (pv 1) (pa_cons (pv 2) pa_nil)))))))
      (pss_one (ps_ret (pe_callB cr_sortedS (by rfl) B.mSorted boot_sorted (pa_cons (pv 1) pa_nil))))))), ?_⟩
    refine ⟨_, rfl, _, "list", rfl, .lst hB, "list", "list", rfl, rfl, _, rfl, ?_⟩
    refine iteF ?_
    refine ⟨_, rfl, b, _, rfl, .inl (seqL hB), _, _, rfl, rfl, _, rfl, iteN (by rw [List.length_map]; omega) ?_⟩
    refine ⟨Nat.zero_le _, fun g hg => ?_⟩
    have s1 : Same H (upd H g (.lst [])) := same_upd hg
    have m1 : Sm P H (upd H g (.lst [])) := .of_same hT s1
    have hbg : b ≠ g := ne_of_none hB hg
    have ngP : g ≠ P := TabG.ne m1.tab upd_same
    refine ⟨_, rfl, b, rfl, ⟨_, seqL (s1 _ _ hB)⟩, for_list (K := K) (a := b) (xs := ws.map tx) (fun i σ H3 => Sm P H H3 ∧ ∃ (kv : Option V), σ = [some (.ref b), some (.ref g), kv] ∧ H3 g = some (.lst ((ws.take i).map tx))) ?_ ?_ ?_ ?_⟩
    · exact ⟨m1, none, rfl, upd_same⟩
    · exact fun i σ H3 _ hh => seqL (Sm.lst hT hh.1 hB)
    · rintro i x σ H3 hx ⟨sm, kv, rfl, eg⟩
      have hj : i < ws.length := by
        have := (List.getElem?_eq_some_iff.mp hx).1
        rw [List.length_map] at this
        exact this
      have hxe : x = tx ws[i] := by
        rw [List.getElem?_map, List.getElem?_eq_getElem hj] at hx
        exact (Option.some.inj hx).symm
      subst hxe
      refine ⟨_, rfl, ws[i], rfl, c3 _ (List.getElem_mem hj), sm.tab, fun H4 sm4 => ⟨_, rfl, ?_⟩⟩
      refine iteF ?_
      have eg4 : H4 g = some (.lst ((ws.take i).map tx)) := sm4.keep _ _ ngP eg
      refine ⟨_, rfl, _, rfl, g, _, rfl, .inl (seqL eg4), rfl, flat_tx _, _, rfl, ?_⟩
      have hni : ws[i] ∉ ws.take i := by
        intro z
        obtain ⟨j, hj2, e2⟩ := List.mem_iff_getElem.mp z
        rw [List.length_take] at hj2
        rw [List.getElem_take] at e2
        have := (List.getElem_inj c2).mp e2
        omega
      rw [show (if (false : Bool) = true then !inV (tx ws[i]) ((ws.take i).map tx) else inV (tx ws[i]) ((ws.take i).map tx)) = decide (ws[i] ∈ ws.take i) from inV_tx _ _]
      refine iteN hni ?_
      refine ⟨_, rfl, .inl ⟨rfl, _, seqL eg4⟩, _, rfl, g, _, _, rfl, rfl, eg4, by rw [List.length_map, List.length_take]; exact small1000 (by omega), ?_⟩
      refine ⟨⟨tab_upd sm4.tab ngP, fun d o n e => ?_⟩, _, rfl, ?_⟩
      · rw [upd_ne (ne_of_none e hg)]
        exact sm4.keep _ _ n (sm.keep _ _ n e)
      · rw [upd_same, List.take_add_one, List.getElem?_eq_getElem hj, List.map_append]
        rfl
    · rintro σ H3 ⟨sm, kv, rfl, eg⟩
      rw [List.length_map, List.take_length] at eg
      refine ⟨_, rfl, g, ws.map S, rfl, seqL (by rw [← map_tx]; exact eg), by rw [List.length_map]; omega, fun ys r perm so hr0 => ?_⟩
      have e1 : (ys.map TL.tl).map S = ys := by
        rw [List.map_map]
        have : (S ∘ TL.tl) = id := funext fun z => S_tl z
        rw [this, List.map_id]
      refine q r (ys.map TL.tl) _ (sm.andThen (same_upd hr0)) (Sm.free hT sm hr0) ?_ ?_ ?_
      · rw [upd_same, map_tx, e1]
      · have := perm.map TL.tl
        rw [map_S_tl] at this
        exact this
      · rw [e1]
        exact so
theorem scCounted : FnScope ["words", "text"] ["words", "text"] (defScope sCounted) := ⟨rfl, rfl, rfl, by decide +kernel, rfl, by decide +kernel, by decide +kernel⟩
def spCounted (P : Addr) : Sp := fun vs H Q _ => ∃ (b : Addr) (ws : List (List Nat)) (t : List Nat), vs = [.ref b, tx t] ∧ H b = some (.lst (ws.map tx)) ∧ CodeOk ws ∧ t.length ≤ 500 ∧ GxR.TabG H P ∧
  ∀ (g : Addr) (H' : Hp), Sm P H H' → H g = none → H' g = some (.lst ((cnt ws t).map V.int)) → Q (.ref g) H'
theorem ok_counted (F : FnP K "counted" sCounted f fd) (C : Has K mg "checked" sChecked ["words"] fC fdC) (N : Has K mg "_counts" sCounts ["code", "text"] fH fdH) (W : ∃ fW fdW, Has K mg "_words_at" sWordsAt ["code", "text", "at"] fW fdW) (I : HasI K mg base P fdI) (B : Bl mg) : FnOk Pr w K mg base CX0 3 f fd ["words", "text"] (spCounted P) := by
  obtain ⟨fW, fdW, W⟩ := W
  have GC : FnOk Pr w K mg base CX0 2 fC fdC ["words"] (spChecked P) := ok_checked C.F I B
  have GN : FnOk Pr w K mg base CX0 2 fH fdH ["code", "text"] (spCnt K) := ok_counts N.F W B.mR B.mV B.mL B.mSum
  refine F.okN scCounted (fun vs H Q E h => ?_) (fun cdv A' outer s H vs Q E hr h => ?_)
  · obtain ⟨b, ws, t, rfl, _⟩ := h
    rfl
  · obtain ⟨b, ws, t, rfl, hB, ⟨c1, c2, c3⟩, ht, hT, q⟩ := h
    refine ⟨_, pss_one (ps_ret (pe_call GN hr (by rfl) N.g N.F.kp N.b .nil pass0 (pa_cons (pe_call GC hr (by rfl) C.g C.F.kp C.b .nil pass0 (pa_cons (pv 0) pa_nil)) (pa_cons (pv 1) pa_nil)))), ?_⟩
    refine ⟨_, rfl, b, ws, rfl, hB, ⟨c1, c2, c3⟩, hT, fun r vs H1 sm1 nr eR perm _ => ?_⟩
    refine ⟨_, rfl, r, vs, t, rfl, seqL eR, fun x hx => c3 x (perm.mem_iff.mp hx), by rw [perm.length_eq]; exact c1, ht, fun g H2 s2 ng eg => ?_⟩
    rw [cnt_perm perm] at eg
    exact q g H2 (sm1.andThen s2) (Sm.free hT sm1 ng) eg
theorem scWhole : FnScope ["_law_found"] ["_law_found"] (defScope sWhole) := ⟨rfl, rfl, rfl, by decide +kernel, rfl, by decide +kernel, by decide +kernel⟩
def spWhole : Sp := fun vs H Q _ => ∃ (i : Int), vs = [.int i] ∧ Q (.bl true) H
theorem ok_whole (F : FnP K "_law_whole" sWhole f fd) (B : Bl mg) : FnOk Pr w K mg base CX0 1 f fd ["_law_found"] spWhole := by
  refine F.okN scWhole (fun vs H Q E h => ?_) (fun cdv A' outer s H vs Q E hr h => ?_)
  · obtain ⟨i, rfl, _⟩ := h
    rfl
  · obtain ⟨i, rfl, q⟩ := h
    refine ⟨_, pss_one (ps_ret (pe_and (pe_callB call_isi (by rfl) B.mIsi boot_isinstance (pa_cons (pv 0) (pa_cons (pe_bltn (v := .ty "int") (by rfl) B.mInt boot_int rfl) pa_nil)))
      (pe_one (pe_not (pe_callB call_isi (by rfl) B.mIsi boot_isinstance (pa_cons (pv 0) (pa_cons (pe_bltn (v := .ty "bool") (by rfl) B.mBool boot_bool rfl) pa_nil))))))), ?_⟩
    refine ⟨_, rfl, .int i, .ty "int", .type "int", .type "int", true, rfl, .ty _, .base (.int i), kit_ty (by decide +kernel), _, rfl, ?_⟩
    refine iteT ?_
    exact ⟨_, rfl, .int i, .ty "bool", .type "int", .type "bool", false, rfl, .ty _, .base (.int i), kit_ty (by decide +kernel), _, rfl, q⟩
end
theorem dp_ints {K : PySem.W.Frag} {H : Hp} : ∀ ns : List Int, DpAll K H (ns.map V.int) (ns.map PyData.int)
  | [] => .nil
  | x :: r => .cons (.int x) (dp_ints r)
theorem shaped_ints (ns : List Int) : SeqAt.shaped (.list (ns.map PyData.int)) = true := PySem.W.ke_shaped_ints ns
theorem eqv_ints (ns : List Int) : PyData.eqv (.list (ns.map PyData.int)) (.list (ns.map PyData.int)) = true := PySem.SeqAt.eqv_refl _ (PySem.SeqAt.canLay_of_shaped (shaped_ints ns))
/-! ### how two texts begin -/
/-- the greatest length of a text with which both begin -/
def shd : List Nat → List Nat → Nat
  | x :: a, y :: b => if x = y then shd a b + 1 else 0
  | _, _ => 0
theorem shd_le : ∀ a b : List Nat, shd a b ≤ a.length ∧ shd a b ≤ b.length
  | [], _ => ⟨Nat.zero_le _, Nat.zero_le _⟩
  | _ :: _, [] => ⟨Nat.zero_le _, Nat.zero_le _⟩
  | x :: a, y :: b => by
    show (if x = y then shd a b + 1 else 0) ≤ _ ∧ (if x = y then shd a b + 1 else 0) ≤ _
    have ih := shd_le a b
    by_cases h : x = y
    · rw [if_pos h, List.length_cons, List.length_cons]
      omega
    · rw [if_neg h]
      exact ⟨Nat.zero_le _, Nat.zero_le _⟩
theorem shd_stop : ∀ {i : Nat} {a b : List Nat} {c d : Nat}, a.take i = b.take i → a[i]? = some c → b[i]? = some d → c ≠ d → shd a b = i
  | 0, x :: a, y :: b, c, d, _, h1, h2, n => by
    have e1 : x = c := Option.some.inj h1
    have e2 : y = d := Option.some.inj h2
    show (if x = y then shd a b + 1 else 0) = 0
    rw [if_neg fun z => n (by rw [← e1, ← e2, z])]
  | i + 1, x :: a, y :: b, c, d, h, h1, h2, n => by
    have h' : x :: a.take i = y :: b.take i := h
    have e := (List.cons.inj h').1
    show (if x = y then shd a b + 1 else 0) = i + 1
    rw [if_pos e, shd_stop (List.cons.inj h').2 h1 h2 n]
  | _, [], _, _, _, _, h1, _, _ => by cases h1
  | _, _ :: _, [], _, _, _, _, h2, _ => by cases h2
theorem shd_all : ∀ {i : Nat} {a b : List Nat}, a.take i = b.take i → (i = a.length ∨ i = b.length) → i ≤ a.length → i ≤ b.length → shd a b = i
  | 0, [], _, _, _, _, _ => rfl
  | 0, _ :: _, [], _, _, _, _ => rfl
  | 0, x :: a, y :: b, _, h, _, _ => by
    rcases h with h | h
    · cases h
    · cases h
  | i + 1, x :: a, y :: b, h, hl, h1, h2 => by
    have h' : x :: a.take i = y :: b.take i := h
    have e := (List.cons.inj h').1
    show (if x = y then shd a b + 1 else 0) = i + 1
    rw [if_pos e, shd_all (List.cons.inj h').2 (hl.elim (fun z => .inl (Nat.succ.inj z)) fun z => .inr (Nat.succ.inj z)) (Nat.le_of_succ_le_succ h1) (Nat.le_of_succ_le_succ h2)]
  | i + 1, [], _, _, _, h1, _ => absurd h1 (Nat.not_succ_le_zero i)
  | i + 1, _ :: _, [], _, _, _, h2 => absurd h2 (Nat.not_succ_le_zero i)
theorem take_next {i c : Nat} {a b : List Nat} (h : a.take i = b.take i) (h1 : a[i]? = some c) (h2 : b[i]? = some c) : a.take (i + 1) = b.take (i + 1) := by
  rw [List.take_add_one, List.take_add_one, h, h1, h2]
/-- the rest that a rest goes on to by a word, and whether the word goes beyond -/
def stp (r w : List Nat) : Option (List Nat × Bool) := if hit w r = true then some (r.drop w.length, false) else if hit r w = true then some (w.drop r.length, true) else none
theorem hit_nil (r : List Nat) : hit [] r = true := hit_iff.mpr rfl
theorem to_eq {t b : List Nat} : decide (V.str (cutS (S t) none (some (b.length : Int))) = V.str (S b)) = hit b t := by
  rw [cut_to (by omega), tx_eq, Int.toNat_natCast, Bool.eq_iff_iff, decide_eq_true_eq, hit_iff]
theorem from_len {t : List Nat} {n : Nat} : V.str (cutS (S t) (some (n : Int)) none) = tx (t.drop n) := by
  rw [cut_from (by omega), Int.toNat_natCast]
theorem S_get {a : List Nat} {i : Nat} : (S a).cps[i]? = a[i]? := by
  show a.toArray[i]? = a[i]?
  rw [List.getElem?_toArray]
section
variable {Pr : Program} {w : World} {K : PySem.W.Frag} {mg : Str → Option Value} {base : Heap} {f : Addr} {fd : FuncData}
def spShared : Sp := fun vs H Q _ => ∃ a b : List Nat, vs = [tx a, tx b] ∧ a.length ≤ 1000 ∧ b.length ≤ 1000 ∧ ∀ H', Same H H' → Q (.int (shd a b : Nat)) H'
def spLeft : Sp := fun vs H Q _ => ∃ a b : List Nat, vs = [tx a, tx b] ∧ a.length ≤ 1000 ∧ b.length ≤ 1000 ∧ Q (if hit b a = true then tx (a.drop b.length) else .non) H
def spStep : Sp := fun vs H Q _ => ∃ r v : List Nat, vs = [tx r, tx v] ∧ r.length ≤ 1000 ∧ v.length ≤ 1000 ∧ (stp r v = none → Q .non H) ∧ (∀ x b, stp r v = some (x, b) → ∀ (p : Addr) (H' : Hp), Same H H' → H p = none → H' p = some (.tup [tx x, .bl b]) → Q (.ref p) H')
end
section
variable {Pr : Program} {w : World} {K : PySem.W.Frag} {mg : Str → Option Value} {base : Heap} {f : Addr} {fd : FuncData}
end
/-- the defs of the text, each as it stands behind the top -/
structure Defs (K : PySem.W.Frag) (mg : Str → Option Value) : Prop where
  d_checked : There K mg "checked" sChecked ["words"]
  d_counted : There K mg "counted" sCounted ["words", "text"]
  d__words_at : There K mg "_words_at" sWordsAt ["code", "text", "at"]
  d__counts : There K mg "_counts" sCounts ["code", "text"]
  d__law_at : There K mg "_law_at" sAt ["_law_script", "_law_k"]
  d__law_mixed : There K mg "_law_mixed" sMixed ["_law_cell", "_law_k"]
  d__law_whole : There K mg "_law_whole" sWhole ["_law_found"]
  d__law_signs : There K mg "_law_signs" sSigns ["_law_cell"]
  d__law_word : There K mg "_law_word" sWord ["_law_cell", "_law_signs_here"]
  d__law_any_word : There K mg "_law_any_word" sAny ["_law_cell"]
  d__law_more : There K mg "_law_more" sMore ["_law_words_here", "_law_cell", "_law_signs_here"]
  d__law_chain : There K mg "_law_chain" sChain ["_law_script", "_law_first", "_law_signs_here"]
  d__law_words : There K mg "_law_words" sWords ["_law_script", "_law_first"]
  d__law_row : There K mg "_law_row" sRow ["_law_script", "_law_first", "_law_words_here", "_law_most"]
  d__law_text : There K mg "_law_text" sText ["_law_script", "_law_first", "_law_words_here"]
  d__law_counts : There K mg "_law_counts" sLawCounts ["_law_words_here", "_law_text_here"]
/-- the classes of errors -/
structure Exs (K : PySem.W.Frag) (mg : Str → Option Value) : Prop where
  c_CodeError : He.ga K "CodeError" = He.ga K "CodeError"
  g_CodeError : mg "CodeError" = some (.ref (He.ga K "CodeError"))
  x_CodeError : (He.Fa.exc "CodeError").ok K = true
  c_BadCode : He.ga K "BadCode" = He.ga K "BadCode"
  g_BadCode : mg "BadCode" = some (.ref (He.ga K "BadCode"))
  x_BadCode : (He.Fa.exc "BadCode").ok K = true
  c_Full : He.ga K "Full" = He.ga K "Full"
  g_Full : mg "Full" = some (.ref (He.ga K "Full"))
  x_Full : (He.Fa.exc "Full").ok K = true
  c_BadWord : He.ga K "BadWord" = He.ga K "BadWord"
  g_BadWord : mg "BadWord" = some (.ref (He.ga K "BadWord"))
  x_BadWord : (He.Fa.exc "BadWord").ok K = true
  c_Twice : He.ga K "Twice" = He.ga K "Twice"
  g_Twice : mg "Twice" = some (.ref (He.ga K "Twice"))
  x_Twice : (He.Fa.exc "Twice").ok K = true
section
variable {Pr : Program} {w : World} {K : PySem.W.Frag} {mg : Str → Option Value} {base : Heap}
def spLaw (K : PySem.W.Frag) (P : Addr) : Sp := fun vs H Q _ => ∃ (a : Addr) (ns : List Int), vs = [.ref a] ∧ SqL K H a (ns.map V.int) ∧ GxR.TabG H P ∧ ∀ H', Q (.bl true) H'
theorem inWords (D : Defs K mg) (B : Bl mg) : ∃ f fd, Has K mg "_law_words" sWords ["_law_script", "_law_first"] f fd ∧ FnOk Pr w K mg base CX0 4 f fd ["_law_script", "_law_first"] (spWords K) := by
  obtain ⟨f1, d1, A⟩ := D.d__law_at
  obtain ⟨f2, d2, MX⟩ := D.d__law_mixed
  obtain ⟨f3, d3, Z⟩ := D.d__law_signs
  obtain ⟨f4, d4, W⟩ := D.d__law_word
  obtain ⟨f5, d5, Y⟩ := D.d__law_any_word
  obtain ⟨f6, d6, O⟩ := D.d__law_more
  obtain ⟨f7, d7, C⟩ := D.d__law_chain
  obtain ⟨f8, d8, WS⟩ := D.d__law_words
  exact ⟨f8, d8, WS, ok_words WS.F A W MX Z C Y O B.mR B.mL⟩
theorem inText (D : Defs K mg) (B : Bl mg) : ∃ f fd, Has K mg "_law_text" sText ["_law_script", "_law_first", "_law_words_here"] f fd ∧ FnOk Pr w K mg base CX0 3 f fd ["_law_script", "_law_first", "_law_words_here"] (spText K) := by
  obtain ⟨f1, d1, A⟩ := D.d__law_at
  obtain ⟨f2, d2, MX⟩ := D.d__law_mixed
  obtain ⟨f3, d3, R⟩ := D.d__law_row
  obtain ⟨f4, d4, T⟩ := D.d__law_text
  exact ⟨f4, d4, T, ok_text T.F R A MX B.mR B.mL⟩
end

section
variable {Pr : Program} {w : World} {K : PySem.W.Frag} {mg : Str → Option Value} {base : Heap} {f fL : Addr} {fd fdL : FuncData}
end


section
variable {Pr : Program} {w : World} {K : PySem.W.Frag} {mg : Str → Option Value} {base : Heap} {f : Addr} {fd fdI : FuncData} {P : Addr}
theorem scLaw : FnScope ["_law_script", "_law_words_here", "_law_text_here", "_law_due", "_law_handed", "_law_found", "_law_one"] ["_law_script"] (defScope sLaw) := ⟨rfl, rfl, rfl, by decide +kernel, rfl, by decide +kernel, by decide +kernel⟩
theorem ok_law (F : FnP K "law" sLaw f fd) (D : Defs K mg) (I : HasI K mg base P fdI) (B : Bl mg) : FnOk Pr w K mg base CX0 5 f fd ["_law_script"] (spLaw K P) := by
  obtain ⟨f8, d8, WS, GWS⟩ := inWords (Pr := Pr) (w := w) (base := base) D B
  obtain ⟨f10, d10, T, GT0⟩ := inText (Pr := Pr) (w := w) (base := base) D B
  obtain ⟨f11, d11, LC⟩ := D.d__law_counts
  obtain ⟨f12, d12, WH⟩ := D.d__law_whole
  obtain ⟨f13, d13, CO⟩ := D.d_counted
  obtain ⟨f14, d14, CH⟩ := D.d_checked
  obtain ⟨f15, d15, CT⟩ := D.d__counts
  have GT : FnOk Pr w K mg base CX0 4 f10 d10 ["_law_script", "_law_first", "_law_words_here"] (spText K) := GT0.mono (by decide)
  have GL : FnOk Pr w K mg base CX0 4 f11 d11 ["_law_words_here", "_law_text_here"] (spCnt K) := (ok_lawCounts LC.F B.mR B.mV B.mL).mono (by decide)
  have GH : FnOk Pr w K mg base CX0 4 f12 d12 ["_law_found"] spWhole := (ok_whole WH.F B).mono (by decide)
  have GC : FnOk Pr w K mg base CX0 4 f13 d13 ["words", "text"] (spCounted P) := (ok_counted CO.F CH CT D.d__words_at I B).mono (by decide)
  refine F.okN scLaw (fun vs H Q E h => ?_) (fun cdv A' outer s H vs Q E hr h => ?_)
  · obtain ⟨a, ns, rfl, _⟩ := h
    rfl
  · obtain ⟨a, ns, rfl, hS, hT, q⟩ := h
    refine ⟨_, pss_cons (ps_set (i := 1) scLaw.nd rfl (.inl rfl) (pe_call GWS hr (by rfl) WS.g WS.F.kp WS.b .nil pass0 (pa_cons (pv 0) (pa_cons pe_int pa_nil))))
      (pss_cons (ps_set (i := 2) scLaw.nd rfl (.inl rfl) (pe_call GT hr (by rfl) T.g T.F.kp T.b .nil pass0 (pa_cons (pv 0) (pa_cons pe_int (pa_cons (pv 1) pa_nil)))))
      (pss_cons (ps_set (i := 3) scLaw.nd rfl (.inl rfl) (pe_call GL hr (by rfl) LC.g LC.F.kp LC.b .nil pass0 (pa_cons (pv 1) (pa_cons (pv 2) pa_nil))))
      (pss_cons (ps_set (i := 4) scLaw.nd rfl (.inl rfl) (pe_callTy call_list_of (by rfl) B.mList boot_list (pa_cons (pv 1) pa_nil)))
      (pss_cons (ps_set (i := 5) scLaw.nd rfl (.inl rfl) (pe_call GC hr (by rfl) CO.g CO.F.kp CO.b .nil pass0 (pa_cons (pv 4) (pa_cons (pv 2) pa_nil))))
      (pss_cons (ps_if (PW.pt (pw_or (pt_not (pt_val (pe_callB call_isi (by rfl) B.mIsi boot_isinstance (pa_cons (pv 5) (pa_cons (pe_bltn (v := .ty "list") (by rfl) B.mList boot_list rfl) pa_nil)))))
          (pw_or (pt_cmpR (op_neD hr.units) (pv 5) (pv 3) (nomark _)) (pw_or1 (pt_cmpR (op_neD hr.units)
            (pe_lc (own := [("_law_one", 6)]) (g := gName 6) (tt := tNot (tB (tCall spWhole [] E0 (tCons (tVar 6) tNil)))) rfl scLaw.nd (pi_list (pv 5)) (blkOk_by (own := [("_law_one", 6)]) (N := ["_law_script", "_law_words_here", "_law_text_here", "_law_due", "_law_handed", "_law_found", "_law_one"]) (sc := defScope sLaw) (by decide +kernel))
              (fun _ _ _ _ _ => pg_name (i := 6) scLaw.nd rfl (Or.inl rfl)) (fun _ _ _ _ _ => pts_one (pt_not (pt_val (pe_call GH hr (by rfl) WH.g WH.F.kp WH.b .nil pass0 (pa_cons (pv 6) pa_nil))))) (fun _ _ _ _ _ => pv 6)) (pe_lst pa_nil) (nomark _)))))) (pss_one (ps_ret pe_bl)) pss_nil)
      (pss_cons (ps_expr (pe_bm0 PySem.F.plainAttrs_list PySem.F.slot_list_clear PySem.F.type_list_clear mt_clear (pv 5)))
      (pss_one (ps_ret (pe_and (pe_cmpR (op_eqD hr.units) (pv 4) (pv 1) (nomark _)) (pe_one (pe_cmpR (op_eqD hr.units) (pe_call GC hr (by rfl) CO.g CO.F.kp CO.b .nil pass0 (pa_cons (pv 4) (pa_cons (pv 2) pa_nil))) (pv 3) (nomark _))))))))))))
      , ?_⟩
    refine ⟨_, rfl, a, ns, 0, rfl, hS, by decide, fun r ws H1 s1 nr er hc => ?_⟩
    refine ⟨_, rfl, _, rfl, a, ns, 8, r, ws, rfl, s1.seq hS, by decide, er, hc, fun t H2 s2 ht tl => ?_⟩
    refine ⟨_, rfl, _, rfl, r, ws, t, rfl, seqL (s2 _ _ er), hc.2.2, hc.1, by omega, fun g H3 s3 ng eg => ?_⟩
    have er3 := s3 _ _ (s2 _ _ er)
    refine ⟨_, rfl, r, _, rfl, .inl (seqL er3), fun l hl => ?_⟩
    have s4 := same_upd (o := .lst (ws.map tx)) hl
    have m4 : Sm P H _ := .of_same hT (((s1.trans s2).trans s3).trans s4)
    refine ⟨_, rfl, _, rfl, l, ws, t, rfl, upd_same, hc, by omega, m4.tab, fun k H5 m5 nk ek => ?_⟩
    have er5 : H5 r = some (.lst (ws.map tx)) := Sm.lst m4.tab m5 (s4 _ _ er3)
    have eg5 : H5 g = some (.lst ((cnt ws t).map V.int)) := Sm.lst m4.tab m5 (s4 _ _ eg)
    have el5 : H5 l = some (.lst (ws.map tx)) := Sm.lst m4.tab m5 upd_same
    have wl : ∀ x ∈ ws, Let x := fun x hx => (hc.2.2 x hx).2.2
    -- the test
    refine ⟨_, rfl, .ref k, .ty "list", .type "list", .type "list", true, rfl, .ty _, .base (.lst ek), kit_ty (by decide +kernel), _, rfl, ?_⟩
    refine iteF ?_
    refine ⟨_, rfl, _, rfl, _, _, .lst (seqL ek) (dp_ints _), .lst (seqL eg5) (dp_ints _), shaped_ints _, shaped_ints _, _, rfl, ?_⟩
    rw [eqv_ints]
    refine iteF ?_
    refine ⟨_, rfl, k, rfl, ⟨_, seqL ek⟩, fun D hD => ?_⟩
    have ngk : ∀ {b : Addr} {xs : List V}, H5 b = some (.lst xs) → b ≠ D := fun e => ne_of_none e hD
    refine lc_list (K := K) (a := k) (xs := (cnt ws t).map V.int) (fun i H6 => H6 = upd H5 D (.lst [])) ?_ ?_ ?_ ?_
    · rfl
    · rintro i H6 _ rfl
      exact seqL (by rw [upd_ne (ngk ek)]; exact ek)
    · rintro i x H6 hx rfl
      rw [List.getElem?_map] at hx
      obtain ⟨z, hz, rfl⟩ := Option.map_eq_some_iff.mp hx
      refine ⟨rfl, _, rfl, z, rfl, _, rfl, ?_⟩
      exact iteF rfl
    · rintro H6 rfl
      refine ⟨Nat.zero_le _, fun e he => ?_⟩
      have s7 := same_upd (o := .lst []) he
      refine ⟨.list [], .list [], .lst (seqL (s7 _ _ upd_same)) .nil, .lst (seqL upd_same) .nil, by decide +kernel, by decide +kernel, _, rfl, ?_⟩
      rw [show PyData.eqv (.list []) (.list []) = true by decide +kernel]
      refine iteF ?_
      have m7 : Sm P H5 (upd (upd H5 D (.lst [])) e (.lst [])) := .of_same m5.tab ((same_upd hD).trans s7)
      have ek7 := Sm.lst m5.tab m7 ek
      refine ⟨_, rfl, .inl ⟨rfl, _, seqL ek7⟩, k, _, rfl, rfl, ek7, ?_⟩
      have nkP : k ≠ P := TabG.ne m5.tab ek
      have nrk : r ≠ k := fun z => by
        rw [← z] at nk
        rw [s4 _ _ er3] at nk
        cases nk
      have ngk2 : g ≠ k := fun z => by
        rw [← z] at nk
        rw [s4 _ _ eg] at nk
        cases nk
      have nlk : l ≠ k := fun z => by
        rw [← z, upd_same] at nk
        cases nk
      have t8 : GxR.TabG (upd (upd (upd H5 D (.lst [])) e (.lst [])) k (.lst [])) P := tab_upd m7.tab nkP
      have er8 : (upd (upd (upd H5 D (.lst [])) e (.lst [])) k (.lst [])) r = some (.lst (ws.map tx)) := by rw [upd_ne nrk]; exact Sm.lst m5.tab m7 er5
      have eg8 : (upd (upd (upd H5 D (.lst [])) e (.lst [])) k (.lst [])) g = some (.lst ((cnt ws t).map V.int)) := by rw [upd_ne ngk2]; exact Sm.lst m5.tab m7 eg5
      have el8 : (upd (upd (upd H5 D (.lst [])) e (.lst [])) k (.lst [])) l = some (.lst (ws.map tx)) := by rw [upd_ne nlk]; exact Sm.lst m5.tab m7 el5
      refine ⟨_, rfl, _, rfl, _, _, .lst (seqL el8) (dp_texts ws), .lst (seqL er8) (dp_texts ws), shaped_texts wl, shaped_texts wl, _, rfl, ?_⟩
      rw [eqv_texts wl]
      refine iteT ?_
      refine ⟨_, rfl, _, rfl, l, ws, t, rfl, el8, hc, by omega, t8, fun k2 H9 m9 nk2 ek2 => ?_⟩
      refine ⟨_, rfl, _, _, .lst (seqL ek2) (dp_ints _), .lst (seqL (Sm.lst t8 m9 eg8)) (dp_ints _), shaped_ints _, shaped_ints _, ?_⟩
      rw [eqv_ints]
      exact q H9
end
def dd (x : Str) (i : Nat) : He.DefD := ⟨(x, none), x, x, defArgs (top i), defBody (top i), defScope (top i), [], []⟩
def fn : List He.DefD := [dd "is_word" 9, dd "checked" 10, dd "counted" 12, dd "_words_at" 13, dd "_counts" 14, dd "_law_at" 16, dd "_law_mixed" 17, dd "_law_whole" 18, dd "_law_signs" 19, dd "_law_word" 20, dd "_law_any_word" 21, dd "_law_more" 22, dd "_law_chain" 23, dd "_law_words" 24, dd "_law_row" 25, dd "_law_text" 26, dd "_law_counts" 27, dd "law" 28]
def fa : List He.Fa := ([.glo "law", .int "MOST_SIGNS" 10, .int "MOST_WORDS" 12, .glo "is_word", .glo "checked", .glo "counted", .glo "_words_at", .glo "_counts", .glo "_law_at", .glo "_law_mixed", .glo "_law_whole", .glo "_law_signs", .glo "_law_word", .glo "_law_any_word", .glo "_law_more", .glo "_law_chain", .glo "_law_words", .glo "_law_row", .glo "_law_text", .glo "_law_counts", .free "type", .free "str", .free "len", .free "all", .free "list", .free "sorted", .free "range", .free "reversed", .free "sum", .free "isinstance"] : List He.Fa) ++ ([.free "int", .free "bool", .free "any", .free "max", .free "dict", .free "tuple", .free "min", .free "ValueError", .free "enumerate", .free "zip", .glo "CodeError", .glo "BadCode", .glo "Full", .glo "BadWord", .glo "Twice", .exc "CodeError", .exc "BadCode", .exc "Full", .exc "BadWord", .exc "Twice"] : List He.Fa)
def loose : List Str := (["CodeError", "BadCode", "Full", "BadWord", "Twice", "MOST_SIGNS", "MOST_WORDS", "is_word", "checked", "counted", "_words_at", "_counts", "_law_at", "_law_mixed", "_law_whole", "_law_signs", "_law_word", "_law_any_word", "_law_more", "_law_chain", "_law_words", "_law_row", "_law_text", "_law_counts"] : List Str)
abbrev R : PySem.W.OpenRow := PySem.W.OpenLaw.row PySem.Challenge.rw_onereading_k03_partings_counted
def ex : PySem.W.Frag → Bool := fun _ => true
abbrev tf : List He.Defn := [aWord]
abbrev hk : PySem.W.Hook := He.hookX 4 fa fn [] tf ex
def ob (s : PySem.W.SharedT) : He.AlX := He.obsX 4 fa fn [] tf ex (HandSHeadRun.getT s)
theorem ob_eq (s : PySem.W.SharedT) : ob s = hk.obs s.abs := He.obsX_eq (HandSHeadRun.getT_eq s)
set_option maxHeartbeats 0 in
theorem run (w : World) : HandSHeadRun.RunEq R (PySem.W.view R.prog [28]) hk ob 20000 loose w := by
  intro os
  kernel_rfl
section
variable {w : World} {h : Heap} {K : PySem.W.Frag} {mg : Str → Option Value} {f : Addr}
theorem there (X : K.In h) (G : h.Ns mainGlobals mg) (c : He.SaysX fa fn [] tf ex w h K) (x : Str) (i j k : Nat) {ps : List Str} (hd : fn[j]? = some (dd x i)) (hg : fa[k]? = some (He.Fa.glo x))
    (hb : ∀ (kV doc pm : Value) (an : Option Addr) (cdv ct : Value) (us : List Value), us.length = ps.length → bindArgs (PySem.W.fnOf x x (defArgs (top i)) (defBody (top i)) (defScope (top i)) .none kV doc pm an cdv ct) ⟨us, []⟩ = pure (ps.zip us)) : There K mg x (top i) ps := by
  obtain ⟨fd, F⟩ := c.t.d.def_ j hd
  exact ⟨_, fd, F, He.glo_ok X G (c.t.d.fact k hg), FunD.bindsN F hb⟩
theorem defs (X : K.In h) (G : h.Ns mainGlobals mg) (c : He.SaysX fa fn [] tf ex w h K) : Defs K mg := {
  d_checked := there X G c "checked" 10 1 4 rfl rfl fun _ _ _ _ _ _ us hl => match us, hl with | [_], _ => rfl
  d_counted := there X G c "counted" 12 2 5 rfl rfl fun _ _ _ _ _ _ us hl => match us, hl with | [_, _], _ => rfl
  d__words_at := there X G c "_words_at" 13 3 6 rfl rfl fun _ _ _ _ _ _ us hl => match us, hl with | [_, _, _], _ => rfl
  d__counts := there X G c "_counts" 14 4 7 rfl rfl fun _ _ _ _ _ _ us hl => match us, hl with | [_, _], _ => rfl
  d__law_at := there X G c "_law_at" 16 5 8 rfl rfl fun _ _ _ _ _ _ us hl => match us, hl with | [_, _], _ => rfl
  d__law_mixed := there X G c "_law_mixed" 17 6 9 rfl rfl fun _ _ _ _ _ _ us hl => match us, hl with | [_, _], _ => rfl
  d__law_whole := there X G c "_law_whole" 18 7 10 rfl rfl fun _ _ _ _ _ _ us hl => match us, hl with | [_], _ => rfl
  d__law_signs := there X G c "_law_signs" 19 8 11 rfl rfl fun _ _ _ _ _ _ us hl => match us, hl with | [_], _ => rfl
  d__law_word := there X G c "_law_word" 20 9 12 rfl rfl fun _ _ _ _ _ _ us hl => match us, hl with | [_, _], _ => rfl
  d__law_any_word := there X G c "_law_any_word" 21 10 13 rfl rfl fun _ _ _ _ _ _ us hl => match us, hl with | [_], _ => rfl
  d__law_more := there X G c "_law_more" 22 11 14 rfl rfl fun _ _ _ _ _ _ us hl => match us, hl with | [_, _, _], _ => rfl
  d__law_chain := there X G c "_law_chain" 23 12 15 rfl rfl fun _ _ _ _ _ _ us hl => match us, hl with | [_, _, _], _ => rfl
  d__law_words := there X G c "_law_words" 24 13 16 rfl rfl fun _ _ _ _ _ _ us hl => match us, hl with | [_, _], _ => rfl
  d__law_row := there X G c "_law_row" 25 14 17 rfl rfl fun _ _ _ _ _ _ us hl => match us, hl with | [_, _, _, _], _ => rfl
  d__law_text := there X G c "_law_text" 26 15 18 rfl rfl fun _ _ _ _ _ _ us hl => match us, hl with | [_, _, _], _ => rfl
  d__law_counts := there X G c "_law_counts" 27 16 19 rfl rfl fun _ _ _ _ _ _ us hl => match us, hl with | [_, _], _ => rfl
}
theorem exs (X : K.In h) (G : h.Ns mainGlobals mg) (c : He.SaysX fa fn [] tf ex w h K) : Exs K mg := {
  c_CodeError := rfl
  g_CodeError := He.glo_ok X G (c.t.d.fact 40 (f := .glo "CodeError") rfl)
  x_CodeError := c.t.d.fact 45 (f := .exc "CodeError") rfl
  c_BadCode := rfl
  g_BadCode := He.glo_ok X G (c.t.d.fact 41 (f := .glo "BadCode") rfl)
  x_BadCode := c.t.d.fact 46 (f := .exc "BadCode") rfl
  c_Full := rfl
  g_Full := He.glo_ok X G (c.t.d.fact 42 (f := .glo "Full") rfl)
  x_Full := c.t.d.fact 47 (f := .exc "Full") rfl
  c_BadWord := rfl
  g_BadWord := He.glo_ok X G (c.t.d.fact 43 (f := .glo "BadWord") rfl)
  x_BadWord := c.t.d.fact 48 (f := .exc "BadWord") rfl
  c_Twice := rfl
  g_Twice := He.glo_ok X G (c.t.d.fact 44 (f := .glo "Twice") rfl)
  x_Twice := c.t.d.fact 49 (f := .exc "Twice") rfl
}
theorem bl (X : K.In h) (G : h.Ns mainGlobals mg) (c : He.SaysX fa fn [] tf ex w h K) : Bl mg := {
  mT := He.free_ok X G (c.t.d.fact 20 (f := .free "type") rfl)
  mStr := He.free_ok X G (c.t.d.fact 21 (f := .free "str") rfl)
  mL := He.free_ok X G (c.t.d.fact 22 (f := .free "len") rfl)
  mAll := He.free_ok X G (c.t.d.fact 23 (f := .free "all") rfl)
  mList := He.free_ok X G (c.t.d.fact 24 (f := .free "list") rfl)
  mSorted := He.free_ok X G (c.t.d.fact 25 (f := .free "sorted") rfl)
  mR := He.free_ok X G (c.t.d.fact 26 (f := .free "range") rfl)
  mV := He.free_ok X G (c.t.d.fact 27 (f := .free "reversed") rfl)
  mSum := He.free_ok X G (c.t.d.fact 28 (f := .free "sum") rfl)
  mIsi := He.free_ok X G (c.t.d.fact 29 (f := .free "isinstance") rfl)
  mInt := He.free_ok X G (c.t.d.fact 30 (f := .free "int") rfl)
  mBool := He.free_ok X G (c.t.d.fact 31 (f := .free "bool") rfl)
  mAny := He.free_ok X G (c.t.d.fact 32 (f := .free "any") rfl)
  mMax := He.free_ok X G (c.t.d.fact 33 (f := .free "max") rfl)
  mDict := He.free_ok X G (c.t.d.fact 34 (f := .free "dict") rfl)
  mTuple := He.free_ok X G (c.t.d.fact 35 (f := .free "tuple") rfl)
  mMin := He.free_ok X G (c.t.d.fact 36 (f := .free "min") rfl)
  mVE := He.free_ok X G (c.t.d.fact 37 (f := .free "ValueError") rfl)
  mEnum := He.free_ok X G (c.t.d.fact 38 (f := .free "enumerate") rfl)
  mZip := He.free_ok X G (c.t.d.fact 39 (f := .free "zip") rfl)
  mN := He.int_ok X G (c.t.d.fact 1 (f := .int "MOST_SIGNS" 10) rfl)
  mM := He.int_ok X G (c.t.d.fact 2 (f := .int "MOST_WORDS" 12) rfl)
}
theorem facts {l : PySem.W.OpenLaw} (X : K.In h) (G : h.Ns mainGlobals mg) (hfa : mg ("law" : Str) = some (.ref f)) (c : He.SaysX fa fn [] tf ex w h K) : LamX.LawAtS l w K CX0 5 63 "_law_script" mg f h := by
  have e := hfa.symm.trans (He.glo_ok X G (c.t.d.fact 0 (f := .glo "law") rfl))
  cases e
  obtain ⟨fd, F⟩ := c.t.d.def_ 17 (d := dd "law" 28) rfl
  obtain ⟨fdI, FI⟩ := c.t.d.def_ 0 (d := dd "is_word" 9) rfl
  have D := defs X G c
  have B := bl X G c
  have bI : Binds K fdI ["thing"] [] := FunD.bindsN FI fun _ _ _ _ _ _ us hl => match us, hl with | [_], _ => rfl
  have gI := He.glo_ok X G (c.t.d.fact 3 (f := .glo "is_word") rfl)
  have b := FunD.bindsA (ps := ["_law_script"]) F fun _ _ _ _ _ _ us hl => match us, hl with | [_], _ => rfl
  refine ⟨fd, [He.cT K aWord], spLaw K (He.cT K aWord).2, ?_, ?_, ?_, fun s v => b s [v] rfl, ?_, fun base _ _ TB => ?_⟩
  · intro p hp
    rw [List.mem_singleton.mp hp]
    exact c.empty aWord (List.mem_singleton.mpr rfl)
  · intro p hp
    rw [List.mem_singleton.mp hp]
    exact c.out aWord (List.mem_singleton.mpr rfl)
  · intro p hp
    rw [List.mem_singleton.mp hp]
    exact PySem.W.codeHd_of_K X (c.hd aWord (List.mem_singleton.mpr rfl))
  · intro H a ns _ _ hH hS
    exact ⟨a, ns, rfl, hS, ⟨#[], hH _ (List.mem_singleton.mpr rfl), trivial⟩, fun _ => rfl⟩
  · have T := TB _ (List.mem_singleton.mpr rfl)
    have I : HasI K mg base (He.cT K aWord).2 fdI := ⟨FI, gI, bI, ⟨T.code, T.bm, T.gP⟩⟩
    exact ok_law F D I B
end
end Ow
open PySem PySem.W PyProof.Rows
set_option maxRecDepth 100000 in
set_option maxHeartbeats 0 in
theorem PySem.Challenge.cw_onereading_k03_partings_counted_holds : PySem.Challenge.rw_onereading_k03_partings_counted.Holds := by
  w_on; o_law
  refine HandSHeadRun.head_any (r := OpenLaw.row PySem.Challenge.rw_onereading_k03_partings_counted) (q := view (OpenLaw.row PySem.Challenge.rw_onereading_k03_partings_counted).prog [28]) (H := Ow.hk) (ob := Ow.ob) (M := 20000) (loose := Ow.loose) (d := HandSHeadRun.topDef (OpenLaw.row PySem.Challenge.rw_onereading_k03_partings_counted).prog 28) (kwd := []) Ow.ob_eq
    (by kernel_rfl) (fun s => by kernel_rfl) Ow.run (by kernel_rfl) (by kernel_rfl) (by kernel_rfl) (by rfl) (by first | assumption | decide +kernel) (by decide +kernel) ⟨rfl, rfl, rfl, rfl, rfl, by decide +kernel⟩ ?hw ?hc
  case hw => w_witness2
  case hc =>
    refine LamX.walk_ofTsE (l := PySem.Challenge.rw_onereading_k03_partings_counted) (n := 63) (k := 5) (x := "_law_script") (CX := fun _ => L2.CX0) rfl (by decide) (by kernel_rfl) ⟨rfl, by decide, by decide⟩ ?F (fun _ _ _ _ _ z => z)
    intro w mg fa h Y G hmg0
    obtain ⟨K, KX, c⟩ := Y
    have hmg : mg ("law" : PySem.Str) = some (.ref fa) := by
      have e : (HandSHeadRun.topDef (OpenLaw.row PySem.Challenge.rw_onereading_k03_partings_counted).prog 28).name = ("law" : PySem.Str) := by kernel_rfl
      rw [← e]
      exact hmg0
    exact ⟨K, KX, Ow.facts KX G hmg c⟩
