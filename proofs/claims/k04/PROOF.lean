import PyProof.Rows.All
import Wide.All
import OpenK.AllK
import Wide.FinOn
import HandS.ForMost
import HandS.ForExc
import HandS.AnyAll
import HandS.SetFor
import HandS.Walk
import HandS.Style
import HandS.Strs
import HandS.IsInst
import HandS.More
import HandS.Flow
import HandS.Codes
import HandS.Defaults
import HandS.HeadHook1
import HandS.HeadHook2
import HandS.HeadHook3
import HandS.HeadHook4
import HandS.HeadWalk
import HandS.Head0
import HandS.Head1
import HandS.Head2
import PyProof.TypeEq
import PyProof.InstEq
import HandS.ClsMeth
import HandS.Sort
import KE.GoesZip
import KE.GoesMore
import KE.GoesEnum
import KE.KDictPairs
import KE.KDictCopyH
import KE.KDictKeyed
import HandS.TupAny
import KE.DataMinMax
import KE.SortData
import HandS.DictComp
import HandS.Exc
import HandS.ExcOwn
import HandS.ExcIs
import HandS.ExcValue
import HandS.RaiseMore
import HandS.FStr
import KE.KStateDown
import PySem.Challenge.RW_keepfew_k04_refused
set_option Elab.async false
set_option linter.all false
set_option maxRecDepth 100000
set_option maxHeartbeats 8000000
/-! Order of texts, and rules of my own over flat lists: remove, count, min, sorted. -/
namespace Kf
open PySem PySem.Spec PyProof.Rows L2

/-! ### texts by letters -/
def ltB (a b : Str) : Bool := decide (a.cps.toList < b.cps.toList)
def leB (a b : Str) : Bool := !ltB b a
theorem ltB_irrefl (a : Str) : ltB a a = false := decide_eq_false (List.lt_irrefl _)
theorem leB_iff {a b : Str} : leB a b = true ↔ a.cps.toList ≤ b.cps.toList := by
  unfold leB ltB
  rw [Bool.not_eq_true', decide_eq_false_iff_not]
  exact List.not_lt
theorem leB_refl (a : Str) : leB a a = true := leB_iff.mpr (List.le_refl _)
theorem leB_trans {a b c : Str} (h : leB a b = true) (k : leB b c = true) : leB a c = true := leB_iff.mpr (List.le_trans (leB_iff.mp h) (leB_iff.mp k))
theorem leB_total (a b : Str) : leB a b = true ∨ leB b a = true := by
  rw [leB_iff, leB_iff]
  exact List.le_total _ _
theorem leB_antisymm {a b : Str} (h : leB a b = true) (k : leB b a = true) : a = b := ext_toList (List.le_antisymm (leB_iff.mp h) (leB_iff.mp k))
theorem ltB_leB {a b : Str} (h : ltB a b = true) : leB a b = true := leB_iff.mpr (List.le_of_lt (of_decide_eq_true h))
theorem leB_ne {a b : Str} (h : leB a b = true) (n : a ≠ b) : ltB a b = true := by
  cases e : ltB a b with
  | true => rfl
  | false =>
    have k : leB b a = true := by unfold leB; rw [e]; rfl
    exact absurd (leB_antisymm h k) n

/-! ### sorted texts -/
def sortS (xs : List Str) : List Str := xs.mergeSort leB
theorem sortS_perm (xs : List Str) : (sortS xs).Perm xs := List.mergeSort_perm xs leB
theorem sortS_pw (xs : List Str) : (sortS xs).Pairwise (fun a b => leB a b = true) :=
  List.pairwise_mergeSort (le := leB) (fun _ _ _ h k => leB_trans h k) (fun a b => by
    rcases leB_total a b with h | h <;> simp [h]) xs
theorem pw_uniq : ∀ {xs ys : List Str}, xs.Perm ys → xs.Pairwise (fun a b => leB a b = true) → ys.Pairwise (fun a b => leB a b = true) → xs = ys := fun {xs ys} p h k =>
  List.Perm.eq_of_pairwise (le := fun a b => leB a b = true) (fun _ _ _ _ h k => leB_antisymm h k) h k p
theorem sortS_of_perm {xs ys : List Str} (p : xs.Perm ys) : sortS xs = sortS ys := pw_uniq (((sortS_perm xs).trans p).trans (sortS_perm ys).symm) (sortS_pw xs) (sortS_pw ys)
theorem risingS_pw : ∀ {p : Str} {l : List Str}, risingS p l = true → (p :: l).Pairwise (fun a b => leB a b = true)
  | p, [], _ => List.pairwise_cons.mpr ⟨fun _ h => absurd h (by simp), List.Pairwise.nil⟩
  | p, x :: r, h => by
    have h2 : (!ltCps x.cps.toList p.cps.toList && risingS x r) = true := h
    rw [Bool.and_eq_true, ltCps_eq] at h2
    have ih := risingS_pw h2.2
    refine List.pairwise_cons.mpr ⟨fun y hy => ?_, ih⟩
    have px : leB p x = true := h2.1
    rcases List.mem_cons.mp hy with e | hy
    · rw [e]; exact px
    · exact leB_trans px ((List.pairwise_cons.mp ih).1 y hy)
theorem sortedS_pw {l : List Str} (h : sortedS l = true) : l.Pairwise (fun a b => leB a b = true) := by
  cases l with
  | nil => exact List.Pairwise.nil
  | cons x r => exact risingS_pw h
theorem sortS_eq {xs ys : List Str} (p : ys.Perm xs) (h : sortedS ys = true) : ys = sortS xs := pw_uniq (p.trans (sortS_perm xs).symm) (sortedS_pw h) (sortS_pw xs)

/-! ### the least text -/
def minS : List Str → Str
  | [] => ⟨#[]⟩
  | [x] => x
  | x :: r => if leB x (minS r) then x else minS r
theorem minS_spec : ∀ {l : List Str}, l ≠ [] → minS l ∈ l ∧ ∀ y ∈ l, leB (minS l) y = true
  | [], h => absurd rfl h
  | [x], _ => ⟨List.mem_cons_self, fun y hy => by rw [List.mem_singleton.mp hy]; exact leB_refl _⟩
  | x :: y :: r, _ => by
    obtain ⟨h1, h2⟩ := minS_spec (l := y :: r) (by simp)
    show (if leB x (minS (y :: r)) then x else minS (y :: r)) ∈ _ ∧ ∀ z ∈ _, leB (if leB x (minS (y :: r)) then x else minS (y :: r)) z = true
    cases e : leB x (minS (y :: r)) with
    | true =>
      refine ⟨List.mem_cons_self, fun z hz => ?_⟩
      rcases List.mem_cons.mp hz with q | hz
      · rw [q]; exact leB_refl _
      · exact leB_trans e (h2 z hz)
    | false =>
      refine ⟨List.mem_cons_of_mem _ h1, fun z hz => ?_⟩
      rcases List.mem_cons.mp hz with q | hz
      · rw [q]
        rcases leB_total x (minS (y :: r)) with w | w
        · rw [e] at w; cases w
        · exact w
      · exact h2 z hz
theorem minS_uniq {l : List Str} {m : Str} (hm : m ∈ l) (h : ∀ y ∈ l, leB m y = true) : m = minS l := by
  obtain ⟨h1, h2⟩ := minS_spec (l := l) (fun e => by rw [e] at hm; cases hm)
  exact leB_antisymm (h _ h1) (h2 _ hm)
theorem minS_mem {l : List Str} (h : l ≠ []) : minS l ∈ l := (minS_spec h).1
theorem argBest_ltS (num : Nat → Str) : ∀ k, argBest (fun i j => ltB (num i) (num j)) k ≤ k ∧ ∀ j, j ≤ k → leB (num (argBest (fun i j => ltB (num i) (num j)) k)) (num j) = true
  | 0 => ⟨Nat.le_refl _, fun j hj => by
    have e : j = 0 := by omega
    subst e
    exact leB_refl _⟩
  | k + 1 => by
    obtain ⟨h1, h2⟩ := argBest_ltS num k
    simp only [argBest]
    by_cases hc : ltB (num (k + 1)) (num (argBest (fun i j => ltB (num i) (num j)) k)) = true
    · rw [if_pos hc]
      refine ⟨Nat.le_refl _, fun j hj => ?_⟩
      rcases Nat.lt_or_ge j (k + 1) with hlt | hge
      · exact leB_trans (ltB_leB hc) (h2 j (by omega))
      · have e : j = k + 1 := by omega
        subst e
        exact leB_refl _
    · rw [if_neg hc]
      refine ⟨by omega, fun j hj => ?_⟩
      rcases Nat.lt_or_ge j (k + 1) with hlt | hge
      · exact h2 j (by omega)
      · have e : j = k + 1 := by omega
        subst e
        unfold leB
        rw [Bool.eq_false_iff.mpr hc]
        rfl
theorem ltS_cmp {prog : Program} {w : World} {A : Around} {Pv : Nat → Value → Prop} (val : Nat → Str) (hval : ∀ i v, Pv i v → ∃ t, v = .str (val i) t) :
    CmpOf prog w A .Lt Pv (fun i j => ltB (val i) (val j)) := fun i j vi vj s Q E hi hj h => by
  obtain ⟨t, rfl⟩ := hval i vi hi
  obtain ⟨u, rfl⟩ := hval j vj hj
  have q := PySem.P.lt_str (prog := prog) (w := w) (A := A) (E := E) (s := s) (x := val i) (y := val j) (t := t) (u := u) (Q := Q) h
  exact q

/-! ### rules -/
section
variable {X : Cx}
theorem erase_mapS : ∀ (l : List Str) (j : Nat), (l.map V.str).eraseIdx j = (l.eraseIdx j).map V.str
  | [], j => by simp
  | a :: r, 0 => by simp
  | a :: r, j + 1 => by
    have ih := erase_mapS r j
    simp [ih]
theorem first_atS : ∀ {ns : List Str} {k : Str}, k ∈ ns → ∃ j, j < ns.length ∧ ns[j]? = some k ∧ (∀ i, i < j → ns[i]? ≠ some k) ∧ ns.eraseIdx j = ns.erase k
  | [], k, h => absurd h (by simp)
  | a :: r, k, h => by
    by_cases e : a = k
    · refine ⟨0, Nat.succ_pos _, by rw [e] <;> rfl, fun i hi => absurd hi (Nat.not_lt_zero _), ?_⟩
      rw [e, List.erase_cons_head] <;> rfl
    · have hr : k ∈ r := by
        rcases List.mem_cons.mp h with z | z
        · exact absurd z.symm e
        · exact z
      obtain ⟨j, h1, h2, h3, h4⟩ := first_atS hr
      refine ⟨j + 1, Nat.succ_lt_succ h1, h2, fun i hi => ?_, ?_⟩
      · cases i with
        | zero =>
          intro z
          exact e (Option.some.inj z)
        | succ i => exact h3 i (Nat.lt_of_succ_lt_succ hi)
      · rw [List.erase_cons_tail (by rw [beq_iff_eq]; exact e), ← h4] <;> rfl
theorem isStr_at (k : Str) : ∀ {vs : List Value} {ns : List Str}, StrsAre vs ns → ∀ (i : Nat) (h : i < vs.length), isStrOf k vs[i] = true ↔ ns[i]? = some k
  | _, _, .nil, i, h => absurd h (by simp)
  | _, _, .cons n t hr, 0, _ => by
    show (n == k) = true ↔ some n = some k
    rw [beq_iff_eq, Option.some_inj]
  | _, _, .cons n t hr, i + 1, h => isStr_at k hr i (Nat.lt_of_succ_lt_succ h)
/-- xs.remove(k), texts, k is there -/
def rRemS : V → List V → Hp → VK → Prop := fun x xs H Q => ∃ (l : Addr) (ns : List Str) (k : Str), x = .ref l ∧ xs = [.str k] ∧ H l = some (.lst (ns.map V.str)) ∧ k ∈ ns ∧ Q .non (upd H l (.lst ((ns.erase k).map V.str)))
theorem mt_removeS : MtM X "list.remove" rRemS := by
  intro pins s σ H x xs v us Q I rx rxs h
  obtain ⟨l, ns, k, rfl, rfl, hH, hk, q⟩ := h
  cases rx
  obtain ⟨u, rfl, ru⟩ := rxs.one
  obtain ⟨t, rfl⟩ := ru
  obtain ⟨z, its, n, r, hl, e⟩ := I.lstM hH
  have hi := Vals.strs r
  rw [List.length_map] at hl z
  obtain ⟨j, j1, j2, j3, j4⟩ := first_atS hk
  have hj : j < its.length := by omega
  refine call_meets PySem.F.slot_list_remove ⟨_, e, rfl⟩ PySem.F.entry_list_remove (PySem.F.args_list_remove_2 _ _)
    (MeetsSeq.list_remove l its.toArray n (.str k t) (isStrOf k) (fun y hy => eq_isStrOf k t hi y (by simpa using hy)) j (by rw [List.size_toArray]; exact hj) ?_ (fun i hi2 hlt => ?_) (by rw [List.size_toArray]; omega)) ⟨e, ?_⟩
  · show isStrOf k its[j] = true
    exact (isStr_at k hi j hj).mpr j2
  · have hi3 : i < its.length := by rw [List.size_toArray] at hi2; exact hi2
    show isStrOf k its[i] = false
    rw [Bool.eq_false_iff]
    intro w
    exact j3 i hlt ((isStr_at k hi i hi3).mp w)
  · have rr := r.eraseIdx j
    rw [erase_mapS, j4] at rr
    refine ⟨.non, _, I.lset (its' := its.eraseIdx j) (t' := s.toks) hH e ?_ rr ?_, rfl, q⟩
    · show its.toArray.eraseIdxIfInBounds j = (its.eraseIdx j).toArray
      rw [List.eraseIdxIfInBounds_toArray]
    · rw [List.length_map]
      have := List.length_erase_le (a := k) (l := ns)
      omega
/-- xs.count(x), flat items -/
def rCntF (K : PySem.W.Frag) : V → List V → Hp → VK → Prop := fun x xs H Q => ∃ (p : Addr) (ys : List V) (y : V), x = .ref p ∧ xs = [y] ∧ SqL K H p ys ∧ flatV y = true ∧ ys.all flatV = true ∧ Q (.int (ys.countP fun z => eqV z y : Nat)) H
theorem countP_eqU {x : V} : ∀ {xs : List V} {us : List Value}, Vals xs us → xs.all flatV = true → us.countP (eqU x) = xs.countP fun y => eqV y x
  | _, _, .nil, _ => rfl
  | y :: xs, u :: us, .cons r t, f => by
    rw [List.all_cons, Bool.and_eq_true] at f
    rw [List.countP_cons, List.countP_cons, eqU_of r f.1, countP_eqU t f.2]
theorem mt_countF : MtR X "list.count" (rCntF X.K) := by
  intro pins s σ H x xs v us Q I rx rxs h
  obtain ⟨p, ys, y, rfl, rfl, hs, fy, fys, q⟩ := h
  cases rx
  obtain ⟨u, rfl, ru⟩ := rxs.one
  obtain ⟨its, rv, ⟨⟨cls, dd, data, sl⟩, n, ho, hc, hdn, hd⟩, hlen⟩ := I.list hs
  simp only at hc hd
  subst hc hd
  refine call_meets PySem.F.slot_list_count ⟨_, ho, rfl⟩ PySem.F.entry_list_count (PySem.F.args_list_count_2 _ _)
    (SeqAt.list_countAt p its.toArray n dd sl u (eqU y)) ⟨ho, fun z hz => mem_eqAt ru fy rv fys z (by simpa using hz), ?_⟩
  refine ⟨.int (ys.countP fun z => eqV z y : Nat), H, I.tok _, ⟨s.toks, ?_⟩, q⟩
  show Value.int ((its.toArray.toList.countP (eqU y) : Nat) : Int) s.toks = Value.int ((ys.countP fun z => eqV z y : Nat) : Int) s.toks
  rw [show its.toArray.toList.countP (eqU y) = _ from countP_eqU rv fys]
/-- min(xs), texts -/
def rMinS (K : PySem.W.Frag) : List V → Hp → VK → Prop := fun vs H Q => ∃ (a : Addr) (ns : List Str), vs = [V.ref a] ∧ SqL K H a (ns.map V.str) ∧ ns ≠ [] ∧ Q (.str (minS ns)) H
theorem strs_len : ∀ {vs : List Value} {ns : List Str}, StrsAre vs ns → vs.length = ns.length
  | _, _, .nil => rfl
  | _, _, .cons n t h => congrArg (· + 1) (strs_len h)
theorem strs_get : ∀ {vs : List Value} {ns : List Str}, StrsAre vs ns → ∀ {i : Nat} {v : Value}, vs[i]? = some v → ∃ t, v = .str (ns.getD i ⟨#[]⟩) t
  | _, _, .nil, i, v, h => by simp at h
  | _, _, .cons n t hr, 0, v, h => ⟨t, (Option.some.inj h).symm⟩
  | _, _, .cons n t hr, i + 1, v, h => by
    obtain ⟨t', e⟩ := strs_get hr (i := i) (v := v) h
    exact ⟨t', e⟩
theorem cr_minS (hc : X.calm = true) : CallR X (.builtin "min") (rMinS X.K) := by
  intro pins s σ H vs us Q I r h
  obtain ⟨a, ns, rfl, hs, hne, q⟩ := h
  obtain ⟨its, rv, hl, _⟩ := I.list hs
  rw [Vals.ref1 r]
  have hi := Vals.strs rv
  have hln := strs_len hi
  have hpos : 0 < its.length := by
    rw [hln]
    exact List.length_pos_iff.mpr hne
  have hll := hl.isList
  have hlt : a < s.heap.objs.size := by obtain ⟨_, e, _⟩ := hll; exact Heap.lt_size e
  have hval : ∀ i v, its.toArray[i]? = some v → ∃ t, v = Value.str (ns.getD i ⟨#[]⟩) t := fun i v e => strs_get hi (by simpa using e)
  refine call_min_walk (wpAny_pyIter_list hll ?_)
  refine ⟨_, _, _, _, _, _, _, rfl, Walks.list (A := X.A.in1) (I.ok.hd hc) _ a (Nat.ne_of_lt hlt) its.toArray, ⟨⟨_, Heap.get?_push_size _ rfl, rfl, rfl⟩, hll.push _⟩, fun b hb => ?_, by simpa using hpos, ltS_cmp (fun i => ns.getD i ⟨#[]⟩) hval, fun v h' tk hP hk => ?_⟩
  · show b < (s.heap.push _).objs.size
    rw [Heap.size_push]
    rcases List.mem_cons.mp hb with e | hb
    · rw [e]
      exact Nat.lt_succ_self _
    · rw [List.mem_singleton.mp hb]
      exact Nat.lt_succ_of_lt hlt
  · obtain ⟨t, rfl⟩ := hval _ v hP
    obtain ⟨b1, b2⟩ := argBest_ltS (fun i => ns.getD i ⟨#[]⟩) (its.toArray.size - 1)
    rw [List.size_toArray] at b1 b2
    have hb : argBest (fun i j => ltB (ns.getD i ⟨#[]⟩) (ns.getD j ⟨#[]⟩)) (its.length - 1) < ns.length := by omega
    have em : ns.getD (argBest (fun i j => ltB (ns.getD i ⟨#[]⟩) (ns.getD j ⟨#[]⟩)) (its.toArray.size - 1)) ⟨#[]⟩ = minS ns := by
      rw [List.size_toArray]
      refine minS_uniq ?_ fun y hy => ?_
      · rw [List.getD_eq_getElem?_getD, List.getElem?_eq_getElem hb]
        exact List.getElem_mem hb
      · obtain ⟨i, hi2, e⟩ := List.mem_iff_getElem.mp hy
        have e2 : ns.getD i ⟨#[]⟩ = y := by rw [List.getD_eq_getElem?_getD, List.getElem?_eq_getElem hi2, ← e] <;> rfl
        rw [← e2]
        exact b2 i (by omega)
    rw [em]
    refine ⟨.str _, H, I.kept (t' := tk) fun b u e => hk b u (fun hmem => ?_) (Heap.get?_push_of_some _ e), ⟨t, rfl⟩, q⟩
    have e1 : b = s.heap.objs.size := List.mem_singleton.mp hmem
    have e2 := Heap.lt_size e
    rw [e1] at e2
    exact absurd e2 (Nat.lt_irrefl _)
/-- sorted(xs), texts: the sorted list -/
def rSortS (K : PySem.W.Frag) : List V → Hp → VK → Prop := fun vs H Q => ∃ (a : Addr) (xs : List Str), vs = [V.ref a] ∧ SqL K H a (xs.map V.str) ∧ xs.length < 64 ∧
  ∀ p : Addr, H p = none → Q (.ref p) (upd H p (.lst ((sortS xs).map V.str)))
theorem cr_sortS : CallR X (.builtin "sorted") (rSortS X.K) := by
  intro pins s σ H vs us Q I r h
  obtain ⟨a, xs, e, hs, h64, q⟩ := h
  refine cr_sortedS pins s σ H vs us Q I r ⟨a, xs, e, hs, h64, fun ys p pm so np => ?_⟩
  rw [sortS_eq pm so]
  exact q p np
end

/-! ### one sign of a name -/
def lowB (c : Nat) : Bool := decide (97 ≤ c) && decide (c ≤ 122)
/-- 'a' <= x <= 'z' -/
theorem elt_low {prog : Program} {w : World} {scope : Scope} {x : Str} {j j2 : Nat} {p1 p2 p3 p4 : Pos} (hk : scope.kind = .function) (hl : scope.names.lookup x = some .local) (hd : (x == ("__debug__" : Str)) = false := by decide) :
    GxR.EltP prog w scope x (.Compare (.Constant (.str "a") j p2) [.LtE, .LtE] [.Name x p1, .Constant (.str "z") j2 p4] p3) lowB := by
  intro cenv A' E' c t s₂ m₂ hs hn hm
  refine Compare_chain ?_ (by rfl)
  refine Calls.Constant_str ?_
  refine chain_link ?_
  have hn' : ({ s₂ with toks := s₂.toks + 1 } : Shared).heap.Ns cenv.locals m₂ := hn
  refine wpAny_Name (wpAny_loadName_local (by rw [hs]; exact hk) (show cenv.scope.names.lookup x = some .local by rw [hs]; exact hl) hn' hm ?_) hd
  refine PySem.P.le_str ?_
  refine wpAny_truthy_bool ?_
  have e1 : (!decide ((⟨#[c]⟩ : Str).cps.toList < ("a" : Str).cps.toList)) = decide (97 ≤ c) := by
    have ea : ("a" : Str).cps.toList = [97] := by decide +kernel
    rw [ea]
    show (!decide ([c] < [97])) = decide (97 ≤ c)
    rw [← ltCps_eq]
    show (!(decide (c < 97) || (c == 97 && false))) = decide (97 ≤ c)
    rw [Bool.and_false, Bool.or_false, ← decide_not]
    exact decide_eq_decide.mpr Nat.not_lt
  rw [e1]
  cases h97 : decide (97 ≤ c) with
  | false => exact ite_ff ⟨by unfold lowB; rw [h97]; rfl, GxR.keeps_tok _ _⟩
  | true =>
    refine ite_tt (chain_last (Calls.Constant_str (PySem.P.le_str ⟨?_, GxR.keeps_tok _ _⟩)))
    have e2 : (!decide (("z" : Str).cps.toList < (⟨#[c]⟩ : Str).cps.toList)) = decide (c ≤ 122) := by
      have ea : ("z" : Str).cps.toList = [122] := by decide +kernel
      rw [ea]
      show (!decide ([122] < [c])) = decide (c ≤ 122)
      rw [← ltCps_eq]
      show (!(decide (122 < c) || (122 == c && false))) = decide (c ≤ 122)
      rw [Bool.and_false, Bool.or_false, ← decide_not]
      exact decide_eq_decide.mpr Nat.not_lt
    rw [e2]
    unfold lowB
    rw [h97]
    rfl
/-- a name -/
def IsName (z : Str) : Prop := 1 ≤ z.length ∧ z.length ≤ 8 ∧ z.cps.toList.all lowB = true
end Kf

/-! What is kept, defs by what they promise, and calls. -/
namespace Kf
open PySem PySem.Spec PyProof.Rows L2

/-! ### what is kept: all but the table at tb and the objects of S -/
def notTbl : HO → Bool
  | .tbl _ => false
  | _ => true
structure Kp (tb : Addr) (S : List Addr) (H H' : Hp) : Prop where
  keep : ∀ b o, H b = some o → notTbl o = true → b ∉ S → H' b = some o
  tab : GxR.TabG H tb → GxR.TabG H' tb
  free : ∀ b, H' b = none → H b = none
theorem Kp.refl {tb : Addr} {S : List Addr} (H : Hp) : Kp tb S H H := ⟨fun _ _ h _ _ => h, fun h => h, fun _ h => h⟩
theorem Kp.trans {tb : Addr} {S : List Addr} {H H1 H2 : Hp} (a : Kp tb S H H1) (b : Kp tb S H1 H2) : Kp tb S H H2 :=
  ⟨fun c o h n m => b.keep c o (a.keep c o h n m) n m, fun h => b.tab (a.tab h), fun c h => a.free c (b.free c h)⟩
theorem Kp.mono {tb : Addr} {S S' : List Addr} {H H1 : Hp} (a : Kp tb S H H1) (h : ∀ x ∈ S, x ∈ S') : Kp tb S' H H1 :=
  ⟨fun c o h' n m => a.keep c o h' n (fun z => m (h c z)), a.tab, a.free⟩
theorem Kp.nil {tb : Addr} {S : List Addr} {H H1 : Hp} (a : Kp tb [] H H1) : Kp tb S H H1 := a.mono fun _ h => absurd h (by simp)
theorem Kp.get {tb : Addr} {S : List Addr} {H H1 : Hp} (a : Kp tb S H H1) {b : Addr} {o : HO} (h : H b = some o) (n : notTbl o = true := by rfl) (m : b ∉ S := by simp) : H1 b = some o := a.keep b o h n m
theorem free_upd {H : Hp} {p b : Addr} {o : HO} (h : upd H p o b = none) : H b = none := by
  by_cases e : b = p
  · rw [e, upd_same] at h
    cases h
  · rw [upd_ne e] at h
    exact h
/-- a new object -/
theorem Kp.new {tb : Addr} {S : List Addr} {H : Hp} {p : Addr} {o : HO} (h : H p = none) : Kp tb S H (upd H p o) :=
  ⟨fun b u e _ _ => by rw [upd_ne (ne_of_none e h)]; exact e, fun ⟨ps, e, t⟩ => ⟨ps, by rw [upd_ne (ne_of_none e h)]; exact e, t⟩, fun _ => free_upd⟩
theorem Kp.put {tb : Addr} {S : List Addr} {H : Hp} {p : Addr} {o u : HO} (h : H p = some u) (n : notTbl u = true := by rfl) (hp : p ∈ S := by simp) : Kp tb S H (upd H p o) :=
  ⟨fun b v e _ m => by rw [upd_ne (fun z => m (by rw [z]; exact hp))]; exact e, fun ⟨ps, e, t⟩ => ⟨ps, by
    rw [upd_ne (fun z => by rw [z, h] at e; cases e; cases n)]
    exact e, t⟩, fun _ => free_upd⟩
theorem Kp.step {tb : Addr} {S : List Addr} {H H1 : Hp} {p : Addr} {o : HO} (a : Kp tb S H H1) (h : H1 p = none) : Kp tb S H (upd H1 p o) := a.trans (Kp.new h)
/-- a store to what is new since H -/
theorem Kp.own {tb : Addr} {S : List Addr} {H H1 : Hp} {p : Addr} {o u : HO} (a : Kp tb S H H1) (h0 : H p = none) (h : H1 p = some u) (n : notTbl u = true := by rfl) : Kp tb S H (upd H1 p o) :=
  ⟨fun b v e m k => by rw [upd_ne (ne_of_none e h0)]; exact a.keep b v e m k, fun t => (Kp.put (S := [p]) h n).tab (a.tab t), fun b e => a.free b (free_upd e)⟩
theorem Kp.seq {tb : Addr} {S : List Addr} {K : PySem.W.Frag} {H H' : Hp} {a : Addr} {xs : List V} (e : Kp tb S H H') (h : SqL K H a xs) (m : a ∉ S := by simp) : SqL K H' a xs := by
  rcases h with (h | ⟨o, h⟩) | h
  · exact .inl (.inl (e.get h rfl m))
  · exact .inl (.inr ⟨o, e.get h rfl m⟩)
  · exact .inr h
theorem tab_new {tb : Addr} {H : Hp} {p : Addr} {o : HO} (t : GxR.TabG H tb) (h : H p = none) : GxR.TabG (upd H p o) tb := (Kp.new (S := []) h).tab t
/-- the table may have grown -/
theorem Kp.tabbed {tb : Addr} {S : List Addr} {H H' : Hp} (t : GxR.TabG H tb) (h : GxR.Tabbed tb H H') : Kp tb S H H' := by
  obtain ⟨h1, h2⟩ := h
  refine ⟨fun b o e n _ => ?_, fun _ => h1, fun b e => ?_⟩
  · rw [h2 b (fun z => ?_)]
    · exact e
    · obtain ⟨ps, e2, _⟩ := t
      rw [z, e2] at e
      cases e
      cases n
  · by_cases z : b = tb
    · obtain ⟨ps, e2, _⟩ := h1
      rw [z, e2] at e
      cases e
    · rw [h2 b z] at e
      exact e

/-! ### defs of the text -/
abbrev FnP (K : PySem.W.Frag) (x qual : Str) (st : Stmt) (f : Addr) (fd : FuncData) : Prop := FunD K x qual (defArgs st) (defBody st) (defScope st) [] [] f fd
section
variable {P : Program} {w : World} {K : PySem.W.Frag} {mg : Str → Option Value} {base : Heap}
/-- the module's name x is a def that keeps its promise -/
def Glob (P : Program) (w : World) (K : PySem.W.Frag) (mg : Str → Option Value) (base : Heap) (CX : CXT) (k : Nat) (x : Str) (ps : List Str) (sp : Sp) : Prop :=
  ∃ f fd, mg x = some (.ref f) ∧ PySem.W.keepIn K (.ref f) = true ∧ Binds K fd ps [] ∧ FnOk P w K mg base CX k f fd ps sp
/-- the method m of the class at C -/
def MethOk (P : Program) (w : World) (K : PySem.W.Frag) (mg : Str → Option Value) (base : Heap) (CX : CXT) (k : Nat) (C : Addr) (m : Str) (ps : List Str) (sp : Sp) : Prop :=
  ∃ f fd, Cls K C ∧ Meth K C m f ∧ Binds K fd ps [] ∧ FnOk P w K mg base CX k f fd ps sp
/-- the class x is made -/
def MakeOk (P : Program) (w : World) (K : PySem.W.Frag) (mg : Str → Option Value) (base : Heap) (CX : CXT) (k : Nat) (x : Str) (C : Addr) (ps : List Str) (sp : Sp) : Prop :=
  ∃ f fd, mg x = some (.ref C) ∧ Mk K C f ∧ Binds K fd ps [] ∧ FnOk P w K mg base CX k f fd ps sp
theorem Glob.mono {CX : CXT} {j k : Nat} {x : Str} {ps : List Str} {sp : Sp} (G : Glob P w K mg base CX j x ps sp) (h : j ≤ k) : Glob P w K mg base CX k x ps sp := by
  obtain ⟨f, fd, a, b, c, d⟩ := G
  exact ⟨f, fd, a, b, c, d.mono h⟩
theorem MethOk.mono {CX : CXT} {j k : Nat} {C : Addr} {x : Str} {ps : List Str} {sp : Sp} (G : MethOk P w K mg base CX j C x ps sp) (h : j ≤ k) : MethOk P w K mg base CX k C x ps sp := by
  obtain ⟨f, fd, a, b, c, d⟩ := G
  exact ⟨f, fd, a, b, c, d.mono h⟩
theorem MakeOk.mono {CX : CXT} {j k : Nat} {C : Addr} {x : Str} {ps : List Str} {sp : Sp} (G : MakeOk P w K mg base CX j x C ps sp) (h : j ≤ k) : MakeOk P w K mg base CX k x C ps sp := by
  obtain ⟨f, fd, a, b, c, d⟩ := G
  exact ⟨f, fd, a, b, c, d.mono h⟩
theorem glob_of {CX : CXT} {k : Nat} {x qual : Str} {st : Stmt} {f : Addr} {fd : FuncData} {ps : List Str} {sp : Sp} (F : FnP K x qual st f fd) (hm : mg x = some (.ref f))
    (hb : ∀ (kV doc pm : Value) (an : Option Addr) (cdv ct : Value) (us : List Value), us.length = ps.length → bindArgs (PySem.W.fnOf x qual (defArgs st) (defBody st) (defScope st) .none kV doc pm an cdv ct) ⟨us, []⟩ = pure (ps.zip us))
    (G : FnOk P w K mg base CX k f fd ps sp) : Glob P w K mg base CX k x ps sp := by
  exact ⟨f, fd, hm, F.kp, FunD.bindsN F hb, G⟩
theorem binds_of {x qual : Str} {st : Stmt} {f : Addr} {fd : FuncData} {ps : List Str} (F : FnP K x qual st f fd)
    (hb : ∀ (kV doc pm : Value) (an : Option Addr) (cdv ct : Value) (us : List Value), us.length = ps.length → bindArgs (PySem.W.fnOf x qual (defArgs st) (defBody st) (defScope st) .none kV doc pm an cdv ct) ⟨us, []⟩ = pure (ps.zip us)) : Binds K fd ps [] := by
  exact FunD.bindsN F hb
theorem ok0 {CX : CXT} {x qual : Str} {st : Stmt} {f : Addr} {fd : FuncData} {N ps : List Str} {k : Nat} {sp : Sp} (F : FnP K x qual st f fd) (S : FnScope N ps (defScope st)) (len : ∀ vs H Q E, sp vs H Q E → vs.length = ps.length)
    (hbody : ∀ (cdv : Value) (A : Around) (outer : List Env) (s : Shared) (H : Hp) (vs : List V) (Q : VK) (E : XK), Room k (A.deeper (envOfC qual (defScope st) s.heap.objs.size f cdv)) → sp vs H Q E →
      ∃ t, PSs (cxOf CX P w K mg base N qual (defScope st) f cdv A outer s H E).nox (defBody st) t ∧ t { nx := fun _ H' => Q .non H', rt := Q } (start N vs) H) : FnOk P w K mg base CX (k + 1) f fd ps sp :=
  FunD.ok F S len fun cdv A outer s H vs Q E hr hsp => by
    obtain ⟨t, h, q⟩ := hbody cdv A outer s H vs Q E hr hsp
    exact ⟨t, h.nox, q⟩
/-- as FunD.ok, with the code object told -/
theorem okC {CX : CXT} {x qual : Str} {st : Stmt} {f : Addr} {fd : FuncData} {N ps : List Str} {k : Nat} {sp : Sp} {p : He.Defn} (hp : He.fAd K p = f) (F : FnP K x qual st f fd) (S : FnScope N ps (defScope st)) (len : ∀ vs H Q E, sp vs H Q E → vs.length = ps.length)
    (hbody : ∀ (cdv : Value) (A : Around) (outer : List Env) (s : Shared) (H : Hp) (vs : List V) (Q : VK) (E : XK), cdv = .ref (He.codeOf K p) → Room k (A.deeper (envOfC qual (defScope st) s.heap.objs.size f cdv)) → sp vs H Q E →
      ∃ t, PSs (cxOf CX P w K mg base N qual (defScope st) f cdv A outer s H E) (defBody st) t ∧ t { nx := fun _ H' => Q .non H', rt := Q } (start N vs) H) : FnOk P w K mg base CX (k + 1) f fd ps sp := by
  obtain ⟨oc, od, dV, kV, doc, pm, an, cdv, ct, osl, rfl, lk, hcd, _, _⟩ := F.ex
  obtain ⟨c, hc⟩ := He.codeIn_ref hcd
  have e : cdv = .ref (He.codeOf K p) := by
    rw [He.codeOf_eq (p := p) (by rw [hp]; exact lk) hc]
    exact hc
  exact fn_of lk hcd S len fun A outer s H vs Q E hr hsp => hbody cdv A outer s H vs Q E e hr hsp
end
section
variable {X : Cx} {CX : CXT} {k : Nat} {C : Addr} {ps : List Str} {sp : Sp} {E : XK} {x m : Str} {p pos apos : Pos} {e o : Expr} {es : List Expr} {ta : TE} {t : TA}
theorem pe_callG (G : Glob X.prog X.w X.K X.mg X.base CX k x ps sp) (hr : Room k X.A) (hg : Gl X x) (hx : Passes CX X E) (ha : PA X (e :: es) t) (hdb : (x == ("__debug__" : Str)) = false := by decide)
    (he : starEach (e :: es) X.env = (false, eval e X.env) :: starEach es X.env := by rfl) (hpl : (backTo pos (starEach es X.env)).any (·.1) = false := by rfl) : PE X (.Call (.Name x p) (e :: es) [] pos) (tCall sp [] E t) := by
  obtain ⟨f, fd, hm, kp, b, F⟩ := G
  exact pe_call F hr hg hm kp b .nil hx ha hdb he hpl
theorem pe_methG {pl : Sem Bool} (ho : PE X o ta) (G : MethOk X.prog X.w X.K X.mg X.base CX k C m ps sp) (hr : Room k X.A) (hx : Passes CX X E) (ha : PA X (e :: es) t)
    (hst : starEach (e :: es) X.env = (false, eval e X.env) :: starEach es X.env := by rfl) (hpl : (backTo pos (starEach es X.env)).any (·.1) = false := by rfl)
    (ht : eval (.Call (.Attribute o m apos) (e :: es) [] pos) X.env = (do
      let ov ← eval o X.env
      standAt apos.atName
      let (f, first) ← holding [ov] (getMethod ov m pl)
      callWith pos f first (backTo pos (starEach (e :: es) X.env)) (backToKw pos (keywordEach [] X.env))) := by rfl) :
    PE X (.Call (.Attribute o m apos) (e :: es) [] pos) (tMeth C m sp [] E ta t) := by
  obtain ⟨f, fd, c, hm, b, F⟩ := G
  exact pe_meth ho c hm F hr b .nil hx ha hst hpl ht
theorem pe_meth0G {pl : Sem Bool} (ho : PE X o ta) (G : MethOk X.prog X.w X.K X.mg X.base CX k C m ps sp) (hr : Room k X.A) (hx : Passes CX X E)
    (ht : eval (.Call (.Attribute o m apos) [] [] pos) X.env = (do
      let ov ← eval o X.env
      standAt apos.atName
      let (f, first) ← holding [ov] (getMethod ov m pl)
      callWith pos f first (backTo pos (starEach [] X.env)) (backToKw pos (keywordEach [] X.env))) := by rfl) :
    PE X (.Call (.Attribute o m apos) [] [] pos) (tMeth C m sp [] E ta tNil) := by
  obtain ⟨f, fd, c, hm, b, F⟩ := G
  exact pe_meth0 ho c hm F hr b .nil hx ht
theorem pe_makeG (G : MakeOk X.prog X.w X.K X.mg X.base CX k x C ps sp) (hr : Room (k + 1) X.A) (hg : Gl X x) (hx : Passes CX X E) (ha : PA X (e :: es) t) (hdb : (x == ("__debug__" : Str)) = false := by decide)
    (he : starEach (e :: es) X.env = (false, eval e X.env) :: starEach es X.env := by rfl) (hpl : (backTo pos (starEach es X.env)).any (·.1) = false := by rfl) : PE X (.Call (.Name x p) (e :: es) [] pos) (tMake C sp [] E t) := by
  obtain ⟨f, fd, hm, M, b, F⟩ := G
  exact pe_make M F hr hg hm b .nil hx ha hdb he hpl
end

/-! ### comprehensions that gather -/
def LcI (tb : Addr) (H1 : Hp) (D : Addr) (R : Nat → List V → Prop) (i : Nat) (H : Hp) : Prop := ∃ acc, R i acc ∧ Kp tb [] H1 H ∧ H D = some (.lst acc)
theorem LcI.start {tb : Addr} {H1 : Hp} {D : Addr} {R : Nat → List V → Prop} (hD : H1 D = none) (h : R 0 []) : LcI tb H1 D R 0 (upd H1 D (.lst [])) := ⟨[], h, Kp.new hD, upd_same⟩
theorem LcI.next {tb : Addr} {H1 H H4 : Hp} {D : Addr} {R : Nat → List V → Prop} {i : Nat} {acc : List V} {y : V} (hD : H1 D = none) (kp : Kp tb [] H1 H) (hd : H D = some (.lst acc)) (k2 : Kp tb [] H H4) (hl : acc.length < sizeLine) (hr : R (i + 1) (acc ++ [y])) :
    ∃ acc, H4 D = some (.lst acc) ∧ acc.length < sizeLine ∧ LcI tb H1 D R (i + 1) (upd H4 D (.lst (acc ++ [y]))) := by
  have h4 : H4 D = some (.lst acc) := k2.get hd
  exact ⟨acc, h4, hl, acc ++ [y], hr, (kp.trans k2).own hD h4, upd_same⟩
theorem small_of {n m : Nat} (h : n ≤ m) (hm : m < sizeLine := by decide) : n < sizeLine := Nat.lt_of_le_of_lt h hm
theorem get_mapI {ns : List Int} {i : Nat} {y : V} (hi : (ns.map V.int)[i]? = some y) : ∃ z, ns[i]? = some z ∧ y = V.int z := by
  rw [List.getElem?_map] at hi
  cases e : ns[i]? with
  | none =>
    rw [e] at hi
    cases hi
  | some z =>
    rw [e] at hi
    exact ⟨z, rfl, (Option.some.inj hi).symm⟩
theorem get_mapS {ns : List Str} {i : Nat} {y : V} (hi : (ns.map V.str)[i]? = some y) : ∃ z, ns[i]? = some z ∧ y = V.str z := by
  rw [List.getElem?_map] at hi
  cases e : ns[i]? with
  | none =>
    rw [e] at hi
    cases hi
  | some z =>
    rw [e] at hi
    exact ⟨z, rfl, (Option.some.inj hi).symm⟩

theorem ite_else {c A B : Prop} [Decidable c] (hB : B) (hA : B → c → A) : if c then A else B := by
  by_cases h : c
  · rw [if_pos h]
    exact hA hB h
  · rw [if_neg h]
    exact hB
theorem ite_then {c A B : Prop} [Decidable c] (hA : A) (hB : A → ¬ c → B) : if c then A else B := by
  by_cases h : c
  · rw [if_pos h]
    exact hA
  · rw [if_neg h]
    exact hB hA h

/-! ### letters -/
def Low (z : Str) : Prop := z.cps.toList.all lowB = true
theorem low_app {a b : Str} (ha : Low a) (hb : Low b) : Low (a ++ b) := by
  unfold Low
  rw [Str.cps_append, Array.toList_append, List.all_append, Bool.and_eq_true]
  exact ⟨ha, hb⟩
theorem len_app (a b : Str) : (a ++ b).length = a.length + b.length := Str.length_append a b
theorem cut_list (z : Str) (lo hi : Option Int) : (cutS z lo hi).cps.toList = (z.cps.toList.drop (HT.sIx z.length 0 lo)).take (HT.sIx z.length z.length hi - HT.sIx z.length 0 lo) := by
  unfold cutS
  simp
theorem low_cut {z : Str} (h : Low z) (lo hi : Option Int) : Low (cutS z lo hi) := by
  unfold Low at *
  rw [cut_list]
  rw [List.all_eq_true] at *
  exact fun c hc => h c (List.mem_of_mem_drop (List.mem_of_mem_take hc))
theorem len_cut (z : Str) (lo hi : Option Int) : (cutS z lo hi).length = min (HT.sIx z.length z.length hi - HT.sIx z.length 0 lo) (z.length - HT.sIx z.length 0 lo) := by
  have e : (cutS z lo hi).length = (cutS z lo hi).cps.toList.length := by simp [Str.length]
  have e2 : z.cps.toList.length = z.length := by simp [Str.length]
  rw [e, cut_list, List.length_take, List.length_drop, e2]
theorem sIx_pos {n d : Nat} {v : Int} (h : 0 ≤ v) : HT.sIx n d (some v) = min v.toNat n := by
  show (if v < 0 then (v + (n : Int)).toNat else min v.toNat n) = _
  rw [if_neg (by omega)]
theorem isName_of {z : Str} (h1 : 1 ≤ z.length) (h8 : z.length ≤ 8) (h : Low z) : IsName z := ⟨h1, h8, h⟩
theorem low_nil : Low ("" : Str) := by
  show ("" : Str).cps.toList.all lowB = true
  decide +kernel
theorem join_low : ∀ (ys : List Str), (∀ y ∈ ys, Low y) → Low (Str.join ("" : Str) ys)
  | [], _ => rfl
  | [x], h => h x List.mem_cons_self
  | x :: y :: r, h => by
    show Low (x ++ ("" : Str) ++ Str.join ("" : Str) (y :: r))
    exact low_app (low_app (h x List.mem_cons_self) low_nil) (join_low (y :: r) fun z hz => h z (List.mem_cons_of_mem _ hz))
theorem join_len : ∀ (ys : List Str), (∀ y ∈ ys, y.length = 1) → (Str.join ("" : Str) ys).length = ys.length
  | [], _ => by decide +kernel
  | [x], h => h x List.mem_cons_self
  | x :: y :: r, h => by
    show (x ++ ("" : Str) ++ Str.join ("" : Str) (y :: r)).length = _
    rw [len_app, len_app, join_len (y :: r) fun z hz => h z (List.mem_cons_of_mem _ hz), h x List.mem_cons_self]
    have e : ("" : Str).length = 0 := by decide +kernel
    rw [e]
    simp only [List.length_cons]
    omega
theorem tjoin_eq (ys : List Str) : Txt.join ("" : Str) ys = Str.join ("" : Str) ys := StrLaws.glued_eq_join _ _
theorem letter_at : ∀ n : Nat, n < 26 → ∃ c, ("abcdefghijklmnopqrstuvwxyz" : Str).cps.toList[n]? = some c ∧ lowB c = true := by
  intro n hn
  have h : ∀ m : Fin 26, ∃ c, ("abcdefghijklmnopqrstuvwxyz" : Str).cps.toList[m.val]? = some c ∧ lowB c = true := by
    have e : ("abcdefghijklmnopqrstuvwxyz" : Str).cps.toList = (List.range 26).map (· + 97) := by decide +kernel
    rw [e]
    intro m
    refine ⟨m.val + 97, ?_, ?_⟩
    · rw [List.getElem?_map, List.getElem?_range m.isLt]
      rfl
    · unfold lowB
      have := m.isLt
      rw [decide_eq_true (by omega), decide_eq_true (by omega)]
      rfl
  exact h ⟨n, hn⟩
theorem letter_atI {i : Int} (h0 : 0 ≤ i) (h : i < 26) : ∃ c, atI ("abcdefghijklmnopqrstuvwxyz" : Str).cps.toList i = some c ∧ lowB c = true := by
  obtain ⟨c, h1, h2⟩ := letter_at i.toNat (by omega)
  refine ⟨c, ?_, h2⟩
  have e : i = (i.toNat : Int) := by omega
  rw [e]
  exact atI_nat h1
theorem low_one {c : Nat} (h : lowB c = true) : Low ⟨#[c]⟩ := by
  show [c].all lowB = true
  rw [List.all_cons, h]
  rfl

/-! ### equal lists of texts -/
def OkS (zs : List Str) : Prop := ∀ z ∈ zs, PyData.strOk z = true
theorem isName_ok {z : Str} (h : IsName z) : PyData.strOk z = true := by
  obtain ⟨_, _, h⟩ := h
  unfold PyData.strOk
  rw [← Array.all_toList]
  rw [List.all_eq_true] at h ⊢
  intro c hc
  have := h c hc
  unfold lowB at this
  rw [Bool.and_eq_true, decide_eq_true_eq, decide_eq_true_eq] at this
  exact decide_eq_true (by omega)
def dS (zs : List Str) : PyData := .list (zs.map PyData.str)
theorem dpAllS {K : PySem.W.Frag} {H : Hp} : ∀ zs : List Str, DpAll K H (zs.map V.str) (zs.map PyData.str)
  | [] => .nil
  | z :: r => .cons (.str z) (dpAllS r)
theorem dpS {K : PySem.W.Frag} {H : Hp} {a : Addr} {zs : List Str} (h : SqL K H a (zs.map V.str)) : Dp K H (.ref a) (dS zs) := .lst h (dpAllS zs)
theorem layAllS : ∀ {zs : List Str}, OkS zs → PyData.canLayAll0 (zs.map PyData.str) = true
  | [], _ => rfl
  | z :: r, h => by
    have h1 := h z List.mem_cons_self
    have h2 := layAllS (zs := r) fun y hy => h y (List.mem_cons_of_mem _ hy)
    show (PyData.canLay0 (.str z) && PyData.canLayAll0 (r.map PyData.str)) = true
    rw [h2, Bool.and_true]
    exact h1
theorem depthAllS : ∀ zs : List Str, PyData.depthAll (zs.map PyData.str) = 0
  | [] => rfl
  | z :: r => by
    show max (PyData.depth (.str z)) (PyData.depthAll (r.map PyData.str)) = 0
    rw [depthAllS r]
    rfl
theorem shS {zs : List Str} (h : OkS zs) : SeqAt.shaped (dS zs) = true := by
  unfold SeqAt.shaped dS
  rw [Bool.and_eq_true]
  refine ⟨layAllS h, decide_eq_true ?_⟩
  show PyData.depthAll (zs.map PyData.str) + 1 ≤ 64
  rw [depthAllS]
  decide
theorem eqvAllS : ∀ xs ys : List Str, PyData.eqvAll (xs.map PyData.str) (ys.map PyData.str) = decide (xs = ys)
  | [], [] => rfl
  | [], _ :: _ => rfl
  | _ :: _, [] => rfl
  | x :: r, y :: t => by
    show (PyData.eqv (.str x) (.str y) && PyData.eqvAll (r.map PyData.str) (t.map PyData.str)) = _
    rw [eqvAllS r t]
    show ((x == y) && decide (r = t)) = decide (x :: r = y :: t)
    by_cases e : x = y
    · subst e
      by_cases e2 : r = t
      · subst e2; simp
      · rw [decide_eq_false e2, decide_eq_false (fun z => e2 (List.cons.inj z).2), Bool.and_false]
    · rw [beq_eq_false_iff_ne.mpr e, decide_eq_false (fun z => e (List.cons.inj z).1), Bool.false_and]
def rEqS (K : PySem.W.Frag) : R2 := fun x y H Q => ∃ a b xs ys, x = .ref a ∧ y = .ref b ∧ SqL K H a (xs.map V.str) ∧ SqL K H b (ys.map V.str) ∧ OkS xs ∧ OkS ys ∧ Q (.bl (decide (xs = ys))) H
def rNeS (K : PySem.W.Frag) : R2 := fun x y H Q => ∃ a b xs ys, x = .ref a ∧ y = .ref b ∧ SqL K H a (xs.map V.str) ∧ SqL K H b (ys.map V.str) ∧ OkS xs ∧ OkS ys ∧ Q (.bl (!decide (xs = ys))) H
theorem op_eqS {X : Cx} (hu : X.A.units + 64 < cLine) : OpR X (compareOp .Eq) (rEqS X.K) := by
  intro pins s σ H x y v u Q I rx ry h
  obtain ⟨a, b, xs, ys, rfl, rfl, ha, hb, ox, oy, q⟩ := h
  exact op_eqD hu pins s σ H _ _ v u Q I rx ry ⟨dS xs, dS ys, dpS ha, dpS hb, shS ox, shS oy, by
    show Q (.bl (PyData.eqvAll (xs.map PyData.str) (ys.map PyData.str))) H
    rw [eqvAllS]; exact q⟩
theorem op_neS {X : Cx} (hu : X.A.units + 64 < cLine) : OpR X (compareOp .NotEq) (rNeS X.K) := by
  intro pins s σ H x y v u Q I rx ry h
  obtain ⟨a, b, xs, ys, rfl, rfl, ha, hb, ox, oy, q⟩ := h
  exact op_neD hu pins s σ H _ _ v u Q I rx ry ⟨dS xs, dS ys, dpS ha, dpS hb, shS ox, shS oy, by
    show Q (.bl (!PyData.eqvAll (xs.map PyData.str) (ys.map PyData.str))) H
    rw [eqvAllS]; exact q⟩
theorem okS_names {zs : List Str} (h : ∀ z ∈ zs, IsName z) : OkS zs := fun z hz => isName_ok (h z hz)

/-! ### cuts of lists -/
theorem cutV_map {f : Str → V} (xs : List Str) (lo hi : Option Int) : ∃ ys : List Str, cutV (xs.map f) lo hi = ys.map f ∧ (∀ y ∈ ys, y ∈ xs) ∧ ys.length = (cutV (xs.map f) lo hi).length := by
  unfold cutV
  rw [← List.map_drop, ← List.map_take]
  exact ⟨_, rfl, fun y hy => List.mem_of_mem_drop (List.mem_of_mem_take hy), by simp only [List.length_map]⟩
theorem cutV_len (xs : List V) (lo hi : Option Int) : (cutV xs lo hi).length = min (HT.sIx xs.length xs.length hi - HT.sIx xs.length 0 lo) (xs.length - HT.sIx xs.length 0 lo) := by
  unfold cutV
  rw [List.length_take, List.length_drop]

/-! ### new instances; stores to what is new -/
theorem Kp.made {tb x dx C : Addr} {H H' : Hp} (hx : H x = none) (hdx : H dx = none) (kp : Kp tb [x] (upd (upd H dx (.own x)) x (.ins C dx [])) H') : Kp tb [] H H' := by
  refine ⟨fun b o e n _ => ?_, fun t => ?_, fun b e => free_upd (free_upd (kp.free b e))⟩
  · have e1 : (upd (upd H dx (.own x)) x (.ins C dx [])) b = some o := by
      rw [upd_ne (ne_of_none e hx), upd_ne (ne_of_none e hdx)]
      exact e
    refine kp.keep b o e1 n fun z => ?_
    exact ne_of_none e hx (List.mem_singleton.mp z)
  · refine kp.tab ?_
    obtain ⟨ps, e, tr⟩ := t
    exact ⟨ps, by rw [upd_ne (ne_of_none e hx), upd_ne (ne_of_none e hdx)]; exact e, tr⟩
theorem Kp.transN {tb : Addr} {S : List Addr} {H H1 H2 : Hp} (a : Kp tb [] H H1) (b : Kp tb S H1 H2) (hS : ∀ x ∈ S, H x = none) : Kp tb [] H H2 :=
  ⟨fun c o e n m => b.keep c o (a.keep c o e n m) n (fun z => by rw [hS c z] at e; cases e), fun t => b.tab (a.tab t), fun c e => a.free c (b.free c e)⟩
/-! ### two sides -/
def sel {α : Type} (x y : α) (b : Bool) : α := if b then y else x
theorem disj_fix {rl sl ol tl d0 d1 p0 p1 l0 l1 lo0 lo1 a0 a1 : Addr} (nd : [tl, a1, a0, ol, lo1, d1, lo0, d0, p1, l1, p0, l0, sl, rl].Nodup) :
    (∀ b, ∀ x ∈ [rl, sl, ol, tl, d0, d1], x ∉ [sel p0 p1 b, sel l0 l1 b, sel lo0 lo1 b, sel a0 a1 b]) ∧ ∀ b, ∀ x ∈ [sel p0 p1 (!b), sel l0 l1 (!b), sel lo0 lo1 (!b), sel a0 a1 (!b)], x ∉ [sel p0 p1 b, sel l0 l1 b, sel lo0 lo1 b, sel a0 a1 b] := by
  simp only [List.nodup_cons, List.mem_cons, List.not_mem_nil, or_false, not_or] at nd
  constructor
  · intro b x hx
    simp only [List.mem_cons, List.not_mem_nil, or_false] at hx ⊢
    cases b <;> simp only [sel, if_true, Bool.false_eq_true, if_false] <;> rintro (e | e | e | e) <;> rcases hx with f | f | f | f | f | f <;> (rw [f] at e; simp [e] at nd)
  · intro b x hx
    simp only [List.mem_cons, List.not_mem_nil, or_false] at hx ⊢
    cases b <;> simp only [sel, if_true, Bool.false_eq_true, if_false, Bool.not_true, Bool.not_false] at hx ⊢ <;> rintro (e | e | e | e) <;> rcases hx with f | f | f | f <;> (rw [f] at e; simp [e] at nd)
theorem disj_self {rl sl ol tl d0 d1 p0 p1 l0 l1 lo0 lo1 a0 a1 : Addr} (nd : [tl, a1, a0, ol, lo1, d1, lo0, d0, p1, l1, p0, l0, sl, rl].Nodup) (b : Bool) :
    (sel p0 p1 b ≠ sel lo0 lo1 b ∧ sel l0 l1 b ≠ sel lo0 lo1 b ∧ sel a0 a1 b ≠ sel lo0 lo1 b) ∧ (sel p0 p1 b ≠ sel a0 a1 b ∧ sel l0 l1 b ≠ sel a0 a1 b) := by
  simp only [List.nodup_cons, List.mem_cons, List.not_mem_nil, or_false, not_or] at nd
  cases b <;> simp only [sel, if_true, Bool.false_eq_true, if_false] <;> refine ⟨⟨?_, ?_, ?_⟩, ?_, ?_⟩ <;> intro e <;> simp [e] at nd
end Kf

/-! Types compared by !=. -/
namespace Kf
open PySem PySem.Spec PyProof.Rows L2
open PySem.TypeEq
theorem slot_tyne : Slot "type" (cmpInfo .NotEq).2.1 "object.__ne__" :=
  .of (owner := "object") (n := "__ne__") (by rw [typeLookup_type, builtinLookup_eq_fast]; kernel_rfl) (by decide +kernel) (by decide +kernel) (by decide +kernel)
    (by first | exact .inl (by decide +kernel) | exact .inr (by decide +kernel)) (by rw [isSubtype_type]; kernel_rfl)
theorem slot_tyneR : Slot "type" (cmpInfo .NotEq).2.2 "object.__ne__" :=
  .of (owner := "object") (n := "__ne__") (by rw [typeLookup_type, builtinLookup_eq_fast]; kernel_rfl) (by decide +kernel) (by decide +kernel) (by decide +kernel)
    (by first | exact .inl (by decide +kernel) | exact .inr (by decide +kernel)) (by rw [isSubtype_type]; kernel_rfl)
section
variable {prog : Program} {w : World} {A : Around} {E : Value → Shared → Prop} {s : Shared}
theorem tyne_entry_same {X : String} (hX : ∀ s' : Shared, s'.TypeIs (.type X) "type") {Q : Fin → Shared → Prop} (hu : A.units < cLine) (h : Q (.done (.ret (.bool false))) s) :
    wpAny (model prog w) A (Builtin.«object.__ne__» ⟨[.type X, .type X], []⟩) Q E s := by
  unfold Builtin.«object.__ne__»
  repeat (first
    | with_reducible refine wpAny_cRoomFor hu ?_
    | (refine wpAny_bind (m := callSpecialIfBound? (.type X) (Str.ofString "__eq__") [.type X]) (wpAny_callSpecialIfBound?_slot (hX _) slot_type_eq
        (call_gives slot_type_eq (hX _) F.entry_object_eq (F.args_object_eq_2 _ _) (object_eq_same rfl (by simp)) ?_)))
    | wp_step)
  exact wpAny_bind (wpAny_truthy_bool (wpAny_pure h))
theorem tyne_entry_other {X Y : String} (hX : ∀ s' : Shared, s'.TypeIs (.type X) "type") (hne : (Value.type X == Value.type Y) = false) {Q : Fin → Shared → Prop} (hu : A.units < cLine) (h : Q (.done (.ret .notImplemented)) s) :
    wpAny (model prog w) A (Builtin.«object.__ne__» ⟨[.type X, .type Y], []⟩) Q E s := by
  unfold Builtin.«object.__ne__»
  repeat (first
    | with_reducible refine wpAny_cRoomFor hu ?_
    | (refine wpAny_bind (m := callSpecialIfBound? (.type X) (Str.ofString "__eq__") [.type Y]) (wpAny_callSpecialIfBound?_slot (hX _) slot_type_eq
        (call_gives slot_type_eq (hX _) F.entry_object_eq (F.args_object_eq_2 _ _) (object_eq_other rfl hne) ?_)))
    | wp_step)
  exact wpAny_pure h
theorem ne_ty_same {X : String} {Q : Value → Shared → Prop} (hX : ∀ s' : Shared, s'.TypeIs (.type X) "type") (hu : A.units + 1 < cLine) (h : Q (.bool false) s) : wpAny (model prog w) A (compareOp .NotEq (.type X) (.type X)) Q E s := by
  show wpAny _ A (richCompare .NotEq _ _) Q E s
  refine wpAny_richCompare_same (T := "type") (hX s) (hX s) slot_tyne ?_
  refine wpAny_call_entry slot_tyne (hX s) F.cmpEntry_ne (tyne_entry_same (A := A.in1) hX hu ⟨_, rfl, (by intro e; cases e), h⟩) (F.cmpArgs_ne _ _)
theorem ne_ty_other {X Y : String} {Q : Value → Shared → Prop} (hX : ∀ s' : Shared, s'.TypeIs (.type X) "type") (hY : ∀ s' : Shared, s'.TypeIs (.type Y) "type") (hne : (Value.type X == Value.type Y) = false) (hu : A.units + 1 < cLine) (h : Q (.bool true) s) :
    wpAny (model prog w) A (compareOp .NotEq (.type X) (.type Y)) Q E s := by
  have hne' : (Value.type Y == Value.type X) = false := by
    rw [Bool.eq_false_iff] at hne ⊢
    intro e
    exact hne (by rw [beq_iff_eq] at e ⊢; exact e.symm)
  show wpAny _ A (richCompare .NotEq _ _) Q E s
  have h1 := slot_tyne
  have h2 := slot_tyneR
  rcases hi : cmpInfo CmpOp.NotEq with ⟨sym, f, r⟩
  rw [hi] at h1 h2
  simp only [richCompare, hi, (hX s).oneThing_none]
  try with_reducible refine wpAny_holding ?_
  refine wpAny_bind (wpAny_cRoomFor_or (.inl rfl) ?_)
  refine wpAny_bind (wpAny_typeOf (hX s) (wpAny_bind (wpAny_typeOf (hY s) ?_)))
  simp only [bne_self_eq_false, Bool.false_eq_true, if_false, pure_bind, Bool.not_false, if_true]
  refine wpAny_bind (m := tryCompare (.type X) _ (.type Y)) (wpAny_tryCompare_declines (hX s) h1 (wpAny_call_entry h1 (hX s) F.cmpEntry_ne (tyne_entry_other (A := A.in1) hX hne hu ⟨_, rfl, rfl, ?_⟩) (F.cmpArgs_ne _ _)))
  refine wpAny_bind (m := tryCompare (.type Y) _ (.type X)) (wpAny_tryCompare_declines (hY s) h2 (wpAny_call_entry h2 (hY s) F.cmpEntry_ne (tyne_entry_other (A := A.in1) hY hne' hu ⟨_, rfl, rfl, ?_⟩) (F.cmpArgs_ne _ _)))
  refine wpAny_bind (wpAny_rule (wpAny_bind (wpAny_of_eq (isSame_plain rfl) (wpAny_pure ?_))))
  rw [hne]
  exact h
end
/-- the types that a value may have here -/
def tyOk (T : String) : Bool := T == "str" || T == "int" || T == "list" || T == "bool" || T == "NoneType" || T == "tuple" || T == "dict"
theorem tyOk_meta {T : String} (h : tyOk T = true) (s : Shared) : s.TypeIs (.type T) "type" := by
  unfold tyOk at h
  simp only [Bool.or_eq_true, beq_iff_eq] at h
  rcases h with (((((h | h) | h) | h) | h) | h) | h <;> subst h
  · exact meta_str s
  · exact meta_int s
  · exact meta_list s
  · exact meta_bool s
  · exact meta_NoneType s
  · exact meta_tuple s
  · exact meta_dict s
theorem op_neTy {X : Cx} (hu : X.A.units + 1 < cLine) : OpR X (compareOp .NotEq) (fun x y H Q => ∃ m n, x = .ty m ∧ y = .ty n ∧ tyOk m = true ∧ tyOk n = true ∧ Q (.bl (!decide (m = n))) H) := by
  intro pins s σ H x y v u Q I rx ry h
  obtain ⟨m, n, rfl, rfl, hm, hn, q⟩ := h
  cases rx
  cases ry
  by_cases e : m = n
  · subst e
    rw [decide_eq_true rfl] at q
    exact ne_ty_same (tyOk_meta hm) hu ⟨.bl false, H, I, rfl, q⟩
  · rw [decide_eq_false e] at q
    exact ne_ty_other (tyOk_meta hm) (tyOk_meta hn) (beq_eq_false_iff_ne.mpr fun z => e (Value.type.inj z)) hu ⟨.bl true, H, I, rfl, q⟩
end Kf

/-! the text by places -/
namespace Kf
open PySem PySem.Spec PyProof.Rows L2
def topS (i : Nat) : Stmt := PySem.Challenge.pw_keepfew_k04_refused.main.body.getD i (.Pass ⟨0, 0, 0, 0⟩)
abbrev s_is_name : Stmt := topS 11
abbrev s_check_name : Stmt := topS 12
abbrev s_check_places : Stmt := topS 13
abbrev s_check_rule : Stmt := topS 14
abbrev s_check_wishes : Stmt := topS 15
abbrev s_Shelf___init__ : Stmt := inClass (topS 17) 0
abbrev s_Shelf_wish : Stmt := inClass (topS 17) 1
abbrev s_Shelf_places : Stmt := inClass (topS 17) 2
abbrev s_Shelf_things : Stmt := inClass (topS 17) 3
abbrev s_Shelf_met : Stmt := inClass (topS 17) 4
abbrev s_Shelf_missed : Stmt := inClass (topS 17) 5
abbrev s_Shelf__free_a_place : Stmt := inClass (topS 17) 6
abbrev s_Shelf__pick_going : Stmt := inClass (topS 17) 7
abbrev s_Shelf__note_wish : Stmt := inClass (topS 17) 8
abbrev s_Old_order : Stmt := inClass (topS 18) 0
abbrev s_Old__pick_going : Stmt := inClass (topS 18) 1
abbrev s_Cold_order : Stmt := inClass (topS 19) 0
abbrev s_Cold__pick_going : Stmt := inClass (topS 19) 1
abbrev s_Cold__note_wish : Stmt := inClass (topS 19) 2
abbrev s_Marked___init__ : Stmt := inClass (topS 20) 0
abbrev s_Marked_marks : Stmt := inClass (topS 20) 1
abbrev s_Marked_rounds : Stmt := inClass (topS 20) 2
abbrev s_Marked__pick_going : Stmt := inClass (topS 20) 3
abbrev s_Marked__note_wish : Stmt := inClass (topS 20) 4
abbrev s_shelf_of : Stmt := topS 21
abbrev s_Going___init__ : Stmt := inClass (topS 23) 0
abbrev s_going : Stmt := topS 24
abbrev s_best : Stmt := topS 25
abbrev s__wished_again : Stmt := topS 26
abbrev s__latest_again : Stmt := topS 27
abbrev s_stretches : Stmt := topS 29
abbrev s_bars : Stmt := topS 30
abbrev s__bars_ahead : Stmt := topS 31
abbrev s__least_allowed : Stmt := topS 32
abbrev s_blocks : Stmt := topS 34
abbrev s__firsts : Stmt := topS 35
abbrev s_depths : Stmt := topS 37
abbrev s_missed_by_places : Stmt := topS 38
abbrev s__met : Stmt := topS 39
abbrev s__law_mixed : Stmt := topS 41
abbrev s__law_names : Stmt := topS 42
abbrev s__law_drawn : Stmt := topS 43
abbrev s__law_places : Stmt := topS 44
abbrev s__law_kinds : Stmt := topS 45
abbrev s__law_odd_name : Stmt := topS 46
abbrev s__law_odd_places : Stmt := topS 47
abbrev s__law_odd_wishes : Stmt := topS 48
abbrev s__law_asked : Stmt := topS 49
abbrev s__law_wish_word : Stmt := topS 50
abbrev s__law_state : Stmt := topS 51
abbrev s__law_due : Stmt := topS 52
abbrev s_law : Stmt := topS 53
end Kf

namespace Kf
open PySem PySem.Spec PyProof.Rows L2
section
variable {P : Program} {w : World} {K : PySem.W.Frag} {mg : Str → Option Value} {base : Heap} {tb : Addr}
/-! ### _law_mixed -/
def spMixed : Sp := fun vs H Q _ => ∃ c k : Int, vs = [.int c, .int k] ∧ 0 ≤ k ∧ k ≤ 1000000 ∧ ∀ r : Int, 0 ≤ r → r < 100000000 → Q (.int r) H
theorem sc_mixed : FnScope ["_law_cell", "_law_k", "_law_number"] ["_law_cell", "_law_k"] (defScope s__law_mixed) := ⟨rfl, rfl, rfl, by decide +kernel, rfl, by decide +kernel, by decide +kernel⟩
theorem ok_mixed {f : Addr} {fd : FuncData} {k0 : Nat} (F : FnP K "_law_mixed" "_law_mixed" s__law_mixed f fd) : FnOk P w K mg base CX0 (k0 + 1) f fd ["_law_cell", "_law_k"] spMixed := by
  refine ok0 F sc_mixed (fun vs H Q E h => ?_) (fun cdv A outer s H vs Q E hr h => ?_)
  · obtain ⟨c, k, rfl, _⟩ := h
    rfl
  · obtain ⟨c, k, rfl, k0, k1, q⟩ := h
    refine ⟨_, pss_cons (ps_set (i := 2) sc_mixed.nd rfl (.inl rfl) (pe_op op_add (pe_op op_add (pe_op op_mod (pv 0) pe_int) (pe_op op_mul pe_int (pv 1))) pe_int))
      (pss_one (ps_ret (pe_op op_fdiv (pe_op op_mod (pe_op op_mul (pe_op op_mod (pe_op op_mul (pv 2) (pv 2)) pe_int) (pv 2)) pe_int) pe_int))), ?_⟩
    have h1 := Int.emod_nonneg c (show (1000000007 : Int) ≠ 0 by decide)
    have h2 := Int.emod_lt_of_pos c (show (0 : Int) < 1000000007 by decide)
    refine ⟨_, rfl, _, _, rfl, rfl, (by show (0 : Int) < 1000000007; decide), _, rfl, _, _, rfl, rfl, .inl ⟨by decide, by decide⟩, _, _, rfl, rfl, _, _, rfl, rfl, ?_⟩
    generalize hn : c % 1000000007 + 7919 * k + 13 = n
    have n0 : 0 ≤ n := by omega
    have n1 : n < 18446744073709551616 := by omega
    refine ⟨_, rfl, _, rfl, _, _, rfl, rfl, .inl ⟨by omega, by omega⟩, _, _, rfl, rfl, (by show (0 : Int) < 1000000007; decide), ?_⟩
    generalize hm : n * n = m
    have m1 := Int.emod_nonneg m (show (1000000007 : Int) ≠ 0 by decide)
    have m2 := Int.emod_lt_of_pos m (show (0 : Int) < 1000000007 by decide)
    refine ⟨_, rfl, _, _, rfl, rfl, .inl ⟨by omega, by omega⟩, _, _, rfl, rfl, (by show (0 : Int) < 998244353; decide), _, _, rfl, rfl, ⟨by decide, by decide⟩, ?_⟩
    generalize hz : m % 1000000007 * n = z
    have z1 := Int.emod_nonneg z (show (998244353 : Int) ≠ 0 by decide)
    have z2 := Int.emod_lt_of_pos z (show (0 : Int) < 998244353 by decide)
    exact q _ (by omega) (by omega)
end
end Kf

namespace Kf
open PySem PySem.Spec PyProof.Rows L2
section
variable {P : Program} {w : World} {K : PySem.W.Frag} {mg : Str → Option Value} {base : Heap} {tb : Addr}
/-! ### _law_places -/
def spPlaces (K : PySem.W.Frag) (tb : Addr) : Sp := fun vs H Q _ => ∃ (a : Addr) (ns : List Int) (k : Int), vs = [.ref a, .int k] ∧ SqL K H a (ns.map V.int) ∧ ns.length ≤ 300 ∧ 0 ≤ k ∧ k ≤ 1000 ∧
  ∀ (r : Int) (H' : Hp), 1 ≤ r → r ≤ 20 → Kp tb [] H H' → Q (.int r) H'
theorem sc_places : FnScope ["_law_script", "_law_k", "_law_number", "_law_cell"] ["_law_script", "_law_k"] (defScope s__law_places) := ⟨rfl, rfl, rfl, by decide +kernel, rfl, by decide +kernel, by decide +kernel⟩
theorem ok_places {f : Addr} {fd : FuncData} {k0 : Nat} (F : FnP K "_law_places" "_law_places" s__law_places f fd) (G : Glob P w K mg base CX0 (k0 + 1) "_law_mixed" ["_law_cell", "_law_k"] spMixed)
    (hlen : mg "len" = none) (hsum : mg "sum" = none) : FnOk P w K mg base CX0 (k0 + 2) f fd ["_law_script", "_law_k"] (spPlaces K tb) := by
  refine ok0 F sc_places (fun vs H Q E h => ?_) (fun cdv A outer s H vs Q E hr h => ?_)
  · obtain ⟨a, ns, k, rfl, _⟩ := h
    rfl
  · obtain ⟨a, ns, k, rfl, hS, hl, k0', k1, q⟩ := h
    refine ⟨_, pss_cons (ps_set (i := 2) sc_places.nd rfl (.inl rfl) (pe_callG G hr (by rfl) pass0
        (pa_cons (pe_op op_add (pe_callB call_len_seq (by rfl) hlen PySem.boot_len (pa_cons (pv 0) pa_nil))
          (pe_callB (cr_sum rfl) (by rfl) hsum (by decide +kernel) (pa_cons (pe_lc (own := [("_law_cell", 3)]) (g := gName 3) (tt := tYes) rfl sc_places.nd (pi_list (pv 0)) (blkOk_by (N := ["_law_script", "_law_k", "_law_number", "_law_cell"]) (sc := defScope s__law_places) (by decide +kernel))
            (fun _ _ _ _ _ => pg_name (i := 3) sc_places.nd rfl (Or.inl rfl)) (fun _ _ _ _ _ => pts_nil) (fun _ _ _ _ _ => pe_op op_mod (pv 3) pe_int)) pa_nil)))
        (pa_cons (pe_op op_add pe_int (pv 1)) pa_nil))))
      (pss_one (ps_ret (pe_op op_add pe_int (pe_op op_mod (pe_op op_fdiv (pv 2) pe_int) (pe_ix ix_list (pe_lst (pa_cons pe_int (pa_cons pe_int (pa_cons pe_int (pa_cons pe_int pa_nil))))) (pe_op op_mod (pv 2) pe_int) (fun _ _ => rfl)))))), ?_⟩
    -- len(script)
    refine ⟨_, rfl, a, _, rfl, .inl hS, ?_⟩
    -- the comprehension
    refine ⟨_, rfl, a, rfl, ⟨_, hS⟩, fun D hD => lc_list (K := K) (a := a) (xs := ns.map V.int) (fun i H1 => ∃ ms : List Int, ms.length = i ∧ Kp tb [] H H1 ∧ H1 D = some (.lst (ms.map V.int)))
      ⟨[], rfl, Kp.new hD, upd_same⟩ (fun i H1 _ ⟨_, _, kp, _⟩ => kp.seq hS) ?_ ?_⟩
    · rintro i x H1 hi ⟨ms, hms, kp, hd⟩
      obtain ⟨z, hz, rfl⟩ := get_mapI hi
      have hil : i < ns.length := (List.getElem?_eq_some_iff.mp hz).1
      refine ⟨rfl, _, rfl, _, _, rfl, rfl, (by show (0 : Int) < 1009; decide), _, hd, ?_, ms ++ [z % 1009], ?_, ?_, ?_⟩
      · rw [List.length_map]
        exact small_of (m := 300) (by omega)
      · rw [List.length_append, hms]
        rfl
      · exact kp.own hD hd
      · rw [upd_same, List.map_append]
        rfl
    · rintro H1 ⟨ms, hms, kp, hd⟩
      refine ⟨D, ms, rfl, SqL.of hd, _, _, rfl, rfl, _, rfl, _, _, rfl, rfl, _, _, rfl, by omega, by omega, fun r r0 r1 => ?_⟩
      refine ⟨_, rfl, _, _, rfl, rfl, ⟨by decide, by decide⟩, by decide, fun p hp => ?_⟩
      have e0 := Int.emod_nonneg r (show (4 : Int) ≠ 0 by decide)
      have e1 := Int.emod_lt_of_pos r (show (0 : Int) < 4 by decide)
      have hc : ∃ d : Int, atI [V.int 3, V.int 5, V.int 9, V.int 20] (r % 4) = some (V.int d) ∧ 0 < d ∧ d ≤ 20 := by
        have : r % 4 = 0 ∨ r % 4 = 1 ∨ r % 4 = 2 ∨ r % 4 = 3 := by omega
        rcases this with e | e | e | e <;> rw [e]
        · exact ⟨3, rfl, by decide, by decide⟩
        · exact ⟨5, rfl, by decide, by decide⟩
        · exact ⟨9, rfl, by decide, by decide⟩
        · exact ⟨20, rfl, by decide, by decide⟩
      obtain ⟨d, hd1, hd2, hd3⟩ := hc
      refine ⟨_, rfl, _, _, rfl, rfl, (by show (0 : Int) < 4; decide), p, _, _, _, rfl, rfl, SqL.of upd_same, hd1, ?_⟩
      refine ⟨_, _, rfl, rfl, hd2, _, _, rfl, rfl, ?_⟩
      have f0 := Int.emod_nonneg (r / 4) (show d ≠ 0 by omega)
      have f1 := Int.emod_lt_of_pos (r / 4) hd2
      exact q _ _ (by omega) (by omega) (kp.step hp)
end
end Kf

namespace Kf
open PySem PySem.Spec PyProof.Rows L2
section
variable {P : Program} {w : World} {K : PySem.W.Frag} {mg : Str → Option Value} {base : Heap} {tb : Addr}
/-! ### _law_names -/
def spNames (tb : Addr) : Sp := fun vs H Q _ => ∃ n m : Int, vs = [.int n, .int m] ∧ 0 ≤ n ∧ n < 100000000 ∧ 3 ≤ m ∧ m ≤ 26 ∧
  ∀ (zs : List Str) (p : Addr) (H' : Hp), (zs.length : Int) = m → (∀ z ∈ zs, IsName z) → Kp tb [] H H' → H p = none → H' p = some (.lst (zs.map V.str)) → Q (.ref p) H'
abbrev nNames : List Str := ["_law_number", "_law_many", "_law_letters", "_law_size", "_law_row", "_law_at", "_law_signs", "_law_j", "_law_k", "_law_sign"]
theorem sc_names : FnScope nNames ["_law_number", "_law_many"] (defScope s__law_names) := ⟨rfl, rfl, rfl, by decide +kernel, rfl, by decide +kernel, by decide +kernel⟩
/-- texts gathered, each of a kind -/
def RS (p : Str → Prop) (i : Nat) (acc : List V) : Prop := ∃ zs : List Str, zs.length = i ∧ (∀ z ∈ zs, p z) ∧ acc = zs.map V.str
theorem RS.nil {p : Str → Prop} : RS p 0 [] := ⟨[], rfl, fun _ h => absurd h (by simp), rfl⟩
theorem RS.snoc {p : Str → Prop} {i : Nat} {acc : List V} {z : Str} (h : RS p i acc) (hz : p z) : RS p (i + 1) (acc ++ [.str z]) := by
  obtain ⟨zs, h1, h2, rfl⟩ := h
  refine ⟨zs ++ [z], by rw [List.length_append, h1]; rfl, fun y hy => ?_, by rw [List.map_append]; rfl⟩
  rcases List.mem_append.mp hy with hy | hy
  · exact h2 y hy
  · rw [List.mem_singleton.mp hy]; exact hz
theorem RS.len {p : Str → Prop} {i : Nat} {acc : List V} (h : RS p i acc) : acc.length = i := by
  obtain ⟨zs, h1, _, rfl⟩ := h
  rw [List.length_map, h1]
def IsSign (z : Str) : Prop := z.length = 1 ∧ Low z
theorem ok_names {f : Addr} {fd : FuncData} {k0 : Nat} (F : FnP K "_law_names" "_law_names" s__law_names f fd) (hrange : mg "range" = none) (henum : mg "enumerate" = none) :
    FnOk P w K mg base CX0 (k0 + 1) f fd ["_law_number", "_law_many"] (spNames tb) := by
  refine ok0 F sc_names (fun vs H Q E h => ?_) (fun cdv A outer s H vs Q E hr h => ?_)
  · obtain ⟨n, m, rfl, _⟩ := h
    rfl
  · obtain ⟨n, m, rfl, n0, n1, m0, m1, q⟩ := h
    refine ⟨_, pss_cons (ps_set (i := 2) sc_names.nd rfl (.inr rfl) pe_str)
      (pss_cons (ps_set (i := 3) sc_names.nd rfl (.inr rfl) (pe_op op_mod (pv 0) pe_int))
      (pss_cons (ps_set (i := 4) sc_names.nd rfl (.inr rfl) (pe_join pe_str
        (pe_lc (own := [("_law_j", 7)]) (g := gName 7) (tt := tYes) rfl sc_names.nd (pi_range1 (by rfl) hrange (pa_cons pe_int pa_nil)) (blkOk_by (N := nNames) (sc := defScope s__law_names) (by decide +kernel))
            (fun _ _ _ _ _ => pg_name (i := 7) sc_names.nd rfl (Or.inl rfl)) (fun _ _ _ _ _ => pts_nil)
            (fun _ _ _ _ _ => pe_ix ix_str (pv 2) (pe_op op_mod (pe_op op_add (pe_op op_fdiv (pv 0) pe_int) (pe_op op_mul pe_int (pv 7))) pe_int) (fun _ _ => rfl)))))
      (pss_cons (ps_if (PW.pt (pw_and (pt_cmpR op_eq (pe_op op_mod (pe_op op_fdiv (pv 0) pe_int) pe_int) pe_int (nomark _)) (pw_and1 (pt_cmpR op_lt (pv 1) pe_int (nomark _)))))
        (pss_one (ps_ret (pe_lc (own := [("_law_k", 8)]) (g := gName 8) (tt := tYes) rfl sc_names.nd (pi_range1 (by rfl) hrange (pa_cons (pv 1) pa_nil)) (blkOk_by (N := nNames) (sc := defScope s__law_names) (by decide +kernel))
            (fun _ _ _ _ _ => pg_name (i := 8) sc_names.nd rfl (Or.inl rfl)) (fun _ _ _ _ _ => pts_nil)
            (fun _ _ _ _ _ => pe_slice sl_str (pv 4) po_none (po_some (pe_op op_add (pv 8) pe_int)))))) pss_nil)
      (pss_cons (ps_set (i := 5) sc_names.nd rfl (.inr rfl) (pe_op op_mod (pe_op op_fdiv (pv 0) pe_int) (pe_op op_add (pv 3) pe_int)))
      (pss_cons (ps_setLc (i := 6) (own := [("_law_k", 8)]) (g := gName 8) (tt := tYes) rfl sc_names.nd rfl rfl (sw_true rfl rfl rfl (by decide +kernel)) (pi_range1 (by rfl) hrange (pa_cons (pv 1) pa_nil)) (blkOk_by (N := nNames) (sc := defScope s__law_names) (by decide +kernel))
            (fun _ _ _ _ _ => pg_name (i := 8) sc_names.nd rfl (Or.inl rfl)) (fun _ _ _ _ _ => pts_nil)
            (fun _ _ _ _ _ => pe_ix ix_str (pv 2) (pe_op op_mod (pe_op op_add (pe_op op_fdiv (pv 0) pe_int) (pe_op op_mul pe_int (pv 8))) pe_int) (fun _ _ => rfl)))
      (pss_cons (ps_if (pt_cmpR op_eq (pe_op op_mod (pe_op op_fdiv (pv 0) pe_int) pe_int) pe_int (nomark _))
        (pss_one (ps_ret (pe_lc (own := [("_law_k", 8), ("_law_sign", 9)]) (g := gTup K 2 (gCons (gName 8) (gCons (gName 9) gNil))) (tt := tYes) rfl sc_names.nd (pi_enum (by rfl) henum (pa_cons (pv 6) pa_nil)) (blkOk_by (N := nNames) (sc := defScope s__law_names) (by decide +kernel))
            (fun _ _ _ _ _ => pg_tup rfl (pgs_cons (pg_name (i := 8) sc_names.nd rfl (Or.inl rfl)) (pgs_cons (pg_name (i := 9) sc_names.nd rfl (Or.inl rfl)) pgs_nil))) (fun _ _ _ _ _ => pts_nil)
            (fun _ _ _ _ _ => pe_op op_add_str (pv 9) (pe_slice sl_str (pv 4) po_none (po_some (pe_op op_mod (pe_op op_add (pe_op op_mul pe_int (pv 8)) (pv 5)) pe_int))))))) pss_nil)
      (pss_one (ps_ret (pe_lc (own := [("_law_sign", 9)]) (g := gName 9) (tt := tYes) rfl sc_names.nd (pi_list (pv 6)) (blkOk_by (N := nNames) (sc := defScope s__law_names) (by decide +kernel))
            (fun _ _ _ _ _ => pg_name (i := 9) sc_names.nd rfl (Or.inl rfl)) (fun _ _ _ _ _ => pts_nil)
            (fun _ _ _ _ _ => pe_op op_add_str (pe_op op_add_str (pe_slice sl_str (pv 4) po_none (po_some (pv 5))) (pv 9)) (pe_slice sl_str (pv 4) (po_some (pv 5)) (po_some (pv 3))))))))))))), ?_⟩
    have hline : ∀ {z : Str}, z.length ≤ 8 → z.length ≤ sizeLine := fun h => Nat.le_of_lt (small_of (m := 8) h)
    -- letters, size
    refine ⟨_, rfl, _, _, rfl, rfl, (by show (0 : Int) < 8; decide), ?_⟩
    have s0 := Int.emod_nonneg n (show (8 : Int) ≠ 0 by decide)
    have s1 := Int.emod_lt_of_pos n (show (0 : Int) < 8 by decide)
    -- row
    refine ⟨⟨_, rfl⟩, 8, rfl, by decide, by decide, fun D hD => ?_⟩
    refine lc_it (n := 8) walk_range (LcI tb H D (RS IsSign)) (LcI.start hD RS.nil) (fun _ _ _ _ => trivial) ?_ ?_
    · rintro i x H1 H2 hi ⟨acc, r, kp, hd⟩ ⟨rfl, rfl⟩
      obtain ⟨c, hc, lc⟩ := letter_atI (i := (n / 8 + 5 * (0 + (i : Int))) % 26) (Int.emod_nonneg _ (by decide)) (Int.emod_lt_of_pos _ (by decide))
      refine ⟨rfl, _, rfl, _, rfl, _, _, rfl, rfl, ⟨by decide, by decide⟩, _, rfl, _, _, rfl, rfl, .inl ⟨by decide, by decide⟩, _, _, rfl, rfl, _, _, rfl, rfl, (by show (0 : Int) < 26; decide), _, _, c, rfl, rfl, by decide +kernel, hc, ?_⟩
      exact LcI.next hD kp hd (Kp.refl _) (by rw [r.len]; exact small_of (m := 8) (by omega)) (r.snoc ⟨rfl, low_one lc⟩)
    · rintro H1 ⟨acc, ⟨signs, hl8, hsg, rfl⟩, kp1, hd1⟩
      refine ⟨_, _, signs, rfl, rfl, .inl (SqL.of hd1), ?_, ?_⟩
      · have e1 : (signs.map (·.length)).sum = signs.length := by
          have : ∀ l : List Str, (∀ z ∈ l, IsSign z) → (l.map (·.length)).sum = l.length := by
            intro l
            induction l with
            | nil => intro _; rfl
            | cons a r ih =>
              intro h
              rw [List.map_cons, List.sum_cons, ih fun z hz => h z (List.mem_cons_of_mem _ hz), (h a List.mem_cons_self).1, List.length_cons]
              omega
          exact this signs hsg
        rw [e1, hl8]
        decide +kernel
      rw [tjoin_eq]
      have rl : (Str.join ("" : Str) signs).length = 8 := by rw [join_len signs fun z hz => (hsg z hz).1, hl8]
      have rlow : Low (Str.join ("" : Str) signs) := join_low signs fun z hz => (hsg z hz).2
      generalize Str.join ("" : Str) signs = row at rl rlow ⊢
      have f1 : Kp tb [] H H1 := kp1
      have fin : ∀ (H' : Hp) (zs : List Str) (p : Addr), Kp tb [] H1 H' → H1 p = none → (zs.length : Int) = m → (∀ z ∈ zs, IsName z) → H' p = some (.lst (zs.map V.str)) → Q (.ref p) H' := fun H' zs p k2 np h1 h2 h3 =>
        q zs p H' h1 h2 (f1.trans k2) (f1.free _ np) h3
      -- if number // 64 % 3 == 1 and many < 9
      refine ⟨_, rfl, _, _, rfl, rfl, ⟨by decide, by decide⟩, _, _, rfl, rfl, (by show (0 : Int) < 3; decide), rfl, _, rfl, ?_⟩
      refine ite_else ?rest (fun hrest _ => ⟨_, rfl, _, _, rfl, rfl, _, rfl, ?_⟩)
      · -- at, signs
        have a0 := Int.emod_nonneg (n / 200) (show n % 8 + 1 ≠ 0 by omega)
        have a1 := Int.emod_lt_of_pos (n / 200) (show 0 < n % 8 + 1 by omega)
        refine ⟨_, rfl, _, _, rfl, rfl, ⟨by decide, by decide⟩, _, rfl, _, _, rfl, rfl, _, _, rfl, rfl, by omega, ?_⟩
        refine ⟨_, rfl, m, rfl, by omega, by omega, fun D2 hD2 => ?_⟩
        refine lc_it (n := m.toNat) walk_range (LcI tb H1 D2 (RS IsSign)) (LcI.start hD2 RS.nil) (fun _ _ _ _ => trivial) ?_ ?_
        · rintro i x H2 H3 hi ⟨acc, r, kp, hd⟩ ⟨rfl, rfl⟩
          obtain ⟨c, hc, lc⟩ := letter_atI (i := (n / 2000 + 7 * (0 + (i : Int))) % 26) (Int.emod_nonneg _ (by decide)) (Int.emod_lt_of_pos _ (by decide))
          refine ⟨rfl, _, rfl, _, rfl, _, _, rfl, rfl, ⟨by decide, by decide⟩, _, rfl, _, _, rfl, rfl, .inl ⟨by decide, by decide⟩, _, _, rfl, rfl, _, _, rfl, rfl, (by show (0 : Int) < 26; decide), _, _, c, rfl, rfl, by decide +kernel, hc, ?_⟩
          exact LcI.next hD2 kp hd (Kp.refl _) (by rw [r.len]; exact small_of (m := 26) (by omega)) (r.snoc ⟨rfl, low_one lc⟩)
        · rintro H2 ⟨acc, ⟨sgs, hlm, hsgs, rfl⟩, kp2, hd2⟩
          have fin2 : ∀ (H' : Hp) (zs : List Str) (p : Addr), Kp tb [] H2 H' → H2 p = none → zs.length = sgs.length → (∀ z ∈ zs, IsName z) → H' p = some (.lst (zs.map V.str)) → Q (.ref p) H' := fun H' zs p k2 np h1 h2 h3 => by
            exact fin H' zs p (kp2.trans k2) (kp2.free _ np) (by omega) h2 h3
          -- if number // 64 % 3 == 2
          refine ⟨_, rfl, _, _, rfl, rfl, ⟨by decide, by decide⟩, _, _, rfl, rfl, (by show (0 : Int) < 3; decide), rfl, _, rfl, ?_⟩
          refine ite2 (fun _ => ?_) (fun _ => ?_)
          · refine ⟨_, rfl, D2, _, rfl, SqL.of hd2, fun D3 hD3 => ?_⟩
            refine lc_it (n := (sgs.map V.str).length) walk_enum (LcI tb H2 D3 (RS IsName)) (LcI.start hD3 RS.nil) (fun i H _ ⟨_, _, kp, _⟩ => kp.seq (SqL.of hd2)) ?_ ?_
            · rintro i x H3 H4 hi ⟨acc, r, kp, hd⟩ ⟨T, x1, x2, rfl, nT, rfl, e1, e2⟩
              cases e1
              obtain ⟨sg, hsg1, rfl⟩ := get_mapS e2
              obtain ⟨l1, lw⟩ := hsgs sg (List.mem_of_getElem? hsg1)
              refine ⟨T, _, rfl, SqT.of upd_same, rfl, _, _, rfl, _, _, rfl, rfl, rfl, ?_⟩
              have e0 := Int.emod_nonneg (3 * (i : Int) + n / 200 % (n % 8 + 1)) (show (8 : Int) ≠ 0 by decide)
              have e8 := Int.emod_lt_of_pos (3 * (i : Int) + n / 200 % (n % 8 + 1)) (show (0 : Int) < 8 by decide)
              refine ⟨_, rfl, _, rfl, _, rfl, _, _, rfl, rfl, .inl ⟨by decide, by decide⟩, _, rfl, _, _, rfl, rfl, _, _, rfl, rfl, (by show (0 : Int) < 8; decide), _, rfl, row, rfl, hline (by omega), ?_⟩
              have lc : (cutS row none (some ((3 * (i : Int) + n / 200 % (n % 8 + 1)) % 8))).length ≤ 7 := by
                rw [len_cut, HT.sIx_none, sIx_pos e0, rl]; omega
              refine ⟨_, _, rfl, rfl, Nat.le_of_lt (small_of (m := 8) (by omega)), ?_⟩
              rw [List.length_map] at hi
              exact LcI.next hD3 kp hd (Kp.new nT) (by rw [r.len]; exact small_of (m := 26) (by omega)) (r.snoc (isName_of (by rw [len_app]; omega) (by rw [len_app]; omega) (low_app lw (low_cut rlow _ _))))
            · rintro H3 ⟨acc, ⟨zs, hz1, hz2, rfl⟩, kp, hd⟩
              rw [List.length_map] at hz1
              exact fin2 H3 zs D3 kp hD3 hz1 hz2 hd
          · refine ⟨_, rfl, D2, rfl, ⟨_, SqL.of hd2⟩, fun D3 hD3 => ?_⟩
            refine lc_it (n := (sgs.map V.str).length) walk_list (LcI tb H2 D3 (RS IsName)) (LcI.start hD3 RS.nil) (fun i H _ ⟨_, _, kp, _⟩ => kp.seq (SqL.of hd2)) ?_ ?_
            · rintro i x H3 H4 hi ⟨acc, r, kp, hd⟩ ⟨rfl, e2⟩
              obtain ⟨sg, hsg1, rfl⟩ := get_mapS e2
              obtain ⟨l1, lw⟩ := hsgs sg (List.mem_of_getElem? hsg1)
              rw [List.length_map] at hi
              refine ⟨rfl, _, rfl, _, rfl, _, rfl, row, rfl, hline (by omega), _, rfl, _, _, rfl, rfl, ?_, _, rfl, _, rfl, _, rfl, _, rfl, _, rfl, row, rfl, hline (by omega), _, _, rfl, rfl, ?_, ?_⟩
              · rw [len_cut, HT.sIx_none, sIx_pos a0, rl]
                exact Nat.le_of_lt (small_of (m := 9) (by omega))
              · rw [len_app, len_cut, len_cut, HT.sIx_none, sIx_pos a0, sIx_pos s0, rl]
                exact Nat.le_of_lt (small_of (m := 20) (by omega))
              · refine LcI.next hD3 kp hd (Kp.refl _) (by rw [r.len]; exact small_of (m := 26) (by omega)) (r.snoc (isName_of ?_ ?_ (low_app (low_app (low_cut rlow _ _) lw) (low_cut rlow _ _))))
                · rw [len_app, len_app]; omega
                · simp only [len_app, len_cut, HT.sIx_none, sIx_pos a0, sIx_pos s0, rl]; omega
            · rintro H3 ⟨acc, ⟨zs, hz1, hz2, rfl⟩, kp, hd⟩
              rw [List.length_map] at hz1
              exact fin2 H3 zs D3 kp hD3 hz1 hz2 hd
      · cases h9 : decide (m < 9) with
        | true =>
          refine iteT ?_
          refine ⟨_, rfl, m, rfl, by omega, by omega, fun D2 hD2 => ?_⟩
          refine lc_it (n := m.toNat) walk_range (LcI tb H1 D2 (RS IsName)) (LcI.start hD2 RS.nil) (fun _ _ _ _ => trivial) ?_ ?_
          · rintro i x H2 H3 hi ⟨acc, r, kp, hd⟩ ⟨rfl, rfl⟩
            have hm9 := of_decide_eq_true h9
            refine ⟨rfl, _, rfl, _, rfl, _, _, rfl, rfl, _, rfl, row, rfl, hline (by omega), ?_⟩
            refine LcI.next hD2 kp hd (Kp.refl _) (by rw [r.len]; exact small_of (m := 26) (by omega)) (r.snoc (isName_of ?_ ?_ (low_cut rlow _ _)))
            · rw [len_cut, HT.sIx_none, sIx_pos (by omega), rl]; omega
            · rw [len_cut, HT.sIx_none, sIx_pos (by omega), rl]; omega
          · rintro H2 ⟨acc, ⟨zs, hz1, hz2, rfl⟩, kp, hd⟩
            exact fin H2 zs D2 kp hD2 (by omega) hz2 hd
        | false => exact iteF hrest
end
end Kf

namespace Kf
open PySem PySem.Spec PyProof.Rows L2
section
variable {P : Program} {w : World} {K : PySem.W.Frag} {mg : Str → Option Value} {base : Heap} {tb : Addr}
/-! ### _law_drawn -/
def spDrawn (K : PySem.W.Frag) (tb : Addr) : Sp := fun vs H Q _ => ∃ (a : Addr) (ns : List Int) (m : Int), vs = [.ref a, .int m] ∧ SqL K H a (ns.map V.int) ∧ ns.length ≤ 63 ∧ 5 ≤ m ∧ m ≤ 12 ∧
  ∀ (zs ws : List Str) (t pz pw : Addr) (H' : Hp), 0 < zs.length → zs.length ≤ 26 → (m ≤ 9 → (zs.length : Int) ≤ m) → (∀ z ∈ zs, IsName z) → ws.length = ns.length → (∀ z ∈ ws, z ∈ zs) → Kp tb [] H H' → H pz = none → H pw = none → H t = none → pz ≠ pw →
    H' t = some (.tup [.ref pz, .ref pw]) → H' pz = some (.lst (zs.map V.str)) → H' pw = some (.lst (ws.map V.str)) → Q (.ref t) H'
abbrev nDrawn : List Str := ["_law_script", "_law_most", "_law_cell", "_law_number", "_law_many", "_law_names_here", "_law_found", "_law_k", "_law_more", "_law_some"]
theorem sc_drawn : FnScope nDrawn ["_law_script", "_law_most"] (defScope s__law_drawn) := ⟨rfl, rfl, rfl, by decide +kernel, rfl, by decide +kernel, by decide +kernel⟩
theorem ok_drawn {f : Addr} {fd : FuncData} {k0 : Nat} (F : FnP K "_law_drawn" "_law_drawn" s__law_drawn f fd) (GM : Glob P w K mg base CX0 (k0 + 1) "_law_mixed" ["_law_cell", "_law_k"] spMixed)
    (GN : Glob P w K mg base CX0 (k0 + 1) "_law_names" ["_law_number", "_law_many"] (spNames tb)) (hlen : mg "len" = none) (hsum : mg "sum" = none) (hint : mg "int" = none) (henum : mg "enumerate" = none) :
    FnOk P w K mg base CX0 (k0 + 2) f fd ["_law_script", "_law_most"] (spDrawn K tb) := by
  refine ok0 F sc_drawn (fun vs H Q E h => ?_) (fun cdv A outer s H vs Q E hr h => ?_)
  · obtain ⟨a, ns, m, rfl, _⟩ := h
    rfl
  · obtain ⟨a, ns, m, rfl, hS, hl, m0, m1, q⟩ := h
    refine ⟨_, pss_cons (ps_set (i := 3) sc_drawn.nd rfl (.inl rfl) (pe_callG GM hr (by rfl) pass0
        (pa_cons (pe_op op_add (pe_callB call_len_seq (by rfl) hlen PySem.boot_len (pa_cons (pv 0) pa_nil))
          (pe_callB (cr_sum rfl) (by rfl) hsum (by decide +kernel) (pa_cons (pe_lc (own := [("_law_cell", 2)]) (g := gName 2) (tt := tYes) rfl sc_drawn.nd (pi_list (pv 0)) (blkOk_by (N := nDrawn) (sc := defScope s__law_drawn) (by decide +kernel))
            (fun _ _ _ _ _ => pg_name (i := 2) sc_drawn.nd rfl (Or.inl rfl)) (fun _ _ _ _ _ => pts_nil) (fun _ _ _ _ _ => pe_op op_mod (pv 2) pe_int)) pa_nil)))
        (pa_cons pe_int pa_nil))))
      (C8.pss_cut (ps_set (i := 4) sc_drawn.nd rfl (.inl rfl) (pe_ix ix_list (pe_lst (pa_cons (pe_op op_add pe_int (pe_op op_mod (pv 3) (pe_op op_sub (pv 1) pe_int))) (pa_cons pe_int pa_nil)))
          (pe_callTy call_int1 (by rfl) hint (by decide +kernel) (pa_cons (pe_and (pe_cmpR op_gt (pv 1) pe_int (nomark _)) (pe_one (pe_cmpR op_eq (pe_op op_mod (pe_op op_fdiv (pv 3) pe_int) pe_int) pe_int (nomark _)))) pa_nil)) (fun _ _ => rfl)))
      (pss_cons (ps_set (i := 5) sc_drawn.nd rfl (.inl rfl) (pe_callG GN hr (by rfl) pass0 (pa_cons (pe_op op_fdiv (pv 3) pe_int) (pa_cons (pv 4) pa_nil))))
      (pss_cons (ps_set (i := 6) sc_drawn.nd rfl (.inl rfl) (pe_lst pa_nil))
      (pss_cons (ps_for PassesOwn.never rfl (pi_enum (by rfl) henum (pa_cons (pe_slice sl_list (pv 0) po_none (po_some pe_int)) pa_nil))
          (pg_tup rfl (pgs_cons (pg_name (i := 7) sc_drawn.nd rfl (Or.inl rfl)) (pgs_cons (pg_name (i := 2) sc_drawn.nd rfl (Or.inl rfl)) pgs_nil)))
        (pss_cons (ps_set (i := 8) sc_drawn.nd rfl (.inl rfl) (pe_callG GM hr (by rfl) pass0 (pa_cons (pv 2) (pa_cons (pv 7) pa_nil))))
        (pss_cons (ps_set (i := 9) sc_drawn.nd rfl (.inl rfl) (pv 5))
        (C8.pss_cut (ps_if (PW.pt (pw_and (pt_cmpR op_eq (pe_op op_mod (pv 8) pe_int) pe_int (nomark _)) (pw_and1 (pt_cmpR (op_neS hr.units) (pv 6) (pe_lst pa_nil) (nomark _)))))
            (pss_one (ps_set (i := 9) sc_drawn.nd rfl (.inl rfl) (pe_slice sl_list (pv 6) (po_some (pe_un un_neg pe_int)) po_none))) pss_nil)
        (pss_one (ps_expr (pe_bm PySem.F.plainAttrs_list PySem.F.slot_list_append PySem.F.type_list_append mt_append (pv 6)
          (pa_cons (pe_ix ix_list (pv 9) (pe_op op_mod (pe_op op_fdiv (pv 8) pe_int) (pe_callB call_len_seq (by rfl) hlen PySem.boot_len (pa_cons (pv 9) pa_nil))) (fun _ _ => rfl)) pa_nil))))))))
      (pss_one (ps_ret (pe_tup (pa_cons (pv 5) (pa_cons (pv 6) pa_nil))))))))), ?_⟩
    -- number
    refine ⟨_, rfl, a, _, rfl, .inl hS, ?_⟩
    refine ⟨_, rfl, a, rfl, ⟨_, hS⟩, fun D hD => lc_it (walk_list (K := K) (a := a) (xs := ns.map V.int)) (LcI tb H D (fun i acc => ∃ ms : List Int, ms.length = i ∧ acc = ms.map V.int)) (LcI.start hD ⟨[], rfl, rfl⟩)
      (fun i H1 _ ⟨_, _, kp, _⟩ => kp.seq hS) ?_ ?_⟩
    · rintro i x H1 H2 hi ⟨acc, ⟨ms, hms, rfl⟩, kp, hd⟩ ⟨rfl, hx⟩
      obtain ⟨z, hz, rfl⟩ := get_mapI hx
      rw [List.length_map] at hi
      refine ⟨rfl, _, rfl, _, _, rfl, rfl, (by show (0 : Int) < 1000003; decide), ?_⟩
      refine LcI.next hD kp hd (Kp.refl _) (by rw [List.length_map, hms]; exact small_of (m := 300) (by omega)) ⟨ms ++ [z % 1000003], by rw [List.length_append, hms]; rfl, by rw [List.map_append]; rfl⟩
    · rintro H1 ⟨acc, ⟨ms, hms, rfl⟩, kp1, hd1⟩
      refine ⟨D, ms, rfl, SqL.of hd1, _, _, rfl, rfl, _, _, rfl, by decide, by decide, fun r r0 r1 => ?_⟩
      have e0 := Int.emod_nonneg r (show m - 2 ≠ 0 by omega)
      have e1 := Int.emod_lt_of_pos r (show 0 < m - 2 by omega)
      -- many
      refine ⟨fun σ H' => ∃ y : Int, 3 ≤ y ∧ y ≤ 26 ∧ (m ≤ 9 → y ≤ m) ∧ σ = [some (.ref a), some (.int m), none, some (.int r), some (.int y), none, none, none, none, none] ∧ Kp tb [] H H', ?_, ?_⟩
      · refine ⟨_, rfl, _, rfl, _, _, rfl, rfl, _, _, rfl, rfl, by omega, _, _, rfl, rfl, by show 2 ≤ sizeLine; decide, fun p hp => ?_⟩
        have k2 := kp1.step (o := .lst [.int (3 + r % (m - 2)), .int 26]) hp
        have hp2 : (upd H1 p (.lst [.int (3 + r % (m - 2)), .int 26])) p = some (.lst [.int (3 + r % (m - 2)), .int 26]) := upd_same
        refine ⟨_, rfl, _, _, rfl, rfl, _, rfl, ?_⟩
        cases h9 : decide (9 < m) with
        | false =>
          have := of_decide_eq_false h9
          refine iteF (.inr ⟨_, rfl, p, _, _, _, rfl, rfl, SqL.of hp2, (rfl : atI [V.int (3 + r % (m - 2)), V.int 26] 0 = some (V.int (3 + r % (m - 2)))), ?_⟩)
          exact ⟨_, by omega, by omega, fun _ => by omega, rfl, k2⟩
        | true =>
          have := of_decide_eq_true h9
          refine iteT ⟨_, rfl, _, _, rfl, rfl, ⟨by decide, by decide⟩, _, _, rfl, rfl, (by show (0 : Int) < 8; decide), rfl, .inr ⟨_, rfl, ?_⟩⟩
          cases decide ((fun i j => V.int (i % j)) (r / 1000) 8 = V.int 1) with
          | true => exact ⟨p, _, _, _, rfl, rfl, SqL.of hp2, (rfl : atI [V.int (3 + r % (m - 2)), V.int 26] 1 = some (V.int 26)), 26, by omega, by omega, fun _ => by omega, rfl, k2⟩
          | false => exact ⟨p, _, _, _, rfl, rfl, SqL.of hp2, (rfl : atI [V.int (3 + r % (m - 2)), V.int 26] 0 = some (V.int (3 + r % (m - 2)))), _, by omega, by omega, fun _ => by omega, rfl, k2⟩
      rintro σ H2 ⟨y, y0, y1, ym, rfl, k2⟩
      -- names
      refine ⟨_, rfl, _, _, rfl, rfl, ⟨by decide, by decide⟩, _, rfl, _, _, rfl, by omega, by omega, y0, y1, fun zs pz H3 hzl hzn k3 fz hz => ?_⟩
      -- found
      refine ⟨Nat.zero_le _, fun pw hw => ?_⟩
      have nzw : pz ≠ pw := ne_of_none hz hw
      have k4 : Kp tb [] H3 (upd H3 pw (.lst [])) := Kp.new hw
      have hz0 : 0 < zs.length := by omega
      -- the loop over a cut
      refine ⟨_, rfl, _, rfl, a, _, rfl, (k2.trans (k3.trans k4)).seq hS, fun c hc => ?_⟩
      have ecut : cutV (ns.map V.int) none (some 300) = ns.map V.int := by
        unfold cutV
        rw [HT.sIx_none, sIx_pos (by decide), List.length_map, List.drop_zero, show min (300 : Int).toNat ns.length - 0 = ns.length by
          show min 300 ns.length - 0 = ns.length
          omega]
        exact List.take_of_length_le (by rw [List.length_map]; exact Nat.le_refl _)
      rw [ecut]
      have k5 : Kp tb [] (upd H3 pw (.lst [])) (upd (upd H3 pw (.lst [])) c (.lst (ns.map V.int))) := Kp.new hc
      have ncw : c ≠ pw := fun e => by rw [e, upd_same] at hc; cases hc
      have ncz : pz ≠ c := ne_of_none (k4.get hz) hc
      refine ⟨c, _, rfl, SqL.of upd_same, ?_⟩
      have base5 : Kp tb [] H3 (upd (upd H3 pw (.lst [])) c (.lst (ns.map V.int))) := k4.trans k5
      refine for_it walk_enum (fun i σ H' => ∃ (ws : List Str) (v2 v7 v8 v9 : Option V), ws.length = i ∧ (∀ z ∈ ws, z ∈ zs) ∧ σ = [some (.ref a), some (.int m), v2, some (.int r), some (.int y), some (.ref pz), some (.ref pw), v7, v8, v9] ∧
        Kp tb [] H3 H' ∧ H' c = some (.lst (ns.map V.int)) ∧ H' pw = some (.lst (ws.map V.str)))
        ⟨[], none, none, none, none, rfl, fun _ h => absurd h (by simp), rfl, base5, upd_same, by rw [upd_ne ncw.symm, upd_same]; rfl⟩
        (fun i σ H' _ ⟨_, _, _, _, _, _, _, _, _, hc', _⟩ => SqL.of hc') ?_ ?_
      · rintro i x σ H4 H5 hi ⟨ws, v2, v7, v8, v9, hwl, hws, rfl, kp, hc4, hw4⟩ ⟨T, x1, x2, rfl, nT, rfl, e1, e2⟩
        cases e1
        obtain ⟨cell, hcell, rfl⟩ := get_mapI e2
        rw [List.length_map] at hi
        refine ⟨T, _, rfl, SqT.of upd_same, rfl, _, _, rfl, _, _, rfl, rfl, ?_⟩
        have nTw : pw ≠ T := ne_of_none hw4 nT
        have nTc : c ≠ T := ne_of_none hc4 nT
        have k6 : Kp tb [] H3 (upd H4 T (.tup [.int (i : Nat), .int cell])) := kp.step nT
        have hz6 := k6.get hz
        have hw6 : (upd H4 T (.tup [.int (i : Nat), .int cell])) pw = some (.lst (ws.map V.str)) := by rw [upd_ne nTw]; exact hw4
        have hc6 : (upd H4 T (.tup [.int (i : Nat), .int cell])) c = some (.lst (ns.map V.int)) := by rw [upd_ne nTc]; exact hc4
        generalize upd H4 T (.tup [.int (i : Nat), .int cell]) = H6 at k6 hz6 hw6 hc6 ⊢
        -- more, some
        refine ⟨_, rfl, _, rfl, _, _, rfl, by omega, by omega, fun more mo0 mo1 => ?_⟩
        refine ⟨_, rfl, ?_⟩
        refine ⟨fun σ H' => ∃ (sa : Addr) (ss : List Str), 0 < ss.length ∧ (∀ z ∈ ss, z ∈ zs) ∧ σ = [some (.ref a), some (.int m), some (.int cell), some (.int r), some (.int y), some (.ref pz), some (.ref pw), some (.int (i : Nat)), some (.int more), some (.ref sa)] ∧
          Kp tb [] H3 H' ∧ H' c = some (.lst (ns.map V.int)) ∧ H' pw = some (.lst (ws.map V.str)) ∧ H' sa = some (.lst (ss.map V.str)), ?_, ?_⟩
        · refine ⟨_, rfl, _, _, rfl, rfl, (by show (0 : Int) < 3; decide), rfl, _, rfl, ?_⟩
          refine ite2 (fun _ => ?_) (fun _ => ⟨pz, zs, hz0, fun z h => h, rfl, k6, hc6, hw6, hz6⟩)
          refine ⟨_, rfl, Nat.zero_le _, fun e he => ?_⟩
          have k7 : Kp tb [] H6 (upd H6 e (.lst [])) := Kp.new he
          refine ⟨pw, e, ws, [], rfl, rfl, SqL.of (k7.get hw6), SqL.of upd_same, okS_names fun z hz => hzn z (hws z hz), okS_names (fun z hz => absurd hz (by simp)), _, rfl, ?_⟩
          cases hne : decide (ws = []) with
          | true => exact iteF ⟨pz, zs, hz0, fun z h => h, rfl, k6.trans k7, k7.get hc6, k7.get hw6, k7.get hz6⟩
          | false =>
            have hne2 := of_decide_eq_false hne
            have hwpos : 0 < ws.length := List.length_pos_iff.mpr hne2
            refine iteT ⟨_, rfl, _, rfl, _, rfl, pw, _, rfl, SqL.of (k7.get hw6), fun d hd => ?_⟩
            obtain ⟨ss, es, hss, hsl⟩ := cutV_map (f := V.str) ws (some (-4)) none
            have hpos : 0 < ss.length := by
              rw [hsl, cutV_len, HT.sIx_none, List.length_map]
              have e4 : HT.sIx ws.length 0 (some (-4)) = ((-4 : Int) + (ws.length : Int)).toNat := rfl
              rw [e4]
              omega
            have k8 : Kp tb [] (upd H6 e (.lst [])) (upd (upd H6 e (.lst [])) d (.lst (cutV (ws.map V.str) (some (-4)) none))) := Kp.new hd
            exact ⟨d, ss, hpos, fun z hz => hws z (hss z hz), rfl, k6.trans (k7.trans k8), k8.get (k7.get hc6), k8.get (k7.get hw6), by rw [← es]; exact upd_same⟩
        · rintro σ H7 ⟨sa, ss, hspos, hss, rfl, k7, hc7, hw7, hs7⟩
          have i0 := Int.emod_nonneg (more / 3) (show (ss.length : Int) ≠ 0 by omega)
          have i1 := Int.emod_lt_of_pos (more / 3) (show (0 : Int) < (ss.length : Int) by omega)
          obtain ⟨j, ej⟩ : ∃ j : Nat, more / 3 % (ss.length : Int) = (j : Int) := ⟨(more / 3 % (ss.length : Int)).toNat, by omega⟩
          have hj : j < ss.length := by omega
          have hat : atI (ss.map V.str) (more / 3 % (ss.length : Int)) = some (V.str ss[j]) := at_of ej (by rw [List.getElem?_map, List.getElem?_eq_getElem hj]; rfl)
          refine ⟨_, rfl, .inl ⟨rfl, _, SqL.of hw7⟩, _, rfl, _, rfl, _, _, rfl, rfl, ⟨by decide, by decide⟩, _, rfl, sa, _, rfl, .inl (SqL.of hs7), _, _, rfl, rfl, by rw [List.length_map]; omega, sa, _, _, _, rfl, rfl, SqL.of hs7, by rw [List.length_map]; exact hat, ?_⟩
          refine ⟨pw, _, _, rfl, rfl, hw7, by rw [List.length_map, hwl]; exact small_of (m := 63) (by omega), ?_⟩
          refine ⟨ws ++ [ss[j]], _, _, _, _, by rw [List.length_append, hwl]; rfl, fun z hz => ?_, rfl, k7.own hw hw7, by rw [upd_ne ncw]; exact hc7, by rw [upd_same, List.map_append]; rfl⟩
          rcases List.mem_append.mp hz with hz | hz
          · exact hws z hz
          · rw [List.mem_singleton.mp hz]
            exact hss _ (List.getElem_mem hj)
      · rintro σ H4 ⟨ws, v2, v7, v8, v9, hwl, hws, rfl, kp, hc4, hw4⟩
        rw [List.length_map] at hwl
        refine ⟨_, rfl, _, rfl, by show 2 ≤ sizeLine; decide, fun t ht => ?_⟩
        have kt : Kp tb [] H4 (upd H4 t (.tup [.ref pz, .ref pw])) := Kp.new ht
        refine q zs ws t pz pw _ hz0 (by omega) (fun z => by have := ym z; omega) hzn hwl hws (k2.trans (k3.trans (kp.trans kt))) (k2.free _ fz) (k2.free _ (k3.free _ hw)) (k2.free _ (k3.free _ (kp.free _ ht))) nzw upd_same (kt.get (kp.get hz)) (kt.get hw4)
end
end Kf

namespace Kf
open PySem PySem.Spec PyProof.Rows L2
section
variable {P : Program} {w : World} {K : PySem.W.Frag} {mg : Str → Option Value} {base : Heap}
/-! ### is_name, check_name, check_places -/
abbrev cIsName (K : PySem.W.Frag) : Addr := (He.cT K ("is_name", none)).1
abbrev tbOf (K : PySem.W.Frag) : Addr := (He.cT K ("is_name", none)).2
def isNameB (z : Str) : Bool := decide (1 ≤ z.length) && decide (z.length ≤ 8) && z.cps.toList.all lowB
def isNameV : V → Bool
  | .str z => isNameB z
  | _ => false
theorem isNameB_of {z : Str} (h : IsName z) : isNameB z = true := by
  obtain ⟨h1, h2, h3⟩ := h
  unfold isNameB
  rw [decide_eq_true h1, decide_eq_true h2, h3]
  rfl
theorem isName_ofB {z : Str} (h : isNameB z = true) : IsName z := by
  unfold isNameB at h
  rw [Bool.and_eq_true, Bool.and_eq_true] at h
  exact ⟨of_decide_eq_true h.1.1, of_decide_eq_true h.1.2, h.2⟩
def spIsName (K : PySem.W.Frag) : Sp := fun vs H Q _ => ∃ (x : V) (T : String), vs = [x] ∧ TyB K H x T ∧ tyOk T = true ∧ (∀ z, x = .str z → z.length ≤ sizeLine) ∧ GxR.TabG H (tbOf K) ∧ ∀ H', Kp (tbOf K) [] H H' → Q (.bl (isNameV x)) H'
theorem sc_isname : FnScope ["value"] ["value"] (defScope s_is_name) := ⟨rfl, rfl, rfl, by decide +kernel, rfl, by decide +kernel, by decide +kernel⟩
theorem genS_of {env : Env} {scope : Scope} {x : Str} (hk : scope.kind = .function) (hc : scope.isCoroutine = false) (hn : scope.names = [((".0" : Str), NameKind.local), (x, NameKind.local)]) (hx : (x == (".0" : Str)) = false) : GxR.GenS env scope x := by
  refine ⟨hk, hc, fun y hy => ?_, ?_, ?_, fun y hy e => ?_⟩
  · rw [hn] at hy
    rcases List.mem_cons.mp hy with z | z
    · rw [z]; exact fun q => nomatch q
    · rw [List.mem_singleton.mp z]; exact fun q => nomatch q
  · rw [hn]
    rfl
  · rw [hn]
    show (match x == (".0" : Str) with | true => some NameKind.local | false => List.lookup x [(x, NameKind.local)]) = some NameKind.local
    rw [hx]
    show (match x == x with | true => some NameKind.local | false => List.lookup x []) = some NameKind.local
    rw [beq_self_eq_true]
  · rw [hn] at hy
    rcases List.mem_cons.mp hy with z | z
    · rw [z] at e; exact nomatch e
    · rw [List.mem_singleton.mp z] at e; exact nomatch e
theorem ok_isname {fd : FuncData} {k0 : Nat} (F : FnP K "is_name" "is_name" s_is_name (He.fAd K ("is_name", none)) fd) (TB : GxR.TabB base mg (cIsName K) (tbOf K)) {tl : Tok}
    (hml : mg "MOST_LETTERS" = some (.int 8 tl)) (hty : mg "type" = none) (hstr : mg "str" = none) (hlen : mg "len" = none) (hall : mg "all" = none) :
    FnOk P w K mg base CX0 (k0 + 1) (He.fAd K ("is_name", none)) fd ["value"] (spIsName K) := by
  refine okC (p := ("is_name", none)) rfl F sc_isname (fun vs H Q E h => ?_) (fun cdv A outer s H vs Q E hcd hr h => ?_)
  · obtain ⟨x, T, rfl, _⟩ := h
    rfl
  · obtain ⟨x, T, rfl, ty, tok, hsz, tab, q⟩ := h
    refine ⟨_, PSs.nox (pss_cons (ps_if (PW.pt (pw_or (pt_cmpR (op_neTy (hu_of hr)) (pe_callTy call_type1 (by rfl) hty (by decide +kernel) (pa_cons (pv 0) pa_nil)) (pe_bltn (v := .ty "str") (by rfl) hstr (by decide +kernel) rfl) (nomark _))
        (pw_or1 (pt_not (pt_chain op_le op_le pe_int (pe_callB call_len_str (by rfl) hlen PySem.boot_len (pa_cons (pv 0) pa_nil)) (pe_glob (v := .int 8) rfl hml ⟨_, rfl⟩))))))
        (pss_one (ps_ret pe_bl)) pss_nil)
      (pss_one (ps_ret (GxR.pe_allS hr (by rfl) hall (by decide +kernel) TB hcd (genS_of rfl rfl rfl (by decide +kernel)) (pv 0) (elt_low rfl (by decide +kernel)) (fun _ => rfl))))), ?_⟩
    refine ⟨_, rfl, x, T, rfl, ty, _, _, rfl, rfl, tok, by decide, _, rfl, ?_⟩
    by_cases hT : T = "str"
    · have ex : ∃ z, x = .str z := by
        cases ty with
        | str z => exact ⟨z, rfl⟩
        | _ => exact absurd hT (by decide)
      rw [decide_eq_true hT]
      refine iteF ?_
      obtain ⟨z, rfl⟩ := ex
      · have hz := hsz z rfl
        refine ⟨_, rfl, z, rfl, hz, _, _, rfl, rfl, _, rfl, ?_⟩
        cases h1 : decide ((1 : Int) ≤ (z.length : Int)) with
        | false =>
          have := of_decide_eq_false h1
          refine iteF ⟨_, rfl, iteT ?_⟩
          have e : isNameV (.str z) = false := by
            show isNameB z = false
            unfold isNameB
            rw [decide_eq_false (by omega)]
            rfl
          have qq := q H (Kp.refl _)
          rw [e] at qq
          exact qq
        | true =>
          refine iteT ⟨_, _, rfl, rfl, _, rfl, ?_⟩
          have h1' := of_decide_eq_true h1
          cases h8 : decide ((z.length : Int) ≤ 8) with
          | false =>
            have := of_decide_eq_false h8
            refine iteT ?_
            have e : isNameV (.str z) = false := by
              show isNameB z = false
              unfold isNameB
              rw [decide_eq_false (p := z.length ≤ 8) (by omega), Bool.and_false]
              rfl
            have qq := q H (Kp.refl _)
            rw [e] at qq
            exact qq
          | true =>
            have h8' := of_decide_eq_true h8
            refine iteF ⟨_, rfl, z, rfl, tab, fun H2 hT2 => ?_⟩
            have e : isNameV (.str z) = z.cps.toList.all lowB := by
              show isNameB z = _
              unfold isNameB
              rw [decide_eq_true (p := 1 ≤ z.length) (by omega), decide_eq_true (p := z.length ≤ 8) (by omega)]
              rfl
            have qq := q H2 (Kp.tabbed tab hT2)
            rw [e] at qq
            exact qq
    · rw [decide_eq_false hT]
      refine iteT ?_
      have e : isNameV x = false := by
        cases ty with
        | str z => exact absurd rfl hT
        | _ => rfl
      have qq := q H (Kp.refl _)
      rw [e] at qq
      exact qq
def spCheckName (K : PySem.W.Frag) : Sp := fun vs H Q _ => ∃ z : Str, vs = [.str z] ∧ IsName z ∧ GxR.TabG H (tbOf K) ∧ ∀ H', Kp (tbOf K) [] H H' → Q .non H'
theorem sc_checkname : FnScope ["name"] ["name"] (defScope s_check_name) := ⟨rfl, rfl, rfl, by decide +kernel, rfl, by decide +kernel, by decide +kernel⟩
theorem ok_checkname {f : Addr} {fd : FuncData} {k0 : Nat} (F : FnP K "check_name" "check_name" s_check_name f fd) (G : Glob P w K mg base CX0 (k0 + 1) "is_name" ["value"] (spIsName K)) :
    FnOk P w K mg base CX0 (k0 + 2) f fd ["name"] (spCheckName K) := by
  refine ok0 F sc_checkname (fun vs H Q E h => ?_) (fun cdv A outer s H vs Q E hr h => ?_)
  · obtain ⟨z, rfl, _⟩ := h
    rfl
  · obtain ⟨z, rfl, hz, tab, q⟩ := h
    refine ⟨_, pss_one (ps_if (pt_not (pt_val (pe_callG G hr (by rfl) pass0 (pa_cons (pv 0) pa_nil)))) (pss_one ps_never) pss_nil), ?_⟩
    refine ⟨_, rfl, _, _, rfl, .str z, rfl, fun z' e => ?_, tab, fun H' kp => ⟨_, rfl, ?_⟩⟩
    · cases e
      exact Nat.le_of_lt (small_of (m := 8) hz.2.1)
    · rw [show isNameV (.str z) = true from isNameB_of hz]
      exact iteF (q H' kp)
def spCheckPlaces : Sp := fun vs H Q _ => ∃ n : Int, vs = [.int n] ∧ 1 ≤ n ∧ n ≤ 20 ∧ Q .non H
theorem sc_checkplaces : FnScope ["places"] ["places"] (defScope s_check_places) := ⟨rfl, rfl, rfl, by decide +kernel, rfl, by decide +kernel, by decide +kernel⟩
theorem ok_checkplaces {f : Addr} {fd : FuncData} {k0 : Nat} (F : FnP K "check_places" "check_places" s_check_places f fd) {tl : Tok}
    (hmp : mg "MOST_PLACES" = some (.int 20 tl)) (hty : mg "type" = none) (hint : mg "int" = none) : FnOk P w K mg base CX0 (k0 + 1) f fd ["places"] spCheckPlaces := by
  refine ok0 F sc_checkplaces (fun vs H Q E h => ?_) (fun cdv A outer s H vs Q E hr h => ?_)
  · obtain ⟨n, rfl, _⟩ := h
    rfl
  · obtain ⟨n, rfl, n0, n1, q⟩ := h
    refine ⟨_, pss_one (ps_if (PW.pt (pw_or (pt_cmpR (op_neTy (hu_of hr)) (pe_callTy call_type1 (by rfl) hty (by decide +kernel) (pa_cons (pv 0) pa_nil)) (pe_bltn (v := .ty "int") (by rfl) hint (by decide +kernel) rfl) (nomark _))
        (pw_or1 (pt_not (pt_chain op_le op_le pe_int (pv 0) (pe_glob (v := .int 20) rfl hmp ⟨_, rfl⟩))))))
        (pss_one ps_never) pss_nil), ?_⟩
    refine ⟨_, rfl, .int n, "int", rfl, .int n, _, _, rfl, rfl, by decide, by decide, _, rfl, ?_⟩
    refine iteF ⟨_, rfl, _, _, rfl, rfl, _, rfl, ?_⟩
    rw [decide_eq_true n0]
    refine iteT ⟨_, _, rfl, rfl, _, rfl, ?_⟩
    rw [decide_eq_true n1]
    exact iteF q
end
end Kf

namespace Kf
open PySem PySem.Spec PyProof.Rows L2
/-! ### shelves: what stands in the heap -/
def oF (n : Int) (l : Addr) (m k : Int) (ext : List (Str × V)) : List (Str × V) := ("_size", .int n) :: ("_row", .ref l) :: ("_met", .int m) :: ("_missed", .int k) :: ext
theorem oF_size (n : Int) (l : Addr) (m k : Int) (ext : List (Str × V)) : (oF n l m k ext).lookup ("_size" : Str) = some (.int n) := by kernel_rfl
theorem oF_row (n : Int) (l : Addr) (m k : Int) (ext : List (Str × V)) : (oF n l m k ext).lookup ("_row" : Str) = some (.ref l) := by kernel_rfl
theorem oF_met (n : Int) (l : Addr) (m k : Int) (ext : List (Str × V)) : (oF n l m k ext).lookup ("_met" : Str) = some (.int m) := by kernel_rfl
theorem oF_missed (n : Int) (l : Addr) (m k : Int) (ext : List (Str × V)) : (oF n l m k ext).lookup ("_missed" : Str) = some (.int k) := by kernel_rfl
theorem oF_put_met (n : Int) (l : Addr) (m k m' : Int) (ext : List (Str × V)) : putF "_met" (.int m') (oF n l m k ext) = oF n l m' k ext := by kernel_rfl
theorem oF_put_missed (n : Int) (l : Addr) (m k k' : Int) (ext : List (Str × V)) : putF "_missed" (.int k') (oF n l m k ext) = oF n l m k' ext := by kernel_rfl
theorem oF_init (n : Int) (l : Addr) : putF "_missed" (.int 0) (putF "_met" (.int 0) (putF "_row" (.ref l) (putF "_size" (.int n) []))) = oF n l 0 0 [] := by kernel_rfl
theorem oF_wish (n : Int) (l : Addr) (m k : Int) (ext : List (Str × V)) : (oF n l m k ext).lookup ("wish" : Str) = ext.lookup ("wish" : Str) := by kernel_rfl
theorem oF_free (n : Int) (l : Addr) (m k : Int) (ext : List (Str × V)) : (oF n l m k ext).lookup ("_free_a_place" : Str) = ext.lookup ("_free_a_place" : Str) := by kernel_rfl
theorem oF_pick (n : Int) (l : Addr) (m k : Int) (ext : List (Str × V)) : (oF n l m k ext).lookup ("_pick_going" : Str) = ext.lookup ("_pick_going" : Str) := by kernel_rfl
theorem oF_note (n : Int) (l : Addr) (m k : Int) (ext : List (Str × V)) : (oF n l m k ext).lookup ("_note_wish" : Str) = ext.lookup ("_note_wish" : Str) := by kernel_rfl
theorem oF_places (n : Int) (l : Addr) (m k : Int) (ext : List (Str × V)) : (oF n l m k ext).lookup ("places" : Str) = ext.lookup ("places" : Str) := by kernel_rfl
theorem oF_things (n : Int) (l : Addr) (m k : Int) (ext : List (Str × V)) : (oF n l m k ext).lookup ("things" : Str) = ext.lookup ("things" : Str) := by kernel_rfl
theorem oF_nmet (n : Int) (l : Addr) (m k : Int) (ext : List (Str × V)) : (oF n l m k ext).lookup ("met" : Str) = ext.lookup ("met" : Str) := by kernel_rfl
theorem oF_nmissed (n : Int) (l : Addr) (m k : Int) (ext : List (Str × V)) : (oF n l m k ext).lookup ("missed" : Str) = ext.lookup ("missed" : Str) := by kernel_rfl
theorem oF_order (n : Int) (l : Addr) (m k : Int) (ext : List (Str × V)) : (oF n l m k ext).lookup ("order" : Str) = ext.lookup ("order" : Str) := by kernel_rfl
/-- a shelf of the class at C: n places, its list at l, what is there, how many were met and missed, further attributes -/
structure ShAt (C : Addr) (H : Hp) (p : Addr) (n : Int) (l : Addr) (row : List Str) (m k : Int) (ext : List (Str × V)) : Prop where
  ob : ∃ dx, H p = some (.ins C dx (oF n l m k ext))
  ls : H l = some (.lst (row.map V.str))
theorem ShAt.ne {C : Addr} {H : Hp} {p l : Addr} {n m k : Int} {row : List Str} {ext : List (Str × V)} (h : ShAt C H p n l row m k ext) : p ≠ l := by
  obtain ⟨⟨dx, h1⟩, h2⟩ := h
  exact ne_of h1 h2 (by intro z; cases z)
theorem ShAt.kp {C : Addr} {H H' : Hp} {tb : Addr} {S : List Addr} {p l : Addr} {n m k : Int} {row : List Str} {ext : List (Str × V)} (h : ShAt C H p n l row m k ext) (kp : Kp tb S H H') (hp : p ∉ S := by simp) (hl : l ∉ S := by simp) : ShAt C H' p n l row m k ext := by
  obtain ⟨⟨dx, h1⟩, h2⟩ := h
  exact ⟨⟨dx, kp.get h1 rfl hp⟩, kp.get h2 rfl hl⟩
theorem inV_str (z : Str) : ∀ row : List Str, inV (.str z) (row.map V.str) = decide (z ∈ row)
  | [] => rfl
  | y :: r => by
    have ih := inV_str z r
    show (eqV (.str y) (.str z) || (r.map V.str).any fun y => eqV y (.str z)) = _
    rw [show ((r.map V.str).any fun y => eqV y (.str z)) = decide (z ∈ r) from ih]
    show ((y == z) || decide (z ∈ r)) = decide (z ∈ y :: r)
    by_cases e : y = z
    · subst e
      simp
    · rw [beq_eq_false_iff_ne.mpr e, Bool.false_or]
      exact decide_eq_decide.mpr ⟨fun h => List.mem_cons_of_mem _ h, fun h => (List.mem_cons.mp h).elim (fun q => absurd q.symm e) id⟩
theorem flat_strs : ∀ row : List Str, (row.map V.str).all flatV = true
  | [] => rfl
  | _ :: r => flat_strs r
def optV : Option Str → V
  | none => .non
  | some z => .str z

/-- what is known of a class of shelves -/
structure ClsT (K : PySem.W.Frag) (C : Addr) : Prop where
  cl : Cls K C
  nS : NoAttr K C "_size"
  nR : NoAttr K C "_row"
  nM : NoAttr K C "_met"
  nK : NoAttr K C "_missed"
section
variable {P : Program} {w : World} {K : PySem.W.Frag} {mg : Str → Option Value} {base : Heap} {tb C : Addr}
/-! ### Shelf.__init__ -/
def spInit (tb C : Addr) : Sp := fun vs H Q _ => ∃ (p dx : Addr) (n : Int), vs = [.ref p, .int n] ∧ 1 ≤ n ∧ n ≤ 20 ∧ H p = some (.ins C dx []) ∧
  ∀ (l : Addr) (H' : Hp), H l = none → (∃ dx, H' p = some (.ins C dx (oF n l 0 0 []))) → H' l = some (.lst []) → Kp tb [p] H H' → Q .non H'
theorem sc_init : FnScope ["self", "places"] ["self", "places"] (defScope s_Shelf___init__) := ⟨rfl, rfl, rfl, by decide +kernel, rfl, by decide +kernel, by decide +kernel⟩
theorem ok_init {f : Addr} {fd : FuncData} {k0 : Nat} (F : FnP K "__init__" "Shelf.__init__" s_Shelf___init__ f fd) (T : ClsT K C) (G : Glob P w K mg base CX0 (k0 + 1) "check_places" ["places"] spCheckPlaces) :
    FnOk P w K mg base CX0 (k0 + 2) f fd ["self", "places"] (spInit tb C) := by
  refine ok0 F sc_init (fun vs H Q E h => ?_) (fun cdv A outer s H vs Q E hr h => ?_)
  · obtain ⟨p, dx, n, rfl, _⟩ := h
    rfl
  · obtain ⟨p, dx, n, rfl, n0, n1, hp, q⟩ := h
    refine ⟨_, pss_cons (ps_expr (pe_callG G hr (by rfl) pass0 (pa_cons (pv 1) pa_nil))) (pss_cons (ps_fld (pv 0) (pv 1) rfl) (pss_cons (ps_fld (pv 0) (pe_lst pa_nil) rfl)
      (pss_cons (ps_fld (pv 0) pe_int rfl) (pss_one (ps_fld (pv 0) pe_int rfl))))), ?_⟩
    refine ⟨_, rfl, n, rfl, n0, n1, ?_⟩
    refine ⟨_, rfl, _, rfl, p, C, dx, [], rfl, hp, T.cl, T.nS, (by show 0 < 1000; decide), ?_⟩
    refine ⟨Nat.zero_le _, fun l hl => ?_⟩
    have hl0 : H l = none := free_upd hl
    have npl : p ≠ l := ne_of_none hp hl0
    refine ⟨_, rfl, p, C, dx, _, rfl, Eq.trans (upd_ne npl) upd_same, T.cl, T.nR, (by show 1 < 1000; decide), ?_⟩
    refine ⟨_, rfl, p, C, dx, _, rfl, upd_same, T.cl, T.nM, (by show 2 < 1000; decide), ?_⟩
    refine ⟨_, rfl, p, C, dx, _, rfl, upd_same, T.cl, T.nK, (by show 3 < 1000; decide), ?_⟩
    refine q l _ hl0 ⟨dx, by rw [upd_same, oF_init]⟩ (by rw [upd_ne npl.symm, upd_ne npl.symm, upd_ne npl.symm, upd_same]) ?_
    have k1 : Kp tb [p] H (upd H p (.ins C dx (putF "_size" (.int n) []))) := Kp.put hp
    have k2 := k1.step (o := .lst []) hl
    have h3 : (upd (upd H p (.ins C dx (putF "_size" (.int n) []))) l (.lst [])) p = some (.ins C dx (putF "_size" (.int n) [])) := Eq.trans (upd_ne npl) upd_same
    exact ((k2.trans (Kp.put h3)).trans (Kp.put upd_same)).trans (Kp.put upd_same)
/-! ### what a shelf tells -/
def spInt (C : Addr) (g : Int → Int → Int → Int) : Sp := fun vs H Q _ => ∃ (p l : Addr) (n m k : Int) (ext : List (Str × V)), vs = [.ref p] ∧ (∃ dx, H p = some (.ins C dx (oF n l m k ext))) ∧ Q (.int (g n m k)) H
theorem sc_places_ : FnScope ["self"] ["self"] (defScope s_Shelf_places) := ⟨rfl, rfl, rfl, by decide +kernel, rfl, by decide +kernel, by decide +kernel⟩
theorem ok_places_ {f : Addr} {fd : FuncData} {k0 : Nat} (F : FnP K "places" "Shelf.places" s_Shelf_places f fd) (T : ClsT K C) : FnOk P w K mg base CX0 (k0 + 1) f fd ["self"] (spInt C fun n _ _ => n) := by
  refine ok0 F sc_places_ (fun vs H Q E h => ?_) (fun cdv A outer s H vs Q E hr h => ?_)
  · obtain ⟨p, l, n, m, k, ext, rfl, _⟩ := h
    rfl
  · obtain ⟨p, l, n, m, k, ext, rfl, ⟨dx, hp⟩, q⟩ := h
    exact ⟨_, pss_one (ps_ret (pe_fld (pv 0) rfl)), _, rfl, p, C, dx, _, _, rfl, hp, T.cl, T.nS, oF_size .., q⟩
theorem sc_met : FnScope ["self"] ["self"] (defScope s_Shelf_met) := ⟨rfl, rfl, rfl, by decide +kernel, rfl, by decide +kernel, by decide +kernel⟩
theorem ok_met {f : Addr} {fd : FuncData} {k0 : Nat} (F : FnP K "met" "Shelf.met" s_Shelf_met f fd) (T : ClsT K C) : FnOk P w K mg base CX0 (k0 + 1) f fd ["self"] (spInt C fun _ m _ => m) := by
  refine ok0 F sc_met (fun vs H Q E h => ?_) (fun cdv A outer s H vs Q E hr h => ?_)
  · obtain ⟨p, l, n, m, k, ext, rfl, _⟩ := h
    rfl
  · obtain ⟨p, l, n, m, k, ext, rfl, ⟨dx, hp⟩, q⟩ := h
    exact ⟨_, pss_one (ps_ret (pe_fld (pv 0) rfl)), _, rfl, p, C, dx, _, _, rfl, hp, T.cl, T.nM, oF_met .., q⟩
theorem sc_missed : FnScope ["self"] ["self"] (defScope s_Shelf_missed) := ⟨rfl, rfl, rfl, by decide +kernel, rfl, by decide +kernel, by decide +kernel⟩
theorem ok_missed {f : Addr} {fd : FuncData} {k0 : Nat} (F : FnP K "missed" "Shelf.missed" s_Shelf_missed f fd) (T : ClsT K C) : FnOk P w K mg base CX0 (k0 + 1) f fd ["self"] (spInt C fun _ _ k => k) := by
  refine ok0 F sc_missed (fun vs H Q E h => ?_) (fun cdv A outer s H vs Q E hr h => ?_)
  · obtain ⟨p, l, n, m, k, ext, rfl, _⟩ := h
    rfl
  · obtain ⟨p, l, n, m, k, ext, rfl, ⟨dx, hp⟩, q⟩ := h
    exact ⟨_, pss_one (ps_ret (pe_fld (pv 0) rfl)), _, rfl, p, C, dx, _, _, rfl, hp, T.cl, T.nK, oF_missed .., q⟩
/-- a new list, made of what is there -/
def spList (tb C : Addr) (g : List Str → List Str) : Sp := fun vs H Q _ => ∃ (p l : Addr) (n m k : Int) (row : List Str) (ext : List (Str × V)), vs = [.ref p] ∧ ShAt C H p n l row m k ext ∧ row.length < 64 ∧
  ∀ (o : Addr) (H' : Hp), H o = none → H' o = some (.lst ((g row).map V.str)) → Kp tb [] H H' → Q (.ref o) H'
theorem sc_things : FnScope ["self"] ["self"] (defScope s_Shelf_things) := ⟨rfl, rfl, rfl, by decide +kernel, rfl, by decide +kernel, by decide +kernel⟩
theorem ok_things {f : Addr} {fd : FuncData} {k0 : Nat} (F : FnP K "things" "Shelf.things" s_Shelf_things f fd) (T : ClsT K C) (hs : mg "sorted" = none) : FnOk P w K mg base CX0 (k0 + 1) f fd ["self"] (spList tb C sortS) := by
  refine ok0 F sc_things (fun vs H Q E h => ?_) (fun cdv A outer s H vs Q E hr h => ?_)
  · obtain ⟨p, l, n, m, k, row, ext, rfl, _⟩ := h
    rfl
  · obtain ⟨p, l, n, m, k, row, ext, rfl, S, h64, q⟩ := h
    obtain ⟨⟨dx, hp⟩, hl⟩ := id S
    refine ⟨_, pss_one (ps_ret (pe_callB cr_sortS (by rfl) hs (by decide +kernel) (pa_cons (pe_fld (pv 0) rfl) pa_nil))), ?_⟩
    refine ⟨_, rfl, p, C, dx, _, _, rfl, hp, T.cl, T.nR, oF_row .., l, row, rfl, SqL.of hl, h64, fun o ho => ?_⟩
    exact q o _ ho upd_same (Kp.new ho)
end
end Kf

namespace Kf
open PySem PySem.Spec PyProof.Rows L2
/-! ### old and cold shelves -/
/-- one wish: met, what went, what is there then; nf: what the rule does with the row behind a wish -/
def stepOC (nf : Str → List Str → List Str) (n : Int) (row : List Str) (z : Str) : Bool × Option Str × List Str :=
  if z ∈ row then (true, none, nf z row)
  else if (row.length : Int) < n then (false, none, nf z (row ++ [z])) else (false, row.head?, nf z (row.tail ++ [z]))
def nfOld (_ : Str) (row : List Str) : List Str := row
def nfCold (z : Str) (row : List Str) : List Str := row.erase z ++ [z]
section
variable {P : Program} {w : World} {K : PySem.W.Frag} {mg : Str → Option Value} {base : Heap} {tb C : Addr}
theorem atI_zero (x : V) (r : List V) : atI (x :: r) 0 = some x := by
  have h : atI (x :: r) ((0 : Nat) : Int) = some x := atI_nat rfl
  exact h
/-- list(self._row) -/
theorem sc_oorder : FnScope ["self"] ["self"] (defScope s_Old_order) := ⟨rfl, rfl, rfl, by decide +kernel, rfl, by decide +kernel, by decide +kernel⟩
theorem ok_oorder {f : Addr} {fd : FuncData} {k0 : Nat} (F : FnP K "order" "Old.order" s_Old_order f fd) (T : ClsT K C) (hs : mg "list" = none) : FnOk P w K mg base CX0 (k0 + 1) f fd ["self"] (spList tb C fun r => r) := by
  refine ok0 F sc_oorder (fun vs H Q E h => ?_) (fun cdv A outer s H vs Q E hr h => ?_)
  · obtain ⟨p, l, n, m, k, row, ext, rfl, _⟩ := h
    rfl
  · obtain ⟨p, l, n, m, k, row, ext, rfl, S, h64, q⟩ := h
    obtain ⟨⟨dx, hp⟩, hl⟩ := id S
    refine ⟨_, pss_one (ps_ret (pe_callTy call_list_of (by rfl) hs (by decide +kernel) (pa_cons (pe_fld (pv 0) rfl) pa_nil))), ?_⟩
    refine ⟨_, rfl, p, C, dx, _, _, rfl, hp, T.cl, T.nR, oF_row .., l, _, rfl, .inl (SqL.of hl), fun o ho => ?_⟩
    exact q o _ ho upd_same (Kp.new ho)
theorem sc_corder : FnScope ["self"] ["self"] (defScope s_Cold_order) := ⟨rfl, rfl, rfl, by decide +kernel, rfl, by decide +kernel, by decide +kernel⟩
theorem ok_corder {f : Addr} {fd : FuncData} {k0 : Nat} (F : FnP K "order" "Cold.order" s_Cold_order f fd) (T : ClsT K C) (hs : mg "list" = none) : FnOk P w K mg base CX0 (k0 + 1) f fd ["self"] (spList tb C fun r => r) := by
  refine ok0 F sc_corder (fun vs H Q E h => ?_) (fun cdv A outer s H vs Q E hr h => ?_)
  · obtain ⟨p, l, n, m, k, row, ext, rfl, _⟩ := h
    rfl
  · obtain ⟨p, l, n, m, k, row, ext, rfl, S, h64, q⟩ := h
    obtain ⟨⟨dx, hp⟩, hl⟩ := id S
    refine ⟨_, pss_one (ps_ret (pe_callTy call_list_of (by rfl) hs (by decide +kernel) (pa_cons (pe_fld (pv 0) rfl) pa_nil))), ?_⟩
    refine ⟨_, rfl, p, C, dx, _, _, rfl, hp, T.cl, T.nR, oF_row .., l, _, rfl, .inl (SqL.of hl), fun o ho => ?_⟩
    exact q o _ ho upd_same (Kp.new ho)
/-- self._row[0] -/
def spPickOC (C : Addr) : Sp := fun vs H Q _ => ∃ (p l : Addr) (n m k : Int) (g : Str) (r : List Str) (ext : List (Str × V)), vs = [.ref p] ∧ ShAt C H p n l (g :: r) m k ext ∧ Q (.str g) H
theorem sc_opick : FnScope ["self"] ["self"] (defScope s_Old__pick_going) := ⟨rfl, rfl, rfl, by decide +kernel, rfl, by decide +kernel, by decide +kernel⟩
theorem ok_opick {f : Addr} {fd : FuncData} {k0 : Nat} (F : FnP K "_pick_going" "Old._pick_going" s_Old__pick_going f fd) (T : ClsT K C) : FnOk P w K mg base CX0 (k0 + 1) f fd ["self"] (spPickOC C) := by
  refine ok0 F sc_opick (fun vs H Q E h => ?_) (fun cdv A outer s H vs Q E hr h => ?_)
  · obtain ⟨p, l, n, m, k, g, r, ext, rfl, _⟩ := h
    rfl
  · obtain ⟨p, l, n, m, k, g, r, ext, rfl, S, q⟩ := h
    obtain ⟨⟨dx, hp⟩, hl⟩ := id S
    refine ⟨_, pss_one (ps_ret (pe_ix ix_list (pe_fld (pv 0) rfl) pe_int (fun _ _ => rfl))), ?_⟩
    exact ⟨_, rfl, p, C, dx, _, _, rfl, hp, T.cl, T.nR, oF_row .., l, _, 0, _, rfl, rfl, SqL.of hl, atI_zero _ _, q⟩
theorem sc_cpick : FnScope ["self"] ["self"] (defScope s_Cold__pick_going) := ⟨rfl, rfl, rfl, by decide +kernel, rfl, by decide +kernel, by decide +kernel⟩
theorem ok_cpick {f : Addr} {fd : FuncData} {k0 : Nat} (F : FnP K "_pick_going" "Cold._pick_going" s_Cold__pick_going f fd) (T : ClsT K C) : FnOk P w K mg base CX0 (k0 + 1) f fd ["self"] (spPickOC C) := by
  refine ok0 F sc_cpick (fun vs H Q E h => ?_) (fun cdv A outer s H vs Q E hr h => ?_)
  · obtain ⟨p, l, n, m, k, g, r, ext, rfl, _⟩ := h
    rfl
  · obtain ⟨p, l, n, m, k, g, r, ext, rfl, S, q⟩ := h
    obtain ⟨⟨dx, hp⟩, hl⟩ := id S
    refine ⟨_, pss_one (ps_ret (pe_ix ix_list (pe_fld (pv 0) rfl) pe_int (fun _ _ => rfl))), ?_⟩
    exact ⟨_, rfl, p, C, dx, _, _, rfl, hp, T.cl, T.nR, oF_row .., l, _, 0, _, rfl, rfl, SqL.of hl, atI_zero _ _, q⟩
/-- _note_wish -/
def spNoteOC (nf : Str → List Str → List Str) (tb C : Addr) : Sp := fun vs H Q _ => ∃ (p l : Addr) (n m k : Int) (z : Str) (row : List Str), vs = [.ref p, .str z] ∧ ShAt C H p n l row m k [] ∧ z ∈ row ∧ row.length ≤ 20 ∧
  ∀ H', ShAt C H' p n l (nf z row) m k [] → Kp tb [l] H H' → Q .non H'
theorem sc_note : FnScope ["self", "name"] ["self", "name"] (defScope s_Shelf__note_wish) := ⟨rfl, rfl, rfl, by decide +kernel, rfl, by decide +kernel, by decide +kernel⟩
theorem ok_note {f : Addr} {fd : FuncData} {k0 : Nat} (F : FnP K "_note_wish" "Shelf._note_wish" s_Shelf__note_wish f fd) : FnOk P w K mg base CX0 (k0 + 1) f fd ["self", "name"] (spNoteOC nfOld tb C) := by
  refine ok0 F sc_note (fun vs H Q E h => ?_) (fun cdv A outer s H vs Q E hr h => ?_)
  · obtain ⟨p, l, n, m, k, z, row, rfl, _⟩ := h
    rfl
  · obtain ⟨p, l, n, m, k, z, row, rfl, S, hz, hl, q⟩ := h
    exact ⟨_, pss_one ps_pass, q H S (Kp.refl _)⟩
theorem sc_cnote : FnScope ["self", "name"] ["self", "name"] (defScope s_Cold__note_wish) := ⟨rfl, rfl, rfl, by decide +kernel, rfl, by decide +kernel, by decide +kernel⟩
theorem ok_cnote {f : Addr} {fd : FuncData} {k0 : Nat} (F : FnP K "_note_wish" "Cold._note_wish" s_Cold__note_wish f fd) (T : ClsT K C) : FnOk P w K mg base CX0 (k0 + 1) f fd ["self", "name"] (spNoteOC nfCold tb C) := by
  refine ok0 F sc_cnote (fun vs H Q E h => ?_) (fun cdv A outer s H vs Q E hr h => ?_)
  · obtain ⟨p, l, n, m, k, z, row, rfl, _⟩ := h
    rfl
  · obtain ⟨p, l, n, m, k, z, row, rfl, S, hz, hlen, q⟩ := h
    obtain ⟨⟨dx, hp⟩, hl⟩ := id S
    have npl := S.ne
    refine ⟨_, pss_cons (ps_expr (pe_bm PySem.F.plainAttrs_list PySem.F.slot_list_remove PySem.F.type_list_remove mt_removeS (pe_fld (pv 0) rfl) (pa_cons (pv 1) pa_nil)))
      (pss_one (ps_expr (pe_bm PySem.F.plainAttrs_list PySem.F.slot_list_append PySem.F.type_list_append mt_append (pe_fld (pv 0) rfl) (pa_cons (pv 1) pa_nil)))), ?_⟩
    refine ⟨_, rfl, p, C, dx, _, _, rfl, hp, T.cl, T.nR, oF_row .., .inl ⟨rfl, _, SqL.of hl⟩, _, rfl, l, row, z, rfl, rfl, hl, hz, ?_⟩
    have hp1 : (upd H l (.lst ((row.erase z).map V.str))) p = some (.ins C dx (oF n l m k [])) := by rw [upd_ne npl]; exact hp
    refine ⟨_, rfl, p, C, dx, _, _, rfl, hp1, T.cl, T.nR, oF_row .., .inl ⟨rfl, _, SqL.of upd_same⟩, _, rfl, l, _, _, rfl, rfl, upd_same, ?_, ?_⟩
    · rw [List.length_map]
      exact small_of (m := 20) (Nat.le_trans (List.length_erase_le) hlen)
    · refine q _ ⟨⟨dx, by rw [upd_ne npl]; exact hp1⟩, by rw [upd_same]; unfold nfCold; rw [List.map_append]; rfl⟩ ?_
      exact (Kp.put hl).trans (Kp.put upd_same)
/-- _free_a_place -/
def spFreeOC (tb C : Addr) : Sp := fun vs H Q _ => ∃ (p l : Addr) (n m k : Int) (row : List Str), vs = [.ref p] ∧ ShAt C H p n l row m k [] ∧ 1 ≤ n ∧ ((row.length : Int) < n → Q .non H) ∧
  (¬ (row.length : Int) < n → ∀ (g : Str) (r : List Str) (H' : Hp), row = g :: r → ShAt C H' p n l r m k [] → Kp tb [l] H H' → Q (.str g) H')
theorem sc_free : FnScope ["self", "gone"] ["self"] (defScope s_Shelf__free_a_place) := ⟨rfl, rfl, rfl, by decide +kernel, rfl, by decide +kernel, by decide +kernel⟩
theorem ok_freeOC {f : Addr} {fd : FuncData} {k0 : Nat} (F : FnP K "_free_a_place" "Shelf._free_a_place" s_Shelf__free_a_place f fd) (T : ClsT K C) (hlen : mg "len" = none) (G : MethOk P w K mg base CX0 (k0 + 1) C "_pick_going" ["self"] (spPickOC C)) :
    FnOk P w K mg base CX0 (k0 + 2) f fd ["self"] (spFreeOC tb C) := by
  refine ok0 F sc_free (fun vs H Q E h => ?_) (fun cdv A outer s H vs Q E hr h => ?_)
  · obtain ⟨p, l, n, m, k, row, rfl, _⟩ := h
    rfl
  · obtain ⟨p, l, n, m, k, row, rfl, S, n0, q1, q2⟩ := h
    obtain ⟨⟨dx, hp⟩, hl⟩ := id S
    refine ⟨_, pss_cons (ps_if (pt_cmpR op_lt (pe_callB call_len_seq (by rfl) hlen PySem.boot_len (pa_cons (pe_fld (pv 0) rfl) pa_nil)) (pe_fld (pv 0) rfl) (nomark _)) (pss_one (ps_ret pe_non)) pss_nil)
      (pss_cons (ps_set (i := 1) sc_free.nd rfl (.inl rfl) (pe_meth0G (pv 0) G hr pass0))
      (pss_cons (ps_expr (pe_bm PySem.F.plainAttrs_list PySem.F.slot_list_remove PySem.F.type_list_remove mt_removeS (pe_fld (pv 0) rfl) (pa_cons (pv 1) pa_nil)))
      (pss_one (ps_ret (pv 1))))), ?_⟩
    refine ⟨_, rfl, p, C, dx, _, _, rfl, hp, T.cl, T.nR, oF_row .., l, _, rfl, .inl (SqL.of hl), _, rfl, p, C, dx, _, _, rfl, hp, T.cl, T.nS, oF_size .., _, _, rfl, rfl, _, rfl, ?_⟩
    rw [List.length_map]
    refine ite2 (fun hlt => q1 (of_decide_eq_true hlt)) (fun hge => ?_)
    have hge' : ¬ (row.length : Int) < n := fun z => hge (decide_eq_true z)
    cases row with
    | nil => exact absurd (show ((List.length ([] : List Str) : Nat) : Int) < n by simp; omega) hge'
    | cons g r =>
      refine ⟨_, rfl, p, dx, _, rfl, hp, by rw [oF_pick]; rfl, p, l, n, m, k, g, r, [], rfl, S, ?_⟩
      refine ⟨_, rfl, p, C, dx, _, _, rfl, hp, T.cl, T.nR, oF_row .., .inl ⟨rfl, _, SqL.of hl⟩, _, rfl, l, g :: r, g, rfl, rfl, hl, List.mem_cons_self, ?_⟩
      rw [List.erase_cons_head]
      refine ⟨_, rfl, q2 hge' g r _ rfl ⟨⟨dx, by rw [upd_ne S.ne]; exact hp⟩, upd_same⟩ (Kp.put hl)⟩
/-- wish -/
def spWishOC (nf : Str → List Str → List Str) (tb C : Addr) : Sp := fun vs H Q _ => ∃ (p l : Addr) (n m k : Int) (z : Str) (row : List Str), vs = [.ref p, .str z] ∧ ShAt C H p n l row m k [] ∧ 1 ≤ n ∧ n ≤ 20 ∧ (row.length : Int) ≤ n ∧ IsName z ∧ GxR.TabG H tb ∧
  ∀ (t : Addr) (H' : Hp), ShAt C H' p n l (stepOC nf n row z).2.2 (if (stepOC nf n row z).1 then m + 1 else m) (if (stepOC nf n row z).1 then k else k + 1) [] → Kp tb [p, l] H H' → H t = none →
    H' t = some (.tup [.bl (stepOC nf n row z).1, optV (stepOC nf n row z).2.1]) → Q (.ref t) H'
theorem sc_wish : FnScope ["self", "name", "met", "gone"] ["self", "name"] (defScope s_Shelf_wish) := ⟨rfl, rfl, rfl, by decide +kernel, rfl, by decide +kernel, by decide +kernel⟩
theorem ok_wishOC {nf : Str → List Str → List Str} {f : Addr} {fd : FuncData} {k0 : Nat} (F : FnP K "wish" "Shelf.wish" s_Shelf_wish f fd) (T : ClsT K C) (GC : Glob P w K mg base CX0 (k0 + 2) "check_name" ["name"] (spCheckName K))
    (GF : MethOk P w K mg base CX0 (k0 + 2) C "_free_a_place" ["self"] (spFreeOC (tbOf K) C)) (GN : MethOk P w K mg base CX0 (k0 + 2) C "_note_wish" ["self", "name"] (spNoteOC nf (tbOf K) C)) :
    FnOk P w K mg base CX0 (k0 + 3) f fd ["self", "name"] (spWishOC nf (tbOf K) C) := by
  refine ok0 F sc_wish (fun vs H Q E h => ?_) (fun cdv A outer s H vs Q E hr h => ?_)
  · obtain ⟨p, l, n, m, k, z, row, rfl, _⟩ := h
    rfl
  · obtain ⟨p, l, n, m, k, z, row, rfl, S, n0, n1, hrow, hz, tab, q⟩ := h
    refine ⟨_, pss_cons (ps_expr (pe_callG GC hr (by rfl) pass0 (pa_cons (pv 1) pa_nil)))
      (pss_cons (ps_set (i := 2) sc_wish.nd rfl (.inl rfl) (pe_cmpR op_in_seq (pv 1) (pe_fld (pv 0) rfl) (by with_unfolding_all rfl)))
      (pss_cons (ps_set (i := 3) sc_wish.nd rfl (.inl rfl) pe_non)
      (C8.pss_cut (ps_if (pt_val (pv 2)) (pss_one (ps_fldaug (pv 0) pe_int in_add))
          (pss_cons (ps_fldaug (pv 0) pe_int in_add) (pss_cons (ps_set (i := 3) sc_wish.nd rfl (.inl rfl) (pe_meth0G (pv 0) GF hr pass0))
            (pss_one (ps_expr (pe_bm PySem.F.plainAttrs_list PySem.F.slot_list_append PySem.F.type_list_append mt_append (pe_fld (pv 0) rfl) (pa_cons (pv 1) pa_nil)))))))
      (pss_cons (ps_expr (pe_methG (pv 0) GN hr pass0 (pa_cons (pv 1) pa_nil)))
      (pss_one (ps_ret (pe_tup (pa_cons (pv 2) (pa_cons (pv 3) pa_nil))))))))), ?_⟩
    refine ⟨_, rfl, z, rfl, hz, tab, fun H1 kp1 => ?_⟩
    have S1 := S.kp kp1
    obtain ⟨⟨dx, hp⟩, hl⟩ := id S1
    have npl := S1.ne
    refine ⟨_, rfl, _, rfl, p, C, dx, _, _, rfl, hp, T.cl, T.nR, oF_row .., l, _, rfl, .inl (SqL.of hl), rfl, flat_strs row, ?_⟩
    rw [inV_str]
    -- the state behind the if
    refine ⟨fun σ H2 => ∃ (row2 : List Str) (met : Bool) (gone : Option Str) (m2 k2 : Int), σ = [some (.ref p), some (.str z), some (.bl met), some (optV gone)] ∧ ShAt C H2 p n l row2 m2 k2 [] ∧ z ∈ row2 ∧ row2.length ≤ 20 ∧ Kp (tbOf K) [p, l] H1 H2 ∧
      stepOC nf n row z = (met, gone, nf z row2) ∧ m2 = (if met then m + 1 else m) ∧ k2 = (if met then k else k + 1), ?_, ?_⟩
    · refine ⟨_, rfl, _, rfl, ?_⟩
      by_cases hin : z ∈ row
      · rw [decide_eq_true hin]
        refine iteT ?_
        refine ⟨_, rfl, p, C, dx, _, _, rfl, hp, T.cl, T.nM, oF_met .., _, _, rfl, rfl, dx, _, hp, (by show 4 < 1000; decide), ?_⟩
        rw [oF_put_met]
        refine ⟨row, true, none, m + 1, k, rfl, ⟨⟨dx, upd_same⟩, by rw [upd_ne npl.symm]; exact hl⟩, hin, by omega, Kp.put hp, ?_, rfl, rfl⟩
        unfold stepOC
        rw [if_pos hin]
      · rw [decide_eq_false hin]
        refine iteF ?_
        refine ⟨_, rfl, p, C, dx, _, _, rfl, hp, T.cl, T.nK, oF_missed .., _, _, rfl, rfl, dx, _, hp, (by show 4 < 1000; decide), ?_⟩
        rw [oF_put_missed]
        have kA : Kp (tbOf K) [p, l] H1 (upd H1 p (.ins C dx (oF n l m (k + 1) []))) := Kp.put hp
        have SA : ShAt C (upd H1 p (.ins C dx (oF n l m (k + 1) []))) p n l row m (k + 1) [] := ⟨⟨dx, upd_same⟩, by rw [upd_ne npl.symm]; exact hl⟩
        generalize upd H1 p (.ins C dx (oF n l m (k + 1) [])) = HA at kA SA ⊢
        obtain ⟨⟨dA, hpA⟩, hlA⟩ := id SA
        refine ⟨_, rfl, p, dA, _, rfl, hpA, by rw [oF_free]; rfl, p, l, n, m, k + 1, row, rfl, SA, n0, fun hlt => ?_, fun hge g r HB er SB kB => ?_⟩
        · refine ⟨_, rfl, p, C, dA, _, _, rfl, hpA, T.cl, T.nR, oF_row .., .inl ⟨rfl, _, SqL.of hlA⟩, _, rfl, l, _, _, rfl, rfl, hlA, by rw [List.length_map]; exact small_of (m := 20) (by omega), ?_⟩
          refine ⟨row ++ [z], false, none, m, k + 1, rfl, ⟨⟨dA, by rw [upd_ne npl]; exact hpA⟩, by rw [upd_same, List.map_append]; rfl⟩, List.mem_append_right _ List.mem_cons_self, by rw [List.length_append]; show row.length + 1 ≤ 20; omega, kA.trans (Kp.put hlA), ?_, rfl, rfl⟩
          unfold stepOC
          rw [if_neg hin, if_pos hlt]
        · obtain ⟨⟨dB, hpB⟩, hlB⟩ := id SB
          have hr20 : r.length + 1 ≤ 20 := by
            have : row.length = r.length + 1 := by rw [er]; rfl
            omega
          refine ⟨_, rfl, p, C, dB, _, _, rfl, hpB, T.cl, T.nR, oF_row .., .inl ⟨rfl, _, SqL.of hlB⟩, _, rfl, l, _, _, rfl, rfl, hlB, by rw [List.length_map]; exact small_of (m := 20) (by omega), ?_⟩
          refine ⟨r ++ [z], false, some g, m, k + 1, rfl, ⟨⟨dB, by rw [upd_ne npl]; exact hpB⟩, by rw [upd_same, List.map_append]; rfl⟩, List.mem_append_right _ List.mem_cons_self, by rw [List.length_append]; exact hr20, (kA.trans (kB.mono (by simp))).trans (Kp.put hlB), ?_, rfl, rfl⟩
          unfold stepOC
          rw [if_neg hin, if_neg hge, er]
          rfl
    · rintro σ H2 ⟨row2, met, gone, m2, k2, rfl, S2, hz2, h20, kp2, est, em, ek⟩
      obtain ⟨⟨d2, hp2⟩, hl2⟩ := id S2
      refine ⟨_, rfl, p, d2, _, rfl, hp2, by rw [oF_note]; rfl, _, rfl, p, l, n, m2, k2, z, row2, rfl, S2, hz2, h20, fun H3 S3 kp3 => ?_⟩
      refine ⟨_, rfl, _, rfl, by show 2 ≤ sizeLine; decide, fun t ht => ?_⟩
      have kt : Kp (tbOf K) [p, l] H3 (upd H3 t (.tup [.bl met, optV gone])) := Kp.new ht
      have kAll : Kp (tbOf K) [p, l] H H3 := (kp1.nil.trans kp2).trans (kp3.mono (by simp))
      have S4 : ShAt C (upd H3 t (.tup [.bl met, optV gone])) p n l (nf z row2) m2 k2 [] := S3.kp (Kp.new (tb := tbOf K) (S := []) ht)
      have e1 : (stepOC nf n row z).1 = met := by rw [est]
      have e2 : (stepOC nf n row z).2.1 = gone := by rw [est]
      have e3 : (stepOC nf n row z).2.2 = nf z row2 := by rw [est]
      exact q t _ (by rw [e3, e1, ← em, ← ek]; exact S4) (kAll.trans kt) (kAll.free _ ht) (by rw [e1, e2]; exact upd_same)
end
end Kf

namespace Kf
open PySem PySem.Spec PyProof.Rows L2
/-! ### a def read off its class, called -/
def fclsB (K : PySem.W.Frag) (C : Addr) (m : Str) (f : Addr) : Bool := match PySem.W.findCls K (.ref C) (.type "type") m with
  | some (.val v) => decide (v = .ref f)
  | _ => false
theorem fclsB_ok {K : PySem.W.Frag} {C : Addr} {m : Str} {f : Addr} (h : fclsB K C m f = true) : PySem.W.findCls K (.ref C) (.type "type") m = some (.val (.ref f)) := by
  unfold fclsB at h
  split at h
  · rename_i v e
    rw [e, of_decide_eq_true h]
  · cases h
section
variable {X : Cx} {CX : CXT} {k : Nat} {C f : Addr} {fd : FuncData} {mc : Value} {ps : List Str} {sp : Sp} {E : XK} {x m : Str} {p pos apos : Pos} {e : Expr} {es : List Expr} {t : TA}
theorem pe_clsfn {pl : Sem Bool} (hg : Gl X x) (hm : X.mg x = some (.ref C)) (r : ClX.CRead X.K C mc) (kv : ClX.CVal X.K C mc m (.ref f) (.ref f)) (F : FnOk X.prog X.w X.K X.mg X.base CX k f fd ps sp) (hr : Room k X.A) (hk : PySem.W.keepIn X.K (.ref f) = true)
    (hb : Binds X.K fd ps []) (hx : Passes CX X E) (ha : PA X (e :: es) t)
    (hc : eval (.Call (.Attribute (.Name x p) m apos) (e :: es) [] pos) X.env = (do
      let ov ← eval (.Name x p) X.env
      standAt apos.atName
      let (f, first) ← holding [ov] (getMethod ov m pl)
      callWith pos f first (backTo pos (starEach (e :: es) X.env)) (backToKw pos (keywordEach [] X.env))) := by rfl)
    (he : starEach (e :: es) X.env = (false, eval e X.env) :: starEach es X.env := by rfl) (hpl : (backTo pos (starEach es X.env)).any (·.1) = false := by rfl) (hdb : (x == ("__debug__" : Str)) = false := by decide) :
    PE X (.Call (.Attribute (.Name x p) m apos) (e :: es) [] pos) (tCall sp [] E t) := by
  refine ⟨fun pins s σ H Q I h => ?_⟩
  refine PySem.W.methodCall_KW (ld_glob I hg hm ?_ hdb) hc
  refine PySem.W.method_cls I.kIn r.ga (ClX.getcval_ok I r kv fun s' I' => ?_)
  exact PySem.W.callWith_K (first := []) (h₀ := X.base) I.ok.mod.kin hk (thn (ha.run pos pins _ σ H _ I' h) fun us s1 ⟨vs, H1, I1, r1, q⟩ => ⟨I1.kIn, run_fn F hr hb .nil hx I1 r1 q⟩) he hpl
end
/-- sorted(d), keys that are texts -/
def rSortD : List V → Hp → VK → Prop := fun vs H Q => ∃ (a : Addr) (kvs : List (Key × V)) (ks : List Str), vs = [V.ref a] ∧ H a = some (.dK kvs) ∧ kvs.map (·.1) = ks.map Sum.inr ∧ ks.length < 64 ∧ ∀ p : Addr, H p = none → Q (.ref p) (upd H p (.lst ((sortS ks).map V.str)))
theorem cr_sortD {X : Cx} (hc : X.calm = true) : CallR X (.builtin "sorted") rSortD := by
  intro pins s σ H vs us Q I r h
  obtain ⟨a, kvs, ks, e, hd, hks, h64, q⟩ := h
  exact call_sortedD hc pins s σ H vs us Q I r ⟨a, kvs, ks, e, .inl hd, hks, h64, fun ys p pm so np => by
    rw [sortS_eq pm so]
    exact q p np⟩

/-! ### marked shelves -/
def extM (d : Addr) (rd : Int) : List (Str × V) := [("_marks", .ref d), ("_rounds", .int rd)]
theorem extM_wish (d : Addr) (rd : Int) : (extM d rd).lookup ("wish" : Str) = none := by kernel_rfl
theorem extM_met (d : Addr) (rd : Int) : (extM d rd).lookup ("met" : Str) = none := by kernel_rfl
theorem extM_missed (d : Addr) (rd : Int) : (extM d rd).lookup ("missed" : Str) = none := by kernel_rfl
theorem extM_things (d : Addr) (rd : Int) : (extM d rd).lookup ("things" : Str) = none := by kernel_rfl
theorem extM_places (d : Addr) (rd : Int) : (extM d rd).lookup ("places" : Str) = none := by kernel_rfl
theorem extM_order (d : Addr) (rd : Int) : (extM d rd).lookup ("order" : Str) = none := by kernel_rfl
theorem extM_free (d : Addr) (rd : Int) : (extM d rd).lookup ("_free_a_place" : Str) = none := by kernel_rfl
theorem extM_pick (d : Addr) (rd : Int) : (extM d rd).lookup ("_pick_going" : Str) = none := by kernel_rfl
theorem extM_note (d : Addr) (rd : Int) : (extM d rd).lookup ("_note_wish" : Str) = none := by kernel_rfl
theorem mF_marks (n : Int) (l : Addr) (m k : Int) (d : Addr) (rd : Int) : (oF n l m k (extM d rd)).lookup ("_marks" : Str) = some (.ref d) := by kernel_rfl
theorem mF_rounds (n : Int) (l : Addr) (m k : Int) (d : Addr) (rd : Int) : (oF n l m k (extM d rd)).lookup ("_rounds" : Str) = some (.int rd) := by kernel_rfl
theorem mF_nmarks (n : Int) (l : Addr) (m k : Int) (d : Addr) (rd : Int) : (oF n l m k (extM d rd)).lookup ("marks" : Str) = none := by kernel_rfl
theorem mF_nrounds (n : Int) (l : Addr) (m k : Int) (d : Addr) (rd : Int) : (oF n l m k (extM d rd)).lookup ("rounds" : Str) = none := by kernel_rfl
theorem mF_putm (n : Int) (l : Addr) (m k : Int) (d d' : Addr) (rd : Int) : putF "_marks" (.ref d') (oF n l m k (extM d rd)) = oF n l m k (extM d' rd) := by kernel_rfl
theorem mF_putr (n : Int) (l : Addr) (m k : Int) (d : Addr) (rd rd' : Int) : putF "_rounds" (.int rd') (oF n l m k (extM d rd)) = oF n l m k (extM d rd') := by kernel_rfl
theorem mF_init (n : Int) (l d : Addr) : putF "_rounds" (.int 0) (putF "_marks" (.ref d) (oF n l 0 0 [])) = oF n l 0 0 (extM d 0) := by kernel_rfl
def mkK (marks : List Str) : List (Key × V) := marks.map fun z => (Sum.inr z, V.bl true)
theorem mkK_keys (marks : List Str) : (mkK marks).map (·.1) = marks.map Sum.inr := by
  unfold mkK
  rw [List.map_map]
  rfl
theorem mkK_len (marks : List Str) : (mkK marks).length = marks.length := by unfold mkK; rw [List.length_map]
theorem mkK_val (z : Str) : ∀ marks : List Str, valV (mkK marks) (Sum.inr z) = if z ∈ marks then some (.bl true) else none
  | [] => rfl
  | y :: r => by
    have ih := mkK_val z r
    unfold valV at ih ⊢
    by_cases e : y = z
    · subst e
      rw [if_pos List.mem_cons_self]
      unfold mkK
      rw [List.map_cons, List.find?_cons_of_pos (by simp)]
      rfl
    · have e1 : (mkK (y :: r)).find? (fun kv => decide (kv.1 = Sum.inr z)) = (mkK r).find? (fun kv => decide (kv.1 = Sum.inr z)) := by
        unfold mkK
        rw [List.map_cons, List.find?_cons_of_neg (by simpa using e)]
      rw [e1, ih]
      by_cases h : z ∈ r
      · rw [if_pos h, if_pos (List.mem_cons_of_mem _ h)]
      · rw [if_neg h, if_neg (fun q => (List.mem_cons.mp q).elim (fun w => e w.symm) h)]
def addM (marks : List Str) (z : Str) : List Str := if z ∈ marks then marks else marks ++ [z]
theorem mkK_put (z : Str) (marks : List Str) : putK (mkK marks) (Sum.inr z : Key) (.bl true) = mkK (addM marks z) := by
  have hany : ((mkK marks).any fun kv => decide (kv.1 = (Sum.inr z : Key))) = decide (z ∈ marks) := by
    unfold mkK
    rw [List.any_map]
    induction marks with
    | nil => rfl
    | cons y r ih =>
      rw [List.any_cons, ih]
      show (decide ((Sum.inr y : Key) = Sum.inr z) || decide (z ∈ r)) = decide (z ∈ y :: r)
      by_cases e : y = z
      · subst e; simp
      · rw [decide_eq_false (fun q => e (Sum.inr.inj q)), Bool.false_or]
        exact decide_eq_decide.mpr ⟨fun h => List.mem_cons_of_mem _ h, fun h => (List.mem_cons.mp h).elim (fun q => absurd q.symm e) id⟩
  unfold putK addM
  rw [hany]
  by_cases h : z ∈ marks
  · rw [if_pos (decide_eq_true h), if_pos h]
    unfold mkK
    rw [List.map_map]
    refine List.map_congr_left fun y hy => ?_
    show (if (Sum.inr y : Key) = Sum.inr z then ((Sum.inr y : Key), V.bl true) else ((Sum.inr y : Key), V.bl true)) = _
    rw [ite_self]
  · rw [if_neg (by simp [h]), if_neg h]
    unfold mkK
    rw [List.map_append]
    rfl
/-- who goes, the marks and the rounds behind it -/
def pickM (row marks : List Str) (rd : Int) : Str × List Str × Int :=
  if marks.length = row.length then (minS row, [], rd + 1) else (minS (row.filter fun y => decide (y ∉ marks)), marks, rd)
structure MkAt (C : Addr) (H : Hp) (p : Addr) (n : Int) (l : Addr) (row : List Str) (m k : Int) (d : Addr) (marks : List Str) (rd : Int) : Prop where
  sh : ShAt C H p n l row m k (extM d rd)
  mkd : H d = some (.dK (mkK marks))
theorem MkAt.kp {C : Addr} {H H' : Hp} {tb : Addr} {S : List Addr} {p l d : Addr} {n m k rd : Int} {row marks : List Str} (h : MkAt C H p n l row m k d marks rd) (kp : Kp tb S H H') (hp : p ∉ S := by simp) (hl : l ∉ S := by simp) (hd : d ∉ S := by simp) :
    MkAt C H' p n l row m k d marks rd := ⟨h.sh.kp kp hp hl, kp.get h.mkd rfl hd⟩
/-- further facts of the class -/
structure ClsM (K : PySem.W.Frag) (C : Addr) : Prop where
  nA : NoAttr K C "_marks"
  nO : NoAttr K C "_rounds"
section
variable {P : Program} {w : World} {K : PySem.W.Frag} {mg : Str → Option Value} {base : Heap} {tb C : Addr}
def spInitM (tb C : Addr) : Sp := fun vs H Q _ => ∃ (p dx : Addr) (n : Int), vs = [.ref p, .int n] ∧ 1 ≤ n ∧ n ≤ 20 ∧ H p = some (.ins C dx []) ∧
  ∀ (l d : Addr) (H' : Hp), H l = none → H d = none → l ≠ d → MkAt C H' p n l [] 0 0 d [] 0 → Kp tb [p] H H' → Q .non H'
theorem sc_minit : FnScope ["self", "places"] ["self", "places"] (defScope s_Marked___init__) := ⟨rfl, rfl, rfl, by decide +kernel, rfl, by decide +kernel, by decide +kernel⟩
theorem ok_minit {f fS CS : Addr} {fd fdS : FuncData} {mc : Value} {k0 : Nat} (F : FnP K "__init__" "Marked.__init__" s_Marked___init__ f fd) (T : ClsT K C) (T2 : ClsM K C) (mS : mg "Shelf" = some (.ref CS)) (r : ClX.CRead K CS mc) (kv : ClX.CVal K CS mc "__init__" (.ref fS) (.ref fS))
    (FS : FnOk P w K mg base CX0 (k0 + 1) fS fdS ["self", "places"] (spInit tb C)) (hk : PySem.W.keepIn K (.ref fS) = true) (hb : Binds K fdS ["self", "places"] []) : FnOk P w K mg base CX0 (k0 + 2) f fd ["self", "places"] (spInitM tb C) := by
  refine ok0 F sc_minit (fun vs H Q E h => ?_) (fun cdv A outer s H vs Q E hr h => ?_)
  · obtain ⟨p, dx, n, rfl, _⟩ := h
    rfl
  · obtain ⟨p, dx, n, rfl, n0, n1, hp, q⟩ := h
    refine ⟨_, pss_cons (ps_expr (pe_clsfn (by rfl) mS r kv FS hr hk hb pass0 (pa_cons (pv 0) (pa_cons (pv 1) pa_nil)))) (pss_cons (ps_fld (pv 0) pe_dnewK rfl) (pss_one (ps_fld (pv 0) pe_int rfl))), ?_⟩
    refine ⟨_, rfl, _, rfl, p, dx, n, rfl, n0, n1, hp, fun l H1 hl hob hls k1 => ?_⟩
    obtain ⟨dx1, hob⟩ := hob
    refine fun d hd => ?_
    have hd0 : H d = none := k1.free _ hd
    have npd : p ≠ d := ne_of_none hob hd
    have nld : l ≠ d := ne_of_none hls hd
    have npl : p ≠ l := ne_of_none hp hl
    refine ⟨_, rfl, p, C, dx1, _, rfl, Eq.trans (upd_ne npd) hob, T.cl, T2.nA, (by show 4 < 1000; decide), ?_⟩
    refine ⟨_, rfl, p, C, dx1, _, rfl, upd_same, T.cl, T2.nO, (by show 5 < 1000; decide), ?_⟩
    refine q l d _ hl hd0 nld ⟨⟨⟨dx1, by rw [upd_same, mF_init]⟩, by rw [upd_ne npl.symm, upd_ne npl.symm, upd_ne nld]; exact hls⟩, by rw [upd_ne npd.symm, upd_ne npd.symm, upd_same]; rfl⟩ ?_
    have e1 : (upd H1 d (.dK [])) p = some (.ins C dx1 (oF n l 0 0 [])) := Eq.trans (upd_ne npd) hob
    exact ((k1.step hd).trans (Kp.put e1)).trans (Kp.put upd_same)
/-- marks(), rounds() -/
def spMarks (tb C : Addr) : Sp := fun vs H Q _ => ∃ (p l d : Addr) (n m k rd : Int) (row marks : List Str), vs = [.ref p] ∧ MkAt C H p n l row m k d marks rd ∧ marks.length < 64 ∧
  ∀ (o : Addr) (H' : Hp), H o = none → H' o = some (.lst ((sortS marks).map V.str)) → Kp tb [] H H' → Q (.ref o) H'
theorem sc_marks : FnScope ["self"] ["self"] (defScope s_Marked_marks) := ⟨rfl, rfl, rfl, by decide +kernel, rfl, by decide +kernel, by decide +kernel⟩
theorem ok_marks {f : Addr} {fd : FuncData} {k0 : Nat} (F : FnP K "marks" "Marked.marks" s_Marked_marks f fd) (T : ClsT K C) (T2 : ClsM K C) (hs : mg "sorted" = none) : FnOk P w K mg base CX0 (k0 + 1) f fd ["self"] (spMarks tb C) := by
  refine ok0 F sc_marks (fun vs H Q E h => ?_) (fun cdv A outer s H vs Q E hr h => ?_)
  · obtain ⟨p, l, d, n, m, k, rd, row, marks, rfl, _⟩ := h
    rfl
  · obtain ⟨p, l, d, n, m, k, rd, row, marks, rfl, S, h64, q⟩ := h
    obtain ⟨⟨dx, hp⟩, hl⟩ := S.sh
    refine ⟨_, pss_one (ps_ret (pe_callB (cr_sortD rfl) (by rfl) hs (by decide +kernel) (pa_cons (pe_fld (pv 0) rfl) pa_nil))), ?_⟩
    refine ⟨_, rfl, p, C, dx, _, _, rfl, hp, T.cl, T2.nA, mF_marks .., d, _, marks, rfl, S.mkd, mkK_keys marks, h64, fun o ho => ?_⟩
    exact q o _ ho upd_same (Kp.new ho)
def spRounds (C : Addr) : Sp := fun vs H Q _ => ∃ (p l d : Addr) (n m k rd : Int), vs = [.ref p] ∧ (∃ dx, H p = some (.ins C dx (oF n l m k (extM d rd)))) ∧ Q (.int rd) H
theorem sc_rounds : FnScope ["self"] ["self"] (defScope s_Marked_rounds) := ⟨rfl, rfl, rfl, by decide +kernel, rfl, by decide +kernel, by decide +kernel⟩
theorem ok_rounds {f : Addr} {fd : FuncData} {k0 : Nat} (F : FnP K "rounds" "Marked.rounds" s_Marked_rounds f fd) (T : ClsT K C) (T2 : ClsM K C) : FnOk P w K mg base CX0 (k0 + 1) f fd ["self"] (spRounds C) := by
  refine ok0 F sc_rounds (fun vs H Q E h => ?_) (fun cdv A outer s H vs Q E hr h => ?_)
  · obtain ⟨p, l, d, n, m, k, rd, rfl, _⟩ := h
    rfl
  · obtain ⟨p, l, d, n, m, k, rd, rfl, ⟨dx, hp⟩, q⟩ := h
    exact ⟨_, pss_one (ps_ret (pe_fld (pv 0) rfl)), _, rfl, p, C, dx, _, _, rfl, hp, T.cl, T2.nO, mF_rounds .., q⟩
/-- _pick_going -/
def spPickM (tb C : Addr) : Sp := fun vs H Q _ => ∃ (p l d : Addr) (n m k rd : Int) (row marks : List Str), vs = [.ref p] ∧ MkAt C H p n l row m k d marks rd ∧ row.length ≤ 20 ∧ row ≠ [] ∧ (marks.length ≠ row.length → row.filter (fun y => decide (y ∉ marks)) ≠ []) ∧
  ∀ (d' : Addr) (H' : Hp), MkAt C H' p n l row m k d' (pickM row marks rd).2.1 (pickM row marks rd).2.2 → (d' = d ∨ H d' = none) → Kp tb [p] H H' → Q (.str (pickM row marks rd).1) H'
theorem sc_mpick : FnScope ["self", "name"] ["self"] (defScope s_Marked__pick_going) := ⟨rfl, rfl, rfl, by decide +kernel, rfl, by decide +kernel, by decide +kernel⟩
theorem ok_mpick {f : Addr} {fd : FuncData} {k0 : Nat} (F : FnP K "_pick_going" "Marked._pick_going" s_Marked__pick_going f fd) (T : ClsT K C) (T2 : ClsM K C) (hlen : mg "len" = none) (hmin : mg "min" = none) : FnOk P w K mg base CX0 (k0 + 1) f fd ["self"] (spPickM tb C) := by
  refine ok0 F sc_mpick (fun vs H Q E h => ?_) (fun cdv A outer s H vs Q E hr h => ?_)
  · obtain ⟨p, l, d, n, m, k, rd, row, marks, rfl, _⟩ := h
    rfl
  · obtain ⟨p, l, d, n, m, k, rd, row, marks, rfl, S, h20, hne, hfl, q⟩ := h
    have hu := hu_of hr
    obtain ⟨⟨dx, hp⟩, hl⟩ := S.sh
    have npl := S.sh.ne
    have npd : p ≠ d := ne_of hp S.mkd (by intro z; cases z)
    refine ⟨_, C8.pss_cut (ps_if (pt_cmpR op_eq (pe_callB call_lenD (by rfl) hlen PySem.boot_len (pa_cons (pe_fld (pv 0) rfl) pa_nil)) (pe_callB call_len_seq (by rfl) hlen PySem.boot_len (pa_cons (pe_fld (pv 0) rfl) pa_nil)) (nomark _))
        (pss_cons (ps_fld (pv 0) pe_dnewK rfl) (pss_one (ps_fldaug (pv 0) pe_int in_add))) pss_nil)
      (pss_one (ps_ret (pe_callB (cr_minS rfl) (by rfl) hmin (by decide +kernel) (pa_cons (pe_lc (own := [("name", 1)]) (g := gName 1) (tt := tB (tDNotIn (tVar 1) (tFld K (tVar 0) "_marks"))) rfl sc_mpick.nd (pi_list (pe_fld (pv 0) rfl)) (blkOk_by (N := ["self", "name"]) (sc := defScope s_Marked__pick_going) (by decide +kernel))
            (fun _ _ _ _ _ => pg_name (i := 1) sc_mpick.nd rfl (Or.inl rfl)) (fun _ _ _ _ _ => pts_one (pt_cmp (pc_dnotin hu (pv 1) (pe_fld (pv 0) rfl)))) (fun _ _ _ _ _ => pv 1)) pa_nil)))), ?_⟩
    refine ⟨fun σ H2 => ∃ (d' : Addr) (marks2 : List Str) (rd2 : Int), σ = [some (.ref p), none] ∧ MkAt C H2 p n l row m k d' marks2 rd2 ∧ (d' = d ∨ H d' = none) ∧ Kp tb [p] H H2 ∧ row.filter (fun y => decide (y ∉ marks2)) ≠ [] ∧ pickM row marks rd = (minS (row.filter fun y => decide (y ∉ marks2)), marks2, rd2), ?_, ?_⟩
    · refine ⟨_, rfl, p, C, dx, _, _, rfl, hp, T.cl, T2.nA, mF_marks .., d, _, rfl, S.mkd, _, rfl, p, C, dx, _, _, rfl, hp, T.cl, T.nR, oF_row .., l, _, rfl, .inl (SqL.of hl), rfl, _, rfl, ?_⟩
      rw [List.length_map, mkK_len, dec_int]
      by_cases he : marks.length = row.length
      · rw [beq_iff_eq.mpr (by rw [he])]
        refine iteT (fun d' hd' => ?_)
        have npd' : p ≠ d' := ne_of_none hp hd'
        have nld' : l ≠ d' := ne_of_none hl hd'
        refine ⟨_, rfl, p, C, dx, _, rfl, Eq.trans (upd_ne npd') hp, T.cl, T2.nA, (by show 6 < 1000; decide), ?_⟩
        rw [mF_putm]
        refine ⟨_, rfl, p, C, dx, _, _, rfl, upd_same, T.cl, T2.nO, mF_rounds .., _, _, rfl, rfl, dx, _, upd_same, (by show 6 < 1000; decide), ?_⟩
        rw [mF_putr]
        have e1 : (upd H d' (.dK [])) p = some (.ins C dx (oF n l m k (extM d rd))) := Eq.trans (upd_ne npd') hp
        have hfull : row.filter (fun y => decide (y ∉ ([] : List Str))) = row := List.filter_eq_self.mpr fun y _ => by simp
        refine ⟨d', [], rd + 1, rfl, ⟨⟨⟨dx, upd_same⟩, by rw [upd_ne npl.symm, upd_ne npl.symm, upd_ne nld']; exact hl⟩, by rw [upd_ne npd'.symm, upd_ne npd'.symm, upd_same]; rfl⟩, .inr hd', ((Kp.new hd').trans (Kp.put e1)).trans (Kp.put upd_same), by rw [hfull]; exact hne, ?_⟩
        unfold pickM
        rw [if_pos he, hfull]
      · rw [beq_eq_false_iff_ne.mpr (fun z => he (by omega))]
        refine iteF ⟨d, marks, rd, rfl, S, .inl rfl, Kp.refl _, hfl he, ?_⟩
        unfold pickM
        rw [if_neg he]
    · rintro σ H2 ⟨d', marks2, rd2, rfl, S2, hd', k2, hne2, epick⟩
      obtain ⟨⟨dx2, hp2⟩, hl2⟩ := S2.sh
      refine ⟨_, rfl, p, C, dx2, _, _, rfl, hp2, T.cl, T.nR, oF_row .., l, rfl, ⟨_, SqL.of hl2⟩, fun D hD => ?_⟩
      refine lc_it walk_list (LcI tb H2 D (fun i acc => acc = ((row.take i).filter (fun y => decide (y ∉ marks2))).map V.str)) (LcI.start hD rfl) (fun i H' _ ⟨_, _, kp, _⟩ => SqL.of (kp.get hl2)) ?_ ?_
      · rintro i x H3 H4 hi ⟨acc, rfl, kp, hD3⟩ ⟨rfl, hx⟩
        obtain ⟨y, hy, rfl⟩ := get_mapS hx
        rw [List.length_map] at hi
        have etake : row.take (i + 1) = row.take i ++ [y] := by rw [List.take_add_one, hy]; rfl
        have S4 := S2.kp kp
        obtain ⟨⟨dx4, hp4⟩, hl4⟩ := S4.sh
        refine ⟨rfl, _, rfl, _, rfl, p, C, dx4, _, _, rfl, hp4, T.cl, T2.nA, mF_marks .., d', _, rfl, DGet.k (k := Sum.inr y) S4.mkd, _, rfl, ?_⟩
        rw [mkK_val]
        by_cases e : y ∈ marks2
        · rw [if_pos e]
          refine iteF ⟨_, ?_, kp, hD3⟩
          dsimp only
          rw [etake, List.filter_append, List.filter_cons_of_neg (by simpa using e), List.filter_nil, List.append_nil]
        · rw [if_neg e]
          refine iteT ⟨_, rfl, LcI.next hD kp hD3 (Kp.refl _) ?_ ?_⟩
          · rw [List.length_map]
            exact small_of (m := 20) (Nat.le_trans (List.length_filter_le _ _) (Nat.le_trans (List.length_take_le _ _) (by omega)))
          · rw [etake, List.filter_append, List.filter_cons_of_pos (by simpa using e), List.filter_nil, List.map_append]
            rfl
      · rintro H3 ⟨acc, rfl, kp3, hD3⟩
        rw [List.length_map, List.take_of_length_le (Nat.le_refl _)] at hD3
        refine ⟨D, _, rfl, SqL.of hD3, hne2, ?_⟩
        have qq := q d' H3 (by rw [epick]; exact S2.kp kp3) hd' (k2.trans kp3.nil)
        rw [epick] at qq
        exact qq
/-- _note_wish -/
def spNoteM (tb C : Addr) : Sp := fun vs H Q _ => ∃ (p l d : Addr) (n m k rd : Int) (z : Str) (row marks : List Str), vs = [.ref p, .str z] ∧ MkAt C H p n l row m k d marks rd ∧ marks.length ≤ 20 ∧ ∀ H', MkAt C H' p n l row m k d (addM marks z) rd → Kp tb [d] H H' → Q .non H'
theorem sc_mnote : FnScope ["self", "name"] ["self", "name"] (defScope s_Marked__note_wish) := ⟨rfl, rfl, rfl, by decide +kernel, rfl, by decide +kernel, by decide +kernel⟩
theorem ok_mnote {f : Addr} {fd : FuncData} {k0 : Nat} (F : FnP K "_note_wish" "Marked._note_wish" s_Marked__note_wish f fd) (T : ClsT K C) (T2 : ClsM K C) : FnOk P w K mg base CX0 (k0 + 1) f fd ["self", "name"] (spNoteM tb C) := by
  refine ok0 F sc_mnote (fun vs H Q E h => ?_) (fun cdv A outer s H vs Q E hr h => ?_)
  · obtain ⟨p, l, d, n, m, k, rd, z, row, marks, rfl, _⟩ := h
    rfl
  · obtain ⟨p, l, d, n, m, k, rd, z, row, marks, rfl, S, h20, q⟩ := h
    have hu := hu_of hr
    obtain ⟨⟨dx, hp⟩, hl⟩ := S.sh
    have npd : p ≠ d := ne_of hp S.mkd (by intro z; cases z)
    have nld : l ≠ d := ne_of hl S.mkd (by intro z; cases z)
    refine ⟨_, pss_one (ps_dput hu (pe_fld (pv 0) rfl) (pv 1) pe_bl rfl), ?_⟩
    refine ⟨_, rfl, p, C, dx, _, _, rfl, hp, T.cl, T2.nA, mF_marks .., _, rfl, d, _, rfl, DPut.k (k := Sum.inr z) S.mkd (by rw [mkK_len]; exact small_of (m := 20) h20), ?_⟩
    rw [mkK_put]
    exact q _ ⟨⟨⟨dx, by rw [upd_ne npd]; exact hp⟩, by rw [upd_ne nld]; exact hl⟩, upd_same⟩ (Kp.put S.mkd)
/-- _free_a_place -/
def spFreeM (tb C : Addr) : Sp := fun vs H Q _ => ∃ (p l d : Addr) (n m k rd : Int) (row marks : List Str), vs = [.ref p] ∧ MkAt C H p n l row m k d marks rd ∧ 1 ≤ n ∧ row.length ≤ 20 ∧ (marks.length ≠ row.length → row.filter (fun y => decide (y ∉ marks)) ≠ []) ∧ ((row.length : Int) < n → Q .non H) ∧
  (¬ (row.length : Int) < n → ∀ (d' : Addr) (H' : Hp), MkAt C H' p n l (row.erase (pickM row marks rd).1) m k d' (pickM row marks rd).2.1 (pickM row marks rd).2.2 → (d' = d ∨ H d' = none) → Kp tb [p, l] H H' → Q (.str (pickM row marks rd).1) H')
theorem pickM_mem {row marks : List Str} {rd : Int} (h : row ≠ []) (hf : marks.length ≠ row.length → row.filter (fun y => decide (y ∉ marks)) ≠ []) : (pickM row marks rd).1 ∈ row := by
  unfold pickM
  by_cases e : marks.length = row.length
  · rw [if_pos e]
    exact minS_mem h
  · rw [if_neg e]
    exact (List.mem_filter.mp (minS_mem (hf e))).1
theorem sc_mfree : FnScope ["self", "gone"] ["self"] (defScope s_Shelf__free_a_place) := ⟨rfl, rfl, rfl, by decide +kernel, rfl, by decide +kernel, by decide +kernel⟩
theorem ok_mfree {f : Addr} {fd : FuncData} {k0 : Nat} (F : FnP K "_free_a_place" "Shelf._free_a_place" s_Shelf__free_a_place f fd) (T : ClsT K C) (hlen : mg "len" = none) (G : MethOk P w K mg base CX0 (k0 + 1) C "_pick_going" ["self"] (spPickM tb C)) :
    FnOk P w K mg base CX0 (k0 + 2) f fd ["self"] (spFreeM tb C) := by
  refine ok0 F sc_mfree (fun vs H Q E h => ?_) (fun cdv A outer s H vs Q E hr h => ?_)
  · obtain ⟨p, l, d, n, m, k, rd, row, marks, rfl, _⟩ := h
    rfl
  · obtain ⟨p, l, d, n, m, k, rd, row, marks, rfl, S, n0, h20, hfl, q1, q2⟩ := h
    obtain ⟨⟨dx, hp⟩, hl⟩ := S.sh
    refine ⟨_, pss_cons (ps_if (pt_cmpR op_lt (pe_callB call_len_seq (by rfl) hlen PySem.boot_len (pa_cons (pe_fld (pv 0) rfl) pa_nil)) (pe_fld (pv 0) rfl) (nomark _)) (pss_one (ps_ret pe_non)) pss_nil)
      (pss_cons (ps_set (i := 1) sc_mfree.nd rfl (.inl rfl) (pe_meth0G (pv 0) G hr pass0))
      (pss_cons (ps_expr (pe_bm PySem.F.plainAttrs_list PySem.F.slot_list_remove PySem.F.type_list_remove mt_removeS (pe_fld (pv 0) rfl) (pa_cons (pv 1) pa_nil)))
      (pss_one (ps_ret (pv 1))))), ?_⟩
    refine ⟨_, rfl, p, C, dx, _, _, rfl, hp, T.cl, T.nR, oF_row .., l, _, rfl, .inl (SqL.of hl), _, rfl, p, C, dx, _, _, rfl, hp, T.cl, T.nS, oF_size .., _, _, rfl, rfl, _, rfl, ?_⟩
    rw [List.length_map]
    refine ite2 (fun hlt => q1 (of_decide_eq_true hlt)) (fun hge => ?_)
    have hge' : ¬ (row.length : Int) < n := fun z => hge (decide_eq_true z)
    have hne : row ≠ [] := fun e => hge' (by rw [e]; simp; omega)
    refine ⟨_, rfl, p, dx, _, rfl, hp, by rw [oF_pick, extM_pick], p, l, d, n, m, k, rd, row, marks, rfl, S, h20, hne, hfl, fun d' H2 S2 hd' k2 => ?_⟩
    have hmem := pickM_mem (rd := rd) hne hfl
    generalize pickM row marks rd = pk at *
    obtain ⟨⟨dx2, hp2⟩, hl2⟩ := S2.sh
    have npl := S2.sh.ne
    have nld' : l ≠ d' := ne_of hl2 S2.mkd (by intro z; cases z)
    refine ⟨_, rfl, p, C, dx2, _, _, rfl, hp2, T.cl, T.nR, oF_row .., .inl ⟨rfl, _, SqL.of hl2⟩, _, rfl, l, row, pk.1, rfl, rfl, hl2, hmem, ?_⟩
    refine ⟨_, rfl, q2 hge' d' _ ⟨⟨⟨dx2, by rw [upd_ne npl]; exact hp2⟩, upd_same⟩, by rw [upd_ne nld'.symm]; exact S2.mkd⟩ hd' ((k2.mono (by simp)).trans (Kp.put hl2))⟩
/-- wish -/
def stepM (n : Int) (row marks : List Str) (rd : Int) (z : Str) : Bool × Option Str × List Str × List Str × Int :=
  if z ∈ row then (true, none, row, addM marks z, rd)
  else if (row.length : Int) < n then (false, none, row ++ [z], addM marks z, rd)
  else (false, some (pickM row marks rd).1, row.erase (pickM row marks rd).1 ++ [z], addM (pickM row marks rd).2.1 z, (pickM row marks rd).2.2)
/-- what holds of a marked shelf -/
structure MkOk (n : Int) (row marks : List Str) : Prop where
  le : (row.length : Int) ≤ n
  nd : row.Nodup
  md : marks.Nodup
  sub : ∀ y ∈ marks, y ∈ row
  nm : ∀ y ∈ row, IsName y
theorem subset_len : ∀ {xs ys : List Str}, xs.Nodup → (∀ y ∈ xs, y ∈ ys) → xs.length ≤ ys.length
  | [], _, _, _ => Nat.zero_le _
  | x :: r, ys, h, s => by
    obtain ⟨h1, h2⟩ := List.nodup_cons.mp h
    have hx := s x List.mem_cons_self
    have ih := subset_len (ys := ys.erase x) h2 fun y hy => (List.mem_erase_of_ne (fun e => h1 (by rw [← e]; exact hy))).mpr (s y (List.mem_cons_of_mem _ hy))
    have e := List.length_erase_of_mem hx
    have e2 := List.length_pos_of_mem hx
    rw [List.length_cons]
    omega
theorem MkOk.fl {n : Int} {row marks : List Str} (h : MkOk n row marks) : marks.length ≠ row.length → row.filter (fun y => decide (y ∉ marks)) ≠ [] := fun ne e => by
  have h1 : ∀ y ∈ row, y ∈ marks := fun y hy => by
    by_cases q : y ∈ marks
    · exact q
    · have : y ∈ row.filter (fun y => decide (y ∉ marks)) := List.mem_filter.mpr ⟨hy, by simpa using q⟩
      rw [e] at this
      cases this
  have h2 := subset_len h.nd h1
  have h3 := subset_len h.md h.sub
  omega
theorem addM_nd {marks : List Str} {z : Str} (h : marks.Nodup) : (addM marks z).Nodup := by
  unfold addM
  by_cases e : z ∈ marks
  · rw [if_pos e]; exact h
  · rw [if_neg e, List.nodup_append]
    exact ⟨h, List.nodup_cons.mpr ⟨by simp, List.nodup_nil⟩, fun x hx y hy q => e (by rw [← List.mem_singleton.mp hy, ← q]; exact hx)⟩
theorem addM_sub {marks : List Str} {z y : Str} (h : y ∈ addM marks z) : y ∈ marks ∨ y = z := by
  unfold addM at h
  by_cases e : z ∈ marks
  · rw [if_pos e] at h; exact .inl h
  · rw [if_neg e] at h
    rcases List.mem_append.mp h with q | q
    · exact .inl q
    · exact .inr (List.mem_singleton.mp q)
theorem nodup_snoc {r : List Str} {z : Str} (hr : z ∉ r) (h : r.Nodup) : (r ++ [z]).Nodup := by
  rw [List.nodup_append]
  exact ⟨h, List.nodup_cons.mpr ⟨by simp, List.nodup_nil⟩, fun x hx y hy e => hr (by rw [← List.mem_singleton.mp hy, ← e]; exact hx)⟩
/-- behind the pick: who goes has no mark any more -/
theorem pickM_ok {n : Int} {row marks : List Str} {rd : Int} (h : MkOk n row marks) (hne : row ≠ []) : (pickM row marks rd).1 ∈ row ∧ (pickM row marks rd).2.1.Nodup ∧ (∀ y ∈ (pickM row marks rd).2.1, y ∈ row.erase (pickM row marks rd).1) := by
  refine ⟨pickM_mem hne h.fl, ?_⟩
  unfold pickM
  by_cases e : marks.length = row.length
  · rw [if_pos e]
    exact ⟨List.nodup_nil, fun y hy => absurd hy (by simp)⟩
  · rw [if_neg e]
    refine ⟨h.md, fun y hy => (List.mem_erase_of_ne (fun q => ?_)).mpr (h.sub y hy)⟩
    have hm := (List.mem_filter.mp (minS_mem (h.fl e))).2
    dsimp only at q hy
    rw [← q, decide_eq_true_eq] at hm
    exact hm hy
theorem stepM_ok {n : Int} {row marks : List Str} {rd : Int} {z : Str} (h : MkOk n row marks) (n0 : 1 ≤ n) (hz : IsName z) : MkOk n (stepM n row marks rd z).2.2.1 (stepM n row marks rd z).2.2.2.1 := by
  unfold stepM
  by_cases h1 : z ∈ row
  · rw [if_pos h1]
    exact ⟨h.le, h.nd, addM_nd h.md, fun y hy => (addM_sub hy).elim (h.sub y) (fun e => by rw [e]; exact h1), h.nm⟩
  · rw [if_neg h1]
    by_cases h2 : (row.length : Int) < n
    · rw [if_pos h2]
      refine ⟨?_, nodup_snoc h1 h.nd, addM_nd h.md, fun y hy => (addM_sub hy).elim (fun q => List.mem_append_left _ (h.sub y q)) (fun e => by rw [e]; exact List.mem_append_right _ List.mem_cons_self), fun y hy => ?_⟩
      · show ((row ++ [z]).length : Int) ≤ n
        rw [List.length_append, List.length_singleton]
        omega
      · rcases List.mem_append.mp hy with q | q
        · exact h.nm y q
        · rw [List.mem_singleton.mp q]; exact hz
    · rw [if_neg h2]
      have hne : row ≠ [] := fun e => h2 (by rw [e]; simp; omega)
      obtain ⟨p1, p2, p3⟩ := pickM_ok (rd := rd) h hne
      refine ⟨?_, nodup_snoc (fun q => h1 (List.mem_of_mem_erase q)) (h.nd.erase _), addM_nd p2, fun y hy => (addM_sub hy).elim (fun q => List.mem_append_left _ (p3 y q)) (fun e => by rw [e]; exact List.mem_append_right _ List.mem_cons_self), fun y hy => ?_⟩
      · show ((row.erase (pickM row marks rd).1 ++ [z]).length : Int) ≤ n
        have e1 := List.length_erase_of_mem p1
        have e2 := List.length_pos_of_mem p1
        rw [List.length_append, List.length_singleton]
        have := h.le
        omega
      · rcases List.mem_append.mp hy with q | q
        · exact h.nm y (List.mem_of_mem_erase q)
        · rw [List.mem_singleton.mp q]; exact hz
theorem stepM_gone {n : Int} {row marks : List Str} {rd : Int} {z : Str} (h : MkOk n row marks) (n0 : 1 ≤ n) : ∀ g, (stepM n row marks rd z).2.1 = some g → IsName g := by
  intro g hg
  unfold stepM at hg
  by_cases h1 : z ∈ row
  · rw [if_pos h1] at hg; cases hg
  · rw [if_neg h1] at hg
    by_cases h2 : (row.length : Int) < n
    · rw [if_pos h2] at hg; cases hg
    · rw [if_neg h2] at hg
      have hne : row ≠ [] := fun e => h2 (by rw [e]; simp; omega)
      have := (pickM_ok (rd := rd) h hne).1
      rw [← Option.some.inj hg]
      exact h.nm _ this
def spWishM (tb C : Addr) : Sp := fun vs H Q _ => ∃ (p l d : Addr) (n m k rd : Int) (z : Str) (row marks : List Str), vs = [.ref p, .str z] ∧ MkAt C H p n l row m k d marks rd ∧ MkOk n row marks ∧ 1 ≤ n ∧ n ≤ 20 ∧ IsName z ∧ GxR.TabG H tb ∧
  ∀ (t d' : Addr) (H' : Hp), MkAt C H' p n l (stepM n row marks rd z).2.2.1 (if (stepM n row marks rd z).1 then m + 1 else m) (if (stepM n row marks rd z).1 then k else k + 1) d' (stepM n row marks rd z).2.2.2.1 (stepM n row marks rd z).2.2.2.2 → (d' = d ∨ H d' = none) → t ≠ d' →
    Kp tb [p, l, d] H H' → H t = none → H' t = some (.tup [.bl (stepM n row marks rd z).1, optV (stepM n row marks rd z).2.1]) → Q (.ref t) H'
theorem sc_mwish : FnScope ["self", "name", "met", "gone"] ["self", "name"] (defScope s_Shelf_wish) := ⟨rfl, rfl, rfl, by decide +kernel, rfl, by decide +kernel, by decide +kernel⟩
theorem ok_mwish {f : Addr} {fd : FuncData} {k0 : Nat} (F : FnP K "wish" "Shelf.wish" s_Shelf_wish f fd) (T : ClsT K C) (GC : Glob P w K mg base CX0 (k0 + 2) "check_name" ["name"] (spCheckName K))
    (GF : MethOk P w K mg base CX0 (k0 + 2) C "_free_a_place" ["self"] (spFreeM (tbOf K) C)) (GN : MethOk P w K mg base CX0 (k0 + 2) C "_note_wish" ["self", "name"] (spNoteM (tbOf K) C)) :
    FnOk P w K mg base CX0 (k0 + 3) f fd ["self", "name"] (spWishM (tbOf K) C) := by
  refine ok0 F sc_mwish (fun vs H Q E h => ?_) (fun cdv A outer s H vs Q E hr h => ?_)
  · obtain ⟨p, l, d, n, m, k, rd, z, row, marks, rfl, _⟩ := h
    rfl
  · obtain ⟨p, l, d, n, m, k, rd, z, row, marks, rfl, S, ok, n0, n1, hz, tab, q⟩ := h
    have hrow := ok.le
    refine ⟨_, pss_cons (ps_expr (pe_callG GC hr (by rfl) pass0 (pa_cons (pv 1) pa_nil)))
      (pss_cons (ps_set (i := 2) sc_mwish.nd rfl (.inl rfl) (pe_cmpR op_in_seq (pv 1) (pe_fld (pv 0) rfl) (by with_unfolding_all rfl)))
      (pss_cons (ps_set (i := 3) sc_mwish.nd rfl (.inl rfl) pe_non)
      (C8.pss_cut (ps_if (pt_val (pv 2)) (pss_one (ps_fldaug (pv 0) pe_int in_add))
          (pss_cons (ps_fldaug (pv 0) pe_int in_add) (pss_cons (ps_set (i := 3) sc_mwish.nd rfl (.inl rfl) (pe_meth0G (pv 0) GF hr pass0))
            (pss_one (ps_expr (pe_bm PySem.F.plainAttrs_list PySem.F.slot_list_append PySem.F.type_list_append mt_append (pe_fld (pv 0) rfl) (pa_cons (pv 1) pa_nil)))))))
      (pss_cons (ps_expr (pe_methG (pv 0) GN hr pass0 (pa_cons (pv 1) pa_nil)))
      (pss_one (ps_ret (pe_tup (pa_cons (pv 2) (pa_cons (pv 3) pa_nil))))))))), ?_⟩
    refine ⟨_, rfl, z, rfl, hz, tab, fun H1 kp1 => ?_⟩
    have S1 := S.kp kp1
    obtain ⟨⟨dx, hp⟩, hl⟩ := S1.sh
    have npl := S1.sh.ne
    have npd : p ≠ d := ne_of hp S1.mkd (by intro z; cases z)
    have nld : l ≠ d := ne_of hl S1.mkd (by intro z; cases z)
    refine ⟨_, rfl, _, rfl, p, C, dx, _, _, rfl, hp, T.cl, T.nR, oF_row .., l, _, rfl, .inl (SqL.of hl), rfl, flat_strs row, ?_⟩
    rw [inV_str]
    -- the state behind the if
    refine ⟨fun σ H2 => ∃ (row2 marks2 : List Str) (met : Bool) (gone : Option Str) (m2 k2 rd2 : Int) (d2 : Addr), σ = [some (.ref p), some (.str z), some (.bl met), some (optV gone)] ∧ MkAt C H2 p n l row2 m2 k2 d2 marks2 rd2 ∧ (d2 = d ∨ H d2 = none) ∧ marks2.length ≤ 20 ∧ Kp (tbOf K) [p, l, d] H1 H2 ∧
      stepM n row marks rd z = (met, gone, row2, addM marks2 z, rd2) ∧ m2 = (if met then m + 1 else m) ∧ k2 = (if met then k else k + 1), ?_, ?_⟩
    · have hm20 : marks.length ≤ 20 := by have := subset_len ok.md ok.sub; omega
      refine ⟨_, rfl, _, rfl, ?_⟩
      by_cases hin : z ∈ row
      · rw [decide_eq_true hin]
        refine iteT ?_
        refine ⟨_, rfl, p, C, dx, _, _, rfl, hp, T.cl, T.nM, oF_met .., _, _, rfl, rfl, dx, _, hp, (by show 6 < 1000; decide), ?_⟩
        rw [oF_put_met]
        refine ⟨row, marks, true, none, m + 1, k, rd, d, rfl, ⟨⟨⟨dx, upd_same⟩, by rw [upd_ne npl.symm]; exact hl⟩, by rw [upd_ne npd.symm]; exact S1.mkd⟩, .inl rfl, hm20, Kp.put hp, ?_, rfl, rfl⟩
        unfold stepM
        rw [if_pos hin]
      · rw [decide_eq_false hin]
        refine iteF ?_
        refine ⟨_, rfl, p, C, dx, _, _, rfl, hp, T.cl, T.nK, oF_missed .., _, _, rfl, rfl, dx, _, hp, (by show 6 < 1000; decide), ?_⟩
        rw [oF_put_missed]
        have kA : Kp (tbOf K) [p, l, d] H1 (upd H1 p (.ins C dx (oF n l m (k + 1) (extM d rd)))) := Kp.put hp
        have SA : MkAt C (upd H1 p (.ins C dx (oF n l m (k + 1) (extM d rd)))) p n l row m (k + 1) d marks rd := ⟨⟨⟨dx, upd_same⟩, by rw [upd_ne npl.symm]; exact hl⟩, by rw [upd_ne npd.symm]; exact S1.mkd⟩
        generalize upd H1 p (.ins C dx (oF n l m (k + 1) (extM d rd))) = HA at kA SA ⊢
        obtain ⟨⟨dA, hpA⟩, hlA⟩ := SA.sh
        refine ⟨_, rfl, p, dA, _, rfl, hpA, by rw [oF_free, extM_free], p, l, d, n, m, k + 1, rd, row, marks, rfl, SA, n0, by omega, ok.fl, fun hlt => ?_, fun hge dB HB SB hdB kB => ?_⟩
        · refine ⟨_, rfl, p, C, dA, _, _, rfl, hpA, T.cl, T.nR, oF_row .., .inl ⟨rfl, _, SqL.of hlA⟩, _, rfl, l, _, _, rfl, rfl, hlA, by rw [List.length_map]; exact small_of (m := 20) (by omega), ?_⟩
          refine ⟨row ++ [z], marks, false, none, m, k + 1, rd, d, rfl, ⟨⟨⟨dA, by rw [upd_ne npl]; exact hpA⟩, by rw [upd_same, List.map_append]; rfl⟩, by rw [upd_ne nld.symm]; exact SA.mkd⟩, .inl rfl, hm20, kA.trans (Kp.put hlA), ?_, rfl, rfl⟩
          unfold stepM
          rw [if_neg hin, if_pos hlt]
        · obtain ⟨⟨dxB, hpB⟩, hlB⟩ := SB.sh
          have nldB : l ≠ dB := ne_of hlB SB.mkd (by intro z; cases z)
          have hne : row ≠ [] := fun e => hge (by rw [e]; simp; omega)
          obtain ⟨p1, p2, p3⟩ := pickM_ok (rd := rd) ok hne
          have hl20 : (row.erase (pickM row marks rd).1).length ≤ 20 := Nat.le_trans List.length_erase_le (by omega)
          have hm2 : (pickM row marks rd).2.1.length ≤ 20 := Nat.le_trans (subset_len p2 p3) hl20
          refine ⟨_, rfl, p, C, dxB, _, _, rfl, hpB, T.cl, T.nR, oF_row .., .inl ⟨rfl, _, SqL.of hlB⟩, _, rfl, l, _, _, rfl, rfl, hlB, by rw [List.length_map]; exact small_of hl20, ?_⟩
          refine ⟨row.erase (pickM row marks rd).1 ++ [z], (pickM row marks rd).2.1, false, some (pickM row marks rd).1, m, k + 1, (pickM row marks rd).2.2, dB, rfl, ⟨⟨⟨dxB, by rw [upd_ne npl]; exact hpB⟩, by rw [upd_same, List.map_append]; rfl⟩, by rw [upd_ne nldB.symm]; exact SB.mkd⟩, ?_, hm2, (kA.trans (kB.mono (by simp))).trans (Kp.put hlB), ?_, rfl, rfl⟩
          · rcases hdB with e | e
            · exact .inl e
            · exact .inr (kp1.free _ (kA.free _ e))
          · unfold stepM
            rw [if_neg hin, if_neg hge]
    · rintro σ H2 ⟨row2, marks2, met, gone, m2, k2, rd2, d2, rfl, S2, hd2, h20, kp2, est, em, ek⟩
      obtain ⟨⟨dx2, hp2⟩, hl2⟩ := S2.sh
      refine ⟨_, rfl, p, dx2, _, rfl, hp2, by rw [oF_note, extM_note], _, rfl, p, l, d2, n, m2, k2, rd2, z, row2, marks2, rfl, S2, h20, fun H3 S3 kp3 => ?_⟩
      refine ⟨_, rfl, _, rfl, by show 2 ≤ sizeLine; decide, fun t ht => ?_⟩
      have kAll : Kp (tbOf K) [p, l, d] H H3 := by
        have k12 : Kp (tbOf K) [p, l, d] H H2 := kp1.nil.trans kp2
        rcases hd2 with e | e
        · exact k12.trans (kp3.mono (by rw [e]; simp))
        · refine ⟨fun b o eb no hb => kp3.keep b o (k12.keep b o eb no hb) no fun hm => ?_, fun tt => kp3.tab (k12.tab tt), fun b eb => k12.free b (kp3.free b eb)⟩
          rw [List.mem_singleton.mp hm, e] at eb
          cases eb
      have kt : Kp (tbOf K) [p, l, d] H3 (upd H3 t (.tup [.bl met, optV gone])) := Kp.new ht
      have S4 : MkAt C (upd H3 t (.tup [.bl met, optV gone])) p n l row2 m2 k2 d2 (addM marks2 z) rd2 := S3.kp (Kp.new (tb := tbOf K) (S := []) ht)
      have ntd : t ≠ d2 := (ne_of_none S3.mkd ht).symm
      refine q t d2 _ ?_ hd2 ntd (kAll.trans kt) (kAll.free _ ht) ?_
      · rw [est]
        dsimp only
        rw [← em, ← ek]
        exact S4
      · rw [est]
        exact upd_same
end
end Kf

namespace Kf
open PySem PySem.Spec PyProof.Rows L2
/-! ### the three rules as one -/
inductive Rule where
  | old
  | cold
  | marked
def Rule.txt : Rule → Str
  | .old => "old"
  | .cold => "cold"
  | .marked => "marked"
/-- what stands on a shelf, who has marks, the rounds that ended -/
structure St3 where
  row : List Str
  marks : List Str
  rd : Int
def st0 : St3 := ⟨[], [], 0⟩
def ofOC (x : Bool × Option Str × List Str) : Bool × Option Str × St3 := (x.1, x.2.1, ⟨x.2.2, [], 0⟩)
def ofM (x : Bool × Option Str × List Str × List Str × Int) : Bool × Option Str × St3 := (x.1, x.2.1, ⟨x.2.2.1, x.2.2.2.1, x.2.2.2.2⟩)
def stepR : Rule → Int → St3 → Str → Bool × Option Str × St3
  | .old, n, s, z => ofOC (stepOC nfOld n s.row z)
  | .cold, n, s, z => ofOC (stepOC nfCold n s.row z)
  | .marked, n, s, z => ofM (stepM n s.row s.marks s.rd z)
/-- the pairs of a row of wishes, and what is there behind it -/
def pairsR (r : Rule) (n : Int) : St3 → List Str → List (Bool × Option Str)
  | _, [] => []
  | s, z :: zs => ((stepR r n s z).1, (stepR r n s z).2.1) :: pairsR r n (stepR r n s z).2.2 zs
def endR (r : Rule) (n : Int) : St3 → List Str → St3
  | s, [] => s
  | s, z :: zs => endR r n (stepR r n s z).2.2 zs
theorem pairsR_snoc (r : Rule) (n : Int) (z : Str) : ∀ (zs : List Str) (s : St3), pairsR r n s (zs ++ [z]) = pairsR r n s zs ++ [((stepR r n (endR r n s zs) z).1, (stepR r n (endR r n s zs) z).2.1)]
  | [], _ => rfl
  | y :: ys, s => congrArg (_ :: ·) (pairsR_snoc r n z ys _)
theorem endR_snoc (r : Rule) (n : Int) (z : Str) : ∀ (zs : List Str) (s : St3), endR r n s (zs ++ [z]) = (stepR r n (endR r n s zs) z).2.2
  | [], _ => rfl
  | _ :: ys, _ => endR_snoc r n z ys _
theorem pairsR_len (r : Rule) (n : Int) : ∀ (zs : List Str) (s : St3), (pairsR r n s zs).length = zs.length
  | [], _ => rfl
  | _ :: ys, _ => congrArg (· + 1) (pairsR_len r n ys _)
structure NfOk (nf : Str → List Str → List Str) : Prop where
  mem : ∀ z row y, y ∈ nf z row → y ∈ row ∨ y = z
  nd : ∀ z row, row.Nodup → (nf z row).Nodup
  len : ∀ z row, z ∈ row → (nf z row).length = row.length
theorem nfOk_old : NfOk nfOld := ⟨fun _ _ _ h => .inl h, fun _ _ h => h, fun _ _ _ => rfl⟩
theorem nfOk_cold : NfOk nfCold := by
  refine ⟨fun z row y hy => ?_, fun z row h => ?_, fun z row h => ?_⟩
  · unfold nfCold at hy
    rcases List.mem_append.mp hy with q | q
    · exact .inl (List.mem_of_mem_erase q)
    · exact .inr (List.mem_singleton.mp q)
  · unfold nfCold
    exact nodup_snoc (fun q => ((List.Nodup.mem_erase_iff h).mp q).1 rfl) (h.erase z)
  · unfold nfCold
    rw [List.length_append, List.length_erase_of_mem h, List.length_singleton]
    have := List.length_pos_of_mem h
    omega
theorem stepOC_ok {nf : Str → List Str → List Str} (N : NfOk nf) {n : Int} {row : List Str} {z : Str} (h : MkOk n row []) (n0 : 1 ≤ n) (hz : IsName z) : MkOk n (stepOC nf n row z).2.2 [] := by
  have fin : ∀ r : List Str, z ∈ r → r.Nodup → (r.length : Int) ≤ n → (∀ y ∈ r, IsName y) → MkOk n (nf z r) [] := fun r hzr hr hl hn =>
    ⟨by rw [N.len z r hzr]; exact hl, N.nd z r hr, List.nodup_nil, fun _ h => absurd h (by simp), fun y hy => (N.mem z r y hy).elim (hn y) (fun e => by rw [e]; exact hz)⟩
  unfold stepOC
  by_cases h1 : z ∈ row
  · rw [if_pos h1]
    exact fin row h1 h.nd h.le h.nm
  · rw [if_neg h1]
    by_cases h2 : (row.length : Int) < n
    · rw [if_pos h2]
      refine fin _ (List.mem_append_right _ List.mem_cons_self) (nodup_snoc h1 h.nd) ?_ fun y hy => ?_
      · rw [List.length_append, List.length_singleton]
        omega
      · rcases List.mem_append.mp hy with q | q
        · exact h.nm y q
        · rw [List.mem_singleton.mp q]; exact hz
    · rw [if_neg h2]
      have hl := h.le
      refine fin _ (List.mem_append_right _ List.mem_cons_self) (nodup_snoc (fun q => h1 (List.mem_of_mem_tail q)) h.nd.tail) ?_ fun y hy => ?_
      · rw [List.length_append, List.length_singleton, List.length_tail]
        omega
      · rcases List.mem_append.mp hy with q | q
        · exact h.nm y (List.mem_of_mem_tail q)
        · rw [List.mem_singleton.mp q]; exact hz
def OkR (n : Int) (s : St3) : Prop := MkOk n s.row s.marks
theorem okR0 {n : Int} (h : 1 ≤ n) : OkR n st0 := ⟨by show ((([] : List Str).length : Nat) : Int) ≤ n; simp; omega, List.nodup_nil, List.nodup_nil, fun _ h => absurd h (by simp [st0]), fun _ h => absurd h (by simp [st0])⟩
/-- an old, a cold shelf has no marks -/
def NoMk : Rule → St3 → Prop
  | .marked, _ => True
  | _, s => s.marks = [] ∧ s.rd = 0
theorem stepR_ok {r : Rule} {n : Int} {s : St3} {z : Str} (h : OkR n s) (n0 : 1 ≤ n) (hz : IsName z) : OkR n (stepR r n s z).2.2 := by
  have h0 : MkOk n s.row [] := ⟨h.le, h.nd, List.nodup_nil, fun _ h => absurd h (by simp), h.nm⟩
  cases r with
  | old => exact stepOC_ok nfOk_old h0 n0 hz
  | cold => exact stepOC_ok nfOk_cold h0 n0 hz
  | marked => exact stepM_ok h n0 hz
theorem stepR_gone {r : Rule} {n : Int} {s : St3} {z : Str} (h : OkR n s) (n0 : 1 ≤ n) : ∀ g, (stepR r n s z).2.1 = some g → IsName g := by
  have oc : ∀ nf, ∀ g, (stepOC nf n s.row z).2.1 = some g → IsName g := fun nf g hg => by
    unfold stepOC at hg
    by_cases h1 : z ∈ s.row
    · rw [if_pos h1] at hg; cases hg
    · rw [if_neg h1] at hg
      by_cases h2 : (s.row.length : Int) < n
      · rw [if_pos h2] at hg; cases hg
      · rw [if_neg h2] at hg
        exact h.nm g (List.mem_of_head? hg)
  cases r with
  | old => exact oc nfOld
  | cold => exact oc nfCold
  | marked => exact stepM_gone h n0
theorem endR_ok {r : Rule} {n : Int} (n0 : 1 ≤ n) : ∀ {zs : List Str} {s : St3}, OkR n s → (∀ z ∈ zs, IsName z) → OkR n (endR r n s zs)
  | [], _, h, _ => h
  | z :: zs, _, h, hz => endR_ok n0 (zs := zs) (stepR_ok h n0 (hz z List.mem_cons_self)) fun y hy => hz y (List.mem_cons_of_mem _ hy)
theorem pairsR_gone {r : Rule} {n : Int} (n0 : 1 ≤ n) : ∀ {zs : List Str} {s : St3}, OkR n s → (∀ z ∈ zs, IsName z) → ∀ x ∈ pairsR r n s zs, ∀ g, x.2 = some g → IsName g
  | [], _, _, _, _, hx, _, _ => absurd hx (by simp [pairsR])
  | z :: zs, s, h, hz, x, hx, g, hg => by
    rcases List.mem_cons.mp hx with e | hx
    · subst e
      exact stepR_gone h n0 g hg
    · exact pairsR_gone n0 (zs := zs) (stepR_ok h n0 (hz z List.mem_cons_self)) (fun y hy => hz y (List.mem_cons_of_mem _ hy)) x hx g hg
/-! ### a shelf of a rule on the heap -/
def ShR (C : Rule → Addr) : Rule → Hp → Addr → Int → St3 → Int → Int → List Addr → Prop
  | .marked, H, p, n, s, m, k, S => ∃ l d, S = [p, l, d] ∧ MkAt (C .marked) H p n l s.row m k d s.marks s.rd
  | r, H, p, n, s, m, k, S => ∃ l, S = [p, l] ∧ ShAt (C r) H p n l s.row m k [] ∧ s.marks = [] ∧ s.rd = 0
section
variable {C : Rule → Addr} {r : Rule} {H H' : Hp} {p tb : Addr} {n m k : Int} {s : St3} {S T : List Addr}
theorem ShR.kp (h : ShR C r H p n s m k S) (kp : Kp tb T H H') (hs : ∀ x ∈ S, x ∉ T := by simp) : ShR C r H' p n s m k S := by
  cases r with
  | marked =>
    obtain ⟨l, d, rfl, M⟩ := h
    exact ⟨l, d, rfl, M.kp kp (hs _ (by simp)) (hs _ (by simp)) (hs _ (by simp))⟩
  | old =>
    obtain ⟨l, rfl, M, e⟩ := h
    exact ⟨l, rfl, M.kp kp (hs _ (by simp)) (hs _ (by simp)), e⟩
  | cold =>
    obtain ⟨l, rfl, M, e⟩ := h
    exact ⟨l, rfl, M.kp kp (hs _ (by simp)) (hs _ (by simp)), e⟩
/-- what all three have in common -/
theorem ShR.sh (h : ShR C r H p n s m k S) : p ∈ S ∧ (∀ x ∈ S, H x ≠ none) ∧ ∃ (l : Addr) (ext : List (Str × V)), ShAt (C r) H p n l s.row m k ext ∧ ext.lookup ("wish" : Str) = none ∧ ext.lookup ("met" : Str) = none ∧ ext.lookup ("missed" : Str) = none ∧ ext.lookup ("things" : Str) = none ∧ ext.lookup ("places" : Str) = none := by
  have two : ∀ {l : Addr} {c : Addr} {ext : List (Str × V)}, ShAt c H p n l s.row m k ext → H p ≠ none ∧ H l ≠ none := fun M => by
    obtain ⟨⟨dx, hp⟩, hl⟩ := M
    exact ⟨(by rw [hp]; exact (fun z => by cases z)), (by rw [hl]; exact (fun z => by cases z))⟩
  cases r with
  | marked =>
    obtain ⟨l, d, rfl, M⟩ := h
    refine ⟨by simp, fun x hx => ?_, l, _, M.sh, extM_wish _ _, extM_met _ _, extM_missed _ _, extM_things _ _, extM_places _ _⟩
    simp only [List.mem_cons, List.not_mem_nil, or_false] at hx
    rcases hx with e | e | e <;> rw [e]
    · exact (two M.sh).1
    · exact (two M.sh).2
    · rw [M.mkd]; exact fun z => nomatch z
  | old =>
    obtain ⟨l, rfl, M, _⟩ := h
    refine ⟨by simp, fun x hx => ?_, l, _, M, rfl, rfl, rfl, rfl, rfl⟩
    simp only [List.mem_cons, List.not_mem_nil, or_false] at hx
    rcases hx with e | e <;> rw [e]
    · exact (two M).1
    · exact (two M).2
  | cold =>
    obtain ⟨l, rfl, M, _⟩ := h
    refine ⟨by simp, fun x hx => ?_, l, _, M, rfl, rfl, rfl, rfl, rfl⟩
    simp only [List.mem_cons, List.not_mem_nil, or_false] at hx
    rcases hx with e | e <;> rw [e]
    · exact (two M).1
    · exact (two M).2
end
section
variable {P : Program} {w : World} {K : PySem.W.Frag} {mg : Str → Option Value} {base : Heap} {tb : Addr} {C : Rule → Addr}
theorem MethOk.imp {CX : CXT} {k : Nat} {c : Addr} {x : Str} {ps : List Str} {sp sp' : Sp} (G : MethOk P w K mg base CX k c x ps sp) (h : ∀ vs H Q E, sp' vs H Q E → sp vs H Q E) : MethOk P w K mg base CX k c x ps sp' := by
  obtain ⟨f, fd, a, b, c, d⟩ := G
  exact ⟨f, fd, a, b, c, d.imp h⟩
def spWishR (C : Rule → Addr) (tb : Addr) (r : Rule) : Sp := fun vs H Q _ => ∃ (p : Addr) (n m k : Int) (s : St3) (z : Str) (S : List Addr), vs = [.ref p, .str z] ∧ ShR C r H p n s m k S ∧ OkR n s ∧ 1 ≤ n ∧ n ≤ 20 ∧ IsName z ∧ GxR.TabG H tb ∧
  ∀ (t : Addr) (S' : List Addr) (H' : Hp), ShR C r H' p n (stepR r n s z).2.2 (if (stepR r n s z).1 then m + 1 else m) (if (stepR r n s z).1 then k else k + 1) S' → (∀ x ∈ S', x ∈ S ∨ H x = none) → t ∉ S' →
    Kp tb S H H' → H t = none → H' t = some (.tup [.bl (stepR r n s z).1, optV (stepR r n s z).2.1]) → Q (.ref t) H'
theorem meth_wishR {k0 : Nat} (WO : MethOk P w K mg base CX0 k0 (C .old) "wish" ["self", "name"] (spWishOC nfOld tb (C .old))) (WC : MethOk P w K mg base CX0 k0 (C .cold) "wish" ["self", "name"] (spWishOC nfCold tb (C .cold)))
    (WM : MethOk P w K mg base CX0 k0 (C .marked) "wish" ["self", "name"] (spWishM tb (C .marked))) (r : Rule) : MethOk P w K mg base CX0 k0 (C r) "wish" ["self", "name"] (spWishR C tb r) := by
  cases r with
  | old =>
    refine WO.imp fun vs H Q E h => ?_
    obtain ⟨p, n, m, k, s, z, S, rfl, ⟨l, rfl, M, em, er⟩, ok, n0, n1, hz, tab, q⟩ := h
    have hx := (ShR.sh (C := C) (r := .old) ⟨l, rfl, M, em, er⟩).2.1
    refine ⟨p, l, n, m, k, z, s.row, rfl, M, n0, n1, ok.le, hz, tab, fun t H' M' kp ft et => ?_⟩
    exact q t [p, l] H' ⟨l, rfl, M', rfl, rfl⟩ (fun x hx => .inl hx) (fun hm => hx t hm ft) kp ft et
  | cold =>
    refine WC.imp fun vs H Q E h => ?_
    obtain ⟨p, n, m, k, s, z, S, rfl, ⟨l, rfl, M, em, er⟩, ok, n0, n1, hz, tab, q⟩ := h
    have hx := (ShR.sh (C := C) (r := .cold) ⟨l, rfl, M, em, er⟩).2.1
    refine ⟨p, l, n, m, k, z, s.row, rfl, M, n0, n1, ok.le, hz, tab, fun t H' M' kp ft et => ?_⟩
    exact q t [p, l] H' ⟨l, rfl, M', rfl, rfl⟩ (fun x hx => .inl hx) (fun hm => hx t hm ft) kp ft et
  | marked =>
    refine WM.imp fun vs H Q E h => ?_
    obtain ⟨p, n, m, k, s, z, S, rfl, ⟨l, d, rfl, M⟩, ok, n0, n1, hz, tab, q⟩ := h
    have hx := (ShR.sh (C := C) (r := .marked) ⟨l, d, rfl, M⟩).2.1
    refine ⟨p, l, d, n, m, k, s.rd, z, s.row, s.marks, rfl, M, ok, n0, n1, hz, tab, fun t d' H' M' hd' ntd kp ft et => ?_⟩
    refine q t [p, l, d'] H' ⟨l, d', rfl, M'⟩ (fun x hx => ?_) (fun hm => ?_) kp ft et
    · simp only [List.mem_cons, List.not_mem_nil, or_false] at hx ⊢
      rcases hx with e | e | e
      · exact .inl (.inl e)
      · exact .inl (.inr (.inl e))
      · rcases hd' with f | f
        · exact .inl (.inr (.inr (e.trans f)))
        · exact .inr (by rw [e]; exact f)
    · simp only [List.mem_cons, List.not_mem_nil, or_false] at hm
      rcases hm with e | e | e
      · exact hx t (by rw [e]; simp) ft
      · exact hx t (by rw [e]; simp) ft
      · exact ntd e
/-! ### check_rule, check_wishes -/
def rulesV : List V := [.str "old", .str "cold", .str "marked"]
def spCheckRule : Sp := fun vs H Q _ => ∃ r : Rule, vs = [.str r.txt] ∧ Q .non H
theorem sc_checkrule : FnScope ["rule"] ["rule"] (defScope s_check_rule) := ⟨rfl, rfl, rfl, by decide +kernel, rfl, by decide +kernel, by decide +kernel⟩
theorem ok_checkrule {f : Addr} {fd : FuncData} {k0 : Nat} (F : FnP K "check_rule" "check_rule" s_check_rule f fd) {ra : Addr} (hR : mg "RULES" = some (.ref ra)) (hra : ∀ H : Hp, SqT K H ra rulesV) (hty : mg "type" = none) (hstr : mg "str" = none) :
    FnOk P w K mg base CX0 (k0 + 1) f fd ["rule"] spCheckRule := by
  refine ok0 F sc_checkrule (fun vs H Q E h => ?_) (fun cdv A outer s H vs Q E hr h => ?_)
  · obtain ⟨r, rfl, _⟩ := h
    rfl
  · obtain ⟨r, rfl, q⟩ := h
    refine ⟨_, pss_one (ps_if (PW.pt (pw_or (pt_cmpR (op_neTy (hu_of hr)) (pe_callTy call_type1 (by rfl) hty (by decide +kernel) (pa_cons (pv 0) pa_nil)) (pe_bltn (v := .ty "str") (by rfl) hstr (by decide +kernel) rfl) (nomark _))
        (pw_or1 (pt_cmpR op_notIn_seq (pv 0) (pe_glob (v := .ref ra) (by rfl) hR rfl) (by with_unfolding_all rfl)))))
        (pss_one ps_never) pss_nil), ?_⟩
    refine ⟨_, rfl, .str r.txt, "str", rfl, .str _, _, _, rfl, rfl, by decide, by decide, _, rfl, ?_⟩
    refine iteF ⟨_, rfl, ra, rulesV, rfl, .inr (hra H), rfl, rfl, _, rfl, ?_⟩
    rw [if_pos rfl, show inV (.str r.txt) rulesV = true by cases r <;> kernel_rfl]
    exact iteF q
end
end Kf

namespace Kf
open PySem PySem.Spec PyProof.Rows L2
/-! ### helpers of the laws over one shelf -/
def ExtOk (ext : List (Str × V)) : Prop := ext.lookup ("wish" : Str) = none ∧ ext.lookup ("met" : Str) = none ∧ ext.lookup ("missed" : Str) = none ∧ ext.lookup ("things" : Str) = none ∧ ext.lookup ("places" : Str) = none ∧ ext.lookup ("order" : Str) = none
theorem extOk_nil : ExtOk [] := ⟨rfl, rfl, rfl, rfl, rfl, rfl⟩
def optD : Option Str → PyData
  | none => .none
  | some z => .str z
theorem dp_opt {K : PySem.W.Frag} {H : Hp} : ∀ g : Option Str, Dp K H (optV g) (optD g)
  | none => .non
  | some z => .str z
def pairD (b : Bool) (g : Option Str) : PyData := .tuple [.bool b, optD g]
theorem dp_pair {K : PySem.W.Frag} {H : Hp} {t : Addr} {b : Bool} {g : Option Str} (h : H t = some (.tup [.bl b, optV g])) : Dp K H (.ref t) (pairD b g) := .tup (SqT.of h) (.cons (.bl b) (.cons (dp_opt g) .nil))
theorem eqv_pair (b : Bool) (g : Option Str) : PyData.eqv (pairD b g) (pairD b g) = true := by
  show (PyData.eqv (.bool b) (.bool b) && (PyData.eqv (optD g) (optD g) && true)) = true
  have h1 : PyData.eqv (.bool b) (.bool b) = true := by
    show (b == b) = true
    simp
  have h2 : PyData.eqv (optD g) (optD g) = true := by
    cases g with
    | none => rfl
    | some z =>
      show (z == z) = true
      simp
  rw [h1, h2]
  rfl
theorem sh_pair {b : Bool} {g : Option Str} (h : ∀ z, g = some z → PyData.strOk z = true) : SeqAt.shaped (pairD b g) = true := by
  unfold SeqAt.shaped pairD
  rw [Bool.and_eq_true]
  cases g with
  | none => exact ⟨rfl, rfl⟩
  | some z =>
    refine ⟨?_, rfl⟩
    show (true && (PyData.strOk z && true)) = true
    rw [h z rfl]
    rfl
theorem count_bl (b : Bool) : ∀ ts : List Bool, (ts.map V.bl).countP (fun z => eqV z (.bl b)) = ts.count b
  | [] => rfl
  | t :: r => by
    rw [List.map_cons, List.countP_cons, List.count_cons, count_bl b r]
    rfl
theorem flat_bls : ∀ ts : List Bool, (ts.map V.bl).all flatV = true
  | [] => rfl
  | _ :: r => flat_bls r
theorem seq0 {n : Nat} (h : 0 < n) : seqIndex? 0 n = some 0 := by
  unfold seqIndex?
  simp
  omega
end Kf

namespace Kf
open PySem PySem.Spec PyProof.Rows L2
section
variable {P : Program} {w : World} {K : PySem.W.Frag} {mg : Str → Option Value} {base : Heap} {tb : Addr} {C : Rule → Addr} {CG : Addr}
def spCheckWishes (K : PySem.W.Frag) : Sp := fun vs H Q _ => ∃ (a : Addr) (zs : List Str), vs = [.ref a] ∧ H a = some (.lst (zs.map V.str)) ∧ zs.length ≤ 300 ∧ (∀ z ∈ zs, IsName z) ∧ GxR.TabG H (tbOf K) ∧ ∀ H', Kp (tbOf K) [] H H' → Q .non H'
theorem sc_checkwishes : FnScope ["wishes", "at", "name"] ["wishes"] (defScope s_check_wishes) := ⟨rfl, rfl, rfl, by decide +kernel, rfl, by decide +kernel, by decide +kernel⟩
theorem ok_checkwishes {f : Addr} {fd : FuncData} {k0 : Nat} (F : FnP K "check_wishes" "check_wishes" s_check_wishes f fd) (G : Glob P w K mg base CX0 (k0 + 1) "is_name" ["value"] (spIsName K)) {tl : Tok}
    (hmw : mg "MOST_WISHES" = some (.int 300 tl)) (hty : mg "type" = none) (hlist : mg "list" = none) (hlen : mg "len" = none) (henum : mg "enumerate" = none) : FnOk P w K mg base CX0 (k0 + 2) f fd ["wishes"] (spCheckWishes K) := by
  refine ok0 F sc_checkwishes (fun vs H Q E h => ?_) (fun cdv A outer s H vs Q E hr h => ?_)
  · obtain ⟨a, zs, rfl, _⟩ := h
    rfl
  · obtain ⟨a, zs, rfl, ha, hl, hn, tab, q⟩ := h
    refine ⟨_, pss_cons (ps_if (PW.pt (pw_or (pt_cmpR (op_neTy (hu_of hr)) (pe_callTy call_type1 (by rfl) hty (by decide +kernel) (pa_cons (pv 0) pa_nil)) (pe_bltn (v := .ty "list") (by rfl) hlist (by decide +kernel) rfl) (nomark _))
        (pw_or1 (pt_cmpR op_gt (pe_callB call_len_seq (by rfl) hlen PySem.boot_len (pa_cons (pv 0) pa_nil)) (pe_glob (v := .int 300) rfl hmw ⟨_, rfl⟩) (nomark _)))))
        (pss_one ps_never) pss_nil)
      (pss_one (ps_for PassesOwn.never rfl (pi_enum (by rfl) henum (pa_cons (pv 0) pa_nil)) (pg_tup rfl (pgs_cons (pg_name (i := 1) sc_checkwishes.nd rfl (Or.inl rfl)) (pgs_cons (pg_name (i := 2) sc_checkwishes.nd rfl (Or.inl rfl)) pgs_nil)))
        (pss_one (ps_if (pt_not (pt_val (pe_callG G hr (by rfl) pass0 (pa_cons (pv 2) pa_nil)))) (pss_one ps_never) pss_nil)))), ?_⟩
    refine ⟨_, rfl, .ref a, "list", rfl, .lst (SqL.of ha), _, _, rfl, rfl, by decide, by decide, _, rfl, ?_⟩
    refine iteF ⟨_, rfl, a, _, rfl, .inl (SqL.of ha), _, _, rfl, rfl, _, rfl, ?_⟩
    rw [decide_eq_false (by rw [List.length_map]; omega)]
    refine iteF ?_
    refine ⟨_, rfl, a, _, rfl, SqL.of ha, ?_⟩
    refine for_it walk_enum (fun i σ H' => ∃ v1 v2 : Option V, σ = [some (.ref a), v1, v2] ∧ Kp (tbOf K) [] H H') ⟨none, none, rfl, Kp.refl _⟩ (fun i σ H' _ ⟨_, _, _, kp⟩ => SqL.of (kp.get ha)) ?_ ?_
    · rintro i x σ H3 H4 hi ⟨v1, v2, rfl, kp⟩ ⟨Tp, x1, x2, rfl, nT, rfl, e1, e2⟩
      cases e1
      obtain ⟨z, hz, rfl⟩ := get_mapS e2
      have hzn := hn z (List.mem_of_getElem? hz)
      refine ⟨Tp, _, rfl, SqT.of upd_same, rfl, _, _, rfl, _, _, rfl, rfl, ?_⟩
      have k4 := kp.step (o := .tup [.int (i : Nat), .str z]) nT
      refine ⟨_, rfl, .str z, _, rfl, .str z, rfl, fun z' e => ?_, k4.tab tab, fun H' k5 => ⟨_, rfl, ?_⟩⟩
      · cases e
        exact Nat.le_of_lt (small_of (m := 8) hzn.2.1)
      · rw [show isNameV (.str z) = true from isNameB_of hzn]
        exact iteF ⟨_, _, rfl, k4.trans k5⟩
    · rintro σ H3 ⟨v1, v2, rfl, kp⟩
      exact q H3 kp
/-! ### shelf_of -/
def spShelfOf (C : Rule → Addr) (tb : Addr) : Sp := fun vs H Q _ => ∃ (r : Rule) (n : Int), vs = [.str r.txt, .int n] ∧ 1 ≤ n ∧ n ≤ 20 ∧ ∀ (p : Addr) (S : List Addr) (H' : Hp), ShR C r H' p n st0 0 0 S → (∀ x ∈ S, H x = none) → Kp tb [] H H' → Q (.ref p) H'
theorem sc_shelfof : FnScope ["rule", "places"] ["rule", "places"] (defScope s_shelf_of) := ⟨rfl, rfl, rfl, by decide +kernel, rfl, by decide +kernel, by decide +kernel⟩
theorem ok_shelfof {f : Addr} {fd : FuncData} {k0 : Nat} (F : FnP K "shelf_of" "shelf_of" s_shelf_of f fd) (GR : Glob P w K mg base CX0 (k0 + 1) "check_rule" ["rule"] spCheckRule)
    (MO : MakeOk P w K mg base CX0 k0 "Old" (C .old) ["self", "places"] (spInit tb (C .old))) (MC : MakeOk P w K mg base CX0 k0 "Cold" (C .cold) ["self", "places"] (spInit tb (C .cold))) (MM : MakeOk P w K mg base CX0 k0 "Marked" (C .marked) ["self", "places"] (spInitM tb (C .marked))) :
    FnOk P w K mg base CX0 (k0 + 2) f fd ["rule", "places"] (spShelfOf C tb) := by
  refine ok0 F sc_shelfof (fun vs H Q E h => ?_) (fun cdv A outer s H vs Q E hr h => ?_)
  · obtain ⟨r, n, rfl, _⟩ := h
    rfl
  · obtain ⟨r, n, rfl, n0, n1, q⟩ := h
    refine ⟨_, pss_cons (ps_expr (pe_callG GR hr (by rfl) pass0 (pa_cons (pv 0) pa_nil)))
      (pss_cons (ps_if (pt_cmpR op_eq (pv 0) pe_str (nomark _)) (pss_one (ps_ret (pe_makeG MO hr (by rfl) pass0 (pa_cons (pv 1) pa_nil)))) pss_nil)
      (pss_cons (ps_if (pt_cmpR op_eq (pv 0) pe_str (nomark _)) (pss_one (ps_ret (pe_makeG MC hr (by rfl) pass0 (pa_cons (pv 1) pa_nil)))) pss_nil)
      (pss_one (ps_ret (pe_makeG MM hr (by rfl) pass0 (pa_cons (pv 1) pa_nil)))))), ?_⟩
    have fr : ∀ {x dx l c : Addr}, (upd (upd H dx (.own x)) x (.ins c dx [])) l = none → H l = none := fun e => free_upd (free_upd e)
    refine ⟨_, rfl, r, rfl, ?_⟩
    cases r with
    | old =>
      refine ⟨_, rfl, rfl, _, rfl, ?_⟩
      rw [dec_str, show (Rule.txt .old == ("old" : Str)) = true by kernel_rfl]
      refine iteT ⟨_, rfl, fun x dx hx hdx _ => ⟨x, dx, n, rfl, n0, n1, upd_same, fun l H' hl hob hls kp => ⟨rfl, ?_⟩⟩⟩
      refine q x [x, l] H' ⟨l, rfl, ⟨hob, hls⟩, rfl, rfl⟩ (fun y hy => ?_) (Kp.made hx hdx kp)
      simp only [List.mem_cons, List.not_mem_nil, or_false] at hy
      rcases hy with e | e <;> rw [e]
      · exact hx
      · exact fr hl
    | cold =>
      refine ⟨_, rfl, rfl, _, rfl, ?_⟩
      rw [dec_str, show (Rule.txt .cold == ("old" : Str)) = false by kernel_rfl]
      refine iteF ⟨_, rfl, rfl, _, rfl, ?_⟩
      rw [dec_str, show (Rule.txt .cold == ("cold" : Str)) = true by kernel_rfl]
      refine iteT ⟨_, rfl, fun x dx hx hdx _ => ⟨x, dx, n, rfl, n0, n1, upd_same, fun l H' hl hob hls kp => ⟨rfl, ?_⟩⟩⟩
      refine q x [x, l] H' ⟨l, rfl, ⟨hob, hls⟩, rfl, rfl⟩ (fun y hy => ?_) (Kp.made hx hdx kp)
      simp only [List.mem_cons, List.not_mem_nil, or_false] at hy
      rcases hy with e | e <;> rw [e]
      · exact hx
      · exact fr hl
    | marked =>
      refine ⟨_, rfl, rfl, _, rfl, ?_⟩
      rw [dec_str, show (Rule.txt .marked == ("old" : Str)) = false by kernel_rfl]
      refine iteF ⟨_, rfl, rfl, _, rfl, ?_⟩
      rw [dec_str, show (Rule.txt .marked == ("cold" : Str)) = false by kernel_rfl]
      refine iteF ⟨_, rfl, fun x dx hx hdx _ => ⟨x, dx, n, rfl, n0, n1, upd_same, fun l d H' hl hd hld hmk kp => ⟨rfl, ?_⟩⟩⟩
      refine q x [x, l, d] H' ⟨l, d, rfl, hmk⟩ (fun y hy => ?_) (Kp.made hx hdx kp)
      simp only [List.mem_cons, List.not_mem_nil, or_false] at hy
      rcases hy with e | e | e <;> rw [e]
      · exact hx
      · exact fr hl
      · exact fr hd
/-! ### Going -/
structure ClsG (K : PySem.W.Frag) (CG : Addr) : Prop where
  cl : Cls K CG
  nA : NoAttr K CG "were_met"
  nB : NoAttr K CG "went"
def gF (a b : Addr) : List (Str × V) := [("were_met", .ref a), ("went", .ref b)]
theorem gF_put (a b : Addr) : putF "went" (.ref b) (putF "were_met" (.ref a) []) = gF a b := by kernel_rfl
theorem gF_met (a b : Addr) : (gF a b).lookup ("were_met" : Str) = some (.ref a) := by kernel_rfl
theorem gF_went (a b : Addr) : (gF a b).lookup ("went" : Str) = some (.ref b) := by kernel_rfl
structure GoAt (CG : Addr) (H : Hp) (g a b : Addr) (xs ys : List V) : Prop where
  ob : ∃ dx, H g = some (.ins CG dx (gF a b))
  ha : H a = some (.lst xs)
  hb : H b = some (.lst ys)
  ne : a ≠ b
def spGoInit (tb CG : Addr) : Sp := fun vs H Q _ => ∃ (g dx a b : Addr) (xs ys : List V), vs = [.ref g, .ref a, .ref b] ∧ H g = some (.ins CG dx []) ∧ H a = some (.lst xs) ∧ H b = some (.lst ys) ∧
  ∀ (a' b' : Addr) (H' : Hp), H a' = none → H b' = none → GoAt CG H' g a' b' xs ys → Kp tb [g] H H' → Q .non H'
theorem sc_goinit : FnScope ["self", "were_met", "went"] ["self", "were_met", "went"] (defScope s_Going___init__) := ⟨rfl, rfl, rfl, by decide +kernel, rfl, by decide +kernel, by decide +kernel⟩
theorem ok_goinit {f : Addr} {fd : FuncData} {k0 : Nat} (F : FnP K "__init__" "Going.__init__" s_Going___init__ f fd) (T : ClsG K CG) (hl : mg "list" = none) : FnOk P w K mg base CX0 (k0 + 1) f fd ["self", "were_met", "went"] (spGoInit tb CG) := by
  refine ok0 F sc_goinit (fun vs H Q E h => ?_) (fun cdv A outer s H vs Q E hr h => ?_)
  · obtain ⟨g, dx, a, b, xs, ys, rfl, _⟩ := h
    rfl
  · obtain ⟨g, dx, a, b, xs, ys, rfl, hg, ha, hb, q⟩ := h
    have nga : g ≠ a := ne_of hg ha (by intro z; cases z)
    have ngb : g ≠ b := ne_of hg hb (by intro z; cases z)
    refine ⟨_, pss_cons (ps_fld (pv 0) (pe_callTy call_list_of (by rfl) hl (by decide +kernel) (pa_cons (pv 1) pa_nil)) rfl) (pss_one (ps_fld (pv 0) (pe_callTy call_list_of (by rfl) hl (by decide +kernel) (pa_cons (pv 2) pa_nil)) rfl)), ?_⟩
    refine ⟨_, rfl, a, xs, rfl, .inl (SqL.of ha), fun a' fa => ?_⟩
    have nga' : g ≠ a' := ne_of_none hg fa
    have nba' : b ≠ a' := ne_of_none hb fa
    refine ⟨_, rfl, g, CG, dx, [], rfl, Eq.trans (upd_ne nga') hg, T.cl, T.nA, (by show 0 < 1000; decide), ?_⟩
    refine ⟨_, rfl, b, ys, rfl, .inl (SqL.of (Eq.trans (upd_ne ngb.symm) (Eq.trans (upd_ne nba') hb))), fun b' fb => ?_⟩
    have fb0 : H b' = none := free_upd (free_upd fb)
    have ngb' : g ≠ b' := ne_of_none hg fb0
    have nab' : a' ≠ b' := fun e => by rw [← e, upd_ne nga'.symm, upd_same] at fb; cases fb
    refine ⟨_, rfl, g, CG, dx, _, rfl, Eq.trans (upd_ne ngb') upd_same, T.cl, T.nB, (by show 1 < 1000; decide), ?_⟩
    refine q a' b' _ fa fb0 ⟨⟨dx, by rw [upd_same, gF_put]⟩, by rw [upd_ne nga'.symm, upd_ne nab', upd_ne nga'.symm, upd_same], by rw [upd_ne ngb'.symm, upd_same], nab'⟩ ?_
    have k1 : Kp tb [g] H (upd H a' (.lst xs)) := Kp.new fa
    have k2 := k1.trans (Kp.put (o := .ins CG dx (putF "were_met" (.ref a') [])) (Eq.trans (upd_ne nga') hg))
    have k3 := k2.step (o := .lst ys) fb
    exact k3.trans (Kp.put (Eq.trans (upd_ne ngb') upd_same))
/-! ### going -/
def metV (ps : List (Bool × Option Str)) : List V := ps.map fun x => V.bl x.1
def wentV (ps : List (Bool × Option Str)) : List V := ps.map fun x => optV x.2
def spGoing (C : Rule → Addr) (CG : Addr) (tb : Addr) : Sp := fun vs H Q _ => ∃ (r : Rule) (n : Int) (a : Addr) (zs : List Str), vs = [.str r.txt, .int n, .ref a] ∧ 1 ≤ n ∧ n ≤ 20 ∧ H a = some (.lst (zs.map V.str)) ∧ zs.length ≤ 300 ∧ (∀ z ∈ zs, IsName z) ∧ GxR.TabG H tb ∧
  ∀ (g wm we : Addr) (H' : Hp), H g = none → H wm = none → H we = none → GoAt CG H' g wm we (metV (pairsR r n st0 zs)) (wentV (pairsR r n st0 zs)) → Kp tb [] H H' → Q (.ref g) H'
abbrev nGoing : List Str := ["rule", "places", "wishes", "shelf", "were_met", "went", "name", "met", "gone"]
theorem sc_going : FnScope nGoing ["rule", "places", "wishes"] (defScope s_going) := ⟨rfl, rfl, rfl, by decide +kernel, rfl, by decide +kernel, by decide +kernel⟩
theorem ok_going {f : Addr} {fd : FuncData} {k0 : Nat} (F : FnP K "going" "going" s_going f fd) (GS : Glob P w K mg base CX0 (k0 + 2) "shelf_of" ["rule", "places"] (spShelfOf C (tbOf K))) (GW : Glob P w K mg base CX0 (k0 + 2) "check_wishes" ["wishes"] (spCheckWishes K))
    (MW : ∀ r, MethOk P w K mg base CX0 (k0 + 2) (C r) "wish" ["self", "name"] (spWishR C (tbOf K) r)) (MG : MakeOk P w K mg base CX0 (k0 + 1) "Going" CG ["self", "were_met", "went"] (spGoInit (tbOf K) CG)) :
    FnOk P w K mg base CX0 (k0 + 3) f fd ["rule", "places", "wishes"] (spGoing C CG (tbOf K)) := by
  refine ok0 F sc_going (fun vs H Q E h => ?_) (fun cdv A outer s H vs Q E hr h => ?_)
  · obtain ⟨r, n, a, zs, rfl, _⟩ := h
    rfl
  · obtain ⟨r, n, a, zs, rfl, n0, n1, ha, hl, hn, tab, q⟩ := h
    refine ⟨_, pss_cons (ps_set (i := 3) sc_going.nd rfl (.inl rfl) (pe_callG GS hr (by rfl) pass0 (pa_cons (pv 0) (pa_cons (pv 1) pa_nil))))
      (pss_cons (ps_expr (pe_callG GW hr (by rfl) pass0 (pa_cons (pv 2) pa_nil)))
      (pss_cons (ps_set (i := 4) sc_going.nd rfl (.inl rfl) (pe_lst pa_nil))
      (pss_cons (ps_set (i := 5) sc_going.nd rfl (.inl rfl) (pe_lst pa_nil))
      (pss_cons (ps_for PassesOwn.never rfl (pi_list (pv 2)) (pg_name (i := 6) sc_going.nd rfl (Or.inl rfl))
        (pss_cons (ps_asg (pe_methG (pv 3) (MW r) hr pass0 (pa_cons (pv 6) pa_nil)) (pg_tup rfl (pgs_cons (pg_name (i := 7) sc_going.nd rfl (Or.inl rfl)) (pgs_cons (pg_name (i := 8) sc_going.nd rfl (Or.inl rfl)) pgs_nil))))
        (pss_cons (ps_expr (pe_bm PySem.F.plainAttrs_list PySem.F.slot_list_append PySem.F.type_list_append mt_append (pv 4) (pa_cons (pv 7) pa_nil)))
        (pss_one (ps_expr (pe_bm PySem.F.plainAttrs_list PySem.F.slot_list_append PySem.F.type_list_append mt_append (pv 5) (pa_cons (pv 8) pa_nil)))))))
      (pss_one (ps_ret (pe_makeG MG hr (by rfl) pass0 (pa_cons (pv 4) (pa_cons (pv 5) pa_nil))))))))), ?_⟩
    refine ⟨_, rfl, _, rfl, r, n, rfl, n0, n1, fun p S0 H1 sh1 hS0 k1 => ?_⟩
    refine ⟨_, rfl, a, zs, rfl, k1.get ha, hl, hn, k1.tab tab, fun H2 k2 => ?_⟩
    have sh2 := sh1.kp k2
    refine ⟨Nat.zero_le _, fun wm hwm => ?_⟩
    have k3 : Kp (tbOf K) [] H2 (upd H2 wm (.lst [])) := Kp.new hwm
    have g3 : (upd H2 wm (.lst [])) wm = some (.lst []) := upd_same
    have sh3 := sh2.kp k3
    have wmS : wm ∉ S0 := fun h => sh2.sh.2.1 _ h hwm
    generalize upd H2 wm (.lst []) = H3 at k3 g3 sh3 ⊢
    refine ⟨Nat.zero_le _, fun we hwe => ?_⟩
    have k4 : Kp (tbOf K) [] H3 (upd H3 we (.lst [])) := Kp.new hwe
    have g4 : (upd H3 we (.lst [])) we = some (.lst []) := upd_same
    have sh4 := sh3.kp k4
    have weS : we ∉ S0 := fun h => sh3.sh.2.1 _ h hwe
    have nwe : wm ≠ we := ne_of_none g3 hwe
    have g4m := k4.get g3
    have kAll : Kp (tbOf K) [] H (upd H3 we (.lst [])) := k1.trans (k2.trans (k3.trans k4))
    have fwm : H wm = none := k1.free _ (k2.free _ hwm)
    have fwe : H we = none := k1.free _ (k2.free _ (k3.free _ hwe))
    generalize upd H3 we (.lst []) = H4 at k4 g4 g4m sh4 kAll ⊢
    have okz : ∀ i, OkR n (endR r n st0 (zs.take i)) := fun i => endR_ok n0 (okR0 n0) fun z hz => hn z (List.mem_of_mem_take hz)
    refine ⟨_, rfl, a, rfl, ⟨_, SqL.of (kAll.get ha)⟩, ?_⟩
    refine for_it walk_list (fun i σ H' => ∃ (S : List Addr) (m k : Int) (v6 v7 v8 : Option V), σ = [some (.str r.txt), some (.int n), some (.ref a), some (.ref p), some (.ref wm), some (.ref we), v6, v7, v8] ∧
      ShR C r H' p n (endR r n st0 (zs.take i)) m k S ∧ (∀ x ∈ S, H x = none) ∧ wm ∉ S ∧ we ∉ S ∧ H' wm = some (.lst (metV (pairsR r n st0 (zs.take i)))) ∧ H' we = some (.lst (wentV (pairsR r n st0 (zs.take i)))) ∧ Kp (tbOf K) [] H H')
      ⟨S0, 0, 0, none, none, none, rfl, sh4, hS0, wmS, weS, g4m, g4, kAll⟩ (fun i σ H' _ ⟨_, _, _, _, _, _, _, _, _, _, _, _, _, kp⟩ => SqL.of (kp.get ha)) ?_ ?_
    · rintro i x σ H5 H6 hi ⟨S, m, k, v6, v7, v8, rfl, sh, hS, wS, eS, gm, gw, kp⟩ ⟨rfl, hx⟩
      obtain ⟨z, hz, rfl⟩ := get_mapS hx
      rw [List.length_map] at hi
      have hzn := hn z (List.mem_of_getElem? hz)
      have etake : zs.take (i + 1) = zs.take i ++ [z] := by rw [List.take_add_one, hz]; rfl
      obtain ⟨pS, aS, l, ext, shA, x1, _⟩ := sh.sh
      obtain ⟨dx, hp⟩ := shA.ob
      have hlen : (pairsR r n st0 (zs.take i)).length ≤ 300 := by rw [pairsR_len]; exact Nat.le_trans (List.length_take_le _ _) (by omega)
      refine ⟨_, rfl, p, dx, _, rfl, hp, by rw [oF_wish]; exact x1, _, rfl, ?_⟩
      refine ⟨p, n, m, k, _, z, S, rfl, sh, okz i, n0, n1, hzn, kp.tab tab, fun t S' H7 sh7 hS' tS' k7 ft et => ?_⟩
      rw [etake, pairsR_snoc, endR_snoc]
      generalize stepR r n (endR r n st0 (zs.take i)) z = st at *
      obtain ⟨met, gone, s'⟩ := st
      generalize pairsR r n st0 (zs.take i) = prs at *
      refine ⟨t, _, rfl, SqT.of et, rfl, _, _, rfl, _, _, rfl, rfl, ?_⟩
      have gm7 := k7.get gm rfl wS
      have gw7 := k7.get gw rfl eS
      refine ⟨_, rfl, .inl ⟨rfl, _, SqL.of gm7⟩, _, rfl, wm, _, _, rfl, rfl, gm7, by unfold metV; rw [List.length_map]; exact small_of (m := 300) hlen, ?_⟩
      have k8 : Kp (tbOf K) [wm] H7 (upd H7 wm (.lst (metV prs ++ [.bl met]))) := Kp.put gm7
      have gm8 : (upd H7 wm (.lst (metV prs ++ [.bl met]))) wm = some (.lst (metV (prs ++ [(met, gone)]))) := by rw [upd_same]; unfold metV; rw [List.map_append]; rfl
      have gw8 := k8.get gw7 rfl (by simp [nwe.symm])
      have wS' : wm ∉ S' := fun h => (hS' _ h).elim wS (fun e => by rw [gm] at e; cases e)
      have eS' : we ∉ S' := fun h => (hS' _ h).elim eS (fun e => by rw [gw] at e; cases e)
      have sh8 := sh7.kp k8 (fun x hx h => wS' (by rw [← List.mem_singleton.mp h]; exact hx))
      generalize upd H7 wm (.lst (metV prs ++ [.bl met])) = H8 at k8 gm8 gw8 sh8 ⊢
      refine ⟨_, rfl, .inl ⟨rfl, _, SqL.of gw8⟩, _, rfl, we, _, _, rfl, rfl, gw8, by unfold wentV; rw [List.length_map]; exact small_of (m := 300) hlen, ?_⟩
      have k9 : Kp (tbOf K) [we] H8 (upd H8 we (.lst (wentV prs ++ [optV gone]))) := Kp.put gw8
      refine ⟨S', _, _, _, _, _, rfl, sh8.kp k9 (fun x hx h => eS' (by rw [← List.mem_singleton.mp h]; exact hx)), fun x hx => (hS' x hx).elim (hS x) (fun e => kp.free _ e), wS', eS', k9.get gm8 rfl (by simp [nwe]), by rw [upd_same]; unfold wentV; rw [List.map_append]; rfl, ?_⟩
      exact ((kp.transN k7 hS).transN k8 (fun x hx => by rw [List.mem_singleton.mp hx]; exact fwm)).transN k9 (fun x hx => by rw [List.mem_singleton.mp hx]; exact fwe)
    · rintro σ H5 ⟨S, m, k, v6, v7, v8, rfl, sh, hS, wS, eS, gm, gw, kp⟩
      rw [List.length_map, List.take_of_length_le (Nat.le_refl _)] at gm gw
      refine ⟨_, rfl, _, rfl, fun g dg hg hdg _ => ⟨g, dg, wm, we, metV (pairsR r n st0 zs), wentV (pairsR r n st0 zs), rfl, upd_same, ?_, ?_, fun a' b' H6 fa fb go kp6 => ⟨rfl, ?_⟩⟩⟩
      · rw [upd_ne (ne_of_none gm hg), upd_ne (ne_of_none gm hdg)]
        exact gm
      · rw [upd_ne (ne_of_none gw hg), upd_ne (ne_of_none gw hdg)]
        exact gw
      · exact q g a' b' H6 (kp.free _ hg) (kp.free _ (free_upd (free_upd fa))) (kp.free _ (free_upd (free_upd fb))) go (kp.trans (Kp.made hg hdg kp6))
/-! ### missed_in -/
def spMissed (CG : Addr) : Sp := fun vs H Q _ => ∃ (g a b : Addr) (ts : List Bool) (ys : List V), vs = [.ref g] ∧ GoAt CG H g a b (ts.map V.bl) ys ∧ Q (.int (ts.count false : Nat)) H
end
def clsR (K : PySem.W.Frag) : Rule → Addr
  | .old => He.ga K "Old"
  | .cold => He.ga K "Cold"
  | .marked => He.ga K "Marked"
end Kf

namespace Kf
open PySem PySem.Spec PyProof.Rows L2
/-! ### where a thing is wished next -/
/-- behind place k: the next wish of z, or how many wishes there are -/
def nextW (ws : List Str) (k : Nat) (z : Str) : Nat := (k + 1) + (ws.drop (k + 1)).idxOf z
theorem idxOf_split {z : Str} : ∀ {xs : List Str} {j : Nat}, (∀ i, i < j → xs[i]? ≠ some z) → xs[j]? = some z → xs.idxOf z = j
  | [], _, _, h => by simp at h
  | x :: r, 0, _, h => by
    rw [Option.some.inj h]
    simp
  | x :: r, j + 1, hn, h => by
    have h0 : x ≠ z := fun e => hn 0 (Nat.succ_pos _) (by rw [e]; rfl)
    rw [List.idxOf_cons, show (x == z) = false from beq_eq_false_iff_ne.mpr h0]
    exact congrArg (· + 1) (idxOf_split (xs := r) (j := j) (fun i hi => hn (i + 1) (Nat.succ_lt_succ hi)) h)
theorem idxOf_none {z : Str} : ∀ {xs : List Str}, (∀ i, i < xs.length → xs[i]? ≠ some z) → xs.idxOf z = xs.length
  | [], _ => rfl
  | x :: r, h => by
    have h0 : x ≠ z := fun e => h 0 (Nat.succ_pos _) (by rw [e]; rfl)
    rw [List.idxOf_cons, show (x == z) = false from beq_eq_false_iff_ne.mpr h0]
    exact congrArg (· + 1) (idxOf_none (xs := r) fun i hi => h (i + 1) (Nat.succ_lt_succ hi))
theorem nextW_at {ws : List Str} {k j : Nat} {z : Str} (hn : ∀ i, i < j → ws[k + 1 + i]? ≠ some z) (h : ws[k + 1 + j]? = some z) : nextW ws k z = k + 1 + j := by
  unfold nextW
  rw [idxOf_split (j := j) (fun i hi => by rw [List.getElem?_drop]; exact hn i hi) (by rw [List.getElem?_drop]; exact h)]
theorem nextW_end {ws : List Str} {k : Nat} {z : Str} (hk : k < ws.length) (hn : ∀ i, k + 1 + i < ws.length → ws[k + 1 + i]? ≠ some z) : nextW ws k z = ws.length := by
  unfold nextW
  rw [idxOf_none (fun i hi => by rw [List.getElem?_drop]; rw [List.length_drop] at hi; exact hn i (by omega)), List.length_drop]
  omega
/-- one place further on: the same, but for what is wished there -/
theorem nextW_step {ws : List Str} {k : Nat} {y z : Str} (h : ws[k + 1]? = some y) : nextW ws k z = if y = z then k + 1 else nextW ws (k + 1) z := by
  have hl : k + 1 < ws.length := (List.getElem?_eq_some_iff.mp h).1
  have hd : ws.drop (k + 1) = y :: ws.drop (k + 2) := by
    rw [List.drop_eq_getElem_cons hl]
    exact congrArg (· :: _) (List.getElem?_eq_some_iff.mp h).2
  unfold nextW
  rw [hd, List.idxOf_cons]
  by_cases e : y = z
  · rw [if_pos e, show (y == z) = true from beq_iff_eq.mpr e]
    rfl
  · rw [if_neg e, show (y == z) = false from beq_eq_false_iff_ne.mpr e]
    show (k + 1) + ((ws.drop (k + 1 + 1)).idxOf z + 1) = (k + 1 + 1) + (ws.drop (k + 1 + 1)).idxOf z
    omega
theorem nextW_le {ws : List Str} {k : Nat} {z : Str} (hk : k < ws.length) : nextW ws k z ≤ ws.length := by
  unfold nextW
  have := List.idxOf_le_length (a := z) (l := ws.drop (k + 1))
  rw [List.length_drop] at this
  omega
section
variable {P : Program} {w : World} {K : PySem.W.Frag} {mg : Str → Option Value} {base : Heap} {tb : Addr}
def spAgain : Sp := fun vs H Q _ => ∃ (a : Addr) (ws : List Str) (k : Nat) (z : Str), vs = [.ref a, .int k, .str z] ∧ H a = some (.lst (ws.map V.str)) ∧ k < ws.length ∧ ws.length ≤ 300 ∧ Q (.int (nextW ws k z : Nat)) H
end
end Kf

namespace Kf
open PySem PySem.Spec PyProof.Rows L2
/-! ### _wished_again: from the last wish back -/
/-- for each place the next wish of the same thing -/
def nextsW (ws : List Str) : List Nat := (List.range ws.length).map fun k => nextW ws k (ws.getD k ⟨#[]⟩)
/-- what is known of the wishes from place m on -/
def fromW (ws : List Str) (m : Nat) (z : Str) : Option V := if m + (ws.drop m).idxOf z < ws.length then some (.int ((m + (ws.drop m).idxOf z : Nat) : Int)) else none
theorem fromW_end (ws : List Str) (z : Str) : fromW ws ws.length z = none := by
  unfold fromW
  rw [if_neg (by omega)]
theorem fromW_step {ws : List Str} {m : Nat} {y z : Str} (h : ws[m]? = some y) : fromW ws m z = if z = y then some (.int (m : Nat)) else fromW ws (m + 1) z := by
  have hl : m < ws.length := (List.getElem?_eq_some_iff.mp h).1
  have hd : ws.drop m = y :: ws.drop (m + 1) := by
    rw [List.drop_eq_getElem_cons hl]
    exact congrArg (· :: _) (List.getElem?_eq_some_iff.mp h).2
  unfold fromW
  rw [hd, List.idxOf_cons]
  by_cases e : z = y
  · rw [if_pos e, show (y == z) = true from beq_iff_eq.mpr e.symm]
    exact if_pos (show m + 0 < ws.length from hl)
  · rw [if_neg e, show (y == z) = false from beq_eq_false_iff_ne.mpr (Ne.symm e)]
    show (if m + ((ws.drop (m + 1)).idxOf z + 1) < ws.length then some (V.int ((m + ((ws.drop (m + 1)).idxOf z + 1) : Nat) : Int)) else none) = _
    rw [show m + ((ws.drop (m + 1)).idxOf z + 1) = m + 1 + (ws.drop (m + 1)).idxOf z by omega]
theorem fromW_get {ws : List Str} {k : Nat} {z : Str} (hk : k < ws.length) : (fromW ws (k + 1) z).getD (.int (ws.length : Nat)) = .int (nextW ws k z : Nat) := by
  have hle := nextW_le (z := z) hk
  unfold fromW
  by_cases h : k + 1 + (ws.drop (k + 1)).idxOf z < ws.length
  · rw [if_pos h]
    rfl
  · rw [if_neg h]
    have : nextW ws k z = ws.length := by
      unfold nextW at hle ⊢
      omega
    rw [this]
    rfl
/-- the same from the last one back, i of them -/
def backW (ws : List Str) (i : Nat) : List V := (List.range i).map fun j => V.int (nextW ws (ws.length - 1 - j) (ws.getD (ws.length - 1 - j) ⟨#[]⟩) : Nat)
theorem backW_succ (ws : List Str) (i : Nat) : backW ws (i + 1) = backW ws i ++ [V.int (nextW ws (ws.length - 1 - i) (ws.getD (ws.length - 1 - i) ⟨#[]⟩) : Nat)] := by
  unfold backW
  rw [List.range_succ, List.map_append]
  rfl
theorem backW_all (ws : List Str) : (backW ws ws.length).reverse = (nextsW ws).map fun n => V.int (n : Nat) := by
  unfold backW nextsW
  rw [List.map_map]
  refine List.ext_getElem (by simp) fun i h1 h2 => ?_
  simp only [List.length_reverse, List.length_map, List.length_range] at h1
  rw [List.getElem_reverse]
  simp only [List.getElem_map, List.getElem_range, List.length_map, List.length_range, Function.comp]
  rw [show ws.length - 1 - (ws.length - 1 - i) = i by omega]
theorem putK_len (z : Str) (v : V) (kvs : List (Key × V)) : (putK kvs (Sum.inr z : Key) v).length ≤ kvs.length + 1 := by
  unfold putK
  split
  · rw [List.length_map]; omega
  · rw [List.length_append]; show kvs.length + 1 ≤ _; omega
section
variable {P : Program} {w : World} {K : PySem.W.Frag} {mg : Str → Option Value} {base : Heap} {tb : Addr}
def spWished (tb : Addr) : Sp := fun vs H Q _ => ∃ (a : Addr) (ws : List Str), vs = [.ref a] ∧ H a = some (.lst (ws.map V.str)) ∧ ws.length ≤ 300 ∧
  ∀ (o : Addr) (H' : Hp), H o = none → H' o = some (.lst ((nextsW ws).map fun n => V.int (n : Nat))) → Kp tb [] H H' → Q (.ref o) H'
theorem sc_wished : FnScope ["wishes", "behind", "ahead", "found", "at"] ["wishes"] (defScope s__wished_again) := ⟨rfl, rfl, rfl, by decide +kernel, rfl, by decide +kernel, by decide +kernel⟩
theorem ok_wished {f : Addr} {fd : FuncData} {k0 : Nat} (F : FnP K "_wished_again" "_wished_again" s__wished_again f fd) (hrange : mg "range" = none) (hlen : mg "len" = none) : FnOk P w K mg base CX0 (k0 + 1) f fd ["wishes"] (spWished tb) := by
  refine ok0 F sc_wished (fun vs H Q E h => ?_) (fun cdv A outer s H vs Q E hr h => ?_)
  · obtain ⟨a, ws, rfl, _⟩ := h
    rfl
  · obtain ⟨a, ws, rfl, ha, hl, q⟩ := h
    have hu := hu_of hr
    refine ⟨_, pss_cons (ps_set (i := 1) sc_wished.nd rfl (.inl rfl) (pe_callB call_len_seq (by rfl) hlen PySem.boot_len (pa_cons (pv 0) pa_nil)))
      (pss_cons (ps_set (i := 2) sc_wished.nd rfl (.inl rfl) pe_dnewK)
      (pss_cons (ps_set (i := 3) sc_wished.nd rfl (.inl rfl) (pe_lst pa_nil))
      (pss_cons (ps_for PassesOwn.never rfl (pi_range3 (by rfl) hrange (pa_cons (pe_op op_sub (pe_callB call_len_seq (by rfl) hlen PySem.boot_len (pa_cons (pv 0) pa_nil)) pe_int) (pa_cons (pe_un un_neg pe_int) (pa_cons (pe_un un_neg pe_int) pa_nil)))) (pg_name (i := 4) sc_wished.nd rfl (Or.inl rfl))
        (pss_cons (ps_expr (pe_bm PySem.F.plainAttrs_list PySem.F.slot_list_append PySem.F.type_list_append mt_append (pv 3) (pa_cons (pe_dget2 hu (pv 2) (pe_ix ix_list (pv 0) (pv 4) (fun _ _ => rfl)) (pv 1) ⟨by rfl, by rfl, by rfl, by rfl⟩) pa_nil)))
        (pss_one (ps_dput hu (pv 2) (pe_ix ix_list (pv 0) (pv 4) (fun _ _ => rfl)) (pv 4) rfl))))
      (pss_one (ps_ret (pe_revL (pv 3))))))), ?_⟩
    refine ⟨_, rfl, a, _, rfl, .inl (SqL.of ha), fun d hd => ?_⟩
    have k1 : Kp tb [] H (upd H d (.dK [])) := Kp.new hd
    have gd : (upd H d (.dK [])) d = some (.dK []) := upd_same
    generalize upd H d (.dK []) = H1 at k1 gd ⊢
    refine ⟨Nat.zero_le _, fun fa hfa => ?_⟩
    have k2 : Kp tb [] H1 (upd H1 fa (.lst [])) := Kp.new hfa
    have gf : (upd H1 fa (.lst [])) fa = some (.lst []) := upd_same
    have gd2 := k2.get gd
    have k12 := k1.trans k2
    have ndf : d ≠ fa := ne_of_none gd hfa
    have ff : H fa = none := k1.free _ hfa
    generalize upd H1 fa (.lst []) = H2 at k2 gf gd2 k12 ⊢
    refine ⟨_, rfl, a, _, rfl, .inl (SqL.of (k12.get ha)), _, _, rfl, rfl, _, rfl, _, rfl, _, _, _, _, rfl, RgC.neg (by rw [List.length_map]; omega) (by rw [List.length_map]; omega) (by decide) (by decide), ?_⟩
    rw [List.length_map]
    have en : (((ws.length : Nat) : Int) - 1 - -1).toNat = ws.length := by omega
    rw [en]
    refine for_it walk_rangeC (fun i σ H' => ∃ (kvs : List (Key × V)) (v4 : Option V), σ = [some (.ref a), some (.int (ws.length : Nat)), some (.ref d), some (.ref fa), v4] ∧ H' d = some (.dK kvs) ∧ kvs.length ≤ i ∧ (∀ z, valV kvs (Sum.inr z) = fromW ws (ws.length - i) z) ∧ H' fa = some (.lst (backW ws i)) ∧ Kp tb [] H H')
      ⟨[], none, rfl, gd2, Nat.le_refl _, fun z => by rw [Nat.sub_zero, fromW_end]; rfl, gf, k12⟩ (fun _ _ _ _ _ => trivial) ?_ ?_
    · rintro i x σ H3 H4 hi ⟨kvs, v4, rfl, hd3, hkl, hval, hf3, kp⟩ ⟨rfl, rfl⟩
      have hk : ws.length - 1 - i < ws.length := by omega
      have e1 : ((ws.length : Nat) : Int) - 1 + (i : Nat) * -1 = ((ws.length - 1 - i : Nat) : Int) := by omega
      have hz : ws[ws.length - 1 - i]? = some (ws.getD (ws.length - 1 - i) ⟨#[]⟩) := by rw [List.getD_eq_getElem?_getD, List.getElem?_eq_getElem hk]; rfl
      have eat : atI (ws.map V.str) ((ws.length : Nat) - 1 + (i : Nat) * -1) = some (V.str (ws.getD (ws.length - 1 - i) ⟨#[]⟩)) := at_of (j := ws.length - 1 - i) e1 (by rw [List.getElem?_map, hz]; rfl)
      have hget := fromW_get (z := ws.getD (ws.length - 1 - i) ⟨#[]⟩) hk
      rw [show ws.length - 1 - i + 1 = ws.length - i by omega] at hget
      have hbs := backW_succ ws i
      generalize hzz : ws.getD (ws.length - 1 - i) ⟨#[]⟩ = z at hz eat hget hbs
      refine ⟨_, rfl, .inl ⟨rfl, _, SqL.of hf3⟩, _, rfl, d, rfl, .inl ⟨kvs, .inl hd3⟩, _, rfl, _, rfl, a, _, _, _, rfl, rfl, SqL.of (kp.get ha), eat, _, rfl, _, DGet.k (k := Sum.inr z) hd3, ?_⟩
      rw [hval z, hget]
      refine ⟨fa, _, _, rfl, rfl, hf3, by unfold backW; rw [List.length_map, List.length_range]; exact small_of (m := 300) (by omega), ?_⟩
      rw [← hbs]
      have k5 : Kp tb [fa] H4 (upd H4 fa (.lst (backW ws (i + 1)))) := Kp.put hf3
      have hd5 := k5.get hd3 rfl (by simp [ndf])
      have hf5 : (upd H4 fa (.lst (backW ws (i + 1)))) fa = some (.lst (backW ws (i + 1))) := upd_same
      have kp5 := kp.transN k5 (fun y hy => by rw [List.mem_singleton.mp hy]; exact ff)
      generalize upd H4 fa (.lst (backW ws (i + 1))) = H5 at k5 hd5 hf5 kp5 ⊢
      refine ⟨_, rfl, _, rfl, _, rfl, _, rfl, a, _, _, _, rfl, rfl, SqL.of (kp5.get ha), eat, d, _, rfl, DPut.k (k := Sum.inr z) hd5 (small_of (m := 300) (by omega)), ?_⟩
      have k6 : Kp tb [d] H5 (upd H5 d (.dK (putK kvs (Sum.inr z : Key) (.int ((ws.length : Nat) - 1 + (i : Nat) * -1))))) := Kp.put hd5
      refine ⟨_, _, rfl, upd_same, Nat.le_trans (putK_len z _ kvs) (by omega), fun y => ?_, k6.get hf5 rfl (by simp [ndf.symm]), kp5.transN k6 (fun y hy => by rw [List.mem_singleton.mp hy]; exact hd)⟩
      rw [valV_put, hval, show ws.length - (i + 1) = ws.length - 1 - i by omega, fromW_step hz, show ws.length - 1 - i + 1 = ws.length - i by omega]
      dsimp only
      rw [e1]
      by_cases e : y = z
      · rw [if_pos (by rw [e]), if_pos e]
      · rw [if_neg (fun q => e (Sum.inr.inj q)), if_neg e]
    · rintro σ H3 ⟨kvs, v4, rfl, hd3, hkl, hval, hf3, kp⟩
      refine ⟨_, rfl, fa, _, rfl, SqL.of hf3, fun o ho => ?_⟩
      rw [backW_all]
      exact q o _ (kp.free _ ho) upd_same (kp.step ho)
end
end Kf

namespace Kf
open PySem PySem.Spec PyProof.Rows L2
/-! ### max(d.values()), a dict with whole numbers for values, one at least -/
def tMaxVals (td : TE) : TE := fun σ H Q => td σ H fun x H1 => ∃ (d : Addr) (kvs : List (Key × V)) (ns : List Int), x = .ref d ∧ H1 d = some (.dK kvs) ∧ kvs.map (·.2) = ns.map V.int ∧ ns ≠ [] ∧ ∀ m, m ∈ ns → (∀ j ∈ ns, j ≤ m) → Q (.int m) H1
section
variable {X : Cx} {o : Expr} {p pos apos mpos : Pos} {td : TE}
theorem pe_maxVals (hc : X.calm = true) (hg : Gl X "max") (hm : X.mg "max" = none) (hd : PE X o td) (hbase : attributeBase o "values" X.env (eval o X.env) = eval o X.env := by rfl) (hline : (apos.endLine == mpos.line) = true := by rfl)
    (hse : starEach [Expr.Call (.Attribute o "values" apos) [] [] mpos] X.env = [(false, eval (Expr.Call (.Attribute o "values" apos) [] [] mpos) X.env)] := by rfl) :
    PE X (.Call (.Name "max" p) [.Call (.Attribute o "values" apos) [] [] mpos] [] pos) (tMaxVals td) := by
  refine ⟨fun pins s σ H Q I h => wpAny_Call_Name_kw (ld_blt I hg hm (u := .builtin "max") (by first | rfl | decide +kernel) ?_ (by first | decide +kernel | decide) (by first | decide +kernel | decide))⟩
  rw [hse]
  refine PySem.callWith_builtin1 (wpAny_Call_method0_late hbase hline (thn (hd.run pins s σ H _ I h) fun v s1 ⟨x, H1, I1, r1, d, kvs, ns, ex, ha, hv, hne, q⟩ => ?_))
  subst ex
  obtain rfl : v = Value.ref d := r1
  obtain ⟨_, hsys, vs, rel, dof⟩ := dk_of I1.hok ha
  obtain ⟨ep, dat⟩ := dof.dictAt
  obtain ⟨ob, es, ho, hex, hdat, hko, hpr, hnd⟩ := id dat
  have lt0 : d < s1.heap.objs.size := Heap.lt_size ho
  -- the values, read by place
  have hlen : vs.length = ns.length := by
    rw [← KV.length rel, ← List.length_map (f := (·.2)) (as := kvs), hv, List.length_map]
  have hval : ∀ (i : Nat) (v : Value), (∃ k, vs[i]? = some (k, v)) → ∃ t, v = Value.int (ns.getD i 0) t := by
    rintro i v ⟨k, hk⟩
    obtain ⟨x, h1, h2⟩ := KV.at' rel hk
    have e1 : (ns.map V.int)[i]? = some x := by rw [← hv, List.getElem?_map, h1]; rfl
    rw [List.getElem?_map] at e1
    obtain ⟨j, hj, rfl⟩ := Option.map_eq_some_iff.mp e1
    obtain ⟨t, e3⟩ := h2
    exact ⟨t, by rw [e3, List.getD_eq_getElem?_getD, hj]; rfl⟩
  refine ⟨"dict", "dict.values", F.plainAttrs_dict, F.slot_dict_values, F.type_dict_values, ⟨ob, ho, hex.1⟩, fun b e => ?_, Calls.callWith_builtin rfl (PySem.evalArgs_none ?_)⟩
  · cases e
    exact ⟨ob, ho, hex.2.1⟩
  refine call_meetsIn F.slot_dict_values ⟨ob, ho, hex.1⟩ F.entry_dict_values (F.args_dict_values_1 _) (meets_dict_values (mixKind X.prog X.w) d hsys) ⟨⟨vs, dof⟩, ?_⟩
  have up1 : ∀ b u, s1.heap.get? b = some u → (s1.heap.push { cls := .type "dict_values", data := .fields #[.ref d] }).get? b = some u := fun b u e => Heap.get?_push_of_some _ e
  have dat1 := dat.keep up1
  have sz1 : (s1.heap.push { cls := .type "dict_values", data := .fields #[.ref d] }).objs.size = s1.heap.objs.size + 1 := Heap.size_push _ _
  refine call_max_walk (wpAny_pyIter_values (v := s1.heap.objs.size) (d := d) ⟨_, Heap.get?_push_size _ rfl, rfl, rfl⟩ dat1 ?_)
  refine ⟨_, _, _, _, _, _, _, rfl, Walks.dictValues (knd := mixKind X.prog X.w) (A := X.A.in1) (I.ok.hd hc) _ d (by rw [sz1]; exact Nat.ne_of_lt (Nat.lt_succ_of_lt lt0)) vs ep, ⟨⟨_, Heap.get?_push_size _ rfl, rfl, rfl⟩, dat1.keep fun b u e => Heap.get?_push_of_some _ e⟩, fun b hb => ?_,
    by rw [hlen]; exact List.length_pos_iff.mpr hne, CmpOf.ints_gt (fun i => ns.getD i 0) hval, fun v h' tk hP hk => ?_⟩
  · rw [Heap.size_push, sz1]
    rw [sz1] at hb
    rcases List.mem_cons.mp hb with e | hb
    · rw [e]
      exact Nat.lt_succ_self _
    · rw [List.mem_singleton.mp hb]
      exact Nat.lt_succ_of_lt (Nat.lt_succ_of_lt lt0)
  · obtain ⟨t, rfl⟩ := hval _ v hP
    obtain ⟨b1, b2⟩ := argBest_gt (fun i => ns.getD i 0) (vs.length - 1)
    have npos : 0 < ns.length := List.length_pos_iff.mpr hne
    have hb : argBest (fun i j => decide (ns.getD i 0 > ns.getD j 0)) (vs.length - 1) < ns.length := by omega
    refine ⟨.int _, H1, I1.kept (t' := tk) fun b u e => hk b u (fun hmem => ?_) (Heap.get?_push_of_some _ (up1 b u e)), ⟨t, rfl⟩, q _ ?_ fun j hj => ?_⟩
    · have e1 := List.mem_singleton.mp hmem
      have e2 := Heap.lt_size e
      rw [sz1] at e1
      rw [e1] at e2
      exact absurd e2 (Nat.not_lt.mpr (Nat.le_succ _))
    · rw [List.getD_eq_getElem?_getD, List.getElem?_eq_getElem hb]
      exact List.getElem_mem hb
    · obtain ⟨i, hi, e⟩ := List.mem_iff_getElem.mp hj
      have e2 : ns.getD i 0 = j := by rw [List.getD_eq_getElem?_getD, List.getElem?_eq_getElem hi, ← e]; rfl
      rw [← e2]
      exact b2 i (by omega)
end
end Kf

namespace Kf
open PySem PySem.Spec PyProof.Rows L2
/-! ### _latest_again: the first by letters of those that are wished again latest -/
def agK (g : Str → Int) (row : List Str) : List (Key × V) := row.map fun y => (Sum.inr y, V.int (g y))
def lastOf (g : Str → Int) (row : List Str) : List Str := row.filter fun y => decide (∀ x ∈ row, g x ≤ g y)
def pickB (g : Str → Int) (row : List Str) : Str := minS (lastOf g row)
theorem agK_vals (g : Str → Int) (row : List Str) : (agK g row).map (·.2) = (row.map g).map V.int := by
  unfold agK
  rw [List.map_map, List.map_map]
  rfl
theorem agK_val {g : Str → Int} {z : Str} : ∀ {row : List Str}, valV (agK g row) (Sum.inr z) = if z ∈ row then some (.int (g z)) else none
  | [] => rfl
  | y :: r => by
    have ih := agK_val (g := g) (z := z) (row := r)
    by_cases e : y = z
    · subst e
      rw [if_pos List.mem_cons_self]
      exact valV_pos (p := (Sum.inr y, V.int (g y))) (r := agK g r) rfl
    · have h : valV (agK g (y :: r)) (Sum.inr z) = valV (agK g r) (Sum.inr z) := valV_neg (p := (Sum.inr y, V.int (g y))) (fun q => e (Sum.inr.inj q))
      rw [h, ih]
      by_cases q : z ∈ r
      · rw [if_pos q, if_pos (List.mem_cons_of_mem _ q)]
      · rw [if_neg q, if_neg (fun w => (List.mem_cons.mp w).elim (fun v => e v.symm) q)]
theorem lastOf_eq {g : Str → Int} {row : List Str} {m : Int} (hm : m ∈ row.map g) (hx : ∀ j ∈ row.map g, j ≤ m) : row.filter (fun y => decide (g y = m)) = lastOf g row := by
  obtain ⟨y0, hy0, e0⟩ := List.mem_map.mp hm
  unfold lastOf
  refine List.filter_congr fun y hy => decide_eq_decide.mpr ⟨fun e x hx' => ?_, fun h => ?_⟩
  · rw [e]
    exact hx _ (List.mem_map_of_mem hx')
  · have h1 := h y0 hy0
    have h2 := hx _ (List.mem_map_of_mem hy)
    omega
theorem lastOf_ne {g : Str → Int} {row : List Str} {m : Int} (hm : m ∈ row.map g) (hx : ∀ j ∈ row.map g, j ≤ m) : lastOf g row ≠ [] := by
  rw [← lastOf_eq hm hx]
  obtain ⟨y0, hy0, e0⟩ := List.mem_map.mp hm
  intro e
  have : y0 ∈ row.filter (fun y => decide (g y = m)) := List.mem_filter.mpr ⟨hy0, decide_eq_true e0⟩
  rw [e] at this
  cases this
section
variable {P : Program} {w : World} {K : PySem.W.Frag} {mg : Str → Option Value} {base : Heap} {tb : Addr}
theorem Kp.lock {tb d : Addr} {od : Obj} {u : HO} {H H3 : Hp} (hd : H d = some u) (n : notTbl u = true) (kp : Kp tb [] (upd H d (.frz od u)) H3) (h3 : H3 d = some (.frz od u)) (n3 : notTbl (.frz od u) = true := by rfl) : Kp tb [] H (upd H3 d u) := by
  have k1 : Kp tb [d] H (upd H d (.frz od u)) := Kp.put hd n
  have k3 : Kp tb [d] H3 (upd H3 d u) := Kp.put h3 n3
  have k := k1.trans (kp.nil.trans k3)
  refine ⟨fun b o e nb _ => ?_, k.tab, k.free⟩
  by_cases q : b = d
  · subst q
    rw [hd] at e
    rw [← Option.some.inj e]
    exact upd_same
  · exact k.keep b o e nb (by simp [q])
def spLatest (tb : Addr) : Sp := fun vs H Q _ => ∃ (d : Addr) (g : Str → Int) (row : List Str), vs = [.ref d] ∧ H d = some (.dK (agK g row)) ∧ row ≠ [] ∧ row.length ≤ 20 ∧ ∀ H', Kp tb [] H H' → H' d = some (.dK (agK g row)) → Q (.str (pickB g row)) H'
theorem sc_latest : FnScope ["again", "latest", "name"] ["again"] (defScope s__latest_again) := ⟨rfl, rfl, rfl, by decide +kernel, rfl, by decide +kernel, by decide +kernel⟩
theorem ok_latest {f : Addr} {fd : FuncData} {k0 : Nat} (F : FnP K "_latest_again" "_latest_again" s__latest_again f fd) (hmax : mg "max" = none) (hmin : mg "min" = none) : FnOk P w K mg base CX0 (k0 + 1) f fd ["again"] (spLatest tb) := by
  refine ok0 F sc_latest (fun vs H Q E h => ?_) (fun cdv A outer s H vs Q E hr h => ?_)
  · obtain ⟨d, g, row, rfl, _⟩ := h
    rfl
  · obtain ⟨d, g, row, rfl, hd, hne, hl, q⟩ := h
    have hu := hu_of hr
    refine ⟨_, pss_cons (ps_set (i := 1) sc_latest.nd rfl (.inr rfl) (pe_maxVals rfl (by rfl) hmax (pv 0)))
      (pss_one (ps_ret (pe_callB (cr_minS rfl) (by rfl) hmin (by decide +kernel) (pa_cons (pe_lock (pe_lc (own := [("name", 2)]) (g := gName 2) (tt := tTest (tOp rEq (tDGet (tVar 0) (tVar 2)) (tVar 1))) rfl sc_latest.nd (pi_keys (pv 0)) (blkOk_by (N := ["again", "latest", "name"]) (sc := defScope s__latest_again) (by decide +kernel))
            (fun _ _ _ _ _ => pg_name (i := 2) sc_latest.nd rfl (Or.inl rfl)) (fun _ _ _ _ _ => pts_one (pt_cmpR op_eq (pe_dget hu (pv 0) (pv 2) (fun _ _ => rfl)) (pv 1) (nomark _))) (fun _ _ _ _ _ => pv 2))) pa_nil)))), ?_⟩
    refine ⟨_, rfl, d, _, row.map g, rfl, hd, agK_vals g row, by simpa using hne, fun m hm hx => ?_⟩
    refine ⟨d, _, hd, trivial, fun od => ?_⟩
    have g0 : (upd H d (.frz od (.dK (agK g row)))) d = some (.frz od (.dK (agK g row))) := upd_same
    refine ⟨_, rfl, d, od, rfl, .inl ⟨agK g row, g0, fun D hD => ?_⟩⟩
    refine lc_it walk_keys (LcI tb (upd H d (.frz od (.dK (agK g row)))) D (fun i acc => acc = ((row.take i).filter (fun y => decide (g y = m))).map V.str)) (LcI.start hD rfl) (fun i H' _ ⟨_, _, kp, _⟩ => kp.get g0) ?_ ?_
    · rintro i x H3 H4 hi ⟨acc, rfl, kp, hD3⟩ ⟨rfl, k, v, hkv, rfl⟩
      unfold agK at hkv hi
      rw [List.getElem?_map] at hkv
      rw [List.length_map] at hi
      obtain ⟨y, hy, ey⟩ := Option.map_eq_some_iff.mp hkv
      cases ey
      have hmem : y ∈ row := List.mem_of_getElem? hy
      have etake : row.take (i + 1) = row.take i ++ [y] := by rw [List.take_add_one, hy]; rfl
      have hdg : DGet H4 d (.str y) (some (.int (g y))) := .inl ⟨agK g row, Sum.inr y, .inr ⟨od, kp.get g0⟩, rfl, by rw [agK_val, if_pos hmem]⟩
      refine ⟨rfl, _, rfl, _, rfl, d, _, rfl, hdg, _, rfl, rfl, _, rfl, ?_⟩
      rw [dec_int]
      by_cases e : g y = m
      · rw [beq_iff_eq.mpr e]
        refine iteT ⟨_, rfl, LcI.next hD kp hD3 (Kp.refl _) ?_ ?_⟩
        · rw [List.length_map]
          exact small_of (m := 20) (Nat.le_trans (List.length_filter_le _ _) (Nat.le_trans (List.length_take_le _ _) (by omega)))
        · rw [etake, List.filter_append, List.filter_cons_of_pos (by simpa using e), List.filter_nil, List.map_append]
          rfl
      · rw [beq_eq_false_iff_ne.mpr e]
        refine iteF ⟨_, ?_, kp, hD3⟩
        dsimp only
        rw [etake, List.filter_append, List.filter_cons_of_neg (by simpa using e), List.filter_nil, List.append_nil]
    · rintro H3 ⟨acc, rfl, kp3, hD3⟩
      have el : (agK g row).length = row.length := by unfold agK; rw [List.length_map]
      rw [el, List.take_of_length_le (Nat.le_refl _), lastOf_eq hm hx] at hD3
      have ndD : D ≠ d := (ne_of_none g0 hD).symm
      refine ⟨kp3.get g0, D, _, rfl, SqL.of (by rw [upd_ne ndD]; exact hD3), lastOf_ne hm hx, ?_⟩
      exact q _ (Kp.lock hd rfl kp3 (kp3.get g0)) upd_same
end
end Kf

namespace Kf
open PySem PySem.Spec PyProof.Rows L2
/-! ### the best way's dict: what stands on the shelf, and when it is wished again -/
def firstI (ws : List Str) (k : Nat) (y : Str) : Int := ((k + (ws.drop k).idxOf y : Nat) : Int)
theorem nextW_first (ws : List Str) (k : Nat) (y : Str) : ((nextW ws k y : Nat) : Int) = firstI ws (k + 1) y := rfl
theorem firstI_step {ws : List Str} {k : Nat} {y z : Str} (h : ws[k]? = some z) (hy : y ≠ z) : firstI ws k y = firstI ws (k + 1) y := by
  have hl : k < ws.length := (List.getElem?_eq_some_iff.mp h).1
  have hd : ws.drop k = z :: ws.drop (k + 1) := by
    rw [List.drop_eq_getElem_cons hl]
    exact congrArg (· :: _) (List.getElem?_eq_some_iff.mp h).2
  unfold firstI
  rw [hd, List.idxOf_cons, show (z == y) = false from beq_eq_false_iff_ne.mpr hy.symm]
  show ((k + ((ws.drop (k + 1)).idxOf y + 1) : Nat) : Int) = _
  omega
theorem agK_congr {g g' : Str → Int} {row : List Str} (h : ∀ y ∈ row, g y = g' y) : agK g row = agK g' row := by
  unfold agK
  exact List.map_congr_left fun y hy => by rw [h y hy]
theorem agK_any (g : Str → Int) (z : Str) (row : List Str) : ((agK g row).any fun kv => decide (kv.1 = (Sum.inr z : Key))) = decide (z ∈ row) := by
  rw [valV_any, agK_val]
  by_cases h : z ∈ row
  · rw [if_pos h, decide_eq_true h]; rfl
  · rw [if_neg h, decide_eq_false h]; rfl
theorem agK_putIn {g : Str → Int} {z : Str} {v : Int} {row : List Str} (h : z ∈ row) : putK (agK g row) (Sum.inr z : Key) (.int v) = agK (fun y => if y = z then v else g y) row := by
  unfold putK
  rw [agK_any, if_pos (decide_eq_true h)]
  unfold agK
  rw [List.map_map]
  refine List.map_congr_left fun y _ => ?_
  show (if (Sum.inr y : Key) = Sum.inr z then ((Sum.inr y : Key), V.int v) else ((Sum.inr y : Key), V.int (g y))) = ((Sum.inr y : Key), V.int (if y = z then v else g y))
  by_cases e : y = z
  · rw [if_pos (by rw [e]), if_pos e]
  · rw [if_neg (fun q => e (Sum.inr.inj q)), if_neg e]
theorem agK_putNew {g : Str → Int} {z : Str} {v : Int} {row : List Str} (h : z ∉ row) : putK (agK g row) (Sum.inr z : Key) (.int v) = agK (fun y => if y = z then v else g y) (row ++ [z]) := by
  have hc : agK g row = agK (fun y => if y = z then v else g y) row := agK_congr fun y hy => by rw [if_neg (fun e => h (by rw [← e]; exact hy))]
  unfold putK
  rw [agK_any, if_neg (by simpa using h), hc]
  unfold agK
  rw [List.map_append]
  show _ = _ ++ [(Sum.inr z, V.int (if z = z then v else g z))]
  rw [if_pos rfl]
theorem agK_len (g : Str → Int) (row : List Str) : (agK g row).length = row.length := by unfold agK; rw [List.length_map]
theorem agK_drop {g : Str → Int} {z : Str} {row : List Str} (h : row.Nodup) : dropK (agK g row) (Sum.inr z : Key) = agK g (row.erase z) := by
  unfold dropK agK
  rw [List.filter_map, h.erase_eq_filter]
  refine congrArg (List.map _) (List.filter_congr fun y _ => ?_)
  show decide ((Sum.inr y : Key) ≠ Sum.inr z) = (y != z)
  by_cases e : y = z
  · rw [e]; simp
  · rw [decide_eq_true (show (Sum.inr y : Key) ≠ Sum.inr z from fun q => e (Sum.inr.inj q))]; simp [e]
/-- one wish by the best way: met, what went, what is there then -/
def stepB (ws : List Str) (n : Int) (k : Nat) (row : List Str) (z : Str) : Bool × Option Str × List Str :=
  if z ∈ row then (true, none, row)
  else if (row.length : Int) = n then (false, some (pickB (firstI ws (k + 1)) row), row.erase (pickB (firstI ws (k + 1)) row) ++ [z])
  else (false, none, row ++ [z])
theorem pickB_mem {g : Str → Int} : ∀ {row : List Str}, row ≠ [] → pickB g row ∈ row := by
  intro row hne
  have key : ∃ m ∈ row.map g, ∀ j ∈ row.map g, j ≤ m := by
    have : ∀ ns : List Int, ns ≠ [] → ∃ m ∈ ns, ∀ j ∈ ns, j ≤ m := by
      intro ns
      induction ns with
      | nil => exact fun h => absurd rfl h
      | cons x r ih =>
        intro _
        by_cases hr : r = []
        · exact ⟨x, List.mem_cons_self, fun j hj => by rw [hr] at hj; rw [List.mem_singleton.mp hj]; exact Int.le_refl _⟩
        · obtain ⟨m, hm, hx⟩ := ih hr
          by_cases h : x ≤ m
          · exact ⟨m, List.mem_cons_of_mem _ hm, fun j hj => (List.mem_cons.mp hj).elim (fun e => by rw [e]; exact h) (hx j)⟩
          · exact ⟨x, List.mem_cons_self, fun j hj => (List.mem_cons.mp hj).elim (fun e => by rw [e]; exact Int.le_refl _) (fun q => by have := hx j q; omega)⟩
    exact this _ (by simpa using hne)
  obtain ⟨m, hm, hx⟩ := key
  exact (List.mem_filter.mp (minS_mem (lastOf_ne hm hx))).1
end Kf

namespace Kf
open PySem PySem.Spec PyProof.Rows L2
def pairsB (ws : List Str) (n : Int) : Nat → List Str → List Str → List (Bool × Option Str)
  | _, _, [] => []
  | k, row, z :: zs => ((stepB ws n k row z).1, (stepB ws n k row z).2.1) :: pairsB ws n (k + 1) (stepB ws n k row z).2.2 zs
def endB (ws : List Str) (n : Int) : Nat → List Str → List Str → List Str
  | _, row, [] => row
  | k, row, z :: zs => endB ws n (k + 1) (stepB ws n k row z).2.2 zs
theorem pairsB_snoc (ws : List Str) (n : Int) (z : Str) : ∀ (zs : List Str) (k : Nat) (row : List Str), pairsB ws n k row (zs ++ [z]) = pairsB ws n k row zs ++ [((stepB ws n (k + zs.length) (endB ws n k row zs) z).1, (stepB ws n (k + zs.length) (endB ws n k row zs) z).2.1)]
  | [], k, row => rfl
  | y :: ys, k, row => by
    have ih := pairsB_snoc ws n z ys (k + 1) (stepB ws n k row y).2.2
    rw [show k + 1 + ys.length = k + (y :: ys).length by rw [List.length_cons]; omega] at ih
    exact congrArg (_ :: ·) ih
theorem endB_snoc (ws : List Str) (n : Int) (z : Str) : ∀ (zs : List Str) (k : Nat) (row : List Str), endB ws n k row (zs ++ [z]) = (stepB ws n (k + zs.length) (endB ws n k row zs) z).2.2
  | [], _, _ => rfl
  | y :: ys, k, row => by
    have ih := endB_snoc ws n z ys (k + 1) (stepB ws n k row y).2.2
    rw [show k + 1 + ys.length = k + (y :: ys).length by rw [List.length_cons]; omega] at ih
    exact ih
theorem pairsB_len (ws : List Str) (n : Int) : ∀ (zs : List Str) (k : Nat) (row : List Str), (pairsB ws n k row zs).length = zs.length
  | [], _, _ => rfl
  | _ :: ys, k, row => congrArg (· + 1) (pairsB_len ws n ys (k + 1) _)
structure OkB (n : Int) (row : List Str) : Prop where
  le : (row.length : Int) ≤ n
  nd : row.Nodup
  nm : ∀ y ∈ row, IsName y
theorem stepB_ok {ws : List Str} {n : Int} {k : Nat} {row : List Str} {z : Str} (h : OkB n row) (n0 : 1 ≤ n) (hz : IsName z) : OkB n (stepB ws n k row z).2.2 ∧ ∀ g, (stepB ws n k row z).2.1 = some g → IsName g := by
  have snm : ∀ r : List Str, (∀ y ∈ r, IsName y) → ∀ y ∈ r ++ [z], IsName y := fun r hr y hy => by
    rcases List.mem_append.mp hy with q | q
    · exact hr y q
    · rw [List.mem_singleton.mp q]; exact hz
  unfold stepB
  by_cases h1 : z ∈ row
  · rw [if_pos h1]
    exact ⟨h, fun g hg => by cases hg⟩
  · rw [if_neg h1]
    by_cases h2 : (row.length : Int) = n
    · rw [if_pos h2]
      have hne : row ≠ [] := fun e => by rw [e] at h2; simp at h2; omega
      have hm := pickB_mem (g := firstI ws (k + 1)) hne
      refine ⟨⟨?_, nodup_snoc (fun q => h1 (List.mem_of_mem_erase q)) (h.nd.erase _), snm _ fun y hy => h.nm y (List.mem_of_mem_erase hy)⟩, fun g hg => by rw [← Option.some.inj hg]; exact h.nm _ hm⟩
      show ((row.erase _ ++ [z]).length : Int) ≤ n
      have e1 := List.length_erase_of_mem hm
      have e2 := List.length_pos_of_mem hm
      rw [List.length_append, List.length_singleton]
      omega
    · rw [if_neg h2]
      have := h.le
      refine ⟨⟨?_, nodup_snoc h1 h.nd, snm _ h.nm⟩, fun g hg => by cases hg⟩
      show ((row ++ [z]).length : Int) ≤ n
      rw [List.length_append, List.length_singleton]
      omega
theorem endB_ok {ws : List Str} {n : Int} (n0 : 1 ≤ n) : ∀ {zs : List Str} {k : Nat} {row : List Str}, OkB n row → (∀ z ∈ zs, IsName z) → OkB n (endB ws n k row zs)
  | [], _, _, h, _ => h
  | z :: zs, _, _, h, hz => endB_ok n0 (zs := zs) (stepB_ok h n0 (hz z List.mem_cons_self)).1 fun y hy => hz y (List.mem_cons_of_mem _ hy)
theorem nextsW_get {ws : List Str} {i : Nat} {z : Str} (h : ws[i]? = some z) : (nextsW ws)[i]? = some (nextW ws i z) := by
  have hl := (List.getElem?_eq_some_iff.mp h).1
  unfold nextsW
  rw [List.getElem?_map, List.getElem?_range hl]
  show some (nextW ws i (ws.getD i ⟨#[]⟩)) = _
  rw [List.getD_eq_getElem?_getD, h]
  rfl
theorem agK_some (g : Str → Int) (row : List Str) (z : Str) : (valV (agK g row) (Sum.inr z)).isSome = decide (z ∈ row) := by
  rw [agK_val]
  by_cases h : z ∈ row
  · rw [if_pos h, decide_eq_true h]; rfl
  · rw [if_neg h, decide_eq_false h]; rfl
theorem pickB_congr {g g' : Str → Int} {row : List Str} (h : ∀ y ∈ row, g y = g' y) : pickB g row = pickB g' row := by
  unfold pickB lastOf
  refine congrArg minS (List.filter_congr fun y hy => decide_eq_decide.mpr ⟨fun q x hx => ?_, fun q x hx => ?_⟩)
  · rw [← h x hx, ← h y hy]; exact q x hx
  · rw [h x hx, h y hy]; exact q x hx
section
variable {P : Program} {w : World} {K : PySem.W.Frag} {mg : Str → Option Value} {base : Heap} {CG : Addr}
def spBest (CG : Addr) (tb : Addr) : Sp := fun vs H Q _ => ∃ (n : Int) (a : Addr) (ws : List Str), vs = [.int n, .ref a] ∧ 1 ≤ n ∧ n ≤ 20 ∧ H a = some (.lst (ws.map V.str)) ∧ ws.length ≤ 300 ∧ (∀ z ∈ ws, IsName z) ∧ GxR.TabG H tb ∧
  ∀ (g wm we : Addr) (H' : Hp), H g = none → H wm = none → H we = none → GoAt CG H' g wm we (metV (pairsB ws n 0 [] ws)) (wentV (pairsB ws n 0 [] ws)) → Kp tb [] H H' → Q (.ref g) H'
abbrev nBest : List Str := ["places", "wishes", "were_met", "went", "again", "name", "wished_again", "gone", "met"]
theorem sc_best : FnScope nBest ["places", "wishes"] (defScope s_best) := ⟨rfl, rfl, rfl, by decide +kernel, rfl, by decide +kernel, by decide +kernel⟩
theorem ok_best {f : Addr} {fd : FuncData} {k0 : Nat} (F : FnP K "best" "best" s_best f fd) (hlen : mg "len" = none) (hzip : mg "zip" = none) (GP : Glob P w K mg base CX0 (k0 + 2) "check_places" ["places"] spCheckPlaces) (GW : Glob P w K mg base CX0 (k0 + 2) "check_wishes" ["wishes"] (spCheckWishes K))
    (GA : Glob P w K mg base CX0 (k0 + 2) "_wished_again" ["wishes"] (spWished (tbOf K))) (GL : Glob P w K mg base CX0 (k0 + 2) "_latest_again" ["again"] (spLatest (tbOf K))) (MG : MakeOk P w K mg base CX0 (k0 + 1) "Going" CG ["self", "were_met", "went"] (spGoInit (tbOf K) CG)) :
    FnOk P w K mg base CX0 (k0 + 3) f fd ["places", "wishes"] (spBest CG (tbOf K)) := by
  refine ok0 F sc_best (fun vs H Q E h => ?_) (fun cdv A outer s H vs Q E hr h => ?_)
  · obtain ⟨n, a, ws, rfl, _⟩ := h
    rfl
  · obtain ⟨n, a, ws, rfl, n0, n1, ha, hl, hn, tab, q⟩ := h
    have hu := hu_of hr
    refine ⟨_, pss_cons (ps_expr (pe_callG GP hr (by rfl) pass0 (pa_cons (pv 0) pa_nil)))
      (pss_cons (ps_expr (pe_callG GW hr (by rfl) pass0 (pa_cons (pv 1) pa_nil)))
      (pss_cons (ps_set (i := 2) sc_best.nd rfl (.inl rfl) (pe_lst pa_nil))
      (pss_cons (ps_set (i := 3) sc_best.nd rfl (.inl rfl) (pe_lst pa_nil))
      (pss_cons (ps_set (i := 4) sc_best.nd rfl (.inl rfl) pe_dnewK)
      (pss_cons (ps_for PassesOwn.never rfl (pi_zip (by rfl) hzip (pa_cons (pv 1) (pa_cons (pe_callG GA hr (by rfl) pass0 (pa_cons (pv 1) pa_nil)) pa_nil))) (pg_tup rfl (pgs_cons (pg_name (i := 5) sc_best.nd rfl (Or.inl rfl)) (pgs_cons (pg_name (i := 6) sc_best.nd rfl (Or.inl rfl)) pgs_nil)))
        (pss_cons (ps_set (i := 7) sc_best.nd rfl (.inl rfl) pe_non)
        (pss_cons (ps_set (i := 8) sc_best.nd rfl (.inl rfl) (pe_cmp (pc_din hu (pv 5) (pv 4))))
        (C8.pss_cut (ps_if (PW.pt (pw_and (pt_not (pt_val (pv 8))) (pw_and1 (pt_cmpR op_eq (pe_callB call_lenD (by rfl) hlen PySem.boot_len (pa_cons (pv 4) pa_nil)) (pv 0) (nomark _)))))
            (pss_cons (ps_set (i := 7) sc_best.nd rfl (.inl rfl) (pe_callG GL hr (by rfl) pass0 (pa_cons (pv 4) pa_nil))) (pss_one (ps_ddel (pv 4) (pv 7)))) pss_nil)
        (pss_cons (ps_dput hu (pv 4) (pv 5) (pv 6) rfl)
        (pss_cons (ps_expr (pe_bm PySem.F.plainAttrs_list PySem.F.slot_list_append PySem.F.type_list_append mt_append (pv 2) (pa_cons (pv 8) pa_nil)))
        (pss_one (ps_expr (pe_bm PySem.F.plainAttrs_list PySem.F.slot_list_append PySem.F.type_list_append mt_append (pv 3) (pa_cons (pv 7) pa_nil))))))))))
      (pss_one (ps_ret (pe_makeG MG hr (by rfl) pass0 (pa_cons (pv 2) (pa_cons (pv 3) pa_nil)))))))))), ?_⟩
    refine ⟨_, rfl, n, rfl, n0, n1, ?_⟩
    refine ⟨_, rfl, a, ws, rfl, ha, hl, hn, tab, fun H2 k2 => ?_⟩
    refine ⟨Nat.zero_le _, fun wm hwm => ?_⟩
    have k3 : Kp (tbOf K) [] H2 (upd H2 wm (.lst [])) := Kp.new hwm
    have g3 : (upd H2 wm (.lst [])) wm = some (.lst []) := upd_same
    generalize upd H2 wm (.lst []) = H3 at k3 g3 ⊢
    refine ⟨Nat.zero_le _, fun we hwe => ?_⟩
    have k4 : Kp (tbOf K) [] H3 (upd H3 we (.lst [])) := Kp.new hwe
    have g4 : (upd H3 we (.lst [])) we = some (.lst []) := upd_same
    have g4m := k4.get g3
    have nwe : wm ≠ we := ne_of_none g3 hwe
    generalize upd H3 we (.lst []) = H4 at k4 g4 g4m ⊢
    refine fun d hd => ?_
    have k5 : Kp (tbOf K) [] H4 (upd H4 d (.dK [])) := Kp.new hd
    have g5 : (upd H4 d (.dK [])) d = some (.dK []) := upd_same
    have g5m := k5.get g4m
    have g5e := k5.get g4
    have ndm : d ≠ wm := (ne_of_none g4m hd).symm
    have nde : d ≠ we := (ne_of_none g4 hd).symm
    have kAll : Kp (tbOf K) [] H (upd H4 d (.dK [])) := k2.trans (k3.trans (k4.trans k5))
    have fwm : H wm = none := k2.free _ hwm
    have fwe : H we = none := k2.free _ (k3.free _ hwe)
    have fd : H d = none := k2.free _ (k3.free _ (k4.free _ hd))
    generalize upd H4 d (.dK []) = H5 at k5 g5 g5m g5e kAll ⊢
    refine ⟨_, rfl, _, rfl, a, ws, rfl, kAll.get ha, hl, fun o H6 fo eo k6 => ?_⟩
    have k16 := kAll.trans k6
    refine ⟨a, o, _, _, rfl, SqL.of (k16.get ha), SqL.of eo, ?_⟩
    have okz : ∀ i, OkB n (endB ws n 0 [] (ws.take i)) := fun i => endB_ok n0 ⟨by simp; omega, List.nodup_nil, fun _ h => absurd h (by simp)⟩ fun z hz => hn z (List.mem_of_mem_take hz)
    have hnl : (nextsW ws).length = ws.length := by unfold nextsW; rw [List.length_map, List.length_range]
    refine for_it (walk_zip (xs := ws.map V.str) (ys := (nextsW ws).map fun n => V.int (n : Nat)) (n := ws.length) (by rw [List.length_map, List.length_map, hnl]; omega)) (fun i σ H' => ∃ v5 v6 v7 v8 : Option V, σ = [some (.int n), some (.ref a), some (.ref wm), some (.ref we), some (.ref d), v5, v6, v7, v8] ∧
      H' d = some (.dK (agK (firstI ws i) (endB ws n 0 [] (ws.take i)))) ∧ H' wm = some (.lst (metV (pairsB ws n 0 [] (ws.take i)))) ∧ H' we = some (.lst (wentV (pairsB ws n 0 [] (ws.take i)))) ∧ Kp (tbOf K) [] H H' ∧ H' o = some (.lst ((nextsW ws).map fun n => V.int (n : Nat))))
      ⟨none, none, none, none, rfl, k6.get g5, k6.get g5m, k6.get g5e, k16, eo⟩ (fun i σ H' _ ⟨_, _, _, _, _, _, _, _, kp, ho⟩ => ⟨SqL.of (kp.get ha), SqL.of ho⟩) ?_ ?_
    · rintro i x σ H7 H8 hi ⟨v5, v6, v7, v8, rfl, hd7, hm7, hw7, kp, ho7⟩ ⟨Tp, x1, x2, rfl, nT, rfl, e1, e2⟩
      obtain ⟨z, hz, rfl⟩ := get_mapS e1
      dsimp only at e2
      rw [List.getElem?_map, nextsW_get hz] at e2
      obtain rfl : V.int ((nextW ws i z : Nat) : Int) = x2 := Option.some.inj e2
      have hzn := hn z (List.mem_of_getElem? hz)
      have etake : ws.take (i + 1) = ws.take i ++ [z] := by rw [List.take_add_one, hz]; rfl
      have elen : 0 + (ws.take i).length = i := by rw [List.length_take]; omega
      have hpl : (pairsB ws n 0 [] (ws.take i)).length ≤ 300 := by rw [pairsB_len]; exact Nat.le_trans (List.length_take_le _ _) (by omega)
      have ok := okz i
      rw [etake, pairsB_snoc, endB_snoc, elen]
      generalize endB ws n 0 [] (ws.take i) = row at *
      generalize pairsB ws n 0 [] (ws.take i) = prs at *
      refine ⟨Tp, _, rfl, SqT.of upd_same, rfl, _, _, rfl, _, _, rfl, rfl, ?_⟩
      have kT : Kp (tbOf K) [] H7 (upd H7 Tp (.tup [.str z, .int (nextW ws i z : Nat)])) := Kp.new nT
      have hd8 := kT.get hd7
      have hm8 := kT.get hm7
      have hw8 := kT.get hw7
      have ho8 := kT.get ho7
      have kp8 := kp.trans kT
      generalize upd H7 Tp (.tup [.str z, .int (nextW ws i z : Nat)]) = H8 at kT hd8 hm8 hw8 ho8 kp8 ⊢
      refine ⟨_, rfl, _, rfl, d, _, rfl, DGet.k (k := Sum.inr z) hd8, ?_⟩
      rw [agK_some]
      have h20 : row.length ≤ 20 := by have := ok.le; omega
      have hfz : ∀ y, y ≠ z → firstI ws i y = firstI ws (i + 1) y := fun y hy => firstI_step hz hy
      refine ⟨fun σ H' => ∃ (row2 : List Str) (gone : Option Str), σ = [some (.int n), some (.ref a), some (.ref wm), some (.ref we), some (.ref d), some (.str z), some (.int (nextW ws i z : Nat)), some (optV gone), some (.bl (decide (z ∈ row)))] ∧ H' d = some (.dK (agK (firstI ws i) row2)) ∧ row2.length ≤ 20 ∧
        stepB ws n i row z = (decide (z ∈ row), gone, if z ∈ row2 then row2 else row2 ++ [z]) ∧ Kp (tbOf K) [d] H8 H', ?_, ?_⟩
      · refine ⟨_, rfl, _, rfl, ?_⟩
        by_cases hin : z ∈ row
        · rw [decide_eq_true hin]
          refine iteF (iteF ⟨row, none, rfl, hd8, h20, ?_, Kp.refl _⟩)
          unfold stepB
          rw [if_pos hin, if_pos hin]
        · rw [decide_eq_false hin]
          refine iteT ⟨_, rfl, d, _, rfl, hd8, _, rfl, rfl, _, rfl, ?_⟩
          rw [agK_len, dec_int]
          by_cases heq : (row.length : Int) = n
          · rw [beq_iff_eq.mpr heq]
            have hne : row ≠ [] := fun e => by rw [e] at heq; simp at heq; omega
            refine iteT ⟨_, rfl, d, firstI ws i, row, rfl, hd8, hne, h20, fun H9 k9 hd9 => ?_⟩
            have hpk : pickB (firstI ws i) row = pickB (firstI ws (i + 1)) row := pickB_congr fun y hy => hfz y (fun e => hin (by rw [← e]; exact hy))
            rw [hpk]
            have hmem := pickB_mem (g := firstI ws (i + 1)) hne
            refine ⟨_, rfl, _, rfl, d, _, Sum.inr (pickB (firstI ws (i + 1)) row), rfl, hd9, rfl, by rw [agK_some, decide_eq_true hmem], ?_⟩
            rw [agK_drop ok.nd]
            refine ⟨_, some (pickB (firstI ws (i + 1)) row), rfl, upd_same, Nat.le_trans List.length_erase_le h20, ?_, k9.nil.trans (Kp.put hd9)⟩
            unfold stepB
            rw [if_neg hin, if_pos heq, if_neg (fun q => hin (List.mem_of_mem_erase q))]
          · rw [beq_eq_false_iff_ne.mpr heq]
            refine iteF ⟨row, none, rfl, hd8, h20, ?_, Kp.refl _⟩
            unfold stepB
            rw [if_neg hin, if_neg heq, if_neg hin]
      · rintro σ H9 ⟨row2, gone, rfl, hd9, h29, est, k9⟩
        refine ⟨_, rfl, _, rfl, _, rfl, d, _, rfl, DPut.k (k := Sum.inr z) hd9 (by rw [agK_len]; exact small_of (m := 20) h29), ?_⟩
        have eput : putK (agK (firstI ws i) row2) (Sum.inr z : Key) (.int (nextW ws i z : Nat)) = agK (firstI ws (i + 1)) (if z ∈ row2 then row2 else row2 ++ [z]) := by
          have hc : ∀ r : List Str, agK (fun y => if y = z then ((nextW ws i z : Nat) : Int) else firstI ws i y) r = agK (firstI ws (i + 1)) r := fun r => agK_congr fun y _ => by
            by_cases e : y = z
            · rw [if_pos e, e]; rfl
            · rw [if_neg e]; exact hfz y e
          by_cases h : z ∈ row2
          · rw [agK_putIn h, if_pos h, hc]
          · rw [agK_putNew h, if_neg h, hc]
        rw [eput, est]
        have hm9 := k9.get hm8 rfl (by simp [ndm.symm])
        have hw9 := k9.get hw8 rfl (by simp [nde.symm])
        have ho9 := k9.get ho8 rfl (by simp [(ne_of_none g5 fo).symm])
        have k10 : Kp (tbOf K) [d] H9 (upd H9 d (.dK (agK (firstI ws (i + 1)) (if z ∈ row2 then row2 else row2 ++ [z])))) := Kp.put hd9
        have hd10 : (upd H9 d (.dK (agK (firstI ws (i + 1)) (if z ∈ row2 then row2 else row2 ++ [z])))) d = some (.dK (agK (firstI ws (i + 1)) (if z ∈ row2 then row2 else row2 ++ [z]))) := upd_same
        have hm10 := k10.get hm9 rfl (by simp [ndm.symm])
        have hw10 := k10.get hw9 rfl (by simp [nde.symm])
        have ho10 := k10.get ho9 rfl (by simp [(ne_of_none g5 fo).symm])
        have kp10 := (kp8.transN k9 (fun y hy => by rw [List.mem_singleton.mp hy]; exact fd)).transN k10 (fun y hy => by rw [List.mem_singleton.mp hy]; exact fd)
        generalize upd H9 d (.dK (agK (firstI ws (i + 1)) (if z ∈ row2 then row2 else row2 ++ [z]))) = H10 at hd10 hm10 hw10 ho10 kp10 ⊢
        refine ⟨_, rfl, .inl ⟨rfl, _, SqL.of hm10⟩, _, rfl, wm, _, _, rfl, rfl, hm10, by unfold metV; rw [List.length_map]; exact small_of (m := 300) hpl, ?_⟩
        have k11 : Kp (tbOf K) [wm] H10 (upd H10 wm (.lst (metV prs ++ [.bl (decide (z ∈ row))]))) := Kp.put hm10
        have hm11 : (upd H10 wm (.lst (metV prs ++ [.bl (decide (z ∈ row))]))) wm = some (.lst (metV (prs ++ [(decide (z ∈ row), gone)]))) := by rw [upd_same]; unfold metV; rw [List.map_append]; rfl
        have hd11 := k11.get hd10 rfl (by simp [ndm])
        have hw11 := k11.get hw10 rfl (by simp [nwe.symm])
        have ho11 := k11.get ho10 rfl (by simp [(ne_of_none g5m fo).symm])
        have kp11 := kp10.transN k11 (fun y hy => by rw [List.mem_singleton.mp hy]; exact fwm)
        generalize upd H10 wm (.lst (metV prs ++ [.bl (decide (z ∈ row))])) = H11 at k11 hm11 hd11 hw11 ho11 kp11 ⊢
        refine ⟨_, rfl, .inl ⟨rfl, _, SqL.of hw11⟩, _, rfl, we, _, _, rfl, rfl, hw11, by unfold wentV; rw [List.length_map]; exact small_of (m := 300) hpl, ?_⟩
        have k12 : Kp (tbOf K) [we] H11 (upd H11 we (.lst (wentV prs ++ [optV gone]))) := Kp.put hw11
        exact ⟨_, _, _, _, rfl, k12.get hd11 rfl (by simp [nde]), k12.get hm11 rfl (by simp [nwe]), by rw [upd_same]; unfold wentV; rw [List.map_append]; rfl, kp11.transN k12 (fun y hy => by rw [List.mem_singleton.mp hy]; exact fwe), k12.get ho11 rfl (by simp [(ne_of_none g5e fo).symm])⟩
    · rintro σ H7 ⟨v5, v6, v7, v8, rfl, hd7, gm, gw, kp, ho7⟩
      rw [List.take_of_length_le (Nat.le_refl _)] at gm gw
      refine ⟨_, rfl, _, rfl, fun g dg hg hdg _ => ⟨g, dg, wm, we, metV (pairsB ws n 0 [] ws), wentV (pairsB ws n 0 [] ws), rfl, upd_same, ?_, ?_, fun a' b' H8 fa fb go kp8 => ⟨rfl, ?_⟩⟩⟩
      · rw [upd_ne (ne_of_none gm hg), upd_ne (ne_of_none gm hdg)]
        exact gm
      · rw [upd_ne (ne_of_none gw hg), upd_ne (ne_of_none gw hdg)]
        exact gw
      · exact q g a' b' H8 (kp.free _ hg) (kp.free _ (free_upd (free_upd fa))) (kp.free _ (free_upd (free_upd fb))) go (kp.trans (Kp.made hg hdg kp8))
end
end Kf

namespace Kf
open PySem PySem.Spec PyProof.Rows L2
def pairV (x : Bool × Option Str) : List V := [.bl x.1, optV x.2]
/-- tuples of a truth and a name or None, in this order -/
def PairsAt (H : Hp) : List Addr → List (Bool × Option Str) → Prop
  | [], [] => True
  | t :: ts, x :: xs => H t = some (.tup (pairV x)) ∧ PairsAt H ts xs
  | _, _ => False
theorem PairsAt.snoc {H : Hp} {t : Addr} {x : Bool × Option Str} (h : H t = some (.tup (pairV x))) : ∀ {ts : List Addr} {xs : List (Bool × Option Str)}, PairsAt H ts xs → PairsAt H (ts ++ [t]) (xs ++ [x])
  | [], [], _ => ⟨h, trivial⟩
  | _ :: _, _ :: _, ⟨a, b⟩ => ⟨a, PairsAt.snoc h b⟩
  | [], _ :: _, q => q.elim
  | _ :: _, [], q => q.elim
theorem PairsAt.imp {H H' : Hp} (h : ∀ t x, H t = some (.tup (pairV x)) → H' t = some (.tup (pairV x))) : ∀ {ts : List Addr} {xs : List (Bool × Option Str)}, PairsAt H ts xs → PairsAt H' ts xs
  | [], [], _ => trivial
  | _ :: _, _ :: _, ⟨a, b⟩ => ⟨h _ _ a, PairsAt.imp h b⟩
  | [], _ :: _, q => q.elim
  | _ :: _, [], q => q.elim
theorem PairsAt.len {H : Hp} : ∀ {ts : List Addr} {xs : List (Bool × Option Str)}, PairsAt H ts xs → ts.length = xs.length
  | [], [], _ => rfl
  | _ :: _, _ :: _, ⟨_, b⟩ => congrArg (· + 1) (PairsAt.len b)
  | [], _ :: _, q => q.elim
  | _ :: _, [], q => q.elim
theorem PairsAt.get {H : Hp} : ∀ {ts : List Addr} {xs : List (Bool × Option Str)} {i : Nat} {y : V}, PairsAt H ts xs → (ts.map V.ref)[i]? = some y → ∃ t x, y = .ref t ∧ xs[i]? = some x ∧ H t = some (.tup (pairV x))
  | [], [], i, y, _, h => by simp at h
  | t :: ts, x :: xs, 0, y, ⟨a, b⟩, h => ⟨t, x, (Option.some.inj h).symm, rfl, a⟩
  | t :: ts, x :: xs, i + 1, y, ⟨a, b⟩, h => PairsAt.get (i := i) b h
  | [], _ :: _, _, _, q, _ => q.elim
  | _ :: _, [], _, _, q, _ => q.elim
/-- no tuple stands at these -/
def NoTup (H : Hp) (S : List Addr) : Prop := ∀ x ∈ S, ∀ vs, H x ≠ some (.tup vs)
theorem PairsAt.kp {H H' : Hp} {tb : Addr} {S : List Addr} (k : Kp tb S H H') (n : NoTup H S) {ts : List Addr} {xs : List (Bool × Option Str)} (h : PairsAt H ts xs) : PairsAt H' ts xs := h.imp fun t x e => k.get e rfl fun hm => n t hm _ e
theorem noTup_nil {H : Hp} : NoTup H [] := fun _ h => absurd h (by simp)
theorem NoTup.cons {H : Hp} {x : Addr} {o : HO} {S : List Addr} (e : H x = some o) (n : ∀ vs, o ≠ .tup vs) (h : NoTup H S) : NoTup H (x :: S) := fun y hy vs q => by
  rcases List.mem_cons.mp hy with z | z
  · rw [z, e] at q
    exact n vs (Option.some.inj q)
  · exact h y z vs q
end Kf

namespace Kf
open PySem PySem.Spec PyProof.Rows L2
/-- isinstance's facts of a class -/
structure InsT (K : PySem.W.Frag) (C : Addr) : Prop where
  ha : PySem.W.findIn K (.ref C) "__class__" = some (some (.builtin "object.__class__"))
  hn : PySem.W.specialIn K (.builtin "object.__class__") "__get__" = some (some (.builtin "getset_descriptor.__get__"))
  htk : PySem.W.takesIn K (.builtin "object.__class__") = some true
  hm : PySem.W.mroIn K C (.type "object") = some true
theorem kit2 {K : PySem.W.Frag} {t c1 c2 : Value} (h1 : PySem.W.kitOne K t c1 = some false) (h2 : PySem.W.kitOne K t c2 = some false) : PySem.W.kitAny K t [c1, c2] = some false :=
  kitAny_cons (b := false) h1 (fun _ => kitAny_cons (b := false) h2 (fun _ => kitAny_nil) (fun z => nomatch z)) (fun z => nomatch z)

theorem boot_isi : bootBuiltins ("isinstance" : Str) = some (.builtin "isinstance") := by decide +kernel
theorem ix_tupK {X : Cx} {K : PySem.W.Frag} (h : X.K = K) : IxR X (rIxT K) := by
  subst h
  exact ix_tup
theorem call_isiK {X : Cx} {K : PySem.W.Frag} (h : X.K = K) : CallR X (.builtin "isinstance") (rIsi K) := by
  subst h
  exact call_isi
theorem ix_listK {X : Cx} {K : PySem.W.Frag} (h : X.K = K) : IxR X (rIxL K) := by
  subst h
  exact ix_list
theorem call_len_seqK {X : Cx} {K : PySem.W.Frag} (h : X.K = K) : CallR X (.builtin "len") (fun xs H Q => ∃ p ys, xs = [V.ref p] ∧ (SqL K H p ys ∨ SqT K H p ys) ∧ Q (.int (ys.length : Nat)) H) := by
  subst h
  exact call_len_seq
theorem op_in_seqK {X : Cx} {K : PySem.W.Frag} (h : X.K = K) : OpR X (compareOp .In) (rIn K false) := by
  subst h
  exact op_in_seq
theorem op_notIn_seqK {X : Cx} {K : PySem.W.Frag} (h : X.K = K) : OpR X (compareOp .NotIn) (rIn K true) := by
  subst h
  exact op_notIn_seq
/-! ### lists that are equal to themselves -/
theorem selfL : ∀ {ds : List PyData}, (∀ d ∈ ds, PyData.canLay0 d = true ∧ d.depth ≤ 63 ∧ PyData.eqv d d = true) → PyData.canLayAll0 ds = true ∧ PyData.depthAll ds ≤ 63 ∧ PyData.eqvAll ds ds = true
  | [], _ => ⟨rfl, Nat.zero_le _, rfl⟩
  | d :: r, h => by
    obtain ⟨a, b, c⟩ := h d List.mem_cons_self
    obtain ⟨a2, b2, c2⟩ := selfL (ds := r) fun y hy => h y (List.mem_cons_of_mem _ hy)
    refine ⟨?_, ?_, ?_⟩
    · show (PyData.canLay0 d && PyData.canLayAll0 r) = true
      rw [a, a2]; rfl
    · show max (PyData.depth d) (PyData.depthAll r) ≤ 63
      omega
    · show (PyData.eqv d d && PyData.eqvAll r r) = true
      rw [c, c2]; rfl
theorem selfD {ds : List PyData} (h : ∀ d ∈ ds, PyData.canLay0 d = true ∧ d.depth ≤ 63 ∧ PyData.eqv d d = true) : SeqAt.shaped (.list ds) = true ∧ PyData.eqv (.list ds) (.list ds) = true := by
  obtain ⟨a, b, c⟩ := selfL h
  refine ⟨?_, c⟩
  unfold SeqAt.shaped
  rw [Bool.and_eq_true]
  refine ⟨a, decide_eq_true ?_⟩
  show PyData.depthAll ds + 1 ≤ 64
  omega
theorem dpAll_map {α : Type} {K : PySem.W.Frag} {H : Hp} {f : α → V} {g : α → PyData} : ∀ {xs : List α}, (∀ x ∈ xs, Dp K H (f x) (g x)) → DpAll K H (xs.map f) (xs.map g)
  | [], _ => .nil
  | x :: r, h => .cons (h x List.mem_cons_self) (dpAll_map (xs := r) fun y hy => h y (List.mem_cons_of_mem _ hy))
theorem bool_self (b : Bool) : PyData.canLay0 (.bool b) = true ∧ PyData.depth (.bool b) ≤ 63 ∧ PyData.eqv (.bool b) (.bool b) = true := ⟨rfl, Nat.zero_le _, by show (b == b) = true; simp⟩
theorem opt_self {g : Option Str} (h : ∀ z, g = some z → PyData.strOk z = true) : PyData.canLay0 (optD g) = true ∧ PyData.depth (optD g) ≤ 63 ∧ PyData.eqv (optD g) (optD g) = true := by
  cases g with
  | none => exact ⟨rfl, Nat.zero_le _, rfl⟩
  | some z => exact ⟨h z rfl, Nat.zero_le _, by show (z == z) = true; simp⟩
theorem pair_self {b : Bool} {g : Option Str} (h : ∀ z, g = some z → PyData.strOk z = true) : PyData.canLay0 (pairD b g) = true ∧ PyData.depth (pairD b g) ≤ 63 ∧ PyData.eqv (pairD b g) (pairD b g) = true := by
  have s := sh_pair (b := b) h
  unfold SeqAt.shaped at s
  rw [Bool.and_eq_true] at s
  refine ⟨s.1, ?_, eqv_pair b g⟩
  cases g <;> exact (by decide : 1 ≤ 63)
/-- the going's names, all names -/
def GoneOk (ps : List (Bool × Option Str)) : Prop := ∀ x ∈ ps, ∀ g, x.2 = some g → IsName g
theorem met_self (ps : List (Bool × Option Str)) : SeqAt.shaped (.list (ps.map fun x => PyData.bool x.1)) = true ∧ PyData.eqv (.list (ps.map fun x => PyData.bool x.1)) (.list (ps.map fun x => PyData.bool x.1)) = true := selfD fun d hd => by
  obtain ⟨x, _, rfl⟩ := List.mem_map.mp hd
  exact bool_self _
theorem went_self {ps : List (Bool × Option Str)} (h : GoneOk ps) : SeqAt.shaped (.list (ps.map fun x => optD x.2)) = true ∧ PyData.eqv (.list (ps.map fun x => optD x.2)) (.list (ps.map fun x => optD x.2)) = true := selfD fun d hd => by
  obtain ⟨x, hx, rfl⟩ := List.mem_map.mp hd
  exact opt_self fun z hz => isName_ok (h x hx z hz)
theorem dp_met {K : PySem.W.Frag} {H : Hp} {a : Addr} {ps : List (Bool × Option Str)} (h : SqL K H a (metV ps)) : Dp K H (.ref a) (.list (ps.map fun x => PyData.bool x.1)) := .lst h (dpAll_map fun x _ => .bl x.1)
theorem dp_went {K : PySem.W.Frag} {H : Hp} {a : Addr} {ps : List (Bool × Option Str)} (h : SqL K H a (wentV ps)) : Dp K H (.ref a) (.list (ps.map fun x => optD x.2)) := .lst h (dpAll_map fun x _ => dp_opt x.2)
theorem GoAt.kp {CG : Addr} {H H' : Hp} {g a b tb : Addr} {xs ys : List V} {S : List Addr} (G : GoAt CG H g a b xs ys) (k : Kp tb S H H') (h1 : g ∉ S := by simp) (h2 : a ∉ S := by simp) (h3 : b ∉ S := by simp) : GoAt CG H' g a b xs ys := by
  obtain ⟨dx, hg⟩ := G.ob
  exact ⟨⟨dx, k.get hg rfl h1⟩, k.get G.ha rfl h2, k.get G.hb rfl h3, G.ne⟩
end Kf

namespace Kf
open PySem PySem.Spec PyProof.Rows L2
/-! ### tuples on the heap, in their order -/
def TsAt {α : Type} (f : α → List V) (H : Hp) : List Addr → List α → Prop
  | [], [] => True
  | t :: ts, x :: xs => H t = some (.tup (f x)) ∧ TsAt f H ts xs
  | _, _ => False
section
variable {α : Type} {f : α → List V}
theorem TsAt.snoc {H : Hp} {t : Addr} {x : α} (h : H t = some (.tup (f x))) : ∀ {ts : List Addr} {xs : List α}, TsAt f H ts xs → TsAt f H (ts ++ [t]) (xs ++ [x])
  | [], [], _ => ⟨h, trivial⟩
  | _ :: _, _ :: _, ⟨a, b⟩ => ⟨a, TsAt.snoc h b⟩
  | [], _ :: _, q => q.elim
  | _ :: _, [], q => q.elim
theorem TsAt.imp {H H' : Hp} (h : ∀ t v, H t = some (.tup v) → H' t = some (.tup v)) : ∀ {ts : List Addr} {xs : List α}, TsAt f H ts xs → TsAt f H' ts xs
  | [], [], _ => trivial
  | _ :: _, _ :: _, ⟨a, b⟩ => ⟨h _ _ a, TsAt.imp h b⟩
  | [], _ :: _, q => q.elim
  | _ :: _, [], q => q.elim
theorem TsAt.len {H : Hp} : ∀ {ts : List Addr} {xs : List α}, TsAt f H ts xs → ts.length = xs.length
  | [], [], _ => rfl
  | _ :: _, _ :: _, ⟨_, b⟩ => congrArg (· + 1) (TsAt.len b)
  | [], _ :: _, q => q.elim
  | _ :: _, [], q => q.elim
theorem TsAt.get {H : Hp} : ∀ {ts : List Addr} {xs : List α} {i : Nat} {y : V}, TsAt f H ts xs → (ts.map V.ref)[i]? = some y → ∃ t x, y = .ref t ∧ xs[i]? = some x ∧ H t = some (.tup (f x)) ∧ ts[i]? = some t
  | [], [], i, y, _, h => by simp at h
  | t :: ts, x :: xs, 0, y, ⟨a, b⟩, h => ⟨t, x, (Option.some.inj h).symm, rfl, a, rfl⟩
  | t :: ts, x :: xs, i + 1, y, ⟨a, b⟩, h => TsAt.get (i := i) b h
  | [], _ :: _, _, _, q, _ => q.elim
  | _ :: _, [], _, _, q, _ => q.elim
theorem TsAt.kp {H H' : Hp} {tb : Addr} {S : List Addr} (k : Kp tb S H H') (n : NoTup H S) {ts : List Addr} {xs : List α} (h : TsAt f H ts xs) : TsAt f H' ts xs := h.imp fun t v e => k.get e rfl fun hm => n t hm _ e
theorem TsAt.dropLast {H : Hp} : ∀ {ts : List Addr} {xs : List α}, TsAt f H ts xs → TsAt f H ts.dropLast xs.dropLast
  | [], [], _ => trivial
  | [_], [_], _ => trivial
  | _ :: t :: ts, _ :: x :: xs, ⟨a, b⟩ => ⟨a, TsAt.dropLast (ts := t :: ts) (xs := x :: xs) b⟩
  | [_], _ :: _ :: _, ⟨_, q⟩ => q.elim
  | _ :: _ :: _, [_], ⟨_, q⟩ => q.elim
  | [], _ :: _, q => q.elim
  | _ :: _, [], q => q.elim
theorem TsAt.dp {K : PySem.W.Frag} {H : Hp} {g : α → List PyData} (hf : ∀ x, DpAll K H (f x) (g x)) : ∀ {ts : List Addr} {xs : List α}, TsAt f H ts xs → DpAll K H (ts.map V.ref) (xs.map fun x => PyData.tuple (g x))
  | [], [], _ => .nil
  | _ :: _, _ :: _, ⟨a, b⟩ => .cons (.tup (SqT.of a) (hf _)) (TsAt.dp hf b)
  | [], _ :: _, q => q.elim
  | _ :: _, [], q => q.elim
end
theorem get_mapF {α : Type} {f : α → V} {ns : List α} {i : Nat} {y : V} (hi : (ns.map f)[i]? = some y) : ∃ z, ns[i]? = some z ∧ y = f z := by
  rw [List.getElem?_map] at hi
  obtain ⟨z, h1, h2⟩ := Option.map_eq_some_iff.mp hi
  exact ⟨z, h1, h2.symm⟩
/-! ### pairs of numbers -/
def nnV (p : Nat × Nat) : List V := [.int (p.1 : Nat), .int (p.2 : Nat)]
def nnD (p : Nat × Nat) : List PyData := [.int (p.1 : Nat), .int (p.2 : Nat)]
theorem nn_dp {K : PySem.W.Frag} {H : Hp} (p : Nat × Nat) : DpAll K H (nnV p) (nnD p) := .cons (.int _) (.cons (.int _) .nil)
theorem nn_self (ps : List (Nat × Nat)) : SeqAt.shaped (.list (ps.map fun x => PyData.tuple (nnD x))) = true ∧ PyData.eqv (.list (ps.map fun x => PyData.tuple (nnD x))) (.list (ps.map fun x => PyData.tuple (nnD x))) = true := selfD fun d hd => by
  obtain ⟨x, _, rfl⟩ := List.mem_map.mp hd
  refine ⟨rfl, by show 1 ≤ 63; decide, ?_⟩
  show ((_ == _) && ((_ == _) && true)) = true
  simp
theorem dp_nn {K : PySem.W.Frag} {H : Hp} {a : Addr} {ts : List Addr} {ps : List (Nat × Nat)} (h : SqL K H a (ts.map V.ref)) (hp : TsAt nnV H ts ps) : Dp K H (.ref a) (.list (ps.map fun x => PyData.tuple (nnD x))) := .lst h (hp.dp nn_dp)
/-- lists of numbers -/
def intsD (ns : List Int) : PyData := .list (ns.map PyData.int)
theorem dp_ints {K : PySem.W.Frag} {H : Hp} {a : Addr} {ns : List Int} (h : SqL K H a (ns.map V.int)) : Dp K H (.ref a) (intsD ns) := .lst h (dpAll_map fun x _ => .int x)
theorem ints_self (ns : List Int) : SeqAt.shaped (intsD ns) = true ∧ PyData.eqv (intsD ns) (intsD ns) = true := selfD fun d hd => by
  obtain ⟨x, _, rfl⟩ := List.mem_map.mp hd
  exact ⟨rfl, Nat.zero_le _, by show (x == x) = true; simp⟩
def natV (ns : List Nat) : List V := ns.map fun n => V.int (n : Nat)
theorem natV_ints (ns : List Nat) : natV ns = (ns.map fun (n : Nat) => (n : Int)).map V.int := by unfold natV; rw [List.map_map]; rfl
theorem natV_snoc (ns : List Nat) (n : Nat) : natV (ns ++ [n]) = natV ns ++ [.int (n : Nat)] := by unfold natV; rw [List.map_append]; rfl
theorem natV_len (ns : List Nat) : (natV ns).length = ns.length := by unfold natV; rw [List.length_map]
end Kf

namespace Kf
open PySem PySem.Spec PyProof.Rows L2
def ownK (lo : Addr) : List (Key × V) := [(Sum.inr "order", .ref lo)]
theorem ownK_val (lo : Addr) : valV (ownK lo) (Sum.inr "order") = some (.ref lo) := by kernel_rfl
theorem ownK_put (lo lo' : Addr) : putK (ownK lo) (Sum.inr "order" : Key) (.ref lo') = ownK lo' := by kernel_rfl
theorem filter_erase {z : Str} : ∀ {row : List Str}, row.Nodup → row.filter (fun y => decide (y ≠ z)) = row.erase z
  | [], _ => rfl
  | a :: r, h => by
    obtain ⟨h1, h2⟩ := List.nodup_cons.mp h
    by_cases e : a = z
    · subst e
      rw [List.erase_cons_head, List.filter_cons_of_neg (by simp)]
      exact List.filter_eq_self.mpr fun y hy => decide_eq_true fun q => h1 (by rw [← q]; exact hy)
    · rw [List.erase_cons_tail (by simpa using e), List.filter_cons_of_pos (by simpa using e), filter_erase h2]
theorem filter_absent {z : Str} {row : List Str} (h : z ∉ row) : row.filter (fun y => decide (y ≠ z)) = row := List.filter_eq_self.mpr fun y hy => decide_eq_true fun q => h (by rw [← q]; exact hy)
section
variable {P : Program} {w : World} {K : PySem.W.Frag} {mg : Str → Option Value} {base : Heap} {tb : Addr}
/-! ### _law_cold -/
def spLCold (tb : Addr) : Sp := fun vs H Q _ => ∃ (d lo : Addr) (z : Str) (n : Int) (row : List Str), vs = [.ref d, .str z, .int n] ∧ H d = some (.dK (ownK lo)) ∧ H lo = some (.lst (row.map V.str)) ∧ 1 ≤ n ∧ n ≤ 20 ∧ (row.length : Int) ≤ n ∧ row.Nodup ∧
  ∀ (t lo' : Addr) (H' : Hp), H t = none → H lo' = none → t ≠ lo' → H' t = some (.tup [.bl (stepOC nfCold n row z).1, optV (stepOC nfCold n row z).2.1]) → H' d = some (.dK (ownK lo')) → H' lo' = some (.lst ((stepOC nfCold n row z).2.2.map V.str)) → Kp tb [d, lo] H H' → Q (.ref t) H'
abbrev nLCold : List Str := ["_law_own", "_law_name", "_law_places_here", "_law_met", "_law_gone", "_law_one"]
end
end Kf

namespace Kf
open PySem PySem.Spec PyProof.Rows L2
/-! ### what was wished latest, ahead of what was wished before -/
def dd : List Str → List Str
  | [] => []
  | x :: r => x :: (dd r).filter fun y => decide (y ≠ x)
theorem dd_mem {z : Str} : ∀ {l : List Str}, z ∈ dd l ↔ z ∈ l
  | [] => Iff.rfl
  | x :: r => by
    have ih := dd_mem (z := z) (l := r)
    unfold dd
    rw [List.mem_cons, List.mem_cons, List.mem_filter, ih]
    by_cases e : z = x
    · simp [e]
    · simp [e]
theorem dd_nodup : ∀ l : List Str, (dd l).Nodup
  | [] => List.nodup_nil
  | x :: r => by
    unfold dd
    refine List.nodup_cons.mpr ⟨fun h => ?_, (dd_nodup r).filter _⟩
    have := (List.mem_filter.mp h).2
    simp at this
theorem dd_append (l2 : List Str) : ∀ l1 : List Str, dd (l1 ++ l2) = dd l1 ++ (dd l2).filter fun y => decide (y ∉ l1)
  | [] => by
    show dd l2 = [] ++ _
    rw [List.nil_append]
    exact (List.filter_eq_self.mpr fun _ _ => by simp).symm
  | x :: r => by
    show x :: (dd (r ++ l2)).filter _ = (x :: (dd r).filter _) ++ _
    rw [dd_append l2 r, List.filter_append, List.filter_filter, List.cons_append]
    refine congrArg (fun t => x :: ((dd r).filter (fun y => decide (y ≠ x)) ++ t)) (List.filter_congr fun y _ => ?_)
    by_cases e : y = x <;> by_cases e2 : y ∈ r <;> simp [e, e2]
theorem dd_snoc (l : List Str) (x : Str) : dd (l ++ [x]) = if x ∈ l then dd l else dd l ++ [x] := by
  rw [dd_append]
  show dd l ++ [x].filter _ = _
  by_cases e : x ∈ l
  · rw [if_pos e, List.filter_cons_of_neg (by simpa using e), List.filter_nil, List.append_nil]
  · rw [if_neg e, List.filter_cons_of_pos (by simpa using e), List.filter_nil]
/-- of these wishes: the unlike ones, the latest first -/
def mruW (zs : List Str) : List Str := dd zs.reverse
theorem mruW_snoc (zs : List Str) (z : Str) : mruW (zs ++ [z]) = z :: (mruW zs).filter fun y => decide (y ≠ z) := by
  unfold mruW
  rw [List.reverse_append]
  rfl
theorem mruW_nodup (zs : List Str) : (mruW zs).Nodup := dd_nodup _
theorem mruW_mem {zs : List Str} {z : Str} : z ∈ mruW zs ↔ z ∈ zs := by
  unfold mruW
  rw [dd_mem, List.mem_reverse]
theorem dd_len : ∀ l : List Str, (dd l).length ≤ l.length
  | [] => Nat.le_refl _
  | x :: r => by
    unfold dd
    rw [List.length_cons, List.length_cons]
    have := List.length_filter_le (fun y => decide (y ≠ x)) (dd r)
    have := dd_len r
    omega
theorem mruW_len (zs : List Str) : (mruW zs).length ≤ zs.length := by
  unfold mruW
  exact Nat.le_trans (dd_len _) (by rw [List.length_reverse]; omega)
theorem nodup_rev {M : List Str} (h : M.Nodup) : M.reverse.Nodup := List.pairwise_reverse.mpr (List.Pairwise.imp (fun q => Ne.symm q) h)
theorem idxOf_nodup {z : Str} {M : List Str} {i : Nat} (nd : M.Nodup) (h : M[i]? = some z) : M.idxOf z = i := by
  refine idxOf_split (fun j hj q => ?_) h
  have hi := (List.getElem?_eq_some_iff.mp h).1
  have e1 := (List.getElem?_eq_some_iff.mp h).2
  have e2 := (List.getElem?_eq_some_iff.mp q).2
  have := (List.pairwise_iff_getElem.mp nd) j i (by omega) hi hj
  exact this (by rw [e1, e2])
theorem idx_rev {z : Str} {M : List Str} {j : Nat} (nd : M.Nodup) (h : M.reverse[j]? = some z) : M.length - j = M.idxOf z + 1 ∧ j < M.length := by
  have hj : j < M.length := by
    have := (List.getElem?_eq_some_iff.mp h).1
    rwa [List.length_reverse] at this
  rw [List.getElem?_reverse hj] at h
  rw [idxOf_nodup nd h]
  omega
/-- the depth of a wish of z behind these wishes -/
def depthW (zs : List Str) (z : Str) : Option Nat := if z ∈ zs then some ((mruW zs).idxOf z + 1) else none
def depthsW (ws : List Str) (i : Nat) : List (Option Nat) := (List.range i).map fun k => depthW (ws.take k) (ws.getD k ⟨#[]⟩)
theorem depthsW_succ {ws : List Str} {i : Nat} {z : Str} (h : ws[i]? = some z) : depthsW ws (i + 1) = depthsW ws i ++ [depthW (ws.take i) z] := by
  unfold depthsW
  rw [List.range_succ, List.map_append]
  show _ ++ [depthW (ws.take i) (ws.getD i ⟨#[]⟩)] = _
  rw [List.getD_eq_getElem?_getD, h]
  rfl
theorem depthsW_len (ws : List Str) (i : Nat) : (depthsW ws i).length = i := by unfold depthsW; rw [List.length_map, List.length_range]
/-- one wish, in the row with the latest one last -/
theorem row_step (zs : List Str) (z : Str) : (mruW (zs ++ [z])).reverse = (if z ∈ zs then (mruW zs).reverse.erase z else (mruW zs).reverse) ++ [z] := by
  rw [mruW_snoc, List.reverse_cons, ← List.filter_reverse]
  by_cases e : z ∈ zs
  · rw [if_pos e, filter_erase (nodup_rev (mruW_nodup zs))]
  · rw [if_neg e, filter_absent (fun h => e (mruW_mem.mp (List.mem_reverse.mp h)))]
/-- from the wish ahead back to the last wish of z: what was wished there -/
theorem depth_split {zs l1 l2 : List Str} {z : Str} (e : zs.reverse = l1 ++ z :: l2) (h : z ∉ l1) : depthW zs z = some ((dd l1).length + 1) := by
  have hz : z ∈ zs := List.mem_reverse.mp (by rw [e]; simp)
  unfold depthW
  rw [if_pos hz]
  unfold mruW
  rw [e, dd_append]
  have e2 : (dd (z :: l2)).filter (fun y => decide (y ∉ l1)) = z :: ((dd l2).filter fun y => decide (y ≠ z)).filter fun y => decide (y ∉ l1) := by
    show (z :: (dd l2).filter _).filter _ = _
    rw [List.filter_cons_of_pos (by simpa using h)]
  rw [e2, List.idxOf_append, if_neg (fun q => h (dd_mem.mp q)), List.idxOf_cons]
  simp
/-! ### a cold shelf -/
def leO (p : Nat) : Option Nat → Bool
  | none => false
  | some d => decide (d ≤ p)
theorem mem_take_iff {M : List Str} {z : Str} {n : Nat} : z ∈ M.take n ↔ z ∈ M ∧ M.idxOf z < n := by
  induction M generalizing n with
  | nil => simp
  | cons x r ih =>
    cases n with
    | zero => simp
    | succ n =>
      rw [List.take_succ_cons, List.mem_cons, List.mem_cons, List.idxOf_cons]
      by_cases e : z = x
      · simp [e]
      · rw [show (x == z) = false from beq_eq_false_iff_ne.mpr (Ne.symm e), ih]
        simp [e]
theorem cold_met (zs : List Str) (z : Str) (n : Nat) : decide (z ∈ (mruW zs).take n) = leO n (depthW zs z) := by
  unfold depthW
  by_cases e : z ∈ zs
  · rw [if_pos e]
    show _ = decide (_ ≤ _)
    refine decide_eq_decide.mpr ?_
    rw [mem_take_iff]
    have := mruW_mem.mpr e
    constructor
    · exact fun h => h.2
    · exact fun h => ⟨this, h⟩
  · rw [if_neg e]
    exact decide_eq_false fun h => e (mruW_mem.mp (List.mem_of_mem_take h))
theorem take_erase_in {z : Str} : ∀ {M : List Str} {n : Nat}, z ∈ M.take (n + 1) → (M.erase z).take n = (M.take (n + 1)).erase z
  | [], _, h => absurd h (by simp)
  | x :: r, n, h => by
    by_cases e : x = z
    · subst e
      rw [List.erase_cons_head, List.take_succ_cons, List.erase_cons_head]
    · rw [List.erase_cons_tail (by simpa using e), List.take_succ_cons, List.erase_cons_tail (by simpa using e)]
      rw [List.take_succ_cons] at h
      have h2 : z ∈ r.take n := by
        rcases List.mem_cons.mp h with q | q
        · exact absurd q.symm e
        · exact q
      cases n with
      | zero => simp at h2
      | succ n => rw [List.take_succ_cons, take_erase_in h2]
theorem take_erase_out {z : Str} : ∀ {M : List Str} {n : Nat}, z ∉ M.take (n + 1) → (M.erase z).take n = M.take n
  | [], _, _ => by simp
  | x :: r, n, h => by
    rw [List.take_succ_cons, List.mem_cons, not_or] at h
    rw [List.erase_cons_tail (by simpa using Ne.symm h.1)]
    cases n with
    | zero => rfl
    | succ n => rw [List.take_succ_cons, List.take_succ_cons, take_erase_out h.2]
theorem cold_step {n : Nat} (n1 : 1 ≤ n) (zs : List Str) (z : Str) : ∃ g, stepOC nfCold (n : Int) ((mruW zs).take n).reverse z = (leO n (depthW zs z), g, ((mruW (zs ++ [z])).take n).reverse) := by
  obtain ⟨m, rfl⟩ : ∃ m, n = m + 1 := ⟨n - 1, by omega⟩
  rw [← cold_met, mruW_snoc]
  have nd := mruW_nodup zs
  generalize mruW zs = M at *
  rw [filter_erase nd, List.take_succ_cons, List.reverse_cons]
  have ndt : (M.take (m + 1)).reverse.Nodup := nodup_rev (nd.sublist (List.take_sublist _ _))
  unfold stepOC
  by_cases h : z ∈ M.take (m + 1)
  · rw [if_pos (List.mem_reverse.mpr h), decide_eq_true h]
    refine ⟨_, congrArg (fun t => (true, none, t)) ?_⟩
    unfold nfCold
    rw [take_erase_in h, ← filter_erase ndt, List.filter_reverse, filter_erase (nd.sublist (List.take_sublist _ _))]
  · rw [if_neg (fun q => h (List.mem_reverse.mp q)), decide_eq_false h, take_erase_out h]
    by_cases hl : ((M.take (m + 1)).reverse.length : Int) < ((m + 1 : Nat) : Int)
    · rw [if_pos hl]
      refine ⟨_, congrArg (fun t => (false, none, t)) ?_⟩
      unfold nfCold
      have hM : M.length ≤ m := by
        rw [List.length_reverse, List.length_take] at hl
        omega
      rw [List.take_of_length_le (by omega), List.take_of_length_le (by omega)]
      rw [List.take_of_length_le (by omega)] at h
      rw [← filter_erase (by
        refine List.nodup_append.mpr ⟨nodup_rev nd, by simp, fun a ha b hb => ?_⟩
        rw [List.mem_singleton.mp hb]
        exact fun q => h (by rw [← q]; exact List.mem_reverse.mp ha)), List.filter_append, filter_absent (fun q => h (List.mem_reverse.mp q)), List.filter_cons_of_neg (by simp), List.filter_nil, List.append_nil]
    · rw [if_neg hl]
      have hlen : (M.take (m + 1)).length = m + 1 := by
        rw [List.length_reverse, List.length_take] at hl
        rw [List.length_take]
        omega
      obtain ⟨r, g, er⟩ : ∃ r g, M.take (m + 1) = r ++ [g] := by
        have hne : M.take (m + 1) ≠ [] := fun q => by rw [q] at hlen; simp at hlen
        exact ⟨_, _, (List.dropLast_concat_getLast hne).symm⟩
      have er2 : M.take m = r := by
        have := congrArg (List.take m) er
        rw [List.take_take, Nat.min_eq_left (by omega)] at this
        rw [this]
        rw [er, List.length_append] at hlen
        have : r.length = m := by simpa using hlen
        rw [List.take_append_of_le_length (by omega), List.take_of_length_le (by omega)]
      have hz : z ∉ r.reverse := fun q => h (by rw [er]; exact List.mem_append.mpr (.inl (List.mem_reverse.mp q)))
      rw [er, List.reverse_append]
      refine ⟨some g, ?_⟩
      show (false, some g, nfCold z (r.reverse ++ [z])) = (false, some g, (M.take m).reverse ++ [z])
      rw [er2]
      unfold nfCold
      rw [List.erase_append_right _ hz]
      simp
end Kf

namespace Kf
open PySem PySem.Spec PyProof.Rows L2
/-! ### keepfew.depths -/
def oiV : Option Nat → V
  | none => .non
  | some n => .int (n : Nat)
def oiD : Option Nat → PyData
  | none => .none
  | some n => .int (n : Nat)
theorem dp_oi {K : PySem.W.Frag} {H : Hp} : ∀ d : Option Nat, Dp K H (oiV d) (oiD d)
  | none => .non
  | some n => .int _
theorem oi_self (ds : List (Option Nat)) : SeqAt.shaped (.list (ds.map oiD)) = true ∧ PyData.eqv (.list (ds.map oiD)) (.list (ds.map oiD)) = true := selfD fun d hd => by
  obtain ⟨x, _, rfl⟩ := List.mem_map.mp hd
  cases x with
  | none => exact ⟨rfl, Nat.zero_le _, rfl⟩
  | some n => exact ⟨rfl, Nat.zero_le _, by show (_ == _) = true; simp⟩
theorem dp_ois {K : PySem.W.Frag} {H : Hp} {a : Addr} {ds : List (Option Nat)} (h : SqL K H a (ds.map oiV)) : Dp K H (.ref a) (.list (ds.map oiD)) := .lst h (dpAll_map fun x _ => dp_oi x)
/-- how many are missed, of one place, of two, and so on -/
def missW (ws : List Str) (p : Nat) : Nat := (depthsW ws ws.length).countP fun d => !leO p d
theorem missW_eq (ws : List Str) (p : Nat) : ((ws.length : Nat) : Int) - (((depthsW ws ws.length).countP (leO p) : Nat) : Int) = ((missW ws p : Nat) : Int) := by
  have h := List.length_eq_countP_add_countP (leO p) (l := depthsW ws ws.length)
  rw [depthsW_len] at h
  have e : missW ws p = (depthsW ws ws.length).countP (fun d => decide ¬ leO p d = true) := by
    unfold missW
    refine List.countP_congr fun d _ => ?_
    simp
  rw [e]
  omega
def manyW (ws : List Str) : List Int := (List.range 20).map fun j => ((missW ws (j + 1) : Nat) : Int)
section
variable {P : Program} {w : World} {K : PySem.W.Frag} {mg : Str → Option Value} {base : Heap} {tb : Addr}
def spDepths (tb : Addr) : Sp := fun vs H Q _ => ∃ (a : Addr) (ws : List Str), vs = [.ref a] ∧ H a = some (.lst (ws.map V.str)) ∧ ws.length ≤ 300 ∧ (∀ z ∈ ws, IsName z) ∧ GxR.TabG H tb ∧
  ∀ (o : Addr) (H' : Hp), H o = none → H' o = some (.lst ((depthsW ws ws.length).map oiV)) → Kp tb [] H H' → Q (.ref o) H'
abbrev n_depths : List Str := ["wishes", "row", "found", "name", "depth"]
theorem sc_depths : FnScope n_depths ["wishes"] (defScope s_depths) := ⟨rfl, rfl, rfl, by decide +kernel, rfl, by decide +kernel, by decide +kernel⟩
theorem ok_depths {f : Addr} {fd : FuncData} {k0 : Nat} (F : FnP K "depths" "depths" s_depths f fd) (hlen : mg "len" = none) (GW : Glob P w K mg base CX0 (k0 + 1) "check_wishes" ["wishes"] (spCheckWishes K)) :
    FnOk P w K mg base CX0 (k0 + 2) f fd ["wishes"] (spDepths (tbOf K)) := by
  refine ok0 F sc_depths (fun vs H Q E h => ?_) (fun cdv A outer s H vs Q E hr h => ?_)
  · obtain ⟨a, ws, rfl, _⟩ := h
    rfl
  · obtain ⟨a, ws, rfl, ha, hl, hn, tab, q⟩ := h
    refine ⟨_, (pss_cons (ps_expr (pe_callG GW hr (by rfl) pass0 (pa_cons (pv 0) pa_nil)))
      (pss_cons (ps_set (i := 1) sc_depths.nd rfl (Or.inl rfl) (pe_lst pa_nil))
      (pss_cons (ps_set (i := 2) sc_depths.nd rfl (Or.inl rfl) (pe_lst pa_nil))
      (pss_cons (ps_for PassesOwn.never rfl (pi_list (pv 0)) (pg_name (i := 3) sc_depths.nd rfl (Or.inl rfl))
        (pss_cons (ps_set (i := 4) sc_depths.nd rfl (Or.inl rfl) pe_non)
        (C8.pss_cut (ps_if (pt_cmpR op_in_seq (pv 3) (pv 1) (by with_unfolding_all rfl))
          (pss_cons (ps_set (i := 4) sc_depths.nd rfl (Or.inl rfl) (pe_op op_sub (pe_callB call_len_seq (by rfl) hlen PySem.boot_len (pa_cons (pv 1) pa_nil)) (pe_bm PySem.F.plainAttrs_list PySem.F.slot_list_index PySem.F.type_list_index mt_index (pv 1) (pa_cons (pv 3) pa_nil))))
          (pss_one (ps_expr (pe_bm PySem.F.plainAttrs_list PySem.F.slot_list_remove PySem.F.type_list_remove mt_removeS (pv 1) (pa_cons (pv 3) pa_nil)))))
          pss_nil)
        (pss_cons (ps_expr (pe_bm PySem.F.plainAttrs_list PySem.F.slot_list_append PySem.F.type_list_append mt_append (pv 1) (pa_cons (pv 3) pa_nil)))
        (pss_one (ps_expr (pe_bm PySem.F.plainAttrs_list PySem.F.slot_list_append PySem.F.type_list_append mt_append (pv 2) (pa_cons (pv 4) pa_nil))))))))
      (pss_one (ps_ret (pv 2))))))), ?_⟩
    refine ⟨_, rfl, a, ws, rfl, ha, hl, hn, tab, fun H1 k1 => ?_⟩
    refine ⟨Nat.zero_le _, fun ro hro => ?_⟩
    have k2 : Kp (tbOf K) [] H1 (upd H1 ro (.lst [])) := Kp.new hro
    have g2 : (upd H1 ro (.lst [])) ro = some (.lst []) := upd_same
    have k12 := k1.trans k2
    have fro : H ro = none := k1.free _ hro
    generalize upd H1 ro (.lst []) = H2 at k2 g2 k12 ⊢
    refine ⟨Nat.zero_le _, fun fa hfa => ?_⟩
    have k3 : Kp (tbOf K) [] H2 (upd H2 fa (.lst [])) := Kp.new hfa
    have gf : (upd H2 fa (.lst [])) fa = some (.lst []) := upd_same
    have g3 := k3.get g2
    have k13 := k12.trans k3
    have nrf : ro ≠ fa := ne_of_none g2 hfa
    have ffa : H fa = none := k12.free _ hfa
    generalize upd H2 fa (.lst []) = H3 at k3 gf g3 k13 ⊢
    refine ⟨_, rfl, a, rfl, ⟨_, SqL.of (k13.get ha)⟩, ?_⟩
    refine for_it walk_list (fun i σ H' => ∃ v3 v4 : Option V, σ = [some (.ref a), some (.ref ro), some (.ref fa), v3, v4] ∧ H' ro = some (.lst ((mruW (ws.take i)).reverse.map V.str)) ∧ H' fa = some (.lst ((depthsW ws i).map oiV)) ∧ Kp (tbOf K) [] H H')
      ⟨none, none, rfl, g3, gf, k13⟩ (fun i σ H' _ ⟨_, _, _, _, _, kp⟩ => SqL.of (kp.get ha)) ?_ ?_
    · rintro i x σ H4 H5 hi ⟨v3, v4, rfl, hr5, hf5, kp⟩ ⟨rfl, hx⟩
      obtain ⟨z, hz, rfl⟩ := get_mapS hx
      rw [List.length_map] at hi
      have etake : ws.take (i + 1) = ws.take i ++ [z] := by rw [List.take_add_one, hz]; rfl
      have hrl : (mruW (ws.take i)).length ≤ 300 := Nat.le_trans (mruW_len _) (by rw [List.length_take]; omega)
      have hs := row_step (ws.take i) z
      have nd := mruW_nodup (ws.take i)
      have hmem := mruW_mem (zs := ws.take i) (z := z)
      have ed : depthW (ws.take i) z = if z ∈ ws.take i then some ((mruW (ws.take i)).idxOf z + 1) else none := rfl
      rw [etake, depthsW_succ hz, ed]
      rw [hs]
      generalize mruW (ws.take i) = M at *
      refine ⟨fun σ H' => σ = [some (.ref a), some (.ref ro), some (.ref fa), some (.str z), some (oiV (if z ∈ ws.take i then some (M.idxOf z + 1) else none))] ∧ H' ro = some (.lst ((if z ∈ ws.take i then M.reverse.erase z else M.reverse).map V.str)) ∧ Kp (tbOf K) [ro] H5 H', ?_, ?_⟩
      · refine ⟨_, rfl, _, rfl, ro, _, rfl, .inl (SqL.of hr5), rfl, flat_strs _, _, rfl, ?_⟩
        rw [inV_str]
        by_cases hin : z ∈ ws.take i
        · have hin2 : z ∈ M.reverse := List.mem_reverse.mpr (hmem.mpr hin)
          rw [decide_eq_true hin2, if_pos hin, if_pos hin]
          obtain ⟨j, j1, j2, j3, j4⟩ := first_atS hin2
          obtain ⟨e1, e2⟩ := idx_rev nd j2
          refine iteT ⟨_, rfl, ro, _, rfl, .inl (SqL.of hr5), _, rfl, .inl ⟨rfl, _, SqL.of hr5⟩, _, rfl, ro, _, _, j, _, rfl, rfl, SqL.of hr5, rfl, flat_strs _, by rw [List.getElem?_map, j2]; rfl, ?_, ?_, ?_⟩
          · show (z == z) = true
            simp
          · intro m z' hm hz'
            obtain ⟨y, hy, rfl⟩ := get_mapS hz'
            show (y == z) = false
            exact beq_eq_false_iff_ne.mpr fun e => j3 m hm (by rw [hy, e])
          refine ⟨_, _, rfl, rfl, _, rfl, .inl ⟨rfl, _, SqL.of hr5⟩, _, rfl, ro, _, _, rfl, rfl, hr5, hin2, ?_, upd_same, Kp.put hr5⟩
          rw [List.length_map, List.length_reverse, ← e1]
          show [_, _, _, _, some (V.int ((M.length : Int) - (j : Int)))] = [_, _, _, _, some (V.int ((M.length - j : Nat) : Int))]
          rw [show (M.length : Int) - (j : Int) = ((M.length - j : Nat) : Int) by omega]
        · have hin2 : z ∉ M.reverse := fun h => hin (hmem.mp (List.mem_reverse.mp h))
          rw [decide_eq_false hin2, if_neg hin, if_neg hin]
          exact iteF ⟨rfl, hr5, Kp.refl _⟩
      · rintro σ H6 ⟨rfl, hr6, k6⟩
        have hf6 := k6.get hf5 rfl (by simp [nrf.symm])
        have kp6 := kp.transN k6 (fun y hy => by rw [List.mem_singleton.mp hy]; exact fro)
        refine ⟨_, rfl, .inl ⟨rfl, _, SqL.of hr6⟩, _, rfl, ro, _, _, rfl, rfl, hr6, ?_, ?_⟩
        · rw [List.length_map]
          refine small_of (m := 300) ?_
          by_cases hin : z ∈ ws.take i
          · rw [if_pos hin]; exact Nat.le_trans List.length_erase_le (by rw [List.length_reverse]; exact hrl)
          · rw [if_neg hin, List.length_reverse]; exact hrl
        rw [← List.map_singleton (f := V.str), ← List.map_append]
        generalize ((if z ∈ ws.take i then M.reverse.erase z else M.reverse) ++ [z]) = R at *
        have k7 : Kp (tbOf K) [ro] H6 (upd H6 ro (.lst (R.map V.str))) := Kp.put hr6
        have hr7 : (upd H6 ro (.lst (R.map V.str))) ro = some (.lst (R.map V.str)) := upd_same
        have hf7 := k7.get hf6 rfl (by simp [nrf.symm])
        have kp7 := kp6.transN k7 (fun y hy => by rw [List.mem_singleton.mp hy]; exact fro)
        generalize upd H6 ro (.lst (R.map V.str)) = H7 at k7 hr7 hf7 kp7 ⊢
        refine ⟨_, rfl, .inl ⟨rfl, _, SqL.of hf7⟩, _, rfl, fa, _, _, rfl, rfl, hf7, by rw [List.length_map, depthsW_len]; exact small_of (m := 300) (by omega), ?_⟩
        have k8 : Kp (tbOf K) [fa] H7 (upd H7 fa (.lst ((depthsW ws i).map oiV ++ [oiV (if z ∈ ws.take i then some (M.idxOf z + 1) else none)]))) := Kp.put hf7
        exact ⟨_, _, rfl, k8.get hr7 rfl (by simp [nrf]), by rw [upd_same, List.map_append]; rfl, kp7.transN k8 (fun y hy => by rw [List.mem_singleton.mp hy]; exact ffa)⟩
    · rintro σ H4 ⟨v3, v4, rfl, hr4, hf4, kp⟩
      rw [List.length_map] at hf4
      exact ⟨_, rfl, q fa H4 ffa hf4 kp⟩
def spMetP (tb : Addr) : Sp := fun vs H Q _ => ∃ (a : Addr) (ds : List (Option Nat)) (p : Nat), vs = [.ref a, .int (p : Nat)] ∧ H a = some (.lst (ds.map oiV)) ∧ ds.length ≤ 300 ∧ ∀ H', Kp tb [] H H' → Q (.int (ds.countP (leO p) : Nat)) H'
abbrev n_metp : List Str := ["told", "places", "depth"]
theorem sc_metp : FnScope n_metp ["told", "places"] (defScope s__met) := ⟨rfl, rfl, rfl, by decide +kernel, rfl, by decide +kernel, by decide +kernel⟩
theorem ok_metp {f : Addr} {fd : FuncData} {k0 : Nat} (F : FnP K "_met" "_met" s__met f fd) (hlen : mg "len" = none) : FnOk P w K mg base CX0 (k0 + 1) f fd ["told", "places"] (spMetP tb) := by
  refine ok0 F sc_metp (fun vs H Q E h => ?_) (fun cdv A outer s H vs Q E hr h => ?_)
  · obtain ⟨a, ds, p, rfl, _⟩ := h
    rfl
  · obtain ⟨a, ds, p, rfl, ha, hl, q⟩ := h
    refine ⟨_, (pss_one (ps_ret (pe_callB call_len_seq (by rfl) hlen PySem.boot_len (pa_cons (pe_lc (own := [("depth", 2)]) (g := gName 2) rfl sc_metp.nd (pi_list (pv 0)) (blkOk_by (N := n_metp) (sc := defScope s__met) (by decide +kernel)) (fun _ _ _ _ _ => pg_name (i := 2) sc_metp.nd rfl (Or.inl rfl)) (fun _ _ _ _ _ => pts_one (PW.pt (pw_and (pt_cmp (pc_notN (pv 2))) (pw_and1 (pt_cmpR op_le (pv 2) (pv 1) (nomark _)))))) (fun _ _ _ _ _ => (pv 2))) pa_nil)))), ?_⟩
    refine ⟨_, rfl, a, rfl, ⟨_, SqL.of ha⟩, ?_⟩
    refine fun D hD => lc_it walk_list (LcI tb H D (fun i acc => acc.length = (ds.take i).countP (leO p))) (LcI.start hD rfl) (fun i H' _ ⟨_, _, kp, _⟩ => SqL.of (kp.get ha)) ?_ ?_
    · rintro i x H3 H4 hi ⟨acc, hacc, kp, hD3⟩ ⟨rfl, hx⟩
      rw [List.length_map] at hi
      obtain ⟨d, hd, rfl⟩ := get_mapF hx
      have ec : (ds.take (i + 1)).countP (leO p) = (ds.take i).countP (leO p) + (if leO p d = true then 1 else 0) := by
        rw [List.take_add_one, hd, List.countP_append]
        show _ + List.countP _ [d] = _
        rw [List.countP_cons, List.countP_nil, Nat.zero_add]
      have hcl : (ds.take i).countP (leO p) ≤ 300 := Nat.le_trans List.countP_le_length (by rw [List.length_take]; omega)
      cases d with
      | none =>
        refine ⟨rfl, _, rfl, _, rfl, ?_⟩
        refine iteF (iteF ⟨acc, ?_, kp, hD3⟩)
        dsimp only
        rw [ec]
        exact hacc
      | some n =>
        refine ⟨rfl, _, rfl, _, rfl, ?_⟩
        refine iteT ⟨_, rfl, _, rfl, _, _, rfl, rfl, _, rfl, ?_⟩
        by_cases e : n ≤ p
        · rw [decide_eq_true (show ((n : Nat) : Int) ≤ ((p : Nat) : Int) by omega)]
          refine iteT ⟨_, rfl, LcI.next hD kp hD3 (Kp.refl _) (by rw [hacc]; exact small_of (m := 300) hcl) ?_⟩
          rw [ec, List.length_append, hacc, if_pos (show leO p (some n) = true from decide_eq_true e)]
          rfl
        · rw [decide_eq_false (show ¬ ((n : Nat) : Int) ≤ ((p : Nat) : Int) by omega)]
          refine iteF ⟨acc, ?_, kp, hD3⟩
          dsimp only
          rw [ec, hacc, if_neg (show ¬ leO p (some n) = true from fun q => e (of_decide_eq_true q)), Nat.add_zero]
    · rintro H3 ⟨acc, hacc, kp, hD3⟩
      rw [List.length_map, List.take_of_length_le (Nat.le_refl _)] at hacc
      refine ⟨D, acc, rfl, .inl (SqL.of hD3), ?_⟩
      rw [hacc]
      exact q _ kp
def spMissedBy (tb : Addr) : Sp := fun vs H Q _ => ∃ (a : Addr) (ws : List Str), vs = [.ref a] ∧ H a = some (.lst (ws.map V.str)) ∧ ws.length ≤ 300 ∧ (∀ z ∈ ws, IsName z) ∧ GxR.TabG H tb ∧
  ∀ (o : Addr) (H' : Hp), H o = none → H' o = some (.lst ((manyW ws).map V.int)) → Kp tb [] H H' → Q (.ref o) H'
abbrev n_mbp : List Str := ["wishes", "told", "places"]
theorem sc_mbp : FnScope n_mbp ["wishes"] (defScope s_missed_by_places) := ⟨rfl, rfl, rfl, by decide +kernel, rfl, by decide +kernel, by decide +kernel⟩
theorem ok_mbp {f : Addr} {fd : FuncData} {k0 : Nat} {tl : Tok} (F : FnP K "missed_by_places" "missed_by_places" s_missed_by_places f fd) (hmp : mg "MOST_PLACES" = some (.int 20 tl)) (hlen : mg "len" = none) (hrange : mg "range" = none)
    (GD : Glob P w K mg base CX0 (k0 + 1) "depths" ["wishes"] (spDepths (tbOf K))) (GM : Glob P w K mg base CX0 (k0 + 1) "_met" ["told", "places"] (spMetP (tbOf K))) :
    FnOk P w K mg base CX0 (k0 + 2) f fd ["wishes"] (spMissedBy (tbOf K)) := by
  refine ok0 F sc_mbp (fun vs H Q E h => ?_) (fun cdv A outer s H vs Q E hr h => ?_)
  · obtain ⟨a, ws, rfl, _⟩ := h
    rfl
  · obtain ⟨a, ws, rfl, ha, hl, hn, tab, q⟩ := h
    refine ⟨_, (pss_cons (ps_set (i := 1) sc_mbp.nd rfl (Or.inr rfl) (pe_callG GD hr (by rfl) pass0 (pa_cons (pv 0) pa_nil)))
      (pss_one (ps_ret (pe_lc (own := [("places", 2)]) (g := gName 2) (tt := tYes) rfl sc_mbp.nd (pi_range2 (by rfl) hrange (pa_cons pe_int (pa_cons (pe_op op_add (pe_glob (v := .int 20) rfl hmp ⟨_, rfl⟩) pe_int) pa_nil))) (blkOk_by (N := n_mbp) (sc := defScope s_missed_by_places) (by decide +kernel)) (fun _ _ _ _ _ => pg_name (i := 2) sc_mbp.nd rfl (Or.inl rfl)) (fun _ _ _ _ _ => pts_nil) (fun _ _ _ _ _ => (pe_op op_sub (pe_callB (call_len_seqK (K := K) rfl) (by rfl) hlen PySem.boot_len (pa_cons (pv 1) pa_nil)) (pe_callG GM hr (by rfl) pass0 (pa_cons (pv 1) (pa_cons (pv 2) pa_nil))))))))), ?_⟩
    refine ⟨_, rfl, a, ws, rfl, ha, hl, hn, tab, fun o H1 fo ho k1 => ?_⟩
    refine ⟨_, _, rfl, rfl, _, _, rfl, ⟨by decide, by decide, by decide, by decide⟩, fun D hD => ?_⟩
    refine lc_it (n := 20) walk_range (LcI (tbOf K) H1 D (fun i acc => acc = (((List.range i).map fun j => ((missW ws (j + 1) : Nat) : Int))).map V.int)) (LcI.start hD rfl) (fun _ _ _ _ => trivial) ?_ ?_
    · rintro i x H3 H4 hi ⟨acc, rfl, kp, hD3⟩ ⟨rfl, rfl⟩
      have e1 : ((1 : Int) + (i : Nat)) = ((i + 1 : Nat) : Int) := by omega
      have ho4 := kp.get ho
      refine ⟨rfl, _, rfl, o, _, rfl, .inl (SqL.of ho4), _, rfl, _, rfl, o, _, i + 1, ?_, ho4, by rw [depthsW_len]; exact hl, fun H5 k5 => ?_⟩
      · show [V.ref o, V.int (1 + (i : Nat))] = _
        rw [e1]
      refine ⟨_, _, rfl, rfl, LcI.next hD kp hD3 k5 ?_ ?_⟩
      · rw [List.length_map, List.length_map, List.length_range]
        exact small_of (m := 20) (by omega)
      · rw [List.length_map, depthsW_len]
        dsimp only
        rw [missW_eq, List.range_succ, List.map_append, List.map_append]
        rfl
    · rintro H3 ⟨acc, rfl, kp, hD3⟩
      exact q D H3 (k1.free _ hD) hD3 (k1.trans kp)
end
end Kf

namespace Kf
open PySem PySem.Spec PyProof.Rows L2
/-! ### xs[a::k] -/
def stepV (xs : List V) (lo st : Option Int) : List V := (PySem.sliceRange (PySem.sliceBounds lo none st xs.length).1 (PySem.sliceBounds lo none st xs.length).2.1 (PySem.sliceBounds lo none st xs.length).2.2).filterMap (xs[·]?)
theorem vals_picks {xs : List V} {us : List Value} (r : Vals xs us) : ∀ is : List Nat, Vals (is.filterMap (xs[·]?)) (is.filterMap (us[·]?))
  | [] => .nil
  | i :: is => by
    have ih := vals_picks r is
    rw [List.filterMap_cons, List.filterMap_cons]
    cases e : xs[i]? with
    | none =>
      have e2 : us[i]? = none := by
        rw [List.getElem?_eq_none_iff] at e ⊢
        rw [← r.length]
        exact e
      rw [e2]
      exact ih
    | some x =>
      obtain ⟨u, h1, h2⟩ := r.get e
      rw [h1]
      exact .cons h2 ih
section
variable {X : Cx}
def tStepL (K : PySem.W.Frag) (te : TE) (tl th : TO) : TE := fun σ H Q => te σ H fun x H1 => tl σ H1 fun l H2 => th σ H2 fun o H3 => ∃ a xs, x = .ref a ∧ SqL K H3 a xs ∧ o ≠ some 0 ∧ (stepV xs l o).length ≤ sizeLine ∧ ∀ p, H3 p = none → Q (.ref p) (upd H3 p (.lst (stepV xs l o)))
theorem pe_stepL {e lo st : Expr} {te : TE} {tl th : TO} {p3 pos : Pos} (he : PE X e te) (hl : PO X (some lo) tl) (hs : PO X (some st) th) : PE X (.Subscript e (.Slice (some lo) none (some st) p3) pos) (tStepL X.K te tl th) := by
  refine ⟨fun pins s σ H Q I h => ?_⟩
  refine Subscript_ (thn (he.run pins s σ H _ I h) fun v s1 ⟨x, H1, I1, r1, q1⟩ => ?_)
  refine wpAny_Slice (thn (hl.run pins s1 σ H1 _ I1 q1) fun vl s2 ⟨l, H2, I2, pl, q2⟩ => ?_)
  refine thn (po_none.run pins s2 σ H2 (fun o H3 => o = none ∧ H3 = H2) I2 ⟨rfl, rfl⟩) fun vu s3 ⟨u, H3, I3, pu, eu, e3⟩ => ?_
  subst eu e3
  refine thn (hs.run pins s3 σ H3 _ I3 q2) fun vs s4 ⟨o, H4, I4, ps, q4⟩ => ?_
  obtain ⟨a, xs, ex, hx, h0, hz4, q⟩ := q4
  subst ex
  cases r1
  have I5 : Inv X pins σ H4 { s4 with heap := s4.heap.push { cls := .type "slice", data := .fields #[vl, vu, vs] } } := I4.kept (t' := s4.toks) fun b ob q => Heap.get?_push_of_some _ q
  obtain ⟨its, r, ht, hz⟩ := I5.list hx
  have hlen := r.length
  show wpAny (model X.prog X.w) X.A (subscriptTail e (.Slice (some lo) none (some st) p3) (.ref a) (.ref s4.heap.objs.size)) (EP X pins σ Q) X.xe { s4 with heap := s4.heap.push { cls := .type "slice", data := .fields #[vl, vu, vs] } }
  refine tail_any (ops := [.ref a, .ref s4.heap.objs.size]) ht.isList.typeIs (PySem.slot_list_getitem.lookup) ?_ (by with_unfolding_all rfl)
  refine wpAny_getItem_list_slice ht.isList (Heap.IsSliceOf.new _ vl vu vs) pl pu ps h0 ?_ (by rw [List.size_toArray]; omega)
  have ep : slicePick its.toArray l none o = ((PySem.sliceRange (PySem.sliceBounds l none o xs.length).1 (PySem.sliceBounds l none o xs.length).2.1 (PySem.sliceBounds l none o xs.length).2.2).filterMap (its[·]?)).toArray := by
    unfold slicePick
    rw [List.size_toArray, ← hlen]
    refine congrArg List.toArray (congrArg (fun f => List.filterMap f _) ?_)
    funext i
    exact List.getElem?_toArray
  rw [ep]
  refine ⟨.ref _, _, I5.laid (t' := s4.toks) (o := .lst (stepV xs l o)) (fun b ob q => Heap.get?_push_of_some _ q) (Nat.le_refl _) ?_, rfl, q _ (I5.hok.fresh (Nat.le_refl _))⟩
  exact ⟨hz4, _, 0, vals_picks r _, Heap.get?_push_size _ rfl⟩
end
/-! ### blocks -/
/-- the firsts of the blocks of the first r missed wishes -/
def firstsP (M : List Nat) (p r : Nat) : List Nat := (if r % p > 0 then [M.getD 0 0] else []) ++ (List.range (r / p)).map fun i => M.getD (r % p + i * p) 0
theorem stepV_firsts {M : List Nat} {p : Nat} (p1 : 1 ≤ p) : stepV (natV M) (some ((M.length % p : Nat) : Int)) (some (p : Int)) = natV ((List.range (M.length / p)).map fun i => M.getD (M.length % p + i * p) 0) := by
  unfold stepV
  have hm := Nat.mod_le M.length p
  have hb : PySem.sliceBounds (some ((M.length % p : Nat) : Int)) none (some (p : Int)) (natV M).length = (((M.length % p : Nat) : Int), ((M.length : Nat) : Int), (p : Int)) := by
    rw [natV_len]
    unfold PySem.sliceBounds
    simp only [Option.getD_some]
    have hp : ((p : Nat) : Int) > 0 := by omega
    have h0 : ¬ (((M.length % p : Nat) : Int) < 0) := by omega
    simp only [hp, if_true, h0, if_false]
    have : max 0 (min (((M.length % p : Nat) : Int)) ((M.length : Nat) : Int)) = ((M.length % p : Nat) : Int) := by omega
    rw [this]
  rw [hb]
  dsimp only
  have hdm := Nat.div_add_mod M.length p
  have hr : PySem.sliceRange (((M.length % p : Nat) : Int)) ((M.length : Nat) : Int) (p : Int) = (List.range (M.length / p)).map fun i => M.length % p + i * p := by
    unfold PySem.sliceRange
    have hp : ((p : Nat) : Int) > 0 := by omega
    have hc : (if (p : Int) > 0 then (if ((M.length % p : Nat) : Int) < ((M.length : Nat) : Int) then (((M.length : Nat) : Int) - ((M.length % p : Nat) : Int) + (p : Int) - 1) / (p : Int) else 0) else (if ((M.length % p : Nat) : Int) > ((M.length : Nat) : Int) then (((M.length % p : Nat) : Int) - ((M.length : Nat) : Int) - (p : Int) - 1) / (-(p : Int)) else 0)) = ((M.length / p : Nat) : Int) := by
      rw [if_pos hp]
      have e1 : ((M.length : Nat) : Int) - ((M.length % p : Nat) : Int) + (p : Int) - 1 = ((p : Int) - 1) + ((M.length / p : Nat) : Int) * (p : Int) := by
        have : ((M.length : Nat) : Int) = (p : Int) * ((M.length / p : Nat) : Int) + ((M.length % p : Nat) : Int) := by
          have := congrArg (fun n : Nat => (n : Int)) hdm.symm
          simpa using this
        rw [Int.mul_comm ((M.length / p : Nat) : Int)]
        omega
      have e2 : (((p : Int) - 1) + ((M.length / p : Nat) : Int) * (p : Int)) / (p : Int) = ((M.length / p : Nat) : Int) := by
        rw [Int.add_mul_ediv_right _ _ (by omega), Int.ediv_eq_zero_of_lt (by omega) (by omega), Int.zero_add]
      rw [e1, e2]
      split
      · rfl
      · rename_i h
        have : M.length / p = 0 := by
          refine Nat.div_eq_of_lt ?_
          have : M.length % p < p := Nat.mod_lt _ (by omega)
          omega
        rw [this]
        rfl
    dsimp only
    rw [hc]
    show (List.range (((M.length / p : Nat) : Int)).toNat).map _ = _
    rw [Int.toNat_natCast]
    refine List.map_congr_left fun i _ => ?_
    have : (((M.length % p : Nat) : Int) + (p : Int) * (i : Int)) = ((M.length % p + i * p : Nat) : Int) := by
      rw [Nat.mul_comm i p]
      simp
    rw [this]
    omega
  rw [hr, List.filterMap_map]
  unfold natV
  rw [List.map_map]
  have : ∀ is : List Nat, (∀ i ∈ is, i < M.length / p) → is.filterMap ((fun x => (M.map fun n => V.int (n : Nat))[x]?) ∘ fun i => M.length % p + i * p) = is.map ((fun n => V.int (n : Nat)) ∘ fun i => M.getD (M.length % p + i * p) 0) := fun is hi => by
    induction is with
    | nil => rfl
    | cons i is ih =>
      have h1 := hi i List.mem_cons_self
      have h2 : M.length % p + i * p < M.length := by
        have : (i + 1) * p ≤ (M.length / p) * p := Nat.mul_le_mul_right _ h1
        rw [Nat.add_mul, Nat.mul_comm (M.length / p)] at this
        omega
      rw [List.filterMap_cons_some (b := V.int ((M.getD (M.length % p + i * p) 0 : Nat) : Int)) (by
        show (M.map fun n => V.int (n : Nat))[M.length % p + i * p]? = _
        rw [List.getElem?_map, List.getElem?_eq_getElem h2, List.getD_eq_getElem?_getD, List.getElem?_eq_getElem h2]
        rfl), ih fun j hj => hi j (List.mem_cons_of_mem _ hj)]
      rfl
  exact this _ fun i h => List.mem_range.mp h
theorem firstsP_zero (M : List Nat) (p : Nat) : firstsP M p 0 = [] := by
  unfold firstsP
  rw [Nat.zero_mod, Nat.zero_div]
  rfl
theorem firstsP_small {M : List Nat} {p r : Nat} (p1 : 1 ≤ p) (r1 : 1 ≤ r) (h : r ≤ p) : firstsP M p r = [M.getD 0 0] := by
  unfold firstsP
  rcases Nat.lt_or_ge r p with q | q
  · rw [Nat.mod_eq_of_lt q, Nat.div_eq_of_lt q, if_pos (by omega)]
    rfl
  · have e : r = p := by omega
    subst e
    rw [Nat.mod_self, Nat.div_self p1]
    show [M.getD (0 + 0 * r) 0] = _
    rw [Nat.zero_mul]
theorem firstsP_step {M : List Nat} {p r : Nat} (p1 : 1 ≤ p) (h : p < r) : firstsP M p r = firstsP M p (r - p) ++ [M.getD (r - p) 0] := by
  have e1 : r % p = (r - p) % p := Nat.mod_eq_sub_mod (by omega)
  have e2 : r / p = (r - p) / p + 1 := Nat.div_eq_sub_div (by omega) (by omega)
  have e3 : (r - p) % p + (r - p) / p * p = r - p := by rw [Nat.mul_comm]; exact Nat.mod_add_div _ _
  unfold firstsP
  rw [e1, e2, List.range_succ, List.map_append, List.append_assoc]
  show _ ++ (_ ++ [M.getD ((r - p) % p + (r - p) / p * p) 0]) = _
  rw [e3]
theorem firstsP_len {M : List Nat} {p r : Nat} (p1 : 1 ≤ p) : (firstsP M p r).length ≤ r := by
  unfold firstsP
  rw [List.length_append, List.length_map, List.length_range]
  have h := Nat.div_add_mod r p
  have h2 : r / p ≤ p * (r / p) := Nat.le_mul_of_pos_left _ (by omega)
  split
  · show 1 + _ ≤ _; omega
  · show 0 + _ ≤ _; omega
def chain : List Nat → Nat → List (Int × Int)
  | [], _ => []
  | a :: r, e => (((a : Nat) : Int), ((r.headD e : Nat) : Int) - 1) :: chain r e
theorem chain_snoc (x e : Nat) : ∀ F : List Nat, chain (F ++ [x]) e = chain F x ++ [(((x : Nat) : Int), ((e : Nat) : Int) - 1)]
  | [] => rfl
  | [a] => rfl
  | a :: b :: F => congrArg (_ :: ·) (chain_snoc x e (b :: F))
theorem chain_len (e : Nat) : ∀ F : List Nat, (chain F e).length = F.length
  | [] => rfl
  | _ :: F => congrArg (· + 1) (chain_len e F)
/-- where these are false, ahead of place i -/
def falsAt (bs : List Bool) (i : Nat) : List Nat := (List.range i).filter fun k => decide (bs[k]? = some false)
theorem falsAt_succ {bs : List Bool} {i : Nat} {b : Bool} (h : bs[i]? = some b) : falsAt bs (i + 1) = if b then falsAt bs i else falsAt bs i ++ [i] := by
  unfold falsAt
  rw [List.range_succ, List.filter_append]
  cases b with
  | true => rw [List.filter_cons_of_neg (by rw [decide_eq_true_eq, h]; exact fun q => nomatch q), List.filter_nil, List.append_nil]; rfl
  | false => rw [List.filter_cons_of_pos (by rw [decide_eq_true_eq, h]), List.filter_nil]; rfl
theorem falsAt_len (bs : List Bool) (i : Nat) : (falsAt bs i).length ≤ i := by
  unfold falsAt
  exact Nat.le_trans (List.length_filter_le _ _) (by rw [List.length_range]; omega)
theorem falsAt_pw (bs : List Bool) (i : Nat) : (falsAt bs i).Pairwise (· < ·) := List.Pairwise.filter _ List.pairwise_lt_range
theorem falsAt_mem {bs : List Bool} {i k : Nat} : k ∈ falsAt bs i ↔ k < i ∧ bs[k]? = some false := by
  unfold falsAt
  rw [List.mem_filter, List.mem_range, decide_eq_true_eq]
def metR (r : Rule) (n : Int) (ws : List Str) : List Bool := (pairsR r n st0 ws).map (·.1)
def missR (r : Rule) (n : Int) (ws : List Str) : List Nat := falsAt (metR r n ws) (metR r n ws).length
def blocksW (n : Int) (ws : List Str) : List (Int × Int) := chain (firstsP (missR .cold n ws) n.toNat (missR .cold n ws).length) ws.length
theorem metR_len (r : Rule) (n : Int) (ws : List Str) : (metR r n ws).length = ws.length := by
  unfold metR
  rw [List.length_map, pairsR_len]
theorem TsAt.reverse {α : Type} {f : α → List V} {H : Hp} : ∀ {ts : List Addr} {xs : List α}, TsAt f H ts xs → TsAt f H ts.reverse xs.reverse
  | [], [], _ => trivial
  | t :: ts, x :: xs, ⟨a, b⟩ => by
    rw [List.reverse_cons, List.reverse_cons]
    exact TsAt.snoc a (TsAt.reverse b)
  | [], _ :: _, q => q.elim
  | _ :: _, [], q => q.elim
def iiV (p : Int × Int) : List V := [.int p.1, .int p.2]
def iiD (p : Int × Int) : List PyData := [.int p.1, .int p.2]
theorem ii_dp {K : PySem.W.Frag} {H : Hp} (p : Int × Int) : DpAll K H (iiV p) (iiD p) := .cons (.int _) (.cons (.int _) .nil)
theorem ii_self (ps : List (Int × Int)) : SeqAt.shaped (.list (ps.map fun x => PyData.tuple (iiD x))) = true ∧ PyData.eqv (.list (ps.map fun x => PyData.tuple (iiD x))) (.list (ps.map fun x => PyData.tuple (iiD x))) = true := selfD fun d hd => by
  obtain ⟨x, _, rfl⟩ := List.mem_map.mp hd
  refine ⟨rfl, by show 1 ≤ 63; decide, ?_⟩
  show ((_ == _) && ((_ == _) && true)) = true
  simp
theorem dp_ii {K : PySem.W.Frag} {H : Hp} {a : Addr} {ts : List Addr} {ps : List (Int × Int)} (h : SqL K H a (ts.map V.ref)) (hp : TsAt iiV H ts ps) : Dp K H (.ref a) (.list (ps.map fun x => PyData.tuple (iiD x))) := .lst h (hp.dp ii_dp)
section
variable {P : Program} {w : World} {K : PySem.W.Frag} {mg : Str → Option Value} {base : Heap} {tb : Addr} {C : Rule → Addr} {CG : Addr}
def spFirsts (tb : Addr) : Sp := fun vs H Q _ => ∃ (p : Nat) (a : Addr) (M : List Nat), vs = [.int (p : Int), .ref a] ∧ 1 ≤ p ∧ p ≤ 20 ∧ H a = some (.lst (natV M)) ∧ M.length ≤ 300 ∧
  ∀ (o : Addr) (H' : Hp), H o = none → H' o = some (.lst (natV (firstsP M p M.length))) → Kp tb [] H H' → Q (.ref o) H'
abbrev n_firsts : List Str := ["places", "missed", "left", "firsts"]
theorem sc_firsts : FnScope n_firsts ["places", "missed"] (defScope s__firsts) := ⟨rfl, rfl, rfl, by decide +kernel, rfl, by decide +kernel, by decide +kernel⟩
theorem ok_firsts {f : Addr} {fd : FuncData} {k0 : Nat} (F : FnP K "_firsts" "_firsts" s__firsts f fd) (hlen : mg "len" = none) : FnOk P w K mg base CX0 (k0 + 1) f fd ["places", "missed"] (spFirsts tb) := by
  refine ok0 F sc_firsts (fun vs H Q E h => ?_) (fun cdv A outer s H vs Q E hr h => ?_)
  · obtain ⟨p, a, M, rfl, _⟩ := h
    rfl
  · obtain ⟨p, a, M, rfl, p1, p20, ha, hl, q⟩ := h
    refine ⟨_, (pss_cons (ps_set (i := 2) sc_firsts.nd rfl (Or.inl rfl) (pe_op op_modN (pe_callB call_len_seq (by rfl) hlen PySem.boot_len (pa_cons (pv 1) pa_nil)) (pv 0)))
      (pss_cons (ps_set (i := 3) sc_firsts.nd rfl (Or.inl rfl) (pe_stepL (pv 1) (po_some (pv 2)) (po_some (pv 0))))
      (pss_cons (ps_if (pt_cmpR op_gt (pv 2) pe_int (nomark _))
        (pss_one (ps_ret (pe_op op_cat (pe_slice sl_list (pv 1) po_none (po_some pe_int)) (pv 3))))
        pss_nil)
      (pss_one (ps_ret (pv 3)))))), ?_⟩
    have efm : Int.fmod (((natV M).length : Nat) : Int) (p : Int) = ((M.length % p : Nat) : Int) := by
      rw [natV_len, Int.fmod_eq_emod_of_nonneg _ (by omega)]
      rfl
    refine ⟨_, rfl, a, _, rfl, .inl (SqL.of ha), _, rfl, _, _, rfl, rfl, by omega, ?_⟩
    dsimp only
    rw [efm]
    refine ⟨_, rfl, _, rfl, _, rfl, _, rfl, _, rfl, a, _, rfl, SqL.of ha, ?_, ?_, fun o ho => ?_⟩
    · intro e
      have := Option.some.inj e
      omega
    · rw [stepV_firsts p1, natV_len, List.length_map, List.length_range]
      exact Nat.le_of_lt (small_of (m := 300) (Nat.le_trans (Nat.div_le_self _ _) hl))
    rw [stepV_firsts p1]
    have hql : (M.length / p) ≤ M.length := Nat.div_le_self _ _
    have k1 : Kp tb [] H (upd H o (.lst (natV ((List.range (M.length / p)).map fun i => M.getD (M.length % p + i * p) 0)))) := Kp.new ho
    have g1 : (upd H o (.lst (natV ((List.range (M.length / p)).map fun i => M.getD (M.length % p + i * p) 0)))) o = some (.lst (natV ((List.range (M.length / p)).map fun i => M.getD (M.length % p + i * p) 0))) := upd_same
    have ha1 := k1.get ha
    generalize upd H o (.lst (natV ((List.range (M.length / p)).map fun i => M.getD (M.length % p + i * p) 0))) = H1 at k1 g1 ha1 ⊢
    refine ⟨_, rfl, _, _, rfl, rfl, _, rfl, ?_⟩
    by_cases e : M.length % p > 0
    · rw [decide_eq_true (show ((M.length % p : Nat) : Int) > 0 by omega)]
      refine iteT ⟨_, rfl, _, rfl, a, _, rfl, SqL.of ha1, fun c hc => ?_⟩
      have hM : 1 ≤ M.length := by
        rcases Nat.eq_zero_or_pos M.length with q | q
        · rw [q, Nat.zero_mod] at e; omega
        · exact q
      have ecut : cutV (natV M) none (some 1) = natV [M.getD 0 0] := by
        cases M with
        | nil => simp at hM
        | cons x r =>
          unfold cutV
          rw [sIx_pos (by decide)]
          show (List.drop 0 (natV (x :: r))).take (min 1 (natV (x :: r)).length - 0) = _
          rw [natV_len, List.drop_zero, List.length_cons, show min 1 (r.length + 1) - 0 = 1 by omega]
          rfl
      rw [ecut]
      have k2 : Kp tb [] H1 (upd H1 c (.lst (natV [M.getD 0 0]))) := Kp.new hc
      have g2 : (upd H1 c (.lst (natV [M.getD 0 0]))) c = some (.lst (natV [M.getD 0 0])) := upd_same
      have g1' := k2.get g1
      have k12 := k1.trans k2
      generalize upd H1 c (.lst (natV [M.getD 0 0])) = H2 at k2 g2 g1' k12 ⊢
      refine ⟨_, rfl, c, o, _, _, rfl, rfl, g2, g1', ?_, fun r hr2 => ?_⟩
      · rw [natV_len, natV_len, List.length_map, List.length_range]
        exact Nat.le_of_lt (small_of (m := 301) (by show 1 + _ ≤ _; omega))
      · refine q r _ (k12.free _ hr2) ?_ (k12.step hr2)
        rw [upd_same]
        unfold firstsP natV
        rw [if_pos e, List.map_append]
    · rw [decide_eq_false (show ¬ ((M.length % p : Nat) : Int) > 0 by omega)]
      refine iteF ⟨_, rfl, q o H1 ho ?_ k1⟩
      rw [g1]
      unfold firstsP
      rw [if_neg e, List.nil_append]
def spBlocks (tb : Addr) : Sp := fun vs H Q _ => ∃ (n : Int) (a : Addr) (ws : List Str), vs = [.int n, .ref a] ∧ 1 ≤ n ∧ n ≤ 20 ∧ H a = some (.lst (ws.map V.str)) ∧ ws.length ≤ 300 ∧ (∀ z ∈ ws, IsName z) ∧ GxR.TabG H tb ∧
  ∀ (o : Addr) (us : List Addr) (H' : Hp), H o = none → H' o = some (.lst (us.map V.ref)) → TsAt iiV H' us (blocksW n ws) → (∀ u ∈ us, H u = none) → Kp tb [] H H' → Q (.ref o) H'
abbrev n_blocks : List Str := ["places", "wishes", "told", "missed", "firsts", "found", "end", "first", "at", "met"]
theorem sc_blocks : FnScope n_blocks ["places", "wishes"] (defScope s_blocks) := ⟨rfl, rfl, rfl, by decide +kernel, rfl, by decide +kernel, by decide +kernel⟩
theorem ok_blocks {f : Addr} {fd : FuncData} {k0 : Nat} (F : FnP K "blocks" "blocks" s_blocks f fd) (T : ClsG K CG) (hlen : mg "len" = none) (henum : mg "enumerate" = none) (hreversed : mg "reversed" = none)
    (GG : Glob P w K mg base CX0 (k0 + 1) "going" ["rule", "places", "wishes"] (spGoing C CG (tbOf K))) (GF : Glob P w K mg base CX0 (k0 + 1) "_firsts" ["places", "missed"] (spFirsts (tbOf K))) :
    FnOk P w K mg base CX0 (k0 + 2) f fd ["places", "wishes"] (spBlocks (tbOf K)) := by
  refine ok0 F sc_blocks (fun vs H Q E h => ?_) (fun cdv A outer s H vs Q E hr h => ?_)
  · obtain ⟨n, a, ws, rfl, _⟩ := h
    rfl
  · obtain ⟨n, a, ws, rfl, n0, n1, ha, hl, hn, tab, q⟩ := h
    refine ⟨_, (pss_cons (ps_set (i := 2) sc_blocks.nd rfl (Or.inl rfl) (pe_callG GG hr (by rfl) pass0 (pa_cons pe_str (pa_cons (pv 0) (pa_cons (pv 1) pa_nil)))))
      (pss_cons (ps_setLc (i := 3) (own := [("at", 8), ("met", 9)]) (g := gTup K 2 (gCons (gName 8) (gCons (gName 9) gNil))) rfl sc_blocks.nd rfl rfl (sw_true rfl rfl rfl (by decide +kernel)) (pi_enum (by rfl) henum (pa_cons (pe_fld (pv 2) rfl) pa_nil)) (blkOk_by (N := n_blocks) (sc := defScope s_blocks) (by decide +kernel)) (fun _ _ _ _ _ => pg_tup rfl (pgs_cons (pg_name (i := 8) sc_blocks.nd rfl (Or.inl rfl)) (pgs_cons (pg_name (i := 9) sc_blocks.nd rfl (Or.inl rfl)) pgs_nil))) (fun _ _ _ _ _ => pts_one (pt_not (pt_val (pv 9)))) (fun _ _ _ _ _ => (pv 8)))
      (pss_cons (ps_set (i := 4) sc_blocks.nd rfl (Or.inl rfl) (pe_callG GF hr (by rfl) pass0 (pa_cons (pv 0) (pa_cons (pv 3) pa_nil))))
      (pss_cons (ps_set (i := 5) sc_blocks.nd rfl (Or.inl rfl) (pe_lst pa_nil))
      (pss_cons (ps_set (i := 6) sc_blocks.nd rfl (Or.inl rfl) (pe_callB call_len_seq (by rfl) hlen PySem.boot_len (pa_cons (pv 1) pa_nil)))
      (pss_cons (ps_for PassesOwn.never rfl (pi_reversed (by rfl) hreversed (pa_cons (pv 4) pa_nil)) (pg_name (i := 7) sc_blocks.nd rfl (Or.inl rfl))
        (pss_cons (ps_expr (pe_bm PySem.F.plainAttrs_list PySem.F.slot_list_append PySem.F.type_list_append mt_append (pv 5) (pa_cons (pe_tup (pa_cons (pv 7) (pa_cons (pe_op op_sub (pv 6) pe_int) pa_nil))) pa_nil)))
        (pss_one (ps_set (i := 6) sc_blocks.nd rfl (Or.inl rfl) (pv 7)))))
      (pss_one (ps_ret (pe_revL (pv 5)))))))))), ?_⟩
    refine ⟨_, rfl, _, rfl, .cold, n, a, ws, rfl, n0, n1, ha, hl, hn, tab, fun g wm we H1 fg fwm fwe go k1 => ?_⟩
    obtain ⟨dx, hg⟩ := go.ob
    have em : metV (pairsR .cold n st0 ws) = (metR .cold n ws).map V.bl := by unfold metV metR; rw [List.map_map]; rfl
    have hwm := go.ha
    rw [em] at hwm
    have hbl := metR_len .cold n ws
    have hblk : blocksW n ws = chain (firstsP (falsAt (metR .cold n ws) (metR .cold n ws).length) n.toNat (falsAt (metR .cold n ws) (metR .cold n ws).length).length) ws.length := rfl
    rw [hblk] at q
    generalize metR .cold n ws = bs at *
    refine ⟨_, rfl, g, CG, dx, _, _, rfl, hg, T.cl, T.nA, gF_met .., wm, _, rfl, SqL.of hwm, fun D hD => ?_⟩
    refine lc_it walk_enum (LcI (tbOf K) H1 D (fun i acc => acc = natV (falsAt bs i))) (LcI.start hD rfl) (fun i H' _ ⟨_, _, kp, _⟩ => SqL.of (kp.get hwm)) ?_ ?_
    · rintro i x H3 H4 hi ⟨acc, rfl, kp, hD3⟩ ⟨Tp, x1, x2, rfl, nT, rfl, e1, e2⟩
      cases e1
      rw [List.length_map] at hi
      obtain ⟨b, hb, rfl⟩ := get_mapF (f := V.bl) e2
      have kT : Kp (tbOf K) [] H3 (upd H3 Tp (.tup [.int (i : Nat), .bl b])) := Kp.new nT
      refine ⟨Tp, _, rfl, SqT.of upd_same, rfl, _, _, rfl, _, _, rfl, rfl, rfl, _, rfl, _, rfl, ?_⟩
      have hD4 := kT.get hD3
      have kp4 := kp.trans kT
      generalize upd H3 Tp (.tup [.int (i : Nat), .bl b]) = H4 at kT hD4 kp4 ⊢
      cases b with
      | true =>
        refine iteF ⟨_, ?_, kp4, hD4⟩
        dsimp only
        rw [falsAt_succ hb, if_pos rfl]
      | false =>
        refine iteT ⟨_, rfl, LcI.next hD kp4 hD4 (Kp.refl _) ?_ ?_⟩
        · rw [natV_len]
          exact small_of (m := 300) (Nat.le_trans (falsAt_len bs i) (by omega))
        · rw [falsAt_succ hb, if_neg (by decide), natV_snoc]
    rintro H2 ⟨acc, rfl, k2, hD2⟩
    rw [List.length_map] at hD2
    have hML : (falsAt bs bs.length).length ≤ 300 := Nat.le_trans (falsAt_len bs _) (by omega)
    generalize falsAt bs bs.length = M at *
    obtain ⟨p, rfl⟩ : ∃ p : Nat, n = (p : Int) := ⟨n.toNat, by omega⟩
    rw [show ((p : Int)).toNat = p by omega] at q
    refine ⟨_, rfl, _, rfl, p, D, M, rfl, by omega, by omega, hD2, hML, fun fo H3 ffo hfo k3 => ?_⟩
    have hFl : (firstsP M p M.length).length ≤ 300 := Nat.le_trans (firstsP_len (by omega)) hML
    generalize firstsP M p M.length = Fs at *
    have k13 := k1.trans (k2.trans k3)
    refine ⟨Nat.zero_le _, fun fa hfa => ?_⟩
    have k4 : Kp (tbOf K) [] H3 (upd H3 fa (.lst [])) := Kp.new hfa
    have g4 : (upd H3 fa (.lst [])) fa = some (.lst []) := upd_same
    have hfo4 := k4.get hfo
    have k14 := k13.trans k4
    have ffa : H fa = none := k13.free _ hfa
    generalize upd H3 fa (.lst []) = H4 at k4 g4 hfo4 k14 ⊢
    refine ⟨_, rfl, a, _, rfl, .inl (SqL.of (k14.get ha)), ?_⟩
    rw [List.length_map]
    refine ⟨_, rfl, fo, _, rfl, SqL.of hfo4, ?_⟩
    refine for_it walk_rev (fun i σ H' => ∃ (us : List Addr) (v7 : Option V), σ = [some (.int (p : Int)), some (.ref a), some (.ref g), some (.ref D), some (.ref fo), some (.ref fa), some (.int (((Fs.drop (Fs.length - i)).headD ws.length : Nat) : Int)), v7, none, none] ∧
      H' fa = some (.lst (us.map V.ref)) ∧ TsAt iiV H' us (chain (Fs.drop (Fs.length - i)) ws.length).reverse ∧ (∀ u ∈ us, H u = none) ∧ Kp (tbOf K) [] H H' ∧ H' fo = some (.lst (natV Fs)))
      ⟨[], none, by rw [Nat.sub_zero, List.drop_length]; rfl, g4, by rw [Nat.sub_zero, List.drop_length]; trivial, fun _ h => absurd h (by simp), k14, hfo4⟩ (fun i σ H' _ h => by obtain ⟨_, _, _, _, _, _, _, hf⟩ := h; exact SqL.of hf) ?_ ?_
    · rintro i x σ H5 H6 hi ⟨us, v7, rfl, hf5, hu5, hus, kp, hfo5⟩ ⟨rfl, hx⟩
      rw [natV_len] at hi
      rw [natV_len] at hx
      obtain ⟨y, hy, rfl⟩ := get_mapF (f := fun n : Nat => V.int (n : Nat)) hx
      have hlt : Fs.length - 1 - i < Fs.length := by omega
      have ed : Fs.drop (Fs.length - (i + 1)) = y :: Fs.drop (Fs.length - i) := by
        rw [show Fs.length - (i + 1) = Fs.length - 1 - i by omega, List.drop_eq_getElem_cons hlt, (List.getElem?_eq_some_iff.mp hy).2, show Fs.length - 1 - i + 1 = Fs.length - i by omega]
      have hul := hu5.len
      rw [List.length_reverse, chain_len, List.length_drop] at hul
      refine ⟨_, rfl, .inl ⟨rfl, _, SqL.of hf5⟩, _, rfl, _, rfl, _, _, rfl, rfl, by show 2 ≤ sizeLine; decide, fun t ht => ?_⟩
      have kt : Kp (tbOf K) [] H6 (upd H6 t (.tup [.int (y : Nat), .int ((((Fs.drop (Fs.length - i)).headD ws.length : Nat) : Int) - 1)])) := Kp.new ht
      have hf6 := kt.get hf5
      have kf : Kp (tbOf K) [fa] (upd H6 t (.tup [.int (y : Nat), .int ((((Fs.drop (Fs.length - i)).headD ws.length : Nat) : Int) - 1)])) (upd (upd H6 t (.tup [.int (y : Nat), .int ((((Fs.drop (Fs.length - i)).headD ws.length : Nat) : Int) - 1)])) fa (.lst (us.map V.ref ++ [.ref t]))) := Kp.put hf6
      have ntf : t ≠ fa := (ne_of_none hf5 ht).symm
      have nff : fo ≠ fa := fun e => by
        rw [e] at hfo
        rw [hfo] at hfa
        cases hfa
      refine ⟨fa, _, _, rfl, rfl, hf6, by rw [List.length_map]; exact small_of (m := 300) (by omega), _, rfl, us ++ [t], some (.int (y : Nat)), ?_, by rw [upd_same, List.map_append]; rfl, ?_, ?_, (kp.trans kt).transN kf (fun y hy => by rw [List.mem_singleton.mp hy]; exact ffa), ?_⟩
      · rw [ed]
        rfl
      · rw [ed]
        show TsAt iiV _ _ (List.reverse (_ :: _))
        rw [List.reverse_cons]
        exact TsAt.snoc (by rw [upd_ne ntf]; exact upd_same) ((hu5.kp kt noTup_nil).kp kf (noTup_nil.cons hf6 (fun _ z => by cases z)))
      · intro y hy
        rcases List.mem_append.mp hy with h | h
        · exact hus y h
        · rw [List.mem_singleton.mp h]; exact kp.free _ ht
      · rw [upd_ne nff]
        exact kt.get hfo5
    · rintro σ H5 ⟨us, v7, rfl, hf5, hu5, hus, kp, hfo5⟩
      rw [natV_len, Nat.sub_self, List.drop_zero] at hu5
      refine ⟨_, rfl, fa, _, rfl, SqL.of hf5, fun o ho => ?_⟩
      rw [← List.map_reverse]
      have ko : Kp (tbOf K) [] H5 (upd H5 o (.lst (us.reverse.map V.ref))) := Kp.new ho
      refine q o us.reverse _ (kp.free _ ho) upd_same ?_ (fun u hu => hus u (List.mem_reverse.mp hu)) (kp.trans ko)
      have := (hu5.kp ko noTup_nil).reverse
      rw [List.reverse_reverse] at this
      exact this
end
end Kf

namespace Kf
open PySem PySem.Spec PyProof.Rows L2
/-! ### any way: what stands on the shelf ahead of each wish, and which wishes are met -/
structure Way (ws : List Str) (m : Nat) (R : Nat → List Str) (bs : List Bool) : Prop where
  len : bs.length = ws.length
  le : ∀ i, i ≤ ws.length → (R i).length ≤ m
  nd : ∀ i, i ≤ ws.length → (R i).Nodup
  met : ∀ i z, ws[i]? = some z → bs[i]? = some (decide (z ∈ R i))
  come : ∀ i z, ws[i]? = some z → z ∈ R (i + 1)
  old : ∀ i z, ws[i]? = some z → ∀ y ∈ R (i + 1), y ∈ R i ∨ y = z
theorem cnt_split (bs : List Bool) (a b : Nat) (h : a ≤ b) : (bs.take b).count false = (bs.take a).count false + ((bs.drop a).take (b - a)).count false := by
  have e : bs.take b = bs.take a ++ (bs.drop a).take (b - a) := by
    have h1 := List.take_append_drop a (bs.take b)
    rw [List.take_take, Nat.min_eq_left h, List.drop_take] at h1
    exact h1.symm
  rw [e, List.count_append]
theorem filter_mono_len {xs : List Str} {p q : Str → Bool} (h : ∀ x ∈ xs, p x = true → q x = true) : (xs.filter p).length ≤ (xs.filter q).length := by
  rw [← List.countP_eq_length_filter, ← List.countP_eq_length_filter]
  exact List.countP_mono_left h
/-- what isn't there and is wished in k wishes from a on is missed -/
theorem Way.seg {ws : List Str} {m : Nat} {R : Nat → List Str} {bs : List Bool} (W : Way ws m R bs) : ∀ (k a : Nat) (T : List Str), a + k ≤ ws.length → T.Nodup → (∀ y ∈ T, ∃ i, a ≤ i ∧ i < a + k ∧ ws[i]? = some y) →
    (T.filter fun y => decide (y ∉ R a)).length ≤ ((bs.drop a).take k).count false
  | 0, a, T, _, _, h => by
    cases T with
    | nil => exact Nat.zero_le _
    | cons y r =>
      obtain ⟨i, h1, h2, _⟩ := h y List.mem_cons_self
      omega
  | k + 1, a, T, hl, nd, h => by
    have ha : a < ws.length := by omega
    have hz : ws[a]? = some ws[a] := List.getElem?_eq_getElem ha
    generalize ws[a] = z at hz
    have hb := W.met a z hz
    have hab : a < bs.length := by rw [W.len]; exact ha
    have ed : bs.drop a = decide (z ∈ R a) :: bs.drop (a + 1) := by
      rw [List.drop_eq_getElem_cons hab]
      exact congrArg (· :: _) (List.getElem?_eq_some_iff.mp hb).2
    rw [ed, List.take_succ_cons, List.count_cons]
    have ih := W.seg k (a + 1) (T.erase z) (by omega) (nd.erase z) (fun y hy => by
      have hyT := List.mem_of_mem_erase hy
      obtain ⟨i, h1, h2, h3⟩ := h y hyT
      refine ⟨i, ?_, by omega, h3⟩
      rcases Nat.eq_or_lt_of_le h1 with e | e
      · subst e
        rw [hz] at h3
        rw [← Option.some.inj h3] at hy
        exact absurd rfl ((List.Nodup.mem_erase_iff nd).mp hy).1
      · exact e)
    have h1 : ((T.erase z).filter fun y => decide (y ∉ R a)).length ≤ ((T.erase z).filter fun y => decide (y ∉ R (a + 1))).length := filter_mono_len fun y hy hq => by
      have hne := ((List.Nodup.mem_erase_iff nd).mp hy).1
      refine decide_eq_true fun hin => ?_
      rcases W.old a z hz y hin with q | q
      · exact of_decide_eq_true hq q
      · exact hne q
    have h2 : (T.filter fun y => decide (y ∉ R a)).length ≤ ((T.erase z).filter fun y => decide (y ∉ R a)).length + (if (decide (z ∈ R a) == false) = true then 1 else 0) := by
      by_cases hzT : z ∈ T
      · have p := (List.perm_cons_erase hzT).filter fun y => decide (y ∉ R a)
        rw [p.length_eq]
        by_cases e : z ∈ R a
        · rw [List.filter_cons_of_neg (by simpa using e)]
          exact Nat.le_add_right _ _
        · rw [List.filter_cons_of_pos (by simpa using e), decide_eq_false e]
          exact Nat.le_refl _
      · rw [List.erase_of_not_mem hzT]
        exact Nat.le_add_right _ _
    omega
/-- what is there beside p takes the other places -/
theorem beside {T row : List Str} {p : Str} (nT : T.Nodup) (hp : p ∈ row) (hpT : p ∉ T) : T.length + 1 ≤ (T.filter fun y => decide (y ∉ row)).length + row.length := by
  have h1 : T.length = (T.filter fun y => decide (y ∈ row)).length + (T.filter fun y => decide (y ∉ row)).length := by
    have := List.length_eq_countP_add_countP (fun y => decide (y ∈ row)) (l := T)
    rw [List.countP_eq_length_filter, List.countP_eq_length_filter] at this
    rw [this]
    refine congrArg _ (congrArg List.length (List.filter_congr fun y _ => ?_))
    by_cases e : y ∈ row <;> simp [e]
  have h2 : (p :: T.filter fun y => decide (y ∈ row)).length ≤ row.length := by
    refine subset_len (List.nodup_cons.mpr ⟨fun q => hpT (List.mem_filter.mp q).1, nT.filter _⟩) fun y hy => ?_
    rcases List.mem_cons.mp hy with e | e
    · rw [e]; exact hp
    · exact of_decide_eq_true (List.mem_filter.mp e).2
  rw [List.length_cons] at h2
  omega
/-- behind a wish of p: of unlike other things, all but as many as the other places are missed -/
theorem Way.behind {ws : List Str} {m : Nat} {R : Nat → List Str} {bs : List Bool} (W : Way ws m R bs) {a k : Nat} {p : Str} {T : List Str} (hp : ws[a]? = some p) (hl : a + 1 + k ≤ ws.length) (nT : T.Nodup) (hpT : p ∉ T)
    (h : ∀ y ∈ T, ∃ i, a + 1 ≤ i ∧ i < a + 1 + k ∧ ws[i]? = some y) : T.length + 1 ≤ ((bs.drop (a + 1)).take k).count false + m := by
  have h1 := W.seg k (a + 1) T hl nT h
  have h2 := beside nT (W.come a p hp) hpT
  have h3 := W.le (a + 1) (by omega)
  omega
/-! ### the best way is a way -/
def metB (ws : List Str) (n : Int) : List Bool := (pairsB ws n 0 [] ws).map (·.1)
theorem pairsB_get {ws : List Str} {n : Int} : ∀ {zs : List Str} {k : Nat} {row : List Str} {i : Nat} {z : Str}, zs[i]? = some z → (pairsB ws n k row zs)[i]? = some ((stepB ws n (k + i) (endB ws n k row (zs.take i)) z).1, (stepB ws n (k + i) (endB ws n k row (zs.take i)) z).2.1)
  | [], _, _, _, _, h => by simp at h
  | y :: ys, k, row, 0, z, h => by
    rw [← Option.some.inj (show some y = some z from h)]
    rfl
  | y :: ys, k, row, i + 1, z, h => by
    have ih := pairsB_get (ws := ws) (n := n) (zs := ys) (k := k + 1) (row := (stepB ws n k row y).2.2) (i := i) h
    rw [show k + 1 + i = k + (i + 1) by omega] at ih
    exact ih
theorem stepB_met (ws : List Str) (n : Int) (k : Nat) (row : List Str) (z : Str) : (stepB ws n k row z).1 = decide (z ∈ row) := by
  unfold stepB
  by_cases h : z ∈ row
  · rw [if_pos h, decide_eq_true h]
  · rw [if_neg h, decide_eq_false h]
    split <;> rfl
theorem stepB_row (ws : List Str) (n : Int) (k : Nat) (row : List Str) (z : Str) : z ∈ (stepB ws n k row z).2.2 ∧ ∀ y ∈ (stepB ws n k row z).2.2, y ∈ row ∨ y = z := by
  unfold stepB
  by_cases h : z ∈ row
  · rw [if_pos h]
    exact ⟨h, fun y hy => .inl hy⟩
  · rw [if_neg h]
    by_cases h2 : (row.length : Int) = n
    · rw [if_pos h2]
      refine ⟨List.mem_append_right _ List.mem_cons_self, fun y hy => ?_⟩
      rcases List.mem_append.mp hy with q | q
      · exact .inl (List.mem_of_mem_erase q)
      · exact .inr (List.mem_singleton.mp q)
    · rw [if_neg h2]
      refine ⟨List.mem_append_right _ List.mem_cons_self, fun y hy => ?_⟩
      rcases List.mem_append.mp hy with q | q
      · exact .inl q
      · exact .inr (List.mem_singleton.mp q)
theorem way_best {ws : List Str} {m : Nat} (m1 : 1 ≤ m) (hn : ∀ z ∈ ws, IsName z) : Way ws m (fun i => endB ws (m : Int) 0 [] (ws.take i)) (metB ws (m : Int)) := by
  have ok : ∀ i, OkB (m : Int) (endB ws (m : Int) 0 [] (ws.take i)) := fun i => endB_ok (by omega) ⟨by simp, List.nodup_nil, fun _ h => absurd h (by simp)⟩ fun z hz => hn z (List.mem_of_mem_take hz)
  have st : ∀ i z, ws[i]? = some z → endB ws (m : Int) 0 [] (ws.take (i + 1)) = (stepB ws (m : Int) i (endB ws (m : Int) 0 [] (ws.take i)) z).2.2 := fun i z hz => by
    have hi := (List.getElem?_eq_some_iff.mp hz).1
    have etake : ws.take (i + 1) = ws.take i ++ [z] := by rw [List.take_add_one, hz]; rfl
    have elen : 0 + (ws.take i).length = i := by rw [List.length_take]; omega
    rw [etake, endB_snoc, elen]
  refine ⟨?_, fun i _ => ?_, fun i _ => (ok i).nd, fun i z hz => ?_, fun i z hz => ?_, fun i z hz => ?_⟩
  · unfold metB
    rw [List.length_map, pairsB_len]
  · have := (ok i).le
    omega
  · unfold metB
    rw [List.getElem?_map, pairsB_get hz, Nat.zero_add, stepB_met]
    rfl
  · rw [st i z hz]
    exact (stepB_row _ _ _ _ _).1
  · rw [st i z hz]
    exact (stepB_row _ _ _ _ _).2
end Kf

namespace Kf
open PySem PySem.Spec PyProof.Rows L2
/-! ### no way misses fewer than the best one -/
/-- h is the first by letters of those of the greatest g -/
structure Pk (g : Str → Int) (row : List Str) (h : Str) : Prop where
  mem : h ∈ row
  best : ∀ u ∈ row, g u < g h ∨ (g u = g h ∧ leB h u = true)
theorem Pk.le {g : Str → Int} {row : List Str} {h u : Str} (p : Pk g row h) (hu : u ∈ row) : g u ≤ g h := by
  rcases p.best u hu with q | q <;> omega
theorem Pk.uniq {g : Str → Int} {row : List Str} {h h' : Str} (p : Pk g row h) (p' : Pk g row h') : h = h' := by
  rcases p.best h' p'.mem with q | q
  · have := p'.le p.mem
    omega
  · rcases p'.best h p.mem with r | r
    · omega
    · exact leB_antisymm q.2 r.2
theorem Pk.sub {g : Str → Int} {row row' : List Str} {h : Str} (p : Pk g row h) (s : ∀ u ∈ row', u ∈ row) (m : h ∈ row') : Pk g row' h := ⟨m, fun u hu => p.best u (s u hu)⟩
theorem max_of {g : Str → Int} : ∀ {row : List Str}, row ≠ [] → ∃ m ∈ row.map g, ∀ j ∈ row.map g, j ≤ m
  | [], h => absurd rfl h
  | [y], _ => ⟨g y, List.mem_cons_self, fun j hj => by rw [List.mem_singleton.mp hj]; exact Int.le_refl _⟩
  | y :: x :: r, _ => by
    obtain ⟨m, hm, hx⟩ := max_of (g := g) (row := x :: r) (by simp)
    by_cases q : g y ≤ m
    · exact ⟨m, List.mem_cons_of_mem _ hm, fun j hj => (List.mem_cons.mp hj).elim (fun z => by rw [z]; exact q) (hx j)⟩
    · exact ⟨g y, List.mem_cons_self, fun j hj => (List.mem_cons.mp hj).elim (fun z => by rw [z]; exact Int.le_refl _) (fun z => by have := hx j z; omega)⟩
theorem lastOf_some {g : Str → Int} {row : List Str} (hne : row ≠ []) : lastOf g row ≠ [] := by
  obtain ⟨m, hm, hx⟩ := max_of (g := g) hne
  exact lastOf_ne hm hx
theorem pickB_pk {g : Str → Int} {row : List Str} (hne : row ≠ []) : Pk g row (pickB g row) := by
  obtain ⟨h1, h2⟩ := minS_spec (lastOf_some (g := g) hne)
  unfold lastOf at h1
  obtain ⟨hm, hx⟩ := List.mem_filter.mp h1
  have hx := of_decide_eq_true hx
  refine ⟨hm, fun u hu => ?_⟩
  have hle := hx u hu
  by_cases q : g u < g (pickB g row)
  · exact .inl q
  · have q := Int.not_lt.mp q
    refine .inr ⟨Int.le_antisymm hle q, h2 u ?_⟩
    unfold lastOf
    refine List.mem_filter.mpr ⟨hu, decide_eq_true fun x hxr => ?_⟩
    exact Int.le_trans (hx x hxr) q
def costB (ws : List Str) (n : Nat) : Nat → List Str → List Str → Nat
  | _, _, [] => 0
  | k, row, z :: zs => (if z ∈ row then 0 else 1) + costB ws n (k + 1) (stepB ws (n : Int) k row z).2.2 zs
theorem pickB_perm {g : Str → Int} {row row' : List Str} (p : row.Perm row') (hne : row ≠ []) : pickB g row = pickB g row' := by
  have hne' : row' ≠ [] := fun e => hne (by rw [e] at p; exact p.eq_nil)
  refine (pickB_pk hne).uniq ((pickB_pk hne').sub (fun u hu => p.mem_iff.mp hu) ?_)
  exact p.mem_iff.mpr (pickB_pk hne').mem
theorem stepB_perm {ws : List Str} {n : Int} {k : Nat} {row row' : List Str} {z : Str} (p : row.Perm row') : (stepB ws n k row z).2.2.Perm (stepB ws n k row' z).2.2 := by
  unfold stepB
  by_cases h : z ∈ row
  · rw [if_pos h, if_pos (p.mem_iff.mp h)]
    exact p
  · rw [if_neg h, if_neg (fun q => h (p.mem_iff.mpr q)), p.length_eq]
    by_cases h2 : (row'.length : Int) = n
    · rw [if_pos h2, if_pos h2]
      by_cases hne : row = []
      · subst hne
        rw [List.nil_perm.mp p]
      · rw [pickB_perm p hne]
        exact (p.erase _).append_right _
    · rw [if_neg h2, if_neg h2]
      exact p.append_right _
theorem costB_perm {ws : List Str} {n : Nat} : ∀ {zs : List Str} {k : Nat} {row row' : List Str}, row.Perm row' → costB ws n k row zs = costB ws n k row' zs
  | [], _, _, _, _ => rfl
  | z :: zs, k, row, row', p => by
    show (if z ∈ row then 0 else 1) + _ = (if z ∈ row' then 0 else 1) + _
    rw [costB_perm (stepB_perm p)]
    by_cases h : z ∈ row
    · rw [if_pos h, if_pos (p.mem_iff.mp h)]
    · rw [if_neg h, if_neg (fun q => h (p.mem_iff.mpr q))]
theorem costB_in {ws : List Str} {n k : Nat} {row zs : List Str} {z : Str} (h : z ∈ row) : costB ws n k row (z :: zs) = costB ws n (k + 1) row zs := by
  show (if z ∈ row then 0 else 1) + _ = _
  unfold stepB
  rw [if_pos h, if_pos h, Nat.zero_add]
theorem costB_out {ws : List Str} {n k : Nat} {row zs : List Str} {z h : Str} (hz : z ∉ row) (hn : row.length = n) (p : Pk (firstI ws (k + 1)) row h) : costB ws n k row (z :: zs) = 1 + costB ws n (k + 1) (z :: row.erase h) zs := by
  show (if z ∈ row then 0 else 1) + _ = _
  unfold stepB
  have hne : row ≠ [] := fun e => by have := p.mem; rw [e] at this; cases this
  rw [if_neg hz, if_neg hz, if_pos (by rw [hn]), ← p.uniq (pickB_pk hne)]
  exact congrArg (1 + ·) (costB_perm (List.perm_append_singleton _ _))
theorem costB_free {ws : List Str} {n k : Nat} {row zs : List Str} {z : Str} (hz : z ∉ row) (hn : row.length ≠ n) : costB ws n k row (z :: zs) = 1 + costB ws n (k + 1) (z :: row) zs := by
  show (if z ∈ row then 0 else 1) + _ = _
  unfold stepB
  rw [if_neg hz, if_neg hz, if_neg (by omega)]
  exact congrArg (1 + ·) (costB_perm (List.perm_append_singleton _ _))
theorem firstI_ge (ws : List Str) (k : Nat) (y : Str) : (k : Int) ≤ firstI ws k y := by
  unfold firstI
  omega
theorem firstI_here {ws : List Str} {k : Nat} {z : Str} (h : ws[k]? = some z) : firstI ws k z = k := by
  have hl : k < ws.length := (List.getElem?_eq_some_iff.mp h).1
  have hd : ws.drop k = z :: ws.drop (k + 1) := by
    rw [List.drop_eq_getElem_cons hl]
    exact congrArg (· :: _) (List.getElem?_eq_some_iff.mp h).2
  unfold firstI
  rw [hd, List.idxOf_cons_self]
  rfl
theorem pk_some {g : Str → Int} {x : Str} {C : List Str} : ∃ h, Pk g (x :: C) h := ⟨_, pickB_pk (by simp)⟩
theorem erase_in {x c : Str} {C : List Str} (nd : (x :: C).Nodup) (h : c ∈ C) : (x :: C).erase c = x :: C.erase c ∧ C.Perm (c :: C.erase c) ∧ c ≠ x := by
  have hne : c ≠ x := fun e => (List.nodup_cons.mp nd).1 (by rw [← e]; exact h)
  refine ⟨?_, List.perm_cons_erase h, hne⟩
  rw [List.erase_cons_tail]
  simpa using hne.symm
theorem exch {ws : List Str} {n : Nat} : ∀ (zs : List Str) (k : Nat), ws.drop k = zs → ∀ (C : List Str) (x y : Str), (x :: C).Nodup → (y :: C).Nodup → C.length + 1 = n → x ≠ y →
    (firstI ws k x ≤ firstI ws k y → costB ws n k (x :: C) zs ≤ costB ws n k (y :: C) zs) ∧ costB ws n k (x :: C) zs ≤ costB ws n k (y :: C) zs + 1
  | [], k, _, C, x, y, _, _, _, _ => ⟨fun _ => Nat.le_refl _, Nat.zero_le _⟩
  | z :: zs, k, hd, C, x, y, nx, ny, hn, hxy => by
    have hl : k < ws.length := by
      refine Nat.lt_of_not_le fun q => ?_
      rw [List.drop_eq_nil_of_le q] at hd
      cases hd
    have hd2 := List.drop_eq_getElem_cons hl
    rw [hd] at hd2
    have ez : ws[k] = z := (List.cons.inj hd2).1.symm
    have hz : ws[k]? = some z := by rw [List.getElem?_eq_getElem hl, ez]
    have hd' : ws.drop (k + 1) = zs := (List.cons.inj hd2).2.symm
    have IH := exch (n := n) zs (k + 1) hd'
    have hxC := (List.nodup_cons.mp nx).1
    have hyC := (List.nodup_cons.mp ny).1
    have nC := (List.nodup_cons.mp nx).2
    have st : ∀ u, u ≠ z → firstI ws k u = firstI ws (k + 1) u := fun u hu => firstI_step hz hu
    generalize hG : firstI ws (k + 1) = G at *
    -- a pair that stays unlike in one
    have two : ∀ (c u v : Str), c ∈ C → u ∉ C → v ∉ C → u ≠ v → (v :: u :: C.erase c).Nodup ∧ (u :: v :: C.erase c).Nodup ∧ (c :: u :: C.erase c).Nodup ∧ (c :: v :: C.erase c).Nodup ∧ (C.erase c).length + 2 = n := fun c u v hc hu hv huv => by
      have hu' : u ∉ C.erase c := fun q => hu (List.mem_of_mem_erase q)
      have hv' : v ∉ C.erase c := fun q => hv (List.mem_of_mem_erase q)
      have hcc : c ∉ C.erase c := fun q => absurd rfl ((List.Nodup.mem_erase_iff nC).mp q).1
      have hcu : c ≠ u := fun e => hu (by rw [← e]; exact hc)
      have hcv : c ≠ v := fun e => hv (by rw [← e]; exact hc)
      have ne := nC.erase c
      have hlen : (C.erase c).length + 2 = n := by
        rw [List.length_erase_of_mem hc]
        have := List.length_pos_of_mem hc
        omega
      refine ⟨?_, ?_, ?_, ?_, hlen⟩ <;> simp [hu', hv', hcc, hcu, hcv, ne, huv, huv.symm]
    by_cases c1 : z ∈ C
    · have hzx : x ≠ z := fun e => hxC (by rw [e]; exact c1)
      have hzy : y ≠ z := fun e => hyC (by rw [e]; exact c1)
      rw [costB_in (List.mem_cons_of_mem _ c1), costB_in (List.mem_cons_of_mem _ c1), st x hzx, st y hzy]
      exact IH C x y nx ny hn hxy
    · by_cases c2 : x = z
      · subst c2
        have hout : x ∉ y :: C := fun q => (List.mem_cons.mp q).elim hxy hxC
        obtain ⟨h, hp⟩ := pk_some (g := G) (x := y) (C := C)
        rw [costB_in List.mem_cons_self, costB_out hout (by rw [List.length_cons]; exact hn) (by rw [hG]; exact hp)]
        have main : costB ws n (k + 1) (x :: C) zs ≤ 1 + costB ws n (k + 1) (x :: (y :: C).erase h) zs := by
          by_cases e : h = y
          · rw [e, List.erase_cons_head]
            omega
          · have hc : h ∈ C := (List.mem_cons.mp hp.mem).elim (fun q => absurd q e) id
            obtain ⟨e1, e2, e3⟩ := erase_in ny hc
            obtain ⟨t1, t2, t3, t4, t5⟩ := two h x y hc hxC hyC hxy
            have I := (IH (x :: C.erase h) h y t3 t1 (by rw [List.length_cons]; omega) e3).2
            rw [e1, costB_perm ((e2.cons x).trans (List.Perm.swap _ _ _)), costB_perm (List.Perm.swap y x (C.erase h))]
            omega
        exact ⟨fun _ => main, by omega⟩
      · by_cases c3 : y = z
        · subst c3
          have hout : y ∉ x :: C := fun q => (List.mem_cons.mp q).elim hxy.symm hyC
          obtain ⟨h, hp⟩ := pk_some (g := G) (x := x) (C := C)
          rw [costB_in (row := y :: C) List.mem_cons_self, costB_out hout (by rw [List.length_cons]; exact hn) (by rw [hG]; exact hp)]
          refine ⟨fun q => ?_, ?_⟩
          · exfalso
            rw [firstI_here hz, st x hxy] at q
            have := firstI_ge ws (k + 1) x
            rw [hG] at this
            omega
          · by_cases e : h = x
            · rw [e, List.erase_cons_head]
              omega
            · have hc : h ∈ C := (List.mem_cons.mp hp.mem).elim (fun q => absurd q e) id
              obtain ⟨e1, e2, e3⟩ := erase_in nx hc
              obtain ⟨t1, t2, t3, t4, t5⟩ := two h x y hc hxC hyC hxy
              have I := (IH (y :: C.erase h) x h t2 t4 (by rw [List.length_cons]; omega) e3.symm).1 (hp.le List.mem_cons_self)
              rw [e1, costB_perm (List.Perm.swap x y (C.erase h)), costB_perm (row := y :: C) ((e2.cons y).trans (List.Perm.swap _ _ _))]
              omega
        · have ox : z ∉ x :: C := fun q => (List.mem_cons.mp q).elim (fun e => c2 e.symm) c1
          have oy : z ∉ y :: C := fun q => (List.mem_cons.mp q).elim (fun e => c3 e.symm) c1
          obtain ⟨a, hA⟩ := pk_some (g := G) (x := x) (C := C)
          obtain ⟨b, hB⟩ := pk_some (g := G) (x := y) (C := C)
          rw [costB_out ox (by rw [List.length_cons]; exact hn) (by rw [hG]; exact hA), costB_out oy (by rw [List.length_cons]; exact hn) (by rw [hG]; exact hB), st x c2, st y c3]
          by_cases ea : a = x
          · by_cases eb : b = y
            · rw [ea, eb, List.erase_cons_head, List.erase_cons_head]
              exact ⟨fun _ => Nat.le_refl _, by omega⟩
            · have hc : b ∈ C := (List.mem_cons.mp hB.mem).elim (fun q => absurd q eb) id
              obtain ⟨e1, e2, e3⟩ := erase_in ny hc
              obtain ⟨t1, t2, t3, t4, t5⟩ := two b z y hc c1 hyC (fun e => c3 e.symm)
              have I := IH (z :: C.erase b) b y t3 t1 (by rw [List.length_cons]; omega) e3
              rw [ea, List.erase_cons_head, e1, costB_perm (row := z :: C) ((e2.cons z).trans (List.Perm.swap _ _ _)), costB_perm (List.Perm.swap y z (C.erase b))]
              refine ⟨fun q => ?_, by have := I.2; omega⟩
              have := I.1 (Int.le_trans (by rw [ea] at hA; exact hA.le (List.mem_cons_of_mem _ hc)) q)
              omega
          · have hca : a ∈ C := (List.mem_cons.mp hA.mem).elim (fun q => absurd q ea) id
            obtain ⟨e1, e2, e3⟩ := erase_in nx hca
            obtain ⟨t1, t2, t3, t4, t5⟩ := two a z x hca c1 hxC (fun e => c2 e.symm)
            by_cases eb : b = y
            · have I := IH (z :: C.erase a) x a t1 t3 (by rw [List.length_cons]; omega) e3.symm
              rw [eb, List.erase_cons_head, e1, costB_perm (row := z :: C) ((e2.cons z).trans (List.Perm.swap _ _ _)), costB_perm (List.Perm.swap x z (C.erase a))]
              refine ⟨fun _ => ?_, by have := I.2; omega⟩
              have := I.1 (hA.le List.mem_cons_self)
              omega
            · have hcb : b ∈ C := (List.mem_cons.mp hB.mem).elim (fun q => absurd q eb) id
              have eab : a = b := (hA.sub (fun u hu => List.mem_cons_of_mem _ hu) hca).uniq (hB.sub (fun u hu => List.mem_cons_of_mem _ hu) hcb)
              subst eab
              obtain ⟨f1, _, _⟩ := erase_in ny hcb
              obtain ⟨s1, _, _, _, _⟩ := two a z y hca c1 hyC (fun e => c3 e.symm)
              have I := IH (z :: C.erase a) x y t1 s1 (by rw [List.length_cons]; omega) hxy
              rw [e1, f1, costB_perm (List.Perm.swap x z (C.erase a)), costB_perm (List.Perm.swap y z (C.erase a))]
              refine ⟨fun q => ?_, by have := I.2; omega⟩
              have := I.1 q
              omega
/-- a step of any way -/
inductive Mv (n : Nat) (row : List Str) (z : Str) : Nat → List Str → Prop
  | met {row' : List Str} : z ∈ row → row'.Perm row → Mv n row z 0 row'
  | free {row' : List Str} : z ∉ row → row.length ≠ n → row'.Perm (z :: row) → Mv n row z 1 row'
  | full {row' : List Str} {g : Str} : z ∉ row → row.length = n → g ∈ row → row'.Perm (z :: row.erase g) → Mv n row z 1 row'
theorem mv_best {ws : List Str} {n k : Nat} {row row' zs : List Str} {z : Str} {e : Nat} (hd : ws.drop k = z :: zs) (nd : row.Nodup) (m : Mv n row z e row') : costB ws n k row (z :: zs) ≤ e + costB ws n (k + 1) row' zs := by
  have hl : k < ws.length := by
    refine Nat.lt_of_not_le fun q => ?_
    rw [List.drop_eq_nil_of_le q] at hd
    cases hd
  have hd2 := List.drop_eq_getElem_cons hl
  rw [hd] at hd2
  have hd' : ws.drop (k + 1) = zs := (List.cons.inj hd2).2.symm
  cases m with
  | met h p =>
    rw [costB_in h, costB_perm p]
    omega
  | free h hn p =>
    rw [costB_free h hn, costB_perm p]
    exact Nat.le_refl _
  | @full _ g h hn hg p =>
    have hne : row ≠ [] := fun q => by rw [q] at hg; cases hg
    have hp := pickB_pk (g := firstI ws (k + 1)) hne
    rw [costB_out h hn hp, costB_perm p]
    generalize pickB (firstI ws (k + 1)) row = b at hp
    by_cases e : g = b
    · rw [e]
      exact Nat.le_refl _
    · have pb := List.perm_cons_erase hp.mem
      have hgb : g ∈ row.erase b := (List.Nodup.mem_erase_iff nd).mpr ⟨e, hg⟩
      have pg := List.perm_cons_erase hgb
      have hbg : b ∈ row.erase g := (List.Nodup.mem_erase_iff nd).mpr ⟨fun q => e q.symm, hp.mem⟩
      have pg2 := List.perm_cons_erase hbg
      have hco : (row.erase g).erase b = (row.erase b).erase g := List.erase_comm _ _
      rw [hco] at pg2
      have nD := (nd.erase b).erase g
      generalize hD : (row.erase b).erase g = D at pg pg2 nD
      have n1 : (b :: g :: D).Nodup := by
        have := (pb.trans (pg.cons b)).nodup_iff.mp nd
        exact this
      have hz : z ∉ D := fun q => by
        rw [← hD] at q
        exact h (List.mem_of_mem_erase (List.mem_of_mem_erase q))
      have hzg : z ≠ g := fun q => h (by rw [q]; exact hg)
      have hzb : z ≠ b := fun q => h (by rw [q]; exact hp.mem)
      simp only [List.nodup_cons, List.mem_cons, not_or] at n1
      have hlen : D.length + 2 = n := by
        have := (pb.trans (pg.cons b)).length_eq
        simp only [List.length_cons] at this
        omega
      have I := (exch (n := n) zs (k + 1) hd' (z :: D) g b (by simp [n1, hz, hzg.symm, nD]) (by simp [n1, hz, hzb.symm, nD]) (by rw [List.length_cons]; omega) e).1 (hp.le hg)
      rw [costB_perm ((pg.cons z).trans (List.Perm.swap _ _ _)), costB_perm ((pg2.cons z).trans (List.Perm.swap _ _ _))]
      omega
end Kf

namespace Kf
open PySem PySem.Spec PyProof.Rows L2
/-! ### the law's search over all that can stand there -/
def waysL (n : Nat) (here : List Str) (z : Str) : List (List Str) :=
  if z ∈ here then [here]
  else if here.length = n then here.map fun g => sortS (here.filter (fun y => decide (y ≠ g)) ++ [z])
  else [sortS (here ++ [z])]
def eL (here : List Str) (z : Str) : Nat := if z ∈ here then 0 else 1
theorem filter_ne_perm {here : List Str} (nd : here.Nodup) {g : Str} : (here.filter fun y => decide (y ≠ g)) = here.erase g := by
  rw [List.Nodup.erase_eq_filter nd]
  refine List.filter_congr fun y _ => ?_
  by_cases e : y = g <;> simp [e]
theorem way_mv {n : Nat} {here way : List Str} {z : Str} (nd : here.Nodup) (hl : here.length ≤ n) (hn : 1 ≤ n) (h : way ∈ waysL n here z) : Mv n here z (eL here z) way ∧ way.Nodup ∧ way.length ≤ n ∧ ∀ y ∈ way, y ∈ here ∨ y = z := by
  unfold waysL at h
  unfold eL
  by_cases c1 : z ∈ here
  · rw [if_pos c1] at h ⊢
    rw [List.mem_singleton.mp h]
    exact ⟨.met c1 (List.Perm.refl _), nd, hl, fun y hy => .inl hy⟩
  · rw [if_neg c1] at h ⊢
    by_cases c2 : here.length = n
    · rw [if_pos c2] at h
      obtain ⟨g, hg, rfl⟩ := List.mem_map.mp h
      have hp : (sortS (here.filter (fun y => decide (y ≠ g)) ++ [z])).Perm (z :: here.erase g) := by
        rw [filter_ne_perm nd]
        exact (sortS_perm _).trans (List.perm_append_singleton _ _)
      have ndz : (z :: here.erase g).Nodup := List.nodup_cons.mpr ⟨fun q => c1 (List.mem_of_mem_erase q), nd.erase g⟩
      refine ⟨.full c1 c2 hg hp, hp.nodup_iff.mpr ndz, ?_, fun y hy => ?_⟩
      · rw [hp.length_eq, List.length_cons, List.length_erase_of_mem hg]
        have := List.length_pos_of_mem hg
        omega
      · rcases List.mem_cons.mp (hp.mem_iff.mp hy) with e | e
        · exact .inr e
        · exact .inl (List.mem_of_mem_erase e)
    · rw [if_neg c2] at h
      have hp : (sortS (here ++ [z])).Perm (z :: here) := (sortS_perm _).trans (List.perm_append_singleton _ _)
      rw [List.mem_singleton.mp h]
      refine ⟨.free c1 c2 hp, hp.nodup_iff.mpr (List.nodup_cons.mpr ⟨c1, nd⟩), ?_, fun y hy => ?_⟩
      · rw [hp.length_eq, List.length_cons]
        omega
      · rcases List.mem_cons.mp (hp.mem_iff.mp hy) with e | e
        · exact .inr e
        · exact .inl e
/-- the best way's step is one of these -/
theorem way_of_best {ws : List Str} {n k : Nat} {here row : List Str} {z : Str} (nd : here.Nodup) (hn : 1 ≤ n) (p : here.Perm row) : ∃ way ∈ waysL n here z, way.Perm (stepB ws (n : Int) k row z).2.2 := by
  have p2 := stepB_perm (ws := ws) (n := (n : Int)) (k := k) (z := z) p
  suffices h : ∃ way ∈ waysL n here z, way.Perm (stepB ws (n : Int) k here z).2.2 by
    obtain ⟨way, h1, h2⟩ := h
    exact ⟨way, h1, h2.trans p2⟩
  unfold waysL stepB
  by_cases c1 : z ∈ here
  · rw [if_pos c1, if_pos c1]
    exact ⟨here, List.mem_singleton.mpr rfl, List.Perm.refl _⟩
  · rw [if_neg c1, if_neg c1]
    by_cases c2 : here.length = n
    · rw [if_pos c2, if_pos (by rw [c2])]
      have hne : here ≠ [] := fun q => by rw [q] at c2; simp at c2; omega
      refine ⟨_, List.mem_map.mpr ⟨pickB (firstI ws (k + 1)) here, (pickB_pk hne).mem, rfl⟩, ?_⟩
      rw [filter_ne_perm nd]
      exact sortS_perm _
    · rw [if_neg c2, if_neg (by omega)]
      exact ⟨_, List.mem_singleton.mpr rfl, sortS_perm _⟩
/-! the dict -/
abbrev Few := List (List Str × Nat)
def getF (D : Few) (k : List Str) : Option Nat := (D.find? fun p => decide (p.1 = k)).map (·.2)
def putF (D : Few) (k : List Str) (c : Nat) : Few := if k ∈ D.map (·.1) then D.map fun p => if p.1 = k then (p.1, c) else p else D ++ [(k, c)]
def minF (D : Few) (k : List Str) (c : Nat) : Few := putF D k (min c ((getF D k).getD c))
def LeF (D : Few) (k : List Str) (c : Nat) : Prop := ∃ c', c' ≤ c ∧ (k, c') ∈ D
structure FewOk (ws : List Str) (n i : Nat) (D : Few) : Prop where
  nk : (D.map (·.1)).Nodup
  nd : ∀ p ∈ D, p.1.Nodup
  le : ∀ p ∈ D, p.1.length ≤ n
  nm : ∀ p ∈ D, ∀ y ∈ p.1, y ∈ ws
  low : ∀ p ∈ D, costB ws n 0 [] ws ≤ p.2 + costB ws n i p.1 (ws.drop i)
theorem getF_mem {D : Few} {k : List Str} {c : Nat} (h : getF D k = some c) : (k, c) ∈ D := by
  unfold getF at h
  obtain ⟨p, hp, rfl⟩ := Option.map_eq_some_iff.mp h
  have h1 := List.find?_some hp
  have h2 := List.mem_of_find?_eq_some hp
  rw [← of_decide_eq_true h1]
  exact h2
theorem getF_of {D : Few} {k : List Str} {c : Nat} (nk : (D.map (·.1)).Nodup) (h : (k, c) ∈ D) : getF D k = some c := by
  induction D with
  | nil => cases h
  | cons q D ih =>
    unfold getF
    rw [List.map_cons, List.nodup_cons] at nk
    rcases List.mem_cons.mp h with e | e
    · rw [← e, List.find?_cons_of_pos (by simp)]
      rfl
    · have : q.1 ≠ k := fun e2 => nk.1 (by rw [e2]; exact List.mem_map.mpr ⟨_, e, rfl⟩)
      rw [List.find?_cons_of_neg (by simpa using this)]
      exact ih nk.2 e
theorem putF_keys {D : Few} {k : List Str} {c : Nat} (nk : (D.map (·.1)).Nodup) : ((putF D k c).map (·.1)).Nodup := by
  unfold putF
  by_cases h : k ∈ D.map (·.1)
  · rw [if_pos h, List.map_map]
    have : D.map ((·.1) ∘ fun p => if p.1 = k then (p.1, c) else p) = D.map (·.1) := List.map_congr_left fun p _ => by
      show (if p.1 = k then (p.1, c) else p).1 = p.1
      split <;> rfl
    rw [this]
    exact nk
  · rw [if_neg h, List.map_append]
    exact List.nodup_append.mpr ⟨nk, by simp, fun a ha b hb e => h (by have hb' : b = k := List.mem_singleton.mp hb; rw [← hb', ← e]; exact ha)⟩
theorem putF_mem {D : Few} {k : List Str} {c : Nat} {p : List Str × Nat} (h : p ∈ putF D k c) : p = (k, c) ∨ p ∈ D := by
  unfold putF at h
  by_cases e : k ∈ D.map (·.1)
  · rw [if_pos e] at h
    obtain ⟨q, hq, rfl⟩ := List.mem_map.mp h
    by_cases e2 : q.1 = k
    · rw [if_pos e2, e2]; exact .inl rfl
    · rw [if_neg e2]; exact .inr hq
  · rw [if_neg e] at h
    rcases List.mem_append.mp h with q | q
    · exact .inr q
    · exact .inl (List.mem_singleton.mp q)
theorem putF_in {D : Few} {k : List Str} {c : Nat} : (k, c) ∈ putF D k c := by
  unfold putF
  by_cases e : k ∈ D.map (·.1)
  · rw [if_pos e]
    obtain ⟨q, hq, e2⟩ := List.mem_map.mp e
    refine List.mem_map.mpr ⟨q, hq, ?_⟩
    rw [if_pos e2, e2]
  · rw [if_neg e]
    exact List.mem_append_right _ (List.mem_singleton.mpr rfl)
theorem putF_old {D : Few} {k : List Str} {c : Nat} {p : List Str × Nat} (h : p ∈ D) (hne : p.1 ≠ k) : p ∈ putF D k c := by
  unfold putF
  by_cases e : k ∈ D.map (·.1)
  · rw [if_pos e]
    exact List.mem_map.mpr ⟨p, h, by rw [if_neg hne]⟩
  · rw [if_neg e]
    exact List.mem_append_left _ h
theorem minF_new {D : Few} {k : List Str} {c : Nat} : LeF (minF D k c) k c := ⟨_, Nat.min_le_left _ _, putF_in⟩
theorem minF_old {D : Few} {k k' : List Str} {c c' : Nat} (nk : (D.map (·.1)).Nodup) (h : LeF D k' c') : LeF (minF D k c) k' c' := by
  obtain ⟨d, hd, hm⟩ := h
  by_cases e : k' = k
  · subst e
    refine ⟨_, ?_, putF_in⟩
    rw [getF_of nk hm]
    exact Nat.le_trans (Nat.min_le_right _ _) hd
  · exact ⟨d, hd, putF_old hm e⟩
theorem minF_mem {D : Few} {k : List Str} {c : Nat} {p : List Str × Nat} (h : p ∈ minF D k c) : p = (k, c) ∨ p ∈ D := by
  rcases putF_mem h with e | e
  · rw [e]
    cases hg : getF D k with
    | none => exact .inl (by rw [Option.getD_none, Nat.min_self])
    | some d =>
      rw [Option.getD_some]
      rcases Nat.le_total c d with q | q
      · exact .inl (by rw [Nat.min_eq_left q])
      · rw [Nat.min_eq_right q]
        exact .inr (getF_mem hg)
  · exact .inr e
/-- one way more -/
theorem FewOk.add {ws : List Str} {n i : Nat} {F : Few} (h : FewOk ws n i F) {k : List Str} {c : Nat} (h1 : k.Nodup) (h2 : k.length ≤ n) (h3 : ∀ y ∈ k, y ∈ ws) (h4 : costB ws n 0 [] ws ≤ c + costB ws n i k (ws.drop i)) : FewOk ws n i (minF F k c) := by
  refine ⟨putF_keys h.nk, fun p hp => ?_, fun p hp => ?_, fun p hp => ?_, fun p hp => ?_⟩ <;> rcases minF_mem hp with e | e
  · rw [e]; exact h1
  · exact h.nd p e
  · rw [e]; exact h2
  · exact h.le p e
  · rw [e]; exact h3
  · exact h.nm p e
  · rw [e]; exact h4
  · exact h.low p e
/-- what comes behind a wish -/
theorem FewOk.next {ws : List Str} {n i : Nat} {D F : Few} {z : Str} (h : FewOk ws n i D) (hz : ws[i]? = some z) (hn : 1 ≤ n) (g : FewOk ws n (i + 1) F) {p : List Str × Nat} (hp : p ∈ D) {way : List Str} (hw : way ∈ waysL n p.1 z) : FewOk ws n (i + 1) (minF F way (p.2 + eL p.1 z)) := by
  have hl := (List.getElem?_eq_some_iff.mp hz).1
  have hd : ws.drop i = z :: ws.drop (i + 1) := by
    rw [List.drop_eq_getElem_cons hl]
    exact congrArg (· :: _) (List.getElem?_eq_some_iff.mp hz).2
  obtain ⟨m, m1, m2, m3⟩ := way_mv (h.nd p hp) (h.le p hp) hn hw
  refine g.add m1 m2 (fun y hy => (m3 y hy).elim (h.nm p hp y) fun e => by rw [e]; exact List.mem_of_getElem? hz) ?_
  have h1 := h.low p hp
  have h2 := mv_best hd (h.nd p hp) m
  rw [hd] at h1
  omega
def HasB (ws : List Str) (n i : Nat) (D : Few) : Prop := ∃ p ∈ D, p.1.Perm (endB ws (n : Int) 0 [] (ws.take i)) ∧ p.2 ≤ ((metB ws (n : Int)).take i).count false
theorem HasB.next {ws : List Str} {n i : Nat} {D F : Few} {z : Str} (h : HasB ws n i D) (k : FewOk ws n i D) (hz : ws[i]? = some z) (hn : 1 ≤ n) (hF : ∀ p ∈ D, ∀ way ∈ waysL n p.1 z, LeF F way (p.2 + eL p.1 z)) : HasB ws n (i + 1) F := by
  obtain ⟨p, hp, pp, hc⟩ := h
  have hl := (List.getElem?_eq_some_iff.mp hz).1
  obtain ⟨way, hw, hwp⟩ := way_of_best (ws := ws) (k := i) (z := z) (k.nd p hp) hn pp
  obtain ⟨c', hc', hm⟩ := hF p hp way hw
  have etake : ws.take (i + 1) = ws.take i ++ [z] := by rw [List.take_add_one, hz]; rfl
  have elen : 0 + (ws.take i).length = i := by rw [List.length_take]; omega
  refine ⟨_, hm, ?_, ?_⟩
  · rw [etake, endB_snoc, elen]
    exact hwp
  · have hb : (metB ws (n : Int))[i]? = some (decide (z ∈ endB ws (n : Int) 0 [] (ws.take i))) := by
      unfold metB
      rw [List.getElem?_map, pairsB_get hz, Nat.zero_add, stepB_met]
      rfl
    rw [List.take_add_one, hb, List.count_append]
    have he : eL p.1 z = ([decide (z ∈ endB ws (n : Int) 0 [] (ws.take i))]).count false := by
      unfold eL
      by_cases q : z ∈ p.1
      · rw [if_pos q, decide_eq_true (pp.mem_iff.mp q)]
        rfl
      · rw [if_neg q, decide_eq_false (fun r => q (pp.mem_iff.mpr r))]
        rfl
    show c' ≤ _ + ([decide (z ∈ endB ws (n : Int) 0 [] (ws.take i))]).count false
    rw [← he]
    omega
theorem costB_count (ws : List Str) (n : Nat) : ∀ (zs : List Str) (k : Nat) (row : List Str), ((pairsB ws (n : Int) k row zs).map (·.1)).count false = costB ws n k row zs
  | [], _, _ => rfl
  | z :: zs, k, row => by
    show (((stepB ws (n : Int) k row z).1 :: (pairsB ws (n : Int) (k + 1) (stepB ws (n : Int) k row z).2.2 zs).map (·.1)).count false) = (if z ∈ row then 0 else 1) + _
    rw [List.count_cons, costB_count ws n zs, stepB_met]
    by_cases h : z ∈ row
    · rw [if_pos h, decide_eq_true h]
      simp
    · rw [if_neg h, decide_eq_false h]
      simp
      omega
theorem fewOk0 (ws : List Str) (n : Nat) : FewOk ws n 0 [([], 0)] ∧ HasB ws n 0 [([], 0)] := by
  refine ⟨⟨by simp, fun p hp => ?_, fun p hp => ?_, fun p hp => ?_, fun p hp => ?_⟩, ([], 0), List.mem_singleton.mpr rfl, List.Perm.refl _, Nat.zero_le _⟩ <;> rw [List.mem_singleton.mp hp]
  · exact List.nodup_nil
  · exact Nat.zero_le _
  · exact fun y hy => absurd hy (by simp)
  · rw [List.drop_zero]
    exact Nat.le_add_left _ _
/-- at the end: the fewest are the best way's -/
theorem few_end {ws : List Str} {n : Nat} {D : Few} (h : FewOk ws n ws.length D) (b : HasB ws n ws.length D) : (∀ p ∈ D, (metB ws (n : Int)).count false ≤ p.2) ∧ ∃ p ∈ D, p.2 = (metB ws (n : Int)).count false := by
  have e : (metB ws (n : Int)).count false = costB ws n 0 [] ws := costB_count ws n ws 0 []
  have hl : (metB ws (n : Int)).length = ws.length := by
    unfold metB
    rw [List.length_map, pairsB_len]
  have h1 : ∀ p ∈ D, (metB ws (n : Int)).count false ≤ p.2 := fun p hp => by
    have := h.low p hp
    rw [List.drop_length] at this
    rw [e]
    exact this
  obtain ⟨p, hp, _, hc⟩ := b
  rw [← hl, List.take_length] at hc
  exact ⟨h1, p, hp, Nat.le_antisymm hc (h1 p hp)⟩
end Kf

namespace Kf
open PySem PySem.Spec PyProof.Rows L2
/-! ### zip of three lists -/
def Itz3 (K : PySem.W.Frag) (a b c : Addr) : It :=
  ⟨fun i H => ∃ (xs ys zs : List V) (x y z : V), SqL K H a xs ∧ SqL K H b ys ∧ SqL K H c zs ∧ xs[i]? = some x ∧ ys[i]? = some y ∧ zs[i]? = some z,
    fun i H v H' => ∃ T x y z, v = .ref T ∧ H T = none ∧ H' = upd H T (.tup [x, y, z]) ∧ (∀ xs, SqL K H a xs → xs[i]? = some x) ∧ (∀ ys, SqL K H b ys → ys[i]? = some y) ∧ ∀ zs, SqL K H c zs → zs[i]? = some z,
    fun i H => ∃ xs ys zs : List V, SqL K H a xs ∧ SqL K H b ys ∧ SqL K H c zs ∧ i = xs.length ∧ i = ys.length ∧ i = zs.length⟩
theorem turn_zip3 {P : Program} {w : World} {K : PySem.W.Frag} {elts : List Expr} {kk : Nat} {tpos : Pos} {a b c N : Nat} (la : a < N) (lb : b < N) (lc : c < N) :
    Turn P w K (.Tuple elts kk tpos) (Itz3 K a b c) [N + 5, N + 3, N + 4, N, N + 1, N + 2] (N + 5) (fun i h => IsZip h (N + 5) (N + 3) (N + 4) .none ∧ IsTupOf3 h (N + 3) (.ref N) (.ref (N + 1)) (.ref (N + 2)) ∧ (∃ x y z, IsTupOf3 h (N + 4) x y z) ∧ h.IsListIter N a i ∧ h.IsListIter (N + 1) b i ∧ h.IsListIter (N + 2) c i) where
  mem := by simp
  obj := fun i h st q hq => by
    obtain ⟨hz, hTI, ⟨x, y, z, hTO⟩, ⟨o1, e1, _, d1⟩, ⟨o2, e2, _, d2⟩, ⟨o3, e3, _, d3⟩⟩ := st
    have e' : q = N + 5 ∨ q = N + 3 ∨ q = N + 4 ∨ q = N ∨ q = N + 1 ∨ q = N + 2 := by simpa using hq
    rcases e' with r | r | r | r | r | r
    · rw [r]; exact ⟨_, hz, fun v q => nomatch q⟩
    · rw [r]; exact ⟨_, hTI, fun v q => nomatch q⟩
    · rw [r]; exact ⟨_, hTO, fun v q => nomatch q⟩
    · rw [r]; exact ⟨o1, e1, fun v q => by rw [d1] at q; cases q⟩
    · rw [r]; exact ⟨o2, e2, fun v q => by rw [d2] at q; cases q⟩
    · rw [r]; exact ⟨o3, e3, fun v q => by rw [d3] at q; cases q⟩
  keep := fun i h h' st k => by
    obtain ⟨hz, hTI, ⟨x, y, z, hTO⟩, h1, h2, h3⟩ := st
    exact ⟨k _ (by simp) _ hz, k _ (by simp) _ hTI, ⟨x, y, z, k _ (by simp) _ hTO⟩, h1.at fun o q => k _ (by simp) o q, h2.at fun o q => k _ (by simp) o q, h3.at fun o q => k _ (by simp) o q⟩
  item := by
    intro X hP hw hK hc i pins s σ H E I hf st hg
    subst hP hw hK
    obtain ⟨hz, hTI, ⟨x0, y0, z0, hTO⟩, h1, h2, h3⟩ := st
    obtain ⟨xs, ys, zs, x, y, z, hqx, hqy, hqz, hx, hy, hz'⟩ := hg
    obtain ⟨its, rv, p, _⟩ := I.list hqx
    obtain ⟨its2, rv2, p2, _⟩ := I.list hqy
    obtain ⟨its3, rv3, p3, _⟩ := I.list hqz
    obtain ⟨u, hu, ru⟩ := rv.get hx
    obtain ⟨u2, hu2, ru2⟩ := rv2.get hy
    obtain ⟨u3, hu3, ru3⟩ := rv3.get hz'
    have hzl : N + 5 < s.heap.objs.size := Heap.lt_size hz
    have S := zip_sep3 (N := N) (fp1 := [a]) (fp2 := [b]) (fp3 := [c]) (fun q hq => by rw [List.mem_singleton.mp hq]; exact la) (fun q hq => by rw [List.mem_singleton.mp hq]; exact lb) (fun q hq => by rw [List.mem_singleton.mp hq]; exact lc)
    have hh : X.A.in1.handled = none := I.ok.hd hc
    have D1 := Draws.list (prog := X.prog) (w := X.w) (A := X.A.in1) hh N a (Nat.ne_of_lt la) its.toArray
    have D2 := Draws.list (prog := X.prog) (w := X.w) (A := X.A.in1) hh (N + 1) b (Nat.ne_of_lt (Nat.lt_succ_of_lt lb)) its2.toArray
    have D3 := Draws.list (prog := X.prog) (w := X.w) (A := X.A.in1) hh (N + 2) c (Nat.ne_of_lt (Nat.lt_succ_of_lt (Nat.lt_succ_of_lt lc))) its3.toArray
    have l1 : i < its.toArray.size := by
      have := (List.getElem?_eq_some_iff.mp hu).1
      simpa using this
    have l2 : i < its2.toArray.size := by
      have := (List.getElem?_eq_some_iff.mp hu2).1
      simpa using this
    have l3 : i < its3.toArray.size := by
      have := (List.getElem?_eq_some_iff.mp hu3).1
      simpa using this
    refine wpAny_pyNext_zipD3_item S D1 D2 D3 hz hTI hTO ⟨h1, p.isList⟩ ⟨h2, p2.isList⟩ ⟨h3, p3.isList⟩ l1 l2 l3 fun v1 v2 v3 h' tk y1 y2 y3 b1 b2 d1 d2 d3 hT hsz hk => ?_
    have ev1 : v1 = u := by
      rw [List.getElem?_toArray, hu] at y1
      exact (Option.some.inj y1).symm
    have ev2 : v2 = u2 := by
      rw [List.getElem?_toArray, hu2] at y2
      exact (Option.some.inj y2).symm
    have ev3 : v3 = u3 := by
      rw [List.getElem?_toArray, hu3] at y3
      exact (Option.some.inj y3).symm
    subst ev1 ev2 ev3
    refine ⟨_, rfl, wpAny_letOwnedTupleGo_zip (s := { s with heap := h', toks := tk }) b1 fun h'' z'' sb => ?_⟩
    have hT2 : h''.get? s.heap.objs.size = some { cls := .type "tuple", data := .seq #[v1, v2, v3] } := (sb.2 _ (Nat.ne_of_gt hzl)).trans hT
    have new : ObjOk X.prog X.w (upd H s.heap.objs.size (.tup [x, y, z])) h'' s.heap.objs.size (.tup [x, y, z]) :=
      ⟨by show 3 ≤ sizeLine; decide, [v1, v2, v3], .cons ru (.cons ru2 (.cons ru3 .nil)), ⟨_, hT2, rfl, _, rfl⟩⟩
    have I1 : Inv X pins σ (upd H s.heap.objs.size (.tup [x, y, z])) { s with heap := h'', toks := tk } :=
      I.turnedNew (t' := tk) (ch := [N + 5, N + 3, N + 4, N, N + 1, N + 2]) (fun q o hb r => (sb.2 q (fun q' => hb (by simp [q']))).trans (hk q o (fun q' => hb (by simp [q'])) (fun q' => hb (by simp [q'])) (fun q' => hb (by simp [q'])) (fun q' => hb (by simp [q'])) (fun q' => hb (by simp [q'])) r)) hf (Nat.le_refl _) new
    refine ⟨.ref s.heap.objs.size, _, I1, rfl, ⟨_, x, y, z, rfl, I.hok.fresh (Nat.le_refl _), rfl, fun l hl => by rw [I.list_inj hl hqx]; exact hx, fun l hl => by rw [I.list_inj hl hqy]; exact hy, fun l hl => by rw [I.list_inj hl hqz]; exact hz'⟩, ⟨z'', ?_, ⟨v1, v2, v3, ?_⟩, ?_, ?_, ?_⟩, fun q hcm => ?_⟩
    · exact (sb.2 _ S.TIz).trans (hk _ _ S.TIz S.TITO S.TIi1 S.TIi2 S.TIi3 hTI)
    · exact (sb.2 _ S.TOz).trans b2
    · exact d1.1.at fun o q => (sb.2 _ S.zi1.symm).trans q
    · exact d2.1.at fun o q => (sb.2 _ S.zi2.symm).trans q
    · exact d3.1.at fun o q => (sb.2 _ S.zi3.symm).trans q
    · have hlt : q < s.heap.objs.size := by
        have e' : q = N + 5 ∨ q = N + 3 ∨ q = N + 4 ∨ q = N ∨ q = N + 1 ∨ q = N + 2 := by simpa using hcm
        rcases e' with r | r | r | r | r | r <;> rw [r]
        · exact hzl
        · exact Nat.lt_of_le_of_lt (show (N : Nat) + 3 ≤ N + 5 by omega) hzl
        · exact Nat.lt_of_le_of_lt (show (N : Nat) + 4 ≤ N + 5 by omega) hzl
        · exact Nat.lt_of_le_of_lt (show (N : Nat) ≤ N + 5 by omega) hzl
        · exact Nat.lt_of_le_of_lt (show (N : Nat) + 1 ≤ N + 5 by omega) hzl
        · exact Nat.lt_of_le_of_lt (show (N : Nat) + 2 ≤ N + 5 by omega) hzl
      rw [upd_ne (Nat.ne_of_lt hlt)]
      exact (hf q hcm).1
  done := by
    intro X hP hw hK hc i pins s σ H E I hf st hg
    subst hP hw hK
    obtain ⟨hz, hTI, ⟨x0, y0, z0, hTO⟩, h1, h2, h3⟩ := st
    obtain ⟨xs, ys, zs, hqx, hqy, hqz, e1, e2, e3⟩ := hg
    obtain ⟨its, rv, p, _⟩ := I.list hqx
    obtain ⟨its2, rv2, p2, _⟩ := I.list hqy
    obtain ⟨its3, rv3, p3, _⟩ := I.list hqz
    have l1 := rv.length
    have l2 := rv2.length
    have l3 := rv3.length
    have S := zip_sep3 (N := N) (fp1 := [a]) (fp2 := [b]) (fp3 := [c]) (fun q hq => by rw [List.mem_singleton.mp hq]; exact la) (fun q hq => by rw [List.mem_singleton.mp hq]; exact lb) (fun q hq => by rw [List.mem_singleton.mp hq]; exact lc)
    have hh : X.A.in1.handled = none := I.ok.hd hc
    have D1 := Draws.list (prog := X.prog) (w := X.w) (A := X.A.in1) hh N a (Nat.ne_of_lt la) its.toArray
    have D2 := Draws.list (prog := X.prog) (w := X.w) (A := X.A.in1) hh (N + 1) b (Nat.ne_of_lt (Nat.lt_succ_of_lt lb)) its2.toArray
    have D3 := Draws.list (prog := X.prog) (w := X.w) (A := X.A.in1) hh (N + 2) c (Nat.ne_of_lt (Nat.lt_succ_of_lt (Nat.lt_succ_of_lt lc))) its3.toArray
    have z1 : its.toArray.size = i := by rw [List.size_toArray]; omega
    have z2 : its2.toArray.size = i := by rw [List.size_toArray]; omega
    have z3 : its3.toArray.size = i := by rw [List.size_toArray]; omega
    exact wpAny_pyNext_zipD3_end S D1 D2 D3 hz hTI hTO ⟨h1, p.isList⟩ ⟨h2, p2.isList⟩ ⟨h3, p3.isList⟩ (by omega) (by omega) (by omega) (.inl (by omega)) fun h' tk hk => ⟨rfl, I.turnedL (t' := tk) (ch := [N + 5, N + 3, N + 4, N, N + 1, N + 2]) (fun q o hb r =>
      hk q o (fun q' => hb (by simp [q'])) (fun q' => hb (by simp [q'])) (fun q' => hb (by simp [q'])) (fun q' => hb (by simp [q'])) (fun q' => hb (by simp [q'])) r) hf⟩
  self := fun A i s Q E st h => wpAny_pyIter_zip st.1 h
def iZip3 (K : PySem.W.Frag) (ta : TA) : TI := fun σ H R => ta σ H fun vs H1 => ∃ a b c xs ys zs, vs = [.ref a, .ref b, .ref c] ∧ SqL K H1 a xs ∧ SqL K H1 b ys ∧ SqL K H1 c zs ∧ R (Itz3 K a b c) H1
theorem pi_zip3 {X : Cx} {e e2 e3 : Expr} {ta : TA} {p pos tpos : Pos} {elts : List Expr} {kk : Nat} (hg : Gl X "zip") (hm : X.mg "zip" = none) (ha : PA X [e, e2, e3] ta)
    (hs : starEach [e, e2, e3] X.env = (false, eval e X.env) :: starEach [e2, e3] X.env := by rfl) (hpl : (backTo pos (starEach [e2, e3] X.env)).any (·.1) = false := by rfl) :
    PI X (.Tuple elts kk tpos) (.Call (.Name "zip" p) [e, e2, e3] [] pos) (iZip3 X.K ta) := by
  refine ⟨fun pins s σ H R I h => ?_⟩
  refine Call_ (ld_blt I hg hm PyProof.Rows.boot_zip (PyProof.Rows.callWith_type1 (thn (ha.run pos pins s σ H _ I h) fun us s1 ⟨vs, H1, I1, r1, q1⟩ => ?_) hs hpl))
  obtain ⟨a, b, c, xs, ys, zs, ex, hqx, hqy, hqz, q⟩ := q1
  subst ex
  cases r1 with
  | cons r rr =>
    cases rr with
    | cons r' rr =>
      cases rr with
      | cons r'' rr =>
        cases rr
        cases r
        cases r'
        cases r''
        obtain ⟨its, rv, p1, _⟩ := I1.list hqx
        obtain ⟨its2, rv2, p2, _⟩ := I1.list hqy
        obtain ⟨its3, rv3, p3, _⟩ := I1.list hqz
        refine zip_begins3 (begins_list a its.toArray) (begins_list b its2.toArray) (begins_list c its3.toArray) p1.isList p2.isList p3.isList fun h' hz hTI hTO h1 h2 h3 hsz hk => wpAny_pyIter_zip hz ?_
        have I2 : Inv X pins σ H1 { s1 with heap := h' } := I1.kept (t' := s1.toks) hk
        refine ⟨s1.heap.objs.size + 5, [s1.heap.objs.size + 5, s1.heap.objs.size + 3, s1.heap.objs.size + 4, s1.heap.objs.size, s1.heap.objs.size + 1, s1.heap.objs.size + 2], _, _, H1, rfl, I2, turn_zip3 (N := s1.heap.objs.size) p1.lt p2.lt p3.lt, ⟨hz, hTI, ⟨_, _, _, hTO⟩, ⟨_, h1, rfl, rfl⟩, ⟨_, h2, rfl, rfl⟩, ⟨_, h3, rfl, rfl⟩⟩, fun x hcm => ?_, q⟩
        have e' : x = s1.heap.objs.size + 5 ∨ x = s1.heap.objs.size + 3 ∨ x = s1.heap.objs.size + 4 ∨ x = s1.heap.objs.size ∨ x = s1.heap.objs.size + 1 ∨ x = s1.heap.objs.size + 2 := by simpa using hcm
        have hle : s1.heap.objs.size ≤ x := by
          rcases e' with z | z | z | z | z | z <;> rw [z]
          · exact Nat.le_add_right _ _
          · exact Nat.le_add_right _ _
          · exact Nat.le_add_right _ _
          · exact Nat.le_refl _
          · exact Nat.le_add_right _ _
          · exact Nat.le_add_right _ _
        exact I1.fpOk hle (I1.hok.fresh hle)
def YTrip (xs ys zs : Nat → Option V) : Nat → Hp → V → Hp → Prop := fun i H v H' => ∃ T x y z, v = .ref T ∧ H T = none ∧ H' = upd H T (.tup [x, y, z]) ∧ xs i = some x ∧ ys i = some y ∧ zs i = some z
theorem walk_zip3 {K : PySem.W.Frag} {a b c : Addr} {xs ys zs : List V} {n : Nat} (h1 : n = xs.length) (h2 : n = ys.length) (h3 : n = zs.length) : Walk (Itz3 K a b c) n (fun H => SqL K H a xs ∧ SqL K H b ys ∧ SqL K H c zs) (YTrip (fun i => xs[i]?) (fun i => ys[i]?) (fun i => zs[i]?)) := by
  refine ⟨fun i _ hi q => ?_, fun _ q => ⟨xs, ys, zs, q.1, q.2.1, q.2.2, h1, h2, h3⟩, fun i H v H' _ q y => ?_⟩
  · have l1 : i < xs.length := by omega
    have l2 : i < ys.length := by omega
    have l3 : i < zs.length := by omega
    exact ⟨xs, ys, zs, xs[i], ys[i], zs[i], q.1, q.2.1, q.2.2, by simp [l1], by simp [l2], by simp [l3]⟩
  · obtain ⟨T, x, y, z, h1, h2, h3, h4, h5, h6⟩ := y
    exact ⟨T, x, y, z, h1, h2, h3, h4 xs q.1, h5 ys q.2.1, h6 zs q.2.2⟩
end Kf

namespace Kf
open PySem PySem.Spec PyProof.Rows L2
/-! ### sorted of a tuple of texts -/
section
variable {prog : Program} {w : World} {A : Around} {E : Value → Shared → Prop} {s : Shared}
theorem collect_tup {l : Addr} {vs : List Value} {Q : List Value → Shared → Prop} (hl : s.heap.IsTuple l vs.toArray)
    (h : Q vs { s with heap := (s.heap.push (seqObj "list" #[] 0)).update s.heap.objs.size (Obj.mapSeq (· ++ vs.toArray)) }) (hsz : vs.length ≤ sizeLine := by size_fits) :
    wpAny (model prog w) A (collect (.ref l)) Q E s := by
  obtain ⟨o, ho, hc, n, hd⟩ := id hl
  unfold collect
  refine wpAny_bind (wpAny_runValue (codeAny_builtin entry_proto_collect' ?_))
  show wpAny _ _ (do again (.builtin "list.__iadd__" ⟨[← newList [], .ref l], []⟩)) _ _ s
  refine wpAny_bind (wpAny_newList (wpAny_pure ⟨Code.quiet_builtin _ (by decide +kernel), codeAny_builtin entry_list_iadd' ?_⟩))
  show wpAny _ _ (Builtin.List.listExtendWith (.ref s.heap.objs.size) (.ref l) (.ref s.heap.objs.size)) _ _ { s with heap := s.heap.push (seqObj "list" #[] 0) }
  unfold Builtin.List.listExtendWith
  have ho' : (s.heap.push (seqObj "list" #[] 0)).get? l = some o := Heap.get?_push_of_some _ ho
  refine wpAny_bind (wpAny_typeOf (T := "tuple") ⟨o, ho', hc⟩ ?_)
  have ht : (Value.type "tuple" == Value.type "tuple") = true := by rfl
  rw [if_pos (by rw [ht]; simp)]
  refine wpAny_bind (listItems_at ho' hd ?_)
  refine wpAny_bind (listItems_at (xs := #[]) (n := 0) (Heap.get?_push_size _ rfl) rfl ?_)
  rw [if_neg (by simp)]
  refine wpAny_bind (listUpdate_at (xs := #[]) (n := 0) (Heap.get?_push_size _ rfl) rfl ?_ (Nat.zero_le _) (by show (#[] ++ vs.toArray).size ≤ sizeLine + 1; simp only [Array.size_append, List.size_toArray, List.length_nil]; omega))
  refine wpAny_pure ?_
  show wpAny (model prog w) A (do
      let o ← load s.heap.objs.size
      match o.data with
      | .seq xs _ => pure xs.toList
      | _ => unsupported "internal:collect") Q E { s with heap := (s.heap.push (seqObj "list" #[] 0)).update s.heap.objs.size (Obj.mapSeq (· ++ vs.toArray)) }
  refine wpAny_bind (wpAny_load (get?_update_seq (Heap.get?_push_size _ rfl) _) ?_)
  show wpAny _ _ (pure ((#[] : Array Value) ++ vs.toArray).toList) Q E _
  rw [show ((#[] : Array Value) ++ vs.toArray).toList = vs by simp]
  exact wpAny_pure h
theorem sorted_strsT {l : Addr} {vs : List Value} {ss : List Str} {Q : Value → Shared → Prop} (hl : s.heap.IsTuple l vs.toArray) (hS : StrsAre vs ss) (h64 : vs.length < 64)
    (h : ∀ (out : Array Value) (ss' : List Str), StrsAre out.toList ss' → ss'.Perm ss → sortedS ss' = true → Q (.ref (s.heap.objs.size + 1)) { s with heap := sortedAll s.heap vs out }) :
    wpAny (model prog w) A (call (.builtin "sorted") [.ref l]) Q E s := by
  have h0 := hS.keysOf
  have hkk : ∀ v₁ v₂ rest, vs = v₁ :: v₂ :: rest → keyKind' (v₁ :: v₂ :: rest).toArray = pure oneType' := fun v₁ v₂ rest e => keyKind_strs (by rw [← e]; exact hS)
  have hz : vs.length ≤ sizeLine := by rw [sizeLine_eq]; omega
  refine Calls.call_function_entry kind_sorted plain_sorted entry_sorted (args_sorted1 _) ?_
  unfold Builtin.«sorted»
  refine wpAny_bind (m := checkCount "sorted" 1 1 _) (wpAny_pure ?_)
  refine wpAny_bind (collect_tup hl ?_ hz)
  refine wpAny_bind (wpAny_newList ?_ hz)
  have hsz : ((s.heap.push (seqObj "list" #[] 0)).update s.heap.objs.size (Obj.mapSeq (· ++ vs.toArray))).objs.size = s.heap.objs.size + 1 := by
    rw [Heap.size_update, size_push']
  have hoL : (((s.heap.push (seqObj "list" #[] 0)).update s.heap.objs.size (Obj.mapSeq (· ++ vs.toArray))).push (seqObj "list" vs.toArray 0)).get? (s.heap.objs.size + 1) = some (seqObj "list" vs.toArray 0) := by
    rw [← hsz]; exact Heap.get?_push_size _ rfl
  show wpAny _ _ _ _ _ { s with heap := ((s.heap.push (seqObj "list" #[] 0)).update s.heap.objs.size (Obj.mapSeq (· ++ vs.toArray))).push (seqObj "list" vs.toArray 0) }
  rw [hsz]
  refine wpAny_bind (wpAny_holding (wpAny_call_entry slot_list_sort ⟨_, hoL, rfl⟩ entry_list_sort (list_sort_treeK strKind_oneLt hoL h0 hkk h64 fun st' hp hs => ⟨_, rfl, ?_⟩) (args_list_sort _)))
  refine wpAny_pure ⟨_, rfl, ?_⟩
  obtain ⟨ss', h1, h2, h3⟩ := sorted_out_str hS hp hs
  exact h _ ss' h1 h2 h3
end
section
variable {X : Cx}
/-- sorted(t), a tuple of texts: the sorted list -/
def rSortTS (K : PySem.W.Frag) : List V → Hp → VK → Prop := fun vs H Q => ∃ (a : Addr) (xs : List Str), vs = [V.ref a] ∧ SqT K H a (xs.map V.str) ∧ xs.length < 64 ∧
  ∀ p : Addr, H p = none → Q (.ref p) (upd H p (.lst ((sortS xs).map V.str)))
theorem cr_sortTS : CallR X (.builtin "sorted") (rSortTS X.K) := by
  intro pins s σ H vs us Q I r h
  obtain ⟨a, xs, rfl, hs, h64, q⟩ := h
  obtain ⟨its, rv, hl, _⟩ := I.tuple hs
  rw [Vals.ref1 r]
  have hlen0 := rv.length
  rw [List.length_map] at hlen0
  refine sorted_strsT hl rv.strs (by rw [← hlen0]; exact h64) fun out ys h1 h2 h3 => ?_
  rw [sortS_eq h2 h3] at h1
  obtain ⟨ep, he'⟩ := PyProof.Rows.sortedAll_at s.heap its out
  have hlen : ((sortS xs).map V.str).length ≤ sizeLine := by
    rw [List.length_map, (sortS_perm xs).length_eq, sizeLine_eq]
    omega
  exact ⟨.ref _, upd H (s.heap.objs.size + 1) (.lst ((sortS xs).map V.str)), I.laid (t' := s.toks) (fun _ _ => PyProof.Rows.sortedAll_old) (Nat.le_succ _) ⟨hlen, out.toList, ep, vals_of_strs h1, he'⟩, rfl, q _ (I.hok.fresh (Nat.le_succ _))⟩
end
end Kf

namespace Kf
open PySem PySem.Spec PyProof.Rows L2
/-! ### dict([((), c)]) -/
section
variable {X : Cx}
theorem plainL_seq {h : Heap} {a : Addr} {its : Array Value} (p : PlainL h a its) : PlainSeq "list" h a its := by
  obtain ⟨o, n, e, h1, h2, h3⟩ := p
  exact ⟨o, n, e, h1, h2, h3⟩
def rDictE (K : PySem.W.Frag) : List V → Hp → VK → Prop := fun vs H Q => ∃ (a p b : Addr) (c : Int), vs = [V.ref a] ∧ SqL K H a [.ref p] ∧ SqT K H p [.ref b, .int c] ∧ H b = some (.tup []) ∧ ∀ d, H d = none → Q (.ref d) (upd H d (.dT [([], .int c)]))
theorem call_dictE (hcalm : X.calm = true) (hu : X.A.units + 64 < cLine) : CallR X (.type "dict") (rDictE X.K) := by
  intro pins s σ H vs us Q I r h
  obtain ⟨a, p, b, c, rfl, hs, hp, hb, q⟩ := h
  obtain ⟨its, rv, pl, _⟩ := I.list hs
  obtain ⟨its2, rv2, tp2, _⟩ := I.tuple hp
  obtain ⟨_, its3, rv3, tp3⟩ := (show ObjOk X.prog X.w H s.heap b (.tup []) from I.hok b _ hb)
  rw [Vals.ref1 r]
  cases rv with
  | cons r1 rr =>
  cases rr
  cases r1
  cases rv2 with
  | cons r2 rr2 =>
  cases rr2 with
  | cons r3 rr3 =>
  cases rr3
  cases r2
  obtain ⟨t, rfl⟩ := r3
  cases rv3
  have hkey : (tupleKind (mixKind X.prog X.w)).is s.heap [] b := by
    obtain ⟨o, ho, hc, n, hd⟩ := tp3
    exact ⟨o, #[], n, ho, hc, hd, .nil⟩
  have hst : (tupleKind (mixKind X.prog X.w)).Stays := tupleKind_stays
  refine call_dict_pairsH (knd := tupleKind (mixKind X.prog X.w)) (ps := [([], b, Value.int c t)]) (PairArg.list a #[Value.ref p] (fun _ => p) [(Value.ref b, Value.int c t)]) (I.ok.hd hcalm) (show X.A.in1.in1.units < cLine from ?_) ⟨plainL_seq pl, rfl, fun j k v hj => ?_⟩ ⟨rfl, fun i key v hr => ?_⟩ (fun h' hk x hx => ?_) (by show 1 ≤ sizeLine; decide) fun h' tk hd' hk => ?_
  · show X.A.units + 1 + 1 < cLine
    omega
  · cases j with
    | zero =>
      cases hj
      exact ⟨rfl, .inl tp2⟩
    | succ j => cases hj
  · cases i with
    | zero =>
      cases hr
      exact ⟨[], b, rfl, rfl⟩
    | succ i => cases hr
  · rw [List.mem_singleton.mp hx]
    exact hst.stays (fun b' o vs n e _ => hk b' o (Nat.ne_of_lt (Heap.lt_size e)) (by simp) e) hkey
  · have hm : (s.heap.objs.size == sysModules) = false := beq_eq_false_iff_ne.mpr (Nat.ne_of_gt I.big)
    rw [storedAllH_nil_of_nodup _ (by simp)] at hd'
    obtain ⟨o, es, ep, ho, hx, hdt, he, his, hn⟩ := hd'
    have hbn : b ≠ s.heap.objs.size := by
      obtain ⟨o', ho', _⟩ := tp3
      exact Nat.ne_of_lt (Heap.lt_size ho')
    refine ⟨.ref s.heap.objs.size, upd H s.heap.objs.size (.dT [([], .int c)]), I.laid (t' := tk) (fun b o e => hk b o (by simp) e) (Nat.le_refl _) ?_, rfl, q _ (I.hok.fresh (Nat.le_refl _))⟩
    exact ⟨by show 1 ≤ sizeLine; decide, hm, [([], b, Value.int c t)], .cons ⟨rfl, by rw [upd_ne hbn]; exact hb, ⟨t, rfl⟩⟩ .nil, o, es, ep, ho, hx, hdt, he, hn⟩
end
end Kf

namespace Kf
open PySem PySem.Spec PyProof.Rows L2
/-! ### _law_fewest -/
theorem call_tupleK {X : Cx} {K : PySem.W.Frag} (h : X.K = K) : CallR X (.type "tuple") (fun xs H Q => ∃ p ys, xs = [.ref p] ∧ ((SqL K H p ys ∧ ∀ l, H l = none → Q (.ref l) (upd H l (.tup ys))) ∨ (SqT K H p ys ∧ Q (.ref p) H))) := by
  subst h
  exact call_tuple_of
theorem cr_sortSK {X : Cx} {K : PySem.W.Frag} (h : X.K = K) : CallR X (.builtin "sorted") (rSortS K) := by
  subst h
  exact cr_sortS
theorem pi_tupK {X : Cx} {K : PySem.W.Frag} {tg l : Expr} {tl : TE} (h : X.K = K) (hl : PE X l tl) : PI X tg l (iTup K tl) := by
  subst h
  exact pi_tup hl
theorem catA_snoc {K : PySem.W.Frag} {tb a b : Addr} {H : Hp} {Q : VK} {xs : List V} {z : V} (ha : H a = some (.tup xs)) (hb : H b = some (.tup [z])) (hl : xs.length ≤ 100) (q : ∀ t H', Kp tb [] H H' → H' t = some (.tup (xs ++ [z])) → Q (.ref t) H') : rCatA K (.ref a) (.ref b) H Q := by
  refine ⟨a, b, xs, [z], rfl, rfl, SqT.of ha, SqT.of hb, ?_, fun e => ?_, (fun _ e => by cases e), fun _ _ p hp => q p _ (Kp.new hp) upd_same⟩
  · rw [sizeLine_eq, List.length_singleton]
    omega
  · subst e
    exact q b H (Kp.refl _) hb
/-- the dict -/
def embK (k : List Str) : List Key := k.map Sum.inr
def emb (D : Few) : List (List Key × V) := D.map fun p => (embK p.1, V.int (p.2 : Nat))
theorem embK_inj {a b : List Str} (h : embK a = embK b) : a = b := by
  have hi : ∀ {a b : List Str}, a.map (Sum.inr : Str → Key) = b.map Sum.inr → a = b := by
    intro a
    induction a with
    | nil =>
      intro b h
      cases b with
      | nil => rfl
      | cons y r => cases h
    | cons x r ih =>
      intro b h
      cases b with
      | nil => cases h
      | cons y t =>
        injection h with h1 h2
        injection h1 with h1
        rw [h1, ih h2]
  exact hi h
theorem embK_V (k : List Str) : (embK k).map kV = k.map V.str := by
  unfold embK
  rw [List.map_map]
  rfl
theorem emb_val (k : List Str) : ∀ D : Few, valV (emb D) (embK k) = (getF D k).map fun c => V.int (c : Nat)
  | [] => rfl
  | p :: D => by
    have ih := emb_val k D
    unfold emb getF at *
    rw [List.map_cons]
    by_cases e : p.1 = k
    · rw [valV_pos (show (embK p.1, V.int (p.2 : Nat)).1 = embK k by rw [e]), List.find?_cons_of_pos (by simpa using e)]
      rfl
    · rw [valV_neg (fun q : embK p.1 = embK k => e (embK_inj q)), List.find?_cons_of_neg (by simpa using e)]
      exact ih
theorem emb_any (k : List Str) (D : Few) : ((emb D).any fun kv => decide (kv.1 = embK k)) = decide (k ∈ D.map (·.1)) := by
  rw [Bool.eq_iff_iff, List.any_eq_true, decide_eq_true_eq, List.mem_map]
  unfold emb
  constructor
  · rintro ⟨kv, hkv, e⟩
    obtain ⟨p, hp, rfl⟩ := List.mem_map.mp hkv
    exact ⟨p, hp, embK_inj (of_decide_eq_true e)⟩
  · rintro ⟨p, hp, e⟩
    exact ⟨_, List.mem_map.mpr ⟨p, hp, rfl⟩, by rw [← e]; exact decide_eq_true rfl⟩
theorem emb_put (k : List Str) (c : Nat) (D : Few) : putK (emb D) (embK k) (.int (c : Nat)) = emb (putF D k c) := by
  unfold putK putF
  rw [emb_any]
  by_cases h : k ∈ D.map (·.1)
  · rw [if_pos (decide_eq_true h), if_pos h]
    unfold emb
    rw [List.map_map, List.map_map]
    refine List.map_congr_left fun p _ => ?_
    show (if embK p.1 = embK k then (embK p.1, V.int (c : Nat)) else (embK p.1, V.int (p.2 : Nat))) = (embK (if p.1 = k then (p.1, c) else p).1, V.int ((if p.1 = k then (p.1, c) else p).2 : Nat))
    by_cases e : p.1 = k
    · rw [if_pos e, if_pos (by rw [e])]
    · rw [if_neg e, if_neg (fun q => e (embK_inj q))]
  · rw [if_neg (by rw [decide_eq_false h]; decide), if_neg h]
    unfold emb
    rw [List.map_append]
    rfl
/-! how many rows there can be -/
theorem subset_lenG {α : Type} [DecidableEq α] : ∀ {xs ys : List α}, xs.Nodup → (∀ y ∈ xs, y ∈ ys) → xs.length ≤ ys.length
  | [], _, _, _ => Nat.zero_le _
  | x :: xs, ys, nd, h => by
    have hx := h x List.mem_cons_self
    have ih := subset_lenG (xs := xs) (ys := ys.erase x) (List.nodup_cons.mp nd).2 fun y hy => by
      have hne : y ≠ x := fun e => (List.nodup_cons.mp nd).1 (by rw [← e]; exact hy)
      exact (List.mem_erase_of_ne hne).mpr (h y (List.mem_cons_of_mem _ hy))
    rw [List.length_erase_of_mem hx] at ih
    have := List.length_pos_of_mem hx
    rw [List.length_cons]
    omega
def upTo (zs : List Str) : Nat → List (List Str)
  | 0 => [[]]
  | n + 1 => [] :: zs.flatMap fun z => (upTo zs n).map (z :: ·)
theorem upTo_mem {zs : List Str} : ∀ {n : Nat} {k : List Str}, k.length ≤ n → (∀ y ∈ k, y ∈ zs) → k ∈ upTo zs n
  | 0, [], _, _ => List.mem_singleton.mpr rfl
  | n + 1, [], _, _ => List.mem_cons_self
  | n + 1, z :: k, hl, h => by
    refine List.mem_cons_of_mem _ (List.mem_flatMap.mpr ⟨z, h z List.mem_cons_self, List.mem_map.mpr ⟨k, upTo_mem (by simpa using hl) fun y hy => h y (List.mem_cons_of_mem _ hy), rfl⟩⟩)
  | 0, _ :: _, hl, _ => by simp at hl
theorem flat_len {α β : Type} (f : α → List β) (m : Nat) (h : ∀ a, (f a).length = m) : ∀ l : List α, (l.flatMap f).length = l.length * m
  | [] => by simp
  | a :: l => by
    rw [List.flatMap_cons, List.length_append, h, flat_len f m h l, List.length_cons, Nat.add_mul, Nat.one_mul, Nat.add_comm]
theorem upTo_len3 {zs : List Str} (h : zs.length ≤ 26) : (upTo zs 3).length ≤ 18279 := by
  have e : ∀ n, (upTo zs (n + 1)).length = 1 + zs.length * (upTo zs n).length := fun n => by
    show ([] :: zs.flatMap fun z => (upTo zs n).map (z :: ·)).length = _
    rw [List.length_cons, flat_len _ _ (fun a => by rw [List.length_map])]
    omega
  have e0 : (upTo zs 0).length = 1 := rfl
  have h1 : (upTo zs 1).length ≤ 27 := by rw [e, e0]; omega
  have h2 : (upTo zs 2).length ≤ 703 := by
    rw [e]
    have := Nat.mul_le_mul h h1
    omega
  rw [e]
  have := Nat.mul_le_mul h h2
  omega
theorem FewOk.size {ws zs : List Str} {n i : Nat} {D : Few} (h : FewOk ws n i D) (n3 : n ≤ 3) (hz : zs.length ≤ 26) (hws : ∀ y ∈ ws, y ∈ zs) : D.length ≤ 18279 := by
  have h1 : (D.map (·.1)).length ≤ (upTo zs 3).length := subset_lenG h.nk fun k hk => by
    obtain ⟨p, hp, rfl⟩ := List.mem_map.mp hk
    exact upTo_mem (Nat.le_trans (h.le p hp) n3) fun y hy => hws y (h.nm p hp y hy)
  rw [List.length_map] at h1
  exact Nat.le_trans h1 (upTo_len3 hz)
theorem emb_len (D : Few) : (emb D).length = D.length := by unfold emb; rw [List.length_map]
def strsV (k : List Str) : List V := k.map V.str
section
variable {P : Program} {w : World} {K : PySem.W.Frag} {mg : Str → Option Value} {base : Heap} {tb : Addr}
def spLFew (tb : Addr) : Sp := fun vs H Q _ => ∃ (n : Nat) (a : Addr) (ws zs : List Str), vs = [.ref a, .int (n : Int)] ∧ 1 ≤ n ∧ n ≤ 3 ∧ H a = some (.lst (ws.map V.str)) ∧ zs.length ≤ 26 ∧ (∀ y ∈ ws, y ∈ zs) ∧
  ∀ H', Kp tb [] H H' → Q (.int ((metB ws (n : Int)).count false : Nat)) H'
abbrev n_lfew : List Str := ["_law_wishes", "_law_places_here", "_law_known", "_law_name", "_law_following", "_law_here", "_law_ways", "_law_missed", "_law_way", "_law_gone", "_law_one"]
end
end Kf

namespace Kf
open PySem PySem.Spec PyProof.Rows L2
/-! ### what is told of a way, walked -/
def keepL (row : List Str) (g : Option Str) (z : Str) : List Str := row.filter (fun y => !(decide (some y = g) || decide (y = z))) ++ [z]
structure StepOk (n : Nat) (row : List Str) (z : Str) (b : Bool) (g : Option Str) (row' : List Str) : Prop where
  b_eq : b = decide (z ∈ row)
  g_eq : g.isSome = (!b && decide (row.length = n))
  g_mem : ∀ y, g = some y → y ∈ row
  perm : row'.Perm (keepL row g z)
theorem keepL_met {row : List Str} {z : Str} (nd : row.Nodup) (h : z ∈ row) : (keepL row none z).Perm row := by
  unfold keepL
  have e : row.filter (fun y => !(decide (some y = none) || decide (y = z))) = row.erase z := by
    rw [List.Nodup.erase_eq_filter nd]
    refine List.filter_congr fun y _ => ?_
    by_cases e : y = z <;> simp [e]
  rw [e]
  exact (List.perm_append_singleton _ _).trans (List.perm_cons_erase h).symm
theorem keepL_free {row : List Str} {z : Str} (h : z ∉ row) : keepL row none z = row ++ [z] := by
  unfold keepL
  rw [List.filter_eq_self.mpr fun y hy => by
    have : y ≠ z := fun e => h (by rw [← e]; exact hy)
    simp [this]]
theorem keepL_full {row : List Str} {z g : Str} (nd : row.Nodup) (h : z ∉ row) : keepL row (some g) z = row.erase g ++ [z] := by
  unfold keepL
  rw [List.Nodup.erase_eq_filter nd]
  refine congrArg (· ++ [z]) (List.filter_congr fun y hy => ?_)
  have hne : y ≠ z := fun e => h (by rw [← e]; exact hy)
  by_cases e : y = g <;> simp [e, hne]
theorem keepL_perm {row row' : List Str} {g : Option Str} {z : Str} (p : row.Perm row') : (keepL row g z).Perm (keepL row' g z) := (p.filter _).append_right _
theorem StepOk.mv {n : Nat} {row row' : List Str} {z : Str} {b : Bool} {g : Option Str} (h : StepOk n row z b g row') (nd : row.Nodup) : Mv n row z (if b then 0 else 1) row' := by
  have hb := h.b_eq
  have hg := h.g_eq
  by_cases c1 : z ∈ row
  · rw [decide_eq_true c1] at hb
    subst hb
    have : g = none := by cases g with
      | none => rfl
      | some y => cases hg
    subst this
    exact .met c1 (h.perm.trans (keepL_met nd c1))
  · rw [decide_eq_false c1] at hb
    subst hb
    by_cases c2 : row.length = n
    · rw [decide_eq_true c2] at hg
      cases g with
      | none => cases hg
      | some y =>
        have hp := h.perm
        rw [keepL_full nd c1] at hp
        exact .full c1 c2 (h.g_mem y rfl) (hp.trans (List.perm_append_singleton _ _))
    · rw [decide_eq_false c2] at hg
      have : g = none := by cases g with
        | none => rfl
        | some y => cases hg
      subst this
      have hp := h.perm
      rw [keepL_free c1] at hp
      exact .free c1 c2 (hp.trans (List.perm_append_singleton _ _))
structure RunOk (ws : List Str) (n : Nat) (ps : List (Bool × Option Str)) (ρ : Nat → List Str) : Prop where
  len : ps.length = ws.length
  zero : ρ 0 = []
  nd : ∀ i, (ρ i).Nodup
  le : ∀ i, (ρ i).length ≤ n
  step : ∀ i z, ws[i]? = some z → ∃ b g, ps[i]? = some (b, g) ∧ StepOk n (ρ i) z b g (ρ (i + 1))
theorem RunOk.cost {ws : List Str} {n : Nat} {ps : List (Bool × Option Str)} {ρ : Nat → List Str} (h : RunOk ws n ps ρ) : ∀ i, i ≤ ws.length → costB ws n 0 [] ws ≤ ((ps.map (·.1)).take i).count false + costB ws n i (ρ i) (ws.drop i)
  | 0, _ => by
    rw [h.zero, List.drop_zero]
    exact Nat.le_add_left _ _
  | i + 1, hi => by
    have ih := h.cost i (by omega)
    have hz : ws[i]? = some ws[i] := List.getElem?_eq_getElem (by omega)
    have hd : ws.drop i = ws[i] :: ws.drop (i + 1) := List.drop_eq_getElem_cons (by omega)
    obtain ⟨b, g, hp, st⟩ := h.step i _ hz
    generalize ws[i] = z at hz hd st
    have m := mv_best hd (h.nd i) (st.mv (h.nd i))
    rw [hd] at ih
    rw [List.take_add_one, List.getElem?_map, hp, List.count_append]
    have : (Option.map (·.1) (some (b, g))).toList.count false = if b then 0 else 1 := by cases b <;> rfl
    rw [this]
    omega
theorem RunOk.least {ws : List Str} {n : Nat} {ps : List (Bool × Option Str)} {ρ : Nat → List Str} (h : RunOk ws n ps ρ) : (metB ws (n : Int)).count false ≤ (ps.map (·.1)).count false := by
  have e : (metB ws (n : Int)).count false = costB ws n 0 [] ws := costB_count ws n ws 0 []
  have h1 := h.cost ws.length (Nat.le_refl _)
  rw [List.drop_length, List.take_of_length_le (by rw [List.length_map, h.len]; exact Nat.le_refl _)] at h1
  rw [e]
  exact h1
/-- the law's own row -/
def hereP (ws : List Str) (ps : List (Bool × Option Str)) : Nat → List Str
  | 0 => []
  | i + 1 => keepL (hereP ws ps i) (ps.getD i (true, none)).2 (ws.getD i ⟨#[]⟩)
theorem hereP_perm {ws : List Str} {n : Nat} {ps : List (Bool × Option Str)} {ρ : Nat → List Str} (h : RunOk ws n ps ρ) : ∀ i, i ≤ ws.length → (hereP ws ps i).Perm (ρ i)
  | 0, _ => by rw [h.zero]; exact List.Perm.refl _
  | i + 1, hi => by
    have ih := hereP_perm h i (by omega)
    have hz : ws[i]? = some ws[i] := List.getElem?_eq_getElem (by omega)
    obtain ⟨b, g, hp, st⟩ := h.step i _ hz
    show (keepL (hereP ws ps i) (ps.getD i (true, none)).2 (ws.getD i ⟨#[]⟩)).Perm _
    rw [List.getD_eq_getElem?_getD, List.getD_eq_getElem?_getD, hp, hz]
    exact (keepL_perm ih).trans st.perm.symm
/-! the best way's and the rules' -/
theorem stepB_stepOk {ws : List Str} {n k : Nat} {row : List Str} {z : Str} (nd : row.Nodup) (n1 : 1 ≤ n) : StepOk n row z (stepB ws (n : Int) k row z).1 (stepB ws (n : Int) k row z).2.1 (stepB ws (n : Int) k row z).2.2 := by
  unfold stepB
  by_cases c1 : z ∈ row
  · rw [if_pos c1]
    exact ⟨(decide_eq_true c1).symm, rfl, fun y e => (by cases e), (keepL_met nd c1).symm⟩
  · rw [if_neg c1]
    by_cases c2 : row.length = n
    · rw [if_pos (by rw [c2])]
      have hne : row ≠ [] := fun q => by rw [q] at c2; simp at c2; omega
      refine ⟨(decide_eq_false c1).symm, by rw [decide_eq_true c2]; rfl, fun y e => ?_, ?_⟩
      · rw [← Option.some.inj e]
        exact pickB_mem hne
      · rw [keepL_full nd c1]
    · rw [if_neg (by omega)]
      refine ⟨(decide_eq_false c1).symm, by rw [decide_eq_false c2]; rfl, fun y e => (by cases e), ?_⟩
      rw [keepL_free c1]
theorem nf_perm {nf : Str → List Str → List Str} (hnf : nf = nfOld ∨ nf = nfCold) {z : Str} {row : List Str} (h : z ∈ row) : (nf z row).Perm row := by
  rcases hnf with e | e <;> subst e
  · exact List.Perm.refl _
  · unfold nfCold
    exact (List.perm_append_singleton _ _).trans (List.perm_cons_erase h).symm
theorem stepOC_stepOk {nf : Str → List Str → List Str} (hnf : nf = nfOld ∨ nf = nfCold) {n : Nat} {row : List Str} {z : Str} (nd : row.Nodup) (n1 : 1 ≤ n) (hl : row.length ≤ n) : StepOk n row z (stepOC nf (n : Int) row z).1 (stepOC nf (n : Int) row z).2.1 (stepOC nf (n : Int) row z).2.2 := by
  unfold stepOC
  by_cases c1 : z ∈ row
  · rw [if_pos c1]
    exact ⟨(decide_eq_true c1).symm, rfl, fun y e => (by cases e), (nf_perm hnf c1).trans (keepL_met nd c1).symm⟩
  · rw [if_neg c1]
    by_cases c2 : row.length = n
    · rw [if_neg (by omega)]
      cases row with
      | nil => simp at c2; omega
      | cons x r =>
        refine ⟨(decide_eq_false c1).symm, by rw [decide_eq_true c2]; rfl, fun y e => ?_, ?_⟩
        · rw [← Option.some.inj e]
          exact List.mem_cons_self
        · show (nf z (r ++ [z])).Perm (keepL (x :: r) (some x) z)
          rw [keepL_full nd c1, List.erase_cons_head]
          exact nf_perm hnf (List.mem_append_right _ List.mem_cons_self)
    · rw [if_pos (by omega)]
      refine ⟨(decide_eq_false c1).symm, by rw [decide_eq_false c2]; rfl, fun y e => (by cases e), ?_⟩
      rw [keepL_free c1]
      exact nf_perm hnf (List.mem_append_right _ List.mem_cons_self)
theorem stepM_stepOk {n : Nat} {row marks : List Str} {rd : Int} {z : Str} (ok : MkOk (n : Int) row marks) (n1 : 1 ≤ n) : StepOk n row z (stepM (n : Int) row marks rd z).1 (stepM (n : Int) row marks rd z).2.1 (stepM (n : Int) row marks rd z).2.2.1 := by
  have hl : row.length ≤ n := by have := ok.le; omega
  unfold stepM
  by_cases c1 : z ∈ row
  · rw [if_pos c1]
    exact ⟨(decide_eq_true c1).symm, rfl, fun y e => (by cases e), (keepL_met ok.nd c1).symm⟩
  · rw [if_neg c1]
    by_cases c2 : row.length = n
    · rw [if_neg (by omega)]
      refine ⟨(decide_eq_false c1).symm, by rw [decide_eq_true c2]; rfl, fun y e => ?_, ?_⟩
      · rw [← Option.some.inj e]
        have hne : row ≠ [] := fun q => by rw [q] at c2; simp at c2; omega
        unfold pickM
        by_cases c3 : marks.length = row.length
        · rw [if_pos c3]
          exact minS_mem hne
        · rw [if_neg c3]
          have hf : row.filter (fun y => decide (y ∉ marks)) ≠ [] := fun e => by
            have hall : ∀ y ∈ row, y ∈ marks := fun y hy => by
              have := List.filter_eq_nil_iff.mp e y hy
              simpa using this
            have h1 := subset_len ok.nd hall
            have h2 := subset_len ok.md ok.sub
            omega
          exact (List.mem_filter.mp (minS_mem hf)).1
      · rw [keepL_full ok.nd c1]
    · rw [if_pos (by omega)]
      refine ⟨(decide_eq_false c1).symm, by rw [decide_eq_false c2]; rfl, fun y e => (by cases e), ?_⟩
      rw [keepL_free c1]
theorem run_best {ws : List Str} {n : Nat} (n1 : 1 ≤ n) (hn : ∀ z ∈ ws, IsName z) : RunOk ws n (pairsB ws (n : Int) 0 [] ws) (fun i => endB ws (n : Int) 0 [] (ws.take i)) := by
  have ok : ∀ i, OkB (n : Int) (endB ws (n : Int) 0 [] (ws.take i)) := fun i => endB_ok (by omega) ⟨by simp, List.nodup_nil, fun _ h => absurd h (by simp)⟩ fun z hz => hn z (List.mem_of_mem_take hz)
  refine ⟨pairsB_len .., by rw [List.take_zero]; rfl, fun i => (ok i).nd, fun i => by have := (ok i).le; omega, fun i z hz => ?_⟩
  have etake : ws.take (i + 1) = ws.take i ++ [z] := by rw [List.take_add_one, hz]; rfl
  have elen : 0 + (ws.take i).length = i := by
    have := (List.getElem?_eq_some_iff.mp hz).1
    rw [List.length_take]
    omega
  refine ⟨_, _, pairsB_get hz, ?_⟩
  rw [Nat.zero_add, etake, endB_snoc, elen]
  exact stepB_stepOk (ok i).nd n1
theorem pairsR_at {r : Rule} {n : Int} : ∀ {zs : List Str} {s : St3} {i : Nat} {z : Str}, zs[i]? = some z → (pairsR r n s zs)[i]? = some ((stepR r n (endR r n s (zs.take i)) z).1, (stepR r n (endR r n s (zs.take i)) z).2.1)
  | [], _, _, _, h => by simp at h
  | y :: ys, s, 0, z, h => by
    rw [← Option.some.inj (show some y = some z from h)]
    rfl
  | y :: ys, s, i + 1, z, h => pairsR_at (zs := ys) (s := (stepR r n s y).2.2) (i := i) h
theorem run_rule {r : Rule} {ws : List Str} {n : Nat} (n1 : 1 ≤ n) (hn : ∀ z ∈ ws, IsName z) : RunOk ws n (pairsR r (n : Int) st0 ws) (fun i => (endR r (n : Int) st0 (ws.take i)).row) := by
  have ok : ∀ i, OkR (n : Int) (endR r (n : Int) st0 (ws.take i)) := fun i => endR_ok (by omega) (okR0 (by omega)) fun z hz => hn z (List.mem_of_mem_take hz)
  refine ⟨pairsR_len .., by rw [List.take_zero]; rfl, fun i => (ok i).nd, fun i => by have := (ok i).le; omega, fun i z hz => ?_⟩
  have etake : ws.take (i + 1) = ws.take i ++ [z] := by rw [List.take_add_one, hz]; rfl
  refine ⟨_, _, pairsR_at hz, ?_⟩
  rw [etake, endR_snoc]
  have o := ok i
  generalize endR r (n : Int) st0 (ws.take i) = s at o
  have hl : s.row.length ≤ n := by have := o.le; omega
  cases r with
  | old => exact stepOC_stepOk (.inl rfl) o.nd n1 hl
  | cold => exact stepOC_stepOk (.inr rfl) o.nd n1 hl
  | marked => exact stepM_stepOk o n1
end Kf

namespace Kf
open PySem PySem.Spec PyProof.Rows L2
/-! ### stretches -/
/-- where z is wished, ahead of place j -/
def posW (ws : List Str) (z : Str) (j : Nat) : List Nat := (List.range j).filter fun k => decide (ws[k]? = some z)
def lastI (ws : List Str) (j : Nat) (z : Str) : Option Nat := (posW ws z j).getLast?
theorem posW_succ (ws : List Str) (z : Str) (j : Nat) : posW ws z (j + 1) = if ws[j]? = some z then posW ws z j ++ [j] else posW ws z j := by
  unfold posW
  rw [List.range_succ, List.filter_append]
  by_cases e : ws[j]? = some z
  · rw [if_pos e, List.filter_cons_of_pos (by simpa using e), List.filter_nil]
  · rw [if_neg e, List.filter_cons_of_neg (by simpa using e), List.filter_nil, List.append_nil]
theorem lastI_succ {ws : List Str} {j : Nat} {y : Str} (h : ws[j]? = some y) (z : Str) : lastI ws (j + 1) z = if z = y then some j else lastI ws j z := by
  unfold lastI
  rw [posW_succ, h]
  by_cases e : z = y
  · rw [if_pos e, if_pos (by rw [e]), List.getLast?_concat]
  · rw [if_neg e, if_neg (fun q => e (Option.some.inj q).symm)]
theorem posW_lt {ws : List Str} {z : Str} {j k : Nat} (h : k ∈ posW ws z j) : k < j ∧ ws[k]? = some z := by
  obtain ⟨h1, h2⟩ := List.mem_filter.mp h
  exact ⟨List.mem_range.mp h1, of_decide_eq_true h2⟩
theorem lastI_lt {ws : List Str} {z : Str} {j k : Nat} (h : lastI ws j z = some k) : k < j ∧ ws[k]? = some z := posW_lt (List.mem_of_getLast? h)
/-- the stretches that end ahead of place i -/
def strsW (ws : List Str) (i : Nat) : List (Nat × Nat) := (List.range i).filterMap fun j => (ws[j]?).bind fun z => (lastI ws j z).map fun k => (k, j)
theorem strsW_succ {ws : List Str} {i : Nat} {z : Str} (h : ws[i]? = some z) : strsW ws (i + 1) = match lastI ws i z with | some k => strsW ws i ++ [(k, i)] | none => strsW ws i := by
  unfold strsW
  rw [List.range_succ, List.filterMap_append]
  cases e : lastI ws i z with
  | none => rw [List.filterMap_cons_none (by rw [h]; show (lastI ws i z).map _ = none; rw [e]; rfl), List.filterMap_nil, List.append_nil]
  | some k => rw [List.filterMap_cons_some (b := (k, i)) (by rw [h]; show (lastI ws i z).map _ = _; rw [e]; rfl), List.filterMap_nil]
theorem strsW_len (ws : List Str) (i : Nat) : (strsW ws i).length ≤ i := by
  unfold strsW
  exact Nat.le_trans (List.length_filterMap_le _ _) (by rw [List.length_range]; omega)
theorem strsW_mem {ws : List Str} {i : Nat} {p : Nat × Nat} (h : p ∈ strsW ws i) : p.2 < i ∧ ∃ z, ws[p.2]? = some z ∧ lastI ws p.2 z = some p.1 := by
  unfold strsW at h
  obtain ⟨j, hj, e⟩ := List.mem_filterMap.mp h
  obtain ⟨z, hz, e⟩ := Option.bind_eq_some_iff.mp e
  obtain ⟨k, hk, e⟩ := Option.map_eq_some_iff.mp e
  subst e
  exact ⟨List.mem_range.mp hj, z, hz, hk⟩
section
variable {P : Program} {w : World} {K : PySem.W.Frag} {mg : Str → Option Value} {base : Heap} {tb : Addr}
def spStretches (tb : Addr) : Sp := fun vs H Q _ => ∃ (a : Addr) (ws : List Str), vs = [.ref a] ∧ H a = some (.lst (ws.map V.str)) ∧ ws.length ≤ 300 ∧ (∀ z ∈ ws, IsName z) ∧ GxR.TabG H tb ∧
  ∀ (o : Addr) (ts : List Addr) (H' : Hp), H o = none → H' o = some (.lst (ts.map V.ref)) → TsAt nnV H' ts (strsW ws ws.length) → (∀ t ∈ ts, H t = none) → Kp tb [] H H' → Q (.ref o) H'
theorem sc_stretches : FnScope ["wishes", "last", "found", "at", "name"] ["wishes"] (defScope s_stretches) := ⟨rfl, rfl, rfl, by decide +kernel, rfl, by decide +kernel, by decide +kernel⟩
theorem ok_stretches {f : Addr} {fd : FuncData} {k0 : Nat} (F : FnP K "stretches" "stretches" s_stretches f fd) (henum : mg "enumerate" = none) (GW : Glob P w K mg base CX0 (k0 + 1) "check_wishes" ["wishes"] (spCheckWishes K)) :
    FnOk P w K mg base CX0 (k0 + 2) f fd ["wishes"] (spStretches (tbOf K)) := by
  refine ok0 F sc_stretches (fun vs H Q E h => ?_) (fun cdv A outer s H vs Q E hr h => ?_)
  · obtain ⟨a, ws, rfl, _⟩ := h
    rfl
  · obtain ⟨a, ws, rfl, ha, hl, hn, tab, q⟩ := h
    have hu := hu_of hr
    refine ⟨_, pss_cons (ps_expr (pe_callG GW hr (by rfl) pass0 (pa_cons (pv 0) pa_nil)))
      (pss_cons (ps_set (i := 1) sc_stretches.nd rfl (.inl rfl) pe_dnewK)
      (pss_cons (ps_set (i := 2) sc_stretches.nd rfl (.inl rfl) (pe_lst pa_nil))
      (pss_cons (ps_for PassesOwn.never rfl (pi_enum (by rfl) henum (pa_cons (pv 0) pa_nil)) (pg_tup rfl (pgs_cons (pg_name (i := 3) sc_stretches.nd rfl (Or.inl rfl)) (pgs_cons (pg_name (i := 4) sc_stretches.nd rfl (Or.inl rfl)) pgs_nil)))
        (C8.pss_cut (ps_if (pt_cmp (pc_din hu (pv 4) (pv 1))) (pss_one (ps_expr (pe_bm PySem.F.plainAttrs_list PySem.F.slot_list_append PySem.F.type_list_append mt_append (pv 2) (pa_cons (pe_tup (pa_cons (pe_dget hu (pv 1) (pv 4) (fun _ _ => rfl)) (pa_cons (pv 3) pa_nil))) pa_nil)))) pss_nil)
        (pss_one (ps_dput hu (pv 1) (pv 4) (pv 3) rfl))))
      (pss_one (ps_ret (pv 2)))))), ?_⟩
    refine ⟨_, rfl, a, ws, rfl, ha, hl, hn, tab, fun H1 k1 d hd => ?_⟩
    have k2 : Kp (tbOf K) [] H1 (upd H1 d (.dK [])) := Kp.new hd
    have gd : (upd H1 d (.dK [])) d = some (.dK []) := upd_same
    have k12 := k1.trans k2
    have fd : H d = none := k1.free _ hd
    generalize upd H1 d (.dK []) = H2 at k2 gd k12 ⊢
    refine ⟨Nat.zero_le _, fun fa hfa => ?_⟩
    have k3 : Kp (tbOf K) [] H2 (upd H2 fa (.lst [])) := Kp.new hfa
    have gf : (upd H2 fa (.lst [])) fa = some (.lst []) := upd_same
    have gd3 := k3.get gd
    have k13 := k12.trans k3
    have ndf : d ≠ fa := ne_of_none gd hfa
    have ff : H fa = none := k12.free _ hfa
    generalize upd H2 fa (.lst []) = H3 at k3 gf gd3 k13 ⊢
    refine ⟨_, rfl, a, _, rfl, SqL.of (k13.get ha), ?_⟩
    refine for_it walk_enum (fun i σ H' => ∃ (kvs : List (Key × V)) (ts : List Addr) (v3 v4 : Option V), σ = [some (.ref a), some (.ref d), some (.ref fa), v3, v4] ∧ H' d = some (.dK kvs) ∧ kvs.length ≤ i ∧ (∀ z, valV kvs (Sum.inr z) = (lastI ws i z).map fun k => V.int (k : Nat)) ∧
      H' fa = some (.lst (ts.map V.ref)) ∧ TsAt nnV H' ts (strsW ws i) ∧ (∀ t ∈ ts, H t = none) ∧ Kp (tbOf K) [] H H')
      ⟨[], [], none, none, rfl, gd3, Nat.le_refl _, fun z => rfl, gf, trivial, fun _ h => absurd h (by simp), k13⟩ (fun i σ H' _ h => by obtain ⟨_, _, _, _, _, _, _, _, _, _, _, kp⟩ := h; exact SqL.of (kp.get ha)) ?_ ?_
    · rintro i x σ H4 H5 hi ⟨kvs, ts, v3, v4, rfl, hd4, hkl, hval, hf4, hp4, hts, kp⟩ ⟨Tp, x1, x2, rfl, nT, rfl, e1, e2⟩
      cases e1
      obtain ⟨z, hz, rfl⟩ := get_mapS e2
      rw [List.length_map] at hi
      refine ⟨Tp, _, rfl, SqT.of upd_same, rfl, _, _, rfl, _, _, rfl, rfl, ?_⟩
      have kT : Kp (tbOf K) [] H4 (upd H4 Tp (.tup [.int (i : Nat), .str z])) := Kp.new nT
      have hd5 := kT.get hd4
      have hf5 := kT.get hf4
      have hp5 := hp4.kp kT noTup_nil
      have kp5 := kp.trans kT
      generalize upd H4 Tp (.tup [.int (i : Nat), .str z]) = H5 at kT hd5 hf5 hp5 kp5 ⊢
      have hsl : (strsW ws i).length ≤ 300 := Nat.le_trans (strsW_len ws i) (by omega)
      refine ⟨fun σ H' => ∃ ts2 : List Addr, σ = [some (.ref a), some (.ref d), some (.ref fa), some (.int (i : Nat)), some (.str z)] ∧ H' d = some (.dK kvs) ∧ H' fa = some (.lst (ts2.map V.ref)) ∧ TsAt nnV H' ts2 (strsW ws (i + 1)) ∧ (∀ t ∈ ts2, H t = none) ∧ Kp (tbOf K) [] H H', ?_, ?_⟩
      · refine ⟨_, rfl, _, rfl, d, _, rfl, DGet.k (k := Sum.inr z) hd5, _, rfl, ?_⟩
        rw [hval z]
        have es := strsW_succ hz
        cases e : lastI ws i z with
        | none =>
          rw [e] at es
          refine iteF ⟨ts, rfl, hd5, hf5, ?_, hts, kp5⟩
          rw [es]; exact hp5
        | some k =>
          rw [e] at es
          refine iteT ⟨_, rfl, .inl ⟨rfl, _, SqL.of hf5⟩, _, rfl, _, rfl, d, .int (k : Nat), rfl, ?_, _, rfl, by show 2 ≤ sizeLine; decide, fun t ht => ?_⟩
          · have := DGet.k (k := Sum.inr z) hd5
            rw [hval z, e] at this
            exact this
          have kt : Kp (tbOf K) [] H5 (upd H5 t (.tup [.int (k : Nat), .int (i : Nat)])) := Kp.new ht
          have hf6 := kt.get hf5
          have hd6 := kt.get hd5
          have kf : Kp (tbOf K) [fa] (upd H5 t (.tup [.int (k : Nat), .int (i : Nat)])) (upd (upd H5 t (.tup [.int (k : Nat), .int (i : Nat)])) fa (.lst (ts.map V.ref ++ [.ref t]))) := Kp.put hf6
          have ntf : t ≠ fa := (ne_of_none hf5 ht).symm
          refine ⟨fa, _, _, rfl, rfl, hf6, by rw [List.length_map, hp5.len]; exact small_of (m := 300) hsl, ts ++ [t], rfl, by rw [upd_ne ndf]; exact hd6, by rw [upd_same, List.map_append]; rfl, ?_, ?_, ?_⟩
          · rw [es]
            exact TsAt.snoc (by rw [upd_ne ntf]; exact upd_same) ((hp5.kp kt noTup_nil).kp kf (noTup_nil.cons hf6 (fun _ z => by cases z)))
          · intro y hy
            rcases List.mem_append.mp hy with h | h
            · exact hts y h
            · rw [List.mem_singleton.mp h]; exact kp5.free _ ht
          · exact (kp5.trans kt).transN kf (fun y hy => by rw [List.mem_singleton.mp hy]; exact ff)
      · rintro σ H6 ⟨ts2, rfl, hd6, hf6, hp6, hts6, kp6⟩
        refine ⟨_, rfl, _, rfl, _, rfl, d, _, rfl, DPut.k (k := Sum.inr z) hd6 (small_of (m := 300) (by omega)), ?_⟩
        have k7 : Kp (tbOf K) [d] H6 (upd H6 d (.dK (putK kvs (Sum.inr z : Key) (.int (i : Nat))))) := Kp.put hd6
        refine ⟨_, ts2, _, _, rfl, upd_same, Nat.le_trans (putK_len z _ kvs) (by omega), fun y => ?_, k7.get hf6 rfl (by simp [ndf.symm]), hp6.kp k7 (noTup_nil.cons hd6 (fun _ z => by cases z)), hts6, kp6.transN k7 (fun y hy => by rw [List.mem_singleton.mp hy]; exact fd)⟩
        rw [valV_put, hval, lastI_succ hz]
        by_cases e : y = z
        · rw [if_pos (by rw [e]), if_pos e]; rfl
        · rw [if_neg (fun q => e (Sum.inr.inj q)), if_neg e]
    · rintro σ H4 ⟨kvs, ts, v3, v4, rfl, hd4, hkl, hval, hf4, hp4, hts, kp⟩
      rw [List.length_map] at hp4
      exact ⟨_, rfl, q fa ts H4 ff hf4 hp4 hts kp⟩
end
end Kf

namespace Kf
open PySem PySem.Spec PyProof.Rows L2
/-! ### over a bar: what a way keeps -/
theorem keepL_sub {row : List Str} {g : Option Str} {z y : Str} (h : y ∈ keepL row g z) : y ∈ row ∨ y = z := by
  unfold keepL at h
  rcases List.mem_append.mp h with q | q
  · exact .inl (List.mem_filter.mp q).1
  · exact .inr (List.mem_singleton.mp q)
/-- what is there ahead of wish i and wasn't wished from j on was there ahead of wish j -/
theorem RunOk.back {ws : List Str} {n : Nat} {ps : List (Bool × Option Str)} {ρ : Nat → List Str} (h : RunOk ws n ps ρ) {z : Str} : ∀ (k j : Nat), j + k ≤ ws.length → (∀ m, j ≤ m → m < j + k → ws[m]? ≠ some z) → z ∈ ρ (j + k) → z ∈ ρ j
  | 0, _, _, _, hz => hz
  | k + 1, j, hl, hn, hz => by
    have hw : ws[j + k]? = some ws[j + k] := List.getElem?_eq_getElem (by omega)
    obtain ⟨b, g, _, st⟩ := h.step (j + k) _ hw
    have hm := keepL_sub (st.perm.mem_iff.mp hz)
    refine h.back k j (by omega) (fun m h1 h2 => hn m h1 (by omega)) (hm.elim id fun e => ?_)
    exact absurd (by rw [hw, e]) (hn (j + k) (by omega) (by omega))
theorem RunOk.now {ws : List Str} {n : Nat} {ps : List (Bool × Option Str)} {ρ : Nat → List Str} (h : RunOk ws n ps ρ) {i : Nat} {z : Str} (hz : ws[i]? = some z) : z ∈ ρ (i + 1) := by
  obtain ⟨b, g, _, st⟩ := h.step i z hz
  refine st.perm.mem_iff.mpr ?_
  unfold keepL
  exact List.mem_append_right _ List.mem_cons_self
theorem lastI_none {ws : List Str} {z : Str} {l : Nat} : ∀ {j : Nat}, lastI ws j z = some l → ∀ m, l < m → m < j → ws[m]? ≠ some z
  | 0, h, _, _, hm => by omega
  | j + 1, h, m, h1, h2 => by
    by_cases hj : j < ws.length
    · have hw : ws[j]? = some ws[j] := List.getElem?_eq_getElem hj
      rw [lastI_succ hw] at h
      by_cases e : z = ws[j]
      · rw [if_pos e] at h
        have := Option.some.inj h
        omega
      · rw [if_neg e] at h
        rcases Nat.eq_or_lt_of_le (Nat.le_of_lt_succ h2) with q | q
        · rw [q, hw]
          exact fun r => e (Option.some.inj r).symm
        · exact lastI_none h m h1 q
    · by_cases hm : m < ws.length
      · have hpos : posW ws z (j + 1) = posW ws z j := by
          rw [posW_succ, if_neg]
          rw [List.getElem?_eq_none (by omega)]
          exact fun r => by cases r
        have h' : lastI ws j z = some l := by
          unfold lastI at h ⊢
          rw [← hpos]
          exact h
        exact lastI_none h' m h1 (by omega)
      · rw [List.getElem?_eq_none (by omega)]
        exact fun r => by cases r
def overB (b : Nat) (p : Nat × Nat) : Bool := decide (p.1 < b) && decide (b < p.2)
/-- a met stretch's thing is there behind the bar, and isn't the one wished there -/
theorem RunOk.over {ws : List Str} {n : Nat} {ps : List (Bool × Option Str)} {ρ : Nat → List Str} (h : RunOk ws n ps ρ) {b : Nat} {p : Nat × Nat} {z : Str} (hp : ws[p.2]? = some z) (hl : lastI ws p.2 z = some p.1) (ho : overB b p = true) (hm : z ∈ ρ p.2) : z ∈ ρ (b + 1) ∧ ws[b]? ≠ some z := by
  unfold overB at ho
  rw [Bool.and_eq_true, decide_eq_true_eq, decide_eq_true_eq] at ho
  have hlen := (List.getElem?_eq_some_iff.mp hp).1
  have hno := lastI_none hl
  refine ⟨?_, hno b ho.1 ho.2⟩
  have e : p.2 = (b + 1) + (p.2 - (b + 1)) := by omega
  refine h.back (p.2 - (b + 1)) (b + 1) (by omega) (fun m h1 h2 => hno m (by omega) (by omega)) ?_
  rw [← e]
  exact hm
end Kf

namespace Kf
open PySem PySem.Spec PyProof.Rows L2
theorem strsW_asc (ws : List Str) : ∀ i, (strsW ws i).Pairwise (fun p q => p.2 < q.2)
  | 0 => List.Pairwise.nil
  | i + 1 => by
    have ih := strsW_asc ws i
    by_cases hi : i < ws.length
    · have hz : ws[i]? = some ws[i] := List.getElem?_eq_getElem hi
      rw [strsW_succ hz]
      cases lastI ws i ws[i] with
      | none => exact ih
      | some k =>
        refine List.pairwise_append.mpr ⟨ih, List.pairwise_singleton _ _, fun p hp q hq => ?_⟩
        rw [List.mem_singleton.mp hq]
        exact (strsW_mem hp).1
    · have e : strsW ws (i + 1) = strsW ws i := by
        unfold strsW
        rw [List.range_succ, List.filterMap_append, List.filterMap_cons_none (by rw [List.getElem?_eq_none (by omega)]; rfl), List.filterMap_nil, List.append_nil]
      rw [e]
      exact ih
/-- the met stretches over a bar are fewer than the places -/
theorem RunOk.over_len {ws : List Str} {n : Nat} {ps : List (Bool × Option Str)} {ρ : Nat → List Str} (h : RunOk ws n ps ρ) {b N : Nat} (hb : b < ws.length) : ((strsW ws N).filter fun p => overB b p && decide ((ps.map (·.1))[p.2]? = some true)).length + 1 ≤ n := by
  have hw : ws[b]? = some ws[b] := List.getElem?_eq_getElem hb
  generalize ws[b] = x at hw
  have hx := h.now hw
  have inR : ∀ p ∈ (strsW ws N).filter fun p => overB b p && decide ((ps.map (·.1))[p.2]? = some true), ∃ z, ws[p.2]? = some z ∧ lastI ws p.2 z = some p.1 ∧ overB b p = true ∧ z ∈ ρ (b + 1) ∧ z ≠ x := fun p hp => by
    obtain ⟨h1, h2⟩ := List.mem_filter.mp hp
    rw [Bool.and_eq_true, decide_eq_true_eq] at h2
    obtain ⟨_, z, hz, hl⟩ := strsW_mem h1
    obtain ⟨b', g, hps, st⟩ := h.step p.2 z hz
    have hm : z ∈ ρ p.2 := by
      have := h2.2
      rw [List.getElem?_map, hps] at this
      have eb : b' = true := Option.some.inj this
      have := st.b_eq
      rw [eb] at this
      exact of_decide_eq_true this.symm
    obtain ⟨r1, r2⟩ := h.over hz hl h2.1 hm
    exact ⟨z, hz, hl, h2.1, r1, fun e => r2 (by rw [hw, e])⟩
  have asc := (strsW_asc ws N).filter fun p => overB b p && decide ((ps.map (·.1))[p.2]? = some true)
  generalize (strsW ws N).filter (fun p => overB b p && decide ((ps.map (·.1))[p.2]? = some true)) = L at inR asc
  have nd : (L.map fun p => ws.getD p.2 ⟨#[]⟩).Nodup := by
    refine List.pairwise_map.mpr (List.Pairwise.imp_of_mem (fun {p q} hp hq hlt e => ?_) asc)
    obtain ⟨z, hz, _, ho, _, _⟩ := inR p hp
    obtain ⟨z', hz', hl', ho', _, _⟩ := inR q hq
    rw [List.getD_eq_getElem?_getD, List.getD_eq_getElem?_getD, hz, hz'] at e
    have e : z = z' := e
    subst e
    unfold overB at ho ho'
    rw [Bool.and_eq_true, decide_eq_true_eq, decide_eq_true_eq] at ho ho'
    exact lastI_none hl' p.2 (by omega) hlt hz
  have hsub := subset_len (xs := x :: L.map fun p => ws.getD p.2 ⟨#[]⟩) (ys := ρ (b + 1)) (List.nodup_cons.mpr ⟨fun q => ?_, nd⟩) (fun y hy => ?_)
  · rw [List.length_cons, List.length_map] at hsub
    exact Nat.le_trans hsub (h.le _)
  · obtain ⟨p, hp, e⟩ := List.mem_map.mp q
    obtain ⟨z, hz, _, _, _, hne⟩ := inR p hp
    rw [List.getD_eq_getElem?_getD, hz] at e
    exact hne e
  · rcases List.mem_cons.mp hy with e | e
    · rw [e]; exact hx
    · obtain ⟨p, hp, e⟩ := List.mem_map.mp e
      obtain ⟨z, hz, _, _, hr, _⟩ := inR p hp
      rw [List.getD_eq_getElem?_getD, hz] at e
      have e : z = y := e
      rw [← e]
      exact hr
end Kf

namespace Kf
open PySem PySem.Spec PyProof.Rows L2
theorem countP_two {α : Type} {p q r : α → Bool} (h : ∀ x, p x = true → q x = true ∨ r x = true) : ∀ l : List α, l.countP p ≤ l.countP q + l.countP r
  | [] => Nat.le_refl _
  | x :: l => by
    have ih := countP_two h l
    rw [List.countP_cons, List.countP_cons, List.countP_cons]
    by_cases hp : p x = true
    · rcases h x hp with e | e
      · rw [if_pos hp, if_pos e]; omega
      · rw [if_pos hp, if_pos e]; omega
    · rw [if_neg hp]; omega
def metP (ps : List (Bool × Option Str)) (p : Nat × Nat) : Bool := decide ((ps.map (·.1))[p.2]? = some true)
def freeP (B : List Nat) (p : Nat × Nat) : Bool := !B.any fun b => overB b p
/-- by bars no way meets more -/
theorem RunOk.bars {ws : List Str} {n : Nat} {ps : List (Bool × Option Str)} {ρ : Nat → List Str} (h : RunOk ws n ps ρ) {N : Nat} : ∀ B : List Nat, (∀ b ∈ B, b < ws.length) → (strsW ws N).countP (metP ps) ≤ (strsW ws N).countP (fun p => metP ps p && freeP B p) + (n - 1) * B.length
  | [], _ => by
    refine Nat.le_trans (List.countP_mono_left fun p _ hp => ?_) (Nat.le_add_right _ _)
    rw [hp]
    rfl
  | b :: B, hB => by
    have ih := h.bars (N := N) B fun x hx => hB x (List.mem_cons_of_mem _ hx)
    have h2 := countP_two (p := fun p => metP ps p && freeP B p) (q := fun p => metP ps p && freeP (b :: B) p) (r := fun p => overB b p && metP ps p) (fun p hp => by
      rw [Bool.and_eq_true] at hp
      unfold freeP at *
      rw [List.any_cons, hp.1]
      cases ho : overB b p with
      | true => exact .inr rfl
      | false =>
        left
        rw [Bool.false_or]
        exact hp.2) (strsW ws N)
    have h3 := h.over_len (N := N) (hB b List.mem_cons_self)
    rw [← List.countP_eq_length_filter] at h3
    have h4 : (strsW ws N).countP (fun p => overB b p && metP ps p) ≤ n - 1 := by
      show (strsW ws N).countP (fun p => overB b p && decide ((ps.map (·.1))[p.2]? = some true)) ≤ n - 1
      omega
    rw [List.length_cons, Nat.mul_add, Nat.mul_one]
    omega
theorem RunOk.bars_free {ws : List Str} {n : Nat} {ps : List (Bool × Option Str)} {ρ : Nat → List Str} (h : RunOk ws n ps ρ) {N : Nat} (B : List Nat) (hB : ∀ b ∈ B, b < ws.length) : (strsW ws N).countP (metP ps) ≤ (strsW ws N).countP (freeP B) + (n - 1) * B.length := by
  refine Nat.le_trans (h.bars B hB) (Nat.add_le_add_right (List.countP_mono_left fun p _ hp => ?_) _)
  rw [Bool.and_eq_true] at hp
  exact hp.2
end Kf

namespace Kf
open PySem PySem.Spec PyProof.Rows L2
theorem lastI_not {ws : List Str} {z : Str} {j : Nat} (h : lastI ws j z = none) : ∀ m, m < j → ws[m]? ≠ some z := fun m hm e => by
  unfold lastI at h
  have hnil := List.getLast?_eq_none_iff.mp h
  have : m ∈ posW ws z j := List.mem_filter.mpr ⟨List.mem_range.mpr hm, decide_eq_true e⟩
  rw [hnil] at this
  cases this
/-- as many met wishes as met stretches -/
theorem RunOk.met_count {ws : List Str} {n : Nat} {ps : List (Bool × Option Str)} {ρ : Nat → List Str} (h : RunOk ws n ps ρ) : ∀ i, i ≤ ws.length → ((ps.map (·.1)).take i).count true = (strsW ws i).countP (metP ps)
  | 0, _ => rfl
  | i + 1, hi => by
    have ih := h.met_count i (by omega)
    have hz : ws[i]? = some ws[i] := List.getElem?_eq_getElem (by omega)
    obtain ⟨b, g, hp, st⟩ := h.step i _ hz
    generalize ws[i] = z at hz st
    have hmi : (ps.map (·.1))[i]? = some b := by rw [List.getElem?_map, hp]; rfl
    rw [List.take_add_one, hmi, List.count_append, ih, strsW_succ hz]
    cases hl : lastI ws i z with
    | some k =>
      show _ = (strsW ws i ++ [(k, i)]).countP (metP ps)
      rw [List.countP_append]
      refine congrArg _ ?_
      rw [List.countP_cons, List.countP_nil]
      unfold metP
      dsimp only
      rw [hmi]
      cases b <;> rfl
    | none =>
      show _ = (strsW ws i).countP (metP ps)
      cases b with
      | false => rfl
      | true =>
        exfalso
        have hm : z ∈ ρ i := of_decide_eq_true st.b_eq.symm
        have h0 := h.back (z := z) i 0 (by omega) (fun m _ h2 => lastI_not hl m (by omega)) (by rw [Nat.zero_add]; exact hm)
        rw [h.zero] at h0
        cases h0
end Kf

namespace Kf
open PySem PySem.Spec PyProof.Rows L2
/-! ### bars that allow no more than the best way meets -/
theorem greatest {Q : Nat → Prop} : ∀ m : Nat, (∀ x, x < m → ¬ Q x) ∨ ∃ c, c < m ∧ Q c ∧ ∀ x, c < x → x < m → ¬ Q x
  | 0 => .inl fun x h => absurd h (by omega)
  | m + 1 => by
    rcases Classical.em (Q m) with q | q
    · exact .inr ⟨m, by omega, q, fun x h1 h2 => by omega⟩
    · rcases greatest (Q := Q) m with h | ⟨c, h1, h2, h3⟩
      · refine .inl fun x hx => ?_
        rcases Nat.eq_or_lt_of_le (Nat.le_of_lt_succ hx) with e | e
        · rw [e]; exact q
        · exact h x e
      · refine .inr ⟨c, by omega, h2, fun x hx1 hx2 => ?_⟩
        rcases Nat.eq_or_lt_of_le (Nat.le_of_lt_succ hx2) with e | e
        · rw [e]; exact q
        · exact h3 x hx1 e
theorem bars_ex {rem : Nat → Prop} {R : Nat → Nat → Prop} {e : Nat → Nat} (he : ∀ c, rem c → c < e c) (hR : ∀ c x, rem c → ¬ R c x → x < e c) (mono : ∀ c x y, R c x → x ≤ y → R c y) (m : Nat) :
    ∃ B : List Nat, B.Pairwise (· < ·) ∧ (∀ b ∈ B, b < m ∧ rem b) ∧ (∀ c, rem c → c < m → c ∉ B → ∃ b, (b ∈ B ∨ b = m) ∧ c < b ∧ b < e c) ∧ (∀ b1 ∈ B, ∀ b2, (b2 ∈ B ∨ b2 = m) → b1 < b2 → R b1 b2) ∧ (∀ b ∈ B, ∀ x, rem x → b < x → ∃ y, R b y ∧ y < e x) := by
  induction m using Nat.strongRecOn with
  | _ m ih =>
    rcases greatest (Q := fun c => rem c ∧ R c m) m with h | ⟨c, hc, ⟨hr, hRc⟩, hlast⟩
    · refine ⟨[], List.Pairwise.nil, fun b hb => (by cases hb), fun c hr hc _ => ⟨m, .inr rfl, hc, hR c m hr fun q => h c hc ⟨hr, q⟩⟩, fun b hb => (by cases hb), fun b hb => (by cases hb)⟩
    · obtain ⟨B, i0, i1, i2, i3, i4⟩ := ih c hc
      have mem : ∀ b, b ∈ B ++ [c] ↔ b ∈ B ∨ b = c := fun b => by simp
      refine ⟨B ++ [c], List.pairwise_append.mpr ⟨i0, List.pairwise_singleton _ _, fun x hx y hy => by rw [List.mem_singleton.mp hy]; exact (i1 x hx).1⟩, fun b hb => ?_, fun x hr' hx hn => ?_, fun b1 h1 b2 h2 hlt => ?_, fun b hb x hrx hbx => ?_⟩
      · rcases (mem b).mp hb with q | q
        · exact ⟨Nat.lt_trans (i1 b q).1 hc, (i1 b q).2⟩
        · rw [q]; exact ⟨hc, hr⟩
      · have hn1 : x ∉ B := fun q => hn ((mem x).mpr (.inl q))
        have hn2 : x ≠ c := fun q => hn ((mem x).mpr (.inr q))
        by_cases q : x < c
        · obtain ⟨b, hb, r1, r2⟩ := i2 x hr' q hn1
          exact ⟨b, .inl ((mem b).mpr hb), r1, r2⟩
        · exact ⟨m, .inr rfl, hx, hR x m hr' fun r => hlast x (by omega) hx ⟨hr', r⟩⟩
      · rcases (mem b1).mp h1 with q | q
        · have hb1 := (i1 b1 q).1
          have base := i3 b1 q c (.inr rfl) hb1
          rcases h2 with r | r
          · rcases (mem b2).mp r with s | s
            · exact i3 b1 q b2 (.inl s) hlt
            · rw [s]; exact base
          · rw [r]; exact mono _ _ _ base (by omega)
        · subst q
          rcases h2 with r | r
          · rcases (mem b2).mp r with s | s
            · have := (i1 b2 s).1
              omega
            · omega
          · rw [r]; exact hRc
      · rcases (mem b).mp hb with q | q
        · exact i4 b q x hrx hbx
        · subst q
          refine ⟨m, hRc, ?_⟩
          by_cases r : x < m
          · exact hR x m hrx fun s => hlast x hbx r ⟨hrx, s⟩
          · have := he x hrx
            omega
theorem firstI_eq {ws : List Str} {y : Str} : ∀ (d k : Nat), ws[k + d]? = some y → (∀ m, k ≤ m → m < k + d → ws[m]? ≠ some y) → firstI ws k y = (k + d : Nat)
  | 0, k, h, _ => firstI_here h
  | d + 1, k, h, hn => by
    have hl := (List.getElem?_eq_some_iff.mp h).1
    have hk : ws[k]? = some ws[k] := List.getElem?_eq_getElem (by omega)
    have hne : y ≠ ws[k] := fun e => hn k (Nat.le_refl _) (by omega) (by rw [hk, ← e])
    rw [firstI_step hk hne, firstI_eq d (k + 1) (by rw [← h]; congr 1; omega) (fun m h1 h2 => hn m (by omega) (by omega))]
    congr 1
    omega
theorem firstI_is {ws : List Str} {y : Str} {k i : Nat} (hki : k ≤ i) (h : ws[i]? = some y) (hn : ∀ m, k ≤ m → m < i → ws[m]? ≠ some y) : firstI ws k y = (i : Nat) := by
  have e : i = k + (i - k) := by omega
  rw [e] at h hn ⊢
  exact firstI_eq _ _ h hn
theorem firstI_at {ws : List Str} {y : Str} : ∀ (d k : Nat), ws.length ≤ k + d → firstI ws k y < (ws.length : Nat) → ∃ i, k ≤ i ∧ i < ws.length ∧ ws[i]? = some y ∧ (∀ m, k ≤ m → m < i → ws[m]? ≠ some y) ∧ firstI ws k y = (i : Nat)
  | 0, k, hl, h => by
    have := firstI_ge ws k y
    omega
  | d + 1, k, hl, h => by
    have hk0 := firstI_ge ws k y
    have hk : ws[k]? = some ws[k] := List.getElem?_eq_getElem (by omega)
    by_cases e : y = ws[k]
    · have hk2 : ws[k]? = some y := hk.trans (congrArg some e.symm)
      exact ⟨k, Nat.le_refl _, by omega, hk2, fun m h1 h2 => by omega, firstI_here hk2⟩
    · rw [firstI_step hk e] at h ⊢
      obtain ⟨i, h1, h2, h3, h4, h5⟩ := firstI_at d (k + 1) (by omega) h
      refine ⟨i, by omega, h2, h3, fun m m1 m2 => ?_, h5⟩
      rcases Nat.eq_or_lt_of_le m1 with q | q
      · rw [← q, hk]
        exact fun r => e (Option.some.inj r).symm
      · exact h4 m q m2
/-- who leaves, goes -/
theorem RunOk.leave {ws : List Str} {n : Nat} {ps : List (Bool × Option Str)} {ρ : Nat → List Str} (h : RunOk ws n ps ρ) {c : Nat} {z : Str} (hc : c < ws.length) (h1 : z ∈ ρ c) (h2 : z ∉ ρ (c + 1)) : ps[c]? = some (false, some z) := by
  have hw : ws[c]? = some ws[c] := List.getElem?_eq_getElem hc
  obtain ⟨b, g, hp, st⟩ := h.step c _ hw
  have hk : z ∉ keepL (ρ c) g ws[c] := fun q => h2 (st.perm.mem_iff.mpr q)
  unfold keepL at hk
  rw [List.mem_append, List.mem_filter, List.mem_singleton] at hk
  have hg : g = some z := by
    refine Classical.byContradiction fun q => hk ?_
    by_cases e : z = ws[c]
    · exact .inr e
    · refine .inl ⟨h1, ?_⟩
      have : ¬ some z = g := fun r => q r.symm
      simp [this, e]
  have hb := st.g_eq
  rw [hg] at hb
  have hb : b = false := by
    cases b with
    | false => rfl
    | true => cases hb
  rw [hp, hg, hb]
theorem RunOk.left {ws : List Str} {n : Nat} {ps : List (Bool × Option Str)} {ρ : Nat → List Str} (h : RunOk ws n ps ρ) {z : Str} : ∀ (d j : Nat), z ∈ ρ j → z ∉ ρ (j + d) → j + d ≤ ws.length → ∃ c, j ≤ c ∧ c < j + d ∧ ps[c]? = some (false, some z)
  | 0, j, h1, h2, _ => absurd h1 h2
  | d + 1, j, h1, h2, hl => by
    by_cases q : z ∈ ρ (j + 1)
    · obtain ⟨c, c1, c2, c3⟩ := h.left d (j + 1) q (by rw [show j + 1 + d = j + (d + 1) by omega]; exact h2) (by omega)
      exact ⟨c, by omega, by omega, c3⟩
    · exact ⟨j, Nat.le_refl _, by omega, h.leave (by omega) h1 q⟩
theorem strsW_in {ws : List Str} {u : Str} {l f N : Nat} (hf : ws[f]? = some u) (hl : lastI ws f u = some l) (hN : f < N) : (l, f) ∈ strsW ws N := by
  unfold strsW
  refine List.mem_filterMap.mpr ⟨f, List.mem_range.mpr hN, ?_⟩
  rw [hf]
  show (lastI ws f u).map _ = _
  rw [hl]
  rfl
theorem countP_sum {α : Type} {p q r : α → Bool} : ∀ {l : List α}, (∀ x ∈ l, q x = true → p x = true ∧ r x = false) → (∀ x ∈ l, r x = true → p x = true) → l.countP q + l.countP r ≤ l.countP p
  | [], _, _ => Nat.le_refl _
  | x :: l, h1, h2 => by
    have ih := countP_sum (p := p) (q := q) (r := r) (l := l) (fun y hy => h1 y (List.mem_cons_of_mem _ hy)) (fun y hy => h2 y (List.mem_cons_of_mem _ hy))
    have a := h1 x List.mem_cons_self
    have b := h2 x List.mem_cons_self
    rw [List.countP_cons, List.countP_cons, List.countP_cons]
    cases hq : q x with
    | true =>
      obtain ⟨a1, a2⟩ := a hq
      rw [a1, a2]
      simp
      omega
    | false =>
      cases hr : r x with
      | true => rw [b hr]; simp; omega
      | false => simp; omega
theorem bars_sum {L : List (Nat × Nat)} {met : Nat × Nat → Bool} {k : Nat} : ∀ {B : List Nat}, B.Pairwise (· < ·) → (∀ b ∈ B, k ≤ L.countP fun p => overB b p && met p) → (∀ b1 ∈ B, ∀ b2 ∈ B, b1 < b2 → ∀ p ∈ L, met p = true → overB b1 p = true → overB b2 p = true → False) → L.countP (fun p => met p && freeP B p) + k * B.length ≤ L.countP met
  | [], _, _, _ => by
    rw [List.length_nil, Nat.mul_zero, Nat.add_zero]
    refine List.countP_mono_left fun p _ h => ?_
    rw [Bool.and_eq_true] at h
    exact h.1
  | b :: B, pw, hA, hB => by
    obtain ⟨pb, pw'⟩ := List.pairwise_cons.mp pw
    have ih := bars_sum (L := L) (met := met) (k := k) pw' (fun x hx => hA x (List.mem_cons_of_mem _ hx)) (fun x hx y hy => hB x (List.mem_cons_of_mem _ hx) y (List.mem_cons_of_mem _ hy))
    have hb := hA b List.mem_cons_self
    have hs := countP_sum (l := L) (p := fun p => met p && freeP B p) (q := fun p => met p && freeP (b :: B) p) (r := fun p => overB b p && met p) (fun p hp h => by
      rw [Bool.and_eq_true] at h
      have h2 := h.2
      unfold freeP at h2 ⊢
      rw [List.any_cons, Bool.not_or, Bool.and_eq_true, Bool.not_eq_true'] at h2
      rw [h.1, h2.1, h2.2]
      exact ⟨rfl, rfl⟩) (fun p hp h => by
      rw [Bool.and_eq_true] at h
      rw [h.2]
      show freeP B p = true
      unfold freeP
      rw [Bool.not_eq_true', List.any_eq_false]
      intro x hx e
      exact hB b List.mem_cons_self x (List.mem_cons_of_mem _ hx) (pb x hx) p hp h.2 h.1 e)
    rw [List.length_cons, Nat.mul_add, Nat.mul_one]
    omega
theorem freeP_no {B : List Nat} {p : Nat × Nat} (h : freeP B p = true) {b : Nat} (hb : b ∈ B) : overB b p = false := by
  unfold freeP at h
  rw [Bool.not_eq_true', List.any_eq_false] at h
  exact Bool.eq_false_iff.mpr (h b hb)
theorem overB_iff {b : Nat} {p : Nat × Nat} : overB b p = true ↔ p.1 < b ∧ b < p.2 := by
  unfold overB
  rw [Bool.and_eq_true, decide_eq_true_eq, decide_eq_true_eq]
theorem RunOk.met_iff {ws : List Str} {n : Nat} {ps : List (Bool × Option Str)} {ρ : Nat → List Str} (h : RunOk ws n ps ρ) {p : Nat × Nat} {z : Str} (hz : ws[p.2]? = some z) : metP ps p = true ↔ z ∈ ρ p.2 := by
  obtain ⟨b, g, hp, st⟩ := h.step _ _ hz
  unfold metP
  rw [decide_eq_true_eq, List.getElem?_map, hp]
  show some b = some true ↔ _
  rw [st.b_eq, Option.some_inj, decide_eq_true_eq]
theorem RunOk.bars_best {ws : List Str} {n : Nat} {ps : List (Bool × Option Str)} {ρ : Nat → List Str} (h : RunOk ws n ps ρ) (n1 : 1 ≤ n) (pk : ∀ c g, c < ws.length → ps[c]? = some (false, some g) → Pk (firstI ws (c + 1)) (ρ c) g) :
    ∃ B : List Nat, B.Pairwise (· < ·) ∧ (∀ b ∈ B, 0 < b ∧ b < ws.length) ∧ (strsW ws ws.length).countP (freeP B) + (n - 1) * B.length ≤ (strsW ws ws.length).countP (metP ps) := by
  let rem : Nat → Prop := fun c => c < ws.length ∧ ∃ g, ps[c]? = some (false, some g) ∧ firstI ws (c + 1) g < (ws.length : Nat)
  let R : Nat → Nat → Prop := fun c x => ∀ u ∈ ρ (c + 1), ws[c]? ≠ some u → firstI ws (c + 1) u ≤ (x : Nat)
  let e : Nat → Nat := fun c => match ps[c]? with
    | some (_, some g) => (firstI ws (c + 1) g).toNat
    | _ => 0
  have ee : ∀ c b g, ps[c]? = some (b, some g) → (e c : Int) = firstI ws (c + 1) g := fun c b g hp => by
    show ((match ps[c]? with | some (_, some g) => (firstI ws (c + 1) g).toNat | _ => 0 : Nat) : Int) = _
    rw [hp]
    have := firstI_ge ws (c + 1) g
    show ((firstI ws (c + 1) g).toNat : Int) = _
    omega
  have sub : ∀ c, c < ws.length → ∀ u ∈ ρ (c + 1), ws[c]? ≠ some u → u ∈ ρ c := fun c hc u hu hne => by
    have hw : ws[c]? = some ws[c] := List.getElem?_eq_getElem hc
    obtain ⟨b, g, _, st⟩ := h.step c _ hw
    exact (keepL_sub (st.perm.mem_iff.mp hu)).elim id fun q => absurd (by rw [hw, q]) hne
  have he : ∀ c, rem c → c < e c := fun c hr => by
    obtain ⟨hc, g, hp, hg⟩ := hr
    have := ee c _ g hp
    have := firstI_ge ws (c + 1) g
    omega
  have hR : ∀ c x, rem c → ¬ R c x → x < e c := fun c x hr hn => by
    obtain ⟨hc, g, hp, hg⟩ := hr
    refine Classical.byContradiction fun q => hn fun u hu hne => ?_
    have h1 := (pk c g hc hp).le (sub c hc u hu hne)
    have := ee c _ g hp
    omega
  have mono : ∀ c x y, R c x → x ≤ y → R c y := fun c x y hr hxy u hu hne => by
    have := hr u hu hne
    omega
  obtain ⟨B, i0, i1, i2, i3, i4⟩ := bars_ex he hR mono ws.length
  have hfree : ∀ p ∈ strsW ws ws.length, freeP B p = true → metP ps p = true := fun p hp hf => by
    obtain ⟨hlt, z, hz, hl⟩ := strsW_mem hp
    refine Classical.byContradiction fun hm => ?_
    have hno : z ∉ ρ p.2 := fun q => hm ((h.met_iff hz).mpr q)
    obtain ⟨hl1, hl2⟩ := lastI_lt hl
    have hin := h.now hl2
    obtain ⟨c, c1, c2, c3⟩ := h.left (p.2 - (p.1 + 1)) (p.1 + 1) hin (by rw [show p.1 + 1 + (p.2 - (p.1 + 1)) = p.2 by omega]; exact hno) (by omega)
    have hfi : firstI ws (c + 1) z = (p.2 : Nat) := firstI_is (by omega) hz fun m m1 m2 => lastI_none hl m (by omega) m2
    have hrem : rem c := ⟨by omega, z, c3, by rw [hfi]; omega⟩
    have hec : e c = p.2 := by
      have := ee c _ z c3
      omega
    by_cases hcB : c ∈ B
    · have := freeP_no hf hcB
      rw [overB_iff.mpr ⟨by omega, by omega⟩] at this
      cases this
    · obtain ⟨b, hb, b1, b2⟩ := i2 c hrem (by omega) hcB
      rcases hb with hb | hb
      · have := freeP_no hf hb
        rw [overB_iff.mpr ⟨by omega, by omega⟩] at this
        cases this
      · omega
  have hBB : ∀ b1 ∈ B, ∀ b2 ∈ B, b1 < b2 → ∀ p ∈ strsW ws ws.length, metP ps p = true → overB b1 p = true → overB b2 p = true → False := fun b1 h1 b2 h2 hlt p hp hm o1 o2 => by
    obtain ⟨hlp, z, hz, hl⟩ := strsW_mem hp
    have hin := (h.met_iff hz).mp hm
    obtain ⟨r1, r2⟩ := h.over hz hl o1 hin
    obtain ⟨o11, o12⟩ := overB_iff.mp o1
    obtain ⟨o21, o22⟩ := overB_iff.mp o2
    have hfi : firstI ws (b1 + 1) z = (p.2 : Nat) := firstI_is (by omega) hz fun m m1 m2 => lastI_none hl m (by omega) m2
    have := i3 b1 h1 b2 (.inl h2) hlt z r1 r2
    omega
  have hA : ∀ b ∈ B, n - 1 ≤ (strsW ws ws.length).countP fun p => overB b p && metP ps p := fun b hb => by
    obtain ⟨hbl, _, g, hp, hg⟩ := i1 b hb
    have hw : ws[b]? = some ws[b] := List.getElem?_eq_getElem hbl
    obtain ⟨b', g', hp', st⟩ := h.step b _ hw
    generalize ws[b] = z at hw st
    rw [hp] at hp'
    cases hp'
    have hzn : z ∉ ρ b := of_decide_eq_false st.b_eq.symm
    have hlen : (ρ b).length = n := by
      have := st.g_eq
      exact of_decide_eq_true (by simpa using this.symm)
    have hgm := st.g_mem g rfl
    have hperm := st.perm
    rw [keepL_full (h.nd b) hzn] at hperm
    have hlen1 : (ρ (b + 1)).length = n := by
      rw [hperm.length_eq, List.length_append, List.length_erase_of_mem hgm, List.length_singleton]
      have := List.length_pos_of_mem hgm
      omega
    have hzin := h.now hw
    have hxl : ((ρ (b + 1)).erase z).length = n - 1 := by rw [List.length_erase_of_mem hzin, hlen1]
    rw [← hxl, List.countP_eq_length_filter]
    have key := subset_len (xs := (ρ (b + 1)).erase z) (ys := ((strsW ws ws.length).filter fun p => overB b p && metP ps p).map fun p => ws.getD p.2 ⟨#[]⟩) ((h.nd _).erase z) (fun u hu => ?_)
    · rw [List.length_map] at key
      exact key
    · obtain ⟨hune, hu1⟩ := (List.Nodup.mem_erase_iff (h.nd _)).mp hu
      have hne : ws[b]? ≠ some u := by rw [hw]; exact fun q => hune (Option.some.inj q).symm
      have hub := sub b hbl u hu1 hne
      have hle := (pk b g hbl hp).le hub
      obtain ⟨f, f1, f2, f3, f4, f5⟩ := firstI_at (ws := ws) (y := u) ws.length (b + 1) (by omega) (by omega)
      have huf : u ∈ ρ f := Classical.byContradiction fun q => by
        obtain ⟨c, c1, c2, c3⟩ := h.left (f - (b + 1)) (b + 1) hu1 (by rw [show b + 1 + (f - (b + 1)) = f by omega]; exact q) (by omega)
        have hfi : firstI ws (c + 1) u = (f : Nat) := firstI_is (by omega) f3 fun m m1 m2 => f4 m (by omega) m2
        have hrem : rem c := ⟨by omega, u, c3, by rw [hfi]; omega⟩
        have hec := ee c _ u c3
        obtain ⟨y, y1, y2⟩ := i4 b hb c hrem (by omega)
        have := y1 u hu1 hne
        omega
      cases hl : lastI ws f u with
      | none =>
        exfalso
        have h0 := h.back (z := u) f 0 (by omega) (fun m _ h2 => lastI_not hl m (by omega)) (by rw [Nat.zero_add]; exact huf)
        rw [h.zero] at h0
        cases h0
      | some l =>
        obtain ⟨l1, l2⟩ := lastI_lt hl
        have hlb : l < b := by
          rcases Nat.lt_or_ge l b with q | q
          · exact q
          · exfalso
            rcases Nat.eq_or_lt_of_le q with r | r
            · exact hne (by rw [r]; exact l2)
            · exact f4 l r l1 l2
        refine List.mem_map.mpr ⟨(l, f), List.mem_filter.mpr ⟨strsW_in f3 hl f2, ?_⟩, ?_⟩
        · rw [Bool.and_eq_true]
          exact ⟨overB_iff.mpr ⟨hlb, by show b < f; omega⟩, (h.met_iff (p := (l, f)) f3).mpr huf⟩
        · show ws.getD f _ = u
          rw [List.getD_eq_getElem?_getD, f3]
          rfl
  refine ⟨B, i0, fun b hb => ⟨?_, (i1 b hb).1⟩, ?_⟩
  · obtain ⟨hbl, _, g, hp, hg⟩ := i1 b hb
    refine Nat.pos_of_ne_zero fun q => ?_
    subst q
    have := (pk 0 g hbl hp).mem
    rw [h.zero] at this
    cases this
  · refine Nat.le_trans (Nat.add_le_add_right ?_ _) (bars_sum i0 hA hBB)
    refine List.countP_mono_left fun p hp hf => ?_
    rw [Bool.and_eq_true]
    exact ⟨hfree p hp hf, hf⟩
theorem best_pk {ws : List Str} {n : Nat} (n1 : 1 ≤ n) (c : Nat) (g : Str) (hc : c < ws.length) (hp : (pairsB ws (n : Int) 0 [] ws)[c]? = some (false, some g)) : Pk (firstI ws (c + 1)) (endB ws (n : Int) 0 [] (ws.take c)) g := by
  have hw : ws[c]? = some ws[c] := List.getElem?_eq_getElem hc
  generalize ws[c] = z at hw
  have e := pairsB_get (ws := ws) (n := (n : Int)) (k := 0) (row := []) hw
  rw [hp, Nat.zero_add] at e
  generalize endB ws (n : Int) 0 [] (ws.take c) = row at e ⊢
  unfold stepB at e
  by_cases c1 : z ∈ row
  · rw [if_pos c1] at e
    cases e
  · rw [if_neg c1] at e
    by_cases c2 : (row.length : Int) = n
    · rw [if_pos c2] at e
      have hne : row ≠ [] := fun q => by rw [q] at c2; simp at c2; omega
      have : g = pickB (firstI ws (c + 1)) row := by
        have := congrArg (fun o : Option (Bool × Option Str) => o.bind (·.2)) e
        exact Option.some.inj this
      rw [this]
      exact pickB_pk hne
    · rw [if_neg c2] at e
      cases e
end Kf

namespace Kf
open PySem PySem.Spec PyProof.Rows L2
/-! ### the search for bars -/
/-- those of L within b and m -/
def btw (L : List (Nat × Nat)) (b m : Nat) : Nat := L.countP fun p => decide (b ≤ p.1) && decide (p.2 ≤ m)
theorem countP_or {α : Type} {p q r : α → Bool} (h : ∀ x, p x = (q x || r x)) (hd : ∀ x, q x = true → r x = false) : ∀ l : List α, l.countP p = l.countP q + l.countP r
  | [] => rfl
  | x :: l => by
    have ih := countP_or h hd l
    rw [List.countP_cons, List.countP_cons, List.countP_cons, ih, h x]
    cases hq : q x with
    | true => rw [hd x hq]; simp; omega
    | false => cases r x <;> simp <;> omega
theorem free_snoc {L : List (Nat × Nat)} {B : List Nat} {b m : Nat} (hL : ∀ p ∈ L, p.1 < p.2) (hB : ∀ x ∈ B, x < b) (hb : b ≤ m) :
    L.countP (fun p => freeP (B ++ [b]) p && decide (p.2 ≤ m)) = L.countP (fun p => freeP B p && decide (p.2 ≤ b)) + btw L b m := by
  unfold btw
  have e : L.countP (fun p => freeP (B ++ [b]) p && decide (p.2 ≤ m)) = L.countP (fun p => decide (p.1 < p.2) && (freeP (B ++ [b]) p && decide (p.2 ≤ m))) := List.countP_congr fun p hp => by simp [hL p hp]
  have e2 : L.countP (fun p => freeP B p && decide (p.2 ≤ b)) = L.countP (fun p => decide (p.1 < p.2) && (freeP B p && decide (p.2 ≤ b))) := List.countP_congr fun p hp => by simp [hL p hp]
  have e3 : L.countP (fun p => decide (b ≤ p.1) && decide (p.2 ≤ m)) = L.countP (fun p => decide (p.1 < p.2) && (decide (b ≤ p.1) && decide (p.2 ≤ m))) := List.countP_congr fun p hp => by simp [hL p hp]
  rw [e, e2, e3]
  refine countP_or (fun p => ?_) (fun p h => ?_) L
  · obtain ⟨l, j⟩ := p
    dsimp only
    by_cases h0 : l < j
    · rw [decide_eq_true h0]
      simp only [Bool.true_and]
      unfold freeP
      rw [List.any_append, List.any_cons, List.any_nil, Bool.or_false]
      by_cases h1 : j ≤ b
      · have : overB b (l, j) = false := by unfold overB; simp; omega
        rw [this, decide_eq_true h1, decide_eq_true (show j ≤ m by omega)]
        have : decide (b ≤ l) = false := by simp; omega
        rw [this]
        simp
      · rw [decide_eq_false h1]
        by_cases h2 : b ≤ l
        · have : overB b (l, j) = false := by unfold overB; simp; omega
          have hany : B.any (fun b => overB b (l, j)) = false := by
            rw [List.any_eq_false]
            intro x hx
            have := hB x hx
            unfold overB
            simp; omega
          rw [this, hany, decide_eq_true h2]
          simp
        · have : overB b (l, j) = true := by unfold overB; simp; omega
          rw [this, decide_eq_false h2]
          simp
    · rw [decide_eq_false h0]; simp
  · obtain ⟨l, j⟩ := p
    simp only [Bool.and_eq_true, decide_eq_true_eq] at h
    have : decide (b ≤ l) = false := by simp; omega
    rw [this]; simp
def ltP (p q : Nat × Nat) : Bool := decide (p.1 < q.1 ∨ (p.1 = q.1 ∧ p.2 < q.2))
/-- the first of the least -/
def minP : List (Nat × Nat) → Nat × Nat
  | [] => (0, 0)
  | p :: ps => ps.foldl (fun a y => if ltP y a = true then y else a) p
theorem minP_fold : ∀ (ps : List (Nat × Nat)) (p : Nat × Nat), (ps.foldl (fun a y => if ltP y a = true then y else a) p) ∈ p :: ps ∧ ∀ q ∈ p :: ps, (ps.foldl (fun a y => if ltP y a = true then y else a) p).1 ≤ q.1
  | [], p => ⟨List.mem_cons_self, fun q hq => by rw [List.mem_singleton.mp hq]; exact Nat.le_refl _⟩
  | y :: ps, p => by
    rw [List.foldl_cons]
    obtain ⟨h1, h2⟩ := minP_fold ps (if ltP y p = true then y else p)
    by_cases c : ltP y p = true
    · rw [if_pos c] at h1 h2 ⊢
      refine ⟨List.mem_cons_of_mem _ h1, fun q hq => ?_⟩
      rcases List.mem_cons.mp hq with e | e
      · have := h2 y List.mem_cons_self
        unfold ltP at c
        have c := of_decide_eq_true c
        rw [e]
        omega
      · exact h2 q e
    · rw [if_neg c] at h1 h2 ⊢
      refine ⟨?_, fun q hq => ?_⟩
      · rcases List.mem_cons.mp h1 with e | e
        · rw [e]; exact List.mem_cons_self
        · exact List.mem_cons_of_mem _ (List.mem_cons_of_mem _ e)
      · rcases List.mem_cons.mp hq with e | e
        · rw [e]; exact h2 p List.mem_cons_self
        · rcases List.mem_cons.mp e with e | e
          · have := h2 p List.mem_cons_self
            unfold ltP at c
            have c : ¬ (y.1 < p.1 ∨ (y.1 = p.1 ∧ y.2 < p.2)) := fun r => c (decide_eq_true r)
            rw [e]
            omega
          · exact h2 q (List.mem_cons_of_mem _ e)
theorem minP_spec {l : List (Nat × Nat)} (h : l ≠ []) : minP l ∈ l ∧ ∀ q ∈ l, (minP l).1 ≤ q.1 := by
  cases l with
  | nil => exact absurd rfl h
  | cons p ps => exact minP_fold ps p
/-- what stands to choose from, the latest first -/
def choW (L : List (Nat × Nat)) (A : List Nat) (at_ : Nat) : List (Nat × Nat) := (List.range at_).reverse.map fun b => (A.getD b 0 + btw L b at_, b)
def allW (L : List (Nat × Nat)) (n : Nat) : Nat → List Nat × List Nat
  | 0 => ([0], [0])
  | k + 1 => ((allW L n k).1 ++ [(minP (choW L (allW L n k).1 (k + 1))).1 + n - 1], (allW L n k).2 ++ [(minP (choW L (allW L n k).1 (k + 1))).2])
theorem allW_len (L : List (Nat × Nat)) (n : Nat) : ∀ k, (allW L n k).1.length = k + 1 ∧ (allW L n k).2.length = k + 1
  | 0 => ⟨rfl, rfl⟩
  | k + 1 => by
    obtain ⟨h1, h2⟩ := allW_len L n k
    unfold allW
    simp [h1, h2]
theorem allW_pre (L : List (Nat × Nat)) (n : Nat) {j : Nat} : ∀ {k : Nat}, j ≤ k → (allW L n k).1.getD j 0 = (allW L n j).1.getD j 0 ∧ (allW L n k).2.getD j 0 = (allW L n j).2.getD j 0
  | 0, h => by
    have : j = 0 := by omega
    subst this
    exact ⟨rfl, rfl⟩
  | k + 1, h => by
    rcases Nat.eq_or_lt_of_le h with e | e
    · rw [e]; exact ⟨rfl, rfl⟩
    · obtain ⟨i1, i2⟩ := allW_pre L n (j := j) (k := k) (by omega)
      obtain ⟨l1, l2⟩ := allW_len L n k
      rw [← i1, ← i2]
      show ((allW L n k).1 ++ _).getD j 0 = _ ∧ ((allW L n k).2 ++ _).getD j 0 = _
      rw [List.getD_eq_getElem?_getD, List.getD_eq_getElem?_getD, List.getD_eq_getElem?_getD, List.getD_eq_getElem?_getD, List.getElem?_append_left (by omega), List.getElem?_append_left (by omega)]
      exact ⟨rfl, rfl⟩
def alW (L : List (Nat × Nat)) (n m : Nat) : Nat := (allW L n m).1.getD m 0
def ahW (L : List (Nat × Nat)) (n m : Nat) : Nat := (allW L n m).2.getD m 0
theorem alW_step (L : List (Nat × Nat)) {n k : Nat} (n1 : 1 ≤ n) : ahW L n (k + 1) < k + 1 ∧ alW L n (k + 1) = alW L n (ahW L n (k + 1)) + btw L (ahW L n (k + 1)) (k + 1) + (n - 1) ∧
    ∀ b, b < k + 1 → alW L n (k + 1) ≤ alW L n b + btw L b (k + 1) + (n - 1) := by
  obtain ⟨l1, l2⟩ := allW_len L n k
  have ea : alW L n (k + 1) = (minP (choW L (allW L n k).1 (k + 1))).1 + n - 1 := by
    show ((allW L n k).1 ++ [_]).getD (k + 1) 0 = _
    rw [List.getD_eq_getElem?_getD, List.getElem?_append_right (by omega), l1, Nat.sub_self]
    rfl
  have eh : ahW L n (k + 1) = (minP (choW L (allW L n k).1 (k + 1))).2 := by
    show ((allW L n k).2 ++ [_]).getD (k + 1) 0 = _
    rw [List.getD_eq_getElem?_getD, List.getElem?_append_right (by omega), l2, Nat.sub_self]
    rfl
  have hne : choW L (allW L n k).1 (k + 1) ≠ [] := by
    unfold choW
    rw [List.range_succ, List.reverse_append]
    simp
  obtain ⟨h1, h2⟩ := minP_spec hne
  have ch : ∀ b, b < k + 1 → (alW L n b + btw L b (k + 1), b) ∈ choW L (allW L n k).1 (k + 1) := fun b hb => by
    refine List.mem_map.mpr ⟨b, List.mem_reverse.mpr (List.mem_range.mpr hb), ?_⟩
    rw [(allW_pre L n (j := b) (k := k) (by omega)).1]
    rfl
  have hch := h1
  unfold choW at hch
  obtain ⟨b, hb, e⟩ := List.mem_map.mp hch
  have hb' : b < k + 1 := List.mem_range.mp (List.mem_reverse.mp hb)
  have e1 : (minP (choW L (allW L n k).1 (k + 1))).1 = (allW L n k).1.getD b 0 + btw L b (k + 1) := (congrArg Prod.fst e).symm
  have e2 : (minP (choW L (allW L n k).1 (k + 1))).2 = b := (congrArg Prod.snd e).symm
  rw [(allW_pre L n (j := b) (k := k) (by omega)).1] at e1
  have e1 : (minP (choW L (allW L n k).1 (k + 1))).1 = alW L n b + btw L b (k + 1) := e1
  refine ⟨by rw [eh, e2]; exact hb', ?_, fun b' hb2 => ?_⟩
  · rw [ea, eh, e2, e1]; omega
  · have := h2 _ (ch b' hb2)
    rw [ea]
    dsimp only at this
    omega
theorem btw_zero (L : List (Nat × Nat)) (m : Nat) : L.countP (fun p => freeP [] p && decide (p.2 ≤ m)) = btw L 0 m := by
  unfold btw
  refine List.countP_congr fun p _ => ?_
  unfold freeP
  simp
theorem alW_le {L : List (Nat × Nat)} {n : Nat} (hL : ∀ p ∈ L, p.1 < p.2) (n1 : 1 ≤ n) : ∀ (k m : Nat) (B : List Nat), B.length = k → 1 ≤ m → B.Pairwise (· < ·) → (∀ b ∈ B, 0 < b ∧ b < m) → alW L n m ≤ L.countP (fun p => freeP B p && decide (p.2 ≤ m)) + (n - 1) * k + (n - 1)
  | 0, m, B, hk, hm, _, _ => by
    have : B = [] := List.length_eq_zero_iff.mp hk
    subst this
    obtain ⟨m, rfl⟩ : ∃ j, m = j + 1 := ⟨m - 1, by omega⟩
    have := (alW_step L (k := m) n1).2.2 0 (by omega)
    have h0 : alW L n 0 = 0 := rfl
    rw [btw_zero]
    omega
  | k + 1, m, B, hk, hm, pw, hB => by
    obtain ⟨m, rfl⟩ : ∃ j, m = j + 1 := ⟨m - 1, by omega⟩
    rcases List.eq_nil_or_concat B with e | ⟨B', b, e⟩
    · rw [e] at hk; cases hk
    · subst e
      rw [List.concat_eq_append] at *
      obtain ⟨pw1, _, pw2⟩ := List.pairwise_append.mp pw
      have hb := hB b (List.mem_append_right _ List.mem_cons_self)
      have hlt : ∀ x ∈ B', x < b := fun x hx => pw2 x hx b List.mem_cons_self
      have ih := alW_le hL n1 k b B' (by simpa using hk) hb.1 pw1 fun x hx => ⟨(hB x (List.mem_append_left _ hx)).1, hlt x hx⟩
      have := (alW_step L (k := m) n1).2.2 b hb.2
      rw [free_snoc hL hlt (by omega), Nat.mul_add, Nat.mul_one]
      omega
/-- from bar to bar, back -/
def chainW (H : List Nat) : Nat → Nat → List Nat
  | 0, _ => []
  | f + 1, b => if b = 0 then [] else b :: chainW H f (H.getD b 0)
theorem chainW_zero (H : List Nat) : ∀ f, chainW H f 0 = []
  | 0 => rfl
  | f + 1 => by unfold chainW; rw [if_pos rfl]
theorem told_ok {L : List (Nat × Nat)} {n N : Nat} (hL : ∀ p ∈ L, p.1 < p.2) (n1 : 1 ≤ n) (m : Nat) : ∀ f, 1 ≤ m → m ≤ N → m ≤ f + 1 → (chainW (allW L n N).2 f (ahW L n m)).reverse.Pairwise (· < ·) ∧ (∀ b ∈ (chainW (allW L n N).2 f (ahW L n m)).reverse, 0 < b ∧ b < m) ∧
    L.countP (fun p => freeP (chainW (allW L n N).2 f (ahW L n m)).reverse p && decide (p.2 ≤ m)) + (n - 1) * (chainW (allW L n N).2 f (ahW L n m)).reverse.length + (n - 1) = alW L n m := by
  induction m using Nat.strongRecOn with
  | _ m ih =>
    intro f hm hN hf
    obtain ⟨m, rfl⟩ : ∃ j, m = j + 1 := ⟨m - 1, by omega⟩
    obtain ⟨s1, s2, _⟩ := alW_step L (k := m) n1
    generalize ahW L n (m + 1) = b at s1 s2 ⊢
    by_cases hb : b = 0
    · subst hb
      rw [chainW_zero, List.reverse_nil]
      refine ⟨List.Pairwise.nil, fun b h => (by cases h), ?_⟩
      have h0 : alW L n 0 = 0 := rfl
      rw [btw_zero, s2, h0, List.length_nil]
      omega
    · obtain ⟨f, rfl⟩ : ∃ j, f = j + 1 := ⟨f - 1, by omega⟩
      have e : chainW (allW L n N).2 (f + 1) b = b :: chainW (allW L n N).2 f (ahW L n b) := by
        rw [chainW, if_neg hb, (allW_pre L n (j := b) (k := N) (by omega)).2]
        rfl
      rw [e, List.reverse_cons]
      obtain ⟨i1, i2, i3⟩ := ih b s1 f (by omega) (by omega) (by omega)
      generalize (chainW (allW L n N).2 f (ahW L n b)).reverse = B at i1 i2 i3 ⊢
      refine ⟨List.pairwise_append.mpr ⟨i1, List.pairwise_singleton _ _, fun x hx y hy => by rw [List.mem_singleton.mp hy]; exact (i2 x hx).2⟩, fun x hx => ?_, ?_⟩
      · rcases List.mem_append.mp hx with q | q
        · have := i2 x q
          omega
        · rw [List.mem_singleton.mp q]
          omega
      · rw [free_snoc hL (fun x hx => (i2 x hx).2) (by omega), List.length_append, List.length_singleton, Nat.mul_add, Nat.mul_one, s2, ← i3]
        omega
def barsW (ws : List Str) (n : Nat) : List Nat := (chainW (allW (strsW ws ws.length) n ws.length).2 ws.length ((allW (strsW ws ws.length) n ws.length).2.getD ws.length 0)).reverse
theorem strsW_lt {ws : List Str} {N : Nat} : ∀ p ∈ strsW ws N, p.1 < p.2 := fun p hp => by
  obtain ⟨_, z, _, hl⟩ := strsW_mem hp
  exact (lastI_lt hl).1
theorem free_all {ws : List Str} {B : List Nat} : (strsW ws ws.length).countP (fun p => freeP B p && decide (p.2 ≤ ws.length)) = (strsW ws ws.length).countP (freeP B) :=
  List.countP_congr fun p hp => by
    obtain ⟨h, _⟩ := strsW_mem hp
    rw [decide_eq_true (show p.2 ≤ ws.length by omega), Bool.and_true]
theorem bars_right {ws : List Str} {n : Nat} (n1 : 1 ≤ n) : (barsW ws n).Pairwise (· < ·) ∧ ∀ b ∈ barsW ws n, 0 < b ∧ b < ws.length := by
  unfold barsW
  by_cases h0 : ws.length = 0
  · rw [h0]
    exact ⟨List.Pairwise.nil, fun b h => by cases h⟩
  · obtain ⟨h1, h2, _⟩ := told_ok (L := strsW ws ws.length) (n := n) (N := ws.length) strsW_lt n1 ws.length ws.length (by omega) (Nat.le_refl _) (by omega)
    exact ⟨h1, h2⟩
theorem RunOk.bars_just {ws : List Str} {n : Nat} {ps : List (Bool × Option Str)} {ρ : Nat → List Str} (h : RunOk ws n ps ρ) (n1 : 1 ≤ n) (pk : ∀ c g, c < ws.length → ps[c]? = some (false, some g) → Pk (firstI ws (c + 1)) (ρ c) g) :
    (strsW ws ws.length).countP (freeP (barsW ws n)) + (n - 1) * (barsW ws n).length = (ps.map (·.1)).count true := by
  have hc := h.met_count ws.length (Nat.le_refl _)
  rw [List.take_of_length_le (by rw [List.length_map, h.len]; exact Nat.le_refl _)] at hc
  rw [hc]
  have up := h.bars_free (N := ws.length) (barsW ws n) fun b hb => ((bars_right n1).2 b hb).2
  refine Nat.le_antisymm ?_ up
  by_cases h0 : ws.length = 0
  · have : barsW ws n = [] := by
      unfold barsW
      rw [h0]
      rfl
    rw [this, h0]
    exact Nat.le_refl _
  · obtain ⟨B, b1, b2, b3⟩ := h.bars_best n1 pk
    have lo := alW_le (L := strsW ws ws.length) strsW_lt n1 _ ws.length B rfl (by omega) b1 b2
    obtain ⟨_, _, t⟩ := told_ok (L := strsW ws ws.length) (n := n) (N := ws.length) strsW_lt n1 ws.length ws.length (by omega) (Nat.le_refl _) (by omega)
    rw [free_all] at lo t
    have t : (strsW ws ws.length).countP (freeP (barsW ws n)) + (n - 1) * (barsW ws n).length + (n - 1) = alW (strsW ws ws.length) n ws.length := t
    omega
end Kf

namespace Kf
open PySem PySem.Spec PyProof.Rows L2
/-! ### min of pairs of whole numbers -/
def encP (p : Nat × Nat) : PyData := PyData.tuple (nnD p)
theorem encP_lt (p q : Nat × Nat) : PySem.W.dataLt (encP p) (encP q) = ltP p q := by
  show PySem.W.dataLt (.tuple [.int (p.1 : Nat), .int (p.2 : Nat)]) (.tuple [.int (q.1 : Nat), .int (q.2 : Nat)]) = _
  rw [PySem.W.dataLt_ii]
  unfold ltP
  refine decide_eq_decide.mpr ?_
  omega
theorem minD_enc : ∀ (ps : List (Nat × Nat)) (p : Nat × Nat), PySem.W.minD (encP p) (ps.map encP) = encP (minP (p :: ps)) := by
  intro ps
  unfold PySem.W.minD minP
  dsimp only
  induction ps with
  | nil => exact fun p => rfl
  | cons y ps ih =>
    intro p
    rw [List.map_cons, List.foldl_cons, List.foldl_cons, encP_lt]
    by_cases c : ltP y p = true
    · rw [if_pos c, if_pos c]; exact ih y
    · rw [if_neg c, if_neg c]; exact ih p
theorem encP_inj {p q : Nat × Nat} (h : encP p = encP q) : p = q := by
  unfold encP nnD at h
  injection h with h
  injection h with h1 h2
  injection h2 with h2 _
  injection h1 with h1
  injection h2 with h2
  exact Prod.ext (by omega) (by omega)
def rMinNN (K : PySem.W.Frag) : List V → Hp → VK → Prop := fun vs H Q => ∃ (a : Addr) (ts : List Addr) (ps : List (Nat × Nat)), vs = [V.ref a] ∧ SqL K H a (ts.map V.ref) ∧ TsAt nnV H ts ps ∧ ps ≠ [] ∧ ∀ t ∈ ts, H t = some (.tup (nnV (minP ps))) → Q (.ref t) H
section
variable {X : Cx}
theorem alike_enc (p q : Nat × Nat) : PySem.W.alike (encP p) (encP q) = true := rfl
theorem depth_enc : ∀ ps : List (Nat × Nat), PyData.depthAll (ps.map encP) ≤ 2
  | [] => by decide
  | p :: ps => by
    rw [List.map_cons, PyData.depthAll]
    refine Nat.max_le.mpr ⟨?_, depth_enc ps⟩
    show PyData.depth (.tuple [.int _, .int _]) ≤ 2
    simp [PyData.depth, PyData.depthAll]
theorem cr_minNN (hc : X.calm = true) (hu : X.A.units + 64 < cLine) : CallR X (.builtin "min") (rMinNN X.K) := by
  intro pins s σ H vs us Q I r h
  obtain ⟨a, ts, ps, rfl, hs, hp, hne, q⟩ := h
  obtain ⟨its, rv, hl, _⟩ := I.list hs
  rw [Vals.ref1 r]
  obtain ⟨e1, e2⟩ := refs_back rv fun x m => by
    obtain ⟨t, _, e⟩ := List.mem_map.mp m
    exact ⟨t, e.symm⟩
  have hdp := hp.dp (K := X.K) (g := nnD) (fun p => nn_dp p)
  obtain ⟨as, hr⟩ := Dp.readsAll I _ _ _ hdp rv
  cases ps with
  | nil => exact absurd rfl hne
  | cons p ps =>
    have hr : PySem.ReadsAll s.heap its.toArray.toList (encP p :: ps.map encP) as := hr
    have hmem : ∀ x ∈ encP p :: ps.map encP, ∃ y, x = encP y := fun x hx => by
      rcases List.mem_cons.mp hx with e | e
      · exact ⟨p, e⟩
      · obtain ⟨y, _, e⟩ := List.mem_map.mp e
        exact ⟨y, e.symm⟩
    refine PySem.W.min_list_data (I.ok.hd hc) hl.isList hr ⟨fun x hx y hy => ?_, fun x hx => ?_⟩ ?_ fun i v h' tk bs hv hrd hk => ?_
    · obtain ⟨x, rfl⟩ := hmem x hx
      obtain ⟨y, rfl⟩ := hmem y hy
      rfl
    · obtain ⟨x, rfl⟩ := hmem x hx
      intro z
      cases z
    · have := depth_enc (p :: ps)
      rw [List.map_cons] at this
      omega
    · rw [minD_enc] at hrd
      obtain ⟨cs, rc, hi, _, _⟩ := PySem.W.readsAll_atA hr i v hv
      obtain ⟨ed, _⟩ := PyProof.Rows.reads_det (fun b o e _ => hk b o e) rc hrd
      have hvi : its[i]? = some v := by simpa using hv
      obtain ⟨t, rfl⟩ := e2 v (List.mem_of_getElem? hvi)
      have hti : (ts.map V.ref)[i]? = some (.ref t) := by
        rw [e1, List.getElem?_map, hvi]
        rfl
      obtain ⟨t', x, et, hx, ht, hmt⟩ := hp.get hti
      cases et
      have ex : (encP p :: ps.map encP).getD i PyData.none = encP x := by
        have : ((p :: ps).map encP)[i]? = some (encP x) := by rw [List.getElem?_map, hx]; rfl
        rw [List.getD_eq_getElem?_getD]
        rw [List.map_cons] at this
        rw [this]
        rfl
      rw [ex] at ed
      have := encP_inj ed
      subst this
      exact ⟨.ref t, H, I.kept (t' := tk) fun b u e => hk b u e, rfl, q t (List.mem_of_getElem? hmt) ht⟩
end
end Kf

namespace Kf
open PySem PySem.Spec PyProof.Rows L2
/-! ### the bar ahead -/
def agW (L : List (Nat × Nat)) (b : Nat) : Option Nat := (L.find? fun p => decide (p.1 = b)).map (·.2)
theorem one_at {b m : Nat} : ∀ {L : List (Nat × Nat)}, L.Pairwise (fun p q => p.1 ≠ q.1) → (L.countP fun p => decide (p.1 = b) && decide (p.2 ≤ m)) = match agW L b with | some l => if l ≤ m then 1 else 0 | none => 0
  | [], _ => rfl
  | p :: L, pw => by
    obtain ⟨h1, h2⟩ := List.pairwise_cons.mp pw
    rw [List.countP_cons]
    unfold agW
    by_cases e : p.1 = b
    · rw [List.find?_cons_of_pos (by simpa using e)]
      have h0 : (L.countP fun p => decide (p.1 = b) && decide (p.2 ≤ m)) = 0 := by
        rw [List.countP_eq_zero]
        intro q hq r
        rw [Bool.and_eq_true, decide_eq_true_eq] at r
        exact h1 q hq (e.trans r.1.symm)
      rw [h0]
      simp [e]
    · rw [List.find?_cons_of_neg (by simpa using e), one_at h2]
      unfold agW
      simp [e]
theorem btw_step {L : List (Nat × Nat)} (pw : L.Pairwise fun p q => p.1 ≠ q.1) (b m : Nat) : btw L b m = btw L (b + 1) m + match agW L b with | some l => if l ≤ m then 1 else 0 | none => 0 := by
  rw [← one_at pw]
  unfold btw
  refine countP_or (fun p => ?_) (fun p h => ?_) L
  · by_cases h1 : p.1 = b
    · simp [h1]
    · by_cases h2 : b + 1 ≤ p.1
      · simp [h1, h2, show b ≤ p.1 by omega]
      · simp [h1, h2, show ¬ b ≤ p.1 by omega]
  · rw [Bool.and_eq_true, decide_eq_true_eq] at h
    have := h.1
    simp
    omega
theorem btw_end {L : List (Nat × Nat)} (hL : ∀ p ∈ L, p.1 < p.2) (m : Nat) : btw L m m = 0 := by
  unfold btw
  rw [List.countP_eq_zero]
  intro p hp h
  have := hL p hp
  simp at h
  omega
theorem choW_get {L : List (Nat × Nat)} {A : List Nat} {m i : Nat} (hi : i < m) : (choW L A m)[i]? = some (A.getD (m - 1 - i) 0 + btw L (m - 1 - i) m, m - 1 - i) := by
  unfold choW
  rw [List.getElem?_map, List.getElem?_reverse (by rw [List.length_range]; exact hi), List.length_range, List.getElem?_range (by omega)]
  rfl
theorem choW_len (L : List (Nat × Nat)) (A : List Nat) (m : Nat) : (choW L A m).length = m := by
  unfold choW
  simp
def natL (A : List Nat) : List V := A.map fun x => V.int (x : Nat)
theorem natL_snoc (A : List Nat) (x : Nat) : natL A ++ [V.int (x : Nat)] = natL (A ++ [x]) := by
  unfold natL
  rw [List.map_append]
  rfl
theorem natL_len (A : List Nat) : (natL A).length = A.length := List.length_map _
theorem natL_get {A : List Nat} {i : Nat} (h : i < A.length) : (natL A)[i]? = some (V.int (A.getD i 0 : Nat)) := by
  unfold natL
  rw [List.getElem?_map, List.getD_eq_getElem?_getD, List.getElem?_eq_getElem h]
  rfl
section
variable {P : Program} {w : World} {K : PySem.W.Frag} {mg : Str → Option Value} {base : Heap} {tb : Addr} {C : Rule → Addr} {CG : Addr}
def spLeast (tb : Addr) : Sp := fun vs H Q _ => ∃ (al ag : Addr) (A : List Nat) (L : List (Nat × Nat)) (kvs : List (Key × V)), vs = [.int (A.length : Nat), .ref al, .ref ag] ∧ H al = some (.lst (natL A)) ∧ H ag = some (.dK kvs) ∧ 1 ≤ A.length ∧ A.length ≤ 300 ∧
  (∀ b : Nat, valV kvs (Sum.inl (b : Int)) = (agW L b).map fun l => V.int (l : Nat)) ∧ L.Pairwise (fun p q => p.1 ≠ q.1) ∧ (∀ p ∈ L, p.1 < p.2) ∧ GxR.TabG H tb ∧
  ∀ (t : Addr) (H' : Hp), H t = none → H' t = some (.tup (nnV (minP (choW L A A.length)))) → Kp tb [] H H' → Q (.ref t) H'
abbrev n_least : List Str := ["at", "allowed", "again", "choices", "between", "bar"]
theorem sc_least : FnScope n_least ["at", "allowed", "again"] (defScope s__least_allowed) := ⟨rfl, rfl, rfl, by decide +kernel, rfl, by decide +kernel, by decide +kernel⟩
theorem ok_least {f : Addr} {fd : FuncData} {k0 : Nat} (F : FnP K "_least_allowed" "_least_allowed" s__least_allowed f fd) (hrange : mg "range" = none) (hmin : mg "min" = none) :
    FnOk P w K mg base CX0 (k0 + 1) f fd ["at", "allowed", "again"] (spLeast (tbOf K)) := by
  refine ok0 F sc_least (fun vs H Q E h => ?_) (fun cdv A outer s H vs Q E hr h => ?_)
  · obtain ⟨al, ag, A, L, kvs, rfl, _⟩ := h
    rfl
  · obtain ⟨al, ag, A, L, kvs, rfl, hal, hag, hA, hA3, hk, pw, hL, tab, q⟩ := h
    have hu := hu_of hr
    refine ⟨_, (pss_cons (ps_set (i := 3) sc_least.nd rfl (Or.inl rfl) (pe_lst pa_nil))
      (pss_cons (ps_set (i := 4) sc_least.nd rfl (Or.inl rfl) pe_int)
      (pss_cons (ps_for PassesOwn.never rfl (pi_range3 (by rfl) hrange (pa_cons (pe_op op_sub (pv 0) pe_int) (pa_cons (pe_un un_neg pe_int) (pa_cons (pe_un un_neg pe_int) pa_nil)))) (pg_name (i := 5) sc_least.nd rfl (Or.inl rfl))
        (C8.pss_cut (ps_if (PW.pt (pw_and (pt_cmp (pc_din hu (pv 5) (pv 2))) (pw_and1 (pt_cmpR op_le (pe_dget hu (pv 2) (pv 5) (fun _ _ => rfl)) (pv 0) (nomark _)))))
          (pss_one (ps_aug (i := 4) sc_least.nd rfl (Or.inl rfl) pe_int ip_add))
          pss_nil)
        (pss_one (ps_expr (pe_bm PySem.F.plainAttrs_list PySem.F.slot_list_append PySem.F.type_list_append mt_append (pv 3) (pa_cons (pe_tup (pa_cons (pe_op op_add (pe_ix ix_list (pv 1) (pv 5) (fun _ _ => rfl)) (pv 4)) (pa_cons (pv 5) pa_nil))) pa_nil))))))
      (pss_one (ps_ret (pe_callB (cr_minNN rfl hr.units) (by rfl) hmin (by decide +kernel) (pa_cons (pv 3) pa_nil))))))), ?_⟩
    refine ⟨Nat.zero_le _, fun ch hch => ?_⟩
    have k1 : Kp (tbOf K) [] H (upd H ch (.lst [])) := Kp.new hch
    have g1 : (upd H ch (.lst [])) ch = some (.lst []) := upd_same
    generalize upd H ch (.lst []) = H1 at k1 g1 ⊢
    refine ⟨_, rfl, _, _, rfl, rfl, _, rfl, _, rfl, _, _, _, A.length, rfl, ?_, ?_⟩
    · have := RgC.neg (i := ((A.length : Nat) : Int) - 1) (j := -1) (by omega) (by omega) (by omega) (by omega)
      rw [show (((A.length : Nat) : Int) - 1 - -1).toNat = A.length by omega] at this
      exact this
    refine for_it walk_rangeC (fun i σ H' => ∃ (ts : List Addr) (v5 : Option V), σ = [some (.int (A.length : Nat)), some (.ref al), some (.ref ag), some (.ref ch), some (.int (btw L (A.length - i) A.length : Nat)), v5] ∧ H' ch = some (.lst (ts.map V.ref)) ∧ TsAt nnV H' ts ((choW L A A.length).take i) ∧ (∀ t ∈ ts, H t = none) ∧ Kp (tbOf K) [] H H')
      ⟨[], none, by rw [Nat.sub_zero, btw_end hL]; rfl, g1, trivial, fun _ h => absurd h (by simp), k1⟩ (fun _ _ _ _ _ => trivial) ?_ ?_
    · rintro i x σ H2 H3 hi ⟨ts, v5, rfl, hc, hp, hts, kp⟩ ⟨rfl, rfl⟩
      obtain ⟨b, hb⟩ : ∃ b, A.length - 1 - i = b := ⟨_, rfl⟩
      have eb : ((A.length : Nat) : Int) - 1 + ((i : Nat) : Int) * -1 = ((b : Nat) : Int) := by omega
      dsimp only
      rw [eb, show A.length - i = b + 1 by omega, show A.length - (i + 1) = b by omega]
      have hstep := btw_step pw b A.length
      refine ⟨fun σ H' => σ = [some (.int (A.length : Nat)), some (.ref al), some (.ref ag), some (.ref ch), some (.int (btw L b A.length : Nat)), some (.int (b : Nat))] ∧ H' = H3, ?_, ?_⟩
      · refine ⟨_, rfl, _, rfl, ag, _, rfl, DGet.k (k := Sum.inl (b : Int)) (kp.get hag), _, rfl, ?_⟩
        rw [hk b]
        cases e : agW L b with
        | none =>
          rw [e] at hstep
          refine iteF (iteF ⟨?_, rfl⟩)
          rw [hstep]
          rfl
        | some l =>
          rw [e] at hstep
          have hd := DGet.k (k := Sum.inl (b : Int)) (kp.get hag)
          rw [hk b, e] at hd
          refine iteT ⟨_, rfl, _, rfl, ag, .int (l : Nat), rfl, hd, _, rfl, _, _, rfl, rfl, _, rfl, ?_⟩
          by_cases c : l ≤ A.length
          · rw [decide_eq_true (show ((l : Nat) : Int) ≤ ((A.length : Nat) : Int) by omega)]
            simp only [if_pos c] at hstep
            refine iteT ⟨_, rfl, _, _, rfl, rfl, ?_, rfl⟩
            rw [hstep]
            rfl
          · rw [decide_eq_false (show ¬ ((l : Nat) : Int) ≤ ((A.length : Nat) : Int) by omega)]
            simp only [if_neg c] at hstep
            refine iteF ⟨?_, rfl⟩
            rw [hstep]
            rfl
      · rintro σ H4 ⟨rfl, rfl⟩
        have hgA := natL_get (A := A) (i := b) (by omega)
        refine ⟨_, rfl, .inl ⟨rfl, _, SqL.of hc⟩, _, rfl, _, rfl, al, _, _, .int (A.getD b 0 : Nat), rfl, rfl, SqL.of (kp.get hal), at_of (j := b) rfl hgA, _, rfl, _, _, rfl, rfl, _, rfl, by show 2 ≤ sizeLine; decide, fun t ht => ?_⟩
        have kt : Kp (tbOf K) [] H4 (upd H4 t (.tup (nnV (A.getD b 0 + btw L b A.length, b)))) := Kp.new ht
        have gt : (upd H4 t (.tup (nnV (A.getD b 0 + btw L b A.length, b)))) t = some (.tup (nnV (A.getD b 0 + btw L b A.length, b))) := upd_same
        have hc5 := kt.get hc
        have hp5 := hp.kp kt noTup_nil
        have kp5 := kp.trans kt
        have etup : HO.tup [V.int (((A.getD b 0 : Nat) : Int) + ((btw L b A.length : Nat) : Int)), V.int (b : Nat)] = .tup (nnV (A.getD b 0 + btw L b A.length, b)) := rfl
        have htl : ts.length = i := by rw [hp.len, List.length_take, choW_len]; omega
        rw [etup]
        generalize upd H4 t (.tup (nnV (A.getD b 0 + btw L b A.length, b))) = H5 at kt gt hc5 hp5 kp5 ⊢
        have kf : Kp (tbOf K) [ch] H5 (upd H5 ch (.lst (ts.map V.ref ++ [.ref t]))) := Kp.put hc5
        refine ⟨ch, _, _, rfl, rfl, hc5, by rw [List.length_map, htl]; exact small_of (m := 300) (by omega), ts ++ [t], _, rfl, by rw [upd_same, List.map_append]; rfl, ?_, ?_, ?_⟩
        · rw [List.take_add_one, choW_get hi, hb]
          exact TsAt.snoc (kf.get gt rfl (by simpa using (ne_of_none hc ht).symm)) (hp5.kp kf (noTup_nil.cons hc5 (fun _ z => by cases z)))
        · intro y hy
          rcases List.mem_append.mp hy with h | h
          · exact hts y h
          · rw [List.mem_singleton.mp h]; exact kp.free _ ht
        · exact kp5.transN kf (fun y hy => by rw [List.mem_singleton.mp hy]; exact hch)
    · rintro σ H2 ⟨ts, v5, rfl, hc, hp, hts, kp⟩
      rw [List.take_of_length_le (by rw [choW_len]; exact Nat.le_refl _)] at hp
      refine ⟨_, rfl, ch, ts, _, rfl, SqL.of hc, hp, fun e => ?_, fun t hmt ht => ?_⟩
      · have := choW_len L A A.length
        rw [e] at this
        simp at this
        omega
      · exact q t _ (hts t hmt) ht kp
end
end Kf

namespace Kf
open PySem PySem.Spec PyProof.Rows L2
/-! ### y = {k: v for ..} -/
section
variable {X : Cx}
theorem ps_setDc {i : Nat} {y : Str} {py : Pos} {kx vx tg iter : Expr} {ifs : List Expr} {scope : Scope} {own : List (Str × Nat)} {pos spos : Pos} {wi : TI} {g : TG} {tt : TT} {tk tv : TE} (hc : X.calm = true) (hN : X.N.Nodup) (hy : X.N[i]? = some y)
    (hyl : X.env.scope.names.lookup y = some .local) (hsw : swapsWith (.DictComp kx vx [⟨tg, iter, ifs, 0⟩] scope pos) (some (.Name y py)) spos.line X.env = pure true) (hi : PI X tg iter wi) (ok : BlkOk X.N X.env.scope scope own)
    (hg : ∀ (s : Shared) (H : Hp) (C : Addr) (cl : List (Str × Addr)) (fp : List Addr), PG (X.blk s H scope (compEnvC scope cl C X.env) fp) tg g)
    (ht : ∀ (s : Shared) (H : Hp) (C : Addr) (cl : List (Str × Addr)) (fp : List Addr), PTs (X.blk s H scope (compEnvC scope cl C X.env) fp) ifs tt) (hk : ∀ (s : Shared) (H : Hp) (C : Addr) (cl : List (Str × Addr)) (fp : List Addr), PE (X.blk s H scope (compEnvC scope cl C X.env) fp) kx tk)
    (hv : ∀ (s : Shared) (H : Hp) (C : Addr) (cl : List (Str × Addr)) (fp : List Addr), PE (X.blk s H scope (compEnvC scope cl C X.env) fp) vx tv) (hs : ∀ x, foldedSetIterable iter X.env x = pure x := by intro _; rfl) :
    PS X (.Assign [.Name y py] (.DictComp kx vx [⟨tg, iter, ifs, 0⟩] scope pos) spos) (tAsg (tDc wi g tt tk tv (own.map (·.2))) (gName i)) := by
  refine ⟨fun pins s σ H D I h => ?_⟩; rw [exec_Assign_Name_used _ _ _ _ hsw]; refine wpAny_bind (wpAny_standAt (wpAny_bind ?_))
  show wpAny _ X.A (do let _ ← comprehension (.DictComp kx vx [⟨tg, iter, ifs, 0⟩] scope pos) scope X.env (firstIterPos [⟨tg, iter, ifs, 0⟩] pos) newDict false (eval iter X.env) (some (assign (.Name y py) X.env))) _ _ s
  have h2 : tDc wi g tt tk tv (own.map (·.2)) σ H (fun x H1 => gName i x σ H1 D.nx) := h
  refine wpAny_bind (thn (dc_core (Qf := fun _ s' => SP X pins D .next s') hc hN I hi ok hg ht hk hv hs h2 fun L Cc s' m H' I' q hn fpk => ?_) fun _ s' hq => wpAny_pure (wpAny_pure hq))
  show wpAny _ _ (assign (.Name y py) X.env (.ref L)) _ _ _
  refine wpAny_assign_Name (store_ok2 (v := V.ref L) I' hN hy (.inl hyl) rfl (fun s2 I2 ⟨a, sb, ha⟩ => ?_) (.inr hyl)); obtain ⟨f0, f1, f2, f3, f4, f5⟩ := fpk
  have hne : Cc ≠ a := ha.elim (fun z => by rw [z]; exact f1) fun z e => f4 y a z e.symm
  exact ⟨m, hn.sameBut sb hne, fun h3 sb3 => ⟨_, H', I2.turned (t' := s2.toks) (fun b o hb e => (sb3.2 b hb).trans e) f0 f1 f3 f4 f5, q⟩⟩
theorem sw_trueD {kx vx : Expr} {gs : List Comprehension} {scope : Scope} {pos py : Pos} {y : Str} {l : Nat} {env : Env} (hk : env.scope.kind = .function) (hy : env.scope.names.lookup y = some .local)
    (hl : (py.line == pos.line) = true) (ha : (scope.names.any fun (n, k) => n == y && (k == .local || k == .cell)) = false) : swapsWith (.DictComp kx vx gs scope pos) (some (.Name y py)) l env = pure true := by
  have k1 : env.kindOf y = some .local := hy
  have k2 : env.blockKind = .function := by unfold Env.blockKind; rw [hk] <;> rfl
  unfold swapsWith; simp only [k2, k1, ha, Expr.pos, hl]; rfl
end
end Kf

namespace Kf
open PySem PySem.Spec PyProof.Rows L2
theorem dc_it {J : It} {n : Nat} {G : Hp → Prop} {Y : Nat → Hp → V → Hp → Prop} (wk : Walk J n G Y) {g : TG} {tt : TT} {tk tv : TE} {vs : List Nat} {σ : L2.St} {H1 : Hp} {D : Addr} {Qd : Hp → Prop} (Pv : Nat → Hp → Prop) (h0 : Pv 0 (upd H1 D (.dK [])))
    (hG : ∀ i H, i ≤ n → Pv i H → G H)
    (hs : ∀ i x H H', i < n → Pv i H → Y i H x H' → g x (wipe σ vs) H' fun σ2 H2 => wipe σ2 vs = wipe σ vs ∧ tt σ2 H2 fun b H3 =>
      if b = true then tk σ2 H3 fun y H4 => tv σ2 H4 fun z H5 => ∃ kvs k, y = kV k ∧ H5 D = some (.dK kvs) ∧ kvs.length < sizeLine ∧ Pv (i + 1) (upd H5 D (.dK (putK kvs k z))) else Pv (i + 1) H3) (hd : ∀ H, Pv n H → Qd H) :
    ∃ W : Nat → Nat → Hp → Prop, (∃ m, W 0 m (upd H1 D (.dK []))) ∧ ∀ i m H, W i m H →
      ((J.stop i H ∧ Qd H) ∨ (J.go i H ∧ ∃ Nx : Hp → Prop, (∀ H', Nx H' → ∃ m', m' < m ∧ W (i + 1) m' H') ∧ ∀ x H', J.yld i H x H' → g x (wipe σ vs) H' fun σ2 H2 => wipe σ2 vs = wipe σ vs ∧ tt σ2 H2 fun b H3 =>
        if b = true then tk σ2 H3 fun y H4 => tv σ2 H4 fun z H5 => ∃ kvs k, y = kV k ∧ H5 D = some (.dK kvs) ∧ kvs.length < sizeLine ∧ Nx (upd H5 D (.dK (putK kvs k z))) else Nx H3)) := by
  refine ⟨fun j left H => left + j = n ∧ Pv j H, ⟨n, rfl, h0⟩, fun j left H hyp => ?_⟩
  obtain ⟨e, p⟩ := hyp
  have q := hG j H (by omega) p
  rcases Nat.lt_or_ge j n with c | c
  · refine .inr ⟨wk.goes j H c q, Pv (j + 1), fun H' p' => ⟨left - 1, by omega, by omega, p'⟩, fun x H' y => ?_⟩
    exact hs j x H H' c p (wk.yields j H x H' c q y)
  · obtain rfl : j = n := by omega
    exact .inl ⟨wk.stops H q, hd H p⟩
theorem putK_lenG (z : Key) (v : V) (kvs : List (Key × V)) : (putK kvs z v).length ≤ kvs.length + 1 := by
  unfold putK
  by_cases c : kvs.any (fun kv => decide (kv.1 = z)) = true
  · simp [c]
  · simp [c]
theorem agW_snoc {L : List (Nat × Nat)} {p : Nat × Nat} (hp : ∀ q ∈ L, q.1 ≠ p.1) (b : Nat) : agW (L ++ [p]) b = if p.1 = b then some p.2 else agW L b := by
  unfold agW
  rw [List.find?_append]
  by_cases e : p.1 = b
  · have : (L.find? fun q => decide (q.1 = b)) = none := by
      rw [List.find?_eq_none]
      intro q hq r
      exact hp q hq ((of_decide_eq_true r).trans e.symm)
    rw [this, if_pos e, List.find?_cons_of_pos (by simpa using e)]
    rfl
  · rw [if_neg e, List.find?_cons_of_neg (by simpa using e)]
    simp
section
variable {P : Program} {w : World} {K : PySem.W.Frag} {mg : Str → Option Value} {base : Heap} {tb : Addr} {C : Rule → Addr} {CG : Addr}
def spBah (tb : Addr) : Sp := fun vs H Q _ => ∃ (n : Nat) (o : Addr) (ts : List Addr) (L : List (Nat × Nat)) (N : Nat), vs = [.int (n : Nat), .ref o, .int (N : Nat)] ∧ 1 ≤ n ∧ H o = some (.lst (ts.map V.ref)) ∧ TsAt nnV H ts L ∧ L.length ≤ 300 ∧ N ≤ 300 ∧ L.Pairwise (fun p q => p.1 ≠ q.1) ∧ (∀ p ∈ L, p.1 < p.2) ∧ GxR.TabG H tb ∧
  ∀ (a : Addr) (H' : Hp), H a = none → H' a = some (.lst (natL (allW L n N).2)) → Kp tb [] H H' → Q (.ref a) H'
abbrev n_bah : List Str := ["places", "pairs", "end", "again", "allowed", "ahead", "at", "least", "bar", "early", "late"]
theorem sc_bah : FnScope n_bah ["places", "pairs", "end"] (defScope s__bars_ahead) := ⟨rfl, rfl, rfl, by decide +kernel, rfl, by decide +kernel, by decide +kernel⟩
theorem ok_bah {f : Addr} {fd : FuncData} {k0 : Nat} (F : FnP K "_bars_ahead" "_bars_ahead" s__bars_ahead f fd) (hrange : mg "range" = none) (GL : Glob P w K mg base CX0 (k0 + 1) "_least_allowed" ["at", "allowed", "again"] (spLeast (tbOf K))) :
    FnOk P w K mg base CX0 (k0 + 2) f fd ["places", "pairs", "end"] (spBah (tbOf K)) := by
  refine ok0 F sc_bah (fun vs H Q E h => ?_) (fun cdv A outer s H vs Q E hr h => ?_)
  · obtain ⟨n, o, ts, L, N, rfl, _⟩ := h
    rfl
  · obtain ⟨n, o, ts, L, N, rfl, n1, ho, hts, hL3, hN, pw, hL, tab, q⟩ := h
    have hu := hu_of hr
    refine ⟨_, (pss_cons (ps_setDc (i := 3) (own := [("early", 9), ("late", 10)]) (g := gTup K 2 (gCons (gName 9) (gCons (gName 10) gNil))) (tt := tYes) rfl sc_bah.nd rfl rfl (sw_trueD rfl rfl rfl (by decide +kernel)) (pi_list (pv 1)) (blkOk_by (N := n_bah) (sc := defScope s__bars_ahead) (by decide +kernel)) (fun _ _ _ _ _ => pg_tup rfl (pgs_cons (pg_name (i := 9) sc_bah.nd rfl (Or.inl rfl)) (pgs_cons (pg_name (i := 10) sc_bah.nd rfl (Or.inl rfl)) pgs_nil))) (fun _ _ _ _ _ => pts_nil) (fun _ _ _ _ _ => (pv 9)) (fun _ _ _ _ _ => (pv 10)))
      (pss_cons (ps_set (i := 4) sc_bah.nd rfl (Or.inl rfl) (pe_lst (pa_cons pe_int pa_nil)))
      (pss_cons (ps_set (i := 5) sc_bah.nd rfl (Or.inl rfl) (pe_lst (pa_cons pe_int pa_nil)))
      (pss_cons (ps_for PassesOwn.never rfl (pi_range2 (by rfl) hrange (pa_cons pe_int (pa_cons (pe_op op_add (pv 2) pe_int) pa_nil))) (pg_name (i := 6) sc_bah.nd rfl (Or.inl rfl))
        (pss_cons (ps_asg (pe_callG GL hr (by rfl) pass0 (pa_cons (pv 6) (pa_cons (pv 4) (pa_cons (pv 3) pa_nil)))) (pg_tup rfl (pgs_cons (pg_name (i := 7) sc_bah.nd rfl (Or.inl rfl)) (pgs_cons (pg_name (i := 8) sc_bah.nd rfl (Or.inl rfl)) pgs_nil))))
        (pss_cons (ps_expr (pe_bm PySem.F.plainAttrs_list PySem.F.slot_list_append PySem.F.type_list_append mt_append (pv 4) (pa_cons (pe_op op_sub (pe_op op_add (pv 7) (pv 0)) pe_int) pa_nil)))
        (pss_one (ps_expr (pe_bm PySem.F.plainAttrs_list PySem.F.slot_list_append PySem.F.type_list_append mt_append (pv 5) (pa_cons (pv 8) pa_nil)))))))
      (pss_one (ps_ret (pv 5))))))), ?_⟩
    refine ⟨_, rfl, o, rfl, ⟨_, SqL.of ho⟩, fun D hD => ?_⟩
    refine dc_it walk_list (fun i H' => ∃ kvs : List (Key × V), H' D = some (.dK kvs) ∧ kvs.length ≤ i ∧ (∀ b : Nat, valV kvs (Sum.inl (b : Int)) = (agW (L.take i) b).map fun l => V.int (l : Nat)) ∧ Kp (tbOf K) [] H H')
      ⟨[], upd_same, Nat.le_refl _, fun b => rfl, Kp.new hD⟩ (fun i H' _ ⟨_, _, _, _, kp⟩ => SqL.of (kp.get ho)) ?_ ?_
    · rintro i x H1 H2 hi ⟨kvs, hd, hkl, hval, kp⟩ ⟨rfl, hx⟩
      obtain ⟨t, p, rfl, hLp, ht, _⟩ := hts.get hx
      rw [List.length_map, hts.len] at hi
      refine ⟨t, _, rfl, SqT.of (kp.get ht), rfl, _, _, rfl, _, _, rfl, rfl, rfl, ?_⟩
      have kD : Kp (tbOf K) [D] H2 (upd H2 D (.dK (putK kvs (Sum.inl ((p.1 : Nat) : Int) : Key) (.int (p.2 : Nat))))) := Kp.put hd
      refine ⟨_, rfl, _, rfl, kvs, Sum.inl ((p.1 : Nat) : Int), rfl, hd, small_of (m := 300) (by omega), _, upd_same, Nat.le_trans (putK_lenG _ _ kvs) (by omega), fun b => ?_, kp.transN kD fun y hy => by rw [List.mem_singleton.mp hy]; exact hD⟩
      rw [valV_put, hval]
      have et : L.take (i + 1) = L.take i ++ [p] := by rw [List.take_add_one, hLp] <;> rfl
      have hpq : ∀ q ∈ L.take i, q.1 ≠ p.1 := fun q hq => by
        have hpw : (L.take i ++ [p]).Pairwise fun p q => p.1 ≠ q.1 := by rw [← et]; exact pw.sublist (List.take_sublist _ _)
        exact (List.pairwise_append.mp hpw).2.2 q hq p List.mem_cons_self
      rw [et, agW_snoc hpq]
      by_cases e : p.1 = b
      · rw [if_pos e, if_pos (by rw [e])] <;> rfl
      · rw [if_neg e, if_neg (fun r => e (by have := Sum.inl.inj r; omega))]
    rintro H1 ⟨kvs, hD1, hkl, hval, k1⟩
    rw [List.length_map, hts.len, List.take_of_length_le (Nat.le_refl _)] at hval
    refine ⟨by show 1 ≤ sizeLine; decide, fun al hal => ?_⟩
    have k2 : Kp (tbOf K) [] H1 (upd H1 al (.lst (natL [0]))) := Kp.new hal
    have g2 : (upd H1 al (.lst (natL [0]))) al = some (.lst (natL [0])) := upd_same
    have hD2 := k2.get hD1
    have k12 := k1.trans k2
    have fal : H al = none := k1.free _ hal
    have nDa : D ≠ al := ne_of_none hD1 hal
    rw [show HO.lst [V.int 0] = .lst (natL [0]) from rfl]
    generalize upd H1 al (.lst (natL [0])) = H2 at k2 g2 hD2 k12 ⊢
    refine ⟨by show 1 ≤ sizeLine; decide, fun ah hah => ?_⟩
    have k3 : Kp (tbOf K) [] H2 (upd H2 ah (.lst (natL [0]))) := Kp.new hah
    have g3 : (upd H2 ah (.lst (natL [0]))) ah = some (.lst (natL [0])) := upd_same
    have hD3 := k3.get hD2
    have ha3 := k3.get g2
    have k13 := k12.trans k3
    have fah : H ah = none := k12.free _ hah
    have nDh : D ≠ ah := ne_of_none hD2 hah
    have nah : al ≠ ah := ne_of_none g2 hah
    rw [show HO.lst [V.int 0] = .lst (natL [0]) from rfl]
    generalize upd H2 ah (.lst (natL [0])) = H3 at k3 g3 hD3 ha3 k13 ⊢
    refine ⟨_, rfl, _, _, rfl, rfl, _, _, rfl, ⟨by omega, by omega, by omega, by omega⟩, ?_⟩
    rw [show (((N : Nat) : Int) + 1 - 1).toNat = N by omega]
    refine for_it walk_range (fun i σ H' => ∃ v6 v7 v8 : Option V, σ = [some (.int (n : Nat)), some (.ref o), some (.int (N : Nat)), some (.ref D), some (.ref al), some (.ref ah), v6, v7, v8, none, none] ∧ H' al = some (.lst (natL (allW L n i).1)) ∧ H' ah = some (.lst (natL (allW L n i).2)) ∧ Kp (tbOf K) [al, ah] H3 H')
      ⟨_, _, _, rfl, ha3, g3, Kp.refl _⟩ (fun _ _ _ _ _ => trivial) ?_ ?_
    · rintro i x σ H4 H5 hi ⟨v6, v7, v8, rfl, ga, gh, kp⟩ ⟨rfl, rfl⟩
      obtain ⟨l1, l2⟩ := allW_len L n i
      have hD5 : H5 D = some (.dK kvs) := kp.get hD3 rfl (by simp [nDa, nDh])
      have e1 : (1 : Int) + ((i : Nat) : Int) = (((allW L n i).1.length : Nat) : Int) := by rw [l1]; omega
      dsimp only
      rw [e1]
      refine ⟨_, rfl, _, rfl, _, rfl, al, D, (allW L n i).1, L, kvs, rfl, ga, hD5, by omega, by omega, hval, pw, hL, kp.tab (k13.tab tab), fun t H6 ft gt k6 => ?_⟩
      have ga6 := k6.get ga
      have gh6 := k6.get gh
      refine ⟨t, _, rfl, SqT.of gt, rfl, _, _, rfl, _, _, rfl, rfl, ?_⟩
      have em : minP (choW L (allW L n i).1 (allW L n i).1.length) = minP (choW L (allW L n i).1 (i + 1)) := by rw [l1]
      rw [em]
      refine ⟨_, rfl, .inl ⟨rfl, _, SqL.of ga6⟩, _, rfl, _, rfl, _, _, rfl, rfl, _, _, rfl, rfl, al, _, _, rfl, rfl, ga6, by rw [natL_len, l1]; exact small_of (m := 301) (by omega), ?_⟩
      dsimp only
      rw [show (((minP (choW L (allW L n i).1 (i + 1))).1 : Nat) : Int) + ((n : Nat) : Int) - 1 = (((minP (choW L (allW L n i).1 (i + 1))).1 + n - 1 : Nat) : Int) by omega, natL_snoc]
      have k7 : Kp (tbOf K) [al, ah] H6 (upd H6 al (.lst (natL ((allW L n i).1 ++ [(minP (choW L (allW L n i).1 (i + 1))).1 + n - 1])))) := Kp.put ga6
      have gh7 : (upd H6 al (.lst (natL ((allW L n i).1 ++ [(minP (choW L (allW L n i).1 (i + 1))).1 + n - 1])))) ah = some (.lst (natL (allW L n i).2)) := by rw [upd_ne nah.symm]; exact gh6
      have ga7 : (upd H6 al (.lst (natL ((allW L n i).1 ++ [(minP (choW L (allW L n i).1 (i + 1))).1 + n - 1])))) al = some (.lst (natL (allW L n (i + 1)).1)) := upd_same
      generalize upd H6 al (.lst (natL ((allW L n i).1 ++ [(minP (choW L (allW L n i).1 (i + 1))).1 + n - 1]))) = H7 at k7 gh7 ga7 ⊢
      refine ⟨_, rfl, .inl ⟨rfl, _, SqL.of gh7⟩, _, rfl, ah, _, _, rfl, rfl, gh7, by rw [natL_len, l2]; exact small_of (m := 301) (by omega), ?_⟩
      have k8 : Kp (tbOf K) [al, ah] H7 (upd H7 ah (.lst (natL ((allW L n i).2 ++ [(minP (choW L (allW L n i).1 (i + 1))).2])))) := Kp.put gh7
      rw [natL_snoc]
      refine ⟨_, _, _, rfl, by rw [upd_ne nah]; exact ga7, upd_same, (kp.trans k6.nil).trans (k7.trans k8)⟩
    · rintro σ H4 ⟨v6, v7, v8, rfl, ga, gh, kp⟩
      exact ⟨_, rfl, q ah H4 fah gh (k13.transN kp fun y hy => by
        rcases List.mem_cons.mp hy with e | e
        · rw [e]; exact fal
        · rw [List.mem_singleton.mp e]; exact fah)⟩
end
end Kf

namespace Kf
open PySem PySem.Spec PyProof.Rows L2
/-! ### the bars told -/
theorem strsW_fst {ws : List Str} {N : Nat} : (strsW ws N).Pairwise fun p q => p.1 ≠ q.1 := by
  refine List.Pairwise.imp_of_mem (fun {p q} hp hq hlt e => ?_) (strsW_asc ws N)
  obtain ⟨_, z, hz, hl⟩ := strsW_mem hp
  obtain ⟨_, y, hy, hm⟩ := strsW_mem hq
  obtain ⟨l1, l2⟩ := lastI_lt hl
  obtain ⟨m1, m2⟩ := lastI_lt hm
  rw [e, m2] at l2
  rw [Option.some.inj l2] at hm
  exact lastI_none hm p.2 (by omega) hlt hz
theorem ahW_lt {L : List (Nat × Nat)} {n N b : Nat} (n1 : 1 ≤ n) (hb : 0 < b) (hN : b ≤ N) : (allW L n N).2.getD b 0 < b := by
  rw [(allW_pre L n (j := b) (k := N) hN).2]
  obtain ⟨k, rfl⟩ : ∃ k, b = k + 1 := ⟨b - 1, by omega⟩
  exact (alW_step L (k := k) n1).1
section
variable {P : Program} {w : World} {K : PySem.W.Frag} {mg : Str → Option Value} {base : Heap} {tb : Addr} {C : Rule → Addr} {CG : Addr}
def spBars (tb : Addr) : Sp := fun vs H Q _ => ∃ (n : Nat) (a : Addr) (ws : List Str), vs = [.int (n : Nat), .ref a] ∧ 1 ≤ n ∧ n ≤ 20 ∧ H a = some (.lst (ws.map V.str)) ∧ ws.length ≤ 300 ∧ (∀ z ∈ ws, IsName z) ∧ GxR.TabG H tb ∧
  ∀ (o : Addr) (H' : Hp), H o = none → H' o = some (.lst (natL (barsW ws n))) → Kp tb [] H H' → Q (.ref o) H'
abbrev n_bars : List Str := ["places", "wishes", "ahead", "found", "bar"]
theorem sc_bars : FnScope n_bars ["places", "wishes"] (defScope s_bars) := ⟨rfl, rfl, rfl, by decide +kernel, rfl, by decide +kernel, by decide +kernel⟩
theorem ok_bars {f : Addr} {fd : FuncData} {k0 : Nat} (F : FnP K "bars" "bars" s_bars f fd) (hlen : mg "len" = none) (GP : Glob P w K mg base CX0 (k0 + 2) "check_places" ["places"] spCheckPlaces)
    (GA : Glob P w K mg base CX0 (k0 + 2) "_bars_ahead" ["places", "pairs", "end"] (spBah (tbOf K))) (GS : Glob P w K mg base CX0 (k0 + 2) "stretches" ["wishes"] (spStretches (tbOf K))) :
    FnOk P w K mg base CX0 (k0 + 3) f fd ["places", "wishes"] (spBars (tbOf K)) := by
  refine ok0 F sc_bars (fun vs H Q E h => ?_) (fun cdv A outer s H vs Q E hr h => ?_)
  · obtain ⟨n, a, ws, rfl, _⟩ := h
    rfl
  · obtain ⟨n, a, ws, rfl, n1, n2, ha, hl, hn, tab, q⟩ := h
    refine ⟨_, (pss_cons (ps_expr (pe_callG GP hr (by rfl) pass0 (pa_cons (pv 0) pa_nil)))
      (pss_cons (ps_set (i := 2) sc_bars.nd rfl (Or.inl rfl) (pe_callG GA hr (by rfl) pass0 (pa_cons (pv 0) (pa_cons (pe_callG GS hr (by rfl) pass0 (pa_cons (pv 1) pa_nil)) (pa_cons (pe_callB call_len_seq (by rfl) hlen PySem.boot_len (pa_cons (pv 1) pa_nil)) pa_nil)))))
      (pss_cons (ps_set (i := 3) sc_bars.nd rfl (Or.inl rfl) (pe_lst pa_nil))
      (pss_cons (ps_set (i := 4) sc_bars.nd rfl (Or.inl rfl) (pe_ix ix_list (pv 2) (pe_callB call_len_seq (by rfl) hlen PySem.boot_len (pa_cons (pv 1) pa_nil)) (fun _ _ => rfl)))
      (pss_cons (ps_while PassesOwn.never (pt_cmpR op_gt (pv 4) pe_int (nomark _))
        (pss_cons (ps_expr (pe_bm PySem.F.plainAttrs_list PySem.F.slot_list_append PySem.F.type_list_append mt_append (pv 3) (pa_cons (pv 4) pa_nil)))
        (pss_one (ps_set (i := 4) sc_bars.nd rfl (Or.inl rfl) (pe_ix ix_list (pv 2) (pv 4) (fun _ _ => rfl))))))
      (pss_one (ps_ret (pe_revL (pv 3))))))))), ?_⟩
    refine ⟨_, rfl, ((n : Nat) : Int), rfl, by omega, by omega, ?_⟩
    refine ⟨_, rfl, _, rfl, a, ws, rfl, ha, hl, hn, tab, fun o ts H1 fo ho hts fts k1 => ?_⟩
    refine ⟨_, rfl, a, _, rfl, .inl (SqL.of (k1.get ha)), n, o, ts, strsW ws ws.length, ws.length, by simp, n1, ho, hts, Nat.le_trans (strsW_len ws _) hl, hl, strsW_fst, strsW_lt, k1.tab tab, fun ah H2 fah gah k2 => ?_⟩
    obtain ⟨_, hlen2⟩ := allW_len (strsW ws ws.length) n ws.length
    have hlt : ∀ b, 0 < b → b ≤ ws.length → (allW (strsW ws ws.length) n ws.length).2.getD b 0 < b := fun b h1 h2 => ahW_lt n1 h1 h2
    have eB : barsW ws n = (chainW (allW (strsW ws ws.length) n ws.length).2 ws.length ((allW (strsW ws ws.length) n ws.length).2.getD ws.length 0)).reverse := rfl
    rw [eB] at q
    have h0 : (allW (strsW ws ws.length) n ws.length).2.getD ws.length 0 ≤ ws.length := by
      by_cases e : ws.length = 0
      · rw [e]; exact Nat.le_refl _
      · exact Nat.le_of_lt (hlt _ (by omega) (Nat.le_refl _))
    generalize (allW (strsW ws ws.length) n ws.length).2 = A at *
    have k12 := k1.trans k2
    refine ⟨Nat.zero_le _, fun fa hfa => ?_⟩
    have k3 : Kp (tbOf K) [] H2 (upd H2 fa (.lst (natL []))) := Kp.new hfa
    have g3 : (upd H2 fa (.lst (natL []))) fa = some (.lst (natL [])) := upd_same
    have gah3 := k3.get gah
    have k13 := k12.trans k3
    have ffa : H fa = none := k12.free _ hfa
    have nfa : ah ≠ fa := ne_of_none gah hfa
    rw [show HO.lst [] = .lst (natL []) from rfl]
    generalize upd H2 fa (.lst (natL [])) = H3 at k3 g3 gah3 k13 ⊢
    refine ⟨_, rfl, _, rfl, a, _, rfl, .inl (SqL.of (k13.get ha)), ah, _, _, .int (A.getD ws.length 0 : Nat), rfl, rfl, SqL.of gah3, at_of (j := ws.length) (by rw [List.length_map]) (natL_get (by omega)), ?_⟩
    refine ⟨fun m σ H' => ∃ (b f : Nat) (acc : List Nat), b = m ∧ σ = [some (.int (n : Nat)), some (.ref a), some (.ref ah), some (.ref fa), some (.int (b : Nat))] ∧ b ≤ f ∧ b ≤ ws.length ∧ acc.length + b ≤ ws.length ∧ acc ++ chainW A f b = chainW A ws.length (A.getD ws.length 0) ∧ H' fa = some (.lst (natL acc)) ∧ Kp (tbOf K) [fa] H3 H', ⟨_, A.getD ws.length 0, ws.length, [], rfl, rfl, h0, h0, by simpa using h0, rfl, g3, Kp.refl _⟩, ?_⟩
    rintro m σ H4 ⟨b, f, acc, rfl, rfl, hbf, hbl, hab, hch, hfa4, kp⟩
    refine ⟨_, rfl, _, _, rfl, rfl, _, rfl, ?_⟩
    by_cases c : 0 < b
    · rw [decide_eq_true (show ((b : Nat) : Int) > 0 by omega)]
      refine iteT ⟨fun σ H' => σ = [some (.int (n : Nat)), some (.ref a), some (.ref ah), some (.ref fa), some (.int (A.getD b 0 : Nat))] ∧ H' fa = some (.lst (natL (acc ++ [b]))) ∧ Kp (tbOf K) [fa] H3 H', ?_, ?_⟩
      · rintro σ H5 ⟨rfl, g5, k5⟩
        have := hlt b c hbl
        obtain ⟨f, rfl⟩ : ∃ j, f = j + 1 := ⟨f - 1, by omega⟩
        refine ⟨A.getD b 0, by omega, A.getD b 0, f, acc ++ [b], rfl, rfl, by omega, by omega, by rw [List.length_append, List.length_singleton]; omega, ?_, g5, k5⟩
        rw [← hch]
        have e : chainW A (f + 1) b = b :: chainW A f (A.getD b 0) := by rw [chainW, if_neg (by omega)]
        rw [e, List.append_assoc]
        rfl
      · refine ⟨_, rfl, .inl ⟨rfl, _, SqL.of hfa4⟩, _, rfl, fa, _, _, rfl, rfl, hfa4, by rw [natL_len]; exact small_of (m := 300) (by omega), ?_⟩
        rw [natL_snoc]
        have k5 : Kp (tbOf K) [fa] H4 (upd H4 fa (.lst (natL (acc ++ [b])))) := Kp.put hfa4
        have gah4 : H4 ah = some (.lst (natL A)) := kp.get gah3 rfl (by simp [nfa])
        refine ⟨_, rfl, _, rfl, ah, _, _, .int (A.getD b 0 : Nat), rfl, rfl, SqL.of (k5.get gah4 rfl (by simp [nfa])), at_of (j := b) rfl (natL_get (by omega)), rfl, upd_same, kp.trans k5⟩
    · rw [decide_eq_false (show ¬ ((b : Nat) : Int) > 0 by omega)]
      obtain rfl : b = 0 := by omega
      rw [chainW_zero, List.append_nil] at hch
      rw [hch] at hfa4
      refine iteF ⟨_, rfl, fa, _, rfl, SqL.of hfa4, fun p hp => ?_⟩
      have k4 := k13.transN kp fun y hy => by rw [List.mem_singleton.mp hy]; exact ffa
      refine q p _ (k4.free _ hp) ?_ (k4.step hp)
      rw [upd_same]
      unfold natL
      rw [List.map_reverse]
end
end Kf

namespace Kf
open PySem PySem.Spec PyProof.Rows L2
/-! ### an error that is kept behind its handler -/
/-- an error of the class C, with no dict, at a -/
def ExV (C : Addr) (a : Addr) : HO := .ext fun h => ∃ oe, h.get? a = some oe ∧ Zc (.ref C) none oe ∧ ∃ vs, oe.data = .fields vs
section
variable {X : Cx} {pins : List (Addr × Obj)} {σ σ0 : L2.St} {H H0 : Hp} {s sI : Shared} {a C : Addr}
/-- what is new since the start may be told of -/
theorem inv_told (I : Inv X pins σ H s) (I0 : Inv X pins σ0 H0 sI) (hI : sI.heap.get? a = none) (hx : X.ex = []) (hn : H a = none) {oe : Obj} (ha : s.heap.get? a = some oe) (hz : Zc (.ref C) none oe) (hd : ∃ vs, oe.data = .fields vs) : Inv X pins σ (upd H a (ExV C a)) s := by
  have old : ∀ b o, X.s_0.heap.get? b = some o → b ≠ a := fun b o q e => by
    obtain ⟨o', q'⟩ := I0.base.there b o q (by rw [hx]; exact List.not_mem_nil)
    rw [e, hI] at q'
    cases q'
  have here : ∀ b o, sI.heap.get? b = some o → b ≠ a := fun b o q e => by
    rw [e, hI] at q
    cases q
  refine ⟨I.ok, I.os, I.bare, ?_, I.loc, I.cell, ?_, fun x c e => ?_, fun p hp => ?_, ?_, I.len⟩
  · have B := I.base
    refine ⟨B.keep, B.slot, fun b o q n m => ?_, B.there, fun b xs q => ?_, fun b o u q => ?_, fun b ps q => ?_⟩
    · rw [upd_ne (old b o q)]; exact B.free b o q n m
    · have := B.tups b xs q
      rw [upd_ne (ne_of_none this hn)]; exact this
    · have := B.frzs b o u q
      rw [upd_ne (ne_of_none this hn)]; exact this
    · obtain ⟨more, r⟩ := B.tbls b ps q
      exact ⟨more, by rw [upd_ne (ne_of_none r hn)]; exact r⟩
  · have hl : X.env.locals ≠ a := fun e => by
      have h1 := I0.lt
      obtain ⟨m, hm, _⟩ := I0.loc
      obtain ⟨o, es, ep, q, _⟩ := hm
      exact here _ _ q e
    rw [upd_ne hl]; exact I.free
  · have hc : c ≠ a := by
      obtain ⟨v, q⟩ := I0.cell x c e
      obtain ⟨o, q, _⟩ := q
      exact here _ _ q
    rw [upd_ne hc]; exact I.freeC x c e
  · obtain ⟨p1, p2, p3⟩ := I.pin p hp
    obtain ⟨q1, _⟩ := I0.pin p hp
    rw [upd_ne (here _ _ q1)]
    exact ⟨p1, p2, p3⟩
  · exact I.hok.laidN (fun b u q => q) hn ⟨⟨oe, ha, hz, hd⟩, ⟨oe, ha⟩, fun h1 h2 ⟨o, q, r⟩ k => ⟨o, k o q, r⟩⟩
end
/-- what the clause wishes of an error of the body; the slots are forgotten but for the error's name -/
def wAsV (K : PySem.W.Frag) (c : Value) (i n : Nat) (ts : Addr → Addr → TS) (D : Ends) : Value → Option Addr → Hp → Prop := fun cls d H => ∃ C, cls = .ref C ∧ d = none ∧ PySem.W.exmOne K cls c = some true ∧
  ∀ a, H a = none → ts a C { nx := fun σ' H' => D.nx (σ'.set i none) (upd H' a (ExV C a)), rt := fun _ _ => False, bk := fun _ _ => False, ct := fun _ _ => False } ((List.replicate n none).set i (some (.ref a))) H
section
variable {X : Cx} {x n : Str} {c : Value} {i : Nat} {body suite : List Stmt} {b₀ : Stmt} {np pos pos' : Pos} {tb : (Value → Option Addr → Hp → Prop) → TS} {ts : Addr → Addr → TS}
theorem ps_try_asV (hs : X.stack = X.env :: X.outer) (hf : X.env.frame = some X.env.locals) (hN : X.N.Nodup) (hi : X.N[i]? = some n) (hln : X.env.kindOf n = some .local) (hx : X.ex = []) (hc : Names X x c)
    (hb : ∀ (W : Value → Option Addr → Hp → Prop) (pn : List (Addr × Obj)) (xe : Value → Shared → Prop), Takes (X.tr pn xe) (fun cls d _ H => W cls d H) → PassesOwn (model X.prog X.w) X.A X.env xe → PSs (X.tr pn xe) body (tb W))
    (hsu : ∀ (a : Addr) (oe : Obj) (C : Addr) (pn : List (Addr × Obj)), Zc (.ref C) none oe → (∃ vs, oe.data = .fields vs) → PSs (X.suite a ((a, oe) :: pn)) (b₀ :: suite) (ts a C)) :
    PS X (.Try body [.ExceptHandler (some (.Name x np)) (some n) (b₀ :: suite) pos'] [] [] pos) (fun D σ H => tb (wAsV X.K c i X.N.length ts D) D σ H) := by
  refine ⟨fun pins s σ H D I h => ?_⟩
  have okX := I.ok
  have frs1 : X.A.frames = some (X.env :: X.outer) := okX.frames.trans (congrArg some hs)
  refine wpAny_Try_except (wpAny_mono ((hb (wAsV X.K c i X.N.length ts D) (X.pn ++ pins) (fun e s₁ => wpAny (model X.prog X.w) X.A (noteFrame e X.env) (fun _ s₂ => wpAny (model X.prog X.w) X.A (setFlight e none) (fun _ s₃ => wpAny (model X.prog X.w) X.A
    (handleBy e X.env [.ExceptHandler (some (.Name x np)) (some n) (b₀ :: suite) pos']) (SP X pins D) X.xe s₃) X.xe s₂) X.xe s₁) (fun u s' air => ?_) PassesOwn.looking).run [] s σ H D (I.toTry _) h) (fun f s1 q1 => ?_) fun e s1 he => he)
  · obtain ⟨a, B, sI, pins', σ', H', cls, d, rfl, J0, gnd, up, sky, na, os, ag, Cc, rfl, rfl, hm, hgo⟩ := air
    have J : Inv X pins σ' H' sI := J0.ofTry okX
    rw [show (X.tr (X.pn ++ pins) _).stack = X.env :: X.outer from hs] at sky
    show wpAny (model X.prog X.w) X.A (noteFrame (.ref a) X.env) _ _ _
    refine Sky.land Zc.steady frs1 hf sky fun hA flA upA => ?_
    have noFr : ∀ {g : Heap} {o : Obj} {ws : Array Value}, g.FunFrames B (X.env :: X.outer) → g.get? a = some o → o.data = .fields ws → a ∉ frs (X.env :: X.outer) := fun {g o ws} ff e dd hin => by
      obtain ⟨_, o', e', hnf⟩ := ff.mem hin
      exact hnf _ (by rw [e] at e'; cases e'; exact dd)
    obtain ⟨oA, wsA, eA, zA, dA⟩ := flA.there
    have nofr := noFr flA.2.2.1 eA dA
    have hl : a ≠ X.env.locals := fun z => nofr (List.mem_filterMap.mpr ⟨X.env, List.mem_cons_self, hf.trans (congrArg some z.symm)⟩)
    have hfs : a ∉ X.fs := fun hin => by
      obtain ⟨e, he, q⟩ := List.mem_filterMap.mp hin
      exact nofr (List.mem_filterMap.mpr ⟨e, List.mem_cons_of_mem _ he, q⟩)
    have hI : sI.heap.get? a = none := by
      cases e : sI.heap.get? a with
      | none => rfl
      | some o =>
        have := gnd a o e (by rw [show (X.tr (X.pn ++ pins) _).stack = X.env :: X.outer from hs]; exact nofr)
        rw [flA.2.1] at this
        cases this
    have JA : Inv X pins σ' H' { s' with heap := hA } := J.landed gnd flA.1 (up.trans upA) os ag
    have SA := JA.suite eA dA na hl hfs
    refine wpAny_handleBy_cons (codeAny_handlers_test ?_) (by intro q; cases q)
    have look : PySem.W.Looks (model X.prog X.w) hA (typeOf (.ref a)) (.ref Cc) := fun A Q E s k q => wpAny_typeOf_ref (k _ _ eA) (by rw [zA.1]; exact q)
    have name : ∀ {Q : Value → Shared → Prop} {E : Value → Shared → Prop}, Q c { s' with heap := hA } → wpAny (model X.prog X.w) (X.A.mark (some (.ref a))) (eval (.Name x np) X.env) Q E { s' with heap := hA } := fun {Q E} q => by
      obtain ⟨g1, g2, g3 | ⟨g3, g4, g5⟩⟩ := hc
      · exact ld_glob (X := X.suite a ((a, oA) :: (X.pn ++ pins))) SA g1 g3 q g2
      · exact ld_blt (X := X.suite a ((a, oA) :: (X.pn ++ pins))) SA g1 g3 g4 q g5 g2
    refine name ((PySem.W.exm_one (M := model X.prog X.w) JA.kIn look hm).here ?_)
    refine codeAny_handlers_suite_as (HandSPX.lands_againZ flA fun hB flB upB => ?_)
    obtain ⟨oB, wsB, eB, zB, dB⟩ := flB.there
    have JB : Inv X pins σ' H' { s' with heap := hB } := J.landed gnd flB.1 ((up.trans upA).trans upB) os ag
    have JW : Inv X pins (List.replicate X.N.length none) H' { s' with heap := hB } := JB.weak (by rw [List.length_replicate, JB.len]) fun j v e => by
      rw [List.getElem?_replicate] at e
      split at e <;> cases e
    refine store_ok (X := X.suite a ((a, oB) :: (X.pn ++ pins))) (v := .ref a) (JW.suite eB dB na hl hfs) hN hi (.inl hln) rfl (fun s5 S5 => ?_) (.inr hln)
    refine wpAny_mono ((hsu a oB Cc (X.pn ++ pins) zB ⟨_, dB⟩).run [] s5 _ H' _ S5 (hgo a na)) (fun f s6 q6 => ?_) fun _ _ z => False.elim z
    cases f with
    | next =>
      obtain ⟨σ6, H6, S6, w6⟩ := q6
      obtain ⟨p1, p2, _⟩ := S6.pin (a, oB) (List.mem_append_left _ List.mem_cons_self)
      exact gone_ok (inv_told (S6.unsuite okX) J hI hx p2 p1 zB ⟨_, dB⟩) hN hi hln fun s7 J7 => ⟨_, _, J7, w6⟩
    | brk => obtain ⟨_, _, _, z⟩ := q6; exact z.elim
    | cont => obtain ⟨_, _, _, z⟩ := q6; exact z.elim
    | ret u => obtain ⟨_, _, _, _, _, z⟩ := q6; exact z.elim
  · cases f with
    | next => obtain ⟨σ', H', J', q⟩ := q1; exact wpAny_execs_nil ⟨σ', H', J'.ofTry okX, q⟩
    | brk => obtain ⟨σ', H', J', q⟩ := q1; exact ⟨σ', H', J'.ofTry okX, q⟩
    | cont => obtain ⟨σ', H', J', q⟩ := q1; exact ⟨σ', H', J'.ofTry okX, q⟩
    | ret u => obtain ⟨v, σ', H', J', r, q⟩ := q1; exact ⟨v, σ', H', J'.ofTry okX, r, q⟩
end
/-! ### isinstance of such an error -/
def rIsX (K : PySem.W.Frag) : List V → Hp → VK → Prop := fun xs H Q => ∃ (a C : Addr) (c : V) (cv : Value) (b : Bool), xs = [.ref a, c] ∧ H a = some (ExV C a) ∧ ExcC K C ∧ (∀ u, RelV c u → u = cv) ∧ PySem.W.kitOne K (.ref C) cv = some b ∧ Q (.bl b) H
theorem call_isX {X : Cx} : CallR X (.builtin "isinstance") (rIsX X.K) := by
  intro pins s σ H xs us Q I r h
  obtain ⟨a, C, c, cv, b, rfl, ha, EC, hcv, e, q⟩ := h
  cases r with
  | cons rx rr =>
    cases rr with
    | cons rt rr =>
      cases rr
      obtain rfl := hcv _ rt
      cases rx
      obtain ⟨⟨⟨oc, od, oda, osl⟩, hget, ⟨z1, z2⟩, ws, hv⟩, _⟩ := I.hok a _ ha
      dsimp only at z1 z2 hv
      subst z1 z2 hv
      exact PySem.W.kia_one (PySem.W.handS_kitx_exc EC.hg EC.hk EC.hs EC.hd EC.ha EC.hn EC.ht EC.hm) I.kIn (show PySem.W.InstAt s.heap a _ C none from ⟨hget, rfl, rfl, trivial⟩) e (fun z => nomatch z) fun tk => ⟨.bl b, H, I.kept (t' := tk) fun _ _ z => z, rfl, q⟩
end Kf

namespace Kf
open PySem PySem.Spec PyProof.Rows L2
/-! ### refusals: the checks -/
structure ExT (K : PySem.W.Frag) (mg : Str → Option Value) (x : Str) (C : Addr) : Prop where
  g : mg x = some (.ref C)
  x : PySem.W.excIn K C [.type "ValueError", .type "Exception", .type "BaseException", .type "object"] "ValueError.__new__" = true
  k : PySem.W.keepIn K (.ref C) = true
  b : PySem.W.subIn K (.ref C) (.type "BaseException") = some true
  t : PySem.W.typeIn K (.ref C) = some (.type "type")
section
variable {P : Program} {w : World} {K : PySem.W.Frag} {mg : Str → Option Value} {base : Heap}
theorem okX {x qual : Str} {st : Stmt} {f : Addr} {fd : FuncData} {N ps : List Str} {k : Nat} {sp : Sp} (F : FnP K x qual st f fd) (S : FnScope N ps (defScope st)) (len : ∀ vs H Q E, sp vs H Q E → vs.length = ps.length)
    (hbody : ∀ (cdv : Value) (A : Around) (outer : List Env) (s : Shared) (H : Hp) (vs : List V) (Q : VK) (E : XK), Room k (A.deeper (envOfC qual (defScope st) s.heap.objs.size f cdv)) → sp vs H Q E →
      ∃ t, PSs (cxOf (L2.CX P w) P w K mg base N qual (defScope st) f cdv A outer s H E) (defBody st) t ∧ t { nx := fun _ H' => Q .non H', rt := Q } (start N vs) H) : FnOk P w K mg base (L2.CX P w) (k + 1) f fd ps sp := by
  obtain ⟨oc, od, dV, kV, doc, pm, an, cdv, ct, osl, rfl, lk, hcd, _, _⟩ := F.ex
  exact fn_of lk hcd S len fun A outer s H vs Q E hr hsp => hbody cdv A outer s H vs Q E hr hsp
theorem tyB_kp {tb : Addr} {H H' : Hp} {x : V} {T : String} (k : Kp tb [] H H') (t : TyB K H x T) : TyB K H' x T := by
  cases t with
  | non => exact .non
  | bl b => exact .bl b
  | int i => exact .int i
  | str x => exact .str x
  | byt b => exact .byt b
  | lst h => exact .lst (k.seq h)
  | tup h => exact .tup (by
      rcases h with (h | ⟨o, h⟩) | h
      · exact .inl (.inl (k.get h))
      · exact .inl (.inr ⟨o, k.get h⟩)
      · exact .inr h)
  | dK h => exact .dK (k.get h)
/-- a value of one of the kinds that are looked at -/
def Knd (K : PySem.W.Frag) (H : Hp) (x : V) (T : String) : Prop := TyB K H x T ∧ tyOk T = true ∧ ∀ z, x = .str z → z.length ≤ 100
theorem Knd.kp {tb : Addr} {H H' : Hp} {x : V} {T : String} (h : Knd K H x T) (k : Kp tb [] H H') : Knd K H' x T := ⟨tyB_kp k h.1, h.2⟩
def BadN (K : PySem.W.Frag) (H : Hp) (x : V) : Prop := isNameV x = false ∧ ∃ T, Knd K H x T
def plV : V → Bool
  | .int n => decide (1 ≤ n) && decide (n ≤ 20)
  | _ => false
def BadP (K : PySem.W.Frag) (H : Hp) (x : V) : Prop := plV x = false ∧ ∃ T, Knd K H x T
def BadR (K : PySem.W.Frag) (H : Hp) (x : V) : Prop := (∃ T, Knd K H x T ∧ T ≠ "str") ∨ x = .str "" ∨ x = .str "Old" ∨ x = .str "hot"
def BadW (K : PySem.W.Frag) (H : Hp) (x : V) : Prop := (∃ T, Knd K H x T ∧ T ≠ "list") ∨ (∃ (a : Addr) (ys : List V), x = .ref a ∧ H a = some (.lst ys) ∧ 300 < ys.length) ∨
  ∃ (a : Addr) (zs : List Str) (y : V) (r : List V), x = .ref a ∧ H a = some (.lst (zs.map V.str ++ y :: r)) ∧ (zs.map V.str ++ y :: r).length ≤ 300 ∧ zs.length ≤ 40 ∧ (∀ z ∈ zs, IsName z) ∧ BadN K H y
theorem BadN.kp {tb : Addr} {H H' : Hp} {x : V} (h : BadN K H x) (k : Kp tb [] H H') : BadN K H' x := ⟨h.1, h.2.imp fun _ t => t.kp k⟩
theorem BadP.kp {tb : Addr} {H H' : Hp} {x : V} (h : BadP K H x) (k : Kp tb [] H H') : BadP K H' x := ⟨h.1, h.2.imp fun _ t => t.kp k⟩
theorem BadW.kp {tb : Addr} {H H' : Hp} {x : V} (h : BadW K H x) (k : Kp tb [] H H') : BadW K H' x := by
  rcases h with ⟨T, t, n⟩ | ⟨a, ys, e, h, l⟩ | ⟨a, zs, y, r, e, h, l, l4, n, b⟩
  · exact .inl ⟨T, t.kp k, n⟩
  · exact .inr (.inl ⟨a, ys, e, k.get h, l⟩)
  · exact .inr (.inr ⟨a, zs, y, r, e, k.get h, l, l4, n, b.kp k⟩)
/-- x is refused by the class C -/
def spRef (Bad : PySem.W.Frag → Hp → V → Prop) (C : Addr) (K : PySem.W.Frag) : Sp := fun vs H _ E => ∃ x : V, vs = [x] ∧ Bad K H x ∧ GxR.TabG H (tbOf K) ∧ ∀ H', Kp (tbOf K) [] H H' → E (.ref C) none H'
theorem rf_checkname {f CN : Addr} {fd : FuncData} {k0 : Nat} (F : FnP K "check_name" "check_name" s_check_name f fd) (T : ExT K mg "BadName" CN) (G : Glob P w K mg base CX0 (k0 + 1) "is_name" ["value"] (spIsName K)) :
    FnOk P w K mg base (L2.CX P w) (k0 + 2) f fd ["name"] (spRef BadN CN K) := by
  refine okX F sc_checkname (fun vs H Q E h => ?_) (fun cdv A outer s H vs Q E hr h => ?_)
  · obtain ⟨x, rfl, _⟩ := h
    rfl
  · obtain ⟨x, rfl, ⟨hx, Ty, ty, tok, hsz⟩, tab, q⟩ := h
    refine ⟨_, pss_one (ps_if (pt_not (pt_val (pe_callG G hr (by rfl) pass0 (pa_cons (pv 0) pa_nil)))) (pss_one (ps_raise rfl (takes_of rfl rfl rfl rfl) (pmk_own PySem.F.excBase_ValueError T.x T.g T.k (raises_own T.b T.t) (by rfl)))) pss_nil), ?_⟩
    refine ⟨_, rfl, x, Ty, rfl, ty, tok, fun z e => Nat.le_of_lt (small_of (m := 100) (hsz z e)), tab, fun H' kp => ⟨_, rfl, ?_⟩⟩
    rw [hx]
    exact iteT (q H' kp)
theorem rf_checkplaces {f CP : Addr} {fd : FuncData} {k0 : Nat} (F : FnP K "check_places" "check_places" s_check_places f fd) (T : ExT K mg "BadPlaces" CP) {tl : Tok} (hmp : mg "MOST_PLACES" = some (.int 20 tl)) (hty : mg "type" = none) (hint : mg "int" = none) :
    FnOk P w K mg base (L2.CX P w) (k0 + 1) f fd ["places"] (spRef BadP CP K) := by
  refine okX F sc_checkplaces (fun vs H Q E h => ?_) (fun cdv A outer s H vs Q E hr h => ?_)
  · obtain ⟨x, rfl, _⟩ := h
    rfl
  · obtain ⟨x, rfl, ⟨hx, Ty, ty, tok, hsz⟩, tab, q⟩ := h
    refine ⟨_, pss_one (ps_if (PW.pt (pw_or (pt_cmpR (op_neTy (hu_of hr)) (pe_callTy call_type1 (by rfl) hty (by decide +kernel) (pa_cons (pv 0) pa_nil)) (pe_bltn (v := .ty "int") (by rfl) hint (by decide +kernel) rfl) (nomark _))
        (pw_or1 (pt_not (pt_chain op_le op_le pe_int (pv 0) (pe_glob (v := .int 20) rfl hmp ⟨_, rfl⟩))))))
        (pss_one (ps_raise rfl (takes_of rfl rfl rfl rfl) (SkE.pmk_own1 PySem.F.excBase_ValueError T.x T.g T.k (raises_own T.b T.t) (by rfl) (pe_joined (.cons pe_str (.cons (pe_fmt (pe_glob (v := .int 20) rfl hmp ⟨_, rfl⟩)) (.cons pe_str .nil))))))) pss_nil), ?_⟩
    have fin : ∀ (W : XK), (∀ H', Kp (tbOf K) [] H H' → W (.ref CP) none H') → tJs [tC (.str "a shelf has 1 to "), tFmt (tC (.int 20)), tC (.str " places, a whole number")] Str.empty (start ["places"] [x]) H (fun _ H1 => W (.ref CP) none H1) := fun W hW => by
      refine ⟨_, rfl, by decide +kernel, .inr ⟨20, rfl, by decide +kernel, _, rfl, by decide +kernel, _, rfl, by decide +kernel, ?_⟩⟩
      exact hW H (Kp.refl _)
    refine ⟨_, rfl, x, Ty, rfl, ty, _, _, rfl, rfl, tok, by decide, _, rfl, ?_⟩
    by_cases hT : Ty = "int"
    · rw [decide_eq_true hT]
      have ex : ∃ n, x = .int n := by
        cases ty with
        | int n => exact ⟨n, rfl⟩
        | _ => exact absurd hT (by decide)
      obtain ⟨n, rfl⟩ := ex
      refine iteF ⟨_, rfl, _, _, rfl, rfl, _, rfl, ?_⟩
      have hx : (decide (1 ≤ n) && decide (n ≤ 20)) = false := hx
      cases h1 : decide ((1 : Int) ≤ n) with
      | false => exact iteF ⟨_, rfl, iteT (fin E q)⟩
      | true =>
        rw [h1, Bool.true_and] at hx
        refine iteT ⟨_, _, rfl, rfl, _, rfl, ?_⟩
        rw [hx]
        exact iteT (fin E q)
    · rw [decide_eq_false hT]
      exact iteT (fin E q)
theorem rf_checkrule {f CR : Addr} {fd : FuncData} {k0 : Nat} (F : FnP K "check_rule" "check_rule" s_check_rule f fd) (T : ExT K mg "BadRule" CR) {ra : Addr} (hR : mg "RULES" = some (.ref ra)) (hra : ∀ H : Hp, SqT K H ra rulesV) (hty : mg "type" = none) (hstr : mg "str" = none) :
    FnOk P w K mg base (L2.CX P w) (k0 + 1) f fd ["rule"] (spRef BadR CR K) := by
  refine okX F sc_checkrule (fun vs H Q E h => ?_) (fun cdv A outer s H vs Q E hr h => ?_)
  · obtain ⟨x, rfl, _⟩ := h
    rfl
  · obtain ⟨x, rfl, hx, tab, q⟩ := h
    refine ⟨_, pss_one (ps_if (PW.pt (pw_or (pt_cmpR (op_neTy (hu_of hr)) (pe_callTy call_type1 (by rfl) hty (by decide +kernel) (pa_cons (pv 0) pa_nil)) (pe_bltn (v := .ty "str") (by rfl) hstr (by decide +kernel) rfl) (nomark _))
        (pw_or1 (pt_cmpR op_notIn_seq (pv 0) (pe_glob (v := .ref ra) (by rfl) hR rfl) (by with_unfolding_all rfl)))))
        (pss_one (ps_raise rfl (takes_of rfl rfl rfl rfl) (pmk_own PySem.F.excBase_ValueError T.x T.g T.k (raises_own T.b T.t) (by rfl)))) pss_nil), ?_⟩
    rcases hx with ⟨Ty, ⟨ty, tok, _⟩, hT⟩ | hx
    · refine ⟨_, rfl, x, Ty, rfl, ty, _, _, rfl, rfl, tok, by decide, _, rfl, ?_⟩
      rw [decide_eq_false hT]
      exact iteT (q H (Kp.refl _))
    · have hz : ∃ z : Str, x = .str z ∧ inV (.str z) rulesV = false := by
        rcases hx with e | e | e
        · exact ⟨_, e, by kernel_rfl⟩
        · exact ⟨_, e, by kernel_rfl⟩
        · exact ⟨_, e, by kernel_rfl⟩
      obtain ⟨z, rfl, hz⟩ := hz
      refine ⟨_, rfl, .str z, "str", rfl, .str _, _, _, rfl, rfl, by decide, by decide, _, rfl, ?_⟩
      refine iteF ⟨_, rfl, ra, rulesV, rfl, .inr (hra H), rfl, rfl, _, rfl, ?_⟩
      rw [if_pos rfl, hz]
      exact iteT (q H (Kp.refl _))
end
end Kf

namespace Kf
open PySem PySem.Spec PyProof.Rows L2
section
variable {P : Program} {w : World} {K : PySem.W.Frag} {mg : Str → Option Value} {base : Heap} {tb : Addr} {C : Rule → Addr} {CG : Addr}
theorem num_len : ∀ i : Fin 41, (((i.val : Nat) : Int).natAbs.log2 < 1920) ∧ ((Str.empty ++ "wish " ++ Str.ofString (toString ((i.val : Nat) : Int))).length ≤ 100) ∧ (Str.empty ++ "wish " ++ Str.ofString (toString ((i.val : Nat) : Int)) ++ Str.ofString " is no name of one to eight small letters a to z").length ≤ 100 := by decide +kernel
theorem rf_checkwishes {f CW : Addr} {fd : FuncData} {k0 : Nat} (F : FnP K "check_wishes" "check_wishes" s_check_wishes f fd) (T : ExT K mg "BadWishes" CW) (G : Glob P w K mg base CX0 (k0 + 1) "is_name" ["value"] (spIsName K)) {tl : Tok}
    (hmw : mg "MOST_WISHES" = some (.int 300 tl)) (hty : mg "type" = none) (hlist : mg "list" = none) (hlen : mg "len" = none) (henum : mg "enumerate" = none) : FnOk P w K mg base (L2.CX P w) (k0 + 2) f fd ["wishes"] (spRef BadW CW K) := by
  refine okX F sc_checkwishes (fun vs H Q E h => ?_) (fun cdv A outer s H vs Q E hr h => ?_)
  · obtain ⟨x, rfl, _⟩ := h
    rfl
  · obtain ⟨x, rfl, hx, tab, q⟩ := h
    refine ⟨_, pss_cons (ps_if (PW.pt (pw_or (pt_cmpR (op_neTy (hu_of hr)) (pe_callTy call_type1 (by rfl) hty (by decide +kernel) (pa_cons (pv 0) pa_nil)) (pe_bltn (v := .ty "list") (by rfl) hlist (by decide +kernel) rfl) (nomark _))
        (pw_or1 (pt_cmpR op_gt (pe_callB call_len_seq (by rfl) hlen PySem.boot_len (pa_cons (pv 0) pa_nil)) (pe_glob (v := .int 300) rfl hmw ⟨_, rfl⟩) (nomark _)))))
        (pss_one (ps_raise rfl (takes_of rfl rfl rfl rfl) (SkE.pmk_own1 PySem.F.excBase_ValueError T.x T.g T.k (raises_own T.b T.t) (by rfl) (pe_joined (.cons pe_str (.cons (pe_fmt (pe_glob (v := .int 300) rfl hmw ⟨_, rfl⟩)) (.cons pe_str .nil))))))) pss_nil)
      (pss_one (ps_for (passes_of rfl) rfl (pi_enum (by rfl) henum (pa_cons (pv 0) pa_nil)) (pg_tup rfl (pgs_cons (pg_name (i := 1) sc_checkwishes.nd rfl (Or.inl rfl)) (pgs_cons (pg_name (i := 2) sc_checkwishes.nd rfl (Or.inl rfl)) pgs_nil)))
        (pss_one (ps_if (pt_not (pt_val (pe_callG G hr (by rfl) pass0 (pa_cons (pv 2) pa_nil)))) (pss_one (ps_raise rfl (takes_of rfl rfl rfl rfl) (SkE.pmk_own1 PySem.F.excBase_ValueError T.x T.g T.k (raises_own T.b T.t) (by rfl) (pe_joined (.cons pe_str (.cons (pe_fmt (pv 1)) (.cons pe_str .nil))))))) pss_nil)))), ?_⟩
    have fin : ∀ {σ : L2.St}, tJs [tC (.str "wishes are a list of none to "), tFmt (tC (.int 300)), tC (.str " names")] Str.empty σ H (fun _ H1 => E (.ref CW) none H1) := fun {σ} => by
      refine ⟨_, rfl, by decide +kernel, .inr ⟨300, rfl, by decide +kernel, _, rfl, by decide +kernel, _, rfl, by decide +kernel, ?_⟩⟩
      exact q H (Kp.refl _)
    rcases hx with ⟨Ty, ⟨ty, tok, _⟩, hT⟩ | ⟨a, ys, rfl, ha, hl⟩ | ⟨a, zs, y, r, rfl, ha, hl, hl4, hn, hb⟩
    · refine ⟨_, rfl, x, Ty, rfl, ty, _, _, rfl, rfl, tok, by decide, _, rfl, ?_⟩
      rw [decide_eq_false hT]
      exact iteT fin
    · refine ⟨_, rfl, .ref a, "list", rfl, .lst (SqL.of ha), _, _, rfl, rfl, by decide, by decide, _, rfl, ?_⟩
      refine iteF ⟨_, rfl, a, _, rfl, .inl (SqL.of ha), _, _, rfl, rfl, _, rfl, ?_⟩
      rw [decide_eq_true (show ((ys.length : Nat) : Int) > 300 by omega)]
      exact iteT fin
    · refine ⟨_, rfl, .ref a, "list", rfl, .lst (SqL.of ha), _, _, rfl, rfl, by decide, by decide, _, rfl, ?_⟩
      refine iteF ⟨_, rfl, a, _, rfl, .inl (SqL.of ha), _, _, rfl, rfl, _, rfl, ?_⟩
      rw [decide_eq_false (show ¬ (((zs.map V.str ++ y :: r).length : Nat) : Int) > 300 by omega)]
      refine iteF ?_
      refine ⟨_, rfl, a, _, rfl, SqL.of ha, ?_⟩
      refine for_it walk_enum (fun i σ H' => i ≤ zs.length ∧ ∃ v1 v2 : Option V, σ = [some (.ref a), v1, v2] ∧ Kp (tbOf K) [] H H') ⟨Nat.zero_le _, none, none, rfl, Kp.refl _⟩ (fun i σ H' _ ⟨_, _, _, _, kp⟩ => SqL.of (kp.get ha)) ?_ ?_
      · rintro i x σ H3 H4 hi ⟨hiz, v1, v2, rfl, kp⟩ ⟨Tp, x1, x2, rfl, nT, rfl, e1, e2⟩
        cases e1
        refine ⟨Tp, _, rfl, SqT.of upd_same, rfl, _, _, rfl, _, _, rfl, rfl, ?_⟩
        have k4 := kp.step (o := .tup [.int (i : Nat), x2]) nT
        rcases Nat.lt_or_ge i zs.length with c | c
        · have e2 : (zs.map V.str ++ y :: r)[i]? = some x2 := e2
          have e3 : (zs.map V.str)[i]? = some x2 := by rw [← e2, List.getElem?_append_left (by rw [List.length_map]; exact c)]
          obtain ⟨z, hz, rfl⟩ := get_mapS e3
          have hzn := hn z (List.mem_of_getElem? hz)
          refine ⟨_, rfl, .str z, _, rfl, .str z, rfl, fun z' e => ?_, k4.tab tab, fun H' k5 => ⟨_, rfl, ?_⟩⟩
          · cases e
            exact Nat.le_of_lt (small_of (m := 8) hzn.2.1)
          · rw [show isNameV (.str z) = true from isNameB_of hzn]
            exact iteF ⟨c, _, _, rfl, k4.trans k5⟩
        · obtain rfl : i = zs.length := by omega
          have e2 : (zs.map V.str ++ y :: r)[zs.length]? = some x2 := e2
          have e3 : x2 = y := by
            rw [List.getElem?_append_right (by rw [List.length_map]; exact Nat.le_refl _), List.length_map, Nat.sub_self] at e2
            exact (Option.some.inj e2).symm
          subst e3
          obtain ⟨hx2, Ty, ty, tok, hsz⟩ := hb.kp k4
          refine ⟨_, rfl, x2, Ty, rfl, ty, tok, fun z e => Nat.le_of_lt (small_of (m := 100) (hsz z e)), k4.tab tab, fun H' k5 => ⟨_, rfl, ?_⟩⟩
          rw [hx2]
          have hz301 : zs.length < 41 := by omega
          have hnl := num_len ⟨zs.length, hz301⟩
          refine iteT ⟨_, rfl, by decide +kernel, _, rfl, .inr ⟨_, rfl, ?_, _, rfl, ?_, _, rfl, ?_, ?_⟩⟩
          · exact hnl.1
          · exact Nat.le_of_lt (small_of (m := 100) hnl.2.1)
          · exact Nat.le_of_lt (small_of (m := 100) hnl.2.2)
          · exact q H' (k4.trans k5)
      · rintro σ H3 ⟨hiz, _⟩
        rw [List.length_append, List.length_map, List.length_cons] at hiz
        omega
end
end Kf

namespace Kf
open PySem PySem.Spec PyProof.Rows L2
/-! ### refusals: all that asks the checks -/
section
variable {P : Program} {w : World} {K : PySem.W.Frag} {mg : Str → Option Value} {base : Heap} {tb : Addr} {C : Rule → Addr} {CG : Addr}
theorem kp_made {H : Hp} {x dx c : Addr} (hx : H x = none) (hdx : H dx = none) (hne : dx ≠ x) : Kp tb [] H (upd (upd H dx (.own x)) x (.ins c dx [])) :=
  (Kp.new hdx).step (by rw [upd_ne hne.symm]; exact hx)
def spRefI (CP : Addr) (K : PySem.W.Frag) : Sp := fun vs H _ E => ∃ x y : V, vs = [x, y] ∧ BadP K H y ∧ GxR.TabG H (tbOf K) ∧ ∀ H', Kp (tbOf K) [] H H' → E (.ref CP) none H'
theorem rf_init {f CP : Addr} {fd : FuncData} {k0 : Nat} (F : FnP K "__init__" "Shelf.__init__" s_Shelf___init__ f fd) (GPX : Glob P w K mg base (L2.CX P w) k0 "check_places" ["places"] (spRef BadP CP K)) : FnOk P w K mg base (L2.CX P w) (k0 + 1) f fd ["self", "places"] (spRefI CP K) := by
  refine okX F sc_init (fun vs H Q E h => ?_) (fun cdv A outer s H vs Q E hr h => ?_)
  · obtain ⟨x, y, rfl, _⟩ := h
    rfl
  · obtain ⟨x, y, rfl, hy, tab, q⟩ := h
    refine ⟨_, pss_cons (ps_expr (pe_callG GPX hr (by rfl) (passes_call (takes_of rfl rfl rfl rfl) fun _ _ _ _ h => h) (pa_cons (pv 1) pa_nil))) pss_never, ?_⟩
    exact ⟨_, rfl, y, rfl, hy, tab, q⟩
theorem rf_minit {f fS CS CP : Addr} {fd fdS : FuncData} {mc : Value} {k0 : Nat} (F : FnP K "__init__" "Marked.__init__" s_Marked___init__ f fd) (mS : mg "Shelf" = some (.ref CS)) (r : ClX.CRead K CS mc) (kv : ClX.CVal K CS mc "__init__" (.ref fS) (.ref fS))
    (FS : FnOk P w K mg base (L2.CX P w) k0 fS fdS ["self", "places"] (spRefI CP K)) (hk : PySem.W.keepIn K (.ref fS) = true) (hb : Binds K fdS ["self", "places"] []) : FnOk P w K mg base (L2.CX P w) (k0 + 1) f fd ["self", "places"] (spRefI CP K) := by
  refine okX F sc_minit (fun vs H Q E h => ?_) (fun cdv A outer s H vs Q E hr h => ?_)
  · obtain ⟨x, y, rfl, _⟩ := h
    rfl
  · obtain ⟨x, y, rfl, hy, tab, q⟩ := h
    refine ⟨_, pss_cons (ps_expr (pe_clsfn (by rfl) mS r kv FS hr hk hb (passes_call (takes_of rfl rfl rfl rfl) fun _ _ _ _ h => h) (pa_cons (pv 0) (pa_cons (pv 1) pa_nil)))) pss_never, ?_⟩
    exact ⟨_, rfl, _, rfl, x, y, rfl, hy, tab, q⟩
def spRefSh (CR CP : Addr) (K : PySem.W.Frag) : Sp := fun vs H _ E => ∃ x y : V, vs = [x, y] ∧ GxR.TabG H (tbOf K) ∧ ((BadR K H x ∧ ∀ H', Kp (tbOf K) [] H H' → E (.ref CR) none H') ∨ ∃ r : Rule, x = .str r.txt ∧ BadP K H y ∧ ∀ H', Kp (tbOf K) [] H H' → E (.ref CP) none H')
theorem rf_shelfof {f CR CP : Addr} {fd : FuncData} {k0 : Nat} (F : FnP K "shelf_of" "shelf_of" s_shelf_of f fd) (GRX : Glob P w K mg base (L2.CX P w) (k0 + 1) "check_rule" ["rule"] (spRef BadR CR K)) (GR : Glob P w K mg base CX0 (k0 + 1) "check_rule" ["rule"] spCheckRule)
    (MO : MakeOk P w K mg base (L2.CX P w) k0 "Old" (C .old) ["self", "places"] (spRefI CP K)) (MC : MakeOk P w K mg base (L2.CX P w) k0 "Cold" (C .cold) ["self", "places"] (spRefI CP K)) (MM : MakeOk P w K mg base (L2.CX P w) k0 "Marked" (C .marked) ["self", "places"] (spRefI CP K)) :
    FnOk P w K mg base (L2.CX P w) (k0 + 2) f fd ["rule", "places"] (spRefSh CR CP K) := by
  refine okX F sc_shelfof (fun vs H Q E h => ?_) (fun cdv A outer s H vs Q E hr h => ?_)
  · obtain ⟨x, y, rfl, _⟩ := h
    rfl
  · obtain ⟨x, y, rfl, tab, ⟨hx, q⟩ | ⟨r, rfl, hy, q⟩⟩ := h
    · refine ⟨_, pss_cons (ps_expr (pe_callG GRX hr (by rfl) (passes_call (takes_of rfl rfl rfl rfl) fun _ _ _ _ h => h) (pa_cons (pv 0) pa_nil))) pss_never, ?_⟩
      exact ⟨_, rfl, x, rfl, hx, tab, q⟩
    · refine ⟨_, pss_cons (ps_expr (pe_callG GR hr (by rfl) pass0 (pa_cons (pv 0) pa_nil)))
        (pss_cons (ps_if (pt_cmpR op_eq (pv 0) pe_str (nomark _)) (pss_one (ps_ret (pe_makeG MO hr (by rfl) (passes_call (takes_of rfl rfl rfl rfl) fun _ _ _ _ h => h) (pa_cons (pv 1) pa_nil)))) pss_nil)
        (pss_cons (ps_if (pt_cmpR op_eq (pv 0) pe_str (nomark _)) (pss_one (ps_ret (pe_makeG MC hr (by rfl) (passes_call (takes_of rfl rfl rfl rfl) fun _ _ _ _ h => h) (pa_cons (pv 1) pa_nil)))) pss_nil)
        (pss_one (ps_ret (pe_makeG MM hr (by rfl) (passes_call (takes_of rfl rfl rfl rfl) fun _ _ _ _ h => h) (pa_cons (pv 1) pa_nil)))))), ?_⟩
      refine ⟨_, rfl, r, rfl, ?_⟩
      cases r with
      | old =>
        refine ⟨_, rfl, rfl, _, rfl, ?_⟩
        rw [dec_str, show (Rule.txt .old == ("old" : Str)) = true by kernel_rfl]
        exact iteT ⟨_, rfl, fun x dx hx hdx hne => ⟨.ref x, y, rfl, hy.kp (kp_made (tb := tbOf K) hx hdx hne), (kp_made (tb := tbOf K) hx hdx hne).tab tab, fun H' k => q H' ((kp_made (tb := tbOf K) hx hdx hne).trans k)⟩⟩
      | cold =>
        refine ⟨_, rfl, rfl, _, rfl, ?_⟩
        rw [dec_str, show (Rule.txt .cold == ("old" : Str)) = false by kernel_rfl]
        refine iteF ⟨_, rfl, rfl, _, rfl, ?_⟩
        rw [dec_str, show (Rule.txt .cold == ("cold" : Str)) = true by kernel_rfl]
        exact iteT ⟨_, rfl, fun x dx hx hdx hne => ⟨.ref x, y, rfl, hy.kp (kp_made (tb := tbOf K) hx hdx hne), (kp_made (tb := tbOf K) hx hdx hne).tab tab, fun H' k => q H' ((kp_made (tb := tbOf K) hx hdx hne).trans k)⟩⟩
      | marked =>
        refine ⟨_, rfl, rfl, _, rfl, ?_⟩
        rw [dec_str, show (Rule.txt .marked == ("old" : Str)) = false by kernel_rfl]
        refine iteF ⟨_, rfl, rfl, _, rfl, ?_⟩
        rw [dec_str, show (Rule.txt .marked == ("cold" : Str)) = false by kernel_rfl]
        exact iteF ⟨_, rfl, fun x dx hx hdx hne => ⟨.ref x, y, rfl, hy.kp (kp_made (tb := tbOf K) hx hdx hne), (kp_made (tb := tbOf K) hx hdx hne).tab tab, fun H' k => q H' ((kp_made (tb := tbOf K) hx hdx hne).trans k)⟩⟩
def spRefWi (CN : Addr) (K : PySem.W.Frag) : Sp := fun vs H _ E => ∃ x y : V, vs = [x, y] ∧ BadN K H y ∧ GxR.TabG H (tbOf K) ∧ ∀ H', Kp (tbOf K) [] H H' → E (.ref CN) none H'
theorem rf_wish {f CN : Addr} {fd : FuncData} {k0 : Nat} (F : FnP K "wish" "Shelf.wish" s_Shelf_wish f fd) (GNX : Glob P w K mg base (L2.CX P w) k0 "check_name" ["name"] (spRef BadN CN K)) : FnOk P w K mg base (L2.CX P w) (k0 + 1) f fd ["self", "name"] (spRefWi CN K) := by
  refine okX F sc_wish (fun vs H Q E h => ?_) (fun cdv A outer s H vs Q E hr h => ?_)
  · obtain ⟨x, y, rfl, _⟩ := h
    rfl
  · obtain ⟨x, y, rfl, hy, tab, q⟩ := h
    refine ⟨_, pss_cons (ps_expr (pe_callG GNX hr (by rfl) (passes_call (takes_of rfl rfl rfl rfl) fun _ _ _ _ h => h) (pa_cons (pv 1) pa_nil))) pss_never, ?_⟩
    exact ⟨_, rfl, y, rfl, hy, tab, q⟩
def spRefG (CR CP CW : Addr) (K : PySem.W.Frag) : Sp := fun vs H _ E => ∃ x y z : V, vs = [x, y, z] ∧ GxR.TabG H (tbOf K) ∧ ((BadR K H x ∧ ∀ H', Kp (tbOf K) [] H H' → E (.ref CR) none H') ∨ (∃ r : Rule, x = .str r.txt ∧ BadP K H y ∧ ∀ H', Kp (tbOf K) [] H H' → E (.ref CP) none H') ∨
  ∃ (r : Rule) (n : Int), x = .str r.txt ∧ y = .int n ∧ 1 ≤ n ∧ n ≤ 20 ∧ BadW K H z ∧ ∀ H', Kp (tbOf K) [] H H' → E (.ref CW) none H')
theorem rf_going {f CR CP CW : Addr} {fd : FuncData} {k0 : Nat} (F : FnP K "going" "going" s_going f fd) (GSX : Glob P w K mg base (L2.CX P w) k0 "shelf_of" ["rule", "places"] (spRefSh CR CP K)) (GS : Glob P w K mg base CX0 k0 "shelf_of" ["rule", "places"] (spShelfOf C (tbOf K))) (GWX : Glob P w K mg base (L2.CX P w) k0 "check_wishes" ["wishes"] (spRef BadW CW K)) :
    FnOk P w K mg base (L2.CX P w) (k0 + 1) f fd ["rule", "places", "wishes"] (spRefG CR CP CW K) := by
  refine okX F sc_going (fun vs H Q E h => ?_) (fun cdv A outer s H vs Q E hr h => ?_)
  · obtain ⟨x, y, z, rfl, _⟩ := h
    rfl
  · obtain ⟨x, y, z, rfl, tab, ⟨hx, q⟩ | ⟨r, rfl, hy, q⟩ | ⟨r, n, rfl, rfl, n1, n2, hz, q⟩⟩ := h
    · refine ⟨_, pss_cons (ps_set (i := 3) sc_going.nd rfl (.inl rfl) (pe_callG GSX hr (by rfl) (passes_call (takes_of rfl rfl rfl rfl) fun _ _ _ _ h => h) (pa_cons (pv 0) (pa_cons (pv 1) pa_nil)))) pss_never, ?_⟩
      exact ⟨_, rfl, _, rfl, x, y, rfl, tab, .inl ⟨hx, q⟩⟩
    · refine ⟨_, pss_cons (ps_set (i := 3) sc_going.nd rfl (.inl rfl) (pe_callG GSX hr (by rfl) (passes_call (takes_of rfl rfl rfl rfl) fun _ _ _ _ h => h) (pa_cons (pv 0) (pa_cons (pv 1) pa_nil)))) pss_never, ?_⟩
      exact ⟨_, rfl, _, rfl, _, y, rfl, tab, .inr ⟨r, rfl, hy, q⟩⟩
    · refine ⟨_, pss_cons (ps_set (i := 3) sc_going.nd rfl (.inl rfl) (pe_callG GS hr (by rfl) pass0 (pa_cons (pv 0) (pa_cons (pv 1) pa_nil)))) (pss_cons (ps_expr (pe_callG GWX hr (by rfl) (passes_call (takes_of rfl rfl rfl rfl) fun _ _ _ _ h => h) (pa_cons (pv 2) pa_nil))) pss_never), ?_⟩
      exact ⟨_, rfl, _, rfl, r, n, rfl, n1, n2, fun p S H1 sh hS k1 => ⟨_, rfl, z, rfl, hz.kp k1, k1.tab tab, fun H' k => q H' (k1.trans k)⟩⟩
def spRefPW (CP CW : Addr) (K : PySem.W.Frag) : Sp := fun vs H _ E => ∃ x z : V, vs = [x, z] ∧ GxR.TabG H (tbOf K) ∧ ((BadP K H x ∧ ∀ H', Kp (tbOf K) [] H H' → E (.ref CP) none H') ∨
  ∃ n : Int, x = .int n ∧ 1 ≤ n ∧ n ≤ 20 ∧ BadW K H z ∧ ∀ H', Kp (tbOf K) [] H H' → E (.ref CW) none H')
theorem rf_best {f CP CW : Addr} {fd : FuncData} {k0 : Nat} (F : FnP K "best" "best" s_best f fd) (GPX : Glob P w K mg base (L2.CX P w) k0 "check_places" ["places"] (spRef BadP CP K)) (GP : Glob P w K mg base CX0 k0 "check_places" ["places"] spCheckPlaces) (GWX : Glob P w K mg base (L2.CX P w) k0 "check_wishes" ["wishes"] (spRef BadW CW K)) :
    FnOk P w K mg base (L2.CX P w) (k0 + 1) f fd ["places", "wishes"] (spRefPW CP CW K) := by
  refine okX F sc_best (fun vs H Q E h => ?_) (fun cdv A outer s H vs Q E hr h => ?_)
  · obtain ⟨x, y, rfl, _⟩ := h
    rfl
  · obtain ⟨x, y, rfl, tab, ⟨hx, q⟩ | ⟨n, rfl, n1, n2, hy, q⟩⟩ := h
    · refine ⟨_, pss_cons (ps_expr (pe_callG GPX hr (by rfl) (passes_call (takes_of rfl rfl rfl rfl) fun _ _ _ _ h => h) (pa_cons (pv 0) pa_nil))) pss_never, ?_⟩
      exact ⟨_, rfl, x, rfl, hx, tab, q⟩
    · refine ⟨_, pss_cons (ps_expr (pe_callG GP hr (by rfl) pass0 (pa_cons (pv 0) pa_nil))) (pss_cons (ps_expr (pe_callG GWX hr (by rfl) (passes_call (takes_of rfl rfl rfl rfl) fun _ _ _ _ h => h) (pa_cons (pv 1) pa_nil))) pss_never), ?_⟩
      exact ⟨_, rfl, n, rfl, n1, n2, _, rfl, y, rfl, hy, tab, q⟩
theorem rf_bars {f CP CW : Addr} {fd : FuncData} {k0 : Nat} (F : FnP K "bars" "bars" s_bars f fd) (hlen : mg "len" = none) (GPX : Glob P w K mg base (L2.CX P w) k0 "check_places" ["places"] (spRef BadP CP K)) (GP : Glob P w K mg base CX0 k0 "check_places" ["places"] spCheckPlaces) (GTX : Glob P w K mg base (L2.CX P w) k0 "stretches" ["wishes"] (spRef BadW CW K)) (GA : Glob P w K mg base CX0 k0 "_bars_ahead" ["places", "pairs", "end"] (spBah (tbOf K))) :
    FnOk P w K mg base (L2.CX P w) (k0 + 1) f fd ["places", "wishes"] (spRefPW CP CW K) := by
  refine okX F sc_bars (fun vs H Q E h => ?_) (fun cdv A outer s H vs Q E hr h => ?_)
  · obtain ⟨x, y, rfl, _⟩ := h
    rfl
  · obtain ⟨x, y, rfl, tab, ⟨hx, q⟩ | ⟨n, rfl, n1, n2, hy, q⟩⟩ := h
    · refine ⟨_, pss_cons (ps_expr (pe_callG GPX hr (by rfl) (passes_call (takes_of rfl rfl rfl rfl) fun _ _ _ _ h => h) (pa_cons (pv 0) pa_nil))) pss_never, ?_⟩
      exact ⟨_, rfl, x, rfl, hx, tab, q⟩
    · refine ⟨_, pss_cons (ps_expr (pe_callG GP hr (by rfl) pass0 (pa_cons (pv 0) pa_nil))) (pss_cons (ps_set (i := 2) sc_bars.nd rfl (Or.inl rfl) (pe_callG GA hr (by rfl) pass0 (pa_cons (pv 0) (pa_cons (pe_callG GTX hr (by rfl) (passes_call (takes_of rfl rfl rfl rfl) fun _ _ _ _ h => h) (pa_cons (pv 1) pa_nil)) (pa_cons (pe_callB call_len_seq (by rfl) hlen PySem.boot_len (pa_cons (pv 1) pa_nil)) pa_nil))))) pss_never), ?_⟩
      exact ⟨_, rfl, n, rfl, n1, n2, _, rfl, _, rfl, y, rfl, hy, tab, q⟩
theorem rf_blocks {f CP CW : Addr} {fd : FuncData} {k0 : Nat} (F : FnP K "blocks" "blocks" s_blocks f fd) {CR : Addr} (GGX : Glob P w K mg base (L2.CX P w) k0 "going" ["rule", "places", "wishes"] (spRefG CR CP CW K)) :
    FnOk P w K mg base (L2.CX P w) (k0 + 1) f fd ["places", "wishes"] (spRefPW CP CW K) := by
  refine okX F sc_blocks (fun vs H Q E h => ?_) (fun cdv A outer s H vs Q E hr h => ?_)
  · obtain ⟨x, y, rfl, _⟩ := h
    rfl
  · obtain ⟨x, y, rfl, tab, ⟨hx, q⟩ | ⟨n, rfl, n1, n2, hy, q⟩⟩ := h
    · refine ⟨_, pss_cons (ps_set (i := 2) sc_blocks.nd rfl (Or.inl rfl) (pe_callG GGX hr (by rfl) (passes_call (takes_of rfl rfl rfl rfl) fun _ _ _ _ h => h) (pa_cons pe_str (pa_cons (pv 0) (pa_cons (pv 1) pa_nil))))) pss_never, ?_⟩
      exact ⟨_, rfl, _, rfl, _, x, y, rfl, tab, .inr (.inl ⟨.cold, rfl, hx, q⟩)⟩
    · refine ⟨_, pss_cons (ps_set (i := 2) sc_blocks.nd rfl (Or.inl rfl) (pe_callG GGX hr (by rfl) (passes_call (takes_of rfl rfl rfl rfl) fun _ _ _ _ h => h) (pa_cons pe_str (pa_cons (pv 0) (pa_cons (pv 1) pa_nil))))) pss_never, ?_⟩
      exact ⟨_, rfl, _, rfl, _, _, y, rfl, tab, .inr (.inr ⟨.cold, n, rfl, rfl, n1, n2, hy, q⟩)⟩
theorem rf_depths {f CW : Addr} {fd : FuncData} {k0 : Nat} (F : FnP K "depths" "depths" s_depths f fd) (GX : Glob P w K mg base (L2.CX P w) k0 "check_wishes" ["wishes"] (spRef BadW CW K)) : FnOk P w K mg base (L2.CX P w) (k0 + 1) f fd ["wishes"] (spRef BadW CW K) := by
  refine okX F sc_depths (fun vs H Q E h => ?_) (fun cdv A outer s H vs Q E hr h => ?_)
  · obtain ⟨x, rfl, _⟩ := h
    rfl
  · obtain ⟨x, rfl, hx, tab, q⟩ := h
    refine ⟨_, pss_cons (ps_expr (pe_callG GX hr (by rfl) (passes_call (takes_of rfl rfl rfl rfl) fun _ _ _ _ h => h) (pa_cons (pv 0) pa_nil))) pss_never, ?_⟩
    exact ⟨_, rfl, x, rfl, hx, tab, q⟩
theorem rf_stretches {f CW : Addr} {fd : FuncData} {k0 : Nat} (F : FnP K "stretches" "stretches" s_stretches f fd) (GX : Glob P w K mg base (L2.CX P w) k0 "check_wishes" ["wishes"] (spRef BadW CW K)) : FnOk P w K mg base (L2.CX P w) (k0 + 1) f fd ["wishes"] (spRef BadW CW K) := by
  refine okX F sc_stretches (fun vs H Q E h => ?_) (fun cdv A outer s H vs Q E hr h => ?_)
  · obtain ⟨x, rfl, _⟩ := h
    rfl
  · obtain ⟨x, rfl, hx, tab, q⟩ := h
    refine ⟨_, pss_cons (ps_expr (pe_callG GX hr (by rfl) (passes_call (takes_of rfl rfl rfl rfl) fun _ _ _ _ h => h) (pa_cons (pv 0) pa_nil))) pss_never, ?_⟩
    exact ⟨_, rfl, x, rfl, hx, tab, q⟩
theorem rf_mbp {f CW : Addr} {fd : FuncData} {k0 : Nat} (F : FnP K "missed_by_places" "missed_by_places" s_missed_by_places f fd) (GX : Glob P w K mg base (L2.CX P w) k0 "depths" ["wishes"] (spRef BadW CW K)) : FnOk P w K mg base (L2.CX P w) (k0 + 1) f fd ["wishes"] (spRef BadW CW K) := by
  refine okX F sc_mbp (fun vs H Q E h => ?_) (fun cdv A outer s H vs Q E hr h => ?_)
  · obtain ⟨x, rfl, _⟩ := h
    rfl
  · obtain ⟨x, rfl, hx, tab, q⟩ := h
    refine ⟨_, pss_cons (ps_set (i := 1) sc_mbp.nd rfl (Or.inr rfl) (pe_callG GX hr (by rfl) (passes_call (takes_of rfl rfl rfl rfl) fun _ _ _ _ h => h) (pa_cons (pv 0) pa_nil))) pss_never, ?_⟩
    exact ⟨_, rfl, x, rfl, hx, tab, q⟩
end
end Kf

namespace Kf
open PySem PySem.Spec PyProof.Rows L2
/-! ### the words of a refusal -/
inductive Wd
  | name | places | rule | wishes
  deriving DecidableEq
def Wd.txt : Wd → Str
  | .name => "name"
  | .places => "places"
  | .rule => "rule"
  | .wishes => "wishes"
structure Errs (K : PySem.W.Frag) (mg : Str → Option Value) (CE : Wd → Addr) : Prop where
  ex : ∀ w, ExcC K (CE w)
  kit : ∀ w v, PySem.W.kitOne K (.ref (CE w)) (.ref (CE v)) = some (decide (w = v))
  val : ∀ w, PySem.W.kitOne K (.ref (CE w)) (.type "ValueError") = some true
  gN : mg "BadName" = some (.ref (CE .name))
  gP : mg "BadPlaces" = some (.ref (CE .places))
  gR : mg "BadRule" = some (.ref (CE .rule))
  gW : mg "BadWishes" = some (.ref (CE .wishes))
def sbV (p : Str × Bool) : List V := [.str p.1, .bl p.2]
def wdL (w : Wd) : List (Str × Bool) := [("name", decide (w = .name)), ("places", decide (w = .places)), ("rule", decide (w = .rule)), ("wishes", decide (w = .wishes)), ("bare", false)]
theorem wdL_is (w : Wd) : ((wdL w).filter fun p => p.2).map (fun p => V.str p.1) = [.str w.txt] := by cases w <;> rfl
section
variable {P : Program} {w : World} {K : PySem.W.Frag} {mg : Str → Option Value} {base : Heap} {tb : Addr} {C : Rule → Addr} {CG : Addr}
variable {CE : Wd → Addr}
def spKinds (tb : Addr) (CE : Wd → Addr) : Sp := fun vs H Q _ => ∃ (a : Addr) (wd : Wd), vs = [.ref a] ∧ H a = some (ExV (CE wd) a) ∧ ∀ (o : Addr) (H' : Hp), H o = none → H' o = some (.lst [.str wd.txt]) → Kp tb [] H H' → Q (.ref o) H'
abbrev n_kinds : List Str := ["_law_error", "_law_found", "_law_word", "_law_is_one"]
theorem sc_kinds : FnScope n_kinds ["_law_error"] (defScope s__law_kinds) := ⟨rfl, rfl, rfl, by decide +kernel, rfl, by decide +kernel, by decide +kernel⟩
theorem ok_kinds {f : Addr} {fd : FuncData} {k0 : Nat} (F : FnP K "_law_kinds" "_law_kinds" s__law_kinds f fd) (T : Errs K mg CE) (hisi : mg "isinstance" = none) (hValueError : mg "ValueError" = none) : FnOk P w K mg base CX0 (k0 + 1) f fd ["_law_error"] (spKinds tb CE) := by
  refine ok0 F sc_kinds (fun vs H Q E h => ?_) (fun cdv A outer s H vs Q E hr h => ?_)
  · obtain ⟨a, wd, rfl, _⟩ := h
    rfl
  · obtain ⟨a, wd, rfl, ha, q⟩ := h
    refine ⟨_, (pss_cons (ps_set (i := 1) sc_kinds.nd rfl (Or.inl rfl) (pe_lst (pa_cons (pe_tup (pa_cons pe_str (pa_cons (pe_callB call_isX (by rfl) hisi (by decide +kernel) (pa_cons (pv 0) (pa_cons (pe_glob (v := .ref (CE .name)) (by rfl) T.gN rfl) pa_nil))) pa_nil))) (pa_cons (pe_tup (pa_cons pe_str (pa_cons (pe_callB call_isX (by rfl) hisi (by decide +kernel) (pa_cons (pv 0) (pa_cons (pe_glob (v := .ref (CE .places)) (by rfl) T.gP rfl) pa_nil))) pa_nil))) pa_nil))))
      (pss_cons (ps_set (i := 1) sc_kinds.nd rfl (Or.inl rfl) (pe_op op_cat (pv 1) (pe_lst (pa_cons (pe_tup (pa_cons pe_str (pa_cons (pe_callB call_isX (by rfl) hisi (by decide +kernel) (pa_cons (pv 0) (pa_cons (pe_glob (v := .ref (CE .rule)) (by rfl) T.gR rfl) pa_nil))) pa_nil))) (pa_cons (pe_tup (pa_cons pe_str (pa_cons (pe_callB call_isX (by rfl) hisi (by decide +kernel) (pa_cons (pv 0) (pa_cons (pe_glob (v := .ref (CE .wishes)) (by rfl) T.gW rfl) pa_nil))) pa_nil))) pa_nil)))))
      (pss_cons (ps_set (i := 1) sc_kinds.nd rfl (Or.inl rfl) (pe_op op_cat (pv 1) (pe_lst (pa_cons (pe_tup (pa_cons pe_str (pa_cons (pe_not (pe_callB call_isX (by rfl) hisi (by decide +kernel) (pa_cons (pv 0) (pa_cons (pe_bltn (v := .ty "ValueError") (by rfl) hValueError (by decide +kernel) rfl) pa_nil)))) pa_nil))) pa_nil))))
      (pss_one (ps_ret (pe_lc (own := [("_law_word", 2), ("_law_is_one", 3)]) (g := gTup K 2 (gCons (gName 2) (gCons (gName 3) gNil))) rfl sc_kinds.nd (pi_list (pv 1)) (blkOk_by (N := n_kinds) (sc := defScope s__law_kinds) (by decide +kernel)) (fun _ _ _ _ _ => pg_tup rfl (pgs_cons (pg_name (i := 2) sc_kinds.nd rfl (Or.inl rfl)) (pgs_cons (pg_name (i := 3) sc_kinds.nd rfl (Or.inl rfl)) pgs_nil))) (fun _ _ _ _ _ => pts_one (pt_val (pv 3))) (fun _ _ _ _ _ => (pv 2)))))))), ?_⟩
    refine ⟨_, rfl, a, CE wd, _, _, _, rfl, ha, T.ex wd, fun u h => h, T.kit wd .name, by show 2 ≤ sizeLine; decide, fun t1 ht1 => ?_⟩
    have kp1 : Kp tb [] H (upd H t1 (.tup [.str "name", .bl (decide (wd = .name))])) := Kp.new ht1
    have gt1 : (upd H t1 (.tup [.str "name", .bl (decide (wd = .name))])) t1 = some (.tup [.str "name", .bl (decide (wd = .name))]) := upd_same
    have ha := kp1.get ha
    have kp := kp1
    clear kp1
    generalize upd H t1 (.tup [.str "name", .bl (decide (wd = .name))]) = H1 at gt1 ha kp ⊢
    refine ⟨_, rfl, a, CE wd, _, _, _, rfl, ha, T.ex wd, fun u h => h, T.kit wd .places, by show 2 ≤ sizeLine; decide, fun t2 ht2 => ?_⟩
    have kp2 : Kp tb [] H1 (upd H1 t2 (.tup [.str "places", .bl (decide (wd = .places))])) := Kp.new ht2
    have gt2 : (upd H1 t2 (.tup [.str "places", .bl (decide (wd = .places))])) t2 = some (.tup [.str "places", .bl (decide (wd = .places))]) := upd_same
    have ha := kp2.get ha
    have gt1 := kp2.get gt1
    have kp := kp.trans kp2
    have kp2' := kp2
    clear kp2 kp2'
    generalize upd H1 t2 (.tup [.str "places", .bl (decide (wd = .places))]) = H2 at gt2 ha gt1 kp ⊢
    refine ⟨by show 2 ≤ sizeLine; decide, fun l1 hl1 => ?_⟩
    have kp3 : Kp tb [] H2 (upd H2 l1 (.lst [.ref t1, .ref t2])) := Kp.new hl1
    have gl1 : (upd H2 l1 (.lst [.ref t1, .ref t2])) l1 = some (.lst [.ref t1, .ref t2]) := upd_same
    have ha := kp3.get ha
    have gt1 := kp3.get gt1
    have gt2 := kp3.get gt2
    have kp := kp.trans kp3
    have kp3' := kp3
    clear kp3 kp3'
    generalize upd H2 l1 (.lst [.ref t1, .ref t2]) = H3 at gl1 ha gt1 gt2 kp ⊢
    refine ⟨_, rfl, _, rfl, a, CE wd, _, _, _, rfl, ha, T.ex wd, fun u h => h, T.kit wd .rule, by show 2 ≤ sizeLine; decide, fun t3 ht3 => ?_⟩
    have kp4 : Kp tb [] H3 (upd H3 t3 (.tup [.str "rule", .bl (decide (wd = .rule))])) := Kp.new ht3
    have gt3 : (upd H3 t3 (.tup [.str "rule", .bl (decide (wd = .rule))])) t3 = some (.tup [.str "rule", .bl (decide (wd = .rule))]) := upd_same
    have ha := kp4.get ha
    have gt1 := kp4.get gt1
    have gt2 := kp4.get gt2
    have gl1 := kp4.get gl1
    have kp := kp.trans kp4
    have kp4' := kp4
    clear kp4 kp4'
    generalize upd H3 t3 (.tup [.str "rule", .bl (decide (wd = .rule))]) = H4 at gt3 ha gt1 gt2 gl1 kp ⊢
    refine ⟨_, rfl, a, CE wd, _, _, _, rfl, ha, T.ex wd, fun u h => h, T.kit wd .wishes, by show 2 ≤ sizeLine; decide, fun t4 ht4 => ?_⟩
    have kp5 : Kp tb [] H4 (upd H4 t4 (.tup [.str "wishes", .bl (decide (wd = .wishes))])) := Kp.new ht4
    have gt4 : (upd H4 t4 (.tup [.str "wishes", .bl (decide (wd = .wishes))])) t4 = some (.tup [.str "wishes", .bl (decide (wd = .wishes))]) := upd_same
    have ha := kp5.get ha
    have gt1 := kp5.get gt1
    have gt2 := kp5.get gt2
    have gl1 := kp5.get gl1
    have gt3 := kp5.get gt3
    have kp := kp.trans kp5
    have kp5' := kp5
    clear kp5 kp5'
    generalize upd H4 t4 (.tup [.str "wishes", .bl (decide (wd = .wishes))]) = H5 at gt4 ha gt1 gt2 gl1 gt3 kp ⊢
    refine ⟨by show 2 ≤ sizeLine; decide, fun l2 hl2 => ?_⟩
    have kp6 : Kp tb [] H5 (upd H5 l2 (.lst [.ref t3, .ref t4])) := Kp.new hl2
    have gl2 : (upd H5 l2 (.lst [.ref t3, .ref t4])) l2 = some (.lst [.ref t3, .ref t4]) := upd_same
    have ha := kp6.get ha
    have gt1 := kp6.get gt1
    have gt2 := kp6.get gt2
    have gl1 := kp6.get gl1
    have gt3 := kp6.get gt3
    have gt4 := kp6.get gt4
    have kp := kp.trans kp6
    have kp6' := kp6
    clear kp6 kp6'
    generalize upd H5 l2 (.lst [.ref t3, .ref t4]) = H6 at gl2 ha gt1 gt2 gl1 gt3 gt4 kp ⊢
    refine ⟨l1, l2, _, _, rfl, rfl, gl1, gl2, by show 4 ≤ sizeLine; decide, fun l3 hl3 => ?_⟩
    have kp7 : Kp tb [] H6 (upd H6 l3 (.lst ([.ref t1, .ref t2] ++ [.ref t3, .ref t4]))) := Kp.new hl3
    have gl3 : (upd H6 l3 (.lst ([.ref t1, .ref t2] ++ [.ref t3, .ref t4]))) l3 = some (.lst ([.ref t1, .ref t2] ++ [.ref t3, .ref t4])) := upd_same
    have ha := kp7.get ha
    have gt1 := kp7.get gt1
    have gt2 := kp7.get gt2
    have gl1 := kp7.get gl1
    have gt3 := kp7.get gt3
    have gt4 := kp7.get gt4
    have gl2 := kp7.get gl2
    have kp := kp.trans kp7
    have kp7' := kp7
    clear kp7 kp7'
    generalize upd H6 l3 (.lst ([.ref t1, .ref t2] ++ [.ref t3, .ref t4])) = H7 at gl3 ha gt1 gt2 gl1 gt3 gt4 gl2 kp ⊢
    refine ⟨_, rfl, _, rfl, a, CE wd, _, _, _, rfl, ha, T.ex wd, fun u h => h, T.val wd, _, rfl, by show 2 ≤ sizeLine; decide, fun t5 ht5 => ?_⟩
    have kp8 : Kp tb [] H7 (upd H7 t5 (.tup [.str "bare", .bl !true])) := Kp.new ht5
    have gt5 : (upd H7 t5 (.tup [.str "bare", .bl !true])) t5 = some (.tup [.str "bare", .bl !true]) := upd_same
    have ha := kp8.get ha
    have gt1 := kp8.get gt1
    have gt2 := kp8.get gt2
    have gl1 := kp8.get gl1
    have gt3 := kp8.get gt3
    have gt4 := kp8.get gt4
    have gl2 := kp8.get gl2
    have gl3 := kp8.get gl3
    have kp := kp.trans kp8
    clear kp8
    generalize upd H7 t5 (.tup [.str "bare", .bl !true]) = H8 at gt5 ha gt1 gt2 gl1 gt3 gt4 gl2 gl3 kp ⊢
    refine ⟨by show 1 ≤ sizeLine; decide, fun l4 hl4 => ?_⟩
    have kp9 : Kp tb [] H8 (upd H8 l4 (.lst [.ref t5])) := Kp.new hl4
    have gl4 : (upd H8 l4 (.lst [.ref t5])) l4 = some (.lst [.ref t5]) := upd_same
    have ha := kp9.get ha
    have gt1 := kp9.get gt1
    have gt2 := kp9.get gt2
    have gl1 := kp9.get gl1
    have gt3 := kp9.get gt3
    have gt4 := kp9.get gt4
    have gl2 := kp9.get gl2
    have gl3 := kp9.get gl3
    have gt5 := kp9.get gt5
    have kp := kp.trans kp9
    clear kp9
    generalize upd H8 l4 (.lst [.ref t5]) = H9 at gl4 ha gt1 gt2 gl1 gt3 gt4 gl2 gl3 gt5 kp ⊢
    refine ⟨l3, l4, _, _, rfl, rfl, gl3, gl4, by show 5 ≤ sizeLine; decide, fun l5 hl5 => ?_⟩
    have kp10 : Kp tb [] H9 (upd H9 l5 (.lst ([.ref t1, .ref t2] ++ [.ref t3, .ref t4] ++ [.ref t5]))) := Kp.new hl5
    have gl5 : (upd H9 l5 (.lst ([.ref t1, .ref t2] ++ [.ref t3, .ref t4] ++ [.ref t5]))) l5 = some (.lst ([.ref t1, .ref t2] ++ [.ref t3, .ref t4] ++ [.ref t5])) := upd_same
    have ha := kp10.get ha
    have gt1 := kp10.get gt1
    have gt2 := kp10.get gt2
    have gl1 := kp10.get gl1
    have gt3 := kp10.get gt3
    have gt4 := kp10.get gt4
    have gl2 := kp10.get gl2
    have gl3 := kp10.get gl3
    have gt5 := kp10.get gt5
    have gl4 := kp10.get gl4
    have kp := kp.trans kp10
    clear kp10
    generalize upd H9 l5 (.lst ([.ref t1, .ref t2] ++ [.ref t3, .ref t4] ++ [.ref t5])) = H10 at gl5 ha gt1 gt2 gl1 gt3 gt4 gl2 gl3 gt5 gl4 kp ⊢
    have gl5 : H10 l5 = some (.lst ([t1, t2, t3, t4, t5].map V.ref)) := gl5
    have hts : TsAt sbV H10 [t1, t2, t3, t4, t5] (wdL wd) := ⟨gt1, gt2, gt3, gt4, gt5, trivial⟩
    refine ⟨_, rfl, l5, rfl, ⟨_, SqL.of gl5⟩, fun D hD => ?_⟩
    refine lc_it walk_list (LcI tb H10 D (fun i acc => acc = (((wdL wd).take i).filter fun p => p.2).map fun p => V.str p.1)) (LcI.start hD rfl) (fun i H' _ ⟨_, _, kp, _⟩ => SqL.of (kp.get gl5)) ?_ ?_
    · rintro i x H11 H12 hi ⟨acc, rfl, kpA, hDA⟩ ⟨rfl, hx⟩
      obtain ⟨t, p, rfl, hLp, ht, _⟩ := hts.get hx
      have et : (wdL wd).take (i + 1) = (wdL wd).take i ++ [p] := by rw [List.take_add_one, hLp] <;> rfl
      refine ⟨t, _, rfl, SqT.of (kpA.get ht), rfl, _, _, rfl, _, _, rfl, rfl, rfl, _, rfl, _, rfl, ?_⟩
      obtain ⟨z, b⟩ := p
      cases b with
      | true =>
        refine iteT ⟨_, rfl, LcI.next hD kpA hDA (Kp.refl _) ?_ ?_⟩
        · rw [List.length_map]
          exact small_of (m := 300) (Nat.le_trans (List.length_filter_le _ _) (Nat.le_trans (List.length_take_le _ _) (by have : i < 5 := hi; omega)))
        · rw [et, List.filter_append, List.filter_cons_of_pos rfl, List.filter_nil, List.map_append] <;> rfl
      | false =>
        refine iteF ⟨_, ?_, kpA, hDA⟩
        dsimp only
        rw [et, List.filter_append, List.filter_cons_of_neg (by simp), List.filter_nil, List.append_nil]
    rintro H11 ⟨acc, rfl, k11, hD11⟩
    rw [show ([t1, t2, t3, t4, t5].map V.ref).length = (wdL wd).length from rfl, List.take_of_length_le (Nat.le_refl _), wdL_is] at hD11
    exact q D H11 (kp.free _ hD) hD11 (kp.trans k11)
end
end Kf

namespace Kf
open PySem PySem.Spec PyProof.Rows L2
/-! ### odd values -/
theorem op_or {X : Cx} {f : Value → Value → Sem Value} {r1 r2 : R2} (h1 : OpR X f r1) (h2 : OpR X f r2) : OpR X f (fun x y H Q => r1 x y H Q ∨ r2 x y H Q) := fun pins s σ H x y v u Q I rx ry h => h.elim (h1 pins s σ H x y v u Q I rx ry) (h2 pins s σ H x y v u Q I rx ry)
/-- what is alike to itself, however it is held -/
def okE : V → Bool
  | .non | .bl _ | .int _ | .str _ | .ref _ => true
  | _ => false
theorem eqE {y : V} {u v : Value} (h : okE y = true) (ru : RelV y u) (rv : RelV y v) (A : Around) (s : Shared) : SeqAt.EqAt A s u v true := by
  cases y with
  | non => cases ru; cases rv; exact SeqAt.EqAt.same _
  | bl b => cases ru; cases rv; exact SeqAt.EqAt.same _
  | ref a => cases ru; cases rv; exact SeqAt.EqAt.same _
  | int i =>
    obtain ⟨t, rfl⟩ := ru
    obtain ⟨t', rfl⟩ := rv
    intro prog w E Q hq
    exact SeqAt.EqAt.int_int i t i t' prog w _ _ (by simpa using hq)
  | str z =>
    obtain ⟨t, rfl⟩ := ru
    obtain ⟨t', rfl⟩ := rv
    intro prog w E Q hq
    exact SeqAt.EqAt.str_str z t z t' prog w _ _ (by simpa using hq)
  | _ => cases h
theorem vals_at : ∀ {ys : List V} {us : List Value}, Vals ys us → ∀ (j : Nat) (h : j < us.length), ∃ y, ys[j]? = some y ∧ RelV y us[j]
  | _, _, .nil, j, h => absurd h (by simp)
  | _, _, .cons r t, 0, _ => ⟨_, rfl, r⟩
  | _, _, .cons r t, j + 1, h => vals_at t j (Nat.lt_of_succ_lt_succ h)
/-- two lists of one content -/
def rNeL (K : PySem.W.Frag) : R2 := fun x y H Q => ∃ (a b : Addr) (ys : List V), x = .ref a ∧ y = .ref b ∧ SqL K H a ys ∧ SqL K H b ys ∧ ys.all okE = true ∧ Q (.bl false) H
theorem op_neL {X : Cx} (hu : X.A.units < cLine) : OpR X (compareOp .NotEq) (rNeL X.K) := by
  intro pins s σ H x y v u Q I rx ry h
  obtain ⟨a, b, ys, rfl, rfl, ha, hb, hok, q⟩ := h
  obtain ⟨its, rv, hl, _⟩ := I.list ha
  obtain ⟨its2, rv2, hl2, _⟩ := I.list hb
  cases rx
  cases ry
  have hz : its.toArray.size = its2.toArray.size := by
    rw [List.size_toArray, List.size_toArray, ← rv.length, ← rv2.length]
  have he := PySem.SeqAt.RcNeAt.lists (A := X.A) (e := fun _ => true) hl.isList hl2.isList hz hu (fun j h1 h2 => by
    rw [List.size_toArray] at h1 h2
    obtain ⟨y, hy, r1⟩ := vals_at rv j h1
    obtain ⟨y', hy', r2⟩ := vals_at rv2 j h2
    rw [hy] at hy'
    obtain rfl := Option.some.inj hy'
    exact eqE (List.all_eq_true.mp hok y (List.mem_of_getElem? hy)) r1 r2 _ _)
  refine he _ _ _ _ ?_
  rw [show (!(List.range its.toArray.size).all fun _ => true) = false by simp]
  exact ⟨.bl false, H, I, rfl, q⟩
theorem okE_of {K : PySem.W.Frag} {H : Hp} {y : V} {T : String} (h : Knd K H y T) : okE y = true := by
  obtain ⟨ty, tok, _⟩ := h
  cases ty with
  | byt b => exact absurd tok (by decide)
  | _ => rfl
section
variable {P : Program} {w : World} {K : PySem.W.Frag} {mg : Str → Option Value} {base : Heap} {tb : Addr} {C : Rule → Addr} {CG : Addr}
theorem knd_non {H : Hp} : ∃ T, Knd K H .non T := ⟨_, .non, by decide, fun _ e => nomatch e⟩
theorem knd_int {H : Hp} (i : Int) : ∃ T, Knd K H (.int i) T := ⟨_, .int i, by decide, fun _ e => nomatch e⟩
theorem knd_bl {H : Hp} (b : Bool) : ∃ T, Knd K H (.bl b) T := ⟨_, .bl b, by decide, fun _ e => nomatch e⟩
theorem knd_lst {H : Hp} {a : Addr} {xs : List V} (h : H a = some (.lst xs)) : ∃ T, Knd K H (.ref a) T := ⟨_, .lst (SqL.of h), by decide, fun _ e => nomatch e⟩
theorem knd_tup {H : Hp} {a : Addr} {xs : List V} (h : H a = some (.tup xs)) : ∃ T, Knd K H (.ref a) T := ⟨_, .tup (SqT.of h), by decide, fun _ e => nomatch e⟩
theorem knd_dk {H : Hp} {a : Addr} {kvs : List (Key × V)} (h : H a = some (.dK kvs)) : ∃ T, Knd K H (.ref a) T := ⟨_, .dK h, by decide, fun _ e => nomatch e⟩
theorem all_cons {p : V → Prop} {x : V} {xs : List V} (h : p x) (r : ∀ y ∈ xs, p y) : ∀ y ∈ x :: xs, p y := List.forall_mem_cons.mpr ⟨h, r⟩
theorem all_nil {p : V → Prop} : ∀ y ∈ ([] : List V), p y := fun _ h => nomatch h
/-- one of a row of odd values, by a number -/
theorem pick_odd {Bad : PySem.W.Frag → Hp → V → Prop} {H : Hp} {xs : List V} {k : Nat} {n : Int} {n0 : 0 ≤ n} {o : Addr} {Q : VK} (hk : xs.length = k) (q : ∀ (x : V) (H' : Hp), Kp (tbOf K) [] H H' → Bad K H' x → Q x H') (kp : ∀ {x : V} {H' : Hp}, Bad K H x → Kp (tbOf K) [] H H' → Bad K H' x) (ho : H o = none) (hall : ∀ x ∈ xs, Bad K H x)
    (hkp : 0 < k := by decide) : tRet (tOp (rIxL K) (tVar 1) (tOp (rI (fun _ j => 0 < j) fun i j => V.int (i % j)) (tVar 0) (tC (V.int (k : Nat))))) { nx := fun _ H' => Q V.non H', rt := Q } [some (.int n), some (.ref o)] (upd H o (.lst xs)) := by
  have m0 := Int.emod_nonneg n (show ((k : Nat) : Int) ≠ 0 by omega)
  have m1 := Int.emod_lt_of_pos n (show (0 : Int) < ((k : Nat) : Int) by omega)
  have hj : (n % (k : Nat)).toNat < xs.length := by omega
  refine ⟨_, rfl, _, rfl, _, _, rfl, rfl, by show (0 : Int) < _; omega, o, xs, _, xs[(n % (k : Nat)).toNat], rfl, rfl, SqL.of upd_same, at_of (j := (n % (k : Nat)).toNat) (by omega) (List.getElem?_eq_getElem hj), ?_⟩
  exact q _ _ (Kp.new ho) (kp (hall _ (List.getElem_mem hj)) (Kp.new ho))
def spOddN (K : PySem.W.Frag) : Sp := fun vs H Q _ => ∃ n : Int, vs = [.int n] ∧ 0 ≤ n ∧ ∀ (y : V) (H' : Hp), BadN K H' y → Kp (tbOf K) [] H H' → Q y H'
abbrev n_oddn : List Str := ["_law_number", "_law_some"]
theorem sc_oddn : FnScope n_oddn ["_law_number"] (defScope s__law_odd_name) := ⟨rfl, rfl, rfl, by decide +kernel, rfl, by decide +kernel, by decide +kernel⟩
theorem badN_str {H : Hp} {z : Str} (h : isNameB z = false) (hl : z.length ≤ 100) : BadN K H (.str z) := ⟨h, "str", .str z, by decide, fun y e => by cases e; exact hl⟩
theorem ok_oddn {f : Addr} {fd : FuncData} {k0 : Nat} (F : FnP K "_law_odd_name" "_law_odd_name" s__law_odd_name f fd) : FnOk P w K mg base CX0 (k0 + 1) f fd ["_law_number"] (spOddN K) := by
  refine ok0 F sc_oddn (fun vs H Q E h => ?_) (fun cdv A outer s H vs Q E hr h => ?_)
  · obtain ⟨n, rfl, _⟩ := h
    rfl
  · obtain ⟨n, rfl, n0, q⟩ := h
    refine ⟨_, (pss_cons (ps_set (i := 1) sc_oddn.nd rfl (Or.inl rfl) (pe_lst (pa_cons pe_str (pa_cons pe_str (pa_cons pe_str (pa_cons pe_str (pa_cons pe_str (pa_cons pe_non (pa_cons pe_int (pa_cons pe_bl (pa_cons (pe_lst (pa_cons pe_str pa_nil)) (pa_cons (pe_tup (pa_cons pe_str pa_nil)) (pa_cons pe_dnewK (pa_cons pe_str (pa_cons pe_str pa_nil)))))))))))))))
      (pss_one (ps_ret (pe_ix ix_list (pv 1) (pe_op op_mod (pv 0) pe_int) (fun _ _ => rfl))))), ?_⟩
    refine ⟨by show 1 ≤ sizeLine; decide, fun l1 hl1 => ?_⟩
    have k1 : Kp (tbOf K) [] H (upd H l1 (.lst [.str "a"])) := Kp.new hl1
    have g1 : (upd H l1 (.lst [.str "a"])) l1 = some (.lst [.str "a"]) := upd_same
    generalize upd H l1 (.lst [.str "a"]) = H1 at k1 g1 ⊢
    refine ⟨by show 1 ≤ sizeLine; decide, fun t1 ht1 => ?_⟩
    have k2 : Kp (tbOf K) [] H1 (upd H1 t1 (.tup [.str "a"])) := Kp.new ht1
    have g2 : (upd H1 t1 (.tup [.str "a"])) t1 = some (.tup [.str "a"]) := upd_same
    have g12 := k2.get g1
    have k12 := k1.trans k2
    generalize upd H1 t1 (.tup [.str "a"]) = H2 at k2 g2 g12 k12 ⊢
    refine fun d1 hd1 => ?_
    have k3 : Kp (tbOf K) [] H2 (upd H2 d1 (.dK [])) := Kp.new hd1
    have g3 : (upd H2 d1 (.dK [])) d1 = some (.dK []) := upd_same
    have g13 := k3.get g12
    have g23 := k3.get g2
    have k13 := k12.trans k3
    generalize upd H2 d1 (.dK []) = H3 at k3 g3 g13 g23 k13 ⊢
    refine ⟨by show 13 ≤ sizeLine; decide, fun o ho => ?_⟩
    refine pick_odd (Bad := BadN) (n0 := n0) (k := 13) rfl (fun x H4 k4 hx => q x H4 hx (k13.trans k4)) (fun h k => h.kp k) ho ?_
    have hs : ∀ z : Str, isNameB z = false → z.length ≤ 100 → BadN K H3 (.str z) := fun z h1 h2 => badN_str h1 h2
    refine all_cons (hs _ (by decide +kernel) (by decide +kernel)) <| all_cons (hs _ (by decide +kernel) (by decide +kernel)) <| all_cons (hs _ (by decide +kernel) (by decide +kernel)) <| all_cons (hs _ (by decide +kernel) (by decide +kernel)) <| all_cons (hs _ (by decide +kernel) (by decide +kernel)) <| all_cons ⟨rfl, knd_non⟩ <| all_cons ⟨rfl, knd_int 5⟩ <| all_cons ⟨rfl, knd_bl true⟩ <|
      all_cons ⟨rfl, knd_lst g13⟩ <| all_cons ⟨rfl, knd_tup g23⟩ <| all_cons ⟨rfl, knd_dk g3⟩ <| all_cons (hs _ (by decide +kernel) (by decide +kernel)) <| all_cons (hs _ (by decide +kernel) (by decide +kernel)) <| all_nil
end
end Kf

namespace Kf
open PySem PySem.Spec PyProof.Rows L2
section
variable {P : Program} {w : World} {K : PySem.W.Frag} {mg : Str → Option Value} {base : Heap} {tb : Addr} {C : Rule → Addr} {CG : Addr}
def spOddP (K : PySem.W.Frag) : Sp := fun vs H Q _ => ∃ n : Int, vs = [.int n] ∧ 0 ≤ n ∧ ∀ (y : V) (H' : Hp), BadP K H' y → Kp (tbOf K) [] H H' → Q y H'
abbrev n_oddp : List Str := ["_law_number", "_law_some"]
theorem sc_oddp : FnScope n_oddp ["_law_number"] (defScope s__law_odd_places) := ⟨rfl, rfl, rfl, by decide +kernel, rfl, by decide +kernel, by decide +kernel⟩
theorem ok_oddp {f : Addr} {fd : FuncData} {k0 : Nat} (F : FnP K "_law_odd_places" "_law_odd_places" s__law_odd_places f fd) : FnOk P w K mg base CX0 (k0 + 1) f fd ["_law_number"] (spOddP K) := by
  refine ok0 F sc_oddp (fun vs H Q E h => ?_) (fun cdv A outer s H vs Q E hr h => ?_)
  · obtain ⟨n, rfl, _⟩ := h
    rfl
  · obtain ⟨n, rfl, n0, q⟩ := h
    refine ⟨_, (pss_cons (ps_set (i := 1) sc_oddp.nd rfl (Or.inl rfl) (pe_lst (pa_cons pe_int (pa_cons pe_int (pa_cons (pe_un un_neg pe_int) (pa_cons pe_bl (pa_cons pe_non (pa_cons pe_str (pa_cons (pe_lst (pa_cons pe_int pa_nil)) (pa_cons (pe_tup (pa_cons pe_int pa_nil)) (pa_cons (pe_op op_pow pe_int pe_int) (pa_cons pe_dnewK pa_nil))))))))))))
      (pss_one (ps_ret (pe_ix ix_list (pv 1) (pe_op op_mod (pv 0) pe_int) (fun _ _ => rfl))))), ?_⟩
    refine ⟨_, rfl, by show 1 ≤ sizeLine; decide, fun l1 hl1 => ?_⟩
    have k1 : Kp (tbOf K) [] H (upd H l1 (.lst [.int 3])) := Kp.new hl1
    have g1 : (upd H l1 (.lst [.int 3])) l1 = some (.lst [.int 3]) := upd_same
    generalize upd H l1 (.lst [.int 3]) = H1 at k1 g1 ⊢
    refine ⟨by show 1 ≤ sizeLine; decide, fun t1 ht1 => ?_⟩
    have k2 : Kp (tbOf K) [] H1 (upd H1 t1 (.tup [.int 3])) := Kp.new ht1
    have g2 : (upd H1 t1 (.tup [.int 3])) t1 = some (.tup [.int 3]) := upd_same
    have g12 := k2.get g1
    have k12 := k1.trans k2
    generalize upd H1 t1 (.tup [.int 3]) = H2 at k2 g2 g12 k12 ⊢
    refine ⟨_, _, rfl, rfl, ⟨by decide, by decide, by decide⟩, fun d1 hd1 => ?_⟩
    have k3 : Kp (tbOf K) [] H2 (upd H2 d1 (.dK [])) := Kp.new hd1
    have g3 : (upd H2 d1 (.dK [])) d1 = some (.dK []) := upd_same
    have g13 := k3.get g12
    have g23 := k3.get g2
    have k13 := k12.trans k3
    generalize upd H2 d1 (.dK []) = H3 at k3 g3 g13 g23 k13 ⊢
    refine ⟨by show 10 ≤ sizeLine; decide, fun o ho => ?_⟩
    refine pick_odd (Bad := BadP) (n0 := n0) (k := 10) rfl (fun x H4 k4 hx => q x H4 hx (k13.trans k4)) (fun h k => h.kp k) ho ?_
    refine all_cons ⟨by decide, knd_int _⟩ <| all_cons ⟨by decide, knd_int _⟩ <| all_cons ⟨by decide, knd_int _⟩ <| all_cons ⟨rfl, knd_bl true⟩ <| all_cons ⟨rfl, knd_non⟩ <| all_cons ⟨rfl, ⟨_, .str _, by decide, fun y e => by cases e; decide +kernel⟩⟩ <|
      all_cons ⟨rfl, knd_lst g13⟩ <| all_cons ⟨rfl, knd_tup g23⟩ <| all_cons ⟨by decide, knd_int _⟩ <| all_cons ⟨rfl, knd_dk g3⟩ <| all_nil
/-- a bad row of wishes, and how it can be compared with its copy -/
def BadWc (K : PySem.W.Frag) (H : Hp) (y : V) : Prop := BadW K H y ∧ ((∃ (a : Addr) (ys : List V), y = .ref a ∧ H a = some (.lst ys) ∧ ys.all okE = true ∧ ys.length ≤ 400) ∨ (∃ (a : Addr) (ws : List Str), y = .ref a ∧ H a = some (.tup (ws.map V.str)) ∧ OkS ws) ∨ (∃ a : Addr, y = .ref a ∧ H a = some (.dK [])) ∨ y = .non ∨ y = .int 5 ∨ y = .str "ab")
theorem BadWc.kp {H H' : Hp} {y : V} (h : BadWc K H y) (k : Kp tb [] H H') : BadWc K H' y := by
  refine ⟨h.1.kp k, ?_⟩
  rcases h.2 with ⟨a, ys, e, h1, h2⟩ | ⟨a, ws, e, h1, h2⟩ | ⟨a, e, h1⟩ | h
  · exact .inl ⟨a, ys, e, k.get h1, h2⟩
  · exact .inr (.inl ⟨a, ws, e, k.get h1, h2⟩)
  · exact .inr (.inr (.inl ⟨a, e, k.get h1⟩))
  · exact .inr (.inr (.inr h))
def spOddW (K : PySem.W.Frag) : Sp := fun vs H Q _ => ∃ (n : Int) (a : Addr) (ws : List Str), vs = [.int n, .ref a] ∧ 0 ≤ n ∧ H a = some (.lst (ws.map V.str)) ∧ ws.length ≤ 40 ∧ (∀ z ∈ ws, IsName z) ∧ ∀ (y : V) (H' : Hp), BadWc K H' y → Kp (tbOf K) [] H H' → Q y H'
abbrev n_oddw : List Str := ["_law_number", "_law_wishes", "_law_at", "_law_bent", "_law_long"]
theorem sc_oddw : FnScope n_oddw ["_law_number", "_law_wishes"] (defScope s__law_odd_wishes) := ⟨rfl, rfl, rfl, by decide +kernel, rfl, by decide +kernel, by decide +kernel⟩
theorem ok_oddw {f : Addr} {fd : FuncData} {k0 : Nat} (F : FnP K "_law_odd_wishes" "_law_odd_wishes" s__law_odd_wishes f fd) (hlen : mg "len" = none) (htuple : mg "tuple" = none) (GO : Glob P w K mg base CX0 (k0 + 1) "_law_odd_name" ["_law_number"] (spOddN K)) : FnOk P w K mg base CX0 (k0 + 2) f fd ["_law_number", "_law_wishes"] (spOddW K) := by
  refine ok0 F sc_oddw (fun vs H Q E h => ?_) (fun cdv A outer s H vs Q E hr h => ?_)
  · obtain ⟨n, a, ws, rfl, _⟩ := h
    rfl
  · obtain ⟨n, a, ws, rfl, n0, ha, hl, hn, q⟩ := h
    refine ⟨_, (pss_cons (ps_set (i := 2) sc_oddw.nd rfl (Or.inl rfl) (pe_op op_mod (pv 0) (pe_op op_add (pe_callB call_len_seq (by rfl) hlen PySem.boot_len (pa_cons (pv 1) pa_nil)) pe_int)))
      (pss_cons (ps_set (i := 3) sc_oddw.nd rfl (Or.inl rfl) (pe_op op_cat (pe_op op_cat (pe_slice sl_list (pv 1) po_none (po_some (pv 2))) (pe_lst (pa_cons (pe_callG GO hr (by rfl) pass0 (pa_cons (pe_op op_fdiv (pv 0) pe_int) pa_nil)) pa_nil))) (pe_slice sl_list (pv 1) (po_some (pv 2)) po_none)))
      (pss_cons (ps_set (i := 4) sc_oddw.nd rfl (Or.inl rfl) (pe_slice sl_list (pe_op op_rep (pe_op op_cat (pv 1) (pe_lst (pa_cons pe_str pa_nil))) pe_int) po_none (po_some pe_int)))
      (pss_one (ps_ret (pe_ix ix_list (pe_lst (pa_cons pe_non (pa_cons (pe_callTy call_tuple_of (by rfl) htuple (by decide +kernel) (pa_cons (pv 1) pa_nil)) (pa_cons (pv 3) (pa_cons pe_str (pa_cons pe_dnewK (pa_cons (pv 3) (pa_cons (pv 4) (pa_cons (pv 3) (pa_cons pe_int pa_nil)))))))))) (pe_op op_mod (pe_op op_fdiv (pv 0) pe_int) pe_int) (fun _ _ => rfl))))))), ?_⟩
    refine ⟨_, rfl, _, rfl, a, _, rfl, .inl (SqL.of ha), _, _, rfl, rfl, _, _, rfl, rfl, ?_, ?_⟩
    · rw [List.length_map]; show (0 : Int) < _; omega
    rw [List.length_map]
    have m0 := Int.emod_nonneg n (show (((ws.length : Nat) : Int) + 1) ≠ 0 by omega)
    have m1 := Int.emod_lt_of_pos n (show (0 : Int) < ((ws.length : Nat) : Int) + 1 by omega)
    obtain ⟨j, hj⟩ : ∃ j : Nat, n % (((ws.length : Nat) : Int) + 1) = (j : Int) := ⟨(n % (((ws.length : Nat) : Int) + 1)).toNat, by omega⟩
    have hjl : j ≤ ws.length := by omega
    dsimp only
    rw [hj]
    have c1 : cutV (ws.map V.str) none (some (j : Int)) = (ws.take j).map V.str := by
      unfold cutV
      rw [List.length_map, sIx_pos (by omega), Int.toNat_natCast, Nat.min_eq_left hjl]
      show List.take (j - 0) (List.drop 0 (ws.map V.str)) = _
      simp
    have c2 : cutV (ws.map V.str) (some (j : Int)) none = (ws.drop j).map V.str := by
      unfold cutV
      rw [List.length_map, sIx_pos (by omega), Int.toNat_natCast, Nat.min_eq_left hjl]
      show List.take (ws.length - j) (List.drop j (ws.map V.str)) = _
      rw [List.take_of_length_le (by rw [List.length_drop, List.length_map]; exact Nat.le_refl _), List.map_drop]
    refine ⟨_, rfl, _, rfl, _, rfl, a, _, rfl, SqL.of ha, fun l1 hl1 => ?_⟩
    rw [c1]
    have k1 : Kp (tbOf K) [] H (upd H l1 (.lst ((ws.take j).map V.str))) := Kp.new hl1
    have g1 : (upd H l1 (.lst ((ws.take j).map V.str))) l1 = some (.lst ((ws.take j).map V.str)) := upd_same
    generalize upd H l1 (.lst ((ws.take j).map V.str)) = H1 at k1 g1 ⊢
    refine ⟨_, rfl, _, _, rfl, rfl, ⟨by decide, by decide⟩, _, rfl, by show 0 ≤ n / 300; omega, fun y H2 hy k2 => ?_⟩
    have g12 := k2.get g1
    have k12 := k1.trans k2
    refine ⟨by show 1 ≤ sizeLine; decide, fun l2 hl2 => ?_⟩
    have k3 : Kp (tbOf K) [] H2 (upd H2 l2 (.lst [y])) := Kp.new hl2
    have g2 : (upd H2 l2 (.lst [y])) l2 = some (.lst [y]) := upd_same
    have g13 := k3.get g12
    have k13 := k12.trans k3
    have hy3 := hy.kp k3
    generalize upd H2 l2 (.lst [y]) = H3 at k3 g2 g13 k13 hy3 ⊢
    have htl : ((ws.take j).map V.str).length ≤ 40 := by rw [List.length_map]; exact Nat.le_trans (List.length_take_le _ _) (by omega)
    have hdl : ((ws.drop j).map V.str).length ≤ 40 := by rw [List.length_map, List.length_drop]; omega
    refine ⟨l1, l2, _, _, rfl, rfl, g13, g2, Nat.le_of_lt (small_of (m := 41) (by show _ + 1 ≤ 41; omega)), fun l3 hl3 => ?_⟩
    have k4 : Kp (tbOf K) [] H3 (upd H3 l3 (.lst ((ws.take j).map V.str ++ [y]))) := Kp.new hl3
    have g3 : (upd H3 l3 (.lst ((ws.take j).map V.str ++ [y]))) l3 = some (.lst ((ws.take j).map V.str ++ [y])) := upd_same
    have k14 := k13.trans k4
    have hy4 := hy3.kp k4
    generalize upd H3 l3 (.lst ((ws.take j).map V.str ++ [y])) = H4 at k4 g3 k14 hy4 ⊢
    refine ⟨_, rfl, _, rfl, _, rfl, a, _, rfl, SqL.of (k14.get ha), fun l4 hl4 => ?_⟩
    rw [c2]
    have k5 : Kp (tbOf K) [] H4 (upd H4 l4 (.lst ((ws.drop j).map V.str))) := Kp.new hl4
    have g4 : (upd H4 l4 (.lst ((ws.drop j).map V.str))) l4 = some (.lst ((ws.drop j).map V.str)) := upd_same
    have g35 := k5.get g3
    have k15 := k14.trans k5
    have hy5 := hy4.kp k5
    generalize upd H4 l4 (.lst ((ws.drop j).map V.str)) = H5 at k5 g4 g35 k15 hy5 ⊢
    refine ⟨l3, l4, _, _, rfl, rfl, g35, g4, Nat.le_of_lt (small_of (m := 81) (by rw [List.length_append, List.length_singleton]; omega)), fun l5 hl5 => ?_⟩
    have k6 : Kp (tbOf K) [] H5 (upd H5 l5 (.lst ((ws.take j).map V.str ++ [y] ++ (ws.drop j).map V.str))) := Kp.new hl5
    have g5 : (upd H5 l5 (.lst ((ws.take j).map V.str ++ [y] ++ (ws.drop j).map V.str))) l5 = some (.lst ((ws.take j).map V.str ++ y :: (ws.drop j).map V.str)) := by rw [upd_same, List.append_assoc]; rfl
    have k16 := k15.trans k6
    have hy6 := hy5.kp k6
    generalize upd H5 l5 (.lst ((ws.take j).map V.str ++ [y] ++ (ws.drop j).map V.str)) = H6 at k6 g5 k16 hy6 ⊢
    -- long
    refine ⟨_, rfl, by show 1 ≤ sizeLine; decide, fun l6 hl6 => ?_⟩
    have k7 : Kp (tbOf K) [] H6 (upd H6 l6 (.lst [.str "ab"])) := Kp.new hl6
    have g6 : (upd H6 l6 (.lst [.str "ab"])) l6 = some (.lst [.str "ab"]) := upd_same
    have g57 := k7.get g5
    have k17 := k16.trans k7
    have hy7 := hy6.kp k7
    generalize upd H6 l6 (.lst [.str "ab"]) = H7 at k7 g6 g57 k17 hy7 ⊢
    refine ⟨a, l6, _, _, rfl, rfl, k17.get ha, g6, Nat.le_of_lt (small_of (m := 41) (by rw [List.length_map]; show _ + 1 ≤ 41; omega)), fun l7 hl7 => ?_⟩
    have k8 : Kp (tbOf K) [] H7 (upd H7 l7 (.lst (ws.map V.str ++ [.str "ab"]))) := Kp.new hl7
    have g7 : (upd H7 l7 (.lst (ws.map V.str ++ [.str "ab"]))) l7 = some (.lst (ws.map V.str ++ [.str "ab"])) := upd_same
    have g58 := k8.get g57
    have k18 := k17.trans k8
    have hy8 := hy7.kp k8
    generalize upd H7 l7 (.lst (ws.map V.str ++ [.str "ab"])) = H8 at k8 g7 g58 k18 hy8 ⊢
    have hlen1 : (ws.map V.str ++ [V.str "ab"]).length = ws.length + 1 := by rw [List.length_append, List.length_map] <;> rfl
    refine ⟨l7, 301, _, rfl, rfl, g7, by decide, by decide, Nat.le_of_lt (small_of (m := 20000) (by rw [hlen1]; show _ * 301 ≤ _; omega)), fun l8 hl8 => ?_⟩
    have hM1 : 301 ≤ ((List.replicate (301 : Int).toNat (ws.map V.str ++ [V.str "ab"])).flatten).length := by
      rw [List.length_flatten, List.map_replicate, List.sum_replicate_nat, hlen1]
      show 301 ≤ 301 * _
      omega
    have hM2 : ∀ y ∈ (List.replicate (301 : Int).toNat (ws.map V.str ++ [V.str "ab"])).flatten, okE y = true := fun y hy => by
      obtain ⟨l, hl, hy⟩ := List.mem_flatten.mp hy
      rw [(List.mem_replicate.mp hl).2] at hy
      rcases List.mem_append.mp hy with h | h
      · obtain ⟨z, _, rfl⟩ := List.mem_map.mp h
        rfl
      · rw [List.mem_singleton.mp h]
        rfl
    generalize (List.replicate (301 : Int).toNat (ws.map V.str ++ [V.str "ab"])).flatten = M at hM1 hM2 ⊢
    have k9 : Kp (tbOf K) [] H8 (upd H8 l8 (.lst M)) := Kp.new hl8
    have g8 : (upd H8 l8 (.lst M)) l8 = some (.lst M) := upd_same
    have g59 := k9.get g58
    have k19 := k18.trans k9
    have hy9 := hy8.kp k9
    generalize upd H8 l8 (.lst M) = H9 at k9 g8 g59 k19 hy9 ⊢
    have c3 : cutV M none (some 301) = M.take 301 := by
      unfold cutV
      rw [sIx_pos (by decide), show (301 : Int).toNat = 301 from rfl, Nat.min_eq_left hM1]
      show List.take (301 - 0) (List.drop 0 M) = _
      simp
    refine ⟨_, rfl, l8, _, rfl, SqL.of g8, fun l9 hl9 => ?_⟩
    rw [c3]
    have hTl : (M.take 301).length = 301 := by rw [List.length_take]; omega
    have hTo : (M.take 301).all okE = true := List.all_eq_true.mpr fun y hy => hM2 y (List.mem_of_mem_take hy)
    generalize M.take 301 = T3 at hTl hTo ⊢
    have k10 : Kp (tbOf K) [] H9 (upd H9 l9 (.lst T3)) := Kp.new hl9
    have g9 : (upd H9 l9 (.lst T3)) l9 = some (.lst T3) := upd_same
    have g50 := k10.get g59
    have k110 := k19.trans k10
    have hy10 := hy9.kp k10
    generalize upd H9 l9 (.lst T3) = H10 at k10 g9 g50 k110 hy10 ⊢
    -- the row to choose from
    refine ⟨_, rfl, a, _, rfl, .inl ⟨SqL.of (k110.get ha), fun t ht => ?_⟩⟩
    have k11 : Kp (tbOf K) [] H10 (upd H10 t (.tup (ws.map V.str))) := Kp.new ht
    have gt : (upd H10 t (.tup (ws.map V.str))) t = some (.tup (ws.map V.str)) := upd_same
    have g51 := k11.get g50
    have g91 := k11.get g9
    have k111 := k110.trans k11
    have hy11 := hy10.kp k11
    generalize upd H10 t (.tup (ws.map V.str)) = H11 at k11 gt g51 g91 k111 hy11 ⊢
    refine ⟨_, rfl, fun d hd => ?_⟩
    have k12' : Kp (tbOf K) [] H11 (upd H11 d (.dK [])) := Kp.new hd
    have gd : (upd H11 d (.dK [])) d = some (.dK []) := upd_same
    have g52 := k12'.get g51
    have g92 := k12'.get g91
    have gt2 := k12'.get gt
    have k112 := k111.trans k12'
    have hy12 := hy11.kp k12'
    generalize upd H11 d (.dK []) = H12 at k12' gd g52 g92 gt2 k112 hy12 ⊢
    have okw : OkS ws := okS_names hn
    obtain ⟨hyf, Ty, hyk⟩ := hy12
    have bent : BadWc K H12 (.ref l5) := by
      refine ⟨.inr (.inr ⟨l5, ws.take j, y, _, rfl, g52, ?_, Nat.le_trans (List.length_take_le _ _) (by omega), fun z hz => hn z (List.mem_of_mem_take hz), hyf, Ty, hyk⟩), .inl ⟨l5, _, rfl, g52, ?_, ?_⟩⟩
      · rw [List.length_append, List.length_cons]; omega
      · rw [List.all_append, List.all_cons, okE_of hyk, List.all_map, List.all_map]
        simp [Function.comp, okE]
      · rw [List.length_append, List.length_cons]; omega
    have long : BadWc K H12 (.ref l9) := ⟨.inr (.inl ⟨l9, T3, rfl, g92, by omega⟩), .inl ⟨l9, T3, rfl, g92, hTo, by omega⟩⟩
    have hx : ∀ (x : V) (T : String), TyB K H12 x T → tyOk T = true → (∀ z, x = .str z → z.length ≤ 100) → T ≠ "list" → BadW K H12 x := fun x T h1 h2 h3 h4 => .inl ⟨T, ⟨h1, h2, h3⟩, h4⟩
    have hall : ∀ x ∈ [V.non, .ref t, .ref l5, .str "ab", .ref d, .ref l5, .ref l9, .ref l5, .int 5], BadWc K H12 x :=
      all_cons ⟨hx _ _ .non (by decide) (fun _ e => nomatch e) (by decide), .inr (.inr (.inr (.inl rfl)))⟩ <| all_cons ⟨hx _ _ (.tup (SqT.of gt2)) (by decide) (fun _ e => nomatch e) (by decide), .inr (.inl ⟨t, ws, rfl, gt2, okw⟩)⟩ <| all_cons bent <|
      all_cons ⟨hx _ _ (.str _) (by decide) (fun _ e => by cases e; decide +kernel) (by decide), .inr (.inr (.inr (.inr (.inr rfl))))⟩ <| all_cons ⟨hx _ _ (.dK gd) (by decide) (fun _ e => nomatch e) (by decide), .inr (.inr (.inl ⟨d, rfl, gd⟩))⟩ <| all_cons bent <| all_cons long <| all_cons bent <|
      all_cons ⟨hx _ _ (.int 5) (by decide) (fun _ e => nomatch e) (by decide), .inr (.inr (.inr (.inr (.inl rfl))))⟩ <| all_nil
    refine ⟨_, rfl, _, rfl, _, rfl, by show 9 ≤ sizeLine; decide, fun o ho => ?_⟩
    generalize hxs : [V.non, .ref t, .ref l5, .str "ab", .ref d, .ref l5, .ref l9, .ref l5, .int 5] = xs at hall
    have hxl : xs.length = 9 := by rw [← hxs]; rfl
    have q0 := Int.emod_nonneg (n / 4000) (show (9 : Int) ≠ 0 by decide)
    have q1 := Int.emod_lt_of_pos (n / 4000) (show (0 : Int) < 9 by decide)
    have hji : (n / 4000 % 9).toNat < xs.length := by omega
    refine ⟨_, rfl, _, _, rfl, rfl, ⟨by decide, by decide⟩, _, _, rfl, rfl, by show (0 : Int) < 9; decide, o, xs, _, xs[(n / 4000 % 9).toNat], rfl, rfl, SqL.of (by rw [upd_same, ← hxs]), at_of (j := (n / 4000 % 9).toNat) (by omega) (List.getElem?_eq_getElem hji), ?_⟩
    exact q _ _ ((hall _ (List.getElem_mem hji)).kp (Kp.new (tb := tbOf K) ho)) (k112.trans (Kp.new ho))
end
end Kf

namespace Kf
open PySem PySem.Spec PyProof.Rows L2
def dueL (way : Int) (r p w : Bool) : List Str :=
  if (way = 0 ∨ way = 7) ∧ r = false then ["rule"] else if (way ≠ 2 ∧ way ≠ 3 ∧ way ≠ 4) ∧ p = false then ["places"] else if way < 7 ∧ w = false then ["wishes"] else []
section
variable {P : Program} {w : World} {K : PySem.W.Frag} {mg : Str → Option Value} {base : Heap} {tb : Addr} {C : Rule → Addr} {CG : Addr}
def spDue4 (tb : Addr) : Sp := fun vs H Q _ => ∃ (n : Int) (r p w : Bool), vs = [.int n, .bl r, .bl p, .bl w] ∧ ∀ (o : Addr) (H' : Hp), H o = none → H' o = some (.lst ((dueL n r p w).map V.str)) → Kp tb [] H H' → Q (.ref o) H'
abbrev n_due4 : List Str := ["_law_way", "_law_is_rule", "_law_is_places", "_law_is_wishes"]
theorem sc_due4 : FnScope n_due4 ["_law_way", "_law_is_rule", "_law_is_places", "_law_is_wishes"] (defScope s__law_due) := ⟨rfl, rfl, rfl, by decide +kernel, rfl, by decide +kernel, by decide +kernel⟩
theorem ok_due4 {f : Addr} {fd : FuncData} {k0 : Nat} (F : FnP K "_law_due" "_law_due" s__law_due f fd) : FnOk P w K mg base CX0 (k0 + 1) f fd ["_law_way", "_law_is_rule", "_law_is_places", "_law_is_wishes"] (spDue4 tb) := by
  refine ok0 F sc_due4 (fun vs H Q E h => ?_) (fun cdv A outer s H vs Q E hr h => ?_)
  · obtain ⟨n, r, p, w, rfl, _⟩ := h
    rfl
  · obtain ⟨n, r, p, w, rfl, q⟩ := h
    refine ⟨_, (C8.pss_cut (ps_if (PW.pt (pw_and (pt_cmpR op_in_seq (pv 0) (pe_tup (pa_cons pe_int (pa_cons pe_int pa_nil))) (by with_unfolding_all rfl)) (pw_and1 (pt_not (pt_val (pv 1))))))
        (pss_one (ps_ret (pe_lst (pa_cons pe_str pa_nil))))
        pss_nil)
      (C8.pss_cut (ps_if (PW.pt (pw_and (pt_cmpR op_notIn_seq (pv 0) (pe_tup (pa_cons pe_int (pa_cons pe_int (pa_cons pe_int pa_nil)))) (by with_unfolding_all rfl)) (pw_and1 (pt_not (pt_val (pv 2))))))
        (pss_one (ps_ret (pe_lst (pa_cons pe_str pa_nil))))
        pss_nil)
      (pss_one (ps_ret (pe_ifExp (PW.pt (pw_and (pt_cmpR op_lt (pv 0) pe_int (nomark _)) (pw_and1 (pt_not (pt_val (pv 3)))))) (pe_lst (pa_cons pe_str pa_nil)) (pe_lst pa_nil)))))), ?_⟩
    have i1 : inV (.int n) [V.int 0, V.int 7] = decide (n = 0 ∨ n = 7) := by
      show ((0 == n) || ((7 == n) || false)) = _
      by_cases a : n = 0
      · simp [a]
      · by_cases b : n = 7
        · simp [b]
        · have a' : ¬ (0 : Int) = n := fun h => a h.symm
          have b' : ¬ (7 : Int) = n := fun h => b h.symm
          simp [a, b, a', b']
    have i2 : inV (.int n) [V.int 2, V.int 3, V.int 4] = decide (n = 2 ∨ n = 3 ∨ n = 4) := by
      show ((2 == n) || ((3 == n) || ((4 == n) || false))) = _
      by_cases a : n = 2
      · simp [a]
      · by_cases b : n = 3
        · simp [b]
        · by_cases c : n = 4
          · simp [c]
          · have a' : ¬ (2 : Int) = n := fun h => a h.symm
            have b' : ¬ (3 : Int) = n := fun h => b h.symm
            have c' : ¬ (4 : Int) = n := fun h => c h.symm
            simp [a, b, c, a', b', c']
    -- what is told: one word
    have told : ∀ (H1 : Hp) (z : Str), dueL n r p w = [z] → Kp tb [] H H1 → ∀ (o : Addr), H1 o = none → Q (.ref o) (upd H1 o (.lst [.str z])) := fun H1 z e k o ho => by
      refine q o _ (k.free _ ho) ?_ (k.step ho)
      rw [upd_same, e]
      rfl
    refine ⟨fun σ H' => σ = [some (.int n), some (.bl r), some (.bl p), some (.bl w)] ∧ Kp tb [] H H' ∧ ¬ ((n = 0 ∨ n = 7) ∧ r = false), ?_, ?_⟩
    · refine ⟨_, rfl, by show 2 ≤ sizeLine; decide, fun t ht => ?_⟩
      have k1 : Kp tb [] H (upd H t (.tup [.int 0, .int 7])) := Kp.new ht
      refine ⟨t, _, rfl, .inr (SqT.of upd_same), rfl, rfl, _, rfl, ?_⟩
      rw [if_neg (by decide), i1]
      by_cases a : n = 0 ∨ n = 7
      · rw [decide_eq_true a]
        refine iteT ⟨_, rfl, _, rfl, ?_⟩
        cases r with
        | true => exact iteF ⟨rfl, k1, fun h => nomatch h.2⟩
        | false => exact iteT ⟨by show 1 ≤ sizeLine; decide, told _ "rule" (by unfold dueL; rw [if_pos ⟨a, rfl⟩]) k1⟩
      · rw [decide_eq_false a]
        exact iteF (iteF ⟨rfl, k1, fun h => a h.1⟩)
    · rintro σ H1 ⟨rfl, k1, hr1⟩
      refine ⟨fun σ H' => σ = [some (.int n), some (.bl r), some (.bl p), some (.bl w)] ∧ Kp tb [] H H' ∧ ¬ ((n ≠ 2 ∧ n ≠ 3 ∧ n ≠ 4) ∧ p = false), ?_, ?_⟩
      · refine ⟨_, rfl, by show 3 ≤ sizeLine; decide, fun t ht => ?_⟩
        have k2 : Kp tb [] H (upd H1 t (.tup [.int 2, .int 3, .int 4])) := k1.step ht
        refine ⟨t, _, rfl, .inr (SqT.of upd_same), rfl, rfl, _, rfl, ?_⟩
        rw [if_pos rfl, i2]
        by_cases a : n = 2 ∨ n = 3 ∨ n = 4
        · rw [decide_eq_true a]
          exact iteF (iteF ⟨rfl, k2, fun h => by omega⟩)
        · rw [decide_eq_false a]
          refine iteT ⟨_, rfl, _, rfl, ?_⟩
          cases p with
          | true => exact iteF ⟨rfl, k2, fun h => nomatch h.2⟩
          | false => exact iteT ⟨by show 1 ≤ sizeLine; decide, told _ "places" (by unfold dueL; rw [if_neg hr1, if_pos ⟨by omega, rfl⟩]) k2⟩
      · rintro σ H2 ⟨rfl, k2, hr2⟩
        refine ⟨_, rfl, _, _, rfl, rfl, _, rfl, ?_⟩
        by_cases a : n < 7
        · rw [decide_eq_true a]
          refine iteT ⟨_, rfl, _, rfl, ?_⟩
          cases w with
          | true =>
            refine iteF ⟨Nat.zero_le _, fun o ho => q o _ (k2.free _ ho) ?_ (k2.step ho)⟩
            rw [upd_same, dueL, if_neg hr1, if_neg hr2, if_neg (fun h => nomatch h.2)]
            rfl
          | false => exact iteT ⟨by show 1 ≤ sizeLine; decide, told _ "wishes" (by unfold dueL; rw [if_neg hr1, if_neg hr2, if_pos ⟨a, rfl⟩]) k2⟩
        · rw [decide_eq_false a]
          refine iteF (iteF ⟨Nat.zero_le _, fun o ho => q o _ (k2.free _ ho) ?_ (k2.step ho)⟩)
          rw [upd_same, dueL, if_neg hr1, if_neg hr2, if_neg (fun h => a h.1)]
          rfl
end
end Kf

namespace Kf
open PySem PySem.Spec PyProof.Rows L2
/-! ### all that a shelf tells -/
def tailV (r : Rule) (l2 : Addr) (s : St3) : List V := match r with
  | .marked => [.ref l2, .int s.rd]
  | _ => [.ref l2]
def tailR (r : Rule) (s : St3) : List Str := match r with
  | .marked => sortS s.marks
  | _ => s.row
def isM : Rule → Bool
  | .marked => true
  | _ => false
structure StAt (r : Rule) (s : St3) (m k : Int) (H : Hp) (o : Addr) : Prop where
  at_ : ∃ l1 l2 : Addr, H o = some (.lst ([.ref l1, .int m, .int k] ++ tailV r l2 s)) ∧ H l1 = some (.lst ((sortS s.row).map V.str)) ∧ H l2 = some (.lst ((tailR r s).map V.str))
theorem StAt.kp {tb : Addr} {r : Rule} {s : St3} {m k : Int} {H H' : Hp} {o : Addr} (h : StAt r s m k H o) (kp : Kp tb [] H H') : StAt r s m k H' o := by
  obtain ⟨l1, l2, a, b, c⟩ := h
  exact ⟨l1, l2, kp.get a, kp.get b, kp.get c⟩
def stD (r : Rule) (s : St3) (m k : Int) : PyData := .list ([dS (sortS s.row), .int m, .int k] ++ match r with
  | .marked => [dS (tailR .marked s), .int s.rd]
  | r => [dS (tailR r s)])
theorem StAt.dp {K : PySem.W.Frag} {r : Rule} {s : St3} {m k : Int} {H : Hp} {o : Addr} (h : StAt r s m k H o) : Dp K H (.ref o) (stD r s m k) := by
  obtain ⟨l1, l2, a, b, c⟩ := h
  refine .lst (SqL.of a) ?_
  cases r with
  | marked => exact .cons (dpS (SqL.of b)) (.cons (.int _) (.cons (.int _) (.cons (dpS (SqL.of c)) (.cons (.int _) .nil))))
  | old => exact .cons (dpS (SqL.of b)) (.cons (.int _) (.cons (.int _) (.cons (dpS (SqL.of c)) .nil)))
  | cold => exact .cons (dpS (SqL.of b)) (.cons (.int _) (.cons (.int _) (.cons (dpS (SqL.of c)) .nil)))
theorem dS_self {zs : List Str} (h : OkS zs) : PyData.canLay0 (dS zs) = true ∧ (dS zs).depth ≤ 63 ∧ PyData.eqv (dS zs) (dS zs) = true := by
  refine ⟨layAllS h, ?_, ?_⟩
  · show PyData.depthAll (zs.map PyData.str) + 1 ≤ 63
    rw [depthAllS]
    decide
  · show PyData.eqvAll (zs.map PyData.str) (zs.map PyData.str) = true
    rw [eqvAllS]
    simp
theorem int_self (i : Int) : PyData.canLay0 (.int i) = true ∧ (PyData.int i).depth ≤ 63 ∧ PyData.eqv (.int i) (.int i) = true := ⟨rfl, Nat.zero_le _, by show (i == i) = true; simp⟩
theorem st_self {r : Rule} {s : St3} (m k : Int) (h1 : OkS s.row) (h2 : OkS s.marks) : SeqAt.shaped (stD r s m k) = true ∧ PyData.eqv (stD r s m k) (stD r s m k) = true := selfD fun d hd => by
  have ok3 : ∀ {zs : List Str}, OkS zs → OkS (sortS zs) := fun {zs} h z hz => h z ((sortS_perm zs).mem_iff.mp hz)
  cases r <;> simp only [List.cons_append, List.nil_append, List.mem_cons, List.not_mem_nil, or_false] at hd
  · rcases hd with e | e | e | e <;> rw [e]
    · exact dS_self (ok3 h1)
    · exact int_self _
    · exact int_self _
    · exact dS_self h1
  · rcases hd with e | e | e | e <;> rw [e]
    · exact dS_self (ok3 h1)
    · exact int_self _
    · exact int_self _
    · exact dS_self h1
  · rcases hd with e | e | e | e | e <;> rw [e]
    · exact dS_self (ok3 h1)
    · exact int_self _
    · exact int_self _
    · exact dS_self (ok3 h2)
    · exact int_self _
section
variable {P : Program} {w : World} {K : PySem.W.Frag} {mg : Str → Option Value} {base : Heap} {tb : Addr} {C : Rule → Addr} {CG : Addr}
def spState (C : Rule → Addr) (tb : Addr) : Sp := fun vs H Q _ => ∃ (r : Rule) (p : Addr) (n m k : Int) (s : St3) (S : List Addr), vs = [.ref p] ∧ ShR C r H p n s m k S ∧ s.row.length < 64 ∧ s.marks.length < 64 ∧ ∀ (o : Addr) (H' : Hp), H o = none → StAt r s m k H' o → Kp tb [] H H' → Q (.ref o) H'
abbrev n_state : List Str := ["_law_shelf", "_law_found"]
theorem sc_state : FnScope n_state ["_law_shelf"] (defScope s__law_state) := ⟨rfl, rfl, rfl, by decide +kernel, rfl, by decide +kernel, by decide +kernel⟩
theorem ok_state {f : Addr} {fd : FuncData} {k0 : Nat} (F : FnP K "_law_state" "_law_state" s__law_state f fd) (hisi : mg "isinstance" = none) (gM : mg "Marked" = some (.ref (C .marked))) (cls : ∀ r, Cls K (C r)) (I : ∀ r, InsT K (C r)) (ik : ∀ r, PySem.W.kitOne K (.ref (C r)) (.ref (C .marked)) = some (isM r))
    (MT : ∀ r, MethOk P w K mg base CX0 k0 (C r) "things" ["self"] (spList tb (C r) sortS)) (MM : ∀ r, MethOk P w K mg base CX0 k0 (C r) "met" ["self"] (spInt (C r) fun _ m _ => m)) (MI : ∀ r, MethOk P w K mg base CX0 k0 (C r) "missed" ["self"] (spInt (C r) fun _ _ k => k))
    (MO : MethOk P w K mg base CX0 k0 (C .old) "order" ["self"] (spList tb (C .old) fun r => r)) (MC : MethOk P w K mg base CX0 k0 (C .cold) "order" ["self"] (spList tb (C .cold) fun r => r)) (MK : MethOk P w K mg base CX0 k0 (C .marked) "marks" ["self"] (spMarks tb (C .marked))) (MR : MethOk P w K mg base CX0 k0 (C .marked) "rounds" ["self"] (spRounds (C .marked))) :
    FnOk P w K mg base CX0 (k0 + 1) f fd ["_law_shelf"] (spState C tb) := by
  refine ok0 F sc_state (fun vs H Q E h => ?_) (fun cdv A outer s H vs Q E hr h => ?_)
  · obtain ⟨r, p, n, m, k, st, S, rfl, _⟩ := h
    rfl
  · obtain ⟨r, p, n, m, k, st, S, rfl, sh, h64, m64, q⟩ := h
    cases r with
    | marked =>
      obtain ⟨l, d, rfl, mk⟩ := sh
      refine ⟨_, pss_cons (ps_set (i := 1) sc_state.nd rfl (Or.inl rfl) (pe_lst (pa_cons (pe_meth0G (pv 0) (MT .marked) hr pass0) (pa_cons (pe_meth0G (pv 0) (MM .marked) hr pass0) (pa_cons (pe_meth0G (pv 0) (MI .marked) hr pass0) pa_nil)))))
        (pss_cons (ps_if (pt_val (pe_callB call_isi (by rfl) hisi (by decide +kernel) (pa_cons (pv 0) (pa_cons (pe_glob (v := .ref (C .marked)) (by rfl) gM rfl) pa_nil))))
          (pss_one (ps_ret (pe_op op_cat (pv 1) (pe_lst (pa_cons (pe_meth0G (pv 0) MK hr pass0) (pa_cons (pe_meth0G (pv 0) MR hr pass0) pa_nil)))))) pss_nil)
        pss_never), ?_⟩
      obtain ⟨dx, hp⟩ := mk.sh.ob
      refine ⟨_, rfl, p, dx, _, rfl, hp, by kernel_rfl, p, l, n, m, k, st.row, _, rfl, mk.sh, h64, fun l1 H1 fl1 hl1 k1 => ?_⟩
      have hp1 := k1.get hp
      refine ⟨_, rfl, p, dx, _, rfl, hp1, by kernel_rfl, p, l, n, m, k, _, rfl, ⟨dx, hp1⟩, ?_⟩
      refine ⟨_, rfl, p, dx, _, rfl, hp1, by kernel_rfl, p, l, n, m, k, _, rfl, ⟨dx, hp1⟩, ?_⟩
      refine ⟨by show 3 ≤ sizeLine; decide, fun o1 ho1 => ?_⟩
      have k2 : Kp tb [] H1 (upd H1 o1 (.lst [.ref l1, .int m, .int k])) := Kp.new ho1
      have g2 : (upd H1 o1 (.lst [.ref l1, .int m, .int k])) o1 = some (.lst [.ref l1, .int m, .int k]) := upd_same
      have k12 := k1.trans k2
      have hl12 := k2.get hl1
      have hp2 := k2.get hp1
      generalize upd H1 o1 (.lst [.ref l1, .int m, .int k]) = H2 at k2 g2 k12 hl12 hp2 ⊢
      refine ⟨_, rfl, _, _, _, _, true, rfl, .own _, .base (.ins hp2 (cls .marked) (I .marked).ha (I .marked).hn (I .marked).htk (I .marked).hm), ik .marked, _, rfl, ?_⟩
      refine iteT ⟨_, rfl, _, rfl, p, dx, _, rfl, hp2, by kernel_rfl, p, l, d, n, m, k, st.rd, st.row, st.marks, rfl, mk.kp k12, m64, fun l2 H3 fl2 hl2 k3 => ?_⟩
      have k13 := k12.trans k3
      have hp3 := k3.get hp2
      refine ⟨_, rfl, p, dx, _, rfl, hp3, by kernel_rfl, p, l, d, n, m, k, st.rd, rfl, ⟨dx, hp3⟩, ?_⟩
      refine ⟨by show 2 ≤ sizeLine; decide, fun o2 ho2 => ?_⟩
      have k4 : Kp tb [] H3 (upd H3 o2 (.lst [.ref l2, .int st.rd])) := Kp.new ho2
      have k14 := k13.trans k4
      refine ⟨o1, o2, _, _, rfl, rfl, k4.get (k3.get g2), upd_same, by show 5 ≤ sizeLine; decide, fun o ho => ?_⟩
      have k5 := Kp.new (tb := tb) (S := []) (o := .lst ([V.ref l1, .int m, .int k] ++ [V.ref l2, .int st.rd])) ho
      exact q o _ (k14.free _ ho) ⟨l1, l2, upd_same, k5.get (k4.get (k3.get hl12)), k5.get (k4.get hl2)⟩ (k14.trans k5)
    | old =>
      obtain ⟨l, rfl, sh, _, _⟩ := sh
      refine ⟨_, pss_cons (ps_set (i := 1) sc_state.nd rfl (Or.inl rfl) (pe_lst (pa_cons (pe_meth0G (pv 0) (MT .old) hr pass0) (pa_cons (pe_meth0G (pv 0) (MM .old) hr pass0) (pa_cons (pe_meth0G (pv 0) (MI .old) hr pass0) pa_nil)))))
        (pss_cons (ps_if (pt_val (pe_callB call_isi (by rfl) hisi (by decide +kernel) (pa_cons (pv 0) (pa_cons (pe_glob (v := .ref (C .marked)) (by rfl) gM rfl) pa_nil)))) pss_never pss_nil)
        (pss_one (ps_ret (pe_op op_cat (pv 1) (pe_lst (pa_cons (pe_meth0G (pv 0) MO hr pass0) pa_nil)))))), ?_⟩
      obtain ⟨dx, hp⟩ := sh.ob
      refine ⟨_, rfl, p, dx, _, rfl, hp, by kernel_rfl, p, l, n, m, k, st.row, _, rfl, sh, h64, fun l1 H1 fl1 hl1 k1 => ?_⟩
      have hp1 := k1.get hp
      refine ⟨_, rfl, p, dx, _, rfl, hp1, by kernel_rfl, p, l, n, m, k, _, rfl, ⟨dx, hp1⟩, ?_⟩
      refine ⟨_, rfl, p, dx, _, rfl, hp1, by kernel_rfl, p, l, n, m, k, _, rfl, ⟨dx, hp1⟩, ?_⟩
      refine ⟨by show 3 ≤ sizeLine; decide, fun o1 ho1 => ?_⟩
      have k2 : Kp tb [] H1 (upd H1 o1 (.lst [.ref l1, .int m, .int k])) := Kp.new ho1
      have g2 : (upd H1 o1 (.lst [.ref l1, .int m, .int k])) o1 = some (.lst [.ref l1, .int m, .int k]) := upd_same
      have k12 := k1.trans k2
      have hl12 := k2.get hl1
      have hp2 := k2.get hp1
      generalize upd H1 o1 (.lst [.ref l1, .int m, .int k]) = H2 at k2 g2 k12 hl12 hp2 ⊢
      refine ⟨_, rfl, _, _, _, _, false, rfl, .own _, .base (.ins hp2 (cls .old) (I .old).ha (I .old).hn (I .old).htk (I .old).hm), ik .old, _, rfl, ?_⟩
      refine iteF ⟨_, rfl, _, rfl, p, dx, _, rfl, hp2, by kernel_rfl, p, l, n, m, k, st.row, _, rfl, sh.kp k12, h64, fun l2 H3 fl2 hl2 k3 => ?_⟩
      have k13 := k12.trans k3
      refine ⟨by show 1 ≤ sizeLine; decide, fun o2 ho2 => ?_⟩
      have k4 : Kp tb [] H3 (upd H3 o2 (.lst [.ref l2])) := Kp.new ho2
      have k14 := k13.trans k4
      refine ⟨o1, o2, _, _, rfl, rfl, k4.get (k3.get g2), upd_same, by show 4 ≤ sizeLine; decide, fun o ho => ?_⟩
      have k5 := Kp.new (tb := tb) (S := []) (o := .lst ([V.ref l1, .int m, .int k] ++ [V.ref l2])) ho
      exact q o _ (k14.free _ ho) ⟨l1, l2, upd_same, k5.get (k4.get (k3.get hl12)), k5.get (k4.get hl2)⟩ (k14.trans k5)
    | cold =>
      obtain ⟨l, rfl, sh, _, _⟩ := sh
      refine ⟨_, pss_cons (ps_set (i := 1) sc_state.nd rfl (Or.inl rfl) (pe_lst (pa_cons (pe_meth0G (pv 0) (MT .cold) hr pass0) (pa_cons (pe_meth0G (pv 0) (MM .cold) hr pass0) (pa_cons (pe_meth0G (pv 0) (MI .cold) hr pass0) pa_nil)))))
        (pss_cons (ps_if (pt_val (pe_callB call_isi (by rfl) hisi (by decide +kernel) (pa_cons (pv 0) (pa_cons (pe_glob (v := .ref (C .marked)) (by rfl) gM rfl) pa_nil)))) pss_never pss_nil)
        (pss_one (ps_ret (pe_op op_cat (pv 1) (pe_lst (pa_cons (pe_meth0G (pv 0) MC hr pass0) pa_nil)))))), ?_⟩
      obtain ⟨dx, hp⟩ := sh.ob
      refine ⟨_, rfl, p, dx, _, rfl, hp, by kernel_rfl, p, l, n, m, k, st.row, _, rfl, sh, h64, fun l1 H1 fl1 hl1 k1 => ?_⟩
      have hp1 := k1.get hp
      refine ⟨_, rfl, p, dx, _, rfl, hp1, by kernel_rfl, p, l, n, m, k, _, rfl, ⟨dx, hp1⟩, ?_⟩
      refine ⟨_, rfl, p, dx, _, rfl, hp1, by kernel_rfl, p, l, n, m, k, _, rfl, ⟨dx, hp1⟩, ?_⟩
      refine ⟨by show 3 ≤ sizeLine; decide, fun o1 ho1 => ?_⟩
      have k2 : Kp tb [] H1 (upd H1 o1 (.lst [.ref l1, .int m, .int k])) := Kp.new ho1
      have g2 : (upd H1 o1 (.lst [.ref l1, .int m, .int k])) o1 = some (.lst [.ref l1, .int m, .int k]) := upd_same
      have k12 := k1.trans k2
      have hl12 := k2.get hl1
      have hp2 := k2.get hp1
      generalize upd H1 o1 (.lst [.ref l1, .int m, .int k]) = H2 at k2 g2 k12 hl12 hp2 ⊢
      refine ⟨_, rfl, _, _, _, _, false, rfl, .own _, .base (.ins hp2 (cls .cold) (I .cold).ha (I .cold).hn (I .cold).htk (I .cold).hm), ik .cold, _, rfl, ?_⟩
      refine iteF ⟨_, rfl, _, rfl, p, dx, _, rfl, hp2, by kernel_rfl, p, l, n, m, k, st.row, _, rfl, sh.kp k12, h64, fun l2 H3 fl2 hl2 k3 => ?_⟩
      have k13 := k12.trans k3
      refine ⟨by show 1 ≤ sizeLine; decide, fun o2 ho2 => ?_⟩
      have k4 : Kp tb [] H3 (upd H3 o2 (.lst [.ref l2])) := Kp.new ho2
      have k14 := k13.trans k4
      refine ⟨o1, o2, _, _, rfl, rfl, k4.get (k3.get g2), upd_same, by show 4 ≤ sizeLine; decide, fun o ho => ?_⟩
      have k5 := Kp.new (tb := tb) (S := []) (o := .lst ([V.ref l1, .int m, .int k] ++ [V.ref l2])) ho
      exact q o _ (k14.free _ ho) ⟨l1, l2, upd_same, k5.get (k4.get (k3.get hl12)), k5.get (k4.get hl2)⟩ (k14.trans k5)
end
end Kf

namespace Kf
open PySem PySem.Spec PyProof.Rows L2
section
variable {P : Program} {w : World} {K : PySem.W.Frag} {mg : Str → Option Value} {base : Heap} {tb : Addr} {C : Rule → Addr} {CG : Addr}
variable {CE : Wd → Addr} {KE : Addr}
def spWW (C : Rule → Addr) (K : PySem.W.Frag) : Sp := fun vs H Q _ => ∃ (p dx : Addr) (r : Rule) (fs : List (Str × V)) (y : V), vs = [.ref p, y] ∧ H p = some (.ins (C r) dx fs) ∧ fs.lookup ("wish" : Str) = none ∧ BadN K H y ∧ GxR.TabG H (tbOf K) ∧
  ∀ (o : Addr) (H' : Hp), H o = none → H' o = some (.lst [.str "name"]) → Kp (tbOf K) [] H H' → Q (.ref o) H'
abbrev n_ww : List Str := ["_law_shelf", "_law_name", "_law_refused", "e"]
theorem sc_ww : FnScope n_ww ["_law_shelf", "_law_name"] (defScope s__law_wish_word) := ⟨rfl, rfl, rfl, by decide +kernel, rfl, by decide +kernel, by decide +kernel⟩
theorem ok_ww {f : Addr} {fd : FuncData} {k0 : Nat} (F : FnP K "_law_wish_word" "_law_wish_word" s__law_wish_word f fd) (gK : mg "KeepError" = some (.ref KE)) (hm : ∀ w, PySem.W.exmOne K (.ref (CE w)) (.ref KE) = some true)
    (MWX : ∀ r, MethOk P w K mg base (L2.CX P w) k0 (C r) "wish" ["self", "name"] (spRefWi (CE .name) K)) (GK : Glob P w K mg base CX0 k0 "_law_kinds" ["_law_error"] (spKinds (tbOf K) CE)) :
    FnOk P w K mg base CX0 (k0 + 1) f fd ["_law_shelf", "_law_name"] (spWW C K) := by
  refine ok0 F sc_ww (fun vs H Q E h => ?_) (fun cdv A outer s H vs Q E hr h => ?_)
  · obtain ⟨p, dx, r, fs, y, rfl, _⟩ := h
    rfl
  · obtain ⟨p, dx, r, fs, y, rfl, hp, hf, hy, tab, q⟩ := h
    refine ⟨_, pss_cons (ps_set (i := 2) sc_ww.nd rfl (.inl rfl) pe_non) (pss_cons (ps_try_asV (i := 3) rfl rfl sc_ww.nd rfl rfl rfl ⟨rfl, by decide, .inl gK⟩ (fun W pn xe tk _ => pss_one (ps_expr (pe_methG (pv 0) (MWX r) hr (passes_call tk fun _ _ _ _ h => h) (pa_cons (pv 1) pa_nil)))) (fun a oe C pn hz hf => pss_one (ps_set (i := 2) sc_ww.nd rfl (.inl rfl) (pv 3)))) (pss_one (ps_ret (pe_ifExp (pt_cmp (pc_isN (pv 2))) (pe_lst pa_nil) (pe_callG GK hr (by rfl) pass0 (pa_cons (pv 2) pa_nil)))))), ?_⟩
    refine ⟨_, rfl, p, dx, fs, rfl, hp, hf, _, rfl, .ref p, y, rfl, hy, tab, fun H1 k1 => ⟨CE .name, rfl, rfl, hm .name, fun a ha => ?_⟩⟩
    have k2 : Kp (tbOf K) [] H1 (upd H1 a (ExV (CE .name) a)) := Kp.new ha
    have k12 := k1.trans k2
    refine ⟨_, rfl, ?_⟩
    refine ⟨_, rfl, _, rfl, iteF ⟨_, rfl, a, .name, rfl, upd_same, fun o H2 fo ho k3 => ?_⟩⟩
    exact q o H2 (k12.free _ fo) ho (k12.trans k3)
end
end Kf

namespace Kf
open PySem PySem.Spec PyProof.Rows L2
theorem iteFc {c : Bool} {A B : Prop} (h : c = false) (q : B) : if c = true then A else B := by rw [h]; exact iteF q
theorem iteTc {c : Bool} {A B : Prop} (h : c = true) (q : A) : if c = true then A else B := by rw [h]; exact iteT q
section
variable {P : Program} {w : World} {K : PySem.W.Frag} {mg : Str → Option Value} {base : Heap} {tb : Addr} {C : Rule → Addr} {CG : Addr}
variable {CE : Wd → Addr} {KE : Addr}
def okR_ (K : PySem.W.Frag) (H : Hp) (x : V) : Bool → Prop
  | true => ∃ r : Rule, x = .str r.txt
  | false => BadR K H x
def okP_ (K : PySem.W.Frag) (H : Hp) (x : V) : Bool → Prop
  | true => ∃ n : Nat, x = .int (n : Nat) ∧ 1 ≤ n ∧ n ≤ 20
  | false => BadP K H x
def okW_ (K : PySem.W.Frag) (H : Hp) (x : V) : Bool → Prop
  | true => ∃ (a : Addr) (ws : List Str), x = .ref a ∧ H a = some (.lst (ws.map V.str)) ∧ ws.length ≤ 300 ∧ ∀ z ∈ ws, IsName z
  | false => BadW K H x
def spAsked (K : PySem.W.Frag) : Sp := fun vs H Q _ => ∃ (way : Int) (x y z : V) (br bp bw : Bool), vs = [.int way, x, y, z] ∧ 0 ≤ way ∧ way ≤ 10 ∧ okR_ K H x br ∧ okP_ K H y bp ∧ okW_ K H z bw ∧ GxR.TabG H (tbOf K) ∧
  ∀ (o : Addr) (H' : Hp), H o = none → H' o = some (.lst ((dueL way br bp bw).map V.str)) → Kp (tbOf K) [] H H' → Q (.ref o) H'
abbrev n_asked : List Str := ["_law_way", "_law_rule", "_law_places_here", "_law_wishes", "_law_refused", "e"]
theorem sc_asked : FnScope n_asked ["_law_way", "_law_rule", "_law_places_here", "_law_wishes"] (defScope s__law_asked) := ⟨rfl, rfl, rfl, by decide +kernel, rfl, by decide +kernel, by decide +kernel⟩
theorem ok_asked {f : Addr} {fd : FuncData} {k0 : Nat} (F : FnP K "_law_asked" "_law_asked" s__law_asked f fd) (gK : mg "KeepError" = some (.ref KE)) (hm : ∀ w, PySem.W.exmOne K (.ref (CE w)) (.ref KE) = some true) (GK : Glob P w K mg base CX0 (k0 + 1) "_law_kinds" ["_law_error"] (spKinds (tbOf K) CE))
    (G_going : Glob P w K mg base CX0 (k0 + 1) "going" ["rule", "places", "wishes"] (spGoing C CG (tbOf K))) (X_going : Glob P w K mg base (L2.CX P w) (k0 + 1) "going" ["rule", "places", "wishes"] (spRefG (CE .rule) (CE .places) (CE .wishes) K))
    (G_best : Glob P w K mg base CX0 (k0 + 1) "best" ["places", "wishes"] (spBest CG (tbOf K))) (X_best : Glob P w K mg base (L2.CX P w) (k0 + 1) "best" ["places", "wishes"] (spRefPW (CE .places) (CE .wishes) K))
    (G_bars : Glob P w K mg base CX0 (k0 + 1) "bars" ["places", "wishes"] (spBars (tbOf K))) (X_bars : Glob P w K mg base (L2.CX P w) (k0 + 1) "bars" ["places", "wishes"] (spRefPW (CE .places) (CE .wishes) K))
    (G_blocks : Glob P w K mg base CX0 (k0 + 1) "blocks" ["places", "wishes"] (spBlocks (tbOf K))) (X_blocks : Glob P w K mg base (L2.CX P w) (k0 + 1) "blocks" ["places", "wishes"] (spRefPW (CE .places) (CE .wishes) K))
    (G_depths : Glob P w K mg base CX0 (k0 + 1) "depths" ["wishes"] (spDepths (tbOf K))) (X_depths : Glob P w K mg base (L2.CX P w) (k0 + 1) "depths" ["wishes"] (spRef BadW (CE .wishes) K))
    (G_mbp : Glob P w K mg base CX0 (k0 + 1) "missed_by_places" ["wishes"] (spMissedBy (tbOf K))) (X_mbp : Glob P w K mg base (L2.CX P w) (k0 + 1) "missed_by_places" ["wishes"] (spRef BadW (CE .wishes) K))
    (G_str : Glob P w K mg base CX0 (k0 + 1) "stretches" ["wishes"] (spStretches (tbOf K))) (X_str : Glob P w K mg base (L2.CX P w) (k0 + 1) "stretches" ["wishes"] (spRef BadW (CE .wishes) K))
    (G_sh : Glob P w K mg base CX0 (k0 + 1) "shelf_of" ["rule", "places"] (spShelfOf C (tbOf K))) (X_sh : Glob P w K mg base (L2.CX P w) (k0 + 1) "shelf_of" ["rule", "places"] (spRefSh (CE .rule) (CE .places) K))
    (G_Old : MakeOk P w K mg base CX0 k0 "Old" (C .old) ["self", "places"] (spInit (tbOf K) (C .old))) (X_Old : MakeOk P w K mg base (L2.CX P w) k0 "Old" (C .old) ["self", "places"] (spRefI (CE .places) K))
    (G_Cold : MakeOk P w K mg base CX0 k0 "Cold" (C .cold) ["self", "places"] (spInit (tbOf K) (C .cold))) (X_Cold : MakeOk P w K mg base (L2.CX P w) k0 "Cold" (C .cold) ["self", "places"] (spRefI (CE .places) K))
    (G_Marked : MakeOk P w K mg base CX0 k0 "Marked" (C .marked) ["self", "places"] (spInitM (tbOf K) (C .marked))) (X_Marked : MakeOk P w K mg base (L2.CX P w) k0 "Marked" (C .marked) ["self", "places"] (spRefI (CE .places) K)) :
    FnOk P w K mg base CX0 (k0 + 2) f fd ["_law_way", "_law_rule", "_law_places_here", "_law_wishes"] (spAsked K) := by
  refine ok0 F sc_asked (fun vs H Q E h => ?_) (fun cdv A outer s H vs Q E hr h => ?_)
  · obtain ⟨way, x, y, z, br, bp, bw, rfl, _⟩ := h
    rfl
  · obtain ⟨way, x, y, z, br, bp, bw, rfl, w0, w10, hx, hy, hz, tab, q⟩ := h
    have good : dueL way br bp bw = [] → ∀ H1, Kp (tbOf K) [] H H1 → ∀ o, H1 o = none → Q (.ref o) (upd H1 o (.lst [])) := fun e H1 k1 o ho => by
      refine q o _ (k1.free _ ho) ?_ (k1.step ho)
      rw [upd_same, e]
      rfl
    have bad : ∀ wd : Wd, dueL way br bp bw = [wd.txt] → ∀ (H1 : Hp) (a : Addr) (H2 : Hp) (o : Addr), Kp (tbOf K) [] H H1 → H1 a = none → (upd H1 a (ExV (CE wd) a)) o = none → H2 o = some (.lst [.str wd.txt]) → Kp (tbOf K) [] (upd H1 a (ExV (CE wd) a)) H2 → Q (.ref o) H2 := fun wd e H1 a H2 o k1 ha fo ho k3 => by
      have k12 := k1.step (o := ExV (CE wd) a) ha
      refine q o H2 (k12.free _ fo) ?_ (k12.trans k3)
      rw [ho, e]
      rfl
    have ways : way = 0 ∨ way = 1 ∨ way = 2 ∨ way = 3 ∨ way = 4 ∨ way = 5 ∨ way = 6 ∨ way = 7 ∨ way = 8 ∨ way = 9 ∨ way = 10 := by omega
    rcases ways with rfl | rfl | rfl | rfl | rfl | rfl | rfl | rfl | rfl | rfl | rfl
    · -- way 0
      cases br with
      | true =>
        obtain ⟨r, rfl⟩ := hx
        cases bp with
        | true =>
          obtain ⟨n, rfl, n1, n2⟩ := hy
          cases bw with
          | true =>
            obtain ⟨aw, ws, rfl, haw, hl, hn⟩ := hz
            refine ⟨_, pss_cons (ps_set (i := 4) sc_asked.nd rfl (.inl rfl) pe_non) (pss_cons (ps_try_asV (i := 5) rfl rfl sc_asked.nd rfl rfl rfl ⟨rfl, by decide, .inl gK⟩ (fun W pn xe tk _ => (pss_one (ps_if (pt_cmpR op_eq (pv 0) pe_int (nomark _)) (pss_one (ps_expr (pe_callG G_going hr (by rfl) pass0 (pa_cons (pv 1) (pa_cons (pv 2) (pa_cons (pv 3) pa_nil)))))) pss_never))) (fun a oe C pn hz hf => pss_one (ps_set (i := 4) sc_asked.nd rfl (.inl rfl) (pv 5)))) (pss_one (ps_ret (pe_ifExp (pt_cmp (pc_isN (pv 4))) (pe_lst pa_nil) (pe_callG GK hr (by rfl) pass0 (pa_cons (pv 4) pa_nil)))))), ?_⟩
            exact ⟨_, rfl, rfl, _, rfl, iteTc (by decide) ⟨_, rfl, _, rfl, _, rfl, r, (n : Int), aw, ws, rfl, by omega, by omega, haw, hl, hn, tab, fun g wm we H1 _ _ _ _ k1 => ⟨_, rfl, _, rfl, iteT ⟨Nat.zero_le _, good (by simp [dueL]) _ k1⟩⟩⟩⟩
          | false =>
            have hz : BadW K H z := hz
            refine ⟨_, pss_cons (ps_set (i := 4) sc_asked.nd rfl (.inl rfl) pe_non) (pss_cons (ps_try_asV (i := 5) rfl rfl sc_asked.nd rfl rfl rfl ⟨rfl, by decide, .inl gK⟩ (fun W pn xe tk _ => (pss_one (ps_if (pt_cmpR op_eq (pv 0) pe_int (nomark _)) (pss_one (ps_expr (pe_callG X_going hr (by rfl) (passes_call tk fun _ _ _ _ h => h) (pa_cons (pv 1) (pa_cons (pv 2) (pa_cons (pv 3) pa_nil)))))) pss_never))) (fun a oe C pn hz hf => pss_one (ps_set (i := 4) sc_asked.nd rfl (.inl rfl) (pv 5)))) (pss_one (ps_ret (pe_ifExp (pt_cmp (pc_isN (pv 4))) (pe_lst pa_nil) (pe_callG GK hr (by rfl) pass0 (pa_cons (pv 4) pa_nil)))))), ?_⟩
            exact ⟨_, rfl, rfl, _, rfl, iteTc (by decide) ⟨_, rfl, _, rfl, _, rfl, _, _, z, rfl, tab, .inr (.inr ⟨r, (n : Int), rfl, rfl, by omega, by omega, hz, fun H1 k1 => ⟨CE .wishes, rfl, rfl, hm .wishes, fun a ha => ⟨_, rfl, _, rfl, _, rfl, iteF ⟨_, rfl, a, .wishes, rfl, upd_same, fun o H2 fo ho k3 => bad .wishes (by simp [dueL, Wd.txt]) _ a H2 o k1 ha fo ho k3⟩⟩⟩⟩)⟩⟩
        | false =>
          have hy : BadP K H y := hy
          refine ⟨_, pss_cons (ps_set (i := 4) sc_asked.nd rfl (.inl rfl) pe_non) (pss_cons (ps_try_asV (i := 5) rfl rfl sc_asked.nd rfl rfl rfl ⟨rfl, by decide, .inl gK⟩ (fun W pn xe tk _ => (pss_one (ps_if (pt_cmpR op_eq (pv 0) pe_int (nomark _)) (pss_one (ps_expr (pe_callG X_going hr (by rfl) (passes_call tk fun _ _ _ _ h => h) (pa_cons (pv 1) (pa_cons (pv 2) (pa_cons (pv 3) pa_nil)))))) pss_never))) (fun a oe C pn hz hf => pss_one (ps_set (i := 4) sc_asked.nd rfl (.inl rfl) (pv 5)))) (pss_one (ps_ret (pe_ifExp (pt_cmp (pc_isN (pv 4))) (pe_lst pa_nil) (pe_callG GK hr (by rfl) pass0 (pa_cons (pv 4) pa_nil)))))), ?_⟩
          exact ⟨_, rfl, rfl, _, rfl, iteTc (by decide) ⟨_, rfl, _, rfl, _, rfl, _, y, z, rfl, tab, .inr (.inl ⟨r, rfl, hy, fun H1 k1 => ⟨CE .places, rfl, rfl, hm .places, fun a ha => ⟨_, rfl, _, rfl, _, rfl, iteF ⟨_, rfl, a, .places, rfl, upd_same, fun o H2 fo ho k3 => bad .places (by simp [dueL, Wd.txt]) _ a H2 o k1 ha fo ho k3⟩⟩⟩⟩)⟩⟩
      | false =>
        have hx : BadR K H x := hx
        refine ⟨_, pss_cons (ps_set (i := 4) sc_asked.nd rfl (.inl rfl) pe_non) (pss_cons (ps_try_asV (i := 5) rfl rfl sc_asked.nd rfl rfl rfl ⟨rfl, by decide, .inl gK⟩ (fun W pn xe tk _ => (pss_one (ps_if (pt_cmpR op_eq (pv 0) pe_int (nomark _)) (pss_one (ps_expr (pe_callG X_going hr (by rfl) (passes_call tk fun _ _ _ _ h => h) (pa_cons (pv 1) (pa_cons (pv 2) (pa_cons (pv 3) pa_nil)))))) pss_never))) (fun a oe C pn hz hf => pss_one (ps_set (i := 4) sc_asked.nd rfl (.inl rfl) (pv 5)))) (pss_one (ps_ret (pe_ifExp (pt_cmp (pc_isN (pv 4))) (pe_lst pa_nil) (pe_callG GK hr (by rfl) pass0 (pa_cons (pv 4) pa_nil)))))), ?_⟩
        exact ⟨_, rfl, rfl, _, rfl, iteTc (by decide) ⟨_, rfl, _, rfl, _, rfl, x, y, z, rfl, tab, .inl ⟨hx, fun H1 k1 => ⟨CE .rule, rfl, rfl, hm .rule, fun a ha => ⟨_, rfl, _, rfl, _, rfl, iteF ⟨_, rfl, a, .rule, rfl, upd_same, fun o H2 fo ho k3 => bad .rule (by simp [dueL, Wd.txt]) _ a H2 o k1 ha fo ho k3⟩⟩⟩⟩⟩⟩
    · -- way 1
      cases bp with
      | true =>
        obtain ⟨n, rfl, n1, n2⟩ := hy
        cases bw with
        | true =>
          obtain ⟨aw, ws, rfl, haw, hl, hn⟩ := hz
          refine ⟨_, pss_cons (ps_set (i := 4) sc_asked.nd rfl (.inl rfl) pe_non) (pss_cons (ps_try_asV (i := 5) rfl rfl sc_asked.nd rfl rfl rfl ⟨rfl, by decide, .inl gK⟩ (fun W pn xe tk _ => (pss_one (ps_if (pt_cmpR op_eq (pv 0) pe_int (nomark _)) pss_never (pss_one (ps_if (pt_cmpR op_eq (pv 0) pe_int (nomark _)) (pss_one (ps_expr (pe_callG G_best hr (by rfl) pass0 (pa_cons (pv 2) (pa_cons (pv 3) pa_nil))))) pss_never))))) (fun a oe C pn hz hf => pss_one (ps_set (i := 4) sc_asked.nd rfl (.inl rfl) (pv 5)))) (pss_one (ps_ret (pe_ifExp (pt_cmp (pc_isN (pv 4))) (pe_lst pa_nil) (pe_callG GK hr (by rfl) pass0 (pa_cons (pv 4) pa_nil)))))), ?_⟩
          exact ⟨_, rfl, rfl, _, rfl, iteFc (by decide) ⟨_, rfl, rfl, _, rfl, iteTc (by decide) ⟨_, rfl, _, rfl, (n : Int), aw, ws, rfl, by omega, by omega, haw, hl, hn, tab, fun g wm we H1 _ _ _ _ k1 => ⟨_, rfl, _, rfl, iteT ⟨Nat.zero_le _, good (by simp [dueL]) _ k1⟩⟩⟩⟩⟩
        | false =>
          have hz : BadW K H z := hz
          refine ⟨_, pss_cons (ps_set (i := 4) sc_asked.nd rfl (.inl rfl) pe_non) (pss_cons (ps_try_asV (i := 5) rfl rfl sc_asked.nd rfl rfl rfl ⟨rfl, by decide, .inl gK⟩ (fun W pn xe tk _ => (pss_one (ps_if (pt_cmpR op_eq (pv 0) pe_int (nomark _)) pss_never (pss_one (ps_if (pt_cmpR op_eq (pv 0) pe_int (nomark _)) (pss_one (ps_expr (pe_callG X_best hr (by rfl) (passes_call tk fun _ _ _ _ h => h) (pa_cons (pv 2) (pa_cons (pv 3) pa_nil))))) pss_never))))) (fun a oe C pn hz hf => pss_one (ps_set (i := 4) sc_asked.nd rfl (.inl rfl) (pv 5)))) (pss_one (ps_ret (pe_ifExp (pt_cmp (pc_isN (pv 4))) (pe_lst pa_nil) (pe_callG GK hr (by rfl) pass0 (pa_cons (pv 4) pa_nil)))))), ?_⟩
          exact ⟨_, rfl, rfl, _, rfl, iteFc (by decide) ⟨_, rfl, rfl, _, rfl, iteTc (by decide) ⟨_, rfl, _, rfl, _, z, rfl, tab, .inr ⟨(n : Int), rfl, by omega, by omega, hz, fun H1 k1 => ⟨CE .wishes, rfl, rfl, hm .wishes, fun a ha => ⟨_, rfl, _, rfl, _, rfl, iteF ⟨_, rfl, a, .wishes, rfl, upd_same, fun o H2 fo ho k3 => bad .wishes (by simp [dueL, Wd.txt]) _ a H2 o k1 ha fo ho k3⟩⟩⟩⟩⟩⟩⟩
      | false =>
        have hy : BadP K H y := hy
        refine ⟨_, pss_cons (ps_set (i := 4) sc_asked.nd rfl (.inl rfl) pe_non) (pss_cons (ps_try_asV (i := 5) rfl rfl sc_asked.nd rfl rfl rfl ⟨rfl, by decide, .inl gK⟩ (fun W pn xe tk _ => (pss_one (ps_if (pt_cmpR op_eq (pv 0) pe_int (nomark _)) pss_never (pss_one (ps_if (pt_cmpR op_eq (pv 0) pe_int (nomark _)) (pss_one (ps_expr (pe_callG X_best hr (by rfl) (passes_call tk fun _ _ _ _ h => h) (pa_cons (pv 2) (pa_cons (pv 3) pa_nil))))) pss_never))))) (fun a oe C pn hz hf => pss_one (ps_set (i := 4) sc_asked.nd rfl (.inl rfl) (pv 5)))) (pss_one (ps_ret (pe_ifExp (pt_cmp (pc_isN (pv 4))) (pe_lst pa_nil) (pe_callG GK hr (by rfl) pass0 (pa_cons (pv 4) pa_nil)))))), ?_⟩
        exact ⟨_, rfl, rfl, _, rfl, iteFc (by decide) ⟨_, rfl, rfl, _, rfl, iteTc (by decide) ⟨_, rfl, _, rfl, y, z, rfl, tab, .inl ⟨hy, fun H1 k1 => ⟨CE .places, rfl, rfl, hm .places, fun a ha => ⟨_, rfl, _, rfl, _, rfl, iteF ⟨_, rfl, a, .places, rfl, upd_same, fun o H2 fo ho k3 => bad .places (by simp [dueL, Wd.txt]) _ a H2 o k1 ha fo ho k3⟩⟩⟩⟩⟩⟩⟩
    · -- way 2
      cases bw with
      | true =>
        obtain ⟨aw, ws, rfl, haw, hl, hn⟩ := hz
        refine ⟨_, pss_cons (ps_set (i := 4) sc_asked.nd rfl (.inl rfl) pe_non) (pss_cons (ps_try_asV (i := 5) rfl rfl sc_asked.nd rfl rfl rfl ⟨rfl, by decide, .inl gK⟩ (fun W pn xe tk _ => (pss_one (ps_if (pt_cmpR op_eq (pv 0) pe_int (nomark _)) pss_never (pss_one (ps_if (pt_cmpR op_eq (pv 0) pe_int (nomark _)) pss_never (pss_one (ps_if (pt_cmpR op_eq (pv 0) pe_int (nomark _)) (pss_one (ps_expr (pe_callG G_depths hr (by rfl) pass0 (pa_cons (pv 3) pa_nil)))) pss_never))))))) (fun a oe C pn hz hf => pss_one (ps_set (i := 4) sc_asked.nd rfl (.inl rfl) (pv 5)))) (pss_one (ps_ret (pe_ifExp (pt_cmp (pc_isN (pv 4))) (pe_lst pa_nil) (pe_callG GK hr (by rfl) pass0 (pa_cons (pv 4) pa_nil)))))), ?_⟩
        exact ⟨_, rfl, rfl, _, rfl, iteFc (by decide) ⟨_, rfl, rfl, _, rfl, iteFc (by decide) ⟨_, rfl, rfl, _, rfl, iteTc (by decide) ⟨_, rfl, aw, ws, rfl, haw, hl, hn, tab, fun o H1 _ _ k1 => ⟨_, rfl, _, rfl, iteT ⟨Nat.zero_le _, good (by simp [dueL]) _ k1⟩⟩⟩⟩⟩⟩
      | false =>
        have hz : BadW K H z := hz
        refine ⟨_, pss_cons (ps_set (i := 4) sc_asked.nd rfl (.inl rfl) pe_non) (pss_cons (ps_try_asV (i := 5) rfl rfl sc_asked.nd rfl rfl rfl ⟨rfl, by decide, .inl gK⟩ (fun W pn xe tk _ => (pss_one (ps_if (pt_cmpR op_eq (pv 0) pe_int (nomark _)) pss_never (pss_one (ps_if (pt_cmpR op_eq (pv 0) pe_int (nomark _)) pss_never (pss_one (ps_if (pt_cmpR op_eq (pv 0) pe_int (nomark _)) (pss_one (ps_expr (pe_callG X_depths hr (by rfl) (passes_call tk fun _ _ _ _ h => h) (pa_cons (pv 3) pa_nil)))) pss_never))))))) (fun a oe C pn hz hf => pss_one (ps_set (i := 4) sc_asked.nd rfl (.inl rfl) (pv 5)))) (pss_one (ps_ret (pe_ifExp (pt_cmp (pc_isN (pv 4))) (pe_lst pa_nil) (pe_callG GK hr (by rfl) pass0 (pa_cons (pv 4) pa_nil)))))), ?_⟩
        exact ⟨_, rfl, rfl, _, rfl, iteFc (by decide) ⟨_, rfl, rfl, _, rfl, iteFc (by decide) ⟨_, rfl, rfl, _, rfl, iteTc (by decide) ⟨_, rfl, z, rfl, hz, tab, fun H1 k1 => ⟨CE .wishes, rfl, rfl, hm .wishes, fun a ha => ⟨_, rfl, _, rfl, _, rfl, iteF ⟨_, rfl, a, .wishes, rfl, upd_same, fun o H2 fo ho k3 => bad .wishes (by simp [dueL, Wd.txt]) _ a H2 o k1 ha fo ho k3⟩⟩⟩⟩⟩⟩⟩
    · -- way 3
      cases bw with
      | true =>
        obtain ⟨aw, ws, rfl, haw, hl, hn⟩ := hz
        refine ⟨_, pss_cons (ps_set (i := 4) sc_asked.nd rfl (.inl rfl) pe_non) (pss_cons (ps_try_asV (i := 5) rfl rfl sc_asked.nd rfl rfl rfl ⟨rfl, by decide, .inl gK⟩ (fun W pn xe tk _ => (pss_one (ps_if (pt_cmpR op_eq (pv 0) pe_int (nomark _)) pss_never (pss_one (ps_if (pt_cmpR op_eq (pv 0) pe_int (nomark _)) pss_never (pss_one (ps_if (pt_cmpR op_eq (pv 0) pe_int (nomark _)) pss_never (pss_one (ps_if (pt_cmpR op_eq (pv 0) pe_int (nomark _)) (pss_one (ps_expr (pe_callG G_mbp hr (by rfl) pass0 (pa_cons (pv 3) pa_nil)))) pss_never))))))))) (fun a oe C pn hz hf => pss_one (ps_set (i := 4) sc_asked.nd rfl (.inl rfl) (pv 5)))) (pss_one (ps_ret (pe_ifExp (pt_cmp (pc_isN (pv 4))) (pe_lst pa_nil) (pe_callG GK hr (by rfl) pass0 (pa_cons (pv 4) pa_nil)))))), ?_⟩
        exact ⟨_, rfl, rfl, _, rfl, iteFc (by decide) ⟨_, rfl, rfl, _, rfl, iteFc (by decide) ⟨_, rfl, rfl, _, rfl, iteFc (by decide) ⟨_, rfl, rfl, _, rfl, iteTc (by decide) ⟨_, rfl, aw, ws, rfl, haw, hl, hn, tab, fun o H1 _ _ k1 => ⟨_, rfl, _, rfl, iteT ⟨Nat.zero_le _, good (by simp [dueL]) _ k1⟩⟩⟩⟩⟩⟩⟩
      | false =>
        have hz : BadW K H z := hz
        refine ⟨_, pss_cons (ps_set (i := 4) sc_asked.nd rfl (.inl rfl) pe_non) (pss_cons (ps_try_asV (i := 5) rfl rfl sc_asked.nd rfl rfl rfl ⟨rfl, by decide, .inl gK⟩ (fun W pn xe tk _ => (pss_one (ps_if (pt_cmpR op_eq (pv 0) pe_int (nomark _)) pss_never (pss_one (ps_if (pt_cmpR op_eq (pv 0) pe_int (nomark _)) pss_never (pss_one (ps_if (pt_cmpR op_eq (pv 0) pe_int (nomark _)) pss_never (pss_one (ps_if (pt_cmpR op_eq (pv 0) pe_int (nomark _)) (pss_one (ps_expr (pe_callG X_mbp hr (by rfl) (passes_call tk fun _ _ _ _ h => h) (pa_cons (pv 3) pa_nil)))) pss_never))))))))) (fun a oe C pn hz hf => pss_one (ps_set (i := 4) sc_asked.nd rfl (.inl rfl) (pv 5)))) (pss_one (ps_ret (pe_ifExp (pt_cmp (pc_isN (pv 4))) (pe_lst pa_nil) (pe_callG GK hr (by rfl) pass0 (pa_cons (pv 4) pa_nil)))))), ?_⟩
        exact ⟨_, rfl, rfl, _, rfl, iteFc (by decide) ⟨_, rfl, rfl, _, rfl, iteFc (by decide) ⟨_, rfl, rfl, _, rfl, iteFc (by decide) ⟨_, rfl, rfl, _, rfl, iteTc (by decide) ⟨_, rfl, z, rfl, hz, tab, fun H1 k1 => ⟨CE .wishes, rfl, rfl, hm .wishes, fun a ha => ⟨_, rfl, _, rfl, _, rfl, iteF ⟨_, rfl, a, .wishes, rfl, upd_same, fun o H2 fo ho k3 => bad .wishes (by simp [dueL, Wd.txt]) _ a H2 o k1 ha fo ho k3⟩⟩⟩⟩⟩⟩⟩⟩
    · -- way 4
      cases bw with
      | true =>
        obtain ⟨aw, ws, rfl, haw, hl, hn⟩ := hz
        refine ⟨_, pss_cons (ps_set (i := 4) sc_asked.nd rfl (.inl rfl) pe_non) (pss_cons (ps_try_asV (i := 5) rfl rfl sc_asked.nd rfl rfl rfl ⟨rfl, by decide, .inl gK⟩ (fun W pn xe tk _ => (pss_one (ps_if (pt_cmpR op_eq (pv 0) pe_int (nomark _)) pss_never (pss_one (ps_if (pt_cmpR op_eq (pv 0) pe_int (nomark _)) pss_never (pss_one (ps_if (pt_cmpR op_eq (pv 0) pe_int (nomark _)) pss_never (pss_one (ps_if (pt_cmpR op_eq (pv 0) pe_int (nomark _)) pss_never (pss_one (ps_if (pt_cmpR op_eq (pv 0) pe_int (nomark _)) (pss_one (ps_expr (pe_callG G_str hr (by rfl) pass0 (pa_cons (pv 3) pa_nil)))) pss_never))))))))))) (fun a oe C pn hz hf => pss_one (ps_set (i := 4) sc_asked.nd rfl (.inl rfl) (pv 5)))) (pss_one (ps_ret (pe_ifExp (pt_cmp (pc_isN (pv 4))) (pe_lst pa_nil) (pe_callG GK hr (by rfl) pass0 (pa_cons (pv 4) pa_nil)))))), ?_⟩
        exact ⟨_, rfl, rfl, _, rfl, iteFc (by decide) ⟨_, rfl, rfl, _, rfl, iteFc (by decide) ⟨_, rfl, rfl, _, rfl, iteFc (by decide) ⟨_, rfl, rfl, _, rfl, iteFc (by decide) ⟨_, rfl, rfl, _, rfl, iteTc (by decide) ⟨_, rfl, aw, ws, rfl, haw, hl, hn, tab, fun o ts H1 _ _ _ _ k1 => ⟨_, rfl, _, rfl, iteT ⟨Nat.zero_le _, good (by simp [dueL]) _ k1⟩⟩⟩⟩⟩⟩⟩⟩
      | false =>
        have hz : BadW K H z := hz
        refine ⟨_, pss_cons (ps_set (i := 4) sc_asked.nd rfl (.inl rfl) pe_non) (pss_cons (ps_try_asV (i := 5) rfl rfl sc_asked.nd rfl rfl rfl ⟨rfl, by decide, .inl gK⟩ (fun W pn xe tk _ => (pss_one (ps_if (pt_cmpR op_eq (pv 0) pe_int (nomark _)) pss_never (pss_one (ps_if (pt_cmpR op_eq (pv 0) pe_int (nomark _)) pss_never (pss_one (ps_if (pt_cmpR op_eq (pv 0) pe_int (nomark _)) pss_never (pss_one (ps_if (pt_cmpR op_eq (pv 0) pe_int (nomark _)) pss_never (pss_one (ps_if (pt_cmpR op_eq (pv 0) pe_int (nomark _)) (pss_one (ps_expr (pe_callG X_str hr (by rfl) (passes_call tk fun _ _ _ _ h => h) (pa_cons (pv 3) pa_nil)))) pss_never))))))))))) (fun a oe C pn hz hf => pss_one (ps_set (i := 4) sc_asked.nd rfl (.inl rfl) (pv 5)))) (pss_one (ps_ret (pe_ifExp (pt_cmp (pc_isN (pv 4))) (pe_lst pa_nil) (pe_callG GK hr (by rfl) pass0 (pa_cons (pv 4) pa_nil)))))), ?_⟩
        exact ⟨_, rfl, rfl, _, rfl, iteFc (by decide) ⟨_, rfl, rfl, _, rfl, iteFc (by decide) ⟨_, rfl, rfl, _, rfl, iteFc (by decide) ⟨_, rfl, rfl, _, rfl, iteFc (by decide) ⟨_, rfl, rfl, _, rfl, iteTc (by decide) ⟨_, rfl, z, rfl, hz, tab, fun H1 k1 => ⟨CE .wishes, rfl, rfl, hm .wishes, fun a ha => ⟨_, rfl, _, rfl, _, rfl, iteF ⟨_, rfl, a, .wishes, rfl, upd_same, fun o H2 fo ho k3 => bad .wishes (by simp [dueL, Wd.txt]) _ a H2 o k1 ha fo ho k3⟩⟩⟩⟩⟩⟩⟩⟩⟩
    · -- way 5
      cases bp with
      | true =>
        obtain ⟨n, rfl, n1, n2⟩ := hy
        cases bw with
        | true =>
          obtain ⟨aw, ws, rfl, haw, hl, hn⟩ := hz
          refine ⟨_, pss_cons (ps_set (i := 4) sc_asked.nd rfl (.inl rfl) pe_non) (pss_cons (ps_try_asV (i := 5) rfl rfl sc_asked.nd rfl rfl rfl ⟨rfl, by decide, .inl gK⟩ (fun W pn xe tk _ => (pss_one (ps_if (pt_cmpR op_eq (pv 0) pe_int (nomark _)) pss_never (pss_one (ps_if (pt_cmpR op_eq (pv 0) pe_int (nomark _)) pss_never (pss_one (ps_if (pt_cmpR op_eq (pv 0) pe_int (nomark _)) pss_never (pss_one (ps_if (pt_cmpR op_eq (pv 0) pe_int (nomark _)) pss_never (pss_one (ps_if (pt_cmpR op_eq (pv 0) pe_int (nomark _)) pss_never (pss_one (ps_if (pt_cmpR op_eq (pv 0) pe_int (nomark _)) (pss_one (ps_expr (pe_callG G_bars hr (by rfl) pass0 (pa_cons (pv 2) (pa_cons (pv 3) pa_nil))))) pss_never))))))))))))) (fun a oe C pn hz hf => pss_one (ps_set (i := 4) sc_asked.nd rfl (.inl rfl) (pv 5)))) (pss_one (ps_ret (pe_ifExp (pt_cmp (pc_isN (pv 4))) (pe_lst pa_nil) (pe_callG GK hr (by rfl) pass0 (pa_cons (pv 4) pa_nil)))))), ?_⟩
          exact ⟨_, rfl, rfl, _, rfl, iteFc (by decide) ⟨_, rfl, rfl, _, rfl, iteFc (by decide) ⟨_, rfl, rfl, _, rfl, iteFc (by decide) ⟨_, rfl, rfl, _, rfl, iteFc (by decide) ⟨_, rfl, rfl, _, rfl, iteFc (by decide) ⟨_, rfl, rfl, _, rfl, iteTc (by decide) ⟨_, rfl, _, rfl, n, aw, ws, rfl, by omega, by omega, haw, hl, hn, tab, fun o H1 _ _ k1 => ⟨_, rfl, _, rfl, iteT ⟨Nat.zero_le _, good (by simp [dueL]) _ k1⟩⟩⟩⟩⟩⟩⟩⟩⟩
        | false =>
          have hz : BadW K H z := hz
          refine ⟨_, pss_cons (ps_set (i := 4) sc_asked.nd rfl (.inl rfl) pe_non) (pss_cons (ps_try_asV (i := 5) rfl rfl sc_asked.nd rfl rfl rfl ⟨rfl, by decide, .inl gK⟩ (fun W pn xe tk _ => (pss_one (ps_if (pt_cmpR op_eq (pv 0) pe_int (nomark _)) pss_never (pss_one (ps_if (pt_cmpR op_eq (pv 0) pe_int (nomark _)) pss_never (pss_one (ps_if (pt_cmpR op_eq (pv 0) pe_int (nomark _)) pss_never (pss_one (ps_if (pt_cmpR op_eq (pv 0) pe_int (nomark _)) pss_never (pss_one (ps_if (pt_cmpR op_eq (pv 0) pe_int (nomark _)) pss_never (pss_one (ps_if (pt_cmpR op_eq (pv 0) pe_int (nomark _)) (pss_one (ps_expr (pe_callG X_bars hr (by rfl) (passes_call tk fun _ _ _ _ h => h) (pa_cons (pv 2) (pa_cons (pv 3) pa_nil))))) pss_never))))))))))))) (fun a oe C pn hz hf => pss_one (ps_set (i := 4) sc_asked.nd rfl (.inl rfl) (pv 5)))) (pss_one (ps_ret (pe_ifExp (pt_cmp (pc_isN (pv 4))) (pe_lst pa_nil) (pe_callG GK hr (by rfl) pass0 (pa_cons (pv 4) pa_nil)))))), ?_⟩
          exact ⟨_, rfl, rfl, _, rfl, iteFc (by decide) ⟨_, rfl, rfl, _, rfl, iteFc (by decide) ⟨_, rfl, rfl, _, rfl, iteFc (by decide) ⟨_, rfl, rfl, _, rfl, iteFc (by decide) ⟨_, rfl, rfl, _, rfl, iteFc (by decide) ⟨_, rfl, rfl, _, rfl, iteTc (by decide) ⟨_, rfl, _, rfl, _, z, rfl, tab, .inr ⟨(n : Int), rfl, by omega, by omega, hz, fun H1 k1 => ⟨CE .wishes, rfl, rfl, hm .wishes, fun a ha => ⟨_, rfl, _, rfl, _, rfl, iteF ⟨_, rfl, a, .wishes, rfl, upd_same, fun o H2 fo ho k3 => bad .wishes (by simp [dueL, Wd.txt]) _ a H2 o k1 ha fo ho k3⟩⟩⟩⟩⟩⟩⟩⟩⟩⟩⟩
      | false =>
        have hy : BadP K H y := hy
        refine ⟨_, pss_cons (ps_set (i := 4) sc_asked.nd rfl (.inl rfl) pe_non) (pss_cons (ps_try_asV (i := 5) rfl rfl sc_asked.nd rfl rfl rfl ⟨rfl, by decide, .inl gK⟩ (fun W pn xe tk _ => (pss_one (ps_if (pt_cmpR op_eq (pv 0) pe_int (nomark _)) pss_never (pss_one (ps_if (pt_cmpR op_eq (pv 0) pe_int (nomark _)) pss_never (pss_one (ps_if (pt_cmpR op_eq (pv 0) pe_int (nomark _)) pss_never (pss_one (ps_if (pt_cmpR op_eq (pv 0) pe_int (nomark _)) pss_never (pss_one (ps_if (pt_cmpR op_eq (pv 0) pe_int (nomark _)) pss_never (pss_one (ps_if (pt_cmpR op_eq (pv 0) pe_int (nomark _)) (pss_one (ps_expr (pe_callG X_bars hr (by rfl) (passes_call tk fun _ _ _ _ h => h) (pa_cons (pv 2) (pa_cons (pv 3) pa_nil))))) pss_never))))))))))))) (fun a oe C pn hz hf => pss_one (ps_set (i := 4) sc_asked.nd rfl (.inl rfl) (pv 5)))) (pss_one (ps_ret (pe_ifExp (pt_cmp (pc_isN (pv 4))) (pe_lst pa_nil) (pe_callG GK hr (by rfl) pass0 (pa_cons (pv 4) pa_nil)))))), ?_⟩
        exact ⟨_, rfl, rfl, _, rfl, iteFc (by decide) ⟨_, rfl, rfl, _, rfl, iteFc (by decide) ⟨_, rfl, rfl, _, rfl, iteFc (by decide) ⟨_, rfl, rfl, _, rfl, iteFc (by decide) ⟨_, rfl, rfl, _, rfl, iteFc (by decide) ⟨_, rfl, rfl, _, rfl, iteTc (by decide) ⟨_, rfl, _, rfl, y, z, rfl, tab, .inl ⟨hy, fun H1 k1 => ⟨CE .places, rfl, rfl, hm .places, fun a ha => ⟨_, rfl, _, rfl, _, rfl, iteF ⟨_, rfl, a, .places, rfl, upd_same, fun o H2 fo ho k3 => bad .places (by simp [dueL, Wd.txt]) _ a H2 o k1 ha fo ho k3⟩⟩⟩⟩⟩⟩⟩⟩⟩⟩⟩
    · -- way 6
      cases bp with
      | true =>
        obtain ⟨n, rfl, n1, n2⟩ := hy
        cases bw with
        | true =>
          obtain ⟨aw, ws, rfl, haw, hl, hn⟩ := hz
          refine ⟨_, pss_cons (ps_set (i := 4) sc_asked.nd rfl (.inl rfl) pe_non) (pss_cons (ps_try_asV (i := 5) rfl rfl sc_asked.nd rfl rfl rfl ⟨rfl, by decide, .inl gK⟩ (fun W pn xe tk _ => (pss_one (ps_if (pt_cmpR op_eq (pv 0) pe_int (nomark _)) pss_never (pss_one (ps_if (pt_cmpR op_eq (pv 0) pe_int (nomark _)) pss_never (pss_one (ps_if (pt_cmpR op_eq (pv 0) pe_int (nomark _)) pss_never (pss_one (ps_if (pt_cmpR op_eq (pv 0) pe_int (nomark _)) pss_never (pss_one (ps_if (pt_cmpR op_eq (pv 0) pe_int (nomark _)) pss_never (pss_one (ps_if (pt_cmpR op_eq (pv 0) pe_int (nomark _)) pss_never (pss_one (ps_if (pt_cmpR op_eq (pv 0) pe_int (nomark _)) (pss_one (ps_expr (pe_callG G_blocks hr (by rfl) pass0 (pa_cons (pv 2) (pa_cons (pv 3) pa_nil))))) pss_never))))))))))))))) (fun a oe C pn hz hf => pss_one (ps_set (i := 4) sc_asked.nd rfl (.inl rfl) (pv 5)))) (pss_one (ps_ret (pe_ifExp (pt_cmp (pc_isN (pv 4))) (pe_lst pa_nil) (pe_callG GK hr (by rfl) pass0 (pa_cons (pv 4) pa_nil)))))), ?_⟩
          exact ⟨_, rfl, rfl, _, rfl, iteFc (by decide) ⟨_, rfl, rfl, _, rfl, iteFc (by decide) ⟨_, rfl, rfl, _, rfl, iteFc (by decide) ⟨_, rfl, rfl, _, rfl, iteFc (by decide) ⟨_, rfl, rfl, _, rfl, iteFc (by decide) ⟨_, rfl, rfl, _, rfl, iteFc (by decide) ⟨_, rfl, rfl, _, rfl, iteTc (by decide) ⟨_, rfl, _, rfl, (n : Int), aw, ws, rfl, by omega, by omega, haw, hl, hn, tab, fun o us H1 _ _ _ _ k1 => ⟨_, rfl, _, rfl, iteT ⟨Nat.zero_le _, good (by simp [dueL]) _ k1⟩⟩⟩⟩⟩⟩⟩⟩⟩⟩
        | false =>
          have hz : BadW K H z := hz
          refine ⟨_, pss_cons (ps_set (i := 4) sc_asked.nd rfl (.inl rfl) pe_non) (pss_cons (ps_try_asV (i := 5) rfl rfl sc_asked.nd rfl rfl rfl ⟨rfl, by decide, .inl gK⟩ (fun W pn xe tk _ => (pss_one (ps_if (pt_cmpR op_eq (pv 0) pe_int (nomark _)) pss_never (pss_one (ps_if (pt_cmpR op_eq (pv 0) pe_int (nomark _)) pss_never (pss_one (ps_if (pt_cmpR op_eq (pv 0) pe_int (nomark _)) pss_never (pss_one (ps_if (pt_cmpR op_eq (pv 0) pe_int (nomark _)) pss_never (pss_one (ps_if (pt_cmpR op_eq (pv 0) pe_int (nomark _)) pss_never (pss_one (ps_if (pt_cmpR op_eq (pv 0) pe_int (nomark _)) pss_never (pss_one (ps_if (pt_cmpR op_eq (pv 0) pe_int (nomark _)) (pss_one (ps_expr (pe_callG X_blocks hr (by rfl) (passes_call tk fun _ _ _ _ h => h) (pa_cons (pv 2) (pa_cons (pv 3) pa_nil))))) pss_never))))))))))))))) (fun a oe C pn hz hf => pss_one (ps_set (i := 4) sc_asked.nd rfl (.inl rfl) (pv 5)))) (pss_one (ps_ret (pe_ifExp (pt_cmp (pc_isN (pv 4))) (pe_lst pa_nil) (pe_callG GK hr (by rfl) pass0 (pa_cons (pv 4) pa_nil)))))), ?_⟩
          exact ⟨_, rfl, rfl, _, rfl, iteFc (by decide) ⟨_, rfl, rfl, _, rfl, iteFc (by decide) ⟨_, rfl, rfl, _, rfl, iteFc (by decide) ⟨_, rfl, rfl, _, rfl, iteFc (by decide) ⟨_, rfl, rfl, _, rfl, iteFc (by decide) ⟨_, rfl, rfl, _, rfl, iteFc (by decide) ⟨_, rfl, rfl, _, rfl, iteTc (by decide) ⟨_, rfl, _, rfl, _, z, rfl, tab, .inr ⟨(n : Int), rfl, by omega, by omega, hz, fun H1 k1 => ⟨CE .wishes, rfl, rfl, hm .wishes, fun a ha => ⟨_, rfl, _, rfl, _, rfl, iteF ⟨_, rfl, a, .wishes, rfl, upd_same, fun o H2 fo ho k3 => bad .wishes (by simp [dueL, Wd.txt]) _ a H2 o k1 ha fo ho k3⟩⟩⟩⟩⟩⟩⟩⟩⟩⟩⟩⟩
      | false =>
        have hy : BadP K H y := hy
        refine ⟨_, pss_cons (ps_set (i := 4) sc_asked.nd rfl (.inl rfl) pe_non) (pss_cons (ps_try_asV (i := 5) rfl rfl sc_asked.nd rfl rfl rfl ⟨rfl, by decide, .inl gK⟩ (fun W pn xe tk _ => (pss_one (ps_if (pt_cmpR op_eq (pv 0) pe_int (nomark _)) pss_never (pss_one (ps_if (pt_cmpR op_eq (pv 0) pe_int (nomark _)) pss_never (pss_one (ps_if (pt_cmpR op_eq (pv 0) pe_int (nomark _)) pss_never (pss_one (ps_if (pt_cmpR op_eq (pv 0) pe_int (nomark _)) pss_never (pss_one (ps_if (pt_cmpR op_eq (pv 0) pe_int (nomark _)) pss_never (pss_one (ps_if (pt_cmpR op_eq (pv 0) pe_int (nomark _)) pss_never (pss_one (ps_if (pt_cmpR op_eq (pv 0) pe_int (nomark _)) (pss_one (ps_expr (pe_callG X_blocks hr (by rfl) (passes_call tk fun _ _ _ _ h => h) (pa_cons (pv 2) (pa_cons (pv 3) pa_nil))))) pss_never))))))))))))))) (fun a oe C pn hz hf => pss_one (ps_set (i := 4) sc_asked.nd rfl (.inl rfl) (pv 5)))) (pss_one (ps_ret (pe_ifExp (pt_cmp (pc_isN (pv 4))) (pe_lst pa_nil) (pe_callG GK hr (by rfl) pass0 (pa_cons (pv 4) pa_nil)))))), ?_⟩
        exact ⟨_, rfl, rfl, _, rfl, iteFc (by decide) ⟨_, rfl, rfl, _, rfl, iteFc (by decide) ⟨_, rfl, rfl, _, rfl, iteFc (by decide) ⟨_, rfl, rfl, _, rfl, iteFc (by decide) ⟨_, rfl, rfl, _, rfl, iteFc (by decide) ⟨_, rfl, rfl, _, rfl, iteFc (by decide) ⟨_, rfl, rfl, _, rfl, iteTc (by decide) ⟨_, rfl, _, rfl, y, z, rfl, tab, .inl ⟨hy, fun H1 k1 => ⟨CE .places, rfl, rfl, hm .places, fun a ha => ⟨_, rfl, _, rfl, _, rfl, iteF ⟨_, rfl, a, .places, rfl, upd_same, fun o H2 fo ho k3 => bad .places (by simp [dueL, Wd.txt]) _ a H2 o k1 ha fo ho k3⟩⟩⟩⟩⟩⟩⟩⟩⟩⟩⟩⟩
    · -- way 7
      cases br with
      | true =>
        obtain ⟨r, rfl⟩ := hx
        cases bp with
        | true =>
          obtain ⟨n, rfl, n1, n2⟩ := hy
          refine ⟨_, pss_cons (ps_set (i := 4) sc_asked.nd rfl (.inl rfl) pe_non) (pss_cons (ps_try_asV (i := 5) rfl rfl sc_asked.nd rfl rfl rfl ⟨rfl, by decide, .inl gK⟩ (fun W pn xe tk _ => (pss_one (ps_if (pt_cmpR op_eq (pv 0) pe_int (nomark _)) pss_never (pss_one (ps_if (pt_cmpR op_eq (pv 0) pe_int (nomark _)) pss_never (pss_one (ps_if (pt_cmpR op_eq (pv 0) pe_int (nomark _)) pss_never (pss_one (ps_if (pt_cmpR op_eq (pv 0) pe_int (nomark _)) pss_never (pss_one (ps_if (pt_cmpR op_eq (pv 0) pe_int (nomark _)) pss_never (pss_one (ps_if (pt_cmpR op_eq (pv 0) pe_int (nomark _)) pss_never (pss_one (ps_if (pt_cmpR op_eq (pv 0) pe_int (nomark _)) pss_never (pss_one (ps_if (pt_cmpR op_eq (pv 0) pe_int (nomark _)) (pss_one (ps_expr (pe_callG G_sh hr (by rfl) pass0 (pa_cons (pv 1) (pa_cons (pv 2) pa_nil))))) pss_never))))))))))))))))) (fun a oe C pn hz hf => pss_one (ps_set (i := 4) sc_asked.nd rfl (.inl rfl) (pv 5)))) (pss_one (ps_ret (pe_ifExp (pt_cmp (pc_isN (pv 4))) (pe_lst pa_nil) (pe_callG GK hr (by rfl) pass0 (pa_cons (pv 4) pa_nil)))))), ?_⟩
          exact ⟨_, rfl, rfl, _, rfl, iteFc (by decide) ⟨_, rfl, rfl, _, rfl, iteFc (by decide) ⟨_, rfl, rfl, _, rfl, iteFc (by decide) ⟨_, rfl, rfl, _, rfl, iteFc (by decide) ⟨_, rfl, rfl, _, rfl, iteFc (by decide) ⟨_, rfl, rfl, _, rfl, iteFc (by decide) ⟨_, rfl, rfl, _, rfl, iteFc (by decide) ⟨_, rfl, rfl, _, rfl, iteTc (by decide) ⟨_, rfl, _, rfl, r, (n : Int), rfl, by omega, by omega, fun p S H1 _ _ k1 => ⟨_, rfl, _, rfl, iteT ⟨Nat.zero_le _, good (by simp [dueL]) _ k1⟩⟩⟩⟩⟩⟩⟩⟩⟩⟩⟩
        | false =>
          have hy : BadP K H y := hy
          refine ⟨_, pss_cons (ps_set (i := 4) sc_asked.nd rfl (.inl rfl) pe_non) (pss_cons (ps_try_asV (i := 5) rfl rfl sc_asked.nd rfl rfl rfl ⟨rfl, by decide, .inl gK⟩ (fun W pn xe tk _ => (pss_one (ps_if (pt_cmpR op_eq (pv 0) pe_int (nomark _)) pss_never (pss_one (ps_if (pt_cmpR op_eq (pv 0) pe_int (nomark _)) pss_never (pss_one (ps_if (pt_cmpR op_eq (pv 0) pe_int (nomark _)) pss_never (pss_one (ps_if (pt_cmpR op_eq (pv 0) pe_int (nomark _)) pss_never (pss_one (ps_if (pt_cmpR op_eq (pv 0) pe_int (nomark _)) pss_never (pss_one (ps_if (pt_cmpR op_eq (pv 0) pe_int (nomark _)) pss_never (pss_one (ps_if (pt_cmpR op_eq (pv 0) pe_int (nomark _)) pss_never (pss_one (ps_if (pt_cmpR op_eq (pv 0) pe_int (nomark _)) (pss_one (ps_expr (pe_callG X_sh hr (by rfl) (passes_call tk fun _ _ _ _ h => h) (pa_cons (pv 1) (pa_cons (pv 2) pa_nil))))) pss_never))))))))))))))))) (fun a oe C pn hz hf => pss_one (ps_set (i := 4) sc_asked.nd rfl (.inl rfl) (pv 5)))) (pss_one (ps_ret (pe_ifExp (pt_cmp (pc_isN (pv 4))) (pe_lst pa_nil) (pe_callG GK hr (by rfl) pass0 (pa_cons (pv 4) pa_nil)))))), ?_⟩
          exact ⟨_, rfl, rfl, _, rfl, iteFc (by decide) ⟨_, rfl, rfl, _, rfl, iteFc (by decide) ⟨_, rfl, rfl, _, rfl, iteFc (by decide) ⟨_, rfl, rfl, _, rfl, iteFc (by decide) ⟨_, rfl, rfl, _, rfl, iteFc (by decide) ⟨_, rfl, rfl, _, rfl, iteFc (by decide) ⟨_, rfl, rfl, _, rfl, iteFc (by decide) ⟨_, rfl, rfl, _, rfl, iteTc (by decide) ⟨_, rfl, _, rfl, _, y, rfl, tab, .inr ⟨r, rfl, hy, fun H1 k1 => ⟨CE .places, rfl, rfl, hm .places, fun a ha => ⟨_, rfl, _, rfl, _, rfl, iteF ⟨_, rfl, a, .places, rfl, upd_same, fun o H2 fo ho k3 => bad .places (by simp [dueL, Wd.txt]) _ a H2 o k1 ha fo ho k3⟩⟩⟩⟩⟩⟩⟩⟩⟩⟩⟩⟩⟩
      | false =>
        have hx : BadR K H x := hx
        refine ⟨_, pss_cons (ps_set (i := 4) sc_asked.nd rfl (.inl rfl) pe_non) (pss_cons (ps_try_asV (i := 5) rfl rfl sc_asked.nd rfl rfl rfl ⟨rfl, by decide, .inl gK⟩ (fun W pn xe tk _ => (pss_one (ps_if (pt_cmpR op_eq (pv 0) pe_int (nomark _)) pss_never (pss_one (ps_if (pt_cmpR op_eq (pv 0) pe_int (nomark _)) pss_never (pss_one (ps_if (pt_cmpR op_eq (pv 0) pe_int (nomark _)) pss_never (pss_one (ps_if (pt_cmpR op_eq (pv 0) pe_int (nomark _)) pss_never (pss_one (ps_if (pt_cmpR op_eq (pv 0) pe_int (nomark _)) pss_never (pss_one (ps_if (pt_cmpR op_eq (pv 0) pe_int (nomark _)) pss_never (pss_one (ps_if (pt_cmpR op_eq (pv 0) pe_int (nomark _)) pss_never (pss_one (ps_if (pt_cmpR op_eq (pv 0) pe_int (nomark _)) (pss_one (ps_expr (pe_callG X_sh hr (by rfl) (passes_call tk fun _ _ _ _ h => h) (pa_cons (pv 1) (pa_cons (pv 2) pa_nil))))) pss_never))))))))))))))))) (fun a oe C pn hz hf => pss_one (ps_set (i := 4) sc_asked.nd rfl (.inl rfl) (pv 5)))) (pss_one (ps_ret (pe_ifExp (pt_cmp (pc_isN (pv 4))) (pe_lst pa_nil) (pe_callG GK hr (by rfl) pass0 (pa_cons (pv 4) pa_nil)))))), ?_⟩
        exact ⟨_, rfl, rfl, _, rfl, iteFc (by decide) ⟨_, rfl, rfl, _, rfl, iteFc (by decide) ⟨_, rfl, rfl, _, rfl, iteFc (by decide) ⟨_, rfl, rfl, _, rfl, iteFc (by decide) ⟨_, rfl, rfl, _, rfl, iteFc (by decide) ⟨_, rfl, rfl, _, rfl, iteFc (by decide) ⟨_, rfl, rfl, _, rfl, iteFc (by decide) ⟨_, rfl, rfl, _, rfl, iteTc (by decide) ⟨_, rfl, _, rfl, x, y, rfl, tab, .inl ⟨hx, fun H1 k1 => ⟨CE .rule, rfl, rfl, hm .rule, fun a ha => ⟨_, rfl, _, rfl, _, rfl, iteF ⟨_, rfl, a, .rule, rfl, upd_same, fun o H2 fo ho k3 => bad .rule (by simp [dueL, Wd.txt]) _ a H2 o k1 ha fo ho k3⟩⟩⟩⟩⟩⟩⟩⟩⟩⟩⟩⟩⟩
    · -- way 8
      cases bp with
      | true =>
        obtain ⟨n, rfl, n1, n2⟩ := hy
        refine ⟨_, pss_cons (ps_set (i := 4) sc_asked.nd rfl (.inl rfl) pe_non) (pss_cons (ps_try_asV (i := 5) rfl rfl sc_asked.nd rfl rfl rfl ⟨rfl, by decide, .inl gK⟩ (fun W pn xe tk _ => (pss_one (ps_if (pt_cmpR op_eq (pv 0) pe_int (nomark _)) pss_never (pss_one (ps_if (pt_cmpR op_eq (pv 0) pe_int (nomark _)) pss_never (pss_one (ps_if (pt_cmpR op_eq (pv 0) pe_int (nomark _)) pss_never (pss_one (ps_if (pt_cmpR op_eq (pv 0) pe_int (nomark _)) pss_never (pss_one (ps_if (pt_cmpR op_eq (pv 0) pe_int (nomark _)) pss_never (pss_one (ps_if (pt_cmpR op_eq (pv 0) pe_int (nomark _)) pss_never (pss_one (ps_if (pt_cmpR op_eq (pv 0) pe_int (nomark _)) pss_never (pss_one (ps_if (pt_cmpR op_eq (pv 0) pe_int (nomark _)) pss_never (pss_one (ps_if (pt_cmpR op_eq (pv 0) pe_int (nomark _)) (pss_one (ps_expr (pe_makeG G_Old hr (by rfl) pass0 (pa_cons (pv 2) pa_nil)))) pss_never))))))))))))))))))) (fun a oe C pn hz hf => pss_one (ps_set (i := 4) sc_asked.nd rfl (.inl rfl) (pv 5)))) (pss_one (ps_ret (pe_ifExp (pt_cmp (pc_isN (pv 4))) (pe_lst pa_nil) (pe_callG GK hr (by rfl) pass0 (pa_cons (pv 4) pa_nil)))))), ?_⟩
        exact ⟨_, rfl, rfl, _, rfl, iteFc (by decide) ⟨_, rfl, rfl, _, rfl, iteFc (by decide) ⟨_, rfl, rfl, _, rfl, iteFc (by decide) ⟨_, rfl, rfl, _, rfl, iteFc (by decide) ⟨_, rfl, rfl, _, rfl, iteFc (by decide) ⟨_, rfl, rfl, _, rfl, iteFc (by decide) ⟨_, rfl, rfl, _, rfl, iteFc (by decide) ⟨_, rfl, rfl, _, rfl, iteFc (by decide) ⟨_, rfl, rfl, _, rfl, iteTc (by decide) ⟨_, rfl, fun x0 dx0 hx0 hdx0 _ => ⟨x0, dx0, (n : Int), rfl, by omega, by omega, upd_same, fun l H1 _ _ _ k1 => ⟨rfl, ⟨_, rfl, _, rfl, iteT ⟨Nat.zero_le _, good (by simp [dueL]) _ (Kp.made hx0 hdx0 k1)⟩⟩⟩⟩⟩⟩⟩⟩⟩⟩⟩⟩⟩⟩
      | false =>
        have hy : BadP K H y := hy
        refine ⟨_, pss_cons (ps_set (i := 4) sc_asked.nd rfl (.inl rfl) pe_non) (pss_cons (ps_try_asV (i := 5) rfl rfl sc_asked.nd rfl rfl rfl ⟨rfl, by decide, .inl gK⟩ (fun W pn xe tk _ => (pss_one (ps_if (pt_cmpR op_eq (pv 0) pe_int (nomark _)) pss_never (pss_one (ps_if (pt_cmpR op_eq (pv 0) pe_int (nomark _)) pss_never (pss_one (ps_if (pt_cmpR op_eq (pv 0) pe_int (nomark _)) pss_never (pss_one (ps_if (pt_cmpR op_eq (pv 0) pe_int (nomark _)) pss_never (pss_one (ps_if (pt_cmpR op_eq (pv 0) pe_int (nomark _)) pss_never (pss_one (ps_if (pt_cmpR op_eq (pv 0) pe_int (nomark _)) pss_never (pss_one (ps_if (pt_cmpR op_eq (pv 0) pe_int (nomark _)) pss_never (pss_one (ps_if (pt_cmpR op_eq (pv 0) pe_int (nomark _)) pss_never (pss_one (ps_if (pt_cmpR op_eq (pv 0) pe_int (nomark _)) (pss_one (ps_expr (pe_makeG X_Old hr (by rfl) (passes_call tk fun _ _ _ _ h => h) (pa_cons (pv 2) pa_nil)))) pss_never))))))))))))))))))) (fun a oe C pn hz hf => pss_one (ps_set (i := 4) sc_asked.nd rfl (.inl rfl) (pv 5)))) (pss_one (ps_ret (pe_ifExp (pt_cmp (pc_isN (pv 4))) (pe_lst pa_nil) (pe_callG GK hr (by rfl) pass0 (pa_cons (pv 4) pa_nil)))))), ?_⟩
        exact ⟨_, rfl, rfl, _, rfl, iteFc (by decide) ⟨_, rfl, rfl, _, rfl, iteFc (by decide) ⟨_, rfl, rfl, _, rfl, iteFc (by decide) ⟨_, rfl, rfl, _, rfl, iteFc (by decide) ⟨_, rfl, rfl, _, rfl, iteFc (by decide) ⟨_, rfl, rfl, _, rfl, iteFc (by decide) ⟨_, rfl, rfl, _, rfl, iteFc (by decide) ⟨_, rfl, rfl, _, rfl, iteFc (by decide) ⟨_, rfl, rfl, _, rfl, iteTc (by decide) ⟨_, rfl, fun x0 dx0 hx0 hdx0 hne0 => ⟨.ref x0, y, rfl, hy.kp (kp_made (tb := tbOf K) hx0 hdx0 hne0), (kp_made (tb := tbOf K) hx0 hdx0 hne0).tab tab, fun H1 k1 => ⟨CE .places, rfl, rfl, hm .places, fun a ha => ⟨_, rfl, _, rfl, _, rfl, iteF ⟨_, rfl, a, .places, rfl, upd_same, fun o H2 fo ho k3 => bad .places (by simp [dueL, Wd.txt]) _ a H2 o ((kp_made (tb := tbOf K) hx0 hdx0 hne0).trans k1) ha fo ho k3⟩⟩⟩⟩⟩⟩⟩⟩⟩⟩⟩⟩⟩⟩
    · -- way 9
      cases bp with
      | true =>
        obtain ⟨n, rfl, n1, n2⟩ := hy
        refine ⟨_, pss_cons (ps_set (i := 4) sc_asked.nd rfl (.inl rfl) pe_non) (pss_cons (ps_try_asV (i := 5) rfl rfl sc_asked.nd rfl rfl rfl ⟨rfl, by decide, .inl gK⟩ (fun W pn xe tk _ => (pss_one (ps_if (pt_cmpR op_eq (pv 0) pe_int (nomark _)) pss_never (pss_one (ps_if (pt_cmpR op_eq (pv 0) pe_int (nomark _)) pss_never (pss_one (ps_if (pt_cmpR op_eq (pv 0) pe_int (nomark _)) pss_never (pss_one (ps_if (pt_cmpR op_eq (pv 0) pe_int (nomark _)) pss_never (pss_one (ps_if (pt_cmpR op_eq (pv 0) pe_int (nomark _)) pss_never (pss_one (ps_if (pt_cmpR op_eq (pv 0) pe_int (nomark _)) pss_never (pss_one (ps_if (pt_cmpR op_eq (pv 0) pe_int (nomark _)) pss_never (pss_one (ps_if (pt_cmpR op_eq (pv 0) pe_int (nomark _)) pss_never (pss_one (ps_if (pt_cmpR op_eq (pv 0) pe_int (nomark _)) pss_never (pss_one (ps_if (pt_cmpR op_eq (pv 0) pe_int (nomark _)) (pss_one (ps_expr (pe_makeG G_Cold hr (by rfl) pass0 (pa_cons (pv 2) pa_nil)))) pss_never))))))))))))))))))))) (fun a oe C pn hz hf => pss_one (ps_set (i := 4) sc_asked.nd rfl (.inl rfl) (pv 5)))) (pss_one (ps_ret (pe_ifExp (pt_cmp (pc_isN (pv 4))) (pe_lst pa_nil) (pe_callG GK hr (by rfl) pass0 (pa_cons (pv 4) pa_nil)))))), ?_⟩
        exact ⟨_, rfl, rfl, _, rfl, iteFc (by decide) ⟨_, rfl, rfl, _, rfl, iteFc (by decide) ⟨_, rfl, rfl, _, rfl, iteFc (by decide) ⟨_, rfl, rfl, _, rfl, iteFc (by decide) ⟨_, rfl, rfl, _, rfl, iteFc (by decide) ⟨_, rfl, rfl, _, rfl, iteFc (by decide) ⟨_, rfl, rfl, _, rfl, iteFc (by decide) ⟨_, rfl, rfl, _, rfl, iteFc (by decide) ⟨_, rfl, rfl, _, rfl, iteFc (by decide) ⟨_, rfl, rfl, _, rfl, iteTc (by decide) ⟨_, rfl, fun x0 dx0 hx0 hdx0 _ => ⟨x0, dx0, (n : Int), rfl, by omega, by omega, upd_same, fun l H1 _ _ _ k1 => ⟨rfl, ⟨_, rfl, _, rfl, iteT ⟨Nat.zero_le _, good (by simp [dueL]) _ (Kp.made hx0 hdx0 k1)⟩⟩⟩⟩⟩⟩⟩⟩⟩⟩⟩⟩⟩⟩⟩
      | false =>
        have hy : BadP K H y := hy
        refine ⟨_, pss_cons (ps_set (i := 4) sc_asked.nd rfl (.inl rfl) pe_non) (pss_cons (ps_try_asV (i := 5) rfl rfl sc_asked.nd rfl rfl rfl ⟨rfl, by decide, .inl gK⟩ (fun W pn xe tk _ => (pss_one (ps_if (pt_cmpR op_eq (pv 0) pe_int (nomark _)) pss_never (pss_one (ps_if (pt_cmpR op_eq (pv 0) pe_int (nomark _)) pss_never (pss_one (ps_if (pt_cmpR op_eq (pv 0) pe_int (nomark _)) pss_never (pss_one (ps_if (pt_cmpR op_eq (pv 0) pe_int (nomark _)) pss_never (pss_one (ps_if (pt_cmpR op_eq (pv 0) pe_int (nomark _)) pss_never (pss_one (ps_if (pt_cmpR op_eq (pv 0) pe_int (nomark _)) pss_never (pss_one (ps_if (pt_cmpR op_eq (pv 0) pe_int (nomark _)) pss_never (pss_one (ps_if (pt_cmpR op_eq (pv 0) pe_int (nomark _)) pss_never (pss_one (ps_if (pt_cmpR op_eq (pv 0) pe_int (nomark _)) pss_never (pss_one (ps_if (pt_cmpR op_eq (pv 0) pe_int (nomark _)) (pss_one (ps_expr (pe_makeG X_Cold hr (by rfl) (passes_call tk fun _ _ _ _ h => h) (pa_cons (pv 2) pa_nil)))) pss_never))))))))))))))))))))) (fun a oe C pn hz hf => pss_one (ps_set (i := 4) sc_asked.nd rfl (.inl rfl) (pv 5)))) (pss_one (ps_ret (pe_ifExp (pt_cmp (pc_isN (pv 4))) (pe_lst pa_nil) (pe_callG GK hr (by rfl) pass0 (pa_cons (pv 4) pa_nil)))))), ?_⟩
        exact ⟨_, rfl, rfl, _, rfl, iteFc (by decide) ⟨_, rfl, rfl, _, rfl, iteFc (by decide) ⟨_, rfl, rfl, _, rfl, iteFc (by decide) ⟨_, rfl, rfl, _, rfl, iteFc (by decide) ⟨_, rfl, rfl, _, rfl, iteFc (by decide) ⟨_, rfl, rfl, _, rfl, iteFc (by decide) ⟨_, rfl, rfl, _, rfl, iteFc (by decide) ⟨_, rfl, rfl, _, rfl, iteFc (by decide) ⟨_, rfl, rfl, _, rfl, iteFc (by decide) ⟨_, rfl, rfl, _, rfl, iteTc (by decide) ⟨_, rfl, fun x0 dx0 hx0 hdx0 hne0 => ⟨.ref x0, y, rfl, hy.kp (kp_made (tb := tbOf K) hx0 hdx0 hne0), (kp_made (tb := tbOf K) hx0 hdx0 hne0).tab tab, fun H1 k1 => ⟨CE .places, rfl, rfl, hm .places, fun a ha => ⟨_, rfl, _, rfl, _, rfl, iteF ⟨_, rfl, a, .places, rfl, upd_same, fun o H2 fo ho k3 => bad .places (by simp [dueL, Wd.txt]) _ a H2 o ((kp_made (tb := tbOf K) hx0 hdx0 hne0).trans k1) ha fo ho k3⟩⟩⟩⟩⟩⟩⟩⟩⟩⟩⟩⟩⟩⟩⟩
    · -- way 10
      cases bp with
      | true =>
        obtain ⟨n, rfl, n1, n2⟩ := hy
        refine ⟨_, pss_cons (ps_set (i := 4) sc_asked.nd rfl (.inl rfl) pe_non) (pss_cons (ps_try_asV (i := 5) rfl rfl sc_asked.nd rfl rfl rfl ⟨rfl, by decide, .inl gK⟩ (fun W pn xe tk _ => (pss_one (ps_if (pt_cmpR op_eq (pv 0) pe_int (nomark _)) pss_never (pss_one (ps_if (pt_cmpR op_eq (pv 0) pe_int (nomark _)) pss_never (pss_one (ps_if (pt_cmpR op_eq (pv 0) pe_int (nomark _)) pss_never (pss_one (ps_if (pt_cmpR op_eq (pv 0) pe_int (nomark _)) pss_never (pss_one (ps_if (pt_cmpR op_eq (pv 0) pe_int (nomark _)) pss_never (pss_one (ps_if (pt_cmpR op_eq (pv 0) pe_int (nomark _)) pss_never (pss_one (ps_if (pt_cmpR op_eq (pv 0) pe_int (nomark _)) pss_never (pss_one (ps_if (pt_cmpR op_eq (pv 0) pe_int (nomark _)) pss_never (pss_one (ps_if (pt_cmpR op_eq (pv 0) pe_int (nomark _)) pss_never (pss_one (ps_if (pt_cmpR op_eq (pv 0) pe_int (nomark _)) pss_never (pss_one (ps_expr (pe_makeG G_Marked hr (by rfl) pass0 (pa_cons (pv 2) pa_nil))))))))))))))))))))))))) (fun a oe C pn hz hf => pss_one (ps_set (i := 4) sc_asked.nd rfl (.inl rfl) (pv 5)))) (pss_one (ps_ret (pe_ifExp (pt_cmp (pc_isN (pv 4))) (pe_lst pa_nil) (pe_callG GK hr (by rfl) pass0 (pa_cons (pv 4) pa_nil)))))), ?_⟩
        exact ⟨_, rfl, rfl, _, rfl, iteFc (by decide) ⟨_, rfl, rfl, _, rfl, iteFc (by decide) ⟨_, rfl, rfl, _, rfl, iteFc (by decide) ⟨_, rfl, rfl, _, rfl, iteFc (by decide) ⟨_, rfl, rfl, _, rfl, iteFc (by decide) ⟨_, rfl, rfl, _, rfl, iteFc (by decide) ⟨_, rfl, rfl, _, rfl, iteFc (by decide) ⟨_, rfl, rfl, _, rfl, iteFc (by decide) ⟨_, rfl, rfl, _, rfl, iteFc (by decide) ⟨_, rfl, rfl, _, rfl, iteFc (by decide) ⟨_, rfl, fun x0 dx0 hx0 hdx0 _ => ⟨x0, dx0, (n : Int), rfl, by omega, by omega, upd_same, fun l d H1 _ _ _ _ k1 => ⟨rfl, ⟨_, rfl, _, rfl, iteT ⟨Nat.zero_le _, good (by simp [dueL]) _ (Kp.made hx0 hdx0 k1)⟩⟩⟩⟩⟩⟩⟩⟩⟩⟩⟩⟩⟩⟩⟩
      | false =>
        have hy : BadP K H y := hy
        refine ⟨_, pss_cons (ps_set (i := 4) sc_asked.nd rfl (.inl rfl) pe_non) (pss_cons (ps_try_asV (i := 5) rfl rfl sc_asked.nd rfl rfl rfl ⟨rfl, by decide, .inl gK⟩ (fun W pn xe tk _ => (pss_one (ps_if (pt_cmpR op_eq (pv 0) pe_int (nomark _)) pss_never (pss_one (ps_if (pt_cmpR op_eq (pv 0) pe_int (nomark _)) pss_never (pss_one (ps_if (pt_cmpR op_eq (pv 0) pe_int (nomark _)) pss_never (pss_one (ps_if (pt_cmpR op_eq (pv 0) pe_int (nomark _)) pss_never (pss_one (ps_if (pt_cmpR op_eq (pv 0) pe_int (nomark _)) pss_never (pss_one (ps_if (pt_cmpR op_eq (pv 0) pe_int (nomark _)) pss_never (pss_one (ps_if (pt_cmpR op_eq (pv 0) pe_int (nomark _)) pss_never (pss_one (ps_if (pt_cmpR op_eq (pv 0) pe_int (nomark _)) pss_never (pss_one (ps_if (pt_cmpR op_eq (pv 0) pe_int (nomark _)) pss_never (pss_one (ps_if (pt_cmpR op_eq (pv 0) pe_int (nomark _)) pss_never (pss_one (ps_expr (pe_makeG X_Marked hr (by rfl) (passes_call tk fun _ _ _ _ h => h) (pa_cons (pv 2) pa_nil))))))))))))))))))))))))) (fun a oe C pn hz hf => pss_one (ps_set (i := 4) sc_asked.nd rfl (.inl rfl) (pv 5)))) (pss_one (ps_ret (pe_ifExp (pt_cmp (pc_isN (pv 4))) (pe_lst pa_nil) (pe_callG GK hr (by rfl) pass0 (pa_cons (pv 4) pa_nil)))))), ?_⟩
        exact ⟨_, rfl, rfl, _, rfl, iteFc (by decide) ⟨_, rfl, rfl, _, rfl, iteFc (by decide) ⟨_, rfl, rfl, _, rfl, iteFc (by decide) ⟨_, rfl, rfl, _, rfl, iteFc (by decide) ⟨_, rfl, rfl, _, rfl, iteFc (by decide) ⟨_, rfl, rfl, _, rfl, iteFc (by decide) ⟨_, rfl, rfl, _, rfl, iteFc (by decide) ⟨_, rfl, rfl, _, rfl, iteFc (by decide) ⟨_, rfl, rfl, _, rfl, iteFc (by decide) ⟨_, rfl, rfl, _, rfl, iteFc (by decide) ⟨_, rfl, fun x0 dx0 hx0 hdx0 hne0 => ⟨.ref x0, y, rfl, hy.kp (kp_made (tb := tbOf K) hx0 hdx0 hne0), (kp_made (tb := tbOf K) hx0 hdx0 hne0).tab tab, fun H1 k1 => ⟨CE .places, rfl, rfl, hm .places, fun a ha => ⟨_, rfl, _, rfl, _, rfl, iteF ⟨_, rfl, a, .places, rfl, upd_same, fun o H2 fo ho k3 => bad .places (by simp [dueL, Wd.txt]) _ a H2 o ((kp_made (tb := tbOf K) hx0 hdx0 hne0).trans k1) ha fo ho k3⟩⟩⟩⟩⟩⟩⟩⟩⟩⟩⟩⟩⟩⟩⟩
end
end Kf

namespace Kf
open PySem PySem.Spec PyProof.Rows L2
/-! ### the law -/
def rCatL (K : PySem.W.Frag) : R2 := fun x y H Q => ∃ l b xs zs, x = .ref l ∧ y = .ref b ∧ SqL K H l xs ∧ SqL K H b zs ∧ xs.length + zs.length ≤ sizeLine ∧ ∀ p, H p = none → Q (.ref p) (upd H p (.lst (xs ++ zs)))
theorem op_catL {X : Cx} : OpR X (binaryOp .Add) (rCatL X.K) := by
  intro pins s σ H x y v u Q I rx ry h
  obtain ⟨l, b, xs, zs, rfl, rfl, hH, hB, hz, q⟩ := h
  cases rx
  cases ry
  obtain ⟨its, r, p1, _⟩ := I.list hH
  obtain ⟨its2, r2, p2, _⟩ := I.list hB
  obtain ⟨⟨ca, da, ea, fa⟩, ha, hca, na, hda⟩ := p1.isList
  obtain ⟨⟨cb, db, eb, fb⟩, hb, hcb, nb, hdb⟩ := p2.isList
  dsimp only at hca hda hcb hdb
  subst hca hda hcb hdb
  have hz' : its.toArray.size + its2.toArray.size ≤ sizeLine := by rw [List.size_toArray, List.size_toArray, ← r.length, ← r2.length]; exact hz
  refine PySem.concat_meets ⟨_, ha, rfl⟩ ⟨_, hb, rfl⟩ PySem.noFill_list_add PySem.seq_list_add PySem.F.slot_list_add PySem.F.entry_list_add (PySem.F.args_list_add_2 _ _) (PyProof.Rows.list_addW l b its.toArray its2.toArray na nb da db fa fb hz') ⟨ha, hb, ?_⟩
  rw [show its.toArray ++ its2.toArray = (its ++ its2).toArray by simp]
  exact ⟨.ref _, _, I.lnew (t' := s.toks) (r.append r2) (by rw [List.length_append]; exact hz), rfl, q _ I.fresh⟩
theorem rule_at {i : Nat} (h : i < 3) : ∃ r : Rule, [V.str (Str.ofString "old"), V.str (Str.ofString "cold"), V.str (Str.ofString "marked")][i]? = some (.str r.txt) := by
  rcases i with _ | _ | _ | i
  · exact ⟨.old, rfl⟩
  · exact ⟨.cold, rfl⟩
  · exact ⟨.marked, rfl⟩
  · omega
theorem BadR.kp {K : PySem.W.Frag} {tb : Addr} {H H' : Hp} {x : V} (h : BadR K H x) (k : Kp tb [] H H') : BadR K H' x := by
  rcases h with ⟨T, t, n⟩ | h
  · exact .inl ⟨T, t.kp k, n⟩
  · exact .inr h
theorem okR_.kp {K : PySem.W.Frag} {tb : Addr} {H H' : Hp} {x : V} {b : Bool} (h : okR_ K H x b) (k : Kp tb [] H H') : okR_ K H' x b := by
  cases b with
  | true => exact h
  | false => exact BadR.kp h k
theorem okP_.kp {K : PySem.W.Frag} {tb : Addr} {H H' : Hp} {x : V} {b : Bool} (h : okP_ K H x b) (k : Kp tb [] H H') : okP_ K H' x b := by
  cases b with
  | true => exact h
  | false => exact BadP.kp h k
/-- good or bad wishes, comparable -/
def okC_ (K : PySem.W.Frag) (H : Hp) (ws : List Str) (x : V) : Bool → Prop
  | true => ∃ a : Addr, x = .ref a ∧ H a = some (.lst (ws.map V.str))
  | false => BadWc K H x
theorem okC_.kp {K : PySem.W.Frag} {tb : Addr} {H H' : Hp} {ws : List Str} {x : V} {b : Bool} (h : okC_ K H ws x b) (k : Kp tb [] H H') : okC_ K H' ws x b := by
  cases b with
  | true =>
    obtain ⟨a, e, h⟩ := h
    exact ⟨a, e, k.get h⟩
  | false => exact BadWc.kp h k
/-- a copy -/
def Cpy (H : Hp) (x y : V) : Prop := (∃ (a b : Addr) (ys : List V), x = .ref a ∧ y = .ref b ∧ H a = some (.lst ys) ∧ H b = some (.lst ys) ∧ ys.all okE = true) ∨ (∃ (a : Addr) (ws : List Str), x = .ref a ∧ y = .ref a ∧ H a = some (.tup (ws.map V.str)) ∧ OkS ws) ∨ (∃ a : Addr, x = .ref a ∧ y = .ref a ∧ H a = some (.dK [])) ∨ (x = .non ∧ y = .non) ∨ (x = .int 5 ∧ y = .int 5) ∨ (x = .str "ab" ∧ y = .str "ab")
theorem Cpy.kp {tb : Addr} {H H' : Hp} {x y : V} (h : Cpy H x y) (k : Kp tb [] H H') : Cpy H' x y := by
  rcases h with ⟨a, b, ys, e1, e2, h1, h2, h3⟩ | ⟨a, ws, e1, e2, h1, h2⟩ | ⟨a, e1, e2, h1⟩ | h
  · exact .inl ⟨a, b, ys, e1, e2, k.get h1, k.get h2, h3⟩
  · exact .inr (.inl ⟨a, ws, e1, e2, k.get h1, h2⟩)
  · exact .inr (.inr (.inl ⟨a, e1, e2, k.get h1⟩))
  · exact .inr (.inr (.inr h))
theorem due_ok (n : Int) (r p w : Bool) : OkS (dueL n r p w) := by
  unfold dueL
  split
  · exact fun z hz => by rw [List.mem_singleton.mp hz]; decide +kernel
  · split
    · exact fun z hz => by rw [List.mem_singleton.mp hz]; decide +kernel
    · split
      · exact fun z hz => by rw [List.mem_singleton.mp hz]; decide +kernel
      · exact fun z hz => nomatch hz
section
variable {P : Program} {w : World} {K : PySem.W.Frag} {mg : Str → Option Value} {base : Heap} {tb : Addr} {C : Rule → Addr} {CG : Addr}
def spLaw (K : PySem.W.Frag) : Sp := fun vs H Q _ => ∃ (a : Addr) (ns : List Int), vs = [.ref a] ∧ SqL K H a (ns.map V.int) ∧ ns.length ≤ 63 ∧ GxR.TabG H (tbOf K) ∧ ∀ H', Q (.bl true) H'
abbrev n_k04 : List Str := ["_law_script", "_law_names_here", "_law_wishes", "_law_shelf", "_law_name", "_law_kept", "_law_k", "_law_cell", "_law_number", "_law_bad", "_law_rule", "_law_places_here", "_law_handed", "_law_copy", "_law_way", "_law_long"]
theorem sc_k04 : FnScope n_k04 ["_law_script"] (defScope s_law) := ⟨rfl, rfl, rfl, by decide +kernel, rfl, by decide +kernel, by decide +kernel⟩
theorem ok_k04 {f : Addr} {fd : FuncData} {k0 : Nat} (F : FnP K "law" "law" s_law f fd)
    (hlen : mg "len" = none) (hlist : mg "list" = none) (henum : mg "enumerate" = none) (hisi : mg "isinstance" = none)
    (GD : Glob P w K mg base CX0 (k0 + 7) "_law_drawn" ["_law_script", "_law_most"] (spDrawn K (tbOf K))) (GSh : Glob P w K mg base CX0 (k0 + 7) "shelf_of" ["rule", "places"] (spShelfOf C (tbOf K)))
    (MW : ∀ r, MethOk P w K mg base CX0 (k0 + 7) (C r) "wish" ["self", "name"] (spWishR C (tbOf K) r)) (GS : Glob P w K mg base CX0 (k0 + 7) "_law_state" ["_law_shelf"] (spState C (tbOf K))) (GX : Glob P w K mg base CX0 (k0 + 7) "_law_mixed" ["_law_cell", "_law_k"] spMixed)
    (GWW : Glob P w K mg base CX0 (k0 + 7) "_law_wish_word" ["_law_shelf", "_law_name"] (spWW C K)) (GN : Glob P w K mg base CX0 (k0 + 7) "_law_odd_name" ["_law_number"] (spOddN K)) (GP : Glob P w K mg base CX0 (k0 + 7) "_law_odd_places" ["_law_number"] (spOddP K))
    (GW : Glob P w K mg base CX0 (k0 + 7) "_law_odd_wishes" ["_law_number", "_law_wishes"] (spOddW K)) (GA : Glob P w K mg base CX0 (k0 + 7) "_law_asked" ["_law_way", "_law_rule", "_law_places_here", "_law_wishes"] (spAsked K)) (GU : Glob P w K mg base CX0 (k0 + 7) "_law_due" ["_law_way", "_law_is_rule", "_law_is_places", "_law_is_wishes"] (spDue4 (tbOf K))) :
    FnOk P w K mg base CX0 (k0 + 8) f fd ["_law_script"] (spLaw K) := by
  refine ok0 F sc_k04 (fun vs H Q E h => ?_) (fun cdv A outer s H vs Q E hr h => ?_)
  · obtain ⟨a, ns, rfl, _⟩ := h
    rfl
  · obtain ⟨sa, ns, rfl, hS, hlen63, tab, q⟩ := h
    have i3 : (ns.length % 3) < 3 := Nat.mod_lt _ (by decide)
    obtain ⟨r, hr3⟩ := rule_at i3
    have hu2 := Nat.lt_of_le_of_lt (Nat.le_add_right _ 64) hr.units
    refine ⟨_, (pss_cons (ps_asg (pe_callG GD hr (by rfl) pass0 (pa_cons (pe_slice sl_list (pv 0) po_none (po_some pe_int)) (pa_cons pe_int pa_nil))) (pg_tup rfl (pgs_cons (pg_name (i := 1) sc_k04.nd rfl (Or.inl rfl)) (pgs_cons (pg_name (i := 2) sc_k04.nd rfl (Or.inl rfl)) pgs_nil))))
      (pss_cons (ps_set (i := 3) sc_k04.nd rfl (Or.inl rfl) (pe_callG GSh hr (by rfl) pass0 (pa_cons (pe_ix ix_list (pe_lst (pa_cons pe_str (pa_cons pe_str (pa_cons pe_str pa_nil)))) (pe_op op_mod (pe_callB call_len_seq (by rfl) hlen PySem.boot_len (pa_cons (pv 0) pa_nil)) pe_int) (fun _ _ => rfl)) (pa_cons pe_int pa_nil))))
      (pss_cons (ps_for PassesOwn.never rfl (pi_list (pv 2)) (pg_name (i := 4) sc_k04.nd rfl (Or.inl rfl))
        (pss_one (ps_expr (pe_methG (pv 3) (MW r) hr pass0 (pa_cons (pv 4) pa_nil)))))
      (pss_cons (ps_set (i := 5) sc_k04.nd rfl (Or.inl rfl) (pe_callG GS hr (by rfl) pass0 (pa_cons (pv 3) pa_nil)))
      (pss_cons (ps_for PassesOwn.never rfl (pi_enum (by rfl) henum (pa_cons (pe_op op_catL (pv 0) (pe_lst (pa_cons pe_int pa_nil))) pa_nil)) (pg_tup rfl (pgs_cons (pg_name (i := 6) sc_k04.nd rfl (Or.inl rfl)) (pgs_cons (pg_name (i := 7) sc_k04.nd rfl (Or.inl rfl)) pgs_nil)))
        (pss_cons (ps_set (i := 8) sc_k04.nd rfl (Or.inl rfl) (pe_callG GX hr (by rfl) pass0 (pa_cons (pv 7) (pa_cons (pv 6) pa_nil))))
        (pss_cons (ps_if (pt_cmpR (op_neS hr.units) (pe_callG GWW hr (by rfl) pass0 (pa_cons (pv 3) (pa_cons (pe_callG GN hr (by rfl) pass0 (pa_cons (pv 8) pa_nil)) pa_nil))) (pe_lst (pa_cons pe_str pa_nil)) (nomark _))
          (pss_one (ps_ret pe_bl))
          pss_nil)
        (pss_cons (ps_set (i := 9) sc_k04.nd rfl (Or.inl rfl) (pe_op op_mod (pe_op op_fdiv (pv 8) pe_int) pe_int))
        (pss_cons (ps_set (i := 10) sc_k04.nd rfl (Or.inl rfl) (pe_ix ix_list (pe_lst (pa_cons pe_str (pa_cons pe_str (pa_cons pe_str pa_nil)))) (pe_op op_mod (pe_op op_fdiv (pv 8) pe_int) pe_int) (fun _ _ => rfl)))
        (C8.pss_cut (ps_if (pt_cmpR op_eq (pe_op op_mod (pv 9) pe_int) pe_int (nomark _))
          (pss_one (ps_set (i := 10) sc_k04.nd rfl (Or.inl rfl) (pe_ix ix_list (pe_lst (pa_cons pe_str (pa_cons pe_str (pa_cons pe_non (pa_cons pe_int (pa_cons (pe_lst (pa_cons pe_str pa_nil)) (pa_cons pe_str (pa_cons pe_bl pa_nil)))))))) (pe_op op_mod (pe_op op_fdiv (pv 8) pe_int) pe_int) (fun _ _ => rfl))))
          pss_nil)
        (C8.pss_cut (ps_set (i := 11) sc_k04.nd rfl (Or.inl rfl) (pe_ifExp (pt_cmpR op_eq (pe_op op_mod (pe_op op_fdiv (pv 9) pe_int) pe_int) pe_int (nomark _)) pe_int (pe_callG GP hr (by rfl) pass0 (pa_cons (pe_op op_fdiv (pv 8) pe_int) pa_nil))))
        (C8.pss_cut (ps_set (i := 12) sc_k04.nd rfl (Or.inl rfl) (pe_ifExp (pt_cmpR op_eq (pe_op op_fdiv (pv 9) pe_int) pe_int (nomark _)) (pe_callTy call_list_of (by rfl) hlist (by decide +kernel) (pa_cons (pv 2) pa_nil)) (pe_callG GW hr (by rfl) pass0 (pa_cons (pe_op op_fdiv (pv 8) pe_int) (pa_cons (pv 2) pa_nil)))))
        (C8.pss_cut (ps_set (i := 13) sc_k04.nd rfl (Or.inl rfl) (pe_ifExp (pt_val (pe_callB call_isi (by rfl) hisi (by decide +kernel) (pa_cons (pv 12) (pa_cons (pe_bltn (v := .ty "list") (by rfl) hlist (by decide +kernel) rfl) pa_nil)))) (pe_callTy call_list_of (by rfl) hlist (by decide +kernel) (pa_cons (pv 12) pa_nil)) (pv 12)))
        (pss_cons (ps_set (i := 14) sc_k04.nd rfl (Or.inl rfl) (pe_op op_mod (pe_op op_fdiv (pv 8) pe_int) pe_int))
        (pss_cons (ps_if (pt_cmpR (op_neS hr.units) (pe_callG GA hr (by rfl) pass0 (pa_cons (pv 14) (pa_cons (pv 10) (pa_cons (pv 11) (pa_cons (pv 12) pa_nil))))) (pe_callG GU hr (by rfl) pass0 (pa_cons (pv 14) (pa_cons (pe_cmpR op_eq (pe_op op_mod (pv 9) pe_int) pe_int (nomark _)) (pa_cons (pe_cmpR op_eq (pe_op op_mod (pe_op op_fdiv (pv 9) pe_int) pe_int) pe_int (nomark _)) (pa_cons (pe_cmpR op_eq (pe_op op_fdiv (pv 9) pe_int) pe_int (nomark _)) pa_nil))))) (nomark _))
          (pss_one (ps_ret pe_bl))
          pss_nil)
        (pss_one (ps_if (pt_cmpR (op_or op_ne (op_or (op_neL hu2) (op_or (op_neD hr.units) (op_ne_dictA hu2)))) (pv 12) (pv 13) (nomark _))
          (pss_one (ps_ret pe_bl))
          pss_nil)))))))))))))
      (pss_cons (ps_set (i := 15) sc_k04.nd rfl (Or.inl rfl) (pe_slice sl_list (pe_op op_rep (pe_op op_cat (pv 2) (pe_lst (pa_cons pe_str pa_nil))) pe_int) po_none (po_some pe_int)))
      (pss_one (ps_ret (pe_and (pe_cmpR (op_eqS hr.units) (pe_callG GA hr (by rfl) pass0 (pa_cons pe_int (pa_cons pe_str (pa_cons pe_int (pa_cons (pv 15) pa_nil))))) (pe_lst pa_nil) (nomark _)) (pe_one (pe_cmpR (op_eqD hr.units) (pe_callG GS hr (by rfl) pass0 (pa_cons (pv 3) pa_nil)) (pv 5) (nomark _)))))))))))), ?_⟩
    have ecut : cutV (ns.map V.int) none (some 40) = (ns.take 40).map V.int := by
      unfold cutV
      rw [List.length_map, sIx_pos (by decide)]
      show List.take (min 40 ns.length - 0) (List.drop 0 (ns.map V.int)) = _
      rw [List.drop_zero, Nat.sub_zero, ← List.map_take]
      refine congrArg _ ?_
      rcases Nat.le_total 40 ns.length with c | c
      · rw [Nat.min_eq_left c]
      · rw [Nat.min_eq_right c, List.take_of_length_le (Nat.le_refl _), List.take_of_length_le c]
    refine ⟨_, rfl, _, rfl, sa, _, rfl, hS, fun c hc => ?_⟩
    rw [ecut]
    have kc : Kp (tbOf K) [] H (upd H c (.lst ((ns.take 40).map V.int))) := Kp.new hc
    have gc : (upd H c (.lst ((ns.take 40).map V.int))) c = some (.lst ((ns.take 40).map V.int)) := upd_same
    generalize upd H c (.lst ((ns.take 40).map V.int)) = H0 at kc gc ⊢
    refine ⟨c, ns.take 40, 12, rfl, SqL.of gc, by rw [List.length_take]; omega, by decide, by decide, fun zs ws t pz pw H1 hz0 hz26 _ hzn hwl hws k1 fz fw ft nzw et ez ew => ?_⟩
    refine ⟨t, _, rfl, SqT.of et, rfl, _, _, rfl, _, _, rfl, rfl, ?_⟩
    have k01 := kc.trans k1
    have tab1 := k01.tab tab
    have hS1 := k01.seq hS
    have hwn : ∀ z ∈ ws, IsName z := fun z hz => hzn z (hws z hz)
    have hwl40 : ws.length ≤ 40 := by rw [hwl, List.length_take]; omega
    have okw : OkS ws := okS_names hwn
    -- the shelf
    refine ⟨by show 3 ≤ sizeLine; decide, fun l3 hl3 => ?_⟩
    have k2 : Kp (tbOf K) [] H1 (upd H1 l3 (.lst [.str (Str.ofString "old"), .str (Str.ofString "cold"), .str (Str.ofString "marked")])) := Kp.new hl3
    refine ⟨_, rfl, sa, _, rfl, .inl (k2.seq hS1), _, _, rfl, rfl, by show (0 : Int) < 3; decide, l3, _, _, .str r.txt, rfl, rfl, SqL.of upd_same, at_of (j := ns.length % 3) (by rw [List.length_map]; omega) hr3, r, 2, rfl, by decide, by decide, fun p S0 H2 sh0 hS0 k3 => ?_⟩
    have k12 := k2.trans k3
    have okz : ∀ i, OkR 2 (endR r 2 st0 (ws.take i)) := fun i => endR_ok (by decide) (okR0 (by decide)) fun z hz => hwn z (List.mem_of_mem_take hz)
    refine ⟨_, rfl, pw, rfl, ⟨_, SqL.of (k12.get ew)⟩, ?_⟩
    refine for_it walk_list (fun i σ H' => ∃ (S : List Addr) (m k : Int) (v4 : Option V), σ = [some (.ref sa), some (.ref pz), some (.ref pw), some (.ref p), v4, none, none, none, none, none, none, none, none, none, none, none] ∧ ShR C r H' p 2 (endR r 2 st0 (ws.take i)) m k S ∧ (∀ x ∈ S, H1 x = none) ∧ Kp (tbOf K) [] H1 H')
      ⟨S0, 0, 0, none, rfl, sh0, fun x hx => k2.free _ (hS0 x hx), k12⟩ (fun i σ H' _ ⟨_, _, _, _, _, _, _, kp⟩ => SqL.of (kp.get ew)) ?_ ?_
    · rintro i x σ H3 H4 hi ⟨S, m, k, v4, rfl, sh, hS3, kp⟩ ⟨rfl, hx⟩
      obtain ⟨z, hz, rfl⟩ := get_mapS hx
      have hzn' := hwn z (List.mem_of_getElem? hz)
      have etake : ws.take (i + 1) = ws.take i ++ [z] := by rw [List.take_add_one, hz] <;> rfl
      obtain ⟨pS, aS, l, ext, shA, x1, _⟩ := sh.sh
      obtain ⟨dx, hp⟩ := shA.ob
      refine ⟨_, rfl, p, dx, _, rfl, hp, by rw [oF_wish]; exact x1, _, rfl, ?_⟩
      refine ⟨p, 2, m, k, _, z, S, rfl, sh, okz i, by decide, by decide, hzn', kp.tab tab1, fun t S' H7 sh7 hS' tS' k7 ft et => ?_⟩
      rw [etake, endR_snoc]
      exact ⟨S', _, _, _, rfl, sh7, fun x hx => (hS' x hx).elim (hS3 x) (fun e => kp.free _ e), kp.transN k7 hS3⟩
    rintro σ H3 ⟨S, m, k, v4, rfl, sh, hS3, kp3⟩
    rw [List.length_map, List.take_of_length_le (Nat.le_refl _)] at sh
    have okst : OkR 2 (endR r 2 st0 ws) := by
      have := okz ws.length
      rw [List.take_of_length_le (Nat.le_refl _)] at this
      exact this
    generalize endR r 2 st0 ws = st at sh okst
    have hrow : st.row.length ≤ 2 := by have := okst.le; omega
    have hmk : st.marks.length ≤ 2 := Nat.le_trans (subset_len okst.md okst.sub) hrow
    have okrow : OkS st.row := okS_names okst.nm
    have okmk : OkS st.marks := fun z hz => okrow z (okst.sub z hz)
    refine ⟨_, rfl, r, p, 2, m, k, st, S, rfl, sh, by omega, by omega, fun ko H4 fko hko k4 => ?_⟩
    have k14 := kp3.trans k4
    have sh4 := sh.kp k4
    -- script + [0]
    refine ⟨_, rfl, by show 1 ≤ sizeLine; decide, fun l0 hl0 => ?_⟩
    have k5 : Kp (tbOf K) [] H4 (upd H4 l0 (.lst [.int 0])) := Kp.new hl0
    have g5 : (upd H4 l0 (.lst [.int 0])) l0 = some (.lst [.int 0]) := upd_same
    have k15 := k14.trans k5
    generalize upd H4 l0 (.lst [.int 0]) = H5 at k5 g5 k15 ⊢
    refine ⟨sa, l0, _, _, rfl, rfl, k15.seq hS1, SqL.of g5, Nat.le_of_lt (small_of (m := 64) (by rw [List.length_map]; show _ + 1 ≤ 64; omega)), fun sc hsc => ?_⟩
    have k6 : Kp (tbOf K) [] H5 (upd H5 sc (.lst (ns.map V.int ++ [.int 0]))) := Kp.new hsc
    have g6 : (upd H5 sc (.lst (ns.map V.int ++ [.int 0]))) sc = some (.lst ((ns ++ [0]).map V.int)) := by rw [upd_same, List.map_append] <;> rfl
    have k16 := k15.trans k6
    have hko6 := (hko.kp k5).kp k6
    have sh6 := (sh4.kp k5).kp k6
    generalize upd H5 sc (.lst (ns.map V.int ++ [.int 0])) = H6 at k6 g6 k16 hko6 sh6 ⊢
    have hsl : (ns ++ [0]).length ≤ 64 := by rw [List.length_append]; show _ + 1 ≤ 64; omega
    refine ⟨sc, _, rfl, SqL.of g6, ?_⟩
    refine for_it walk_enum (fun i σ H' => ∃ v6 v7 v8 v9 v10 v11 v12 v13 v14 : Option V, σ = [some (.ref sa), some (.ref pz), some (.ref pw), some (.ref p), v4, some (.ref ko), v6, v7, v8, v9, v10, v11, v12, v13, v14, none] ∧ Kp (tbOf K) [] H6 H')
      ⟨none, none, none, none, none, none, none, none, none, rfl, Kp.refl _⟩ (fun i σ H' _ ⟨_, _, _, _, _, _, _, _, _, _, kp⟩ => SqL.of (kp.get g6)) ?_ ?_
    · rintro i x σ H7 H8 hi ⟨v6, v7, v8, v9, v10, v11, v12, v13, v14, rfl, kp⟩ ⟨Tp, x1, x2, rfl, nT, rfl, e1, e2⟩
      cases e1
      rw [List.length_map] at hi
      obtain ⟨c, hc, rfl⟩ := get_mapF (f := V.int) e2
      have kT : Kp (tbOf K) [] H7 (upd H7 Tp (.tup [.int (i : Nat), .int c])) := Kp.new nT
      have gT : (upd H7 Tp (.tup [.int (i : Nat), .int c])) Tp = some (.tup [.int (i : Nat), .int c]) := upd_same
      have kp8 := kp.trans kT
      generalize upd H7 Tp (.tup [.int (i : Nat), .int c]) = H8 at kT gT kp8 ⊢
      refine ⟨Tp, _, rfl, SqT.of gT, rfl, _, _, rfl, _, _, rfl, rfl, ?_⟩
      refine ⟨_, rfl, _, rfl, c, ((i : Nat) : Int), rfl, by omega, by omega, fun N N0 N8 => ?_⟩
      -- a bad name
      obtain ⟨pS, aS, l, ext, shA, x1, _⟩ := sh6.sh
      obtain ⟨dx, hp6⟩ := shA.ob
      refine ⟨_, rfl, _, rfl, N, rfl, N0, fun y H9 hy k9 => ?_⟩
      have kp9 := kp8.trans k9
      refine ⟨p, dx, r, _, y, rfl, kp9.get hp6, by rw [oF_wish]; exact x1, hy, kp9.tab (k16.tab tab1), fun o H10 fo ho k10 => ?_⟩
      have kp10 := kp9.trans k10
      refine ⟨by show 1 ≤ sizeLine; decide, fun ln hln => ?_⟩
      have k11 : Kp (tbOf K) [] H10 (upd H10 ln (.lst [.str "name"])) := Kp.new hln
      have okn : OkS [("name" : Str)] := fun z hz => by rw [List.mem_singleton.mp hz]; decide +kernel
      refine ⟨o, ln, ["name"], ["name"], rfl, rfl, SqL.of (k11.get ho), SqL.of upd_same, okn, okn, _, rfl, ?_⟩
      rw [decide_eq_true rfl]
      refine iteF ?_
      have kp11 := kp10.trans k11
      generalize upd H10 ln (.lst [.str "name"]) = H11 at k11 kp11 ⊢
      refine ⟨_, rfl, _, _, rfl, rfl, ⟨by decide, by decide⟩, _, _, rfl, rfl, by show (0 : Int) < 8; decide, ?_⟩
      dsimp only
      generalize hB : N / 13 % 8 = B
      have B0 : 0 ≤ B := by omega
      have B8 : B < 8 := by omega
      obtain ⟨r2, hr2⟩ := rule_at (i := (N / 90 % 3).toNat) (by omega)
      refine ⟨by show 3 ≤ sizeLine; decide, fun lr hlr => ?_⟩
      refine ⟨_, rfl, _, _, rfl, rfl, ⟨by decide, by decide⟩, _, _, rfl, rfl, by show (0 : Int) < 3; decide, lr, _, _, .str r2.txt, rfl, rfl, SqL.of upd_same, at_of (j := (N / 90 % 3).toNat) (by omega) hr2, ?_⟩
      have kp12 : Kp (tbOf K) [] H6 (upd H11 lr (.lst [.str (Str.ofString "old"), .str (Str.ofString "cold"), .str (Str.ofString "marked")])) := kp11.step hlr
      have ni : ∀ {a b : Int}, a ≠ b → ¬ (V.int a = V.int b) := fun h e => h (V.int.inj e)
      have yi : ∀ {a b : Int}, a = b → V.int a = V.int b := fun h => congrArg V.int h
      refine ⟨fun σ H' => ∃ x : V, σ = [some (.ref sa), some (.ref pz), some (.ref pw), some (.ref p), v4, some (.ref ko), some (.int (i : Nat)), some (.int c), some (.int N), some (.int B), some x, v11, v12, v13, v14, none] ∧ okR_ K H' x (decide (V.int (B % 2) = V.int 0)) ∧ Kp (tbOf K) [] H6 H', ?_, ?_⟩
      · refine ⟨_, rfl, _, _, rfl, rfl, by show (0 : Int) < 2; decide, rfl, _, rfl, ?_⟩
        by_cases e : B % 2 = 1
        · rw [decide_eq_true (yi e)]
          refine iteT ⟨by show 1 ≤ sizeLine; decide, fun lc hlc => ?_⟩
          have k13 := Kp.new (tb := tbOf K) (S := []) (o := .lst [.str "cold"]) hlc
          have g13 : (upd (upd H11 lr (.lst [.str (Str.ofString "old"), .str (Str.ofString "cold"), .str (Str.ofString "marked")])) lc (.lst [.str "cold"])) lc = some (.lst [.str "cold"]) := upd_same
          have kp13 := kp12.trans k13
          generalize upd (upd H11 lr (.lst [.str (Str.ofString "old"), .str (Str.ofString "cold"), .str (Str.ofString "marked")])) lc (.lst [.str "cold"]) = H13 at g13 kp13 ⊢
          refine ⟨by show 7 ≤ sizeLine; decide, fun lo hlo => ?_⟩
          have hst : ∀ (x : V) (T : String), TyB K H13 x T → tyOk T = true → (∀ z, x = .str z → z.length ≤ 100) → T ≠ "str" → BadR K H13 x := fun x T h1 h2 h3 h4 => .inl ⟨T, ⟨h1, h2, h3⟩, h4⟩
          have hall : ∀ x ∈ [V.str "", .str "Old", .non, .int 5, .ref lc, .str "hot", .bl true], BadR K H13 x :=
            all_cons (.inr (.inl rfl)) <| all_cons (.inr (.inr (.inl rfl))) <| all_cons (hst _ _ .non (by decide) (fun _ e => nomatch e) (by decide)) <| all_cons (hst _ _ (.int 5) (by decide) (fun _ e => nomatch e) (by decide)) <|
            all_cons (hst _ _ (.lst (SqL.of g13)) (by decide) (fun _ e => nomatch e) (by decide)) <| all_cons (.inr (.inr (.inr rfl))) <| all_cons (hst _ _ (.bl true) (by decide) (fun _ e => nomatch e) (by decide)) <| all_nil
          generalize hxs : [V.str "", .str "Old", .non, .int 5, .ref lc, .str "hot", .bl true] = xs at hall
          have hxl : xs.length = 7 := by rw [← hxs] <;> rfl
          have hji : (N / 200 % 7).toNat < xs.length := by omega
          refine ⟨_, rfl, _, _, rfl, rfl, ⟨by decide, by decide⟩, _, _, rfl, rfl, by show (0 : Int) < 7; decide, lo, xs, _, xs[(N / 200 % 7).toNat], rfl, rfl, SqL.of (by rw [upd_same, ← hxs]), at_of (j := (N / 200 % 7).toNat) (by omega) (List.getElem?_eq_getElem hji), _, rfl, ?_, kp13.step hlo⟩
          rw [decide_eq_false (ni (by omega))]
          exact BadR.kp (hall _ (List.getElem_mem hji)) (Kp.new (tb := tbOf K) hlo)
        · rw [decide_eq_false (ni e)]
          refine iteF ⟨_, rfl, ?_, kp12⟩
          rw [decide_eq_true (yi (by omega))]
          exact ⟨r2, rfl⟩
      rintro σ H12 ⟨x, rfl, hx, kp13⟩
      refine ⟨fun σ H' => ∃ x y : V, σ = [some (.ref sa), some (.ref pz), some (.ref pw), some (.ref p), v4, some (.ref ko), some (.int (i : Nat)), some (.int c), some (.int N), some (.int B), some x, some y, v12, v13, v14, none] ∧ okR_ K H' x (decide (V.int (B % 2) = V.int 0)) ∧ okP_ K H' y (decide (V.int (B / 2 % 2) = V.int 0)) ∧ Kp (tbOf K) [] H6 H', ?_, ?_⟩
      · refine ⟨_, rfl, _, _, rfl, rfl, ⟨by decide, by decide⟩, _, _, rfl, rfl, by show (0 : Int) < 2; decide, rfl, _, rfl, ?_⟩
        by_cases e : B / 2 % 2 = 0
        · rw [decide_eq_true (yi e)]
          refine iteT ⟨x, _, rfl, hx, ?_, kp13⟩
          exact ⟨3, rfl, by decide, by decide⟩
        · rw [decide_eq_false (ni e)]
          refine iteF ⟨_, rfl, _, _, rfl, rfl, ⟨by decide, by decide⟩, N / 300, rfl, by omega, fun y H' hy k => ⟨x, y, rfl, hx.kp k, ?_, kp13.trans k⟩⟩
          exact hy
      rintro σ H13 ⟨x, y, rfl, hx, hy, kp14⟩
      refine ⟨fun σ H' => ∃ x y z : V, σ = [some (.ref sa), some (.ref pz), some (.ref pw), some (.ref p), v4, some (.ref ko), some (.int (i : Nat)), some (.int c), some (.int N), some (.int B), some x, some y, some z, v13, v14, none] ∧ okR_ K H' x (decide (V.int (B % 2) = V.int 0)) ∧ okP_ K H' y (decide (V.int (B / 2 % 2) = V.int 0)) ∧ okC_ K H' ws z (decide (V.int (B / 4) = V.int 0)) ∧ Kp (tbOf K) [] H6 H', ?_, ?_⟩
      · refine ⟨_, rfl, _, _, rfl, rfl, ⟨by decide, by decide⟩, rfl, _, rfl, ?_⟩
        have ew13 := kp14.get (k16.get ew)
        by_cases e : B / 4 = 0
        · rw [decide_eq_true (yi e)]
          refine iteT ⟨_, rfl, pw, _, rfl, .inl (SqL.of ew13), fun a ha => ⟨x, y, .ref a, rfl, hx.kp (Kp.new (tb := tbOf K) ha), hy.kp (Kp.new (tb := tbOf K) ha), ?_, kp14.step ha⟩⟩
          exact ⟨a, rfl, upd_same⟩
        · rw [decide_eq_false (ni e)]
          refine iteF ⟨_, rfl, _, _, rfl, rfl, ⟨by decide, by decide⟩, _, rfl, N / 700, pw, ws, rfl, by omega, ew13, hwl40, hwn, fun z H' hz k => ⟨x, y, z, rfl, hx.kp k, hy.kp k, ?_, kp14.trans k⟩⟩
          exact hz
      rintro σ H14 ⟨x, y, z, rfl, hx, hy, hz, kp15⟩
      refine ⟨fun σ H' => ∃ x y z w' : V, σ = [some (.ref sa), some (.ref pz), some (.ref pw), some (.ref p), v4, some (.ref ko), some (.int (i : Nat)), some (.int c), some (.int N), some (.int B), some x, some y, some z, some w', v14, none] ∧ okR_ K H' x (decide (V.int (B % 2) = V.int 0)) ∧ okP_ K H' y (decide (V.int (B / 2 % 2) = V.int 0)) ∧ okC_ K H' ws z (decide (V.int (B / 4) = V.int 0)) ∧ Cpy H' z w' ∧ Kp (tbOf K) [] H6 H', ?_, ?_⟩
      · have what : (∃ (a : Addr) (ys : List V), z = .ref a ∧ H14 a = some (.lst ys) ∧ ys.all okE = true) ∨ (∃ (a : Addr) (ws : List Str), z = .ref a ∧ H14 a = some (.tup (ws.map V.str)) ∧ OkS ws) ∨ (∃ a : Addr, z = .ref a ∧ H14 a = some (.dK [])) ∨ z = .non ∨ z = .int 5 ∨ z = .str "ab" := by
          cases hb : decide (V.int (B / 4) = V.int 0) with
          | true =>
            rw [hb] at hz
            obtain ⟨a, e, h⟩ := hz
            exact .inl ⟨a, _, e, h, by rw [List.all_map]; simp [Function.comp, okE]⟩
          | false =>
            rw [hb] at hz
            rcases hz.2 with ⟨a, ys, e, h1, h2, _⟩ | h
            · exact .inl ⟨a, ys, e, h1, h2⟩
            · exact .inr h
        rcases what with ⟨a, ys, rfl, ha, hok⟩ | ⟨a, ws', rfl, ha, hok⟩ | ⟨a, rfl, ha⟩ | rfl | rfl | rfl
        · refine ⟨_, rfl, _, _, _, _, true, rfl, .ty _, .base (.lst ha), kit_ty (by decide +kernel), _, rfl, iteT ⟨_, rfl, a, _, rfl, .inl (SqL.of ha), fun b hb => ?_⟩⟩
          have k := Kp.new (tb := tbOf K) (S := []) (o := .lst ys) hb
          exact ⟨x, y, .ref a, .ref b, rfl, hx.kp k, hy.kp k, hz.kp k, .inl ⟨a, b, ys, rfl, rfl, k.get ha, upd_same, hok⟩, kp15.trans k⟩
        · exact ⟨_, rfl, _, _, _, _, false, rfl, .ty _, .base (.tup ha), kit_ty (by decide +kernel), _, rfl, iteF ⟨_, rfl, x, y, .ref a, .ref a, rfl, hx, hy, hz, .inr (.inl ⟨a, ws', rfl, rfl, ha, hok⟩), kp15⟩⟩
        · exact ⟨_, rfl, _, _, _, _, false, rfl, .ty _, .base (.dK ha), kit_ty (by decide +kernel), _, rfl, iteF ⟨_, rfl, x, y, .ref a, .ref a, rfl, hx, hy, hz, .inr (.inr (.inl ⟨a, rfl, rfl, ha⟩)), kp15⟩⟩
        · exact ⟨_, rfl, _, _, _, _, false, rfl, .ty _, .base .non, kit_ty (by decide +kernel), _, rfl, iteF ⟨_, rfl, x, y, _, _, rfl, hx, hy, hz, .inr (.inr (.inr (.inl ⟨rfl, rfl⟩))), kp15⟩⟩
        · exact ⟨_, rfl, _, _, _, _, false, rfl, .ty _, .base (.int _), kit_ty (by decide +kernel), _, rfl, iteF ⟨_, rfl, x, y, _, _, rfl, hx, hy, hz, .inr (.inr (.inr (.inr (.inl ⟨rfl, rfl⟩)))), kp15⟩⟩
        · exact ⟨_, rfl, _, _, _, _, false, rfl, .ty _, .base (.str _), kit_ty (by decide +kernel), _, rfl, iteF ⟨_, rfl, x, y, _, _, rfl, hx, hy, hz, .inr (.inr (.inr (.inr (.inr ⟨rfl, rfl⟩)))), kp15⟩⟩
      rintro σ H15 ⟨x, y, z, w', rfl, hx, hy, hz, hc, kp16⟩
      refine ⟨_, rfl, _, _, rfl, rfl, ⟨by decide, by decide⟩, _, _, rfl, rfl, by show (0 : Int) < 11; decide, ?_⟩
      dsimp only
      generalize hW : N / 50 % 11 = W
      have W0 : 0 ≤ W := by omega
      have W10 : W ≤ 10 := by omega
      have hzW : okW_ K H15 z (decide (V.int (B / 4) = V.int 0)) := by
        cases hb : decide (V.int (B / 4) = V.int 0) with
        | true =>
          rw [hb] at hz
          obtain ⟨a, e, h⟩ := hz
          exact ⟨a, ws, e, h, by omega, hwn⟩
        | false =>
          rw [hb] at hz
          exact hz.1
      refine ⟨_, rfl, _, rfl, _, rfl, _, rfl, W, x, y, z, _, _, _, rfl, W0, W10, hx, hy, hzW, kp16.tab (k16.tab tab1), fun o1 H16 fo1 ho1 k17 => ?_⟩
      refine ⟨_, rfl, _, rfl, _, _, rfl, rfl, by show (0 : Int) < 2; decide, rfl, _, rfl, _, _, rfl, rfl, ⟨by decide, by decide⟩, _, _, rfl, rfl, by show (0 : Int) < 2; decide, rfl, _, rfl, _, _, rfl, rfl, ⟨by decide, by decide⟩, rfl, W, _, _, _, rfl, fun o2 H17 fo2 ho2 k18 => ?_⟩
      refine ⟨o1, o2, _, _, rfl, rfl, SqL.of (k18.get ho1), SqL.of ho2, due_ok _ _ _ _, due_ok _ _ _ _, _, rfl, ?_⟩
      rw [decide_eq_true rfl]
      have kk := k17.trans k18
      have kp18 := kp16.trans kk
      have hc18 := hc.kp kk
      refine iteF ⟨_, rfl, _, rfl, ?_⟩
      rcases hc18 with ⟨a, b, ys, rfl, rfl, h1, h2, h3⟩ | ⟨a, ws', rfl, rfl, h1, h2⟩ | ⟨a, rfl, rfl, h1⟩ | ⟨rfl, rfl⟩ | ⟨rfl, rfl⟩ | ⟨rfl, rfl⟩
      · exact .inr (.inl ⟨a, b, ys, rfl, rfl, SqL.of h1, SqL.of h2, h3, _, rfl, iteF ⟨_, _, _, _, _, _, _, _, _, rfl, kp18⟩⟩)
      · refine .inr (.inr (.inl ⟨.tuple (ws'.map PyData.str), .tuple (ws'.map PyData.str), .tup (SqT.of h1) (dpAllS _), .tup (SqT.of h1) (dpAllS _), shS h2, shS h2, _, rfl, ?_⟩))
        rw [show PyData.eqv (.tuple (ws'.map PyData.str)) (.tuple (ws'.map PyData.str)) = true from (dS_self h2).2.2]
        exact iteF ⟨_, _, _, _, _, _, _, _, _, rfl, kp18⟩
      · exact .inr (.inr (.inr ⟨a, a, [], [], rfl, rfl, h1, h1, rfl, (fun _ h => nomatch h), _, rfl, iteF ⟨_, _, _, _, _, _, _, _, _, rfl, kp18⟩⟩))
      · exact .inl ⟨rfl, _, rfl, iteFc (by decide) ⟨_, _, _, _, _, _, _, _, _, rfl, kp18⟩⟩
      · exact .inl ⟨rfl, _, rfl, iteFc (by decide) ⟨_, _, _, _, _, _, _, _, _, rfl, kp18⟩⟩
      · exact .inl ⟨rfl, _, rfl, iteFc (by decide) ⟨_, _, _, _, _, _, _, _, _, rfl, kp18⟩⟩
    · rintro σ H7 ⟨v6, v7, v8, v9, v10, v11, v12, v13, v14, rfl, kp⟩
      have kp7 := k16.trans kp
      refine ⟨_, rfl, by show 1 ≤ sizeLine; decide, fun l1 hl1 => ?_⟩
      have k7 : Kp (tbOf K) [] H7 (upd H7 l1 (.lst [.str "ab"])) := Kp.new hl1
      have g7 : (upd H7 l1 (.lst [.str "ab"])) l1 = some (.lst [.str "ab"]) := upd_same
      have kp8 := kp7.trans k7
      have kq8 := kp.trans k7
      generalize upd H7 l1 (.lst [.str "ab"]) = H8 at k7 g7 kp8 kq8 ⊢
      refine ⟨pw, l1, _, _, rfl, rfl, kp8.get ew, g7, Nat.le_of_lt (small_of (m := 41) (by rw [List.length_map]; show _ + 1 ≤ 41; omega)), fun l2 hl2 => ?_⟩
      have e2 : HO.lst (ws.map V.str ++ [V.str "ab"]) = .lst ((ws ++ [("ab" : Str)]).map V.str) := by rw [List.map_append] <;> rfl
      rw [e2]
      have k8 : Kp (tbOf K) [] H8 (upd H8 l2 (.lst ((ws ++ [("ab" : Str)]).map V.str))) := Kp.new hl2
      have g8 : (upd H8 l2 (.lst ((ws ++ [("ab" : Str)]).map V.str))) l2 = some (.lst ((ws ++ [("ab" : Str)]).map V.str)) := upd_same
      have kq9 := kq8.trans k8
      generalize upd H8 l2 (.lst ((ws ++ [("ab" : Str)]).map V.str)) = H9 at k8 g8 kq9 ⊢
      have hlen1 : ((ws ++ [("ab" : Str)]).map V.str).length = ws.length + 1 := by rw [List.length_map, List.length_append] <;> rfl
      refine ⟨l2, 300, _, rfl, rfl, g8, by decide, by decide, Nat.le_of_lt (small_of (m := 20000) (by rw [hlen1]; show _ * 300 ≤ _; omega)), fun l3 hl3 => ?_⟩
      have eM : (List.replicate (300 : Int).toNat ((ws ++ [("ab" : Str)]).map V.str)).flatten = ((List.replicate (300 : Int).toNat (ws ++ [("ab" : Str)])).flatten).map V.str := by rw [List.map_flatten, List.map_replicate]
      have hM2 : ∀ z ∈ (List.replicate (300 : Int).toNat (ws ++ [("ab" : Str)])).flatten, IsName z := fun z hz => by
        obtain ⟨l, hl, hz⟩ := List.mem_flatten.mp hz
        rw [(List.mem_replicate.mp hl).2] at hz
        rcases List.mem_append.mp hz with h | h
        · exact hwn z h
        · rw [List.mem_singleton.mp h]
          exact isName_ofB (by decide +kernel)
      rw [eM]
      generalize (List.replicate (300 : Int).toNat (ws ++ [("ab" : Str)])).flatten = M at hM2 ⊢
      have k9 : Kp (tbOf K) [] H9 (upd H9 l3 (.lst (M.map V.str))) := Kp.new hl3
      have g9 : (upd H9 l3 (.lst (M.map V.str))) l3 = some (.lst (M.map V.str)) := upd_same
      have kq10 := kq9.trans k9
      generalize upd H9 l3 (.lst (M.map V.str)) = H10 at k9 g9 kq10 ⊢
      obtain ⟨ys, c3, c4, c5⟩ := cutV_map (f := V.str) M none (some 300)
      have c6 : ys.length ≤ 300 := by
        rw [c5, cutV_len, sIx_pos (by decide)]
        show min (min 300 _ - 0) _ ≤ 300
        omega
      refine ⟨_, rfl, l3, _, rfl, SqL.of g9, fun l4 hl4 => ?_⟩
      rw [c3]
      have k10 : Kp (tbOf K) [] H10 (upd H10 l4 (.lst (ys.map V.str))) := Kp.new hl4
      have g10 : (upd H10 l4 (.lst (ys.map V.str))) l4 = some (.lst (ys.map V.str)) := upd_same
      have kq11 := kq10.trans k10
      generalize upd H10 l4 (.lst (ys.map V.str)) = H11 at k10 g10 kq11 ⊢
      refine ⟨_, rfl, 2, _, _, _, true, true, true, rfl, by decide, by decide, ⟨.old, rfl⟩, ⟨3, rfl, by decide, by decide⟩, ⟨l4, ys, rfl, g10, c6, fun z hz => hM2 z (c4 z hz)⟩, kq11.tab (k16.tab tab1), fun o H12 fo ho k12 => ?_⟩
      have kq12 := kq11.trans k12
      refine ⟨Nat.zero_le _, fun le hle => ?_⟩
      have k13 : Kp (tbOf K) [] H12 (upd H12 le (.lst [])) := Kp.new hle
      have okn : OkS [] := fun _ h => nomatch h
      have kq13 := kq12.trans k13
      refine ⟨o, le, [], [], rfl, rfl, SqL.of (k13.get ho), SqL.of upd_same, okn, okn, ?_⟩
      refine ⟨_, rfl, ?_⟩
      rw [decide_eq_true rfl]
      refine iteT ⟨_, rfl, r, p, 2, m, k, st, S, rfl, sh6.kp kq13, by omega, by omega, fun o2 H13 fo2 ho2 k14' => ⟨_, rfl, _, _, ho2.dp, (hko6.kp (kq13.trans k14')).dp, (st_self m k okrow okmk).1, (st_self m k okrow okmk).1, ?_⟩⟩
      rw [(st_self m k okrow okmk).2]
      exact q _
end
end Kf

namespace Kf
open PySem PySem.Spec PyProof.Rows L2
/-! ### a head's facts read in a part of the heap that holds the interpreter's own statics too -/
def asY (g : Addr → Option Obj) (n : Nat) : List Addr := He.asD g n ++ [cStatics]
section
variable (n : Nat) (fa : List He.Fa) (fn : List He.DefD) (ts : List He.Tab) (tf : List He.Defn) (ex : PySem.W.Frag → Bool)
def toldY (g : Addr → Option Obj) (K : PySem.W.Frag) : He.AlX := (He.obsT fa fn ts K, ex K && He.tabsB g tf K)
def obsY (g : Addr → Option Obj) : He.AlX := toldY fa fn ts tf ex g (He.frT g (asY g n))
end
section
variable {n : Nat} {fa : List He.Fa} {fn : List He.DefD} {ts : List He.Tab} {tf : List He.Defn} {ex : PySem.W.Frag → Bool}
theorem saysY_of {as : List Addr} {w : World} {h : Heap} (e : toldY fa fn ts tf ex h.get? (He.frT h.get? as) = He.valX fn ts w) : He.SaysX fa fn ts tf ex w h (He.frT h.get? as) := by
  have e1 := congrArg (fun z : He.AlX => z.1) e
  obtain ⟨h1, h2⟩ := He.ba (show (ex (He.frT h.get? as) && He.tabsB h.get? tf (He.frT h.get? as)) = true from congrArg (fun z : He.AlX => z.2) e)
  have key : ∀ p ∈ tf, PySem.W.codeHdIn (He.frT h.get? as) (He.cT (He.frT h.get? as) p).1 (He.cT (He.frT h.get? as) p).2 = true ∧ ∃ o, h.get? (He.cT (He.frT h.get? as) p).2 = some o ∧ He.emptyTab o = true := by
    intro p hp
    obtain ⟨h3, h4⟩ := He.ba (List.all_eq_true.mp h2 p hp)
    refine ⟨h3, ?_⟩
    revert h4
    cases h.get? (He.cT (He.frT h.get? as) p).2 with
    | none => exact fun h4 => nomatch h4
    | some o => exact fun h4 => ⟨o, rfl, h4⟩
  refine ⟨e1, h1, fun p hp => (key p hp).1, fun p hp => ?_, fun p hp => ?_⟩
  · obtain ⟨_, o, q, z⟩ := key p hp
    exact He.frT_none q z
  · obtain ⟨_, o, q, z⟩ := key p hp
    rw [q, He.emptyTab_eq z]
end
def hookY (n : Nat) (fa : List He.Fa) (fn : List He.DefD) (ts : List He.Tab) (tf : List He.Defn) (ex : PySem.W.Frag → Bool) : PySem.W.Hook where
  α := He.AlX
  obs := fun s => obsY n fa fn ts tf ex s.heap.get?
  val := fun w => He.valX fn ts w
  says := fun w h => ∃ K : PySem.W.Frag, K.In h ∧ He.SaysX fa fn ts tf ex w h K
  of := fun _ _ e => ⟨_, He.frT_in, saysY_of e⟩
  keeps := fun _ _ _ ⟨K, hK, c⟩ k => ⟨K, PySem.W.Frag.In.keeps hK k, ⟨c.t, c.more, c.hd, c.out, fun p hp => k _ _ (c.empty p hp)⟩⟩
theorem obsY_eq {n : Nat} {fa : List He.Fa} {fn : List He.DefD} {ts : List He.Tab} {tf : List He.Defn} {ex : PySem.W.Frag → Bool} {g : Addr → Option Obj} {s : Shared} (h : ∀ a, g a = s.heap.get? a) : obsY n fa fn ts tf ex g = (hookY n fa fn ts tf ex).obs s := by
  rw [show g = s.heap.get? from funext h] <;> rfl
end Kf

namespace Kf
open PySem PySem.Spec PyProof.Rows L2
def dD (a : He.Defn) (x q : Str) (st : Stmt) : He.DefD := ⟨a, x, q, defArgs st, defBody st, defScope st, [], []⟩
def fnL : List He.DefD := [dD ("is_name", none) "is_name" "is_name" s_is_name, dD ("check_name", none) "check_name" "check_name" s_check_name, dD ("check_wishes", none) "check_wishes" "check_wishes" s_check_wishes, dD ("_law_mixed", none) "_law_mixed" "_law_mixed" s__law_mixed, dD ("_law_names", none) "_law_names" "_law_names" s__law_names, dD ("_law_drawn", none) "_law_drawn" "_law_drawn" s__law_drawn, dD ("check_places", none) "check_places" "check_places" s_check_places, dD ("check_rule", none) "check_rule" "check_rule" s_check_rule, dD ("shelf_of", none) "shelf_of" "shelf_of" s_shelf_of, dD ("going", none) "going" "going" s_going, dD ("best", none) "best" "best" s_best, dD ("_wished_again", none) "_wished_again" "_wished_again" s__wished_again, dD ("_latest_again", none) "_latest_again" "_latest_again" s__latest_again, dD ("stretches", none) "stretches" "stretches" s_stretches, dD ("bars", none) "bars" "bars" s_bars, dD ("_bars_ahead", none) "_bars_ahead" "_bars_ahead" s__bars_ahead, dD ("_least_allowed", none) "_least_allowed" "_least_allowed" s__least_allowed, dD ("blocks", none) "blocks" "blocks" s_blocks, dD ("_firsts", none) "_firsts" "_firsts" s__firsts, dD ("depths", none) "depths" "depths" s_depths, dD ("missed_by_places", none) "missed_by_places" "missed_by_places" s_missed_by_places, dD ("_met", none) "_met" "_met" s__met, dD ("_law_kinds", none) "_law_kinds" "_law_kinds" s__law_kinds, dD ("_law_odd_name", none) "_law_odd_name" "_law_odd_name" s__law_odd_name, dD ("_law_odd_places", none) "_law_odd_places" "_law_odd_places" s__law_odd_places, dD ("_law_odd_wishes", none) "_law_odd_wishes" "_law_odd_wishes" s__law_odd_wishes, dD ("_law_asked", none) "_law_asked" "_law_asked" s__law_asked, dD ("_law_wish_word", none) "_law_wish_word" "_law_wish_word" s__law_wish_word, dD ("_law_state", none) "_law_state" "_law_state" s__law_state, dD ("_law_due", none) "_law_due" "_law_due" s__law_due, dD ("law", none) "law" "law" s_law, dD ("Old", some "__init__") "__init__" "Shelf.__init__" s_Shelf___init__, dD ("Old", some "wish") "wish" "Shelf.wish" s_Shelf_wish, dD ("Old", some "_free_a_place") "_free_a_place" "Shelf._free_a_place" s_Shelf__free_a_place, dD ("Old", some "_pick_going") "_pick_going" "Old._pick_going" s_Old__pick_going, dD ("Old", some "_note_wish") "_note_wish" "Shelf._note_wish" s_Shelf__note_wish, dD ("Cold", some "__init__") "__init__" "Shelf.__init__" s_Shelf___init__, dD ("Cold", some "wish") "wish" "Shelf.wish" s_Shelf_wish, dD ("Cold", some "_free_a_place") "_free_a_place" "Shelf._free_a_place" s_Shelf__free_a_place, dD ("Cold", some "_pick_going") "_pick_going" "Cold._pick_going" s_Cold__pick_going, dD ("Cold", some "_note_wish") "_note_wish" "Cold._note_wish" s_Cold__note_wish, dD ("Marked", some "__init__") "__init__" "Marked.__init__" s_Marked___init__, dD ("Marked", some "wish") "wish" "Shelf.wish" s_Shelf_wish, dD ("Marked", some "_free_a_place") "_free_a_place" "Shelf._free_a_place" s_Shelf__free_a_place, dD ("Marked", some "_pick_going") "_pick_going" "Marked._pick_going" s_Marked__pick_going, dD ("Marked", some "_note_wish") "_note_wish" "Marked._note_wish" s_Marked__note_wish, dD ("Shelf", some "__init__") "__init__" "Shelf.__init__" s_Shelf___init__, dD ("Going", some "__init__") "__init__" "Going.__init__" s_Going___init__, dD ("Old", some "things") "things" "Shelf.things" s_Shelf_things, dD ("Old", some "met") "met" "Shelf.met" s_Shelf_met, dD ("Old", some "missed") "missed" "Shelf.missed" s_Shelf_missed, dD ("Old", some "order") "order" "Old.order" s_Old_order, dD ("Cold", some "things") "things" "Shelf.things" s_Shelf_things, dD ("Cold", some "met") "met" "Shelf.met" s_Shelf_met, dD ("Cold", some "missed") "missed" "Shelf.missed" s_Shelf_missed, dD ("Cold", some "order") "order" "Cold.order" s_Cold_order, dD ("Marked", some "things") "things" "Shelf.things" s_Shelf_things, dD ("Marked", some "met") "met" "Shelf.met" s_Shelf_met, dD ("Marked", some "missed") "missed" "Shelf.missed" s_Shelf_missed, dD ("Marked", some "marks") "marks" "Marked.marks" s_Marked_marks, dD ("Marked", some "rounds") "rounds" "Marked.rounds" s_Marked_rounds]
def faL : List He.Fa := [.glo "is_name", .glo "check_name", .glo "check_wishes", .glo "_law_mixed", .glo "_law_names", .glo "_law_drawn", .free "type", .free "str", .free "len", .free "all", .free "int", .free "sum", .free "enumerate", .free "range", .free "list", .int "MOST_LETTERS" 8, .int "MOST_WISHES" 300, .int "MOST_PLACES" 20, .glo "check_places", .glo "check_rule", .glo "shelf_of", .glo "going", .glo "best", .glo "_wished_again", .glo "_latest_again", .glo "stretches", .glo "bars", .glo "_bars_ahead", .glo "_least_allowed", .glo "blocks", .glo "_firsts", .glo "depths", .glo "missed_by_places", .glo "_met", .glo "_law_kinds", .glo "_law_odd_name", .glo "_law_odd_places", .glo "_law_odd_wishes", .glo "_law_asked", .glo "_law_wish_word", .glo "_law_state", .glo "_law_due", .glo "law", .meth "Old" "__init__", .meth "Old" "wish", .meth "Old" "_free_a_place", .meth "Old" "_pick_going", .meth "Old" "_note_wish", .glo "Old", .cls "Old", .mkr "Old", .noat "Old" "_size", .noat "Old" "_row", .noat "Old" "_met", .noat "Old" "_missed", .meth "Cold" "__init__", .meth "Cold" "wish", .meth "Cold" "_free_a_place", .meth "Cold" "_pick_going", .meth "Cold" "_note_wish", .glo "Cold", .cls "Cold", .mkr "Cold", .noat "Cold" "_size", .noat "Cold" "_row", .noat "Cold" "_met", .noat "Cold" "_missed", .meth "Marked" "__init__", .meth "Marked" "wish", .meth "Marked" "_free_a_place", .meth "Marked" "_pick_going", .meth "Marked" "_note_wish", .glo "Marked", .cls "Marked", .mkr "Marked", .noat "Marked" "_size", .noat "Marked" "_row", .noat "Marked" "_met", .noat "Marked" "_missed", .noat "Marked" "_marks", .noat "Marked" "_rounds", .meth "Shelf" "__init__", .meth "Going" "__init__", .glo "Going", .cls "Going", .mkr "Going", .noat "Going" "were_met", .noat "Going" "went", .glo "Shelf", .glo "RULES", .meth "Old" "things", .meth "Old" "met", .meth "Old" "missed", .meth "Old" "order", .meth "Cold" "things", .meth "Cold" "met", .meth "Cold" "missed", .meth "Cold" "order", .meth "Marked" "things", .meth "Marked" "met", .meth "Marked" "missed", .meth "Marked" "marks", .meth "Marked" "rounds", .free "min", .free "max", .free "zip", .free "sorted", .free "isinstance", .free "tuple", .free "reversed", .free "ValueError", .glo "KeepError", .glo "BadName", .exc "BadName", .glo "BadPlaces", .exc "BadPlaces", .glo "BadRule", .exc "BadRule", .glo "BadWishes", .exc "BadWishes"]
def exL (K : PySem.W.Frag) : Bool := (PySem.W.readsIn K (He.ga K "Shelf") (.type "type")) && (decide (PySem.W.specialIn K (.ref (He.ga K "Shelf")) "__getattribute__" = some (some (.builtin "type.__getattribute__")))) && (fclsB K (He.ga K "Shelf") "__init__" (He.ma K (He.ga K "Shelf") "__init__")) && (He.tupB K "RULES" [.str "old", .str "cold", .str "marked"]) && (decide (PySem.W.specialIn K (.builtin "object.__class__") "__get__" = some (some (.builtin "getset_descriptor.__get__")))) && (decide (PySem.W.takesIn K (.builtin "object.__class__") = some true)) && (decide (PySem.W.findIn K (.ref (He.ga K "BadName")) "__getattribute__" = some (some (.builtin "BaseException.__getattribute__")))) && (decide (PySem.W.findIn K (.ref (He.ga K "BadName")) "__getattr__" = some none)) && (PySem.W.hasDictIn K (He.ga K "BadName")) && (decide (PySem.W.findIn K (.ref (He.ga K "BadName")) "__class__" = some (some (.builtin "object.__class__")))) && (decide (PySem.W.mroIn K (He.ga K "BadName") (.type "object") = some true)) && (decide (PySem.W.exmOne K (.ref (He.ga K "BadName")) (.ref (He.ga K "KeepError")) = some true)) && (decide (PySem.W.kitOne K (.ref (He.ga K "BadName")) (.type "ValueError") = some true)) && (decide (PySem.W.kitOne K (.ref (He.ga K "BadName")) (.ref (He.ga K "BadName")) = some true)) && (decide (PySem.W.kitOne K (.ref (He.ga K "BadName")) (.ref (He.ga K "BadPlaces")) = some false)) && (decide (PySem.W.kitOne K (.ref (He.ga K "BadName")) (.ref (He.ga K "BadRule")) = some false)) && (decide (PySem.W.kitOne K (.ref (He.ga K "BadName")) (.ref (He.ga K "BadWishes")) = some false)) && (decide (PySem.W.findIn K (.ref (He.ga K "BadPlaces")) "__getattribute__" = some (some (.builtin "BaseException.__getattribute__")))) && (decide (PySem.W.findIn K (.ref (He.ga K "BadPlaces")) "__getattr__" = some none)) && (PySem.W.hasDictIn K (He.ga K "BadPlaces")) && (decide (PySem.W.findIn K (.ref (He.ga K "BadPlaces")) "__class__" = some (some (.builtin "object.__class__")))) && (decide (PySem.W.mroIn K (He.ga K "BadPlaces") (.type "object") = some true)) && (decide (PySem.W.exmOne K (.ref (He.ga K "BadPlaces")) (.ref (He.ga K "KeepError")) = some true)) && (decide (PySem.W.kitOne K (.ref (He.ga K "BadPlaces")) (.type "ValueError") = some true)) && (decide (PySem.W.kitOne K (.ref (He.ga K "BadPlaces")) (.ref (He.ga K "BadName")) = some false)) && (decide (PySem.W.kitOne K (.ref (He.ga K "BadPlaces")) (.ref (He.ga K "BadPlaces")) = some true)) && (decide (PySem.W.kitOne K (.ref (He.ga K "BadPlaces")) (.ref (He.ga K "BadRule")) = some false)) && (decide (PySem.W.kitOne K (.ref (He.ga K "BadPlaces")) (.ref (He.ga K "BadWishes")) = some false)) && (decide (PySem.W.findIn K (.ref (He.ga K "BadRule")) "__getattribute__" = some (some (.builtin "BaseException.__getattribute__")))) && (decide (PySem.W.findIn K (.ref (He.ga K "BadRule")) "__getattr__" = some none)) && (PySem.W.hasDictIn K (He.ga K "BadRule")) && (decide (PySem.W.findIn K (.ref (He.ga K "BadRule")) "__class__" = some (some (.builtin "object.__class__")))) && (decide (PySem.W.mroIn K (He.ga K "BadRule") (.type "object") = some true)) && (decide (PySem.W.exmOne K (.ref (He.ga K "BadRule")) (.ref (He.ga K "KeepError")) = some true)) && (decide (PySem.W.kitOne K (.ref (He.ga K "BadRule")) (.type "ValueError") = some true)) && (decide (PySem.W.kitOne K (.ref (He.ga K "BadRule")) (.ref (He.ga K "BadName")) = some false)) && (decide (PySem.W.kitOne K (.ref (He.ga K "BadRule")) (.ref (He.ga K "BadPlaces")) = some false)) && (decide (PySem.W.kitOne K (.ref (He.ga K "BadRule")) (.ref (He.ga K "BadRule")) = some true)) && (decide (PySem.W.kitOne K (.ref (He.ga K "BadRule")) (.ref (He.ga K "BadWishes")) = some false)) && (decide (PySem.W.findIn K (.ref (He.ga K "BadWishes")) "__getattribute__" = some (some (.builtin "BaseException.__getattribute__")))) && (decide (PySem.W.findIn K (.ref (He.ga K "BadWishes")) "__getattr__" = some none)) && (PySem.W.hasDictIn K (He.ga K "BadWishes")) && (decide (PySem.W.findIn K (.ref (He.ga K "BadWishes")) "__class__" = some (some (.builtin "object.__class__")))) && (decide (PySem.W.mroIn K (He.ga K "BadWishes") (.type "object") = some true)) && (decide (PySem.W.exmOne K (.ref (He.ga K "BadWishes")) (.ref (He.ga K "KeepError")) = some true)) && (decide (PySem.W.kitOne K (.ref (He.ga K "BadWishes")) (.type "ValueError") = some true)) && (decide (PySem.W.kitOne K (.ref (He.ga K "BadWishes")) (.ref (He.ga K "BadName")) = some false)) && (decide (PySem.W.kitOne K (.ref (He.ga K "BadWishes")) (.ref (He.ga K "BadPlaces")) = some false)) && (decide (PySem.W.kitOne K (.ref (He.ga K "BadWishes")) (.ref (He.ga K "BadRule")) = some false)) && (decide (PySem.W.kitOne K (.ref (He.ga K "BadWishes")) (.ref (He.ga K "BadWishes")) = some true)) && (decide (PySem.W.findIn K (.ref (He.ga K "Old")) "__class__" = some (some (.builtin "object.__class__")))) && (decide (PySem.W.mroIn K (He.ga K "Old") (.type "object") = some true)) && (decide (PySem.W.kitOne K (.ref (He.ga K "Old")) (.ref (He.ga K "Marked")) = some false)) && (decide (PySem.W.findIn K (.ref (He.ga K "Cold")) "__class__" = some (some (.builtin "object.__class__")))) && (decide (PySem.W.mroIn K (He.ga K "Cold") (.type "object") = some true)) && (decide (PySem.W.kitOne K (.ref (He.ga K "Cold")) (.ref (He.ga K "Marked")) = some false)) && (decide (PySem.W.findIn K (.ref (He.ga K "Marked")) "__class__" = some (some (.builtin "object.__class__")))) && (decide (PySem.W.mroIn K (He.ga K "Marked") (.type "object") = some true)) && (decide (PySem.W.kitOne K (.ref (He.ga K "Marked")) (.ref (He.ga K "Marked")) = some true))
def tfL : List He.Defn := [("is_name", none)]
abbrev RL : PySem.W.OpenRow := PySem.W.OpenLaw.row PySem.Challenge.rw_keepfew_k04_refused
abbrev hkL : PySem.W.Hook := hookY 6 faL fnL [] tfL exL
def obL (s : PySem.W.SharedT) : He.AlX := obsY 6 faL fnL [] tfL exL (HandSHeadRun.getT s)
theorem obL_eq (s : PySem.W.SharedT) : obL s = hkL.obs s.abs := obsY_eq (HandSHeadRun.getT_eq s)
def looseL : List Str := "KeepError" :: "BadName" :: "BadPlaces" :: "BadRule" :: "BadWishes" :: "MOST_LETTERS" :: "MOST_PLACES" :: "MOST_WISHES" :: "RULES" :: "is_name" :: "check_name" :: "check_places" :: "check_rule" :: "check_wishes" :: "Shelf" :: "Old" :: "Cold" :: "Marked" :: "shelf_of" :: "Going" :: "going" :: "best" :: "_wished_again" :: "_latest_again" :: "stretches" :: "bars" :: "_bars_ahead" :: "_least_allowed" :: "blocks" :: "_firsts" :: "depths" :: "missed_by_places" :: "_met" :: "_law_mixed" :: "_law_names" :: "_law_drawn" :: "_law_places" :: "_law_kinds" :: "_law_odd_name" :: "_law_odd_places" :: "_law_odd_wishes" :: "_law_asked" :: "_law_wish_word" :: "_law_state" :: "_law_due" :: []
theorem runL (w : World) : HandSHeadRun.RunEq RL (PySem.W.view RL.prog [53]) hkL obL 9000 looseL w := by
  intro os
  kernel_rfl
end Kf
namespace Kf
open PySem PySem.Spec PyProof.Rows L2
def ceK (K : PySem.W.Frag) : Wd → Addr
  | .name => He.ga K "BadName"
  | .places => He.ga K "BadPlaces"
  | .rule => He.ga K "BadRule"
  | .wishes => He.ga K "BadWishes"
section
variable {P : Program} {w : World} {K : PySem.W.Frag} {h : Heap} {mg : Str → Option Value} {fa : Addr}
theorem lawAt (X : K.In h) (G : h.Ns mainGlobals mg) (hfa : mg ("law" : Str) = some (.ref fa)) (c : He.SaysX faL fnL [] tfL exL w h K) : LamX.LawAtS PySem.Challenge.rw_keepfew_k04_refused w K L2.CX0 9 63 "_law_script" mg fa h := by
  have cd := c.t.d
  have g_is_name := He.glo_ok X G (cd.fact 0 (f := .glo "is_name") rfl)
  have g_check_name := He.glo_ok X G (cd.fact 1 (f := .glo "check_name") rfl)
  have g_check_wishes := He.glo_ok X G (cd.fact 2 (f := .glo "check_wishes") rfl)
  have g__law_mixed := He.glo_ok X G (cd.fact 3 (f := .glo "_law_mixed") rfl)
  have g__law_names := He.glo_ok X G (cd.fact 4 (f := .glo "_law_names") rfl)
  have g__law_drawn := He.glo_ok X G (cd.fact 5 (f := .glo "_law_drawn") rfl)
  have z_type := He.free_ok X G (cd.fact 6 (f := .free "type") rfl)
  have z_str := He.free_ok X G (cd.fact 7 (f := .free "str") rfl)
  have z_len := He.free_ok X G (cd.fact 8 (f := .free "len") rfl)
  have z_all := He.free_ok X G (cd.fact 9 (f := .free "all") rfl)
  have z_int := He.free_ok X G (cd.fact 10 (f := .free "int") rfl)
  have z_sum := He.free_ok X G (cd.fact 11 (f := .free "sum") rfl)
  have z_enumerate := He.free_ok X G (cd.fact 12 (f := .free "enumerate") rfl)
  have z_range := He.free_ok X G (cd.fact 13 (f := .free "range") rfl)
  have z_list := He.free_ok X G (cd.fact 14 (f := .free "list") rfl)
  obtain ⟨t_MOST_LETTERS, n_MOST_LETTERS⟩ := He.int_ok X G (cd.fact 15 (f := .int "MOST_LETTERS" 8) rfl)
  obtain ⟨t_MOST_WISHES, n_MOST_WISHES⟩ := He.int_ok X G (cd.fact 16 (f := .int "MOST_WISHES" 300) rfl)
  obtain ⟨t_MOST_PLACES, n_MOST_PLACES⟩ := He.int_ok X G (cd.fact 17 (f := .int "MOST_PLACES" 20) rfl)
  have g_check_places := He.glo_ok X G (cd.fact 18 (f := .glo "check_places") rfl)
  have g_check_rule := He.glo_ok X G (cd.fact 19 (f := .glo "check_rule") rfl)
  have g_shelf_of := He.glo_ok X G (cd.fact 20 (f := .glo "shelf_of") rfl)
  have g_going := He.glo_ok X G (cd.fact 21 (f := .glo "going") rfl)
  have g_best := He.glo_ok X G (cd.fact 22 (f := .glo "best") rfl)
  have g__wished_again := He.glo_ok X G (cd.fact 23 (f := .glo "_wished_again") rfl)
  have g__latest_again := He.glo_ok X G (cd.fact 24 (f := .glo "_latest_again") rfl)
  have g_stretches := He.glo_ok X G (cd.fact 25 (f := .glo "stretches") rfl)
  have g_bars := He.glo_ok X G (cd.fact 26 (f := .glo "bars") rfl)
  have g__bars_ahead := He.glo_ok X G (cd.fact 27 (f := .glo "_bars_ahead") rfl)
  have g__least_allowed := He.glo_ok X G (cd.fact 28 (f := .glo "_least_allowed") rfl)
  have g_blocks := He.glo_ok X G (cd.fact 29 (f := .glo "blocks") rfl)
  have g__firsts := He.glo_ok X G (cd.fact 30 (f := .glo "_firsts") rfl)
  have g_depths := He.glo_ok X G (cd.fact 31 (f := .glo "depths") rfl)
  have g_missed_by_places := He.glo_ok X G (cd.fact 32 (f := .glo "missed_by_places") rfl)
  have g__met := He.glo_ok X G (cd.fact 33 (f := .glo "_met") rfl)
  have g__law_kinds := He.glo_ok X G (cd.fact 34 (f := .glo "_law_kinds") rfl)
  have g__law_odd_name := He.glo_ok X G (cd.fact 35 (f := .glo "_law_odd_name") rfl)
  have g__law_odd_places := He.glo_ok X G (cd.fact 36 (f := .glo "_law_odd_places") rfl)
  have g__law_odd_wishes := He.glo_ok X G (cd.fact 37 (f := .glo "_law_odd_wishes") rfl)
  have g__law_asked := He.glo_ok X G (cd.fact 38 (f := .glo "_law_asked") rfl)
  have g__law_wish_word := He.glo_ok X G (cd.fact 39 (f := .glo "_law_wish_word") rfl)
  have g__law_state := He.glo_ok X G (cd.fact 40 (f := .glo "_law_state") rfl)
  have g__law_due := He.glo_ok X G (cd.fact 41 (f := .glo "_law_due") rfl)
  have g_law := He.glo_ok X G (cd.fact 42 (f := .glo "law") rfl)
  have me_Old___init__ := He.meth_ok (cd.fact 43 (f := .meth "Old" "__init__") rfl)
  have me_Old_wish := He.meth_ok (cd.fact 44 (f := .meth "Old" "wish") rfl)
  have me_Old__free_a_place := He.meth_ok (cd.fact 45 (f := .meth "Old" "_free_a_place") rfl)
  have me_Old__pick_going := He.meth_ok (cd.fact 46 (f := .meth "Old" "_pick_going") rfl)
  have me_Old__note_wish := He.meth_ok (cd.fact 47 (f := .meth "Old" "_note_wish") rfl)
  have g_Old := He.glo_ok X G (cd.fact 48 (f := .glo "Old") rfl)
  have cl_Old := He.cls_ok (cd.fact 49 (f := .cls "Old") rfl)
  have mk_Old := He.mkr_ok (cd.fact 50 (f := .mkr "Old") rfl)
  have na_Old__size := He.noat_ok (cd.fact 51 (f := .noat "Old" "_size") rfl)
  have na_Old__row := He.noat_ok (cd.fact 52 (f := .noat "Old" "_row") rfl)
  have na_Old__met := He.noat_ok (cd.fact 53 (f := .noat "Old" "_met") rfl)
  have na_Old__missed := He.noat_ok (cd.fact 54 (f := .noat "Old" "_missed") rfl)
  have me_Cold___init__ := He.meth_ok (cd.fact 55 (f := .meth "Cold" "__init__") rfl)
  have me_Cold_wish := He.meth_ok (cd.fact 56 (f := .meth "Cold" "wish") rfl)
  have me_Cold__free_a_place := He.meth_ok (cd.fact 57 (f := .meth "Cold" "_free_a_place") rfl)
  have me_Cold__pick_going := He.meth_ok (cd.fact 58 (f := .meth "Cold" "_pick_going") rfl)
  have me_Cold__note_wish := He.meth_ok (cd.fact 59 (f := .meth "Cold" "_note_wish") rfl)
  have g_Cold := He.glo_ok X G (cd.fact 60 (f := .glo "Cold") rfl)
  have cl_Cold := He.cls_ok (cd.fact 61 (f := .cls "Cold") rfl)
  have mk_Cold := He.mkr_ok (cd.fact 62 (f := .mkr "Cold") rfl)
  have na_Cold__size := He.noat_ok (cd.fact 63 (f := .noat "Cold" "_size") rfl)
  have na_Cold__row := He.noat_ok (cd.fact 64 (f := .noat "Cold" "_row") rfl)
  have na_Cold__met := He.noat_ok (cd.fact 65 (f := .noat "Cold" "_met") rfl)
  have na_Cold__missed := He.noat_ok (cd.fact 66 (f := .noat "Cold" "_missed") rfl)
  have me_Marked___init__ := He.meth_ok (cd.fact 67 (f := .meth "Marked" "__init__") rfl)
  have me_Marked_wish := He.meth_ok (cd.fact 68 (f := .meth "Marked" "wish") rfl)
  have me_Marked__free_a_place := He.meth_ok (cd.fact 69 (f := .meth "Marked" "_free_a_place") rfl)
  have me_Marked__pick_going := He.meth_ok (cd.fact 70 (f := .meth "Marked" "_pick_going") rfl)
  have me_Marked__note_wish := He.meth_ok (cd.fact 71 (f := .meth "Marked" "_note_wish") rfl)
  have g_Marked := He.glo_ok X G (cd.fact 72 (f := .glo "Marked") rfl)
  have cl_Marked := He.cls_ok (cd.fact 73 (f := .cls "Marked") rfl)
  have mk_Marked := He.mkr_ok (cd.fact 74 (f := .mkr "Marked") rfl)
  have na_Marked__size := He.noat_ok (cd.fact 75 (f := .noat "Marked" "_size") rfl)
  have na_Marked__row := He.noat_ok (cd.fact 76 (f := .noat "Marked" "_row") rfl)
  have na_Marked__met := He.noat_ok (cd.fact 77 (f := .noat "Marked" "_met") rfl)
  have na_Marked__missed := He.noat_ok (cd.fact 78 (f := .noat "Marked" "_missed") rfl)
  have na_Marked__marks := He.noat_ok (cd.fact 79 (f := .noat "Marked" "_marks") rfl)
  have na_Marked__rounds := He.noat_ok (cd.fact 80 (f := .noat "Marked" "_rounds") rfl)
  have me_Shelf___init__ := He.meth_ok (cd.fact 81 (f := .meth "Shelf" "__init__") rfl)
  have me_Going___init__ := He.meth_ok (cd.fact 82 (f := .meth "Going" "__init__") rfl)
  have g_Going := He.glo_ok X G (cd.fact 83 (f := .glo "Going") rfl)
  have cl_Going := He.cls_ok (cd.fact 84 (f := .cls "Going") rfl)
  have mk_Going := He.mkr_ok (cd.fact 85 (f := .mkr "Going") rfl)
  have na_Going_were_met := He.noat_ok (cd.fact 86 (f := .noat "Going" "were_met") rfl)
  have na_Going_went := He.noat_ok (cd.fact 87 (f := .noat "Going" "went") rfl)
  have g_Shelf := He.glo_ok X G (cd.fact 88 (f := .glo "Shelf") rfl)
  have g_RULES := He.glo_ok X G (cd.fact 89 (f := .glo "RULES") rfl)
  have me_Old_things := He.meth_ok (cd.fact 90 (f := .meth "Old" "things") rfl)
  have me_Old_met := He.meth_ok (cd.fact 91 (f := .meth "Old" "met") rfl)
  have me_Old_missed := He.meth_ok (cd.fact 92 (f := .meth "Old" "missed") rfl)
  have me_Old_order := He.meth_ok (cd.fact 93 (f := .meth "Old" "order") rfl)
  have me_Cold_things := He.meth_ok (cd.fact 94 (f := .meth "Cold" "things") rfl)
  have me_Cold_met := He.meth_ok (cd.fact 95 (f := .meth "Cold" "met") rfl)
  have me_Cold_missed := He.meth_ok (cd.fact 96 (f := .meth "Cold" "missed") rfl)
  have me_Cold_order := He.meth_ok (cd.fact 97 (f := .meth "Cold" "order") rfl)
  have me_Marked_things := He.meth_ok (cd.fact 98 (f := .meth "Marked" "things") rfl)
  have me_Marked_met := He.meth_ok (cd.fact 99 (f := .meth "Marked" "met") rfl)
  have me_Marked_missed := He.meth_ok (cd.fact 100 (f := .meth "Marked" "missed") rfl)
  have me_Marked_marks := He.meth_ok (cd.fact 101 (f := .meth "Marked" "marks") rfl)
  have me_Marked_rounds := He.meth_ok (cd.fact 102 (f := .meth "Marked" "rounds") rfl)
  have z_min := He.free_ok X G (cd.fact 103 (f := .free "min") rfl)
  have z_max := He.free_ok X G (cd.fact 104 (f := .free "max") rfl)
  have z_zip := He.free_ok X G (cd.fact 105 (f := .free "zip") rfl)
  have z_sorted := He.free_ok X G (cd.fact 106 (f := .free "sorted") rfl)
  have z_isinstance := He.free_ok X G (cd.fact 107 (f := .free "isinstance") rfl)
  have z_tuple := He.free_ok X G (cd.fact 108 (f := .free "tuple") rfl)
  have z_reversed := He.free_ok X G (cd.fact 109 (f := .free "reversed") rfl)
  have z_ValueError := He.free_ok X G (cd.fact 110 (f := .free "ValueError") rfl)
  have g_KeepError := He.glo_ok X G (cd.fact 111 (f := .glo "KeepError") rfl)
  have g_BadName := He.glo_ok X G (cd.fact 112 (f := .glo "BadName") rfl)
  obtain ⟨xP_BadName, kP_BadName, bP_BadName, tP_BadName⟩ := He.exc_ok (cd.fact 113 (f := .exc "BadName") rfl)
  have g_BadPlaces := He.glo_ok X G (cd.fact 114 (f := .glo "BadPlaces") rfl)
  obtain ⟨xP_BadPlaces, kP_BadPlaces, bP_BadPlaces, tP_BadPlaces⟩ := He.exc_ok (cd.fact 115 (f := .exc "BadPlaces") rfl)
  have g_BadRule := He.glo_ok X G (cd.fact 116 (f := .glo "BadRule") rfl)
  obtain ⟨xP_BadRule, kP_BadRule, bP_BadRule, tP_BadRule⟩ := He.exc_ok (cd.fact 117 (f := .exc "BadRule") rfl)
  have g_BadWishes := He.glo_ok X G (cd.fact 118 (f := .glo "BadWishes") rfl)
  obtain ⟨xP_BadWishes, kP_BadWishes, bP_BadWishes, tP_BadWishes⟩ := He.exc_ok (cd.fact 119 (f := .exc "BadWishes") rfl)
  obtain ⟨fd_is_name, F_is_name⟩ := cd.def_ 0 (d := dD ("is_name", none) "is_name" "is_name" s_is_name) rfl
  have F_is_name : FnP K "is_name" "is_name" s_is_name (He.fAd K ("is_name", none)) fd_is_name := F_is_name
  obtain ⟨fd_check_name, F_check_name⟩ := cd.def_ 1 (d := dD ("check_name", none) "check_name" "check_name" s_check_name) rfl
  have F_check_name : FnP K "check_name" "check_name" s_check_name (He.fAd K ("check_name", none)) fd_check_name := F_check_name
  obtain ⟨fd_check_wishes, F_check_wishes⟩ := cd.def_ 2 (d := dD ("check_wishes", none) "check_wishes" "check_wishes" s_check_wishes) rfl
  have F_check_wishes : FnP K "check_wishes" "check_wishes" s_check_wishes (He.fAd K ("check_wishes", none)) fd_check_wishes := F_check_wishes
  obtain ⟨fd__law_mixed, F__law_mixed⟩ := cd.def_ 3 (d := dD ("_law_mixed", none) "_law_mixed" "_law_mixed" s__law_mixed) rfl
  have F__law_mixed : FnP K "_law_mixed" "_law_mixed" s__law_mixed (He.fAd K ("_law_mixed", none)) fd__law_mixed := F__law_mixed
  obtain ⟨fd__law_names, F__law_names⟩ := cd.def_ 4 (d := dD ("_law_names", none) "_law_names" "_law_names" s__law_names) rfl
  have F__law_names : FnP K "_law_names" "_law_names" s__law_names (He.fAd K ("_law_names", none)) fd__law_names := F__law_names
  obtain ⟨fd__law_drawn, F__law_drawn⟩ := cd.def_ 5 (d := dD ("_law_drawn", none) "_law_drawn" "_law_drawn" s__law_drawn) rfl
  have F__law_drawn : FnP K "_law_drawn" "_law_drawn" s__law_drawn (He.fAd K ("_law_drawn", none)) fd__law_drawn := F__law_drawn
  obtain ⟨fd_check_places, F_check_places⟩ := cd.def_ 6 (d := dD ("check_places", none) "check_places" "check_places" s_check_places) rfl
  have F_check_places : FnP K "check_places" "check_places" s_check_places (He.fAd K ("check_places", none)) fd_check_places := F_check_places
  obtain ⟨fd_check_rule, F_check_rule⟩ := cd.def_ 7 (d := dD ("check_rule", none) "check_rule" "check_rule" s_check_rule) rfl
  have F_check_rule : FnP K "check_rule" "check_rule" s_check_rule (He.fAd K ("check_rule", none)) fd_check_rule := F_check_rule
  obtain ⟨fd_shelf_of, F_shelf_of⟩ := cd.def_ 8 (d := dD ("shelf_of", none) "shelf_of" "shelf_of" s_shelf_of) rfl
  have F_shelf_of : FnP K "shelf_of" "shelf_of" s_shelf_of (He.fAd K ("shelf_of", none)) fd_shelf_of := F_shelf_of
  obtain ⟨fd_going, F_going⟩ := cd.def_ 9 (d := dD ("going", none) "going" "going" s_going) rfl
  have F_going : FnP K "going" "going" s_going (He.fAd K ("going", none)) fd_going := F_going
  obtain ⟨fd_best, F_best⟩ := cd.def_ 10 (d := dD ("best", none) "best" "best" s_best) rfl
  have F_best : FnP K "best" "best" s_best (He.fAd K ("best", none)) fd_best := F_best
  obtain ⟨fd__wished_again, F__wished_again⟩ := cd.def_ 11 (d := dD ("_wished_again", none) "_wished_again" "_wished_again" s__wished_again) rfl
  have F__wished_again : FnP K "_wished_again" "_wished_again" s__wished_again (He.fAd K ("_wished_again", none)) fd__wished_again := F__wished_again
  obtain ⟨fd__latest_again, F__latest_again⟩ := cd.def_ 12 (d := dD ("_latest_again", none) "_latest_again" "_latest_again" s__latest_again) rfl
  have F__latest_again : FnP K "_latest_again" "_latest_again" s__latest_again (He.fAd K ("_latest_again", none)) fd__latest_again := F__latest_again
  obtain ⟨fd_stretches, F_stretches⟩ := cd.def_ 13 (d := dD ("stretches", none) "stretches" "stretches" s_stretches) rfl
  have F_stretches : FnP K "stretches" "stretches" s_stretches (He.fAd K ("stretches", none)) fd_stretches := F_stretches
  obtain ⟨fd_bars, F_bars⟩ := cd.def_ 14 (d := dD ("bars", none) "bars" "bars" s_bars) rfl
  have F_bars : FnP K "bars" "bars" s_bars (He.fAd K ("bars", none)) fd_bars := F_bars
  obtain ⟨fd__bars_ahead, F__bars_ahead⟩ := cd.def_ 15 (d := dD ("_bars_ahead", none) "_bars_ahead" "_bars_ahead" s__bars_ahead) rfl
  have F__bars_ahead : FnP K "_bars_ahead" "_bars_ahead" s__bars_ahead (He.fAd K ("_bars_ahead", none)) fd__bars_ahead := F__bars_ahead
  obtain ⟨fd__least_allowed, F__least_allowed⟩ := cd.def_ 16 (d := dD ("_least_allowed", none) "_least_allowed" "_least_allowed" s__least_allowed) rfl
  have F__least_allowed : FnP K "_least_allowed" "_least_allowed" s__least_allowed (He.fAd K ("_least_allowed", none)) fd__least_allowed := F__least_allowed
  obtain ⟨fd_blocks, F_blocks⟩ := cd.def_ 17 (d := dD ("blocks", none) "blocks" "blocks" s_blocks) rfl
  have F_blocks : FnP K "blocks" "blocks" s_blocks (He.fAd K ("blocks", none)) fd_blocks := F_blocks
  obtain ⟨fd__firsts, F__firsts⟩ := cd.def_ 18 (d := dD ("_firsts", none) "_firsts" "_firsts" s__firsts) rfl
  have F__firsts : FnP K "_firsts" "_firsts" s__firsts (He.fAd K ("_firsts", none)) fd__firsts := F__firsts
  obtain ⟨fd_depths, F_depths⟩ := cd.def_ 19 (d := dD ("depths", none) "depths" "depths" s_depths) rfl
  have F_depths : FnP K "depths" "depths" s_depths (He.fAd K ("depths", none)) fd_depths := F_depths
  obtain ⟨fd_missed_by_places, F_missed_by_places⟩ := cd.def_ 20 (d := dD ("missed_by_places", none) "missed_by_places" "missed_by_places" s_missed_by_places) rfl
  have F_missed_by_places : FnP K "missed_by_places" "missed_by_places" s_missed_by_places (He.fAd K ("missed_by_places", none)) fd_missed_by_places := F_missed_by_places
  obtain ⟨fd__met, F__met⟩ := cd.def_ 21 (d := dD ("_met", none) "_met" "_met" s__met) rfl
  have F__met : FnP K "_met" "_met" s__met (He.fAd K ("_met", none)) fd__met := F__met
  obtain ⟨fd__law_kinds, F__law_kinds⟩ := cd.def_ 22 (d := dD ("_law_kinds", none) "_law_kinds" "_law_kinds" s__law_kinds) rfl
  have F__law_kinds : FnP K "_law_kinds" "_law_kinds" s__law_kinds (He.fAd K ("_law_kinds", none)) fd__law_kinds := F__law_kinds
  obtain ⟨fd__law_odd_name, F__law_odd_name⟩ := cd.def_ 23 (d := dD ("_law_odd_name", none) "_law_odd_name" "_law_odd_name" s__law_odd_name) rfl
  have F__law_odd_name : FnP K "_law_odd_name" "_law_odd_name" s__law_odd_name (He.fAd K ("_law_odd_name", none)) fd__law_odd_name := F__law_odd_name
  obtain ⟨fd__law_odd_places, F__law_odd_places⟩ := cd.def_ 24 (d := dD ("_law_odd_places", none) "_law_odd_places" "_law_odd_places" s__law_odd_places) rfl
  have F__law_odd_places : FnP K "_law_odd_places" "_law_odd_places" s__law_odd_places (He.fAd K ("_law_odd_places", none)) fd__law_odd_places := F__law_odd_places
  obtain ⟨fd__law_odd_wishes, F__law_odd_wishes⟩ := cd.def_ 25 (d := dD ("_law_odd_wishes", none) "_law_odd_wishes" "_law_odd_wishes" s__law_odd_wishes) rfl
  have F__law_odd_wishes : FnP K "_law_odd_wishes" "_law_odd_wishes" s__law_odd_wishes (He.fAd K ("_law_odd_wishes", none)) fd__law_odd_wishes := F__law_odd_wishes
  obtain ⟨fd__law_asked, F__law_asked⟩ := cd.def_ 26 (d := dD ("_law_asked", none) "_law_asked" "_law_asked" s__law_asked) rfl
  have F__law_asked : FnP K "_law_asked" "_law_asked" s__law_asked (He.fAd K ("_law_asked", none)) fd__law_asked := F__law_asked
  obtain ⟨fd__law_wish_word, F__law_wish_word⟩ := cd.def_ 27 (d := dD ("_law_wish_word", none) "_law_wish_word" "_law_wish_word" s__law_wish_word) rfl
  have F__law_wish_word : FnP K "_law_wish_word" "_law_wish_word" s__law_wish_word (He.fAd K ("_law_wish_word", none)) fd__law_wish_word := F__law_wish_word
  obtain ⟨fd__law_state, F__law_state⟩ := cd.def_ 28 (d := dD ("_law_state", none) "_law_state" "_law_state" s__law_state) rfl
  have F__law_state : FnP K "_law_state" "_law_state" s__law_state (He.fAd K ("_law_state", none)) fd__law_state := F__law_state
  obtain ⟨fd__law_due, F__law_due⟩ := cd.def_ 29 (d := dD ("_law_due", none) "_law_due" "_law_due" s__law_due) rfl
  have F__law_due : FnP K "_law_due" "_law_due" s__law_due (He.fAd K ("_law_due", none)) fd__law_due := F__law_due
  obtain ⟨fd_law, F_law⟩ := cd.def_ 30 (d := dD ("law", none) "law" "law" s_law) rfl
  have F_law : FnP K "law" "law" s_law (He.fAd K ("law", none)) fd_law := F_law
  obtain ⟨fd_Old___init__, F_Old___init__⟩ := cd.def_ 31 (d := dD ("Old", some "__init__") "__init__" "Shelf.__init__" s_Shelf___init__) rfl
  have F_Old___init__ : FnP K "__init__" "Shelf.__init__" s_Shelf___init__ (He.fAd K ("Old", some "__init__")) fd_Old___init__ := F_Old___init__
  obtain ⟨fd_Old_wish, F_Old_wish⟩ := cd.def_ 32 (d := dD ("Old", some "wish") "wish" "Shelf.wish" s_Shelf_wish) rfl
  have F_Old_wish : FnP K "wish" "Shelf.wish" s_Shelf_wish (He.fAd K ("Old", some "wish")) fd_Old_wish := F_Old_wish
  obtain ⟨fd_Old__free_a_place, F_Old__free_a_place⟩ := cd.def_ 33 (d := dD ("Old", some "_free_a_place") "_free_a_place" "Shelf._free_a_place" s_Shelf__free_a_place) rfl
  have F_Old__free_a_place : FnP K "_free_a_place" "Shelf._free_a_place" s_Shelf__free_a_place (He.fAd K ("Old", some "_free_a_place")) fd_Old__free_a_place := F_Old__free_a_place
  obtain ⟨fd_Old__pick_going, F_Old__pick_going⟩ := cd.def_ 34 (d := dD ("Old", some "_pick_going") "_pick_going" "Old._pick_going" s_Old__pick_going) rfl
  have F_Old__pick_going : FnP K "_pick_going" "Old._pick_going" s_Old__pick_going (He.fAd K ("Old", some "_pick_going")) fd_Old__pick_going := F_Old__pick_going
  obtain ⟨fd_Old__note_wish, F_Old__note_wish⟩ := cd.def_ 35 (d := dD ("Old", some "_note_wish") "_note_wish" "Shelf._note_wish" s_Shelf__note_wish) rfl
  have F_Old__note_wish : FnP K "_note_wish" "Shelf._note_wish" s_Shelf__note_wish (He.fAd K ("Old", some "_note_wish")) fd_Old__note_wish := F_Old__note_wish
  obtain ⟨fd_Cold___init__, F_Cold___init__⟩ := cd.def_ 36 (d := dD ("Cold", some "__init__") "__init__" "Shelf.__init__" s_Shelf___init__) rfl
  have F_Cold___init__ : FnP K "__init__" "Shelf.__init__" s_Shelf___init__ (He.fAd K ("Cold", some "__init__")) fd_Cold___init__ := F_Cold___init__
  obtain ⟨fd_Cold_wish, F_Cold_wish⟩ := cd.def_ 37 (d := dD ("Cold", some "wish") "wish" "Shelf.wish" s_Shelf_wish) rfl
  have F_Cold_wish : FnP K "wish" "Shelf.wish" s_Shelf_wish (He.fAd K ("Cold", some "wish")) fd_Cold_wish := F_Cold_wish
  obtain ⟨fd_Cold__free_a_place, F_Cold__free_a_place⟩ := cd.def_ 38 (d := dD ("Cold", some "_free_a_place") "_free_a_place" "Shelf._free_a_place" s_Shelf__free_a_place) rfl
  have F_Cold__free_a_place : FnP K "_free_a_place" "Shelf._free_a_place" s_Shelf__free_a_place (He.fAd K ("Cold", some "_free_a_place")) fd_Cold__free_a_place := F_Cold__free_a_place
  obtain ⟨fd_Cold__pick_going, F_Cold__pick_going⟩ := cd.def_ 39 (d := dD ("Cold", some "_pick_going") "_pick_going" "Cold._pick_going" s_Cold__pick_going) rfl
  have F_Cold__pick_going : FnP K "_pick_going" "Cold._pick_going" s_Cold__pick_going (He.fAd K ("Cold", some "_pick_going")) fd_Cold__pick_going := F_Cold__pick_going
  obtain ⟨fd_Cold__note_wish, F_Cold__note_wish⟩ := cd.def_ 40 (d := dD ("Cold", some "_note_wish") "_note_wish" "Cold._note_wish" s_Cold__note_wish) rfl
  have F_Cold__note_wish : FnP K "_note_wish" "Cold._note_wish" s_Cold__note_wish (He.fAd K ("Cold", some "_note_wish")) fd_Cold__note_wish := F_Cold__note_wish
  obtain ⟨fd_Marked___init__, F_Marked___init__⟩ := cd.def_ 41 (d := dD ("Marked", some "__init__") "__init__" "Marked.__init__" s_Marked___init__) rfl
  have F_Marked___init__ : FnP K "__init__" "Marked.__init__" s_Marked___init__ (He.fAd K ("Marked", some "__init__")) fd_Marked___init__ := F_Marked___init__
  obtain ⟨fd_Marked_wish, F_Marked_wish⟩ := cd.def_ 42 (d := dD ("Marked", some "wish") "wish" "Shelf.wish" s_Shelf_wish) rfl
  have F_Marked_wish : FnP K "wish" "Shelf.wish" s_Shelf_wish (He.fAd K ("Marked", some "wish")) fd_Marked_wish := F_Marked_wish
  obtain ⟨fd_Marked__free_a_place, F_Marked__free_a_place⟩ := cd.def_ 43 (d := dD ("Marked", some "_free_a_place") "_free_a_place" "Shelf._free_a_place" s_Shelf__free_a_place) rfl
  have F_Marked__free_a_place : FnP K "_free_a_place" "Shelf._free_a_place" s_Shelf__free_a_place (He.fAd K ("Marked", some "_free_a_place")) fd_Marked__free_a_place := F_Marked__free_a_place
  obtain ⟨fd_Marked__pick_going, F_Marked__pick_going⟩ := cd.def_ 44 (d := dD ("Marked", some "_pick_going") "_pick_going" "Marked._pick_going" s_Marked__pick_going) rfl
  have F_Marked__pick_going : FnP K "_pick_going" "Marked._pick_going" s_Marked__pick_going (He.fAd K ("Marked", some "_pick_going")) fd_Marked__pick_going := F_Marked__pick_going
  obtain ⟨fd_Marked__note_wish, F_Marked__note_wish⟩ := cd.def_ 45 (d := dD ("Marked", some "_note_wish") "_note_wish" "Marked._note_wish" s_Marked__note_wish) rfl
  have F_Marked__note_wish : FnP K "_note_wish" "Marked._note_wish" s_Marked__note_wish (He.fAd K ("Marked", some "_note_wish")) fd_Marked__note_wish := F_Marked__note_wish
  obtain ⟨fd_Shelf___init__, F_Shelf___init__⟩ := cd.def_ 46 (d := dD ("Shelf", some "__init__") "__init__" "Shelf.__init__" s_Shelf___init__) rfl
  have F_Shelf___init__ : FnP K "__init__" "Shelf.__init__" s_Shelf___init__ (He.fAd K ("Shelf", some "__init__")) fd_Shelf___init__ := F_Shelf___init__
  obtain ⟨fd_Going___init__, F_Going___init__⟩ := cd.def_ 47 (d := dD ("Going", some "__init__") "__init__" "Going.__init__" s_Going___init__) rfl
  have F_Going___init__ : FnP K "__init__" "Going.__init__" s_Going___init__ (He.fAd K ("Going", some "__init__")) fd_Going___init__ := F_Going___init__
  obtain ⟨fd_Old_things, F_Old_things⟩ := cd.def_ 48 (d := dD ("Old", some "things") "things" "Shelf.things" s_Shelf_things) rfl
  have F_Old_things : FnP K "things" "Shelf.things" s_Shelf_things (He.fAd K ("Old", some "things")) fd_Old_things := F_Old_things
  obtain ⟨fd_Old_met, F_Old_met⟩ := cd.def_ 49 (d := dD ("Old", some "met") "met" "Shelf.met" s_Shelf_met) rfl
  have F_Old_met : FnP K "met" "Shelf.met" s_Shelf_met (He.fAd K ("Old", some "met")) fd_Old_met := F_Old_met
  obtain ⟨fd_Old_missed, F_Old_missed⟩ := cd.def_ 50 (d := dD ("Old", some "missed") "missed" "Shelf.missed" s_Shelf_missed) rfl
  have F_Old_missed : FnP K "missed" "Shelf.missed" s_Shelf_missed (He.fAd K ("Old", some "missed")) fd_Old_missed := F_Old_missed
  obtain ⟨fd_Old_order, F_Old_order⟩ := cd.def_ 51 (d := dD ("Old", some "order") "order" "Old.order" s_Old_order) rfl
  have F_Old_order : FnP K "order" "Old.order" s_Old_order (He.fAd K ("Old", some "order")) fd_Old_order := F_Old_order
  obtain ⟨fd_Cold_things, F_Cold_things⟩ := cd.def_ 52 (d := dD ("Cold", some "things") "things" "Shelf.things" s_Shelf_things) rfl
  have F_Cold_things : FnP K "things" "Shelf.things" s_Shelf_things (He.fAd K ("Cold", some "things")) fd_Cold_things := F_Cold_things
  obtain ⟨fd_Cold_met, F_Cold_met⟩ := cd.def_ 53 (d := dD ("Cold", some "met") "met" "Shelf.met" s_Shelf_met) rfl
  have F_Cold_met : FnP K "met" "Shelf.met" s_Shelf_met (He.fAd K ("Cold", some "met")) fd_Cold_met := F_Cold_met
  obtain ⟨fd_Cold_missed, F_Cold_missed⟩ := cd.def_ 54 (d := dD ("Cold", some "missed") "missed" "Shelf.missed" s_Shelf_missed) rfl
  have F_Cold_missed : FnP K "missed" "Shelf.missed" s_Shelf_missed (He.fAd K ("Cold", some "missed")) fd_Cold_missed := F_Cold_missed
  obtain ⟨fd_Cold_order, F_Cold_order⟩ := cd.def_ 55 (d := dD ("Cold", some "order") "order" "Cold.order" s_Cold_order) rfl
  have F_Cold_order : FnP K "order" "Cold.order" s_Cold_order (He.fAd K ("Cold", some "order")) fd_Cold_order := F_Cold_order
  obtain ⟨fd_Marked_things, F_Marked_things⟩ := cd.def_ 56 (d := dD ("Marked", some "things") "things" "Shelf.things" s_Shelf_things) rfl
  have F_Marked_things : FnP K "things" "Shelf.things" s_Shelf_things (He.fAd K ("Marked", some "things")) fd_Marked_things := F_Marked_things
  obtain ⟨fd_Marked_met, F_Marked_met⟩ := cd.def_ 57 (d := dD ("Marked", some "met") "met" "Shelf.met" s_Shelf_met) rfl
  have F_Marked_met : FnP K "met" "Shelf.met" s_Shelf_met (He.fAd K ("Marked", some "met")) fd_Marked_met := F_Marked_met
  obtain ⟨fd_Marked_missed, F_Marked_missed⟩ := cd.def_ 58 (d := dD ("Marked", some "missed") "missed" "Shelf.missed" s_Shelf_missed) rfl
  have F_Marked_missed : FnP K "missed" "Shelf.missed" s_Shelf_missed (He.fAd K ("Marked", some "missed")) fd_Marked_missed := F_Marked_missed
  obtain ⟨fd_Marked_marks, F_Marked_marks⟩ := cd.def_ 59 (d := dD ("Marked", some "marks") "marks" "Marked.marks" s_Marked_marks) rfl
  have F_Marked_marks : FnP K "marks" "Marked.marks" s_Marked_marks (He.fAd K ("Marked", some "marks")) fd_Marked_marks := F_Marked_marks
  obtain ⟨fd_Marked_rounds, F_Marked_rounds⟩ := cd.def_ 60 (d := dD ("Marked", some "rounds") "rounds" "Marked.rounds" s_Marked_rounds) rfl
  have F_Marked_rounds : FnP K "rounds" "Marked.rounds" s_Marked_rounds (He.fAd K ("Marked", some "rounds")) fd_Marked_rounds := F_Marked_rounds
  have e := hfa.symm.trans g_law
  cases e
  have hx := c.more
  unfold exL at hx
  simp only [Bool.and_eq_true, decide_eq_true_eq] at hx
  obtain ⟨⟨⟨⟨⟨⟨⟨⟨⟨⟨⟨⟨⟨⟨⟨⟨⟨⟨⟨⟨⟨⟨⟨⟨⟨⟨⟨⟨⟨⟨⟨⟨⟨⟨⟨⟨⟨⟨⟨⟨⟨⟨⟨⟨⟨⟨⟨⟨⟨⟨⟨⟨⟨⟨⟨⟨⟨⟨x0, x1⟩, x2⟩, x3⟩, x4⟩, x5⟩, x6⟩, x7⟩, x8⟩, x9⟩, x10⟩, x11⟩, x12⟩, x13⟩, x14⟩, x15⟩, x16⟩, x17⟩, x18⟩, x19⟩, x20⟩, x21⟩, x22⟩, x23⟩, x24⟩, x25⟩, x26⟩, x27⟩, x28⟩, x29⟩, x30⟩, x31⟩, x32⟩, x33⟩, x34⟩, x35⟩, x36⟩, x37⟩, x38⟩, x39⟩, x40⟩, x41⟩, x42⟩, x43⟩, x44⟩, x45⟩, x46⟩, x47⟩, x48⟩, x49⟩, x50⟩, x51⟩, x52⟩, x53⟩, x54⟩, x55⟩, x56⟩, x57⟩, x58⟩ := hx
  refine ⟨fd_law, [He.cT K ("is_name", none)], spLaw K, fun p hp => ?_, fun p hp => ?_, fun p hp => ?_, fun s u => ?_, fun H a ns hl _ hT hS => ?_, fun base KX hN hTB => ?_⟩
  · rw [List.mem_singleton.mp hp]
    exact c.empty _ (by unfold tfL; exact List.mem_cons_self)
  · rw [List.mem_singleton.mp hp]
    exact c.out _ (by unfold tfL; exact List.mem_cons_self)
  · rw [List.mem_singleton.mp hp]
    exact PySem.W.codeHd_of_K X (c.hd _ (by unfold tfL; exact List.mem_cons_self))
  · exact FunD.bindsA (ps := ["_law_script"]) F_law (fun _ _ _ _ _ _ us hl => match us, hl with | [_], _ => rfl) s [u] rfl
  · exact ⟨a, ns, rfl, hS, hl, ⟨#[], hT _ List.mem_cons_self, trivial⟩, fun _ => rfl⟩
  have TB0 := hTB _ (List.mem_cons_self)
  have TB : GxR.TabB base mg (cIsName K) (tbOf K) := ⟨TB0.code, TB0.bm, TB0.gP⟩
  have G_is_name : Glob PySem.Challenge.rw_keepfew_k04_refused.prog w K mg base CX0 1 "is_name" ["value"] (spIsName K) := glob_of F_is_name g_is_name (fun _ _ _ _ _ _ us hl => match us, hl with | [_], _ => rfl) (ok_isname F_is_name TB n_MOST_LETTERS z_type z_str z_len z_all)
  have G_check_name : Glob PySem.Challenge.rw_keepfew_k04_refused.prog w K mg base CX0 2 "check_name" ["name"] (spCheckName K) := glob_of F_check_name g_check_name (fun _ _ _ _ _ _ us hl => match us, hl with | [_], _ => rfl) (ok_checkname F_check_name G_is_name)
  have G_check_wishes : Glob PySem.Challenge.rw_keepfew_k04_refused.prog w K mg base CX0 2 "check_wishes" ["wishes"] (spCheckWishes K) := glob_of F_check_wishes g_check_wishes (fun _ _ _ _ _ _ us hl => match us, hl with | [_], _ => rfl) (ok_checkwishes F_check_wishes G_is_name n_MOST_WISHES z_type z_list z_len z_enumerate)
  have G__law_mixed : Glob PySem.Challenge.rw_keepfew_k04_refused.prog w K mg base CX0 1 "_law_mixed" ["_law_cell", "_law_k"] spMixed := glob_of F__law_mixed g__law_mixed (fun _ _ _ _ _ _ us hl => match us, hl with | [_, _], _ => rfl) (ok_mixed F__law_mixed)
  have G__law_names : Glob PySem.Challenge.rw_keepfew_k04_refused.prog w K mg base CX0 1 "_law_names" ["_law_number", "_law_many"] (spNames (tbOf K)) := glob_of F__law_names g__law_names (fun _ _ _ _ _ _ us hl => match us, hl with | [_, _], _ => rfl) (ok_names F__law_names z_range z_enumerate)
  have G__law_drawn : Glob PySem.Challenge.rw_keepfew_k04_refused.prog w K mg base CX0 2 "_law_drawn" ["_law_script", "_law_most"] (spDrawn K (tbOf K)) := glob_of F__law_drawn g__law_drawn (fun _ _ _ _ _ _ us hl => match us, hl with | [_, _], _ => rfl) (ok_drawn F__law_drawn G__law_mixed G__law_names z_len z_sum z_int z_enumerate)
  have G_check_places : Glob PySem.Challenge.rw_keepfew_k04_refused.prog w K mg base CX0 1 "check_places" ["places"] spCheckPlaces := glob_of F_check_places g_check_places (fun _ _ _ _ _ _ us hl => match us, hl with | [_], _ => rfl) (ok_checkplaces F_check_places n_MOST_PLACES z_type z_int)
  have TG : ClsG K (He.ga K "Going") := ⟨cl_Going, na_Going_were_met, na_Going_went⟩
  have K_Going : MakeOk PySem.Challenge.rw_keepfew_k04_refused.prog w K mg base CX0 1 "Going" (He.ga K "Going") ["self", "were_met", "went"] (spGoInit (tbOf K) (He.ga K "Going")) := ⟨_, fd_Going___init__, g_Going, mk_Going, binds_of F_Going___init__ (fun _ _ _ _ _ _ us hl => match us, hl with | [_, _, _], _ => rfl), ok_goinit F_Going___init__ TG z_list⟩
  have G__wished_again : Glob PySem.Challenge.rw_keepfew_k04_refused.prog w K mg base CX0 1 "_wished_again" ["wishes"] (spWished (tbOf K)) := glob_of F__wished_again g__wished_again (fun _ _ _ _ _ _ us hl => match us, hl with | [_], _ => rfl) (ok_wished F__wished_again z_range z_len)
  have G__latest_again : Glob PySem.Challenge.rw_keepfew_k04_refused.prog w K mg base CX0 1 "_latest_again" ["again"] (spLatest (tbOf K)) := glob_of F__latest_again g__latest_again (fun _ _ _ _ _ _ us hl => match us, hl with | [_], _ => rfl) (ok_latest F__latest_again z_max z_min)
  have G_best : Glob PySem.Challenge.rw_keepfew_k04_refused.prog w K mg base CX0 5 "best" ["places", "wishes"] (spBest (He.ga K "Going") (tbOf K)) := glob_of F_best g_best (fun _ _ _ _ _ _ us hl => match us, hl with | [_, _], _ => rfl) (ok_best (k0 := 2) F_best z_len z_zip (G_check_places.mono (by decide)) (G_check_wishes.mono (by decide)) (G__wished_again.mono (by decide)) (G__latest_again.mono (by decide)) (K_Going.mono (by decide)))
  have T_Old : ClsT K (He.ga K "Old") := ⟨cl_Old, na_Old__size, na_Old__row, na_Old__met, na_Old__missed⟩
  have T_Cold : ClsT K (He.ga K "Cold") := ⟨cl_Cold, na_Cold__size, na_Cold__row, na_Cold__met, na_Cold__missed⟩
  have T_Marked : ClsT K (He.ga K "Marked") := ⟨cl_Marked, na_Marked__size, na_Marked__row, na_Marked__met, na_Marked__missed⟩
  have T2_Marked : ClsM K (He.ga K "Marked") := ⟨na_Marked__marks, na_Marked__rounds⟩
  have K_Old : MakeOk PySem.Challenge.rw_keepfew_k04_refused.prog w K mg base CX0 2 "Old" (He.ga K "Old") ["self", "places"] (spInit (tbOf K) (He.ga K "Old")) := ⟨_, fd_Old___init__, g_Old, mk_Old, binds_of F_Old___init__ (fun _ _ _ _ _ _ us hl => match us, hl with | [_, _], _ => rfl), ok_init F_Old___init__ T_Old G_check_places⟩
  have M_Old__pick_going : MethOk PySem.Challenge.rw_keepfew_k04_refused.prog w K mg base CX0 1 (He.ga K "Old") "_pick_going" ["self"] (spPickOC (He.ga K "Old")) := ⟨_, fd_Old__pick_going, cl_Old, me_Old__pick_going, binds_of F_Old__pick_going (fun _ _ _ _ _ _ us hl => match us, hl with | [_], _ => rfl), ok_opick F_Old__pick_going T_Old⟩
  have M_Old__note_wish : MethOk PySem.Challenge.rw_keepfew_k04_refused.prog w K mg base CX0 1 (He.ga K "Old") "_note_wish" ["self", "name"] (spNoteOC nfOld (tbOf K) (He.ga K "Old")) := ⟨_, fd_Old__note_wish, cl_Old, me_Old__note_wish, binds_of F_Old__note_wish (fun _ _ _ _ _ _ us hl => match us, hl with | [_, _], _ => rfl), ok_note F_Old__note_wish⟩
  have M_Old__free_a_place : MethOk PySem.Challenge.rw_keepfew_k04_refused.prog w K mg base CX0 2 (He.ga K "Old") "_free_a_place" ["self"] (spFreeOC (tbOf K) (He.ga K "Old")) := ⟨_, fd_Old__free_a_place, cl_Old, me_Old__free_a_place, binds_of F_Old__free_a_place (fun _ _ _ _ _ _ us hl => match us, hl with | [_], _ => rfl), ok_freeOC F_Old__free_a_place T_Old z_len M_Old__pick_going⟩
  have M_Old_wish : MethOk PySem.Challenge.rw_keepfew_k04_refused.prog w K mg base CX0 3 (He.ga K "Old") "wish" ["self", "name"] (spWishOC nfOld (tbOf K) (He.ga K "Old")) := ⟨_, fd_Old_wish, cl_Old, me_Old_wish, binds_of F_Old_wish (fun _ _ _ _ _ _ us hl => match us, hl with | [_, _], _ => rfl), ok_wishOC (k0 := 0) F_Old_wish T_Old G_check_name M_Old__free_a_place (M_Old__note_wish.mono (by decide))⟩
  have K_Cold : MakeOk PySem.Challenge.rw_keepfew_k04_refused.prog w K mg base CX0 2 "Cold" (He.ga K "Cold") ["self", "places"] (spInit (tbOf K) (He.ga K "Cold")) := ⟨_, fd_Cold___init__, g_Cold, mk_Cold, binds_of F_Cold___init__ (fun _ _ _ _ _ _ us hl => match us, hl with | [_, _], _ => rfl), ok_init F_Cold___init__ T_Cold G_check_places⟩
  have M_Cold__pick_going : MethOk PySem.Challenge.rw_keepfew_k04_refused.prog w K mg base CX0 1 (He.ga K "Cold") "_pick_going" ["self"] (spPickOC (He.ga K "Cold")) := ⟨_, fd_Cold__pick_going, cl_Cold, me_Cold__pick_going, binds_of F_Cold__pick_going (fun _ _ _ _ _ _ us hl => match us, hl with | [_], _ => rfl), ok_cpick F_Cold__pick_going T_Cold⟩
  have M_Cold__note_wish : MethOk PySem.Challenge.rw_keepfew_k04_refused.prog w K mg base CX0 1 (He.ga K "Cold") "_note_wish" ["self", "name"] (spNoteOC nfCold (tbOf K) (He.ga K "Cold")) := ⟨_, fd_Cold__note_wish, cl_Cold, me_Cold__note_wish, binds_of F_Cold__note_wish (fun _ _ _ _ _ _ us hl => match us, hl with | [_, _], _ => rfl), ok_cnote F_Cold__note_wish T_Cold⟩
  have M_Cold__free_a_place : MethOk PySem.Challenge.rw_keepfew_k04_refused.prog w K mg base CX0 2 (He.ga K "Cold") "_free_a_place" ["self"] (spFreeOC (tbOf K) (He.ga K "Cold")) := ⟨_, fd_Cold__free_a_place, cl_Cold, me_Cold__free_a_place, binds_of F_Cold__free_a_place (fun _ _ _ _ _ _ us hl => match us, hl with | [_], _ => rfl), ok_freeOC F_Cold__free_a_place T_Cold z_len M_Cold__pick_going⟩
  have M_Cold_wish : MethOk PySem.Challenge.rw_keepfew_k04_refused.prog w K mg base CX0 3 (He.ga K "Cold") "wish" ["self", "name"] (spWishOC nfCold (tbOf K) (He.ga K "Cold")) := ⟨_, fd_Cold_wish, cl_Cold, me_Cold_wish, binds_of F_Cold_wish (fun _ _ _ _ _ _ us hl => match us, hl with | [_, _], _ => rfl), ok_wishOC (k0 := 0) F_Cold_wish T_Cold G_check_name M_Cold__free_a_place (M_Cold__note_wish.mono (by decide))⟩
  have K_Marked : MakeOk PySem.Challenge.rw_keepfew_k04_refused.prog w K mg base CX0 3 "Marked" (He.ga K "Marked") ["self", "places"] (spInitM (tbOf K) (He.ga K "Marked")) := ⟨_, fd_Marked___init__, g_Marked, mk_Marked, binds_of F_Marked___init__ (fun _ _ _ _ _ _ us hl => match us, hl with | [_, _], _ => rfl), ok_minit (k0 := 1) F_Marked___init__ T_Marked T2_Marked g_Shelf (mc := .type "type") ⟨x0, x1⟩ ⟨fclsB_ok x2, rfl⟩ (ok_init F_Shelf___init__ T_Marked G_check_places) F_Shelf___init__.kp (binds_of F_Shelf___init__ (fun _ _ _ _ _ _ us hl => match us, hl with | [_, _], _ => rfl))⟩
  have M_Marked__pick_going : MethOk PySem.Challenge.rw_keepfew_k04_refused.prog w K mg base CX0 1 (He.ga K "Marked") "_pick_going" ["self"] (spPickM (tbOf K) (He.ga K "Marked")) := ⟨_, fd_Marked__pick_going, cl_Marked, me_Marked__pick_going, binds_of F_Marked__pick_going (fun _ _ _ _ _ _ us hl => match us, hl with | [_], _ => rfl), ok_mpick F_Marked__pick_going T_Marked T2_Marked z_len z_min⟩
  have M_Marked__note_wish : MethOk PySem.Challenge.rw_keepfew_k04_refused.prog w K mg base CX0 1 (He.ga K "Marked") "_note_wish" ["self", "name"] (spNoteM (tbOf K) (He.ga K "Marked")) := ⟨_, fd_Marked__note_wish, cl_Marked, me_Marked__note_wish, binds_of F_Marked__note_wish (fun _ _ _ _ _ _ us hl => match us, hl with | [_, _], _ => rfl), ok_mnote F_Marked__note_wish T_Marked T2_Marked⟩
  have M_Marked__free_a_place : MethOk PySem.Challenge.rw_keepfew_k04_refused.prog w K mg base CX0 2 (He.ga K "Marked") "_free_a_place" ["self"] (spFreeM (tbOf K) (He.ga K "Marked")) := ⟨_, fd_Marked__free_a_place, cl_Marked, me_Marked__free_a_place, binds_of F_Marked__free_a_place (fun _ _ _ _ _ _ us hl => match us, hl with | [_], _ => rfl), ok_mfree F_Marked__free_a_place T_Marked z_len M_Marked__pick_going⟩
  have M_Marked_wish : MethOk PySem.Challenge.rw_keepfew_k04_refused.prog w K mg base CX0 3 (He.ga K "Marked") "wish" ["self", "name"] (spWishM (tbOf K) (He.ga K "Marked")) := ⟨_, fd_Marked_wish, cl_Marked, me_Marked_wish, binds_of F_Marked_wish (fun _ _ _ _ _ _ us hl => match us, hl with | [_, _], _ => rfl), ok_mwish (k0 := 0) F_Marked_wish T_Marked G_check_name M_Marked__free_a_place (M_Marked__note_wish.mono (by decide))⟩
  have MW : ∀ r, MethOk PySem.Challenge.rw_keepfew_k04_refused.prog w K mg base CX0 3 (clsR K r) "wish" ["self", "name"] (spWishR (clsR K) (tbOf K) r) := meth_wishR (C := clsR K) M_Old_wish M_Cold_wish M_Marked_wish
  have G_check_rule : Glob PySem.Challenge.rw_keepfew_k04_refused.prog w K mg base CX0 1 "check_rule" ["rule"] spCheckRule := glob_of F_check_rule g_check_rule (fun _ _ _ _ _ _ us hl => match us, hl with | [_], _ => rfl) (ok_checkrule F_check_rule g_RULES (fun H => He.tupB_ok x3 H) z_type z_str)
  have G_shelf_of : Glob PySem.Challenge.rw_keepfew_k04_refused.prog w K mg base CX0 5 "shelf_of" ["rule", "places"] (spShelfOf (clsR K) (tbOf K)) := glob_of F_shelf_of g_shelf_of (fun _ _ _ _ _ _ us hl => match us, hl with | [_, _], _ => rfl) (ok_shelfof (k0 := 3) (C := clsR K) F_shelf_of (G_check_rule.mono (by decide)) (K_Old.mono (by decide)) (K_Cold.mono (by decide)) K_Marked)
  have G_going : Glob PySem.Challenge.rw_keepfew_k04_refused.prog w K mg base CX0 6 "going" ["rule", "places", "wishes"] (spGoing (clsR K) (He.ga K "Going") (tbOf K)) := glob_of F_going g_going (fun _ _ _ _ _ _ us hl => match us, hl with | [_, _, _], _ => rfl) (ok_going (k0 := 3) (C := clsR K) F_going G_shelf_of (G_check_wishes.mono (by decide)) (fun r => (MW r).mono (by decide)) (K_Going.mono (by decide)))
  have G_depths : Glob PySem.Challenge.rw_keepfew_k04_refused.prog w K mg base CX0 3 "depths" ["wishes"] (spDepths (tbOf K)) := glob_of F_depths g_depths (fun _ _ _ _ _ _ us hl => match us, hl with | [_], _ => rfl) (ok_depths F_depths z_len G_check_wishes)
  have G__met : Glob PySem.Challenge.rw_keepfew_k04_refused.prog w K mg base CX0 3 "_met" ["told", "places"] (spMetP (tbOf K)) := glob_of F__met g__met (fun _ _ _ _ _ _ us hl => match us, hl with | [_, _], _ => rfl) (ok_metp (k0 := 2) F__met z_len)
  have G_missed_by_places : Glob PySem.Challenge.rw_keepfew_k04_refused.prog w K mg base CX0 4 "missed_by_places" ["wishes"] (spMissedBy (tbOf K)) := glob_of F_missed_by_places g_missed_by_places (fun _ _ _ _ _ _ us hl => match us, hl with | [_], _ => rfl) (ok_mbp F_missed_by_places n_MOST_PLACES z_len z_range G_depths G__met)
  have G_stretches : Glob PySem.Challenge.rw_keepfew_k04_refused.prog w K mg base CX0 3 "stretches" ["wishes"] (spStretches (tbOf K)) := glob_of F_stretches g_stretches (fun _ _ _ _ _ _ us hl => match us, hl with | [_], _ => rfl) (ok_stretches F_stretches z_enumerate G_check_wishes)
  have G__least_allowed : Glob PySem.Challenge.rw_keepfew_k04_refused.prog w K mg base CX0 1 "_least_allowed" ["at", "allowed", "again"] (spLeast (tbOf K)) := glob_of F__least_allowed g__least_allowed (fun _ _ _ _ _ _ us hl => match us, hl with | [_, _, _], _ => rfl) (ok_least F__least_allowed z_range z_min)
  have G__bars_ahead : Glob PySem.Challenge.rw_keepfew_k04_refused.prog w K mg base CX0 2 "_bars_ahead" ["places", "pairs", "end"] (spBah (tbOf K)) := glob_of F__bars_ahead g__bars_ahead (fun _ _ _ _ _ _ us hl => match us, hl with | [_, _, _], _ => rfl) (ok_bah F__bars_ahead z_range G__least_allowed)
  have G_bars : Glob PySem.Challenge.rw_keepfew_k04_refused.prog w K mg base CX0 4 "bars" ["places", "wishes"] (spBars (tbOf K)) := glob_of F_bars g_bars (fun _ _ _ _ _ _ us hl => match us, hl with | [_, _], _ => rfl) (ok_bars (k0 := 1) F_bars z_len (G_check_places.mono (by decide)) (G__bars_ahead.mono (by decide)) G_stretches)
  have G__firsts : Glob PySem.Challenge.rw_keepfew_k04_refused.prog w K mg base CX0 6 "_firsts" ["places", "missed"] (spFirsts (tbOf K)) := glob_of F__firsts g__firsts (fun _ _ _ _ _ _ us hl => match us, hl with | [_, _], _ => rfl) (ok_firsts (k0 := 5) F__firsts z_len)
  have G_blocks : Glob PySem.Challenge.rw_keepfew_k04_refused.prog w K mg base CX0 7 "blocks" ["places", "wishes"] (spBlocks (tbOf K)) := glob_of F_blocks g_blocks (fun _ _ _ _ _ _ us hl => match us, hl with | [_, _], _ => rfl) (ok_blocks (k0 := 5) (C := clsR K) F_blocks TG z_len z_enumerate z_reversed G_going G__firsts)
  have E_BadName : ExT K mg "BadName" (ceK K .name) := ⟨g_BadName, xP_BadName, kP_BadName, bP_BadName, tP_BadName⟩
  have E_BadPlaces : ExT K mg "BadPlaces" (ceK K .places) := ⟨g_BadPlaces, xP_BadPlaces, kP_BadPlaces, bP_BadPlaces, tP_BadPlaces⟩
  have E_BadRule : ExT K mg "BadRule" (ceK K .rule) := ⟨g_BadRule, xP_BadRule, kP_BadRule, bP_BadRule, tP_BadRule⟩
  have E_BadWishes : ExT K mg "BadWishes" (ceK K .wishes) := ⟨g_BadWishes, xP_BadWishes, kP_BadWishes, bP_BadWishes, tP_BadWishes⟩
  have TE : Errs K mg (ceK K) := by
    refine ⟨fun w => ?_, fun w v => ?_, fun w => ?_, g_BadName, g_BadPlaces, g_BadRule, g_BadWishes⟩
    · cases w
      · exact ⟨x6, x7, bP_BadName, x8, x9, x4, x5, x10⟩
      · exact ⟨x17, x18, bP_BadPlaces, x19, x20, x4, x5, x21⟩
      · exact ⟨x28, x29, bP_BadRule, x30, x31, x4, x5, x32⟩
      · exact ⟨x39, x40, bP_BadWishes, x41, x42, x4, x5, x43⟩
    · cases w <;> cases v
      · exact x13
      · exact x14
      · exact x15
      · exact x16
      · exact x24
      · exact x25
      · exact x26
      · exact x27
      · exact x35
      · exact x36
      · exact x37
      · exact x38
      · exact x46
      · exact x47
      · exact x48
      · exact x49
    · cases w
      · exact x12
      · exact x23
      · exact x34
      · exact x45
  have EM : ∀ w, PySem.W.exmOne K (.ref (ceK K w)) (.ref (He.ga K "KeepError")) = some true := fun w => by
    cases w
    · exact x11
    · exact x22
    · exact x33
    · exact x44
  have X_check_name : Glob PySem.Challenge.rw_keepfew_k04_refused.prog w K mg base (L2.CX PySem.Challenge.rw_keepfew_k04_refused.prog w) 2 "check_name" ["name"] (spRef BadN (ceK K .name) K) := glob_of F_check_name g_check_name (fun _ _ _ _ _ _ us hl => match us, hl with | [_], _ => rfl) (rf_checkname F_check_name E_BadName G_is_name)
  have X_check_places : Glob PySem.Challenge.rw_keepfew_k04_refused.prog w K mg base (L2.CX PySem.Challenge.rw_keepfew_k04_refused.prog w) 1 "check_places" ["places"] (spRef BadP (ceK K .places) K) := glob_of F_check_places g_check_places (fun _ _ _ _ _ _ us hl => match us, hl with | [_], _ => rfl) (rf_checkplaces F_check_places E_BadPlaces n_MOST_PLACES z_type z_int)
  have X_check_rule : Glob PySem.Challenge.rw_keepfew_k04_refused.prog w K mg base (L2.CX PySem.Challenge.rw_keepfew_k04_refused.prog w) 1 "check_rule" ["rule"] (spRef BadR (ceK K .rule) K) := glob_of F_check_rule g_check_rule (fun _ _ _ _ _ _ us hl => match us, hl with | [_], _ => rfl) (rf_checkrule F_check_rule E_BadRule g_RULES (fun H => He.tupB_ok x3 H) z_type z_str)
  have X_check_wishes : Glob PySem.Challenge.rw_keepfew_k04_refused.prog w K mg base (L2.CX PySem.Challenge.rw_keepfew_k04_refused.prog w) 2 "check_wishes" ["wishes"] (spRef BadW (ceK K .wishes) K) := glob_of F_check_wishes g_check_wishes (fun _ _ _ _ _ _ us hl => match us, hl with | [_], _ => rfl) (rf_checkwishes F_check_wishes E_BadWishes G_is_name n_MOST_WISHES z_type z_list z_len z_enumerate)
  have XK_Old : MakeOk PySem.Challenge.rw_keepfew_k04_refused.prog w K mg base (L2.CX PySem.Challenge.rw_keepfew_k04_refused.prog w) 3 "Old" (He.ga K "Old") ["self", "places"] (spRefI (ceK K .places) K) := ⟨_, fd_Old___init__, g_Old, mk_Old, binds_of F_Old___init__ (fun _ _ _ _ _ _ us hl => match us, hl with | [_, _], _ => rfl), (rf_init (k0 := 1) F_Old___init__ X_check_places).mono (by decide)⟩
  have XK_Cold : MakeOk PySem.Challenge.rw_keepfew_k04_refused.prog w K mg base (L2.CX PySem.Challenge.rw_keepfew_k04_refused.prog w) 3 "Cold" (He.ga K "Cold") ["self", "places"] (spRefI (ceK K .places) K) := ⟨_, fd_Cold___init__, g_Cold, mk_Cold, binds_of F_Cold___init__ (fun _ _ _ _ _ _ us hl => match us, hl with | [_, _], _ => rfl), (rf_init (k0 := 1) F_Cold___init__ X_check_places).mono (by decide)⟩
  have XK_Marked : MakeOk PySem.Challenge.rw_keepfew_k04_refused.prog w K mg base (L2.CX PySem.Challenge.rw_keepfew_k04_refused.prog w) 3 "Marked" (He.ga K "Marked") ["self", "places"] (spRefI (ceK K .places) K) := ⟨_, fd_Marked___init__, g_Marked, mk_Marked, binds_of F_Marked___init__ (fun _ _ _ _ _ _ us hl => match us, hl with | [_, _], _ => rfl), rf_minit (k0 := 2) F_Marked___init__ g_Shelf (mc := .type "type") ⟨x0, x1⟩ ⟨fclsB_ok x2, rfl⟩ (rf_init (k0 := 1) F_Shelf___init__ X_check_places) F_Shelf___init__.kp (binds_of F_Shelf___init__ (fun _ _ _ _ _ _ us hl => match us, hl with | [_, _], _ => rfl))⟩
  have X_shelf_of : Glob PySem.Challenge.rw_keepfew_k04_refused.prog w K mg base (L2.CX PySem.Challenge.rw_keepfew_k04_refused.prog w) 5 "shelf_of" ["rule", "places"] (spRefSh (ceK K .rule) (ceK K .places) K) := glob_of F_shelf_of g_shelf_of (fun _ _ _ _ _ _ us hl => match us, hl with | [_, _], _ => rfl) (rf_shelfof (k0 := 3) (C := clsR K) F_shelf_of (X_check_rule.mono (by decide)) (G_check_rule.mono (by decide)) XK_Old XK_Cold XK_Marked)
  have X_going : Glob PySem.Challenge.rw_keepfew_k04_refused.prog w K mg base (L2.CX PySem.Challenge.rw_keepfew_k04_refused.prog w) 6 "going" ["rule", "places", "wishes"] (spRefG (ceK K .rule) (ceK K .places) (ceK K .wishes) K) := glob_of F_going g_going (fun _ _ _ _ _ _ us hl => match us, hl with | [_, _, _], _ => rfl) (rf_going (k0 := 5) (C := clsR K) F_going X_shelf_of G_shelf_of (X_check_wishes.mono (by decide)))
  have X_best : Glob PySem.Challenge.rw_keepfew_k04_refused.prog w K mg base (L2.CX PySem.Challenge.rw_keepfew_k04_refused.prog w) 3 "best" ["places", "wishes"] (spRefPW (ceK K .places) (ceK K .wishes) K) := glob_of F_best g_best (fun _ _ _ _ _ _ us hl => match us, hl with | [_, _], _ => rfl) (rf_best (k0 := 2) F_best (X_check_places.mono (by decide)) (G_check_places.mono (by decide)) X_check_wishes)
  have X_stretches : Glob PySem.Challenge.rw_keepfew_k04_refused.prog w K mg base (L2.CX PySem.Challenge.rw_keepfew_k04_refused.prog w) 3 "stretches" ["wishes"] (spRef BadW (ceK K .wishes) K) := glob_of F_stretches g_stretches (fun _ _ _ _ _ _ us hl => match us, hl with | [_], _ => rfl) (rf_stretches (k0 := 2) F_stretches X_check_wishes)
  have X_depths : Glob PySem.Challenge.rw_keepfew_k04_refused.prog w K mg base (L2.CX PySem.Challenge.rw_keepfew_k04_refused.prog w) 3 "depths" ["wishes"] (spRef BadW (ceK K .wishes) K) := glob_of F_depths g_depths (fun _ _ _ _ _ _ us hl => match us, hl with | [_], _ => rfl) (rf_depths (k0 := 2) F_depths X_check_wishes)
  have X_missed_by_places : Glob PySem.Challenge.rw_keepfew_k04_refused.prog w K mg base (L2.CX PySem.Challenge.rw_keepfew_k04_refused.prog w) 4 "missed_by_places" ["wishes"] (spRef BadW (ceK K .wishes) K) := glob_of F_missed_by_places g_missed_by_places (fun _ _ _ _ _ _ us hl => match us, hl with | [_], _ => rfl) (rf_mbp (k0 := 3) F_missed_by_places X_depths)
  have X_bars : Glob PySem.Challenge.rw_keepfew_k04_refused.prog w K mg base (L2.CX PySem.Challenge.rw_keepfew_k04_refused.prog w) 4 "bars" ["places", "wishes"] (spRefPW (ceK K .places) (ceK K .wishes) K) := glob_of F_bars g_bars (fun _ _ _ _ _ _ us hl => match us, hl with | [_, _], _ => rfl) (rf_bars (k0 := 3) F_bars z_len (X_check_places.mono (by decide)) (G_check_places.mono (by decide)) X_stretches (G__bars_ahead.mono (by decide)))
  have X_blocks : Glob PySem.Challenge.rw_keepfew_k04_refused.prog w K mg base (L2.CX PySem.Challenge.rw_keepfew_k04_refused.prog w) 7 "blocks" ["places", "wishes"] (spRefPW (ceK K .places) (ceK K .wishes) K) := glob_of F_blocks g_blocks (fun _ _ _ _ _ _ us hl => match us, hl with | [_, _], _ => rfl) (rf_blocks (k0 := 6) F_blocks X_going)
  have M_Old_things : MethOk PySem.Challenge.rw_keepfew_k04_refused.prog w K mg base CX0 1 (He.ga K "Old") "things" ["self"] (spList (tbOf K) (He.ga K "Old") sortS) := ⟨_, fd_Old_things, cl_Old, me_Old_things, binds_of F_Old_things (fun _ _ _ _ _ _ us hl => match us, hl with | [_], _ => rfl), ok_things F_Old_things T_Old z_sorted⟩
  have M_Old_met : MethOk PySem.Challenge.rw_keepfew_k04_refused.prog w K mg base CX0 1 (He.ga K "Old") "met" ["self"] (spInt (He.ga K "Old") fun _ m _ => m) := ⟨_, fd_Old_met, cl_Old, me_Old_met, binds_of F_Old_met (fun _ _ _ _ _ _ us hl => match us, hl with | [_], _ => rfl), ok_met F_Old_met T_Old⟩
  have M_Old_missed : MethOk PySem.Challenge.rw_keepfew_k04_refused.prog w K mg base CX0 1 (He.ga K "Old") "missed" ["self"] (spInt (He.ga K "Old") fun _ _ k => k) := ⟨_, fd_Old_missed, cl_Old, me_Old_missed, binds_of F_Old_missed (fun _ _ _ _ _ _ us hl => match us, hl with | [_], _ => rfl), ok_missed F_Old_missed T_Old⟩
  have XM_Old : MethOk PySem.Challenge.rw_keepfew_k04_refused.prog w K mg base (L2.CX PySem.Challenge.rw_keepfew_k04_refused.prog w) 3 (He.ga K "Old") "wish" ["self", "name"] (spRefWi (ceK K .name) K) := ⟨_, fd_Old_wish, cl_Old, me_Old_wish, binds_of F_Old_wish (fun _ _ _ _ _ _ us hl => match us, hl with | [_, _], _ => rfl), rf_wish (k0 := 2) F_Old_wish X_check_name⟩
  have M_Cold_things : MethOk PySem.Challenge.rw_keepfew_k04_refused.prog w K mg base CX0 1 (He.ga K "Cold") "things" ["self"] (spList (tbOf K) (He.ga K "Cold") sortS) := ⟨_, fd_Cold_things, cl_Cold, me_Cold_things, binds_of F_Cold_things (fun _ _ _ _ _ _ us hl => match us, hl with | [_], _ => rfl), ok_things F_Cold_things T_Cold z_sorted⟩
  have M_Cold_met : MethOk PySem.Challenge.rw_keepfew_k04_refused.prog w K mg base CX0 1 (He.ga K "Cold") "met" ["self"] (spInt (He.ga K "Cold") fun _ m _ => m) := ⟨_, fd_Cold_met, cl_Cold, me_Cold_met, binds_of F_Cold_met (fun _ _ _ _ _ _ us hl => match us, hl with | [_], _ => rfl), ok_met F_Cold_met T_Cold⟩
  have M_Cold_missed : MethOk PySem.Challenge.rw_keepfew_k04_refused.prog w K mg base CX0 1 (He.ga K "Cold") "missed" ["self"] (spInt (He.ga K "Cold") fun _ _ k => k) := ⟨_, fd_Cold_missed, cl_Cold, me_Cold_missed, binds_of F_Cold_missed (fun _ _ _ _ _ _ us hl => match us, hl with | [_], _ => rfl), ok_missed F_Cold_missed T_Cold⟩
  have XM_Cold : MethOk PySem.Challenge.rw_keepfew_k04_refused.prog w K mg base (L2.CX PySem.Challenge.rw_keepfew_k04_refused.prog w) 3 (He.ga K "Cold") "wish" ["self", "name"] (spRefWi (ceK K .name) K) := ⟨_, fd_Cold_wish, cl_Cold, me_Cold_wish, binds_of F_Cold_wish (fun _ _ _ _ _ _ us hl => match us, hl with | [_, _], _ => rfl), rf_wish (k0 := 2) F_Cold_wish X_check_name⟩
  have M_Marked_things : MethOk PySem.Challenge.rw_keepfew_k04_refused.prog w K mg base CX0 1 (He.ga K "Marked") "things" ["self"] (spList (tbOf K) (He.ga K "Marked") sortS) := ⟨_, fd_Marked_things, cl_Marked, me_Marked_things, binds_of F_Marked_things (fun _ _ _ _ _ _ us hl => match us, hl with | [_], _ => rfl), ok_things F_Marked_things T_Marked z_sorted⟩
  have M_Marked_met : MethOk PySem.Challenge.rw_keepfew_k04_refused.prog w K mg base CX0 1 (He.ga K "Marked") "met" ["self"] (spInt (He.ga K "Marked") fun _ m _ => m) := ⟨_, fd_Marked_met, cl_Marked, me_Marked_met, binds_of F_Marked_met (fun _ _ _ _ _ _ us hl => match us, hl with | [_], _ => rfl), ok_met F_Marked_met T_Marked⟩
  have M_Marked_missed : MethOk PySem.Challenge.rw_keepfew_k04_refused.prog w K mg base CX0 1 (He.ga K "Marked") "missed" ["self"] (spInt (He.ga K "Marked") fun _ _ k => k) := ⟨_, fd_Marked_missed, cl_Marked, me_Marked_missed, binds_of F_Marked_missed (fun _ _ _ _ _ _ us hl => match us, hl with | [_], _ => rfl), ok_missed F_Marked_missed T_Marked⟩
  have XM_Marked : MethOk PySem.Challenge.rw_keepfew_k04_refused.prog w K mg base (L2.CX PySem.Challenge.rw_keepfew_k04_refused.prog w) 3 (He.ga K "Marked") "wish" ["self", "name"] (spRefWi (ceK K .name) K) := ⟨_, fd_Marked_wish, cl_Marked, me_Marked_wish, binds_of F_Marked_wish (fun _ _ _ _ _ _ us hl => match us, hl with | [_, _], _ => rfl), rf_wish (k0 := 2) F_Marked_wish X_check_name⟩
  have M_Old_order : MethOk PySem.Challenge.rw_keepfew_k04_refused.prog w K mg base CX0 1 (He.ga K "Old") "order" ["self"] (spList (tbOf K) (He.ga K "Old") fun r => r) := ⟨_, fd_Old_order, cl_Old, me_Old_order, binds_of F_Old_order (fun _ _ _ _ _ _ us hl => match us, hl with | [_], _ => rfl), ok_oorder F_Old_order T_Old z_list⟩
  have M_Cold_order : MethOk PySem.Challenge.rw_keepfew_k04_refused.prog w K mg base CX0 1 (He.ga K "Cold") "order" ["self"] (spList (tbOf K) (He.ga K "Cold") fun r => r) := ⟨_, fd_Cold_order, cl_Cold, me_Cold_order, binds_of F_Cold_order (fun _ _ _ _ _ _ us hl => match us, hl with | [_], _ => rfl), ok_corder F_Cold_order T_Cold z_list⟩
  have M_Marked_marks : MethOk PySem.Challenge.rw_keepfew_k04_refused.prog w K mg base CX0 1 (He.ga K "Marked") "marks" ["self"] (spMarks (tbOf K) (He.ga K "Marked")) := ⟨_, fd_Marked_marks, cl_Marked, me_Marked_marks, binds_of F_Marked_marks (fun _ _ _ _ _ _ us hl => match us, hl with | [_], _ => rfl), ok_marks F_Marked_marks T_Marked T2_Marked z_sorted⟩
  have M_Marked_rounds : MethOk PySem.Challenge.rw_keepfew_k04_refused.prog w K mg base CX0 1 (He.ga K "Marked") "rounds" ["self"] (spRounds (He.ga K "Marked")) := ⟨_, fd_Marked_rounds, cl_Marked, me_Marked_rounds, binds_of F_Marked_rounds (fun _ _ _ _ _ _ us hl => match us, hl with | [_], _ => rfl), ok_rounds F_Marked_rounds T_Marked T2_Marked⟩
  have MT3 : ∀ r, MethOk PySem.Challenge.rw_keepfew_k04_refused.prog w K mg base CX0 1 (clsR K r) "things" ["self"] (spList (tbOf K) (clsR K r) sortS) := fun r => by
    cases r
    · exact M_Old_things
    · exact M_Cold_things
    · exact M_Marked_things
  have MM3 : ∀ r, MethOk PySem.Challenge.rw_keepfew_k04_refused.prog w K mg base CX0 1 (clsR K r) "met" ["self"] (spInt (clsR K r) fun _ m _ => m) := fun r => by
    cases r
    · exact M_Old_met
    · exact M_Cold_met
    · exact M_Marked_met
  have MI3 : ∀ r, MethOk PySem.Challenge.rw_keepfew_k04_refused.prog w K mg base CX0 1 (clsR K r) "missed" ["self"] (spInt (clsR K r) fun _ _ k => k) := fun r => by
    cases r
    · exact M_Old_missed
    · exact M_Cold_missed
    · exact M_Marked_missed
  have XW3 : ∀ r, MethOk PySem.Challenge.rw_keepfew_k04_refused.prog w K mg base (L2.CX PySem.Challenge.rw_keepfew_k04_refused.prog w) 3 (clsR K r) "wish" ["self", "name"] (spRefWi (ceK K .name) K) := fun r => by
    cases r
    · exact XM_Old
    · exact XM_Cold
    · exact XM_Marked
  have CL3 : ∀ r, Cls K (clsR K r) := fun r => by
    cases r
    · exact cl_Old
    · exact cl_Cold
    · exact cl_Marked
  have IT3 : ∀ r, InsT K (clsR K r) := fun r => by
    cases r
    · exact ⟨x50, x4, x5, x51⟩
    · exact ⟨x53, x4, x5, x54⟩
    · exact ⟨x56, x4, x5, x57⟩
  have IK3 : ∀ r, PySem.W.kitOne K (.ref (clsR K r)) (.ref (clsR K .marked)) = some (isM r) := fun r => by
    cases r
    · exact x52
    · exact x55
    · exact x58
  have G__law_kinds : Glob PySem.Challenge.rw_keepfew_k04_refused.prog w K mg base CX0 1 "_law_kinds" ["_law_error"] (spKinds (tbOf K) (ceK K)) := glob_of F__law_kinds g__law_kinds (fun _ _ _ _ _ _ us hl => match us, hl with | [_], _ => rfl) (ok_kinds F__law_kinds TE z_isinstance z_ValueError)
  have G__law_odd_name : Glob PySem.Challenge.rw_keepfew_k04_refused.prog w K mg base CX0 1 "_law_odd_name" ["_law_number"] (spOddN K) := glob_of F__law_odd_name g__law_odd_name (fun _ _ _ _ _ _ us hl => match us, hl with | [_], _ => rfl) (ok_oddn F__law_odd_name)
  have G__law_odd_places : Glob PySem.Challenge.rw_keepfew_k04_refused.prog w K mg base CX0 1 "_law_odd_places" ["_law_number"] (spOddP K) := glob_of F__law_odd_places g__law_odd_places (fun _ _ _ _ _ _ us hl => match us, hl with | [_], _ => rfl) (ok_oddp F__law_odd_places)
  have G__law_odd_wishes : Glob PySem.Challenge.rw_keepfew_k04_refused.prog w K mg base CX0 2 "_law_odd_wishes" ["_law_number", "_law_wishes"] (spOddW K) := glob_of F__law_odd_wishes g__law_odd_wishes (fun _ _ _ _ _ _ us hl => match us, hl with | [_, _], _ => rfl) (ok_oddw F__law_odd_wishes z_len z_tuple G__law_odd_name)
  have G__law_due : Glob PySem.Challenge.rw_keepfew_k04_refused.prog w K mg base CX0 1 "_law_due" ["_law_way", "_law_is_rule", "_law_is_places", "_law_is_wishes"] (spDue4 (tbOf K)) := glob_of F__law_due g__law_due (fun _ _ _ _ _ _ us hl => match us, hl with | [_, _, _, _], _ => rfl) (ok_due4 F__law_due)
  have G__law_state : Glob PySem.Challenge.rw_keepfew_k04_refused.prog w K mg base CX0 2 "_law_state" ["_law_shelf"] (spState (clsR K) (tbOf K)) := glob_of F__law_state g__law_state (fun _ _ _ _ _ _ us hl => match us, hl with | [_], _ => rfl) (ok_state (k0 := 1) (C := clsR K) F__law_state z_isinstance g_Marked CL3 IT3 IK3 MT3 MM3 MI3 M_Old_order M_Cold_order M_Marked_marks M_Marked_rounds)
  have G__law_wish_word : Glob PySem.Challenge.rw_keepfew_k04_refused.prog w K mg base CX0 4 "_law_wish_word" ["_law_shelf", "_law_name"] (spWW (clsR K) K) := glob_of F__law_wish_word g__law_wish_word (fun _ _ _ _ _ _ us hl => match us, hl with | [_, _], _ => rfl) (ok_ww (k0 := 3) (C := clsR K) F__law_wish_word g_KeepError EM XW3 (G__law_kinds.mono (by decide)))
  have G__law_asked : Glob PySem.Challenge.rw_keepfew_k04_refused.prog w K mg base CX0 8 "_law_asked" ["_law_way", "_law_rule", "_law_places_here", "_law_wishes"] (spAsked K) := glob_of F__law_asked g__law_asked (fun _ _ _ _ _ _ us hl => match us, hl with | [_, _, _, _], _ => rfl) (ok_asked (k0 := 6) (C := clsR K) F__law_asked g_KeepError EM (G__law_kinds.mono (by decide)) (G_going.mono (by decide)) (X_going.mono (by decide)) (G_best.mono (by decide)) (X_best.mono (by decide)) (G_bars.mono (by decide)) (X_bars.mono (by decide)) (G_blocks.mono (by decide)) (X_blocks.mono (by decide)) (G_depths.mono (by decide)) (X_depths.mono (by decide)) (G_missed_by_places.mono (by decide)) (X_missed_by_places.mono (by decide)) (G_stretches.mono (by decide)) (X_stretches.mono (by decide)) (G_shelf_of.mono (by decide)) (X_shelf_of.mono (by decide)) (K_Old.mono (by decide)) (XK_Old.mono (by decide)) (K_Cold.mono (by decide)) (XK_Cold.mono (by decide)) (K_Marked.mono (by decide)) (XK_Marked.mono (by decide)))
  exact ok_k04 (k0 := 1) (C := clsR K) F_law z_len z_list z_enumerate z_isinstance (G__law_drawn.mono (by decide)) (G_shelf_of.mono (by decide)) (fun r => (MW r).mono (by decide)) (G__law_state.mono (by decide)) (G__law_mixed.mono (by decide)) (G__law_wish_word.mono (by decide)) (G__law_odd_name.mono (by decide)) (G__law_odd_places.mono (by decide)) (G__law_odd_wishes.mono (by decide)) (G__law_asked.mono (by decide)) (G__law_due.mono (by decide))
end
end Kf
open PySem PySem.W PySem.Calls PyProof.Rows
theorem PySem.Challenge.cw_keepfew_k04_refused_holds : PySem.Challenge.rw_keepfew_k04_refused.Holds := by
  w_on; o_law
  refine HandSHeadRun.head_any (r := OpenLaw.row PySem.Challenge.rw_keepfew_k04_refused) (q := view (OpenLaw.row PySem.Challenge.rw_keepfew_k04_refused).prog [53]) (H := Kf.hkL) (ob := Kf.obL) (M := 9000) (loose := Kf.looseL) (d := HandSHeadRun.topDef (OpenLaw.row PySem.Challenge.rw_keepfew_k04_refused).prog 53) (kwd := []) Kf.obL_eq
    (by kernel_rfl) (fun s => by kernel_rfl) Kf.runL (by kernel_rfl) (by kernel_rfl) (by kernel_rfl) (by rfl) (by first | assumption | decide +kernel) (by decide +kernel) ⟨rfl, rfl, rfl, rfl, rfl, by decide +kernel⟩ ?hw ?hc
  case hw => w_witness2
  case hc =>
    refine LamX.walk_ofTsE (l := PySem.Challenge.rw_keepfew_k04_refused) (n := 63) (k := 9) (x := "_law_script") (CX := fun _ => L2.CX0) rfl (by decide) (by kernel_rfl) ⟨rfl, by decide, by decide⟩ ?F (fun _ _ _ _ _ z => z)
    intro w mg fa h Y G hmg0
    obtain ⟨K, KX, c⟩ := Y
    have hmg : mg ("law" : PySem.Str) = some (.ref fa) := by
      have e : (HandSHeadRun.topDef (OpenLaw.row PySem.Challenge.rw_keepfew_k04_refused).prog 53).name = ("law" : PySem.Str) := by kernel_rfl
      rw [← e]
      exact hmg0
    exact ⟨K, KX, Kf.lawAt KX G hmg c⟩
