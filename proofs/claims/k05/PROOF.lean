import PyProof.Rows.All
import Wide.All
import OpenK.AllK
import Wide.FinOn
import HandS.ForMost
import HandS.ForExc
import HandS.AnyAll
import HandS.SetFor
import HandS.Walk
import HandS.Style
import HandS.Strs
import HandS.IsInst
import HandS.More
import HandS.Flow
import HandS.Codes
import HandS.Defaults
import HandS.HeadHook1
import HandS.HeadHook2
import HandS.HeadHook3
import HandS.HeadHook4
import HandS.HeadWalk
import HandS.Head0
import HandS.Head1
import HandS.Head2
import PyProof.TypeEq
import PyProof.InstEq
import HandS.ClsMeth
import KE.KStateDown
import PySem.Challenge.RW_keepfew_k05_goings_by_rule
set_option Elab.async false
set_option linter.all false
set_option maxRecDepth 100000
set_option maxHeartbeats 8000000
/-! Order of texts, and rules of my own over flat lists: remove, count, min, sorted. -/
namespace Kf
open PySem PySem.Spec PyProof.Rows L2

/-! ### texts by letters -/
def ltB (a b : Str) : Bool := decide (a.cps.toList < b.cps.toList)
def leB (a b : Str) : Bool := !ltB b a
theorem ltB_irrefl (a : Str) : ltB a a = false := decide_eq_false (List.lt_irrefl _)
theorem leB_iff {a b : Str} : leB a b = true ↔ a.cps.toList ≤ b.cps.toList := by
  unfold leB ltB
  rw [Bool.not_eq_true', decide_eq_false_iff_not]
  exact List.not_lt
theorem leB_refl (a : Str) : leB a a = true := leB_iff.mpr (List.le_refl _)
theorem leB_trans {a b c : Str} (h : leB a b = true) (k : leB b c = true) : leB a c = true := leB_iff.mpr (List.le_trans (leB_iff.mp h) (leB_iff.mp k))
theorem leB_total (a b : Str) : leB a b = true ∨ leB b a = true := by
  rw [leB_iff, leB_iff]
  exact List.le_total _ _
theorem leB_antisymm {a b : Str} (h : leB a b = true) (k : leB b a = true) : a = b := ext_toList (List.le_antisymm (leB_iff.mp h) (leB_iff.mp k))
theorem ltB_leB {a b : Str} (h : ltB a b = true) : leB a b = true := leB_iff.mpr (List.le_of_lt (of_decide_eq_true h))
theorem leB_ne {a b : Str} (h : leB a b = true) (n : a ≠ b) : ltB a b = true := by
  cases e : ltB a b with
  | true => rfl
  | false =>
    have k : leB b a = true := by unfold leB; rw [e]; rfl
    exact absurd (leB_antisymm h k) n

/-! ### sorted texts -/
def sortS (xs : List Str) : List Str := xs.mergeSort leB
theorem sortS_perm (xs : List Str) : (sortS xs).Perm xs := List.mergeSort_perm xs leB
theorem sortS_pw (xs : List Str) : (sortS xs).Pairwise (fun a b => leB a b = true) :=
  List.pairwise_mergeSort (le := leB) (fun _ _ _ h k => leB_trans h k) (fun a b => by
    rcases leB_total a b with h | h <;> simp [h]) xs
theorem pw_uniq : ∀ {xs ys : List Str}, xs.Perm ys → xs.Pairwise (fun a b => leB a b = true) → ys.Pairwise (fun a b => leB a b = true) → xs = ys := fun {xs ys} p h k =>
  List.Perm.eq_of_pairwise (le := fun a b => leB a b = true) (fun _ _ _ _ h k => leB_antisymm h k) h k p
theorem sortS_of_perm {xs ys : List Str} (p : xs.Perm ys) : sortS xs = sortS ys := pw_uniq (((sortS_perm xs).trans p).trans (sortS_perm ys).symm) (sortS_pw xs) (sortS_pw ys)
theorem risingS_pw : ∀ {p : Str} {l : List Str}, risingS p l = true → (p :: l).Pairwise (fun a b => leB a b = true)
  | p, [], _ => List.pairwise_cons.mpr ⟨fun _ h => absurd h (by simp), List.Pairwise.nil⟩
  | p, x :: r, h => by
    have h2 : (!ltCps x.cps.toList p.cps.toList && risingS x r) = true := h
    rw [Bool.and_eq_true, ltCps_eq] at h2
    have ih := risingS_pw h2.2
    refine List.pairwise_cons.mpr ⟨fun y hy => ?_, ih⟩
    have px : leB p x = true := h2.1
    rcases List.mem_cons.mp hy with e | hy
    · rw [e]; exact px
    · exact leB_trans px ((List.pairwise_cons.mp ih).1 y hy)
theorem sortedS_pw {l : List Str} (h : sortedS l = true) : l.Pairwise (fun a b => leB a b = true) := by
  cases l with
  | nil => exact List.Pairwise.nil
  | cons x r => exact risingS_pw h
theorem sortS_eq {xs ys : List Str} (p : ys.Perm xs) (h : sortedS ys = true) : ys = sortS xs := pw_uniq (p.trans (sortS_perm xs).symm) (sortedS_pw h) (sortS_pw xs)

/-! ### the least text -/
def minS : List Str → Str
  | [] => ⟨#[]⟩
  | [x] => x
  | x :: r => if leB x (minS r) then x else minS r
theorem minS_spec : ∀ {l : List Str}, l ≠ [] → minS l ∈ l ∧ ∀ y ∈ l, leB (minS l) y = true
  | [], h => absurd rfl h
  | [x], _ => ⟨List.mem_cons_self, fun y hy => by rw [List.mem_singleton.mp hy]; exact leB_refl _⟩
  | x :: y :: r, _ => by
    obtain ⟨h1, h2⟩ := minS_spec (l := y :: r) (by simp)
    show (if leB x (minS (y :: r)) then x else minS (y :: r)) ∈ _ ∧ ∀ z ∈ _, leB (if leB x (minS (y :: r)) then x else minS (y :: r)) z = true
    cases e : leB x (minS (y :: r)) with
    | true =>
      refine ⟨List.mem_cons_self, fun z hz => ?_⟩
      rcases List.mem_cons.mp hz with q | hz
      · rw [q]; exact leB_refl _
      · exact leB_trans e (h2 z hz)
    | false =>
      refine ⟨List.mem_cons_of_mem _ h1, fun z hz => ?_⟩
      rcases List.mem_cons.mp hz with q | hz
      · rw [q]
        rcases leB_total x (minS (y :: r)) with w | w
        · rw [e] at w; cases w
        · exact w
      · exact h2 z hz
theorem minS_uniq {l : List Str} {m : Str} (hm : m ∈ l) (h : ∀ y ∈ l, leB m y = true) : m = minS l := by
  obtain ⟨h1, h2⟩ := minS_spec (l := l) (fun e => by rw [e] at hm; cases hm)
  exact leB_antisymm (h _ h1) (h2 _ hm)
theorem minS_mem {l : List Str} (h : l ≠ []) : minS l ∈ l := (minS_spec h).1
theorem argBest_ltS (num : Nat → Str) : ∀ k, argBest (fun i j => ltB (num i) (num j)) k ≤ k ∧ ∀ j, j ≤ k → leB (num (argBest (fun i j => ltB (num i) (num j)) k)) (num j) = true
  | 0 => ⟨Nat.le_refl _, fun j hj => by
    have e : j = 0 := by omega
    subst e
    exact leB_refl _⟩
  | k + 1 => by
    obtain ⟨h1, h2⟩ := argBest_ltS num k
    simp only [argBest]
    by_cases hc : ltB (num (k + 1)) (num (argBest (fun i j => ltB (num i) (num j)) k)) = true
    · rw [if_pos hc]
      refine ⟨Nat.le_refl _, fun j hj => ?_⟩
      rcases Nat.lt_or_ge j (k + 1) with hlt | hge
      · exact leB_trans (ltB_leB hc) (h2 j (by omega))
      · have e : j = k + 1 := by omega
        subst e
        exact leB_refl _
    · rw [if_neg hc]
      refine ⟨by omega, fun j hj => ?_⟩
      rcases Nat.lt_or_ge j (k + 1) with hlt | hge
      · exact h2 j (by omega)
      · have e : j = k + 1 := by omega
        subst e
        unfold leB
        rw [Bool.eq_false_iff.mpr hc]
        rfl
theorem ltS_cmp {prog : Program} {w : World} {A : Around} {Pv : Nat → Value → Prop} (val : Nat → Str) (hval : ∀ i v, Pv i v → ∃ t, v = .str (val i) t) :
    CmpOf prog w A .Lt Pv (fun i j => ltB (val i) (val j)) := fun i j vi vj s Q E hi hj h => by
  obtain ⟨t, rfl⟩ := hval i vi hi
  obtain ⟨u, rfl⟩ := hval j vj hj
  have q := PySem.P.lt_str (prog := prog) (w := w) (A := A) (E := E) (s := s) (x := val i) (y := val j) (t := t) (u := u) (Q := Q) h
  exact q

/-! ### rules -/
section
variable {X : Cx}
theorem erase_mapS : ∀ (l : List Str) (j : Nat), (l.map V.str).eraseIdx j = (l.eraseIdx j).map V.str
  | [], j => by simp
  | a :: r, 0 => by simp
  | a :: r, j + 1 => by
    have ih := erase_mapS r j
    simp [ih]
theorem first_atS : ∀ {ns : List Str} {k : Str}, k ∈ ns → ∃ j, j < ns.length ∧ ns[j]? = some k ∧ (∀ i, i < j → ns[i]? ≠ some k) ∧ ns.eraseIdx j = ns.erase k
  | [], k, h => absurd h (by simp)
  | a :: r, k, h => by
    by_cases e : a = k
    · refine ⟨0, Nat.succ_pos _, by rw [e] <;> rfl, fun i hi => absurd hi (Nat.not_lt_zero _), ?_⟩
      rw [e, List.erase_cons_head] <;> rfl
    · have hr : k ∈ r := by
        rcases List.mem_cons.mp h with z | z
        · exact absurd z.symm e
        · exact z
      obtain ⟨j, h1, h2, h3, h4⟩ := first_atS hr
      refine ⟨j + 1, Nat.succ_lt_succ h1, h2, fun i hi => ?_, ?_⟩
      · cases i with
        | zero =>
          intro z
          exact e (Option.some.inj z)
        | succ i => exact h3 i (Nat.lt_of_succ_lt_succ hi)
      · rw [List.erase_cons_tail (by rw [beq_iff_eq]; exact e), ← h4] <;> rfl
theorem isStr_at (k : Str) : ∀ {vs : List Value} {ns : List Str}, StrsAre vs ns → ∀ (i : Nat) (h : i < vs.length), isStrOf k vs[i] = true ↔ ns[i]? = some k
  | _, _, .nil, i, h => absurd h (by simp)
  | _, _, .cons n t hr, 0, _ => by
    show (n == k) = true ↔ some n = some k
    rw [beq_iff_eq, Option.some_inj]
  | _, _, .cons n t hr, i + 1, h => isStr_at k hr i (Nat.lt_of_succ_lt_succ h)
/-- xs.remove(k), texts, k is there -/
def rRemS : V → List V → Hp → VK → Prop := fun x xs H Q => ∃ (l : Addr) (ns : List Str) (k : Str), x = .ref l ∧ xs = [.str k] ∧ H l = some (.lst (ns.map V.str)) ∧ k ∈ ns ∧ Q .non (upd H l (.lst ((ns.erase k).map V.str)))
theorem mt_removeS : MtM X "list.remove" rRemS := by
  intro pins s σ H x xs v us Q I rx rxs h
  obtain ⟨l, ns, k, rfl, rfl, hH, hk, q⟩ := h
  cases rx
  obtain ⟨u, rfl, ru⟩ := rxs.one
  obtain ⟨t, rfl⟩ := ru
  obtain ⟨z, its, n, r, hl, e⟩ := I.lstM hH
  have hi := Vals.strs r
  rw [List.length_map] at hl z
  obtain ⟨j, j1, j2, j3, j4⟩ := first_atS hk
  have hj : j < its.length := by omega
  refine call_meets PySem.F.slot_list_remove ⟨_, e, rfl⟩ PySem.F.entry_list_remove (PySem.F.args_list_remove_2 _ _)
    (MeetsSeq.list_remove l its.toArray n (.str k t) (isStrOf k) (fun y hy => eq_isStrOf k t hi y (by simpa using hy)) j (by rw [List.size_toArray]; exact hj) ?_ (fun i hi2 hlt => ?_) (by rw [List.size_toArray]; omega)) ⟨e, ?_⟩
  · show isStrOf k its[j] = true
    exact (isStr_at k hi j hj).mpr j2
  · have hi3 : i < its.length := by rw [List.size_toArray] at hi2; exact hi2
    show isStrOf k its[i] = false
    rw [Bool.eq_false_iff]
    intro w
    exact j3 i hlt ((isStr_at k hi i hi3).mp w)
  · have rr := r.eraseIdx j
    rw [erase_mapS, j4] at rr
    refine ⟨.non, _, I.lset (its' := its.eraseIdx j) (t' := s.toks) hH e ?_ rr ?_, rfl, q⟩
    · show its.toArray.eraseIdxIfInBounds j = (its.eraseIdx j).toArray
      rw [List.eraseIdxIfInBounds_toArray]
    · rw [List.length_map]
      have := List.length_erase_le (a := k) (l := ns)
      omega
/-- xs.count(x), flat items -/
def rCntF (K : PySem.W.Frag) : V → List V → Hp → VK → Prop := fun x xs H Q => ∃ (p : Addr) (ys : List V) (y : V), x = .ref p ∧ xs = [y] ∧ SqL K H p ys ∧ flatV y = true ∧ ys.all flatV = true ∧ Q (.int (ys.countP fun z => eqV z y : Nat)) H
theorem countP_eqU {x : V} : ∀ {xs : List V} {us : List Value}, Vals xs us → xs.all flatV = true → us.countP (eqU x) = xs.countP fun y => eqV y x
  | _, _, .nil, _ => rfl
  | y :: xs, u :: us, .cons r t, f => by
    rw [List.all_cons, Bool.and_eq_true] at f
    rw [List.countP_cons, List.countP_cons, eqU_of r f.1, countP_eqU t f.2]
theorem mt_countF : MtR X "list.count" (rCntF X.K) := by
  intro pins s σ H x xs v us Q I rx rxs h
  obtain ⟨p, ys, y, rfl, rfl, hs, fy, fys, q⟩ := h
  cases rx
  obtain ⟨u, rfl, ru⟩ := rxs.one
  obtain ⟨its, rv, ⟨⟨cls, dd, data, sl⟩, n, ho, hc, hdn, hd⟩, hlen⟩ := I.list hs
  simp only at hc hd
  subst hc hd
  refine call_meets PySem.F.slot_list_count ⟨_, ho, rfl⟩ PySem.F.entry_list_count (PySem.F.args_list_count_2 _ _)
    (SeqAt.list_countAt p its.toArray n dd sl u (eqU y)) ⟨ho, fun z hz => mem_eqAt ru fy rv fys z (by simpa using hz), ?_⟩
  refine ⟨.int (ys.countP fun z => eqV z y : Nat), H, I.tok _, ⟨s.toks, ?_⟩, q⟩
  show Value.int ((its.toArray.toList.countP (eqU y) : Nat) : Int) s.toks = Value.int ((ys.countP fun z => eqV z y : Nat) : Int) s.toks
  rw [show its.toArray.toList.countP (eqU y) = _ from countP_eqU rv fys]
/-- min(xs), texts -/
def rMinS (K : PySem.W.Frag) : List V → Hp → VK → Prop := fun vs H Q => ∃ (a : Addr) (ns : List Str), vs = [V.ref a] ∧ SqL K H a (ns.map V.str) ∧ ns ≠ [] ∧ Q (.str (minS ns)) H
theorem strs_len : ∀ {vs : List Value} {ns : List Str}, StrsAre vs ns → vs.length = ns.length
  | _, _, .nil => rfl
  | _, _, .cons n t h => congrArg (· + 1) (strs_len h)
theorem strs_get : ∀ {vs : List Value} {ns : List Str}, StrsAre vs ns → ∀ {i : Nat} {v : Value}, vs[i]? = some v → ∃ t, v = .str (ns.getD i ⟨#[]⟩) t
  | _, _, .nil, i, v, h => by simp at h
  | _, _, .cons n t hr, 0, v, h => ⟨t, (Option.some.inj h).symm⟩
  | _, _, .cons n t hr, i + 1, v, h => by
    obtain ⟨t', e⟩ := strs_get hr (i := i) (v := v) h
    exact ⟨t', e⟩
theorem cr_minS (hc : X.calm = true) : CallR X (.builtin "min") (rMinS X.K) := by
  intro pins s σ H vs us Q I r h
  obtain ⟨a, ns, rfl, hs, hne, q⟩ := h
  obtain ⟨its, rv, hl, _⟩ := I.list hs
  rw [Vals.ref1 r]
  have hi := Vals.strs rv
  have hln := strs_len hi
  have hpos : 0 < its.length := by
    rw [hln]
    exact List.length_pos_iff.mpr hne
  have hll := hl.isList
  have hlt : a < s.heap.objs.size := by obtain ⟨_, e, _⟩ := hll; exact Heap.lt_size e
  have hval : ∀ i v, its.toArray[i]? = some v → ∃ t, v = Value.str (ns.getD i ⟨#[]⟩) t := fun i v e => strs_get hi (by simpa using e)
  refine call_min_walk (wpAny_pyIter_list hll ?_)
  refine ⟨_, _, _, _, _, _, _, rfl, Walks.list (A := X.A.in1) (I.ok.hd hc) _ a (Nat.ne_of_lt hlt) its.toArray, ⟨⟨_, Heap.get?_push_size _ rfl, rfl, rfl⟩, hll.push _⟩, fun b hb => ?_, by simpa using hpos, ltS_cmp (fun i => ns.getD i ⟨#[]⟩) hval, fun v h' tk hP hk => ?_⟩
  · show b < (s.heap.push _).objs.size
    rw [Heap.size_push]
    rcases List.mem_cons.mp hb with e | hb
    · rw [e]
      exact Nat.lt_succ_self _
    · rw [List.mem_singleton.mp hb]
      exact Nat.lt_succ_of_lt hlt
  · obtain ⟨t, rfl⟩ := hval _ v hP
    obtain ⟨b1, b2⟩ := argBest_ltS (fun i => ns.getD i ⟨#[]⟩) (its.toArray.size - 1)
    rw [List.size_toArray] at b1 b2
    have hb : argBest (fun i j => ltB (ns.getD i ⟨#[]⟩) (ns.getD j ⟨#[]⟩)) (its.length - 1) < ns.length := by omega
    have em : ns.getD (argBest (fun i j => ltB (ns.getD i ⟨#[]⟩) (ns.getD j ⟨#[]⟩)) (its.toArray.size - 1)) ⟨#[]⟩ = minS ns := by
      rw [List.size_toArray]
      refine minS_uniq ?_ fun y hy => ?_
      · rw [List.getD_eq_getElem?_getD, List.getElem?_eq_getElem hb]
        exact List.getElem_mem hb
      · obtain ⟨i, hi2, e⟩ := List.mem_iff_getElem.mp hy
        have e2 : ns.getD i ⟨#[]⟩ = y := by rw [List.getD_eq_getElem?_getD, List.getElem?_eq_getElem hi2, ← e] <;> rfl
        rw [← e2]
        exact b2 i (by omega)
    rw [em]
    refine ⟨.str _, H, I.kept (t' := tk) fun b u e => hk b u (fun hmem => ?_) (Heap.get?_push_of_some _ e), ⟨t, rfl⟩, q⟩
    have e1 : b = s.heap.objs.size := List.mem_singleton.mp hmem
    have e2 := Heap.lt_size e
    rw [e1] at e2
    exact absurd e2 (Nat.lt_irrefl _)
/-- sorted(xs), texts: the sorted list -/
def rSortS (K : PySem.W.Frag) : List V → Hp → VK → Prop := fun vs H Q => ∃ (a : Addr) (xs : List Str), vs = [V.ref a] ∧ SqL K H a (xs.map V.str) ∧ xs.length < 64 ∧
  ∀ p : Addr, H p = none → Q (.ref p) (upd H p (.lst ((sortS xs).map V.str)))
theorem cr_sortS : CallR X (.builtin "sorted") (rSortS X.K) := by
  intro pins s σ H vs us Q I r h
  obtain ⟨a, xs, e, hs, h64, q⟩ := h
  refine cr_sortedS pins s σ H vs us Q I r ⟨a, xs, e, hs, h64, fun ys p pm so np => ?_⟩
  rw [sortS_eq pm so]
  exact q p np
end

/-! ### one sign of a name -/
def lowB (c : Nat) : Bool := decide (97 ≤ c) && decide (c ≤ 122)
/-- 'a' <= x <= 'z' -/
theorem elt_low {prog : Program} {w : World} {scope : Scope} {x : Str} {j j2 : Nat} {p1 p2 p3 p4 : Pos} (hk : scope.kind = .function) (hl : scope.names.lookup x = some .local) (hd : (x == ("__debug__" : Str)) = false := by decide) :
    GxR.EltP prog w scope x (.Compare (.Constant (.str "a") j p2) [.LtE, .LtE] [.Name x p1, .Constant (.str "z") j2 p4] p3) lowB := by
  intro cenv A' E' c t s₂ m₂ hs hn hm
  refine Compare_chain ?_ (by rfl)
  refine Calls.Constant_str ?_
  refine chain_link ?_
  have hn' : ({ s₂ with toks := s₂.toks + 1 } : Shared).heap.Ns cenv.locals m₂ := hn
  refine wpAny_Name (wpAny_loadName_local (by rw [hs]; exact hk) (show cenv.scope.names.lookup x = some .local by rw [hs]; exact hl) hn' hm ?_) hd
  refine PySem.P.le_str ?_
  refine wpAny_truthy_bool ?_
  have e1 : (!decide ((⟨#[c]⟩ : Str).cps.toList < ("a" : Str).cps.toList)) = decide (97 ≤ c) := by
    have ea : ("a" : Str).cps.toList = [97] := by decide +kernel
    rw [ea]
    show (!decide ([c] < [97])) = decide (97 ≤ c)
    rw [← ltCps_eq]
    show (!(decide (c < 97) || (c == 97 && false))) = decide (97 ≤ c)
    rw [Bool.and_false, Bool.or_false, ← decide_not]
    exact decide_eq_decide.mpr Nat.not_lt
  rw [e1]
  cases h97 : decide (97 ≤ c) with
  | false => exact ite_ff ⟨by unfold lowB; rw [h97]; rfl, GxR.keeps_tok _ _⟩
  | true =>
    refine ite_tt (chain_last (Calls.Constant_str (PySem.P.le_str ⟨?_, GxR.keeps_tok _ _⟩)))
    have e2 : (!decide (("z" : Str).cps.toList < (⟨#[c]⟩ : Str).cps.toList)) = decide (c ≤ 122) := by
      have ea : ("z" : Str).cps.toList = [122] := by decide +kernel
      rw [ea]
      show (!decide ([122] < [c])) = decide (c ≤ 122)
      rw [← ltCps_eq]
      show (!(decide (122 < c) || (122 == c && false))) = decide (c ≤ 122)
      rw [Bool.and_false, Bool.or_false, ← decide_not]
      exact decide_eq_decide.mpr Nat.not_lt
    rw [e2]
    unfold lowB
    rw [h97]
    rfl
/-- a name -/
def IsName (z : Str) : Prop := 1 ≤ z.length ∧ z.length ≤ 8 ∧ z.cps.toList.all lowB = true
end Kf

/-! What is kept, defs by what they promise, and calls. -/
namespace Kf
open PySem PySem.Spec PyProof.Rows L2

/-! ### what is kept: all but the table at tb and the objects of S -/
def notTbl : HO → Bool
  | .tbl _ => false
  | _ => true
structure Kp (tb : Addr) (S : List Addr) (H H' : Hp) : Prop where
  keep : ∀ b o, H b = some o → notTbl o = true → b ∉ S → H' b = some o
  tab : GxR.TabG H tb → GxR.TabG H' tb
  free : ∀ b, H' b = none → H b = none
theorem Kp.refl {tb : Addr} {S : List Addr} (H : Hp) : Kp tb S H H := ⟨fun _ _ h _ _ => h, fun h => h, fun _ h => h⟩
theorem Kp.trans {tb : Addr} {S : List Addr} {H H1 H2 : Hp} (a : Kp tb S H H1) (b : Kp tb S H1 H2) : Kp tb S H H2 :=
  ⟨fun c o h n m => b.keep c o (a.keep c o h n m) n m, fun h => b.tab (a.tab h), fun c h => a.free c (b.free c h)⟩
theorem Kp.mono {tb : Addr} {S S' : List Addr} {H H1 : Hp} (a : Kp tb S H H1) (h : ∀ x ∈ S, x ∈ S') : Kp tb S' H H1 :=
  ⟨fun c o h' n m => a.keep c o h' n (fun z => m (h c z)), a.tab, a.free⟩
theorem Kp.nil {tb : Addr} {S : List Addr} {H H1 : Hp} (a : Kp tb [] H H1) : Kp tb S H H1 := a.mono fun _ h => absurd h (by simp)
theorem Kp.get {tb : Addr} {S : List Addr} {H H1 : Hp} (a : Kp tb S H H1) {b : Addr} {o : HO} (h : H b = some o) (n : notTbl o = true := by rfl) (m : b ∉ S := by simp) : H1 b = some o := a.keep b o h n m
theorem free_upd {H : Hp} {p b : Addr} {o : HO} (h : upd H p o b = none) : H b = none := by
  by_cases e : b = p
  · rw [e, upd_same] at h
    cases h
  · rw [upd_ne e] at h
    exact h
/-- a new object -/
theorem Kp.new {tb : Addr} {S : List Addr} {H : Hp} {p : Addr} {o : HO} (h : H p = none) : Kp tb S H (upd H p o) :=
  ⟨fun b u e _ _ => by rw [upd_ne (ne_of_none e h)]; exact e, fun ⟨ps, e, t⟩ => ⟨ps, by rw [upd_ne (ne_of_none e h)]; exact e, t⟩, fun _ => free_upd⟩
theorem Kp.put {tb : Addr} {S : List Addr} {H : Hp} {p : Addr} {o u : HO} (h : H p = some u) (n : notTbl u = true := by rfl) (hp : p ∈ S := by simp) : Kp tb S H (upd H p o) :=
  ⟨fun b v e _ m => by rw [upd_ne (fun z => m (by rw [z]; exact hp))]; exact e, fun ⟨ps, e, t⟩ => ⟨ps, by
    rw [upd_ne (fun z => by rw [z, h] at e; cases e; cases n)]
    exact e, t⟩, fun _ => free_upd⟩
theorem Kp.step {tb : Addr} {S : List Addr} {H H1 : Hp} {p : Addr} {o : HO} (a : Kp tb S H H1) (h : H1 p = none) : Kp tb S H (upd H1 p o) := a.trans (Kp.new h)
/-- a store to what is new since H -/
theorem Kp.own {tb : Addr} {S : List Addr} {H H1 : Hp} {p : Addr} {o u : HO} (a : Kp tb S H H1) (h0 : H p = none) (h : H1 p = some u) (n : notTbl u = true := by rfl) : Kp tb S H (upd H1 p o) :=
  ⟨fun b v e m k => by rw [upd_ne (ne_of_none e h0)]; exact a.keep b v e m k, fun t => (Kp.put (S := [p]) h n).tab (a.tab t), fun b e => a.free b (free_upd e)⟩
theorem Kp.seq {tb : Addr} {S : List Addr} {K : PySem.W.Frag} {H H' : Hp} {a : Addr} {xs : List V} (e : Kp tb S H H') (h : SqL K H a xs) (m : a ∉ S := by simp) : SqL K H' a xs := by
  rcases h with (h | ⟨o, h⟩) | h
  · exact .inl (.inl (e.get h rfl m))
  · exact .inl (.inr ⟨o, e.get h rfl m⟩)
  · exact .inr h
theorem tab_new {tb : Addr} {H : Hp} {p : Addr} {o : HO} (t : GxR.TabG H tb) (h : H p = none) : GxR.TabG (upd H p o) tb := (Kp.new (S := []) h).tab t
/-- the table may have grown -/
theorem Kp.tabbed {tb : Addr} {S : List Addr} {H H' : Hp} (t : GxR.TabG H tb) (h : GxR.Tabbed tb H H') : Kp tb S H H' := by
  obtain ⟨h1, h2⟩ := h
  refine ⟨fun b o e n _ => ?_, fun _ => h1, fun b e => ?_⟩
  · rw [h2 b (fun z => ?_)]
    · exact e
    · obtain ⟨ps, e2, _⟩ := t
      rw [z, e2] at e
      cases e
      cases n
  · by_cases z : b = tb
    · obtain ⟨ps, e2, _⟩ := h1
      rw [z, e2] at e
      cases e
    · rw [h2 b z] at e
      exact e

/-! ### defs of the text -/
abbrev FnP (K : PySem.W.Frag) (x qual : Str) (st : Stmt) (f : Addr) (fd : FuncData) : Prop := FunD K x qual (defArgs st) (defBody st) (defScope st) [] [] f fd
section
variable {P : Program} {w : World} {K : PySem.W.Frag} {mg : Str → Option Value} {base : Heap}
/-- the module's name x is a def that keeps its promise -/
def Glob (P : Program) (w : World) (K : PySem.W.Frag) (mg : Str → Option Value) (base : Heap) (CX : CXT) (k : Nat) (x : Str) (ps : List Str) (sp : Sp) : Prop :=
  ∃ f fd, mg x = some (.ref f) ∧ PySem.W.keepIn K (.ref f) = true ∧ Binds K fd ps [] ∧ FnOk P w K mg base CX k f fd ps sp
/-- the method m of the class at C -/
def MethOk (P : Program) (w : World) (K : PySem.W.Frag) (mg : Str → Option Value) (base : Heap) (CX : CXT) (k : Nat) (C : Addr) (m : Str) (ps : List Str) (sp : Sp) : Prop :=
  ∃ f fd, Cls K C ∧ Meth K C m f ∧ Binds K fd ps [] ∧ FnOk P w K mg base CX k f fd ps sp
/-- the class x is made -/
def MakeOk (P : Program) (w : World) (K : PySem.W.Frag) (mg : Str → Option Value) (base : Heap) (CX : CXT) (k : Nat) (x : Str) (C : Addr) (ps : List Str) (sp : Sp) : Prop :=
  ∃ f fd, mg x = some (.ref C) ∧ Mk K C f ∧ Binds K fd ps [] ∧ FnOk P w K mg base CX k f fd ps sp
theorem Glob.mono {CX : CXT} {j k : Nat} {x : Str} {ps : List Str} {sp : Sp} (G : Glob P w K mg base CX j x ps sp) (h : j ≤ k) : Glob P w K mg base CX k x ps sp := by
  obtain ⟨f, fd, a, b, c, d⟩ := G
  exact ⟨f, fd, a, b, c, d.mono h⟩
theorem MethOk.mono {CX : CXT} {j k : Nat} {C : Addr} {x : Str} {ps : List Str} {sp : Sp} (G : MethOk P w K mg base CX j C x ps sp) (h : j ≤ k) : MethOk P w K mg base CX k C x ps sp := by
  obtain ⟨f, fd, a, b, c, d⟩ := G
  exact ⟨f, fd, a, b, c, d.mono h⟩
theorem MakeOk.mono {CX : CXT} {j k : Nat} {C : Addr} {x : Str} {ps : List Str} {sp : Sp} (G : MakeOk P w K mg base CX j x C ps sp) (h : j ≤ k) : MakeOk P w K mg base CX k x C ps sp := by
  obtain ⟨f, fd, a, b, c, d⟩ := G
  exact ⟨f, fd, a, b, c, d.mono h⟩
theorem glob_of {CX : CXT} {k : Nat} {x qual : Str} {st : Stmt} {f : Addr} {fd : FuncData} {ps : List Str} {sp : Sp} (F : FnP K x qual st f fd) (hm : mg x = some (.ref f))
    (hb : ∀ (kV doc pm : Value) (an : Option Addr) (cdv ct : Value) (us : List Value), us.length = ps.length → bindArgs (PySem.W.fnOf x qual (defArgs st) (defBody st) (defScope st) .none kV doc pm an cdv ct) ⟨us, []⟩ = pure (ps.zip us))
    (G : FnOk P w K mg base CX k f fd ps sp) : Glob P w K mg base CX k x ps sp := by
  exact ⟨f, fd, hm, F.kp, FunD.bindsN F hb, G⟩
theorem binds_of {x qual : Str} {st : Stmt} {f : Addr} {fd : FuncData} {ps : List Str} (F : FnP K x qual st f fd)
    (hb : ∀ (kV doc pm : Value) (an : Option Addr) (cdv ct : Value) (us : List Value), us.length = ps.length → bindArgs (PySem.W.fnOf x qual (defArgs st) (defBody st) (defScope st) .none kV doc pm an cdv ct) ⟨us, []⟩ = pure (ps.zip us)) : Binds K fd ps [] := by
  exact FunD.bindsN F hb
theorem ok0 {CX : CXT} {x qual : Str} {st : Stmt} {f : Addr} {fd : FuncData} {N ps : List Str} {k : Nat} {sp : Sp} (F : FnP K x qual st f fd) (S : FnScope N ps (defScope st)) (len : ∀ vs H Q E, sp vs H Q E → vs.length = ps.length)
    (hbody : ∀ (cdv : Value) (A : Around) (outer : List Env) (s : Shared) (H : Hp) (vs : List V) (Q : VK) (E : XK), Room k (A.deeper (envOfC qual (defScope st) s.heap.objs.size f cdv)) → sp vs H Q E →
      ∃ t, PSs (cxOf CX P w K mg base N qual (defScope st) f cdv A outer s H E).nox (defBody st) t ∧ t { nx := fun _ H' => Q .non H', rt := Q } (start N vs) H) : FnOk P w K mg base CX (k + 1) f fd ps sp :=
  FunD.ok F S len fun cdv A outer s H vs Q E hr hsp => by
    obtain ⟨t, h, q⟩ := hbody cdv A outer s H vs Q E hr hsp
    exact ⟨t, h.nox, q⟩
/-- as FunD.ok, with the code object told -/
theorem okC {CX : CXT} {x qual : Str} {st : Stmt} {f : Addr} {fd : FuncData} {N ps : List Str} {k : Nat} {sp : Sp} {p : He.Defn} (hp : He.fAd K p = f) (F : FnP K x qual st f fd) (S : FnScope N ps (defScope st)) (len : ∀ vs H Q E, sp vs H Q E → vs.length = ps.length)
    (hbody : ∀ (cdv : Value) (A : Around) (outer : List Env) (s : Shared) (H : Hp) (vs : List V) (Q : VK) (E : XK), cdv = .ref (He.codeOf K p) → Room k (A.deeper (envOfC qual (defScope st) s.heap.objs.size f cdv)) → sp vs H Q E →
      ∃ t, PSs (cxOf CX P w K mg base N qual (defScope st) f cdv A outer s H E) (defBody st) t ∧ t { nx := fun _ H' => Q .non H', rt := Q } (start N vs) H) : FnOk P w K mg base CX (k + 1) f fd ps sp := by
  obtain ⟨oc, od, dV, kV, doc, pm, an, cdv, ct, osl, rfl, lk, hcd, _, _⟩ := F.ex
  obtain ⟨c, hc⟩ := He.codeIn_ref hcd
  have e : cdv = .ref (He.codeOf K p) := by
    rw [He.codeOf_eq (p := p) (by rw [hp]; exact lk) hc]
    exact hc
  exact fn_of lk hcd S len fun A outer s H vs Q E hr hsp => hbody cdv A outer s H vs Q E e hr hsp
end
section
variable {X : Cx} {CX : CXT} {k : Nat} {C : Addr} {ps : List Str} {sp : Sp} {E : XK} {x m : Str} {p pos apos : Pos} {e o : Expr} {es : List Expr} {ta : TE} {t : TA}
theorem pe_callG (G : Glob X.prog X.w X.K X.mg X.base CX k x ps sp) (hr : Room k X.A) (hg : Gl X x) (hx : Passes CX X E) (ha : PA X (e :: es) t) (hdb : (x == ("__debug__" : Str)) = false := by decide)
    (he : starEach (e :: es) X.env = (false, eval e X.env) :: starEach es X.env := by rfl) (hpl : (backTo pos (starEach es X.env)).any (·.1) = false := by rfl) : PE X (.Call (.Name x p) (e :: es) [] pos) (tCall sp [] E t) := by
  obtain ⟨f, fd, hm, kp, b, F⟩ := G
  exact pe_call F hr hg hm kp b .nil hx ha hdb he hpl
theorem pe_methG {pl : Sem Bool} (ho : PE X o ta) (G : MethOk X.prog X.w X.K X.mg X.base CX k C m ps sp) (hr : Room k X.A) (hx : Passes CX X E) (ha : PA X (e :: es) t)
    (hst : starEach (e :: es) X.env = (false, eval e X.env) :: starEach es X.env := by rfl) (hpl : (backTo pos (starEach es X.env)).any (·.1) = false := by rfl)
    (ht : eval (.Call (.Attribute o m apos) (e :: es) [] pos) X.env = (do
      let ov ← eval o X.env
      standAt apos.atName
      let (f, first) ← holding [ov] (getMethod ov m pl)
      callWith pos f first (backTo pos (starEach (e :: es) X.env)) (backToKw pos (keywordEach [] X.env))) := by rfl) :
    PE X (.Call (.Attribute o m apos) (e :: es) [] pos) (tMeth C m sp [] E ta t) := by
  obtain ⟨f, fd, c, hm, b, F⟩ := G
  exact pe_meth ho c hm F hr b .nil hx ha hst hpl ht
theorem pe_meth0G {pl : Sem Bool} (ho : PE X o ta) (G : MethOk X.prog X.w X.K X.mg X.base CX k C m ps sp) (hr : Room k X.A) (hx : Passes CX X E)
    (ht : eval (.Call (.Attribute o m apos) [] [] pos) X.env = (do
      let ov ← eval o X.env
      standAt apos.atName
      let (f, first) ← holding [ov] (getMethod ov m pl)
      callWith pos f first (backTo pos (starEach [] X.env)) (backToKw pos (keywordEach [] X.env))) := by rfl) :
    PE X (.Call (.Attribute o m apos) [] [] pos) (tMeth C m sp [] E ta tNil) := by
  obtain ⟨f, fd, c, hm, b, F⟩ := G
  exact pe_meth0 ho c hm F hr b .nil hx ht
theorem pe_makeG (G : MakeOk X.prog X.w X.K X.mg X.base CX k x C ps sp) (hr : Room (k + 1) X.A) (hg : Gl X x) (hx : Passes CX X E) (ha : PA X (e :: es) t) (hdb : (x == ("__debug__" : Str)) = false := by decide)
    (he : starEach (e :: es) X.env = (false, eval e X.env) :: starEach es X.env := by rfl) (hpl : (backTo pos (starEach es X.env)).any (·.1) = false := by rfl) : PE X (.Call (.Name x p) (e :: es) [] pos) (tMake C sp [] E t) := by
  obtain ⟨f, fd, hm, M, b, F⟩ := G
  exact pe_make M F hr hg hm b .nil hx ha hdb he hpl
end

/-! ### comprehensions that gather -/
def LcI (tb : Addr) (H1 : Hp) (D : Addr) (R : Nat → List V → Prop) (i : Nat) (H : Hp) : Prop := ∃ acc, R i acc ∧ Kp tb [] H1 H ∧ H D = some (.lst acc)
theorem LcI.start {tb : Addr} {H1 : Hp} {D : Addr} {R : Nat → List V → Prop} (hD : H1 D = none) (h : R 0 []) : LcI tb H1 D R 0 (upd H1 D (.lst [])) := ⟨[], h, Kp.new hD, upd_same⟩
theorem LcI.next {tb : Addr} {H1 H H4 : Hp} {D : Addr} {R : Nat → List V → Prop} {i : Nat} {acc : List V} {y : V} (hD : H1 D = none) (kp : Kp tb [] H1 H) (hd : H D = some (.lst acc)) (k2 : Kp tb [] H H4) (hl : acc.length < sizeLine) (hr : R (i + 1) (acc ++ [y])) :
    ∃ acc, H4 D = some (.lst acc) ∧ acc.length < sizeLine ∧ LcI tb H1 D R (i + 1) (upd H4 D (.lst (acc ++ [y]))) := by
  have h4 : H4 D = some (.lst acc) := k2.get hd
  exact ⟨acc, h4, hl, acc ++ [y], hr, (kp.trans k2).own hD h4, upd_same⟩
theorem small_of {n m : Nat} (h : n ≤ m) (hm : m < sizeLine := by decide) : n < sizeLine := Nat.lt_of_le_of_lt h hm
theorem get_mapI {ns : List Int} {i : Nat} {y : V} (hi : (ns.map V.int)[i]? = some y) : ∃ z, ns[i]? = some z ∧ y = V.int z := by
  rw [List.getElem?_map] at hi
  cases e : ns[i]? with
  | none =>
    rw [e] at hi
    cases hi
  | some z =>
    rw [e] at hi
    exact ⟨z, rfl, (Option.some.inj hi).symm⟩
theorem get_mapS {ns : List Str} {i : Nat} {y : V} (hi : (ns.map V.str)[i]? = some y) : ∃ z, ns[i]? = some z ∧ y = V.str z := by
  rw [List.getElem?_map] at hi
  cases e : ns[i]? with
  | none =>
    rw [e] at hi
    cases hi
  | some z =>
    rw [e] at hi
    exact ⟨z, rfl, (Option.some.inj hi).symm⟩

theorem ite_else {c A B : Prop} [Decidable c] (hB : B) (hA : B → c → A) : if c then A else B := by
  by_cases h : c
  · rw [if_pos h]
    exact hA hB h
  · rw [if_neg h]
    exact hB
theorem ite_then {c A B : Prop} [Decidable c] (hA : A) (hB : A → ¬ c → B) : if c then A else B := by
  by_cases h : c
  · rw [if_pos h]
    exact hA
  · rw [if_neg h]
    exact hB hA h

/-! ### letters -/
def Low (z : Str) : Prop := z.cps.toList.all lowB = true
theorem low_app {a b : Str} (ha : Low a) (hb : Low b) : Low (a ++ b) := by
  unfold Low
  rw [Str.cps_append, Array.toList_append, List.all_append, Bool.and_eq_true]
  exact ⟨ha, hb⟩
theorem len_app (a b : Str) : (a ++ b).length = a.length + b.length := Str.length_append a b
theorem cut_list (z : Str) (lo hi : Option Int) : (cutS z lo hi).cps.toList = (z.cps.toList.drop (HT.sIx z.length 0 lo)).take (HT.sIx z.length z.length hi - HT.sIx z.length 0 lo) := by
  unfold cutS
  simp
theorem low_cut {z : Str} (h : Low z) (lo hi : Option Int) : Low (cutS z lo hi) := by
  unfold Low at *
  rw [cut_list]
  rw [List.all_eq_true] at *
  exact fun c hc => h c (List.mem_of_mem_drop (List.mem_of_mem_take hc))
theorem len_cut (z : Str) (lo hi : Option Int) : (cutS z lo hi).length = min (HT.sIx z.length z.length hi - HT.sIx z.length 0 lo) (z.length - HT.sIx z.length 0 lo) := by
  have e : (cutS z lo hi).length = (cutS z lo hi).cps.toList.length := by simp [Str.length]
  have e2 : z.cps.toList.length = z.length := by simp [Str.length]
  rw [e, cut_list, List.length_take, List.length_drop, e2]
theorem sIx_pos {n d : Nat} {v : Int} (h : 0 ≤ v) : HT.sIx n d (some v) = min v.toNat n := by
  show (if v < 0 then (v + (n : Int)).toNat else min v.toNat n) = _
  rw [if_neg (by omega)]
theorem isName_of {z : Str} (h1 : 1 ≤ z.length) (h8 : z.length ≤ 8) (h : Low z) : IsName z := ⟨h1, h8, h⟩
theorem low_nil : Low ("" : Str) := by
  show ("" : Str).cps.toList.all lowB = true
  decide +kernel
theorem join_low : ∀ (ys : List Str), (∀ y ∈ ys, Low y) → Low (Str.join ("" : Str) ys)
  | [], _ => rfl
  | [x], h => h x List.mem_cons_self
  | x :: y :: r, h => by
    show Low (x ++ ("" : Str) ++ Str.join ("" : Str) (y :: r))
    exact low_app (low_app (h x List.mem_cons_self) low_nil) (join_low (y :: r) fun z hz => h z (List.mem_cons_of_mem _ hz))
theorem join_len : ∀ (ys : List Str), (∀ y ∈ ys, y.length = 1) → (Str.join ("" : Str) ys).length = ys.length
  | [], _ => by decide +kernel
  | [x], h => h x List.mem_cons_self
  | x :: y :: r, h => by
    show (x ++ ("" : Str) ++ Str.join ("" : Str) (y :: r)).length = _
    rw [len_app, len_app, join_len (y :: r) fun z hz => h z (List.mem_cons_of_mem _ hz), h x List.mem_cons_self]
    have e : ("" : Str).length = 0 := by decide +kernel
    rw [e]
    simp only [List.length_cons]
    omega
theorem tjoin_eq (ys : List Str) : Txt.join ("" : Str) ys = Str.join ("" : Str) ys := StrLaws.glued_eq_join _ _
theorem letter_at : ∀ n : Nat, n < 26 → ∃ c, ("abcdefghijklmnopqrstuvwxyz" : Str).cps.toList[n]? = some c ∧ lowB c = true := by
  intro n hn
  have h : ∀ m : Fin 26, ∃ c, ("abcdefghijklmnopqrstuvwxyz" : Str).cps.toList[m.val]? = some c ∧ lowB c = true := by
    have e : ("abcdefghijklmnopqrstuvwxyz" : Str).cps.toList = (List.range 26).map (· + 97) := by decide +kernel
    rw [e]
    intro m
    refine ⟨m.val + 97, ?_, ?_⟩
    · rw [List.getElem?_map, List.getElem?_range m.isLt]
      rfl
    · unfold lowB
      have := m.isLt
      rw [decide_eq_true (by omega), decide_eq_true (by omega)]
      rfl
  exact h ⟨n, hn⟩
theorem letter_atI {i : Int} (h0 : 0 ≤ i) (h : i < 26) : ∃ c, atI ("abcdefghijklmnopqrstuvwxyz" : Str).cps.toList i = some c ∧ lowB c = true := by
  obtain ⟨c, h1, h2⟩ := letter_at i.toNat (by omega)
  refine ⟨c, ?_, h2⟩
  have e : i = (i.toNat : Int) := by omega
  rw [e]
  exact atI_nat h1
theorem low_one {c : Nat} (h : lowB c = true) : Low ⟨#[c]⟩ := by
  show [c].all lowB = true
  rw [List.all_cons, h]
  rfl

/-! ### equal lists of texts -/
def OkS (zs : List Str) : Prop := ∀ z ∈ zs, PyData.strOk z = true
theorem isName_ok {z : Str} (h : IsName z) : PyData.strOk z = true := by
  obtain ⟨_, _, h⟩ := h
  unfold PyData.strOk
  rw [← Array.all_toList]
  rw [List.all_eq_true] at h ⊢
  intro c hc
  have := h c hc
  unfold lowB at this
  rw [Bool.and_eq_true, decide_eq_true_eq, decide_eq_true_eq] at this
  exact decide_eq_true (by omega)
def dS (zs : List Str) : PyData := .list (zs.map PyData.str)
theorem dpAllS {K : PySem.W.Frag} {H : Hp} : ∀ zs : List Str, DpAll K H (zs.map V.str) (zs.map PyData.str)
  | [] => .nil
  | z :: r => .cons (.str z) (dpAllS r)
theorem dpS {K : PySem.W.Frag} {H : Hp} {a : Addr} {zs : List Str} (h : SqL K H a (zs.map V.str)) : Dp K H (.ref a) (dS zs) := .lst h (dpAllS zs)
theorem layAllS : ∀ {zs : List Str}, OkS zs → PyData.canLayAll0 (zs.map PyData.str) = true
  | [], _ => rfl
  | z :: r, h => by
    have h1 := h z List.mem_cons_self
    have h2 := layAllS (zs := r) fun y hy => h y (List.mem_cons_of_mem _ hy)
    show (PyData.canLay0 (.str z) && PyData.canLayAll0 (r.map PyData.str)) = true
    rw [h2, Bool.and_true]
    exact h1
theorem depthAllS : ∀ zs : List Str, PyData.depthAll (zs.map PyData.str) = 0
  | [] => rfl
  | z :: r => by
    show max (PyData.depth (.str z)) (PyData.depthAll (r.map PyData.str)) = 0
    rw [depthAllS r]
    rfl
theorem shS {zs : List Str} (h : OkS zs) : SeqAt.shaped (dS zs) = true := by
  unfold SeqAt.shaped dS
  rw [Bool.and_eq_true]
  refine ⟨layAllS h, decide_eq_true ?_⟩
  show PyData.depthAll (zs.map PyData.str) + 1 ≤ 64
  rw [depthAllS]
  decide
theorem eqvAllS : ∀ xs ys : List Str, PyData.eqvAll (xs.map PyData.str) (ys.map PyData.str) = decide (xs = ys)
  | [], [] => rfl
  | [], _ :: _ => rfl
  | _ :: _, [] => rfl
  | x :: r, y :: t => by
    show (PyData.eqv (.str x) (.str y) && PyData.eqvAll (r.map PyData.str) (t.map PyData.str)) = _
    rw [eqvAllS r t]
    show ((x == y) && decide (r = t)) = decide (x :: r = y :: t)
    by_cases e : x = y
    · subst e
      by_cases e2 : r = t
      · subst e2; simp
      · rw [decide_eq_false e2, decide_eq_false (fun z => e2 (List.cons.inj z).2), Bool.and_false]
    · rw [beq_eq_false_iff_ne.mpr e, decide_eq_false (fun z => e (List.cons.inj z).1), Bool.false_and]
def rEqS (K : PySem.W.Frag) : R2 := fun x y H Q => ∃ a b xs ys, x = .ref a ∧ y = .ref b ∧ SqL K H a (xs.map V.str) ∧ SqL K H b (ys.map V.str) ∧ OkS xs ∧ OkS ys ∧ Q (.bl (decide (xs = ys))) H
def rNeS (K : PySem.W.Frag) : R2 := fun x y H Q => ∃ a b xs ys, x = .ref a ∧ y = .ref b ∧ SqL K H a (xs.map V.str) ∧ SqL K H b (ys.map V.str) ∧ OkS xs ∧ OkS ys ∧ Q (.bl (!decide (xs = ys))) H
theorem op_eqS {X : Cx} (hu : X.A.units + 64 < cLine) : OpR X (compareOp .Eq) (rEqS X.K) := by
  intro pins s σ H x y v u Q I rx ry h
  obtain ⟨a, b, xs, ys, rfl, rfl, ha, hb, ox, oy, q⟩ := h
  exact op_eqD hu pins s σ H _ _ v u Q I rx ry ⟨dS xs, dS ys, dpS ha, dpS hb, shS ox, shS oy, by
    show Q (.bl (PyData.eqvAll (xs.map PyData.str) (ys.map PyData.str))) H
    rw [eqvAllS]; exact q⟩
theorem op_neS {X : Cx} (hu : X.A.units + 64 < cLine) : OpR X (compareOp .NotEq) (rNeS X.K) := by
  intro pins s σ H x y v u Q I rx ry h
  obtain ⟨a, b, xs, ys, rfl, rfl, ha, hb, ox, oy, q⟩ := h
  exact op_neD hu pins s σ H _ _ v u Q I rx ry ⟨dS xs, dS ys, dpS ha, dpS hb, shS ox, shS oy, by
    show Q (.bl (!PyData.eqvAll (xs.map PyData.str) (ys.map PyData.str))) H
    rw [eqvAllS]; exact q⟩
theorem okS_names {zs : List Str} (h : ∀ z ∈ zs, IsName z) : OkS zs := fun z hz => isName_ok (h z hz)

/-! ### cuts of lists -/
theorem cutV_map {f : Str → V} (xs : List Str) (lo hi : Option Int) : ∃ ys : List Str, cutV (xs.map f) lo hi = ys.map f ∧ (∀ y ∈ ys, y ∈ xs) ∧ ys.length = (cutV (xs.map f) lo hi).length := by
  unfold cutV
  rw [← List.map_drop, ← List.map_take]
  exact ⟨_, rfl, fun y hy => List.mem_of_mem_drop (List.mem_of_mem_take hy), by simp only [List.length_map]⟩
theorem cutV_len (xs : List V) (lo hi : Option Int) : (cutV xs lo hi).length = min (HT.sIx xs.length xs.length hi - HT.sIx xs.length 0 lo) (xs.length - HT.sIx xs.length 0 lo) := by
  unfold cutV
  rw [List.length_take, List.length_drop]

/-! ### new instances; stores to what is new -/
theorem Kp.made {tb x dx C : Addr} {H H' : Hp} (hx : H x = none) (hdx : H dx = none) (kp : Kp tb [x] (upd (upd H dx (.own x)) x (.ins C dx [])) H') : Kp tb [] H H' := by
  refine ⟨fun b o e n _ => ?_, fun t => ?_, fun b e => free_upd (free_upd (kp.free b e))⟩
  · have e1 : (upd (upd H dx (.own x)) x (.ins C dx [])) b = some o := by
      rw [upd_ne (ne_of_none e hx), upd_ne (ne_of_none e hdx)]
      exact e
    refine kp.keep b o e1 n fun z => ?_
    exact ne_of_none e hx (List.mem_singleton.mp z)
  · refine kp.tab ?_
    obtain ⟨ps, e, tr⟩ := t
    exact ⟨ps, by rw [upd_ne (ne_of_none e hx), upd_ne (ne_of_none e hdx)]; exact e, tr⟩
theorem Kp.transN {tb : Addr} {S : List Addr} {H H1 H2 : Hp} (a : Kp tb [] H H1) (b : Kp tb S H1 H2) (hS : ∀ x ∈ S, H x = none) : Kp tb [] H H2 :=
  ⟨fun c o e n m => b.keep c o (a.keep c o e n m) n (fun z => by rw [hS c z] at e; cases e), fun t => b.tab (a.tab t), fun c e => a.free c (b.free c e)⟩
/-! ### two sides -/
def sel {α : Type} (x y : α) (b : Bool) : α := if b then y else x
theorem disj_fix {rl sl ol tl d0 d1 p0 p1 l0 l1 lo0 lo1 a0 a1 : Addr} (nd : [tl, a1, a0, ol, lo1, d1, lo0, d0, p1, l1, p0, l0, sl, rl].Nodup) :
    (∀ b, ∀ x ∈ [rl, sl, ol, tl, d0, d1], x ∉ [sel p0 p1 b, sel l0 l1 b, sel lo0 lo1 b, sel a0 a1 b]) ∧ ∀ b, ∀ x ∈ [sel p0 p1 (!b), sel l0 l1 (!b), sel lo0 lo1 (!b), sel a0 a1 (!b)], x ∉ [sel p0 p1 b, sel l0 l1 b, sel lo0 lo1 b, sel a0 a1 b] := by
  simp only [List.nodup_cons, List.mem_cons, List.not_mem_nil, or_false, not_or] at nd
  constructor
  · intro b x hx
    simp only [List.mem_cons, List.not_mem_nil, or_false] at hx ⊢
    cases b <;> simp only [sel, if_true, Bool.false_eq_true, if_false] <;> rintro (e | e | e | e) <;> rcases hx with f | f | f | f | f | f <;> (rw [f] at e; simp [e] at nd)
  · intro b x hx
    simp only [List.mem_cons, List.not_mem_nil, or_false] at hx ⊢
    cases b <;> simp only [sel, if_true, Bool.false_eq_true, if_false, Bool.not_true, Bool.not_false] at hx ⊢ <;> rintro (e | e | e | e) <;> rcases hx with f | f | f | f <;> (rw [f] at e; simp [e] at nd)
theorem disj_self {rl sl ol tl d0 d1 p0 p1 l0 l1 lo0 lo1 a0 a1 : Addr} (nd : [tl, a1, a0, ol, lo1, d1, lo0, d0, p1, l1, p0, l0, sl, rl].Nodup) (b : Bool) :
    (sel p0 p1 b ≠ sel lo0 lo1 b ∧ sel l0 l1 b ≠ sel lo0 lo1 b ∧ sel a0 a1 b ≠ sel lo0 lo1 b) ∧ (sel p0 p1 b ≠ sel a0 a1 b ∧ sel l0 l1 b ≠ sel a0 a1 b) := by
  simp only [List.nodup_cons, List.mem_cons, List.not_mem_nil, or_false, not_or] at nd
  cases b <;> simp only [sel, if_true, Bool.false_eq_true, if_false] <;> refine ⟨⟨?_, ?_, ?_⟩, ?_, ?_⟩ <;> intro e <;> simp [e] at nd
end Kf

/-! Types compared by !=. -/
namespace Kf
open PySem PySem.Spec PyProof.Rows L2
open PySem.TypeEq
theorem slot_tyne : Slot "type" (cmpInfo .NotEq).2.1 "object.__ne__" :=
  .of (owner := "object") (n := "__ne__") (by rw [typeLookup_type, builtinLookup_eq_fast]; kernel_rfl) (by decide +kernel) (by decide +kernel) (by decide +kernel)
    (by first | exact .inl (by decide +kernel) | exact .inr (by decide +kernel)) (by rw [isSubtype_type]; kernel_rfl)
theorem slot_tyneR : Slot "type" (cmpInfo .NotEq).2.2 "object.__ne__" :=
  .of (owner := "object") (n := "__ne__") (by rw [typeLookup_type, builtinLookup_eq_fast]; kernel_rfl) (by decide +kernel) (by decide +kernel) (by decide +kernel)
    (by first | exact .inl (by decide +kernel) | exact .inr (by decide +kernel)) (by rw [isSubtype_type]; kernel_rfl)
section
variable {prog : Program} {w : World} {A : Around} {E : Value → Shared → Prop} {s : Shared}
theorem tyne_entry_same {X : String} (hX : ∀ s' : Shared, s'.TypeIs (.type X) "type") {Q : Fin → Shared → Prop} (hu : A.units < cLine) (h : Q (.done (.ret (.bool false))) s) :
    wpAny (model prog w) A (Builtin.«object.__ne__» ⟨[.type X, .type X], []⟩) Q E s := by
  unfold Builtin.«object.__ne__»
  repeat (first
    | with_reducible refine wpAny_cRoomFor hu ?_
    | (refine wpAny_bind (m := callSpecialIfBound? (.type X) (Str.ofString "__eq__") [.type X]) (wpAny_callSpecialIfBound?_slot (hX _) slot_type_eq
        (call_gives slot_type_eq (hX _) F.entry_object_eq (F.args_object_eq_2 _ _) (object_eq_same rfl (by simp)) ?_)))
    | wp_step)
  exact wpAny_bind (wpAny_truthy_bool (wpAny_pure h))
theorem tyne_entry_other {X Y : String} (hX : ∀ s' : Shared, s'.TypeIs (.type X) "type") (hne : (Value.type X == Value.type Y) = false) {Q : Fin → Shared → Prop} (hu : A.units < cLine) (h : Q (.done (.ret .notImplemented)) s) :
    wpAny (model prog w) A (Builtin.«object.__ne__» ⟨[.type X, .type Y], []⟩) Q E s := by
  unfold Builtin.«object.__ne__»
  repeat (first
    | with_reducible refine wpAny_cRoomFor hu ?_
    | (refine wpAny_bind (m := callSpecialIfBound? (.type X) (Str.ofString "__eq__") [.type Y]) (wpAny_callSpecialIfBound?_slot (hX _) slot_type_eq
        (call_gives slot_type_eq (hX _) F.entry_object_eq (F.args_object_eq_2 _ _) (object_eq_other rfl hne) ?_)))
    | wp_step)
  exact wpAny_pure h
theorem ne_ty_same {X : String} {Q : Value → Shared → Prop} (hX : ∀ s' : Shared, s'.TypeIs (.type X) "type") (hu : A.units + 1 < cLine) (h : Q (.bool false) s) : wpAny (model prog w) A (compareOp .NotEq (.type X) (.type X)) Q E s := by
  show wpAny _ A (richCompare .NotEq _ _) Q E s
  refine wpAny_richCompare_same (T := "type") (hX s) (hX s) slot_tyne ?_
  refine wpAny_call_entry slot_tyne (hX s) F.cmpEntry_ne (tyne_entry_same (A := A.in1) hX hu ⟨_, rfl, (by intro e; cases e), h⟩) (F.cmpArgs_ne _ _)
theorem ne_ty_other {X Y : String} {Q : Value → Shared → Prop} (hX : ∀ s' : Shared, s'.TypeIs (.type X) "type") (hY : ∀ s' : Shared, s'.TypeIs (.type Y) "type") (hne : (Value.type X == Value.type Y) = false) (hu : A.units + 1 < cLine) (h : Q (.bool true) s) :
    wpAny (model prog w) A (compareOp .NotEq (.type X) (.type Y)) Q E s := by
  have hne' : (Value.type Y == Value.type X) = false := by
    rw [Bool.eq_false_iff] at hne ⊢
    intro e
    exact hne (by rw [beq_iff_eq] at e ⊢; exact e.symm)
  show wpAny _ A (richCompare .NotEq _ _) Q E s
  have h1 := slot_tyne
  have h2 := slot_tyneR
  rcases hi : cmpInfo CmpOp.NotEq with ⟨sym, f, r⟩
  rw [hi] at h1 h2
  simp only [richCompare, hi, (hX s).oneThing_none]
  try with_reducible refine wpAny_holding ?_
  refine wpAny_bind (wpAny_cRoomFor_or (.inl rfl) ?_)
  refine wpAny_bind (wpAny_typeOf (hX s) (wpAny_bind (wpAny_typeOf (hY s) ?_)))
  simp only [bne_self_eq_false, Bool.false_eq_true, if_false, pure_bind, Bool.not_false, if_true]
  refine wpAny_bind (m := tryCompare (.type X) _ (.type Y)) (wpAny_tryCompare_declines (hX s) h1 (wpAny_call_entry h1 (hX s) F.cmpEntry_ne (tyne_entry_other (A := A.in1) hX hne hu ⟨_, rfl, rfl, ?_⟩) (F.cmpArgs_ne _ _)))
  refine wpAny_bind (m := tryCompare (.type Y) _ (.type X)) (wpAny_tryCompare_declines (hY s) h2 (wpAny_call_entry h2 (hY s) F.cmpEntry_ne (tyne_entry_other (A := A.in1) hY hne' hu ⟨_, rfl, rfl, ?_⟩) (F.cmpArgs_ne _ _)))
  refine wpAny_bind (wpAny_rule (wpAny_bind (wpAny_of_eq (isSame_plain rfl) (wpAny_pure ?_))))
  rw [hne]
  exact h
end
/-- the types that a value may have here -/
def tyOk (T : String) : Bool := T == "str" || T == "int" || T == "list" || T == "bool" || T == "NoneType" || T == "tuple" || T == "dict"
theorem tyOk_meta {T : String} (h : tyOk T = true) (s : Shared) : s.TypeIs (.type T) "type" := by
  unfold tyOk at h
  simp only [Bool.or_eq_true, beq_iff_eq] at h
  rcases h with (((((h | h) | h) | h) | h) | h) | h <;> subst h
  · exact meta_str s
  · exact meta_int s
  · exact meta_list s
  · exact meta_bool s
  · exact meta_NoneType s
  · exact meta_tuple s
  · exact meta_dict s
theorem op_neTy {X : Cx} (hu : X.A.units + 1 < cLine) : OpR X (compareOp .NotEq) (fun x y H Q => ∃ m n, x = .ty m ∧ y = .ty n ∧ tyOk m = true ∧ tyOk n = true ∧ Q (.bl (!decide (m = n))) H) := by
  intro pins s σ H x y v u Q I rx ry h
  obtain ⟨m, n, rfl, rfl, hm, hn, q⟩ := h
  cases rx
  cases ry
  by_cases e : m = n
  · subst e
    rw [decide_eq_true rfl] at q
    exact ne_ty_same (tyOk_meta hm) hu ⟨.bl false, H, I, rfl, q⟩
  · rw [decide_eq_false e] at q
    exact ne_ty_other (tyOk_meta hm) (tyOk_meta hn) (beq_eq_false_iff_ne.mpr fun z => e (Value.type.inj z)) hu ⟨.bl true, H, I, rfl, q⟩
end Kf

/-! the text by places -/
namespace Kf
open PySem PySem.Spec PyProof.Rows L2
def topS (i : Nat) : Stmt := PySem.Challenge.pw_keepfew_k05_goings_by_rule.main.body.getD i (.Pass ⟨0, 0, 0, 0⟩)
abbrev s_is_name : Stmt := topS 11
abbrev s_check_name : Stmt := topS 12
abbrev s_check_places : Stmt := topS 13
abbrev s_check_rule : Stmt := topS 14
abbrev s_check_wishes : Stmt := topS 15
abbrev s_Shelf___init__ : Stmt := inClass (topS 17) 0
abbrev s_Shelf_wish : Stmt := inClass (topS 17) 1
abbrev s_Shelf_places : Stmt := inClass (topS 17) 2
abbrev s_Shelf_things : Stmt := inClass (topS 17) 3
abbrev s_Shelf_met : Stmt := inClass (topS 17) 4
abbrev s_Shelf_missed : Stmt := inClass (topS 17) 5
abbrev s_Shelf__free_a_place : Stmt := inClass (topS 17) 6
abbrev s_Shelf__pick_going : Stmt := inClass (topS 17) 7
abbrev s_Shelf__note_wish : Stmt := inClass (topS 17) 8
abbrev s_Old_order : Stmt := inClass (topS 18) 0
abbrev s_Old__pick_going : Stmt := inClass (topS 18) 1
abbrev s_Cold_order : Stmt := inClass (topS 19) 0
abbrev s_Cold__pick_going : Stmt := inClass (topS 19) 1
abbrev s_Cold__note_wish : Stmt := inClass (topS 19) 2
abbrev s_Marked___init__ : Stmt := inClass (topS 20) 0
abbrev s_Marked_marks : Stmt := inClass (topS 20) 1
abbrev s_Marked_rounds : Stmt := inClass (topS 20) 2
abbrev s_Marked__pick_going : Stmt := inClass (topS 20) 3
abbrev s_Marked__note_wish : Stmt := inClass (topS 20) 4
abbrev s_shelf_of : Stmt := topS 21
abbrev s_Going___init__ : Stmt := inClass (topS 23) 0
abbrev s_going : Stmt := topS 24
abbrev s_missed_in : Stmt := topS 25
abbrev s__law_mixed : Stmt := topS 27
abbrev s__law_names : Stmt := topS 28
abbrev s__law_drawn : Stmt := topS 29
abbrev s__law_places : Stmt := topS 30
abbrev s__law_old : Stmt := topS 31
abbrev s__law_cold : Stmt := topS 32
abbrev s__law_marked : Stmt := topS 33
abbrev s__law_due : Stmt := topS 34
abbrev s__law_is_going : Stmt := topS 35
abbrev s__law_shelf_right : Stmt := topS 36
abbrev s_law : Stmt := topS 37
end Kf

namespace Kf
open PySem PySem.Spec PyProof.Rows L2
section
variable {P : Program} {w : World} {K : PySem.W.Frag} {mg : Str → Option Value} {base : Heap} {tb : Addr}
/-! ### _law_mixed -/
def spMixed : Sp := fun vs H Q _ => ∃ c k : Int, vs = [.int c, .int k] ∧ 0 ≤ k ∧ k ≤ 1000000 ∧ ∀ r : Int, 0 ≤ r → r < 100000000 → Q (.int r) H
theorem sc_mixed : FnScope ["_law_cell", "_law_k", "_law_number"] ["_law_cell", "_law_k"] (defScope s__law_mixed) := ⟨rfl, rfl, rfl, by decide +kernel, rfl, by decide +kernel, by decide +kernel⟩
theorem ok_mixed {f : Addr} {fd : FuncData} {k0 : Nat} (F : FnP K "_law_mixed" "_law_mixed" s__law_mixed f fd) : FnOk P w K mg base CX0 (k0 + 1) f fd ["_law_cell", "_law_k"] spMixed := by
  refine ok0 F sc_mixed (fun vs H Q E h => ?_) (fun cdv A outer s H vs Q E hr h => ?_)
  · obtain ⟨c, k, rfl, _⟩ := h
    rfl
  · obtain ⟨c, k, rfl, k0, k1, q⟩ := h
    refine ⟨_, pss_cons (ps_set (i := 2) sc_mixed.nd rfl (.inl rfl) (pe_op op_add (pe_op op_add (pe_op op_mod (pv 0) pe_int) (pe_op op_mul pe_int (pv 1))) pe_int))
      (pss_one (ps_ret (pe_op op_fdiv (pe_op op_mod (pe_op op_mul (pe_op op_mod (pe_op op_mul (pv 2) (pv 2)) pe_int) (pv 2)) pe_int) pe_int))), ?_⟩
    have h1 := Int.emod_nonneg c (show (1000000007 : Int) ≠ 0 by decide)
    have h2 := Int.emod_lt_of_pos c (show (0 : Int) < 1000000007 by decide)
    refine ⟨_, rfl, _, _, rfl, rfl, (by show (0 : Int) < 1000000007; decide), _, rfl, _, _, rfl, rfl, .inl ⟨by decide, by decide⟩, _, _, rfl, rfl, _, _, rfl, rfl, ?_⟩
    generalize hn : c % 1000000007 + 7919 * k + 13 = n
    have n0 : 0 ≤ n := by omega
    have n1 : n < 18446744073709551616 := by omega
    refine ⟨_, rfl, _, rfl, _, _, rfl, rfl, .inl ⟨by omega, by omega⟩, _, _, rfl, rfl, (by show (0 : Int) < 1000000007; decide), ?_⟩
    generalize hm : n * n = m
    have m1 := Int.emod_nonneg m (show (1000000007 : Int) ≠ 0 by decide)
    have m2 := Int.emod_lt_of_pos m (show (0 : Int) < 1000000007 by decide)
    refine ⟨_, rfl, _, _, rfl, rfl, .inl ⟨by omega, by omega⟩, _, _, rfl, rfl, (by show (0 : Int) < 998244353; decide), _, _, rfl, rfl, ⟨by decide, by decide⟩, ?_⟩
    generalize hz : m % 1000000007 * n = z
    have z1 := Int.emod_nonneg z (show (998244353 : Int) ≠ 0 by decide)
    have z2 := Int.emod_lt_of_pos z (show (0 : Int) < 998244353 by decide)
    exact q _ (by omega) (by omega)
end
end Kf

namespace Kf
open PySem PySem.Spec PyProof.Rows L2
section
variable {P : Program} {w : World} {K : PySem.W.Frag} {mg : Str → Option Value} {base : Heap} {tb : Addr}
/-! ### _law_places -/
def spPlaces (K : PySem.W.Frag) (tb : Addr) : Sp := fun vs H Q _ => ∃ (a : Addr) (ns : List Int) (k : Int), vs = [.ref a, .int k] ∧ SqL K H a (ns.map V.int) ∧ ns.length ≤ 300 ∧ 0 ≤ k ∧ k ≤ 1000 ∧
  ∀ (r : Int) (H' : Hp), 1 ≤ r → r ≤ 20 → Kp tb [] H H' → Q (.int r) H'
theorem sc_places : FnScope ["_law_script", "_law_k", "_law_number", "_law_cell"] ["_law_script", "_law_k"] (defScope s__law_places) := ⟨rfl, rfl, rfl, by decide +kernel, rfl, by decide +kernel, by decide +kernel⟩
theorem ok_places {f : Addr} {fd : FuncData} {k0 : Nat} (F : FnP K "_law_places" "_law_places" s__law_places f fd) (G : Glob P w K mg base CX0 (k0 + 1) "_law_mixed" ["_law_cell", "_law_k"] spMixed)
    (hlen : mg "len" = none) (hsum : mg "sum" = none) : FnOk P w K mg base CX0 (k0 + 2) f fd ["_law_script", "_law_k"] (spPlaces K tb) := by
  refine ok0 F sc_places (fun vs H Q E h => ?_) (fun cdv A outer s H vs Q E hr h => ?_)
  · obtain ⟨a, ns, k, rfl, _⟩ := h
    rfl
  · obtain ⟨a, ns, k, rfl, hS, hl, k0', k1, q⟩ := h
    refine ⟨_, pss_cons (ps_set (i := 2) sc_places.nd rfl (.inl rfl) (pe_callG G hr (by rfl) pass0
        (pa_cons (pe_op op_add (pe_callB call_len_seq (by rfl) hlen PySem.boot_len (pa_cons (pv 0) pa_nil))
          (pe_callB (cr_sum rfl) (by rfl) hsum (by decide +kernel) (pa_cons (pe_lc (own := [("_law_cell", 3)]) (g := gName 3) (tt := tYes) rfl sc_places.nd (pi_list (pv 0)) (blkOk_by (N := ["_law_script", "_law_k", "_law_number", "_law_cell"]) (sc := defScope s__law_places) (by decide +kernel))
            (fun _ _ _ _ _ => pg_name (i := 3) sc_places.nd rfl (Or.inl rfl)) (fun _ _ _ _ _ => pts_nil) (fun _ _ _ _ _ => pe_op op_mod (pv 3) pe_int)) pa_nil)))
        (pa_cons (pe_op op_add pe_int (pv 1)) pa_nil))))
      (pss_one (ps_ret (pe_op op_add pe_int (pe_op op_mod (pe_op op_fdiv (pv 2) pe_int) (pe_ix ix_list (pe_lst (pa_cons pe_int (pa_cons pe_int (pa_cons pe_int (pa_cons pe_int pa_nil))))) (pe_op op_mod (pv 2) pe_int) (fun _ _ => rfl)))))), ?_⟩
    -- len(script)
    refine ⟨_, rfl, a, _, rfl, .inl hS, ?_⟩
    -- the comprehension
    refine ⟨_, rfl, a, rfl, ⟨_, hS⟩, fun D hD => lc_list (K := K) (a := a) (xs := ns.map V.int) (fun i H1 => ∃ ms : List Int, ms.length = i ∧ Kp tb [] H H1 ∧ H1 D = some (.lst (ms.map V.int)))
      ⟨[], rfl, Kp.new hD, upd_same⟩ (fun i H1 _ ⟨_, _, kp, _⟩ => kp.seq hS) ?_ ?_⟩
    · rintro i x H1 hi ⟨ms, hms, kp, hd⟩
      obtain ⟨z, hz, rfl⟩ := get_mapI hi
      have hil : i < ns.length := (List.getElem?_eq_some_iff.mp hz).1
      refine ⟨rfl, _, rfl, _, _, rfl, rfl, (by show (0 : Int) < 1009; decide), _, hd, ?_, ms ++ [z % 1009], ?_, ?_, ?_⟩
      · rw [List.length_map]
        exact small_of (m := 300) (by omega)
      · rw [List.length_append, hms]
        rfl
      · exact kp.own hD hd
      · rw [upd_same, List.map_append]
        rfl
    · rintro H1 ⟨ms, hms, kp, hd⟩
      refine ⟨D, ms, rfl, SqL.of hd, _, _, rfl, rfl, _, rfl, _, _, rfl, rfl, _, _, rfl, by omega, by omega, fun r r0 r1 => ?_⟩
      refine ⟨_, rfl, _, _, rfl, rfl, ⟨by decide, by decide⟩, by decide, fun p hp => ?_⟩
      have e0 := Int.emod_nonneg r (show (4 : Int) ≠ 0 by decide)
      have e1 := Int.emod_lt_of_pos r (show (0 : Int) < 4 by decide)
      have hc : ∃ d : Int, atI [V.int 3, V.int 5, V.int 9, V.int 20] (r % 4) = some (V.int d) ∧ 0 < d ∧ d ≤ 20 := by
        have : r % 4 = 0 ∨ r % 4 = 1 ∨ r % 4 = 2 ∨ r % 4 = 3 := by omega
        rcases this with e | e | e | e <;> rw [e]
        · exact ⟨3, rfl, by decide, by decide⟩
        · exact ⟨5, rfl, by decide, by decide⟩
        · exact ⟨9, rfl, by decide, by decide⟩
        · exact ⟨20, rfl, by decide, by decide⟩
      obtain ⟨d, hd1, hd2, hd3⟩ := hc
      refine ⟨_, rfl, _, _, rfl, rfl, (by show (0 : Int) < 4; decide), p, _, _, _, rfl, rfl, SqL.of upd_same, hd1, ?_⟩
      refine ⟨_, _, rfl, rfl, hd2, _, _, rfl, rfl, ?_⟩
      have f0 := Int.emod_nonneg (r / 4) (show d ≠ 0 by omega)
      have f1 := Int.emod_lt_of_pos (r / 4) hd2
      exact q _ _ (by omega) (by omega) (kp.step hp)
end
end Kf

namespace Kf
open PySem PySem.Spec PyProof.Rows L2
section
variable {P : Program} {w : World} {K : PySem.W.Frag} {mg : Str → Option Value} {base : Heap} {tb : Addr}
/-! ### _law_names -/
def spNames (tb : Addr) : Sp := fun vs H Q _ => ∃ n m : Int, vs = [.int n, .int m] ∧ 0 ≤ n ∧ n < 100000000 ∧ 3 ≤ m ∧ m ≤ 26 ∧
  ∀ (zs : List Str) (p : Addr) (H' : Hp), (zs.length : Int) = m → (∀ z ∈ zs, IsName z) → Kp tb [] H H' → H p = none → H' p = some (.lst (zs.map V.str)) → Q (.ref p) H'
abbrev nNames : List Str := ["_law_number", "_law_many", "_law_letters", "_law_size", "_law_row", "_law_at", "_law_signs", "_law_j", "_law_k", "_law_sign"]
theorem sc_names : FnScope nNames ["_law_number", "_law_many"] (defScope s__law_names) := ⟨rfl, rfl, rfl, by decide +kernel, rfl, by decide +kernel, by decide +kernel⟩
/-- texts gathered, each of a kind -/
def RS (p : Str → Prop) (i : Nat) (acc : List V) : Prop := ∃ zs : List Str, zs.length = i ∧ (∀ z ∈ zs, p z) ∧ acc = zs.map V.str
theorem RS.nil {p : Str → Prop} : RS p 0 [] := ⟨[], rfl, fun _ h => absurd h (by simp), rfl⟩
theorem RS.snoc {p : Str → Prop} {i : Nat} {acc : List V} {z : Str} (h : RS p i acc) (hz : p z) : RS p (i + 1) (acc ++ [.str z]) := by
  obtain ⟨zs, h1, h2, rfl⟩ := h
  refine ⟨zs ++ [z], by rw [List.length_append, h1]; rfl, fun y hy => ?_, by rw [List.map_append]; rfl⟩
  rcases List.mem_append.mp hy with hy | hy
  · exact h2 y hy
  · rw [List.mem_singleton.mp hy]; exact hz
theorem RS.len {p : Str → Prop} {i : Nat} {acc : List V} (h : RS p i acc) : acc.length = i := by
  obtain ⟨zs, h1, _, rfl⟩ := h
  rw [List.length_map, h1]
def IsSign (z : Str) : Prop := z.length = 1 ∧ Low z
theorem ok_names {f : Addr} {fd : FuncData} {k0 : Nat} (F : FnP K "_law_names" "_law_names" s__law_names f fd) (hrange : mg "range" = none) (henum : mg "enumerate" = none) :
    FnOk P w K mg base CX0 (k0 + 1) f fd ["_law_number", "_law_many"] (spNames tb) := by
  refine ok0 F sc_names (fun vs H Q E h => ?_) (fun cdv A outer s H vs Q E hr h => ?_)
  · obtain ⟨n, m, rfl, _⟩ := h
    rfl
  · obtain ⟨n, m, rfl, n0, n1, m0, m1, q⟩ := h
    refine ⟨_, pss_cons (ps_set (i := 2) sc_names.nd rfl (.inr rfl) pe_str)
      (pss_cons (ps_set (i := 3) sc_names.nd rfl (.inr rfl) (pe_op op_mod (pv 0) pe_int))
      (pss_cons (ps_set (i := 4) sc_names.nd rfl (.inr rfl) (pe_join pe_str
        (pe_lc (own := [("_law_j", 7)]) (g := gName 7) (tt := tYes) rfl sc_names.nd (pi_range1 (by rfl) hrange (pa_cons pe_int pa_nil)) (blkOk_by (N := nNames) (sc := defScope s__law_names) (by decide +kernel))
            (fun _ _ _ _ _ => pg_name (i := 7) sc_names.nd rfl (Or.inl rfl)) (fun _ _ _ _ _ => pts_nil)
            (fun _ _ _ _ _ => pe_ix ix_str (pv 2) (pe_op op_mod (pe_op op_add (pe_op op_fdiv (pv 0) pe_int) (pe_op op_mul pe_int (pv 7))) pe_int) (fun _ _ => rfl)))))
      (pss_cons (ps_if (PW.pt (pw_and (pt_cmpR op_eq (pe_op op_mod (pe_op op_fdiv (pv 0) pe_int) pe_int) pe_int (nomark _)) (pw_and1 (pt_cmpR op_lt (pv 1) pe_int (nomark _)))))
        (pss_one (ps_ret (pe_lc (own := [("_law_k", 8)]) (g := gName 8) (tt := tYes) rfl sc_names.nd (pi_range1 (by rfl) hrange (pa_cons (pv 1) pa_nil)) (blkOk_by (N := nNames) (sc := defScope s__law_names) (by decide +kernel))
            (fun _ _ _ _ _ => pg_name (i := 8) sc_names.nd rfl (Or.inl rfl)) (fun _ _ _ _ _ => pts_nil)
            (fun _ _ _ _ _ => pe_slice sl_str (pv 4) po_none (po_some (pe_op op_add (pv 8) pe_int)))))) pss_nil)
      (pss_cons (ps_set (i := 5) sc_names.nd rfl (.inr rfl) (pe_op op_mod (pe_op op_fdiv (pv 0) pe_int) (pe_op op_add (pv 3) pe_int)))
      (pss_cons (ps_setLc (i := 6) (own := [("_law_k", 8)]) (g := gName 8) (tt := tYes) rfl sc_names.nd rfl rfl (sw_true rfl rfl rfl (by decide +kernel)) (pi_range1 (by rfl) hrange (pa_cons (pv 1) pa_nil)) (blkOk_by (N := nNames) (sc := defScope s__law_names) (by decide +kernel))
            (fun _ _ _ _ _ => pg_name (i := 8) sc_names.nd rfl (Or.inl rfl)) (fun _ _ _ _ _ => pts_nil)
            (fun _ _ _ _ _ => pe_ix ix_str (pv 2) (pe_op op_mod (pe_op op_add (pe_op op_fdiv (pv 0) pe_int) (pe_op op_mul pe_int (pv 8))) pe_int) (fun _ _ => rfl)))
      (pss_cons (ps_if (pt_cmpR op_eq (pe_op op_mod (pe_op op_fdiv (pv 0) pe_int) pe_int) pe_int (nomark _))
        (pss_one (ps_ret (pe_lc (own := [("_law_k", 8), ("_law_sign", 9)]) (g := gTup K 2 (gCons (gName 8) (gCons (gName 9) gNil))) (tt := tYes) rfl sc_names.nd (pi_enum (by rfl) henum (pa_cons (pv 6) pa_nil)) (blkOk_by (N := nNames) (sc := defScope s__law_names) (by decide +kernel))
            (fun _ _ _ _ _ => pg_tup rfl (pgs_cons (pg_name (i := 8) sc_names.nd rfl (Or.inl rfl)) (pgs_cons (pg_name (i := 9) sc_names.nd rfl (Or.inl rfl)) pgs_nil))) (fun _ _ _ _ _ => pts_nil)
            (fun _ _ _ _ _ => pe_op op_add_str (pv 9) (pe_slice sl_str (pv 4) po_none (po_some (pe_op op_mod (pe_op op_add (pe_op op_mul pe_int (pv 8)) (pv 5)) pe_int))))))) pss_nil)
      (pss_one (ps_ret (pe_lc (own := [("_law_sign", 9)]) (g := gName 9) (tt := tYes) rfl sc_names.nd (pi_list (pv 6)) (blkOk_by (N := nNames) (sc := defScope s__law_names) (by decide +kernel))
            (fun _ _ _ _ _ => pg_name (i := 9) sc_names.nd rfl (Or.inl rfl)) (fun _ _ _ _ _ => pts_nil)
            (fun _ _ _ _ _ => pe_op op_add_str (pe_op op_add_str (pe_slice sl_str (pv 4) po_none (po_some (pv 5))) (pv 9)) (pe_slice sl_str (pv 4) (po_some (pv 5)) (po_some (pv 3))))))))))))), ?_⟩
    have hline : ∀ {z : Str}, z.length ≤ 8 → z.length ≤ sizeLine := fun h => Nat.le_of_lt (small_of (m := 8) h)
    -- letters, size
    refine ⟨_, rfl, _, _, rfl, rfl, (by show (0 : Int) < 8; decide), ?_⟩
    have s0 := Int.emod_nonneg n (show (8 : Int) ≠ 0 by decide)
    have s1 := Int.emod_lt_of_pos n (show (0 : Int) < 8 by decide)
    -- row
    refine ⟨⟨_, rfl⟩, 8, rfl, by decide, by decide, fun D hD => ?_⟩
    refine lc_it (n := 8) walk_range (LcI tb H D (RS IsSign)) (LcI.start hD RS.nil) (fun _ _ _ _ => trivial) ?_ ?_
    · rintro i x H1 H2 hi ⟨acc, r, kp, hd⟩ ⟨rfl, rfl⟩
      obtain ⟨c, hc, lc⟩ := letter_atI (i := (n / 8 + 5 * (0 + (i : Int))) % 26) (Int.emod_nonneg _ (by decide)) (Int.emod_lt_of_pos _ (by decide))
      refine ⟨rfl, _, rfl, _, rfl, _, _, rfl, rfl, ⟨by decide, by decide⟩, _, rfl, _, _, rfl, rfl, .inl ⟨by decide, by decide⟩, _, _, rfl, rfl, _, _, rfl, rfl, (by show (0 : Int) < 26; decide), _, _, c, rfl, rfl, by decide +kernel, hc, ?_⟩
      exact LcI.next hD kp hd (Kp.refl _) (by rw [r.len]; exact small_of (m := 8) (by omega)) (r.snoc ⟨rfl, low_one lc⟩)
    · rintro H1 ⟨acc, ⟨signs, hl8, hsg, rfl⟩, kp1, hd1⟩
      refine ⟨_, _, signs, rfl, rfl, .inl (SqL.of hd1), ?_, ?_⟩
      · have e1 : (signs.map (·.length)).sum = signs.length := by
          have : ∀ l : List Str, (∀ z ∈ l, IsSign z) → (l.map (·.length)).sum = l.length := by
            intro l
            induction l with
            | nil => intro _; rfl
            | cons a r ih =>
              intro h
              rw [List.map_cons, List.sum_cons, ih fun z hz => h z (List.mem_cons_of_mem _ hz), (h a List.mem_cons_self).1, List.length_cons]
              omega
          exact this signs hsg
        rw [e1, hl8]
        decide +kernel
      rw [tjoin_eq]
      have rl : (Str.join ("" : Str) signs).length = 8 := by rw [join_len signs fun z hz => (hsg z hz).1, hl8]
      have rlow : Low (Str.join ("" : Str) signs) := join_low signs fun z hz => (hsg z hz).2
      generalize Str.join ("" : Str) signs = row at rl rlow ⊢
      have f1 : Kp tb [] H H1 := kp1
      have fin : ∀ (H' : Hp) (zs : List Str) (p : Addr), Kp tb [] H1 H' → H1 p = none → (zs.length : Int) = m → (∀ z ∈ zs, IsName z) → H' p = some (.lst (zs.map V.str)) → Q (.ref p) H' := fun H' zs p k2 np h1 h2 h3 =>
        q zs p H' h1 h2 (f1.trans k2) (f1.free _ np) h3
      -- if number // 64 % 3 == 1 and many < 9
      refine ⟨_, rfl, _, _, rfl, rfl, ⟨by decide, by decide⟩, _, _, rfl, rfl, (by show (0 : Int) < 3; decide), rfl, _, rfl, ?_⟩
      refine ite_else ?rest (fun hrest _ => ⟨_, rfl, _, _, rfl, rfl, _, rfl, ?_⟩)
      · -- at, signs
        have a0 := Int.emod_nonneg (n / 200) (show n % 8 + 1 ≠ 0 by omega)
        have a1 := Int.emod_lt_of_pos (n / 200) (show 0 < n % 8 + 1 by omega)
        refine ⟨_, rfl, _, _, rfl, rfl, ⟨by decide, by decide⟩, _, rfl, _, _, rfl, rfl, _, _, rfl, rfl, by omega, ?_⟩
        refine ⟨_, rfl, m, rfl, by omega, by omega, fun D2 hD2 => ?_⟩
        refine lc_it (n := m.toNat) walk_range (LcI tb H1 D2 (RS IsSign)) (LcI.start hD2 RS.nil) (fun _ _ _ _ => trivial) ?_ ?_
        · rintro i x H2 H3 hi ⟨acc, r, kp, hd⟩ ⟨rfl, rfl⟩
          obtain ⟨c, hc, lc⟩ := letter_atI (i := (n / 2000 + 7 * (0 + (i : Int))) % 26) (Int.emod_nonneg _ (by decide)) (Int.emod_lt_of_pos _ (by decide))
          refine ⟨rfl, _, rfl, _, rfl, _, _, rfl, rfl, ⟨by decide, by decide⟩, _, rfl, _, _, rfl, rfl, .inl ⟨by decide, by decide⟩, _, _, rfl, rfl, _, _, rfl, rfl, (by show (0 : Int) < 26; decide), _, _, c, rfl, rfl, by decide +kernel, hc, ?_⟩
          exact LcI.next hD2 kp hd (Kp.refl _) (by rw [r.len]; exact small_of (m := 26) (by omega)) (r.snoc ⟨rfl, low_one lc⟩)
        · rintro H2 ⟨acc, ⟨sgs, hlm, hsgs, rfl⟩, kp2, hd2⟩
          have fin2 : ∀ (H' : Hp) (zs : List Str) (p : Addr), Kp tb [] H2 H' → H2 p = none → zs.length = sgs.length → (∀ z ∈ zs, IsName z) → H' p = some (.lst (zs.map V.str)) → Q (.ref p) H' := fun H' zs p k2 np h1 h2 h3 => by
            exact fin H' zs p (kp2.trans k2) (kp2.free _ np) (by omega) h2 h3
          -- if number // 64 % 3 == 2
          refine ⟨_, rfl, _, _, rfl, rfl, ⟨by decide, by decide⟩, _, _, rfl, rfl, (by show (0 : Int) < 3; decide), rfl, _, rfl, ?_⟩
          refine ite2 (fun _ => ?_) (fun _ => ?_)
          · refine ⟨_, rfl, D2, _, rfl, SqL.of hd2, fun D3 hD3 => ?_⟩
            refine lc_it (n := (sgs.map V.str).length) walk_enum (LcI tb H2 D3 (RS IsName)) (LcI.start hD3 RS.nil) (fun i H _ ⟨_, _, kp, _⟩ => kp.seq (SqL.of hd2)) ?_ ?_
            · rintro i x H3 H4 hi ⟨acc, r, kp, hd⟩ ⟨T, x1, x2, rfl, nT, rfl, e1, e2⟩
              cases e1
              obtain ⟨sg, hsg1, rfl⟩ := get_mapS e2
              obtain ⟨l1, lw⟩ := hsgs sg (List.mem_of_getElem? hsg1)
              refine ⟨T, _, rfl, SqT.of upd_same, rfl, _, _, rfl, _, _, rfl, rfl, rfl, ?_⟩
              have e0 := Int.emod_nonneg (3 * (i : Int) + n / 200 % (n % 8 + 1)) (show (8 : Int) ≠ 0 by decide)
              have e8 := Int.emod_lt_of_pos (3 * (i : Int) + n / 200 % (n % 8 + 1)) (show (0 : Int) < 8 by decide)
              refine ⟨_, rfl, _, rfl, _, rfl, _, _, rfl, rfl, .inl ⟨by decide, by decide⟩, _, rfl, _, _, rfl, rfl, _, _, rfl, rfl, (by show (0 : Int) < 8; decide), _, rfl, row, rfl, hline (by omega), ?_⟩
              have lc : (cutS row none (some ((3 * (i : Int) + n / 200 % (n % 8 + 1)) % 8))).length ≤ 7 := by
                rw [len_cut, HT.sIx_none, sIx_pos e0, rl]; omega
              refine ⟨_, _, rfl, rfl, Nat.le_of_lt (small_of (m := 8) (by omega)), ?_⟩
              rw [List.length_map] at hi
              exact LcI.next hD3 kp hd (Kp.new nT) (by rw [r.len]; exact small_of (m := 26) (by omega)) (r.snoc (isName_of (by rw [len_app]; omega) (by rw [len_app]; omega) (low_app lw (low_cut rlow _ _))))
            · rintro H3 ⟨acc, ⟨zs, hz1, hz2, rfl⟩, kp, hd⟩
              rw [List.length_map] at hz1
              exact fin2 H3 zs D3 kp hD3 hz1 hz2 hd
          · refine ⟨_, rfl, D2, rfl, ⟨_, SqL.of hd2⟩, fun D3 hD3 => ?_⟩
            refine lc_it (n := (sgs.map V.str).length) walk_list (LcI tb H2 D3 (RS IsName)) (LcI.start hD3 RS.nil) (fun i H _ ⟨_, _, kp, _⟩ => kp.seq (SqL.of hd2)) ?_ ?_
            · rintro i x H3 H4 hi ⟨acc, r, kp, hd⟩ ⟨rfl, e2⟩
              obtain ⟨sg, hsg1, rfl⟩ := get_mapS e2
              obtain ⟨l1, lw⟩ := hsgs sg (List.mem_of_getElem? hsg1)
              rw [List.length_map] at hi
              refine ⟨rfl, _, rfl, _, rfl, _, rfl, row, rfl, hline (by omega), _, rfl, _, _, rfl, rfl, ?_, _, rfl, _, rfl, _, rfl, _, rfl, _, rfl, row, rfl, hline (by omega), _, _, rfl, rfl, ?_, ?_⟩
              · rw [len_cut, HT.sIx_none, sIx_pos a0, rl]
                exact Nat.le_of_lt (small_of (m := 9) (by omega))
              · rw [len_app, len_cut, len_cut, HT.sIx_none, sIx_pos a0, sIx_pos s0, rl]
                exact Nat.le_of_lt (small_of (m := 20) (by omega))
              · refine LcI.next hD3 kp hd (Kp.refl _) (by rw [r.len]; exact small_of (m := 26) (by omega)) (r.snoc (isName_of ?_ ?_ (low_app (low_app (low_cut rlow _ _) lw) (low_cut rlow _ _))))
                · rw [len_app, len_app]; omega
                · simp only [len_app, len_cut, HT.sIx_none, sIx_pos a0, sIx_pos s0, rl]; omega
            · rintro H3 ⟨acc, ⟨zs, hz1, hz2, rfl⟩, kp, hd⟩
              rw [List.length_map] at hz1
              exact fin2 H3 zs D3 kp hD3 hz1 hz2 hd
      · cases h9 : decide (m < 9) with
        | true =>
          refine iteT ?_
          refine ⟨_, rfl, m, rfl, by omega, by omega, fun D2 hD2 => ?_⟩
          refine lc_it (n := m.toNat) walk_range (LcI tb H1 D2 (RS IsName)) (LcI.start hD2 RS.nil) (fun _ _ _ _ => trivial) ?_ ?_
          · rintro i x H2 H3 hi ⟨acc, r, kp, hd⟩ ⟨rfl, rfl⟩
            have hm9 := of_decide_eq_true h9
            refine ⟨rfl, _, rfl, _, rfl, _, _, rfl, rfl, _, rfl, row, rfl, hline (by omega), ?_⟩
            refine LcI.next hD2 kp hd (Kp.refl _) (by rw [r.len]; exact small_of (m := 26) (by omega)) (r.snoc (isName_of ?_ ?_ (low_cut rlow _ _)))
            · rw [len_cut, HT.sIx_none, sIx_pos (by omega), rl]; omega
            · rw [len_cut, HT.sIx_none, sIx_pos (by omega), rl]; omega
          · rintro H2 ⟨acc, ⟨zs, hz1, hz2, rfl⟩, kp, hd⟩
            exact fin H2 zs D2 kp hD2 (by omega) hz2 hd
        | false => exact iteF hrest
end
end Kf

namespace Kf
open PySem PySem.Spec PyProof.Rows L2
section
variable {P : Program} {w : World} {K : PySem.W.Frag} {mg : Str → Option Value} {base : Heap} {tb : Addr}
/-! ### _law_drawn -/
def spDrawn (K : PySem.W.Frag) (tb : Addr) : Sp := fun vs H Q _ => ∃ (a : Addr) (ns : List Int) (m : Int), vs = [.ref a, .int m] ∧ SqL K H a (ns.map V.int) ∧ ns.length ≤ 63 ∧ 5 ≤ m ∧ m ≤ 12 ∧
  ∀ (zs ws : List Str) (t pz pw : Addr) (H' : Hp), 0 < zs.length → zs.length ≤ 26 → (m ≤ 9 → (zs.length : Int) ≤ m) → (∀ z ∈ zs, IsName z) → ws.length = ns.length → (∀ z ∈ ws, z ∈ zs) → Kp tb [] H H' → H pz = none → H pw = none → H t = none → pz ≠ pw →
    H' t = some (.tup [.ref pz, .ref pw]) → H' pz = some (.lst (zs.map V.str)) → H' pw = some (.lst (ws.map V.str)) → Q (.ref t) H'
abbrev nDrawn : List Str := ["_law_script", "_law_most", "_law_cell", "_law_number", "_law_many", "_law_names_here", "_law_found", "_law_k", "_law_more", "_law_some"]
theorem sc_drawn : FnScope nDrawn ["_law_script", "_law_most"] (defScope s__law_drawn) := ⟨rfl, rfl, rfl, by decide +kernel, rfl, by decide +kernel, by decide +kernel⟩
theorem ok_drawn {f : Addr} {fd : FuncData} {k0 : Nat} (F : FnP K "_law_drawn" "_law_drawn" s__law_drawn f fd) (GM : Glob P w K mg base CX0 (k0 + 1) "_law_mixed" ["_law_cell", "_law_k"] spMixed)
    (GN : Glob P w K mg base CX0 (k0 + 1) "_law_names" ["_law_number", "_law_many"] (spNames tb)) (hlen : mg "len" = none) (hsum : mg "sum" = none) (hint : mg "int" = none) (henum : mg "enumerate" = none) :
    FnOk P w K mg base CX0 (k0 + 2) f fd ["_law_script", "_law_most"] (spDrawn K tb) := by
  refine ok0 F sc_drawn (fun vs H Q E h => ?_) (fun cdv A outer s H vs Q E hr h => ?_)
  · obtain ⟨a, ns, m, rfl, _⟩ := h
    rfl
  · obtain ⟨a, ns, m, rfl, hS, hl, m0, m1, q⟩ := h
    refine ⟨_, pss_cons (ps_set (i := 3) sc_drawn.nd rfl (.inl rfl) (pe_callG GM hr (by rfl) pass0
        (pa_cons (pe_op op_add (pe_callB call_len_seq (by rfl) hlen PySem.boot_len (pa_cons (pv 0) pa_nil))
          (pe_callB (cr_sum rfl) (by rfl) hsum (by decide +kernel) (pa_cons (pe_lc (own := [("_law_cell", 2)]) (g := gName 2) (tt := tYes) rfl sc_drawn.nd (pi_list (pv 0)) (blkOk_by (N := nDrawn) (sc := defScope s__law_drawn) (by decide +kernel))
            (fun _ _ _ _ _ => pg_name (i := 2) sc_drawn.nd rfl (Or.inl rfl)) (fun _ _ _ _ _ => pts_nil) (fun _ _ _ _ _ => pe_op op_mod (pv 2) pe_int)) pa_nil)))
        (pa_cons pe_int pa_nil))))
      (C8.pss_cut (ps_set (i := 4) sc_drawn.nd rfl (.inl rfl) (pe_ix ix_list (pe_lst (pa_cons (pe_op op_add pe_int (pe_op op_mod (pv 3) (pe_op op_sub (pv 1) pe_int))) (pa_cons pe_int pa_nil)))
          (pe_callTy call_int1 (by rfl) hint (by decide +kernel) (pa_cons (pe_and (pe_cmpR op_gt (pv 1) pe_int (nomark _)) (pe_one (pe_cmpR op_eq (pe_op op_mod (pe_op op_fdiv (pv 3) pe_int) pe_int) pe_int (nomark _)))) pa_nil)) (fun _ _ => rfl)))
      (pss_cons (ps_set (i := 5) sc_drawn.nd rfl (.inl rfl) (pe_callG GN hr (by rfl) pass0 (pa_cons (pe_op op_fdiv (pv 3) pe_int) (pa_cons (pv 4) pa_nil))))
      (pss_cons (ps_set (i := 6) sc_drawn.nd rfl (.inl rfl) (pe_lst pa_nil))
      (pss_cons (ps_for PassesOwn.never rfl (pi_enum (by rfl) henum (pa_cons (pe_slice sl_list (pv 0) po_none (po_some pe_int)) pa_nil))
          (pg_tup rfl (pgs_cons (pg_name (i := 7) sc_drawn.nd rfl (Or.inl rfl)) (pgs_cons (pg_name (i := 2) sc_drawn.nd rfl (Or.inl rfl)) pgs_nil)))
        (pss_cons (ps_set (i := 8) sc_drawn.nd rfl (.inl rfl) (pe_callG GM hr (by rfl) pass0 (pa_cons (pv 2) (pa_cons (pv 7) pa_nil))))
        (pss_cons (ps_set (i := 9) sc_drawn.nd rfl (.inl rfl) (pv 5))
        (C8.pss_cut (ps_if (PW.pt (pw_and (pt_cmpR op_eq (pe_op op_mod (pv 8) pe_int) pe_int (nomark _)) (pw_and1 (pt_cmpR (op_neS hr.units) (pv 6) (pe_lst pa_nil) (nomark _)))))
            (pss_one (ps_set (i := 9) sc_drawn.nd rfl (.inl rfl) (pe_slice sl_list (pv 6) (po_some (pe_un un_neg pe_int)) po_none))) pss_nil)
        (pss_one (ps_expr (pe_bm PySem.F.plainAttrs_list PySem.F.slot_list_append PySem.F.type_list_append mt_append (pv 6)
          (pa_cons (pe_ix ix_list (pv 9) (pe_op op_mod (pe_op op_fdiv (pv 8) pe_int) (pe_callB call_len_seq (by rfl) hlen PySem.boot_len (pa_cons (pv 9) pa_nil))) (fun _ _ => rfl)) pa_nil))))))))
      (pss_one (ps_ret (pe_tup (pa_cons (pv 5) (pa_cons (pv 6) pa_nil))))))))), ?_⟩
    -- number
    refine ⟨_, rfl, a, _, rfl, .inl hS, ?_⟩
    refine ⟨_, rfl, a, rfl, ⟨_, hS⟩, fun D hD => lc_it (walk_list (K := K) (a := a) (xs := ns.map V.int)) (LcI tb H D (fun i acc => ∃ ms : List Int, ms.length = i ∧ acc = ms.map V.int)) (LcI.start hD ⟨[], rfl, rfl⟩)
      (fun i H1 _ ⟨_, _, kp, _⟩ => kp.seq hS) ?_ ?_⟩
    · rintro i x H1 H2 hi ⟨acc, ⟨ms, hms, rfl⟩, kp, hd⟩ ⟨rfl, hx⟩
      obtain ⟨z, hz, rfl⟩ := get_mapI hx
      rw [List.length_map] at hi
      refine ⟨rfl, _, rfl, _, _, rfl, rfl, (by show (0 : Int) < 1000003; decide), ?_⟩
      refine LcI.next hD kp hd (Kp.refl _) (by rw [List.length_map, hms]; exact small_of (m := 300) (by omega)) ⟨ms ++ [z % 1000003], by rw [List.length_append, hms]; rfl, by rw [List.map_append]; rfl⟩
    · rintro H1 ⟨acc, ⟨ms, hms, rfl⟩, kp1, hd1⟩
      refine ⟨D, ms, rfl, SqL.of hd1, _, _, rfl, rfl, _, _, rfl, by decide, by decide, fun r r0 r1 => ?_⟩
      have e0 := Int.emod_nonneg r (show m - 2 ≠ 0 by omega)
      have e1 := Int.emod_lt_of_pos r (show 0 < m - 2 by omega)
      -- many
      refine ⟨fun σ H' => ∃ y : Int, 3 ≤ y ∧ y ≤ 26 ∧ (m ≤ 9 → y ≤ m) ∧ σ = [some (.ref a), some (.int m), none, some (.int r), some (.int y), none, none, none, none, none] ∧ Kp tb [] H H', ?_, ?_⟩
      · refine ⟨_, rfl, _, rfl, _, _, rfl, rfl, _, _, rfl, rfl, by omega, _, _, rfl, rfl, by show 2 ≤ sizeLine; decide, fun p hp => ?_⟩
        have k2 := kp1.step (o := .lst [.int (3 + r % (m - 2)), .int 26]) hp
        have hp2 : (upd H1 p (.lst [.int (3 + r % (m - 2)), .int 26])) p = some (.lst [.int (3 + r % (m - 2)), .int 26]) := upd_same
        refine ⟨_, rfl, _, _, rfl, rfl, _, rfl, ?_⟩
        cases h9 : decide (9 < m) with
        | false =>
          have := of_decide_eq_false h9
          refine iteF (.inr ⟨_, rfl, p, _, _, _, rfl, rfl, SqL.of hp2, (rfl : atI [V.int (3 + r % (m - 2)), V.int 26] 0 = some (V.int (3 + r % (m - 2)))), ?_⟩)
          exact ⟨_, by omega, by omega, fun _ => by omega, rfl, k2⟩
        | true =>
          have := of_decide_eq_true h9
          refine iteT ⟨_, rfl, _, _, rfl, rfl, ⟨by decide, by decide⟩, _, _, rfl, rfl, (by show (0 : Int) < 8; decide), rfl, .inr ⟨_, rfl, ?_⟩⟩
          cases decide ((fun i j => V.int (i % j)) (r / 1000) 8 = V.int 1) with
          | true => exact ⟨p, _, _, _, rfl, rfl, SqL.of hp2, (rfl : atI [V.int (3 + r % (m - 2)), V.int 26] 1 = some (V.int 26)), 26, by omega, by omega, fun _ => by omega, rfl, k2⟩
          | false => exact ⟨p, _, _, _, rfl, rfl, SqL.of hp2, (rfl : atI [V.int (3 + r % (m - 2)), V.int 26] 0 = some (V.int (3 + r % (m - 2)))), _, by omega, by omega, fun _ => by omega, rfl, k2⟩
      rintro σ H2 ⟨y, y0, y1, ym, rfl, k2⟩
      -- names
      refine ⟨_, rfl, _, _, rfl, rfl, ⟨by decide, by decide⟩, _, rfl, _, _, rfl, by omega, by omega, y0, y1, fun zs pz H3 hzl hzn k3 fz hz => ?_⟩
      -- found
      refine ⟨Nat.zero_le _, fun pw hw => ?_⟩
      have nzw : pz ≠ pw := ne_of_none hz hw
      have k4 : Kp tb [] H3 (upd H3 pw (.lst [])) := Kp.new hw
      have hz0 : 0 < zs.length := by omega
      -- the loop over a cut
      refine ⟨_, rfl, _, rfl, a, _, rfl, (k2.trans (k3.trans k4)).seq hS, fun c hc => ?_⟩
      have ecut : cutV (ns.map V.int) none (some 300) = ns.map V.int := by
        unfold cutV
        rw [HT.sIx_none, sIx_pos (by decide), List.length_map, List.drop_zero, show min (300 : Int).toNat ns.length - 0 = ns.length by
          show min 300 ns.length - 0 = ns.length
          omega]
        exact List.take_of_length_le (by rw [List.length_map]; exact Nat.le_refl _)
      rw [ecut]
      have k5 : Kp tb [] (upd H3 pw (.lst [])) (upd (upd H3 pw (.lst [])) c (.lst (ns.map V.int))) := Kp.new hc
      have ncw : c ≠ pw := fun e => by rw [e, upd_same] at hc; cases hc
      have ncz : pz ≠ c := ne_of_none (k4.get hz) hc
      refine ⟨c, _, rfl, SqL.of upd_same, ?_⟩
      have base5 : Kp tb [] H3 (upd (upd H3 pw (.lst [])) c (.lst (ns.map V.int))) := k4.trans k5
      refine for_it walk_enum (fun i σ H' => ∃ (ws : List Str) (v2 v7 v8 v9 : Option V), ws.length = i ∧ (∀ z ∈ ws, z ∈ zs) ∧ σ = [some (.ref a), some (.int m), v2, some (.int r), some (.int y), some (.ref pz), some (.ref pw), v7, v8, v9] ∧
        Kp tb [] H3 H' ∧ H' c = some (.lst (ns.map V.int)) ∧ H' pw = some (.lst (ws.map V.str)))
        ⟨[], none, none, none, none, rfl, fun _ h => absurd h (by simp), rfl, base5, upd_same, by rw [upd_ne ncw.symm, upd_same]; rfl⟩
        (fun i σ H' _ ⟨_, _, _, _, _, _, _, _, _, hc', _⟩ => SqL.of hc') ?_ ?_
      · rintro i x σ H4 H5 hi ⟨ws, v2, v7, v8, v9, hwl, hws, rfl, kp, hc4, hw4⟩ ⟨T, x1, x2, rfl, nT, rfl, e1, e2⟩
        cases e1
        obtain ⟨cell, hcell, rfl⟩ := get_mapI e2
        rw [List.length_map] at hi
        refine ⟨T, _, rfl, SqT.of upd_same, rfl, _, _, rfl, _, _, rfl, rfl, ?_⟩
        have nTw : pw ≠ T := ne_of_none hw4 nT
        have nTc : c ≠ T := ne_of_none hc4 nT
        have k6 : Kp tb [] H3 (upd H4 T (.tup [.int (i : Nat), .int cell])) := kp.step nT
        have hz6 := k6.get hz
        have hw6 : (upd H4 T (.tup [.int (i : Nat), .int cell])) pw = some (.lst (ws.map V.str)) := by rw [upd_ne nTw]; exact hw4
        have hc6 : (upd H4 T (.tup [.int (i : Nat), .int cell])) c = some (.lst (ns.map V.int)) := by rw [upd_ne nTc]; exact hc4
        generalize upd H4 T (.tup [.int (i : Nat), .int cell]) = H6 at k6 hz6 hw6 hc6 ⊢
        -- more, some
        refine ⟨_, rfl, _, rfl, _, _, rfl, by omega, by omega, fun more mo0 mo1 => ?_⟩
        refine ⟨_, rfl, ?_⟩
        refine ⟨fun σ H' => ∃ (sa : Addr) (ss : List Str), 0 < ss.length ∧ (∀ z ∈ ss, z ∈ zs) ∧ σ = [some (.ref a), some (.int m), some (.int cell), some (.int r), some (.int y), some (.ref pz), some (.ref pw), some (.int (i : Nat)), some (.int more), some (.ref sa)] ∧
          Kp tb [] H3 H' ∧ H' c = some (.lst (ns.map V.int)) ∧ H' pw = some (.lst (ws.map V.str)) ∧ H' sa = some (.lst (ss.map V.str)), ?_, ?_⟩
        · refine ⟨_, rfl, _, _, rfl, rfl, (by show (0 : Int) < 3; decide), rfl, _, rfl, ?_⟩
          refine ite2 (fun _ => ?_) (fun _ => ⟨pz, zs, hz0, fun z h => h, rfl, k6, hc6, hw6, hz6⟩)
          refine ⟨_, rfl, Nat.zero_le _, fun e he => ?_⟩
          have k7 : Kp tb [] H6 (upd H6 e (.lst [])) := Kp.new he
          refine ⟨pw, e, ws, [], rfl, rfl, SqL.of (k7.get hw6), SqL.of upd_same, okS_names fun z hz => hzn z (hws z hz), okS_names (fun z hz => absurd hz (by simp)), _, rfl, ?_⟩
          cases hne : decide (ws = []) with
          | true => exact iteF ⟨pz, zs, hz0, fun z h => h, rfl, k6.trans k7, k7.get hc6, k7.get hw6, k7.get hz6⟩
          | false =>
            have hne2 := of_decide_eq_false hne
            have hwpos : 0 < ws.length := List.length_pos_iff.mpr hne2
            refine iteT ⟨_, rfl, _, rfl, _, rfl, pw, _, rfl, SqL.of (k7.get hw6), fun d hd => ?_⟩
            obtain ⟨ss, es, hss, hsl⟩ := cutV_map (f := V.str) ws (some (-4)) none
            have hpos : 0 < ss.length := by
              rw [hsl, cutV_len, HT.sIx_none, List.length_map]
              have e4 : HT.sIx ws.length 0 (some (-4)) = ((-4 : Int) + (ws.length : Int)).toNat := rfl
              rw [e4]
              omega
            have k8 : Kp tb [] (upd H6 e (.lst [])) (upd (upd H6 e (.lst [])) d (.lst (cutV (ws.map V.str) (some (-4)) none))) := Kp.new hd
            exact ⟨d, ss, hpos, fun z hz => hws z (hss z hz), rfl, k6.trans (k7.trans k8), k8.get (k7.get hc6), k8.get (k7.get hw6), by rw [← es]; exact upd_same⟩
        · rintro σ H7 ⟨sa, ss, hspos, hss, rfl, k7, hc7, hw7, hs7⟩
          have i0 := Int.emod_nonneg (more / 3) (show (ss.length : Int) ≠ 0 by omega)
          have i1 := Int.emod_lt_of_pos (more / 3) (show (0 : Int) < (ss.length : Int) by omega)
          obtain ⟨j, ej⟩ : ∃ j : Nat, more / 3 % (ss.length : Int) = (j : Int) := ⟨(more / 3 % (ss.length : Int)).toNat, by omega⟩
          have hj : j < ss.length := by omega
          have hat : atI (ss.map V.str) (more / 3 % (ss.length : Int)) = some (V.str ss[j]) := at_of ej (by rw [List.getElem?_map, List.getElem?_eq_getElem hj]; rfl)
          refine ⟨_, rfl, .inl ⟨rfl, _, SqL.of hw7⟩, _, rfl, _, rfl, _, _, rfl, rfl, ⟨by decide, by decide⟩, _, rfl, sa, _, rfl, .inl (SqL.of hs7), _, _, rfl, rfl, by rw [List.length_map]; omega, sa, _, _, _, rfl, rfl, SqL.of hs7, by rw [List.length_map]; exact hat, ?_⟩
          refine ⟨pw, _, _, rfl, rfl, hw7, by rw [List.length_map, hwl]; exact small_of (m := 63) (by omega), ?_⟩
          refine ⟨ws ++ [ss[j]], _, _, _, _, by rw [List.length_append, hwl]; rfl, fun z hz => ?_, rfl, k7.own hw hw7, by rw [upd_ne ncw]; exact hc7, by rw [upd_same, List.map_append]; rfl⟩
          rcases List.mem_append.mp hz with hz | hz
          · exact hws z hz
          · rw [List.mem_singleton.mp hz]
            exact hss _ (List.getElem_mem hj)
      · rintro σ H4 ⟨ws, v2, v7, v8, v9, hwl, hws, rfl, kp, hc4, hw4⟩
        rw [List.length_map] at hwl
        refine ⟨_, rfl, _, rfl, by show 2 ≤ sizeLine; decide, fun t ht => ?_⟩
        have kt : Kp tb [] H4 (upd H4 t (.tup [.ref pz, .ref pw])) := Kp.new ht
        refine q zs ws t pz pw _ hz0 (by omega) (fun z => by have := ym z; omega) hzn hwl hws (k2.trans (k3.trans (kp.trans kt))) (k2.free _ fz) (k2.free _ (k3.free _ hw)) (k2.free _ (k3.free _ (kp.free _ ht))) nzw upd_same (kt.get (kp.get hz)) (kt.get hw4)
end
end Kf

namespace Kf
open PySem PySem.Spec PyProof.Rows L2
section
variable {P : Program} {w : World} {K : PySem.W.Frag} {mg : Str → Option Value} {base : Heap}
/-! ### is_name, check_name, check_places -/
abbrev cIsName (K : PySem.W.Frag) : Addr := (He.cT K ("is_name", none)).1
abbrev tbOf (K : PySem.W.Frag) : Addr := (He.cT K ("is_name", none)).2
def isNameB (z : Str) : Bool := decide (1 ≤ z.length) && decide (z.length ≤ 8) && z.cps.toList.all lowB
def isNameV : V → Bool
  | .str z => isNameB z
  | _ => false
theorem isNameB_of {z : Str} (h : IsName z) : isNameB z = true := by
  obtain ⟨h1, h2, h3⟩ := h
  unfold isNameB
  rw [decide_eq_true h1, decide_eq_true h2, h3]
  rfl
theorem isName_ofB {z : Str} (h : isNameB z = true) : IsName z := by
  unfold isNameB at h
  rw [Bool.and_eq_true, Bool.and_eq_true] at h
  exact ⟨of_decide_eq_true h.1.1, of_decide_eq_true h.1.2, h.2⟩
def spIsName (K : PySem.W.Frag) : Sp := fun vs H Q _ => ∃ (x : V) (T : String), vs = [x] ∧ TyB K H x T ∧ tyOk T = true ∧ (∀ z, x = .str z → z.length ≤ sizeLine) ∧ GxR.TabG H (tbOf K) ∧ ∀ H', Kp (tbOf K) [] H H' → Q (.bl (isNameV x)) H'
theorem sc_isname : FnScope ["value"] ["value"] (defScope s_is_name) := ⟨rfl, rfl, rfl, by decide +kernel, rfl, by decide +kernel, by decide +kernel⟩
theorem genS_of {env : Env} {scope : Scope} {x : Str} (hk : scope.kind = .function) (hc : scope.isCoroutine = false) (hn : scope.names = [((".0" : Str), NameKind.local), (x, NameKind.local)]) (hx : (x == (".0" : Str)) = false) : GxR.GenS env scope x := by
  refine ⟨hk, hc, fun y hy => ?_, ?_, ?_, fun y hy e => ?_⟩
  · rw [hn] at hy
    rcases List.mem_cons.mp hy with z | z
    · rw [z]; exact fun q => nomatch q
    · rw [List.mem_singleton.mp z]; exact fun q => nomatch q
  · rw [hn]
    rfl
  · rw [hn]
    show (match x == (".0" : Str) with | true => some NameKind.local | false => List.lookup x [(x, NameKind.local)]) = some NameKind.local
    rw [hx]
    show (match x == x with | true => some NameKind.local | false => List.lookup x []) = some NameKind.local
    rw [beq_self_eq_true]
  · rw [hn] at hy
    rcases List.mem_cons.mp hy with z | z
    · rw [z] at e; exact nomatch e
    · rw [List.mem_singleton.mp z] at e; exact nomatch e
theorem ok_isname {fd : FuncData} {k0 : Nat} (F : FnP K "is_name" "is_name" s_is_name (He.fAd K ("is_name", none)) fd) (TB : GxR.TabB base mg (cIsName K) (tbOf K)) {tl : Tok}
    (hml : mg "MOST_LETTERS" = some (.int 8 tl)) (hty : mg "type" = none) (hstr : mg "str" = none) (hlen : mg "len" = none) (hall : mg "all" = none) :
    FnOk P w K mg base CX0 (k0 + 1) (He.fAd K ("is_name", none)) fd ["value"] (spIsName K) := by
  refine okC (p := ("is_name", none)) rfl F sc_isname (fun vs H Q E h => ?_) (fun cdv A outer s H vs Q E hcd hr h => ?_)
  · obtain ⟨x, T, rfl, _⟩ := h
    rfl
  · obtain ⟨x, T, rfl, ty, tok, hsz, tab, q⟩ := h
    refine ⟨_, PSs.nox (pss_cons (ps_if (PW.pt (pw_or (pt_cmpR (op_neTy (hu_of hr)) (pe_callTy call_type1 (by rfl) hty (by decide +kernel) (pa_cons (pv 0) pa_nil)) (pe_bltn (v := .ty "str") (by rfl) hstr (by decide +kernel) rfl) (nomark _))
        (pw_or1 (pt_not (pt_chain op_le op_le pe_int (pe_callB call_len_str (by rfl) hlen PySem.boot_len (pa_cons (pv 0) pa_nil)) (pe_glob (v := .int 8) rfl hml ⟨_, rfl⟩))))))
        (pss_one (ps_ret pe_bl)) pss_nil)
      (pss_one (ps_ret (GxR.pe_allS hr (by rfl) hall (by decide +kernel) TB hcd (genS_of rfl rfl rfl (by decide +kernel)) (pv 0) (elt_low rfl (by decide +kernel)) (fun _ => rfl))))), ?_⟩
    refine ⟨_, rfl, x, T, rfl, ty, _, _, rfl, rfl, tok, by decide, _, rfl, ?_⟩
    by_cases hT : T = "str"
    · have ex : ∃ z, x = .str z := by
        cases ty with
        | str z => exact ⟨z, rfl⟩
        | _ => exact absurd hT (by decide)
      rw [decide_eq_true hT]
      refine iteF ?_
      obtain ⟨z, rfl⟩ := ex
      · have hz := hsz z rfl
        refine ⟨_, rfl, z, rfl, hz, _, _, rfl, rfl, _, rfl, ?_⟩
        cases h1 : decide ((1 : Int) ≤ (z.length : Int)) with
        | false =>
          have := of_decide_eq_false h1
          refine iteF ⟨_, rfl, iteT ?_⟩
          have e : isNameV (.str z) = false := by
            show isNameB z = false
            unfold isNameB
            rw [decide_eq_false (by omega)]
            rfl
          have qq := q H (Kp.refl _)
          rw [e] at qq
          exact qq
        | true =>
          refine iteT ⟨_, _, rfl, rfl, _, rfl, ?_⟩
          have h1' := of_decide_eq_true h1
          cases h8 : decide ((z.length : Int) ≤ 8) with
          | false =>
            have := of_decide_eq_false h8
            refine iteT ?_
            have e : isNameV (.str z) = false := by
              show isNameB z = false
              unfold isNameB
              rw [decide_eq_false (p := z.length ≤ 8) (by omega), Bool.and_false]
              rfl
            have qq := q H (Kp.refl _)
            rw [e] at qq
            exact qq
          | true =>
            have h8' := of_decide_eq_true h8
            refine iteF ⟨_, rfl, z, rfl, tab, fun H2 hT2 => ?_⟩
            have e : isNameV (.str z) = z.cps.toList.all lowB := by
              show isNameB z = _
              unfold isNameB
              rw [decide_eq_true (p := 1 ≤ z.length) (by omega), decide_eq_true (p := z.length ≤ 8) (by omega)]
              rfl
            have qq := q H2 (Kp.tabbed tab hT2)
            rw [e] at qq
            exact qq
    · rw [decide_eq_false hT]
      refine iteT ?_
      have e : isNameV x = false := by
        cases ty with
        | str z => exact absurd rfl hT
        | _ => rfl
      have qq := q H (Kp.refl _)
      rw [e] at qq
      exact qq
def spCheckName (K : PySem.W.Frag) : Sp := fun vs H Q _ => ∃ z : Str, vs = [.str z] ∧ IsName z ∧ GxR.TabG H (tbOf K) ∧ ∀ H', Kp (tbOf K) [] H H' → Q .non H'
theorem sc_checkname : FnScope ["name"] ["name"] (defScope s_check_name) := ⟨rfl, rfl, rfl, by decide +kernel, rfl, by decide +kernel, by decide +kernel⟩
theorem ok_checkname {f : Addr} {fd : FuncData} {k0 : Nat} (F : FnP K "check_name" "check_name" s_check_name f fd) (G : Glob P w K mg base CX0 (k0 + 1) "is_name" ["value"] (spIsName K)) :
    FnOk P w K mg base CX0 (k0 + 2) f fd ["name"] (spCheckName K) := by
  refine ok0 F sc_checkname (fun vs H Q E h => ?_) (fun cdv A outer s H vs Q E hr h => ?_)
  · obtain ⟨z, rfl, _⟩ := h
    rfl
  · obtain ⟨z, rfl, hz, tab, q⟩ := h
    refine ⟨_, pss_one (ps_if (pt_not (pt_val (pe_callG G hr (by rfl) pass0 (pa_cons (pv 0) pa_nil)))) (pss_one ps_never) pss_nil), ?_⟩
    refine ⟨_, rfl, _, _, rfl, .str z, rfl, fun z' e => ?_, tab, fun H' kp => ⟨_, rfl, ?_⟩⟩
    · cases e
      exact Nat.le_of_lt (small_of (m := 8) hz.2.1)
    · rw [show isNameV (.str z) = true from isNameB_of hz]
      exact iteF (q H' kp)
def spCheckPlaces : Sp := fun vs H Q _ => ∃ n : Int, vs = [.int n] ∧ 1 ≤ n ∧ n ≤ 20 ∧ Q .non H
theorem sc_checkplaces : FnScope ["places"] ["places"] (defScope s_check_places) := ⟨rfl, rfl, rfl, by decide +kernel, rfl, by decide +kernel, by decide +kernel⟩
theorem ok_checkplaces {f : Addr} {fd : FuncData} {k0 : Nat} (F : FnP K "check_places" "check_places" s_check_places f fd) {tl : Tok}
    (hmp : mg "MOST_PLACES" = some (.int 20 tl)) (hty : mg "type" = none) (hint : mg "int" = none) : FnOk P w K mg base CX0 (k0 + 1) f fd ["places"] spCheckPlaces := by
  refine ok0 F sc_checkplaces (fun vs H Q E h => ?_) (fun cdv A outer s H vs Q E hr h => ?_)
  · obtain ⟨n, rfl, _⟩ := h
    rfl
  · obtain ⟨n, rfl, n0, n1, q⟩ := h
    refine ⟨_, pss_one (ps_if (PW.pt (pw_or (pt_cmpR (op_neTy (hu_of hr)) (pe_callTy call_type1 (by rfl) hty (by decide +kernel) (pa_cons (pv 0) pa_nil)) (pe_bltn (v := .ty "int") (by rfl) hint (by decide +kernel) rfl) (nomark _))
        (pw_or1 (pt_not (pt_chain op_le op_le pe_int (pv 0) (pe_glob (v := .int 20) rfl hmp ⟨_, rfl⟩))))))
        (pss_one ps_never) pss_nil), ?_⟩
    refine ⟨_, rfl, .int n, "int", rfl, .int n, _, _, rfl, rfl, by decide, by decide, _, rfl, ?_⟩
    refine iteF ⟨_, rfl, _, _, rfl, rfl, _, rfl, ?_⟩
    rw [decide_eq_true n0]
    refine iteT ⟨_, _, rfl, rfl, _, rfl, ?_⟩
    rw [decide_eq_true n1]
    exact iteF q
end
end Kf

namespace Kf
open PySem PySem.Spec PyProof.Rows L2
/-! ### shelves: what stands in the heap -/
def oF (n : Int) (l : Addr) (m k : Int) (ext : List (Str × V)) : List (Str × V) := ("_size", .int n) :: ("_row", .ref l) :: ("_met", .int m) :: ("_missed", .int k) :: ext
theorem oF_size (n : Int) (l : Addr) (m k : Int) (ext : List (Str × V)) : (oF n l m k ext).lookup ("_size" : Str) = some (.int n) := by kernel_rfl
theorem oF_row (n : Int) (l : Addr) (m k : Int) (ext : List (Str × V)) : (oF n l m k ext).lookup ("_row" : Str) = some (.ref l) := by kernel_rfl
theorem oF_met (n : Int) (l : Addr) (m k : Int) (ext : List (Str × V)) : (oF n l m k ext).lookup ("_met" : Str) = some (.int m) := by kernel_rfl
theorem oF_missed (n : Int) (l : Addr) (m k : Int) (ext : List (Str × V)) : (oF n l m k ext).lookup ("_missed" : Str) = some (.int k) := by kernel_rfl
theorem oF_put_met (n : Int) (l : Addr) (m k m' : Int) (ext : List (Str × V)) : putF "_met" (.int m') (oF n l m k ext) = oF n l m' k ext := by kernel_rfl
theorem oF_put_missed (n : Int) (l : Addr) (m k k' : Int) (ext : List (Str × V)) : putF "_missed" (.int k') (oF n l m k ext) = oF n l m k' ext := by kernel_rfl
theorem oF_init (n : Int) (l : Addr) : putF "_missed" (.int 0) (putF "_met" (.int 0) (putF "_row" (.ref l) (putF "_size" (.int n) []))) = oF n l 0 0 [] := by kernel_rfl
theorem oF_wish (n : Int) (l : Addr) (m k : Int) (ext : List (Str × V)) : (oF n l m k ext).lookup ("wish" : Str) = ext.lookup ("wish" : Str) := by kernel_rfl
theorem oF_free (n : Int) (l : Addr) (m k : Int) (ext : List (Str × V)) : (oF n l m k ext).lookup ("_free_a_place" : Str) = ext.lookup ("_free_a_place" : Str) := by kernel_rfl
theorem oF_pick (n : Int) (l : Addr) (m k : Int) (ext : List (Str × V)) : (oF n l m k ext).lookup ("_pick_going" : Str) = ext.lookup ("_pick_going" : Str) := by kernel_rfl
theorem oF_note (n : Int) (l : Addr) (m k : Int) (ext : List (Str × V)) : (oF n l m k ext).lookup ("_note_wish" : Str) = ext.lookup ("_note_wish" : Str) := by kernel_rfl
theorem oF_places (n : Int) (l : Addr) (m k : Int) (ext : List (Str × V)) : (oF n l m k ext).lookup ("places" : Str) = ext.lookup ("places" : Str) := by kernel_rfl
theorem oF_things (n : Int) (l : Addr) (m k : Int) (ext : List (Str × V)) : (oF n l m k ext).lookup ("things" : Str) = ext.lookup ("things" : Str) := by kernel_rfl
theorem oF_nmet (n : Int) (l : Addr) (m k : Int) (ext : List (Str × V)) : (oF n l m k ext).lookup ("met" : Str) = ext.lookup ("met" : Str) := by kernel_rfl
theorem oF_nmissed (n : Int) (l : Addr) (m k : Int) (ext : List (Str × V)) : (oF n l m k ext).lookup ("missed" : Str) = ext.lookup ("missed" : Str) := by kernel_rfl
theorem oF_order (n : Int) (l : Addr) (m k : Int) (ext : List (Str × V)) : (oF n l m k ext).lookup ("order" : Str) = ext.lookup ("order" : Str) := by kernel_rfl
/-- a shelf of the class at C: n places, its list at l, what is there, how many were met and missed, further attributes -/
structure ShAt (C : Addr) (H : Hp) (p : Addr) (n : Int) (l : Addr) (row : List Str) (m k : Int) (ext : List (Str × V)) : Prop where
  ob : ∃ dx, H p = some (.ins C dx (oF n l m k ext))
  ls : H l = some (.lst (row.map V.str))
theorem ShAt.ne {C : Addr} {H : Hp} {p l : Addr} {n m k : Int} {row : List Str} {ext : List (Str × V)} (h : ShAt C H p n l row m k ext) : p ≠ l := by
  obtain ⟨⟨dx, h1⟩, h2⟩ := h
  exact ne_of h1 h2 (by intro z; cases z)
theorem ShAt.kp {C : Addr} {H H' : Hp} {tb : Addr} {S : List Addr} {p l : Addr} {n m k : Int} {row : List Str} {ext : List (Str × V)} (h : ShAt C H p n l row m k ext) (kp : Kp tb S H H') (hp : p ∉ S := by simp) (hl : l ∉ S := by simp) : ShAt C H' p n l row m k ext := by
  obtain ⟨⟨dx, h1⟩, h2⟩ := h
  exact ⟨⟨dx, kp.get h1 rfl hp⟩, kp.get h2 rfl hl⟩
theorem inV_str (z : Str) : ∀ row : List Str, inV (.str z) (row.map V.str) = decide (z ∈ row)
  | [] => rfl
  | y :: r => by
    have ih := inV_str z r
    show (eqV (.str y) (.str z) || (r.map V.str).any fun y => eqV y (.str z)) = _
    rw [show ((r.map V.str).any fun y => eqV y (.str z)) = decide (z ∈ r) from ih]
    show ((y == z) || decide (z ∈ r)) = decide (z ∈ y :: r)
    by_cases e : y = z
    · subst e
      simp
    · rw [beq_eq_false_iff_ne.mpr e, Bool.false_or]
      exact decide_eq_decide.mpr ⟨fun h => List.mem_cons_of_mem _ h, fun h => (List.mem_cons.mp h).elim (fun q => absurd q.symm e) id⟩
theorem flat_strs : ∀ row : List Str, (row.map V.str).all flatV = true
  | [] => rfl
  | _ :: r => flat_strs r
def optV : Option Str → V
  | none => .non
  | some z => .str z

/-- what is known of a class of shelves -/
structure ClsT (K : PySem.W.Frag) (C : Addr) : Prop where
  cl : Cls K C
  nS : NoAttr K C "_size"
  nR : NoAttr K C "_row"
  nM : NoAttr K C "_met"
  nK : NoAttr K C "_missed"
section
variable {P : Program} {w : World} {K : PySem.W.Frag} {mg : Str → Option Value} {base : Heap} {tb C : Addr}
/-! ### Shelf.__init__ -/
def spInit (tb C : Addr) : Sp := fun vs H Q _ => ∃ (p dx : Addr) (n : Int), vs = [.ref p, .int n] ∧ 1 ≤ n ∧ n ≤ 20 ∧ H p = some (.ins C dx []) ∧
  ∀ (l : Addr) (H' : Hp), H l = none → (∃ dx, H' p = some (.ins C dx (oF n l 0 0 []))) → H' l = some (.lst []) → Kp tb [p] H H' → Q .non H'
theorem sc_init : FnScope ["self", "places"] ["self", "places"] (defScope s_Shelf___init__) := ⟨rfl, rfl, rfl, by decide +kernel, rfl, by decide +kernel, by decide +kernel⟩
theorem ok_init {f : Addr} {fd : FuncData} {k0 : Nat} (F : FnP K "__init__" "Shelf.__init__" s_Shelf___init__ f fd) (T : ClsT K C) (G : Glob P w K mg base CX0 (k0 + 1) "check_places" ["places"] spCheckPlaces) :
    FnOk P w K mg base CX0 (k0 + 2) f fd ["self", "places"] (spInit tb C) := by
  refine ok0 F sc_init (fun vs H Q E h => ?_) (fun cdv A outer s H vs Q E hr h => ?_)
  · obtain ⟨p, dx, n, rfl, _⟩ := h
    rfl
  · obtain ⟨p, dx, n, rfl, n0, n1, hp, q⟩ := h
    refine ⟨_, pss_cons (ps_expr (pe_callG G hr (by rfl) pass0 (pa_cons (pv 1) pa_nil))) (pss_cons (ps_fld (pv 0) (pv 1) rfl) (pss_cons (ps_fld (pv 0) (pe_lst pa_nil) rfl)
      (pss_cons (ps_fld (pv 0) pe_int rfl) (pss_one (ps_fld (pv 0) pe_int rfl))))), ?_⟩
    refine ⟨_, rfl, n, rfl, n0, n1, ?_⟩
    refine ⟨_, rfl, _, rfl, p, C, dx, [], rfl, hp, T.cl, T.nS, (by show 0 < 1000; decide), ?_⟩
    refine ⟨Nat.zero_le _, fun l hl => ?_⟩
    have hl0 : H l = none := free_upd hl
    have npl : p ≠ l := ne_of_none hp hl0
    refine ⟨_, rfl, p, C, dx, _, rfl, Eq.trans (upd_ne npl) upd_same, T.cl, T.nR, (by show 1 < 1000; decide), ?_⟩
    refine ⟨_, rfl, p, C, dx, _, rfl, upd_same, T.cl, T.nM, (by show 2 < 1000; decide), ?_⟩
    refine ⟨_, rfl, p, C, dx, _, rfl, upd_same, T.cl, T.nK, (by show 3 < 1000; decide), ?_⟩
    refine q l _ hl0 ⟨dx, by rw [upd_same, oF_init]⟩ (by rw [upd_ne npl.symm, upd_ne npl.symm, upd_ne npl.symm, upd_same]) ?_
    have k1 : Kp tb [p] H (upd H p (.ins C dx (putF "_size" (.int n) []))) := Kp.put hp
    have k2 := k1.step (o := .lst []) hl
    have h3 : (upd (upd H p (.ins C dx (putF "_size" (.int n) []))) l (.lst [])) p = some (.ins C dx (putF "_size" (.int n) [])) := Eq.trans (upd_ne npl) upd_same
    exact ((k2.trans (Kp.put h3)).trans (Kp.put upd_same)).trans (Kp.put upd_same)
/-! ### what a shelf tells -/
def spInt (C : Addr) (g : Int → Int → Int → Int) : Sp := fun vs H Q _ => ∃ (p l : Addr) (n m k : Int) (ext : List (Str × V)), vs = [.ref p] ∧ (∃ dx, H p = some (.ins C dx (oF n l m k ext))) ∧ Q (.int (g n m k)) H
theorem sc_places_ : FnScope ["self"] ["self"] (defScope s_Shelf_places) := ⟨rfl, rfl, rfl, by decide +kernel, rfl, by decide +kernel, by decide +kernel⟩
theorem ok_places_ {f : Addr} {fd : FuncData} {k0 : Nat} (F : FnP K "places" "Shelf.places" s_Shelf_places f fd) (T : ClsT K C) : FnOk P w K mg base CX0 (k0 + 1) f fd ["self"] (spInt C fun n _ _ => n) := by
  refine ok0 F sc_places_ (fun vs H Q E h => ?_) (fun cdv A outer s H vs Q E hr h => ?_)
  · obtain ⟨p, l, n, m, k, ext, rfl, _⟩ := h
    rfl
  · obtain ⟨p, l, n, m, k, ext, rfl, ⟨dx, hp⟩, q⟩ := h
    exact ⟨_, pss_one (ps_ret (pe_fld (pv 0) rfl)), _, rfl, p, C, dx, _, _, rfl, hp, T.cl, T.nS, oF_size .., q⟩
theorem sc_met : FnScope ["self"] ["self"] (defScope s_Shelf_met) := ⟨rfl, rfl, rfl, by decide +kernel, rfl, by decide +kernel, by decide +kernel⟩
theorem ok_met {f : Addr} {fd : FuncData} {k0 : Nat} (F : FnP K "met" "Shelf.met" s_Shelf_met f fd) (T : ClsT K C) : FnOk P w K mg base CX0 (k0 + 1) f fd ["self"] (spInt C fun _ m _ => m) := by
  refine ok0 F sc_met (fun vs H Q E h => ?_) (fun cdv A outer s H vs Q E hr h => ?_)
  · obtain ⟨p, l, n, m, k, ext, rfl, _⟩ := h
    rfl
  · obtain ⟨p, l, n, m, k, ext, rfl, ⟨dx, hp⟩, q⟩ := h
    exact ⟨_, pss_one (ps_ret (pe_fld (pv 0) rfl)), _, rfl, p, C, dx, _, _, rfl, hp, T.cl, T.nM, oF_met .., q⟩
theorem sc_missed : FnScope ["self"] ["self"] (defScope s_Shelf_missed) := ⟨rfl, rfl, rfl, by decide +kernel, rfl, by decide +kernel, by decide +kernel⟩
theorem ok_missed {f : Addr} {fd : FuncData} {k0 : Nat} (F : FnP K "missed" "Shelf.missed" s_Shelf_missed f fd) (T : ClsT K C) : FnOk P w K mg base CX0 (k0 + 1) f fd ["self"] (spInt C fun _ _ k => k) := by
  refine ok0 F sc_missed (fun vs H Q E h => ?_) (fun cdv A outer s H vs Q E hr h => ?_)
  · obtain ⟨p, l, n, m, k, ext, rfl, _⟩ := h
    rfl
  · obtain ⟨p, l, n, m, k, ext, rfl, ⟨dx, hp⟩, q⟩ := h
    exact ⟨_, pss_one (ps_ret (pe_fld (pv 0) rfl)), _, rfl, p, C, dx, _, _, rfl, hp, T.cl, T.nK, oF_missed .., q⟩
/-- a new list, made of what is there -/
def spList (tb C : Addr) (g : List Str → List Str) : Sp := fun vs H Q _ => ∃ (p l : Addr) (n m k : Int) (row : List Str) (ext : List (Str × V)), vs = [.ref p] ∧ ShAt C H p n l row m k ext ∧ row.length < 64 ∧
  ∀ (o : Addr) (H' : Hp), H o = none → H' o = some (.lst ((g row).map V.str)) → Kp tb [] H H' → Q (.ref o) H'
theorem sc_things : FnScope ["self"] ["self"] (defScope s_Shelf_things) := ⟨rfl, rfl, rfl, by decide +kernel, rfl, by decide +kernel, by decide +kernel⟩
theorem ok_things {f : Addr} {fd : FuncData} {k0 : Nat} (F : FnP K "things" "Shelf.things" s_Shelf_things f fd) (T : ClsT K C) (hs : mg "sorted" = none) : FnOk P w K mg base CX0 (k0 + 1) f fd ["self"] (spList tb C sortS) := by
  refine ok0 F sc_things (fun vs H Q E h => ?_) (fun cdv A outer s H vs Q E hr h => ?_)
  · obtain ⟨p, l, n, m, k, row, ext, rfl, _⟩ := h
    rfl
  · obtain ⟨p, l, n, m, k, row, ext, rfl, S, h64, q⟩ := h
    obtain ⟨⟨dx, hp⟩, hl⟩ := id S
    refine ⟨_, pss_one (ps_ret (pe_callB cr_sortS (by rfl) hs (by decide +kernel) (pa_cons (pe_fld (pv 0) rfl) pa_nil))), ?_⟩
    refine ⟨_, rfl, p, C, dx, _, _, rfl, hp, T.cl, T.nR, oF_row .., l, row, rfl, SqL.of hl, h64, fun o ho => ?_⟩
    exact q o _ ho upd_same (Kp.new ho)
end
end Kf

namespace Kf
open PySem PySem.Spec PyProof.Rows L2
/-! ### old and cold shelves -/
/-- one wish: met, what went, what is there then; nf: what the rule does with the row behind a wish -/
def stepOC (nf : Str → List Str → List Str) (n : Int) (row : List Str) (z : Str) : Bool × Option Str × List Str :=
  if z ∈ row then (true, none, nf z row)
  else if (row.length : Int) < n then (false, none, nf z (row ++ [z])) else (false, row.head?, nf z (row.tail ++ [z]))
def nfOld (_ : Str) (row : List Str) : List Str := row
def nfCold (z : Str) (row : List Str) : List Str := row.erase z ++ [z]
section
variable {P : Program} {w : World} {K : PySem.W.Frag} {mg : Str → Option Value} {base : Heap} {tb C : Addr}
theorem atI_zero (x : V) (r : List V) : atI (x :: r) 0 = some x := by
  have h : atI (x :: r) ((0 : Nat) : Int) = some x := atI_nat rfl
  exact h
/-- list(self._row) -/
theorem sc_oorder : FnScope ["self"] ["self"] (defScope s_Old_order) := ⟨rfl, rfl, rfl, by decide +kernel, rfl, by decide +kernel, by decide +kernel⟩
theorem ok_oorder {f : Addr} {fd : FuncData} {k0 : Nat} (F : FnP K "order" "Old.order" s_Old_order f fd) (T : ClsT K C) (hs : mg "list" = none) : FnOk P w K mg base CX0 (k0 + 1) f fd ["self"] (spList tb C fun r => r) := by
  refine ok0 F sc_oorder (fun vs H Q E h => ?_) (fun cdv A outer s H vs Q E hr h => ?_)
  · obtain ⟨p, l, n, m, k, row, ext, rfl, _⟩ := h
    rfl
  · obtain ⟨p, l, n, m, k, row, ext, rfl, S, h64, q⟩ := h
    obtain ⟨⟨dx, hp⟩, hl⟩ := id S
    refine ⟨_, pss_one (ps_ret (pe_callTy call_list_of (by rfl) hs (by decide +kernel) (pa_cons (pe_fld (pv 0) rfl) pa_nil))), ?_⟩
    refine ⟨_, rfl, p, C, dx, _, _, rfl, hp, T.cl, T.nR, oF_row .., l, _, rfl, .inl (SqL.of hl), fun o ho => ?_⟩
    exact q o _ ho upd_same (Kp.new ho)
theorem sc_corder : FnScope ["self"] ["self"] (defScope s_Cold_order) := ⟨rfl, rfl, rfl, by decide +kernel, rfl, by decide +kernel, by decide +kernel⟩
theorem ok_corder {f : Addr} {fd : FuncData} {k0 : Nat} (F : FnP K "order" "Cold.order" s_Cold_order f fd) (T : ClsT K C) (hs : mg "list" = none) : FnOk P w K mg base CX0 (k0 + 1) f fd ["self"] (spList tb C fun r => r) := by
  refine ok0 F sc_corder (fun vs H Q E h => ?_) (fun cdv A outer s H vs Q E hr h => ?_)
  · obtain ⟨p, l, n, m, k, row, ext, rfl, _⟩ := h
    rfl
  · obtain ⟨p, l, n, m, k, row, ext, rfl, S, h64, q⟩ := h
    obtain ⟨⟨dx, hp⟩, hl⟩ := id S
    refine ⟨_, pss_one (ps_ret (pe_callTy call_list_of (by rfl) hs (by decide +kernel) (pa_cons (pe_fld (pv 0) rfl) pa_nil))), ?_⟩
    refine ⟨_, rfl, p, C, dx, _, _, rfl, hp, T.cl, T.nR, oF_row .., l, _, rfl, .inl (SqL.of hl), fun o ho => ?_⟩
    exact q o _ ho upd_same (Kp.new ho)
/-- self._row[0] -/
def spPickOC (C : Addr) : Sp := fun vs H Q _ => ∃ (p l : Addr) (n m k : Int) (g : Str) (r : List Str) (ext : List (Str × V)), vs = [.ref p] ∧ ShAt C H p n l (g :: r) m k ext ∧ Q (.str g) H
theorem sc_opick : FnScope ["self"] ["self"] (defScope s_Old__pick_going) := ⟨rfl, rfl, rfl, by decide +kernel, rfl, by decide +kernel, by decide +kernel⟩
theorem ok_opick {f : Addr} {fd : FuncData} {k0 : Nat} (F : FnP K "_pick_going" "Old._pick_going" s_Old__pick_going f fd) (T : ClsT K C) : FnOk P w K mg base CX0 (k0 + 1) f fd ["self"] (spPickOC C) := by
  refine ok0 F sc_opick (fun vs H Q E h => ?_) (fun cdv A outer s H vs Q E hr h => ?_)
  · obtain ⟨p, l, n, m, k, g, r, ext, rfl, _⟩ := h
    rfl
  · obtain ⟨p, l, n, m, k, g, r, ext, rfl, S, q⟩ := h
    obtain ⟨⟨dx, hp⟩, hl⟩ := id S
    refine ⟨_, pss_one (ps_ret (pe_ix ix_list (pe_fld (pv 0) rfl) pe_int (fun _ _ => rfl))), ?_⟩
    exact ⟨_, rfl, p, C, dx, _, _, rfl, hp, T.cl, T.nR, oF_row .., l, _, 0, _, rfl, rfl, SqL.of hl, atI_zero _ _, q⟩
theorem sc_cpick : FnScope ["self"] ["self"] (defScope s_Cold__pick_going) := ⟨rfl, rfl, rfl, by decide +kernel, rfl, by decide +kernel, by decide +kernel⟩
theorem ok_cpick {f : Addr} {fd : FuncData} {k0 : Nat} (F : FnP K "_pick_going" "Cold._pick_going" s_Cold__pick_going f fd) (T : ClsT K C) : FnOk P w K mg base CX0 (k0 + 1) f fd ["self"] (spPickOC C) := by
  refine ok0 F sc_cpick (fun vs H Q E h => ?_) (fun cdv A outer s H vs Q E hr h => ?_)
  · obtain ⟨p, l, n, m, k, g, r, ext, rfl, _⟩ := h
    rfl
  · obtain ⟨p, l, n, m, k, g, r, ext, rfl, S, q⟩ := h
    obtain ⟨⟨dx, hp⟩, hl⟩ := id S
    refine ⟨_, pss_one (ps_ret (pe_ix ix_list (pe_fld (pv 0) rfl) pe_int (fun _ _ => rfl))), ?_⟩
    exact ⟨_, rfl, p, C, dx, _, _, rfl, hp, T.cl, T.nR, oF_row .., l, _, 0, _, rfl, rfl, SqL.of hl, atI_zero _ _, q⟩
/-- _note_wish -/
def spNoteOC (nf : Str → List Str → List Str) (tb C : Addr) : Sp := fun vs H Q _ => ∃ (p l : Addr) (n m k : Int) (z : Str) (row : List Str), vs = [.ref p, .str z] ∧ ShAt C H p n l row m k [] ∧ z ∈ row ∧ row.length ≤ 20 ∧
  ∀ H', ShAt C H' p n l (nf z row) m k [] → Kp tb [l] H H' → Q .non H'
theorem sc_note : FnScope ["self", "name"] ["self", "name"] (defScope s_Shelf__note_wish) := ⟨rfl, rfl, rfl, by decide +kernel, rfl, by decide +kernel, by decide +kernel⟩
theorem ok_note {f : Addr} {fd : FuncData} {k0 : Nat} (F : FnP K "_note_wish" "Shelf._note_wish" s_Shelf__note_wish f fd) : FnOk P w K mg base CX0 (k0 + 1) f fd ["self", "name"] (spNoteOC nfOld tb C) := by
  refine ok0 F sc_note (fun vs H Q E h => ?_) (fun cdv A outer s H vs Q E hr h => ?_)
  · obtain ⟨p, l, n, m, k, z, row, rfl, _⟩ := h
    rfl
  · obtain ⟨p, l, n, m, k, z, row, rfl, S, hz, hl, q⟩ := h
    exact ⟨_, pss_one ps_pass, q H S (Kp.refl _)⟩
theorem sc_cnote : FnScope ["self", "name"] ["self", "name"] (defScope s_Cold__note_wish) := ⟨rfl, rfl, rfl, by decide +kernel, rfl, by decide +kernel, by decide +kernel⟩
theorem ok_cnote {f : Addr} {fd : FuncData} {k0 : Nat} (F : FnP K "_note_wish" "Cold._note_wish" s_Cold__note_wish f fd) (T : ClsT K C) : FnOk P w K mg base CX0 (k0 + 1) f fd ["self", "name"] (spNoteOC nfCold tb C) := by
  refine ok0 F sc_cnote (fun vs H Q E h => ?_) (fun cdv A outer s H vs Q E hr h => ?_)
  · obtain ⟨p, l, n, m, k, z, row, rfl, _⟩ := h
    rfl
  · obtain ⟨p, l, n, m, k, z, row, rfl, S, hz, hlen, q⟩ := h
    obtain ⟨⟨dx, hp⟩, hl⟩ := id S
    have npl := S.ne
    refine ⟨_, pss_cons (ps_expr (pe_bm PySem.F.plainAttrs_list PySem.F.slot_list_remove PySem.F.type_list_remove mt_removeS (pe_fld (pv 0) rfl) (pa_cons (pv 1) pa_nil)))
      (pss_one (ps_expr (pe_bm PySem.F.plainAttrs_list PySem.F.slot_list_append PySem.F.type_list_append mt_append (pe_fld (pv 0) rfl) (pa_cons (pv 1) pa_nil)))), ?_⟩
    refine ⟨_, rfl, p, C, dx, _, _, rfl, hp, T.cl, T.nR, oF_row .., .inl ⟨rfl, _, SqL.of hl⟩, _, rfl, l, row, z, rfl, rfl, hl, hz, ?_⟩
    have hp1 : (upd H l (.lst ((row.erase z).map V.str))) p = some (.ins C dx (oF n l m k [])) := by rw [upd_ne npl]; exact hp
    refine ⟨_, rfl, p, C, dx, _, _, rfl, hp1, T.cl, T.nR, oF_row .., .inl ⟨rfl, _, SqL.of upd_same⟩, _, rfl, l, _, _, rfl, rfl, upd_same, ?_, ?_⟩
    · rw [List.length_map]
      exact small_of (m := 20) (Nat.le_trans (List.length_erase_le) hlen)
    · refine q _ ⟨⟨dx, by rw [upd_ne npl]; exact hp1⟩, by rw [upd_same]; unfold nfCold; rw [List.map_append]; rfl⟩ ?_
      exact (Kp.put hl).trans (Kp.put upd_same)
/-- _free_a_place -/
def spFreeOC (tb C : Addr) : Sp := fun vs H Q _ => ∃ (p l : Addr) (n m k : Int) (row : List Str), vs = [.ref p] ∧ ShAt C H p n l row m k [] ∧ 1 ≤ n ∧ ((row.length : Int) < n → Q .non H) ∧
  (¬ (row.length : Int) < n → ∀ (g : Str) (r : List Str) (H' : Hp), row = g :: r → ShAt C H' p n l r m k [] → Kp tb [l] H H' → Q (.str g) H')
theorem sc_free : FnScope ["self", "gone"] ["self"] (defScope s_Shelf__free_a_place) := ⟨rfl, rfl, rfl, by decide +kernel, rfl, by decide +kernel, by decide +kernel⟩
theorem ok_freeOC {f : Addr} {fd : FuncData} {k0 : Nat} (F : FnP K "_free_a_place" "Shelf._free_a_place" s_Shelf__free_a_place f fd) (T : ClsT K C) (hlen : mg "len" = none) (G : MethOk P w K mg base CX0 (k0 + 1) C "_pick_going" ["self"] (spPickOC C)) :
    FnOk P w K mg base CX0 (k0 + 2) f fd ["self"] (spFreeOC tb C) := by
  refine ok0 F sc_free (fun vs H Q E h => ?_) (fun cdv A outer s H vs Q E hr h => ?_)
  · obtain ⟨p, l, n, m, k, row, rfl, _⟩ := h
    rfl
  · obtain ⟨p, l, n, m, k, row, rfl, S, n0, q1, q2⟩ := h
    obtain ⟨⟨dx, hp⟩, hl⟩ := id S
    refine ⟨_, pss_cons (ps_if (pt_cmpR op_lt (pe_callB call_len_seq (by rfl) hlen PySem.boot_len (pa_cons (pe_fld (pv 0) rfl) pa_nil)) (pe_fld (pv 0) rfl) (nomark _)) (pss_one (ps_ret pe_non)) pss_nil)
      (pss_cons (ps_set (i := 1) sc_free.nd rfl (.inl rfl) (pe_meth0G (pv 0) G hr pass0))
      (pss_cons (ps_expr (pe_bm PySem.F.plainAttrs_list PySem.F.slot_list_remove PySem.F.type_list_remove mt_removeS (pe_fld (pv 0) rfl) (pa_cons (pv 1) pa_nil)))
      (pss_one (ps_ret (pv 1))))), ?_⟩
    refine ⟨_, rfl, p, C, dx, _, _, rfl, hp, T.cl, T.nR, oF_row .., l, _, rfl, .inl (SqL.of hl), _, rfl, p, C, dx, _, _, rfl, hp, T.cl, T.nS, oF_size .., _, _, rfl, rfl, _, rfl, ?_⟩
    rw [List.length_map]
    refine ite2 (fun hlt => q1 (of_decide_eq_true hlt)) (fun hge => ?_)
    have hge' : ¬ (row.length : Int) < n := fun z => hge (decide_eq_true z)
    cases row with
    | nil => exact absurd (show ((List.length ([] : List Str) : Nat) : Int) < n by simp; omega) hge'
    | cons g r =>
      refine ⟨_, rfl, p, dx, _, rfl, hp, by rw [oF_pick]; rfl, p, l, n, m, k, g, r, [], rfl, S, ?_⟩
      refine ⟨_, rfl, p, C, dx, _, _, rfl, hp, T.cl, T.nR, oF_row .., .inl ⟨rfl, _, SqL.of hl⟩, _, rfl, l, g :: r, g, rfl, rfl, hl, List.mem_cons_self, ?_⟩
      rw [List.erase_cons_head]
      refine ⟨_, rfl, q2 hge' g r _ rfl ⟨⟨dx, by rw [upd_ne S.ne]; exact hp⟩, upd_same⟩ (Kp.put hl)⟩
/-- wish -/
def spWishOC (nf : Str → List Str → List Str) (tb C : Addr) : Sp := fun vs H Q _ => ∃ (p l : Addr) (n m k : Int) (z : Str) (row : List Str), vs = [.ref p, .str z] ∧ ShAt C H p n l row m k [] ∧ 1 ≤ n ∧ n ≤ 20 ∧ (row.length : Int) ≤ n ∧ IsName z ∧ GxR.TabG H tb ∧
  ∀ (t : Addr) (H' : Hp), ShAt C H' p n l (stepOC nf n row z).2.2 (if (stepOC nf n row z).1 then m + 1 else m) (if (stepOC nf n row z).1 then k else k + 1) [] → Kp tb [p, l] H H' → H t = none →
    H' t = some (.tup [.bl (stepOC nf n row z).1, optV (stepOC nf n row z).2.1]) → Q (.ref t) H'
theorem sc_wish : FnScope ["self", "name", "met", "gone"] ["self", "name"] (defScope s_Shelf_wish) := ⟨rfl, rfl, rfl, by decide +kernel, rfl, by decide +kernel, by decide +kernel⟩
theorem ok_wishOC {nf : Str → List Str → List Str} {f : Addr} {fd : FuncData} {k0 : Nat} (F : FnP K "wish" "Shelf.wish" s_Shelf_wish f fd) (T : ClsT K C) (GC : Glob P w K mg base CX0 (k0 + 2) "check_name" ["name"] (spCheckName K))
    (GF : MethOk P w K mg base CX0 (k0 + 2) C "_free_a_place" ["self"] (spFreeOC (tbOf K) C)) (GN : MethOk P w K mg base CX0 (k0 + 2) C "_note_wish" ["self", "name"] (spNoteOC nf (tbOf K) C)) :
    FnOk P w K mg base CX0 (k0 + 3) f fd ["self", "name"] (spWishOC nf (tbOf K) C) := by
  refine ok0 F sc_wish (fun vs H Q E h => ?_) (fun cdv A outer s H vs Q E hr h => ?_)
  · obtain ⟨p, l, n, m, k, z, row, rfl, _⟩ := h
    rfl
  · obtain ⟨p, l, n, m, k, z, row, rfl, S, n0, n1, hrow, hz, tab, q⟩ := h
    refine ⟨_, pss_cons (ps_expr (pe_callG GC hr (by rfl) pass0 (pa_cons (pv 1) pa_nil)))
      (pss_cons (ps_set (i := 2) sc_wish.nd rfl (.inl rfl) (pe_cmpR op_in_seq (pv 1) (pe_fld (pv 0) rfl) (by with_unfolding_all rfl)))
      (pss_cons (ps_set (i := 3) sc_wish.nd rfl (.inl rfl) pe_non)
      (C8.pss_cut (ps_if (pt_val (pv 2)) (pss_one (ps_fldaug (pv 0) pe_int in_add))
          (pss_cons (ps_fldaug (pv 0) pe_int in_add) (pss_cons (ps_set (i := 3) sc_wish.nd rfl (.inl rfl) (pe_meth0G (pv 0) GF hr pass0))
            (pss_one (ps_expr (pe_bm PySem.F.plainAttrs_list PySem.F.slot_list_append PySem.F.type_list_append mt_append (pe_fld (pv 0) rfl) (pa_cons (pv 1) pa_nil)))))))
      (pss_cons (ps_expr (pe_methG (pv 0) GN hr pass0 (pa_cons (pv 1) pa_nil)))
      (pss_one (ps_ret (pe_tup (pa_cons (pv 2) (pa_cons (pv 3) pa_nil))))))))), ?_⟩
    refine ⟨_, rfl, z, rfl, hz, tab, fun H1 kp1 => ?_⟩
    have S1 := S.kp kp1
    obtain ⟨⟨dx, hp⟩, hl⟩ := id S1
    have npl := S1.ne
    refine ⟨_, rfl, _, rfl, p, C, dx, _, _, rfl, hp, T.cl, T.nR, oF_row .., l, _, rfl, .inl (SqL.of hl), rfl, flat_strs row, ?_⟩
    rw [inV_str]
    -- the state behind the if
    refine ⟨fun σ H2 => ∃ (row2 : List Str) (met : Bool) (gone : Option Str) (m2 k2 : Int), σ = [some (.ref p), some (.str z), some (.bl met), some (optV gone)] ∧ ShAt C H2 p n l row2 m2 k2 [] ∧ z ∈ row2 ∧ row2.length ≤ 20 ∧ Kp (tbOf K) [p, l] H1 H2 ∧
      stepOC nf n row z = (met, gone, nf z row2) ∧ m2 = (if met then m + 1 else m) ∧ k2 = (if met then k else k + 1), ?_, ?_⟩
    · refine ⟨_, rfl, _, rfl, ?_⟩
      by_cases hin : z ∈ row
      · rw [decide_eq_true hin]
        refine iteT ?_
        refine ⟨_, rfl, p, C, dx, _, _, rfl, hp, T.cl, T.nM, oF_met .., _, _, rfl, rfl, dx, _, hp, (by show 4 < 1000; decide), ?_⟩
        rw [oF_put_met]
        refine ⟨row, true, none, m + 1, k, rfl, ⟨⟨dx, upd_same⟩, by rw [upd_ne npl.symm]; exact hl⟩, hin, by omega, Kp.put hp, ?_, rfl, rfl⟩
        unfold stepOC
        rw [if_pos hin]
      · rw [decide_eq_false hin]
        refine iteF ?_
        refine ⟨_, rfl, p, C, dx, _, _, rfl, hp, T.cl, T.nK, oF_missed .., _, _, rfl, rfl, dx, _, hp, (by show 4 < 1000; decide), ?_⟩
        rw [oF_put_missed]
        have kA : Kp (tbOf K) [p, l] H1 (upd H1 p (.ins C dx (oF n l m (k + 1) []))) := Kp.put hp
        have SA : ShAt C (upd H1 p (.ins C dx (oF n l m (k + 1) []))) p n l row m (k + 1) [] := ⟨⟨dx, upd_same⟩, by rw [upd_ne npl.symm]; exact hl⟩
        generalize upd H1 p (.ins C dx (oF n l m (k + 1) [])) = HA at kA SA ⊢
        obtain ⟨⟨dA, hpA⟩, hlA⟩ := id SA
        refine ⟨_, rfl, p, dA, _, rfl, hpA, by rw [oF_free]; rfl, p, l, n, m, k + 1, row, rfl, SA, n0, fun hlt => ?_, fun hge g r HB er SB kB => ?_⟩
        · refine ⟨_, rfl, p, C, dA, _, _, rfl, hpA, T.cl, T.nR, oF_row .., .inl ⟨rfl, _, SqL.of hlA⟩, _, rfl, l, _, _, rfl, rfl, hlA, by rw [List.length_map]; exact small_of (m := 20) (by omega), ?_⟩
          refine ⟨row ++ [z], false, none, m, k + 1, rfl, ⟨⟨dA, by rw [upd_ne npl]; exact hpA⟩, by rw [upd_same, List.map_append]; rfl⟩, List.mem_append_right _ List.mem_cons_self, by rw [List.length_append]; show row.length + 1 ≤ 20; omega, kA.trans (Kp.put hlA), ?_, rfl, rfl⟩
          unfold stepOC
          rw [if_neg hin, if_pos hlt]
        · obtain ⟨⟨dB, hpB⟩, hlB⟩ := id SB
          have hr20 : r.length + 1 ≤ 20 := by
            have : row.length = r.length + 1 := by rw [er]; rfl
            omega
          refine ⟨_, rfl, p, C, dB, _, _, rfl, hpB, T.cl, T.nR, oF_row .., .inl ⟨rfl, _, SqL.of hlB⟩, _, rfl, l, _, _, rfl, rfl, hlB, by rw [List.length_map]; exact small_of (m := 20) (by omega), ?_⟩
          refine ⟨r ++ [z], false, some g, m, k + 1, rfl, ⟨⟨dB, by rw [upd_ne npl]; exact hpB⟩, by rw [upd_same, List.map_append]; rfl⟩, List.mem_append_right _ List.mem_cons_self, by rw [List.length_append]; exact hr20, (kA.trans (kB.mono (by simp))).trans (Kp.put hlB), ?_, rfl, rfl⟩
          unfold stepOC
          rw [if_neg hin, if_neg hge, er]
          rfl
    · rintro σ H2 ⟨row2, met, gone, m2, k2, rfl, S2, hz2, h20, kp2, est, em, ek⟩
      obtain ⟨⟨d2, hp2⟩, hl2⟩ := id S2
      refine ⟨_, rfl, p, d2, _, rfl, hp2, by rw [oF_note]; rfl, _, rfl, p, l, n, m2, k2, z, row2, rfl, S2, hz2, h20, fun H3 S3 kp3 => ?_⟩
      refine ⟨_, rfl, _, rfl, by show 2 ≤ sizeLine; decide, fun t ht => ?_⟩
      have kt : Kp (tbOf K) [p, l] H3 (upd H3 t (.tup [.bl met, optV gone])) := Kp.new ht
      have kAll : Kp (tbOf K) [p, l] H H3 := (kp1.nil.trans kp2).trans (kp3.mono (by simp))
      have S4 : ShAt C (upd H3 t (.tup [.bl met, optV gone])) p n l (nf z row2) m2 k2 [] := S3.kp (Kp.new (tb := tbOf K) (S := []) ht)
      have e1 : (stepOC nf n row z).1 = met := by rw [est]
      have e2 : (stepOC nf n row z).2.1 = gone := by rw [est]
      have e3 : (stepOC nf n row z).2.2 = nf z row2 := by rw [est]
      exact q t _ (by rw [e3, e1, ← em, ← ek]; exact S4) (kAll.trans kt) (kAll.free _ ht) (by rw [e1, e2]; exact upd_same)
end
end Kf

namespace Kf
open PySem PySem.Spec PyProof.Rows L2
/-! ### a def read off its class, called -/
def fclsB (K : PySem.W.Frag) (C : Addr) (m : Str) (f : Addr) : Bool := match PySem.W.findCls K (.ref C) (.type "type") m with
  | some (.val v) => decide (v = .ref f)
  | _ => false
theorem fclsB_ok {K : PySem.W.Frag} {C : Addr} {m : Str} {f : Addr} (h : fclsB K C m f = true) : PySem.W.findCls K (.ref C) (.type "type") m = some (.val (.ref f)) := by
  unfold fclsB at h
  split at h
  · rename_i v e
    rw [e, of_decide_eq_true h]
  · cases h
section
variable {X : Cx} {CX : CXT} {k : Nat} {C f : Addr} {fd : FuncData} {mc : Value} {ps : List Str} {sp : Sp} {E : XK} {x m : Str} {p pos apos : Pos} {e : Expr} {es : List Expr} {t : TA}
theorem pe_clsfn {pl : Sem Bool} (hg : Gl X x) (hm : X.mg x = some (.ref C)) (r : ClX.CRead X.K C mc) (kv : ClX.CVal X.K C mc m (.ref f) (.ref f)) (F : FnOk X.prog X.w X.K X.mg X.base CX k f fd ps sp) (hr : Room k X.A) (hk : PySem.W.keepIn X.K (.ref f) = true)
    (hb : Binds X.K fd ps []) (hx : Passes CX X E) (ha : PA X (e :: es) t)
    (hc : eval (.Call (.Attribute (.Name x p) m apos) (e :: es) [] pos) X.env = (do
      let ov ← eval (.Name x p) X.env
      standAt apos.atName
      let (f, first) ← holding [ov] (getMethod ov m pl)
      callWith pos f first (backTo pos (starEach (e :: es) X.env)) (backToKw pos (keywordEach [] X.env))) := by rfl)
    (he : starEach (e :: es) X.env = (false, eval e X.env) :: starEach es X.env := by rfl) (hpl : (backTo pos (starEach es X.env)).any (·.1) = false := by rfl) (hdb : (x == ("__debug__" : Str)) = false := by decide) :
    PE X (.Call (.Attribute (.Name x p) m apos) (e :: es) [] pos) (tCall sp [] E t) := by
  refine ⟨fun pins s σ H Q I h => ?_⟩
  refine PySem.W.methodCall_KW (ld_glob I hg hm ?_ hdb) hc
  refine PySem.W.method_cls I.kIn r.ga (ClX.getcval_ok I r kv fun s' I' => ?_)
  exact PySem.W.callWith_K (first := []) (h₀ := X.base) I.ok.mod.kin hk (thn (ha.run pos pins _ σ H _ I' h) fun us s1 ⟨vs, H1, I1, r1, q⟩ => ⟨I1.kIn, run_fn F hr hb .nil hx I1 r1 q⟩) he hpl
end
/-- sorted(d), keys that are texts -/
def rSortD : List V → Hp → VK → Prop := fun vs H Q => ∃ (a : Addr) (kvs : List (Key × V)) (ks : List Str), vs = [V.ref a] ∧ H a = some (.dK kvs) ∧ kvs.map (·.1) = ks.map Sum.inr ∧ ks.length < 64 ∧ ∀ p : Addr, H p = none → Q (.ref p) (upd H p (.lst ((sortS ks).map V.str)))
theorem cr_sortD {X : Cx} (hc : X.calm = true) : CallR X (.builtin "sorted") rSortD := by
  intro pins s σ H vs us Q I r h
  obtain ⟨a, kvs, ks, e, hd, hks, h64, q⟩ := h
  exact call_sortedD hc pins s σ H vs us Q I r ⟨a, kvs, ks, e, .inl hd, hks, h64, fun ys p pm so np => by
    rw [sortS_eq pm so]
    exact q p np⟩

/-! ### marked shelves -/
def extM (d : Addr) (rd : Int) : List (Str × V) := [("_marks", .ref d), ("_rounds", .int rd)]
theorem extM_wish (d : Addr) (rd : Int) : (extM d rd).lookup ("wish" : Str) = none := by kernel_rfl
theorem extM_met (d : Addr) (rd : Int) : (extM d rd).lookup ("met" : Str) = none := by kernel_rfl
theorem extM_missed (d : Addr) (rd : Int) : (extM d rd).lookup ("missed" : Str) = none := by kernel_rfl
theorem extM_things (d : Addr) (rd : Int) : (extM d rd).lookup ("things" : Str) = none := by kernel_rfl
theorem extM_places (d : Addr) (rd : Int) : (extM d rd).lookup ("places" : Str) = none := by kernel_rfl
theorem extM_order (d : Addr) (rd : Int) : (extM d rd).lookup ("order" : Str) = none := by kernel_rfl
theorem extM_free (d : Addr) (rd : Int) : (extM d rd).lookup ("_free_a_place" : Str) = none := by kernel_rfl
theorem extM_pick (d : Addr) (rd : Int) : (extM d rd).lookup ("_pick_going" : Str) = none := by kernel_rfl
theorem extM_note (d : Addr) (rd : Int) : (extM d rd).lookup ("_note_wish" : Str) = none := by kernel_rfl
theorem mF_marks (n : Int) (l : Addr) (m k : Int) (d : Addr) (rd : Int) : (oF n l m k (extM d rd)).lookup ("_marks" : Str) = some (.ref d) := by kernel_rfl
theorem mF_rounds (n : Int) (l : Addr) (m k : Int) (d : Addr) (rd : Int) : (oF n l m k (extM d rd)).lookup ("_rounds" : Str) = some (.int rd) := by kernel_rfl
theorem mF_nmarks (n : Int) (l : Addr) (m k : Int) (d : Addr) (rd : Int) : (oF n l m k (extM d rd)).lookup ("marks" : Str) = none := by kernel_rfl
theorem mF_nrounds (n : Int) (l : Addr) (m k : Int) (d : Addr) (rd : Int) : (oF n l m k (extM d rd)).lookup ("rounds" : Str) = none := by kernel_rfl
theorem mF_putm (n : Int) (l : Addr) (m k : Int) (d d' : Addr) (rd : Int) : putF "_marks" (.ref d') (oF n l m k (extM d rd)) = oF n l m k (extM d' rd) := by kernel_rfl
theorem mF_putr (n : Int) (l : Addr) (m k : Int) (d : Addr) (rd rd' : Int) : putF "_rounds" (.int rd') (oF n l m k (extM d rd)) = oF n l m k (extM d rd') := by kernel_rfl
theorem mF_init (n : Int) (l d : Addr) : putF "_rounds" (.int 0) (putF "_marks" (.ref d) (oF n l 0 0 [])) = oF n l 0 0 (extM d 0) := by kernel_rfl
def mkK (marks : List Str) : List (Key × V) := marks.map fun z => (Sum.inr z, V.bl true)
theorem mkK_keys (marks : List Str) : (mkK marks).map (·.1) = marks.map Sum.inr := by
  unfold mkK
  rw [List.map_map]
  rfl
theorem mkK_len (marks : List Str) : (mkK marks).length = marks.length := by unfold mkK; rw [List.length_map]
theorem mkK_val (z : Str) : ∀ marks : List Str, valV (mkK marks) (Sum.inr z) = if z ∈ marks then some (.bl true) else none
  | [] => rfl
  | y :: r => by
    have ih := mkK_val z r
    unfold valV at ih ⊢
    by_cases e : y = z
    · subst e
      rw [if_pos List.mem_cons_self]
      unfold mkK
      rw [List.map_cons, List.find?_cons_of_pos (by simp)]
      rfl
    · have e1 : (mkK (y :: r)).find? (fun kv => decide (kv.1 = Sum.inr z)) = (mkK r).find? (fun kv => decide (kv.1 = Sum.inr z)) := by
        unfold mkK
        rw [List.map_cons, List.find?_cons_of_neg (by simpa using e)]
      rw [e1, ih]
      by_cases h : z ∈ r
      · rw [if_pos h, if_pos (List.mem_cons_of_mem _ h)]
      · rw [if_neg h, if_neg (fun q => (List.mem_cons.mp q).elim (fun w => e w.symm) h)]
def addM (marks : List Str) (z : Str) : List Str := if z ∈ marks then marks else marks ++ [z]
theorem mkK_put (z : Str) (marks : List Str) : putK (mkK marks) (Sum.inr z : Key) (.bl true) = mkK (addM marks z) := by
  have hany : ((mkK marks).any fun kv => decide (kv.1 = (Sum.inr z : Key))) = decide (z ∈ marks) := by
    unfold mkK
    rw [List.any_map]
    induction marks with
    | nil => rfl
    | cons y r ih =>
      rw [List.any_cons, ih]
      show (decide ((Sum.inr y : Key) = Sum.inr z) || decide (z ∈ r)) = decide (z ∈ y :: r)
      by_cases e : y = z
      · subst e; simp
      · rw [decide_eq_false (fun q => e (Sum.inr.inj q)), Bool.false_or]
        exact decide_eq_decide.mpr ⟨fun h => List.mem_cons_of_mem _ h, fun h => (List.mem_cons.mp h).elim (fun q => absurd q.symm e) id⟩
  unfold putK addM
  rw [hany]
  by_cases h : z ∈ marks
  · rw [if_pos (decide_eq_true h), if_pos h]
    unfold mkK
    rw [List.map_map]
    refine List.map_congr_left fun y hy => ?_
    show (if (Sum.inr y : Key) = Sum.inr z then ((Sum.inr y : Key), V.bl true) else ((Sum.inr y : Key), V.bl true)) = _
    rw [ite_self]
  · rw [if_neg (by simp [h]), if_neg h]
    unfold mkK
    rw [List.map_append]
    rfl
/-- who goes, the marks and the rounds behind it -/
def pickM (row marks : List Str) (rd : Int) : Str × List Str × Int :=
  if marks.length = row.length then (minS row, [], rd + 1) else (minS (row.filter fun y => decide (y ∉ marks)), marks, rd)
structure MkAt (C : Addr) (H : Hp) (p : Addr) (n : Int) (l : Addr) (row : List Str) (m k : Int) (d : Addr) (marks : List Str) (rd : Int) : Prop where
  sh : ShAt C H p n l row m k (extM d rd)
  mkd : H d = some (.dK (mkK marks))
theorem MkAt.kp {C : Addr} {H H' : Hp} {tb : Addr} {S : List Addr} {p l d : Addr} {n m k rd : Int} {row marks : List Str} (h : MkAt C H p n l row m k d marks rd) (kp : Kp tb S H H') (hp : p ∉ S := by simp) (hl : l ∉ S := by simp) (hd : d ∉ S := by simp) :
    MkAt C H' p n l row m k d marks rd := ⟨h.sh.kp kp hp hl, kp.get h.mkd rfl hd⟩
/-- further facts of the class -/
structure ClsM (K : PySem.W.Frag) (C : Addr) : Prop where
  nA : NoAttr K C "_marks"
  nO : NoAttr K C "_rounds"
section
variable {P : Program} {w : World} {K : PySem.W.Frag} {mg : Str → Option Value} {base : Heap} {tb C : Addr}
def spInitM (tb C : Addr) : Sp := fun vs H Q _ => ∃ (p dx : Addr) (n : Int), vs = [.ref p, .int n] ∧ 1 ≤ n ∧ n ≤ 20 ∧ H p = some (.ins C dx []) ∧
  ∀ (l d : Addr) (H' : Hp), H l = none → H d = none → l ≠ d → MkAt C H' p n l [] 0 0 d [] 0 → Kp tb [p] H H' → Q .non H'
theorem sc_minit : FnScope ["self", "places"] ["self", "places"] (defScope s_Marked___init__) := ⟨rfl, rfl, rfl, by decide +kernel, rfl, by decide +kernel, by decide +kernel⟩
theorem ok_minit {f fS CS : Addr} {fd fdS : FuncData} {mc : Value} {k0 : Nat} (F : FnP K "__init__" "Marked.__init__" s_Marked___init__ f fd) (T : ClsT K C) (T2 : ClsM K C) (mS : mg "Shelf" = some (.ref CS)) (r : ClX.CRead K CS mc) (kv : ClX.CVal K CS mc "__init__" (.ref fS) (.ref fS))
    (FS : FnOk P w K mg base CX0 (k0 + 1) fS fdS ["self", "places"] (spInit tb C)) (hk : PySem.W.keepIn K (.ref fS) = true) (hb : Binds K fdS ["self", "places"] []) : FnOk P w K mg base CX0 (k0 + 2) f fd ["self", "places"] (spInitM tb C) := by
  refine ok0 F sc_minit (fun vs H Q E h => ?_) (fun cdv A outer s H vs Q E hr h => ?_)
  · obtain ⟨p, dx, n, rfl, _⟩ := h
    rfl
  · obtain ⟨p, dx, n, rfl, n0, n1, hp, q⟩ := h
    refine ⟨_, pss_cons (ps_expr (pe_clsfn (by rfl) mS r kv FS hr hk hb pass0 (pa_cons (pv 0) (pa_cons (pv 1) pa_nil)))) (pss_cons (ps_fld (pv 0) pe_dnewK rfl) (pss_one (ps_fld (pv 0) pe_int rfl))), ?_⟩
    refine ⟨_, rfl, _, rfl, p, dx, n, rfl, n0, n1, hp, fun l H1 hl hob hls k1 => ?_⟩
    obtain ⟨dx1, hob⟩ := hob
    refine fun d hd => ?_
    have hd0 : H d = none := k1.free _ hd
    have npd : p ≠ d := ne_of_none hob hd
    have nld : l ≠ d := ne_of_none hls hd
    have npl : p ≠ l := ne_of_none hp hl
    refine ⟨_, rfl, p, C, dx1, _, rfl, Eq.trans (upd_ne npd) hob, T.cl, T2.nA, (by show 4 < 1000; decide), ?_⟩
    refine ⟨_, rfl, p, C, dx1, _, rfl, upd_same, T.cl, T2.nO, (by show 5 < 1000; decide), ?_⟩
    refine q l d _ hl hd0 nld ⟨⟨⟨dx1, by rw [upd_same, mF_init]⟩, by rw [upd_ne npl.symm, upd_ne npl.symm, upd_ne nld]; exact hls⟩, by rw [upd_ne npd.symm, upd_ne npd.symm, upd_same]; rfl⟩ ?_
    have e1 : (upd H1 d (.dK [])) p = some (.ins C dx1 (oF n l 0 0 [])) := Eq.trans (upd_ne npd) hob
    exact ((k1.step hd).trans (Kp.put e1)).trans (Kp.put upd_same)
/-- marks(), rounds() -/
def spMarks (tb C : Addr) : Sp := fun vs H Q _ => ∃ (p l d : Addr) (n m k rd : Int) (row marks : List Str), vs = [.ref p] ∧ MkAt C H p n l row m k d marks rd ∧ marks.length < 64 ∧
  ∀ (o : Addr) (H' : Hp), H o = none → H' o = some (.lst ((sortS marks).map V.str)) → Kp tb [] H H' → Q (.ref o) H'
theorem sc_marks : FnScope ["self"] ["self"] (defScope s_Marked_marks) := ⟨rfl, rfl, rfl, by decide +kernel, rfl, by decide +kernel, by decide +kernel⟩
theorem ok_marks {f : Addr} {fd : FuncData} {k0 : Nat} (F : FnP K "marks" "Marked.marks" s_Marked_marks f fd) (T : ClsT K C) (T2 : ClsM K C) (hs : mg "sorted" = none) : FnOk P w K mg base CX0 (k0 + 1) f fd ["self"] (spMarks tb C) := by
  refine ok0 F sc_marks (fun vs H Q E h => ?_) (fun cdv A outer s H vs Q E hr h => ?_)
  · obtain ⟨p, l, d, n, m, k, rd, row, marks, rfl, _⟩ := h
    rfl
  · obtain ⟨p, l, d, n, m, k, rd, row, marks, rfl, S, h64, q⟩ := h
    obtain ⟨⟨dx, hp⟩, hl⟩ := S.sh
    refine ⟨_, pss_one (ps_ret (pe_callB (cr_sortD rfl) (by rfl) hs (by decide +kernel) (pa_cons (pe_fld (pv 0) rfl) pa_nil))), ?_⟩
    refine ⟨_, rfl, p, C, dx, _, _, rfl, hp, T.cl, T2.nA, mF_marks .., d, _, marks, rfl, S.mkd, mkK_keys marks, h64, fun o ho => ?_⟩
    exact q o _ ho upd_same (Kp.new ho)
def spRounds (C : Addr) : Sp := fun vs H Q _ => ∃ (p l d : Addr) (n m k rd : Int), vs = [.ref p] ∧ (∃ dx, H p = some (.ins C dx (oF n l m k (extM d rd)))) ∧ Q (.int rd) H
theorem sc_rounds : FnScope ["self"] ["self"] (defScope s_Marked_rounds) := ⟨rfl, rfl, rfl, by decide +kernel, rfl, by decide +kernel, by decide +kernel⟩
theorem ok_rounds {f : Addr} {fd : FuncData} {k0 : Nat} (F : FnP K "rounds" "Marked.rounds" s_Marked_rounds f fd) (T : ClsT K C) (T2 : ClsM K C) : FnOk P w K mg base CX0 (k0 + 1) f fd ["self"] (spRounds C) := by
  refine ok0 F sc_rounds (fun vs H Q E h => ?_) (fun cdv A outer s H vs Q E hr h => ?_)
  · obtain ⟨p, l, d, n, m, k, rd, rfl, _⟩ := h
    rfl
  · obtain ⟨p, l, d, n, m, k, rd, rfl, ⟨dx, hp⟩, q⟩ := h
    exact ⟨_, pss_one (ps_ret (pe_fld (pv 0) rfl)), _, rfl, p, C, dx, _, _, rfl, hp, T.cl, T2.nO, mF_rounds .., q⟩
/-- _pick_going -/
def spPickM (tb C : Addr) : Sp := fun vs H Q _ => ∃ (p l d : Addr) (n m k rd : Int) (row marks : List Str), vs = [.ref p] ∧ MkAt C H p n l row m k d marks rd ∧ row.length ≤ 20 ∧ row ≠ [] ∧ (marks.length ≠ row.length → row.filter (fun y => decide (y ∉ marks)) ≠ []) ∧
  ∀ (d' : Addr) (H' : Hp), MkAt C H' p n l row m k d' (pickM row marks rd).2.1 (pickM row marks rd).2.2 → (d' = d ∨ H d' = none) → Kp tb [p] H H' → Q (.str (pickM row marks rd).1) H'
theorem sc_mpick : FnScope ["self", "name"] ["self"] (defScope s_Marked__pick_going) := ⟨rfl, rfl, rfl, by decide +kernel, rfl, by decide +kernel, by decide +kernel⟩
theorem ok_mpick {f : Addr} {fd : FuncData} {k0 : Nat} (F : FnP K "_pick_going" "Marked._pick_going" s_Marked__pick_going f fd) (T : ClsT K C) (T2 : ClsM K C) (hlen : mg "len" = none) (hmin : mg "min" = none) : FnOk P w K mg base CX0 (k0 + 1) f fd ["self"] (spPickM tb C) := by
  refine ok0 F sc_mpick (fun vs H Q E h => ?_) (fun cdv A outer s H vs Q E hr h => ?_)
  · obtain ⟨p, l, d, n, m, k, rd, row, marks, rfl, _⟩ := h
    rfl
  · obtain ⟨p, l, d, n, m, k, rd, row, marks, rfl, S, h20, hne, hfl, q⟩ := h
    have hu := hu_of hr
    obtain ⟨⟨dx, hp⟩, hl⟩ := S.sh
    have npl := S.sh.ne
    have npd : p ≠ d := ne_of hp S.mkd (by intro z; cases z)
    refine ⟨_, C8.pss_cut (ps_if (pt_cmpR op_eq (pe_callB call_lenD (by rfl) hlen PySem.boot_len (pa_cons (pe_fld (pv 0) rfl) pa_nil)) (pe_callB call_len_seq (by rfl) hlen PySem.boot_len (pa_cons (pe_fld (pv 0) rfl) pa_nil)) (nomark _))
        (pss_cons (ps_fld (pv 0) pe_dnewK rfl) (pss_one (ps_fldaug (pv 0) pe_int in_add))) pss_nil)
      (pss_one (ps_ret (pe_callB (cr_minS rfl) (by rfl) hmin (by decide +kernel) (pa_cons (pe_lc (own := [("name", 1)]) (g := gName 1) (tt := tB (tDNotIn (tVar 1) (tFld K (tVar 0) "_marks"))) rfl sc_mpick.nd (pi_list (pe_fld (pv 0) rfl)) (blkOk_by (N := ["self", "name"]) (sc := defScope s_Marked__pick_going) (by decide +kernel))
            (fun _ _ _ _ _ => pg_name (i := 1) sc_mpick.nd rfl (Or.inl rfl)) (fun _ _ _ _ _ => pts_one (pt_cmp (pc_dnotin hu (pv 1) (pe_fld (pv 0) rfl)))) (fun _ _ _ _ _ => pv 1)) pa_nil)))), ?_⟩
    refine ⟨fun σ H2 => ∃ (d' : Addr) (marks2 : List Str) (rd2 : Int), σ = [some (.ref p), none] ∧ MkAt C H2 p n l row m k d' marks2 rd2 ∧ (d' = d ∨ H d' = none) ∧ Kp tb [p] H H2 ∧ row.filter (fun y => decide (y ∉ marks2)) ≠ [] ∧ pickM row marks rd = (minS (row.filter fun y => decide (y ∉ marks2)), marks2, rd2), ?_, ?_⟩
    · refine ⟨_, rfl, p, C, dx, _, _, rfl, hp, T.cl, T2.nA, mF_marks .., d, _, rfl, S.mkd, _, rfl, p, C, dx, _, _, rfl, hp, T.cl, T.nR, oF_row .., l, _, rfl, .inl (SqL.of hl), rfl, _, rfl, ?_⟩
      rw [List.length_map, mkK_len, dec_int]
      by_cases he : marks.length = row.length
      · rw [beq_iff_eq.mpr (by rw [he])]
        refine iteT (fun d' hd' => ?_)
        have npd' : p ≠ d' := ne_of_none hp hd'
        have nld' : l ≠ d' := ne_of_none hl hd'
        refine ⟨_, rfl, p, C, dx, _, rfl, Eq.trans (upd_ne npd') hp, T.cl, T2.nA, (by show 6 < 1000; decide), ?_⟩
        rw [mF_putm]
        refine ⟨_, rfl, p, C, dx, _, _, rfl, upd_same, T.cl, T2.nO, mF_rounds .., _, _, rfl, rfl, dx, _, upd_same, (by show 6 < 1000; decide), ?_⟩
        rw [mF_putr]
        have e1 : (upd H d' (.dK [])) p = some (.ins C dx (oF n l m k (extM d rd))) := Eq.trans (upd_ne npd') hp
        have hfull : row.filter (fun y => decide (y ∉ ([] : List Str))) = row := List.filter_eq_self.mpr fun y _ => by simp
        refine ⟨d', [], rd + 1, rfl, ⟨⟨⟨dx, upd_same⟩, by rw [upd_ne npl.symm, upd_ne npl.symm, upd_ne nld']; exact hl⟩, by rw [upd_ne npd'.symm, upd_ne npd'.symm, upd_same]; rfl⟩, .inr hd', ((Kp.new hd').trans (Kp.put e1)).trans (Kp.put upd_same), by rw [hfull]; exact hne, ?_⟩
        unfold pickM
        rw [if_pos he, hfull]
      · rw [beq_eq_false_iff_ne.mpr (fun z => he (by omega))]
        refine iteF ⟨d, marks, rd, rfl, S, .inl rfl, Kp.refl _, hfl he, ?_⟩
        unfold pickM
        rw [if_neg he]
    · rintro σ H2 ⟨d', marks2, rd2, rfl, S2, hd', k2, hne2, epick⟩
      obtain ⟨⟨dx2, hp2⟩, hl2⟩ := S2.sh
      refine ⟨_, rfl, p, C, dx2, _, _, rfl, hp2, T.cl, T.nR, oF_row .., l, rfl, ⟨_, SqL.of hl2⟩, fun D hD => ?_⟩
      refine lc_it walk_list (LcI tb H2 D (fun i acc => acc = ((row.take i).filter (fun y => decide (y ∉ marks2))).map V.str)) (LcI.start hD rfl) (fun i H' _ ⟨_, _, kp, _⟩ => SqL.of (kp.get hl2)) ?_ ?_
      · rintro i x H3 H4 hi ⟨acc, rfl, kp, hD3⟩ ⟨rfl, hx⟩
        obtain ⟨y, hy, rfl⟩ := get_mapS hx
        rw [List.length_map] at hi
        have etake : row.take (i + 1) = row.take i ++ [y] := by rw [List.take_add_one, hy]; rfl
        have S4 := S2.kp kp
        obtain ⟨⟨dx4, hp4⟩, hl4⟩ := S4.sh
        refine ⟨rfl, _, rfl, _, rfl, p, C, dx4, _, _, rfl, hp4, T.cl, T2.nA, mF_marks .., d', _, rfl, DGet.k (k := Sum.inr y) S4.mkd, _, rfl, ?_⟩
        rw [mkK_val]
        by_cases e : y ∈ marks2
        · rw [if_pos e]
          refine iteF ⟨_, ?_, kp, hD3⟩
          dsimp only
          rw [etake, List.filter_append, List.filter_cons_of_neg (by simpa using e), List.filter_nil, List.append_nil]
        · rw [if_neg e]
          refine iteT ⟨_, rfl, LcI.next hD kp hD3 (Kp.refl _) ?_ ?_⟩
          · rw [List.length_map]
            exact small_of (m := 20) (Nat.le_trans (List.length_filter_le _ _) (Nat.le_trans (List.length_take_le _ _) (by omega)))
          · rw [etake, List.filter_append, List.filter_cons_of_pos (by simpa using e), List.filter_nil, List.map_append]
            rfl
      · rintro H3 ⟨acc, rfl, kp3, hD3⟩
        rw [List.length_map, List.take_of_length_le (Nat.le_refl _)] at hD3
        refine ⟨D, _, rfl, SqL.of hD3, hne2, ?_⟩
        have qq := q d' H3 (by rw [epick]; exact S2.kp kp3) hd' (k2.trans kp3.nil)
        rw [epick] at qq
        exact qq
/-- _note_wish -/
def spNoteM (tb C : Addr) : Sp := fun vs H Q _ => ∃ (p l d : Addr) (n m k rd : Int) (z : Str) (row marks : List Str), vs = [.ref p, .str z] ∧ MkAt C H p n l row m k d marks rd ∧ marks.length ≤ 20 ∧ ∀ H', MkAt C H' p n l row m k d (addM marks z) rd → Kp tb [d] H H' → Q .non H'
theorem sc_mnote : FnScope ["self", "name"] ["self", "name"] (defScope s_Marked__note_wish) := ⟨rfl, rfl, rfl, by decide +kernel, rfl, by decide +kernel, by decide +kernel⟩
theorem ok_mnote {f : Addr} {fd : FuncData} {k0 : Nat} (F : FnP K "_note_wish" "Marked._note_wish" s_Marked__note_wish f fd) (T : ClsT K C) (T2 : ClsM K C) : FnOk P w K mg base CX0 (k0 + 1) f fd ["self", "name"] (spNoteM tb C) := by
  refine ok0 F sc_mnote (fun vs H Q E h => ?_) (fun cdv A outer s H vs Q E hr h => ?_)
  · obtain ⟨p, l, d, n, m, k, rd, z, row, marks, rfl, _⟩ := h
    rfl
  · obtain ⟨p, l, d, n, m, k, rd, z, row, marks, rfl, S, h20, q⟩ := h
    have hu := hu_of hr
    obtain ⟨⟨dx, hp⟩, hl⟩ := S.sh
    have npd : p ≠ d := ne_of hp S.mkd (by intro z; cases z)
    have nld : l ≠ d := ne_of hl S.mkd (by intro z; cases z)
    refine ⟨_, pss_one (ps_dput hu (pe_fld (pv 0) rfl) (pv 1) pe_bl rfl), ?_⟩
    refine ⟨_, rfl, p, C, dx, _, _, rfl, hp, T.cl, T2.nA, mF_marks .., _, rfl, d, _, rfl, DPut.k (k := Sum.inr z) S.mkd (by rw [mkK_len]; exact small_of (m := 20) h20), ?_⟩
    rw [mkK_put]
    exact q _ ⟨⟨⟨dx, by rw [upd_ne npd]; exact hp⟩, by rw [upd_ne nld]; exact hl⟩, upd_same⟩ (Kp.put S.mkd)
/-- _free_a_place -/
def spFreeM (tb C : Addr) : Sp := fun vs H Q _ => ∃ (p l d : Addr) (n m k rd : Int) (row marks : List Str), vs = [.ref p] ∧ MkAt C H p n l row m k d marks rd ∧ 1 ≤ n ∧ row.length ≤ 20 ∧ (marks.length ≠ row.length → row.filter (fun y => decide (y ∉ marks)) ≠ []) ∧ ((row.length : Int) < n → Q .non H) ∧
  (¬ (row.length : Int) < n → ∀ (d' : Addr) (H' : Hp), MkAt C H' p n l (row.erase (pickM row marks rd).1) m k d' (pickM row marks rd).2.1 (pickM row marks rd).2.2 → (d' = d ∨ H d' = none) → Kp tb [p, l] H H' → Q (.str (pickM row marks rd).1) H')
theorem pickM_mem {row marks : List Str} {rd : Int} (h : row ≠ []) (hf : marks.length ≠ row.length → row.filter (fun y => decide (y ∉ marks)) ≠ []) : (pickM row marks rd).1 ∈ row := by
  unfold pickM
  by_cases e : marks.length = row.length
  · rw [if_pos e]
    exact minS_mem h
  · rw [if_neg e]
    exact (List.mem_filter.mp (minS_mem (hf e))).1
theorem sc_mfree : FnScope ["self", "gone"] ["self"] (defScope s_Shelf__free_a_place) := ⟨rfl, rfl, rfl, by decide +kernel, rfl, by decide +kernel, by decide +kernel⟩
theorem ok_mfree {f : Addr} {fd : FuncData} {k0 : Nat} (F : FnP K "_free_a_place" "Shelf._free_a_place" s_Shelf__free_a_place f fd) (T : ClsT K C) (hlen : mg "len" = none) (G : MethOk P w K mg base CX0 (k0 + 1) C "_pick_going" ["self"] (spPickM tb C)) :
    FnOk P w K mg base CX0 (k0 + 2) f fd ["self"] (spFreeM tb C) := by
  refine ok0 F sc_mfree (fun vs H Q E h => ?_) (fun cdv A outer s H vs Q E hr h => ?_)
  · obtain ⟨p, l, d, n, m, k, rd, row, marks, rfl, _⟩ := h
    rfl
  · obtain ⟨p, l, d, n, m, k, rd, row, marks, rfl, S, n0, h20, hfl, q1, q2⟩ := h
    obtain ⟨⟨dx, hp⟩, hl⟩ := S.sh
    refine ⟨_, pss_cons (ps_if (pt_cmpR op_lt (pe_callB call_len_seq (by rfl) hlen PySem.boot_len (pa_cons (pe_fld (pv 0) rfl) pa_nil)) (pe_fld (pv 0) rfl) (nomark _)) (pss_one (ps_ret pe_non)) pss_nil)
      (pss_cons (ps_set (i := 1) sc_mfree.nd rfl (.inl rfl) (pe_meth0G (pv 0) G hr pass0))
      (pss_cons (ps_expr (pe_bm PySem.F.plainAttrs_list PySem.F.slot_list_remove PySem.F.type_list_remove mt_removeS (pe_fld (pv 0) rfl) (pa_cons (pv 1) pa_nil)))
      (pss_one (ps_ret (pv 1))))), ?_⟩
    refine ⟨_, rfl, p, C, dx, _, _, rfl, hp, T.cl, T.nR, oF_row .., l, _, rfl, .inl (SqL.of hl), _, rfl, p, C, dx, _, _, rfl, hp, T.cl, T.nS, oF_size .., _, _, rfl, rfl, _, rfl, ?_⟩
    rw [List.length_map]
    refine ite2 (fun hlt => q1 (of_decide_eq_true hlt)) (fun hge => ?_)
    have hge' : ¬ (row.length : Int) < n := fun z => hge (decide_eq_true z)
    have hne : row ≠ [] := fun e => hge' (by rw [e]; simp; omega)
    refine ⟨_, rfl, p, dx, _, rfl, hp, by rw [oF_pick, extM_pick], p, l, d, n, m, k, rd, row, marks, rfl, S, h20, hne, hfl, fun d' H2 S2 hd' k2 => ?_⟩
    have hmem := pickM_mem (rd := rd) hne hfl
    generalize pickM row marks rd = pk at *
    obtain ⟨⟨dx2, hp2⟩, hl2⟩ := S2.sh
    have npl := S2.sh.ne
    have nld' : l ≠ d' := ne_of hl2 S2.mkd (by intro z; cases z)
    refine ⟨_, rfl, p, C, dx2, _, _, rfl, hp2, T.cl, T.nR, oF_row .., .inl ⟨rfl, _, SqL.of hl2⟩, _, rfl, l, row, pk.1, rfl, rfl, hl2, hmem, ?_⟩
    refine ⟨_, rfl, q2 hge' d' _ ⟨⟨⟨dx2, by rw [upd_ne npl]; exact hp2⟩, upd_same⟩, by rw [upd_ne nld'.symm]; exact S2.mkd⟩ hd' ((k2.mono (by simp)).trans (Kp.put hl2))⟩
/-- wish -/
def stepM (n : Int) (row marks : List Str) (rd : Int) (z : Str) : Bool × Option Str × List Str × List Str × Int :=
  if z ∈ row then (true, none, row, addM marks z, rd)
  else if (row.length : Int) < n then (false, none, row ++ [z], addM marks z, rd)
  else (false, some (pickM row marks rd).1, row.erase (pickM row marks rd).1 ++ [z], addM (pickM row marks rd).2.1 z, (pickM row marks rd).2.2)
/-- what holds of a marked shelf -/
structure MkOk (n : Int) (row marks : List Str) : Prop where
  le : (row.length : Int) ≤ n
  nd : row.Nodup
  md : marks.Nodup
  sub : ∀ y ∈ marks, y ∈ row
  nm : ∀ y ∈ row, IsName y
theorem subset_len : ∀ {xs ys : List Str}, xs.Nodup → (∀ y ∈ xs, y ∈ ys) → xs.length ≤ ys.length
  | [], _, _, _ => Nat.zero_le _
  | x :: r, ys, h, s => by
    obtain ⟨h1, h2⟩ := List.nodup_cons.mp h
    have hx := s x List.mem_cons_self
    have ih := subset_len (ys := ys.erase x) h2 fun y hy => (List.mem_erase_of_ne (fun e => h1 (by rw [← e]; exact hy))).mpr (s y (List.mem_cons_of_mem _ hy))
    have e := List.length_erase_of_mem hx
    have e2 := List.length_pos_of_mem hx
    rw [List.length_cons]
    omega
theorem MkOk.fl {n : Int} {row marks : List Str} (h : MkOk n row marks) : marks.length ≠ row.length → row.filter (fun y => decide (y ∉ marks)) ≠ [] := fun ne e => by
  have h1 : ∀ y ∈ row, y ∈ marks := fun y hy => by
    by_cases q : y ∈ marks
    · exact q
    · have : y ∈ row.filter (fun y => decide (y ∉ marks)) := List.mem_filter.mpr ⟨hy, by simpa using q⟩
      rw [e] at this
      cases this
  have h2 := subset_len h.nd h1
  have h3 := subset_len h.md h.sub
  omega
theorem addM_nd {marks : List Str} {z : Str} (h : marks.Nodup) : (addM marks z).Nodup := by
  unfold addM
  by_cases e : z ∈ marks
  · rw [if_pos e]; exact h
  · rw [if_neg e, List.nodup_append]
    exact ⟨h, List.nodup_cons.mpr ⟨by simp, List.nodup_nil⟩, fun x hx y hy q => e (by rw [← List.mem_singleton.mp hy, ← q]; exact hx)⟩
theorem addM_sub {marks : List Str} {z y : Str} (h : y ∈ addM marks z) : y ∈ marks ∨ y = z := by
  unfold addM at h
  by_cases e : z ∈ marks
  · rw [if_pos e] at h; exact .inl h
  · rw [if_neg e] at h
    rcases List.mem_append.mp h with q | q
    · exact .inl q
    · exact .inr (List.mem_singleton.mp q)
theorem nodup_snoc {r : List Str} {z : Str} (hr : z ∉ r) (h : r.Nodup) : (r ++ [z]).Nodup := by
  rw [List.nodup_append]
  exact ⟨h, List.nodup_cons.mpr ⟨by simp, List.nodup_nil⟩, fun x hx y hy e => hr (by rw [← List.mem_singleton.mp hy, ← e]; exact hx)⟩
/-- behind the pick: who goes has no mark any more -/
theorem pickM_ok {n : Int} {row marks : List Str} {rd : Int} (h : MkOk n row marks) (hne : row ≠ []) : (pickM row marks rd).1 ∈ row ∧ (pickM row marks rd).2.1.Nodup ∧ (∀ y ∈ (pickM row marks rd).2.1, y ∈ row.erase (pickM row marks rd).1) := by
  refine ⟨pickM_mem hne h.fl, ?_⟩
  unfold pickM
  by_cases e : marks.length = row.length
  · rw [if_pos e]
    exact ⟨List.nodup_nil, fun y hy => absurd hy (by simp)⟩
  · rw [if_neg e]
    refine ⟨h.md, fun y hy => (List.mem_erase_of_ne (fun q => ?_)).mpr (h.sub y hy)⟩
    have hm := (List.mem_filter.mp (minS_mem (h.fl e))).2
    dsimp only at q hy
    rw [← q, decide_eq_true_eq] at hm
    exact hm hy
theorem stepM_ok {n : Int} {row marks : List Str} {rd : Int} {z : Str} (h : MkOk n row marks) (n0 : 1 ≤ n) (hz : IsName z) : MkOk n (stepM n row marks rd z).2.2.1 (stepM n row marks rd z).2.2.2.1 := by
  unfold stepM
  by_cases h1 : z ∈ row
  · rw [if_pos h1]
    exact ⟨h.le, h.nd, addM_nd h.md, fun y hy => (addM_sub hy).elim (h.sub y) (fun e => by rw [e]; exact h1), h.nm⟩
  · rw [if_neg h1]
    by_cases h2 : (row.length : Int) < n
    · rw [if_pos h2]
      refine ⟨?_, nodup_snoc h1 h.nd, addM_nd h.md, fun y hy => (addM_sub hy).elim (fun q => List.mem_append_left _ (h.sub y q)) (fun e => by rw [e]; exact List.mem_append_right _ List.mem_cons_self), fun y hy => ?_⟩
      · show ((row ++ [z]).length : Int) ≤ n
        rw [List.length_append, List.length_singleton]
        omega
      · rcases List.mem_append.mp hy with q | q
        · exact h.nm y q
        · rw [List.mem_singleton.mp q]; exact hz
    · rw [if_neg h2]
      have hne : row ≠ [] := fun e => h2 (by rw [e]; simp; omega)
      obtain ⟨p1, p2, p3⟩ := pickM_ok (rd := rd) h hne
      refine ⟨?_, nodup_snoc (fun q => h1 (List.mem_of_mem_erase q)) (h.nd.erase _), addM_nd p2, fun y hy => (addM_sub hy).elim (fun q => List.mem_append_left _ (p3 y q)) (fun e => by rw [e]; exact List.mem_append_right _ List.mem_cons_self), fun y hy => ?_⟩
      · show ((row.erase (pickM row marks rd).1 ++ [z]).length : Int) ≤ n
        have e1 := List.length_erase_of_mem p1
        have e2 := List.length_pos_of_mem p1
        rw [List.length_append, List.length_singleton]
        have := h.le
        omega
      · rcases List.mem_append.mp hy with q | q
        · exact h.nm y (List.mem_of_mem_erase q)
        · rw [List.mem_singleton.mp q]; exact hz
theorem stepM_gone {n : Int} {row marks : List Str} {rd : Int} {z : Str} (h : MkOk n row marks) (n0 : 1 ≤ n) : ∀ g, (stepM n row marks rd z).2.1 = some g → IsName g := by
  intro g hg
  unfold stepM at hg
  by_cases h1 : z ∈ row
  · rw [if_pos h1] at hg; cases hg
  · rw [if_neg h1] at hg
    by_cases h2 : (row.length : Int) < n
    · rw [if_pos h2] at hg; cases hg
    · rw [if_neg h2] at hg
      have hne : row ≠ [] := fun e => h2 (by rw [e]; simp; omega)
      have := (pickM_ok (rd := rd) h hne).1
      rw [← Option.some.inj hg]
      exact h.nm _ this
def spWishM (tb C : Addr) : Sp := fun vs H Q _ => ∃ (p l d : Addr) (n m k rd : Int) (z : Str) (row marks : List Str), vs = [.ref p, .str z] ∧ MkAt C H p n l row m k d marks rd ∧ MkOk n row marks ∧ 1 ≤ n ∧ n ≤ 20 ∧ IsName z ∧ GxR.TabG H tb ∧
  ∀ (t d' : Addr) (H' : Hp), MkAt C H' p n l (stepM n row marks rd z).2.2.1 (if (stepM n row marks rd z).1 then m + 1 else m) (if (stepM n row marks rd z).1 then k else k + 1) d' (stepM n row marks rd z).2.2.2.1 (stepM n row marks rd z).2.2.2.2 → (d' = d ∨ H d' = none) → t ≠ d' →
    Kp tb [p, l, d] H H' → H t = none → H' t = some (.tup [.bl (stepM n row marks rd z).1, optV (stepM n row marks rd z).2.1]) → Q (.ref t) H'
theorem sc_mwish : FnScope ["self", "name", "met", "gone"] ["self", "name"] (defScope s_Shelf_wish) := ⟨rfl, rfl, rfl, by decide +kernel, rfl, by decide +kernel, by decide +kernel⟩
theorem ok_mwish {f : Addr} {fd : FuncData} {k0 : Nat} (F : FnP K "wish" "Shelf.wish" s_Shelf_wish f fd) (T : ClsT K C) (GC : Glob P w K mg base CX0 (k0 + 2) "check_name" ["name"] (spCheckName K))
    (GF : MethOk P w K mg base CX0 (k0 + 2) C "_free_a_place" ["self"] (spFreeM (tbOf K) C)) (GN : MethOk P w K mg base CX0 (k0 + 2) C "_note_wish" ["self", "name"] (spNoteM (tbOf K) C)) :
    FnOk P w K mg base CX0 (k0 + 3) f fd ["self", "name"] (spWishM (tbOf K) C) := by
  refine ok0 F sc_mwish (fun vs H Q E h => ?_) (fun cdv A outer s H vs Q E hr h => ?_)
  · obtain ⟨p, l, d, n, m, k, rd, z, row, marks, rfl, _⟩ := h
    rfl
  · obtain ⟨p, l, d, n, m, k, rd, z, row, marks, rfl, S, ok, n0, n1, hz, tab, q⟩ := h
    have hrow := ok.le
    refine ⟨_, pss_cons (ps_expr (pe_callG GC hr (by rfl) pass0 (pa_cons (pv 1) pa_nil)))
      (pss_cons (ps_set (i := 2) sc_mwish.nd rfl (.inl rfl) (pe_cmpR op_in_seq (pv 1) (pe_fld (pv 0) rfl) (by with_unfolding_all rfl)))
      (pss_cons (ps_set (i := 3) sc_mwish.nd rfl (.inl rfl) pe_non)
      (C8.pss_cut (ps_if (pt_val (pv 2)) (pss_one (ps_fldaug (pv 0) pe_int in_add))
          (pss_cons (ps_fldaug (pv 0) pe_int in_add) (pss_cons (ps_set (i := 3) sc_mwish.nd rfl (.inl rfl) (pe_meth0G (pv 0) GF hr pass0))
            (pss_one (ps_expr (pe_bm PySem.F.plainAttrs_list PySem.F.slot_list_append PySem.F.type_list_append mt_append (pe_fld (pv 0) rfl) (pa_cons (pv 1) pa_nil)))))))
      (pss_cons (ps_expr (pe_methG (pv 0) GN hr pass0 (pa_cons (pv 1) pa_nil)))
      (pss_one (ps_ret (pe_tup (pa_cons (pv 2) (pa_cons (pv 3) pa_nil))))))))), ?_⟩
    refine ⟨_, rfl, z, rfl, hz, tab, fun H1 kp1 => ?_⟩
    have S1 := S.kp kp1
    obtain ⟨⟨dx, hp⟩, hl⟩ := S1.sh
    have npl := S1.sh.ne
    have npd : p ≠ d := ne_of hp S1.mkd (by intro z; cases z)
    have nld : l ≠ d := ne_of hl S1.mkd (by intro z; cases z)
    refine ⟨_, rfl, _, rfl, p, C, dx, _, _, rfl, hp, T.cl, T.nR, oF_row .., l, _, rfl, .inl (SqL.of hl), rfl, flat_strs row, ?_⟩
    rw [inV_str]
    -- the state behind the if
    refine ⟨fun σ H2 => ∃ (row2 marks2 : List Str) (met : Bool) (gone : Option Str) (m2 k2 rd2 : Int) (d2 : Addr), σ = [some (.ref p), some (.str z), some (.bl met), some (optV gone)] ∧ MkAt C H2 p n l row2 m2 k2 d2 marks2 rd2 ∧ (d2 = d ∨ H d2 = none) ∧ marks2.length ≤ 20 ∧ Kp (tbOf K) [p, l, d] H1 H2 ∧
      stepM n row marks rd z = (met, gone, row2, addM marks2 z, rd2) ∧ m2 = (if met then m + 1 else m) ∧ k2 = (if met then k else k + 1), ?_, ?_⟩
    · have hm20 : marks.length ≤ 20 := by have := subset_len ok.md ok.sub; omega
      refine ⟨_, rfl, _, rfl, ?_⟩
      by_cases hin : z ∈ row
      · rw [decide_eq_true hin]
        refine iteT ?_
        refine ⟨_, rfl, p, C, dx, _, _, rfl, hp, T.cl, T.nM, oF_met .., _, _, rfl, rfl, dx, _, hp, (by show 6 < 1000; decide), ?_⟩
        rw [oF_put_met]
        refine ⟨row, marks, true, none, m + 1, k, rd, d, rfl, ⟨⟨⟨dx, upd_same⟩, by rw [upd_ne npl.symm]; exact hl⟩, by rw [upd_ne npd.symm]; exact S1.mkd⟩, .inl rfl, hm20, Kp.put hp, ?_, rfl, rfl⟩
        unfold stepM
        rw [if_pos hin]
      · rw [decide_eq_false hin]
        refine iteF ?_
        refine ⟨_, rfl, p, C, dx, _, _, rfl, hp, T.cl, T.nK, oF_missed .., _, _, rfl, rfl, dx, _, hp, (by show 6 < 1000; decide), ?_⟩
        rw [oF_put_missed]
        have kA : Kp (tbOf K) [p, l, d] H1 (upd H1 p (.ins C dx (oF n l m (k + 1) (extM d rd)))) := Kp.put hp
        have SA : MkAt C (upd H1 p (.ins C dx (oF n l m (k + 1) (extM d rd)))) p n l row m (k + 1) d marks rd := ⟨⟨⟨dx, upd_same⟩, by rw [upd_ne npl.symm]; exact hl⟩, by rw [upd_ne npd.symm]; exact S1.mkd⟩
        generalize upd H1 p (.ins C dx (oF n l m (k + 1) (extM d rd))) = HA at kA SA ⊢
        obtain ⟨⟨dA, hpA⟩, hlA⟩ := SA.sh
        refine ⟨_, rfl, p, dA, _, rfl, hpA, by rw [oF_free, extM_free], p, l, d, n, m, k + 1, rd, row, marks, rfl, SA, n0, by omega, ok.fl, fun hlt => ?_, fun hge dB HB SB hdB kB => ?_⟩
        · refine ⟨_, rfl, p, C, dA, _, _, rfl, hpA, T.cl, T.nR, oF_row .., .inl ⟨rfl, _, SqL.of hlA⟩, _, rfl, l, _, _, rfl, rfl, hlA, by rw [List.length_map]; exact small_of (m := 20) (by omega), ?_⟩
          refine ⟨row ++ [z], marks, false, none, m, k + 1, rd, d, rfl, ⟨⟨⟨dA, by rw [upd_ne npl]; exact hpA⟩, by rw [upd_same, List.map_append]; rfl⟩, by rw [upd_ne nld.symm]; exact SA.mkd⟩, .inl rfl, hm20, kA.trans (Kp.put hlA), ?_, rfl, rfl⟩
          unfold stepM
          rw [if_neg hin, if_pos hlt]
        · obtain ⟨⟨dxB, hpB⟩, hlB⟩ := SB.sh
          have nldB : l ≠ dB := ne_of hlB SB.mkd (by intro z; cases z)
          have hne : row ≠ [] := fun e => hge (by rw [e]; simp; omega)
          obtain ⟨p1, p2, p3⟩ := pickM_ok (rd := rd) ok hne
          have hl20 : (row.erase (pickM row marks rd).1).length ≤ 20 := Nat.le_trans List.length_erase_le (by omega)
          have hm2 : (pickM row marks rd).2.1.length ≤ 20 := Nat.le_trans (subset_len p2 p3) hl20
          refine ⟨_, rfl, p, C, dxB, _, _, rfl, hpB, T.cl, T.nR, oF_row .., .inl ⟨rfl, _, SqL.of hlB⟩, _, rfl, l, _, _, rfl, rfl, hlB, by rw [List.length_map]; exact small_of hl20, ?_⟩
          refine ⟨row.erase (pickM row marks rd).1 ++ [z], (pickM row marks rd).2.1, false, some (pickM row marks rd).1, m, k + 1, (pickM row marks rd).2.2, dB, rfl, ⟨⟨⟨dxB, by rw [upd_ne npl]; exact hpB⟩, by rw [upd_same, List.map_append]; rfl⟩, by rw [upd_ne nldB.symm]; exact SB.mkd⟩, ?_, hm2, (kA.trans (kB.mono (by simp))).trans (Kp.put hlB), ?_, rfl, rfl⟩
          · rcases hdB with e | e
            · exact .inl e
            · exact .inr (kp1.free _ (kA.free _ e))
          · unfold stepM
            rw [if_neg hin, if_neg hge]
    · rintro σ H2 ⟨row2, marks2, met, gone, m2, k2, rd2, d2, rfl, S2, hd2, h20, kp2, est, em, ek⟩
      obtain ⟨⟨dx2, hp2⟩, hl2⟩ := S2.sh
      refine ⟨_, rfl, p, dx2, _, rfl, hp2, by rw [oF_note, extM_note], _, rfl, p, l, d2, n, m2, k2, rd2, z, row2, marks2, rfl, S2, h20, fun H3 S3 kp3 => ?_⟩
      refine ⟨_, rfl, _, rfl, by show 2 ≤ sizeLine; decide, fun t ht => ?_⟩
      have kAll : Kp (tbOf K) [p, l, d] H H3 := by
        have k12 : Kp (tbOf K) [p, l, d] H H2 := kp1.nil.trans kp2
        rcases hd2 with e | e
        · exact k12.trans (kp3.mono (by rw [e]; simp))
        · refine ⟨fun b o eb no hb => kp3.keep b o (k12.keep b o eb no hb) no fun hm => ?_, fun tt => kp3.tab (k12.tab tt), fun b eb => k12.free b (kp3.free b eb)⟩
          rw [List.mem_singleton.mp hm, e] at eb
          cases eb
      have kt : Kp (tbOf K) [p, l, d] H3 (upd H3 t (.tup [.bl met, optV gone])) := Kp.new ht
      have S4 : MkAt C (upd H3 t (.tup [.bl met, optV gone])) p n l row2 m2 k2 d2 (addM marks2 z) rd2 := S3.kp (Kp.new (tb := tbOf K) (S := []) ht)
      have ntd : t ≠ d2 := (ne_of_none S3.mkd ht).symm
      refine q t d2 _ ?_ hd2 ntd (kAll.trans kt) (kAll.free _ ht) ?_
      · rw [est]
        dsimp only
        rw [← em, ← ek]
        exact S4
      · rw [est]
        exact upd_same
end
end Kf

namespace Kf
open PySem PySem.Spec PyProof.Rows L2
/-! ### the three rules as one -/
inductive Rule where
  | old
  | cold
  | marked
def Rule.txt : Rule → Str
  | .old => "old"
  | .cold => "cold"
  | .marked => "marked"
/-- what stands on a shelf, who has marks, the rounds that ended -/
structure St3 where
  row : List Str
  marks : List Str
  rd : Int
def st0 : St3 := ⟨[], [], 0⟩
def ofOC (x : Bool × Option Str × List Str) : Bool × Option Str × St3 := (x.1, x.2.1, ⟨x.2.2, [], 0⟩)
def ofM (x : Bool × Option Str × List Str × List Str × Int) : Bool × Option Str × St3 := (x.1, x.2.1, ⟨x.2.2.1, x.2.2.2.1, x.2.2.2.2⟩)
def stepR : Rule → Int → St3 → Str → Bool × Option Str × St3
  | .old, n, s, z => ofOC (stepOC nfOld n s.row z)
  | .cold, n, s, z => ofOC (stepOC nfCold n s.row z)
  | .marked, n, s, z => ofM (stepM n s.row s.marks s.rd z)
/-- the pairs of a row of wishes, and what is there behind it -/
def pairsR (r : Rule) (n : Int) : St3 → List Str → List (Bool × Option Str)
  | _, [] => []
  | s, z :: zs => ((stepR r n s z).1, (stepR r n s z).2.1) :: pairsR r n (stepR r n s z).2.2 zs
def endR (r : Rule) (n : Int) : St3 → List Str → St3
  | s, [] => s
  | s, z :: zs => endR r n (stepR r n s z).2.2 zs
theorem pairsR_snoc (r : Rule) (n : Int) (z : Str) : ∀ (zs : List Str) (s : St3), pairsR r n s (zs ++ [z]) = pairsR r n s zs ++ [((stepR r n (endR r n s zs) z).1, (stepR r n (endR r n s zs) z).2.1)]
  | [], _ => rfl
  | y :: ys, s => congrArg (_ :: ·) (pairsR_snoc r n z ys _)
theorem endR_snoc (r : Rule) (n : Int) (z : Str) : ∀ (zs : List Str) (s : St3), endR r n s (zs ++ [z]) = (stepR r n (endR r n s zs) z).2.2
  | [], _ => rfl
  | _ :: ys, _ => endR_snoc r n z ys _
theorem pairsR_len (r : Rule) (n : Int) : ∀ (zs : List Str) (s : St3), (pairsR r n s zs).length = zs.length
  | [], _ => rfl
  | _ :: ys, _ => congrArg (· + 1) (pairsR_len r n ys _)
structure NfOk (nf : Str → List Str → List Str) : Prop where
  mem : ∀ z row y, y ∈ nf z row → y ∈ row ∨ y = z
  nd : ∀ z row, row.Nodup → (nf z row).Nodup
  len : ∀ z row, z ∈ row → (nf z row).length = row.length
theorem nfOk_old : NfOk nfOld := ⟨fun _ _ _ h => .inl h, fun _ _ h => h, fun _ _ _ => rfl⟩
theorem nfOk_cold : NfOk nfCold := by
  refine ⟨fun z row y hy => ?_, fun z row h => ?_, fun z row h => ?_⟩
  · unfold nfCold at hy
    rcases List.mem_append.mp hy with q | q
    · exact .inl (List.mem_of_mem_erase q)
    · exact .inr (List.mem_singleton.mp q)
  · unfold nfCold
    exact nodup_snoc (fun q => ((List.Nodup.mem_erase_iff h).mp q).1 rfl) (h.erase z)
  · unfold nfCold
    rw [List.length_append, List.length_erase_of_mem h, List.length_singleton]
    have := List.length_pos_of_mem h
    omega
theorem stepOC_ok {nf : Str → List Str → List Str} (N : NfOk nf) {n : Int} {row : List Str} {z : Str} (h : MkOk n row []) (n0 : 1 ≤ n) (hz : IsName z) : MkOk n (stepOC nf n row z).2.2 [] := by
  have fin : ∀ r : List Str, z ∈ r → r.Nodup → (r.length : Int) ≤ n → (∀ y ∈ r, IsName y) → MkOk n (nf z r) [] := fun r hzr hr hl hn =>
    ⟨by rw [N.len z r hzr]; exact hl, N.nd z r hr, List.nodup_nil, fun _ h => absurd h (by simp), fun y hy => (N.mem z r y hy).elim (hn y) (fun e => by rw [e]; exact hz)⟩
  unfold stepOC
  by_cases h1 : z ∈ row
  · rw [if_pos h1]
    exact fin row h1 h.nd h.le h.nm
  · rw [if_neg h1]
    by_cases h2 : (row.length : Int) < n
    · rw [if_pos h2]
      refine fin _ (List.mem_append_right _ List.mem_cons_self) (nodup_snoc h1 h.nd) ?_ fun y hy => ?_
      · rw [List.length_append, List.length_singleton]
        omega
      · rcases List.mem_append.mp hy with q | q
        · exact h.nm y q
        · rw [List.mem_singleton.mp q]; exact hz
    · rw [if_neg h2]
      have hl := h.le
      refine fin _ (List.mem_append_right _ List.mem_cons_self) (nodup_snoc (fun q => h1 (List.mem_of_mem_tail q)) h.nd.tail) ?_ fun y hy => ?_
      · rw [List.length_append, List.length_singleton, List.length_tail]
        omega
      · rcases List.mem_append.mp hy with q | q
        · exact h.nm y (List.mem_of_mem_tail q)
        · rw [List.mem_singleton.mp q]; exact hz
def OkR (n : Int) (s : St3) : Prop := MkOk n s.row s.marks
theorem okR0 {n : Int} (h : 1 ≤ n) : OkR n st0 := ⟨by show ((([] : List Str).length : Nat) : Int) ≤ n; simp; omega, List.nodup_nil, List.nodup_nil, fun _ h => absurd h (by simp [st0]), fun _ h => absurd h (by simp [st0])⟩
/-- an old, a cold shelf has no marks -/
def NoMk : Rule → St3 → Prop
  | .marked, _ => True
  | _, s => s.marks = [] ∧ s.rd = 0
theorem stepR_ok {r : Rule} {n : Int} {s : St3} {z : Str} (h : OkR n s) (n0 : 1 ≤ n) (hz : IsName z) : OkR n (stepR r n s z).2.2 := by
  have h0 : MkOk n s.row [] := ⟨h.le, h.nd, List.nodup_nil, fun _ h => absurd h (by simp), h.nm⟩
  cases r with
  | old => exact stepOC_ok nfOk_old h0 n0 hz
  | cold => exact stepOC_ok nfOk_cold h0 n0 hz
  | marked => exact stepM_ok h n0 hz
theorem stepR_gone {r : Rule} {n : Int} {s : St3} {z : Str} (h : OkR n s) (n0 : 1 ≤ n) : ∀ g, (stepR r n s z).2.1 = some g → IsName g := by
  have oc : ∀ nf, ∀ g, (stepOC nf n s.row z).2.1 = some g → IsName g := fun nf g hg => by
    unfold stepOC at hg
    by_cases h1 : z ∈ s.row
    · rw [if_pos h1] at hg; cases hg
    · rw [if_neg h1] at hg
      by_cases h2 : (s.row.length : Int) < n
      · rw [if_pos h2] at hg; cases hg
      · rw [if_neg h2] at hg
        exact h.nm g (List.mem_of_head? hg)
  cases r with
  | old => exact oc nfOld
  | cold => exact oc nfCold
  | marked => exact stepM_gone h n0
theorem endR_ok {r : Rule} {n : Int} (n0 : 1 ≤ n) : ∀ {zs : List Str} {s : St3}, OkR n s → (∀ z ∈ zs, IsName z) → OkR n (endR r n s zs)
  | [], _, h, _ => h
  | z :: zs, _, h, hz => endR_ok n0 (zs := zs) (stepR_ok h n0 (hz z List.mem_cons_self)) fun y hy => hz y (List.mem_cons_of_mem _ hy)
theorem pairsR_gone {r : Rule} {n : Int} (n0 : 1 ≤ n) : ∀ {zs : List Str} {s : St3}, OkR n s → (∀ z ∈ zs, IsName z) → ∀ x ∈ pairsR r n s zs, ∀ g, x.2 = some g → IsName g
  | [], _, _, _, _, hx, _, _ => absurd hx (by simp [pairsR])
  | z :: zs, s, h, hz, x, hx, g, hg => by
    rcases List.mem_cons.mp hx with e | hx
    · subst e
      exact stepR_gone h n0 g hg
    · exact pairsR_gone n0 (zs := zs) (stepR_ok h n0 (hz z List.mem_cons_self)) (fun y hy => hz y (List.mem_cons_of_mem _ hy)) x hx g hg
/-! ### a shelf of a rule on the heap -/
def ShR (C : Rule → Addr) : Rule → Hp → Addr → Int → St3 → Int → Int → List Addr → Prop
  | .marked, H, p, n, s, m, k, S => ∃ l d, S = [p, l, d] ∧ MkAt (C .marked) H p n l s.row m k d s.marks s.rd
  | r, H, p, n, s, m, k, S => ∃ l, S = [p, l] ∧ ShAt (C r) H p n l s.row m k [] ∧ s.marks = [] ∧ s.rd = 0
section
variable {C : Rule → Addr} {r : Rule} {H H' : Hp} {p tb : Addr} {n m k : Int} {s : St3} {S T : List Addr}
theorem ShR.kp (h : ShR C r H p n s m k S) (kp : Kp tb T H H') (hs : ∀ x ∈ S, x ∉ T := by simp) : ShR C r H' p n s m k S := by
  cases r with
  | marked =>
    obtain ⟨l, d, rfl, M⟩ := h
    exact ⟨l, d, rfl, M.kp kp (hs _ (by simp)) (hs _ (by simp)) (hs _ (by simp))⟩
  | old =>
    obtain ⟨l, rfl, M, e⟩ := h
    exact ⟨l, rfl, M.kp kp (hs _ (by simp)) (hs _ (by simp)), e⟩
  | cold =>
    obtain ⟨l, rfl, M, e⟩ := h
    exact ⟨l, rfl, M.kp kp (hs _ (by simp)) (hs _ (by simp)), e⟩
/-- what all three have in common -/
theorem ShR.sh (h : ShR C r H p n s m k S) : p ∈ S ∧ (∀ x ∈ S, H x ≠ none) ∧ ∃ (l : Addr) (ext : List (Str × V)), ShAt (C r) H p n l s.row m k ext ∧ ext.lookup ("wish" : Str) = none ∧ ext.lookup ("met" : Str) = none ∧ ext.lookup ("missed" : Str) = none ∧ ext.lookup ("things" : Str) = none ∧ ext.lookup ("places" : Str) = none := by
  have two : ∀ {l : Addr} {c : Addr} {ext : List (Str × V)}, ShAt c H p n l s.row m k ext → H p ≠ none ∧ H l ≠ none := fun M => by
    obtain ⟨⟨dx, hp⟩, hl⟩ := M
    exact ⟨(by rw [hp]; exact (fun z => by cases z)), (by rw [hl]; exact (fun z => by cases z))⟩
  cases r with
  | marked =>
    obtain ⟨l, d, rfl, M⟩ := h
    refine ⟨by simp, fun x hx => ?_, l, _, M.sh, extM_wish _ _, extM_met _ _, extM_missed _ _, extM_things _ _, extM_places _ _⟩
    simp only [List.mem_cons, List.not_mem_nil, or_false] at hx
    rcases hx with e | e | e <;> rw [e]
    · exact (two M.sh).1
    · exact (two M.sh).2
    · rw [M.mkd]; exact fun z => nomatch z
  | old =>
    obtain ⟨l, rfl, M, _⟩ := h
    refine ⟨by simp, fun x hx => ?_, l, _, M, rfl, rfl, rfl, rfl, rfl⟩
    simp only [List.mem_cons, List.not_mem_nil, or_false] at hx
    rcases hx with e | e <;> rw [e]
    · exact (two M).1
    · exact (two M).2
  | cold =>
    obtain ⟨l, rfl, M, _⟩ := h
    refine ⟨by simp, fun x hx => ?_, l, _, M, rfl, rfl, rfl, rfl, rfl⟩
    simp only [List.mem_cons, List.not_mem_nil, or_false] at hx
    rcases hx with e | e <;> rw [e]
    · exact (two M).1
    · exact (two M).2
end
section
variable {P : Program} {w : World} {K : PySem.W.Frag} {mg : Str → Option Value} {base : Heap} {tb : Addr} {C : Rule → Addr}
theorem MethOk.imp {CX : CXT} {k : Nat} {c : Addr} {x : Str} {ps : List Str} {sp sp' : Sp} (G : MethOk P w K mg base CX k c x ps sp) (h : ∀ vs H Q E, sp' vs H Q E → sp vs H Q E) : MethOk P w K mg base CX k c x ps sp' := by
  obtain ⟨f, fd, a, b, c, d⟩ := G
  exact ⟨f, fd, a, b, c, d.imp h⟩
def spWishR (C : Rule → Addr) (tb : Addr) (r : Rule) : Sp := fun vs H Q _ => ∃ (p : Addr) (n m k : Int) (s : St3) (z : Str) (S : List Addr), vs = [.ref p, .str z] ∧ ShR C r H p n s m k S ∧ OkR n s ∧ 1 ≤ n ∧ n ≤ 20 ∧ IsName z ∧ GxR.TabG H tb ∧
  ∀ (t : Addr) (S' : List Addr) (H' : Hp), ShR C r H' p n (stepR r n s z).2.2 (if (stepR r n s z).1 then m + 1 else m) (if (stepR r n s z).1 then k else k + 1) S' → (∀ x ∈ S', x ∈ S ∨ H x = none) → t ∉ S' →
    Kp tb S H H' → H t = none → H' t = some (.tup [.bl (stepR r n s z).1, optV (stepR r n s z).2.1]) → Q (.ref t) H'
theorem meth_wishR {k0 : Nat} (WO : MethOk P w K mg base CX0 k0 (C .old) "wish" ["self", "name"] (spWishOC nfOld tb (C .old))) (WC : MethOk P w K mg base CX0 k0 (C .cold) "wish" ["self", "name"] (spWishOC nfCold tb (C .cold)))
    (WM : MethOk P w K mg base CX0 k0 (C .marked) "wish" ["self", "name"] (spWishM tb (C .marked))) (r : Rule) : MethOk P w K mg base CX0 k0 (C r) "wish" ["self", "name"] (spWishR C tb r) := by
  cases r with
  | old =>
    refine WO.imp fun vs H Q E h => ?_
    obtain ⟨p, n, m, k, s, z, S, rfl, ⟨l, rfl, M, em, er⟩, ok, n0, n1, hz, tab, q⟩ := h
    have hx := (ShR.sh (C := C) (r := .old) ⟨l, rfl, M, em, er⟩).2.1
    refine ⟨p, l, n, m, k, z, s.row, rfl, M, n0, n1, ok.le, hz, tab, fun t H' M' kp ft et => ?_⟩
    exact q t [p, l] H' ⟨l, rfl, M', rfl, rfl⟩ (fun x hx => .inl hx) (fun hm => hx t hm ft) kp ft et
  | cold =>
    refine WC.imp fun vs H Q E h => ?_
    obtain ⟨p, n, m, k, s, z, S, rfl, ⟨l, rfl, M, em, er⟩, ok, n0, n1, hz, tab, q⟩ := h
    have hx := (ShR.sh (C := C) (r := .cold) ⟨l, rfl, M, em, er⟩).2.1
    refine ⟨p, l, n, m, k, z, s.row, rfl, M, n0, n1, ok.le, hz, tab, fun t H' M' kp ft et => ?_⟩
    exact q t [p, l] H' ⟨l, rfl, M', rfl, rfl⟩ (fun x hx => .inl hx) (fun hm => hx t hm ft) kp ft et
  | marked =>
    refine WM.imp fun vs H Q E h => ?_
    obtain ⟨p, n, m, k, s, z, S, rfl, ⟨l, d, rfl, M⟩, ok, n0, n1, hz, tab, q⟩ := h
    have hx := (ShR.sh (C := C) (r := .marked) ⟨l, d, rfl, M⟩).2.1
    refine ⟨p, l, d, n, m, k, s.rd, z, s.row, s.marks, rfl, M, ok, n0, n1, hz, tab, fun t d' H' M' hd' ntd kp ft et => ?_⟩
    refine q t [p, l, d'] H' ⟨l, d', rfl, M'⟩ (fun x hx => ?_) (fun hm => ?_) kp ft et
    · simp only [List.mem_cons, List.not_mem_nil, or_false] at hx ⊢
      rcases hx with e | e | e
      · exact .inl (.inl e)
      · exact .inl (.inr (.inl e))
      · rcases hd' with f | f
        · exact .inl (.inr (.inr (e.trans f)))
        · exact .inr (by rw [e]; exact f)
    · simp only [List.mem_cons, List.not_mem_nil, or_false] at hm
      rcases hm with e | e | e
      · exact hx t (by rw [e]; simp) ft
      · exact hx t (by rw [e]; simp) ft
      · exact ntd e
/-! ### check_rule, check_wishes -/
def rulesV : List V := [.str "old", .str "cold", .str "marked"]
def spCheckRule : Sp := fun vs H Q _ => ∃ r : Rule, vs = [.str r.txt] ∧ Q .non H
theorem sc_checkrule : FnScope ["rule"] ["rule"] (defScope s_check_rule) := ⟨rfl, rfl, rfl, by decide +kernel, rfl, by decide +kernel, by decide +kernel⟩
theorem ok_checkrule {f : Addr} {fd : FuncData} {k0 : Nat} (F : FnP K "check_rule" "check_rule" s_check_rule f fd) {ra : Addr} (hR : mg "RULES" = some (.ref ra)) (hra : ∀ H : Hp, SqT K H ra rulesV) (hty : mg "type" = none) (hstr : mg "str" = none) :
    FnOk P w K mg base CX0 (k0 + 1) f fd ["rule"] spCheckRule := by
  refine ok0 F sc_checkrule (fun vs H Q E h => ?_) (fun cdv A outer s H vs Q E hr h => ?_)
  · obtain ⟨r, rfl, _⟩ := h
    rfl
  · obtain ⟨r, rfl, q⟩ := h
    refine ⟨_, pss_one (ps_if (PW.pt (pw_or (pt_cmpR (op_neTy (hu_of hr)) (pe_callTy call_type1 (by rfl) hty (by decide +kernel) (pa_cons (pv 0) pa_nil)) (pe_bltn (v := .ty "str") (by rfl) hstr (by decide +kernel) rfl) (nomark _))
        (pw_or1 (pt_cmpR op_notIn_seq (pv 0) (pe_glob (v := .ref ra) (by rfl) hR rfl) (by with_unfolding_all rfl)))))
        (pss_one ps_never) pss_nil), ?_⟩
    refine ⟨_, rfl, .str r.txt, "str", rfl, .str _, _, _, rfl, rfl, by decide, by decide, _, rfl, ?_⟩
    refine iteF ⟨_, rfl, ra, rulesV, rfl, .inr (hra H), rfl, rfl, _, rfl, ?_⟩
    rw [if_pos rfl, show inV (.str r.txt) rulesV = true by cases r <;> kernel_rfl]
    exact iteF q
end
end Kf

namespace Kf
open PySem PySem.Spec PyProof.Rows L2
/-! ### helpers of the laws over one shelf -/
def ExtOk (ext : List (Str × V)) : Prop := ext.lookup ("wish" : Str) = none ∧ ext.lookup ("met" : Str) = none ∧ ext.lookup ("missed" : Str) = none ∧ ext.lookup ("things" : Str) = none ∧ ext.lookup ("places" : Str) = none ∧ ext.lookup ("order" : Str) = none
theorem extOk_nil : ExtOk [] := ⟨rfl, rfl, rfl, rfl, rfl, rfl⟩
def optD : Option Str → PyData
  | none => .none
  | some z => .str z
theorem dp_opt {K : PySem.W.Frag} {H : Hp} : ∀ g : Option Str, Dp K H (optV g) (optD g)
  | none => .non
  | some z => .str z
def pairD (b : Bool) (g : Option Str) : PyData := .tuple [.bool b, optD g]
theorem dp_pair {K : PySem.W.Frag} {H : Hp} {t : Addr} {b : Bool} {g : Option Str} (h : H t = some (.tup [.bl b, optV g])) : Dp K H (.ref t) (pairD b g) := .tup (SqT.of h) (.cons (.bl b) (.cons (dp_opt g) .nil))
theorem eqv_pair (b : Bool) (g : Option Str) : PyData.eqv (pairD b g) (pairD b g) = true := by
  show (PyData.eqv (.bool b) (.bool b) && (PyData.eqv (optD g) (optD g) && true)) = true
  have h1 : PyData.eqv (.bool b) (.bool b) = true := by
    show (b == b) = true
    simp
  have h2 : PyData.eqv (optD g) (optD g) = true := by
    cases g with
    | none => rfl
    | some z =>
      show (z == z) = true
      simp
  rw [h1, h2]
  rfl
theorem sh_pair {b : Bool} {g : Option Str} (h : ∀ z, g = some z → PyData.strOk z = true) : SeqAt.shaped (pairD b g) = true := by
  unfold SeqAt.shaped pairD
  rw [Bool.and_eq_true]
  cases g with
  | none => exact ⟨rfl, rfl⟩
  | some z =>
    refine ⟨?_, rfl⟩
    show (true && (PyData.strOk z && true)) = true
    rw [h z rfl]
    rfl
theorem count_bl (b : Bool) : ∀ ts : List Bool, (ts.map V.bl).countP (fun z => eqV z (.bl b)) = ts.count b
  | [] => rfl
  | t :: r => by
    rw [List.map_cons, List.countP_cons, List.count_cons, count_bl b r]
    rfl
theorem flat_bls : ∀ ts : List Bool, (ts.map V.bl).all flatV = true
  | [] => rfl
  | _ :: r => flat_bls r
theorem seq0 {n : Nat} (h : 0 < n) : seqIndex? 0 n = some 0 := by
  unfold seqIndex?
  simp
  omega
end Kf

namespace Kf
open PySem PySem.Spec PyProof.Rows L2
section
variable {P : Program} {w : World} {K : PySem.W.Frag} {mg : Str → Option Value} {base : Heap} {tb : Addr} {C : Rule → Addr} {CG : Addr}
def spCheckWishes (K : PySem.W.Frag) : Sp := fun vs H Q _ => ∃ (a : Addr) (zs : List Str), vs = [.ref a] ∧ H a = some (.lst (zs.map V.str)) ∧ zs.length ≤ 300 ∧ (∀ z ∈ zs, IsName z) ∧ GxR.TabG H (tbOf K) ∧ ∀ H', Kp (tbOf K) [] H H' → Q .non H'
theorem sc_checkwishes : FnScope ["wishes", "at", "name"] ["wishes"] (defScope s_check_wishes) := ⟨rfl, rfl, rfl, by decide +kernel, rfl, by decide +kernel, by decide +kernel⟩
theorem ok_checkwishes {f : Addr} {fd : FuncData} {k0 : Nat} (F : FnP K "check_wishes" "check_wishes" s_check_wishes f fd) (G : Glob P w K mg base CX0 (k0 + 1) "is_name" ["value"] (spIsName K)) {tl : Tok}
    (hmw : mg "MOST_WISHES" = some (.int 300 tl)) (hty : mg "type" = none) (hlist : mg "list" = none) (hlen : mg "len" = none) (henum : mg "enumerate" = none) : FnOk P w K mg base CX0 (k0 + 2) f fd ["wishes"] (spCheckWishes K) := by
  refine ok0 F sc_checkwishes (fun vs H Q E h => ?_) (fun cdv A outer s H vs Q E hr h => ?_)
  · obtain ⟨a, zs, rfl, _⟩ := h
    rfl
  · obtain ⟨a, zs, rfl, ha, hl, hn, tab, q⟩ := h
    refine ⟨_, pss_cons (ps_if (PW.pt (pw_or (pt_cmpR (op_neTy (hu_of hr)) (pe_callTy call_type1 (by rfl) hty (by decide +kernel) (pa_cons (pv 0) pa_nil)) (pe_bltn (v := .ty "list") (by rfl) hlist (by decide +kernel) rfl) (nomark _))
        (pw_or1 (pt_cmpR op_gt (pe_callB call_len_seq (by rfl) hlen PySem.boot_len (pa_cons (pv 0) pa_nil)) (pe_glob (v := .int 300) rfl hmw ⟨_, rfl⟩) (nomark _)))))
        (pss_one ps_never) pss_nil)
      (pss_one (ps_for PassesOwn.never rfl (pi_enum (by rfl) henum (pa_cons (pv 0) pa_nil)) (pg_tup rfl (pgs_cons (pg_name (i := 1) sc_checkwishes.nd rfl (Or.inl rfl)) (pgs_cons (pg_name (i := 2) sc_checkwishes.nd rfl (Or.inl rfl)) pgs_nil)))
        (pss_one (ps_if (pt_not (pt_val (pe_callG G hr (by rfl) pass0 (pa_cons (pv 2) pa_nil)))) (pss_one ps_never) pss_nil)))), ?_⟩
    refine ⟨_, rfl, .ref a, "list", rfl, .lst (SqL.of ha), _, _, rfl, rfl, by decide, by decide, _, rfl, ?_⟩
    refine iteF ⟨_, rfl, a, _, rfl, .inl (SqL.of ha), _, _, rfl, rfl, _, rfl, ?_⟩
    rw [decide_eq_false (by rw [List.length_map]; omega)]
    refine iteF ?_
    refine ⟨_, rfl, a, _, rfl, SqL.of ha, ?_⟩
    refine for_it walk_enum (fun i σ H' => ∃ v1 v2 : Option V, σ = [some (.ref a), v1, v2] ∧ Kp (tbOf K) [] H H') ⟨none, none, rfl, Kp.refl _⟩ (fun i σ H' _ ⟨_, _, _, kp⟩ => SqL.of (kp.get ha)) ?_ ?_
    · rintro i x σ H3 H4 hi ⟨v1, v2, rfl, kp⟩ ⟨Tp, x1, x2, rfl, nT, rfl, e1, e2⟩
      cases e1
      obtain ⟨z, hz, rfl⟩ := get_mapS e2
      have hzn := hn z (List.mem_of_getElem? hz)
      refine ⟨Tp, _, rfl, SqT.of upd_same, rfl, _, _, rfl, _, _, rfl, rfl, ?_⟩
      have k4 := kp.step (o := .tup [.int (i : Nat), .str z]) nT
      refine ⟨_, rfl, .str z, _, rfl, .str z, rfl, fun z' e => ?_, k4.tab tab, fun H' k5 => ⟨_, rfl, ?_⟩⟩
      · cases e
        exact Nat.le_of_lt (small_of (m := 8) hzn.2.1)
      · rw [show isNameV (.str z) = true from isNameB_of hzn]
        exact iteF ⟨_, _, rfl, k4.trans k5⟩
    · rintro σ H3 ⟨v1, v2, rfl, kp⟩
      exact q H3 kp
/-! ### shelf_of -/
def spShelfOf (C : Rule → Addr) (tb : Addr) : Sp := fun vs H Q _ => ∃ (r : Rule) (n : Int), vs = [.str r.txt, .int n] ∧ 1 ≤ n ∧ n ≤ 20 ∧ ∀ (p : Addr) (S : List Addr) (H' : Hp), ShR C r H' p n st0 0 0 S → (∀ x ∈ S, H x = none) → Kp tb [] H H' → Q (.ref p) H'
theorem sc_shelfof : FnScope ["rule", "places"] ["rule", "places"] (defScope s_shelf_of) := ⟨rfl, rfl, rfl, by decide +kernel, rfl, by decide +kernel, by decide +kernel⟩
theorem ok_shelfof {f : Addr} {fd : FuncData} {k0 : Nat} (F : FnP K "shelf_of" "shelf_of" s_shelf_of f fd) (GR : Glob P w K mg base CX0 (k0 + 1) "check_rule" ["rule"] spCheckRule)
    (MO : MakeOk P w K mg base CX0 k0 "Old" (C .old) ["self", "places"] (spInit tb (C .old))) (MC : MakeOk P w K mg base CX0 k0 "Cold" (C .cold) ["self", "places"] (spInit tb (C .cold))) (MM : MakeOk P w K mg base CX0 k0 "Marked" (C .marked) ["self", "places"] (spInitM tb (C .marked))) :
    FnOk P w K mg base CX0 (k0 + 2) f fd ["rule", "places"] (spShelfOf C tb) := by
  refine ok0 F sc_shelfof (fun vs H Q E h => ?_) (fun cdv A outer s H vs Q E hr h => ?_)
  · obtain ⟨r, n, rfl, _⟩ := h
    rfl
  · obtain ⟨r, n, rfl, n0, n1, q⟩ := h
    refine ⟨_, pss_cons (ps_expr (pe_callG GR hr (by rfl) pass0 (pa_cons (pv 0) pa_nil)))
      (pss_cons (ps_if (pt_cmpR op_eq (pv 0) pe_str (nomark _)) (pss_one (ps_ret (pe_makeG MO hr (by rfl) pass0 (pa_cons (pv 1) pa_nil)))) pss_nil)
      (pss_cons (ps_if (pt_cmpR op_eq (pv 0) pe_str (nomark _)) (pss_one (ps_ret (pe_makeG MC hr (by rfl) pass0 (pa_cons (pv 1) pa_nil)))) pss_nil)
      (pss_one (ps_ret (pe_makeG MM hr (by rfl) pass0 (pa_cons (pv 1) pa_nil)))))), ?_⟩
    have fr : ∀ {x dx l c : Addr}, (upd (upd H dx (.own x)) x (.ins c dx [])) l = none → H l = none := fun e => free_upd (free_upd e)
    refine ⟨_, rfl, r, rfl, ?_⟩
    cases r with
    | old =>
      refine ⟨_, rfl, rfl, _, rfl, ?_⟩
      rw [dec_str, show (Rule.txt .old == ("old" : Str)) = true by kernel_rfl]
      refine iteT ⟨_, rfl, fun x dx hx hdx _ => ⟨x, dx, n, rfl, n0, n1, upd_same, fun l H' hl hob hls kp => ⟨rfl, ?_⟩⟩⟩
      refine q x [x, l] H' ⟨l, rfl, ⟨hob, hls⟩, rfl, rfl⟩ (fun y hy => ?_) (Kp.made hx hdx kp)
      simp only [List.mem_cons, List.not_mem_nil, or_false] at hy
      rcases hy with e | e <;> rw [e]
      · exact hx
      · exact fr hl
    | cold =>
      refine ⟨_, rfl, rfl, _, rfl, ?_⟩
      rw [dec_str, show (Rule.txt .cold == ("old" : Str)) = false by kernel_rfl]
      refine iteF ⟨_, rfl, rfl, _, rfl, ?_⟩
      rw [dec_str, show (Rule.txt .cold == ("cold" : Str)) = true by kernel_rfl]
      refine iteT ⟨_, rfl, fun x dx hx hdx _ => ⟨x, dx, n, rfl, n0, n1, upd_same, fun l H' hl hob hls kp => ⟨rfl, ?_⟩⟩⟩
      refine q x [x, l] H' ⟨l, rfl, ⟨hob, hls⟩, rfl, rfl⟩ (fun y hy => ?_) (Kp.made hx hdx kp)
      simp only [List.mem_cons, List.not_mem_nil, or_false] at hy
      rcases hy with e | e <;> rw [e]
      · exact hx
      · exact fr hl
    | marked =>
      refine ⟨_, rfl, rfl, _, rfl, ?_⟩
      rw [dec_str, show (Rule.txt .marked == ("old" : Str)) = false by kernel_rfl]
      refine iteF ⟨_, rfl, rfl, _, rfl, ?_⟩
      rw [dec_str, show (Rule.txt .marked == ("cold" : Str)) = false by kernel_rfl]
      refine iteF ⟨_, rfl, fun x dx hx hdx _ => ⟨x, dx, n, rfl, n0, n1, upd_same, fun l d H' hl hd hld hmk kp => ⟨rfl, ?_⟩⟩⟩
      refine q x [x, l, d] H' ⟨l, d, rfl, hmk⟩ (fun y hy => ?_) (Kp.made hx hdx kp)
      simp only [List.mem_cons, List.not_mem_nil, or_false] at hy
      rcases hy with e | e | e <;> rw [e]
      · exact hx
      · exact fr hl
      · exact fr hd
/-! ### Going -/
structure ClsG (K : PySem.W.Frag) (CG : Addr) : Prop where
  cl : Cls K CG
  nA : NoAttr K CG "were_met"
  nB : NoAttr K CG "went"
def gF (a b : Addr) : List (Str × V) := [("were_met", .ref a), ("went", .ref b)]
theorem gF_put (a b : Addr) : putF "went" (.ref b) (putF "were_met" (.ref a) []) = gF a b := by kernel_rfl
theorem gF_met (a b : Addr) : (gF a b).lookup ("were_met" : Str) = some (.ref a) := by kernel_rfl
theorem gF_went (a b : Addr) : (gF a b).lookup ("went" : Str) = some (.ref b) := by kernel_rfl
structure GoAt (CG : Addr) (H : Hp) (g a b : Addr) (xs ys : List V) : Prop where
  ob : ∃ dx, H g = some (.ins CG dx (gF a b))
  ha : H a = some (.lst xs)
  hb : H b = some (.lst ys)
  ne : a ≠ b
def spGoInit (tb CG : Addr) : Sp := fun vs H Q _ => ∃ (g dx a b : Addr) (xs ys : List V), vs = [.ref g, .ref a, .ref b] ∧ H g = some (.ins CG dx []) ∧ H a = some (.lst xs) ∧ H b = some (.lst ys) ∧
  ∀ (a' b' : Addr) (H' : Hp), H a' = none → H b' = none → GoAt CG H' g a' b' xs ys → Kp tb [g] H H' → Q .non H'
theorem sc_goinit : FnScope ["self", "were_met", "went"] ["self", "were_met", "went"] (defScope s_Going___init__) := ⟨rfl, rfl, rfl, by decide +kernel, rfl, by decide +kernel, by decide +kernel⟩
theorem ok_goinit {f : Addr} {fd : FuncData} {k0 : Nat} (F : FnP K "__init__" "Going.__init__" s_Going___init__ f fd) (T : ClsG K CG) (hl : mg "list" = none) : FnOk P w K mg base CX0 (k0 + 1) f fd ["self", "were_met", "went"] (spGoInit tb CG) := by
  refine ok0 F sc_goinit (fun vs H Q E h => ?_) (fun cdv A outer s H vs Q E hr h => ?_)
  · obtain ⟨g, dx, a, b, xs, ys, rfl, _⟩ := h
    rfl
  · obtain ⟨g, dx, a, b, xs, ys, rfl, hg, ha, hb, q⟩ := h
    have nga : g ≠ a := ne_of hg ha (by intro z; cases z)
    have ngb : g ≠ b := ne_of hg hb (by intro z; cases z)
    refine ⟨_, pss_cons (ps_fld (pv 0) (pe_callTy call_list_of (by rfl) hl (by decide +kernel) (pa_cons (pv 1) pa_nil)) rfl) (pss_one (ps_fld (pv 0) (pe_callTy call_list_of (by rfl) hl (by decide +kernel) (pa_cons (pv 2) pa_nil)) rfl)), ?_⟩
    refine ⟨_, rfl, a, xs, rfl, .inl (SqL.of ha), fun a' fa => ?_⟩
    have nga' : g ≠ a' := ne_of_none hg fa
    have nba' : b ≠ a' := ne_of_none hb fa
    refine ⟨_, rfl, g, CG, dx, [], rfl, Eq.trans (upd_ne nga') hg, T.cl, T.nA, (by show 0 < 1000; decide), ?_⟩
    refine ⟨_, rfl, b, ys, rfl, .inl (SqL.of (Eq.trans (upd_ne ngb.symm) (Eq.trans (upd_ne nba') hb))), fun b' fb => ?_⟩
    have fb0 : H b' = none := free_upd (free_upd fb)
    have ngb' : g ≠ b' := ne_of_none hg fb0
    have nab' : a' ≠ b' := fun e => by rw [← e, upd_ne nga'.symm, upd_same] at fb; cases fb
    refine ⟨_, rfl, g, CG, dx, _, rfl, Eq.trans (upd_ne ngb') upd_same, T.cl, T.nB, (by show 1 < 1000; decide), ?_⟩
    refine q a' b' _ fa fb0 ⟨⟨dx, by rw [upd_same, gF_put]⟩, by rw [upd_ne nga'.symm, upd_ne nab', upd_ne nga'.symm, upd_same], by rw [upd_ne ngb'.symm, upd_same], nab'⟩ ?_
    have k1 : Kp tb [g] H (upd H a' (.lst xs)) := Kp.new fa
    have k2 := k1.trans (Kp.put (o := .ins CG dx (putF "were_met" (.ref a') [])) (Eq.trans (upd_ne nga') hg))
    have k3 := k2.step (o := .lst ys) fb
    exact k3.trans (Kp.put (Eq.trans (upd_ne ngb') upd_same))
/-! ### going -/
def metV (ps : List (Bool × Option Str)) : List V := ps.map fun x => V.bl x.1
def wentV (ps : List (Bool × Option Str)) : List V := ps.map fun x => optV x.2
def spGoing (C : Rule → Addr) (CG : Addr) (tb : Addr) : Sp := fun vs H Q _ => ∃ (r : Rule) (n : Int) (a : Addr) (zs : List Str), vs = [.str r.txt, .int n, .ref a] ∧ 1 ≤ n ∧ n ≤ 20 ∧ H a = some (.lst (zs.map V.str)) ∧ zs.length ≤ 300 ∧ (∀ z ∈ zs, IsName z) ∧ GxR.TabG H tb ∧
  ∀ (g wm we : Addr) (H' : Hp), H g = none → H wm = none → H we = none → GoAt CG H' g wm we (metV (pairsR r n st0 zs)) (wentV (pairsR r n st0 zs)) → Kp tb [] H H' → Q (.ref g) H'
abbrev nGoing : List Str := ["rule", "places", "wishes", "shelf", "were_met", "went", "name", "met", "gone"]
theorem sc_going : FnScope nGoing ["rule", "places", "wishes"] (defScope s_going) := ⟨rfl, rfl, rfl, by decide +kernel, rfl, by decide +kernel, by decide +kernel⟩
theorem ok_going {f : Addr} {fd : FuncData} {k0 : Nat} (F : FnP K "going" "going" s_going f fd) (GS : Glob P w K mg base CX0 (k0 + 2) "shelf_of" ["rule", "places"] (spShelfOf C (tbOf K))) (GW : Glob P w K mg base CX0 (k0 + 2) "check_wishes" ["wishes"] (spCheckWishes K))
    (MW : ∀ r, MethOk P w K mg base CX0 (k0 + 2) (C r) "wish" ["self", "name"] (spWishR C (tbOf K) r)) (MG : MakeOk P w K mg base CX0 (k0 + 1) "Going" CG ["self", "were_met", "went"] (spGoInit (tbOf K) CG)) :
    FnOk P w K mg base CX0 (k0 + 3) f fd ["rule", "places", "wishes"] (spGoing C CG (tbOf K)) := by
  refine ok0 F sc_going (fun vs H Q E h => ?_) (fun cdv A outer s H vs Q E hr h => ?_)
  · obtain ⟨r, n, a, zs, rfl, _⟩ := h
    rfl
  · obtain ⟨r, n, a, zs, rfl, n0, n1, ha, hl, hn, tab, q⟩ := h
    refine ⟨_, pss_cons (ps_set (i := 3) sc_going.nd rfl (.inl rfl) (pe_callG GS hr (by rfl) pass0 (pa_cons (pv 0) (pa_cons (pv 1) pa_nil))))
      (pss_cons (ps_expr (pe_callG GW hr (by rfl) pass0 (pa_cons (pv 2) pa_nil)))
      (pss_cons (ps_set (i := 4) sc_going.nd rfl (.inl rfl) (pe_lst pa_nil))
      (pss_cons (ps_set (i := 5) sc_going.nd rfl (.inl rfl) (pe_lst pa_nil))
      (pss_cons (ps_for PassesOwn.never rfl (pi_list (pv 2)) (pg_name (i := 6) sc_going.nd rfl (Or.inl rfl))
        (pss_cons (ps_asg (pe_methG (pv 3) (MW r) hr pass0 (pa_cons (pv 6) pa_nil)) (pg_tup rfl (pgs_cons (pg_name (i := 7) sc_going.nd rfl (Or.inl rfl)) (pgs_cons (pg_name (i := 8) sc_going.nd rfl (Or.inl rfl)) pgs_nil))))
        (pss_cons (ps_expr (pe_bm PySem.F.plainAttrs_list PySem.F.slot_list_append PySem.F.type_list_append mt_append (pv 4) (pa_cons (pv 7) pa_nil)))
        (pss_one (ps_expr (pe_bm PySem.F.plainAttrs_list PySem.F.slot_list_append PySem.F.type_list_append mt_append (pv 5) (pa_cons (pv 8) pa_nil)))))))
      (pss_one (ps_ret (pe_makeG MG hr (by rfl) pass0 (pa_cons (pv 4) (pa_cons (pv 5) pa_nil))))))))), ?_⟩
    refine ⟨_, rfl, _, rfl, r, n, rfl, n0, n1, fun p S0 H1 sh1 hS0 k1 => ?_⟩
    refine ⟨_, rfl, a, zs, rfl, k1.get ha, hl, hn, k1.tab tab, fun H2 k2 => ?_⟩
    have sh2 := sh1.kp k2
    refine ⟨Nat.zero_le _, fun wm hwm => ?_⟩
    have k3 : Kp (tbOf K) [] H2 (upd H2 wm (.lst [])) := Kp.new hwm
    have g3 : (upd H2 wm (.lst [])) wm = some (.lst []) := upd_same
    have sh3 := sh2.kp k3
    have wmS : wm ∉ S0 := fun h => sh2.sh.2.1 _ h hwm
    generalize upd H2 wm (.lst []) = H3 at k3 g3 sh3 ⊢
    refine ⟨Nat.zero_le _, fun we hwe => ?_⟩
    have k4 : Kp (tbOf K) [] H3 (upd H3 we (.lst [])) := Kp.new hwe
    have g4 : (upd H3 we (.lst [])) we = some (.lst []) := upd_same
    have sh4 := sh3.kp k4
    have weS : we ∉ S0 := fun h => sh3.sh.2.1 _ h hwe
    have nwe : wm ≠ we := ne_of_none g3 hwe
    have g4m := k4.get g3
    have kAll : Kp (tbOf K) [] H (upd H3 we (.lst [])) := k1.trans (k2.trans (k3.trans k4))
    have fwm : H wm = none := k1.free _ (k2.free _ hwm)
    have fwe : H we = none := k1.free _ (k2.free _ (k3.free _ hwe))
    generalize upd H3 we (.lst []) = H4 at k4 g4 g4m sh4 kAll ⊢
    have okz : ∀ i, OkR n (endR r n st0 (zs.take i)) := fun i => endR_ok n0 (okR0 n0) fun z hz => hn z (List.mem_of_mem_take hz)
    refine ⟨_, rfl, a, rfl, ⟨_, SqL.of (kAll.get ha)⟩, ?_⟩
    refine for_it walk_list (fun i σ H' => ∃ (S : List Addr) (m k : Int) (v6 v7 v8 : Option V), σ = [some (.str r.txt), some (.int n), some (.ref a), some (.ref p), some (.ref wm), some (.ref we), v6, v7, v8] ∧
      ShR C r H' p n (endR r n st0 (zs.take i)) m k S ∧ (∀ x ∈ S, H x = none) ∧ wm ∉ S ∧ we ∉ S ∧ H' wm = some (.lst (metV (pairsR r n st0 (zs.take i)))) ∧ H' we = some (.lst (wentV (pairsR r n st0 (zs.take i)))) ∧ Kp (tbOf K) [] H H')
      ⟨S0, 0, 0, none, none, none, rfl, sh4, hS0, wmS, weS, g4m, g4, kAll⟩ (fun i σ H' _ ⟨_, _, _, _, _, _, _, _, _, _, _, _, _, kp⟩ => SqL.of (kp.get ha)) ?_ ?_
    · rintro i x σ H5 H6 hi ⟨S, m, k, v6, v7, v8, rfl, sh, hS, wS, eS, gm, gw, kp⟩ ⟨rfl, hx⟩
      obtain ⟨z, hz, rfl⟩ := get_mapS hx
      rw [List.length_map] at hi
      have hzn := hn z (List.mem_of_getElem? hz)
      have etake : zs.take (i + 1) = zs.take i ++ [z] := by rw [List.take_add_one, hz]; rfl
      obtain ⟨pS, aS, l, ext, shA, x1, _⟩ := sh.sh
      obtain ⟨dx, hp⟩ := shA.ob
      have hlen : (pairsR r n st0 (zs.take i)).length ≤ 300 := by rw [pairsR_len]; exact Nat.le_trans (List.length_take_le _ _) (by omega)
      refine ⟨_, rfl, p, dx, _, rfl, hp, by rw [oF_wish]; exact x1, _, rfl, ?_⟩
      refine ⟨p, n, m, k, _, z, S, rfl, sh, okz i, n0, n1, hzn, kp.tab tab, fun t S' H7 sh7 hS' tS' k7 ft et => ?_⟩
      rw [etake, pairsR_snoc, endR_snoc]
      generalize stepR r n (endR r n st0 (zs.take i)) z = st at *
      obtain ⟨met, gone, s'⟩ := st
      generalize pairsR r n st0 (zs.take i) = prs at *
      refine ⟨t, _, rfl, SqT.of et, rfl, _, _, rfl, _, _, rfl, rfl, ?_⟩
      have gm7 := k7.get gm rfl wS
      have gw7 := k7.get gw rfl eS
      refine ⟨_, rfl, .inl ⟨rfl, _, SqL.of gm7⟩, _, rfl, wm, _, _, rfl, rfl, gm7, by unfold metV; rw [List.length_map]; exact small_of (m := 300) hlen, ?_⟩
      have k8 : Kp (tbOf K) [wm] H7 (upd H7 wm (.lst (metV prs ++ [.bl met]))) := Kp.put gm7
      have gm8 : (upd H7 wm (.lst (metV prs ++ [.bl met]))) wm = some (.lst (metV (prs ++ [(met, gone)]))) := by rw [upd_same]; unfold metV; rw [List.map_append]; rfl
      have gw8 := k8.get gw7 rfl (by simp [nwe.symm])
      have wS' : wm ∉ S' := fun h => (hS' _ h).elim wS (fun e => by rw [gm] at e; cases e)
      have eS' : we ∉ S' := fun h => (hS' _ h).elim eS (fun e => by rw [gw] at e; cases e)
      have sh8 := sh7.kp k8 (fun x hx h => wS' (by rw [← List.mem_singleton.mp h]; exact hx))
      generalize upd H7 wm (.lst (metV prs ++ [.bl met])) = H8 at k8 gm8 gw8 sh8 ⊢
      refine ⟨_, rfl, .inl ⟨rfl, _, SqL.of gw8⟩, _, rfl, we, _, _, rfl, rfl, gw8, by unfold wentV; rw [List.length_map]; exact small_of (m := 300) hlen, ?_⟩
      have k9 : Kp (tbOf K) [we] H8 (upd H8 we (.lst (wentV prs ++ [optV gone]))) := Kp.put gw8
      refine ⟨S', _, _, _, _, _, rfl, sh8.kp k9 (fun x hx h => eS' (by rw [← List.mem_singleton.mp h]; exact hx)), fun x hx => (hS' x hx).elim (hS x) (fun e => kp.free _ e), wS', eS', k9.get gm8 rfl (by simp [nwe]), by rw [upd_same]; unfold wentV; rw [List.map_append]; rfl, ?_⟩
      exact ((kp.transN k7 hS).transN k8 (fun x hx => by rw [List.mem_singleton.mp hx]; exact fwm)).transN k9 (fun x hx => by rw [List.mem_singleton.mp hx]; exact fwe)
    · rintro σ H5 ⟨S, m, k, v6, v7, v8, rfl, sh, hS, wS, eS, gm, gw, kp⟩
      rw [List.length_map, List.take_of_length_le (Nat.le_refl _)] at gm gw
      refine ⟨_, rfl, _, rfl, fun g dg hg hdg _ => ⟨g, dg, wm, we, metV (pairsR r n st0 zs), wentV (pairsR r n st0 zs), rfl, upd_same, ?_, ?_, fun a' b' H6 fa fb go kp6 => ⟨rfl, ?_⟩⟩⟩
      · rw [upd_ne (ne_of_none gm hg), upd_ne (ne_of_none gm hdg)]
        exact gm
      · rw [upd_ne (ne_of_none gw hg), upd_ne (ne_of_none gw hdg)]
        exact gw
      · exact q g a' b' H6 (kp.free _ hg) (kp.free _ (free_upd (free_upd fa))) (kp.free _ (free_upd (free_upd fb))) go (kp.trans (Kp.made hg hdg kp6))
/-! ### missed_in -/
def spMissed (CG : Addr) : Sp := fun vs H Q _ => ∃ (g a b : Addr) (ts : List Bool) (ys : List V), vs = [.ref g] ∧ GoAt CG H g a b (ts.map V.bl) ys ∧ Q (.int (ts.count false : Nat)) H
theorem sc_missedin : FnScope ["found"] ["found"] (defScope s_missed_in) := ⟨rfl, rfl, rfl, by decide +kernel, rfl, by decide +kernel, by decide +kernel⟩
theorem ok_missedin {f : Addr} {fd : FuncData} {k0 : Nat} (F : FnP K "missed_in" "missed_in" s_missed_in f fd) (T : ClsG K CG) : FnOk P w K mg base CX0 (k0 + 1) f fd ["found"] (spMissed CG) := by
  refine ok0 F sc_missedin (fun vs H Q E h => ?_) (fun cdv A outer s H vs Q E hr h => ?_)
  · obtain ⟨g, a, b, ts, ys, rfl, _⟩ := h
    rfl
  · obtain ⟨g, a, b, ts, ys, rfl, G, q⟩ := h
    obtain ⟨dx, hg⟩ := G.ob
    refine ⟨_, pss_one (ps_ret (pe_bm PySem.F.plainAttrs_list PySem.F.slot_list_count PySem.F.type_list_count mt_countF (pe_fld (pv 0) rfl) (pa_cons pe_bl pa_nil))), ?_⟩
    refine ⟨_, rfl, g, CG, dx, _, _, rfl, hg, T.cl, T.nA, gF_met .., .inl ⟨rfl, _, SqL.of G.ha⟩, a, _, _, rfl, rfl, SqL.of G.ha, rfl, flat_bls ts, ?_⟩
    rw [count_bl]
    exact q
end
end Kf

namespace Kf
open PySem PySem.Spec PyProof.Rows L2
def pairV (x : Bool × Option Str) : List V := [.bl x.1, optV x.2]
/-- tuples of a truth and a name or None, in this order -/
def PairsAt (H : Hp) : List Addr → List (Bool × Option Str) → Prop
  | [], [] => True
  | t :: ts, x :: xs => H t = some (.tup (pairV x)) ∧ PairsAt H ts xs
  | _, _ => False
theorem PairsAt.snoc {H : Hp} {t : Addr} {x : Bool × Option Str} (h : H t = some (.tup (pairV x))) : ∀ {ts : List Addr} {xs : List (Bool × Option Str)}, PairsAt H ts xs → PairsAt H (ts ++ [t]) (xs ++ [x])
  | [], [], _ => ⟨h, trivial⟩
  | _ :: _, _ :: _, ⟨a, b⟩ => ⟨a, PairsAt.snoc h b⟩
  | [], _ :: _, q => q.elim
  | _ :: _, [], q => q.elim
theorem PairsAt.imp {H H' : Hp} (h : ∀ t x, H t = some (.tup (pairV x)) → H' t = some (.tup (pairV x))) : ∀ {ts : List Addr} {xs : List (Bool × Option Str)}, PairsAt H ts xs → PairsAt H' ts xs
  | [], [], _ => trivial
  | _ :: _, _ :: _, ⟨a, b⟩ => ⟨h _ _ a, PairsAt.imp h b⟩
  | [], _ :: _, q => q.elim
  | _ :: _, [], q => q.elim
theorem PairsAt.len {H : Hp} : ∀ {ts : List Addr} {xs : List (Bool × Option Str)}, PairsAt H ts xs → ts.length = xs.length
  | [], [], _ => rfl
  | _ :: _, _ :: _, ⟨_, b⟩ => congrArg (· + 1) (PairsAt.len b)
  | [], _ :: _, q => q.elim
  | _ :: _, [], q => q.elim
theorem PairsAt.get {H : Hp} : ∀ {ts : List Addr} {xs : List (Bool × Option Str)} {i : Nat} {y : V}, PairsAt H ts xs → (ts.map V.ref)[i]? = some y → ∃ t x, y = .ref t ∧ xs[i]? = some x ∧ H t = some (.tup (pairV x))
  | [], [], i, y, _, h => by simp at h
  | t :: ts, x :: xs, 0, y, ⟨a, b⟩, h => ⟨t, x, (Option.some.inj h).symm, rfl, a⟩
  | t :: ts, x :: xs, i + 1, y, ⟨a, b⟩, h => PairsAt.get (i := i) b h
  | [], _ :: _, _, _, q, _ => q.elim
  | _ :: _, [], _, _, q, _ => q.elim
/-- no tuple stands at these -/
def NoTup (H : Hp) (S : List Addr) : Prop := ∀ x ∈ S, ∀ vs, H x ≠ some (.tup vs)
theorem PairsAt.kp {H H' : Hp} {tb : Addr} {S : List Addr} (k : Kp tb S H H') (n : NoTup H S) {ts : List Addr} {xs : List (Bool × Option Str)} (h : PairsAt H ts xs) : PairsAt H' ts xs := h.imp fun t x e => k.get e rfl fun hm => n t hm _ e
theorem noTup_nil {H : Hp} : NoTup H [] := fun _ h => absurd h (by simp)
theorem NoTup.cons {H : Hp} {x : Addr} {o : HO} {S : List Addr} (e : H x = some o) (n : ∀ vs, o ≠ .tup vs) (h : NoTup H S) : NoTup H (x :: S) := fun y hy vs q => by
  rcases List.mem_cons.mp hy with z | z
  · rw [z, e] at q
    exact n vs (Option.some.inj q)
  · exact h y z vs q
end Kf

namespace Kf
open PySem PySem.Spec PyProof.Rows L2
/-- isinstance's facts of a class -/
structure InsT (K : PySem.W.Frag) (C : Addr) : Prop where
  ha : PySem.W.findIn K (.ref C) "__class__" = some (some (.builtin "object.__class__"))
  hn : PySem.W.specialIn K (.builtin "object.__class__") "__get__" = some (some (.builtin "getset_descriptor.__get__"))
  htk : PySem.W.takesIn K (.builtin "object.__class__") = some true
  hm : PySem.W.mroIn K C (.type "object") = some true
theorem kit2 {K : PySem.W.Frag} {t c1 c2 : Value} (h1 : PySem.W.kitOne K t c1 = some false) (h2 : PySem.W.kitOne K t c2 = some false) : PySem.W.kitAny K t [c1, c2] = some false :=
  kitAny_cons (b := false) h1 (fun _ => kitAny_cons (b := false) h2 (fun _ => kitAny_nil) (fun z => nomatch z)) (fun z => nomatch z)

theorem boot_isi : bootBuiltins ("isinstance" : Str) = some (.builtin "isinstance") := by decide +kernel
theorem ix_tupK {X : Cx} {K : PySem.W.Frag} (h : X.K = K) : IxR X (rIxT K) := by
  subst h
  exact ix_tup
theorem call_isiK {X : Cx} {K : PySem.W.Frag} (h : X.K = K) : CallR X (.builtin "isinstance") (rIsi K) := by
  subst h
  exact call_isi
/-! ### lists that are equal to themselves -/
theorem selfL : ∀ {ds : List PyData}, (∀ d ∈ ds, PyData.canLay0 d = true ∧ d.depth ≤ 63 ∧ PyData.eqv d d = true) → PyData.canLayAll0 ds = true ∧ PyData.depthAll ds ≤ 63 ∧ PyData.eqvAll ds ds = true
  | [], _ => ⟨rfl, Nat.zero_le _, rfl⟩
  | d :: r, h => by
    obtain ⟨a, b, c⟩ := h d List.mem_cons_self
    obtain ⟨a2, b2, c2⟩ := selfL (ds := r) fun y hy => h y (List.mem_cons_of_mem _ hy)
    refine ⟨?_, ?_, ?_⟩
    · show (PyData.canLay0 d && PyData.canLayAll0 r) = true
      rw [a, a2]; rfl
    · show max (PyData.depth d) (PyData.depthAll r) ≤ 63
      omega
    · show (PyData.eqv d d && PyData.eqvAll r r) = true
      rw [c, c2]; rfl
theorem selfD {ds : List PyData} (h : ∀ d ∈ ds, PyData.canLay0 d = true ∧ d.depth ≤ 63 ∧ PyData.eqv d d = true) : SeqAt.shaped (.list ds) = true ∧ PyData.eqv (.list ds) (.list ds) = true := by
  obtain ⟨a, b, c⟩ := selfL h
  refine ⟨?_, c⟩
  unfold SeqAt.shaped
  rw [Bool.and_eq_true]
  refine ⟨a, decide_eq_true ?_⟩
  show PyData.depthAll ds + 1 ≤ 64
  omega
theorem dpAll_map {α : Type} {K : PySem.W.Frag} {H : Hp} {f : α → V} {g : α → PyData} : ∀ {xs : List α}, (∀ x ∈ xs, Dp K H (f x) (g x)) → DpAll K H (xs.map f) (xs.map g)
  | [], _ => .nil
  | x :: r, h => .cons (h x List.mem_cons_self) (dpAll_map (xs := r) fun y hy => h y (List.mem_cons_of_mem _ hy))
theorem bool_self (b : Bool) : PyData.canLay0 (.bool b) = true ∧ PyData.depth (.bool b) ≤ 63 ∧ PyData.eqv (.bool b) (.bool b) = true := ⟨rfl, Nat.zero_le _, by show (b == b) = true; simp⟩
theorem opt_self {g : Option Str} (h : ∀ z, g = some z → PyData.strOk z = true) : PyData.canLay0 (optD g) = true ∧ PyData.depth (optD g) ≤ 63 ∧ PyData.eqv (optD g) (optD g) = true := by
  cases g with
  | none => exact ⟨rfl, Nat.zero_le _, rfl⟩
  | some z => exact ⟨h z rfl, Nat.zero_le _, by show (z == z) = true; simp⟩
theorem pair_self {b : Bool} {g : Option Str} (h : ∀ z, g = some z → PyData.strOk z = true) : PyData.canLay0 (pairD b g) = true ∧ PyData.depth (pairD b g) ≤ 63 ∧ PyData.eqv (pairD b g) (pairD b g) = true := by
  have s := sh_pair (b := b) h
  unfold SeqAt.shaped at s
  rw [Bool.and_eq_true] at s
  refine ⟨s.1, ?_, eqv_pair b g⟩
  cases g <;> exact (by decide : 1 ≤ 63)
/-- the going's names, all names -/
def GoneOk (ps : List (Bool × Option Str)) : Prop := ∀ x ∈ ps, ∀ g, x.2 = some g → IsName g
theorem met_self (ps : List (Bool × Option Str)) : SeqAt.shaped (.list (ps.map fun x => PyData.bool x.1)) = true ∧ PyData.eqv (.list (ps.map fun x => PyData.bool x.1)) (.list (ps.map fun x => PyData.bool x.1)) = true := selfD fun d hd => by
  obtain ⟨x, _, rfl⟩ := List.mem_map.mp hd
  exact bool_self _
theorem went_self {ps : List (Bool × Option Str)} (h : GoneOk ps) : SeqAt.shaped (.list (ps.map fun x => optD x.2)) = true ∧ PyData.eqv (.list (ps.map fun x => optD x.2)) (.list (ps.map fun x => optD x.2)) = true := selfD fun d hd => by
  obtain ⟨x, hx, rfl⟩ := List.mem_map.mp hd
  exact opt_self fun z hz => isName_ok (h x hx z hz)
theorem dp_met {K : PySem.W.Frag} {H : Hp} {a : Addr} {ps : List (Bool × Option Str)} (h : SqL K H a (metV ps)) : Dp K H (.ref a) (.list (ps.map fun x => PyData.bool x.1)) := .lst h (dpAll_map fun x _ => .bl x.1)
theorem dp_went {K : PySem.W.Frag} {H : Hp} {a : Addr} {ps : List (Bool × Option Str)} (h : SqL K H a (wentV ps)) : Dp K H (.ref a) (.list (ps.map fun x => optD x.2)) := .lst h (dpAll_map fun x _ => dp_opt x.2)
end Kf

namespace Kf
open PySem PySem.Spec PyProof.Rows L2
def ownM (lo lm : Addr) (rd : Int) : List (Key × V) := [(Sum.inr "order", .ref lo), (Sum.inr "marks", .ref lm), (Sum.inr "rounds", .int rd)]
theorem ownM_o (lo lm : Addr) (rd : Int) : valV (ownM lo lm rd) (Sum.inr "order") = some (.ref lo) := by kernel_rfl
theorem ownM_m (lo lm : Addr) (rd : Int) : valV (ownM lo lm rd) (Sum.inr "marks") = some (.ref lm) := by kernel_rfl
theorem ownM_r (lo lm : Addr) (rd : Int) : valV (ownM lo lm rd) (Sum.inr "rounds") = some (.int rd) := by kernel_rfl
theorem ownM_putm (lo lm lm' : Addr) (rd : Int) : putK (ownM lo lm rd) (Sum.inr "marks" : Key) (.ref lm') = ownM lo lm' rd := by kernel_rfl
theorem ownM_putr (lo lm : Addr) (rd rd' : Int) : putK (ownM lo lm rd) (Sum.inr "rounds" : Key) (.int rd') = ownM lo lm rd' := by kernel_rfl
theorem dgO {H : Hp} {d lo lm : Addr} {rd : Int} (e : H d = some (.dK (ownM lo lm rd))) : DGet H d (.str "order") (some (.ref lo)) := by
  rw [← ownM_o lo lm rd]
  exact DGet.k (k := Sum.inr "order") e
theorem dgM {H : Hp} {d lo lm : Addr} {rd : Int} (e : H d = some (.dK (ownM lo lm rd))) : DGet H d (.str "marks") (some (.ref lm)) := by
  rw [← ownM_m lo lm rd]
  exact DGet.k (k := Sum.inr "marks") e
theorem dgR {H : Hp} {d lo lm : Addr} {rd : Int} (e : H d = some (.dK (ownM lo lm rd))) : DGet H d (.str "rounds") (some (.int rd)) := by
  rw [← ownM_r lo lm rd]
  exact DGet.k (k := Sum.inr "rounds") e
theorem filter_eraseM {z : Str} {row : List Str} (h : row.Nodup) : row.filter (fun y => decide (y ≠ z)) = row.erase z := by
  rw [h.erase_eq_filter]
  refine List.filter_congr fun x _ => ?_
  by_cases e : x = z
  · rw [e]; simp
  · rw [decide_eq_true e]; simp [e]
theorem perm_addM {lw marks : List Str} {z : Str} (hp : lw.Perm marks) (hn : marks.Nodup) : (lw.filter (fun y => decide (y ≠ z)) ++ [z]).Perm (addM marks z) := by
  unfold addM
  by_cases h : z ∈ marks
  · rw [if_pos h]
    refine ((hp.filter _).append_right [z]).trans ?_
    rw [filter_eraseM hn]
    exact (List.perm_append_singleton z _).trans (List.perm_cons_erase h).symm
  · rw [if_neg h]
    refine ((hp.filter _).append_right [z]).trans ?_
    rw [show marks.filter (fun y => decide (y ≠ z)) = marks from List.filter_eq_self.mpr fun y hy => decide_eq_true fun q => h (by rw [← q]; exact hy)]
theorem nd_perm {xs ys : List Str} (hx : xs.Nodup) (hy : ys.Nodup) (h : ∀ z, z ∈ xs ↔ z ∈ ys) : xs.Perm ys := List.perm_iff_count.mpr fun a => by
  rw [hx.count, hy.count]
  by_cases e : a ∈ xs
  · rw [if_pos e, if_pos ((h a).mp e)]
  · rw [if_neg e, if_neg fun q => e ((h a).mpr q)]
theorem full_iff {n : Int} {row marks lw : List Str} (ok : MkOk n row marks) (hp : lw.Perm marks) : sortS row = sortS lw ↔ marks.length = row.length := by
  constructor
  · intro e
    have p1 := (sortS_perm row).symm.trans (e ▸ sortS_perm lw)
    rw [p1.length_eq, hp.length_eq]
  · intro e
    refine sortS_of_perm (List.Perm.trans (nd_perm ok.nd ok.md fun z => ⟨fun hz => ?_, ok.sub z⟩) hp.symm)
    by_cases q : z ∈ marks
    · exact q
    · have := subset_len (xs := z :: marks) (ys := row) (List.nodup_cons.mpr ⟨q, ok.md⟩) fun y hy => (List.mem_cons.mp hy).elim (fun w => by rw [w]; exact hz) (ok.sub y)
      rw [List.length_cons] at this
      omega
theorem filter_permM {row lw marks : List Str} (hp : lw.Perm marks) : row.filter (fun y => decide (y ∉ lw)) = row.filter (fun y => decide (y ∉ marks)) := List.filter_congr fun y _ => decide_eq_decide.mpr (not_congr hp.mem_iff)
section
variable {P : Program} {w : World} {K : PySem.W.Frag} {mg : Str → Option Value} {base : Heap} {tb : Addr}
/-! ### _law_marked -/
def spLMarked (tb : Addr) : Sp := fun vs H Q _ => ∃ (d lo lm : Addr) (z : Str) (n rd : Int) (row marks lw : List Str), vs = [.ref d, .str z, .int n] ∧ H d = some (.dK (ownM lo lm rd)) ∧ H lo = some (.lst (row.map V.str)) ∧ H lm = some (.lst (lw.map V.str)) ∧ lo ≠ lm ∧ lw.Perm marks ∧ MkOk n row marks ∧ 1 ≤ n ∧ n ≤ 20 ∧
  ∀ (t lm' : Addr) (H' : Hp) (lw' : List Str), H t = none → H lm' = none → t ≠ lm' → H' t = some (.tup [.bl (stepM n row marks rd z).1, optV (stepM n row marks rd z).2.1]) → H' d = some (.dK (ownM lo lm' (stepM n row marks rd z).2.2.2.2)) → H' lo = some (.lst ((stepM n row marks rd z).2.2.1.map V.str)) →
    H' lm' = some (.lst (lw'.map V.str)) → lw'.Perm (stepM n row marks rd z).2.2.2.1 → Kp tb [d, lo] H H' → Q (.ref t) H'
abbrev nLM : List Str := ["_law_own", "_law_name", "_law_places_here", "_law_met", "_law_gone", "_law_one"]
theorem sc_lmk : FnScope nLM ["_law_own", "_law_name", "_law_places_here"] (defScope s__law_marked) := ⟨rfl, rfl, rfl, by decide +kernel, rfl, by decide +kernel, by decide +kernel⟩
theorem ok_lmarked {f : Addr} {fd : FuncData} {k0 : Nat} (F : FnP K "_law_marked" "_law_marked" s__law_marked f fd) (hlen : mg "len" = none) (hsorted : mg "sorted" = none) (hmin : mg "min" = none) : FnOk P w K mg base CX0 (k0 + 1) f fd ["_law_own", "_law_name", "_law_places_here"] (spLMarked tb) := by
  refine ok0 F sc_lmk (fun vs H Q E h => ?_) (fun cdv A outer s H vs Q E hr h => ?_)
  · obtain ⟨d, lo, lm, z, n, rd, row, marks, lw, rfl, _⟩ := h
    rfl
  · obtain ⟨d, lo, lm, z, n, rd, row, marks, lw, rfl, hd, hlo, hlm, nlm, hperm, ok, n0, n1, q⟩ := h
    have hu := hu_of hr
    have ndl : d ≠ lo := ne_of hd hlo (by intro z; cases z)
    have ndm : d ≠ lm := ne_of hd hlm (by intro z; cases z)
    have hrow := ok.le
    have hlw : lw.length ≤ row.length := by rw [hperm.length_eq]; exact subset_len ok.md ok.sub
    refine ⟨_, pss_cons (ps_set (i := 3) sc_lmk.nd rfl (.inl rfl) (pe_cmpR op_in_seq (pv 1) (pe_dget hu (pv 0) pe_str (fun _ _ => rfl)) (by with_unfolding_all rfl)))
      (pss_cons (ps_set (i := 4) sc_lmk.nd rfl (.inl rfl) pe_non)
      (C8.pss_cut (ps_if (PW.pt (pw_and (pt_not (pt_val (pv 3))) (pw_and1 (pt_cmpR op_eq (pe_callB call_len_seq (by rfl) hlen PySem.boot_len (pa_cons (pe_dget hu (pv 0) pe_str (fun _ _ => rfl)) pa_nil)) (pv 2) (nomark _)))))
          (C8.pss_cut (ps_if (pt_cmpR (op_eqS hr.units) (pe_callB cr_sortS (by rfl) hsorted (by decide +kernel) (pa_cons (pe_dget hu (pv 0) pe_str (fun _ _ => rfl)) pa_nil)) (pe_callB cr_sortS (by rfl) hsorted (by decide +kernel) (pa_cons (pe_dget hu (pv 0) pe_str (fun _ _ => rfl)) pa_nil)) (nomark _))
              (pss_cons (ps_dput hu (pv 0) pe_str (pe_lst pa_nil) rfl) (pss_one (ps_dput hu (pv 0) pe_str (pe_op op_add (pe_dget hu (pv 0) pe_str (fun _ _ => rfl)) pe_int) rfl))) pss_nil)
          (pss_cons (ps_set (i := 4) sc_lmk.nd rfl (.inl rfl) (pe_callB (cr_minS rfl) (by rfl) hmin (by decide +kernel) (pa_cons (pe_lc (own := [("_law_one", 5)]) (g := gName 5) (tt := tTest (tOp (rIn K true) (tVar 5) (tDGet (tVar 0) (tC (.str "marks"))))) rfl sc_lmk.nd (pi_list (pe_dget hu (pv 0) pe_str (fun _ _ => rfl))) (blkOk_by (N := nLM) (sc := defScope s__law_marked) (by decide +kernel))
                (fun _ _ _ _ _ => pg_name (i := 5) sc_lmk.nd rfl (Or.inl rfl)) (fun _ _ _ _ _ => pts_one (pt_cmpR op_notIn_seq (pv 5) (pe_dget hu (pv 0) pe_str (fun _ _ => rfl)) (by with_unfolding_all rfl))) (fun _ _ _ _ _ => pv 5)) pa_nil)))
          (pss_one (ps_expr (pe_bm PySem.F.plainAttrs_list PySem.F.slot_list_remove PySem.F.type_list_remove mt_removeS (pe_dget hu (pv 0) pe_str (fun _ _ => rfl)) (pa_cons (pv 4) pa_nil)))))) pss_nil)
      (C8.pss_cut (ps_if (pt_not (pt_val (pv 3))) (pss_one (ps_expr (pe_bm PySem.F.plainAttrs_list PySem.F.slot_list_append PySem.F.type_list_append mt_append (pe_dget hu (pv 0) pe_str (fun _ _ => rfl)) (pa_cons (pv 1) pa_nil)))) pss_nil)
      (pss_cons (ps_dput hu (pv 0) pe_str (pe_op op_cat (pe_lc (own := [("_law_one", 5)]) (g := gName 5) (tt := tTest (tOp rNe (tVar 5) (tVar 1))) rfl sc_lmk.nd (pi_list (pe_dget hu (pv 0) pe_str (fun _ _ => rfl))) (blkOk_by (N := nLM) (sc := defScope s__law_marked) (by decide +kernel))
            (fun _ _ _ _ _ => pg_name (i := 5) sc_lmk.nd rfl (Or.inl rfl)) (fun _ _ _ _ _ => pts_one (pt_cmpR op_ne (pv 5) (pv 1) (nomark _))) (fun _ _ _ _ _ => pv 5)) (pe_lst (pa_cons (pv 1) pa_nil))) rfl)
      (pss_one (ps_ret (pe_tup (pa_cons (pv 3) (pa_cons (pv 4) pa_nil))))))))), ?_⟩
    refine ⟨_, rfl, _, rfl, d, _, rfl, dgO hd, lo, _, rfl, .inl (SqL.of hlo), rfl, flat_strs row, ?_⟩
    rw [inV_str]
    -- behind the first if
    refine ⟨fun σ H2 => ∃ (row2 marks2 lw2 : List Str) (gone : Option Str) (rd2 : Int) (lm2 : Addr), σ = [some (.ref d), some (.str z), some (.int n), some (.bl (decide (z ∈ row))), some (optV gone), none] ∧ H2 d = some (.dK (ownM lo lm2 rd2)) ∧ H2 lo = some (.lst (row2.map V.str)) ∧ H2 lm2 = some (.lst (lw2.map V.str)) ∧
      lo ≠ lm2 ∧ lw2.Perm marks2 ∧ marks2.Nodup ∧ row2.length ≤ 20 ∧ lw2.length ≤ 20 ∧ Kp tb [d, lo] H H2 ∧ stepM n row marks rd z = (decide (z ∈ row), gone, (if z ∈ row then row2 else row2 ++ [z]), addM marks2 z, rd2), ?_, ?_⟩
    · refine ⟨_, rfl, _, rfl, ?_⟩
      by_cases hin : z ∈ row
      · rw [decide_eq_true hin]
        refine iteF (iteF ⟨row, marks, lw, none, rd, lm, rfl, hd, hlo, hlm, nlm, hperm, ok.md, by omega, by omega, Kp.refl _, ?_⟩)
        unfold stepM
        rw [if_pos hin, if_pos hin]
      · rw [decide_eq_false hin]
        refine iteT ⟨_, rfl, d, _, rfl, dgO hd, lo, _, rfl, .inl (SqL.of hlo), _, rfl, rfl, _, rfl, ?_⟩
        rw [List.length_map, dec_int]
        by_cases heq : (row.length : Int) = n
        · rw [beq_iff_eq.mpr heq]
          have hne : row ≠ [] := fun e => by rw [e] at heq; simp at heq; omega
          refine iteT ?_
          -- behind the round's end
          refine ⟨fun σ H2 => ∃ (marks2 lw2 : List Str) (rd2 : Int) (lm2 : Addr), σ = [some (.ref d), some (.str z), some (.int n), some (.bl false), some .non, none] ∧ H2 d = some (.dK (ownM lo lm2 rd2)) ∧ H2 lo = some (.lst (row.map V.str)) ∧ H2 lm2 = some (.lst (lw2.map V.str)) ∧
            lo ≠ lm2 ∧ lw2.Perm marks2 ∧ marks2.Nodup ∧ lw2.length ≤ 20 ∧ Kp tb [d, lo] H H2 ∧ row.filter (fun y => decide (y ∉ marks2)) ≠ [] ∧ pickM row marks rd = (minS (row.filter fun y => decide (y ∉ marks2)), marks2, rd2), ?_, ?_⟩
          · refine ⟨_, rfl, d, _, rfl, dgO hd, lo, row, rfl, SqL.of hlo, by omega, fun e1 he1 => ?_⟩
            have k1 : Kp tb [d, lo] H (upd H e1 (.lst ((sortS row).map V.str))) := Kp.new he1
            have g1 : (upd H e1 (.lst ((sortS row).map V.str))) e1 = some (.lst ((sortS row).map V.str)) := upd_same
            have hd1 := (Kp.new (tb := tb) (S := []) (o := .lst ((sortS row).map V.str)) he1).get hd
            have hlo1 := (Kp.new (tb := tb) (S := []) (o := .lst ((sortS row).map V.str)) he1).get hlo
            have hlm1 := (Kp.new (tb := tb) (S := []) (o := .lst ((sortS row).map V.str)) he1).get hlm
            generalize upd H e1 (.lst ((sortS row).map V.str)) = H1 at k1 g1 hd1 hlo1 hlm1 ⊢
            refine ⟨_, rfl, d, _, rfl, dgM hd1, lm, lw, rfl, SqL.of hlm1, by omega, fun e2 he2 => ?_⟩
            have k2 : Kp tb [] H1 (upd H1 e2 (.lst ((sortS lw).map V.str))) := Kp.new he2
            have g2 : (upd H1 e2 (.lst ((sortS lw).map V.str))) e2 = some (.lst ((sortS lw).map V.str)) := upd_same
            generalize upd H1 e2 (.lst ((sortS lw).map V.str)) = H2 at k2 g2 ⊢
            have okr : OkS (sortS row) := fun y hy => isName_ok (ok.nm y ((sortS_perm row).mem_iff.mp hy))
            have okw : OkS (sortS lw) := fun y hy => isName_ok (ok.nm y (ok.sub y (hperm.mem_iff.mp ((sortS_perm lw).mem_iff.mp hy))))
            refine ⟨e1, e2, sortS row, sortS lw, rfl, rfl, SqL.of (k2.get g1), SqL.of g2, okr, okw, _, rfl, ?_⟩
            have hd2 := k2.get hd1
            have hlo2 := k2.get hlo1
            have hlm2 := k2.get hlm1
            have k12 : Kp tb [d, lo] H H2 := k1.trans k2.nil
            by_cases hf : marks.length = row.length
            · rw [decide_eq_true ((full_iff ok hperm).mpr hf)]
              refine iteT ?_
              refine ⟨Nat.zero_le _, fun lm' hlm' => ?_⟩
              have k3 : Kp tb [] H2 (upd H2 lm' (.lst [])) := Kp.new hlm'
              have g3 : (upd H2 lm' (.lst [])) lm' = some (.lst []) := upd_same
              have nlm' : lo ≠ lm' := ne_of_none hlo2 hlm'
              have ndm' : d ≠ lm' := ne_of_none hd2 hlm'
              generalize upd H2 lm' (.lst []) = H3 at k3 g3 ⊢
              have hd3 := k3.get hd2
              refine ⟨_, rfl, d, _, rfl, DPut.k (k := Sum.inr "marks") hd3 (by show 3 < sizeLine; decide), ?_⟩
              rw [ownM_putm]
              have k4 : Kp tb [d, lo] H3 (upd H3 d (.dK (ownM lo lm' rd))) := Kp.put hd3
              have g4 : (upd H3 d (.dK (ownM lo lm' rd))) d = some (.dK (ownM lo lm' rd)) := upd_same
              have g4l : (upd H3 d (.dK (ownM lo lm' rd))) lm' = some (.lst []) := by rw [upd_ne ndm'.symm]; exact g3
              have g4o : (upd H3 d (.dK (ownM lo lm' rd))) lo = some (.lst (row.map V.str)) := by rw [upd_ne ndl.symm]; exact k3.get hlo2
              generalize upd H3 d (.dK (ownM lo lm' rd)) = H4 at k4 g4 g4l g4o ⊢
              refine ⟨_, rfl, d, _, rfl, dgR g4, _, _, rfl, rfl, ?_⟩
              refine ⟨_, rfl, d, _, rfl, DPut.k (k := Sum.inr "rounds") g4 (by show 3 < sizeLine; decide), ?_⟩
              rw [ownM_putr]
              have hfull : row.filter (fun y => decide (y ∉ ([] : List Str))) = row := List.filter_eq_self.mpr fun y _ => by simp
              refine ⟨[], [], rd + 1, lm', rfl, upd_same, by rw [upd_ne ndl.symm]; exact g4o, by rw [upd_ne ndm'.symm]; exact g4l, nlm', List.Perm.refl _, List.nodup_nil, by simp, ((k12.trans k3.nil).trans k4).trans (Kp.put g4), by rw [hfull]; exact hne, ?_⟩
              unfold pickM
              rw [if_pos hf, hfull]
            · rw [decide_eq_false (fun z => hf ((full_iff ok hperm).mp z))]
              refine iteF ⟨marks, lw, rd, lm, rfl, hd2, hlo2, hlm2, nlm, hperm, ok.md, by omega, k12, ok.fl hf, ?_⟩
              unfold pickM
              rw [if_neg hf]
          · rintro σ H2 ⟨marks2, lw2, rd2, lm2, rfl, hd2, hlo2, hlm2, nlm2, hp2, hnd2, h20, k2, hne2, epick⟩
            refine ⟨_, rfl, d, _, rfl, dgO hd2, lo, rfl, ⟨_, SqL.of hlo2⟩, fun D hD => ?_⟩
            refine lc_it walk_list (LcI tb H2 D (fun i acc => acc = ((row.take i).filter (fun y => decide (y ∉ lw2))).map V.str)) (LcI.start hD rfl) (fun i H' _ ⟨_, _, kp, _⟩ => SqL.of (kp.get hlo2)) ?_ ?_
            · rintro i x H3 H4 hi ⟨acc, rfl, kp, hD3⟩ ⟨rfl, hx⟩
              obtain ⟨y, hy, rfl⟩ := get_mapS hx
              rw [List.length_map] at hi
              have etake : row.take (i + 1) = row.take i ++ [y] := by rw [List.take_add_one, hy]; rfl
              refine ⟨rfl, _, rfl, _, rfl, d, _, rfl, dgM (kp.get hd2), lm2, _, rfl, .inl (SqL.of (kp.get hlm2)), rfl, flat_strs lw2, _, rfl, ?_⟩
              rw [if_pos rfl, inV_str]
              by_cases e : y ∈ lw2
              · rw [decide_eq_true e]
                refine iteF ⟨_, ?_, kp, hD3⟩
                dsimp only
                rw [etake, List.filter_append, List.filter_cons_of_neg (by simpa using e), List.filter_nil, List.append_nil]
              · rw [decide_eq_false e]
                refine iteT ⟨_, rfl, LcI.next hD kp hD3 (Kp.refl _) ?_ ?_⟩
                · rw [List.length_map]
                  exact small_of (m := 20) (Nat.le_trans (List.length_filter_le _ _) (Nat.le_trans (List.length_take_le _ _) (by omega)))
                · rw [etake, List.filter_append, List.filter_cons_of_pos (by simpa using e), List.filter_nil, List.map_append]
                  rfl
            · rintro H3 ⟨acc, rfl, kp3, hD3⟩
              rw [List.length_map, List.take_of_length_le (Nat.le_refl _), filter_permM hp2] at hD3
              refine ⟨D, _, rfl, SqL.of hD3, hne2, ?_⟩
              have epk1 : minS (row.filter fun y => decide (y ∉ marks2)) = (pickM row marks rd).1 := by rw [epick]
              rw [epk1]
              have hmem := pickM_mem (rd := rd) hne ok.fl
              have hd3 := kp3.get hd2
              have hlo3 := kp3.get hlo2
              refine ⟨_, rfl, d, _, rfl, dgO hd3, .inl ⟨rfl, _, SqL.of hlo3⟩, _, rfl, lo, row, (pickM row marks rd).1, rfl, rfl, hlo3, hmem, ?_⟩
              refine ⟨row.erase (pickM row marks rd).1, marks2, lw2, some (pickM row marks rd).1, rd2, lm2, rfl, by rw [upd_ne ndl]; exact hd3, upd_same, by rw [upd_ne nlm2.symm]; exact kp3.get hlm2, nlm2, hp2, hnd2, Nat.le_trans List.length_erase_le (by omega), h20, (k2.trans kp3.nil).trans (Kp.put hlo3), ?_⟩
              unfold stepM
              rw [if_neg hin, if_neg (by omega), if_neg hin, epick]
        · rw [beq_eq_false_iff_ne.mpr heq]
          refine iteF ⟨row, marks, lw, none, rd, lm, rfl, hd, hlo, hlm, nlm, hperm, ok.md, by omega, by omega, Kp.refl _, ?_⟩
          unfold stepM
          rw [if_neg hin, if_pos (by omega), if_neg hin]
    · rintro σ H2 ⟨row2, marks2, lw2, gone, rd2, lm2, rfl, hd2, hlo2, hlm2, nlm2, hp2, hnd2, h20, hw20, k2, est⟩
      have ndm2 : d ≠ lm2 := ne_of hd2 hlm2 (by intro z; cases z)
      refine ⟨fun σ H3 => σ = [some (.ref d), some (.str z), some (.int n), some (.bl (decide (z ∈ row))), some (optV gone), none] ∧ H3 d = some (.dK (ownM lo lm2 rd2)) ∧ H3 lo = some (.lst ((if z ∈ row then row2 else row2 ++ [z]).map V.str)) ∧ H3 lm2 = some (.lst (lw2.map V.str)) ∧ Kp tb [d, lo] H H3, ?_, ?_⟩
      · refine ⟨_, rfl, _, rfl, ?_⟩
        by_cases hin : z ∈ row
        · rw [decide_eq_true hin]
          refine iteF ⟨rfl, hd2, by rw [if_pos hin]; exact hlo2, hlm2, k2⟩
        · rw [decide_eq_false hin]
          refine iteT ⟨_, rfl, d, _, rfl, dgO hd2, .inl ⟨rfl, _, SqL.of hlo2⟩, _, rfl, lo, _, _, rfl, rfl, hlo2, by rw [List.length_map]; exact small_of (m := 20) h20, ?_⟩
          refine ⟨rfl, by rw [upd_ne ndl]; exact hd2, by rw [upd_same, if_neg hin, List.map_append]; rfl, by rw [upd_ne nlm2.symm]; exact hlm2, k2.trans (Kp.put hlo2)⟩
      · rintro σ H3 ⟨rfl, hd3, hlo3, hlm3, k3⟩
        refine ⟨_, rfl, d, _, rfl, dgM hd3, lm2, rfl, ⟨_, SqL.of hlm3⟩, fun D hD => ?_⟩
        refine lc_it walk_list (LcI tb H3 D (fun i acc => acc = ((lw2.take i).filter (fun y => decide (y ≠ z))).map V.str)) (LcI.start hD rfl) (fun i H' _ ⟨_, _, kp, _⟩ => SqL.of (kp.get hlm3)) ?_ ?_
        · rintro i x H4 H5 hi ⟨acc, rfl, kp, hD3⟩ ⟨rfl, hx⟩
          obtain ⟨y, hy, rfl⟩ := get_mapS hx
          rw [List.length_map] at hi
          have etake : lw2.take (i + 1) = lw2.take i ++ [y] := by rw [List.take_add_one, hy]; rfl
          refine ⟨rfl, _, rfl, _, rfl, rfl, _, rfl, ?_⟩
          rw [dec_str]
          by_cases e : y = z
          · rw [beq_iff_eq.mpr e]
            refine iteF ⟨_, ?_, kp, hD3⟩
            dsimp only
            rw [etake, List.filter_append, List.filter_cons_of_neg (by simpa using e), List.filter_nil, List.append_nil]
          · rw [beq_eq_false_iff_ne.mpr e]
            refine iteT ⟨_, rfl, LcI.next hD kp hD3 (Kp.refl _) ?_ ?_⟩
            · rw [List.length_map]
              exact small_of (m := 20) (Nat.le_trans (List.length_filter_le _ _) (Nat.le_trans (List.length_take_le _ _) (by omega)))
            · rw [etake, List.filter_append, List.filter_cons_of_pos (by simpa using e), List.filter_nil, List.map_append]
              rfl
        · rintro H4 ⟨acc, rfl, kp4, hD4⟩
          rw [List.length_map, List.take_of_length_le (Nat.le_refl _)] at hD4
          refine ⟨_, rfl, Nat.le_of_lt (small_of (m := 1) (Nat.le_refl _)), fun e he => ?_⟩
          have ke : Kp tb [] H4 (upd H4 e (.lst [.str z])) := Kp.new he
          refine ⟨D, e, _, _, rfl, rfl, ke.get hD4, upd_same, ?_, fun lm' hlm' => ?_⟩
          · rw [List.length_map]
            exact Nat.le_of_lt (small_of (m := 21) (by have := List.length_filter_le (fun y => decide (y ≠ z)) lw2; show _ + 1 ≤ 21; omega))
          have k5 := (kp4.trans ke).step (o := .lst ((lw2.filter (fun y => decide (y ≠ z))).map V.str ++ [.str z])) hlm'
          have g5 : (upd (upd H4 e (.lst [.str z])) lm' (.lst ((lw2.filter (fun y => decide (y ≠ z))).map V.str ++ [.str z]))) lm' = some (.lst ((lw2.filter (fun y => decide (y ≠ z)) ++ [z]).map V.str)) := by
            rw [upd_same, List.map_append]
            rfl
          have f5 : H3 lm' = none := kp4.free _ (ke.free _ hlm')
          generalize upd (upd H4 e (.lst [.str z])) lm' (.lst ((lw2.filter (fun y => decide (y ≠ z))).map V.str ++ [.str z])) = H5 at k5 g5 ⊢
          have hd5 := k5.get hd3
          refine ⟨_, rfl, d, _, rfl, DPut.k (k := Sum.inr "marks") hd5 (by show 3 < sizeLine; decide), ?_⟩
          rw [ownM_putm]
          have ndl' : d ≠ lm' := ne_of_none hd3 f5
          have k6 : Kp tb [d, lo] H5 (upd H5 d (.dK (ownM lo lm' rd2))) := Kp.put hd5
          have g6 : (upd H5 d (.dK (ownM lo lm' rd2))) lm' = some (.lst ((lw2.filter (fun y => decide (y ≠ z)) ++ [z]).map V.str)) := by rw [upd_ne ndl'.symm]; exact g5
          have go6 : (upd H5 d (.dK (ownM lo lm' rd2))) lo = some (.lst ((if z ∈ row then row2 else row2 ++ [z]).map V.str)) := by rw [upd_ne ndl.symm]; exact k5.get hlo3
          have gd6 : (upd H5 d (.dK (ownM lo lm' rd2))) d = some (.dK (ownM lo lm' rd2)) := upd_same
          generalize upd H5 d (.dK (ownM lo lm' rd2)) = H6 at k6 g6 go6 gd6 ⊢
          refine ⟨_, rfl, _, rfl, by show 2 ≤ sizeLine; decide, fun t ht => ?_⟩
          have kt : Kp tb [] H6 (upd H6 t (.tup [.bl (decide (z ∈ row)), optV gone])) := Kp.new ht
          have kAll : Kp tb [d, lo] H H6 := k3.trans (k5.nil.trans k6)
          refine q t lm' _ _ (kAll.free _ ht) (k3.free _ f5) (ne_of_none g6 ht).symm (by rw [est]; exact upd_same) (by rw [est]; exact kt.get gd6) (by rw [est]; exact kt.get go6) (kt.get g6) (by rw [est]; exact perm_addM hp2 hnd2) (kAll.trans kt.nil)
end
end Kf

namespace Kf
open PySem PySem.Spec PyProof.Rows L2
theorem ownM_puto (lo lo' lm : Addr) (rd : Int) : putK (ownM lo lm rd) (Sum.inr "order" : Key) (.ref lo') = ownM lo' lm rd := by kernel_rfl
theorem filter_absentM {z : Str} {row : List Str} (h : z ∉ row) : row.filter (fun y => decide (y ≠ z)) = row := List.filter_eq_self.mpr fun y hy => decide_eq_true fun q => h (by rw [← q]; exact hy)
section
variable {P : Program} {w : World} {K : PySem.W.Frag} {mg : Str → Option Value} {base : Heap} {tb : Addr}
/-! ### _law_old -/
def spLOld (tb : Addr) : Sp := fun vs H Q _ => ∃ (d lo lm : Addr) (z : Str) (n rd : Int) (row : List Str), vs = [.ref d, .str z, .int n] ∧ H d = some (.dK (ownM lo lm rd)) ∧ H lo = some (.lst (row.map V.str)) ∧ 1 ≤ n ∧ n ≤ 20 ∧ (row.length : Int) ≤ n ∧
  ∀ (t : Addr) (H' : Hp), H t = none → H' t = some (.tup [.bl (stepOC nfOld n row z).1, optV (stepOC nfOld n row z).2.1]) → H' lo = some (.lst ((stepOC nfOld n row z).2.2.map V.str)) → Kp tb [lo] H H' → Q (.ref t) H'
abbrev nLOld : List Str := ["_law_own", "_law_name", "_law_places_here", "_law_gone"]
theorem sc_lold : FnScope nLOld ["_law_own", "_law_name", "_law_places_here"] (defScope s__law_old) := ⟨rfl, rfl, rfl, by decide +kernel, rfl, by decide +kernel, by decide +kernel⟩
theorem ok_lold {f : Addr} {fd : FuncData} {k0 : Nat} (F : FnP K "_law_old" "_law_old" s__law_old f fd) (hlen : mg "len" = none) : FnOk P w K mg base CX0 (k0 + 1) f fd ["_law_own", "_law_name", "_law_places_here"] (spLOld tb) := by
  refine ok0 F sc_lold (fun vs H Q E h => ?_) (fun cdv A outer s H vs Q E hr h => ?_)
  · obtain ⟨d, lo, lm, z, n, rd, row, rfl, _⟩ := h
    rfl
  · obtain ⟨d, lo, lm, z, n, rd, row, rfl, hd, hlo, n0, n1, hrow, q⟩ := h
    have hu := hu_of hr
    have hget : ∀ {H' : Hp}, H' d = some (.dK (ownM lo lm rd)) → DGet H' d (.str "order") (some (.ref lo)) := fun e => by
      rw [← ownM_o lo lm rd]
      exact DGet.k (k := Sum.inr "order") e
    have ndl : d ≠ lo := ne_of hd hlo (by intro z; cases z)
    refine ⟨_, pss_cons (ps_if (pt_cmpR op_in_seq (pv 1) (pe_dget hu (pv 0) pe_str (fun _ _ => rfl)) (by with_unfolding_all rfl)) (pss_one (ps_ret (pe_tup (pa_cons pe_bl (pa_cons pe_non pa_nil))))) pss_nil)
      (C8.pss_cut (ps_set (i := 3) sc_lold.nd rfl (.inl rfl) (pe_ifExp (pt_cmpR op_eq (pe_callB call_len_seq (by rfl) hlen PySem.boot_len (pa_cons (pe_dget hu (pv 0) pe_str (fun _ _ => rfl)) pa_nil)) (pv 2) (nomark _))
          (pe_bm PySem.F.plainAttrs_list PySem.F.slot_list_pop PySem.F.type_list_pop mt_popAt (pe_dget hu (pv 0) pe_str (fun _ _ => rfl)) (pa_cons pe_int pa_nil)) pe_non))
      (pss_cons (ps_expr (pe_bm PySem.F.plainAttrs_list PySem.F.slot_list_append PySem.F.type_list_append mt_append (pe_dget hu (pv 0) pe_str (fun _ _ => rfl)) (pa_cons (pv 1) pa_nil)))
      (pss_one (ps_ret (pe_tup (pa_cons pe_bl (pa_cons (pv 3) pa_nil))))))), ?_⟩
    refine ⟨_, rfl, _, rfl, d, _, rfl, hget hd, lo, _, rfl, .inl (SqL.of hlo), rfl, flat_strs row, _, rfl, ?_⟩
    rw [inV_str]
    by_cases hin : z ∈ row
    · rw [decide_eq_true hin]
      refine iteT ⟨by show 2 ≤ sizeLine; decide, fun t ht => ?_⟩
      have e : stepOC nfOld n row z = (true, none, row) := by
        unfold stepOC
        rw [if_pos hin]
        rfl
      refine q t _ ht (by rw [e]; exact upd_same) (by rw [e]; exact (Kp.new (tb := tb) (S := []) ht).get hlo) (Kp.new ht)
    · rw [decide_eq_false hin]
      refine iteF ?_
      refine ⟨fun σ H2 => ∃ (row2 : List Str) (gone : Option Str), σ = [some (.ref d), some (.str z), some (.int n), some (optV gone)] ∧ H2 d = some (.dK (ownM lo lm rd)) ∧ H2 lo = some (.lst (row2.map V.str)) ∧ row2.length ≤ 20 ∧ Kp tb [lo] H H2 ∧ stepOC nfOld n row z = (false, gone, row2 ++ [z]), ?_, ?_⟩
      · refine ⟨_, rfl, d, _, rfl, hget hd, lo, _, rfl, .inl (SqL.of hlo), _, rfl, rfl, _, rfl, ?_⟩
        rw [List.length_map, dec_int]
        by_cases heq : (row.length : Int) = n
        · rw [beq_iff_eq.mpr heq]
          cases row with
          | nil =>
            exfalso
            have : (0 : Int) = n := heq
            omega
          | cons g r =>
            refine iteT ⟨_, rfl, d, _, rfl, hget hd, .inl ⟨rfl, _, SqL.of hlo⟩, lo, _, 0, 0, _, rfl, rfl, hlo, by decide, by decide, seq0 (by rw [List.length_map]; exact Nat.succ_pos _), rfl, ?_⟩
            refine ⟨r, some g, rfl, by rw [upd_ne ndl]; exact hd, upd_same, ?_, Kp.put hlo, ?_⟩
            · have : ((g :: r).length : Int) = (r.length : Int) + 1 := by rw [List.length_cons]; omega
              omega
            · unfold stepOC
              rw [if_neg hin, if_neg (by omega)]
              rfl
        · rw [beq_eq_false_iff_ne.mpr heq]
          refine iteF ⟨row, none, rfl, hd, hlo, by omega, Kp.refl _, ?_⟩
          unfold stepOC
          rw [if_neg hin, if_pos (by omega)]
          rfl
      · rintro σ H2 ⟨row2, gone, rfl, hd2, hlo2, h20, kp2, est⟩
        refine ⟨_, rfl, d, _, rfl, hget hd2, .inl ⟨rfl, _, SqL.of hlo2⟩, _, rfl, lo, _, _, rfl, rfl, hlo2, by rw [List.length_map]; exact small_of (m := 20) h20, ?_⟩
        have k3 := kp2.trans (Kp.put (S := [lo]) (o := .lst (row2.map V.str ++ [.str z])) hlo2)
        have hlo3 : (upd H2 lo (.lst (row2.map V.str ++ [.str z]))) lo = some (.lst ((row2 ++ [z]).map V.str)) := by
          rw [upd_same, List.map_append]
          rfl
        generalize upd H2 lo (.lst (row2.map V.str ++ [.str z])) = H3 at k3 hlo3 ⊢
        refine ⟨_, rfl, by show 2 ≤ sizeLine; decide, fun t ht => ?_⟩
        exact q t _ (k3.free _ ht) (by rw [est]; exact upd_same) (by rw [est]; exact (Kp.new (tb := tb) (S := []) ht).get hlo3) (k3.step ht)
/-! ### _law_cold -/
def spLCold (tb : Addr) : Sp := fun vs H Q _ => ∃ (d lo lm : Addr) (z : Str) (n rd : Int) (row : List Str), vs = [.ref d, .str z, .int n] ∧ H d = some (.dK (ownM lo lm rd)) ∧ H lo = some (.lst (row.map V.str)) ∧ 1 ≤ n ∧ n ≤ 20 ∧ (row.length : Int) ≤ n ∧ row.Nodup ∧
  ∀ (t lo' : Addr) (H' : Hp), H t = none → H lo' = none → t ≠ lo' → H' t = some (.tup [.bl (stepOC nfCold n row z).1, optV (stepOC nfCold n row z).2.1]) → H' d = some (.dK (ownM lo' lm rd)) → H' lo' = some (.lst ((stepOC nfCold n row z).2.2.map V.str)) → Kp tb [d, lo] H H' → Q (.ref t) H'
abbrev nLCold : List Str := ["_law_own", "_law_name", "_law_places_here", "_law_met", "_law_gone", "_law_one"]
theorem sc_lcold : FnScope nLCold ["_law_own", "_law_name", "_law_places_here"] (defScope s__law_cold) := ⟨rfl, rfl, rfl, by decide +kernel, rfl, by decide +kernel, by decide +kernel⟩
theorem ok_lcold {f : Addr} {fd : FuncData} {k0 : Nat} (F : FnP K "_law_cold" "_law_cold" s__law_cold f fd) (hlen : mg "len" = none) : FnOk P w K mg base CX0 (k0 + 1) f fd ["_law_own", "_law_name", "_law_places_here"] (spLCold tb) := by
  refine ok0 F sc_lcold (fun vs H Q E h => ?_) (fun cdv A outer s H vs Q E hr h => ?_)
  · obtain ⟨d, lo, lm, z, n, rd, row, rfl, _⟩ := h
    rfl
  · obtain ⟨d, lo, lm, z, n, rd, row, rfl, hd, hlo, n0, n1, hrow, hnd, q⟩ := h
    have hu := hu_of hr
    have hget : ∀ {H' : Hp}, H' d = some (.dK (ownM lo lm rd)) → DGet H' d (.str "order") (some (.ref lo)) := fun e => by
      rw [← ownM_o lo lm rd]
      exact DGet.k (k := Sum.inr "order") e
    have ndl : d ≠ lo := ne_of hd hlo (by intro z; cases z)
    refine ⟨_, pss_cons (ps_set (i := 3) sc_lcold.nd rfl (.inl rfl) (pe_cmpR op_in_seq (pv 1) (pe_dget hu (pv 0) pe_str (fun _ _ => rfl)) (by with_unfolding_all rfl)))
      (C8.pss_cut (ps_set (i := 4) sc_lcold.nd rfl (.inl rfl) (pe_ifExp (PW.pt (pw_and (pt_not (pt_val (pv 3))) (pw_and1 (pt_cmpR op_eq (pe_callB call_len_seq (by rfl) hlen PySem.boot_len (pa_cons (pe_dget hu (pv 0) pe_str (fun _ _ => rfl)) pa_nil)) (pv 2) (nomark _)))))
          (pe_bm PySem.F.plainAttrs_list PySem.F.slot_list_pop PySem.F.type_list_pop mt_popAt (pe_dget hu (pv 0) pe_str (fun _ _ => rfl)) (pa_cons pe_int pa_nil)) pe_non))
      (pss_cons (ps_dput hu (pv 0) pe_str (pe_op op_cat (pe_lc (own := [("_law_one", 5)]) (g := gName 5) (tt := tTest (tOp rNe (tVar 5) (tVar 1))) rfl sc_lcold.nd (pi_list (pe_dget hu (pv 0) pe_str (fun _ _ => rfl))) (blkOk_by (N := nLCold) (sc := defScope s__law_cold) (by decide +kernel))
            (fun _ _ _ _ _ => pg_name (i := 5) sc_lcold.nd rfl (Or.inl rfl)) (fun _ _ _ _ _ => pts_one (pt_cmpR op_ne (pv 5) (pv 1) (nomark _))) (fun _ _ _ _ _ => pv 5)) (pe_lst (pa_cons (pv 1) pa_nil))) rfl)
      (pss_one (ps_ret (pe_tup (pa_cons (pv 3) (pa_cons (pv 4) pa_nil))))))), ?_⟩
    refine ⟨_, rfl, _, rfl, d, _, rfl, hget hd, lo, _, rfl, .inl (SqL.of hlo), rfl, flat_strs row, ?_⟩
    rw [inV_str]
    refine ⟨fun σ H2 => ∃ (row2 : List Str) (gone : Option Str), σ = [some (.ref d), some (.str z), some (.int n), some (.bl (decide (z ∈ row))), some (optV gone), none] ∧ H2 d = some (.dK (ownM lo lm rd)) ∧ H2 lo = some (.lst (row2.map V.str)) ∧ row2.length ≤ 20 ∧ row2.Nodup ∧ Kp tb [d, lo] H H2 ∧
      stepOC nfCold n row z = (decide (z ∈ row), gone, row2.filter (fun y => decide (y ≠ z)) ++ [z]), ?_, ?_⟩
    · refine ⟨_, rfl, _, rfl, ?_⟩
      by_cases hin : z ∈ row
      · rw [decide_eq_true hin]
        refine iteF (iteF ⟨row, none, rfl, hd, hlo, by omega, hnd, Kp.refl _, ?_⟩)
        unfold stepOC
        rw [if_pos hin, filter_eraseM hnd]
        rfl
      · rw [decide_eq_false hin]
        refine iteT ⟨_, rfl, d, _, rfl, hget hd, lo, _, rfl, .inl (SqL.of hlo), _, rfl, rfl, _, rfl, ?_⟩
        rw [List.length_map, dec_int]
        by_cases heq : (row.length : Int) = n
        · rw [beq_iff_eq.mpr heq]
          cases row with
          | nil =>
            exfalso
            have : (0 : Int) = n := heq
            omega
          | cons g r =>
            refine iteT ⟨_, rfl, d, _, rfl, hget hd, .inl ⟨rfl, _, SqL.of hlo⟩, lo, _, 0, 0, _, rfl, rfl, hlo, by decide, by decide, seq0 (by rw [List.length_map]; exact Nat.succ_pos _), rfl, ?_⟩
            have hzr : z ∉ r := fun q => hin (List.mem_cons_of_mem _ q)
            refine ⟨r, some g, rfl, by rw [upd_ne ndl]; exact hd, upd_same, ?_, (List.nodup_cons.mp hnd).2, Kp.put hlo, ?_⟩
            · have : ((g :: r).length : Int) = (r.length : Int) + 1 := by rw [List.length_cons]; omega
              omega
            · unfold stepOC
              rw [if_neg hin, if_neg (by omega), filter_absentM hzr]
              show (false, some g, nfCold z (r ++ [z])) = (false, some g, r ++ [z])
              unfold nfCold
              rw [List.erase_append_right _ hzr]
              simp
        · rw [beq_eq_false_iff_ne.mpr heq]
          refine iteF ⟨row, none, rfl, hd, hlo, by omega, hnd, Kp.refl _, ?_⟩
          unfold stepOC
          rw [if_neg hin, if_pos (by omega), filter_absentM hin]
          show (false, none, nfCold z (row ++ [z])) = (false, none, row ++ [z])
          unfold nfCold
          rw [List.erase_append_right _ hin]
          simp
    · rintro σ H2 ⟨row2, gone, rfl, hd2, hlo2, h20, hnd2, kp2, est⟩
      refine ⟨_, rfl, d, _, rfl, hget hd2, lo, rfl, ⟨_, SqL.of hlo2⟩, fun D hD => ?_⟩
      refine lc_it walk_list (LcI tb H2 D (fun i acc => acc = ((row2.take i).filter (fun y => decide (y ≠ z))).map V.str)) (LcI.start hD rfl) (fun i H' _ ⟨_, _, kp, _⟩ => SqL.of (kp.get hlo2)) ?_ ?_
      · rintro i x H3 H4 hi ⟨acc, rfl, kp, hD3⟩ ⟨rfl, hx⟩
        obtain ⟨y, hy, rfl⟩ := get_mapS hx
        rw [List.length_map] at hi
        have etake : row2.take (i + 1) = row2.take i ++ [y] := by rw [List.take_add_one, hy]; rfl
        refine ⟨rfl, _, rfl, _, rfl, rfl, _, rfl, ?_⟩
        rw [dec_str]
        by_cases e : y = z
        · rw [beq_iff_eq.mpr e]
          refine iteF ⟨_, ?_, kp, hD3⟩
          dsimp only
          rw [etake, List.filter_append, List.filter_cons_of_neg (by simpa using e), List.filter_nil, List.append_nil]
        · rw [beq_eq_false_iff_ne.mpr e]
          refine iteT ⟨_, rfl, LcI.next hD kp hD3 (Kp.refl _) ?_ ?_⟩
          · rw [List.length_map]
            exact small_of (m := 20) (Nat.le_trans (List.length_filter_le _ _) (Nat.le_trans (List.length_take_le _ _) (by omega)))
          · rw [etake, List.filter_append, List.filter_cons_of_pos (by simpa using e), List.filter_nil, List.map_append]
            rfl
      · rintro H3 ⟨acc, rfl, kp3, hD3⟩
        rw [List.length_map, List.take_of_length_le (Nat.le_refl _)] at hD3
        refine ⟨_, rfl, Nat.le_of_lt (small_of (m := 1) (Nat.le_refl _)), fun e he => ?_⟩
        have ke : Kp tb [] H3 (upd H3 e (.lst [.str z])) := Kp.new he
        refine ⟨D, e, _, _, rfl, rfl, ke.get hD3, upd_same, ?_, fun lo' hlo' => ?_⟩
        · rw [List.length_map]
          exact Nat.le_of_lt (small_of (m := 21) (by have := List.length_filter_le (fun y => decide (y ≠ z)) row2; show _ + 1 ≤ 21; omega))
        have k5 := (kp3.trans ke).step (o := .lst ((row2.filter (fun y => decide (y ≠ z))).map V.str ++ [.str z])) hlo'
        have g5 : (upd (upd H3 e (.lst [.str z])) lo' (.lst ((row2.filter (fun y => decide (y ≠ z))).map V.str ++ [.str z]))) lo' = some (.lst ((row2.filter (fun y => decide (y ≠ z)) ++ [z]).map V.str)) := by
          rw [upd_same, List.map_append]
          rfl
        have f5 : H2 lo' = none := kp3.free _ (ke.free _ hlo')
        generalize upd (upd H3 e (.lst [.str z])) lo' (.lst ((row2.filter (fun y => decide (y ≠ z))).map V.str ++ [.str z])) = H5 at k5 g5 ⊢
        have hd5 := k5.get hd2
        refine ⟨_, rfl, d, _, rfl, DPut.k (k := Sum.inr "order") hd5 (by show 3 < sizeLine; decide), ?_⟩
        rw [ownM_puto]
        have ndl' : d ≠ lo' := ne_of_none hd2 f5
        have k6 : Kp tb [d, lo] H5 (upd H5 d (.dK (ownM lo' lm rd))) := Kp.put hd5
        have g6 : (upd H5 d (.dK (ownM lo' lm rd))) lo' = some (.lst ((row2.filter (fun y => decide (y ≠ z)) ++ [z]).map V.str)) := by rw [upd_ne ndl'.symm]; exact g5
        have gd6 : (upd H5 d (.dK (ownM lo' lm rd))) d = some (.dK (ownM lo' lm rd)) := upd_same
        generalize upd H5 d (.dK (ownM lo' lm rd)) = H6 at k6 g6 gd6 ⊢
        refine ⟨_, rfl, _, rfl, by show 2 ≤ sizeLine; decide, fun t ht => ?_⟩
        have kt : Kp tb [d, lo] H6 (upd H6 t (.tup [.bl (decide (z ∈ row)), optV gone])) := Kp.new ht
        have kAll : Kp tb [d, lo] H H6 := kp2.trans (k5.nil.trans k6)
        refine q t lo' _ (kAll.free _ ht) (kp2.free _ f5) (ne_of_none g6 ht).symm (by rw [est]; exact upd_same) ((Kp.new (tb := tb) (S := []) ht).get gd6) (by rw [est]; exact (Kp.new (tb := tb) (S := []) ht).get g6) (kAll.trans kt)
end
end Kf

namespace Kf
open PySem PySem.Spec PyProof.Rows L2
theorem mergeM (lo lm : Addr) (rd : Int) : mergeK [] (ownM lo lm rd) = ownM lo lm rd := by kernel_rfl
section
variable {P : Program} {w : World} {K : PySem.W.Frag} {mg : Str → Option Value} {base : Heap} {tb : Addr}
def spDue (tb : Addr) : Sp := fun vs H Q _ => ∃ (r : Rule) (n : Int) (a : Addr) (zs : List Str), vs = [.str r.txt, .ref a, .int n] ∧ 1 ≤ n ∧ n ≤ 20 ∧ H a = some (.lst (zs.map V.str)) ∧ zs.length ≤ 300 ∧ (∀ z ∈ zs, IsName z) ∧
  ∀ (f : Addr) (ts : List Addr) (H' : Hp), H f = none → H' f = some (.lst (ts.map V.ref)) → PairsAt H' ts (pairsR r n st0 zs) → (∀ t ∈ ts, H t = none) → Kp tb [] H H' → Q (.ref f) H'
abbrev nDue : List Str := ["_law_rule", "_law_wishes", "_law_places_here", "_law_own", "_law_found", "_law_name"]
theorem sc_due : FnScope nDue ["_law_rule", "_law_wishes", "_law_places_here"] (defScope s__law_due) := ⟨rfl, rfl, rfl, by decide +kernel, rfl, by decide +kernel, by decide +kernel⟩
theorem ok_due {f : Addr} {fd : FuncData} {k0 : Nat} (F : FnP K "_law_due" "_law_due" s__law_due f fd) (GO : Glob P w K mg base CX0 (k0 + 1) "_law_old" ["_law_own", "_law_name", "_law_places_here"] (spLOld tb))
    (GC : Glob P w K mg base CX0 (k0 + 1) "_law_cold" ["_law_own", "_law_name", "_law_places_here"] (spLCold tb)) (GM : Glob P w K mg base CX0 (k0 + 1) "_law_marked" ["_law_own", "_law_name", "_law_places_here"] (spLMarked tb)) :
    FnOk P w K mg base CX0 (k0 + 2) f fd ["_law_rule", "_law_wishes", "_law_places_here"] (spDue tb) := by
  refine ok0 F sc_due (fun vs H Q E h => ?_) (fun cdv A outer s H vs Q E hr h => ?_)
  · obtain ⟨r, n, a, zs, rfl, _⟩ := h
    rfl
  · obtain ⟨r, n, a, zs, rfl, n0, n1, ha, hl, hn, q⟩ := h
    have hu := hu_of hr
    refine ⟨_, pss_cons (ps_set (i := 3) sc_due.nd rfl (.inl rfl) (pe_disp (pps_cons pe_str (pe_lst pa_nil) (pps_cons pe_str (pe_lst pa_nil) (pps_cons pe_str pe_int pps_nil))) (by rfl) (by rfl) (fun z => by cases z) (by decide)))
      (pss_cons (ps_set (i := 4) sc_due.nd rfl (.inl rfl) (pe_lst pa_nil))
      (pss_cons (ps_for PassesOwn.never rfl (pi_list (pv 1)) (pg_name (i := 5) sc_due.nd rfl (Or.inl rfl))
        (pss_one (ps_if (pt_cmpR op_eq (pv 0) pe_str (nomark _)) (pss_one (ps_expr (pe_bm PySem.F.plainAttrs_list PySem.F.slot_list_append PySem.F.type_list_append mt_append (pv 4) (pa_cons (pe_callG GO hr (by rfl) pass0 (pa_cons (pv 3) (pa_cons (pv 5) (pa_cons (pv 2) pa_nil)))) pa_nil))))
          (pss_one (ps_if (pt_cmpR op_eq (pv 0) pe_str (nomark _)) (pss_one (ps_expr (pe_bm PySem.F.plainAttrs_list PySem.F.slot_list_append PySem.F.type_list_append mt_append (pv 4) (pa_cons (pe_callG GC hr (by rfl) pass0 (pa_cons (pv 3) (pa_cons (pv 5) (pa_cons (pv 2) pa_nil)))) pa_nil))))
            (pss_one (ps_expr (pe_bm PySem.F.plainAttrs_list PySem.F.slot_list_append PySem.F.type_list_append mt_append (pv 4) (pa_cons (pe_callG GM hr (by rfl) pass0 (pa_cons (pv 3) (pa_cons (pv 5) (pa_cons (pv 2) pa_nil)))) pa_nil)))))))))
      (pss_one (ps_ret (pv 4))))), ?_⟩
    refine fun d hd => ⟨Nat.zero_le _, fun lo hlo => ⟨Nat.zero_le _, fun lm hlm => ?_⟩⟩
    have n1' : d ≠ lo := ne_of_none upd_same hlo
    have n2 : d ≠ lm := fun e => by rw [← e, upd_ne n1', upd_same] at hlm; cases hlm
    have n3 : lo ≠ lm := fun e => by rw [← e, upd_same] at hlm; cases hlm
    have e1 : (upd (upd (upd H d (.dK [])) lo (.lst [])) lm (.lst [])) d = some (.dK []) := by rw [upd_ne n2, upd_ne n1', upd_same]
    refine ⟨e1, ownM lo lm 0, rfl, by show 3 ≤ 15; decide, ?_⟩
    rw [mergeM]
    have k1 : Kp tb [] H (upd (upd (upd (upd H d (.dK [])) lo (.lst [])) lm (.lst [])) d (.dK (ownM lo lm 0))) := (((Kp.new hd).step hlo).step hlm).own hd e1
    have gd : (upd (upd (upd (upd H d (.dK [])) lo (.lst [])) lm (.lst [])) d (.dK (ownM lo lm 0))) d = some (.dK (ownM lo lm 0)) := upd_same
    have go : (upd (upd (upd (upd H d (.dK [])) lo (.lst [])) lm (.lst [])) d (.dK (ownM lo lm 0))) lo = some (.lst []) := by rw [upd_ne n1'.symm, upd_ne n3, upd_same]
    have gm : (upd (upd (upd (upd H d (.dK [])) lo (.lst [])) lm (.lst [])) d (.dK (ownM lo lm 0))) lm = some (.lst []) := by rw [upd_ne n2.symm, upd_same]
    have fo : H lo = none := free_upd hlo
    have fm : H lm = none := free_upd (free_upd hlm)
    generalize upd (upd (upd (upd H d (.dK [])) lo (.lst [])) lm (.lst [])) d (.dK (ownM lo lm 0)) = H1 at k1 gd go gm ⊢
    refine ⟨Nat.zero_le _, fun fa hfa => ?_⟩
    have k2 : Kp tb [] H1 (upd H1 fa (.lst [])) := Kp.new hfa
    have gf : (upd H1 fa (.lst [])) fa = some (.lst []) := upd_same
    have ff : H fa = none := k1.free _ hfa
    have nfo : fa ≠ lo := (ne_of_none go hfa).symm
    have nfm : fa ≠ lm := (ne_of_none gm hfa).symm
    have gd2 := k2.get gd
    have go2 := k2.get go
    have gm2 := k2.get gm
    have k12 := k1.trans k2
    generalize upd H1 fa (.lst []) = H2 at k2 gf gd2 go2 gm2 k12 ⊢
    have okz : ∀ i, OkR n (endR r n st0 (zs.take i)) := fun i => endR_ok n0 (okR0 n0) fun z hz => hn z (List.mem_of_mem_take hz)
    refine ⟨_, rfl, a, rfl, ⟨_, SqL.of (k12.get ha)⟩, ?_⟩
    refine for_it walk_list (fun i σ H' => ∃ (lo lm : Addr) (rd : Int) (lw : List Str) (ts : List Addr) (v5 : Option V), σ = [some (.str r.txt), some (.ref a), some (.int n), some (.ref d), some (.ref fa), v5] ∧
      H' d = some (.dK (ownM lo lm rd)) ∧ H' lo = some (.lst ((endR r n st0 (zs.take i)).row.map V.str)) ∧ H' lm = some (.lst (lw.map V.str)) ∧ lo ≠ lm ∧ fa ≠ lo ∧ fa ≠ lm ∧ H lo = none ∧ H lm = none ∧
      (match r with | .marked => lw.Perm (endR r n st0 (zs.take i)).marks ∧ rd = (endR r n st0 (zs.take i)).rd | _ => True) ∧
      H' fa = some (.lst (ts.map V.ref)) ∧ PairsAt H' ts (pairsR r n st0 (zs.take i)) ∧ (∀ t ∈ ts, H t = none) ∧ Kp tb [] H H')
      ⟨lo, lm, 0, [], [], none, rfl, gd2, go2, gm2, n3, nfo, nfm, fo, fm, by cases r; exact trivial; exact trivial; exact ⟨List.Perm.refl _, rfl⟩, gf, trivial, fun _ h => absurd h (by simp), k12⟩ (fun i σ H' _ h => by obtain ⟨_, _, _, _, _, _, _, _, _, _, _, _, _, _, _, _, _, _, _, kp⟩ := h; exact SqL.of (kp.get ha)) ?_ ?_
    · rintro i x σ H3 H4 hi ⟨lo, lm, rd, lw, ts, v5, rfl, hd3, ho3, hm3, nom, nfo, nfm, fo, fm, hrel, hf3, hp3, hts, kp⟩ ⟨rfl, hx⟩
      obtain ⟨z, hz, rfl⟩ := get_mapS hx
      rw [List.length_map] at hi
      have etake : zs.take (i + 1) = zs.take i ++ [z] := by rw [List.take_add_one, hz]; rfl
      have hlen : (pairsR r n st0 (zs.take i)).length ≤ 300 := by rw [pairsR_len]; exact Nat.le_trans (List.length_take_le _ _) (by omega)
      have ok := okz i
      have tl : ts.length ≤ 300 := by rw [hp3.len]; exact hlen
      have ndf : d ≠ fa := ne_of hd3 hf3 (by intro z; cases z)
      -- behind the append
      have fin : ∀ (t lo' lm' : Addr) (rd' : Int) (lw' : List Str) (H7 : Hp), H4 t = none → H7 t = some (.tup (pairV ((stepR r n (endR r n st0 (zs.take i)) z).1, (stepR r n (endR r n st0 (zs.take i)) z).2.1))) → H7 d = some (.dK (ownM lo' lm' rd')) →
          H7 lo' = some (.lst ((stepR r n (endR r n st0 (zs.take i)) z).2.2.row.map V.str)) → H7 lm' = some (.lst (lw'.map V.str)) → lo' ≠ lm' → (lo' = lo ∨ H4 lo' = none) → (lm' = lm ∨ H4 lm' = none) →
          (match r with | .marked => lw'.Perm (stepR r n (endR r n st0 (zs.take i)) z).2.2.marks ∧ rd' = (stepR r n (endR r n st0 (zs.take i)) z).2.2.rd | _ => True) → Kp tb [d, lo] H4 H7 →
          H7 fa = some (.lst (ts.map V.ref)) ∧ (ts.map V.ref).length < sizeLine ∧ ∃ (lo lm : Addr) (rd : Int) (lw : List Str) (ts2 : List Addr) (v5 : Option V), [some (.str r.txt), some (.ref a), some (.int n), some (.ref d), some (.ref fa), some (.str z)] = [some (.str r.txt), some (.ref a), some (.int n), some (.ref d), some (.ref fa), v5] ∧
          (upd H7 fa (.lst (ts.map V.ref ++ [.ref t]))) d = some (.dK (ownM lo lm rd)) ∧ (upd H7 fa (.lst (ts.map V.ref ++ [.ref t]))) lo = some (.lst ((endR r n st0 (zs.take (i + 1))).row.map V.str)) ∧ (upd H7 fa (.lst (ts.map V.ref ++ [.ref t]))) lm = some (.lst (lw.map V.str)) ∧ lo ≠ lm ∧ fa ≠ lo ∧ fa ≠ lm ∧ H lo = none ∧ H lm = none ∧
          (match r with | .marked => lw.Perm (endR r n st0 (zs.take (i + 1))).marks ∧ rd = (endR r n st0 (zs.take (i + 1))).rd | _ => True) ∧
          (upd H7 fa (.lst (ts.map V.ref ++ [.ref t]))) fa = some (.lst (ts2.map V.ref)) ∧ PairsAt (upd H7 fa (.lst (ts.map V.ref ++ [.ref t]))) ts2 (pairsR r n st0 (zs.take (i + 1))) ∧ (∀ t ∈ ts2, H t = none) ∧ Kp tb [] H (upd H7 fa (.lst (ts.map V.ref ++ [.ref t]))) := by
        intro t lo' lm' rd' lw' H7 ft et ed eo em nom' c1 c2 rel k7
        have hf7 : H7 fa = some (.lst (ts.map V.ref)) := k7.get hf3 rfl (by simp [ndf.symm, nfo])
        have nfo' : fa ≠ lo' := by
          rcases c1 with e | e
          · rw [e]; exact nfo
          · exact ne_of_none hf3 e
        have nfm' : fa ≠ lm' := by
          rcases c2 with e | e
          · rw [e]; exact nfm
          · exact ne_of_none hf3 e
        have k8 : Kp tb [fa] H7 (upd H7 fa (.lst (ts.map V.ref ++ [.ref t]))) := Kp.put hf7
        have hp7 : PairsAt H7 ts (pairsR r n st0 (zs.take i)) := hp3.kp k7 ((noTup_nil.cons ho3 (fun _ z => by cases z)).cons hd3 (fun _ z => by cases z))
        have hp8 : PairsAt (upd H7 fa (.lst (ts.map V.ref ++ [.ref t]))) ts (pairsR r n st0 (zs.take i)) := hp7.kp k8 (noTup_nil.cons hf7 (fun _ z => by cases z))
        have ntf : t ≠ fa := (ne_of_none hf3 ft).symm
        have fd0 : H d = none := hd
        refine ⟨hf7, by rw [List.length_map]; exact small_of (m := 300) tl, lo', lm', rd', lw', ts ++ [t], _, rfl, by rw [upd_ne ndf]; exact ed, ?_, by rw [upd_ne nfm'.symm]; exact em, nom', nfo', nfm', ?_, ?_, ?_, ?_, ?_, ?_, ?_⟩
        · rw [upd_ne nfo'.symm, etake, endR_snoc]; exact eo
        · rcases c1 with e | e
          · rw [e]; exact fo
          · exact kp.free _ e
        · rcases c2 with e | e
          · rw [e]; exact fm
          · exact kp.free _ e
        · rw [etake, endR_snoc]; exact rel
        · rw [upd_same, List.map_append]; rfl
        · rw [etake, pairsR_snoc]
          exact PairsAt.snoc (by rw [upd_ne ntf]; exact et) hp8
        · intro y hy
          rcases List.mem_append.mp hy with h | h
          · exact hts y h
          · rw [List.mem_singleton.mp h]; exact kp.free _ ft
        · exact (kp.transN k7 (fun y hy => by
            rcases List.mem_cons.mp hy with h | h
            · rw [h]; exact fd0
            · rw [List.mem_singleton.mp h]; exact fo)).transN k8 (fun y hy => by rw [List.mem_singleton.mp hy]; exact ff)
      refine ⟨_, rfl, rfl, _, rfl, ?_⟩
      rw [dec_str]
      cases r with
      | old =>
        rw [show (Rule.txt .old == ("old" : Str)) = true by kernel_rfl]
        refine iteT ⟨_, rfl, .inl ⟨rfl, _, SqL.of hf3⟩, _, rfl, _, rfl, _, rfl, ?_⟩
        refine ⟨d, lo, lm, z, n, rd, _, rfl, hd3, ho3, n0, n1, ok.le, fun t H7 ft et eo k7 => ?_⟩
        have ndo : d ≠ lo := ne_of hd3 ho3 (by intro z; cases z)
        obtain ⟨f1, f2, f3⟩ := fin t lo lm rd lw H7 ft et (k7.get hd3 rfl (by simp [ndo])) eo (k7.get hm3 rfl (by simp [nom.symm])) nom (.inl rfl) (.inl rfl) trivial (k7.mono (by simp))
        exact ⟨fa, _, _, rfl, rfl, f1, f2, f3⟩
      | cold =>
        rw [show (Rule.txt .cold == ("old" : Str)) = false by kernel_rfl]
        refine iteF ⟨_, rfl, rfl, _, rfl, ?_⟩
        rw [dec_str, show (Rule.txt .cold == ("cold" : Str)) = true by kernel_rfl]
        refine iteT ⟨_, rfl, .inl ⟨rfl, _, SqL.of hf3⟩, _, rfl, _, rfl, _, rfl, ?_⟩
        refine ⟨d, lo, lm, z, n, rd, _, rfl, hd3, ho3, n0, n1, ok.le, ok.nd, fun t lo' H7 ft flo' ntl et ed eo k7 => ?_⟩
        have ndm : d ≠ lm := ne_of hd3 hm3 (by intro z; cases z)
        obtain ⟨f1, f2, f3⟩ := fin t lo' lm rd lw H7 ft et ed eo (k7.get hm3 rfl (by simp [nom.symm, ndm.symm])) ((ne_of_none hm3 flo').symm) (.inr flo') (.inl rfl) trivial k7
        exact ⟨fa, _, _, rfl, rfl, f1, f2, f3⟩
      | marked =>
        rw [show (Rule.txt .marked == ("old" : Str)) = false by kernel_rfl]
        refine iteF ⟨_, rfl, rfl, _, rfl, ?_⟩
        rw [dec_str, show (Rule.txt .marked == ("cold" : Str)) = false by kernel_rfl]
        refine iteF ⟨_, rfl, .inl ⟨rfl, _, SqL.of hf3⟩, _, rfl, _, rfl, _, rfl, ?_⟩
        obtain ⟨hperm, hrd⟩ := hrel
        subst hrd
        refine ⟨d, lo, lm, z, n, _, _, _, lw, rfl, hd3, ho3, hm3, nom, hperm, ok, n0, n1, fun t lm' H7 lw' ft flm' ntl et ed eo em hp' k7 => ?_⟩
        obtain ⟨f1, f2, f3⟩ := fin t lo lm' _ lw' H7 ft et ed eo em (ne_of_none ho3 flm') (.inl rfl) (.inr flm') ⟨hp', rfl⟩ k7
        exact ⟨fa, _, _, rfl, rfl, f1, f2, f3⟩
    · rintro σ H3 ⟨lo, lm, rd, lw, ts, v5, rfl, hd3, ho3, hm3, nom, nfo, nfm, fo, fm, hrel, hf3, hp3, hts, kp⟩
      rw [List.length_map, List.take_of_length_le (Nat.le_refl _)] at hp3
      exact ⟨_, rfl, q fa ts H3 ff hf3 hp3 hts kp⟩
end
end Kf

namespace Kf
open PySem PySem.Spec PyProof.Rows L2
section
variable {P : Program} {w : World} {K : PySem.W.Frag} {mg : Str → Option Value} {base : Heap} {tb CG : Addr}
/-! ### _law_is_going -/
def spIsGoing (tb CG : Addr) : Sp := fun vs H Q _ => ∃ (g f a b : Addr) (ts : List Addr) (ps : List (Bool × Option Str)), vs = [.ref g, .ref f] ∧ GoAt CG H g a b (metV ps) (wentV ps) ∧ H f = some (.lst (ts.map V.ref)) ∧ PairsAt H ts ps ∧ ps.length ≤ 300 ∧ GoneOk ps ∧ ∀ H', Kp tb [] H H' → Q (.bl true) H'
abbrev nIsG : List Str := ["_law_found", "_law_due_here", "_law_many", "_law_met", "_law_pair"]
theorem sc_isg : FnScope nIsG ["_law_found", "_law_due_here"] (defScope s__law_is_going) := ⟨rfl, rfl, rfl, by decide +kernel, rfl, by decide +kernel, by decide +kernel⟩
theorem ok_isgoing {f : Addr} {fd : FuncData} {k0 : Nat} (F : FnP K "_law_is_going" "_law_is_going" s__law_is_going f fd) (T : ClsG K CG) (I : InsT K CG) (i0 : PySem.W.kitOne K (.ref CG) (.ref CG) = some true) (mG : mg "Going" = some (.ref CG))
    (hisi : mg "isinstance" = none) (hlist : mg "list" = none) (hbool : mg "bool" = none) (hall : mg "all" = none) (hlen : mg "len" = none) (GM : Glob P w K mg base CX0 (k0 + 1) "missed_in" ["found"] (spMissed CG)) :
    FnOk P w K mg base CX0 (k0 + 2) f fd ["_law_found", "_law_due_here"] (spIsGoing tb CG) := by
  refine ok0 F sc_isg (fun vs H Q E h => ?_) (fun cdv A outer s H vs Q E hr h => ?_)
  · obtain ⟨g, f, a, b, ts, ps, rfl, _⟩ := h
    rfl
  · obtain ⟨g, f, a, b, ts, ps, rfl, G, hf, hp, hlen300, hgo, q⟩ := h
    refine ⟨_, pss_cons (ps_if (PW.pt (pw_or (pt_not (pt_val (pe_callB call_isi (by rfl) hisi (by decide +kernel) (pa_cons (pv 0) (pa_cons (pe_glob (v := .ref CG) (by rfl) mG rfl) pa_nil)))))
          (pw_or (pt_not (pt_val (pe_callB call_isi (by rfl) hisi (by decide +kernel) (pa_cons (pe_fld (pv 0) rfl) (pa_cons (pe_bltn (v := .ty "list") (by rfl) hlist (by decide +kernel) rfl) pa_nil)))))
          (pw_or1 (pt_not (pt_val (pe_callB call_isi (by rfl) hisi (by decide +kernel) (pa_cons (pe_fld (pv 0) rfl) (pa_cons (pe_bltn (v := .ty "list") (by rfl) hlist (by decide +kernel) rfl) pa_nil))))))))) (pss_one (ps_ret pe_bl)) pss_nil)
      (pss_cons (ps_if (PW.pt (pw_or (pt_not (pt_val (pe_callB (cr_all rfl) (by rfl) hall (by decide +kernel) (pa_cons (pe_lc (own := [("_law_met", 3)]) (g := gName 3) (tt := tYes) rfl sc_isg.nd (pi_list (pe_fld (pv 0) rfl)) (blkOk_by (N := nIsG) (sc := defScope s__law_is_going) (by decide +kernel))
              (fun _ _ _ _ _ => pg_name (i := 3) sc_isg.nd rfl (Or.inl rfl)) (fun _ _ _ _ _ => pts_nil) (fun _ _ _ _ _ => pe_callB (call_isiK (K := K) rfl) (by rfl) hisi boot_isi (pa_cons (pv 3) (pa_cons (pe_bltn (v := .ty "bool") (by rfl) hbool (by decide +kernel) rfl) pa_nil)))) pa_nil))))
          (pw_or1 (pt_cmpR (op_neD hr.units) (pe_fld (pv 0) rfl) (pe_lc (own := [("_law_pair", 4)]) (g := gName 4) (tt := tYes) rfl sc_isg.nd (pi_list (pv 1)) (blkOk_by (N := nIsG) (sc := defScope s__law_is_going) (by decide +kernel))
              (fun _ _ _ _ _ => pg_name (i := 4) sc_isg.nd rfl (Or.inl rfl)) (fun _ _ _ _ _ => pts_nil) (fun _ _ _ _ _ => pe_ix (ix_tupK (K := K) rfl) (pv 4) pe_int (fun _ _ => rfl))) (nomark _))))) (pss_one (ps_ret pe_bl)) pss_nil)
      (pss_cons (ps_set (i := 2) sc_isg.nd rfl (.inl rfl) (pe_callG GM hr (by rfl) pass0 (pa_cons (pv 0) pa_nil)))
      (pss_cons (ps_if (PW.pt (pw_or (pt_val (pe_callB call_isi (by rfl) hisi (by decide +kernel) (pa_cons (pv 2) (pa_cons (pe_bltn (v := .ty "bool") (by rfl) hbool (by decide +kernel) rfl) pa_nil))))
          (pw_or1 (pt_cmpR op_ne (pv 2) (pe_callB call_len_seq (by rfl) hlen PySem.boot_len (pa_cons (pe_lc (own := [("_law_pair", 4)]) (g := gName 4) (tt := tNot (tB (tOp (rIxT K) (tVar 4) (tC (.int 0))))) rfl sc_isg.nd (pi_list (pv 1)) (blkOk_by (N := nIsG) (sc := defScope s__law_is_going) (by decide +kernel))
              (fun _ _ _ _ _ => pg_name (i := 4) sc_isg.nd rfl (Or.inl rfl)) (fun _ _ _ _ _ => pts_one (pt_not (pt_val (pe_ix (ix_tupK (K := K) rfl) (pv 4) pe_int (fun _ _ => rfl))))) (fun _ _ _ _ _ => pv 4)) pa_nil)) (nomark _))))) (pss_one (ps_ret pe_bl)) pss_nil)
      (pss_one (ps_ret (pe_cmpR (op_eqD hr.units) (pe_fld (pv 0) rfl) (pe_lc (own := [("_law_pair", 4)]) (g := gName 4) (tt := tYes) rfl sc_isg.nd (pi_list (pv 1)) (blkOk_by (N := nIsG) (sc := defScope s__law_is_going) (by decide +kernel))
              (fun _ _ _ _ _ => pg_name (i := 4) sc_isg.nd rfl (Or.inl rfl)) (fun _ _ _ _ _ => pts_nil) (fun _ _ _ _ _ => pe_ix (ix_tupK (K := K) rfl) (pv 4) pe_int (fun _ _ => rfl))) (nomark _))))))), ?_⟩
    obtain ⟨dx, hg⟩ := G.ob
    refine ⟨_, rfl, _, _, _, _, true, rfl, .own _, .base (.ins hg T.cl I.ha I.hn I.htk I.hm), i0, _, rfl, iteF ?_⟩
    refine ⟨_, rfl, g, CG, dx, _, _, rfl, hg, T.cl, T.nA, gF_met .., _, _, _, _, true, rfl, .ty _, .base (.lst G.ha), kit_ty (by decide +kernel), _, rfl, iteF ?_⟩
    refine ⟨_, rfl, g, CG, dx, _, _, rfl, hg, T.cl, T.nB, gF_went .., _, _, _, _, true, rfl, .ty _, .base (.lst G.hb), kit_ty (by decide +kernel), _, rfl, iteF ?_⟩
    -- all are truths
    refine ⟨_, rfl, g, CG, dx, _, _, rfl, hg, T.cl, T.nA, gF_met .., a, rfl, ⟨_, SqL.of G.ha⟩, fun D hD => ?_⟩
    refine lc_it walk_list (LcI tb H D (fun i acc => acc = (List.replicate i true).map V.bl)) (LcI.start hD rfl) (fun i H' _ ⟨_, _, kp, _⟩ => SqL.of (kp.get G.ha)) ?_ ?_
    · rintro i x H3 H4 hi ⟨acc, rfl, kp, hD3⟩ ⟨rfl, hx⟩
      unfold metV at hx hi
      rw [List.getElem?_map] at hx
      rw [List.length_map] at hi
      obtain ⟨y, _, rfl⟩ := Option.map_eq_some_iff.mp hx
      refine ⟨rfl, _, rfl, _, _, _, _, true, rfl, .ty _, .base (.bl _), kit_ty (by decide +kernel), LcI.next hD kp hD3 (Kp.refl _) ?_ ?_⟩
      · rw [List.length_map, List.length_replicate]
        exact small_of (m := 300) (by omega)
      · rw [List.replicate_succ', List.map_append]
        rfl
    rintro H3 ⟨acc, rfl, kp3, hD3⟩
    refine ⟨D, _, rfl, SqL.of hD3, _, rfl, ?_⟩
    rw [show ((List.replicate (metV ps).length true).all id) = true by simp]
    refine iteF ?_
    -- what went
    refine ⟨_, rfl, g, CG, dx, _, _, rfl, kp3.get hg, T.cl, T.nB, gF_went .., _, rfl, f, rfl, ⟨_, SqL.of (kp3.get hf)⟩, fun D2 hD2 => ?_⟩
    have hp3 : PairsAt H3 ts ps := hp.kp kp3 noTup_nil
    have hf3 := kp3.get hf
    have hl2 : ts.length = ps.length := hp.len
    refine lc_it walk_list (LcI tb H3 D2 (fun i acc => acc = wentV (ps.take i))) (LcI.start hD2 rfl) (fun i H' _ ⟨_, _, kp, _⟩ => SqL.of (kp.get hf3)) ?_ ?_
    · rintro i x H4 H5 hi ⟨acc, rfl, kp, hD4⟩ ⟨rfl, hx⟩
      rw [List.length_map] at hi
      obtain ⟨t, y, rfl, hy, et⟩ := PairsAt.get (hp3.kp kp noTup_nil) hx
      refine ⟨rfl, _, rfl, t, _, 1, _, rfl, rfl, SqT.of et, at_of (j := 1) rfl rfl, LcI.next hD2 kp hD4 (Kp.refl _) ?_ ?_⟩
      · unfold wentV
        rw [List.length_map]
        exact small_of (m := 300) (Nat.le_trans (List.length_take_le _ _) (by omega))
      · unfold wentV
        rw [List.take_add_one, hy, List.map_append]
        rfl
    rintro H4 ⟨acc, rfl, kp4, hD4⟩
    rw [List.length_map, List.take_of_length_le (by omega)] at hD4
    refine ⟨_, _, dp_went (SqL.of (kp4.get (kp3.get G.hb))), dp_went (SqL.of hD4), (went_self hgo).1, (went_self hgo).1, _, rfl, ?_⟩
    rw [(went_self hgo).2]
    refine iteF ?_
    -- how many were missed
    have k34 := kp3.trans kp4
    have em : metV ps = (ps.map (·.1)).map V.bl := by unfold metV; rw [List.map_map]; rfl
    refine ⟨_, rfl, g, a, b, ps.map (·.1), wentV ps, rfl, ⟨⟨dx, k34.get hg⟩, by rw [← em]; exact k34.get G.ha, k34.get G.hb, G.ne⟩, ?_⟩
    refine ⟨_, rfl, _, _, _, _, false, rfl, .ty _, .base (.int _), kit_ty (by decide +kernel), _, rfl, iteF ?_⟩
    refine ⟨_, rfl, _, rfl, f, rfl, ⟨_, SqL.of (k34.get hf)⟩, fun D3 hD3' => ?_⟩
    have hp4 : PairsAt H4 ts ps := hp.kp k34 noTup_nil
    have hf4 := k34.get hf
    refine lc_it walk_list (LcI tb H4 D3 (fun i acc => acc.length = ((ps.take i).map (·.1)).count false)) (LcI.start hD3' rfl) (fun i H' _ ⟨_, _, kp, _⟩ => SqL.of (kp.get hf4)) ?_ ?_
    · rintro i x H5 H6 hi ⟨acc, hacc, kp, hD5⟩ ⟨rfl, hx⟩
      rw [List.length_map] at hi
      obtain ⟨t, y, rfl, hy, et⟩ := PairsAt.get (hp4.kp kp noTup_nil) hx
      have ec : ((ps.take (i + 1)).map (·.1)).count false = ((ps.take i).map (·.1)).count false + (if y.1 = false then 1 else 0) := by
        rw [List.take_add_one, hy, List.map_append, List.count_append]
        obtain ⟨y1, y2⟩ := y
        cases y1 <;> rfl
      refine ⟨rfl, _, rfl, t, _, 0, _, rfl, rfl, SqT.of et, atI_zero _ _, _, rfl, ?_⟩
      cases hb : y.1 with
      | true =>
        refine iteF ⟨acc, ?_, kp, hD5⟩
        dsimp only
        rw [ec, hb, hacc]
        rfl
      | false =>
        refine iteT ⟨_, rfl, LcI.next hD3' kp hD5 (Kp.refl _) ?_ ?_⟩
        · rw [hacc]
          exact small_of (m := 300) (Nat.le_trans (List.count_le_length) (by rw [List.length_map]; exact Nat.le_trans (List.length_take_le _ _) (by omega)))
        · rw [ec, hb, List.length_append, hacc]
          rfl
    rintro H5 ⟨acc, hacc, kp5, hD5⟩
    rw [List.length_map, List.take_of_length_le (by omega)] at hacc
    refine ⟨D3, acc, rfl, .inl (SqL.of hD5), rfl, _, rfl, ?_⟩
    rw [hacc, decide_eq_true rfl]
    refine iteF ?_
    -- what was met
    have k35 := k34.trans kp5
    refine ⟨_, rfl, g, CG, dx, _, _, rfl, k35.get hg, T.cl, T.nA, gF_met .., _, rfl, f, rfl, ⟨_, SqL.of (k35.get hf)⟩, fun D4 hD4' => ?_⟩
    have hp5 : PairsAt H5 ts ps := hp.kp k35 noTup_nil
    have hf5 := k35.get hf
    refine lc_it walk_list (LcI tb H5 D4 (fun i acc => acc = metV (ps.take i))) (LcI.start hD4' rfl) (fun i H' _ ⟨_, _, kp, _⟩ => SqL.of (kp.get hf5)) ?_ ?_
    · rintro i x H6 H7 hi ⟨acc, rfl, kp, hD6⟩ ⟨rfl, hx⟩
      rw [List.length_map] at hi
      obtain ⟨t, y, rfl, hy, et⟩ := PairsAt.get (hp5.kp kp noTup_nil) hx
      refine ⟨rfl, _, rfl, t, _, 0, _, rfl, rfl, SqT.of et, atI_zero _ _, LcI.next hD4' kp hD6 (Kp.refl _) ?_ ?_⟩
      · unfold metV
        rw [List.length_map]
        exact small_of (m := 300) (Nat.le_trans (List.length_take_le _ _) (by omega))
      · unfold metV
        rw [List.take_add_one, hy, List.map_append]
        rfl
    rintro H6 ⟨acc, rfl, kp6, hD6⟩
    rw [List.length_map, List.take_of_length_le (by omega)] at hD6
    refine ⟨_, _, dp_met (SqL.of (kp6.get (k35.get G.ha))), dp_met (SqL.of hD6), (met_self ps).1, (met_self ps).1, ?_⟩
    rw [(met_self ps).2]
    exact q _ (k35.trans kp6)
end
end Kf

namespace Kf
open PySem PySem.Spec PyProof.Rows L2
theorem sortS_nil : sortS [] = [] := by unfold sortS; exact List.mergeSort_nil
theorem bls_self (bs : List Bool) : SeqAt.shaped (.list (bs.map PyData.bool)) = true ∧ PyData.eqv (.list (bs.map PyData.bool)) (.list (bs.map PyData.bool)) = true := selfD fun d hd => by
  obtain ⟨x, _, rfl⟩ := List.mem_map.mp hd
  exact bool_self _
theorem dp_bls {K : PySem.W.Frag} {H : Hp} {a : Addr} {bs : List Bool} (h : SqL K H a (bs.map V.bl)) : Dp K H (.ref a) (.list (bs.map PyData.bool)) := .lst h (dpAll_map fun x _ => .bl x)
theorem pairs_self {ps : List (Bool × Option Str)} (h : GoneOk ps) : SeqAt.shaped (.list (ps.map fun x => pairD x.1 x.2)) = true ∧ PyData.eqv (.list (ps.map fun x => pairD x.1 x.2)) (.list (ps.map fun x => pairD x.1 x.2)) = true := selfD fun d hd => by
  obtain ⟨x, hx, rfl⟩ := List.mem_map.mp hd
  exact pair_self fun z hz => isName_ok (h x hx z hz)
theorem dpAll_pairs {K : PySem.W.Frag} {H : Hp} : ∀ {ts : List Addr} {ps : List (Bool × Option Str)}, PairsAt H ts ps → DpAll K H (ts.map V.ref) (ps.map fun x => pairD x.1 x.2)
  | [], [], _ => .nil
  | _ :: _, _ :: _, ⟨a, b⟩ => .cons (dp_pair a) (dpAll_pairs b)
  | [], _ :: _, q => q.elim
  | _ :: _, [], q => q.elim
theorem dp_pairs {K : PySem.W.Frag} {H : Hp} {a : Addr} {ts : List Addr} {ps : List (Bool × Option Str)} (h : SqL K H a (ts.map V.ref)) (hp : PairsAt H ts ps) : Dp K H (.ref a) (.list (ps.map fun x => pairD x.1 x.2)) := .lst h (dpAll_pairs hp)
theorem ShR.noTup {C : Rule → Addr} {r : Rule} {H : Hp} {p : Addr} {n m k : Int} {s : St3} {S : List Addr} (h : ShR C r H p n s m k S) : NoTup H S := by
  cases r with
  | marked =>
    obtain ⟨l, d, rfl, M⟩ := h
    obtain ⟨⟨dx, hp⟩, hl⟩ := M.sh
    exact ((noTup_nil.cons M.mkd (fun _ z => by cases z)).cons hl (fun _ z => by cases z)).cons hp (fun _ z => by cases z)
  | old =>
    obtain ⟨l, rfl, M, e⟩ := h
    obtain ⟨⟨dx, hp⟩, hl⟩ := M
    exact (noTup_nil.cons hl (fun _ z => by cases z)).cons hp (fun _ z => by cases z)
  | cold =>
    obtain ⟨l, rfl, M, e⟩ := h
    obtain ⟨⟨dx, hp⟩, hl⟩ := M
    exact (noTup_nil.cons hl (fun _ z => by cases z)).cons hp (fun _ z => by cases z)
section
variable {P : Program} {w : World} {K : PySem.W.Frag} {mg : Str → Option Value} {base : Heap} {tb : Addr} {C : Rule → Addr}
def spShRight (tb : Addr) : Sp := fun vs H Q _ => ∃ (r : Rule) (n : Int) (a f : Addr) (zs : List Str) (ts : List Addr), vs = [.str r.txt, .int n, .ref a, .ref f] ∧ 1 ≤ n ∧ n ≤ 20 ∧ H a = some (.lst (zs.map V.str)) ∧ zs.length ≤ 300 ∧ (∀ z ∈ zs, IsName z) ∧ GxR.TabG H tb ∧
  H f = some (.lst (ts.map V.ref)) ∧ PairsAt H ts (pairsR r n st0 zs) ∧ ∀ H', Kp tb [] H H' → Q (.bl true) H'
abbrev nShR : List Str := ["_law_rule", "_law_places_here", "_law_wishes", "_law_due_here", "_law_shelf", "_law_other", "_law_one", "_law_fits", "_law_name"]
theorem sc_shr : FnScope nShR ["_law_rule", "_law_places_here", "_law_wishes", "_law_due_here"] (defScope s__law_shelf_right) := ⟨rfl, rfl, rfl, by decide +kernel, rfl, by decide +kernel, by decide +kernel⟩
theorem ok_shright {f : Addr} {fd : FuncData} {k0 : Nat} (F : FnP K "_law_shelf_right" "_law_shelf_right" s__law_shelf_right f fd) (T : ∀ r, Cls K (C r)) (I : ∀ r, InsT K (C r)) (hkit : ∀ r r' : Rule, PySem.W.kitOne K (.ref (C r)) (.ref (C r')) = some (r.txt == r'.txt))
    (mO : mg "Old" = some (.ref (C .old))) (mC : mg "Cold" = some (.ref (C .cold))) (mM : mg "Marked" = some (.ref (C .marked))) (hisi : mg "isinstance" = none)
    (GS : Glob P w K mg base CX0 (k0 + 1) "shelf_of" ["rule", "places"] (spShelfOf C tb)) (MW : ∀ r, MethOk P w K mg base CX0 (k0 + 1) (C r) "wish" ["self", "name"] (spWishR C tb r))
    (MP : ∀ r, MethOk P w K mg base CX0 (k0 + 1) (C r) "places" ["self"] (spInt (C r) fun n _ _ => n)) (MT : ∀ r, MethOk P w K mg base CX0 (k0 + 1) (C r) "things" ["self"] (spList tb (C r) sortS))
    (ME : ∀ r, MethOk P w K mg base CX0 (k0 + 1) (C r) "met" ["self"] (spInt (C r) fun _ m _ => m)) (MI : ∀ r, MethOk P w K mg base CX0 (k0 + 1) (C r) "missed" ["self"] (spInt (C r) fun _ _ k => k)) :
    FnOk P w K mg base CX0 (k0 + 2) f fd ["_law_rule", "_law_places_here", "_law_wishes", "_law_due_here"] (spShRight tb) := by
  refine ok0 F sc_shr (fun vs H Q E h => ?_) (fun cdv A outer s H vs Q E hr h => ?_)
  · obtain ⟨r, n, a, f, zs, ts, rfl, _⟩ := h
    rfl
  · obtain ⟨r, n, a, f, zs, ts, rfl, n0, n1, ha, hl, hn, tab, hf, hp, q⟩ := h
    refine ⟨_, pss_cons (ps_set (i := 4) sc_shr.nd rfl (.inr rfl) (pe_callG GS hr (by rfl) pass0 (pa_cons (pv 0) (pa_cons (pv 1) pa_nil))))
      (pss_cons (ps_set (i := 5) sc_shr.nd rfl (.inl rfl) (pe_callG GS hr (by rfl) pass0 (pa_cons (pv 0) (pa_cons (pv 1) pa_nil))))
      (pss_cons (ps_for PassesOwn.never rfl (pi_tup (pe_tup (pa_cons (pv 4) (pa_cons (pv 5) pa_nil)))) (pg_name (i := 6) sc_shr.nd rfl (Or.inl rfl))
        (pss_cons (ps_set (i := 7) sc_shr.nd rfl (.inl rfl) (pe_lst (pa_cons (pe_callB call_isi (by rfl) hisi (by decide +kernel) (pa_cons (pv 6) (pa_cons (pe_glob (v := .ref (C .old)) (by rfl) mO rfl) pa_nil)))
            (pa_cons (pe_callB call_isi (by rfl) hisi (by decide +kernel) (pa_cons (pv 6) (pa_cons (pe_glob (v := .ref (C .cold)) (by rfl) mC rfl) pa_nil)))
            (pa_cons (pe_callB call_isi (by rfl) hisi (by decide +kernel) (pa_cons (pv 6) (pa_cons (pe_glob (v := .ref (C .marked)) (by rfl) mM rfl) pa_nil))) pa_nil)))))
        (pss_one (ps_if (PW.pt (pw_or (pt_cmpR (op_neD hr.units) (pv 7) (pe_lst (pa_cons (pe_cmpR op_eq (pv 0) pe_str (nomark _)) (pa_cons (pe_cmpR op_eq (pv 0) pe_str (nomark _)) (pa_cons (pe_cmpR op_eq (pv 0) pe_str (nomark _)) pa_nil)))) (nomark _))
            (pw_or (pt_cmpR op_ne (pe_meth0G (pv 6) (MP r) hr pass0) (pv 1) (nomark _))
            (pw_or1 (pt_cmpR (op_neS hr.units) (pe_meth0G (pv 6) (MT r) hr pass0) (pe_lst pa_nil) (nomark _)))))) (pss_one (ps_ret pe_bl)) pss_nil))))
      (pss_cons (ps_if (pt_cmpR (op_neD hr.units) (pe_lc (own := [("_law_name", 8)]) (g := gName 8) (tt := tYes) rfl sc_shr.nd (pi_list (pv 2)) (blkOk_by (N := nShR) (sc := defScope s__law_shelf_right) (by decide +kernel))
            (fun _ _ _ _ _ => pg_name (i := 8) sc_shr.nd rfl (Or.inl rfl)) (fun _ _ _ _ _ => pts_nil) (fun _ _ _ _ _ => pe_methG (pv 4) (MW r) hr pass0 (pa_cons (pv 8) pa_nil))) (pv 3) (nomark _)) (pss_one (ps_ret pe_bl)) pss_nil)
      (pss_one (ps_ret (pe_and (pe_cmpR (op_eqS hr.units) (pe_meth0G (pv 5) (MT r) hr pass0) (pe_lst pa_nil) (nomark _)) (pe_and (pe_cmpR op_eq (pe_meth0G (pv 5) (ME r) hr pass0) pe_int (nomark _)) (pe_one (pe_cmpR op_eq (pe_meth0G (pv 5) (MI r) hr pass0) pe_int (nomark _)))))))))), ?_⟩
    refine ⟨_, rfl, _, rfl, r, n, rfl, n0, n1, fun p1 S1 H1 sh1 hS1 k1 => ?_⟩
    refine ⟨_, rfl, _, rfl, r, n, rfl, n0, n1, fun p2 S2 H2 sh2 hS2 k2 => ?_⟩
    have sh12 := sh1.kp k2
    have dis : ∀ x ∈ S2, x ∉ S1 := fun x h2 h1 => sh1.sh.2.1 x h1 (hS2 x h2)
    have hS2' : ∀ x ∈ S2, H x = none := fun x hx => k1.free _ (hS2 x hx)
    have k12 : Kp tb [] H H2 := k1.trans k2
    refine ⟨_, rfl, _, rfl, by show 2 ≤ sizeLine; decide, fun tp htp => ?_⟩
    have k3 : Kp tb [] H2 (upd H2 tp (.tup [.ref p1, .ref p2])) := Kp.new htp
    have g3 : (upd H2 tp (.tup [.ref p1, .ref p2])) tp = some (.tup [.ref p1, .ref p2]) := upd_same
    generalize upd H2 tp (.tup [.ref p1, .ref p2]) = H3 at k3 g3 ⊢
    refine ⟨tp, rfl, ⟨_, SqT.of g3⟩, ?_⟩
    refine for_it (walk_tup (K := K) (a := tp) (xs := [.ref p1, .ref p2])) (fun i σ H' => ∃ v6 v7 : Option V, σ = [some (.str r.txt), some (.int n), some (.ref a), some (.ref f), some (.ref p1), some (.ref p2), v6, v7, none] ∧ Kp tb [] H3 H') ⟨none, none, rfl, Kp.refl _⟩ (fun i σ H' _ ⟨_, _, _, kp⟩ => SqT.of (kp.get g3)) ?_ ?_
    · rintro i x σ H4 H5 hi ⟨v6, v7, rfl, kp⟩ ⟨rfl, hx⟩
      have one : ∃ (p : Addr) (S : List Addr), x = .ref p ∧ ShR C r H5 p n st0 0 0 S := by
        rcases i with _ | _ | i
        · cases hx
          exact ⟨p1, S1, rfl, sh12.kp (k3.trans kp)⟩
        · cases hx
          exact ⟨p2, S2, rfl, sh2.kp (k3.trans kp)⟩
        · simp at hx
      obtain ⟨p, S, rfl, sh⟩ := one
      obtain ⟨_, _, l, ext, shA, x1, x2, x3, x4, x5⟩ := sh.sh
      obtain ⟨dx, hpx⟩ := shA.ob
      have isi : ∀ r' : Rule, _ := fun r' => hkit r r'
      refine ⟨_, rfl, _, _, _, _, _, rfl, .own _, .base (.ins hpx (T r) (I r).ha (I r).hn (I r).htk (I r).hm), hkit r .old, ?_⟩
      refine ⟨_, rfl, _, _, _, _, _, rfl, .own _, .base (.ins hpx (T r) (I r).ha (I r).hn (I r).htk (I r).hm), hkit r .cold, ?_⟩
      refine ⟨_, rfl, _, _, _, _, _, rfl, .own _, .base (.ins hpx (T r) (I r).ha (I r).hn (I r).htk (I r).hm), hkit r .marked, ?_⟩
      refine ⟨by show 3 ≤ sizeLine; decide, fun fl hfl => ?_⟩
      have k6 : Kp tb [] H5 (upd H5 fl (.lst ([r.txt == Rule.txt .old, r.txt == Rule.txt .cold, r.txt == Rule.txt .marked].map V.bl))) := Kp.new hfl
      have g6 : (upd H5 fl (.lst ([r.txt == Rule.txt .old, r.txt == Rule.txt .cold, r.txt == Rule.txt .marked].map V.bl))) fl = some (.lst ([r.txt == Rule.txt .old, r.txt == Rule.txt .cold, r.txt == Rule.txt .marked].map V.bl)) := upd_same
      refine ⟨_, rfl, _, rfl, rfl, _, rfl, rfl, _, rfl, rfl, by show 3 ≤ sizeLine; decide, fun fl2 hfl2 => ?_⟩
      rw [dec_str, dec_str, dec_str]
      have k7 : Kp tb [] (upd H5 fl (.lst ([r.txt == Rule.txt .old, r.txt == Rule.txt .cold, r.txt == Rule.txt .marked].map V.bl))) (upd (upd H5 fl (.lst ([r.txt == Rule.txt .old, r.txt == Rule.txt .cold, r.txt == Rule.txt .marked].map V.bl))) fl2 (.lst ([r.txt == Rule.txt .old, r.txt == Rule.txt .cold, r.txt == Rule.txt .marked].map V.bl))) := Kp.new hfl2
      refine ⟨_, _, dp_bls (SqL.of (k7.get g6)), dp_bls (bs := [r.txt == Rule.txt .old, r.txt == Rule.txt .cold, r.txt == Rule.txt .marked]) (SqL.of upd_same), (bls_self _).1, (bls_self _).1, _, rfl, ?_⟩
      rw [(bls_self _).2]
      refine iteF ?_
      have k67 := k6.trans k7
      have sh7 := sh.kp k67
      have kp7 := kp.trans k67
      obtain ⟨_, _, l, ext, shA, x1, x2, x3, x4, x5⟩ := sh7.sh
      obtain ⟨dx7, hp7⟩ := shA.ob
      refine ⟨_, rfl, p, dx7, _, rfl, hp7, by rw [oF_places]; exact x5, p, l, n, 0, 0, ext, rfl, ⟨dx7, hp7⟩, ?_⟩
      refine ⟨_, rfl, rfl, _, rfl, ?_⟩
      rw [decide_eq_true rfl]
      refine iteF ?_
      refine ⟨_, rfl, p, dx7, _, rfl, hp7, by rw [oF_things]; exact x4, p, l, n, 0, 0, [], ext, rfl, shA, by decide, fun o H8 fo eo k8 => ?_⟩
      rw [sortS_nil] at eo
      refine ⟨Nat.zero_le _, fun e he => ?_⟩
      have k9 : Kp tb [] H8 (upd H8 e (.lst [])) := Kp.new he
      refine ⟨o, e, [], [], rfl, rfl, SqL.of (k9.get eo), SqL.of upd_same, fun _ h => absurd h (by simp), fun _ h => absurd h (by simp), _, rfl, ?_⟩
      rw [decide_eq_true rfl]
      exact iteF ⟨_, _, rfl, kp7.trans (k8.trans k9)⟩
    · rintro σ H4 ⟨v6, v7, rfl, kp⟩
      have k4 : Kp tb [] H H4 := k12.trans (k3.trans kp)
      have sh1' : ShR C r H4 p1 n st0 0 0 S1 := sh12.kp (k3.trans kp)
      have sh2' : ShR C r H4 p2 n st0 0 0 S2 := sh2.kp (k3.trans kp)
      have okz : ∀ i, OkR n (endR r n st0 (zs.take i)) := fun i => endR_ok n0 (okR0 n0) fun z hz => hn z (List.mem_of_mem_take hz)
      refine ⟨_, rfl, a, rfl, ⟨_, SqL.of (k4.get ha)⟩, fun D hD => ?_⟩
      have DS1 : D ∉ S1 := fun h => sh1'.sh.2.1 D h hD
      have DS2 : D ∉ S2 := fun h => sh2'.sh.2.1 D h hD
      have kD : Kp tb [] H4 (upd H4 D (.lst [])) := Kp.new hD
      have fD : H D = none := k4.free _ hD
      refine lc_it walk_list (fun i H' => ∃ (us : List Addr) (S : List Addr) (m k : Int), H' D = some (.lst (us.map V.ref)) ∧ PairsAt H' us (pairsR r n st0 (zs.take i)) ∧ ShR C r H' p1 n (endR r n st0 (zs.take i)) m k S ∧ (∀ x ∈ S, H x = none) ∧ D ∉ S ∧ (∀ x ∈ S2, x ∉ S) ∧ ShR C r H' p2 n st0 0 0 S2 ∧ Kp tb [] H H')
        ⟨[], S1, 0, 0, upd_same, trivial, sh1'.kp kD, hS1, DS1, dis, sh2'.kp kD, k4.trans kD⟩ (fun i H' _ ⟨_, _, _, _, _, _, _, _, _, _, _, kp⟩ => SqL.of (kp.get ha)) ?_ ?_
      · rintro i x H5 H6 hi ⟨us, S, m, k, hD5, hp5, sh, hS, DS, d2, sh25, kp5⟩ ⟨rfl, hx⟩
        obtain ⟨z, hz, rfl⟩ := get_mapS hx
        rw [List.length_map] at hi
        have hzn := hn z (List.mem_of_getElem? hz)
        have etake : zs.take (i + 1) = zs.take i ++ [z] := by rw [List.take_add_one, hz]; rfl
        have ul : us.length ≤ 300 := by rw [hp5.len, pairsR_len]; exact Nat.le_trans (List.length_take_le _ _) (by omega)
        obtain ⟨_, aS, l, ext, shA, x1, _⟩ := sh.sh
        obtain ⟨dx, hpx⟩ := shA.ob
        refine ⟨rfl, _, rfl, p1, dx, _, rfl, hpx, by rw [oF_wish]; exact x1, _, rfl, ?_⟩
        refine ⟨p1, n, m, k, _, z, S, rfl, sh, okz i, n0, n1, hzn, kp5.tab tab, fun t S' H7 sh7 hS' tS' k7 ft et => ?_⟩
        have hD7 := k7.get hD5 rfl DS
        have ntD : t ≠ D := (ne_of_none hD5 ft).symm
        have kpu : Kp tb [D] H7 (upd H7 D (.lst (us.map V.ref ++ [.ref t]))) := Kp.put hD7
        have DS' : D ∉ S' := fun h => (hS' _ h).elim DS (fun e => by rw [hD5] at e; cases e)
        have d2' : ∀ x ∈ S2, x ∉ S' := fun x h2 h1 => (hS' x h1).elim (d2 x h2) (fun e => sh25.sh.2.1 x h2 e)
        have nt := sh.noTup
        have hp7 := hp5.kp k7 nt
        have hp8 := hp7.kp kpu (noTup_nil.cons hD7 (fun _ z => by cases z))
        rw [etake]
        have sh8 := sh7.kp kpu (fun x hx h => DS' (by rw [← List.mem_singleton.mp h]; exact hx))
        rw [← endR_snoc r n z (zs.take i) st0] at sh8
        refine ⟨_, hD7, by rw [List.length_map]; exact small_of (m := 300) ul, us ++ [t], S', _, _, by rw [upd_same, List.map_append]; rfl, ?_, sh8, fun x hx => (hS' x hx).elim (hS x) (fun e => kp5.free _ e), DS', d2', ?_, ?_⟩
        · rw [pairsR_snoc]
          exact PairsAt.snoc (by rw [upd_ne ntD]; exact et) hp8
        · exact (sh25.kp k7 d2).kp kpu (fun x hx h => DS2 (by rw [← List.mem_singleton.mp h]; exact hx))
        · exact (kp5.transN k7 hS).transN kpu (fun x hx => by rw [List.mem_singleton.mp hx]; exact fD)
      · rintro H5 ⟨us, S, m, k, hD5, hp5, sh, hS, DS, d2, sh25, kp5⟩
        rw [List.length_map, List.take_of_length_le (Nat.le_refl _)] at hp5
        have hgo : GoneOk (pairsR r n st0 zs) := fun x hx g hg => pairsR_gone n0 (okR0 n0) hn x hx g hg
        refine ⟨_, rfl, _, _, dp_pairs (SqL.of hD5) hp5, dp_pairs (SqL.of (kp5.get hf)) (hp.kp kp5 noTup_nil), (pairs_self hgo).1, (pairs_self hgo).1, _, rfl, ?_⟩
        rw [(pairs_self hgo).2]
        refine iteF ?_
        obtain ⟨_, _, l, ext, shA, x1, x2, x3, x4, x5⟩ := sh25.sh
        obtain ⟨dx, hpx⟩ := shA.ob
        refine ⟨_, rfl, p2, dx, _, rfl, hpx, by rw [oF_things]; exact x4, p2, l, n, 0, 0, [], ext, rfl, shA, by decide, fun o H8 fo eo k8 => ?_⟩
        rw [sortS_nil] at eo
        refine ⟨Nat.zero_le _, fun e he => ?_⟩
        have k9 : Kp tb [] H8 (upd H8 e (.lst [])) := Kp.new he
        refine ⟨o, e, [], [], rfl, rfl, SqL.of (k9.get eo), SqL.of upd_same, fun _ h => absurd h (by simp), fun _ h => absurd h (by simp), _, rfl, ?_⟩
        rw [decide_eq_true rfl]
        have hp9 := (k8.trans k9).get hpx
        refine iteT ⟨_, rfl, p2, dx, _, rfl, hp9, by rw [oF_nmet]; exact x2, p2, l, n, 0, 0, ext, rfl, ⟨dx, hp9⟩, rfl, _, rfl, ?_⟩
        rw [decide_eq_true rfl]
        refine iteT ⟨_, rfl, p2, dx, _, rfl, hp9, by rw [oF_nmissed]; exact x3, p2, l, n, 0, 0, ext, rfl, ⟨dx, hp9⟩, rfl, ?_⟩
        rw [decide_eq_true rfl]
        exact q _ (kp5.trans (k8.trans k9))
end
end Kf

namespace Kf
open PySem PySem.Spec PyProof.Rows L2
/-! ### a head's facts read in a part of the heap that holds the interpreter's own statics too -/
def asY (g : Addr → Option Obj) (n : Nat) : List Addr := He.asD g n ++ [cStatics]
section
variable (n : Nat) (fa : List He.Fa) (fn : List He.DefD) (ts : List He.Tab) (tf : List He.Defn) (ex : PySem.W.Frag → Bool)
def toldY (g : Addr → Option Obj) (K : PySem.W.Frag) : He.AlX := (He.obsT fa fn ts K, ex K && He.tabsB g tf K)
def obsY (g : Addr → Option Obj) : He.AlX := toldY fa fn ts tf ex g (He.frT g (asY g n))
end
section
variable {n : Nat} {fa : List He.Fa} {fn : List He.DefD} {ts : List He.Tab} {tf : List He.Defn} {ex : PySem.W.Frag → Bool}
theorem saysY_of {as : List Addr} {w : World} {h : Heap} (e : toldY fa fn ts tf ex h.get? (He.frT h.get? as) = He.valX fn ts w) : He.SaysX fa fn ts tf ex w h (He.frT h.get? as) := by
  have e1 := congrArg (fun z : He.AlX => z.1) e
  obtain ⟨h1, h2⟩ := He.ba (show (ex (He.frT h.get? as) && He.tabsB h.get? tf (He.frT h.get? as)) = true from congrArg (fun z : He.AlX => z.2) e)
  have key : ∀ p ∈ tf, PySem.W.codeHdIn (He.frT h.get? as) (He.cT (He.frT h.get? as) p).1 (He.cT (He.frT h.get? as) p).2 = true ∧ ∃ o, h.get? (He.cT (He.frT h.get? as) p).2 = some o ∧ He.emptyTab o = true := by
    intro p hp
    obtain ⟨h3, h4⟩ := He.ba (List.all_eq_true.mp h2 p hp)
    refine ⟨h3, ?_⟩
    revert h4
    cases h.get? (He.cT (He.frT h.get? as) p).2 with
    | none => exact fun h4 => nomatch h4
    | some o => exact fun h4 => ⟨o, rfl, h4⟩
  refine ⟨e1, h1, fun p hp => (key p hp).1, fun p hp => ?_, fun p hp => ?_⟩
  · obtain ⟨_, o, q, z⟩ := key p hp
    exact He.frT_none q z
  · obtain ⟨_, o, q, z⟩ := key p hp
    rw [q, He.emptyTab_eq z]
end
def hookY (n : Nat) (fa : List He.Fa) (fn : List He.DefD) (ts : List He.Tab) (tf : List He.Defn) (ex : PySem.W.Frag → Bool) : PySem.W.Hook where
  α := He.AlX
  obs := fun s => obsY n fa fn ts tf ex s.heap.get?
  val := fun w => He.valX fn ts w
  says := fun w h => ∃ K : PySem.W.Frag, K.In h ∧ He.SaysX fa fn ts tf ex w h K
  of := fun _ _ e => ⟨_, He.frT_in, saysY_of e⟩
  keeps := fun _ _ _ ⟨K, hK, c⟩ k => ⟨K, PySem.W.Frag.In.keeps hK k, ⟨c.t, c.more, c.hd, c.out, fun p hp => k _ _ (c.empty p hp)⟩⟩
theorem obsY_eq {n : Nat} {fa : List He.Fa} {fn : List He.DefD} {ts : List He.Tab} {tf : List He.Defn} {ex : PySem.W.Frag → Bool} {g : Addr → Option Obj} {s : Shared} (h : ∀ a, g a = s.heap.get? a) : obsY n fa fn ts tf ex g = (hookY n fa fn ts tf ex).obs s := by
  rw [show g = s.heap.get? from funext h] <;> rfl
end Kf

namespace Kf
open PySem PySem.Spec PyProof.Rows L2
/-- the three classes -/
def clsR (K : PySem.W.Frag) : Rule → Addr
  | .old => He.ga K "Old"
  | .cold => He.ga K "Cold"
  | .marked => He.ga K "Marked"
theorem GoAt.kp {CG : Addr} {H H' : Hp} {g a b tb : Addr} {xs ys : List V} {S : List Addr} (G : GoAt CG H g a b xs ys) (k : Kp tb S H H') (h1 : g ∉ S := by simp) (h2 : a ∉ S := by simp) (h3 : b ∉ S := by simp) : GoAt CG H' g a b xs ys := by
  obtain ⟨dx, hg⟩ := G.ob
  exact ⟨⟨dx, k.get hg rfl h1⟩, k.get G.ha rfl h2, k.get G.hb rfl h3, G.ne⟩
section
variable {P : Program} {w : World} {K : PySem.W.Frag} {mg : Str → Option Value} {base : Heap} {C : Rule → Addr} {CG : Addr}
def spLaw (K : PySem.W.Frag) : Sp := fun vs H Q _ => ∃ (a : Addr) (ns : List Int), vs = [.ref a] ∧ SqL K H a (ns.map V.int) ∧ ns.length ≤ 63 ∧ GxR.TabG H (tbOf K) ∧ ∀ H', Q (.bl true) H'
abbrev nK05 : List Str := ["_law_script", "_law_names_here", "_law_wishes", "_law_k", "_law_rule", "_law_places_here", "_law_due_here", "_law_handed", "_law_turn", "_law_found", "_law_met", "_law_went", "_law_made", "_law_pair"]
theorem sc_k05 : FnScope nK05 ["_law_script"] (defScope s_law) := ⟨rfl, rfl, rfl, by decide +kernel, rfl, by decide +kernel, by decide +kernel⟩
theorem ok_k05 {f : Addr} {fd : FuncData} {k0 : Nat} (F : FnP K "law" "law" s_law f fd) (T : ClsG K CG)
    (hlist : mg "list" = none) (henum : mg "enumerate" = none) (hrange : mg "range" = none)
    (GD : Glob P w K mg base CX0 (k0 + 6) "_law_drawn" ["_law_script", "_law_most"] (spDrawn K (tbOf K))) (GP : Glob P w K mg base CX0 (k0 + 6) "_law_places" ["_law_script", "_law_k"] (spPlaces K (tbOf K)))
    (GU : Glob P w K mg base CX0 (k0 + 6) "_law_due" ["_law_rule", "_law_wishes", "_law_places_here"] (spDue (tbOf K))) (GR : Glob P w K mg base CX0 (k0 + 6) "_law_shelf_right" ["_law_rule", "_law_places_here", "_law_wishes", "_law_due_here"] (spShRight (tbOf K)))
    (GI : Glob P w K mg base CX0 (k0 + 6) "_law_is_going" ["_law_found", "_law_due_here"] (spIsGoing (tbOf K) CG)) (GG : Glob P w K mg base CX0 (k0 + 6) "going" ["rule", "places", "wishes"] (spGoing C CG (tbOf K)))
    (MG : MakeOk P w K mg base CX0 (k0 + 5) "Going" CG ["self", "were_met", "went"] (spGoInit (tbOf K) CG)) :
    FnOk P w K mg base CX0 (k0 + 7) f fd ["_law_script"] (spLaw K) := by
  refine ok0 F sc_k05 (fun vs H Q E h => ?_) (fun cdv A outer s H vs Q E hr h => ?_)
  · obtain ⟨a, ns, rfl, _⟩ := h
    rfl
  · obtain ⟨sa, ns, rfl, hS, hlen, tab, q⟩ := h
    have hu := hu_of hr
    refine ⟨_, pss_cons (ps_asg (pe_callG GD hr (by rfl) pass0 (pa_cons (pv 0) (pa_cons pe_int pa_nil))) (pg_tup rfl (pgs_cons (pg_name (i := 1) sc_k05.nd rfl (Or.inl rfl)) (pgs_cons (pg_name (i := 2) sc_k05.nd rfl (Or.inl rfl)) pgs_nil))))
      (pss_cons (ps_for PassesOwn.never rfl (pi_enum (by rfl) henum (pa_cons (pe_lst (pa_cons pe_str (pa_cons pe_str (pa_cons pe_str pa_nil)))) pa_nil)) (pg_tup rfl (pgs_cons (pg_name (i := 3) sc_k05.nd rfl (Or.inl rfl)) (pgs_cons (pg_name (i := 4) sc_k05.nd rfl (Or.inl rfl)) pgs_nil)))
        (pss_cons (ps_set (i := 5) sc_k05.nd rfl (.inl rfl) (pe_callG GP hr (by rfl) pass0 (pa_cons (pv 0) (pa_cons (pv 3) pa_nil))))
        (pss_cons (ps_set (i := 6) sc_k05.nd rfl (.inl rfl) (pe_callG GU hr (by rfl) pass0 (pa_cons (pv 4) (pa_cons (pv 2) (pa_cons (pv 5) pa_nil)))))
        (pss_cons (ps_if (pt_not (pt_val (pe_callG GR hr (by rfl) pass0 (pa_cons (pv 4) (pa_cons (pv 5) (pa_cons (pv 2) (pa_cons (pv 6) pa_nil))))))) (pss_one (ps_ret pe_bl)) pss_nil)
        (pss_cons (ps_set (i := 7) sc_k05.nd rfl (.inl rfl) (pe_callTy call_list_of (by rfl) hlist (by decide +kernel) (pa_cons (pv 2) pa_nil)))
        (pss_one (ps_for PassesOwn.never rfl (pi_range1 (by rfl) hrange (pa_cons pe_int pa_nil)) (pg_name (i := 8) sc_k05.nd rfl (Or.inl rfl))
          (pss_cons (ps_set (i := 9) sc_k05.nd rfl (.inl rfl) (pe_callG GG hr (by rfl) pass0 (pa_cons (pv 4) (pa_cons (pv 5) (pa_cons (pv 7) pa_nil)))))
          (pss_cons (ps_if (PW.pt (pw_or (pt_not (pt_val (pe_callG GI hr (by rfl) pass0 (pa_cons (pv 9) (pa_cons (pv 6) pa_nil))))) (pw_or1 (pt_cmpR (op_neS hr.units) (pv 7) (pv 2) (nomark _))))) (pss_one (ps_ret pe_bl)) pss_nil)
          (pss_cons (ps_expr (pe_bm PySem.F.plainAttrs_list PySem.F.slot_list_append PySem.F.type_list_append mt_append (pe_fld (pv 9) rfl) (pa_cons pe_str pa_nil)))
          (pss_one (ps_expr (pe_bm0 PySem.F.plainAttrs_list PySem.F.slot_list_clear PySem.F.type_list_clear mt_clear (pe_fld (pv 9) rfl))))))))))))))
      (pss_cons (ps_set (i := 6) sc_k05.nd rfl (.inl rfl) (pe_callG GU hr (by rfl) pass0 (pa_cons pe_str (pa_cons (pv 2) (pa_cons pe_int pa_nil)))))
      (pss_cons (ps_setLc (i := 10) (own := [("_law_pair", 13)]) (g := gName 13) (tt := tYes) rfl sc_k05.nd rfl rfl (sw_true rfl rfl rfl (by decide +kernel)) (pi_list (pv 6)) (blkOk_by (N := nK05) (sc := defScope s_law) (by decide +kernel))
            (fun _ _ _ _ _ => pg_name (i := 13) sc_k05.nd rfl (Or.inl rfl)) (fun _ _ _ _ _ => pts_nil) (fun _ _ _ _ _ => pe_ix (ix_tupK (K := K) rfl) (pv 13) pe_int (fun _ _ => rfl)))
      (pss_cons (ps_setLc (i := 11) (own := [("_law_pair", 13)]) (g := gName 13) (tt := tYes) rfl sc_k05.nd rfl rfl (sw_true rfl rfl rfl (by decide +kernel)) (pi_list (pv 6)) (blkOk_by (N := nK05) (sc := defScope s_law) (by decide +kernel))
            (fun _ _ _ _ _ => pg_name (i := 13) sc_k05.nd rfl (Or.inl rfl)) (fun _ _ _ _ _ => pts_nil) (fun _ _ _ _ _ => pe_ix (ix_tupK (K := K) rfl) (pv 13) pe_int (fun _ _ => rfl)))
      (pss_cons (ps_set (i := 12) sc_k05.nd rfl (.inl rfl) (pe_makeG MG hr (by rfl) pass0 (pa_cons (pv 10) (pa_cons (pv 11) pa_nil))))
      (pss_cons (ps_expr (pe_bm0 PySem.F.plainAttrs_list PySem.F.slot_list_clear PySem.F.type_list_clear mt_clear (pv 10)))
      (pss_cons (ps_expr (pe_bm PySem.F.plainAttrs_list PySem.F.slot_list_append PySem.F.type_list_append mt_append (pv 11) (pa_cons pe_str pa_nil)))
      (pss_one (ps_ret (pe_callG GI hr (by rfl) pass0 (pa_cons (pv 12) (pa_cons (pv 6) pa_nil)))))))))))), ?_⟩
    refine ⟨_, rfl, _, _, 12, rfl, hS, hlen, by decide, by decide, fun zs ws t pz pw H1 hz0 hz26 _ hzn hwl hws k1 fz fw ft nzw et ez ew => ?_⟩
    refine ⟨t, _, rfl, SqT.of et, rfl, _, _, rfl, _, _, rfl, rfl, ?_⟩
    have tab1 := k1.tab tab
    have hS1 := k1.seq hS
    have hwn : ∀ z ∈ ws, IsName z := fun z hz => hzn z (hws z hz)
    have hwl3 : ws.length ≤ 300 := by omega
    have okw : OkS ws := okS_names hwn
    refine ⟨by show 3 ≤ sizeLine; decide, fun rl hrl => ?_⟩
    have k2 : Kp (tbOf K) [] H1 (upd H1 rl (.lst [.str "old", .str "cold", .str "marked"])) := Kp.new hrl
    have g2 : (upd H1 rl (.lst [.str "old", .str "cold", .str "marked"])) rl = some (.lst [.str "old", .str "cold", .str "marked"]) := upd_same
    generalize upd H1 rl (.lst [.str "old", .str "cold", .str "marked"]) = H2 at k2 g2 ⊢
    refine ⟨rl, _, rfl, SqL.of g2, ?_⟩
    refine for_it walk_enum (fun i σ H' => ∃ v3 v4 v5 v6 v7 v8 v9 : Option V, σ = [some (.ref sa), some (.ref pz), some (.ref pw), v3, v4, v5, v6, v7, v8, v9, none, none, none, none] ∧ Kp (tbOf K) [] H2 H') ⟨none, none, none, none, none, none, none, rfl, Kp.refl _⟩ (fun i σ H' _ h => by obtain ⟨_, _, _, _, _, _, _, _, kp⟩ := h; exact SqL.of (kp.get g2)) ?_ ?_
    · rintro i x σ H3 H4 hi ⟨v3, v4, v5, v6, v7, v8, v9, rfl, kp⟩ ⟨Tp, x1, x2, rfl, nT, rfl, e1, e2⟩
      cases e1
      have hi3 : i < 3 := hi
      obtain ⟨r, rfl⟩ : ∃ r : Rule, x2 = .str r.txt := by
        rcases i with _ | _ | _ | i
        · cases e2; exact ⟨.old, rfl⟩
        · cases e2; exact ⟨.cold, rfl⟩
        · cases e2; exact ⟨.marked, rfl⟩
        · omega
      refine ⟨Tp, _, rfl, SqT.of upd_same, rfl, _, _, rfl, _, _, rfl, rfl, ?_⟩
      have k4 := kp.step (o := .tup [.int (i : Nat), .str r.txt]) nT
      generalize upd H3 Tp (.tup [.int (i : Nat), .str r.txt]) = H4 at k4 ⊢
      have k14 : Kp (tbOf K) [] H1 H4 := k2.trans k4
      -- places
      refine ⟨_, rfl, _, rfl, sa, ns, (i : Nat), rfl, k14.seq hS1, by omega, by omega, by omega, fun n H5 n0 n1 k5 => ?_⟩
      have k15 := k14.trans k5
      -- due
      refine ⟨_, rfl, _, rfl, _, rfl, r, n, pw, ws, rfl, n0, n1, k15.get ew, hwl3, hwn, fun fa ts H6 ffa hfa hpa hts k6 => ?_⟩
      have k16 := k15.trans k6
      refine ⟨_, rfl, _, rfl, _, rfl, _, rfl, r, n, pw, fa, ws, ts, rfl, n0, n1, k16.get ew, hwl3, hwn, k16.tab tab1, hfa, hpa, fun H7 k7 => ⟨_, rfl, iteF ?_⟩⟩
      have k17 := k16.trans k7
      have hfa7 := k7.get hfa
      have hpa7 := hpa.kp k7 noTup_nil
      -- handed
      refine ⟨_, rfl, pw, _, rfl, .inl (SqL.of (k17.get ew)), fun hd hhd => ?_⟩
      have k8 : Kp (tbOf K) [] H7 (upd H7 hd (.lst (ws.map V.str))) := Kp.new hhd
      have g8 : (upd H7 hd (.lst (ws.map V.str))) hd = some (.lst (ws.map V.str)) := upd_same
      generalize upd H7 hd (.lst (ws.map V.str)) = H8 at k8 g8 ⊢
      have k18 := k17.trans k8
      have hfa8 := k8.get hfa7
      have hpa8 := hpa7.kp k8 noTup_nil
      have hgo : GoneOk (pairsR r n st0 ws) := fun x hx g hg => pairsR_gone n0 (okR0 n0) hwn x hx g hg
      have hpl : (pairsR r n st0 ws).length ≤ 300 := by rw [pairsR_len]; exact hwl3
      refine ⟨2, rfl, by decide, by decide, ?_⟩
      refine for_it (n := 2) walk_range (fun j σ H' => ∃ v8 v9 : Option V, σ = [some (.ref sa), some (.ref pz), some (.ref pw), some (.int (i : Nat)), some (.str r.txt), some (.int n), some (.ref fa), some (.ref hd), v8, v9, none, none, none, none] ∧ Kp (tbOf K) [] H8 H') ⟨_, _, rfl, Kp.refl _⟩ (fun _ _ _ _ _ => trivial) ?_ ?_
      · rintro j x σ H9 H10 hj ⟨v8', v9', rfl, kp9⟩ ⟨rfl, rfl⟩
        have k19 := k18.trans kp9
        refine ⟨_, rfl, _, rfl, _, rfl, r, n, hd, ws, rfl, n0, n1, kp9.get g8, hwl3, hwn, k19.tab tab1, fun g wm we H11 fg fwm fwe go k11 => ?_⟩
        have k811 := kp9.trans k11
        refine ⟨_, rfl, _, rfl, g, fa, wm, we, ts, _, rfl, go, k811.get hfa8, hpa8.kp k811 noTup_nil, hpl, hgo, fun H12 k12 => ⟨_, rfl, iteF ?_⟩⟩
        have k812 := k811.trans k12
        have go12 := go.kp k12
        refine ⟨_, rfl, _, rfl, hd, pw, ws, ws, rfl, rfl, SqL.of (k812.get g8), SqL.of ((k18.trans k812).get ew), okw, okw, _, rfl, ?_⟩
        rw [decide_eq_true rfl]
        refine iteF ?_
        obtain ⟨dx, hg12⟩ := go12.ob
        have ngm : g ≠ wm := ne_of hg12 go12.ha (by intro z; cases z)
        refine ⟨_, rfl, g, CG, dx, _, _, rfl, hg12, T.cl, T.nA, gF_met .., .inl ⟨rfl, _, SqL.of go12.ha⟩, wm, _, _, rfl, rfl, go12.ha, by unfold metV; rw [List.length_map]; exact small_of (m := 300) hpl, ?_⟩
        have kw : Kp (tbOf K) [wm] H12 (upd H12 wm (.lst (metV (pairsR r n st0 ws) ++ [.str "more"]))) := Kp.put go12.ha
        have hg13 := kw.get hg12 rfl (by simp [ngm])
        have hw13 := kw.get go12.hb rfl (by simp [go12.ne.symm])
        generalize upd H12 wm (.lst (metV (pairsR r n st0 ws) ++ [.str "more"])) = H13 at kw hg13 hw13 ⊢
        refine ⟨_, rfl, g, CG, dx, _, _, rfl, hg13, T.cl, T.nB, gF_went .., .inl ⟨rfl, _, SqL.of hw13⟩, we, _, rfl, rfl, hw13, ?_⟩
        have kx : Kp (tbOf K) [we] H13 (upd H13 we (.lst [])) := Kp.put hw13
        exact ⟨_, _, rfl, (k812.transN kw (fun y hy => by rw [List.mem_singleton.mp hy]; exact kp9.free _ fwm)).transN kx (fun y hy => by rw [List.mem_singleton.mp hy]; exact kp9.free _ fwe)⟩
      · rintro σ H9 ⟨v8', v9', rfl, kp9⟩
        exact ⟨_, _, _, _, _, _, _, rfl, k4.trans (k5.trans (k6.trans (k7.trans (k8.trans kp9))))⟩
    · rintro σ H3 ⟨v3, v4, v5, v6, v7, v8, v9, rfl, kp⟩
      have k13 : Kp (tbOf K) [] H1 H3 := k2.trans kp
      refine ⟨_, rfl, .cold, 2, pw, ws, rfl, by decide, by decide, k13.get ew, hwl3, hwn, fun fa ts H4 ffa hfa hpa hts k4 => ?_⟩
      have hgo : GoneOk (pairsR .cold 2 st0 ws) := fun x hx g hg => pairsR_gone (by decide) (okR0 (by decide)) hwn x hx g hg
      have hpl : (pairsR .cold 2 st0 ws).length ≤ 300 := by rw [pairsR_len]; exact hwl3
      generalize pairsR .cold 2 st0 ws = ps at *
      have htl : ts.length = ps.length := hpa.len
      refine ⟨_, rfl, fa, rfl, ⟨_, SqL.of hfa⟩, fun D hD => ?_⟩
      refine lc_it walk_list (LcI (tbOf K) H4 D (fun i acc => acc = metV (ps.take i))) (LcI.start hD rfl) (fun i H' _ ⟨_, _, kp, _⟩ => SqL.of (kp.get hfa)) ?_ ?_
      · rintro i x H6 H7 hi ⟨acc, rfl, kp, hD6⟩ ⟨rfl, hx⟩
        rw [List.length_map] at hi
        obtain ⟨t, y, rfl, hy, et⟩ := PairsAt.get (hpa.kp kp noTup_nil) hx
        refine ⟨rfl, _, rfl, t, _, 0, _, rfl, rfl, SqT.of et, atI_zero _ _, LcI.next hD kp hD6 (Kp.refl _) ?_ ?_⟩
        · unfold metV
          rw [List.length_map]
          exact small_of (m := 300) (Nat.le_trans (List.length_take_le _ _) (by omega))
        · unfold metV
          rw [List.take_add_one, hy, List.map_append]
          rfl
      rintro H5 ⟨acc, rfl, k5, hD5⟩
      rw [List.length_map, List.take_of_length_le (by omega)] at hD5
      have hfa5 := k5.get hfa
      have hpa5 := hpa.kp k5 noTup_nil
      refine ⟨_, rfl, fa, rfl, ⟨_, SqL.of hfa5⟩, fun D2 hD2 => ?_⟩
      have nDD : D ≠ D2 := ne_of_none hD5 hD2
      refine lc_it walk_list (LcI (tbOf K) H5 D2 (fun i acc => acc = wentV (ps.take i))) (LcI.start hD2 rfl) (fun i H' _ ⟨_, _, kp, _⟩ => SqL.of (kp.get hfa5)) ?_ ?_
      · rintro i x H6 H7 hi ⟨acc, rfl, kp, hD6⟩ ⟨rfl, hx⟩
        rw [List.length_map] at hi
        obtain ⟨t, y, rfl, hy, et⟩ := PairsAt.get (hpa5.kp kp noTup_nil) hx
        refine ⟨rfl, _, rfl, t, _, 1, _, rfl, rfl, SqT.of et, at_of (j := 1) rfl rfl, LcI.next hD2 kp hD6 (Kp.refl _) ?_ ?_⟩
        · unfold wentV
          rw [List.length_map]
          exact small_of (m := 300) (Nat.le_trans (List.length_take_le _ _) (by omega))
        · unfold wentV
          rw [List.take_add_one, hy, List.map_append]
          rfl
      rintro H6 ⟨acc, rfl, k6, hD6⟩
      rw [List.length_map, List.take_of_length_le (by omega)] at hD6
      have hfa6 := k6.get hfa5
      have hpa6 := hpa5.kp k6 noTup_nil
      have hD6' := k6.get hD5
      refine ⟨_, rfl, _, rfl, fun g dg hg hdg _ => ⟨g, dg, D, D2, metV ps, wentV ps, rfl, upd_same, ?_, ?_, fun a' b' H7 fa' fb' go k7 => ⟨rfl, ?_⟩⟩⟩
      · rw [upd_ne (ne_of_none hD6' hg), upd_ne (ne_of_none hD6' hdg)]
        exact hD6'
      · rw [upd_ne (ne_of_none hD6 hg), upd_ne (ne_of_none hD6 hdg)]
        exact hD6
      have k67 : Kp (tbOf K) [] H6 H7 := Kp.made hg hdg k7
      have fa6 : H6 a' = none := free_upd (free_upd fa')
      have fb6 : H6 b' = none := free_upd (free_upd fb')
      have hD7 := k67.get hD6'
      have hE7 := k67.get hD6
      have hfa7 := k67.get hfa6
      have hpa7 := hpa6.kp k67 noTup_nil
      have gD : g ≠ D := (ne_of_none hD6' hg).symm
      have gE : g ≠ D2 := (ne_of_none hD6 hg).symm
      have aD : a' ≠ D := (ne_of_none hD6' fa6).symm
      have aE : a' ≠ D2 := (ne_of_none hD6 fa6).symm
      have bD : b' ≠ D := (ne_of_none hD6' fb6).symm
      have bE : b' ≠ D2 := (ne_of_none hD6 fb6).symm
      have fD : fa ≠ D := ne_of_none hfa hD
      have fE : fa ≠ D2 := ne_of_none hfa5 hD2
      refine ⟨_, rfl, .inl ⟨rfl, _, SqL.of hD7⟩, D, _, rfl, rfl, hD7, ?_⟩
      have k8 : Kp (tbOf K) [D] H7 (upd H7 D (.lst [])) := Kp.put hD7
      have hE8 := k8.get hE7 rfl (by simp [nDD.symm])
      have hpa8 := hpa7.kp k8 (noTup_nil.cons hD7 (fun _ z => by cases z))
      have hfa8 := k8.get hfa7 rfl (by simp [fD])
      have go8 := go.kp k8 (by simp [gD]) (by simp [aD]) (by simp [bD])
      generalize upd H7 D (.lst []) = H8 at k8 hE8 hpa8 hfa8 go8 ⊢
      refine ⟨_, rfl, .inl ⟨rfl, _, SqL.of hE8⟩, D2, _, _, rfl, rfl, hE8, by unfold wentV; rw [List.length_map]; exact small_of (m := 300) hpl, ?_⟩
      have k9 : Kp (tbOf K) [D2] H8 (upd H8 D2 (.lst (wentV ps ++ [.str "more"]))) := Kp.put hE8
      exact ⟨_, rfl, _, rfl, g, fa, a', b', ts, ps, rfl, go8.kp k9 (by simp [gE]) (by simp [aE]) (by simp [bE]), k9.get hfa8 rfl (by simp [fE]), hpa8.kp k9 (noTup_nil.cons hE8 (fun _ z => by cases z)), hpl, hgo, fun H' _ => q H'⟩
end
end Kf

namespace Kf
open PySem PySem.Spec PyProof.Rows L2
def dD (a : He.Defn) (x q : Str) (st : Stmt) : He.DefD := ⟨a, x, q, defArgs st, defBody st, defScope st, [], []⟩
def fnL : List He.DefD := [dD ("is_name", none) "is_name" "is_name" s_is_name, dD ("check_name", none) "check_name" "check_name" s_check_name, dD ("check_places", none) "check_places" "check_places" s_check_places, dD ("_law_mixed", none) "_law_mixed" "_law_mixed" s__law_mixed, dD ("_law_names", none) "_law_names" "_law_names" s__law_names, dD ("_law_drawn", none) "_law_drawn" "_law_drawn" s__law_drawn, dD ("_law_places", none) "_law_places" "_law_places" s__law_places, dD ("check_rule", none) "check_rule" "check_rule" s_check_rule, dD ("check_wishes", none) "check_wishes" "check_wishes" s_check_wishes, dD ("shelf_of", none) "shelf_of" "shelf_of" s_shelf_of, dD ("going", none) "going" "going" s_going, dD ("missed_in", none) "missed_in" "missed_in" s_missed_in, dD ("_law_old", none) "_law_old" "_law_old" s__law_old, dD ("_law_cold", none) "_law_cold" "_law_cold" s__law_cold, dD ("_law_marked", none) "_law_marked" "_law_marked" s__law_marked, dD ("_law_due", none) "_law_due" "_law_due" s__law_due, dD ("_law_is_going", none) "_law_is_going" "_law_is_going" s__law_is_going, dD ("_law_shelf_right", none) "_law_shelf_right" "_law_shelf_right" s__law_shelf_right, dD ("law", none) "law" "law" s_law, dD ("Old", some "__init__") "__init__" "Shelf.__init__" s_Shelf___init__, dD ("Old", some "wish") "wish" "Shelf.wish" s_Shelf_wish, dD ("Old", some "places") "places" "Shelf.places" s_Shelf_places, dD ("Old", some "things") "things" "Shelf.things" s_Shelf_things, dD ("Old", some "met") "met" "Shelf.met" s_Shelf_met, dD ("Old", some "missed") "missed" "Shelf.missed" s_Shelf_missed, dD ("Old", some "_free_a_place") "_free_a_place" "Shelf._free_a_place" s_Shelf__free_a_place, dD ("Old", some "_pick_going") "_pick_going" "Old._pick_going" s_Old__pick_going, dD ("Old", some "_note_wish") "_note_wish" "Shelf._note_wish" s_Shelf__note_wish, dD ("Cold", some "__init__") "__init__" "Shelf.__init__" s_Shelf___init__, dD ("Cold", some "wish") "wish" "Shelf.wish" s_Shelf_wish, dD ("Cold", some "places") "places" "Shelf.places" s_Shelf_places, dD ("Cold", some "things") "things" "Shelf.things" s_Shelf_things, dD ("Cold", some "met") "met" "Shelf.met" s_Shelf_met, dD ("Cold", some "missed") "missed" "Shelf.missed" s_Shelf_missed, dD ("Cold", some "_free_a_place") "_free_a_place" "Shelf._free_a_place" s_Shelf__free_a_place, dD ("Cold", some "_pick_going") "_pick_going" "Cold._pick_going" s_Cold__pick_going, dD ("Cold", some "_note_wish") "_note_wish" "Cold._note_wish" s_Cold__note_wish, dD ("Marked", some "__init__") "__init__" "Marked.__init__" s_Marked___init__, dD ("Marked", some "wish") "wish" "Shelf.wish" s_Shelf_wish, dD ("Marked", some "places") "places" "Shelf.places" s_Shelf_places, dD ("Marked", some "things") "things" "Shelf.things" s_Shelf_things, dD ("Marked", some "met") "met" "Shelf.met" s_Shelf_met, dD ("Marked", some "missed") "missed" "Shelf.missed" s_Shelf_missed, dD ("Marked", some "_free_a_place") "_free_a_place" "Shelf._free_a_place" s_Shelf__free_a_place, dD ("Marked", some "_pick_going") "_pick_going" "Marked._pick_going" s_Marked__pick_going, dD ("Marked", some "_note_wish") "_note_wish" "Marked._note_wish" s_Marked__note_wish, dD ("Shelf", some "__init__") "__init__" "Shelf.__init__" s_Shelf___init__, dD ("Going", some "__init__") "__init__" "Going.__init__" s_Going___init__]
def faL : List He.Fa := [.glo "is_name", .glo "check_name", .glo "check_places", .glo "_law_mixed", .glo "_law_names", .glo "_law_drawn", .glo "_law_places", .free "type", .free "str", .free "len", .free "all", .free "int", .free "sum", .free "enumerate", .free "range", .int "MOST_LETTERS" 8, .int "MOST_PLACES" 20, .int "MOST_WISHES" 300, .glo "check_rule", .glo "check_wishes", .glo "shelf_of", .glo "going", .glo "missed_in", .glo "_law_old", .glo "_law_cold", .glo "_law_marked", .glo "_law_due", .glo "_law_is_going", .glo "_law_shelf_right", .glo "law", .meth "Old" "__init__", .meth "Old" "wish", .meth "Old" "places", .meth "Old" "things", .meth "Old" "met", .meth "Old" "missed", .meth "Old" "_free_a_place", .meth "Old" "_pick_going", .meth "Old" "_note_wish", .glo "Old", .cls "Old", .mkr "Old", .noat "Old" "_size", .noat "Old" "_row", .noat "Old" "_met", .noat "Old" "_missed", .meth "Cold" "__init__", .meth "Cold" "wish", .meth "Cold" "places", .meth "Cold" "things", .meth "Cold" "met", .meth "Cold" "missed", .meth "Cold" "_free_a_place", .meth "Cold" "_pick_going", .meth "Cold" "_note_wish", .glo "Cold", .cls "Cold", .mkr "Cold", .noat "Cold" "_size", .noat "Cold" "_row", .noat "Cold" "_met", .noat "Cold" "_missed", .meth "Marked" "__init__", .meth "Marked" "wish", .meth "Marked" "places", .meth "Marked" "things", .meth "Marked" "met", .meth "Marked" "missed", .meth "Marked" "_free_a_place", .meth "Marked" "_pick_going", .meth "Marked" "_note_wish", .glo "Marked", .cls "Marked", .mkr "Marked", .noat "Marked" "_size", .noat "Marked" "_row", .noat "Marked" "_met", .noat "Marked" "_missed", .noat "Marked" "_marks", .noat "Marked" "_rounds", .meth "Shelf" "__init__", .meth "Going" "__init__", .glo "Going", .cls "Going", .mkr "Going", .noat "Going" "were_met", .noat "Going" "went", .glo "Shelf", .glo "RULES", .free "sorted", .free "list", .free "isinstance", .free "bool", .free "min"]
def exL (K : PySem.W.Frag) : Bool := (decide (PySem.W.kitOne K (.ref (He.ga K "Old")) (.ref (He.ga K "Old")) = some true)) && (decide (PySem.W.kitOne K (.ref (He.ga K "Old")) (.ref (He.ga K "Cold")) = some false)) && (decide (PySem.W.kitOne K (.ref (He.ga K "Old")) (.ref (He.ga K "Marked")) = some false)) && (decide (PySem.W.kitOne K (.ref (He.ga K "Cold")) (.ref (He.ga K "Old")) = some false)) && (decide (PySem.W.kitOne K (.ref (He.ga K "Cold")) (.ref (He.ga K "Cold")) = some true)) && (decide (PySem.W.kitOne K (.ref (He.ga K "Cold")) (.ref (He.ga K "Marked")) = some false)) && (decide (PySem.W.kitOne K (.ref (He.ga K "Marked")) (.ref (He.ga K "Old")) = some false)) && (decide (PySem.W.kitOne K (.ref (He.ga K "Marked")) (.ref (He.ga K "Cold")) = some false)) && (decide (PySem.W.kitOne K (.ref (He.ga K "Marked")) (.ref (He.ga K "Marked")) = some true)) && (decide (PySem.W.findIn K (.ref (He.ga K "Old")) "__class__" = some (some (.builtin "object.__class__")))) && (decide (PySem.W.specialIn K (.builtin "object.__class__") "__get__" = some (some (.builtin "getset_descriptor.__get__")))) && (decide (PySem.W.takesIn K (.builtin "object.__class__") = some true)) && (decide (PySem.W.mroIn K (He.ga K "Old") (.type "object") = some true)) && (decide (PySem.W.findIn K (.ref (He.ga K "Cold")) "__class__" = some (some (.builtin "object.__class__")))) && (decide (PySem.W.specialIn K (.builtin "object.__class__") "__get__" = some (some (.builtin "getset_descriptor.__get__")))) && (decide (PySem.W.takesIn K (.builtin "object.__class__") = some true)) && (decide (PySem.W.mroIn K (He.ga K "Cold") (.type "object") = some true)) && (decide (PySem.W.findIn K (.ref (He.ga K "Marked")) "__class__" = some (some (.builtin "object.__class__")))) && (decide (PySem.W.specialIn K (.builtin "object.__class__") "__get__" = some (some (.builtin "getset_descriptor.__get__")))) && (decide (PySem.W.takesIn K (.builtin "object.__class__") = some true)) && (decide (PySem.W.mroIn K (He.ga K "Marked") (.type "object") = some true)) && (decide (PySem.W.findIn K (.ref (He.ga K "Going")) "__class__" = some (some (.builtin "object.__class__")))) && (decide (PySem.W.specialIn K (.builtin "object.__class__") "__get__" = some (some (.builtin "getset_descriptor.__get__")))) && (decide (PySem.W.takesIn K (.builtin "object.__class__") = some true)) && (decide (PySem.W.mroIn K (He.ga K "Going") (.type "object") = some true)) && (decide (PySem.W.kitOne K (.ref (He.ga K "Going")) (.ref (He.ga K "Going")) = some true)) && (PySem.W.readsIn K (He.ga K "Shelf") (.type "type")) && (decide (PySem.W.specialIn K (.ref (He.ga K "Shelf")) "__getattribute__" = some (some (.builtin "type.__getattribute__")))) && (fclsB K (He.ga K "Shelf") "__init__" (He.ma K (He.ga K "Shelf") "__init__")) && (He.tupB K "RULES" [.str "old", .str "cold", .str "marked"])
def tfL : List He.Defn := [("is_name", none)]
abbrev RL : PySem.W.OpenRow := PySem.W.OpenLaw.row PySem.Challenge.rw_keepfew_k05_goings_by_rule
abbrev hkL : PySem.W.Hook := hookY 6 faL fnL [] tfL exL
def obL (s : PySem.W.SharedT) : He.AlX := obsY 6 faL fnL [] tfL exL (HandSHeadRun.getT s)
theorem obL_eq (s : PySem.W.SharedT) : obL s = hkL.obs s.abs := obsY_eq (HandSHeadRun.getT_eq s)
def looseL : List Str := ["KeepError", "BadName", "BadPlaces", "BadRule", "BadWishes", "MOST_LETTERS", "MOST_PLACES", "MOST_WISHES", "RULES", "is_name", "check_name", "check_places", "check_rule", "check_wishes", "Shelf", "Old", "Cold", "Marked", "shelf_of", "Going", "going", "missed_in", "_law_mixed", "_law_names", "_law_drawn", "_law_places", "_law_old", "_law_cold", "_law_marked", "_law_due", "_law_is_going", "_law_shelf_right"]
theorem runL (w : World) : HandSHeadRun.RunEq RL (PySem.W.view RL.prog [37]) hkL obL 4000 looseL w := by
  intro os
  kernel_rfl
end Kf
namespace Kf
open PySem PySem.Spec PyProof.Rows L2
section
variable {P : Program} {w : World} {K : PySem.W.Frag} {h : Heap} {mg : Str → Option Value} {fa : Addr}
theorem lawAt (X : K.In h) (G : h.Ns mainGlobals mg) (hfa : mg ("law" : Str) = some (.ref fa)) (c : He.SaysX faL fnL [] tfL exL w h K) : LamX.LawAtS PySem.Challenge.rw_keepfew_k05_goings_by_rule w K L2.CX0 7 63 "_law_script" mg fa h := by
  have cd := c.t.d
  have g_is_name := He.glo_ok X G (cd.fact 0 (f := .glo "is_name") rfl)
  have g_check_name := He.glo_ok X G (cd.fact 1 (f := .glo "check_name") rfl)
  have g_check_places := He.glo_ok X G (cd.fact 2 (f := .glo "check_places") rfl)
  have g__law_mixed := He.glo_ok X G (cd.fact 3 (f := .glo "_law_mixed") rfl)
  have g__law_names := He.glo_ok X G (cd.fact 4 (f := .glo "_law_names") rfl)
  have g__law_drawn := He.glo_ok X G (cd.fact 5 (f := .glo "_law_drawn") rfl)
  have g__law_places := He.glo_ok X G (cd.fact 6 (f := .glo "_law_places") rfl)
  have z_type := He.free_ok X G (cd.fact 7 (f := .free "type") rfl)
  have z_str := He.free_ok X G (cd.fact 8 (f := .free "str") rfl)
  have z_len := He.free_ok X G (cd.fact 9 (f := .free "len") rfl)
  have z_all := He.free_ok X G (cd.fact 10 (f := .free "all") rfl)
  have z_int := He.free_ok X G (cd.fact 11 (f := .free "int") rfl)
  have z_sum := He.free_ok X G (cd.fact 12 (f := .free "sum") rfl)
  have z_enumerate := He.free_ok X G (cd.fact 13 (f := .free "enumerate") rfl)
  have z_range := He.free_ok X G (cd.fact 14 (f := .free "range") rfl)
  obtain ⟨t_MOST_LETTERS, n_MOST_LETTERS⟩ := He.int_ok X G (cd.fact 15 (f := .int "MOST_LETTERS" 8) rfl)
  obtain ⟨t_MOST_PLACES, n_MOST_PLACES⟩ := He.int_ok X G (cd.fact 16 (f := .int "MOST_PLACES" 20) rfl)
  obtain ⟨t_MOST_WISHES, n_MOST_WISHES⟩ := He.int_ok X G (cd.fact 17 (f := .int "MOST_WISHES" 300) rfl)
  have g_check_rule := He.glo_ok X G (cd.fact 18 (f := .glo "check_rule") rfl)
  have g_check_wishes := He.glo_ok X G (cd.fact 19 (f := .glo "check_wishes") rfl)
  have g_shelf_of := He.glo_ok X G (cd.fact 20 (f := .glo "shelf_of") rfl)
  have g_going := He.glo_ok X G (cd.fact 21 (f := .glo "going") rfl)
  have g_missed_in := He.glo_ok X G (cd.fact 22 (f := .glo "missed_in") rfl)
  have g__law_old := He.glo_ok X G (cd.fact 23 (f := .glo "_law_old") rfl)
  have g__law_cold := He.glo_ok X G (cd.fact 24 (f := .glo "_law_cold") rfl)
  have g__law_marked := He.glo_ok X G (cd.fact 25 (f := .glo "_law_marked") rfl)
  have g__law_due := He.glo_ok X G (cd.fact 26 (f := .glo "_law_due") rfl)
  have g__law_is_going := He.glo_ok X G (cd.fact 27 (f := .glo "_law_is_going") rfl)
  have g__law_shelf_right := He.glo_ok X G (cd.fact 28 (f := .glo "_law_shelf_right") rfl)
  have g_law := He.glo_ok X G (cd.fact 29 (f := .glo "law") rfl)
  have me_Old___init__ := He.meth_ok (cd.fact 30 (f := .meth "Old" "__init__") rfl)
  have me_Old_wish := He.meth_ok (cd.fact 31 (f := .meth "Old" "wish") rfl)
  have me_Old_places := He.meth_ok (cd.fact 32 (f := .meth "Old" "places") rfl)
  have me_Old_things := He.meth_ok (cd.fact 33 (f := .meth "Old" "things") rfl)
  have me_Old_met := He.meth_ok (cd.fact 34 (f := .meth "Old" "met") rfl)
  have me_Old_missed := He.meth_ok (cd.fact 35 (f := .meth "Old" "missed") rfl)
  have me_Old__free_a_place := He.meth_ok (cd.fact 36 (f := .meth "Old" "_free_a_place") rfl)
  have me_Old__pick_going := He.meth_ok (cd.fact 37 (f := .meth "Old" "_pick_going") rfl)
  have me_Old__note_wish := He.meth_ok (cd.fact 38 (f := .meth "Old" "_note_wish") rfl)
  have g_Old := He.glo_ok X G (cd.fact 39 (f := .glo "Old") rfl)
  have cl_Old := He.cls_ok (cd.fact 40 (f := .cls "Old") rfl)
  have mk_Old := He.mkr_ok (cd.fact 41 (f := .mkr "Old") rfl)
  have na_Old__size := He.noat_ok (cd.fact 42 (f := .noat "Old" "_size") rfl)
  have na_Old__row := He.noat_ok (cd.fact 43 (f := .noat "Old" "_row") rfl)
  have na_Old__met := He.noat_ok (cd.fact 44 (f := .noat "Old" "_met") rfl)
  have na_Old__missed := He.noat_ok (cd.fact 45 (f := .noat "Old" "_missed") rfl)
  have me_Cold___init__ := He.meth_ok (cd.fact 46 (f := .meth "Cold" "__init__") rfl)
  have me_Cold_wish := He.meth_ok (cd.fact 47 (f := .meth "Cold" "wish") rfl)
  have me_Cold_places := He.meth_ok (cd.fact 48 (f := .meth "Cold" "places") rfl)
  have me_Cold_things := He.meth_ok (cd.fact 49 (f := .meth "Cold" "things") rfl)
  have me_Cold_met := He.meth_ok (cd.fact 50 (f := .meth "Cold" "met") rfl)
  have me_Cold_missed := He.meth_ok (cd.fact 51 (f := .meth "Cold" "missed") rfl)
  have me_Cold__free_a_place := He.meth_ok (cd.fact 52 (f := .meth "Cold" "_free_a_place") rfl)
  have me_Cold__pick_going := He.meth_ok (cd.fact 53 (f := .meth "Cold" "_pick_going") rfl)
  have me_Cold__note_wish := He.meth_ok (cd.fact 54 (f := .meth "Cold" "_note_wish") rfl)
  have g_Cold := He.glo_ok X G (cd.fact 55 (f := .glo "Cold") rfl)
  have cl_Cold := He.cls_ok (cd.fact 56 (f := .cls "Cold") rfl)
  have mk_Cold := He.mkr_ok (cd.fact 57 (f := .mkr "Cold") rfl)
  have na_Cold__size := He.noat_ok (cd.fact 58 (f := .noat "Cold" "_size") rfl)
  have na_Cold__row := He.noat_ok (cd.fact 59 (f := .noat "Cold" "_row") rfl)
  have na_Cold__met := He.noat_ok (cd.fact 60 (f := .noat "Cold" "_met") rfl)
  have na_Cold__missed := He.noat_ok (cd.fact 61 (f := .noat "Cold" "_missed") rfl)
  have me_Marked___init__ := He.meth_ok (cd.fact 62 (f := .meth "Marked" "__init__") rfl)
  have me_Marked_wish := He.meth_ok (cd.fact 63 (f := .meth "Marked" "wish") rfl)
  have me_Marked_places := He.meth_ok (cd.fact 64 (f := .meth "Marked" "places") rfl)
  have me_Marked_things := He.meth_ok (cd.fact 65 (f := .meth "Marked" "things") rfl)
  have me_Marked_met := He.meth_ok (cd.fact 66 (f := .meth "Marked" "met") rfl)
  have me_Marked_missed := He.meth_ok (cd.fact 67 (f := .meth "Marked" "missed") rfl)
  have me_Marked__free_a_place := He.meth_ok (cd.fact 68 (f := .meth "Marked" "_free_a_place") rfl)
  have me_Marked__pick_going := He.meth_ok (cd.fact 69 (f := .meth "Marked" "_pick_going") rfl)
  have me_Marked__note_wish := He.meth_ok (cd.fact 70 (f := .meth "Marked" "_note_wish") rfl)
  have g_Marked := He.glo_ok X G (cd.fact 71 (f := .glo "Marked") rfl)
  have cl_Marked := He.cls_ok (cd.fact 72 (f := .cls "Marked") rfl)
  have mk_Marked := He.mkr_ok (cd.fact 73 (f := .mkr "Marked") rfl)
  have na_Marked__size := He.noat_ok (cd.fact 74 (f := .noat "Marked" "_size") rfl)
  have na_Marked__row := He.noat_ok (cd.fact 75 (f := .noat "Marked" "_row") rfl)
  have na_Marked__met := He.noat_ok (cd.fact 76 (f := .noat "Marked" "_met") rfl)
  have na_Marked__missed := He.noat_ok (cd.fact 77 (f := .noat "Marked" "_missed") rfl)
  have na_Marked__marks := He.noat_ok (cd.fact 78 (f := .noat "Marked" "_marks") rfl)
  have na_Marked__rounds := He.noat_ok (cd.fact 79 (f := .noat "Marked" "_rounds") rfl)
  have me_Shelf___init__ := He.meth_ok (cd.fact 80 (f := .meth "Shelf" "__init__") rfl)
  have me_Going___init__ := He.meth_ok (cd.fact 81 (f := .meth "Going" "__init__") rfl)
  have g_Going := He.glo_ok X G (cd.fact 82 (f := .glo "Going") rfl)
  have cl_Going := He.cls_ok (cd.fact 83 (f := .cls "Going") rfl)
  have mk_Going := He.mkr_ok (cd.fact 84 (f := .mkr "Going") rfl)
  have na_Going_were_met := He.noat_ok (cd.fact 85 (f := .noat "Going" "were_met") rfl)
  have na_Going_went := He.noat_ok (cd.fact 86 (f := .noat "Going" "went") rfl)
  have g_Shelf := He.glo_ok X G (cd.fact 87 (f := .glo "Shelf") rfl)
  have g_RULES := He.glo_ok X G (cd.fact 88 (f := .glo "RULES") rfl)
  have z_sorted := He.free_ok X G (cd.fact 89 (f := .free "sorted") rfl)
  have z_list := He.free_ok X G (cd.fact 90 (f := .free "list") rfl)
  have z_isinstance := He.free_ok X G (cd.fact 91 (f := .free "isinstance") rfl)
  have z_bool := He.free_ok X G (cd.fact 92 (f := .free "bool") rfl)
  have z_min := He.free_ok X G (cd.fact 93 (f := .free "min") rfl)
  obtain ⟨fd_is_name, F_is_name⟩ := cd.def_ 0 (d := dD ("is_name", none) "is_name" "is_name" s_is_name) rfl
  have F_is_name : FnP K "is_name" "is_name" s_is_name (He.fAd K ("is_name", none)) fd_is_name := F_is_name
  obtain ⟨fd_check_name, F_check_name⟩ := cd.def_ 1 (d := dD ("check_name", none) "check_name" "check_name" s_check_name) rfl
  have F_check_name : FnP K "check_name" "check_name" s_check_name (He.fAd K ("check_name", none)) fd_check_name := F_check_name
  obtain ⟨fd_check_places, F_check_places⟩ := cd.def_ 2 (d := dD ("check_places", none) "check_places" "check_places" s_check_places) rfl
  have F_check_places : FnP K "check_places" "check_places" s_check_places (He.fAd K ("check_places", none)) fd_check_places := F_check_places
  obtain ⟨fd__law_mixed, F__law_mixed⟩ := cd.def_ 3 (d := dD ("_law_mixed", none) "_law_mixed" "_law_mixed" s__law_mixed) rfl
  have F__law_mixed : FnP K "_law_mixed" "_law_mixed" s__law_mixed (He.fAd K ("_law_mixed", none)) fd__law_mixed := F__law_mixed
  obtain ⟨fd__law_names, F__law_names⟩ := cd.def_ 4 (d := dD ("_law_names", none) "_law_names" "_law_names" s__law_names) rfl
  have F__law_names : FnP K "_law_names" "_law_names" s__law_names (He.fAd K ("_law_names", none)) fd__law_names := F__law_names
  obtain ⟨fd__law_drawn, F__law_drawn⟩ := cd.def_ 5 (d := dD ("_law_drawn", none) "_law_drawn" "_law_drawn" s__law_drawn) rfl
  have F__law_drawn : FnP K "_law_drawn" "_law_drawn" s__law_drawn (He.fAd K ("_law_drawn", none)) fd__law_drawn := F__law_drawn
  obtain ⟨fd__law_places, F__law_places⟩ := cd.def_ 6 (d := dD ("_law_places", none) "_law_places" "_law_places" s__law_places) rfl
  have F__law_places : FnP K "_law_places" "_law_places" s__law_places (He.fAd K ("_law_places", none)) fd__law_places := F__law_places
  obtain ⟨fd_check_rule, F_check_rule⟩ := cd.def_ 7 (d := dD ("check_rule", none) "check_rule" "check_rule" s_check_rule) rfl
  have F_check_rule : FnP K "check_rule" "check_rule" s_check_rule (He.fAd K ("check_rule", none)) fd_check_rule := F_check_rule
  obtain ⟨fd_check_wishes, F_check_wishes⟩ := cd.def_ 8 (d := dD ("check_wishes", none) "check_wishes" "check_wishes" s_check_wishes) rfl
  have F_check_wishes : FnP K "check_wishes" "check_wishes" s_check_wishes (He.fAd K ("check_wishes", none)) fd_check_wishes := F_check_wishes
  obtain ⟨fd_shelf_of, F_shelf_of⟩ := cd.def_ 9 (d := dD ("shelf_of", none) "shelf_of" "shelf_of" s_shelf_of) rfl
  have F_shelf_of : FnP K "shelf_of" "shelf_of" s_shelf_of (He.fAd K ("shelf_of", none)) fd_shelf_of := F_shelf_of
  obtain ⟨fd_going, F_going⟩ := cd.def_ 10 (d := dD ("going", none) "going" "going" s_going) rfl
  have F_going : FnP K "going" "going" s_going (He.fAd K ("going", none)) fd_going := F_going
  obtain ⟨fd_missed_in, F_missed_in⟩ := cd.def_ 11 (d := dD ("missed_in", none) "missed_in" "missed_in" s_missed_in) rfl
  have F_missed_in : FnP K "missed_in" "missed_in" s_missed_in (He.fAd K ("missed_in", none)) fd_missed_in := F_missed_in
  obtain ⟨fd__law_old, F__law_old⟩ := cd.def_ 12 (d := dD ("_law_old", none) "_law_old" "_law_old" s__law_old) rfl
  have F__law_old : FnP K "_law_old" "_law_old" s__law_old (He.fAd K ("_law_old", none)) fd__law_old := F__law_old
  obtain ⟨fd__law_cold, F__law_cold⟩ := cd.def_ 13 (d := dD ("_law_cold", none) "_law_cold" "_law_cold" s__law_cold) rfl
  have F__law_cold : FnP K "_law_cold" "_law_cold" s__law_cold (He.fAd K ("_law_cold", none)) fd__law_cold := F__law_cold
  obtain ⟨fd__law_marked, F__law_marked⟩ := cd.def_ 14 (d := dD ("_law_marked", none) "_law_marked" "_law_marked" s__law_marked) rfl
  have F__law_marked : FnP K "_law_marked" "_law_marked" s__law_marked (He.fAd K ("_law_marked", none)) fd__law_marked := F__law_marked
  obtain ⟨fd__law_due, F__law_due⟩ := cd.def_ 15 (d := dD ("_law_due", none) "_law_due" "_law_due" s__law_due) rfl
  have F__law_due : FnP K "_law_due" "_law_due" s__law_due (He.fAd K ("_law_due", none)) fd__law_due := F__law_due
  obtain ⟨fd__law_is_going, F__law_is_going⟩ := cd.def_ 16 (d := dD ("_law_is_going", none) "_law_is_going" "_law_is_going" s__law_is_going) rfl
  have F__law_is_going : FnP K "_law_is_going" "_law_is_going" s__law_is_going (He.fAd K ("_law_is_going", none)) fd__law_is_going := F__law_is_going
  obtain ⟨fd__law_shelf_right, F__law_shelf_right⟩ := cd.def_ 17 (d := dD ("_law_shelf_right", none) "_law_shelf_right" "_law_shelf_right" s__law_shelf_right) rfl
  have F__law_shelf_right : FnP K "_law_shelf_right" "_law_shelf_right" s__law_shelf_right (He.fAd K ("_law_shelf_right", none)) fd__law_shelf_right := F__law_shelf_right
  obtain ⟨fd_law, F_law⟩ := cd.def_ 18 (d := dD ("law", none) "law" "law" s_law) rfl
  have F_law : FnP K "law" "law" s_law (He.fAd K ("law", none)) fd_law := F_law
  obtain ⟨fd_Old___init__, F_Old___init__⟩ := cd.def_ 19 (d := dD ("Old", some "__init__") "__init__" "Shelf.__init__" s_Shelf___init__) rfl
  have F_Old___init__ : FnP K "__init__" "Shelf.__init__" s_Shelf___init__ (He.fAd K ("Old", some "__init__")) fd_Old___init__ := F_Old___init__
  obtain ⟨fd_Old_wish, F_Old_wish⟩ := cd.def_ 20 (d := dD ("Old", some "wish") "wish" "Shelf.wish" s_Shelf_wish) rfl
  have F_Old_wish : FnP K "wish" "Shelf.wish" s_Shelf_wish (He.fAd K ("Old", some "wish")) fd_Old_wish := F_Old_wish
  obtain ⟨fd_Old_places, F_Old_places⟩ := cd.def_ 21 (d := dD ("Old", some "places") "places" "Shelf.places" s_Shelf_places) rfl
  have F_Old_places : FnP K "places" "Shelf.places" s_Shelf_places (He.fAd K ("Old", some "places")) fd_Old_places := F_Old_places
  obtain ⟨fd_Old_things, F_Old_things⟩ := cd.def_ 22 (d := dD ("Old", some "things") "things" "Shelf.things" s_Shelf_things) rfl
  have F_Old_things : FnP K "things" "Shelf.things" s_Shelf_things (He.fAd K ("Old", some "things")) fd_Old_things := F_Old_things
  obtain ⟨fd_Old_met, F_Old_met⟩ := cd.def_ 23 (d := dD ("Old", some "met") "met" "Shelf.met" s_Shelf_met) rfl
  have F_Old_met : FnP K "met" "Shelf.met" s_Shelf_met (He.fAd K ("Old", some "met")) fd_Old_met := F_Old_met
  obtain ⟨fd_Old_missed, F_Old_missed⟩ := cd.def_ 24 (d := dD ("Old", some "missed") "missed" "Shelf.missed" s_Shelf_missed) rfl
  have F_Old_missed : FnP K "missed" "Shelf.missed" s_Shelf_missed (He.fAd K ("Old", some "missed")) fd_Old_missed := F_Old_missed
  obtain ⟨fd_Old__free_a_place, F_Old__free_a_place⟩ := cd.def_ 25 (d := dD ("Old", some "_free_a_place") "_free_a_place" "Shelf._free_a_place" s_Shelf__free_a_place) rfl
  have F_Old__free_a_place : FnP K "_free_a_place" "Shelf._free_a_place" s_Shelf__free_a_place (He.fAd K ("Old", some "_free_a_place")) fd_Old__free_a_place := F_Old__free_a_place
  obtain ⟨fd_Old__pick_going, F_Old__pick_going⟩ := cd.def_ 26 (d := dD ("Old", some "_pick_going") "_pick_going" "Old._pick_going" s_Old__pick_going) rfl
  have F_Old__pick_going : FnP K "_pick_going" "Old._pick_going" s_Old__pick_going (He.fAd K ("Old", some "_pick_going")) fd_Old__pick_going := F_Old__pick_going
  obtain ⟨fd_Old__note_wish, F_Old__note_wish⟩ := cd.def_ 27 (d := dD ("Old", some "_note_wish") "_note_wish" "Shelf._note_wish" s_Shelf__note_wish) rfl
  have F_Old__note_wish : FnP K "_note_wish" "Shelf._note_wish" s_Shelf__note_wish (He.fAd K ("Old", some "_note_wish")) fd_Old__note_wish := F_Old__note_wish
  obtain ⟨fd_Cold___init__, F_Cold___init__⟩ := cd.def_ 28 (d := dD ("Cold", some "__init__") "__init__" "Shelf.__init__" s_Shelf___init__) rfl
  have F_Cold___init__ : FnP K "__init__" "Shelf.__init__" s_Shelf___init__ (He.fAd K ("Cold", some "__init__")) fd_Cold___init__ := F_Cold___init__
  obtain ⟨fd_Cold_wish, F_Cold_wish⟩ := cd.def_ 29 (d := dD ("Cold", some "wish") "wish" "Shelf.wish" s_Shelf_wish) rfl
  have F_Cold_wish : FnP K "wish" "Shelf.wish" s_Shelf_wish (He.fAd K ("Cold", some "wish")) fd_Cold_wish := F_Cold_wish
  obtain ⟨fd_Cold_places, F_Cold_places⟩ := cd.def_ 30 (d := dD ("Cold", some "places") "places" "Shelf.places" s_Shelf_places) rfl
  have F_Cold_places : FnP K "places" "Shelf.places" s_Shelf_places (He.fAd K ("Cold", some "places")) fd_Cold_places := F_Cold_places
  obtain ⟨fd_Cold_things, F_Cold_things⟩ := cd.def_ 31 (d := dD ("Cold", some "things") "things" "Shelf.things" s_Shelf_things) rfl
  have F_Cold_things : FnP K "things" "Shelf.things" s_Shelf_things (He.fAd K ("Cold", some "things")) fd_Cold_things := F_Cold_things
  obtain ⟨fd_Cold_met, F_Cold_met⟩ := cd.def_ 32 (d := dD ("Cold", some "met") "met" "Shelf.met" s_Shelf_met) rfl
  have F_Cold_met : FnP K "met" "Shelf.met" s_Shelf_met (He.fAd K ("Cold", some "met")) fd_Cold_met := F_Cold_met
  obtain ⟨fd_Cold_missed, F_Cold_missed⟩ := cd.def_ 33 (d := dD ("Cold", some "missed") "missed" "Shelf.missed" s_Shelf_missed) rfl
  have F_Cold_missed : FnP K "missed" "Shelf.missed" s_Shelf_missed (He.fAd K ("Cold", some "missed")) fd_Cold_missed := F_Cold_missed
  obtain ⟨fd_Cold__free_a_place, F_Cold__free_a_place⟩ := cd.def_ 34 (d := dD ("Cold", some "_free_a_place") "_free_a_place" "Shelf._free_a_place" s_Shelf__free_a_place) rfl
  have F_Cold__free_a_place : FnP K "_free_a_place" "Shelf._free_a_place" s_Shelf__free_a_place (He.fAd K ("Cold", some "_free_a_place")) fd_Cold__free_a_place := F_Cold__free_a_place
  obtain ⟨fd_Cold__pick_going, F_Cold__pick_going⟩ := cd.def_ 35 (d := dD ("Cold", some "_pick_going") "_pick_going" "Cold._pick_going" s_Cold__pick_going) rfl
  have F_Cold__pick_going : FnP K "_pick_going" "Cold._pick_going" s_Cold__pick_going (He.fAd K ("Cold", some "_pick_going")) fd_Cold__pick_going := F_Cold__pick_going
  obtain ⟨fd_Cold__note_wish, F_Cold__note_wish⟩ := cd.def_ 36 (d := dD ("Cold", some "_note_wish") "_note_wish" "Cold._note_wish" s_Cold__note_wish) rfl
  have F_Cold__note_wish : FnP K "_note_wish" "Cold._note_wish" s_Cold__note_wish (He.fAd K ("Cold", some "_note_wish")) fd_Cold__note_wish := F_Cold__note_wish
  obtain ⟨fd_Marked___init__, F_Marked___init__⟩ := cd.def_ 37 (d := dD ("Marked", some "__init__") "__init__" "Marked.__init__" s_Marked___init__) rfl
  have F_Marked___init__ : FnP K "__init__" "Marked.__init__" s_Marked___init__ (He.fAd K ("Marked", some "__init__")) fd_Marked___init__ := F_Marked___init__
  obtain ⟨fd_Marked_wish, F_Marked_wish⟩ := cd.def_ 38 (d := dD ("Marked", some "wish") "wish" "Shelf.wish" s_Shelf_wish) rfl
  have F_Marked_wish : FnP K "wish" "Shelf.wish" s_Shelf_wish (He.fAd K ("Marked", some "wish")) fd_Marked_wish := F_Marked_wish
  obtain ⟨fd_Marked_places, F_Marked_places⟩ := cd.def_ 39 (d := dD ("Marked", some "places") "places" "Shelf.places" s_Shelf_places) rfl
  have F_Marked_places : FnP K "places" "Shelf.places" s_Shelf_places (He.fAd K ("Marked", some "places")) fd_Marked_places := F_Marked_places
  obtain ⟨fd_Marked_things, F_Marked_things⟩ := cd.def_ 40 (d := dD ("Marked", some "things") "things" "Shelf.things" s_Shelf_things) rfl
  have F_Marked_things : FnP K "things" "Shelf.things" s_Shelf_things (He.fAd K ("Marked", some "things")) fd_Marked_things := F_Marked_things
  obtain ⟨fd_Marked_met, F_Marked_met⟩ := cd.def_ 41 (d := dD ("Marked", some "met") "met" "Shelf.met" s_Shelf_met) rfl
  have F_Marked_met : FnP K "met" "Shelf.met" s_Shelf_met (He.fAd K ("Marked", some "met")) fd_Marked_met := F_Marked_met
  obtain ⟨fd_Marked_missed, F_Marked_missed⟩ := cd.def_ 42 (d := dD ("Marked", some "missed") "missed" "Shelf.missed" s_Shelf_missed) rfl
  have F_Marked_missed : FnP K "missed" "Shelf.missed" s_Shelf_missed (He.fAd K ("Marked", some "missed")) fd_Marked_missed := F_Marked_missed
  obtain ⟨fd_Marked__free_a_place, F_Marked__free_a_place⟩ := cd.def_ 43 (d := dD ("Marked", some "_free_a_place") "_free_a_place" "Shelf._free_a_place" s_Shelf__free_a_place) rfl
  have F_Marked__free_a_place : FnP K "_free_a_place" "Shelf._free_a_place" s_Shelf__free_a_place (He.fAd K ("Marked", some "_free_a_place")) fd_Marked__free_a_place := F_Marked__free_a_place
  obtain ⟨fd_Marked__pick_going, F_Marked__pick_going⟩ := cd.def_ 44 (d := dD ("Marked", some "_pick_going") "_pick_going" "Marked._pick_going" s_Marked__pick_going) rfl
  have F_Marked__pick_going : FnP K "_pick_going" "Marked._pick_going" s_Marked__pick_going (He.fAd K ("Marked", some "_pick_going")) fd_Marked__pick_going := F_Marked__pick_going
  obtain ⟨fd_Marked__note_wish, F_Marked__note_wish⟩ := cd.def_ 45 (d := dD ("Marked", some "_note_wish") "_note_wish" "Marked._note_wish" s_Marked__note_wish) rfl
  have F_Marked__note_wish : FnP K "_note_wish" "Marked._note_wish" s_Marked__note_wish (He.fAd K ("Marked", some "_note_wish")) fd_Marked__note_wish := F_Marked__note_wish
  obtain ⟨fd_Shelf___init__, F_Shelf___init__⟩ := cd.def_ 46 (d := dD ("Shelf", some "__init__") "__init__" "Shelf.__init__" s_Shelf___init__) rfl
  have F_Shelf___init__ : FnP K "__init__" "Shelf.__init__" s_Shelf___init__ (He.fAd K ("Shelf", some "__init__")) fd_Shelf___init__ := F_Shelf___init__
  obtain ⟨fd_Going___init__, F_Going___init__⟩ := cd.def_ 47 (d := dD ("Going", some "__init__") "__init__" "Going.__init__" s_Going___init__) rfl
  have F_Going___init__ : FnP K "__init__" "Going.__init__" s_Going___init__ (He.fAd K ("Going", some "__init__")) fd_Going___init__ := F_Going___init__
  have e := hfa.symm.trans g_law
  cases e
  have hx := c.more
  unfold exL at hx
  simp only [Bool.and_eq_true, decide_eq_true_eq] at hx
  obtain ⟨⟨⟨⟨⟨⟨⟨⟨⟨⟨⟨⟨⟨⟨⟨⟨⟨⟨⟨⟨⟨⟨⟨⟨⟨⟨⟨⟨⟨x0, x1⟩, x2⟩, x3⟩, x4⟩, x5⟩, x6⟩, x7⟩, x8⟩, x9⟩, x10⟩, x11⟩, x12⟩, x13⟩, x14⟩, x15⟩, x16⟩, x17⟩, x18⟩, x19⟩, x20⟩, x21⟩, x22⟩, x23⟩, x24⟩, x25⟩, x26⟩, x27⟩, x28⟩, x29⟩ := hx
  refine ⟨fd_law, [He.cT K ("is_name", none)], spLaw K, fun p hp => ?_, fun p hp => ?_, fun p hp => ?_, fun s u => ?_, fun H a ns hl _ hT hS => ?_, fun base KX hN hTB => ?_⟩
  · rw [List.mem_singleton.mp hp]
    exact c.empty _ (by unfold tfL; exact List.mem_cons_self)
  · rw [List.mem_singleton.mp hp]
    exact c.out _ (by unfold tfL; exact List.mem_cons_self)
  · rw [List.mem_singleton.mp hp]
    exact PySem.W.codeHd_of_K X (c.hd _ (by unfold tfL; exact List.mem_cons_self))
  · exact FunD.bindsA (ps := ["_law_script"]) F_law (fun _ _ _ _ _ _ us hl => match us, hl with | [_], _ => rfl) s [u] rfl
  · exact ⟨a, ns, rfl, hS, hl, ⟨#[], hT _ List.mem_cons_self, trivial⟩, fun _ => rfl⟩
  have TB0 := hTB _ (List.mem_cons_self)
  have TB : GxR.TabB base mg (cIsName K) (tbOf K) := ⟨TB0.code, TB0.bm, TB0.gP⟩
  have G_is_name : Glob PySem.Challenge.rw_keepfew_k05_goings_by_rule.prog w K mg base CX0 1 "is_name" ["value"] (spIsName K) := glob_of F_is_name g_is_name (fun _ _ _ _ _ _ us hl => match us, hl with | [_], _ => rfl) (ok_isname F_is_name TB n_MOST_LETTERS z_type z_str z_len z_all)
  have G_check_name : Glob PySem.Challenge.rw_keepfew_k05_goings_by_rule.prog w K mg base CX0 2 "check_name" ["name"] (spCheckName K) := glob_of F_check_name g_check_name (fun _ _ _ _ _ _ us hl => match us, hl with | [_], _ => rfl) (ok_checkname F_check_name G_is_name)
  have G_check_places : Glob PySem.Challenge.rw_keepfew_k05_goings_by_rule.prog w K mg base CX0 1 "check_places" ["places"] spCheckPlaces := glob_of F_check_places g_check_places (fun _ _ _ _ _ _ us hl => match us, hl with | [_], _ => rfl) (ok_checkplaces F_check_places n_MOST_PLACES z_type z_int)
  have G__law_mixed : Glob PySem.Challenge.rw_keepfew_k05_goings_by_rule.prog w K mg base CX0 1 "_law_mixed" ["_law_cell", "_law_k"] spMixed := glob_of F__law_mixed g__law_mixed (fun _ _ _ _ _ _ us hl => match us, hl with | [_, _], _ => rfl) (ok_mixed F__law_mixed)
  have G__law_names : Glob PySem.Challenge.rw_keepfew_k05_goings_by_rule.prog w K mg base CX0 1 "_law_names" ["_law_number", "_law_many"] (spNames (tbOf K)) := glob_of F__law_names g__law_names (fun _ _ _ _ _ _ us hl => match us, hl with | [_, _], _ => rfl) (ok_names F__law_names z_range z_enumerate)
  have G__law_drawn : Glob PySem.Challenge.rw_keepfew_k05_goings_by_rule.prog w K mg base CX0 2 "_law_drawn" ["_law_script", "_law_most"] (spDrawn K (tbOf K)) := glob_of F__law_drawn g__law_drawn (fun _ _ _ _ _ _ us hl => match us, hl with | [_, _], _ => rfl) (ok_drawn F__law_drawn G__law_mixed G__law_names z_len z_sum z_int z_enumerate)
  have G__law_places : Glob PySem.Challenge.rw_keepfew_k05_goings_by_rule.prog w K mg base CX0 2 "_law_places" ["_law_script", "_law_k"] (spPlaces K (tbOf K)) := glob_of F__law_places g__law_places (fun _ _ _ _ _ _ us hl => match us, hl with | [_, _], _ => rfl) (ok_places F__law_places G__law_mixed z_len z_sum)
  have T_Old : ClsT K (He.ga K "Old") := ⟨cl_Old, na_Old__size, na_Old__row, na_Old__met, na_Old__missed⟩
  have T_Cold : ClsT K (He.ga K "Cold") := ⟨cl_Cold, na_Cold__size, na_Cold__row, na_Cold__met, na_Cold__missed⟩
  have T_Marked : ClsT K (He.ga K "Marked") := ⟨cl_Marked, na_Marked__size, na_Marked__row, na_Marked__met, na_Marked__missed⟩
  have T2_Marked : ClsM K (He.ga K "Marked") := ⟨na_Marked__marks, na_Marked__rounds⟩
  have TG : ClsG K (He.ga K "Going") := ⟨cl_Going, na_Going_were_met, na_Going_went⟩
  have K_Old : MakeOk PySem.Challenge.rw_keepfew_k05_goings_by_rule.prog w K mg base CX0 2 "Old" (He.ga K "Old") ["self", "places"] (spInit (tbOf K) (He.ga K "Old")) := ⟨_, fd_Old___init__, g_Old, mk_Old, binds_of F_Old___init__ (fun _ _ _ _ _ _ us hl => match us, hl with | [_, _], _ => rfl), ok_init F_Old___init__ T_Old G_check_places⟩
  have M_Old__pick_going : MethOk PySem.Challenge.rw_keepfew_k05_goings_by_rule.prog w K mg base CX0 1 (He.ga K "Old") "_pick_going" ["self"] (spPickOC (He.ga K "Old")) := ⟨_, fd_Old__pick_going, cl_Old, me_Old__pick_going, binds_of F_Old__pick_going (fun _ _ _ _ _ _ us hl => match us, hl with | [_], _ => rfl), ok_opick F_Old__pick_going T_Old⟩
  have M_Old__note_wish : MethOk PySem.Challenge.rw_keepfew_k05_goings_by_rule.prog w K mg base CX0 1 (He.ga K "Old") "_note_wish" ["self", "name"] (spNoteOC nfOld (tbOf K) (He.ga K "Old")) := ⟨_, fd_Old__note_wish, cl_Old, me_Old__note_wish, binds_of F_Old__note_wish (fun _ _ _ _ _ _ us hl => match us, hl with | [_, _], _ => rfl), ok_note F_Old__note_wish⟩
  have M_Old__free_a_place : MethOk PySem.Challenge.rw_keepfew_k05_goings_by_rule.prog w K mg base CX0 2 (He.ga K "Old") "_free_a_place" ["self"] (spFreeOC (tbOf K) (He.ga K "Old")) := ⟨_, fd_Old__free_a_place, cl_Old, me_Old__free_a_place, binds_of F_Old__free_a_place (fun _ _ _ _ _ _ us hl => match us, hl with | [_], _ => rfl), ok_freeOC F_Old__free_a_place T_Old z_len M_Old__pick_going⟩
  have M_Old_wish : MethOk PySem.Challenge.rw_keepfew_k05_goings_by_rule.prog w K mg base CX0 3 (He.ga K "Old") "wish" ["self", "name"] (spWishOC nfOld (tbOf K) (He.ga K "Old")) := ⟨_, fd_Old_wish, cl_Old, me_Old_wish, binds_of F_Old_wish (fun _ _ _ _ _ _ us hl => match us, hl with | [_, _], _ => rfl), ok_wishOC (k0 := 0) F_Old_wish T_Old G_check_name M_Old__free_a_place (M_Old__note_wish.mono (by decide))⟩
  have K_Cold : MakeOk PySem.Challenge.rw_keepfew_k05_goings_by_rule.prog w K mg base CX0 2 "Cold" (He.ga K "Cold") ["self", "places"] (spInit (tbOf K) (He.ga K "Cold")) := ⟨_, fd_Cold___init__, g_Cold, mk_Cold, binds_of F_Cold___init__ (fun _ _ _ _ _ _ us hl => match us, hl with | [_, _], _ => rfl), ok_init F_Cold___init__ T_Cold G_check_places⟩
  have M_Cold__pick_going : MethOk PySem.Challenge.rw_keepfew_k05_goings_by_rule.prog w K mg base CX0 1 (He.ga K "Cold") "_pick_going" ["self"] (spPickOC (He.ga K "Cold")) := ⟨_, fd_Cold__pick_going, cl_Cold, me_Cold__pick_going, binds_of F_Cold__pick_going (fun _ _ _ _ _ _ us hl => match us, hl with | [_], _ => rfl), ok_cpick F_Cold__pick_going T_Cold⟩
  have M_Cold__note_wish : MethOk PySem.Challenge.rw_keepfew_k05_goings_by_rule.prog w K mg base CX0 1 (He.ga K "Cold") "_note_wish" ["self", "name"] (spNoteOC nfCold (tbOf K) (He.ga K "Cold")) := ⟨_, fd_Cold__note_wish, cl_Cold, me_Cold__note_wish, binds_of F_Cold__note_wish (fun _ _ _ _ _ _ us hl => match us, hl with | [_, _], _ => rfl), ok_cnote F_Cold__note_wish T_Cold⟩
  have M_Cold__free_a_place : MethOk PySem.Challenge.rw_keepfew_k05_goings_by_rule.prog w K mg base CX0 2 (He.ga K "Cold") "_free_a_place" ["self"] (spFreeOC (tbOf K) (He.ga K "Cold")) := ⟨_, fd_Cold__free_a_place, cl_Cold, me_Cold__free_a_place, binds_of F_Cold__free_a_place (fun _ _ _ _ _ _ us hl => match us, hl with | [_], _ => rfl), ok_freeOC F_Cold__free_a_place T_Cold z_len M_Cold__pick_going⟩
  have M_Cold_wish : MethOk PySem.Challenge.rw_keepfew_k05_goings_by_rule.prog w K mg base CX0 3 (He.ga K "Cold") "wish" ["self", "name"] (spWishOC nfCold (tbOf K) (He.ga K "Cold")) := ⟨_, fd_Cold_wish, cl_Cold, me_Cold_wish, binds_of F_Cold_wish (fun _ _ _ _ _ _ us hl => match us, hl with | [_, _], _ => rfl), ok_wishOC (k0 := 0) F_Cold_wish T_Cold G_check_name M_Cold__free_a_place (M_Cold__note_wish.mono (by decide))⟩
  have K_Marked : MakeOk PySem.Challenge.rw_keepfew_k05_goings_by_rule.prog w K mg base CX0 3 "Marked" (He.ga K "Marked") ["self", "places"] (spInitM (tbOf K) (He.ga K "Marked")) := ⟨_, fd_Marked___init__, g_Marked, mk_Marked, binds_of F_Marked___init__ (fun _ _ _ _ _ _ us hl => match us, hl with | [_, _], _ => rfl), ok_minit (k0 := 1) F_Marked___init__ T_Marked T2_Marked g_Shelf (mc := .type "type") ⟨x26, x27⟩ ⟨fclsB_ok x28, rfl⟩ (ok_init F_Shelf___init__ T_Marked G_check_places) F_Shelf___init__.kp (binds_of F_Shelf___init__ (fun _ _ _ _ _ _ us hl => match us, hl with | [_, _], _ => rfl))⟩
  have M_Marked__pick_going : MethOk PySem.Challenge.rw_keepfew_k05_goings_by_rule.prog w K mg base CX0 1 (He.ga K "Marked") "_pick_going" ["self"] (spPickM (tbOf K) (He.ga K "Marked")) := ⟨_, fd_Marked__pick_going, cl_Marked, me_Marked__pick_going, binds_of F_Marked__pick_going (fun _ _ _ _ _ _ us hl => match us, hl with | [_], _ => rfl), ok_mpick F_Marked__pick_going T_Marked T2_Marked z_len z_min⟩
  have M_Marked__note_wish : MethOk PySem.Challenge.rw_keepfew_k05_goings_by_rule.prog w K mg base CX0 1 (He.ga K "Marked") "_note_wish" ["self", "name"] (spNoteM (tbOf K) (He.ga K "Marked")) := ⟨_, fd_Marked__note_wish, cl_Marked, me_Marked__note_wish, binds_of F_Marked__note_wish (fun _ _ _ _ _ _ us hl => match us, hl with | [_, _], _ => rfl), ok_mnote F_Marked__note_wish T_Marked T2_Marked⟩
  have M_Marked__free_a_place : MethOk PySem.Challenge.rw_keepfew_k05_goings_by_rule.prog w K mg base CX0 2 (He.ga K "Marked") "_free_a_place" ["self"] (spFreeM (tbOf K) (He.ga K "Marked")) := ⟨_, fd_Marked__free_a_place, cl_Marked, me_Marked__free_a_place, binds_of F_Marked__free_a_place (fun _ _ _ _ _ _ us hl => match us, hl with | [_], _ => rfl), ok_mfree F_Marked__free_a_place T_Marked z_len M_Marked__pick_going⟩
  have M_Marked_wish : MethOk PySem.Challenge.rw_keepfew_k05_goings_by_rule.prog w K mg base CX0 3 (He.ga K "Marked") "wish" ["self", "name"] (spWishM (tbOf K) (He.ga K "Marked")) := ⟨_, fd_Marked_wish, cl_Marked, me_Marked_wish, binds_of F_Marked_wish (fun _ _ _ _ _ _ us hl => match us, hl with | [_, _], _ => rfl), ok_mwish (k0 := 0) F_Marked_wish T_Marked G_check_name M_Marked__free_a_place (M_Marked__note_wish.mono (by decide))⟩
  have M_Old_places : MethOk PySem.Challenge.rw_keepfew_k05_goings_by_rule.prog w K mg base CX0 1 (He.ga K "Old") "places" ["self"] (spInt (He.ga K "Old") fun n _ _ => n) := ⟨_, fd_Old_places, cl_Old, me_Old_places, binds_of F_Old_places (fun _ _ _ _ _ _ us hl => match us, hl with | [_], _ => rfl), ok_places_ F_Old_places T_Old⟩
  have M_Old_met : MethOk PySem.Challenge.rw_keepfew_k05_goings_by_rule.prog w K mg base CX0 1 (He.ga K "Old") "met" ["self"] (spInt (He.ga K "Old") fun _ m _ => m) := ⟨_, fd_Old_met, cl_Old, me_Old_met, binds_of F_Old_met (fun _ _ _ _ _ _ us hl => match us, hl with | [_], _ => rfl), ok_met F_Old_met T_Old⟩
  have M_Old_missed : MethOk PySem.Challenge.rw_keepfew_k05_goings_by_rule.prog w K mg base CX0 1 (He.ga K "Old") "missed" ["self"] (spInt (He.ga K "Old") fun _ _ k => k) := ⟨_, fd_Old_missed, cl_Old, me_Old_missed, binds_of F_Old_missed (fun _ _ _ _ _ _ us hl => match us, hl with | [_], _ => rfl), ok_missed F_Old_missed T_Old⟩
  have M_Old_things : MethOk PySem.Challenge.rw_keepfew_k05_goings_by_rule.prog w K mg base CX0 1 (He.ga K "Old") "things" ["self"] (spList (tbOf K) (He.ga K "Old") sortS) := ⟨_, fd_Old_things, cl_Old, me_Old_things, binds_of F_Old_things (fun _ _ _ _ _ _ us hl => match us, hl with | [_], _ => rfl), ok_things F_Old_things T_Old z_sorted⟩
  have M_Cold_places : MethOk PySem.Challenge.rw_keepfew_k05_goings_by_rule.prog w K mg base CX0 1 (He.ga K "Cold") "places" ["self"] (spInt (He.ga K "Cold") fun n _ _ => n) := ⟨_, fd_Cold_places, cl_Cold, me_Cold_places, binds_of F_Cold_places (fun _ _ _ _ _ _ us hl => match us, hl with | [_], _ => rfl), ok_places_ F_Cold_places T_Cold⟩
  have M_Cold_met : MethOk PySem.Challenge.rw_keepfew_k05_goings_by_rule.prog w K mg base CX0 1 (He.ga K "Cold") "met" ["self"] (spInt (He.ga K "Cold") fun _ m _ => m) := ⟨_, fd_Cold_met, cl_Cold, me_Cold_met, binds_of F_Cold_met (fun _ _ _ _ _ _ us hl => match us, hl with | [_], _ => rfl), ok_met F_Cold_met T_Cold⟩
  have M_Cold_missed : MethOk PySem.Challenge.rw_keepfew_k05_goings_by_rule.prog w K mg base CX0 1 (He.ga K "Cold") "missed" ["self"] (spInt (He.ga K "Cold") fun _ _ k => k) := ⟨_, fd_Cold_missed, cl_Cold, me_Cold_missed, binds_of F_Cold_missed (fun _ _ _ _ _ _ us hl => match us, hl with | [_], _ => rfl), ok_missed F_Cold_missed T_Cold⟩
  have M_Cold_things : MethOk PySem.Challenge.rw_keepfew_k05_goings_by_rule.prog w K mg base CX0 1 (He.ga K "Cold") "things" ["self"] (spList (tbOf K) (He.ga K "Cold") sortS) := ⟨_, fd_Cold_things, cl_Cold, me_Cold_things, binds_of F_Cold_things (fun _ _ _ _ _ _ us hl => match us, hl with | [_], _ => rfl), ok_things F_Cold_things T_Cold z_sorted⟩
  have M_Marked_places : MethOk PySem.Challenge.rw_keepfew_k05_goings_by_rule.prog w K mg base CX0 1 (He.ga K "Marked") "places" ["self"] (spInt (He.ga K "Marked") fun n _ _ => n) := ⟨_, fd_Marked_places, cl_Marked, me_Marked_places, binds_of F_Marked_places (fun _ _ _ _ _ _ us hl => match us, hl with | [_], _ => rfl), ok_places_ F_Marked_places T_Marked⟩
  have M_Marked_met : MethOk PySem.Challenge.rw_keepfew_k05_goings_by_rule.prog w K mg base CX0 1 (He.ga K "Marked") "met" ["self"] (spInt (He.ga K "Marked") fun _ m _ => m) := ⟨_, fd_Marked_met, cl_Marked, me_Marked_met, binds_of F_Marked_met (fun _ _ _ _ _ _ us hl => match us, hl with | [_], _ => rfl), ok_met F_Marked_met T_Marked⟩
  have M_Marked_missed : MethOk PySem.Challenge.rw_keepfew_k05_goings_by_rule.prog w K mg base CX0 1 (He.ga K "Marked") "missed" ["self"] (spInt (He.ga K "Marked") fun _ _ k => k) := ⟨_, fd_Marked_missed, cl_Marked, me_Marked_missed, binds_of F_Marked_missed (fun _ _ _ _ _ _ us hl => match us, hl with | [_], _ => rfl), ok_missed F_Marked_missed T_Marked⟩
  have M_Marked_things : MethOk PySem.Challenge.rw_keepfew_k05_goings_by_rule.prog w K mg base CX0 1 (He.ga K "Marked") "things" ["self"] (spList (tbOf K) (He.ga K "Marked") sortS) := ⟨_, fd_Marked_things, cl_Marked, me_Marked_things, binds_of F_Marked_things (fun _ _ _ _ _ _ us hl => match us, hl with | [_], _ => rfl), ok_things F_Marked_things T_Marked z_sorted⟩
  have MW : ∀ r, MethOk PySem.Challenge.rw_keepfew_k05_goings_by_rule.prog w K mg base CX0 3 (clsR K r) "wish" ["self", "name"] (spWishR (clsR K) (tbOf K) r) := meth_wishR (C := clsR K) M_Old_wish M_Cold_wish M_Marked_wish
  have MP : ∀ r, MethOk PySem.Challenge.rw_keepfew_k05_goings_by_rule.prog w K mg base CX0 1 (clsR K r) "places" ["self"] (spInt (clsR K r) fun n _ _ => n) := fun r => match r with | .old => M_Old_places | .cold => M_Cold_places | .marked => M_Marked_places
  have ME : ∀ r, MethOk PySem.Challenge.rw_keepfew_k05_goings_by_rule.prog w K mg base CX0 1 (clsR K r) "met" ["self"] (spInt (clsR K r) fun _ m _ => m) := fun r => match r with | .old => M_Old_met | .cold => M_Cold_met | .marked => M_Marked_met
  have MI : ∀ r, MethOk PySem.Challenge.rw_keepfew_k05_goings_by_rule.prog w K mg base CX0 1 (clsR K r) "missed" ["self"] (spInt (clsR K r) fun _ _ k => k) := fun r => match r with | .old => M_Old_missed | .cold => M_Cold_missed | .marked => M_Marked_missed
  have MT : ∀ r, MethOk PySem.Challenge.rw_keepfew_k05_goings_by_rule.prog w K mg base CX0 1 (clsR K r) "things" ["self"] (spList (tbOf K) (clsR K r) sortS) := fun r => match r with | .old => M_Old_things | .cold => M_Cold_things | .marked => M_Marked_things
  have hkit : ∀ r r' : Rule, PySem.W.kitOne K (.ref (clsR K r)) (.ref (clsR K r')) = some (r.txt == r'.txt) := fun r r' => match r, r' with
    | .old, .old => x0.trans (congrArg some (show true = (Rule.txt .old == Rule.txt .old) by kernel_rfl))
    | .old, .cold => x1.trans (congrArg some (show false = (Rule.txt .old == Rule.txt .cold) by kernel_rfl))
    | .old, .marked => x2.trans (congrArg some (show false = (Rule.txt .old == Rule.txt .marked) by kernel_rfl))
    | .cold, .old => x3.trans (congrArg some (show false = (Rule.txt .cold == Rule.txt .old) by kernel_rfl))
    | .cold, .cold => x4.trans (congrArg some (show true = (Rule.txt .cold == Rule.txt .cold) by kernel_rfl))
    | .cold, .marked => x5.trans (congrArg some (show false = (Rule.txt .cold == Rule.txt .marked) by kernel_rfl))
    | .marked, .old => x6.trans (congrArg some (show false = (Rule.txt .marked == Rule.txt .old) by kernel_rfl))
    | .marked, .cold => x7.trans (congrArg some (show false = (Rule.txt .marked == Rule.txt .cold) by kernel_rfl))
    | .marked, .marked => x8.trans (congrArg some (show true = (Rule.txt .marked == Rule.txt .marked) by kernel_rfl))
  have hI : ∀ r, InsT K (clsR K r) := fun r => match r with | .old => ⟨x9, x10, x11, x12⟩ | .cold => ⟨x13, x14, x15, x16⟩ | .marked => ⟨x17, x18, x19, x20⟩
  have hT : ∀ r, Cls K (clsR K r) := fun r => match r with | .old => cl_Old | .cold => cl_Cold | .marked => cl_Marked
  have G_check_rule : Glob PySem.Challenge.rw_keepfew_k05_goings_by_rule.prog w K mg base CX0 1 "check_rule" ["rule"] spCheckRule := glob_of F_check_rule g_check_rule (fun _ _ _ _ _ _ us hl => match us, hl with | [_], _ => rfl) (ok_checkrule F_check_rule g_RULES (fun H => He.tupB_ok x29 H) z_type z_str)
  have G_check_wishes : Glob PySem.Challenge.rw_keepfew_k05_goings_by_rule.prog w K mg base CX0 2 "check_wishes" ["wishes"] (spCheckWishes K) := glob_of F_check_wishes g_check_wishes (fun _ _ _ _ _ _ us hl => match us, hl with | [_], _ => rfl) (ok_checkwishes F_check_wishes G_is_name n_MOST_WISHES z_type z_list z_len z_enumerate)
  have G_shelf_of : Glob PySem.Challenge.rw_keepfew_k05_goings_by_rule.prog w K mg base CX0 5 "shelf_of" ["rule", "places"] (spShelfOf (clsR K) (tbOf K)) := glob_of F_shelf_of g_shelf_of (fun _ _ _ _ _ _ us hl => match us, hl with | [_, _], _ => rfl) (ok_shelfof (k0 := 3) (C := clsR K) F_shelf_of (G_check_rule.mono (by decide)) (K_Old.mono (by decide)) (K_Cold.mono (by decide)) K_Marked)
  have K_Going : MakeOk PySem.Challenge.rw_keepfew_k05_goings_by_rule.prog w K mg base CX0 1 "Going" (He.ga K "Going") ["self", "were_met", "went"] (spGoInit (tbOf K) (He.ga K "Going")) := ⟨_, fd_Going___init__, g_Going, mk_Going, binds_of F_Going___init__ (fun _ _ _ _ _ _ us hl => match us, hl with | [_, _, _], _ => rfl), ok_goinit F_Going___init__ TG z_list⟩
  have G_going : Glob PySem.Challenge.rw_keepfew_k05_goings_by_rule.prog w K mg base CX0 6 "going" ["rule", "places", "wishes"] (spGoing (clsR K) (He.ga K "Going") (tbOf K)) := glob_of F_going g_going (fun _ _ _ _ _ _ us hl => match us, hl with | [_, _, _], _ => rfl) (ok_going (k0 := 3) (C := clsR K) F_going G_shelf_of (G_check_wishes.mono (by decide)) (fun r => (MW r).mono (by decide)) (K_Going.mono (by decide)))
  have G_missed_in : Glob PySem.Challenge.rw_keepfew_k05_goings_by_rule.prog w K mg base CX0 1 "missed_in" ["found"] (spMissed (He.ga K "Going")) := glob_of F_missed_in g_missed_in (fun _ _ _ _ _ _ us hl => match us, hl with | [_], _ => rfl) (ok_missedin F_missed_in TG)
  have G__law_old : Glob PySem.Challenge.rw_keepfew_k05_goings_by_rule.prog w K mg base CX0 1 "_law_old" ["_law_own", "_law_name", "_law_places_here"] (spLOld (tbOf K)) := glob_of F__law_old g__law_old (fun _ _ _ _ _ _ us hl => match us, hl with | [_, _, _], _ => rfl) (ok_lold F__law_old z_len)
  have G__law_cold : Glob PySem.Challenge.rw_keepfew_k05_goings_by_rule.prog w K mg base CX0 1 "_law_cold" ["_law_own", "_law_name", "_law_places_here"] (spLCold (tbOf K)) := glob_of F__law_cold g__law_cold (fun _ _ _ _ _ _ us hl => match us, hl with | [_, _, _], _ => rfl) (ok_lcold F__law_cold z_len)
  have G__law_marked : Glob PySem.Challenge.rw_keepfew_k05_goings_by_rule.prog w K mg base CX0 1 "_law_marked" ["_law_own", "_law_name", "_law_places_here"] (spLMarked (tbOf K)) := glob_of F__law_marked g__law_marked (fun _ _ _ _ _ _ us hl => match us, hl with | [_, _, _], _ => rfl) (ok_lmarked F__law_marked z_len z_sorted z_min)
  have G__law_due : Glob PySem.Challenge.rw_keepfew_k05_goings_by_rule.prog w K mg base CX0 2 "_law_due" ["_law_rule", "_law_wishes", "_law_places_here"] (spDue (tbOf K)) := glob_of F__law_due g__law_due (fun _ _ _ _ _ _ us hl => match us, hl with | [_, _, _], _ => rfl) (ok_due F__law_due G__law_old G__law_cold G__law_marked)
  have G__law_is_going : Glob PySem.Challenge.rw_keepfew_k05_goings_by_rule.prog w K mg base CX0 2 "_law_is_going" ["_law_found", "_law_due_here"] (spIsGoing (tbOf K) (He.ga K "Going")) := glob_of F__law_is_going g__law_is_going (fun _ _ _ _ _ _ us hl => match us, hl with | [_, _], _ => rfl) (ok_isgoing F__law_is_going TG ⟨x21, x22, x23, x24⟩ x25 g_Going z_isinstance z_list z_bool z_all z_len G_missed_in)
  have G__law_shelf_right : Glob PySem.Challenge.rw_keepfew_k05_goings_by_rule.prog w K mg base CX0 6 "_law_shelf_right" ["_law_rule", "_law_places_here", "_law_wishes", "_law_due_here"] (spShRight (tbOf K)) := glob_of F__law_shelf_right g__law_shelf_right (fun _ _ _ _ _ _ us hl => match us, hl with | [_, _, _, _], _ => rfl) (ok_shright (k0 := 4) (C := clsR K) F__law_shelf_right hT hI hkit g_Old g_Cold g_Marked z_isinstance G_shelf_of (fun r => (MW r).mono (by decide)) (fun r => (MP r).mono (by decide)) (fun r => (MT r).mono (by decide)) (fun r => (ME r).mono (by decide)) (fun r => (MI r).mono (by decide)))
  exact ok_k05 (k0 := 0) F_law TG z_list z_enumerate z_range (G__law_drawn.mono (by decide)) (G__law_places.mono (by decide)) (G__law_due.mono (by decide)) (G__law_shelf_right.mono (by decide)) (G__law_is_going.mono (by decide)) (G_going.mono (by decide)) (K_Going.mono (by decide))
end
end Kf
open PySem PySem.W PySem.Calls PyProof.Rows
theorem PySem.Challenge.cw_keepfew_k05_goings_by_rule_holds : PySem.Challenge.rw_keepfew_k05_goings_by_rule.Holds := by
  w_on; o_law
  refine HandSHeadRun.head_any (r := OpenLaw.row PySem.Challenge.rw_keepfew_k05_goings_by_rule) (q := view (OpenLaw.row PySem.Challenge.rw_keepfew_k05_goings_by_rule).prog [37]) (H := Kf.hkL) (ob := Kf.obL) (M := 4000) (loose := Kf.looseL) (d := HandSHeadRun.topDef (OpenLaw.row PySem.Challenge.rw_keepfew_k05_goings_by_rule).prog 37) (kwd := []) Kf.obL_eq
    (by kernel_rfl) (fun s => by kernel_rfl) Kf.runL (by kernel_rfl) (by kernel_rfl) (by kernel_rfl) (by rfl) (by first | assumption | decide +kernel) (by decide +kernel) ⟨rfl, rfl, rfl, rfl, rfl, by decide +kernel⟩ ?hw ?hc
  case hw => w_witness2
  case hc =>
    refine LamX.walk_ofTsE (l := PySem.Challenge.rw_keepfew_k05_goings_by_rule) (n := 63) (k := 7) (x := "_law_script") (CX := fun _ => L2.CX0) rfl (by decide) (by kernel_rfl) ⟨rfl, by decide, by decide⟩ ?F (fun _ _ _ _ _ z => z)
    intro w mg fa h Y G hmg0
    obtain ⟨K, KX, c⟩ := Y
    have hmg : mg ("law" : PySem.Str) = some (.ref fa) := by
      have e : (HandSHeadRun.topDef (OpenLaw.row PySem.Challenge.rw_keepfew_k05_goings_by_rule).prog 37).name = ("law" : PySem.Str) := by kernel_rfl
      rw [← e]
      exact hmg0
    exact ⟨K, KX, Kf.lawAt KX G hmg c⟩
