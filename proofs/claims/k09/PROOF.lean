import PyProof.Rows.All
import Wide.All
import OpenK.AllK
import Wide.FinOn
import HandS.ForMost
import HandS.ForExc
import HandS.AnyAll
import HandS.SetFor
import HandS.Walk
import HandS.Style
import HandS.Strs
import HandS.IsInst
import HandS.More
import HandS.Flow
import HandS.Codes
import HandS.Defaults
import HandS.HeadHook1
import HandS.HeadHook2
import HandS.HeadHook3
import HandS.HeadHook4
import HandS.HeadWalk
import HandS.Head0
import HandS.Head1
import HandS.Head2
import PyProof.TypeEq
import PyProof.InstEq
import HandS.ClsMeth
import HandS.SortKw
import KE.KStateDown
import PySem.Challenge.RW_keepfew_k09_whole_shelf_within_shelf
set_option Elab.async false
set_option linter.all false
set_option maxRecDepth 100000
set_option maxHeartbeats 8000000
/-! Order of texts, and rules of my own over flat lists: remove, count, min, sorted. -/
namespace Kf
open PySem PySem.Spec PyProof.Rows L2

/-! ### texts by letters -/
def ltB (a b : Str) : Bool := decide (a.cps.toList < b.cps.toList)
def leB (a b : Str) : Bool := !ltB b a
theorem ltB_irrefl (a : Str) : ltB a a = false := decide_eq_false (List.lt_irrefl _)
theorem leB_iff {a b : Str} : leB a b = true ↔ a.cps.toList ≤ b.cps.toList := by
  unfold leB ltB
  rw [Bool.not_eq_true', decide_eq_false_iff_not]
  exact List.not_lt
theorem leB_refl (a : Str) : leB a a = true := leB_iff.mpr (List.le_refl _)
theorem leB_trans {a b c : Str} (h : leB a b = true) (k : leB b c = true) : leB a c = true := leB_iff.mpr (List.le_trans (leB_iff.mp h) (leB_iff.mp k))
theorem leB_total (a b : Str) : leB a b = true ∨ leB b a = true := by
  rw [leB_iff, leB_iff]
  exact List.le_total _ _
theorem leB_antisymm {a b : Str} (h : leB a b = true) (k : leB b a = true) : a = b := ext_toList (List.le_antisymm (leB_iff.mp h) (leB_iff.mp k))
theorem ltB_leB {a b : Str} (h : ltB a b = true) : leB a b = true := leB_iff.mpr (List.le_of_lt (of_decide_eq_true h))
theorem leB_ne {a b : Str} (h : leB a b = true) (n : a ≠ b) : ltB a b = true := by
  cases e : ltB a b with
  | true => rfl
  | false =>
    have k : leB b a = true := by unfold leB; rw [e]; rfl
    exact absurd (leB_antisymm h k) n

/-! ### sorted texts -/
def sortS (xs : List Str) : List Str := xs.mergeSort leB
theorem sortS_perm (xs : List Str) : (sortS xs).Perm xs := List.mergeSort_perm xs leB
theorem sortS_pw (xs : List Str) : (sortS xs).Pairwise (fun a b => leB a b = true) :=
  List.pairwise_mergeSort (le := leB) (fun _ _ _ h k => leB_trans h k) (fun a b => by
    rcases leB_total a b with h | h <;> simp [h]) xs
theorem pw_uniq : ∀ {xs ys : List Str}, xs.Perm ys → xs.Pairwise (fun a b => leB a b = true) → ys.Pairwise (fun a b => leB a b = true) → xs = ys := fun {xs ys} p h k =>
  List.Perm.eq_of_pairwise (le := fun a b => leB a b = true) (fun _ _ _ _ h k => leB_antisymm h k) h k p
theorem sortS_of_perm {xs ys : List Str} (p : xs.Perm ys) : sortS xs = sortS ys := pw_uniq (((sortS_perm xs).trans p).trans (sortS_perm ys).symm) (sortS_pw xs) (sortS_pw ys)
theorem risingS_pw : ∀ {p : Str} {l : List Str}, risingS p l = true → (p :: l).Pairwise (fun a b => leB a b = true)
  | p, [], _ => List.pairwise_cons.mpr ⟨fun _ h => absurd h (by simp), List.Pairwise.nil⟩
  | p, x :: r, h => by
    have h2 : (!ltCps x.cps.toList p.cps.toList && risingS x r) = true := h
    rw [Bool.and_eq_true, ltCps_eq] at h2
    have ih := risingS_pw h2.2
    refine List.pairwise_cons.mpr ⟨fun y hy => ?_, ih⟩
    have px : leB p x = true := h2.1
    rcases List.mem_cons.mp hy with e | hy
    · rw [e]; exact px
    · exact leB_trans px ((List.pairwise_cons.mp ih).1 y hy)
theorem sortedS_pw {l : List Str} (h : sortedS l = true) : l.Pairwise (fun a b => leB a b = true) := by
  cases l with
  | nil => exact List.Pairwise.nil
  | cons x r => exact risingS_pw h
theorem sortS_eq {xs ys : List Str} (p : ys.Perm xs) (h : sortedS ys = true) : ys = sortS xs := pw_uniq (p.trans (sortS_perm xs).symm) (sortedS_pw h) (sortS_pw xs)

/-! ### the least text -/
def minS : List Str → Str
  | [] => ⟨#[]⟩
  | [x] => x
  | x :: r => if leB x (minS r) then x else minS r
theorem minS_spec : ∀ {l : List Str}, l ≠ [] → minS l ∈ l ∧ ∀ y ∈ l, leB (minS l) y = true
  | [], h => absurd rfl h
  | [x], _ => ⟨List.mem_cons_self, fun y hy => by rw [List.mem_singleton.mp hy]; exact leB_refl _⟩
  | x :: y :: r, _ => by
    obtain ⟨h1, h2⟩ := minS_spec (l := y :: r) (by simp)
    show (if leB x (minS (y :: r)) then x else minS (y :: r)) ∈ _ ∧ ∀ z ∈ _, leB (if leB x (minS (y :: r)) then x else minS (y :: r)) z = true
    cases e : leB x (minS (y :: r)) with
    | true =>
      refine ⟨List.mem_cons_self, fun z hz => ?_⟩
      rcases List.mem_cons.mp hz with q | hz
      · rw [q]; exact leB_refl _
      · exact leB_trans e (h2 z hz)
    | false =>
      refine ⟨List.mem_cons_of_mem _ h1, fun z hz => ?_⟩
      rcases List.mem_cons.mp hz with q | hz
      · rw [q]
        rcases leB_total x (minS (y :: r)) with w | w
        · rw [e] at w; cases w
        · exact w
      · exact h2 z hz
theorem minS_uniq {l : List Str} {m : Str} (hm : m ∈ l) (h : ∀ y ∈ l, leB m y = true) : m = minS l := by
  obtain ⟨h1, h2⟩ := minS_spec (l := l) (fun e => by rw [e] at hm; cases hm)
  exact leB_antisymm (h _ h1) (h2 _ hm)
theorem minS_mem {l : List Str} (h : l ≠ []) : minS l ∈ l := (minS_spec h).1
theorem argBest_ltS (num : Nat → Str) : ∀ k, argBest (fun i j => ltB (num i) (num j)) k ≤ k ∧ ∀ j, j ≤ k → leB (num (argBest (fun i j => ltB (num i) (num j)) k)) (num j) = true
  | 0 => ⟨Nat.le_refl _, fun j hj => by
    have e : j = 0 := by omega
    subst e
    exact leB_refl _⟩
  | k + 1 => by
    obtain ⟨h1, h2⟩ := argBest_ltS num k
    simp only [argBest]
    by_cases hc : ltB (num (k + 1)) (num (argBest (fun i j => ltB (num i) (num j)) k)) = true
    · rw [if_pos hc]
      refine ⟨Nat.le_refl _, fun j hj => ?_⟩
      rcases Nat.lt_or_ge j (k + 1) with hlt | hge
      · exact leB_trans (ltB_leB hc) (h2 j (by omega))
      · have e : j = k + 1 := by omega
        subst e
        exact leB_refl _
    · rw [if_neg hc]
      refine ⟨by omega, fun j hj => ?_⟩
      rcases Nat.lt_or_ge j (k + 1) with hlt | hge
      · exact h2 j (by omega)
      · have e : j = k + 1 := by omega
        subst e
        unfold leB
        rw [Bool.eq_false_iff.mpr hc]
        rfl
theorem ltS_cmp {prog : Program} {w : World} {A : Around} {Pv : Nat → Value → Prop} (val : Nat → Str) (hval : ∀ i v, Pv i v → ∃ t, v = .str (val i) t) :
    CmpOf prog w A .Lt Pv (fun i j => ltB (val i) (val j)) := fun i j vi vj s Q E hi hj h => by
  obtain ⟨t, rfl⟩ := hval i vi hi
  obtain ⟨u, rfl⟩ := hval j vj hj
  have q := PySem.P.lt_str (prog := prog) (w := w) (A := A) (E := E) (s := s) (x := val i) (y := val j) (t := t) (u := u) (Q := Q) h
  exact q

/-! ### rules -/
section
variable {X : Cx}
theorem erase_mapS : ∀ (l : List Str) (j : Nat), (l.map V.str).eraseIdx j = (l.eraseIdx j).map V.str
  | [], j => by simp
  | a :: r, 0 => by simp
  | a :: r, j + 1 => by
    have ih := erase_mapS r j
    simp [ih]
theorem first_atS : ∀ {ns : List Str} {k : Str}, k ∈ ns → ∃ j, j < ns.length ∧ ns[j]? = some k ∧ (∀ i, i < j → ns[i]? ≠ some k) ∧ ns.eraseIdx j = ns.erase k
  | [], k, h => absurd h (by simp)
  | a :: r, k, h => by
    by_cases e : a = k
    · refine ⟨0, Nat.succ_pos _, by rw [e] <;> rfl, fun i hi => absurd hi (Nat.not_lt_zero _), ?_⟩
      rw [e, List.erase_cons_head] <;> rfl
    · have hr : k ∈ r := by
        rcases List.mem_cons.mp h with z | z
        · exact absurd z.symm e
        · exact z
      obtain ⟨j, h1, h2, h3, h4⟩ := first_atS hr
      refine ⟨j + 1, Nat.succ_lt_succ h1, h2, fun i hi => ?_, ?_⟩
      · cases i with
        | zero =>
          intro z
          exact e (Option.some.inj z)
        | succ i => exact h3 i (Nat.lt_of_succ_lt_succ hi)
      · rw [List.erase_cons_tail (by rw [beq_iff_eq]; exact e), ← h4] <;> rfl
theorem isStr_at (k : Str) : ∀ {vs : List Value} {ns : List Str}, StrsAre vs ns → ∀ (i : Nat) (h : i < vs.length), isStrOf k vs[i] = true ↔ ns[i]? = some k
  | _, _, .nil, i, h => absurd h (by simp)
  | _, _, .cons n t hr, 0, _ => by
    show (n == k) = true ↔ some n = some k
    rw [beq_iff_eq, Option.some_inj]
  | _, _, .cons n t hr, i + 1, h => isStr_at k hr i (Nat.lt_of_succ_lt_succ h)
/-- xs.remove(k), texts, k is there -/
def rRemS : V → List V → Hp → VK → Prop := fun x xs H Q => ∃ (l : Addr) (ns : List Str) (k : Str), x = .ref l ∧ xs = [.str k] ∧ H l = some (.lst (ns.map V.str)) ∧ k ∈ ns ∧ Q .non (upd H l (.lst ((ns.erase k).map V.str)))
theorem mt_removeS : MtM X "list.remove" rRemS := by
  intro pins s σ H x xs v us Q I rx rxs h
  obtain ⟨l, ns, k, rfl, rfl, hH, hk, q⟩ := h
  cases rx
  obtain ⟨u, rfl, ru⟩ := rxs.one
  obtain ⟨t, rfl⟩ := ru
  obtain ⟨z, its, n, r, hl, e⟩ := I.lstM hH
  have hi := Vals.strs r
  rw [List.length_map] at hl z
  obtain ⟨j, j1, j2, j3, j4⟩ := first_atS hk
  have hj : j < its.length := by omega
  refine call_meets PySem.F.slot_list_remove ⟨_, e, rfl⟩ PySem.F.entry_list_remove (PySem.F.args_list_remove_2 _ _)
    (MeetsSeq.list_remove l its.toArray n (.str k t) (isStrOf k) (fun y hy => eq_isStrOf k t hi y (by simpa using hy)) j (by rw [List.size_toArray]; exact hj) ?_ (fun i hi2 hlt => ?_) (by rw [List.size_toArray]; omega)) ⟨e, ?_⟩
  · show isStrOf k its[j] = true
    exact (isStr_at k hi j hj).mpr j2
  · have hi3 : i < its.length := by rw [List.size_toArray] at hi2; exact hi2
    show isStrOf k its[i] = false
    rw [Bool.eq_false_iff]
    intro w
    exact j3 i hlt ((isStr_at k hi i hi3).mp w)
  · have rr := r.eraseIdx j
    rw [erase_mapS, j4] at rr
    refine ⟨.non, _, I.lset (its' := its.eraseIdx j) (t' := s.toks) hH e ?_ rr ?_, rfl, q⟩
    · show its.toArray.eraseIdxIfInBounds j = (its.eraseIdx j).toArray
      rw [List.eraseIdxIfInBounds_toArray]
    · rw [List.length_map]
      have := List.length_erase_le (a := k) (l := ns)
      omega
/-- xs.count(x), flat items -/
def rCntF (K : PySem.W.Frag) : V → List V → Hp → VK → Prop := fun x xs H Q => ∃ (p : Addr) (ys : List V) (y : V), x = .ref p ∧ xs = [y] ∧ SqL K H p ys ∧ flatV y = true ∧ ys.all flatV = true ∧ Q (.int (ys.countP fun z => eqV z y : Nat)) H
theorem countP_eqU {x : V} : ∀ {xs : List V} {us : List Value}, Vals xs us → xs.all flatV = true → us.countP (eqU x) = xs.countP fun y => eqV y x
  | _, _, .nil, _ => rfl
  | y :: xs, u :: us, .cons r t, f => by
    rw [List.all_cons, Bool.and_eq_true] at f
    rw [List.countP_cons, List.countP_cons, eqU_of r f.1, countP_eqU t f.2]
theorem mt_countF : MtR X "list.count" (rCntF X.K) := by
  intro pins s σ H x xs v us Q I rx rxs h
  obtain ⟨p, ys, y, rfl, rfl, hs, fy, fys, q⟩ := h
  cases rx
  obtain ⟨u, rfl, ru⟩ := rxs.one
  obtain ⟨its, rv, ⟨⟨cls, dd, data, sl⟩, n, ho, hc, hdn, hd⟩, hlen⟩ := I.list hs
  simp only at hc hd
  subst hc hd
  refine call_meets PySem.F.slot_list_count ⟨_, ho, rfl⟩ PySem.F.entry_list_count (PySem.F.args_list_count_2 _ _)
    (SeqAt.list_countAt p its.toArray n dd sl u (eqU y)) ⟨ho, fun z hz => mem_eqAt ru fy rv fys z (by simpa using hz), ?_⟩
  refine ⟨.int (ys.countP fun z => eqV z y : Nat), H, I.tok _, ⟨s.toks, ?_⟩, q⟩
  show Value.int ((its.toArray.toList.countP (eqU y) : Nat) : Int) s.toks = Value.int ((ys.countP fun z => eqV z y : Nat) : Int) s.toks
  rw [show its.toArray.toList.countP (eqU y) = _ from countP_eqU rv fys]
/-- min(xs), texts -/
def rMinS (K : PySem.W.Frag) : List V → Hp → VK → Prop := fun vs H Q => ∃ (a : Addr) (ns : List Str), vs = [V.ref a] ∧ SqL K H a (ns.map V.str) ∧ ns ≠ [] ∧ Q (.str (minS ns)) H
theorem strs_len : ∀ {vs : List Value} {ns : List Str}, StrsAre vs ns → vs.length = ns.length
  | _, _, .nil => rfl
  | _, _, .cons n t h => congrArg (· + 1) (strs_len h)
theorem strs_get : ∀ {vs : List Value} {ns : List Str}, StrsAre vs ns → ∀ {i : Nat} {v : Value}, vs[i]? = some v → ∃ t, v = .str (ns.getD i ⟨#[]⟩) t
  | _, _, .nil, i, v, h => by simp at h
  | _, _, .cons n t hr, 0, v, h => ⟨t, (Option.some.inj h).symm⟩
  | _, _, .cons n t hr, i + 1, v, h => by
    obtain ⟨t', e⟩ := strs_get hr (i := i) (v := v) h
    exact ⟨t', e⟩
theorem cr_minS (hc : X.calm = true) : CallR X (.builtin "min") (rMinS X.K) := by
  intro pins s σ H vs us Q I r h
  obtain ⟨a, ns, rfl, hs, hne, q⟩ := h
  obtain ⟨its, rv, hl, _⟩ := I.list hs
  rw [Vals.ref1 r]
  have hi := Vals.strs rv
  have hln := strs_len hi
  have hpos : 0 < its.length := by
    rw [hln]
    exact List.length_pos_iff.mpr hne
  have hll := hl.isList
  have hlt : a < s.heap.objs.size := by obtain ⟨_, e, _⟩ := hll; exact Heap.lt_size e
  have hval : ∀ i v, its.toArray[i]? = some v → ∃ t, v = Value.str (ns.getD i ⟨#[]⟩) t := fun i v e => strs_get hi (by simpa using e)
  refine call_min_walk (wpAny_pyIter_list hll ?_)
  refine ⟨_, _, _, _, _, _, _, rfl, Walks.list (A := X.A.in1) (I.ok.hd hc) _ a (Nat.ne_of_lt hlt) its.toArray, ⟨⟨_, Heap.get?_push_size _ rfl, rfl, rfl⟩, hll.push _⟩, fun b hb => ?_, by simpa using hpos, ltS_cmp (fun i => ns.getD i ⟨#[]⟩) hval, fun v h' tk hP hk => ?_⟩
  · show b < (s.heap.push _).objs.size
    rw [Heap.size_push]
    rcases List.mem_cons.mp hb with e | hb
    · rw [e]
      exact Nat.lt_succ_self _
    · rw [List.mem_singleton.mp hb]
      exact Nat.lt_succ_of_lt hlt
  · obtain ⟨t, rfl⟩ := hval _ v hP
    obtain ⟨b1, b2⟩ := argBest_ltS (fun i => ns.getD i ⟨#[]⟩) (its.toArray.size - 1)
    rw [List.size_toArray] at b1 b2
    have hb : argBest (fun i j => ltB (ns.getD i ⟨#[]⟩) (ns.getD j ⟨#[]⟩)) (its.length - 1) < ns.length := by omega
    have em : ns.getD (argBest (fun i j => ltB (ns.getD i ⟨#[]⟩) (ns.getD j ⟨#[]⟩)) (its.toArray.size - 1)) ⟨#[]⟩ = minS ns := by
      rw [List.size_toArray]
      refine minS_uniq ?_ fun y hy => ?_
      · rw [List.getD_eq_getElem?_getD, List.getElem?_eq_getElem hb]
        exact List.getElem_mem hb
      · obtain ⟨i, hi2, e⟩ := List.mem_iff_getElem.mp hy
        have e2 : ns.getD i ⟨#[]⟩ = y := by rw [List.getD_eq_getElem?_getD, List.getElem?_eq_getElem hi2, ← e] <;> rfl
        rw [← e2]
        exact b2 i (by omega)
    rw [em]
    refine ⟨.str _, H, I.kept (t' := tk) fun b u e => hk b u (fun hmem => ?_) (Heap.get?_push_of_some _ e), ⟨t, rfl⟩, q⟩
    have e1 : b = s.heap.objs.size := List.mem_singleton.mp hmem
    have e2 := Heap.lt_size e
    rw [e1] at e2
    exact absurd e2 (Nat.lt_irrefl _)
/-- sorted(xs), texts: the sorted list -/
def rSortS (K : PySem.W.Frag) : List V → Hp → VK → Prop := fun vs H Q => ∃ (a : Addr) (xs : List Str), vs = [V.ref a] ∧ SqL K H a (xs.map V.str) ∧ xs.length < 64 ∧
  ∀ p : Addr, H p = none → Q (.ref p) (upd H p (.lst ((sortS xs).map V.str)))
theorem cr_sortS : CallR X (.builtin "sorted") (rSortS X.K) := by
  intro pins s σ H vs us Q I r h
  obtain ⟨a, xs, e, hs, h64, q⟩ := h
  refine cr_sortedS pins s σ H vs us Q I r ⟨a, xs, e, hs, h64, fun ys p pm so np => ?_⟩
  rw [sortS_eq pm so]
  exact q p np
end

/-! ### one sign of a name -/
def lowB (c : Nat) : Bool := decide (97 ≤ c) && decide (c ≤ 122)
/-- 'a' <= x <= 'z' -/
theorem elt_low {prog : Program} {w : World} {scope : Scope} {x : Str} {j j2 : Nat} {p1 p2 p3 p4 : Pos} (hk : scope.kind = .function) (hl : scope.names.lookup x = some .local) (hd : (x == ("__debug__" : Str)) = false := by decide) :
    GxR.EltP prog w scope x (.Compare (.Constant (.str "a") j p2) [.LtE, .LtE] [.Name x p1, .Constant (.str "z") j2 p4] p3) lowB := by
  intro cenv A' E' c t s₂ m₂ hs hn hm
  refine Compare_chain ?_ (by rfl)
  refine Calls.Constant_str ?_
  refine chain_link ?_
  have hn' : ({ s₂ with toks := s₂.toks + 1 } : Shared).heap.Ns cenv.locals m₂ := hn
  refine wpAny_Name (wpAny_loadName_local (by rw [hs]; exact hk) (show cenv.scope.names.lookup x = some .local by rw [hs]; exact hl) hn' hm ?_) hd
  refine PySem.P.le_str ?_
  refine wpAny_truthy_bool ?_
  have e1 : (!decide ((⟨#[c]⟩ : Str).cps.toList < ("a" : Str).cps.toList)) = decide (97 ≤ c) := by
    have ea : ("a" : Str).cps.toList = [97] := by decide +kernel
    rw [ea]
    show (!decide ([c] < [97])) = decide (97 ≤ c)
    rw [← ltCps_eq]
    show (!(decide (c < 97) || (c == 97 && false))) = decide (97 ≤ c)
    rw [Bool.and_false, Bool.or_false, ← decide_not]
    exact decide_eq_decide.mpr Nat.not_lt
  rw [e1]
  cases h97 : decide (97 ≤ c) with
  | false => exact ite_ff ⟨by unfold lowB; rw [h97]; rfl, GxR.keeps_tok _ _⟩
  | true =>
    refine ite_tt (chain_last (Calls.Constant_str (PySem.P.le_str ⟨?_, GxR.keeps_tok _ _⟩)))
    have e2 : (!decide (("z" : Str).cps.toList < (⟨#[c]⟩ : Str).cps.toList)) = decide (c ≤ 122) := by
      have ea : ("z" : Str).cps.toList = [122] := by decide +kernel
      rw [ea]
      show (!decide ([122] < [c])) = decide (c ≤ 122)
      rw [← ltCps_eq]
      show (!(decide (122 < c) || (122 == c && false))) = decide (c ≤ 122)
      rw [Bool.and_false, Bool.or_false, ← decide_not]
      exact decide_eq_decide.mpr Nat.not_lt
    rw [e2]
    unfold lowB
    rw [h97]
    rfl
/-- a name -/
def IsName (z : Str) : Prop := 1 ≤ z.length ∧ z.length ≤ 8 ∧ z.cps.toList.all lowB = true
end Kf

/-! What is kept, defs by what they promise, and calls. -/
namespace Kf
open PySem PySem.Spec PyProof.Rows L2

/-! ### what is kept: all but the table at tb and the objects of S -/
def notTbl : HO → Bool
  | .tbl _ => false
  | _ => true
structure Kp (tb : Addr) (S : List Addr) (H H' : Hp) : Prop where
  keep : ∀ b o, H b = some o → notTbl o = true → b ∉ S → H' b = some o
  tab : GxR.TabG H tb → GxR.TabG H' tb
  free : ∀ b, H' b = none → H b = none
theorem Kp.refl {tb : Addr} {S : List Addr} (H : Hp) : Kp tb S H H := ⟨fun _ _ h _ _ => h, fun h => h, fun _ h => h⟩
theorem Kp.trans {tb : Addr} {S : List Addr} {H H1 H2 : Hp} (a : Kp tb S H H1) (b : Kp tb S H1 H2) : Kp tb S H H2 :=
  ⟨fun c o h n m => b.keep c o (a.keep c o h n m) n m, fun h => b.tab (a.tab h), fun c h => a.free c (b.free c h)⟩
theorem Kp.mono {tb : Addr} {S S' : List Addr} {H H1 : Hp} (a : Kp tb S H H1) (h : ∀ x ∈ S, x ∈ S') : Kp tb S' H H1 :=
  ⟨fun c o h' n m => a.keep c o h' n (fun z => m (h c z)), a.tab, a.free⟩
theorem Kp.nil {tb : Addr} {S : List Addr} {H H1 : Hp} (a : Kp tb [] H H1) : Kp tb S H H1 := a.mono fun _ h => absurd h (by simp)
theorem Kp.get {tb : Addr} {S : List Addr} {H H1 : Hp} (a : Kp tb S H H1) {b : Addr} {o : HO} (h : H b = some o) (n : notTbl o = true := by rfl) (m : b ∉ S := by simp) : H1 b = some o := a.keep b o h n m
theorem free_upd {H : Hp} {p b : Addr} {o : HO} (h : upd H p o b = none) : H b = none := by
  by_cases e : b = p
  · rw [e, upd_same] at h
    cases h
  · rw [upd_ne e] at h
    exact h
/-- a new object -/
theorem Kp.new {tb : Addr} {S : List Addr} {H : Hp} {p : Addr} {o : HO} (h : H p = none) : Kp tb S H (upd H p o) :=
  ⟨fun b u e _ _ => by rw [upd_ne (ne_of_none e h)]; exact e, fun ⟨ps, e, t⟩ => ⟨ps, by rw [upd_ne (ne_of_none e h)]; exact e, t⟩, fun _ => free_upd⟩
theorem Kp.put {tb : Addr} {S : List Addr} {H : Hp} {p : Addr} {o u : HO} (h : H p = some u) (n : notTbl u = true := by rfl) (hp : p ∈ S := by simp) : Kp tb S H (upd H p o) :=
  ⟨fun b v e _ m => by rw [upd_ne (fun z => m (by rw [z]; exact hp))]; exact e, fun ⟨ps, e, t⟩ => ⟨ps, by
    rw [upd_ne (fun z => by rw [z, h] at e; cases e; cases n)]
    exact e, t⟩, fun _ => free_upd⟩
theorem Kp.step {tb : Addr} {S : List Addr} {H H1 : Hp} {p : Addr} {o : HO} (a : Kp tb S H H1) (h : H1 p = none) : Kp tb S H (upd H1 p o) := a.trans (Kp.new h)
/-- a store to what is new since H -/
theorem Kp.own {tb : Addr} {S : List Addr} {H H1 : Hp} {p : Addr} {o u : HO} (a : Kp tb S H H1) (h0 : H p = none) (h : H1 p = some u) (n : notTbl u = true := by rfl) : Kp tb S H (upd H1 p o) :=
  ⟨fun b v e m k => by rw [upd_ne (ne_of_none e h0)]; exact a.keep b v e m k, fun t => (Kp.put (S := [p]) h n).tab (a.tab t), fun b e => a.free b (free_upd e)⟩
theorem Kp.seq {tb : Addr} {S : List Addr} {K : PySem.W.Frag} {H H' : Hp} {a : Addr} {xs : List V} (e : Kp tb S H H') (h : SqL K H a xs) (m : a ∉ S := by simp) : SqL K H' a xs := by
  rcases h with (h | ⟨o, h⟩) | h
  · exact .inl (.inl (e.get h rfl m))
  · exact .inl (.inr ⟨o, e.get h rfl m⟩)
  · exact .inr h
theorem tab_new {tb : Addr} {H : Hp} {p : Addr} {o : HO} (t : GxR.TabG H tb) (h : H p = none) : GxR.TabG (upd H p o) tb := (Kp.new (S := []) h).tab t
/-- the table may have grown -/
theorem Kp.tabbed {tb : Addr} {S : List Addr} {H H' : Hp} (t : GxR.TabG H tb) (h : GxR.Tabbed tb H H') : Kp tb S H H' := by
  obtain ⟨h1, h2⟩ := h
  refine ⟨fun b o e n _ => ?_, fun _ => h1, fun b e => ?_⟩
  · rw [h2 b (fun z => ?_)]
    · exact e
    · obtain ⟨ps, e2, _⟩ := t
      rw [z, e2] at e
      cases e
      cases n
  · by_cases z : b = tb
    · obtain ⟨ps, e2, _⟩ := h1
      rw [z, e2] at e
      cases e
    · rw [h2 b z] at e
      exact e

/-! ### defs of the text -/
abbrev FnP (K : PySem.W.Frag) (x qual : Str) (st : Stmt) (f : Addr) (fd : FuncData) : Prop := FunD K x qual (defArgs st) (defBody st) (defScope st) [] [] f fd
section
variable {P : Program} {w : World} {K : PySem.W.Frag} {mg : Str → Option Value} {base : Heap}
/-- the module's name x is a def that keeps its promise -/
def Glob (P : Program) (w : World) (K : PySem.W.Frag) (mg : Str → Option Value) (base : Heap) (CX : CXT) (k : Nat) (x : Str) (ps : List Str) (sp : Sp) : Prop :=
  ∃ f fd, mg x = some (.ref f) ∧ PySem.W.keepIn K (.ref f) = true ∧ Binds K fd ps [] ∧ FnOk P w K mg base CX k f fd ps sp
/-- the method m of the class at C -/
def MethOk (P : Program) (w : World) (K : PySem.W.Frag) (mg : Str → Option Value) (base : Heap) (CX : CXT) (k : Nat) (C : Addr) (m : Str) (ps : List Str) (sp : Sp) : Prop :=
  ∃ f fd, Cls K C ∧ Meth K C m f ∧ Binds K fd ps [] ∧ FnOk P w K mg base CX k f fd ps sp
/-- the class x is made -/
def MakeOk (P : Program) (w : World) (K : PySem.W.Frag) (mg : Str → Option Value) (base : Heap) (CX : CXT) (k : Nat) (x : Str) (C : Addr) (ps : List Str) (sp : Sp) : Prop :=
  ∃ f fd, mg x = some (.ref C) ∧ Mk K C f ∧ Binds K fd ps [] ∧ FnOk P w K mg base CX k f fd ps sp
theorem Glob.mono {CX : CXT} {j k : Nat} {x : Str} {ps : List Str} {sp : Sp} (G : Glob P w K mg base CX j x ps sp) (h : j ≤ k) : Glob P w K mg base CX k x ps sp := by
  obtain ⟨f, fd, a, b, c, d⟩ := G
  exact ⟨f, fd, a, b, c, d.mono h⟩
theorem MethOk.mono {CX : CXT} {j k : Nat} {C : Addr} {x : Str} {ps : List Str} {sp : Sp} (G : MethOk P w K mg base CX j C x ps sp) (h : j ≤ k) : MethOk P w K mg base CX k C x ps sp := by
  obtain ⟨f, fd, a, b, c, d⟩ := G
  exact ⟨f, fd, a, b, c, d.mono h⟩
theorem MakeOk.mono {CX : CXT} {j k : Nat} {C : Addr} {x : Str} {ps : List Str} {sp : Sp} (G : MakeOk P w K mg base CX j x C ps sp) (h : j ≤ k) : MakeOk P w K mg base CX k x C ps sp := by
  obtain ⟨f, fd, a, b, c, d⟩ := G
  exact ⟨f, fd, a, b, c, d.mono h⟩
theorem glob_of {CX : CXT} {k : Nat} {x qual : Str} {st : Stmt} {f : Addr} {fd : FuncData} {ps : List Str} {sp : Sp} (F : FnP K x qual st f fd) (hm : mg x = some (.ref f))
    (hb : ∀ (kV doc pm : Value) (an : Option Addr) (cdv ct : Value) (us : List Value), us.length = ps.length → bindArgs (PySem.W.fnOf x qual (defArgs st) (defBody st) (defScope st) .none kV doc pm an cdv ct) ⟨us, []⟩ = pure (ps.zip us))
    (G : FnOk P w K mg base CX k f fd ps sp) : Glob P w K mg base CX k x ps sp := by
  exact ⟨f, fd, hm, F.kp, FunD.bindsN F hb, G⟩
theorem binds_of {x qual : Str} {st : Stmt} {f : Addr} {fd : FuncData} {ps : List Str} (F : FnP K x qual st f fd)
    (hb : ∀ (kV doc pm : Value) (an : Option Addr) (cdv ct : Value) (us : List Value), us.length = ps.length → bindArgs (PySem.W.fnOf x qual (defArgs st) (defBody st) (defScope st) .none kV doc pm an cdv ct) ⟨us, []⟩ = pure (ps.zip us)) : Binds K fd ps [] := by
  exact FunD.bindsN F hb
theorem ok0 {CX : CXT} {x qual : Str} {st : Stmt} {f : Addr} {fd : FuncData} {N ps : List Str} {k : Nat} {sp : Sp} (F : FnP K x qual st f fd) (S : FnScope N ps (defScope st)) (len : ∀ vs H Q E, sp vs H Q E → vs.length = ps.length)
    (hbody : ∀ (cdv : Value) (A : Around) (outer : List Env) (s : Shared) (H : Hp) (vs : List V) (Q : VK) (E : XK), Room k (A.deeper (envOfC qual (defScope st) s.heap.objs.size f cdv)) → sp vs H Q E →
      ∃ t, PSs (cxOf CX P w K mg base N qual (defScope st) f cdv A outer s H E).nox (defBody st) t ∧ t { nx := fun _ H' => Q .non H', rt := Q } (start N vs) H) : FnOk P w K mg base CX (k + 1) f fd ps sp :=
  FunD.ok F S len fun cdv A outer s H vs Q E hr hsp => by
    obtain ⟨t, h, q⟩ := hbody cdv A outer s H vs Q E hr hsp
    exact ⟨t, h.nox, q⟩
/-- as FunD.ok, with the code object told -/
theorem okC {CX : CXT} {x qual : Str} {st : Stmt} {f : Addr} {fd : FuncData} {N ps : List Str} {k : Nat} {sp : Sp} {p : He.Defn} (hp : He.fAd K p = f) (F : FnP K x qual st f fd) (S : FnScope N ps (defScope st)) (len : ∀ vs H Q E, sp vs H Q E → vs.length = ps.length)
    (hbody : ∀ (cdv : Value) (A : Around) (outer : List Env) (s : Shared) (H : Hp) (vs : List V) (Q : VK) (E : XK), cdv = .ref (He.codeOf K p) → Room k (A.deeper (envOfC qual (defScope st) s.heap.objs.size f cdv)) → sp vs H Q E →
      ∃ t, PSs (cxOf CX P w K mg base N qual (defScope st) f cdv A outer s H E) (defBody st) t ∧ t { nx := fun _ H' => Q .non H', rt := Q } (start N vs) H) : FnOk P w K mg base CX (k + 1) f fd ps sp := by
  obtain ⟨oc, od, dV, kV, doc, pm, an, cdv, ct, osl, rfl, lk, hcd, _, _⟩ := F.ex
  obtain ⟨c, hc⟩ := He.codeIn_ref hcd
  have e : cdv = .ref (He.codeOf K p) := by
    rw [He.codeOf_eq (p := p) (by rw [hp]; exact lk) hc]
    exact hc
  exact fn_of lk hcd S len fun A outer s H vs Q E hr hsp => hbody cdv A outer s H vs Q E e hr hsp
end
section
variable {X : Cx} {CX : CXT} {k : Nat} {C : Addr} {ps : List Str} {sp : Sp} {E : XK} {x m : Str} {p pos apos : Pos} {e o : Expr} {es : List Expr} {ta : TE} {t : TA}
theorem pe_callG (G : Glob X.prog X.w X.K X.mg X.base CX k x ps sp) (hr : Room k X.A) (hg : Gl X x) (hx : Passes CX X E) (ha : PA X (e :: es) t) (hdb : (x == ("__debug__" : Str)) = false := by decide)
    (he : starEach (e :: es) X.env = (false, eval e X.env) :: starEach es X.env := by rfl) (hpl : (backTo pos (starEach es X.env)).any (·.1) = false := by rfl) : PE X (.Call (.Name x p) (e :: es) [] pos) (tCall sp [] E t) := by
  obtain ⟨f, fd, hm, kp, b, F⟩ := G
  exact pe_call F hr hg hm kp b .nil hx ha hdb he hpl
theorem pe_methG {pl : Sem Bool} (ho : PE X o ta) (G : MethOk X.prog X.w X.K X.mg X.base CX k C m ps sp) (hr : Room k X.A) (hx : Passes CX X E) (ha : PA X (e :: es) t)
    (hst : starEach (e :: es) X.env = (false, eval e X.env) :: starEach es X.env := by rfl) (hpl : (backTo pos (starEach es X.env)).any (·.1) = false := by rfl)
    (ht : eval (.Call (.Attribute o m apos) (e :: es) [] pos) X.env = (do
      let ov ← eval o X.env
      standAt apos.atName
      let (f, first) ← holding [ov] (getMethod ov m pl)
      callWith pos f first (backTo pos (starEach (e :: es) X.env)) (backToKw pos (keywordEach [] X.env))) := by rfl) :
    PE X (.Call (.Attribute o m apos) (e :: es) [] pos) (tMeth C m sp [] E ta t) := by
  obtain ⟨f, fd, c, hm, b, F⟩ := G
  exact pe_meth ho c hm F hr b .nil hx ha hst hpl ht
theorem pe_meth0G {pl : Sem Bool} (ho : PE X o ta) (G : MethOk X.prog X.w X.K X.mg X.base CX k C m ps sp) (hr : Room k X.A) (hx : Passes CX X E)
    (ht : eval (.Call (.Attribute o m apos) [] [] pos) X.env = (do
      let ov ← eval o X.env
      standAt apos.atName
      let (f, first) ← holding [ov] (getMethod ov m pl)
      callWith pos f first (backTo pos (starEach [] X.env)) (backToKw pos (keywordEach [] X.env))) := by rfl) :
    PE X (.Call (.Attribute o m apos) [] [] pos) (tMeth C m sp [] E ta tNil) := by
  obtain ⟨f, fd, c, hm, b, F⟩ := G
  exact pe_meth0 ho c hm F hr b .nil hx ht
theorem pe_makeG (G : MakeOk X.prog X.w X.K X.mg X.base CX k x C ps sp) (hr : Room (k + 1) X.A) (hg : Gl X x) (hx : Passes CX X E) (ha : PA X (e :: es) t) (hdb : (x == ("__debug__" : Str)) = false := by decide)
    (he : starEach (e :: es) X.env = (false, eval e X.env) :: starEach es X.env := by rfl) (hpl : (backTo pos (starEach es X.env)).any (·.1) = false := by rfl) : PE X (.Call (.Name x p) (e :: es) [] pos) (tMake C sp [] E t) := by
  obtain ⟨f, fd, hm, M, b, F⟩ := G
  exact pe_make M F hr hg hm b .nil hx ha hdb he hpl
end

/-! ### comprehensions that gather -/
def LcI (tb : Addr) (H1 : Hp) (D : Addr) (R : Nat → List V → Prop) (i : Nat) (H : Hp) : Prop := ∃ acc, R i acc ∧ Kp tb [] H1 H ∧ H D = some (.lst acc)
theorem LcI.start {tb : Addr} {H1 : Hp} {D : Addr} {R : Nat → List V → Prop} (hD : H1 D = none) (h : R 0 []) : LcI tb H1 D R 0 (upd H1 D (.lst [])) := ⟨[], h, Kp.new hD, upd_same⟩
theorem LcI.next {tb : Addr} {H1 H H4 : Hp} {D : Addr} {R : Nat → List V → Prop} {i : Nat} {acc : List V} {y : V} (hD : H1 D = none) (kp : Kp tb [] H1 H) (hd : H D = some (.lst acc)) (k2 : Kp tb [] H H4) (hl : acc.length < sizeLine) (hr : R (i + 1) (acc ++ [y])) :
    ∃ acc, H4 D = some (.lst acc) ∧ acc.length < sizeLine ∧ LcI tb H1 D R (i + 1) (upd H4 D (.lst (acc ++ [y]))) := by
  have h4 : H4 D = some (.lst acc) := k2.get hd
  exact ⟨acc, h4, hl, acc ++ [y], hr, (kp.trans k2).own hD h4, upd_same⟩
theorem small_of {n m : Nat} (h : n ≤ m) (hm : m < sizeLine := by decide) : n < sizeLine := Nat.lt_of_le_of_lt h hm
theorem get_mapI {ns : List Int} {i : Nat} {y : V} (hi : (ns.map V.int)[i]? = some y) : ∃ z, ns[i]? = some z ∧ y = V.int z := by
  rw [List.getElem?_map] at hi
  cases e : ns[i]? with
  | none =>
    rw [e] at hi
    cases hi
  | some z =>
    rw [e] at hi
    exact ⟨z, rfl, (Option.some.inj hi).symm⟩
theorem get_mapS {ns : List Str} {i : Nat} {y : V} (hi : (ns.map V.str)[i]? = some y) : ∃ z, ns[i]? = some z ∧ y = V.str z := by
  rw [List.getElem?_map] at hi
  cases e : ns[i]? with
  | none =>
    rw [e] at hi
    cases hi
  | some z =>
    rw [e] at hi
    exact ⟨z, rfl, (Option.some.inj hi).symm⟩

theorem ite_else {c A B : Prop} [Decidable c] (hB : B) (hA : B → c → A) : if c then A else B := by
  by_cases h : c
  · rw [if_pos h]
    exact hA hB h
  · rw [if_neg h]
    exact hB
theorem ite_then {c A B : Prop} [Decidable c] (hA : A) (hB : A → ¬ c → B) : if c then A else B := by
  by_cases h : c
  · rw [if_pos h]
    exact hA
  · rw [if_neg h]
    exact hB hA h

/-! ### letters -/
def Low (z : Str) : Prop := z.cps.toList.all lowB = true
theorem low_app {a b : Str} (ha : Low a) (hb : Low b) : Low (a ++ b) := by
  unfold Low
  rw [Str.cps_append, Array.toList_append, List.all_append, Bool.and_eq_true]
  exact ⟨ha, hb⟩
theorem len_app (a b : Str) : (a ++ b).length = a.length + b.length := Str.length_append a b
theorem cut_list (z : Str) (lo hi : Option Int) : (cutS z lo hi).cps.toList = (z.cps.toList.drop (HT.sIx z.length 0 lo)).take (HT.sIx z.length z.length hi - HT.sIx z.length 0 lo) := by
  unfold cutS
  simp
theorem low_cut {z : Str} (h : Low z) (lo hi : Option Int) : Low (cutS z lo hi) := by
  unfold Low at *
  rw [cut_list]
  rw [List.all_eq_true] at *
  exact fun c hc => h c (List.mem_of_mem_drop (List.mem_of_mem_take hc))
theorem len_cut (z : Str) (lo hi : Option Int) : (cutS z lo hi).length = min (HT.sIx z.length z.length hi - HT.sIx z.length 0 lo) (z.length - HT.sIx z.length 0 lo) := by
  have e : (cutS z lo hi).length = (cutS z lo hi).cps.toList.length := by simp [Str.length]
  have e2 : z.cps.toList.length = z.length := by simp [Str.length]
  rw [e, cut_list, List.length_take, List.length_drop, e2]
theorem sIx_pos {n d : Nat} {v : Int} (h : 0 ≤ v) : HT.sIx n d (some v) = min v.toNat n := by
  show (if v < 0 then (v + (n : Int)).toNat else min v.toNat n) = _
  rw [if_neg (by omega)]
theorem isName_of {z : Str} (h1 : 1 ≤ z.length) (h8 : z.length ≤ 8) (h : Low z) : IsName z := ⟨h1, h8, h⟩
theorem low_nil : Low ("" : Str) := by
  show ("" : Str).cps.toList.all lowB = true
  decide +kernel
theorem join_low : ∀ (ys : List Str), (∀ y ∈ ys, Low y) → Low (Str.join ("" : Str) ys)
  | [], _ => rfl
  | [x], h => h x List.mem_cons_self
  | x :: y :: r, h => by
    show Low (x ++ ("" : Str) ++ Str.join ("" : Str) (y :: r))
    exact low_app (low_app (h x List.mem_cons_self) low_nil) (join_low (y :: r) fun z hz => h z (List.mem_cons_of_mem _ hz))
theorem join_len : ∀ (ys : List Str), (∀ y ∈ ys, y.length = 1) → (Str.join ("" : Str) ys).length = ys.length
  | [], _ => by decide +kernel
  | [x], h => h x List.mem_cons_self
  | x :: y :: r, h => by
    show (x ++ ("" : Str) ++ Str.join ("" : Str) (y :: r)).length = _
    rw [len_app, len_app, join_len (y :: r) fun z hz => h z (List.mem_cons_of_mem _ hz), h x List.mem_cons_self]
    have e : ("" : Str).length = 0 := by decide +kernel
    rw [e]
    simp only [List.length_cons]
    omega
theorem tjoin_eq (ys : List Str) : Txt.join ("" : Str) ys = Str.join ("" : Str) ys := StrLaws.glued_eq_join _ _
theorem letter_at : ∀ n : Nat, n < 26 → ∃ c, ("abcdefghijklmnopqrstuvwxyz" : Str).cps.toList[n]? = some c ∧ lowB c = true := by
  intro n hn
  have h : ∀ m : Fin 26, ∃ c, ("abcdefghijklmnopqrstuvwxyz" : Str).cps.toList[m.val]? = some c ∧ lowB c = true := by
    have e : ("abcdefghijklmnopqrstuvwxyz" : Str).cps.toList = (List.range 26).map (· + 97) := by decide +kernel
    rw [e]
    intro m
    refine ⟨m.val + 97, ?_, ?_⟩
    · rw [List.getElem?_map, List.getElem?_range m.isLt]
      rfl
    · unfold lowB
      have := m.isLt
      rw [decide_eq_true (by omega), decide_eq_true (by omega)]
      rfl
  exact h ⟨n, hn⟩
theorem letter_atI {i : Int} (h0 : 0 ≤ i) (h : i < 26) : ∃ c, atI ("abcdefghijklmnopqrstuvwxyz" : Str).cps.toList i = some c ∧ lowB c = true := by
  obtain ⟨c, h1, h2⟩ := letter_at i.toNat (by omega)
  refine ⟨c, ?_, h2⟩
  have e : i = (i.toNat : Int) := by omega
  rw [e]
  exact atI_nat h1
theorem low_one {c : Nat} (h : lowB c = true) : Low ⟨#[c]⟩ := by
  show [c].all lowB = true
  rw [List.all_cons, h]
  rfl

/-! ### equal lists of texts -/
def OkS (zs : List Str) : Prop := ∀ z ∈ zs, PyData.strOk z = true
theorem isName_ok {z : Str} (h : IsName z) : PyData.strOk z = true := by
  obtain ⟨_, _, h⟩ := h
  unfold PyData.strOk
  rw [← Array.all_toList]
  rw [List.all_eq_true] at h ⊢
  intro c hc
  have := h c hc
  unfold lowB at this
  rw [Bool.and_eq_true, decide_eq_true_eq, decide_eq_true_eq] at this
  exact decide_eq_true (by omega)
def dS (zs : List Str) : PyData := .list (zs.map PyData.str)
theorem dpAllS {K : PySem.W.Frag} {H : Hp} : ∀ zs : List Str, DpAll K H (zs.map V.str) (zs.map PyData.str)
  | [] => .nil
  | z :: r => .cons (.str z) (dpAllS r)
theorem dpS {K : PySem.W.Frag} {H : Hp} {a : Addr} {zs : List Str} (h : SqL K H a (zs.map V.str)) : Dp K H (.ref a) (dS zs) := .lst h (dpAllS zs)
theorem layAllS : ∀ {zs : List Str}, OkS zs → PyData.canLayAll0 (zs.map PyData.str) = true
  | [], _ => rfl
  | z :: r, h => by
    have h1 := h z List.mem_cons_self
    have h2 := layAllS (zs := r) fun y hy => h y (List.mem_cons_of_mem _ hy)
    show (PyData.canLay0 (.str z) && PyData.canLayAll0 (r.map PyData.str)) = true
    rw [h2, Bool.and_true]
    exact h1
theorem depthAllS : ∀ zs : List Str, PyData.depthAll (zs.map PyData.str) = 0
  | [] => rfl
  | z :: r => by
    show max (PyData.depth (.str z)) (PyData.depthAll (r.map PyData.str)) = 0
    rw [depthAllS r]
    rfl
theorem shS {zs : List Str} (h : OkS zs) : SeqAt.shaped (dS zs) = true := by
  unfold SeqAt.shaped dS
  rw [Bool.and_eq_true]
  refine ⟨layAllS h, decide_eq_true ?_⟩
  show PyData.depthAll (zs.map PyData.str) + 1 ≤ 64
  rw [depthAllS]
  decide
theorem eqvAllS : ∀ xs ys : List Str, PyData.eqvAll (xs.map PyData.str) (ys.map PyData.str) = decide (xs = ys)
  | [], [] => rfl
  | [], _ :: _ => rfl
  | _ :: _, [] => rfl
  | x :: r, y :: t => by
    show (PyData.eqv (.str x) (.str y) && PyData.eqvAll (r.map PyData.str) (t.map PyData.str)) = _
    rw [eqvAllS r t]
    show ((x == y) && decide (r = t)) = decide (x :: r = y :: t)
    by_cases e : x = y
    · subst e
      by_cases e2 : r = t
      · subst e2; simp
      · rw [decide_eq_false e2, decide_eq_false (fun z => e2 (List.cons.inj z).2), Bool.and_false]
    · rw [beq_eq_false_iff_ne.mpr e, decide_eq_false (fun z => e (List.cons.inj z).1), Bool.false_and]
def rEqS (K : PySem.W.Frag) : R2 := fun x y H Q => ∃ a b xs ys, x = .ref a ∧ y = .ref b ∧ SqL K H a (xs.map V.str) ∧ SqL K H b (ys.map V.str) ∧ OkS xs ∧ OkS ys ∧ Q (.bl (decide (xs = ys))) H
def rNeS (K : PySem.W.Frag) : R2 := fun x y H Q => ∃ a b xs ys, x = .ref a ∧ y = .ref b ∧ SqL K H a (xs.map V.str) ∧ SqL K H b (ys.map V.str) ∧ OkS xs ∧ OkS ys ∧ Q (.bl (!decide (xs = ys))) H
theorem op_eqS {X : Cx} (hu : X.A.units + 64 < cLine) : OpR X (compareOp .Eq) (rEqS X.K) := by
  intro pins s σ H x y v u Q I rx ry h
  obtain ⟨a, b, xs, ys, rfl, rfl, ha, hb, ox, oy, q⟩ := h
  exact op_eqD hu pins s σ H _ _ v u Q I rx ry ⟨dS xs, dS ys, dpS ha, dpS hb, shS ox, shS oy, by
    show Q (.bl (PyData.eqvAll (xs.map PyData.str) (ys.map PyData.str))) H
    rw [eqvAllS]; exact q⟩
theorem op_neS {X : Cx} (hu : X.A.units + 64 < cLine) : OpR X (compareOp .NotEq) (rNeS X.K) := by
  intro pins s σ H x y v u Q I rx ry h
  obtain ⟨a, b, xs, ys, rfl, rfl, ha, hb, ox, oy, q⟩ := h
  exact op_neD hu pins s σ H _ _ v u Q I rx ry ⟨dS xs, dS ys, dpS ha, dpS hb, shS ox, shS oy, by
    show Q (.bl (!PyData.eqvAll (xs.map PyData.str) (ys.map PyData.str))) H
    rw [eqvAllS]; exact q⟩
theorem okS_names {zs : List Str} (h : ∀ z ∈ zs, IsName z) : OkS zs := fun z hz => isName_ok (h z hz)

/-! ### cuts of lists -/
theorem cutV_map {f : Str → V} (xs : List Str) (lo hi : Option Int) : ∃ ys : List Str, cutV (xs.map f) lo hi = ys.map f ∧ (∀ y ∈ ys, y ∈ xs) ∧ ys.length = (cutV (xs.map f) lo hi).length := by
  unfold cutV
  rw [← List.map_drop, ← List.map_take]
  exact ⟨_, rfl, fun y hy => List.mem_of_mem_drop (List.mem_of_mem_take hy), by simp only [List.length_map]⟩
theorem cutV_len (xs : List V) (lo hi : Option Int) : (cutV xs lo hi).length = min (HT.sIx xs.length xs.length hi - HT.sIx xs.length 0 lo) (xs.length - HT.sIx xs.length 0 lo) := by
  unfold cutV
  rw [List.length_take, List.length_drop]

/-! ### new instances; stores to what is new -/
theorem Kp.made {tb x dx C : Addr} {H H' : Hp} (hx : H x = none) (hdx : H dx = none) (kp : Kp tb [x] (upd (upd H dx (.own x)) x (.ins C dx [])) H') : Kp tb [] H H' := by
  refine ⟨fun b o e n _ => ?_, fun t => ?_, fun b e => free_upd (free_upd (kp.free b e))⟩
  · have e1 : (upd (upd H dx (.own x)) x (.ins C dx [])) b = some o := by
      rw [upd_ne (ne_of_none e hx), upd_ne (ne_of_none e hdx)]
      exact e
    refine kp.keep b o e1 n fun z => ?_
    exact ne_of_none e hx (List.mem_singleton.mp z)
  · refine kp.tab ?_
    obtain ⟨ps, e, tr⟩ := t
    exact ⟨ps, by rw [upd_ne (ne_of_none e hx), upd_ne (ne_of_none e hdx)]; exact e, tr⟩
theorem Kp.transN {tb : Addr} {S : List Addr} {H H1 H2 : Hp} (a : Kp tb [] H H1) (b : Kp tb S H1 H2) (hS : ∀ x ∈ S, H x = none) : Kp tb [] H H2 :=
  ⟨fun c o e n m => b.keep c o (a.keep c o e n m) n (fun z => by rw [hS c z] at e; cases e), fun t => b.tab (a.tab t), fun c e => a.free c (b.free c e)⟩
/-! ### two sides -/
def sel {α : Type} (x y : α) (b : Bool) : α := if b then y else x
theorem disj_fix {rl sl ol tl d0 d1 p0 p1 l0 l1 lo0 lo1 a0 a1 : Addr} (nd : [tl, a1, a0, ol, lo1, d1, lo0, d0, p1, l1, p0, l0, sl, rl].Nodup) :
    (∀ b, ∀ x ∈ [rl, sl, ol, tl, d0, d1], x ∉ [sel p0 p1 b, sel l0 l1 b, sel lo0 lo1 b, sel a0 a1 b]) ∧ ∀ b, ∀ x ∈ [sel p0 p1 (!b), sel l0 l1 (!b), sel lo0 lo1 (!b), sel a0 a1 (!b)], x ∉ [sel p0 p1 b, sel l0 l1 b, sel lo0 lo1 b, sel a0 a1 b] := by
  simp only [List.nodup_cons, List.mem_cons, List.not_mem_nil, or_false, not_or] at nd
  constructor
  · intro b x hx
    simp only [List.mem_cons, List.not_mem_nil, or_false] at hx ⊢
    cases b <;> simp only [sel, if_true, Bool.false_eq_true, if_false] <;> rintro (e | e | e | e) <;> rcases hx with f | f | f | f | f | f <;> (rw [f] at e; simp [e] at nd)
  · intro b x hx
    simp only [List.mem_cons, List.not_mem_nil, or_false] at hx ⊢
    cases b <;> simp only [sel, if_true, Bool.false_eq_true, if_false, Bool.not_true, Bool.not_false] at hx ⊢ <;> rintro (e | e | e | e) <;> rcases hx with f | f | f | f <;> (rw [f] at e; simp [e] at nd)
theorem disj_self {rl sl ol tl d0 d1 p0 p1 l0 l1 lo0 lo1 a0 a1 : Addr} (nd : [tl, a1, a0, ol, lo1, d1, lo0, d0, p1, l1, p0, l0, sl, rl].Nodup) (b : Bool) :
    (sel p0 p1 b ≠ sel lo0 lo1 b ∧ sel l0 l1 b ≠ sel lo0 lo1 b ∧ sel a0 a1 b ≠ sel lo0 lo1 b) ∧ (sel p0 p1 b ≠ sel a0 a1 b ∧ sel l0 l1 b ≠ sel a0 a1 b) := by
  simp only [List.nodup_cons, List.mem_cons, List.not_mem_nil, or_false, not_or] at nd
  cases b <;> simp only [sel, if_true, Bool.false_eq_true, if_false] <;> refine ⟨⟨?_, ?_, ?_⟩, ?_, ?_⟩ <;> intro e <;> simp [e] at nd
end Kf

/-! Types compared by !=. -/
namespace Kf
open PySem PySem.Spec PyProof.Rows L2
open PySem.TypeEq
theorem slot_tyne : Slot "type" (cmpInfo .NotEq).2.1 "object.__ne__" :=
  .of (owner := "object") (n := "__ne__") (by rw [typeLookup_type, builtinLookup_eq_fast]; kernel_rfl) (by decide +kernel) (by decide +kernel) (by decide +kernel)
    (by first | exact .inl (by decide +kernel) | exact .inr (by decide +kernel)) (by rw [isSubtype_type]; kernel_rfl)
theorem slot_tyneR : Slot "type" (cmpInfo .NotEq).2.2 "object.__ne__" :=
  .of (owner := "object") (n := "__ne__") (by rw [typeLookup_type, builtinLookup_eq_fast]; kernel_rfl) (by decide +kernel) (by decide +kernel) (by decide +kernel)
    (by first | exact .inl (by decide +kernel) | exact .inr (by decide +kernel)) (by rw [isSubtype_type]; kernel_rfl)
section
variable {prog : Program} {w : World} {A : Around} {E : Value → Shared → Prop} {s : Shared}
theorem tyne_entry_same {X : String} (hX : ∀ s' : Shared, s'.TypeIs (.type X) "type") {Q : Fin → Shared → Prop} (hu : A.units < cLine) (h : Q (.done (.ret (.bool false))) s) :
    wpAny (model prog w) A (Builtin.«object.__ne__» ⟨[.type X, .type X], []⟩) Q E s := by
  unfold Builtin.«object.__ne__»
  repeat (first
    | with_reducible refine wpAny_cRoomFor hu ?_
    | (refine wpAny_bind (m := callSpecialIfBound? (.type X) (Str.ofString "__eq__") [.type X]) (wpAny_callSpecialIfBound?_slot (hX _) slot_type_eq
        (call_gives slot_type_eq (hX _) F.entry_object_eq (F.args_object_eq_2 _ _) (object_eq_same rfl (by simp)) ?_)))
    | wp_step)
  exact wpAny_bind (wpAny_truthy_bool (wpAny_pure h))
theorem tyne_entry_other {X Y : String} (hX : ∀ s' : Shared, s'.TypeIs (.type X) "type") (hne : (Value.type X == Value.type Y) = false) {Q : Fin → Shared → Prop} (hu : A.units < cLine) (h : Q (.done (.ret .notImplemented)) s) :
    wpAny (model prog w) A (Builtin.«object.__ne__» ⟨[.type X, .type Y], []⟩) Q E s := by
  unfold Builtin.«object.__ne__»
  repeat (first
    | with_reducible refine wpAny_cRoomFor hu ?_
    | (refine wpAny_bind (m := callSpecialIfBound? (.type X) (Str.ofString "__eq__") [.type Y]) (wpAny_callSpecialIfBound?_slot (hX _) slot_type_eq
        (call_gives slot_type_eq (hX _) F.entry_object_eq (F.args_object_eq_2 _ _) (object_eq_other rfl hne) ?_)))
    | wp_step)
  exact wpAny_pure h
theorem ne_ty_same {X : String} {Q : Value → Shared → Prop} (hX : ∀ s' : Shared, s'.TypeIs (.type X) "type") (hu : A.units + 1 < cLine) (h : Q (.bool false) s) : wpAny (model prog w) A (compareOp .NotEq (.type X) (.type X)) Q E s := by
  show wpAny _ A (richCompare .NotEq _ _) Q E s
  refine wpAny_richCompare_same (T := "type") (hX s) (hX s) slot_tyne ?_
  refine wpAny_call_entry slot_tyne (hX s) F.cmpEntry_ne (tyne_entry_same (A := A.in1) hX hu ⟨_, rfl, (by intro e; cases e), h⟩) (F.cmpArgs_ne _ _)
theorem ne_ty_other {X Y : String} {Q : Value → Shared → Prop} (hX : ∀ s' : Shared, s'.TypeIs (.type X) "type") (hY : ∀ s' : Shared, s'.TypeIs (.type Y) "type") (hne : (Value.type X == Value.type Y) = false) (hu : A.units + 1 < cLine) (h : Q (.bool true) s) :
    wpAny (model prog w) A (compareOp .NotEq (.type X) (.type Y)) Q E s := by
  have hne' : (Value.type Y == Value.type X) = false := by
    rw [Bool.eq_false_iff] at hne ⊢
    intro e
    exact hne (by rw [beq_iff_eq] at e ⊢; exact e.symm)
  show wpAny _ A (richCompare .NotEq _ _) Q E s
  have h1 := slot_tyne
  have h2 := slot_tyneR
  rcases hi : cmpInfo CmpOp.NotEq with ⟨sym, f, r⟩
  rw [hi] at h1 h2
  simp only [richCompare, hi, (hX s).oneThing_none]
  try with_reducible refine wpAny_holding ?_
  refine wpAny_bind (wpAny_cRoomFor_or (.inl rfl) ?_)
  refine wpAny_bind (wpAny_typeOf (hX s) (wpAny_bind (wpAny_typeOf (hY s) ?_)))
  simp only [bne_self_eq_false, Bool.false_eq_true, if_false, pure_bind, Bool.not_false, if_true]
  refine wpAny_bind (m := tryCompare (.type X) _ (.type Y)) (wpAny_tryCompare_declines (hX s) h1 (wpAny_call_entry h1 (hX s) F.cmpEntry_ne (tyne_entry_other (A := A.in1) hX hne hu ⟨_, rfl, rfl, ?_⟩) (F.cmpArgs_ne _ _)))
  refine wpAny_bind (m := tryCompare (.type Y) _ (.type X)) (wpAny_tryCompare_declines (hY s) h2 (wpAny_call_entry h2 (hY s) F.cmpEntry_ne (tyne_entry_other (A := A.in1) hY hne' hu ⟨_, rfl, rfl, ?_⟩) (F.cmpArgs_ne _ _)))
  refine wpAny_bind (wpAny_rule (wpAny_bind (wpAny_of_eq (isSame_plain rfl) (wpAny_pure ?_))))
  rw [hne]
  exact h
end
/-- the types that a value may have here -/
def tyOk (T : String) : Bool := T == "str" || T == "int" || T == "list" || T == "bool" || T == "NoneType" || T == "tuple" || T == "dict"
theorem tyOk_meta {T : String} (h : tyOk T = true) (s : Shared) : s.TypeIs (.type T) "type" := by
  unfold tyOk at h
  simp only [Bool.or_eq_true, beq_iff_eq] at h
  rcases h with (((((h | h) | h) | h) | h) | h) | h <;> subst h
  · exact meta_str s
  · exact meta_int s
  · exact meta_list s
  · exact meta_bool s
  · exact meta_NoneType s
  · exact meta_tuple s
  · exact meta_dict s
theorem op_neTy {X : Cx} (hu : X.A.units + 1 < cLine) : OpR X (compareOp .NotEq) (fun x y H Q => ∃ m n, x = .ty m ∧ y = .ty n ∧ tyOk m = true ∧ tyOk n = true ∧ Q (.bl (!decide (m = n))) H) := by
  intro pins s σ H x y v u Q I rx ry h
  obtain ⟨m, n, rfl, rfl, hm, hn, q⟩ := h
  cases rx
  cases ry
  by_cases e : m = n
  · subst e
    rw [decide_eq_true rfl] at q
    exact ne_ty_same (tyOk_meta hm) hu ⟨.bl false, H, I, rfl, q⟩
  · rw [decide_eq_false e] at q
    exact ne_ty_other (tyOk_meta hm) (tyOk_meta hn) (beq_eq_false_iff_ne.mpr fun z => e (Value.type.inj z)) hu ⟨.bl true, H, I, rfl, q⟩
end Kf

/-! the text by places -/
namespace Kf
open PySem PySem.Spec PyProof.Rows L2
def topS (i : Nat) : Stmt := PySem.Challenge.pw_keepfew_k09_whole_shelf_within_shelf.main.body.getD i (.Pass ⟨0, 0, 0, 0⟩)
abbrev s__wall : Stmt := topS 0
abbrev s_is_name : Stmt := topS 10
abbrev s_check_name : Stmt := topS 11
abbrev s_check_places : Stmt := topS 12
abbrev s_check_wishes : Stmt := topS 13
abbrev s_depths : Stmt := topS 15
abbrev s_missed_by_places : Stmt := topS 16
abbrev s__met : Stmt := topS 17
abbrev s_Shelf___init__ : Stmt := inClass (topS 19) 0
abbrev s_Shelf_wish : Stmt := inClass (topS 19) 1
abbrev s_Shelf_places : Stmt := inClass (topS 19) 2
abbrev s_Shelf_things : Stmt := inClass (topS 19) 3
abbrev s_Shelf_met : Stmt := inClass (topS 19) 4
abbrev s_Shelf_missed : Stmt := inClass (topS 19) 5
abbrev s_Shelf__free_a_place : Stmt := inClass (topS 19) 6
abbrev s_Shelf__pick_going : Stmt := inClass (topS 19) 7
abbrev s_Shelf__note_wish : Stmt := inClass (topS 19) 8
abbrev s_Cold__pick_going : Stmt := inClass (topS 20) 1
abbrev s_Cold__note_wish : Stmt := inClass (topS 20) 2
abbrev s__law_mixed : Stmt := topS 22
abbrev s__law_names : Stmt := topS 23
abbrev s__law_drawn : Stmt := topS 24
abbrev s__law_places : Stmt := topS 25
abbrev s_law : Stmt := topS 26
end Kf

namespace Kf
open PySem PySem.Spec PyProof.Rows L2
section
variable {P : Program} {w : World} {K : PySem.W.Frag} {mg : Str → Option Value} {base : Heap} {tb : Addr}
/-! ### _law_mixed -/
def spMixed : Sp := fun vs H Q _ => ∃ c k : Int, vs = [.int c, .int k] ∧ 0 ≤ k ∧ k ≤ 1000000 ∧ ∀ r : Int, 0 ≤ r → r < 100000000 → Q (.int r) H
theorem sc_mixed : FnScope ["_law_cell", "_law_k", "_law_number"] ["_law_cell", "_law_k"] (defScope s__law_mixed) := ⟨rfl, rfl, rfl, by decide +kernel, rfl, by decide +kernel, by decide +kernel⟩
theorem ok_mixed {f : Addr} {fd : FuncData} {k0 : Nat} (F : FnP K "_law_mixed" "_law_mixed" s__law_mixed f fd) : FnOk P w K mg base CX0 (k0 + 1) f fd ["_law_cell", "_law_k"] spMixed := by
  refine ok0 F sc_mixed (fun vs H Q E h => ?_) (fun cdv A outer s H vs Q E hr h => ?_)
  · obtain ⟨c, k, rfl, _⟩ := h
    rfl
  · obtain ⟨c, k, rfl, k0, k1, q⟩ := h
    refine ⟨_, pss_cons (ps_set (i := 2) sc_mixed.nd rfl (.inl rfl) (pe_op op_add (pe_op op_add (pe_op op_mod (pv 0) pe_int) (pe_op op_mul pe_int (pv 1))) pe_int))
      (pss_one (ps_ret (pe_op op_fdiv (pe_op op_mod (pe_op op_mul (pe_op op_mod (pe_op op_mul (pv 2) (pv 2)) pe_int) (pv 2)) pe_int) pe_int))), ?_⟩
    have h1 := Int.emod_nonneg c (show (1000000007 : Int) ≠ 0 by decide)
    have h2 := Int.emod_lt_of_pos c (show (0 : Int) < 1000000007 by decide)
    refine ⟨_, rfl, _, _, rfl, rfl, (by show (0 : Int) < 1000000007; decide), _, rfl, _, _, rfl, rfl, .inl ⟨by decide, by decide⟩, _, _, rfl, rfl, _, _, rfl, rfl, ?_⟩
    generalize hn : c % 1000000007 + 7919 * k + 13 = n
    have n0 : 0 ≤ n := by omega
    have n1 : n < 18446744073709551616 := by omega
    refine ⟨_, rfl, _, rfl, _, _, rfl, rfl, .inl ⟨by omega, by omega⟩, _, _, rfl, rfl, (by show (0 : Int) < 1000000007; decide), ?_⟩
    generalize hm : n * n = m
    have m1 := Int.emod_nonneg m (show (1000000007 : Int) ≠ 0 by decide)
    have m2 := Int.emod_lt_of_pos m (show (0 : Int) < 1000000007 by decide)
    refine ⟨_, rfl, _, _, rfl, rfl, .inl ⟨by omega, by omega⟩, _, _, rfl, rfl, (by show (0 : Int) < 998244353; decide), _, _, rfl, rfl, ⟨by decide, by decide⟩, ?_⟩
    generalize hz : m % 1000000007 * n = z
    have z1 := Int.emod_nonneg z (show (998244353 : Int) ≠ 0 by decide)
    have z2 := Int.emod_lt_of_pos z (show (0 : Int) < 998244353 by decide)
    exact q _ (by omega) (by omega)
end
end Kf

namespace Kf
open PySem PySem.Spec PyProof.Rows L2
section
variable {P : Program} {w : World} {K : PySem.W.Frag} {mg : Str → Option Value} {base : Heap} {tb : Addr}
/-! ### _law_places -/
def spPlaces (K : PySem.W.Frag) (tb : Addr) : Sp := fun vs H Q _ => ∃ (a : Addr) (ns : List Int) (k : Int), vs = [.ref a, .int k] ∧ SqL K H a (ns.map V.int) ∧ ns.length ≤ 300 ∧ 0 ≤ k ∧ k ≤ 1000 ∧
  ∀ (r : Int) (H' : Hp), 1 ≤ r → r ≤ 20 → Kp tb [] H H' → Q (.int r) H'
theorem sc_places : FnScope ["_law_script", "_law_k", "_law_number", "_law_cell"] ["_law_script", "_law_k"] (defScope s__law_places) := ⟨rfl, rfl, rfl, by decide +kernel, rfl, by decide +kernel, by decide +kernel⟩
theorem ok_places {f : Addr} {fd : FuncData} {k0 : Nat} (F : FnP K "_law_places" "_law_places" s__law_places f fd) (G : Glob P w K mg base CX0 (k0 + 1) "_law_mixed" ["_law_cell", "_law_k"] spMixed)
    (hlen : mg "len" = none) (hsum : mg "sum" = none) : FnOk P w K mg base CX0 (k0 + 2) f fd ["_law_script", "_law_k"] (spPlaces K tb) := by
  refine ok0 F sc_places (fun vs H Q E h => ?_) (fun cdv A outer s H vs Q E hr h => ?_)
  · obtain ⟨a, ns, k, rfl, _⟩ := h
    rfl
  · obtain ⟨a, ns, k, rfl, hS, hl, k0', k1, q⟩ := h
    refine ⟨_, pss_cons (ps_set (i := 2) sc_places.nd rfl (.inl rfl) (pe_callG G hr (by rfl) pass0
        (pa_cons (pe_op op_add (pe_callB call_len_seq (by rfl) hlen PySem.boot_len (pa_cons (pv 0) pa_nil))
          (pe_callB (cr_sum rfl) (by rfl) hsum (by decide +kernel) (pa_cons (pe_lc (own := [("_law_cell", 3)]) (g := gName 3) (tt := tYes) rfl sc_places.nd (pi_list (pv 0)) (blkOk_by (N := ["_law_script", "_law_k", "_law_number", "_law_cell"]) (sc := defScope s__law_places) (by decide +kernel))
            (fun _ _ _ _ _ => pg_name (i := 3) sc_places.nd rfl (Or.inl rfl)) (fun _ _ _ _ _ => pts_nil) (fun _ _ _ _ _ => pe_op op_mod (pv 3) pe_int)) pa_nil)))
        (pa_cons (pe_op op_add pe_int (pv 1)) pa_nil))))
      (pss_one (ps_ret (pe_op op_add pe_int (pe_op op_mod (pe_op op_fdiv (pv 2) pe_int) (pe_ix ix_list (pe_lst (pa_cons pe_int (pa_cons pe_int (pa_cons pe_int (pa_cons pe_int pa_nil))))) (pe_op op_mod (pv 2) pe_int) (fun _ _ => rfl)))))), ?_⟩
    -- len(script)
    refine ⟨_, rfl, a, _, rfl, .inl hS, ?_⟩
    -- the comprehension
    refine ⟨_, rfl, a, rfl, ⟨_, hS⟩, fun D hD => lc_list (K := K) (a := a) (xs := ns.map V.int) (fun i H1 => ∃ ms : List Int, ms.length = i ∧ Kp tb [] H H1 ∧ H1 D = some (.lst (ms.map V.int)))
      ⟨[], rfl, Kp.new hD, upd_same⟩ (fun i H1 _ ⟨_, _, kp, _⟩ => kp.seq hS) ?_ ?_⟩
    · rintro i x H1 hi ⟨ms, hms, kp, hd⟩
      obtain ⟨z, hz, rfl⟩ := get_mapI hi
      have hil : i < ns.length := (List.getElem?_eq_some_iff.mp hz).1
      refine ⟨rfl, _, rfl, _, _, rfl, rfl, (by show (0 : Int) < 1009; decide), _, hd, ?_, ms ++ [z % 1009], ?_, ?_, ?_⟩
      · rw [List.length_map]
        exact small_of (m := 300) (by omega)
      · rw [List.length_append, hms]
        rfl
      · exact kp.own hD hd
      · rw [upd_same, List.map_append]
        rfl
    · rintro H1 ⟨ms, hms, kp, hd⟩
      refine ⟨D, ms, rfl, SqL.of hd, _, _, rfl, rfl, _, rfl, _, _, rfl, rfl, _, _, rfl, by omega, by omega, fun r r0 r1 => ?_⟩
      refine ⟨_, rfl, _, _, rfl, rfl, ⟨by decide, by decide⟩, by decide, fun p hp => ?_⟩
      have e0 := Int.emod_nonneg r (show (4 : Int) ≠ 0 by decide)
      have e1 := Int.emod_lt_of_pos r (show (0 : Int) < 4 by decide)
      have hc : ∃ d : Int, atI [V.int 3, V.int 5, V.int 9, V.int 20] (r % 4) = some (V.int d) ∧ 0 < d ∧ d ≤ 20 := by
        have : r % 4 = 0 ∨ r % 4 = 1 ∨ r % 4 = 2 ∨ r % 4 = 3 := by omega
        rcases this with e | e | e | e <;> rw [e]
        · exact ⟨3, rfl, by decide, by decide⟩
        · exact ⟨5, rfl, by decide, by decide⟩
        · exact ⟨9, rfl, by decide, by decide⟩
        · exact ⟨20, rfl, by decide, by decide⟩
      obtain ⟨d, hd1, hd2, hd3⟩ := hc
      refine ⟨_, rfl, _, _, rfl, rfl, (by show (0 : Int) < 4; decide), p, _, _, _, rfl, rfl, SqL.of upd_same, hd1, ?_⟩
      refine ⟨_, _, rfl, rfl, hd2, _, _, rfl, rfl, ?_⟩
      have f0 := Int.emod_nonneg (r / 4) (show d ≠ 0 by omega)
      have f1 := Int.emod_lt_of_pos (r / 4) hd2
      exact q _ _ (by omega) (by omega) (kp.step hp)
end
end Kf

namespace Kf
open PySem PySem.Spec PyProof.Rows L2
section
variable {P : Program} {w : World} {K : PySem.W.Frag} {mg : Str → Option Value} {base : Heap} {tb : Addr}
/-! ### _law_names -/
def spNames (tb : Addr) : Sp := fun vs H Q _ => ∃ n m : Int, vs = [.int n, .int m] ∧ 0 ≤ n ∧ n < 100000000 ∧ 3 ≤ m ∧ m ≤ 26 ∧
  ∀ (zs : List Str) (p : Addr) (H' : Hp), (zs.length : Int) = m → (∀ z ∈ zs, IsName z) → Kp tb [] H H' → H p = none → H' p = some (.lst (zs.map V.str)) → Q (.ref p) H'
abbrev nNames : List Str := ["_law_number", "_law_many", "_law_letters", "_law_size", "_law_row", "_law_at", "_law_signs", "_law_j", "_law_k", "_law_sign"]
theorem sc_names : FnScope nNames ["_law_number", "_law_many"] (defScope s__law_names) := ⟨rfl, rfl, rfl, by decide +kernel, rfl, by decide +kernel, by decide +kernel⟩
/-- texts gathered, each of a kind -/
def RS (p : Str → Prop) (i : Nat) (acc : List V) : Prop := ∃ zs : List Str, zs.length = i ∧ (∀ z ∈ zs, p z) ∧ acc = zs.map V.str
theorem RS.nil {p : Str → Prop} : RS p 0 [] := ⟨[], rfl, fun _ h => absurd h (by simp), rfl⟩
theorem RS.snoc {p : Str → Prop} {i : Nat} {acc : List V} {z : Str} (h : RS p i acc) (hz : p z) : RS p (i + 1) (acc ++ [.str z]) := by
  obtain ⟨zs, h1, h2, rfl⟩ := h
  refine ⟨zs ++ [z], by rw [List.length_append, h1]; rfl, fun y hy => ?_, by rw [List.map_append]; rfl⟩
  rcases List.mem_append.mp hy with hy | hy
  · exact h2 y hy
  · rw [List.mem_singleton.mp hy]; exact hz
theorem RS.len {p : Str → Prop} {i : Nat} {acc : List V} (h : RS p i acc) : acc.length = i := by
  obtain ⟨zs, h1, _, rfl⟩ := h
  rw [List.length_map, h1]
def IsSign (z : Str) : Prop := z.length = 1 ∧ Low z
theorem ok_names {f : Addr} {fd : FuncData} {k0 : Nat} (F : FnP K "_law_names" "_law_names" s__law_names f fd) (hrange : mg "range" = none) (henum : mg "enumerate" = none) :
    FnOk P w K mg base CX0 (k0 + 1) f fd ["_law_number", "_law_many"] (spNames tb) := by
  refine ok0 F sc_names (fun vs H Q E h => ?_) (fun cdv A outer s H vs Q E hr h => ?_)
  · obtain ⟨n, m, rfl, _⟩ := h
    rfl
  · obtain ⟨n, m, rfl, n0, n1, m0, m1, q⟩ := h
    refine ⟨_, pss_cons (ps_set (i := 2) sc_names.nd rfl (.inr rfl) pe_str)
      (pss_cons (ps_set (i := 3) sc_names.nd rfl (.inr rfl) (pe_op op_mod (pv 0) pe_int))
      (pss_cons (ps_set (i := 4) sc_names.nd rfl (.inr rfl) (pe_join pe_str
        (pe_lc (own := [("_law_j", 7)]) (g := gName 7) (tt := tYes) rfl sc_names.nd (pi_range1 (by rfl) hrange (pa_cons pe_int pa_nil)) (blkOk_by (N := nNames) (sc := defScope s__law_names) (by decide +kernel))
            (fun _ _ _ _ _ => pg_name (i := 7) sc_names.nd rfl (Or.inl rfl)) (fun _ _ _ _ _ => pts_nil)
            (fun _ _ _ _ _ => pe_ix ix_str (pv 2) (pe_op op_mod (pe_op op_add (pe_op op_fdiv (pv 0) pe_int) (pe_op op_mul pe_int (pv 7))) pe_int) (fun _ _ => rfl)))))
      (pss_cons (ps_if (PW.pt (pw_and (pt_cmpR op_eq (pe_op op_mod (pe_op op_fdiv (pv 0) pe_int) pe_int) pe_int (nomark _)) (pw_and1 (pt_cmpR op_lt (pv 1) pe_int (nomark _)))))
        (pss_one (ps_ret (pe_lc (own := [("_law_k", 8)]) (g := gName 8) (tt := tYes) rfl sc_names.nd (pi_range1 (by rfl) hrange (pa_cons (pv 1) pa_nil)) (blkOk_by (N := nNames) (sc := defScope s__law_names) (by decide +kernel))
            (fun _ _ _ _ _ => pg_name (i := 8) sc_names.nd rfl (Or.inl rfl)) (fun _ _ _ _ _ => pts_nil)
            (fun _ _ _ _ _ => pe_slice sl_str (pv 4) po_none (po_some (pe_op op_add (pv 8) pe_int)))))) pss_nil)
      (pss_cons (ps_set (i := 5) sc_names.nd rfl (.inr rfl) (pe_op op_mod (pe_op op_fdiv (pv 0) pe_int) (pe_op op_add (pv 3) pe_int)))
      (pss_cons (ps_setLc (i := 6) (own := [("_law_k", 8)]) (g := gName 8) (tt := tYes) rfl sc_names.nd rfl rfl (sw_true rfl rfl rfl (by decide +kernel)) (pi_range1 (by rfl) hrange (pa_cons (pv 1) pa_nil)) (blkOk_by (N := nNames) (sc := defScope s__law_names) (by decide +kernel))
            (fun _ _ _ _ _ => pg_name (i := 8) sc_names.nd rfl (Or.inl rfl)) (fun _ _ _ _ _ => pts_nil)
            (fun _ _ _ _ _ => pe_ix ix_str (pv 2) (pe_op op_mod (pe_op op_add (pe_op op_fdiv (pv 0) pe_int) (pe_op op_mul pe_int (pv 8))) pe_int) (fun _ _ => rfl)))
      (pss_cons (ps_if (pt_cmpR op_eq (pe_op op_mod (pe_op op_fdiv (pv 0) pe_int) pe_int) pe_int (nomark _))
        (pss_one (ps_ret (pe_lc (own := [("_law_k", 8), ("_law_sign", 9)]) (g := gTup K 2 (gCons (gName 8) (gCons (gName 9) gNil))) (tt := tYes) rfl sc_names.nd (pi_enum (by rfl) henum (pa_cons (pv 6) pa_nil)) (blkOk_by (N := nNames) (sc := defScope s__law_names) (by decide +kernel))
            (fun _ _ _ _ _ => pg_tup rfl (pgs_cons (pg_name (i := 8) sc_names.nd rfl (Or.inl rfl)) (pgs_cons (pg_name (i := 9) sc_names.nd rfl (Or.inl rfl)) pgs_nil))) (fun _ _ _ _ _ => pts_nil)
            (fun _ _ _ _ _ => pe_op op_add_str (pv 9) (pe_slice sl_str (pv 4) po_none (po_some (pe_op op_mod (pe_op op_add (pe_op op_mul pe_int (pv 8)) (pv 5)) pe_int))))))) pss_nil)
      (pss_one (ps_ret (pe_lc (own := [("_law_sign", 9)]) (g := gName 9) (tt := tYes) rfl sc_names.nd (pi_list (pv 6)) (blkOk_by (N := nNames) (sc := defScope s__law_names) (by decide +kernel))
            (fun _ _ _ _ _ => pg_name (i := 9) sc_names.nd rfl (Or.inl rfl)) (fun _ _ _ _ _ => pts_nil)
            (fun _ _ _ _ _ => pe_op op_add_str (pe_op op_add_str (pe_slice sl_str (pv 4) po_none (po_some (pv 5))) (pv 9)) (pe_slice sl_str (pv 4) (po_some (pv 5)) (po_some (pv 3))))))))))))), ?_⟩
    have hline : ∀ {z : Str}, z.length ≤ 8 → z.length ≤ sizeLine := fun h => Nat.le_of_lt (small_of (m := 8) h)
    -- letters, size
    refine ⟨_, rfl, _, _, rfl, rfl, (by show (0 : Int) < 8; decide), ?_⟩
    have s0 := Int.emod_nonneg n (show (8 : Int) ≠ 0 by decide)
    have s1 := Int.emod_lt_of_pos n (show (0 : Int) < 8 by decide)
    -- row
    refine ⟨⟨_, rfl⟩, 8, rfl, by decide, by decide, fun D hD => ?_⟩
    refine lc_it (n := 8) walk_range (LcI tb H D (RS IsSign)) (LcI.start hD RS.nil) (fun _ _ _ _ => trivial) ?_ ?_
    · rintro i x H1 H2 hi ⟨acc, r, kp, hd⟩ ⟨rfl, rfl⟩
      obtain ⟨c, hc, lc⟩ := letter_atI (i := (n / 8 + 5 * (0 + (i : Int))) % 26) (Int.emod_nonneg _ (by decide)) (Int.emod_lt_of_pos _ (by decide))
      refine ⟨rfl, _, rfl, _, rfl, _, _, rfl, rfl, ⟨by decide, by decide⟩, _, rfl, _, _, rfl, rfl, .inl ⟨by decide, by decide⟩, _, _, rfl, rfl, _, _, rfl, rfl, (by show (0 : Int) < 26; decide), _, _, c, rfl, rfl, by decide +kernel, hc, ?_⟩
      exact LcI.next hD kp hd (Kp.refl _) (by rw [r.len]; exact small_of (m := 8) (by omega)) (r.snoc ⟨rfl, low_one lc⟩)
    · rintro H1 ⟨acc, ⟨signs, hl8, hsg, rfl⟩, kp1, hd1⟩
      refine ⟨_, _, signs, rfl, rfl, .inl (SqL.of hd1), ?_, ?_⟩
      · have e1 : (signs.map (·.length)).sum = signs.length := by
          have : ∀ l : List Str, (∀ z ∈ l, IsSign z) → (l.map (·.length)).sum = l.length := by
            intro l
            induction l with
            | nil => intro _; rfl
            | cons a r ih =>
              intro h
              rw [List.map_cons, List.sum_cons, ih fun z hz => h z (List.mem_cons_of_mem _ hz), (h a List.mem_cons_self).1, List.length_cons]
              omega
          exact this signs hsg
        rw [e1, hl8]
        decide +kernel
      rw [tjoin_eq]
      have rl : (Str.join ("" : Str) signs).length = 8 := by rw [join_len signs fun z hz => (hsg z hz).1, hl8]
      have rlow : Low (Str.join ("" : Str) signs) := join_low signs fun z hz => (hsg z hz).2
      generalize Str.join ("" : Str) signs = row at rl rlow ⊢
      have f1 : Kp tb [] H H1 := kp1
      have fin : ∀ (H' : Hp) (zs : List Str) (p : Addr), Kp tb [] H1 H' → H1 p = none → (zs.length : Int) = m → (∀ z ∈ zs, IsName z) → H' p = some (.lst (zs.map V.str)) → Q (.ref p) H' := fun H' zs p k2 np h1 h2 h3 =>
        q zs p H' h1 h2 (f1.trans k2) (f1.free _ np) h3
      -- if number // 64 % 3 == 1 and many < 9
      refine ⟨_, rfl, _, _, rfl, rfl, ⟨by decide, by decide⟩, _, _, rfl, rfl, (by show (0 : Int) < 3; decide), rfl, _, rfl, ?_⟩
      refine ite_else ?rest (fun hrest _ => ⟨_, rfl, _, _, rfl, rfl, _, rfl, ?_⟩)
      · -- at, signs
        have a0 := Int.emod_nonneg (n / 200) (show n % 8 + 1 ≠ 0 by omega)
        have a1 := Int.emod_lt_of_pos (n / 200) (show 0 < n % 8 + 1 by omega)
        refine ⟨_, rfl, _, _, rfl, rfl, ⟨by decide, by decide⟩, _, rfl, _, _, rfl, rfl, _, _, rfl, rfl, by omega, ?_⟩
        refine ⟨_, rfl, m, rfl, by omega, by omega, fun D2 hD2 => ?_⟩
        refine lc_it (n := m.toNat) walk_range (LcI tb H1 D2 (RS IsSign)) (LcI.start hD2 RS.nil) (fun _ _ _ _ => trivial) ?_ ?_
        · rintro i x H2 H3 hi ⟨acc, r, kp, hd⟩ ⟨rfl, rfl⟩
          obtain ⟨c, hc, lc⟩ := letter_atI (i := (n / 2000 + 7 * (0 + (i : Int))) % 26) (Int.emod_nonneg _ (by decide)) (Int.emod_lt_of_pos _ (by decide))
          refine ⟨rfl, _, rfl, _, rfl, _, _, rfl, rfl, ⟨by decide, by decide⟩, _, rfl, _, _, rfl, rfl, .inl ⟨by decide, by decide⟩, _, _, rfl, rfl, _, _, rfl, rfl, (by show (0 : Int) < 26; decide), _, _, c, rfl, rfl, by decide +kernel, hc, ?_⟩
          exact LcI.next hD2 kp hd (Kp.refl _) (by rw [r.len]; exact small_of (m := 26) (by omega)) (r.snoc ⟨rfl, low_one lc⟩)
        · rintro H2 ⟨acc, ⟨sgs, hlm, hsgs, rfl⟩, kp2, hd2⟩
          have fin2 : ∀ (H' : Hp) (zs : List Str) (p : Addr), Kp tb [] H2 H' → H2 p = none → zs.length = sgs.length → (∀ z ∈ zs, IsName z) → H' p = some (.lst (zs.map V.str)) → Q (.ref p) H' := fun H' zs p k2 np h1 h2 h3 => by
            exact fin H' zs p (kp2.trans k2) (kp2.free _ np) (by omega) h2 h3
          -- if number // 64 % 3 == 2
          refine ⟨_, rfl, _, _, rfl, rfl, ⟨by decide, by decide⟩, _, _, rfl, rfl, (by show (0 : Int) < 3; decide), rfl, _, rfl, ?_⟩
          refine ite2 (fun _ => ?_) (fun _ => ?_)
          · refine ⟨_, rfl, D2, _, rfl, SqL.of hd2, fun D3 hD3 => ?_⟩
            refine lc_it (n := (sgs.map V.str).length) walk_enum (LcI tb H2 D3 (RS IsName)) (LcI.start hD3 RS.nil) (fun i H _ ⟨_, _, kp, _⟩ => kp.seq (SqL.of hd2)) ?_ ?_
            · rintro i x H3 H4 hi ⟨acc, r, kp, hd⟩ ⟨T, x1, x2, rfl, nT, rfl, e1, e2⟩
              cases e1
              obtain ⟨sg, hsg1, rfl⟩ := get_mapS e2
              obtain ⟨l1, lw⟩ := hsgs sg (List.mem_of_getElem? hsg1)
              refine ⟨T, _, rfl, SqT.of upd_same, rfl, _, _, rfl, _, _, rfl, rfl, rfl, ?_⟩
              have e0 := Int.emod_nonneg (3 * (i : Int) + n / 200 % (n % 8 + 1)) (show (8 : Int) ≠ 0 by decide)
              have e8 := Int.emod_lt_of_pos (3 * (i : Int) + n / 200 % (n % 8 + 1)) (show (0 : Int) < 8 by decide)
              refine ⟨_, rfl, _, rfl, _, rfl, _, _, rfl, rfl, .inl ⟨by decide, by decide⟩, _, rfl, _, _, rfl, rfl, _, _, rfl, rfl, (by show (0 : Int) < 8; decide), _, rfl, row, rfl, hline (by omega), ?_⟩
              have lc : (cutS row none (some ((3 * (i : Int) + n / 200 % (n % 8 + 1)) % 8))).length ≤ 7 := by
                rw [len_cut, HT.sIx_none, sIx_pos e0, rl]; omega
              refine ⟨_, _, rfl, rfl, Nat.le_of_lt (small_of (m := 8) (by omega)), ?_⟩
              rw [List.length_map] at hi
              exact LcI.next hD3 kp hd (Kp.new nT) (by rw [r.len]; exact small_of (m := 26) (by omega)) (r.snoc (isName_of (by rw [len_app]; omega) (by rw [len_app]; omega) (low_app lw (low_cut rlow _ _))))
            · rintro H3 ⟨acc, ⟨zs, hz1, hz2, rfl⟩, kp, hd⟩
              rw [List.length_map] at hz1
              exact fin2 H3 zs D3 kp hD3 hz1 hz2 hd
          · refine ⟨_, rfl, D2, rfl, ⟨_, SqL.of hd2⟩, fun D3 hD3 => ?_⟩
            refine lc_it (n := (sgs.map V.str).length) walk_list (LcI tb H2 D3 (RS IsName)) (LcI.start hD3 RS.nil) (fun i H _ ⟨_, _, kp, _⟩ => kp.seq (SqL.of hd2)) ?_ ?_
            · rintro i x H3 H4 hi ⟨acc, r, kp, hd⟩ ⟨rfl, e2⟩
              obtain ⟨sg, hsg1, rfl⟩ := get_mapS e2
              obtain ⟨l1, lw⟩ := hsgs sg (List.mem_of_getElem? hsg1)
              rw [List.length_map] at hi
              refine ⟨rfl, _, rfl, _, rfl, _, rfl, row, rfl, hline (by omega), _, rfl, _, _, rfl, rfl, ?_, _, rfl, _, rfl, _, rfl, _, rfl, _, rfl, row, rfl, hline (by omega), _, _, rfl, rfl, ?_, ?_⟩
              · rw [len_cut, HT.sIx_none, sIx_pos a0, rl]
                exact Nat.le_of_lt (small_of (m := 9) (by omega))
              · rw [len_app, len_cut, len_cut, HT.sIx_none, sIx_pos a0, sIx_pos s0, rl]
                exact Nat.le_of_lt (small_of (m := 20) (by omega))
              · refine LcI.next hD3 kp hd (Kp.refl _) (by rw [r.len]; exact small_of (m := 26) (by omega)) (r.snoc (isName_of ?_ ?_ (low_app (low_app (low_cut rlow _ _) lw) (low_cut rlow _ _))))
                · rw [len_app, len_app]; omega
                · simp only [len_app, len_cut, HT.sIx_none, sIx_pos a0, sIx_pos s0, rl]; omega
            · rintro H3 ⟨acc, ⟨zs, hz1, hz2, rfl⟩, kp, hd⟩
              rw [List.length_map] at hz1
              exact fin2 H3 zs D3 kp hD3 hz1 hz2 hd
      · cases h9 : decide (m < 9) with
        | true =>
          refine iteT ?_
          refine ⟨_, rfl, m, rfl, by omega, by omega, fun D2 hD2 => ?_⟩
          refine lc_it (n := m.toNat) walk_range (LcI tb H1 D2 (RS IsName)) (LcI.start hD2 RS.nil) (fun _ _ _ _ => trivial) ?_ ?_
          · rintro i x H2 H3 hi ⟨acc, r, kp, hd⟩ ⟨rfl, rfl⟩
            have hm9 := of_decide_eq_true h9
            refine ⟨rfl, _, rfl, _, rfl, _, _, rfl, rfl, _, rfl, row, rfl, hline (by omega), ?_⟩
            refine LcI.next hD2 kp hd (Kp.refl _) (by rw [r.len]; exact small_of (m := 26) (by omega)) (r.snoc (isName_of ?_ ?_ (low_cut rlow _ _)))
            · rw [len_cut, HT.sIx_none, sIx_pos (by omega), rl]; omega
            · rw [len_cut, HT.sIx_none, sIx_pos (by omega), rl]; omega
          · rintro H2 ⟨acc, ⟨zs, hz1, hz2, rfl⟩, kp, hd⟩
            exact fin H2 zs D2 kp hD2 (by omega) hz2 hd
        | false => exact iteF hrest
end
end Kf

namespace Kf
open PySem PySem.Spec PyProof.Rows L2
section
variable {P : Program} {w : World} {K : PySem.W.Frag} {mg : Str → Option Value} {base : Heap} {tb : Addr}
/-! ### _law_drawn -/
def spDrawn (K : PySem.W.Frag) (tb : Addr) : Sp := fun vs H Q _ => ∃ (a : Addr) (ns : List Int) (m : Int), vs = [.ref a, .int m] ∧ SqL K H a (ns.map V.int) ∧ ns.length ≤ 63 ∧ 5 ≤ m ∧ m ≤ 12 ∧
  ∀ (zs ws : List Str) (t pz pw : Addr) (H' : Hp), 0 < zs.length → zs.length ≤ 26 → (m ≤ 9 → (zs.length : Int) ≤ m) → (∀ z ∈ zs, IsName z) → ws.length = ns.length → (∀ z ∈ ws, z ∈ zs) → Kp tb [] H H' → H pz = none → H pw = none → H t = none → pz ≠ pw →
    H' t = some (.tup [.ref pz, .ref pw]) → H' pz = some (.lst (zs.map V.str)) → H' pw = some (.lst (ws.map V.str)) → Q (.ref t) H'
abbrev nDrawn : List Str := ["_law_script", "_law_most", "_law_cell", "_law_number", "_law_many", "_law_names_here", "_law_found", "_law_k", "_law_more", "_law_some"]
theorem sc_drawn : FnScope nDrawn ["_law_script", "_law_most"] (defScope s__law_drawn) := ⟨rfl, rfl, rfl, by decide +kernel, rfl, by decide +kernel, by decide +kernel⟩
theorem ok_drawn {f : Addr} {fd : FuncData} {k0 : Nat} (F : FnP K "_law_drawn" "_law_drawn" s__law_drawn f fd) (GM : Glob P w K mg base CX0 (k0 + 1) "_law_mixed" ["_law_cell", "_law_k"] spMixed)
    (GN : Glob P w K mg base CX0 (k0 + 1) "_law_names" ["_law_number", "_law_many"] (spNames tb)) (hlen : mg "len" = none) (hsum : mg "sum" = none) (hint : mg "int" = none) (henum : mg "enumerate" = none) :
    FnOk P w K mg base CX0 (k0 + 2) f fd ["_law_script", "_law_most"] (spDrawn K tb) := by
  refine ok0 F sc_drawn (fun vs H Q E h => ?_) (fun cdv A outer s H vs Q E hr h => ?_)
  · obtain ⟨a, ns, m, rfl, _⟩ := h
    rfl
  · obtain ⟨a, ns, m, rfl, hS, hl, m0, m1, q⟩ := h
    refine ⟨_, pss_cons (ps_set (i := 3) sc_drawn.nd rfl (.inl rfl) (pe_callG GM hr (by rfl) pass0
        (pa_cons (pe_op op_add (pe_callB call_len_seq (by rfl) hlen PySem.boot_len (pa_cons (pv 0) pa_nil))
          (pe_callB (cr_sum rfl) (by rfl) hsum (by decide +kernel) (pa_cons (pe_lc (own := [("_law_cell", 2)]) (g := gName 2) (tt := tYes) rfl sc_drawn.nd (pi_list (pv 0)) (blkOk_by (N := nDrawn) (sc := defScope s__law_drawn) (by decide +kernel))
            (fun _ _ _ _ _ => pg_name (i := 2) sc_drawn.nd rfl (Or.inl rfl)) (fun _ _ _ _ _ => pts_nil) (fun _ _ _ _ _ => pe_op op_mod (pv 2) pe_int)) pa_nil)))
        (pa_cons pe_int pa_nil))))
      (C8.pss_cut (ps_set (i := 4) sc_drawn.nd rfl (.inl rfl) (pe_ix ix_list (pe_lst (pa_cons (pe_op op_add pe_int (pe_op op_mod (pv 3) (pe_op op_sub (pv 1) pe_int))) (pa_cons pe_int pa_nil)))
          (pe_callTy call_int1 (by rfl) hint (by decide +kernel) (pa_cons (pe_and (pe_cmpR op_gt (pv 1) pe_int (nomark _)) (pe_one (pe_cmpR op_eq (pe_op op_mod (pe_op op_fdiv (pv 3) pe_int) pe_int) pe_int (nomark _)))) pa_nil)) (fun _ _ => rfl)))
      (pss_cons (ps_set (i := 5) sc_drawn.nd rfl (.inl rfl) (pe_callG GN hr (by rfl) pass0 (pa_cons (pe_op op_fdiv (pv 3) pe_int) (pa_cons (pv 4) pa_nil))))
      (pss_cons (ps_set (i := 6) sc_drawn.nd rfl (.inl rfl) (pe_lst pa_nil))
      (pss_cons (ps_for PassesOwn.never rfl (pi_enum (by rfl) henum (pa_cons (pe_slice sl_list (pv 0) po_none (po_some pe_int)) pa_nil))
          (pg_tup rfl (pgs_cons (pg_name (i := 7) sc_drawn.nd rfl (Or.inl rfl)) (pgs_cons (pg_name (i := 2) sc_drawn.nd rfl (Or.inl rfl)) pgs_nil)))
        (pss_cons (ps_set (i := 8) sc_drawn.nd rfl (.inl rfl) (pe_callG GM hr (by rfl) pass0 (pa_cons (pv 2) (pa_cons (pv 7) pa_nil))))
        (pss_cons (ps_set (i := 9) sc_drawn.nd rfl (.inl rfl) (pv 5))
        (C8.pss_cut (ps_if (PW.pt (pw_and (pt_cmpR op_eq (pe_op op_mod (pv 8) pe_int) pe_int (nomark _)) (pw_and1 (pt_cmpR (op_neS hr.units) (pv 6) (pe_lst pa_nil) (nomark _)))))
            (pss_one (ps_set (i := 9) sc_drawn.nd rfl (.inl rfl) (pe_slice sl_list (pv 6) (po_some (pe_un un_neg pe_int)) po_none))) pss_nil)
        (pss_one (ps_expr (pe_bm PySem.F.plainAttrs_list PySem.F.slot_list_append PySem.F.type_list_append mt_append (pv 6)
          (pa_cons (pe_ix ix_list (pv 9) (pe_op op_mod (pe_op op_fdiv (pv 8) pe_int) (pe_callB call_len_seq (by rfl) hlen PySem.boot_len (pa_cons (pv 9) pa_nil))) (fun _ _ => rfl)) pa_nil))))))))
      (pss_one (ps_ret (pe_tup (pa_cons (pv 5) (pa_cons (pv 6) pa_nil))))))))), ?_⟩
    -- number
    refine ⟨_, rfl, a, _, rfl, .inl hS, ?_⟩
    refine ⟨_, rfl, a, rfl, ⟨_, hS⟩, fun D hD => lc_it (walk_list (K := K) (a := a) (xs := ns.map V.int)) (LcI tb H D (fun i acc => ∃ ms : List Int, ms.length = i ∧ acc = ms.map V.int)) (LcI.start hD ⟨[], rfl, rfl⟩)
      (fun i H1 _ ⟨_, _, kp, _⟩ => kp.seq hS) ?_ ?_⟩
    · rintro i x H1 H2 hi ⟨acc, ⟨ms, hms, rfl⟩, kp, hd⟩ ⟨rfl, hx⟩
      obtain ⟨z, hz, rfl⟩ := get_mapI hx
      rw [List.length_map] at hi
      refine ⟨rfl, _, rfl, _, _, rfl, rfl, (by show (0 : Int) < 1000003; decide), ?_⟩
      refine LcI.next hD kp hd (Kp.refl _) (by rw [List.length_map, hms]; exact small_of (m := 300) (by omega)) ⟨ms ++ [z % 1000003], by rw [List.length_append, hms]; rfl, by rw [List.map_append]; rfl⟩
    · rintro H1 ⟨acc, ⟨ms, hms, rfl⟩, kp1, hd1⟩
      refine ⟨D, ms, rfl, SqL.of hd1, _, _, rfl, rfl, _, _, rfl, by decide, by decide, fun r r0 r1 => ?_⟩
      have e0 := Int.emod_nonneg r (show m - 2 ≠ 0 by omega)
      have e1 := Int.emod_lt_of_pos r (show 0 < m - 2 by omega)
      -- many
      refine ⟨fun σ H' => ∃ y : Int, 3 ≤ y ∧ y ≤ 26 ∧ (m ≤ 9 → y ≤ m) ∧ σ = [some (.ref a), some (.int m), none, some (.int r), some (.int y), none, none, none, none, none] ∧ Kp tb [] H H', ?_, ?_⟩
      · refine ⟨_, rfl, _, rfl, _, _, rfl, rfl, _, _, rfl, rfl, by omega, _, _, rfl, rfl, by show 2 ≤ sizeLine; decide, fun p hp => ?_⟩
        have k2 := kp1.step (o := .lst [.int (3 + r % (m - 2)), .int 26]) hp
        have hp2 : (upd H1 p (.lst [.int (3 + r % (m - 2)), .int 26])) p = some (.lst [.int (3 + r % (m - 2)), .int 26]) := upd_same
        refine ⟨_, rfl, _, _, rfl, rfl, _, rfl, ?_⟩
        cases h9 : decide (9 < m) with
        | false =>
          have := of_decide_eq_false h9
          refine iteF (.inr ⟨_, rfl, p, _, _, _, rfl, rfl, SqL.of hp2, (rfl : atI [V.int (3 + r % (m - 2)), V.int 26] 0 = some (V.int (3 + r % (m - 2)))), ?_⟩)
          exact ⟨_, by omega, by omega, fun _ => by omega, rfl, k2⟩
        | true =>
          have := of_decide_eq_true h9
          refine iteT ⟨_, rfl, _, _, rfl, rfl, ⟨by decide, by decide⟩, _, _, rfl, rfl, (by show (0 : Int) < 8; decide), rfl, .inr ⟨_, rfl, ?_⟩⟩
          cases decide ((fun i j => V.int (i % j)) (r / 1000) 8 = V.int 1) with
          | true => exact ⟨p, _, _, _, rfl, rfl, SqL.of hp2, (rfl : atI [V.int (3 + r % (m - 2)), V.int 26] 1 = some (V.int 26)), 26, by omega, by omega, fun _ => by omega, rfl, k2⟩
          | false => exact ⟨p, _, _, _, rfl, rfl, SqL.of hp2, (rfl : atI [V.int (3 + r % (m - 2)), V.int 26] 0 = some (V.int (3 + r % (m - 2)))), _, by omega, by omega, fun _ => by omega, rfl, k2⟩
      rintro σ H2 ⟨y, y0, y1, ym, rfl, k2⟩
      -- names
      refine ⟨_, rfl, _, _, rfl, rfl, ⟨by decide, by decide⟩, _, rfl, _, _, rfl, by omega, by omega, y0, y1, fun zs pz H3 hzl hzn k3 fz hz => ?_⟩
      -- found
      refine ⟨Nat.zero_le _, fun pw hw => ?_⟩
      have nzw : pz ≠ pw := ne_of_none hz hw
      have k4 : Kp tb [] H3 (upd H3 pw (.lst [])) := Kp.new hw
      have hz0 : 0 < zs.length := by omega
      -- the loop over a cut
      refine ⟨_, rfl, _, rfl, a, _, rfl, (k2.trans (k3.trans k4)).seq hS, fun c hc => ?_⟩
      have ecut : cutV (ns.map V.int) none (some 300) = ns.map V.int := by
        unfold cutV
        rw [HT.sIx_none, sIx_pos (by decide), List.length_map, List.drop_zero, show min (300 : Int).toNat ns.length - 0 = ns.length by
          show min 300 ns.length - 0 = ns.length
          omega]
        exact List.take_of_length_le (by rw [List.length_map]; exact Nat.le_refl _)
      rw [ecut]
      have k5 : Kp tb [] (upd H3 pw (.lst [])) (upd (upd H3 pw (.lst [])) c (.lst (ns.map V.int))) := Kp.new hc
      have ncw : c ≠ pw := fun e => by rw [e, upd_same] at hc; cases hc
      have ncz : pz ≠ c := ne_of_none (k4.get hz) hc
      refine ⟨c, _, rfl, SqL.of upd_same, ?_⟩
      have base5 : Kp tb [] H3 (upd (upd H3 pw (.lst [])) c (.lst (ns.map V.int))) := k4.trans k5
      refine for_it walk_enum (fun i σ H' => ∃ (ws : List Str) (v2 v7 v8 v9 : Option V), ws.length = i ∧ (∀ z ∈ ws, z ∈ zs) ∧ σ = [some (.ref a), some (.int m), v2, some (.int r), some (.int y), some (.ref pz), some (.ref pw), v7, v8, v9] ∧
        Kp tb [] H3 H' ∧ H' c = some (.lst (ns.map V.int)) ∧ H' pw = some (.lst (ws.map V.str)))
        ⟨[], none, none, none, none, rfl, fun _ h => absurd h (by simp), rfl, base5, upd_same, by rw [upd_ne ncw.symm, upd_same]; rfl⟩
        (fun i σ H' _ ⟨_, _, _, _, _, _, _, _, _, hc', _⟩ => SqL.of hc') ?_ ?_
      · rintro i x σ H4 H5 hi ⟨ws, v2, v7, v8, v9, hwl, hws, rfl, kp, hc4, hw4⟩ ⟨T, x1, x2, rfl, nT, rfl, e1, e2⟩
        cases e1
        obtain ⟨cell, hcell, rfl⟩ := get_mapI e2
        rw [List.length_map] at hi
        refine ⟨T, _, rfl, SqT.of upd_same, rfl, _, _, rfl, _, _, rfl, rfl, ?_⟩
        have nTw : pw ≠ T := ne_of_none hw4 nT
        have nTc : c ≠ T := ne_of_none hc4 nT
        have k6 : Kp tb [] H3 (upd H4 T (.tup [.int (i : Nat), .int cell])) := kp.step nT
        have hz6 := k6.get hz
        have hw6 : (upd H4 T (.tup [.int (i : Nat), .int cell])) pw = some (.lst (ws.map V.str)) := by rw [upd_ne nTw]; exact hw4
        have hc6 : (upd H4 T (.tup [.int (i : Nat), .int cell])) c = some (.lst (ns.map V.int)) := by rw [upd_ne nTc]; exact hc4
        generalize upd H4 T (.tup [.int (i : Nat), .int cell]) = H6 at k6 hz6 hw6 hc6 ⊢
        -- more, some
        refine ⟨_, rfl, _, rfl, _, _, rfl, by omega, by omega, fun more mo0 mo1 => ?_⟩
        refine ⟨_, rfl, ?_⟩
        refine ⟨fun σ H' => ∃ (sa : Addr) (ss : List Str), 0 < ss.length ∧ (∀ z ∈ ss, z ∈ zs) ∧ σ = [some (.ref a), some (.int m), some (.int cell), some (.int r), some (.int y), some (.ref pz), some (.ref pw), some (.int (i : Nat)), some (.int more), some (.ref sa)] ∧
          Kp tb [] H3 H' ∧ H' c = some (.lst (ns.map V.int)) ∧ H' pw = some (.lst (ws.map V.str)) ∧ H' sa = some (.lst (ss.map V.str)), ?_, ?_⟩
        · refine ⟨_, rfl, _, _, rfl, rfl, (by show (0 : Int) < 3; decide), rfl, _, rfl, ?_⟩
          refine ite2 (fun _ => ?_) (fun _ => ⟨pz, zs, hz0, fun z h => h, rfl, k6, hc6, hw6, hz6⟩)
          refine ⟨_, rfl, Nat.zero_le _, fun e he => ?_⟩
          have k7 : Kp tb [] H6 (upd H6 e (.lst [])) := Kp.new he
          refine ⟨pw, e, ws, [], rfl, rfl, SqL.of (k7.get hw6), SqL.of upd_same, okS_names fun z hz => hzn z (hws z hz), okS_names (fun z hz => absurd hz (by simp)), _, rfl, ?_⟩
          cases hne : decide (ws = []) with
          | true => exact iteF ⟨pz, zs, hz0, fun z h => h, rfl, k6.trans k7, k7.get hc6, k7.get hw6, k7.get hz6⟩
          | false =>
            have hne2 := of_decide_eq_false hne
            have hwpos : 0 < ws.length := List.length_pos_iff.mpr hne2
            refine iteT ⟨_, rfl, _, rfl, _, rfl, pw, _, rfl, SqL.of (k7.get hw6), fun d hd => ?_⟩
            obtain ⟨ss, es, hss, hsl⟩ := cutV_map (f := V.str) ws (some (-4)) none
            have hpos : 0 < ss.length := by
              rw [hsl, cutV_len, HT.sIx_none, List.length_map]
              have e4 : HT.sIx ws.length 0 (some (-4)) = ((-4 : Int) + (ws.length : Int)).toNat := rfl
              rw [e4]
              omega
            have k8 : Kp tb [] (upd H6 e (.lst [])) (upd (upd H6 e (.lst [])) d (.lst (cutV (ws.map V.str) (some (-4)) none))) := Kp.new hd
            exact ⟨d, ss, hpos, fun z hz => hws z (hss z hz), rfl, k6.trans (k7.trans k8), k8.get (k7.get hc6), k8.get (k7.get hw6), by rw [← es]; exact upd_same⟩
        · rintro σ H7 ⟨sa, ss, hspos, hss, rfl, k7, hc7, hw7, hs7⟩
          have i0 := Int.emod_nonneg (more / 3) (show (ss.length : Int) ≠ 0 by omega)
          have i1 := Int.emod_lt_of_pos (more / 3) (show (0 : Int) < (ss.length : Int) by omega)
          obtain ⟨j, ej⟩ : ∃ j : Nat, more / 3 % (ss.length : Int) = (j : Int) := ⟨(more / 3 % (ss.length : Int)).toNat, by omega⟩
          have hj : j < ss.length := by omega
          have hat : atI (ss.map V.str) (more / 3 % (ss.length : Int)) = some (V.str ss[j]) := at_of ej (by rw [List.getElem?_map, List.getElem?_eq_getElem hj]; rfl)
          refine ⟨_, rfl, .inl ⟨rfl, _, SqL.of hw7⟩, _, rfl, _, rfl, _, _, rfl, rfl, ⟨by decide, by decide⟩, _, rfl, sa, _, rfl, .inl (SqL.of hs7), _, _, rfl, rfl, by rw [List.length_map]; omega, sa, _, _, _, rfl, rfl, SqL.of hs7, by rw [List.length_map]; exact hat, ?_⟩
          refine ⟨pw, _, _, rfl, rfl, hw7, by rw [List.length_map, hwl]; exact small_of (m := 63) (by omega), ?_⟩
          refine ⟨ws ++ [ss[j]], _, _, _, _, by rw [List.length_append, hwl]; rfl, fun z hz => ?_, rfl, k7.own hw hw7, by rw [upd_ne ncw]; exact hc7, by rw [upd_same, List.map_append]; rfl⟩
          rcases List.mem_append.mp hz with hz | hz
          · exact hws z hz
          · rw [List.mem_singleton.mp hz]
            exact hss _ (List.getElem_mem hj)
      · rintro σ H4 ⟨ws, v2, v7, v8, v9, hwl, hws, rfl, kp, hc4, hw4⟩
        rw [List.length_map] at hwl
        refine ⟨_, rfl, _, rfl, by show 2 ≤ sizeLine; decide, fun t ht => ?_⟩
        have kt : Kp tb [] H4 (upd H4 t (.tup [.ref pz, .ref pw])) := Kp.new ht
        refine q zs ws t pz pw _ hz0 (by omega) (fun z => by have := ym z; omega) hzn hwl hws (k2.trans (k3.trans (kp.trans kt))) (k2.free _ fz) (k2.free _ (k3.free _ hw)) (k2.free _ (k3.free _ (kp.free _ ht))) nzw upd_same (kt.get (kp.get hz)) (kt.get hw4)
end
end Kf

namespace Kf
open PySem PySem.Spec PyProof.Rows L2
section
variable {P : Program} {w : World} {K : PySem.W.Frag} {mg : Str → Option Value} {base : Heap}
/-! ### is_name, check_name, check_places -/
abbrev cIsName (K : PySem.W.Frag) : Addr := (He.cT K ("is_name", none)).1
abbrev tbOf (K : PySem.W.Frag) : Addr := (He.cT K ("is_name", none)).2
def isNameB (z : Str) : Bool := decide (1 ≤ z.length) && decide (z.length ≤ 8) && z.cps.toList.all lowB
def isNameV : V → Bool
  | .str z => isNameB z
  | _ => false
theorem isNameB_of {z : Str} (h : IsName z) : isNameB z = true := by
  obtain ⟨h1, h2, h3⟩ := h
  unfold isNameB
  rw [decide_eq_true h1, decide_eq_true h2, h3]
  rfl
theorem isName_ofB {z : Str} (h : isNameB z = true) : IsName z := by
  unfold isNameB at h
  rw [Bool.and_eq_true, Bool.and_eq_true] at h
  exact ⟨of_decide_eq_true h.1.1, of_decide_eq_true h.1.2, h.2⟩
def spIsName (K : PySem.W.Frag) : Sp := fun vs H Q _ => ∃ (x : V) (T : String), vs = [x] ∧ TyB K H x T ∧ tyOk T = true ∧ (∀ z, x = .str z → z.length ≤ sizeLine) ∧ GxR.TabG H (tbOf K) ∧ ∀ H', Kp (tbOf K) [] H H' → Q (.bl (isNameV x)) H'
theorem sc_isname : FnScope ["value"] ["value"] (defScope s_is_name) := ⟨rfl, rfl, rfl, by decide +kernel, rfl, by decide +kernel, by decide +kernel⟩
theorem genS_of {env : Env} {scope : Scope} {x : Str} (hk : scope.kind = .function) (hc : scope.isCoroutine = false) (hn : scope.names = [((".0" : Str), NameKind.local), (x, NameKind.local)]) (hx : (x == (".0" : Str)) = false) : GxR.GenS env scope x := by
  refine ⟨hk, hc, fun y hy => ?_, ?_, ?_, fun y hy e => ?_⟩
  · rw [hn] at hy
    rcases List.mem_cons.mp hy with z | z
    · rw [z]; exact fun q => nomatch q
    · rw [List.mem_singleton.mp z]; exact fun q => nomatch q
  · rw [hn]
    rfl
  · rw [hn]
    show (match x == (".0" : Str) with | true => some NameKind.local | false => List.lookup x [(x, NameKind.local)]) = some NameKind.local
    rw [hx]
    show (match x == x with | true => some NameKind.local | false => List.lookup x []) = some NameKind.local
    rw [beq_self_eq_true]
  · rw [hn] at hy
    rcases List.mem_cons.mp hy with z | z
    · rw [z] at e; exact nomatch e
    · rw [List.mem_singleton.mp z] at e; exact nomatch e
theorem ok_isname {fd : FuncData} {k0 : Nat} (F : FnP K "is_name" "is_name" s_is_name (He.fAd K ("is_name", none)) fd) (TB : GxR.TabB base mg (cIsName K) (tbOf K)) {tl : Tok}
    (hml : mg "MOST_LETTERS" = some (.int 8 tl)) (hty : mg "type" = none) (hstr : mg "str" = none) (hlen : mg "len" = none) (hall : mg "all" = none) :
    FnOk P w K mg base CX0 (k0 + 1) (He.fAd K ("is_name", none)) fd ["value"] (spIsName K) := by
  refine okC (p := ("is_name", none)) rfl F sc_isname (fun vs H Q E h => ?_) (fun cdv A outer s H vs Q E hcd hr h => ?_)
  · obtain ⟨x, T, rfl, _⟩ := h
    rfl
  · obtain ⟨x, T, rfl, ty, tok, hsz, tab, q⟩ := h
    refine ⟨_, PSs.nox (pss_cons (ps_if (PW.pt (pw_or (pt_cmpR (op_neTy (hu_of hr)) (pe_callTy call_type1 (by rfl) hty (by decide +kernel) (pa_cons (pv 0) pa_nil)) (pe_bltn (v := .ty "str") (by rfl) hstr (by decide +kernel) rfl) (nomark _))
        (pw_or1 (pt_not (pt_chain op_le op_le pe_int (pe_callB call_len_str (by rfl) hlen PySem.boot_len (pa_cons (pv 0) pa_nil)) (pe_glob (v := .int 8) rfl hml ⟨_, rfl⟩))))))
        (pss_one (ps_ret pe_bl)) pss_nil)
      (pss_one (ps_ret (GxR.pe_allS hr (by rfl) hall (by decide +kernel) TB hcd (genS_of rfl rfl rfl (by decide +kernel)) (pv 0) (elt_low rfl (by decide +kernel)) (fun _ => rfl))))), ?_⟩
    refine ⟨_, rfl, x, T, rfl, ty, _, _, rfl, rfl, tok, by decide, _, rfl, ?_⟩
    by_cases hT : T = "str"
    · have ex : ∃ z, x = .str z := by
        cases ty with
        | str z => exact ⟨z, rfl⟩
        | _ => exact absurd hT (by decide)
      rw [decide_eq_true hT]
      refine iteF ?_
      obtain ⟨z, rfl⟩ := ex
      · have hz := hsz z rfl
        refine ⟨_, rfl, z, rfl, hz, _, _, rfl, rfl, _, rfl, ?_⟩
        cases h1 : decide ((1 : Int) ≤ (z.length : Int)) with
        | false =>
          have := of_decide_eq_false h1
          refine iteF ⟨_, rfl, iteT ?_⟩
          have e : isNameV (.str z) = false := by
            show isNameB z = false
            unfold isNameB
            rw [decide_eq_false (by omega)]
            rfl
          have qq := q H (Kp.refl _)
          rw [e] at qq
          exact qq
        | true =>
          refine iteT ⟨_, _, rfl, rfl, _, rfl, ?_⟩
          have h1' := of_decide_eq_true h1
          cases h8 : decide ((z.length : Int) ≤ 8) with
          | false =>
            have := of_decide_eq_false h8
            refine iteT ?_
            have e : isNameV (.str z) = false := by
              show isNameB z = false
              unfold isNameB
              rw [decide_eq_false (p := z.length ≤ 8) (by omega), Bool.and_false]
              rfl
            have qq := q H (Kp.refl _)
            rw [e] at qq
            exact qq
          | true =>
            have h8' := of_decide_eq_true h8
            refine iteF ⟨_, rfl, z, rfl, tab, fun H2 hT2 => ?_⟩
            have e : isNameV (.str z) = z.cps.toList.all lowB := by
              show isNameB z = _
              unfold isNameB
              rw [decide_eq_true (p := 1 ≤ z.length) (by omega), decide_eq_true (p := z.length ≤ 8) (by omega)]
              rfl
            have qq := q H2 (Kp.tabbed tab hT2)
            rw [e] at qq
            exact qq
    · rw [decide_eq_false hT]
      refine iteT ?_
      have e : isNameV x = false := by
        cases ty with
        | str z => exact absurd rfl hT
        | _ => rfl
      have qq := q H (Kp.refl _)
      rw [e] at qq
      exact qq
def spCheckName (K : PySem.W.Frag) : Sp := fun vs H Q _ => ∃ z : Str, vs = [.str z] ∧ IsName z ∧ GxR.TabG H (tbOf K) ∧ ∀ H', Kp (tbOf K) [] H H' → Q .non H'
theorem sc_checkname : FnScope ["name"] ["name"] (defScope s_check_name) := ⟨rfl, rfl, rfl, by decide +kernel, rfl, by decide +kernel, by decide +kernel⟩
theorem ok_checkname {f : Addr} {fd : FuncData} {k0 : Nat} (F : FnP K "check_name" "check_name" s_check_name f fd) (G : Glob P w K mg base CX0 (k0 + 1) "is_name" ["value"] (spIsName K)) :
    FnOk P w K mg base CX0 (k0 + 2) f fd ["name"] (spCheckName K) := by
  refine ok0 F sc_checkname (fun vs H Q E h => ?_) (fun cdv A outer s H vs Q E hr h => ?_)
  · obtain ⟨z, rfl, _⟩ := h
    rfl
  · obtain ⟨z, rfl, hz, tab, q⟩ := h
    refine ⟨_, pss_one (ps_if (pt_not (pt_val (pe_callG G hr (by rfl) pass0 (pa_cons (pv 0) pa_nil)))) (pss_one ps_never) pss_nil), ?_⟩
    refine ⟨_, rfl, _, _, rfl, .str z, rfl, fun z' e => ?_, tab, fun H' kp => ⟨_, rfl, ?_⟩⟩
    · cases e
      exact Nat.le_of_lt (small_of (m := 8) hz.2.1)
    · rw [show isNameV (.str z) = true from isNameB_of hz]
      exact iteF (q H' kp)
def spCheckPlaces : Sp := fun vs H Q _ => ∃ n : Int, vs = [.int n] ∧ 1 ≤ n ∧ n ≤ 20 ∧ Q .non H
theorem sc_checkplaces : FnScope ["places"] ["places"] (defScope s_check_places) := ⟨rfl, rfl, rfl, by decide +kernel, rfl, by decide +kernel, by decide +kernel⟩
theorem ok_checkplaces {f : Addr} {fd : FuncData} {k0 : Nat} (F : FnP K "check_places" "check_places" s_check_places f fd) {tl : Tok}
    (hmp : mg "MOST_PLACES" = some (.int 20 tl)) (hty : mg "type" = none) (hint : mg "int" = none) : FnOk P w K mg base CX0 (k0 + 1) f fd ["places"] spCheckPlaces := by
  refine ok0 F sc_checkplaces (fun vs H Q E h => ?_) (fun cdv A outer s H vs Q E hr h => ?_)
  · obtain ⟨n, rfl, _⟩ := h
    rfl
  · obtain ⟨n, rfl, n0, n1, q⟩ := h
    refine ⟨_, pss_one (ps_if (PW.pt (pw_or (pt_cmpR (op_neTy (hu_of hr)) (pe_callTy call_type1 (by rfl) hty (by decide +kernel) (pa_cons (pv 0) pa_nil)) (pe_bltn (v := .ty "int") (by rfl) hint (by decide +kernel) rfl) (nomark _))
        (pw_or1 (pt_not (pt_chain op_le op_le pe_int (pv 0) (pe_glob (v := .int 20) rfl hmp ⟨_, rfl⟩))))))
        (pss_one ps_never) pss_nil), ?_⟩
    refine ⟨_, rfl, .int n, "int", rfl, .int n, _, _, rfl, rfl, by decide, by decide, _, rfl, ?_⟩
    refine iteF ⟨_, rfl, _, _, rfl, rfl, _, rfl, ?_⟩
    rw [decide_eq_true n0]
    refine iteT ⟨_, _, rfl, rfl, _, rfl, ?_⟩
    rw [decide_eq_true n1]
    exact iteF q
end
end Kf

namespace Kf
open PySem PySem.Spec PyProof.Rows L2
/-! ### shelves: what stands in the heap -/
def oF (n : Int) (l : Addr) (m k : Int) (ext : List (Str × V)) : List (Str × V) := ("_size", .int n) :: ("_row", .ref l) :: ("_met", .int m) :: ("_missed", .int k) :: ext
theorem oF_size (n : Int) (l : Addr) (m k : Int) (ext : List (Str × V)) : (oF n l m k ext).lookup ("_size" : Str) = some (.int n) := by kernel_rfl
theorem oF_row (n : Int) (l : Addr) (m k : Int) (ext : List (Str × V)) : (oF n l m k ext).lookup ("_row" : Str) = some (.ref l) := by kernel_rfl
theorem oF_met (n : Int) (l : Addr) (m k : Int) (ext : List (Str × V)) : (oF n l m k ext).lookup ("_met" : Str) = some (.int m) := by kernel_rfl
theorem oF_missed (n : Int) (l : Addr) (m k : Int) (ext : List (Str × V)) : (oF n l m k ext).lookup ("_missed" : Str) = some (.int k) := by kernel_rfl
theorem oF_put_met (n : Int) (l : Addr) (m k m' : Int) (ext : List (Str × V)) : putF "_met" (.int m') (oF n l m k ext) = oF n l m' k ext := by kernel_rfl
theorem oF_put_missed (n : Int) (l : Addr) (m k k' : Int) (ext : List (Str × V)) : putF "_missed" (.int k') (oF n l m k ext) = oF n l m k' ext := by kernel_rfl
theorem oF_init (n : Int) (l : Addr) : putF "_missed" (.int 0) (putF "_met" (.int 0) (putF "_row" (.ref l) (putF "_size" (.int n) []))) = oF n l 0 0 [] := by kernel_rfl
theorem oF_wish (n : Int) (l : Addr) (m k : Int) (ext : List (Str × V)) : (oF n l m k ext).lookup ("wish" : Str) = ext.lookup ("wish" : Str) := by kernel_rfl
theorem oF_free (n : Int) (l : Addr) (m k : Int) (ext : List (Str × V)) : (oF n l m k ext).lookup ("_free_a_place" : Str) = ext.lookup ("_free_a_place" : Str) := by kernel_rfl
theorem oF_pick (n : Int) (l : Addr) (m k : Int) (ext : List (Str × V)) : (oF n l m k ext).lookup ("_pick_going" : Str) = ext.lookup ("_pick_going" : Str) := by kernel_rfl
theorem oF_note (n : Int) (l : Addr) (m k : Int) (ext : List (Str × V)) : (oF n l m k ext).lookup ("_note_wish" : Str) = ext.lookup ("_note_wish" : Str) := by kernel_rfl
theorem oF_places (n : Int) (l : Addr) (m k : Int) (ext : List (Str × V)) : (oF n l m k ext).lookup ("places" : Str) = ext.lookup ("places" : Str) := by kernel_rfl
theorem oF_things (n : Int) (l : Addr) (m k : Int) (ext : List (Str × V)) : (oF n l m k ext).lookup ("things" : Str) = ext.lookup ("things" : Str) := by kernel_rfl
theorem oF_nmet (n : Int) (l : Addr) (m k : Int) (ext : List (Str × V)) : (oF n l m k ext).lookup ("met" : Str) = ext.lookup ("met" : Str) := by kernel_rfl
theorem oF_nmissed (n : Int) (l : Addr) (m k : Int) (ext : List (Str × V)) : (oF n l m k ext).lookup ("missed" : Str) = ext.lookup ("missed" : Str) := by kernel_rfl
theorem oF_order (n : Int) (l : Addr) (m k : Int) (ext : List (Str × V)) : (oF n l m k ext).lookup ("order" : Str) = ext.lookup ("order" : Str) := by kernel_rfl
/-- a shelf of the class at C: n places, its list at l, what is there, how many were met and missed, further attributes -/
structure ShAt (C : Addr) (H : Hp) (p : Addr) (n : Int) (l : Addr) (row : List Str) (m k : Int) (ext : List (Str × V)) : Prop where
  ob : ∃ dx, H p = some (.ins C dx (oF n l m k ext))
  ls : H l = some (.lst (row.map V.str))
theorem ShAt.ne {C : Addr} {H : Hp} {p l : Addr} {n m k : Int} {row : List Str} {ext : List (Str × V)} (h : ShAt C H p n l row m k ext) : p ≠ l := by
  obtain ⟨⟨dx, h1⟩, h2⟩ := h
  exact ne_of h1 h2 (by intro z; cases z)
theorem ShAt.kp {C : Addr} {H H' : Hp} {tb : Addr} {S : List Addr} {p l : Addr} {n m k : Int} {row : List Str} {ext : List (Str × V)} (h : ShAt C H p n l row m k ext) (kp : Kp tb S H H') (hp : p ∉ S := by simp) (hl : l ∉ S := by simp) : ShAt C H' p n l row m k ext := by
  obtain ⟨⟨dx, h1⟩, h2⟩ := h
  exact ⟨⟨dx, kp.get h1 rfl hp⟩, kp.get h2 rfl hl⟩
theorem inV_str (z : Str) : ∀ row : List Str, inV (.str z) (row.map V.str) = decide (z ∈ row)
  | [] => rfl
  | y :: r => by
    have ih := inV_str z r
    show (eqV (.str y) (.str z) || (r.map V.str).any fun y => eqV y (.str z)) = _
    rw [show ((r.map V.str).any fun y => eqV y (.str z)) = decide (z ∈ r) from ih]
    show ((y == z) || decide (z ∈ r)) = decide (z ∈ y :: r)
    by_cases e : y = z
    · subst e
      simp
    · rw [beq_eq_false_iff_ne.mpr e, Bool.false_or]
      exact decide_eq_decide.mpr ⟨fun h => List.mem_cons_of_mem _ h, fun h => (List.mem_cons.mp h).elim (fun q => absurd q.symm e) id⟩
theorem flat_strs : ∀ row : List Str, (row.map V.str).all flatV = true
  | [] => rfl
  | _ :: r => flat_strs r
def optV : Option Str → V
  | none => .non
  | some z => .str z

/-- what is known of a class of shelves -/
structure ClsT (K : PySem.W.Frag) (C : Addr) : Prop where
  cl : Cls K C
  nS : NoAttr K C "_size"
  nR : NoAttr K C "_row"
  nM : NoAttr K C "_met"
  nK : NoAttr K C "_missed"
section
variable {P : Program} {w : World} {K : PySem.W.Frag} {mg : Str → Option Value} {base : Heap} {tb C : Addr}
/-! ### Shelf.__init__ -/
def spInit (tb C : Addr) : Sp := fun vs H Q _ => ∃ (p dx : Addr) (n : Int), vs = [.ref p, .int n] ∧ 1 ≤ n ∧ n ≤ 20 ∧ H p = some (.ins C dx []) ∧
  ∀ (l : Addr) (H' : Hp), H l = none → (∃ dx, H' p = some (.ins C dx (oF n l 0 0 []))) → H' l = some (.lst []) → Kp tb [p] H H' → Q .non H'
theorem sc_init : FnScope ["self", "places"] ["self", "places"] (defScope s_Shelf___init__) := ⟨rfl, rfl, rfl, by decide +kernel, rfl, by decide +kernel, by decide +kernel⟩
theorem ok_init {f : Addr} {fd : FuncData} {k0 : Nat} (F : FnP K "__init__" "Shelf.__init__" s_Shelf___init__ f fd) (T : ClsT K C) (G : Glob P w K mg base CX0 (k0 + 1) "check_places" ["places"] spCheckPlaces) :
    FnOk P w K mg base CX0 (k0 + 2) f fd ["self", "places"] (spInit tb C) := by
  refine ok0 F sc_init (fun vs H Q E h => ?_) (fun cdv A outer s H vs Q E hr h => ?_)
  · obtain ⟨p, dx, n, rfl, _⟩ := h
    rfl
  · obtain ⟨p, dx, n, rfl, n0, n1, hp, q⟩ := h
    refine ⟨_, pss_cons (ps_expr (pe_callG G hr (by rfl) pass0 (pa_cons (pv 1) pa_nil))) (pss_cons (ps_fld (pv 0) (pv 1) rfl) (pss_cons (ps_fld (pv 0) (pe_lst pa_nil) rfl)
      (pss_cons (ps_fld (pv 0) pe_int rfl) (pss_one (ps_fld (pv 0) pe_int rfl))))), ?_⟩
    refine ⟨_, rfl, n, rfl, n0, n1, ?_⟩
    refine ⟨_, rfl, _, rfl, p, C, dx, [], rfl, hp, T.cl, T.nS, (by show 0 < 1000; decide), ?_⟩
    refine ⟨Nat.zero_le _, fun l hl => ?_⟩
    have hl0 : H l = none := free_upd hl
    have npl : p ≠ l := ne_of_none hp hl0
    refine ⟨_, rfl, p, C, dx, _, rfl, Eq.trans (upd_ne npl) upd_same, T.cl, T.nR, (by show 1 < 1000; decide), ?_⟩
    refine ⟨_, rfl, p, C, dx, _, rfl, upd_same, T.cl, T.nM, (by show 2 < 1000; decide), ?_⟩
    refine ⟨_, rfl, p, C, dx, _, rfl, upd_same, T.cl, T.nK, (by show 3 < 1000; decide), ?_⟩
    refine q l _ hl0 ⟨dx, by rw [upd_same, oF_init]⟩ (by rw [upd_ne npl.symm, upd_ne npl.symm, upd_ne npl.symm, upd_same]) ?_
    have k1 : Kp tb [p] H (upd H p (.ins C dx (putF "_size" (.int n) []))) := Kp.put hp
    have k2 := k1.step (o := .lst []) hl
    have h3 : (upd (upd H p (.ins C dx (putF "_size" (.int n) []))) l (.lst [])) p = some (.ins C dx (putF "_size" (.int n) [])) := Eq.trans (upd_ne npl) upd_same
    exact ((k2.trans (Kp.put h3)).trans (Kp.put upd_same)).trans (Kp.put upd_same)
/-! ### what a shelf tells -/
def spInt (C : Addr) (g : Int → Int → Int → Int) : Sp := fun vs H Q _ => ∃ (p l : Addr) (n m k : Int) (ext : List (Str × V)), vs = [.ref p] ∧ (∃ dx, H p = some (.ins C dx (oF n l m k ext))) ∧ Q (.int (g n m k)) H
theorem sc_places_ : FnScope ["self"] ["self"] (defScope s_Shelf_places) := ⟨rfl, rfl, rfl, by decide +kernel, rfl, by decide +kernel, by decide +kernel⟩
theorem ok_places_ {f : Addr} {fd : FuncData} {k0 : Nat} (F : FnP K "places" "Shelf.places" s_Shelf_places f fd) (T : ClsT K C) : FnOk P w K mg base CX0 (k0 + 1) f fd ["self"] (spInt C fun n _ _ => n) := by
  refine ok0 F sc_places_ (fun vs H Q E h => ?_) (fun cdv A outer s H vs Q E hr h => ?_)
  · obtain ⟨p, l, n, m, k, ext, rfl, _⟩ := h
    rfl
  · obtain ⟨p, l, n, m, k, ext, rfl, ⟨dx, hp⟩, q⟩ := h
    exact ⟨_, pss_one (ps_ret (pe_fld (pv 0) rfl)), _, rfl, p, C, dx, _, _, rfl, hp, T.cl, T.nS, oF_size .., q⟩
theorem sc_met : FnScope ["self"] ["self"] (defScope s_Shelf_met) := ⟨rfl, rfl, rfl, by decide +kernel, rfl, by decide +kernel, by decide +kernel⟩
theorem ok_met {f : Addr} {fd : FuncData} {k0 : Nat} (F : FnP K "met" "Shelf.met" s_Shelf_met f fd) (T : ClsT K C) : FnOk P w K mg base CX0 (k0 + 1) f fd ["self"] (spInt C fun _ m _ => m) := by
  refine ok0 F sc_met (fun vs H Q E h => ?_) (fun cdv A outer s H vs Q E hr h => ?_)
  · obtain ⟨p, l, n, m, k, ext, rfl, _⟩ := h
    rfl
  · obtain ⟨p, l, n, m, k, ext, rfl, ⟨dx, hp⟩, q⟩ := h
    exact ⟨_, pss_one (ps_ret (pe_fld (pv 0) rfl)), _, rfl, p, C, dx, _, _, rfl, hp, T.cl, T.nM, oF_met .., q⟩
theorem sc_missed : FnScope ["self"] ["self"] (defScope s_Shelf_missed) := ⟨rfl, rfl, rfl, by decide +kernel, rfl, by decide +kernel, by decide +kernel⟩
theorem ok_missed {f : Addr} {fd : FuncData} {k0 : Nat} (F : FnP K "missed" "Shelf.missed" s_Shelf_missed f fd) (T : ClsT K C) : FnOk P w K mg base CX0 (k0 + 1) f fd ["self"] (spInt C fun _ _ k => k) := by
  refine ok0 F sc_missed (fun vs H Q E h => ?_) (fun cdv A outer s H vs Q E hr h => ?_)
  · obtain ⟨p, l, n, m, k, ext, rfl, _⟩ := h
    rfl
  · obtain ⟨p, l, n, m, k, ext, rfl, ⟨dx, hp⟩, q⟩ := h
    exact ⟨_, pss_one (ps_ret (pe_fld (pv 0) rfl)), _, rfl, p, C, dx, _, _, rfl, hp, T.cl, T.nK, oF_missed .., q⟩
/-- a new list, made of what is there -/
def spList (tb C : Addr) (g : List Str → List Str) : Sp := fun vs H Q _ => ∃ (p l : Addr) (n m k : Int) (row : List Str) (ext : List (Str × V)), vs = [.ref p] ∧ ShAt C H p n l row m k ext ∧ row.length < 64 ∧
  ∀ (o : Addr) (H' : Hp), H o = none → H' o = some (.lst ((g row).map V.str)) → Kp tb [] H H' → Q (.ref o) H'
theorem sc_things : FnScope ["self"] ["self"] (defScope s_Shelf_things) := ⟨rfl, rfl, rfl, by decide +kernel, rfl, by decide +kernel, by decide +kernel⟩
theorem ok_things {f : Addr} {fd : FuncData} {k0 : Nat} (F : FnP K "things" "Shelf.things" s_Shelf_things f fd) (T : ClsT K C) (hs : mg "sorted" = none) : FnOk P w K mg base CX0 (k0 + 1) f fd ["self"] (spList tb C sortS) := by
  refine ok0 F sc_things (fun vs H Q E h => ?_) (fun cdv A outer s H vs Q E hr h => ?_)
  · obtain ⟨p, l, n, m, k, row, ext, rfl, _⟩ := h
    rfl
  · obtain ⟨p, l, n, m, k, row, ext, rfl, S, h64, q⟩ := h
    obtain ⟨⟨dx, hp⟩, hl⟩ := id S
    refine ⟨_, pss_one (ps_ret (pe_callB cr_sortS (by rfl) hs (by decide +kernel) (pa_cons (pe_fld (pv 0) rfl) pa_nil))), ?_⟩
    refine ⟨_, rfl, p, C, dx, _, _, rfl, hp, T.cl, T.nR, oF_row .., l, row, rfl, SqL.of hl, h64, fun o ho => ?_⟩
    exact q o _ ho upd_same (Kp.new ho)
end
end Kf

namespace Kf
open PySem PySem.Spec PyProof.Rows L2
/-! ### old and cold shelves -/
/-- one wish: met, what went, what is there then; nf: what the rule does with the row behind a wish -/
def stepOC (nf : Str → List Str → List Str) (n : Int) (row : List Str) (z : Str) : Bool × Option Str × List Str :=
  if z ∈ row then (true, none, nf z row)
  else if (row.length : Int) < n then (false, none, nf z (row ++ [z])) else (false, row.head?, nf z (row.tail ++ [z]))
def nfOld (_ : Str) (row : List Str) : List Str := row
def nfCold (z : Str) (row : List Str) : List Str := row.erase z ++ [z]
section
variable {P : Program} {w : World} {K : PySem.W.Frag} {mg : Str → Option Value} {base : Heap} {tb C : Addr}
theorem atI_zero (x : V) (r : List V) : atI (x :: r) 0 = some x := by
  have h : atI (x :: r) ((0 : Nat) : Int) = some x := atI_nat rfl
  exact h
/-- self._row[0] -/
def spPickOC (C : Addr) : Sp := fun vs H Q _ => ∃ (p l : Addr) (n m k : Int) (g : Str) (r : List Str) (ext : List (Str × V)), vs = [.ref p] ∧ ShAt C H p n l (g :: r) m k ext ∧ Q (.str g) H
theorem sc_cpick : FnScope ["self"] ["self"] (defScope s_Cold__pick_going) := ⟨rfl, rfl, rfl, by decide +kernel, rfl, by decide +kernel, by decide +kernel⟩
theorem ok_cpick {f : Addr} {fd : FuncData} {k0 : Nat} (F : FnP K "_pick_going" "Cold._pick_going" s_Cold__pick_going f fd) (T : ClsT K C) : FnOk P w K mg base CX0 (k0 + 1) f fd ["self"] (spPickOC C) := by
  refine ok0 F sc_cpick (fun vs H Q E h => ?_) (fun cdv A outer s H vs Q E hr h => ?_)
  · obtain ⟨p, l, n, m, k, g, r, ext, rfl, _⟩ := h
    rfl
  · obtain ⟨p, l, n, m, k, g, r, ext, rfl, S, q⟩ := h
    obtain ⟨⟨dx, hp⟩, hl⟩ := id S
    refine ⟨_, pss_one (ps_ret (pe_ix ix_list (pe_fld (pv 0) rfl) pe_int (fun _ _ => rfl))), ?_⟩
    exact ⟨_, rfl, p, C, dx, _, _, rfl, hp, T.cl, T.nR, oF_row .., l, _, 0, _, rfl, rfl, SqL.of hl, atI_zero _ _, q⟩
/-- _note_wish -/
def spNoteOC (nf : Str → List Str → List Str) (tb C : Addr) : Sp := fun vs H Q _ => ∃ (p l : Addr) (n m k : Int) (z : Str) (row : List Str), vs = [.ref p, .str z] ∧ ShAt C H p n l row m k [] ∧ z ∈ row ∧ row.length ≤ 20 ∧
  ∀ H', ShAt C H' p n l (nf z row) m k [] → Kp tb [l] H H' → Q .non H'
theorem sc_note : FnScope ["self", "name"] ["self", "name"] (defScope s_Shelf__note_wish) := ⟨rfl, rfl, rfl, by decide +kernel, rfl, by decide +kernel, by decide +kernel⟩
theorem ok_note {f : Addr} {fd : FuncData} {k0 : Nat} (F : FnP K "_note_wish" "Shelf._note_wish" s_Shelf__note_wish f fd) : FnOk P w K mg base CX0 (k0 + 1) f fd ["self", "name"] (spNoteOC nfOld tb C) := by
  refine ok0 F sc_note (fun vs H Q E h => ?_) (fun cdv A outer s H vs Q E hr h => ?_)
  · obtain ⟨p, l, n, m, k, z, row, rfl, _⟩ := h
    rfl
  · obtain ⟨p, l, n, m, k, z, row, rfl, S, hz, hl, q⟩ := h
    exact ⟨_, pss_one ps_pass, q H S (Kp.refl _)⟩
theorem sc_cnote : FnScope ["self", "name"] ["self", "name"] (defScope s_Cold__note_wish) := ⟨rfl, rfl, rfl, by decide +kernel, rfl, by decide +kernel, by decide +kernel⟩
theorem ok_cnote {f : Addr} {fd : FuncData} {k0 : Nat} (F : FnP K "_note_wish" "Cold._note_wish" s_Cold__note_wish f fd) (T : ClsT K C) : FnOk P w K mg base CX0 (k0 + 1) f fd ["self", "name"] (spNoteOC nfCold tb C) := by
  refine ok0 F sc_cnote (fun vs H Q E h => ?_) (fun cdv A outer s H vs Q E hr h => ?_)
  · obtain ⟨p, l, n, m, k, z, row, rfl, _⟩ := h
    rfl
  · obtain ⟨p, l, n, m, k, z, row, rfl, S, hz, hlen, q⟩ := h
    obtain ⟨⟨dx, hp⟩, hl⟩ := id S
    have npl := S.ne
    refine ⟨_, pss_cons (ps_expr (pe_bm PySem.F.plainAttrs_list PySem.F.slot_list_remove PySem.F.type_list_remove mt_removeS (pe_fld (pv 0) rfl) (pa_cons (pv 1) pa_nil)))
      (pss_one (ps_expr (pe_bm PySem.F.plainAttrs_list PySem.F.slot_list_append PySem.F.type_list_append mt_append (pe_fld (pv 0) rfl) (pa_cons (pv 1) pa_nil)))), ?_⟩
    refine ⟨_, rfl, p, C, dx, _, _, rfl, hp, T.cl, T.nR, oF_row .., .inl ⟨rfl, _, SqL.of hl⟩, _, rfl, l, row, z, rfl, rfl, hl, hz, ?_⟩
    have hp1 : (upd H l (.lst ((row.erase z).map V.str))) p = some (.ins C dx (oF n l m k [])) := by rw [upd_ne npl]; exact hp
    refine ⟨_, rfl, p, C, dx, _, _, rfl, hp1, T.cl, T.nR, oF_row .., .inl ⟨rfl, _, SqL.of upd_same⟩, _, rfl, l, _, _, rfl, rfl, upd_same, ?_, ?_⟩
    · rw [List.length_map]
      exact small_of (m := 20) (Nat.le_trans (List.length_erase_le) hlen)
    · refine q _ ⟨⟨dx, by rw [upd_ne npl]; exact hp1⟩, by rw [upd_same]; unfold nfCold; rw [List.map_append]; rfl⟩ ?_
      exact (Kp.put hl).trans (Kp.put upd_same)
/-- _free_a_place -/
def spFreeOC (tb C : Addr) : Sp := fun vs H Q _ => ∃ (p l : Addr) (n m k : Int) (row : List Str), vs = [.ref p] ∧ ShAt C H p n l row m k [] ∧ 1 ≤ n ∧ ((row.length : Int) < n → Q .non H) ∧
  (¬ (row.length : Int) < n → ∀ (g : Str) (r : List Str) (H' : Hp), row = g :: r → ShAt C H' p n l r m k [] → Kp tb [l] H H' → Q (.str g) H')
theorem sc_free : FnScope ["self", "gone"] ["self"] (defScope s_Shelf__free_a_place) := ⟨rfl, rfl, rfl, by decide +kernel, rfl, by decide +kernel, by decide +kernel⟩
theorem ok_freeOC {f : Addr} {fd : FuncData} {k0 : Nat} (F : FnP K "_free_a_place" "Shelf._free_a_place" s_Shelf__free_a_place f fd) (T : ClsT K C) (hlen : mg "len" = none) (G : MethOk P w K mg base CX0 (k0 + 1) C "_pick_going" ["self"] (spPickOC C)) :
    FnOk P w K mg base CX0 (k0 + 2) f fd ["self"] (spFreeOC tb C) := by
  refine ok0 F sc_free (fun vs H Q E h => ?_) (fun cdv A outer s H vs Q E hr h => ?_)
  · obtain ⟨p, l, n, m, k, row, rfl, _⟩ := h
    rfl
  · obtain ⟨p, l, n, m, k, row, rfl, S, n0, q1, q2⟩ := h
    obtain ⟨⟨dx, hp⟩, hl⟩ := id S
    refine ⟨_, pss_cons (ps_if (pt_cmpR op_lt (pe_callB call_len_seq (by rfl) hlen PySem.boot_len (pa_cons (pe_fld (pv 0) rfl) pa_nil)) (pe_fld (pv 0) rfl) (nomark _)) (pss_one (ps_ret pe_non)) pss_nil)
      (pss_cons (ps_set (i := 1) sc_free.nd rfl (.inl rfl) (pe_meth0G (pv 0) G hr pass0))
      (pss_cons (ps_expr (pe_bm PySem.F.plainAttrs_list PySem.F.slot_list_remove PySem.F.type_list_remove mt_removeS (pe_fld (pv 0) rfl) (pa_cons (pv 1) pa_nil)))
      (pss_one (ps_ret (pv 1))))), ?_⟩
    refine ⟨_, rfl, p, C, dx, _, _, rfl, hp, T.cl, T.nR, oF_row .., l, _, rfl, .inl (SqL.of hl), _, rfl, p, C, dx, _, _, rfl, hp, T.cl, T.nS, oF_size .., _, _, rfl, rfl, _, rfl, ?_⟩
    rw [List.length_map]
    refine ite2 (fun hlt => q1 (of_decide_eq_true hlt)) (fun hge => ?_)
    have hge' : ¬ (row.length : Int) < n := fun z => hge (decide_eq_true z)
    cases row with
    | nil => exact absurd (show ((List.length ([] : List Str) : Nat) : Int) < n by simp; omega) hge'
    | cons g r =>
      refine ⟨_, rfl, p, dx, _, rfl, hp, by rw [oF_pick]; rfl, p, l, n, m, k, g, r, [], rfl, S, ?_⟩
      refine ⟨_, rfl, p, C, dx, _, _, rfl, hp, T.cl, T.nR, oF_row .., .inl ⟨rfl, _, SqL.of hl⟩, _, rfl, l, g :: r, g, rfl, rfl, hl, List.mem_cons_self, ?_⟩
      rw [List.erase_cons_head]
      refine ⟨_, rfl, q2 hge' g r _ rfl ⟨⟨dx, by rw [upd_ne S.ne]; exact hp⟩, upd_same⟩ (Kp.put hl)⟩
/-- wish -/
def spWishOC (nf : Str → List Str → List Str) (tb C : Addr) : Sp := fun vs H Q _ => ∃ (p l : Addr) (n m k : Int) (z : Str) (row : List Str), vs = [.ref p, .str z] ∧ ShAt C H p n l row m k [] ∧ 1 ≤ n ∧ n ≤ 20 ∧ (row.length : Int) ≤ n ∧ IsName z ∧ GxR.TabG H tb ∧
  ∀ (t : Addr) (H' : Hp), ShAt C H' p n l (stepOC nf n row z).2.2 (if (stepOC nf n row z).1 then m + 1 else m) (if (stepOC nf n row z).1 then k else k + 1) [] → Kp tb [p, l] H H' → H t = none →
    H' t = some (.tup [.bl (stepOC nf n row z).1, optV (stepOC nf n row z).2.1]) → Q (.ref t) H'
theorem sc_wish : FnScope ["self", "name", "met", "gone"] ["self", "name"] (defScope s_Shelf_wish) := ⟨rfl, rfl, rfl, by decide +kernel, rfl, by decide +kernel, by decide +kernel⟩
theorem ok_wishOC {nf : Str → List Str → List Str} {f : Addr} {fd : FuncData} {k0 : Nat} (F : FnP K "wish" "Shelf.wish" s_Shelf_wish f fd) (T : ClsT K C) (GC : Glob P w K mg base CX0 (k0 + 2) "check_name" ["name"] (spCheckName K))
    (GF : MethOk P w K mg base CX0 (k0 + 2) C "_free_a_place" ["self"] (spFreeOC (tbOf K) C)) (GN : MethOk P w K mg base CX0 (k0 + 2) C "_note_wish" ["self", "name"] (spNoteOC nf (tbOf K) C)) :
    FnOk P w K mg base CX0 (k0 + 3) f fd ["self", "name"] (spWishOC nf (tbOf K) C) := by
  refine ok0 F sc_wish (fun vs H Q E h => ?_) (fun cdv A outer s H vs Q E hr h => ?_)
  · obtain ⟨p, l, n, m, k, z, row, rfl, _⟩ := h
    rfl
  · obtain ⟨p, l, n, m, k, z, row, rfl, S, n0, n1, hrow, hz, tab, q⟩ := h
    refine ⟨_, pss_cons (ps_expr (pe_callG GC hr (by rfl) pass0 (pa_cons (pv 1) pa_nil)))
      (pss_cons (ps_set (i := 2) sc_wish.nd rfl (.inl rfl) (pe_cmpR op_in_seq (pv 1) (pe_fld (pv 0) rfl) (by with_unfolding_all rfl)))
      (pss_cons (ps_set (i := 3) sc_wish.nd rfl (.inl rfl) pe_non)
      (C8.pss_cut (ps_if (pt_val (pv 2)) (pss_one (ps_fldaug (pv 0) pe_int in_add))
          (pss_cons (ps_fldaug (pv 0) pe_int in_add) (pss_cons (ps_set (i := 3) sc_wish.nd rfl (.inl rfl) (pe_meth0G (pv 0) GF hr pass0))
            (pss_one (ps_expr (pe_bm PySem.F.plainAttrs_list PySem.F.slot_list_append PySem.F.type_list_append mt_append (pe_fld (pv 0) rfl) (pa_cons (pv 1) pa_nil)))))))
      (pss_cons (ps_expr (pe_methG (pv 0) GN hr pass0 (pa_cons (pv 1) pa_nil)))
      (pss_one (ps_ret (pe_tup (pa_cons (pv 2) (pa_cons (pv 3) pa_nil))))))))), ?_⟩
    refine ⟨_, rfl, z, rfl, hz, tab, fun H1 kp1 => ?_⟩
    have S1 := S.kp kp1
    obtain ⟨⟨dx, hp⟩, hl⟩ := id S1
    have npl := S1.ne
    refine ⟨_, rfl, _, rfl, p, C, dx, _, _, rfl, hp, T.cl, T.nR, oF_row .., l, _, rfl, .inl (SqL.of hl), rfl, flat_strs row, ?_⟩
    rw [inV_str]
    -- the state behind the if
    refine ⟨fun σ H2 => ∃ (row2 : List Str) (met : Bool) (gone : Option Str) (m2 k2 : Int), σ = [some (.ref p), some (.str z), some (.bl met), some (optV gone)] ∧ ShAt C H2 p n l row2 m2 k2 [] ∧ z ∈ row2 ∧ row2.length ≤ 20 ∧ Kp (tbOf K) [p, l] H1 H2 ∧
      stepOC nf n row z = (met, gone, nf z row2) ∧ m2 = (if met then m + 1 else m) ∧ k2 = (if met then k else k + 1), ?_, ?_⟩
    · refine ⟨_, rfl, _, rfl, ?_⟩
      by_cases hin : z ∈ row
      · rw [decide_eq_true hin]
        refine iteT ?_
        refine ⟨_, rfl, p, C, dx, _, _, rfl, hp, T.cl, T.nM, oF_met .., _, _, rfl, rfl, dx, _, hp, (by show 4 < 1000; decide), ?_⟩
        rw [oF_put_met]
        refine ⟨row, true, none, m + 1, k, rfl, ⟨⟨dx, upd_same⟩, by rw [upd_ne npl.symm]; exact hl⟩, hin, by omega, Kp.put hp, ?_, rfl, rfl⟩
        unfold stepOC
        rw [if_pos hin]
      · rw [decide_eq_false hin]
        refine iteF ?_
        refine ⟨_, rfl, p, C, dx, _, _, rfl, hp, T.cl, T.nK, oF_missed .., _, _, rfl, rfl, dx, _, hp, (by show 4 < 1000; decide), ?_⟩
        rw [oF_put_missed]
        have kA : Kp (tbOf K) [p, l] H1 (upd H1 p (.ins C dx (oF n l m (k + 1) []))) := Kp.put hp
        have SA : ShAt C (upd H1 p (.ins C dx (oF n l m (k + 1) []))) p n l row m (k + 1) [] := ⟨⟨dx, upd_same⟩, by rw [upd_ne npl.symm]; exact hl⟩
        generalize upd H1 p (.ins C dx (oF n l m (k + 1) [])) = HA at kA SA ⊢
        obtain ⟨⟨dA, hpA⟩, hlA⟩ := id SA
        refine ⟨_, rfl, p, dA, _, rfl, hpA, by rw [oF_free]; rfl, p, l, n, m, k + 1, row, rfl, SA, n0, fun hlt => ?_, fun hge g r HB er SB kB => ?_⟩
        · refine ⟨_, rfl, p, C, dA, _, _, rfl, hpA, T.cl, T.nR, oF_row .., .inl ⟨rfl, _, SqL.of hlA⟩, _, rfl, l, _, _, rfl, rfl, hlA, by rw [List.length_map]; exact small_of (m := 20) (by omega), ?_⟩
          refine ⟨row ++ [z], false, none, m, k + 1, rfl, ⟨⟨dA, by rw [upd_ne npl]; exact hpA⟩, by rw [upd_same, List.map_append]; rfl⟩, List.mem_append_right _ List.mem_cons_self, by rw [List.length_append]; show row.length + 1 ≤ 20; omega, kA.trans (Kp.put hlA), ?_, rfl, rfl⟩
          unfold stepOC
          rw [if_neg hin, if_pos hlt]
        · obtain ⟨⟨dB, hpB⟩, hlB⟩ := id SB
          have hr20 : r.length + 1 ≤ 20 := by
            have : row.length = r.length + 1 := by rw [er]; rfl
            omega
          refine ⟨_, rfl, p, C, dB, _, _, rfl, hpB, T.cl, T.nR, oF_row .., .inl ⟨rfl, _, SqL.of hlB⟩, _, rfl, l, _, _, rfl, rfl, hlB, by rw [List.length_map]; exact small_of (m := 20) (by omega), ?_⟩
          refine ⟨r ++ [z], false, some g, m, k + 1, rfl, ⟨⟨dB, by rw [upd_ne npl]; exact hpB⟩, by rw [upd_same, List.map_append]; rfl⟩, List.mem_append_right _ List.mem_cons_self, by rw [List.length_append]; exact hr20, (kA.trans (kB.mono (by simp))).trans (Kp.put hlB), ?_, rfl, rfl⟩
          unfold stepOC
          rw [if_neg hin, if_neg hge, er]
          rfl
    · rintro σ H2 ⟨row2, met, gone, m2, k2, rfl, S2, hz2, h20, kp2, est, em, ek⟩
      obtain ⟨⟨d2, hp2⟩, hl2⟩ := id S2
      refine ⟨_, rfl, p, d2, _, rfl, hp2, by rw [oF_note]; rfl, _, rfl, p, l, n, m2, k2, z, row2, rfl, S2, hz2, h20, fun H3 S3 kp3 => ?_⟩
      refine ⟨_, rfl, _, rfl, by show 2 ≤ sizeLine; decide, fun t ht => ?_⟩
      have kt : Kp (tbOf K) [p, l] H3 (upd H3 t (.tup [.bl met, optV gone])) := Kp.new ht
      have kAll : Kp (tbOf K) [p, l] H H3 := (kp1.nil.trans kp2).trans (kp3.mono (by simp))
      have S4 : ShAt C (upd H3 t (.tup [.bl met, optV gone])) p n l (nf z row2) m2 k2 [] := S3.kp (Kp.new (tb := tbOf K) (S := []) ht)
      have e1 : (stepOC nf n row z).1 = met := by rw [est]
      have e2 : (stepOC nf n row z).2.1 = gone := by rw [est]
      have e3 : (stepOC nf n row z).2.2 = nf z row2 := by rw [est]
      exact q t _ (by rw [e3, e1, ← em, ← ek]; exact S4) (kAll.trans kt) (kAll.free _ ht) (by rw [e1, e2]; exact upd_same)
end
end Kf

namespace Kf
open PySem PySem.Spec PyProof.Rows L2
/-! ### a def read off its class, called -/
def fclsB (K : PySem.W.Frag) (C : Addr) (m : Str) (f : Addr) : Bool := match PySem.W.findCls K (.ref C) (.type "type") m with
  | some (.val v) => decide (v = .ref f)
  | _ => false
theorem fclsB_ok {K : PySem.W.Frag} {C : Addr} {m : Str} {f : Addr} (h : fclsB K C m f = true) : PySem.W.findCls K (.ref C) (.type "type") m = some (.val (.ref f)) := by
  unfold fclsB at h
  split at h
  · rename_i v e
    rw [e, of_decide_eq_true h]
  · cases h
section
variable {X : Cx} {CX : CXT} {k : Nat} {C f : Addr} {fd : FuncData} {mc : Value} {ps : List Str} {sp : Sp} {E : XK} {x m : Str} {p pos apos : Pos} {e : Expr} {es : List Expr} {t : TA}
theorem pe_clsfn {pl : Sem Bool} (hg : Gl X x) (hm : X.mg x = some (.ref C)) (r : ClX.CRead X.K C mc) (kv : ClX.CVal X.K C mc m (.ref f) (.ref f)) (F : FnOk X.prog X.w X.K X.mg X.base CX k f fd ps sp) (hr : Room k X.A) (hk : PySem.W.keepIn X.K (.ref f) = true)
    (hb : Binds X.K fd ps []) (hx : Passes CX X E) (ha : PA X (e :: es) t)
    (hc : eval (.Call (.Attribute (.Name x p) m apos) (e :: es) [] pos) X.env = (do
      let ov ← eval (.Name x p) X.env
      standAt apos.atName
      let (f, first) ← holding [ov] (getMethod ov m pl)
      callWith pos f first (backTo pos (starEach (e :: es) X.env)) (backToKw pos (keywordEach [] X.env))) := by rfl)
    (he : starEach (e :: es) X.env = (false, eval e X.env) :: starEach es X.env := by rfl) (hpl : (backTo pos (starEach es X.env)).any (·.1) = false := by rfl) (hdb : (x == ("__debug__" : Str)) = false := by decide) :
    PE X (.Call (.Attribute (.Name x p) m apos) (e :: es) [] pos) (tCall sp [] E t) := by
  refine ⟨fun pins s σ H Q I h => ?_⟩
  refine PySem.W.methodCall_KW (ld_glob I hg hm ?_ hdb) hc
  refine PySem.W.method_cls I.kIn r.ga (ClX.getcval_ok I r kv fun s' I' => ?_)
  exact PySem.W.callWith_K (first := []) (h₀ := X.base) I.ok.mod.kin hk (thn (ha.run pos pins _ σ H _ I' h) fun us s1 ⟨vs, H1, I1, r1, q⟩ => ⟨I1.kIn, run_fn F hr hb .nil hx I1 r1 q⟩) he hpl
end
/-- sorted(d), keys that are texts -/
def rSortD : List V → Hp → VK → Prop := fun vs H Q => ∃ (a : Addr) (kvs : List (Key × V)) (ks : List Str), vs = [V.ref a] ∧ H a = some (.dK kvs) ∧ kvs.map (·.1) = ks.map Sum.inr ∧ ks.length < 64 ∧ ∀ p : Addr, H p = none → Q (.ref p) (upd H p (.lst ((sortS ks).map V.str)))
theorem cr_sortD {X : Cx} (hc : X.calm = true) : CallR X (.builtin "sorted") rSortD := by
  intro pins s σ H vs us Q I r h
  obtain ⟨a, kvs, ks, e, hd, hks, h64, q⟩ := h
  exact call_sortedD hc pins s σ H vs us Q I r ⟨a, kvs, ks, e, .inl hd, hks, h64, fun ys p pm so np => by
    rw [sortS_eq pm so]
    exact q p np⟩

/-! ### marked shelves -/
def extM (d : Addr) (rd : Int) : List (Str × V) := [("_marks", .ref d), ("_rounds", .int rd)]
theorem extM_wish (d : Addr) (rd : Int) : (extM d rd).lookup ("wish" : Str) = none := by kernel_rfl
theorem extM_met (d : Addr) (rd : Int) : (extM d rd).lookup ("met" : Str) = none := by kernel_rfl
theorem extM_missed (d : Addr) (rd : Int) : (extM d rd).lookup ("missed" : Str) = none := by kernel_rfl
theorem extM_things (d : Addr) (rd : Int) : (extM d rd).lookup ("things" : Str) = none := by kernel_rfl
theorem extM_places (d : Addr) (rd : Int) : (extM d rd).lookup ("places" : Str) = none := by kernel_rfl
theorem extM_order (d : Addr) (rd : Int) : (extM d rd).lookup ("order" : Str) = none := by kernel_rfl
theorem extM_free (d : Addr) (rd : Int) : (extM d rd).lookup ("_free_a_place" : Str) = none := by kernel_rfl
theorem extM_pick (d : Addr) (rd : Int) : (extM d rd).lookup ("_pick_going" : Str) = none := by kernel_rfl
theorem extM_note (d : Addr) (rd : Int) : (extM d rd).lookup ("_note_wish" : Str) = none := by kernel_rfl
theorem mF_marks (n : Int) (l : Addr) (m k : Int) (d : Addr) (rd : Int) : (oF n l m k (extM d rd)).lookup ("_marks" : Str) = some (.ref d) := by kernel_rfl
theorem mF_rounds (n : Int) (l : Addr) (m k : Int) (d : Addr) (rd : Int) : (oF n l m k (extM d rd)).lookup ("_rounds" : Str) = some (.int rd) := by kernel_rfl
theorem mF_nmarks (n : Int) (l : Addr) (m k : Int) (d : Addr) (rd : Int) : (oF n l m k (extM d rd)).lookup ("marks" : Str) = none := by kernel_rfl
theorem mF_nrounds (n : Int) (l : Addr) (m k : Int) (d : Addr) (rd : Int) : (oF n l m k (extM d rd)).lookup ("rounds" : Str) = none := by kernel_rfl
theorem mF_putm (n : Int) (l : Addr) (m k : Int) (d d' : Addr) (rd : Int) : putF "_marks" (.ref d') (oF n l m k (extM d rd)) = oF n l m k (extM d' rd) := by kernel_rfl
theorem mF_putr (n : Int) (l : Addr) (m k : Int) (d : Addr) (rd rd' : Int) : putF "_rounds" (.int rd') (oF n l m k (extM d rd)) = oF n l m k (extM d rd') := by kernel_rfl
theorem mF_init (n : Int) (l d : Addr) : putF "_rounds" (.int 0) (putF "_marks" (.ref d) (oF n l 0 0 [])) = oF n l 0 0 (extM d 0) := by kernel_rfl
def mkK (marks : List Str) : List (Key × V) := marks.map fun z => (Sum.inr z, V.bl true)
theorem mkK_keys (marks : List Str) : (mkK marks).map (·.1) = marks.map Sum.inr := by
  unfold mkK
  rw [List.map_map]
  rfl
theorem mkK_len (marks : List Str) : (mkK marks).length = marks.length := by unfold mkK; rw [List.length_map]
theorem mkK_val (z : Str) : ∀ marks : List Str, valV (mkK marks) (Sum.inr z) = if z ∈ marks then some (.bl true) else none
  | [] => rfl
  | y :: r => by
    have ih := mkK_val z r
    unfold valV at ih ⊢
    by_cases e : y = z
    · subst e
      rw [if_pos List.mem_cons_self]
      unfold mkK
      rw [List.map_cons, List.find?_cons_of_pos (by simp)]
      rfl
    · have e1 : (mkK (y :: r)).find? (fun kv => decide (kv.1 = Sum.inr z)) = (mkK r).find? (fun kv => decide (kv.1 = Sum.inr z)) := by
        unfold mkK
        rw [List.map_cons, List.find?_cons_of_neg (by simpa using e)]
      rw [e1, ih]
      by_cases h : z ∈ r
      · rw [if_pos h, if_pos (List.mem_cons_of_mem _ h)]
      · rw [if_neg h, if_neg (fun q => (List.mem_cons.mp q).elim (fun w => e w.symm) h)]
def addM (marks : List Str) (z : Str) : List Str := if z ∈ marks then marks else marks ++ [z]
theorem mkK_put (z : Str) (marks : List Str) : putK (mkK marks) (Sum.inr z : Key) (.bl true) = mkK (addM marks z) := by
  have hany : ((mkK marks).any fun kv => decide (kv.1 = (Sum.inr z : Key))) = decide (z ∈ marks) := by
    unfold mkK
    rw [List.any_map]
    induction marks with
    | nil => rfl
    | cons y r ih =>
      rw [List.any_cons, ih]
      show (decide ((Sum.inr y : Key) = Sum.inr z) || decide (z ∈ r)) = decide (z ∈ y :: r)
      by_cases e : y = z
      · subst e; simp
      · rw [decide_eq_false (fun q => e (Sum.inr.inj q)), Bool.false_or]
        exact decide_eq_decide.mpr ⟨fun h => List.mem_cons_of_mem _ h, fun h => (List.mem_cons.mp h).elim (fun q => absurd q.symm e) id⟩
  unfold putK addM
  rw [hany]
  by_cases h : z ∈ marks
  · rw [if_pos (decide_eq_true h), if_pos h]
    unfold mkK
    rw [List.map_map]
    refine List.map_congr_left fun y hy => ?_
    show (if (Sum.inr y : Key) = Sum.inr z then ((Sum.inr y : Key), V.bl true) else ((Sum.inr y : Key), V.bl true)) = _
    rw [ite_self]
  · rw [if_neg (by simp [h]), if_neg h]
    unfold mkK
    rw [List.map_append]
    rfl
/-- who goes, the marks and the rounds behind it -/
def pickM (row marks : List Str) (rd : Int) : Str × List Str × Int :=
  if marks.length = row.length then (minS row, [], rd + 1) else (minS (row.filter fun y => decide (y ∉ marks)), marks, rd)
structure MkAt (C : Addr) (H : Hp) (p : Addr) (n : Int) (l : Addr) (row : List Str) (m k : Int) (d : Addr) (marks : List Str) (rd : Int) : Prop where
  sh : ShAt C H p n l row m k (extM d rd)
  mkd : H d = some (.dK (mkK marks))
theorem MkAt.kp {C : Addr} {H H' : Hp} {tb : Addr} {S : List Addr} {p l d : Addr} {n m k rd : Int} {row marks : List Str} (h : MkAt C H p n l row m k d marks rd) (kp : Kp tb S H H') (hp : p ∉ S := by simp) (hl : l ∉ S := by simp) (hd : d ∉ S := by simp) :
    MkAt C H' p n l row m k d marks rd := ⟨h.sh.kp kp hp hl, kp.get h.mkd rfl hd⟩
/-- further facts of the class -/
structure ClsM (K : PySem.W.Frag) (C : Addr) : Prop where
  nA : NoAttr K C "_marks"
  nO : NoAttr K C "_rounds"
section
variable {P : Program} {w : World} {K : PySem.W.Frag} {mg : Str → Option Value} {base : Heap} {tb C : Addr}
def spInitM (tb C : Addr) : Sp := fun vs H Q _ => ∃ (p dx : Addr) (n : Int), vs = [.ref p, .int n] ∧ 1 ≤ n ∧ n ≤ 20 ∧ H p = some (.ins C dx []) ∧
  ∀ (l d : Addr) (H' : Hp), H l = none → H d = none → l ≠ d → MkAt C H' p n l [] 0 0 d [] 0 → Kp tb [p] H H' → Q .non H'
/-- marks(), rounds() -/
def spMarks (tb C : Addr) : Sp := fun vs H Q _ => ∃ (p l d : Addr) (n m k rd : Int) (row marks : List Str), vs = [.ref p] ∧ MkAt C H p n l row m k d marks rd ∧ marks.length < 64 ∧
  ∀ (o : Addr) (H' : Hp), H o = none → H' o = some (.lst ((sortS marks).map V.str)) → Kp tb [] H H' → Q (.ref o) H'
def spRounds (C : Addr) : Sp := fun vs H Q _ => ∃ (p l d : Addr) (n m k rd : Int), vs = [.ref p] ∧ (∃ dx, H p = some (.ins C dx (oF n l m k (extM d rd)))) ∧ Q (.int rd) H
/-- _pick_going -/
def spPickM (tb C : Addr) : Sp := fun vs H Q _ => ∃ (p l d : Addr) (n m k rd : Int) (row marks : List Str), vs = [.ref p] ∧ MkAt C H p n l row m k d marks rd ∧ row.length ≤ 20 ∧ row ≠ [] ∧ (marks.length ≠ row.length → row.filter (fun y => decide (y ∉ marks)) ≠ []) ∧
  ∀ (d' : Addr) (H' : Hp), MkAt C H' p n l row m k d' (pickM row marks rd).2.1 (pickM row marks rd).2.2 → (d' = d ∨ H d' = none) → Kp tb [p] H H' → Q (.str (pickM row marks rd).1) H'
/-- _note_wish -/
def spNoteM (tb C : Addr) : Sp := fun vs H Q _ => ∃ (p l d : Addr) (n m k rd : Int) (z : Str) (row marks : List Str), vs = [.ref p, .str z] ∧ MkAt C H p n l row m k d marks rd ∧ marks.length ≤ 20 ∧ ∀ H', MkAt C H' p n l row m k d (addM marks z) rd → Kp tb [d] H H' → Q .non H'
/-- _free_a_place -/
def spFreeM (tb C : Addr) : Sp := fun vs H Q _ => ∃ (p l d : Addr) (n m k rd : Int) (row marks : List Str), vs = [.ref p] ∧ MkAt C H p n l row m k d marks rd ∧ 1 ≤ n ∧ row.length ≤ 20 ∧ (marks.length ≠ row.length → row.filter (fun y => decide (y ∉ marks)) ≠ []) ∧ ((row.length : Int) < n → Q .non H) ∧
  (¬ (row.length : Int) < n → ∀ (d' : Addr) (H' : Hp), MkAt C H' p n l (row.erase (pickM row marks rd).1) m k d' (pickM row marks rd).2.1 (pickM row marks rd).2.2 → (d' = d ∨ H d' = none) → Kp tb [p, l] H H' → Q (.str (pickM row marks rd).1) H')
theorem pickM_mem {row marks : List Str} {rd : Int} (h : row ≠ []) (hf : marks.length ≠ row.length → row.filter (fun y => decide (y ∉ marks)) ≠ []) : (pickM row marks rd).1 ∈ row := by
  unfold pickM
  by_cases e : marks.length = row.length
  · rw [if_pos e]
    exact minS_mem h
  · rw [if_neg e]
    exact (List.mem_filter.mp (minS_mem (hf e))).1
theorem sc_mfree : FnScope ["self", "gone"] ["self"] (defScope s_Shelf__free_a_place) := ⟨rfl, rfl, rfl, by decide +kernel, rfl, by decide +kernel, by decide +kernel⟩
theorem ok_mfree {f : Addr} {fd : FuncData} {k0 : Nat} (F : FnP K "_free_a_place" "Shelf._free_a_place" s_Shelf__free_a_place f fd) (T : ClsT K C) (hlen : mg "len" = none) (G : MethOk P w K mg base CX0 (k0 + 1) C "_pick_going" ["self"] (spPickM tb C)) :
    FnOk P w K mg base CX0 (k0 + 2) f fd ["self"] (spFreeM tb C) := by
  refine ok0 F sc_mfree (fun vs H Q E h => ?_) (fun cdv A outer s H vs Q E hr h => ?_)
  · obtain ⟨p, l, d, n, m, k, rd, row, marks, rfl, _⟩ := h
    rfl
  · obtain ⟨p, l, d, n, m, k, rd, row, marks, rfl, S, n0, h20, hfl, q1, q2⟩ := h
    obtain ⟨⟨dx, hp⟩, hl⟩ := S.sh
    refine ⟨_, pss_cons (ps_if (pt_cmpR op_lt (pe_callB call_len_seq (by rfl) hlen PySem.boot_len (pa_cons (pe_fld (pv 0) rfl) pa_nil)) (pe_fld (pv 0) rfl) (nomark _)) (pss_one (ps_ret pe_non)) pss_nil)
      (pss_cons (ps_set (i := 1) sc_mfree.nd rfl (.inl rfl) (pe_meth0G (pv 0) G hr pass0))
      (pss_cons (ps_expr (pe_bm PySem.F.plainAttrs_list PySem.F.slot_list_remove PySem.F.type_list_remove mt_removeS (pe_fld (pv 0) rfl) (pa_cons (pv 1) pa_nil)))
      (pss_one (ps_ret (pv 1))))), ?_⟩
    refine ⟨_, rfl, p, C, dx, _, _, rfl, hp, T.cl, T.nR, oF_row .., l, _, rfl, .inl (SqL.of hl), _, rfl, p, C, dx, _, _, rfl, hp, T.cl, T.nS, oF_size .., _, _, rfl, rfl, _, rfl, ?_⟩
    rw [List.length_map]
    refine ite2 (fun hlt => q1 (of_decide_eq_true hlt)) (fun hge => ?_)
    have hge' : ¬ (row.length : Int) < n := fun z => hge (decide_eq_true z)
    have hne : row ≠ [] := fun e => hge' (by rw [e]; simp; omega)
    refine ⟨_, rfl, p, dx, _, rfl, hp, by rw [oF_pick, extM_pick], p, l, d, n, m, k, rd, row, marks, rfl, S, h20, hne, hfl, fun d' H2 S2 hd' k2 => ?_⟩
    have hmem := pickM_mem (rd := rd) hne hfl
    generalize pickM row marks rd = pk at *
    obtain ⟨⟨dx2, hp2⟩, hl2⟩ := S2.sh
    have npl := S2.sh.ne
    have nld' : l ≠ d' := ne_of hl2 S2.mkd (by intro z; cases z)
    refine ⟨_, rfl, p, C, dx2, _, _, rfl, hp2, T.cl, T.nR, oF_row .., .inl ⟨rfl, _, SqL.of hl2⟩, _, rfl, l, row, pk.1, rfl, rfl, hl2, hmem, ?_⟩
    refine ⟨_, rfl, q2 hge' d' _ ⟨⟨⟨dx2, by rw [upd_ne npl]; exact hp2⟩, upd_same⟩, by rw [upd_ne nld'.symm]; exact S2.mkd⟩ hd' ((k2.mono (by simp)).trans (Kp.put hl2))⟩
/-- wish -/
def stepM (n : Int) (row marks : List Str) (rd : Int) (z : Str) : Bool × Option Str × List Str × List Str × Int :=
  if z ∈ row then (true, none, row, addM marks z, rd)
  else if (row.length : Int) < n then (false, none, row ++ [z], addM marks z, rd)
  else (false, some (pickM row marks rd).1, row.erase (pickM row marks rd).1 ++ [z], addM (pickM row marks rd).2.1 z, (pickM row marks rd).2.2)
/-- what holds of a marked shelf -/
structure MkOk (n : Int) (row marks : List Str) : Prop where
  le : (row.length : Int) ≤ n
  nd : row.Nodup
  md : marks.Nodup
  sub : ∀ y ∈ marks, y ∈ row
  nm : ∀ y ∈ row, IsName y
theorem subset_len : ∀ {xs ys : List Str}, xs.Nodup → (∀ y ∈ xs, y ∈ ys) → xs.length ≤ ys.length
  | [], _, _, _ => Nat.zero_le _
  | x :: r, ys, h, s => by
    obtain ⟨h1, h2⟩ := List.nodup_cons.mp h
    have hx := s x List.mem_cons_self
    have ih := subset_len (ys := ys.erase x) h2 fun y hy => (List.mem_erase_of_ne (fun e => h1 (by rw [← e]; exact hy))).mpr (s y (List.mem_cons_of_mem _ hy))
    have e := List.length_erase_of_mem hx
    have e2 := List.length_pos_of_mem hx
    rw [List.length_cons]
    omega
theorem MkOk.fl {n : Int} {row marks : List Str} (h : MkOk n row marks) : marks.length ≠ row.length → row.filter (fun y => decide (y ∉ marks)) ≠ [] := fun ne e => by
  have h1 : ∀ y ∈ row, y ∈ marks := fun y hy => by
    by_cases q : y ∈ marks
    · exact q
    · have : y ∈ row.filter (fun y => decide (y ∉ marks)) := List.mem_filter.mpr ⟨hy, by simpa using q⟩
      rw [e] at this
      cases this
  have h2 := subset_len h.nd h1
  have h3 := subset_len h.md h.sub
  omega
theorem addM_nd {marks : List Str} {z : Str} (h : marks.Nodup) : (addM marks z).Nodup := by
  unfold addM
  by_cases e : z ∈ marks
  · rw [if_pos e]; exact h
  · rw [if_neg e, List.nodup_append]
    exact ⟨h, List.nodup_cons.mpr ⟨by simp, List.nodup_nil⟩, fun x hx y hy q => e (by rw [← List.mem_singleton.mp hy, ← q]; exact hx)⟩
theorem addM_sub {marks : List Str} {z y : Str} (h : y ∈ addM marks z) : y ∈ marks ∨ y = z := by
  unfold addM at h
  by_cases e : z ∈ marks
  · rw [if_pos e] at h; exact .inl h
  · rw [if_neg e] at h
    rcases List.mem_append.mp h with q | q
    · exact .inl q
    · exact .inr (List.mem_singleton.mp q)
theorem nodup_snoc {r : List Str} {z : Str} (hr : z ∉ r) (h : r.Nodup) : (r ++ [z]).Nodup := by
  rw [List.nodup_append]
  exact ⟨h, List.nodup_cons.mpr ⟨by simp, List.nodup_nil⟩, fun x hx y hy e => hr (by rw [← List.mem_singleton.mp hy, ← e]; exact hx)⟩
/-- behind the pick: who goes has no mark any more -/
theorem pickM_ok {n : Int} {row marks : List Str} {rd : Int} (h : MkOk n row marks) (hne : row ≠ []) : (pickM row marks rd).1 ∈ row ∧ (pickM row marks rd).2.1.Nodup ∧ (∀ y ∈ (pickM row marks rd).2.1, y ∈ row.erase (pickM row marks rd).1) := by
  refine ⟨pickM_mem hne h.fl, ?_⟩
  unfold pickM
  by_cases e : marks.length = row.length
  · rw [if_pos e]
    exact ⟨List.nodup_nil, fun y hy => absurd hy (by simp)⟩
  · rw [if_neg e]
    refine ⟨h.md, fun y hy => (List.mem_erase_of_ne (fun q => ?_)).mpr (h.sub y hy)⟩
    have hm := (List.mem_filter.mp (minS_mem (h.fl e))).2
    dsimp only at q hy
    rw [← q, decide_eq_true_eq] at hm
    exact hm hy
theorem stepM_ok {n : Int} {row marks : List Str} {rd : Int} {z : Str} (h : MkOk n row marks) (n0 : 1 ≤ n) (hz : IsName z) : MkOk n (stepM n row marks rd z).2.2.1 (stepM n row marks rd z).2.2.2.1 := by
  unfold stepM
  by_cases h1 : z ∈ row
  · rw [if_pos h1]
    exact ⟨h.le, h.nd, addM_nd h.md, fun y hy => (addM_sub hy).elim (h.sub y) (fun e => by rw [e]; exact h1), h.nm⟩
  · rw [if_neg h1]
    by_cases h2 : (row.length : Int) < n
    · rw [if_pos h2]
      refine ⟨?_, nodup_snoc h1 h.nd, addM_nd h.md, fun y hy => (addM_sub hy).elim (fun q => List.mem_append_left _ (h.sub y q)) (fun e => by rw [e]; exact List.mem_append_right _ List.mem_cons_self), fun y hy => ?_⟩
      · show ((row ++ [z]).length : Int) ≤ n
        rw [List.length_append, List.length_singleton]
        omega
      · rcases List.mem_append.mp hy with q | q
        · exact h.nm y q
        · rw [List.mem_singleton.mp q]; exact hz
    · rw [if_neg h2]
      have hne : row ≠ [] := fun e => h2 (by rw [e]; simp; omega)
      obtain ⟨p1, p2, p3⟩ := pickM_ok (rd := rd) h hne
      refine ⟨?_, nodup_snoc (fun q => h1 (List.mem_of_mem_erase q)) (h.nd.erase _), addM_nd p2, fun y hy => (addM_sub hy).elim (fun q => List.mem_append_left _ (p3 y q)) (fun e => by rw [e]; exact List.mem_append_right _ List.mem_cons_self), fun y hy => ?_⟩
      · show ((row.erase (pickM row marks rd).1 ++ [z]).length : Int) ≤ n
        have e1 := List.length_erase_of_mem p1
        have e2 := List.length_pos_of_mem p1
        rw [List.length_append, List.length_singleton]
        have := h.le
        omega
      · rcases List.mem_append.mp hy with q | q
        · exact h.nm y (List.mem_of_mem_erase q)
        · rw [List.mem_singleton.mp q]; exact hz
theorem stepM_gone {n : Int} {row marks : List Str} {rd : Int} {z : Str} (h : MkOk n row marks) (n0 : 1 ≤ n) : ∀ g, (stepM n row marks rd z).2.1 = some g → IsName g := by
  intro g hg
  unfold stepM at hg
  by_cases h1 : z ∈ row
  · rw [if_pos h1] at hg; cases hg
  · rw [if_neg h1] at hg
    by_cases h2 : (row.length : Int) < n
    · rw [if_pos h2] at hg; cases hg
    · rw [if_neg h2] at hg
      have hne : row ≠ [] := fun e => h2 (by rw [e]; simp; omega)
      have := (pickM_ok (rd := rd) h hne).1
      rw [← Option.some.inj hg]
      exact h.nm _ this
def spWishM (tb C : Addr) : Sp := fun vs H Q _ => ∃ (p l d : Addr) (n m k rd : Int) (z : Str) (row marks : List Str), vs = [.ref p, .str z] ∧ MkAt C H p n l row m k d marks rd ∧ MkOk n row marks ∧ 1 ≤ n ∧ n ≤ 20 ∧ IsName z ∧ GxR.TabG H tb ∧
  ∀ (t d' : Addr) (H' : Hp), MkAt C H' p n l (stepM n row marks rd z).2.2.1 (if (stepM n row marks rd z).1 then m + 1 else m) (if (stepM n row marks rd z).1 then k else k + 1) d' (stepM n row marks rd z).2.2.2.1 (stepM n row marks rd z).2.2.2.2 → (d' = d ∨ H d' = none) → t ≠ d' →
    Kp tb [p, l, d] H H' → H t = none → H' t = some (.tup [.bl (stepM n row marks rd z).1, optV (stepM n row marks rd z).2.1]) → Q (.ref t) H'
theorem sc_mwish : FnScope ["self", "name", "met", "gone"] ["self", "name"] (defScope s_Shelf_wish) := ⟨rfl, rfl, rfl, by decide +kernel, rfl, by decide +kernel, by decide +kernel⟩
theorem ok_mwish {f : Addr} {fd : FuncData} {k0 : Nat} (F : FnP K "wish" "Shelf.wish" s_Shelf_wish f fd) (T : ClsT K C) (GC : Glob P w K mg base CX0 (k0 + 2) "check_name" ["name"] (spCheckName K))
    (GF : MethOk P w K mg base CX0 (k0 + 2) C "_free_a_place" ["self"] (spFreeM (tbOf K) C)) (GN : MethOk P w K mg base CX0 (k0 + 2) C "_note_wish" ["self", "name"] (spNoteM (tbOf K) C)) :
    FnOk P w K mg base CX0 (k0 + 3) f fd ["self", "name"] (spWishM (tbOf K) C) := by
  refine ok0 F sc_mwish (fun vs H Q E h => ?_) (fun cdv A outer s H vs Q E hr h => ?_)
  · obtain ⟨p, l, d, n, m, k, rd, z, row, marks, rfl, _⟩ := h
    rfl
  · obtain ⟨p, l, d, n, m, k, rd, z, row, marks, rfl, S, ok, n0, n1, hz, tab, q⟩ := h
    have hrow := ok.le
    refine ⟨_, pss_cons (ps_expr (pe_callG GC hr (by rfl) pass0 (pa_cons (pv 1) pa_nil)))
      (pss_cons (ps_set (i := 2) sc_mwish.nd rfl (.inl rfl) (pe_cmpR op_in_seq (pv 1) (pe_fld (pv 0) rfl) (by with_unfolding_all rfl)))
      (pss_cons (ps_set (i := 3) sc_mwish.nd rfl (.inl rfl) pe_non)
      (C8.pss_cut (ps_if (pt_val (pv 2)) (pss_one (ps_fldaug (pv 0) pe_int in_add))
          (pss_cons (ps_fldaug (pv 0) pe_int in_add) (pss_cons (ps_set (i := 3) sc_mwish.nd rfl (.inl rfl) (pe_meth0G (pv 0) GF hr pass0))
            (pss_one (ps_expr (pe_bm PySem.F.plainAttrs_list PySem.F.slot_list_append PySem.F.type_list_append mt_append (pe_fld (pv 0) rfl) (pa_cons (pv 1) pa_nil)))))))
      (pss_cons (ps_expr (pe_methG (pv 0) GN hr pass0 (pa_cons (pv 1) pa_nil)))
      (pss_one (ps_ret (pe_tup (pa_cons (pv 2) (pa_cons (pv 3) pa_nil))))))))), ?_⟩
    refine ⟨_, rfl, z, rfl, hz, tab, fun H1 kp1 => ?_⟩
    have S1 := S.kp kp1
    obtain ⟨⟨dx, hp⟩, hl⟩ := S1.sh
    have npl := S1.sh.ne
    have npd : p ≠ d := ne_of hp S1.mkd (by intro z; cases z)
    have nld : l ≠ d := ne_of hl S1.mkd (by intro z; cases z)
    refine ⟨_, rfl, _, rfl, p, C, dx, _, _, rfl, hp, T.cl, T.nR, oF_row .., l, _, rfl, .inl (SqL.of hl), rfl, flat_strs row, ?_⟩
    rw [inV_str]
    -- the state behind the if
    refine ⟨fun σ H2 => ∃ (row2 marks2 : List Str) (met : Bool) (gone : Option Str) (m2 k2 rd2 : Int) (d2 : Addr), σ = [some (.ref p), some (.str z), some (.bl met), some (optV gone)] ∧ MkAt C H2 p n l row2 m2 k2 d2 marks2 rd2 ∧ (d2 = d ∨ H d2 = none) ∧ marks2.length ≤ 20 ∧ Kp (tbOf K) [p, l, d] H1 H2 ∧
      stepM n row marks rd z = (met, gone, row2, addM marks2 z, rd2) ∧ m2 = (if met then m + 1 else m) ∧ k2 = (if met then k else k + 1), ?_, ?_⟩
    · have hm20 : marks.length ≤ 20 := by have := subset_len ok.md ok.sub; omega
      refine ⟨_, rfl, _, rfl, ?_⟩
      by_cases hin : z ∈ row
      · rw [decide_eq_true hin]
        refine iteT ?_
        refine ⟨_, rfl, p, C, dx, _, _, rfl, hp, T.cl, T.nM, oF_met .., _, _, rfl, rfl, dx, _, hp, (by show 6 < 1000; decide), ?_⟩
        rw [oF_put_met]
        refine ⟨row, marks, true, none, m + 1, k, rd, d, rfl, ⟨⟨⟨dx, upd_same⟩, by rw [upd_ne npl.symm]; exact hl⟩, by rw [upd_ne npd.symm]; exact S1.mkd⟩, .inl rfl, hm20, Kp.put hp, ?_, rfl, rfl⟩
        unfold stepM
        rw [if_pos hin]
      · rw [decide_eq_false hin]
        refine iteF ?_
        refine ⟨_, rfl, p, C, dx, _, _, rfl, hp, T.cl, T.nK, oF_missed .., _, _, rfl, rfl, dx, _, hp, (by show 6 < 1000; decide), ?_⟩
        rw [oF_put_missed]
        have kA : Kp (tbOf K) [p, l, d] H1 (upd H1 p (.ins C dx (oF n l m (k + 1) (extM d rd)))) := Kp.put hp
        have SA : MkAt C (upd H1 p (.ins C dx (oF n l m (k + 1) (extM d rd)))) p n l row m (k + 1) d marks rd := ⟨⟨⟨dx, upd_same⟩, by rw [upd_ne npl.symm]; exact hl⟩, by rw [upd_ne npd.symm]; exact S1.mkd⟩
        generalize upd H1 p (.ins C dx (oF n l m (k + 1) (extM d rd))) = HA at kA SA ⊢
        obtain ⟨⟨dA, hpA⟩, hlA⟩ := SA.sh
        refine ⟨_, rfl, p, dA, _, rfl, hpA, by rw [oF_free, extM_free], p, l, d, n, m, k + 1, rd, row, marks, rfl, SA, n0, by omega, ok.fl, fun hlt => ?_, fun hge dB HB SB hdB kB => ?_⟩
        · refine ⟨_, rfl, p, C, dA, _, _, rfl, hpA, T.cl, T.nR, oF_row .., .inl ⟨rfl, _, SqL.of hlA⟩, _, rfl, l, _, _, rfl, rfl, hlA, by rw [List.length_map]; exact small_of (m := 20) (by omega), ?_⟩
          refine ⟨row ++ [z], marks, false, none, m, k + 1, rd, d, rfl, ⟨⟨⟨dA, by rw [upd_ne npl]; exact hpA⟩, by rw [upd_same, List.map_append]; rfl⟩, by rw [upd_ne nld.symm]; exact SA.mkd⟩, .inl rfl, hm20, kA.trans (Kp.put hlA), ?_, rfl, rfl⟩
          unfold stepM
          rw [if_neg hin, if_pos hlt]
        · obtain ⟨⟨dxB, hpB⟩, hlB⟩ := SB.sh
          have nldB : l ≠ dB := ne_of hlB SB.mkd (by intro z; cases z)
          have hne : row ≠ [] := fun e => hge (by rw [e]; simp; omega)
          obtain ⟨p1, p2, p3⟩ := pickM_ok (rd := rd) ok hne
          have hl20 : (row.erase (pickM row marks rd).1).length ≤ 20 := Nat.le_trans List.length_erase_le (by omega)
          have hm2 : (pickM row marks rd).2.1.length ≤ 20 := Nat.le_trans (subset_len p2 p3) hl20
          refine ⟨_, rfl, p, C, dxB, _, _, rfl, hpB, T.cl, T.nR, oF_row .., .inl ⟨rfl, _, SqL.of hlB⟩, _, rfl, l, _, _, rfl, rfl, hlB, by rw [List.length_map]; exact small_of hl20, ?_⟩
          refine ⟨row.erase (pickM row marks rd).1 ++ [z], (pickM row marks rd).2.1, false, some (pickM row marks rd).1, m, k + 1, (pickM row marks rd).2.2, dB, rfl, ⟨⟨⟨dxB, by rw [upd_ne npl]; exact hpB⟩, by rw [upd_same, List.map_append]; rfl⟩, by rw [upd_ne nldB.symm]; exact SB.mkd⟩, ?_, hm2, (kA.trans (kB.mono (by simp))).trans (Kp.put hlB), ?_, rfl, rfl⟩
          · rcases hdB with e | e
            · exact .inl e
            · exact .inr (kp1.free _ (kA.free _ e))
          · unfold stepM
            rw [if_neg hin, if_neg hge]
    · rintro σ H2 ⟨row2, marks2, met, gone, m2, k2, rd2, d2, rfl, S2, hd2, h20, kp2, est, em, ek⟩
      obtain ⟨⟨dx2, hp2⟩, hl2⟩ := S2.sh
      refine ⟨_, rfl, p, dx2, _, rfl, hp2, by rw [oF_note, extM_note], _, rfl, p, l, d2, n, m2, k2, rd2, z, row2, marks2, rfl, S2, h20, fun H3 S3 kp3 => ?_⟩
      refine ⟨_, rfl, _, rfl, by show 2 ≤ sizeLine; decide, fun t ht => ?_⟩
      have kAll : Kp (tbOf K) [p, l, d] H H3 := by
        have k12 : Kp (tbOf K) [p, l, d] H H2 := kp1.nil.trans kp2
        rcases hd2 with e | e
        · exact k12.trans (kp3.mono (by rw [e]; simp))
        · refine ⟨fun b o eb no hb => kp3.keep b o (k12.keep b o eb no hb) no fun hm => ?_, fun tt => kp3.tab (k12.tab tt), fun b eb => k12.free b (kp3.free b eb)⟩
          rw [List.mem_singleton.mp hm, e] at eb
          cases eb
      have kt : Kp (tbOf K) [p, l, d] H3 (upd H3 t (.tup [.bl met, optV gone])) := Kp.new ht
      have S4 : MkAt C (upd H3 t (.tup [.bl met, optV gone])) p n l row2 m2 k2 d2 (addM marks2 z) rd2 := S3.kp (Kp.new (tb := tbOf K) (S := []) ht)
      have ntd : t ≠ d2 := (ne_of_none S3.mkd ht).symm
      refine q t d2 _ ?_ hd2 ntd (kAll.trans kt) (kAll.free _ ht) ?_
      · rw [est]
        dsimp only
        rw [← em, ← ek]
        exact S4
      · rw [est]
        exact upd_same
end
end Kf

namespace Kf
open PySem PySem.Spec PyProof.Rows L2
/-! ### the three rules as one -/
inductive Rule where
  | old
  | cold
  | marked
def Rule.txt : Rule → Str
  | .old => "old"
  | .cold => "cold"
  | .marked => "marked"
/-- what stands on a shelf, who has marks, the rounds that ended -/
structure St3 where
  row : List Str
  marks : List Str
  rd : Int
def st0 : St3 := ⟨[], [], 0⟩
def ofOC (x : Bool × Option Str × List Str) : Bool × Option Str × St3 := (x.1, x.2.1, ⟨x.2.2, [], 0⟩)
def ofM (x : Bool × Option Str × List Str × List Str × Int) : Bool × Option Str × St3 := (x.1, x.2.1, ⟨x.2.2.1, x.2.2.2.1, x.2.2.2.2⟩)
def stepR : Rule → Int → St3 → Str → Bool × Option Str × St3
  | .old, n, s, z => ofOC (stepOC nfOld n s.row z)
  | .cold, n, s, z => ofOC (stepOC nfCold n s.row z)
  | .marked, n, s, z => ofM (stepM n s.row s.marks s.rd z)
/-- the pairs of a row of wishes, and what is there behind it -/
def pairsR (r : Rule) (n : Int) : St3 → List Str → List (Bool × Option Str)
  | _, [] => []
  | s, z :: zs => ((stepR r n s z).1, (stepR r n s z).2.1) :: pairsR r n (stepR r n s z).2.2 zs
def endR (r : Rule) (n : Int) : St3 → List Str → St3
  | s, [] => s
  | s, z :: zs => endR r n (stepR r n s z).2.2 zs
theorem pairsR_snoc (r : Rule) (n : Int) (z : Str) : ∀ (zs : List Str) (s : St3), pairsR r n s (zs ++ [z]) = pairsR r n s zs ++ [((stepR r n (endR r n s zs) z).1, (stepR r n (endR r n s zs) z).2.1)]
  | [], _ => rfl
  | y :: ys, s => congrArg (_ :: ·) (pairsR_snoc r n z ys _)
theorem endR_snoc (r : Rule) (n : Int) (z : Str) : ∀ (zs : List Str) (s : St3), endR r n s (zs ++ [z]) = (stepR r n (endR r n s zs) z).2.2
  | [], _ => rfl
  | _ :: ys, _ => endR_snoc r n z ys _
theorem pairsR_len (r : Rule) (n : Int) : ∀ (zs : List Str) (s : St3), (pairsR r n s zs).length = zs.length
  | [], _ => rfl
  | _ :: ys, _ => congrArg (· + 1) (pairsR_len r n ys _)
structure NfOk (nf : Str → List Str → List Str) : Prop where
  mem : ∀ z row y, y ∈ nf z row → y ∈ row ∨ y = z
  nd : ∀ z row, row.Nodup → (nf z row).Nodup
  len : ∀ z row, z ∈ row → (nf z row).length = row.length
theorem nfOk_old : NfOk nfOld := ⟨fun _ _ _ h => .inl h, fun _ _ h => h, fun _ _ _ => rfl⟩
theorem nfOk_cold : NfOk nfCold := by
  refine ⟨fun z row y hy => ?_, fun z row h => ?_, fun z row h => ?_⟩
  · unfold nfCold at hy
    rcases List.mem_append.mp hy with q | q
    · exact .inl (List.mem_of_mem_erase q)
    · exact .inr (List.mem_singleton.mp q)
  · unfold nfCold
    exact nodup_snoc (fun q => ((List.Nodup.mem_erase_iff h).mp q).1 rfl) (h.erase z)
  · unfold nfCold
    rw [List.length_append, List.length_erase_of_mem h, List.length_singleton]
    have := List.length_pos_of_mem h
    omega
theorem stepOC_ok {nf : Str → List Str → List Str} (N : NfOk nf) {n : Int} {row : List Str} {z : Str} (h : MkOk n row []) (n0 : 1 ≤ n) (hz : IsName z) : MkOk n (stepOC nf n row z).2.2 [] := by
  have fin : ∀ r : List Str, z ∈ r → r.Nodup → (r.length : Int) ≤ n → (∀ y ∈ r, IsName y) → MkOk n (nf z r) [] := fun r hzr hr hl hn =>
    ⟨by rw [N.len z r hzr]; exact hl, N.nd z r hr, List.nodup_nil, fun _ h => absurd h (by simp), fun y hy => (N.mem z r y hy).elim (hn y) (fun e => by rw [e]; exact hz)⟩
  unfold stepOC
  by_cases h1 : z ∈ row
  · rw [if_pos h1]
    exact fin row h1 h.nd h.le h.nm
  · rw [if_neg h1]
    by_cases h2 : (row.length : Int) < n
    · rw [if_pos h2]
      refine fin _ (List.mem_append_right _ List.mem_cons_self) (nodup_snoc h1 h.nd) ?_ fun y hy => ?_
      · rw [List.length_append, List.length_singleton]
        omega
      · rcases List.mem_append.mp hy with q | q
        · exact h.nm y q
        · rw [List.mem_singleton.mp q]; exact hz
    · rw [if_neg h2]
      have hl := h.le
      refine fin _ (List.mem_append_right _ List.mem_cons_self) (nodup_snoc (fun q => h1 (List.mem_of_mem_tail q)) h.nd.tail) ?_ fun y hy => ?_
      · rw [List.length_append, List.length_singleton, List.length_tail]
        omega
      · rcases List.mem_append.mp hy with q | q
        · exact h.nm y (List.mem_of_mem_tail q)
        · rw [List.mem_singleton.mp q]; exact hz
def OkR (n : Int) (s : St3) : Prop := MkOk n s.row s.marks
theorem okR0 {n : Int} (h : 1 ≤ n) : OkR n st0 := ⟨by show ((([] : List Str).length : Nat) : Int) ≤ n; simp; omega, List.nodup_nil, List.nodup_nil, fun _ h => absurd h (by simp [st0]), fun _ h => absurd h (by simp [st0])⟩
/-- an old, a cold shelf has no marks -/
def NoMk : Rule → St3 → Prop
  | .marked, _ => True
  | _, s => s.marks = [] ∧ s.rd = 0
theorem stepR_ok {r : Rule} {n : Int} {s : St3} {z : Str} (h : OkR n s) (n0 : 1 ≤ n) (hz : IsName z) : OkR n (stepR r n s z).2.2 := by
  have h0 : MkOk n s.row [] := ⟨h.le, h.nd, List.nodup_nil, fun _ h => absurd h (by simp), h.nm⟩
  cases r with
  | old => exact stepOC_ok nfOk_old h0 n0 hz
  | cold => exact stepOC_ok nfOk_cold h0 n0 hz
  | marked => exact stepM_ok h n0 hz
theorem stepR_gone {r : Rule} {n : Int} {s : St3} {z : Str} (h : OkR n s) (n0 : 1 ≤ n) : ∀ g, (stepR r n s z).2.1 = some g → IsName g := by
  have oc : ∀ nf, ∀ g, (stepOC nf n s.row z).2.1 = some g → IsName g := fun nf g hg => by
    unfold stepOC at hg
    by_cases h1 : z ∈ s.row
    · rw [if_pos h1] at hg; cases hg
    · rw [if_neg h1] at hg
      by_cases h2 : (s.row.length : Int) < n
      · rw [if_pos h2] at hg; cases hg
      · rw [if_neg h2] at hg
        exact h.nm g (List.mem_of_head? hg)
  cases r with
  | old => exact oc nfOld
  | cold => exact oc nfCold
  | marked => exact stepM_gone h n0
theorem endR_ok {r : Rule} {n : Int} (n0 : 1 ≤ n) : ∀ {zs : List Str} {s : St3}, OkR n s → (∀ z ∈ zs, IsName z) → OkR n (endR r n s zs)
  | [], _, h, _ => h
  | z :: zs, _, h, hz => endR_ok n0 (zs := zs) (stepR_ok h n0 (hz z List.mem_cons_self)) fun y hy => hz y (List.mem_cons_of_mem _ hy)
theorem pairsR_gone {r : Rule} {n : Int} (n0 : 1 ≤ n) : ∀ {zs : List Str} {s : St3}, OkR n s → (∀ z ∈ zs, IsName z) → ∀ x ∈ pairsR r n s zs, ∀ g, x.2 = some g → IsName g
  | [], _, _, _, _, hx, _, _ => absurd hx (by simp [pairsR])
  | z :: zs, s, h, hz, x, hx, g, hg => by
    rcases List.mem_cons.mp hx with e | hx
    · subst e
      exact stepR_gone h n0 g hg
    · exact pairsR_gone n0 (zs := zs) (stepR_ok h n0 (hz z List.mem_cons_self)) (fun y hy => hz y (List.mem_cons_of_mem _ hy)) x hx g hg
/-! ### a shelf of a rule on the heap -/
def ShR (C : Rule → Addr) : Rule → Hp → Addr → Int → St3 → Int → Int → List Addr → Prop
  | .marked, H, p, n, s, m, k, S => ∃ l d, S = [p, l, d] ∧ MkAt (C .marked) H p n l s.row m k d s.marks s.rd
  | r, H, p, n, s, m, k, S => ∃ l, S = [p, l] ∧ ShAt (C r) H p n l s.row m k [] ∧ s.marks = [] ∧ s.rd = 0
section
variable {C : Rule → Addr} {r : Rule} {H H' : Hp} {p tb : Addr} {n m k : Int} {s : St3} {S T : List Addr}
theorem ShR.kp (h : ShR C r H p n s m k S) (kp : Kp tb T H H') (hs : ∀ x ∈ S, x ∉ T := by simp) : ShR C r H' p n s m k S := by
  cases r with
  | marked =>
    obtain ⟨l, d, rfl, M⟩ := h
    exact ⟨l, d, rfl, M.kp kp (hs _ (by simp)) (hs _ (by simp)) (hs _ (by simp))⟩
  | old =>
    obtain ⟨l, rfl, M, e⟩ := h
    exact ⟨l, rfl, M.kp kp (hs _ (by simp)) (hs _ (by simp)), e⟩
  | cold =>
    obtain ⟨l, rfl, M, e⟩ := h
    exact ⟨l, rfl, M.kp kp (hs _ (by simp)) (hs _ (by simp)), e⟩
/-- what all three have in common -/
theorem ShR.sh (h : ShR C r H p n s m k S) : p ∈ S ∧ (∀ x ∈ S, H x ≠ none) ∧ ∃ (l : Addr) (ext : List (Str × V)), ShAt (C r) H p n l s.row m k ext ∧ ext.lookup ("wish" : Str) = none ∧ ext.lookup ("met" : Str) = none ∧ ext.lookup ("missed" : Str) = none ∧ ext.lookup ("things" : Str) = none ∧ ext.lookup ("places" : Str) = none := by
  have two : ∀ {l : Addr} {c : Addr} {ext : List (Str × V)}, ShAt c H p n l s.row m k ext → H p ≠ none ∧ H l ≠ none := fun M => by
    obtain ⟨⟨dx, hp⟩, hl⟩ := M
    exact ⟨(by rw [hp]; exact (fun z => by cases z)), (by rw [hl]; exact (fun z => by cases z))⟩
  cases r with
  | marked =>
    obtain ⟨l, d, rfl, M⟩ := h
    refine ⟨by simp, fun x hx => ?_, l, _, M.sh, extM_wish _ _, extM_met _ _, extM_missed _ _, extM_things _ _, extM_places _ _⟩
    simp only [List.mem_cons, List.not_mem_nil, or_false] at hx
    rcases hx with e | e | e <;> rw [e]
    · exact (two M.sh).1
    · exact (two M.sh).2
    · rw [M.mkd]; exact fun z => nomatch z
  | old =>
    obtain ⟨l, rfl, M, _⟩ := h
    refine ⟨by simp, fun x hx => ?_, l, _, M, rfl, rfl, rfl, rfl, rfl⟩
    simp only [List.mem_cons, List.not_mem_nil, or_false] at hx
    rcases hx with e | e <;> rw [e]
    · exact (two M).1
    · exact (two M).2
  | cold =>
    obtain ⟨l, rfl, M, _⟩ := h
    refine ⟨by simp, fun x hx => ?_, l, _, M, rfl, rfl, rfl, rfl, rfl⟩
    simp only [List.mem_cons, List.not_mem_nil, or_false] at hx
    rcases hx with e | e <;> rw [e]
    · exact (two M).1
    · exact (two M).2
end
section
variable {P : Program} {w : World} {K : PySem.W.Frag} {mg : Str → Option Value} {base : Heap} {tb : Addr} {C : Rule → Addr}
theorem MethOk.imp {CX : CXT} {k : Nat} {c : Addr} {x : Str} {ps : List Str} {sp sp' : Sp} (G : MethOk P w K mg base CX k c x ps sp) (h : ∀ vs H Q E, sp' vs H Q E → sp vs H Q E) : MethOk P w K mg base CX k c x ps sp' := by
  obtain ⟨f, fd, a, b, c, d⟩ := G
  exact ⟨f, fd, a, b, c, d.imp h⟩
def spWishR (C : Rule → Addr) (tb : Addr) (r : Rule) : Sp := fun vs H Q _ => ∃ (p : Addr) (n m k : Int) (s : St3) (z : Str) (S : List Addr), vs = [.ref p, .str z] ∧ ShR C r H p n s m k S ∧ OkR n s ∧ 1 ≤ n ∧ n ≤ 20 ∧ IsName z ∧ GxR.TabG H tb ∧
  ∀ (t : Addr) (S' : List Addr) (H' : Hp), ShR C r H' p n (stepR r n s z).2.2 (if (stepR r n s z).1 then m + 1 else m) (if (stepR r n s z).1 then k else k + 1) S' → (∀ x ∈ S', x ∈ S ∨ H x = none) → t ∉ S' →
    Kp tb S H H' → H t = none → H' t = some (.tup [.bl (stepR r n s z).1, optV (stepR r n s z).2.1]) → Q (.ref t) H'
theorem meth_wishR {k0 : Nat} (WO : MethOk P w K mg base CX0 k0 (C .old) "wish" ["self", "name"] (spWishOC nfOld tb (C .old))) (WC : MethOk P w K mg base CX0 k0 (C .cold) "wish" ["self", "name"] (spWishOC nfCold tb (C .cold)))
    (WM : MethOk P w K mg base CX0 k0 (C .marked) "wish" ["self", "name"] (spWishM tb (C .marked))) (r : Rule) : MethOk P w K mg base CX0 k0 (C r) "wish" ["self", "name"] (spWishR C tb r) := by
  cases r with
  | old =>
    refine WO.imp fun vs H Q E h => ?_
    obtain ⟨p, n, m, k, s, z, S, rfl, ⟨l, rfl, M, em, er⟩, ok, n0, n1, hz, tab, q⟩ := h
    have hx := (ShR.sh (C := C) (r := .old) ⟨l, rfl, M, em, er⟩).2.1
    refine ⟨p, l, n, m, k, z, s.row, rfl, M, n0, n1, ok.le, hz, tab, fun t H' M' kp ft et => ?_⟩
    exact q t [p, l] H' ⟨l, rfl, M', rfl, rfl⟩ (fun x hx => .inl hx) (fun hm => hx t hm ft) kp ft et
  | cold =>
    refine WC.imp fun vs H Q E h => ?_
    obtain ⟨p, n, m, k, s, z, S, rfl, ⟨l, rfl, M, em, er⟩, ok, n0, n1, hz, tab, q⟩ := h
    have hx := (ShR.sh (C := C) (r := .cold) ⟨l, rfl, M, em, er⟩).2.1
    refine ⟨p, l, n, m, k, z, s.row, rfl, M, n0, n1, ok.le, hz, tab, fun t H' M' kp ft et => ?_⟩
    exact q t [p, l] H' ⟨l, rfl, M', rfl, rfl⟩ (fun x hx => .inl hx) (fun hm => hx t hm ft) kp ft et
  | marked =>
    refine WM.imp fun vs H Q E h => ?_
    obtain ⟨p, n, m, k, s, z, S, rfl, ⟨l, d, rfl, M⟩, ok, n0, n1, hz, tab, q⟩ := h
    have hx := (ShR.sh (C := C) (r := .marked) ⟨l, d, rfl, M⟩).2.1
    refine ⟨p, l, d, n, m, k, s.rd, z, s.row, s.marks, rfl, M, ok, n0, n1, hz, tab, fun t d' H' M' hd' ntd kp ft et => ?_⟩
    refine q t [p, l, d'] H' ⟨l, d', rfl, M'⟩ (fun x hx => ?_) (fun hm => ?_) kp ft et
    · simp only [List.mem_cons, List.not_mem_nil, or_false] at hx ⊢
      rcases hx with e | e | e
      · exact .inl (.inl e)
      · exact .inl (.inr (.inl e))
      · rcases hd' with f | f
        · exact .inl (.inr (.inr (e.trans f)))
        · exact .inr (by rw [e]; exact f)
    · simp only [List.mem_cons, List.not_mem_nil, or_false] at hm
      rcases hm with e | e | e
      · exact hx t (by rw [e]; simp) ft
      · exact hx t (by rw [e]; simp) ft
      · exact ntd e
/-! ### check_rule, check_wishes -/
def rulesV : List V := [.str "old", .str "cold", .str "marked"]
def spCheckRule : Sp := fun vs H Q _ => ∃ r : Rule, vs = [.str r.txt] ∧ Q .non H
end
end Kf

namespace Kf
open PySem PySem.Spec PyProof.Rows L2
/-! ### helpers of the laws over one shelf -/
def ExtOk (ext : List (Str × V)) : Prop := ext.lookup ("wish" : Str) = none ∧ ext.lookup ("met" : Str) = none ∧ ext.lookup ("missed" : Str) = none ∧ ext.lookup ("things" : Str) = none ∧ ext.lookup ("places" : Str) = none ∧ ext.lookup ("order" : Str) = none
theorem extOk_nil : ExtOk [] := ⟨rfl, rfl, rfl, rfl, rfl, rfl⟩
def optD : Option Str → PyData
  | none => .none
  | some z => .str z
theorem dp_opt {K : PySem.W.Frag} {H : Hp} : ∀ g : Option Str, Dp K H (optV g) (optD g)
  | none => .non
  | some z => .str z
def pairD (b : Bool) (g : Option Str) : PyData := .tuple [.bool b, optD g]
theorem dp_pair {K : PySem.W.Frag} {H : Hp} {t : Addr} {b : Bool} {g : Option Str} (h : H t = some (.tup [.bl b, optV g])) : Dp K H (.ref t) (pairD b g) := .tup (SqT.of h) (.cons (.bl b) (.cons (dp_opt g) .nil))
theorem eqv_pair (b : Bool) (g : Option Str) : PyData.eqv (pairD b g) (pairD b g) = true := by
  show (PyData.eqv (.bool b) (.bool b) && (PyData.eqv (optD g) (optD g) && true)) = true
  have h1 : PyData.eqv (.bool b) (.bool b) = true := by
    show (b == b) = true
    simp
  have h2 : PyData.eqv (optD g) (optD g) = true := by
    cases g with
    | none => rfl
    | some z =>
      show (z == z) = true
      simp
  rw [h1, h2]
  rfl
theorem sh_pair {b : Bool} {g : Option Str} (h : ∀ z, g = some z → PyData.strOk z = true) : SeqAt.shaped (pairD b g) = true := by
  unfold SeqAt.shaped pairD
  rw [Bool.and_eq_true]
  cases g with
  | none => exact ⟨rfl, rfl⟩
  | some z =>
    refine ⟨?_, rfl⟩
    show (true && (PyData.strOk z && true)) = true
    rw [h z rfl]
    rfl
theorem count_bl (b : Bool) : ∀ ts : List Bool, (ts.map V.bl).countP (fun z => eqV z (.bl b)) = ts.count b
  | [] => rfl
  | t :: r => by
    rw [List.map_cons, List.countP_cons, List.count_cons, count_bl b r]
    rfl
theorem flat_bls : ∀ ts : List Bool, (ts.map V.bl).all flatV = true
  | [] => rfl
  | _ :: r => flat_bls r
theorem seq0 {n : Nat} (h : 0 < n) : seqIndex? 0 n = some 0 := by
  unfold seqIndex?
  simp
  omega
end Kf

namespace Kf
open PySem PySem.Spec PyProof.Rows L2
section
variable {P : Program} {w : World} {K : PySem.W.Frag} {mg : Str → Option Value} {base : Heap} {tb : Addr} {C : Rule → Addr} {CG : Addr}
def spCheckWishes (K : PySem.W.Frag) : Sp := fun vs H Q _ => ∃ (a : Addr) (zs : List Str), vs = [.ref a] ∧ H a = some (.lst (zs.map V.str)) ∧ zs.length ≤ 300 ∧ (∀ z ∈ zs, IsName z) ∧ GxR.TabG H (tbOf K) ∧ ∀ H', Kp (tbOf K) [] H H' → Q .non H'
theorem sc_checkwishes : FnScope ["wishes", "at", "name"] ["wishes"] (defScope s_check_wishes) := ⟨rfl, rfl, rfl, by decide +kernel, rfl, by decide +kernel, by decide +kernel⟩
theorem ok_checkwishes {f : Addr} {fd : FuncData} {k0 : Nat} (F : FnP K "check_wishes" "check_wishes" s_check_wishes f fd) (G : Glob P w K mg base CX0 (k0 + 1) "is_name" ["value"] (spIsName K)) {tl : Tok}
    (hmw : mg "MOST_WISHES" = some (.int 300 tl)) (hty : mg "type" = none) (hlist : mg "list" = none) (hlen : mg "len" = none) (henum : mg "enumerate" = none) : FnOk P w K mg base CX0 (k0 + 2) f fd ["wishes"] (spCheckWishes K) := by
  refine ok0 F sc_checkwishes (fun vs H Q E h => ?_) (fun cdv A outer s H vs Q E hr h => ?_)
  · obtain ⟨a, zs, rfl, _⟩ := h
    rfl
  · obtain ⟨a, zs, rfl, ha, hl, hn, tab, q⟩ := h
    refine ⟨_, pss_cons (ps_if (PW.pt (pw_or (pt_cmpR (op_neTy (hu_of hr)) (pe_callTy call_type1 (by rfl) hty (by decide +kernel) (pa_cons (pv 0) pa_nil)) (pe_bltn (v := .ty "list") (by rfl) hlist (by decide +kernel) rfl) (nomark _))
        (pw_or1 (pt_cmpR op_gt (pe_callB call_len_seq (by rfl) hlen PySem.boot_len (pa_cons (pv 0) pa_nil)) (pe_glob (v := .int 300) rfl hmw ⟨_, rfl⟩) (nomark _)))))
        (pss_one ps_never) pss_nil)
      (pss_one (ps_for PassesOwn.never rfl (pi_enum (by rfl) henum (pa_cons (pv 0) pa_nil)) (pg_tup rfl (pgs_cons (pg_name (i := 1) sc_checkwishes.nd rfl (Or.inl rfl)) (pgs_cons (pg_name (i := 2) sc_checkwishes.nd rfl (Or.inl rfl)) pgs_nil)))
        (pss_one (ps_if (pt_not (pt_val (pe_callG G hr (by rfl) pass0 (pa_cons (pv 2) pa_nil)))) (pss_one ps_never) pss_nil)))), ?_⟩
    refine ⟨_, rfl, .ref a, "list", rfl, .lst (SqL.of ha), _, _, rfl, rfl, by decide, by decide, _, rfl, ?_⟩
    refine iteF ⟨_, rfl, a, _, rfl, .inl (SqL.of ha), _, _, rfl, rfl, _, rfl, ?_⟩
    rw [decide_eq_false (by rw [List.length_map]; omega)]
    refine iteF ?_
    refine ⟨_, rfl, a, _, rfl, SqL.of ha, ?_⟩
    refine for_it walk_enum (fun i σ H' => ∃ v1 v2 : Option V, σ = [some (.ref a), v1, v2] ∧ Kp (tbOf K) [] H H') ⟨none, none, rfl, Kp.refl _⟩ (fun i σ H' _ ⟨_, _, _, kp⟩ => SqL.of (kp.get ha)) ?_ ?_
    · rintro i x σ H3 H4 hi ⟨v1, v2, rfl, kp⟩ ⟨Tp, x1, x2, rfl, nT, rfl, e1, e2⟩
      cases e1
      obtain ⟨z, hz, rfl⟩ := get_mapS e2
      have hzn := hn z (List.mem_of_getElem? hz)
      refine ⟨Tp, _, rfl, SqT.of upd_same, rfl, _, _, rfl, _, _, rfl, rfl, ?_⟩
      have k4 := kp.step (o := .tup [.int (i : Nat), .str z]) nT
      refine ⟨_, rfl, .str z, _, rfl, .str z, rfl, fun z' e => ?_, k4.tab tab, fun H' k5 => ⟨_, rfl, ?_⟩⟩
      · cases e
        exact Nat.le_of_lt (small_of (m := 8) hzn.2.1)
      · rw [show isNameV (.str z) = true from isNameB_of hzn]
        exact iteF ⟨_, _, rfl, k4.trans k5⟩
    · rintro σ H3 ⟨v1, v2, rfl, kp⟩
      exact q H3 kp
/-! ### shelf_of -/
def spShelfOf (C : Rule → Addr) (tb : Addr) : Sp := fun vs H Q _ => ∃ (r : Rule) (n : Int), vs = [.str r.txt, .int n] ∧ 1 ≤ n ∧ n ≤ 20 ∧ ∀ (p : Addr) (S : List Addr) (H' : Hp), ShR C r H' p n st0 0 0 S → (∀ x ∈ S, H x = none) → Kp tb [] H H' → Q (.ref p) H'
/-! ### Going -/
structure ClsG (K : PySem.W.Frag) (CG : Addr) : Prop where
  cl : Cls K CG
  nA : NoAttr K CG "were_met"
  nB : NoAttr K CG "went"
def gF (a b : Addr) : List (Str × V) := [("were_met", .ref a), ("went", .ref b)]
theorem gF_put (a b : Addr) : putF "went" (.ref b) (putF "were_met" (.ref a) []) = gF a b := by kernel_rfl
theorem gF_met (a b : Addr) : (gF a b).lookup ("were_met" : Str) = some (.ref a) := by kernel_rfl
theorem gF_went (a b : Addr) : (gF a b).lookup ("went" : Str) = some (.ref b) := by kernel_rfl
structure GoAt (CG : Addr) (H : Hp) (g a b : Addr) (xs ys : List V) : Prop where
  ob : ∃ dx, H g = some (.ins CG dx (gF a b))
  ha : H a = some (.lst xs)
  hb : H b = some (.lst ys)
  ne : a ≠ b
def spGoInit (tb CG : Addr) : Sp := fun vs H Q _ => ∃ (g dx a b : Addr) (xs ys : List V), vs = [.ref g, .ref a, .ref b] ∧ H g = some (.ins CG dx []) ∧ H a = some (.lst xs) ∧ H b = some (.lst ys) ∧
  ∀ (a' b' : Addr) (H' : Hp), H a' = none → H b' = none → GoAt CG H' g a' b' xs ys → Kp tb [g] H H' → Q .non H'
/-! ### going -/
def metV (ps : List (Bool × Option Str)) : List V := ps.map fun x => V.bl x.1
def wentV (ps : List (Bool × Option Str)) : List V := ps.map fun x => optV x.2
def spGoing (C : Rule → Addr) (CG : Addr) (tb : Addr) : Sp := fun vs H Q _ => ∃ (r : Rule) (n : Int) (a : Addr) (zs : List Str), vs = [.str r.txt, .int n, .ref a] ∧ 1 ≤ n ∧ n ≤ 20 ∧ H a = some (.lst (zs.map V.str)) ∧ zs.length ≤ 300 ∧ (∀ z ∈ zs, IsName z) ∧ GxR.TabG H tb ∧
  ∀ (g wm we : Addr) (H' : Hp), H g = none → H wm = none → H we = none → GoAt CG H' g wm we (metV (pairsR r n st0 zs)) (wentV (pairsR r n st0 zs)) → Kp tb [] H H' → Q (.ref g) H'
abbrev nGoing : List Str := ["rule", "places", "wishes", "shelf", "were_met", "went", "name", "met", "gone"]
/-! ### missed_in -/
def spMissed (CG : Addr) : Sp := fun vs H Q _ => ∃ (g a b : Addr) (ts : List Bool) (ys : List V), vs = [.ref g] ∧ GoAt CG H g a b (ts.map V.bl) ys ∧ Q (.int (ts.count false : Nat)) H
end
def clsR (K : PySem.W.Frag) : Rule → Addr
  | .old => He.ga K "Old"
  | .cold => He.ga K "Cold"
  | .marked => He.ga K "Marked"
end Kf

namespace Kf
open PySem PySem.Spec PyProof.Rows L2
/-! ### where a thing is wished next -/
/-- behind place k: the next wish of z, or how many wishes there are -/
def nextW (ws : List Str) (k : Nat) (z : Str) : Nat := (k + 1) + (ws.drop (k + 1)).idxOf z
theorem idxOf_split {z : Str} : ∀ {xs : List Str} {j : Nat}, (∀ i, i < j → xs[i]? ≠ some z) → xs[j]? = some z → xs.idxOf z = j
  | [], _, _, h => by simp at h
  | x :: r, 0, _, h => by
    rw [Option.some.inj h]
    simp
  | x :: r, j + 1, hn, h => by
    have h0 : x ≠ z := fun e => hn 0 (Nat.succ_pos _) (by rw [e]; rfl)
    rw [List.idxOf_cons, show (x == z) = false from beq_eq_false_iff_ne.mpr h0]
    exact congrArg (· + 1) (idxOf_split (xs := r) (j := j) (fun i hi => hn (i + 1) (Nat.succ_lt_succ hi)) h)
theorem idxOf_none {z : Str} : ∀ {xs : List Str}, (∀ i, i < xs.length → xs[i]? ≠ some z) → xs.idxOf z = xs.length
  | [], _ => rfl
  | x :: r, h => by
    have h0 : x ≠ z := fun e => h 0 (Nat.succ_pos _) (by rw [e]; rfl)
    rw [List.idxOf_cons, show (x == z) = false from beq_eq_false_iff_ne.mpr h0]
    exact congrArg (· + 1) (idxOf_none (xs := r) fun i hi => h (i + 1) (Nat.succ_lt_succ hi))
theorem nextW_at {ws : List Str} {k j : Nat} {z : Str} (hn : ∀ i, i < j → ws[k + 1 + i]? ≠ some z) (h : ws[k + 1 + j]? = some z) : nextW ws k z = k + 1 + j := by
  unfold nextW
  rw [idxOf_split (j := j) (fun i hi => by rw [List.getElem?_drop]; exact hn i hi) (by rw [List.getElem?_drop]; exact h)]
theorem nextW_end {ws : List Str} {k : Nat} {z : Str} (hk : k < ws.length) (hn : ∀ i, k + 1 + i < ws.length → ws[k + 1 + i]? ≠ some z) : nextW ws k z = ws.length := by
  unfold nextW
  rw [idxOf_none (fun i hi => by rw [List.getElem?_drop]; rw [List.length_drop] at hi; exact hn i (by omega)), List.length_drop]
  omega
/-- one place further on: the same, but for what is wished there -/
theorem nextW_step {ws : List Str} {k : Nat} {y z : Str} (h : ws[k + 1]? = some y) : nextW ws k z = if y = z then k + 1 else nextW ws (k + 1) z := by
  have hl : k + 1 < ws.length := (List.getElem?_eq_some_iff.mp h).1
  have hd : ws.drop (k + 1) = y :: ws.drop (k + 2) := by
    rw [List.drop_eq_getElem_cons hl]
    exact congrArg (· :: _) (List.getElem?_eq_some_iff.mp h).2
  unfold nextW
  rw [hd, List.idxOf_cons]
  by_cases e : y = z
  · rw [if_pos e, show (y == z) = true from beq_iff_eq.mpr e]
    rfl
  · rw [if_neg e, show (y == z) = false from beq_eq_false_iff_ne.mpr e]
    show (k + 1) + ((ws.drop (k + 1 + 1)).idxOf z + 1) = (k + 1 + 1) + (ws.drop (k + 1 + 1)).idxOf z
    omega
theorem nextW_le {ws : List Str} {k : Nat} {z : Str} (hk : k < ws.length) : nextW ws k z ≤ ws.length := by
  unfold nextW
  have := List.idxOf_le_length (a := z) (l := ws.drop (k + 1))
  rw [List.length_drop] at this
  omega
section
variable {P : Program} {w : World} {K : PySem.W.Frag} {mg : Str → Option Value} {base : Heap} {tb : Addr}
def spAgain : Sp := fun vs H Q _ => ∃ (a : Addr) (ws : List Str) (k : Nat) (z : Str), vs = [.ref a, .int k, .str z] ∧ H a = some (.lst (ws.map V.str)) ∧ k < ws.length ∧ ws.length ≤ 300 ∧ Q (.int (nextW ws k z : Nat)) H
end
end Kf

namespace Kf
open PySem PySem.Spec PyProof.Rows L2
def pairV (x : Bool × Option Str) : List V := [.bl x.1, optV x.2]
/-- tuples of a truth and a name or None, in this order -/
def PairsAt (H : Hp) : List Addr → List (Bool × Option Str) → Prop
  | [], [] => True
  | t :: ts, x :: xs => H t = some (.tup (pairV x)) ∧ PairsAt H ts xs
  | _, _ => False
theorem PairsAt.snoc {H : Hp} {t : Addr} {x : Bool × Option Str} (h : H t = some (.tup (pairV x))) : ∀ {ts : List Addr} {xs : List (Bool × Option Str)}, PairsAt H ts xs → PairsAt H (ts ++ [t]) (xs ++ [x])
  | [], [], _ => ⟨h, trivial⟩
  | _ :: _, _ :: _, ⟨a, b⟩ => ⟨a, PairsAt.snoc h b⟩
  | [], _ :: _, q => q.elim
  | _ :: _, [], q => q.elim
theorem PairsAt.imp {H H' : Hp} (h : ∀ t x, H t = some (.tup (pairV x)) → H' t = some (.tup (pairV x))) : ∀ {ts : List Addr} {xs : List (Bool × Option Str)}, PairsAt H ts xs → PairsAt H' ts xs
  | [], [], _ => trivial
  | _ :: _, _ :: _, ⟨a, b⟩ => ⟨h _ _ a, PairsAt.imp h b⟩
  | [], _ :: _, q => q.elim
  | _ :: _, [], q => q.elim
theorem PairsAt.len {H : Hp} : ∀ {ts : List Addr} {xs : List (Bool × Option Str)}, PairsAt H ts xs → ts.length = xs.length
  | [], [], _ => rfl
  | _ :: _, _ :: _, ⟨_, b⟩ => congrArg (· + 1) (PairsAt.len b)
  | [], _ :: _, q => q.elim
  | _ :: _, [], q => q.elim
theorem PairsAt.get {H : Hp} : ∀ {ts : List Addr} {xs : List (Bool × Option Str)} {i : Nat} {y : V}, PairsAt H ts xs → (ts.map V.ref)[i]? = some y → ∃ t x, y = .ref t ∧ xs[i]? = some x ∧ H t = some (.tup (pairV x))
  | [], [], i, y, _, h => by simp at h
  | t :: ts, x :: xs, 0, y, ⟨a, b⟩, h => ⟨t, x, (Option.some.inj h).symm, rfl, a⟩
  | t :: ts, x :: xs, i + 1, y, ⟨a, b⟩, h => PairsAt.get (i := i) b h
  | [], _ :: _, _, _, q, _ => q.elim
  | _ :: _, [], _, _, q, _ => q.elim
/-- no tuple stands at these -/
def NoTup (H : Hp) (S : List Addr) : Prop := ∀ x ∈ S, ∀ vs, H x ≠ some (.tup vs)
theorem PairsAt.kp {H H' : Hp} {tb : Addr} {S : List Addr} (k : Kp tb S H H') (n : NoTup H S) {ts : List Addr} {xs : List (Bool × Option Str)} (h : PairsAt H ts xs) : PairsAt H' ts xs := h.imp fun t x e => k.get e rfl fun hm => n t hm _ e
theorem noTup_nil {H : Hp} : NoTup H [] := fun _ h => absurd h (by simp)
theorem NoTup.cons {H : Hp} {x : Addr} {o : HO} {S : List Addr} (e : H x = some o) (n : ∀ vs, o ≠ .tup vs) (h : NoTup H S) : NoTup H (x :: S) := fun y hy vs q => by
  rcases List.mem_cons.mp hy with z | z
  · rw [z, e] at q
    exact n vs (Option.some.inj q)
  · exact h y z vs q
end Kf

namespace Kf
open PySem PySem.Spec PyProof.Rows L2
/-- isinstance's facts of a class -/
structure InsT (K : PySem.W.Frag) (C : Addr) : Prop where
  ha : PySem.W.findIn K (.ref C) "__class__" = some (some (.builtin "object.__class__"))
  hn : PySem.W.specialIn K (.builtin "object.__class__") "__get__" = some (some (.builtin "getset_descriptor.__get__"))
  htk : PySem.W.takesIn K (.builtin "object.__class__") = some true
  hm : PySem.W.mroIn K C (.type "object") = some true
theorem kit2 {K : PySem.W.Frag} {t c1 c2 : Value} (h1 : PySem.W.kitOne K t c1 = some false) (h2 : PySem.W.kitOne K t c2 = some false) : PySem.W.kitAny K t [c1, c2] = some false :=
  kitAny_cons (b := false) h1 (fun _ => kitAny_cons (b := false) h2 (fun _ => kitAny_nil) (fun z => nomatch z)) (fun z => nomatch z)

theorem boot_isi : bootBuiltins ("isinstance" : Str) = some (.builtin "isinstance") := by decide +kernel
theorem ix_tupK {X : Cx} {K : PySem.W.Frag} (h : X.K = K) : IxR X (rIxT K) := by
  subst h
  exact ix_tup
theorem call_isiK {X : Cx} {K : PySem.W.Frag} (h : X.K = K) : CallR X (.builtin "isinstance") (rIsi K) := by
  subst h
  exact call_isi
theorem ix_listK {X : Cx} {K : PySem.W.Frag} (h : X.K = K) : IxR X (rIxL K) := by
  subst h
  exact ix_list
theorem call_len_seqK {X : Cx} {K : PySem.W.Frag} (h : X.K = K) : CallR X (.builtin "len") (fun xs H Q => ∃ p ys, xs = [V.ref p] ∧ (SqL K H p ys ∨ SqT K H p ys) ∧ Q (.int (ys.length : Nat)) H) := by
  subst h
  exact call_len_seq
theorem op_in_seqK {X : Cx} {K : PySem.W.Frag} (h : X.K = K) : OpR X (compareOp .In) (rIn K false) := by
  subst h
  exact op_in_seq
theorem op_notIn_seqK {X : Cx} {K : PySem.W.Frag} (h : X.K = K) : OpR X (compareOp .NotIn) (rIn K true) := by
  subst h
  exact op_notIn_seq
/-! ### lists that are equal to themselves -/
theorem selfL : ∀ {ds : List PyData}, (∀ d ∈ ds, PyData.canLay0 d = true ∧ d.depth ≤ 63 ∧ PyData.eqv d d = true) → PyData.canLayAll0 ds = true ∧ PyData.depthAll ds ≤ 63 ∧ PyData.eqvAll ds ds = true
  | [], _ => ⟨rfl, Nat.zero_le _, rfl⟩
  | d :: r, h => by
    obtain ⟨a, b, c⟩ := h d List.mem_cons_self
    obtain ⟨a2, b2, c2⟩ := selfL (ds := r) fun y hy => h y (List.mem_cons_of_mem _ hy)
    refine ⟨?_, ?_, ?_⟩
    · show (PyData.canLay0 d && PyData.canLayAll0 r) = true
      rw [a, a2]; rfl
    · show max (PyData.depth d) (PyData.depthAll r) ≤ 63
      omega
    · show (PyData.eqv d d && PyData.eqvAll r r) = true
      rw [c, c2]; rfl
theorem selfD {ds : List PyData} (h : ∀ d ∈ ds, PyData.canLay0 d = true ∧ d.depth ≤ 63 ∧ PyData.eqv d d = true) : SeqAt.shaped (.list ds) = true ∧ PyData.eqv (.list ds) (.list ds) = true := by
  obtain ⟨a, b, c⟩ := selfL h
  refine ⟨?_, c⟩
  unfold SeqAt.shaped
  rw [Bool.and_eq_true]
  refine ⟨a, decide_eq_true ?_⟩
  show PyData.depthAll ds + 1 ≤ 64
  omega
theorem dpAll_map {α : Type} {K : PySem.W.Frag} {H : Hp} {f : α → V} {g : α → PyData} : ∀ {xs : List α}, (∀ x ∈ xs, Dp K H (f x) (g x)) → DpAll K H (xs.map f) (xs.map g)
  | [], _ => .nil
  | x :: r, h => .cons (h x List.mem_cons_self) (dpAll_map (xs := r) fun y hy => h y (List.mem_cons_of_mem _ hy))
theorem bool_self (b : Bool) : PyData.canLay0 (.bool b) = true ∧ PyData.depth (.bool b) ≤ 63 ∧ PyData.eqv (.bool b) (.bool b) = true := ⟨rfl, Nat.zero_le _, by show (b == b) = true; simp⟩
theorem opt_self {g : Option Str} (h : ∀ z, g = some z → PyData.strOk z = true) : PyData.canLay0 (optD g) = true ∧ PyData.depth (optD g) ≤ 63 ∧ PyData.eqv (optD g) (optD g) = true := by
  cases g with
  | none => exact ⟨rfl, Nat.zero_le _, rfl⟩
  | some z => exact ⟨h z rfl, Nat.zero_le _, by show (z == z) = true; simp⟩
theorem pair_self {b : Bool} {g : Option Str} (h : ∀ z, g = some z → PyData.strOk z = true) : PyData.canLay0 (pairD b g) = true ∧ PyData.depth (pairD b g) ≤ 63 ∧ PyData.eqv (pairD b g) (pairD b g) = true := by
  have s := sh_pair (b := b) h
  unfold SeqAt.shaped at s
  rw [Bool.and_eq_true] at s
  refine ⟨s.1, ?_, eqv_pair b g⟩
  cases g <;> exact (by decide : 1 ≤ 63)
/-- the going's names, all names -/
def GoneOk (ps : List (Bool × Option Str)) : Prop := ∀ x ∈ ps, ∀ g, x.2 = some g → IsName g
theorem met_self (ps : List (Bool × Option Str)) : SeqAt.shaped (.list (ps.map fun x => PyData.bool x.1)) = true ∧ PyData.eqv (.list (ps.map fun x => PyData.bool x.1)) (.list (ps.map fun x => PyData.bool x.1)) = true := selfD fun d hd => by
  obtain ⟨x, _, rfl⟩ := List.mem_map.mp hd
  exact bool_self _
theorem went_self {ps : List (Bool × Option Str)} (h : GoneOk ps) : SeqAt.shaped (.list (ps.map fun x => optD x.2)) = true ∧ PyData.eqv (.list (ps.map fun x => optD x.2)) (.list (ps.map fun x => optD x.2)) = true := selfD fun d hd => by
  obtain ⟨x, hx, rfl⟩ := List.mem_map.mp hd
  exact opt_self fun z hz => isName_ok (h x hx z hz)
theorem dp_met {K : PySem.W.Frag} {H : Hp} {a : Addr} {ps : List (Bool × Option Str)} (h : SqL K H a (metV ps)) : Dp K H (.ref a) (.list (ps.map fun x => PyData.bool x.1)) := .lst h (dpAll_map fun x _ => .bl x.1)
theorem dp_went {K : PySem.W.Frag} {H : Hp} {a : Addr} {ps : List (Bool × Option Str)} (h : SqL K H a (wentV ps)) : Dp K H (.ref a) (.list (ps.map fun x => optD x.2)) := .lst h (dpAll_map fun x _ => dp_opt x.2)
theorem GoAt.kp {CG : Addr} {H H' : Hp} {g a b tb : Addr} {xs ys : List V} {S : List Addr} (G : GoAt CG H g a b xs ys) (k : Kp tb S H H') (h1 : g ∉ S := by simp) (h2 : a ∉ S := by simp) (h3 : b ∉ S := by simp) : GoAt CG H' g a b xs ys := by
  obtain ⟨dx, hg⟩ := G.ob
  exact ⟨⟨dx, k.get hg rfl h1⟩, k.get G.ha rfl h2, k.get G.hb rfl h3, G.ne⟩
end Kf

namespace Kf
open PySem PySem.Spec PyProof.Rows L2
/-! ### tuples on the heap, in their order -/
def TsAt {α : Type} (f : α → List V) (H : Hp) : List Addr → List α → Prop
  | [], [] => True
  | t :: ts, x :: xs => H t = some (.tup (f x)) ∧ TsAt f H ts xs
  | _, _ => False
section
variable {α : Type} {f : α → List V}
theorem TsAt.snoc {H : Hp} {t : Addr} {x : α} (h : H t = some (.tup (f x))) : ∀ {ts : List Addr} {xs : List α}, TsAt f H ts xs → TsAt f H (ts ++ [t]) (xs ++ [x])
  | [], [], _ => ⟨h, trivial⟩
  | _ :: _, _ :: _, ⟨a, b⟩ => ⟨a, TsAt.snoc h b⟩
  | [], _ :: _, q => q.elim
  | _ :: _, [], q => q.elim
theorem TsAt.imp {H H' : Hp} (h : ∀ t v, H t = some (.tup v) → H' t = some (.tup v)) : ∀ {ts : List Addr} {xs : List α}, TsAt f H ts xs → TsAt f H' ts xs
  | [], [], _ => trivial
  | _ :: _, _ :: _, ⟨a, b⟩ => ⟨h _ _ a, TsAt.imp h b⟩
  | [], _ :: _, q => q.elim
  | _ :: _, [], q => q.elim
theorem TsAt.len {H : Hp} : ∀ {ts : List Addr} {xs : List α}, TsAt f H ts xs → ts.length = xs.length
  | [], [], _ => rfl
  | _ :: _, _ :: _, ⟨_, b⟩ => congrArg (· + 1) (TsAt.len b)
  | [], _ :: _, q => q.elim
  | _ :: _, [], q => q.elim
theorem TsAt.get {H : Hp} : ∀ {ts : List Addr} {xs : List α} {i : Nat} {y : V}, TsAt f H ts xs → (ts.map V.ref)[i]? = some y → ∃ t x, y = .ref t ∧ xs[i]? = some x ∧ H t = some (.tup (f x)) ∧ ts[i]? = some t
  | [], [], i, y, _, h => by simp at h
  | t :: ts, x :: xs, 0, y, ⟨a, b⟩, h => ⟨t, x, (Option.some.inj h).symm, rfl, a, rfl⟩
  | t :: ts, x :: xs, i + 1, y, ⟨a, b⟩, h => TsAt.get (i := i) b h
  | [], _ :: _, _, _, q, _ => q.elim
  | _ :: _, [], _, _, q, _ => q.elim
theorem TsAt.kp {H H' : Hp} {tb : Addr} {S : List Addr} (k : Kp tb S H H') (n : NoTup H S) {ts : List Addr} {xs : List α} (h : TsAt f H ts xs) : TsAt f H' ts xs := h.imp fun t v e => k.get e rfl fun hm => n t hm _ e
theorem TsAt.dropLast {H : Hp} : ∀ {ts : List Addr} {xs : List α}, TsAt f H ts xs → TsAt f H ts.dropLast xs.dropLast
  | [], [], _ => trivial
  | [_], [_], _ => trivial
  | _ :: t :: ts, _ :: x :: xs, ⟨a, b⟩ => ⟨a, TsAt.dropLast (ts := t :: ts) (xs := x :: xs) b⟩
  | [_], _ :: _ :: _, ⟨_, q⟩ => q.elim
  | _ :: _ :: _, [_], ⟨_, q⟩ => q.elim
  | [], _ :: _, q => q.elim
  | _ :: _, [], q => q.elim
theorem TsAt.dp {K : PySem.W.Frag} {H : Hp} {g : α → List PyData} (hf : ∀ x, DpAll K H (f x) (g x)) : ∀ {ts : List Addr} {xs : List α}, TsAt f H ts xs → DpAll K H (ts.map V.ref) (xs.map fun x => PyData.tuple (g x))
  | [], [], _ => .nil
  | _ :: _, _ :: _, ⟨a, b⟩ => .cons (.tup (SqT.of a) (hf _)) (TsAt.dp hf b)
  | [], _ :: _, q => q.elim
  | _ :: _, [], q => q.elim
end
theorem get_mapF {α : Type} {f : α → V} {ns : List α} {i : Nat} {y : V} (hi : (ns.map f)[i]? = some y) : ∃ z, ns[i]? = some z ∧ y = f z := by
  rw [List.getElem?_map] at hi
  obtain ⟨z, h1, h2⟩ := Option.map_eq_some_iff.mp hi
  exact ⟨z, h1, h2.symm⟩
/-! ### pairs of numbers -/
def nnV (p : Nat × Nat) : List V := [.int (p.1 : Nat), .int (p.2 : Nat)]
def nnD (p : Nat × Nat) : List PyData := [.int (p.1 : Nat), .int (p.2 : Nat)]
theorem nn_dp {K : PySem.W.Frag} {H : Hp} (p : Nat × Nat) : DpAll K H (nnV p) (nnD p) := .cons (.int _) (.cons (.int _) .nil)
theorem nn_self (ps : List (Nat × Nat)) : SeqAt.shaped (.list (ps.map fun x => PyData.tuple (nnD x))) = true ∧ PyData.eqv (.list (ps.map fun x => PyData.tuple (nnD x))) (.list (ps.map fun x => PyData.tuple (nnD x))) = true := selfD fun d hd => by
  obtain ⟨x, _, rfl⟩ := List.mem_map.mp hd
  refine ⟨rfl, by show 1 ≤ 63; decide, ?_⟩
  show ((_ == _) && ((_ == _) && true)) = true
  simp
theorem dp_nn {K : PySem.W.Frag} {H : Hp} {a : Addr} {ts : List Addr} {ps : List (Nat × Nat)} (h : SqL K H a (ts.map V.ref)) (hp : TsAt nnV H ts ps) : Dp K H (.ref a) (.list (ps.map fun x => PyData.tuple (nnD x))) := .lst h (hp.dp nn_dp)
/-- lists of numbers -/
def intsD (ns : List Int) : PyData := .list (ns.map PyData.int)
theorem dp_ints {K : PySem.W.Frag} {H : Hp} {a : Addr} {ns : List Int} (h : SqL K H a (ns.map V.int)) : Dp K H (.ref a) (intsD ns) := .lst h (dpAll_map fun x _ => .int x)
theorem ints_self (ns : List Int) : SeqAt.shaped (intsD ns) = true ∧ PyData.eqv (intsD ns) (intsD ns) = true := selfD fun d hd => by
  obtain ⟨x, _, rfl⟩ := List.mem_map.mp hd
  exact ⟨rfl, Nat.zero_le _, by show (x == x) = true; simp⟩
def natV (ns : List Nat) : List V := ns.map fun n => V.int (n : Nat)
theorem natV_ints (ns : List Nat) : natV ns = (ns.map fun (n : Nat) => (n : Int)).map V.int := by unfold natV; rw [List.map_map]; rfl
theorem natV_snoc (ns : List Nat) (n : Nat) : natV (ns ++ [n]) = natV ns ++ [.int (n : Nat)] := by unfold natV; rw [List.map_append]; rfl
theorem natV_len (ns : List Nat) : (natV ns).length = ns.length := by unfold natV; rw [List.length_map]
end Kf

namespace Kf
open PySem PySem.Spec PyProof.Rows L2
def ownK (lo : Addr) : List (Key × V) := [(Sum.inr "order", .ref lo)]
theorem ownK_val (lo : Addr) : valV (ownK lo) (Sum.inr "order") = some (.ref lo) := by kernel_rfl
theorem ownK_put (lo lo' : Addr) : putK (ownK lo) (Sum.inr "order" : Key) (.ref lo') = ownK lo' := by kernel_rfl
theorem filter_erase {z : Str} : ∀ {row : List Str}, row.Nodup → row.filter (fun y => decide (y ≠ z)) = row.erase z
  | [], _ => rfl
  | a :: r, h => by
    obtain ⟨h1, h2⟩ := List.nodup_cons.mp h
    by_cases e : a = z
    · subst e
      rw [List.erase_cons_head, List.filter_cons_of_neg (by simp)]
      exact List.filter_eq_self.mpr fun y hy => decide_eq_true fun q => h1 (by rw [← q]; exact hy)
    · rw [List.erase_cons_tail (by simpa using e), List.filter_cons_of_pos (by simpa using e), filter_erase h2]
theorem filter_absent {z : Str} {row : List Str} (h : z ∉ row) : row.filter (fun y => decide (y ≠ z)) = row := List.filter_eq_self.mpr fun y hy => decide_eq_true fun q => h (by rw [← q]; exact hy)
section
variable {P : Program} {w : World} {K : PySem.W.Frag} {mg : Str → Option Value} {base : Heap} {tb : Addr}
/-! ### _law_cold -/
def spLCold (tb : Addr) : Sp := fun vs H Q _ => ∃ (d lo : Addr) (z : Str) (n : Int) (row : List Str), vs = [.ref d, .str z, .int n] ∧ H d = some (.dK (ownK lo)) ∧ H lo = some (.lst (row.map V.str)) ∧ 1 ≤ n ∧ n ≤ 20 ∧ (row.length : Int) ≤ n ∧ row.Nodup ∧
  ∀ (t lo' : Addr) (H' : Hp), H t = none → H lo' = none → t ≠ lo' → H' t = some (.tup [.bl (stepOC nfCold n row z).1, optV (stepOC nfCold n row z).2.1]) → H' d = some (.dK (ownK lo')) → H' lo' = some (.lst ((stepOC nfCold n row z).2.2.map V.str)) → Kp tb [d, lo] H H' → Q (.ref t) H'
abbrev nLCold : List Str := ["_law_own", "_law_name", "_law_places_here", "_law_met", "_law_gone", "_law_one"]
end
end Kf

namespace Kf
open PySem PySem.Spec PyProof.Rows L2
/-! ### what was wished latest, ahead of what was wished before -/
def dd : List Str → List Str
  | [] => []
  | x :: r => x :: (dd r).filter fun y => decide (y ≠ x)
theorem dd_mem {z : Str} : ∀ {l : List Str}, z ∈ dd l ↔ z ∈ l
  | [] => Iff.rfl
  | x :: r => by
    have ih := dd_mem (z := z) (l := r)
    unfold dd
    rw [List.mem_cons, List.mem_cons, List.mem_filter, ih]
    by_cases e : z = x
    · simp [e]
    · simp [e]
theorem dd_nodup : ∀ l : List Str, (dd l).Nodup
  | [] => List.nodup_nil
  | x :: r => by
    unfold dd
    refine List.nodup_cons.mpr ⟨fun h => ?_, (dd_nodup r).filter _⟩
    have := (List.mem_filter.mp h).2
    simp at this
theorem dd_append (l2 : List Str) : ∀ l1 : List Str, dd (l1 ++ l2) = dd l1 ++ (dd l2).filter fun y => decide (y ∉ l1)
  | [] => by
    show dd l2 = [] ++ _
    rw [List.nil_append]
    exact (List.filter_eq_self.mpr fun _ _ => by simp).symm
  | x :: r => by
    show x :: (dd (r ++ l2)).filter _ = (x :: (dd r).filter _) ++ _
    rw [dd_append l2 r, List.filter_append, List.filter_filter, List.cons_append]
    refine congrArg (fun t => x :: ((dd r).filter (fun y => decide (y ≠ x)) ++ t)) (List.filter_congr fun y _ => ?_)
    by_cases e : y = x <;> by_cases e2 : y ∈ r <;> simp [e, e2]
theorem dd_snoc (l : List Str) (x : Str) : dd (l ++ [x]) = if x ∈ l then dd l else dd l ++ [x] := by
  rw [dd_append]
  show dd l ++ [x].filter _ = _
  by_cases e : x ∈ l
  · rw [if_pos e, List.filter_cons_of_neg (by simpa using e), List.filter_nil, List.append_nil]
  · rw [if_neg e, List.filter_cons_of_pos (by simpa using e), List.filter_nil]
/-- of these wishes: the unlike ones, the latest first -/
def mruW (zs : List Str) : List Str := dd zs.reverse
theorem mruW_snoc (zs : List Str) (z : Str) : mruW (zs ++ [z]) = z :: (mruW zs).filter fun y => decide (y ≠ z) := by
  unfold mruW
  rw [List.reverse_append]
  rfl
theorem mruW_nodup (zs : List Str) : (mruW zs).Nodup := dd_nodup _
theorem mruW_mem {zs : List Str} {z : Str} : z ∈ mruW zs ↔ z ∈ zs := by
  unfold mruW
  rw [dd_mem, List.mem_reverse]
theorem dd_len : ∀ l : List Str, (dd l).length ≤ l.length
  | [] => Nat.le_refl _
  | x :: r => by
    unfold dd
    rw [List.length_cons, List.length_cons]
    have := List.length_filter_le (fun y => decide (y ≠ x)) (dd r)
    have := dd_len r
    omega
theorem mruW_len (zs : List Str) : (mruW zs).length ≤ zs.length := by
  unfold mruW
  exact Nat.le_trans (dd_len _) (by rw [List.length_reverse]; omega)
theorem nodup_rev {M : List Str} (h : M.Nodup) : M.reverse.Nodup := List.pairwise_reverse.mpr (List.Pairwise.imp (fun q => Ne.symm q) h)
theorem idxOf_nodup {z : Str} {M : List Str} {i : Nat} (nd : M.Nodup) (h : M[i]? = some z) : M.idxOf z = i := by
  refine idxOf_split (fun j hj q => ?_) h
  have hi := (List.getElem?_eq_some_iff.mp h).1
  have e1 := (List.getElem?_eq_some_iff.mp h).2
  have e2 := (List.getElem?_eq_some_iff.mp q).2
  have := (List.pairwise_iff_getElem.mp nd) j i (by omega) hi hj
  exact this (by rw [e1, e2])
theorem idx_rev {z : Str} {M : List Str} {j : Nat} (nd : M.Nodup) (h : M.reverse[j]? = some z) : M.length - j = M.idxOf z + 1 ∧ j < M.length := by
  have hj : j < M.length := by
    have := (List.getElem?_eq_some_iff.mp h).1
    rwa [List.length_reverse] at this
  rw [List.getElem?_reverse hj] at h
  rw [idxOf_nodup nd h]
  omega
/-- the depth of a wish of z behind these wishes -/
def depthW (zs : List Str) (z : Str) : Option Nat := if z ∈ zs then some ((mruW zs).idxOf z + 1) else none
def depthsW (ws : List Str) (i : Nat) : List (Option Nat) := (List.range i).map fun k => depthW (ws.take k) (ws.getD k ⟨#[]⟩)
theorem depthsW_succ {ws : List Str} {i : Nat} {z : Str} (h : ws[i]? = some z) : depthsW ws (i + 1) = depthsW ws i ++ [depthW (ws.take i) z] := by
  unfold depthsW
  rw [List.range_succ, List.map_append]
  show _ ++ [depthW (ws.take i) (ws.getD i ⟨#[]⟩)] = _
  rw [List.getD_eq_getElem?_getD, h]
  rfl
theorem depthsW_len (ws : List Str) (i : Nat) : (depthsW ws i).length = i := by unfold depthsW; rw [List.length_map, List.length_range]
/-- one wish, in the row with the latest one last -/
theorem row_step (zs : List Str) (z : Str) : (mruW (zs ++ [z])).reverse = (if z ∈ zs then (mruW zs).reverse.erase z else (mruW zs).reverse) ++ [z] := by
  rw [mruW_snoc, List.reverse_cons, ← List.filter_reverse]
  by_cases e : z ∈ zs
  · rw [if_pos e, filter_erase (nodup_rev (mruW_nodup zs))]
  · rw [if_neg e, filter_absent (fun h => e (mruW_mem.mp (List.mem_reverse.mp h)))]
/-- from the wish ahead back to the last wish of z: what was wished there -/
theorem depth_split {zs l1 l2 : List Str} {z : Str} (e : zs.reverse = l1 ++ z :: l2) (h : z ∉ l1) : depthW zs z = some ((dd l1).length + 1) := by
  have hz : z ∈ zs := List.mem_reverse.mp (by rw [e]; simp)
  unfold depthW
  rw [if_pos hz]
  unfold mruW
  rw [e, dd_append]
  have e2 : (dd (z :: l2)).filter (fun y => decide (y ∉ l1)) = z :: ((dd l2).filter fun y => decide (y ≠ z)).filter fun y => decide (y ∉ l1) := by
    show (z :: (dd l2).filter _).filter _ = _
    rw [List.filter_cons_of_pos (by simpa using h)]
  rw [e2, List.idxOf_append, if_neg (fun q => h (dd_mem.mp q)), List.idxOf_cons]
  simp
/-! ### a cold shelf -/
def leO (p : Nat) : Option Nat → Bool
  | none => false
  | some d => decide (d ≤ p)
theorem mem_take_iff {M : List Str} {z : Str} {n : Nat} : z ∈ M.take n ↔ z ∈ M ∧ M.idxOf z < n := by
  induction M generalizing n with
  | nil => simp
  | cons x r ih =>
    cases n with
    | zero => simp
    | succ n =>
      rw [List.take_succ_cons, List.mem_cons, List.mem_cons, List.idxOf_cons]
      by_cases e : z = x
      · simp [e]
      · rw [show (x == z) = false from beq_eq_false_iff_ne.mpr (Ne.symm e), ih]
        simp [e]
theorem cold_met (zs : List Str) (z : Str) (n : Nat) : decide (z ∈ (mruW zs).take n) = leO n (depthW zs z) := by
  unfold depthW
  by_cases e : z ∈ zs
  · rw [if_pos e]
    show _ = decide (_ ≤ _)
    refine decide_eq_decide.mpr ?_
    rw [mem_take_iff]
    have := mruW_mem.mpr e
    constructor
    · exact fun h => h.2
    · exact fun h => ⟨this, h⟩
  · rw [if_neg e]
    exact decide_eq_false fun h => e (mruW_mem.mp (List.mem_of_mem_take h))
theorem take_erase_in {z : Str} : ∀ {M : List Str} {n : Nat}, z ∈ M.take (n + 1) → (M.erase z).take n = (M.take (n + 1)).erase z
  | [], _, h => absurd h (by simp)
  | x :: r, n, h => by
    by_cases e : x = z
    · subst e
      rw [List.erase_cons_head, List.take_succ_cons, List.erase_cons_head]
    · rw [List.erase_cons_tail (by simpa using e), List.take_succ_cons, List.erase_cons_tail (by simpa using e)]
      rw [List.take_succ_cons] at h
      have h2 : z ∈ r.take n := by
        rcases List.mem_cons.mp h with q | q
        · exact absurd q.symm e
        · exact q
      cases n with
      | zero => simp at h2
      | succ n => rw [List.take_succ_cons, take_erase_in h2]
theorem take_erase_out {z : Str} : ∀ {M : List Str} {n : Nat}, z ∉ M.take (n + 1) → (M.erase z).take n = M.take n
  | [], _, _ => by simp
  | x :: r, n, h => by
    rw [List.take_succ_cons, List.mem_cons, not_or] at h
    rw [List.erase_cons_tail (by simpa using Ne.symm h.1)]
    cases n with
    | zero => rfl
    | succ n => rw [List.take_succ_cons, List.take_succ_cons, take_erase_out h.2]
theorem cold_step {n : Nat} (n1 : 1 ≤ n) (zs : List Str) (z : Str) : ∃ g, stepOC nfCold (n : Int) ((mruW zs).take n).reverse z = (leO n (depthW zs z), g, ((mruW (zs ++ [z])).take n).reverse) := by
  obtain ⟨m, rfl⟩ : ∃ m, n = m + 1 := ⟨n - 1, by omega⟩
  rw [← cold_met, mruW_snoc]
  have nd := mruW_nodup zs
  generalize mruW zs = M at *
  rw [filter_erase nd, List.take_succ_cons, List.reverse_cons]
  have ndt : (M.take (m + 1)).reverse.Nodup := nodup_rev (nd.sublist (List.take_sublist _ _))
  unfold stepOC
  by_cases h : z ∈ M.take (m + 1)
  · rw [if_pos (List.mem_reverse.mpr h), decide_eq_true h]
    refine ⟨_, congrArg (fun t => (true, none, t)) ?_⟩
    unfold nfCold
    rw [take_erase_in h, ← filter_erase ndt, List.filter_reverse, filter_erase (nd.sublist (List.take_sublist _ _))]
  · rw [if_neg (fun q => h (List.mem_reverse.mp q)), decide_eq_false h, take_erase_out h]
    by_cases hl : ((M.take (m + 1)).reverse.length : Int) < ((m + 1 : Nat) : Int)
    · rw [if_pos hl]
      refine ⟨_, congrArg (fun t => (false, none, t)) ?_⟩
      unfold nfCold
      have hM : M.length ≤ m := by
        rw [List.length_reverse, List.length_take] at hl
        omega
      rw [List.take_of_length_le (by omega), List.take_of_length_le (by omega)]
      rw [List.take_of_length_le (by omega)] at h
      rw [← filter_erase (by
        refine List.nodup_append.mpr ⟨nodup_rev nd, by simp, fun a ha b hb => ?_⟩
        rw [List.mem_singleton.mp hb]
        exact fun q => h (by rw [← q]; exact List.mem_reverse.mp ha)), List.filter_append, filter_absent (fun q => h (List.mem_reverse.mp q)), List.filter_cons_of_neg (by simp), List.filter_nil, List.append_nil]
    · rw [if_neg hl]
      have hlen : (M.take (m + 1)).length = m + 1 := by
        rw [List.length_reverse, List.length_take] at hl
        rw [List.length_take]
        omega
      obtain ⟨r, g, er⟩ : ∃ r g, M.take (m + 1) = r ++ [g] := by
        have hne : M.take (m + 1) ≠ [] := fun q => by rw [q] at hlen; simp at hlen
        exact ⟨_, _, (List.dropLast_concat_getLast hne).symm⟩
      have er2 : M.take m = r := by
        have := congrArg (List.take m) er
        rw [List.take_take, Nat.min_eq_left (by omega)] at this
        rw [this]
        rw [er, List.length_append] at hlen
        have : r.length = m := by simpa using hlen
        rw [List.take_append_of_le_length (by omega), List.take_of_length_le (by omega)]
      have hz : z ∉ r.reverse := fun q => h (by rw [er]; exact List.mem_append.mpr (.inl (List.mem_reverse.mp q)))
      rw [er, List.reverse_append]
      refine ⟨some g, ?_⟩
      show (false, some g, nfCold z (r.reverse ++ [z])) = (false, some g, (M.take m).reverse ++ [z])
      rw [er2]
      unfold nfCold
      rw [List.erase_append_right _ hz]
      simp
end Kf

namespace Kf
open PySem PySem.Spec PyProof.Rows L2
/-! ### keepfew.depths -/
def oiV : Option Nat → V
  | none => .non
  | some n => .int (n : Nat)
def oiD : Option Nat → PyData
  | none => .none
  | some n => .int (n : Nat)
theorem dp_oi {K : PySem.W.Frag} {H : Hp} : ∀ d : Option Nat, Dp K H (oiV d) (oiD d)
  | none => .non
  | some n => .int _
theorem oi_self (ds : List (Option Nat)) : SeqAt.shaped (.list (ds.map oiD)) = true ∧ PyData.eqv (.list (ds.map oiD)) (.list (ds.map oiD)) = true := selfD fun d hd => by
  obtain ⟨x, _, rfl⟩ := List.mem_map.mp hd
  cases x with
  | none => exact ⟨rfl, Nat.zero_le _, rfl⟩
  | some n => exact ⟨rfl, Nat.zero_le _, by show (_ == _) = true; simp⟩
theorem dp_ois {K : PySem.W.Frag} {H : Hp} {a : Addr} {ds : List (Option Nat)} (h : SqL K H a (ds.map oiV)) : Dp K H (.ref a) (.list (ds.map oiD)) := .lst h (dpAll_map fun x _ => dp_oi x)
/-- how many are missed, of one place, of two, and so on -/
def missW (ws : List Str) (p : Nat) : Nat := (depthsW ws ws.length).countP fun d => !leO p d
theorem missW_eq (ws : List Str) (p : Nat) : ((ws.length : Nat) : Int) - (((depthsW ws ws.length).countP (leO p) : Nat) : Int) = ((missW ws p : Nat) : Int) := by
  have h := List.length_eq_countP_add_countP (leO p) (l := depthsW ws ws.length)
  rw [depthsW_len] at h
  have e : missW ws p = (depthsW ws ws.length).countP (fun d => decide ¬ leO p d = true) := by
    unfold missW
    refine List.countP_congr fun d _ => ?_
    simp
  rw [e]
  omega
def manyW (ws : List Str) : List Int := (List.range 20).map fun j => ((missW ws (j + 1) : Nat) : Int)
section
variable {P : Program} {w : World} {K : PySem.W.Frag} {mg : Str → Option Value} {base : Heap} {tb : Addr}
def spDepths (tb : Addr) : Sp := fun vs H Q _ => ∃ (a : Addr) (ws : List Str), vs = [.ref a] ∧ H a = some (.lst (ws.map V.str)) ∧ ws.length ≤ 300 ∧ (∀ z ∈ ws, IsName z) ∧ GxR.TabG H tb ∧
  ∀ (o : Addr) (H' : Hp), H o = none → H' o = some (.lst ((depthsW ws ws.length).map oiV)) → Kp tb [] H H' → Q (.ref o) H'
abbrev n_depths : List Str := ["wishes", "row", "found", "name", "depth"]
theorem sc_depths : FnScope n_depths ["wishes"] (defScope s_depths) := ⟨rfl, rfl, rfl, by decide +kernel, rfl, by decide +kernel, by decide +kernel⟩
theorem ok_depths {f : Addr} {fd : FuncData} {k0 : Nat} (F : FnP K "depths" "depths" s_depths f fd) (hlen : mg "len" = none) (GW : Glob P w K mg base CX0 (k0 + 1) "check_wishes" ["wishes"] (spCheckWishes K)) :
    FnOk P w K mg base CX0 (k0 + 2) f fd ["wishes"] (spDepths (tbOf K)) := by
  refine ok0 F sc_depths (fun vs H Q E h => ?_) (fun cdv A outer s H vs Q E hr h => ?_)
  · obtain ⟨a, ws, rfl, _⟩ := h
    rfl
  · obtain ⟨a, ws, rfl, ha, hl, hn, tab, q⟩ := h
    refine ⟨_, (pss_cons (ps_expr (pe_callG GW hr (by rfl) pass0 (pa_cons (pv 0) pa_nil)))
      (pss_cons (ps_set (i := 1) sc_depths.nd rfl (Or.inl rfl) (pe_lst pa_nil))
      (pss_cons (ps_set (i := 2) sc_depths.nd rfl (Or.inl rfl) (pe_lst pa_nil))
      (pss_cons (ps_for PassesOwn.never rfl (pi_list (pv 0)) (pg_name (i := 3) sc_depths.nd rfl (Or.inl rfl))
        (pss_cons (ps_set (i := 4) sc_depths.nd rfl (Or.inl rfl) pe_non)
        (C8.pss_cut (ps_if (pt_cmpR op_in_seq (pv 3) (pv 1) (by with_unfolding_all rfl))
          (pss_cons (ps_set (i := 4) sc_depths.nd rfl (Or.inl rfl) (pe_op op_sub (pe_callB call_len_seq (by rfl) hlen PySem.boot_len (pa_cons (pv 1) pa_nil)) (pe_bm PySem.F.plainAttrs_list PySem.F.slot_list_index PySem.F.type_list_index mt_index (pv 1) (pa_cons (pv 3) pa_nil))))
          (pss_one (ps_expr (pe_bm PySem.F.plainAttrs_list PySem.F.slot_list_remove PySem.F.type_list_remove mt_removeS (pv 1) (pa_cons (pv 3) pa_nil)))))
          pss_nil)
        (pss_cons (ps_expr (pe_bm PySem.F.plainAttrs_list PySem.F.slot_list_append PySem.F.type_list_append mt_append (pv 1) (pa_cons (pv 3) pa_nil)))
        (pss_one (ps_expr (pe_bm PySem.F.plainAttrs_list PySem.F.slot_list_append PySem.F.type_list_append mt_append (pv 2) (pa_cons (pv 4) pa_nil))))))))
      (pss_one (ps_ret (pv 2))))))), ?_⟩
    refine ⟨_, rfl, a, ws, rfl, ha, hl, hn, tab, fun H1 k1 => ?_⟩
    refine ⟨Nat.zero_le _, fun ro hro => ?_⟩
    have k2 : Kp (tbOf K) [] H1 (upd H1 ro (.lst [])) := Kp.new hro
    have g2 : (upd H1 ro (.lst [])) ro = some (.lst []) := upd_same
    have k12 := k1.trans k2
    have fro : H ro = none := k1.free _ hro
    generalize upd H1 ro (.lst []) = H2 at k2 g2 k12 ⊢
    refine ⟨Nat.zero_le _, fun fa hfa => ?_⟩
    have k3 : Kp (tbOf K) [] H2 (upd H2 fa (.lst [])) := Kp.new hfa
    have gf : (upd H2 fa (.lst [])) fa = some (.lst []) := upd_same
    have g3 := k3.get g2
    have k13 := k12.trans k3
    have nrf : ro ≠ fa := ne_of_none g2 hfa
    have ffa : H fa = none := k12.free _ hfa
    generalize upd H2 fa (.lst []) = H3 at k3 gf g3 k13 ⊢
    refine ⟨_, rfl, a, rfl, ⟨_, SqL.of (k13.get ha)⟩, ?_⟩
    refine for_it walk_list (fun i σ H' => ∃ v3 v4 : Option V, σ = [some (.ref a), some (.ref ro), some (.ref fa), v3, v4] ∧ H' ro = some (.lst ((mruW (ws.take i)).reverse.map V.str)) ∧ H' fa = some (.lst ((depthsW ws i).map oiV)) ∧ Kp (tbOf K) [] H H')
      ⟨none, none, rfl, g3, gf, k13⟩ (fun i σ H' _ ⟨_, _, _, _, _, kp⟩ => SqL.of (kp.get ha)) ?_ ?_
    · rintro i x σ H4 H5 hi ⟨v3, v4, rfl, hr5, hf5, kp⟩ ⟨rfl, hx⟩
      obtain ⟨z, hz, rfl⟩ := get_mapS hx
      rw [List.length_map] at hi
      have etake : ws.take (i + 1) = ws.take i ++ [z] := by rw [List.take_add_one, hz]; rfl
      have hrl : (mruW (ws.take i)).length ≤ 300 := Nat.le_trans (mruW_len _) (by rw [List.length_take]; omega)
      have hs := row_step (ws.take i) z
      have nd := mruW_nodup (ws.take i)
      have hmem := mruW_mem (zs := ws.take i) (z := z)
      have ed : depthW (ws.take i) z = if z ∈ ws.take i then some ((mruW (ws.take i)).idxOf z + 1) else none := rfl
      rw [etake, depthsW_succ hz, ed]
      rw [hs]
      generalize mruW (ws.take i) = M at *
      refine ⟨fun σ H' => σ = [some (.ref a), some (.ref ro), some (.ref fa), some (.str z), some (oiV (if z ∈ ws.take i then some (M.idxOf z + 1) else none))] ∧ H' ro = some (.lst ((if z ∈ ws.take i then M.reverse.erase z else M.reverse).map V.str)) ∧ Kp (tbOf K) [ro] H5 H', ?_, ?_⟩
      · refine ⟨_, rfl, _, rfl, ro, _, rfl, .inl (SqL.of hr5), rfl, flat_strs _, _, rfl, ?_⟩
        rw [inV_str]
        by_cases hin : z ∈ ws.take i
        · have hin2 : z ∈ M.reverse := List.mem_reverse.mpr (hmem.mpr hin)
          rw [decide_eq_true hin2, if_pos hin, if_pos hin]
          obtain ⟨j, j1, j2, j3, j4⟩ := first_atS hin2
          obtain ⟨e1, e2⟩ := idx_rev nd j2
          refine iteT ⟨_, rfl, ro, _, rfl, .inl (SqL.of hr5), _, rfl, .inl ⟨rfl, _, SqL.of hr5⟩, _, rfl, ro, _, _, j, _, rfl, rfl, SqL.of hr5, rfl, flat_strs _, by rw [List.getElem?_map, j2]; rfl, ?_, ?_, ?_⟩
          · show (z == z) = true
            simp
          · intro m z' hm hz'
            obtain ⟨y, hy, rfl⟩ := get_mapS hz'
            show (y == z) = false
            exact beq_eq_false_iff_ne.mpr fun e => j3 m hm (by rw [hy, e])
          refine ⟨_, _, rfl, rfl, _, rfl, .inl ⟨rfl, _, SqL.of hr5⟩, _, rfl, ro, _, _, rfl, rfl, hr5, hin2, ?_, upd_same, Kp.put hr5⟩
          rw [List.length_map, List.length_reverse, ← e1]
          show [_, _, _, _, some (V.int ((M.length : Int) - (j : Int)))] = [_, _, _, _, some (V.int ((M.length - j : Nat) : Int))]
          rw [show (M.length : Int) - (j : Int) = ((M.length - j : Nat) : Int) by omega]
        · have hin2 : z ∉ M.reverse := fun h => hin (hmem.mp (List.mem_reverse.mp h))
          rw [decide_eq_false hin2, if_neg hin, if_neg hin]
          exact iteF ⟨rfl, hr5, Kp.refl _⟩
      · rintro σ H6 ⟨rfl, hr6, k6⟩
        have hf6 := k6.get hf5 rfl (by simp [nrf.symm])
        have kp6 := kp.transN k6 (fun y hy => by rw [List.mem_singleton.mp hy]; exact fro)
        refine ⟨_, rfl, .inl ⟨rfl, _, SqL.of hr6⟩, _, rfl, ro, _, _, rfl, rfl, hr6, ?_, ?_⟩
        · rw [List.length_map]
          refine small_of (m := 300) ?_
          by_cases hin : z ∈ ws.take i
          · rw [if_pos hin]; exact Nat.le_trans List.length_erase_le (by rw [List.length_reverse]; exact hrl)
          · rw [if_neg hin, List.length_reverse]; exact hrl
        rw [← List.map_singleton (f := V.str), ← List.map_append]
        generalize ((if z ∈ ws.take i then M.reverse.erase z else M.reverse) ++ [z]) = R at *
        have k7 : Kp (tbOf K) [ro] H6 (upd H6 ro (.lst (R.map V.str))) := Kp.put hr6
        have hr7 : (upd H6 ro (.lst (R.map V.str))) ro = some (.lst (R.map V.str)) := upd_same
        have hf7 := k7.get hf6 rfl (by simp [nrf.symm])
        have kp7 := kp6.transN k7 (fun y hy => by rw [List.mem_singleton.mp hy]; exact fro)
        generalize upd H6 ro (.lst (R.map V.str)) = H7 at k7 hr7 hf7 kp7 ⊢
        refine ⟨_, rfl, .inl ⟨rfl, _, SqL.of hf7⟩, _, rfl, fa, _, _, rfl, rfl, hf7, by rw [List.length_map, depthsW_len]; exact small_of (m := 300) (by omega), ?_⟩
        have k8 : Kp (tbOf K) [fa] H7 (upd H7 fa (.lst ((depthsW ws i).map oiV ++ [oiV (if z ∈ ws.take i then some (M.idxOf z + 1) else none)]))) := Kp.put hf7
        exact ⟨_, _, rfl, k8.get hr7 rfl (by simp [nrf]), by rw [upd_same, List.map_append]; rfl, kp7.transN k8 (fun y hy => by rw [List.mem_singleton.mp hy]; exact ffa)⟩
    · rintro σ H4 ⟨v3, v4, rfl, hr4, hf4, kp⟩
      rw [List.length_map] at hf4
      exact ⟨_, rfl, q fa H4 ffa hf4 kp⟩
def spMetP (tb : Addr) : Sp := fun vs H Q _ => ∃ (a : Addr) (ds : List (Option Nat)) (p : Nat), vs = [.ref a, .int (p : Nat)] ∧ H a = some (.lst (ds.map oiV)) ∧ ds.length ≤ 300 ∧ ∀ H', Kp tb [] H H' → Q (.int (ds.countP (leO p) : Nat)) H'
abbrev n_metp : List Str := ["told", "places", "depth"]
theorem sc_metp : FnScope n_metp ["told", "places"] (defScope s__met) := ⟨rfl, rfl, rfl, by decide +kernel, rfl, by decide +kernel, by decide +kernel⟩
theorem ok_metp {f : Addr} {fd : FuncData} {k0 : Nat} (F : FnP K "_met" "_met" s__met f fd) (hlen : mg "len" = none) : FnOk P w K mg base CX0 (k0 + 1) f fd ["told", "places"] (spMetP tb) := by
  refine ok0 F sc_metp (fun vs H Q E h => ?_) (fun cdv A outer s H vs Q E hr h => ?_)
  · obtain ⟨a, ds, p, rfl, _⟩ := h
    rfl
  · obtain ⟨a, ds, p, rfl, ha, hl, q⟩ := h
    refine ⟨_, (pss_one (ps_ret (pe_callB call_len_seq (by rfl) hlen PySem.boot_len (pa_cons (pe_lc (own := [("depth", 2)]) (g := gName 2) rfl sc_metp.nd (pi_list (pv 0)) (blkOk_by (N := n_metp) (sc := defScope s__met) (by decide +kernel)) (fun _ _ _ _ _ => pg_name (i := 2) sc_metp.nd rfl (Or.inl rfl)) (fun _ _ _ _ _ => pts_one (PW.pt (pw_and (pt_cmp (pc_notN (pv 2))) (pw_and1 (pt_cmpR op_le (pv 2) (pv 1) (nomark _)))))) (fun _ _ _ _ _ => (pv 2))) pa_nil)))), ?_⟩
    refine ⟨_, rfl, a, rfl, ⟨_, SqL.of ha⟩, ?_⟩
    refine fun D hD => lc_it walk_list (LcI tb H D (fun i acc => acc.length = (ds.take i).countP (leO p))) (LcI.start hD rfl) (fun i H' _ ⟨_, _, kp, _⟩ => SqL.of (kp.get ha)) ?_ ?_
    · rintro i x H3 H4 hi ⟨acc, hacc, kp, hD3⟩ ⟨rfl, hx⟩
      rw [List.length_map] at hi
      obtain ⟨d, hd, rfl⟩ := get_mapF hx
      have ec : (ds.take (i + 1)).countP (leO p) = (ds.take i).countP (leO p) + (if leO p d = true then 1 else 0) := by
        rw [List.take_add_one, hd, List.countP_append]
        show _ + List.countP _ [d] = _
        rw [List.countP_cons, List.countP_nil, Nat.zero_add]
      have hcl : (ds.take i).countP (leO p) ≤ 300 := Nat.le_trans List.countP_le_length (by rw [List.length_take]; omega)
      cases d with
      | none =>
        refine ⟨rfl, _, rfl, _, rfl, ?_⟩
        refine iteF (iteF ⟨acc, ?_, kp, hD3⟩)
        dsimp only
        rw [ec]
        exact hacc
      | some n =>
        refine ⟨rfl, _, rfl, _, rfl, ?_⟩
        refine iteT ⟨_, rfl, _, rfl, _, _, rfl, rfl, _, rfl, ?_⟩
        by_cases e : n ≤ p
        · rw [decide_eq_true (show ((n : Nat) : Int) ≤ ((p : Nat) : Int) by omega)]
          refine iteT ⟨_, rfl, LcI.next hD kp hD3 (Kp.refl _) (by rw [hacc]; exact small_of (m := 300) hcl) ?_⟩
          rw [ec, List.length_append, hacc, if_pos (show leO p (some n) = true from decide_eq_true e)]
          rfl
        · rw [decide_eq_false (show ¬ ((n : Nat) : Int) ≤ ((p : Nat) : Int) by omega)]
          refine iteF ⟨acc, ?_, kp, hD3⟩
          dsimp only
          rw [ec, hacc, if_neg (show ¬ leO p (some n) = true from fun q => e (of_decide_eq_true q)), Nat.add_zero]
    · rintro H3 ⟨acc, hacc, kp, hD3⟩
      rw [List.length_map, List.take_of_length_le (Nat.le_refl _)] at hacc
      refine ⟨D, acc, rfl, .inl (SqL.of hD3), ?_⟩
      rw [hacc]
      exact q _ kp
def spMissedBy (tb : Addr) : Sp := fun vs H Q _ => ∃ (a : Addr) (ws : List Str), vs = [.ref a] ∧ H a = some (.lst (ws.map V.str)) ∧ ws.length ≤ 300 ∧ (∀ z ∈ ws, IsName z) ∧ GxR.TabG H tb ∧
  ∀ (o : Addr) (H' : Hp), H o = none → H' o = some (.lst ((manyW ws).map V.int)) → Kp tb [] H H' → Q (.ref o) H'
abbrev n_mbp : List Str := ["wishes", "told", "places"]
theorem sc_mbp : FnScope n_mbp ["wishes"] (defScope s_missed_by_places) := ⟨rfl, rfl, rfl, by decide +kernel, rfl, by decide +kernel, by decide +kernel⟩
theorem ok_mbp {f : Addr} {fd : FuncData} {k0 : Nat} {tl : Tok} (F : FnP K "missed_by_places" "missed_by_places" s_missed_by_places f fd) (hmp : mg "MOST_PLACES" = some (.int 20 tl)) (hlen : mg "len" = none) (hrange : mg "range" = none)
    (GD : Glob P w K mg base CX0 (k0 + 1) "depths" ["wishes"] (spDepths (tbOf K))) (GM : Glob P w K mg base CX0 (k0 + 1) "_met" ["told", "places"] (spMetP (tbOf K))) :
    FnOk P w K mg base CX0 (k0 + 2) f fd ["wishes"] (spMissedBy (tbOf K)) := by
  refine ok0 F sc_mbp (fun vs H Q E h => ?_) (fun cdv A outer s H vs Q E hr h => ?_)
  · obtain ⟨a, ws, rfl, _⟩ := h
    rfl
  · obtain ⟨a, ws, rfl, ha, hl, hn, tab, q⟩ := h
    refine ⟨_, (pss_cons (ps_set (i := 1) sc_mbp.nd rfl (Or.inr rfl) (pe_callG GD hr (by rfl) pass0 (pa_cons (pv 0) pa_nil)))
      (pss_one (ps_ret (pe_lc (own := [("places", 2)]) (g := gName 2) (tt := tYes) rfl sc_mbp.nd (pi_range2 (by rfl) hrange (pa_cons pe_int (pa_cons (pe_op op_add (pe_glob (v := .int 20) rfl hmp ⟨_, rfl⟩) pe_int) pa_nil))) (blkOk_by (N := n_mbp) (sc := defScope s_missed_by_places) (by decide +kernel)) (fun _ _ _ _ _ => pg_name (i := 2) sc_mbp.nd rfl (Or.inl rfl)) (fun _ _ _ _ _ => pts_nil) (fun _ _ _ _ _ => (pe_op op_sub (pe_callB (call_len_seqK (K := K) rfl) (by rfl) hlen PySem.boot_len (pa_cons (pv 1) pa_nil)) (pe_callG GM hr (by rfl) pass0 (pa_cons (pv 1) (pa_cons (pv 2) pa_nil))))))))), ?_⟩
    refine ⟨_, rfl, a, ws, rfl, ha, hl, hn, tab, fun o H1 fo ho k1 => ?_⟩
    refine ⟨_, _, rfl, rfl, _, _, rfl, ⟨by decide, by decide, by decide, by decide⟩, fun D hD => ?_⟩
    refine lc_it (n := 20) walk_range (LcI (tbOf K) H1 D (fun i acc => acc = (((List.range i).map fun j => ((missW ws (j + 1) : Nat) : Int))).map V.int)) (LcI.start hD rfl) (fun _ _ _ _ => trivial) ?_ ?_
    · rintro i x H3 H4 hi ⟨acc, rfl, kp, hD3⟩ ⟨rfl, rfl⟩
      have e1 : ((1 : Int) + (i : Nat)) = ((i + 1 : Nat) : Int) := by omega
      have ho4 := kp.get ho
      refine ⟨rfl, _, rfl, o, _, rfl, .inl (SqL.of ho4), _, rfl, _, rfl, o, _, i + 1, ?_, ho4, by rw [depthsW_len]; exact hl, fun H5 k5 => ?_⟩
      · show [V.ref o, V.int (1 + (i : Nat))] = _
        rw [e1]
      refine ⟨_, _, rfl, rfl, LcI.next hD kp hD3 k5 ?_ ?_⟩
      · rw [List.length_map, List.length_map, List.length_range]
        exact small_of (m := 20) (by omega)
      · rw [List.length_map, depthsW_len]
        dsimp only
        rw [missW_eq, List.range_succ, List.map_append, List.map_append]
        rfl
    · rintro H3 ⟨acc, rfl, kp, hD3⟩
      exact q D H3 (k1.free _ hD) hD3 (k1.trans kp)
end
end Kf

namespace Kf
open PySem PySem.Spec PyProof.Rows L2
/-! ### some cold shelves, of one place, of two, and so on -/
def coldR (ws : List Str) (i j : Nat) : List Str := ((mruW (ws.take i)).take (j + 1)).reverse
def coldM (ws : List Str) (i j : Nat) : Int := (((depthsW ws i).countP (fun d => !leO (j + 1) d) : Nat) : Int)
structure P9 (C : Addr) (H : Hp) (ws : List Str) (f : Nat → Nat) (ps ls : List Addr) : Prop where
  len : ps.length = ls.length
  nd : (ps ++ ls).Nodup
  at_ : ∀ j p l, ps[j]? = some p → ls[j]? = some l → ∃ m : Int, ShAt C H p ((j + 1 : Nat) : Int) l (coldR ws (f j) j) m (coldM ws (f j) j) []
theorem P9.kp {C : Addr} {H H' : Hp} {ws : List Str} {f : Nat → Nat} {ps ls S : List Addr} {tb : Addr} (h : P9 C H ws f ps ls) (k : Kp tb S H H') (hS : ∀ x ∈ ps ++ ls, x ∉ S) : P9 C H' ws f ps ls := by
  refine ⟨h.len, h.nd, fun j p l hp hl => ?_⟩
  obtain ⟨m, sh⟩ := h.at_ j p l hp hl
  exact ⟨m, sh.kp k (hS p (List.mem_append.mpr (.inl (List.mem_of_getElem? hp)))) (hS l (List.mem_append.mpr (.inr (List.mem_of_getElem? hl))))⟩
theorem P9.kp0 {C : Addr} {H H' : Hp} {ws : List Str} {f : Nat → Nat} {ps ls : List Addr} {tb : Addr} (h : P9 C H ws f ps ls) (k : Kp tb [] H H') : P9 C H' ws f ps ls := h.kp k fun _ _ q => absurd q (by simp)
theorem P9.get {C : Addr} {H : Hp} {ws : List Str} {f : Nat → Nat} {ps ls : List Addr} (h : P9 C H ws f ps ls) {j : Nat} {p : Addr} (hp : ps[j]? = some p) : ∃ l m, ls[j]? = some l ∧ ShAt C H p ((j + 1 : Nat) : Int) l (coldR ws (f j) j) m (coldM ws (f j) j) [] := by
  have hj := (List.getElem?_eq_some_iff.mp hp).1
  obtain ⟨l, hl⟩ : ∃ l, ls[j]? = some l := ⟨_, List.getElem?_eq_getElem (by rw [← h.len]; exact hj)⟩
  obtain ⟨m, sh⟩ := h.at_ j p _ hp hl
  exact ⟨l, m, hl, sh⟩
/-- what it consists of stands there -/
theorem P9.old {C : Addr} {H : Hp} {ws : List Str} {f : Nat → Nat} {ps ls : List Addr} (h : P9 C H ws f ps ls) : ∀ y ∈ ps ++ ls, H y ≠ none := fun y hy => by
  rcases List.mem_append.mp hy with q | q
  · obtain ⟨j, hj, e⟩ := List.mem_iff_getElem.mp q
    obtain ⟨l', m', _, sh⟩ := h.get (List.getElem?_eq_getElem hj)
    obtain ⟨dx', ho⟩ := sh.ob
    rw [e] at ho
    rw [ho]
    exact fun z => nomatch z
  · obtain ⟨j, hj, e⟩ := List.mem_iff_getElem.mp q
    have hj2 : j < ps.length := by rw [h.len]; exact hj
    obtain ⟨m', sh⟩ := h.at_ j _ _ (List.getElem?_eq_getElem hj2) (List.getElem?_eq_getElem hj)
    have ho := sh.ls
    rw [e] at ho
    rw [ho]
    exact fun z => nomatch z
theorem nodup_snocA {α : Type} {xs : List α} {x : α} (h : x ∉ xs) (nd : xs.Nodup) : (xs ++ [x]).Nodup := List.nodup_append.mpr ⟨nd, by simp, fun a ha b hb e => h (by rw [← List.mem_singleton.mp hb, ← e]; exact ha)⟩
theorem nodup_idx {α : Type} {xs : List α} (nd : xs.Nodup) {i j : Nat} {x : α} (hi : xs[i]? = some x) (hj : xs[j]? = some x) : i = j := by
  obtain ⟨h1, e1⟩ := List.getElem?_eq_some_iff.mp hi
  obtain ⟨h2, e2⟩ := List.getElem?_eq_some_iff.mp hj
  rcases Nat.lt_trichotomy i j with q | q | q
  · exact absurd (e1.trans e2.symm) ((List.pairwise_iff_getElem.mp nd) i j h1 h2 q)
  · exact q
  · exact absurd (e2.trans e1.symm) ((List.pairwise_iff_getElem.mp nd) j i h2 h1 q)
/-- one shelf has gone on -/
theorem P9.step {C : Addr} {H H' : Hp} {ws : List Str} {f : Nat → Nat} {ps ls : List Addr} {tb p l : Addr} {j i : Nat} {m : Int} (h : P9 C H ws f ps ls) (hp : ps[j]? = some p) (hl : ls[j]? = some l) (sh : ShAt C H' p ((j + 1 : Nat) : Int) l (coldR ws i j) m (coldM ws i j) []) (k : Kp tb [p, l] H H') : P9 C H' ws (fun x => if x = j then i else f x) ps ls := by
  refine ⟨h.len, h.nd, fun j' p' l' hp' hl' => ?_⟩
  by_cases e : j' = j
  · subst e
    rw [hp] at hp'
    rw [hl] at hl'
    cases hp'
    cases hl'
    rw [if_pos rfl]
    exact ⟨m, sh⟩
  · rw [if_neg e]
    obtain ⟨m', sh'⟩ := h.at_ j' p' l' hp' hl'
    obtain ⟨nd1, nd2, nd3⟩ := List.nodup_append.mp h.nd
    have mp := List.mem_of_getElem? hp
    have ml := List.mem_of_getElem? hl
    have mp' := List.mem_of_getElem? hp'
    have ml' := List.mem_of_getElem? hl'
    refine ⟨m', sh'.kp k (fun q => ?_) (fun q => ?_)⟩
    · rcases List.mem_cons.mp q with q | q
      · subst q; exact e (nodup_idx nd1 hp' hp)
      · have q := List.mem_singleton.mp q
        exact nd3 p' mp' l ml q
    · rcases List.mem_cons.mp q with q | q
      · exact nd3 p mp l' ml' q.symm
      · have q := List.mem_singleton.mp q
        subst q
        exact e (nodup_idx nd2 hl' hl)
theorem P9.snoc {C : Addr} {H : Hp} {ws : List Str} {ps ls : List Addr} {p l : Addr} {f : Nat → Nat} {m : Int} (h : P9 C H ws f ps ls) (sh : ShAt C H p ((ps.length + 1 : Nat) : Int) l (coldR ws (f ps.length) ps.length) m (coldM ws (f ps.length) ps.length) []) (hp : p ∉ ps ++ ls) (hl : l ∉ ps ++ ls) : P9 C H ws f (ps ++ [p]) (ls ++ [l]) := by
  have npl := sh.ne
  obtain ⟨nd1, nd2, nd3⟩ := List.nodup_append.mp h.nd
  rw [List.mem_append, not_or] at hp hl
  refine ⟨by rw [List.length_append, List.length_append, h.len]; rfl, ?_, fun j p' l' hp' hl' => ?_⟩
  · refine List.nodup_append.mpr ⟨nodup_snocA hp.1 nd1, nodup_snocA hl.2 nd2, fun a ha b hb e => ?_⟩
    subst e
    rcases List.mem_append.mp ha with ha | ha <;> rcases List.mem_append.mp hb with hb | hb
    · exact nd3 a ha a hb rfl
    · rw [List.mem_singleton.mp hb] at ha; exact hl.1 ha
    · rw [List.mem_singleton.mp ha] at hb; exact hp.2 hb
    · rw [List.mem_singleton.mp ha] at hb; exact npl (List.mem_singleton.mp hb)
  · rcases Nat.lt_or_ge j ps.length with q | q
    · rw [List.getElem?_append_left q] at hp'
      rw [List.getElem?_append_left (by rw [← h.len]; exact q)] at hl'
      exact h.at_ j p' l' hp' hl'
    · have hj := (List.getElem?_eq_some_iff.mp hp').1
      rw [List.length_append, List.length_singleton] at hj
      have ej : j = ps.length := by omega
      subst ej
      rw [List.getElem?_append_right (Nat.le_refl _), Nat.sub_self] at hp'
      rw [List.getElem?_append_right (by rw [h.len]; exact Nat.le_refl _), h.len, Nat.sub_self] at hl'
      cases hp'
      cases hl'
      exact ⟨m, sh⟩
theorem P9.congr {C : Addr} {H : Hp} {ws : List Str} {ps ls : List Addr} {f g : Nat → Nat} (h : P9 C H ws f ps ls) (e : ∀ j, j < ps.length → f j = g j) : P9 C H ws g ps ls := by
  refine ⟨h.len, h.nd, fun j p l hp hl => ?_⟩
  have := (List.getElem?_eq_some_iff.mp hp).1
  rw [← e j this]
  exact h.at_ j p l hp hl
theorem coldR_len (ws : List Str) (i j : Nat) : (coldR ws i j).length ≤ j + 1 := by
  unfold coldR
  rw [List.length_reverse, List.length_take]
  omega
theorem coldR_sub {ws : List Str} {i j : Nat} {z : Str} (h : z ∈ coldR ws i j) : z ∈ coldR ws i (j + 1) := by
  unfold coldR at *
  rw [List.mem_reverse] at *
  rw [mem_take_iff] at *
  exact ⟨h.1, by omega⟩
theorem coldR_lens (ws : List Str) (i j : Nat) : (coldR ws i j).length ≤ (coldR ws i (j + 1)).length ∧ (coldR ws i (j + 1)).length ≤ (coldR ws i j).length + 1 := by
  unfold coldR
  rw [List.length_reverse, List.length_reverse, List.length_take, List.length_take]
  omega
theorem coldM_step {ws : List Str} {i j : Nat} {z : Str} (h : ws[i]? = some z) : coldM ws (i + 1) j = if leO (j + 1) (depthW (ws.take i) z) then coldM ws i j else coldM ws i j + 1 := by
  unfold coldM
  rw [depthsW_succ h, List.countP_append, List.countP_cons, List.countP_nil]
  cases leO (j + 1) (depthW (ws.take i) z)
  · show _ = (((depthsW ws i).countP _ : Nat) : Int) + 1
    rfl
  · rfl
theorem leO_mono {p q : Nat} (h : p ≤ q) : ∀ d, leO p d = true → leO q d = true
  | none, e => nomatch e
  | some d, e => decide_eq_true (Nat.le_trans (of_decide_eq_true (show decide (d ≤ p) = true from e)) h)
theorem missW_mono (ws : List Str) {p q : Nat} (h : p ≤ q) : missW ws q ≤ missW ws p := by
  unfold missW
  refine List.countP_mono_left fun d _ e => ?_
  rw [Bool.not_eq_true'] at e ⊢
  cases e2 : leO p d with
  | false => rfl
  | true => rw [leO_mono h d e2] at e; cases e
theorem manyW_desc (ws : List Str) : (manyW ws).Pairwise (· ≥ ·) := by
  unfold manyW
  refine List.pairwise_map.mpr (List.Pairwise.imp (fun {a b} (h : a < b) => ?_) List.pairwise_lt_range)
  have := missW_mono ws (p := a + 1) (q := b + 1) (by omega)
  show ((missW ws (a + 1) : Nat) : Int) ≥ ((missW ws (b + 1) : Nat) : Int)
  omega
section
variable {P : Program} {w : World} {K : PySem.W.Frag} {mg : Str → Option Value} {base : Heap} {C : Addr}
def spLaw (K : PySem.W.Frag) : Sp := fun vs H Q _ => ∃ (a : Addr) (ns : List Int), vs = [.ref a] ∧ SqL K H a (ns.map V.int) ∧ ns.length ≤ 63 ∧ GxR.TabG H (tbOf K) ∧ ∀ H', Q (.bl true) H'
abbrev n_k09 : List Str := ["_law_script", "_law_names_here", "_law_wishes", "_law_shelves", "_law_known", "_law_name", "_law_depth", "_law_places_here", "_law_shelf", "_law_other", "_law_missed", "_law_one"]
theorem sc_k09 : FnScope n_k09 ["_law_script"] (defScope s_law) := ⟨rfl, rfl, rfl, by decide +kernel, rfl, by decide +kernel, by decide +kernel⟩
theorem ok_k09 {f : Addr} {fd : FuncData} {k0 : Nat} (F : FnP K "law" "law" s_law f fd)
    (hrange : mg "range" = none) (hlen : mg "len" = none) (hzip : mg "zip" = none) (henum : mg "enumerate" = none) (hsorted : mg "sorted" = none)
    (GD : Glob P w K mg base CX0 (k0 + 6) "_law_drawn" ["_law_script", "_law_most"] (spDrawn K (tbOf K)))
    (GB : Glob P w K mg base CX0 (k0 + 6) "depths" ["wishes"] (spDepths (tbOf K))) (GM : Glob P w K mg base CX0 (k0 + 6) "missed_by_places" ["wishes"] (spMissedBy (tbOf K)))
    (MC : MakeOk P w K mg base CX0 (k0 + 5) "Cold" C ["self", "places"] (spInit (tbOf K) C)) (MW : MethOk P w K mg base CX0 (k0 + 6) C "wish" ["self", "name"] (spWishOC nfCold (tbOf K) C))
    (MT : MethOk P w K mg base CX0 (k0 + 6) C "things" ["self"] (spList (tbOf K) C sortS)) (MI : MethOk P w K mg base CX0 (k0 + 6) C "missed" ["self"] (spInt C fun _ _ k => k)) :
    FnOk P w K mg base CX0 (k0 + 7) f fd ["_law_script"] (spLaw K) := by
  refine ok0 F sc_k09 (fun vs H Q E h => ?_) (fun cdv A outer s H vs Q E hr h => ?_)
  · obtain ⟨a, ns, rfl, _⟩ := h
    rfl
  · obtain ⟨sa, ns, rfl, hS, hlen63, tab, q⟩ := h
    refine ⟨_, (pss_cons (ps_asg (pe_callG GD hr (by rfl) pass0 (pa_cons (pv 0) (pa_cons pe_int pa_nil))) (pg_tup rfl (pgs_cons (pg_name (i := 1) sc_k09.nd rfl (Or.inl rfl)) (pgs_cons (pg_name (i := 2) sc_k09.nd rfl (Or.inl rfl)) pgs_nil))))
      (pss_cons (ps_setLc (i := 3) (own := [("_law_places_here", 7)]) (g := gName 7) (tt := tYes) rfl sc_k09.nd rfl rfl (sw_true rfl rfl rfl (by decide +kernel)) (pi_range2 (by rfl) hrange (pa_cons pe_int (pa_cons pe_int pa_nil))) (blkOk_by (N := n_k09) (sc := defScope s_law) (by decide +kernel)) (fun _ _ _ _ _ => pg_name (i := 7) sc_k09.nd rfl (Or.inl rfl)) (fun _ _ _ _ _ => pts_nil) (fun _ _ _ _ _ => (pe_makeG MC hr (by rfl) pass0 (pa_cons (pv 7) pa_nil))))
      (pss_cons (ps_set (i := 4) sc_k09.nd rfl (Or.inl rfl) (pe_callG GB hr (by rfl) pass0 (pa_cons (pv 2) pa_nil)))
      (pss_cons (ps_for PassesOwn.never rfl (pi_zip (by rfl) hzip (pa_cons (pv 2) (pa_cons (pv 4) pa_nil))) (pg_tup rfl (pgs_cons (pg_name (i := 5) sc_k09.nd rfl (Or.inl rfl)) (pgs_cons (pg_name (i := 6) sc_k09.nd rfl (Or.inl rfl)) pgs_nil)))
        (pss_cons (ps_for PassesOwn.never rfl (pi_enum (by rfl) henum (pa_cons (pv 3) pa_nil)) (pg_tup rfl (pgs_cons (pg_name (i := 7) sc_k09.nd rfl (Or.inl rfl)) (pgs_cons (pg_name (i := 8) sc_k09.nd rfl (Or.inl rfl)) pgs_nil)))
          (pss_one (ps_if (pt_cmpR op_ne (pe_ix ix_tup (pe_methG (pv 8) MW hr pass0 (pa_cons (pv 5) pa_nil)) pe_int (fun _ _ => rfl)) (pe_and (pe_cmp (pc_notN (pv 6)) rfl) (pe_one (pe_cmpR op_le (pv 6) (pe_op op_add (pv 7) pe_int) (nomark _)))) (nomark _))
            (pss_one (ps_ret pe_bl))
            pss_nil)))
        (pss_one (ps_for PassesOwn.never rfl (pi_zip (by rfl) hzip (pa_cons (pv 3) (pa_cons (pe_slice sl_list (pv 3) (po_some pe_int) po_none) pa_nil))) (pg_tup rfl (pgs_cons (pg_name (i := 8) sc_k09.nd rfl (Or.inl rfl)) (pgs_cons (pg_name (i := 9) sc_k09.nd rfl (Or.inr rfl)) pgs_nil)))
          (pss_cons (ps_if (pt_cmpR (op_neS hr.units) (pe_lc (own := [("_law_one", 11)]) (g := gName 11) rfl sc_k09.nd (pi_list (pe_meth0G (pv 8) MT hr pass0)) (blkOk_by (N := n_k09) (sc := defScope s_law) (by decide +kernel)) (fun _ _ _ _ _ => pg_name (i := 11) sc_k09.nd rfl (Or.inl rfl)) (fun _ _ _ _ _ => pts_one (pt_cmpR (op_notIn_seqK (K := K) rfl) (pv 11) (pe_meth0G (pv 9) MT hr pass0) (by with_unfolding_all rfl))) (fun _ _ _ _ _ => (pv 11))) (pe_lst pa_nil) (nomark _))
            (pss_one (ps_ret pe_bl))
            pss_nil)
          (pss_one (ps_if (pt_not (pt_chain op_le op_le (pe_callB call_len_seq (by rfl) hlen PySem.boot_len (pa_cons (pe_meth0G (pv 8) MT hr pass0) pa_nil)) (pe_callB call_len_seq (by rfl) hlen PySem.boot_len (pa_cons (pe_meth0G (pv 9) MT hr pass0) pa_nil)) (pe_op op_add (pe_callB call_len_seq (by rfl) hlen PySem.boot_len (pa_cons (pe_meth0G (pv 8) MT hr pass0) pa_nil)) pe_int)))
            (pss_one (ps_ret pe_bl))
            pss_nil)))))))
      (pss_cons (ps_set (i := 10) sc_k09.nd rfl (Or.inl rfl) (pe_callG GM hr (by rfl) pass0 (pa_cons (pv 2) pa_nil)))
      (pss_cons (ps_if (pt_cmpR (op_neD hr.units) (pe_lc (own := [("_law_shelf", 8)]) (g := gName 8) (tt := tYes) rfl sc_k09.nd (pi_list (pv 3)) (blkOk_by (N := n_k09) (sc := defScope s_law) (by decide +kernel)) (fun _ _ _ _ _ => pg_name (i := 8) sc_k09.nd rfl (Or.inl rfl)) (fun _ _ _ _ _ => pts_nil) (fun _ _ _ _ _ => (pe_meth0G (pv 8) MI hr pass0))) (pe_slice sl_list (pv 10) po_none (po_some pe_int)) (nomark _))
        (pss_one (ps_ret pe_bl))
        pss_nil)
      (pss_one (ps_ret (pe_and (pe_cmpR op_eq (pe_callB call_len_seq (by rfl) hlen PySem.boot_len (pa_cons (pv 10) pa_nil)) pe_int (nomark _)) (pe_one (pe_cmpR (op_eqD hr.units) (pv 10) (pe_callBK (cr_sortedRev (b := true)) (by rfl) hsorted (by decide +kernel) (pa_cons (pv 10) pa_nil) (pk_cons pe_bl pk_nil)) (nomark _)))))))))))), ?_⟩
    refine ⟨_, rfl, _, _, 8, rfl, hS, hlen63, by decide, by decide, fun zs ws t pz pw H1 hz0 hz26 _ hzn hwl hws k1 fz fw ft nzw et ez ew => ?_⟩
    refine ⟨t, _, rfl, SqT.of et, rfl, _, _, rfl, _, _, rfl, rfl, ?_⟩
    have tab1 := k1.tab tab
    have hwn : ∀ z ∈ ws, IsName z := fun z hz => hzn z (hws z hz)
    have hwl3 : ws.length ≤ 300 := by omega
    -- the shelves
    refine ⟨_, _, rfl, ⟨by decide, by decide, by decide, by decide⟩, fun D hD => ?_⟩
    refine lc_it (n := 9) walk_range (fun i H' => ∃ ps ls : List Addr, ps.length = i ∧ H' D = some (.lst (ps.map V.ref)) ∧ P9 C H' ws (fun _ => 0) ps ls ∧ (∀ x ∈ ps ++ ls, H1 x = none) ∧ D ∉ ps ++ ls ∧ Kp (tbOf K) [] H1 H')
      ⟨[], [], rfl, upd_same, ⟨rfl, List.nodup_nil, fun j p l hp => by simp at hp⟩, fun _ h => absurd h (by simp), by simp, Kp.new hD⟩ (fun _ _ _ _ => trivial) ?_ ?_
    · rintro i x H3 H4 hi ⟨ps, ls, hpl, hD4, h9, hfr, nD, kp⟩ ⟨rfl, rfl⟩
      have e1 : ((1 : Int) + (i : Nat)) = ((i + 1 : Nat) : Int) := by omega
      refine ⟨rfl, _, rfl, fun x dx hx hdx _ => ⟨x, dx, ((i + 1 : Nat) : Int), ?_, by omega, by omega, upd_same, fun l H' hl hob hls kp2 => ⟨rfl, ?_⟩⟩⟩
      · show [V.ref x, V.int (1 + (i : Nat))] = _
        rw [e1]
      have km : Kp (tbOf K) [] H4 H' := Kp.made hx hdx kp2
      have hlf : H4 l = none := free_upd (free_upd hl)
      have hD5 := km.get hD4
      have h95 := h9.kp0 km
      have nxD : x ≠ D := (ne_of_none hD4 hx).symm
      have nlD : l ≠ D := (ne_of_none hD4 hlf).symm
      have old := h9.old
      have hx' : x ∉ ps ++ ls := fun q => old x q hx
      have hl' : l ∉ ps ++ ls := fun q => old l q hlf
      have sh : ShAt C H' x ((ps.length + 1 : Nat) : Int) l (coldR ws 0 ps.length) 0 (coldM ws 0 ps.length) [] := by
        rw [hpl]
        refine ⟨hob, ?_⟩
        unfold coldR
        rw [List.take_zero, show mruW [] = [] from rfl, List.take_nil]
        exact hls
      have h96 := h95.snoc (f := fun _ => 0) sh hx' hl'
      have kf : Kp (tbOf K) [D] H' (upd H' D (.lst (ps.map V.ref ++ [.ref x]))) := Kp.put hD5
      have nD' : D ∉ (ps ++ [x]) ++ (ls ++ [l]) := fun q => by
        rw [List.mem_append, not_or] at nD
        rcases List.mem_append.mp q with q | q
        · rcases List.mem_append.mp q with q | q
          · exact nD.1 q
          · exact nxD (List.mem_singleton.mp q).symm
        · rcases List.mem_append.mp q with q | q
          · exact nD.2 q
          · exact nlD (List.mem_singleton.mp q).symm
      refine ⟨_, hD5, by rw [List.length_map, hpl]; exact small_of (m := 9) (by omega), ps ++ [x], ls ++ [l], by rw [List.length_append, hpl]; rfl, by rw [upd_same, List.map_append]; rfl, h96.kp kf (fun y hy hm => nD' (by rw [← List.mem_singleton.mp hm]; exact hy)), fun y hy => ?_, nD', (kp.trans km).transN kf (fun y hy => by rw [List.mem_singleton.mp hy]; exact hD)⟩
      rcases List.mem_append.mp hy with hy | hy
      · rcases List.mem_append.mp hy with hy | hy
        · exact hfr y (List.mem_append.mpr (.inl hy))
        · rw [List.mem_singleton.mp hy]; exact kp.free _ hx
      · rcases List.mem_append.mp hy with hy | hy
        · exact hfr y (List.mem_append.mpr (.inr hy))
        · rw [List.mem_singleton.mp hy]; exact kp.free _ hlf
    rintro H2 ⟨ps, ls, hpl, hD2, h92, hfr, nD, k2⟩
    -- what is known
    refine ⟨_, rfl, pw, ws, rfl, k2.get ew, hwl3, hwn, k2.tab tab1, fun kn H3 fkn hkn k3 => ?_⟩
    have hD3 := k3.get hD2
    have h93 := h92.kp0 k3
    have k13 := k2.trans k3
    have nkn : kn ∉ ps ++ ls := fun q => h92.old kn q fkn
    have hdl : ((depthsW ws ws.length).map oiV).length = ws.length := by rw [List.length_map, depthsW_len]
    refine ⟨_, rfl, _, rfl, pw, kn, _, _, rfl, SqL.of (k13.get ew), SqL.of hkn, ?_⟩
    refine for_it (walk_zip (xs := ws.map V.str) (ys := (depthsW ws ws.length).map oiV) (n := ws.length) (by rw [hdl, List.length_map]; omega)) (fun i σ H' => ∃ v5 v6 v7 v8 v9 : Option V, σ = [some (.ref sa), some (.ref pz), some (.ref pw), some (.ref D), some (.ref kn), v5, v6, v7, v8, v9, none, none] ∧
      H' D = some (.lst (ps.map V.ref)) ∧ H' kn = some (.lst ((depthsW ws ws.length).map oiV)) ∧ P9 C H' ws (fun _ => i) ps ls ∧ Kp (tbOf K) [] H1 H')
      ⟨none, none, none, none, none, rfl, hD3, hkn, h93, k13⟩ (fun i σ H' _ h => by obtain ⟨_, _, _, _, _, _, _, hk, _, kp⟩ := h; exact ⟨SqL.of (kp.get ew), SqL.of hk⟩) ?_ ?_
    · rintro i x σ H4 H5 hi ⟨v5, v6, v7, v8, v9, rfl, hD4, hk4, h94, kp⟩ ⟨Tp, x1, x2, rfl, nT, rfl, e1, e2⟩
      obtain ⟨z, hz, rfl⟩ := get_mapS e1
      have hzn := hwn z (List.mem_of_getElem? hz)
      obtain ⟨dp, hdp, rfl⟩ := get_mapF e2
      have edp : dp = depthW (ws.take i) z := by
        unfold depthsW at hdp
        rw [List.getElem?_map, List.getElem?_range hi] at hdp
        have h2 : depthW (ws.take i) (ws.getD i ⟨#[]⟩) = dp := Option.some.inj hdp
        rw [List.getD_eq_getElem?_getD, hz] at h2
        exact h2.symm
      have etake : ws.take (i + 1) = ws.take i ++ [z] := by rw [List.take_add_one, hz]; rfl
      refine ⟨Tp, _, rfl, SqT.of upd_same, rfl, _, _, rfl, _, _, rfl, rfl, ?_⟩
      have kT : Kp (tbOf K) [] H4 (upd H4 Tp (.tup [.str z, oiV dp])) := Kp.new nT
      have hD5 := kT.get hD4
      have hk5 := kT.get hk4
      have h95 := h94.kp0 kT
      have kp5 := kp.trans kT
      generalize upd H4 Tp (.tup [.str z, oiV dp]) = H5 at kT hD5 hk5 h95 kp5 ⊢
      -- all wish
      refine ⟨_, rfl, D, _, rfl, SqL.of hD5, ?_⟩
      refine for_it walk_enum (fun j σ H' => ∃ v7 v8 : Option V, σ = [some (.ref sa), some (.ref pz), some (.ref pw), some (.ref D), some (.ref kn), some (.str z), some (oiV dp), v7, v8, v9, none, none] ∧
        H' D = some (.lst (ps.map V.ref)) ∧ H' kn = some (.lst ((depthsW ws ws.length).map oiV)) ∧ P9 C H' ws (fun x => if x < j then i + 1 else i) ps ls ∧ Kp (tbOf K) [] H1 H')
        ⟨v7, v8, rfl, hD5, hk5, h95.congr (fun j _ => by rw [if_neg (Nat.not_lt_zero _)]), kp5⟩ (fun j σ H' _ h => by obtain ⟨_, _, _, hd, _⟩ := h; exact SqL.of hd) ?_ ?_
      · rintro j x σ H6 H7 hj ⟨v7, v8, rfl, hD6, hk6, h96, kp6⟩ ⟨Tq, y1, y2, rfl, nTq, rfl, f1, f2⟩
        cases f1
        obtain ⟨p, hp, rfl⟩ := get_mapF f2
        rw [List.length_map] at hj
        refine ⟨Tq, _, rfl, SqT.of upd_same, rfl, _, _, rfl, _, _, rfl, rfl, ?_⟩
        have kT2 : Kp (tbOf K) [] H6 (upd H6 Tq (.tup [.int (j : Nat), .ref p])) := Kp.new nTq
        have hD7 := kT2.get hD6
        have hk7 := kT2.get hk6
        have h97 := h96.kp0 kT2
        have kp7 := kp6.trans kT2
        generalize upd H6 Tq (.tup [.int (j : Nat), .ref p]) = H7 at kT2 hD7 hk7 h97 kp7 ⊢
        obtain ⟨l, m, hl, sh⟩ := h97.get hp
        rw [if_neg (Nat.lt_irrefl _)] at sh
        obtain ⟨dx, hpx⟩ := sh.ob
        have hrl := coldR_len ws i j
        obtain ⟨g, hst⟩ := cold_step (n := j + 1) (by omega) (ws.take i) z
        refine ⟨_, rfl, p, dx, _, rfl, hpx, by rw [oF_wish]; rfl, _, rfl, p, l, _, m, _, z, _, rfl, sh, by omega, by omega, by omega, hzn, kp7.tab tab1, fun t H8 sh8 k8 ft et => ?_⟩
        rw [show stepOC nfCold ((j + 1 : Nat) : Int) (coldR ws i j) z = _ from hst] at sh8 et
        dsimp only at sh8 et
        have mp : p ∈ ps ++ ls := List.mem_append.mpr (.inl (List.mem_of_getElem? hp))
        have ml : l ∈ ps ++ ls := List.mem_append.mpr (.inr (List.mem_of_getElem? hl))
        have notin : ∀ y, y ∉ ps ++ ls → y ∉ [p, l] := fun y hy q => by
          rcases List.mem_cons.mp q with q | q
          · rw [q] at hy; exact hy mp
          · rw [List.mem_singleton.mp q] at hy; exact hy ml
        have eR : ((mruW (ws.take i ++ [z])).take (j + 1)).reverse = coldR ws (i + 1) j := by unfold coldR; rw [etake]
        rw [eR, ← coldM_step hz] at sh8
        have h98 := h97.step hp hl sh8 k8
        have hD8 := k8.get hD7 rfl (notin D nD)
        have hk8 := k8.get hk7 rfl (notin kn nkn)
        have kp8 := kp7.transN k8 (fun y hy => by
          rcases List.mem_cons.mp hy with q | q
          · rw [q]; exact hfr p mp
          · rw [List.mem_singleton.mp q]; exact hfr l ml)
        refine ⟨t, _, 0, _, rfl, rfl, SqT.of et, atI_zero _ _, ?_⟩
        have hfin : ∃ v7' v8' : Option V, [some (.ref sa), some (.ref pz), some (.ref pw), some (.ref D), some (.ref kn), some (.str z), some (oiV dp), some (.int (j : Nat)), some (.ref p), v9, none, none] = [some (.ref sa), some (.ref pz), some (.ref pw), some (.ref D), some (.ref kn), some (.str z), some (oiV dp), v7', v8', v9, none, none] ∧
            H8 D = some (.lst (ps.map V.ref)) ∧ H8 kn = some (.lst ((depthsW ws ws.length).map oiV)) ∧ P9 C H8 ws (fun x => if x < j + 1 then i + 1 else i) ps ls ∧ Kp (tbOf K) [] H1 H8 := by
          refine ⟨_, _, rfl, hD8, hk8, h98.congr fun x _ => ?_, kp8⟩
          by_cases q1 : x = j
          · rw [if_pos q1, if_pos (by omega)]
          · rw [if_neg q1]
            by_cases q2 : x < j
            · rw [if_pos q2, if_pos (by omega)]
            · rw [if_neg q2, if_neg (by omega)]
        rw [← edp]
        cases dp with
        | none =>
          refine ⟨_, rfl, _, rfl, ?_⟩
          exact ⟨rfl, _, rfl, iteF hfin⟩
        | some dd' =>
          refine ⟨_, rfl, _, rfl, ?_⟩
          have ecmp : decide (((dd' : Nat) : Int) ≤ ((j : Nat) : Int) + 1) = decide (dd' ≤ j + 1) := decide_eq_decide.mpr (by omega)
          refine ⟨_, rfl, _, rfl, _, _, rfl, rfl, _, _, rfl, rfl, ?_⟩
          refine ⟨rfl, _, rfl, ?_⟩
          dsimp only
          have e3 : V.bl (leO (j + 1) (some dd')) = V.bl (decide (((dd' : Nat) : Int) ≤ ((j : Nat) : Int) + 1)) := by rw [ecmp]; rfl
          rw [decide_eq_true e3]
          exact iteF hfin
      · rintro σ H6 ⟨v7, v8, rfl, hD6, hk6, h96, kp6⟩
        rw [List.length_map] at h96
        have h96' : P9 C H6 ws (fun _ => i + 1) ps ls := h96.congr fun j hj => by rw [if_pos hj]
        clear h96 h95 h94
        -- one within the other
        refine ⟨_, rfl, _, rfl, _, rfl, D, _, rfl, SqL.of hD6, fun D2 hD2' => ?_⟩
        have ecut : cutV (ps.map V.ref) (some 1) none = ps.tail.map V.ref := by
          unfold cutV
          rw [sIx_pos (by decide)]
          show (List.drop (min (1 : Int).toNat (ps.map V.ref).length) (ps.map V.ref)).take ((ps.map V.ref).length - min (1 : Int).toNat (ps.map V.ref).length) = _
          rw [← List.length_drop, List.take_length, List.length_map, hpl]
          show List.drop 1 (ps.map V.ref) = _
          rw [← List.map_drop, List.drop_one]
        rw [ecut]
        have kD2 : Kp (tbOf K) [] H6 (upd H6 D2 (.lst (ps.tail.map V.ref))) := Kp.new hD2'
        have g2 : (upd H6 D2 (.lst (ps.tail.map V.ref))) D2 = some (.lst (ps.tail.map V.ref)) := upd_same
        have hD7 := kD2.get hD6
        have hk7 := kD2.get hk6
        have h97 := h96'.kp0 kD2
        have kp7 := kp6.trans kD2
        generalize upd H6 D2 (.lst (ps.tail.map V.ref)) = H7 at kD2 g2 hD7 hk7 h97 kp7 ⊢
        refine ⟨D, D2, _, _, rfl, SqL.of hD7, SqL.of g2, ?_⟩
        refine for_it (walk_zip (xs := ps.map V.ref) (ys := ps.tail.map V.ref) (n := 8) (by rw [List.length_map, List.length_map, List.length_tail, hpl]; rfl)) (fun j σ H' => ∃ v8 v9 : Option V, σ = [some (.ref sa), some (.ref pz), some (.ref pw), some (.ref D), some (.ref kn), some (.str z), some (oiV dp), v7, v8, v9, none, none] ∧ Kp (tbOf K) [] H7 H')
          ⟨v8, v9, rfl, Kp.refl _⟩ (fun j σ H' _ ⟨_, _, _, kp⟩ => ⟨SqL.of (kp.get hD7), SqL.of (kp.get g2)⟩) ?_ ?_
        · rintro j x σ H8 H9 hj ⟨v8, v9, rfl, kp8⟩ ⟨Tq, y1, y2, rfl, nTq, rfl, f1, f2⟩
          obtain ⟨p, hp, rfl⟩ := get_mapF f1
          obtain ⟨p', hp', rfl⟩ := get_mapF f2
          rw [List.getElem?_tail] at hp'
          refine ⟨Tq, _, rfl, SqT.of upd_same, rfl, _, _, rfl, _, _, rfl, rfl, ?_⟩
          have kT2 : Kp (tbOf K) [] H8 (upd H8 Tq (.tup [.ref p, .ref p'])) := Kp.new nTq
          have kp9 := kp8.trans kT2
          generalize upd H8 Tq (.tup [.ref p, .ref p']) = H9 at kT2 kp9 ⊢
          have h99 := h97.kp0 kp9
          obtain ⟨l, m, hl, sh⟩ := h99.get hp
          obtain ⟨l', m', hl', sh'⟩ := h99.get hp'
          have hrl := coldR_len ws (i + 1) j
          have hrl' := coldR_len ws (i + 1) (j + 1)
          have hlens := coldR_lens ws (i + 1) j
          have hsub : ∀ y, y ∈ coldR ws (i + 1) j → y ∈ coldR ws (i + 1) (j + 1) := fun y hy => coldR_sub hy
          generalize coldR ws (i + 1) j = R at *
          generalize coldR ws (i + 1) (j + 1) = R' at *
          obtain ⟨dx, hpx⟩ := sh.ob
          refine ⟨_, rfl, p, dx, _, rfl, hpx, by rw [oF_things]; rfl, p, l, _, m, _, R, [], rfl, sh, by omega, fun o H10 fo ho k10 => ?_⟩
          have sRl : (sortS R).length = R.length := (sortS_perm R).length_eq
          refine ⟨o, rfl, ⟨_, SqL.of ho⟩, fun D3 hD3 => ?_⟩
          refine lc_it walk_list (fun i H' => H' D3 = some (.lst []) ∧ Kp (tbOf K) [] H10 H') ⟨upd_same, Kp.new hD3⟩ (fun i H' _ ⟨_, kp⟩ => SqL.of (kp.get ho)) ?_ ?_
          · rintro i' x H11 H12 hi' ⟨hD12, kp12⟩ ⟨rfl, hx⟩
            obtain ⟨y, hy, rfl⟩ := get_mapS hx
            have sh12 := (sh'.kp k10).kp kp12
            obtain ⟨dx', hpx'⟩ := sh12.ob
            refine ⟨rfl, _, rfl, _, rfl, p', dx', _, rfl, hpx', by rw [oF_things]; rfl, p', l', _, m', _, R', [], rfl, sh12, by omega, fun o' H13 fo' ho' k13' => ?_⟩
            refine ⟨o', _, rfl, .inl (SqL.of ho'), rfl, flat_strs _, _, rfl, ?_⟩
            have hin : y ∈ sortS R' := (sortS_perm R').mem_iff.mpr (hsub y ((sortS_perm R).mem_iff.mp (List.mem_of_getElem? hy)))
            rw [if_pos rfl, inV_str, decide_eq_true hin]
            exact iteF ⟨k13'.get hD12, kp12.trans k13'⟩
          rintro H11 ⟨hD11, k11⟩
          refine ⟨Nat.zero_le _, fun e he => ?_⟩
          have k12 : Kp (tbOf K) [] H11 (upd H11 e (.lst [])) := Kp.new he
          have he12 : (upd H11 e (.lst [])) e = some (.lst (([] : List Str).map V.str)) := upd_same
          have hD12 : (upd H11 e (.lst [])) D3 = some (.lst (([] : List Str).map V.str)) := k12.get hD11
          have k912 := k10.trans (k11.trans k12)
          generalize upd H11 e (.lst []) = H12 at k12 he12 hD12 k912 ⊢
          refine ⟨D3, e, [], [], rfl, rfl, SqL.of hD12, SqL.of he12, fun _ h => absurd h (by simp), fun _ h => absurd h (by simp), _, rfl, ?_⟩
          rw [decide_eq_true rfl]
          refine iteF ?_
          have sh13 := sh.kp k912
          have sh13' := sh'.kp k912
          obtain ⟨dx, hpx⟩ := sh13.ob
          refine ⟨_, rfl, p, dx, _, rfl, hpx, by rw [oF_things]; rfl, p, l, _, m, _, R, [], rfl, sh13, by omega, fun o2 H13 fo2 ho2 k13' => ?_⟩
          have sh14' := sh13'.kp k13'
          obtain ⟨dx', hpx'⟩ := sh14'.ob
          refine ⟨o2, _, rfl, .inl (SqL.of ho2), _, rfl, p', dx', _, rfl, hpx', by rw [oF_things]; rfl, p', l', _, m', _, R', [], rfl, sh14', by omega, fun o3 H14 fo3 ho3 k14' => ?_⟩
          refine ⟨o3, _, rfl, .inl (SqL.of ho3), _, _, rfl, rfl, _, rfl, ?_⟩
          have sR'l : (sortS R').length = R'.length := (sortS_perm R').length_eq
          rw [List.length_map, List.length_map, sRl, sR'l, decide_eq_true (show ((R.length : Nat) : Int) ≤ ((R'.length : Nat) : Int) by omega)]
          have sh15 := (sh13.kp k13').kp k14'
          obtain ⟨dx, hpx⟩ := sh15.ob
          refine iteT ⟨_, rfl, p, dx, _, rfl, hpx, by rw [oF_things]; rfl, p, l, _, m, _, R, [], rfl, sh15, by omega, fun o4 H15 fo4 ho4 k15' => ?_⟩
          refine ⟨o4, _, rfl, .inl (SqL.of ho4), _, _, rfl, rfl, _, _, rfl, rfl, _, rfl, ?_⟩
          rw [List.length_map, sRl, decide_eq_true (show ((R'.length : Nat) : Int) ≤ ((R.length : Nat) : Int) + 1 by omega)]
          exact iteF ⟨_, _, rfl, kp9.trans (k912.trans (k13'.trans (k14'.trans k15')))⟩
        · rintro σ H8 ⟨v8, v9, rfl, kp8⟩
          exact ⟨_, _, _, _, _, rfl, kp8.get hD7, kp8.get hk7, h97.kp0 kp8, kp7.trans kp8⟩
    · rintro σ H4 ⟨v5, v6, v7, v8, v9, rfl, hD4, hk4, h94, kp⟩
      refine ⟨_, rfl, pw, ws, rfl, kp.get ew, hwl3, hwn, kp.tab tab1, fun o H5 fo ho k5 => ?_⟩
      have hD5 := k5.get hD4
      have h95 := h94.kp0 k5
      refine ⟨_, rfl, D, rfl, ⟨_, SqL.of hD5⟩, fun D2 hD2' => ?_⟩
      refine lc_it walk_list (LcI (tbOf K) H5 D2 (fun i acc => acc = ((List.range i).map fun j => ((missW ws (j + 1) : Nat) : Int)).map V.int)) (LcI.start hD2' rfl) (fun i H' _ ⟨_, _, kp, _⟩ => SqL.of (kp.get hD5)) ?_ ?_
      · rintro i x H6 H7 hi ⟨acc, rfl, kp6, hD6⟩ ⟨rfl, hx⟩
        obtain ⟨p, hp, rfl⟩ := get_mapF hx
        rw [List.length_map] at hi
        obtain ⟨l, m, hl, sh⟩ := (h95.kp0 kp6).get hp
        obtain ⟨dx, hpx⟩ := sh.ob
        refine ⟨rfl, _, rfl, p, dx, _, rfl, hpx, by rw [oF_nmissed]; rfl, p, l, _, m, _, [], rfl, ⟨dx, hpx⟩, LcI.next hD2' kp6 hD6 (Kp.refl _) ?_ ?_⟩
        · rw [List.length_map, List.length_map, List.length_range]
          exact small_of (m := 9) (by omega)
        · rw [List.range_succ, List.map_append, List.map_append]
          rfl
      rintro H6 ⟨acc, rfl, k6, hD6⟩
      rw [List.length_map, hpl] at hD6
      have ho6 := k6.get ho
      refine ⟨_, rfl, _, rfl, o, _, rfl, SqL.of ho6, fun s2 hs2 => ?_⟩
      have ecut : cutV ((manyW ws).map V.int) none (some 9) = ((List.range 9).map fun j => ((missW ws (j + 1) : Nat) : Int)).map V.int := by
        unfold cutV manyW
        rw [sIx_pos (by decide)]
        show (List.drop 0 _).take (min 9 _ - 0) = _
        rw [List.drop_zero, Nat.sub_zero, List.length_map, List.length_map, List.length_range, ← List.map_take, ← List.map_take]
        rfl
      rw [ecut]
      have k7 : Kp (tbOf K) [] H6 (upd H6 s2 (.lst (((List.range 9).map fun j => ((missW ws (j + 1) : Nat) : Int)).map V.int))) := Kp.new hs2
      have g7 : (upd H6 s2 (.lst (((List.range 9).map fun j => ((missW ws (j + 1) : Nat) : Int)).map V.int))) s2 = some (.lst (((List.range 9).map fun j => ((missW ws (j + 1) : Nat) : Int)).map V.int)) := upd_same
      have hD7 := k7.get hD6
      have ho7 := k7.get ho6
      generalize upd H6 s2 (.lst (((List.range 9).map fun j => ((missW ws (j + 1) : Nat) : Int)).map V.int)) = H7 at k7 g7 hD7 ho7 ⊢
      refine ⟨_, _, dp_ints (SqL.of hD7), dp_ints (SqL.of g7), (ints_self _).1, (ints_self _).1, _, rfl, ?_⟩
      rw [(ints_self _).2]
      refine iteF ?_
      have hml : (manyW ws).length = 20 := by unfold manyW; rw [List.length_map, List.length_range]
      refine ⟨_, rfl, o, _, rfl, .inl (SqL.of ho7), rfl, _, rfl, ?_⟩
      rw [List.length_map, hml]
      refine iteT ⟨_, rfl, _, rfl, o, manyW ws, rfl, rfl, SqL.of ho7, fun ns' p pm od hp => ?_⟩
      have ens : ns' = manyW ws := List.Perm.eq_of_pairwise (le := fun a b : Int => a ≥ b) (fun a b _ _ h1 h2 => by omega) (by unfold OrdB at od; rw [if_pos rfl] at od; exact od) (manyW_desc ws) pm
      rw [ens]
      have k8 : Kp (tbOf K) [] H7 (upd H7 p (.lst ((manyW ws).map V.int))) := Kp.new hp
      refine ⟨_, _, dp_ints (SqL.of (k8.get ho7)), dp_ints (SqL.of upd_same), (ints_self _).1, (ints_self _).1, ?_⟩
      rw [(ints_self _).2]
      exact q _
end
end Kf

namespace Kf
open PySem PySem.Spec PyProof.Rows L2
def dD (a : He.Defn) (x q : Str) (st : Stmt) : He.DefD := ⟨a, x, q, defArgs st, defBody st, defScope st, [], []⟩
def fnL : List He.DefD := [dD ("is_name", none) "is_name" "is_name" s_is_name, dD ("check_name", none) "check_name" "check_name" s_check_name, dD ("check_places", none) "check_places" "check_places" s_check_places, dD ("check_wishes", none) "check_wishes" "check_wishes" s_check_wishes, dD ("_law_mixed", none) "_law_mixed" "_law_mixed" s__law_mixed, dD ("_law_names", none) "_law_names" "_law_names" s__law_names, dD ("_law_drawn", none) "_law_drawn" "_law_drawn" s__law_drawn, dD ("_law_places", none) "_law_places" "_law_places" s__law_places, dD ("depths", none) "depths" "depths" s_depths, dD ("_met", none) "_met" "_met" s__met, dD ("missed_by_places", none) "missed_by_places" "missed_by_places" s_missed_by_places, dD ("law", none) "law" "law" s_law, dD ("Cold", some "__init__") "__init__" "Shelf.__init__" s_Shelf___init__, dD ("Cold", some "wish") "wish" "Shelf.wish" s_Shelf_wish, dD ("Cold", some "things") "things" "Shelf.things" s_Shelf_things, dD ("Cold", some "missed") "missed" "Shelf.missed" s_Shelf_missed, dD ("Cold", some "_free_a_place") "_free_a_place" "Shelf._free_a_place" s_Shelf__free_a_place, dD ("Cold", some "_pick_going") "_pick_going" "Cold._pick_going" s_Cold__pick_going, dD ("Cold", some "_note_wish") "_note_wish" "Cold._note_wish" s_Cold__note_wish]
def faL : List He.Fa := [.glo "is_name", .glo "check_name", .glo "check_places", .glo "check_wishes", .glo "_law_mixed", .glo "_law_names", .glo "_law_drawn", .glo "_law_places", .free "type", .free "str", .free "len", .free "all", .free "int", .free "sum", .free "enumerate", .free "range", .free "list", .int "MOST_LETTERS" 8, .int "MOST_PLACES" 20, .int "MOST_WISHES" 300, .glo "depths", .glo "_met", .glo "missed_by_places", .glo "law", .meth "Cold" "__init__", .meth "Cold" "wish", .meth "Cold" "things", .meth "Cold" "missed", .meth "Cold" "_free_a_place", .meth "Cold" "_pick_going", .meth "Cold" "_note_wish", .glo "Cold", .cls "Cold", .mkr "Cold", .noat "Cold" "_size", .noat "Cold" "_row", .noat "Cold" "_met", .noat "Cold" "_missed", .free "sorted", .free "zip"]
def exL (K : PySem.W.Frag) : Bool := true
def tfL : List He.Defn := [("is_name", none)]
abbrev RL : PySem.W.OpenRow := PySem.W.OpenLaw.row PySem.Challenge.rw_keepfew_k09_whole_shelf_within_shelf
abbrev hkL : PySem.W.Hook := He.hookX 6 faL fnL [] tfL exL
def obL (s : PySem.W.SharedT) : He.AlX := He.obsX 6 faL fnL [] tfL exL (HandSHeadRun.getT s)
theorem obL_eq (s : PySem.W.SharedT) : obL s = hkL.obs s.abs := He.obsX_eq (HandSHeadRun.getT_eq s)
def looseL : List Str := ["_wall", "KeepError", "BadName", "BadPlaces", "BadWishes", "MOST_LETTERS", "MOST_PLACES", "MOST_WISHES", "is_name", "check_name", "check_places", "check_wishes", "depths", "missed_by_places", "_met", "Shelf", "Cold", "_law_mixed", "_law_names", "_law_drawn", "_law_places"]
theorem runL (w : World) : HandSHeadRun.RunEq RL (PySem.W.view RL.prog [26]) hkL obL 5000 looseL w := by
  intro os
  kernel_rfl
end Kf
namespace Kf
open PySem PySem.Spec PyProof.Rows L2
section
variable {P : Program} {w : World} {K : PySem.W.Frag} {h : Heap} {mg : Str → Option Value} {fa : Addr}
theorem lawAt (X : K.In h) (G : h.Ns mainGlobals mg) (hfa : mg ("law" : Str) = some (.ref fa)) (c : He.SaysX faL fnL [] tfL exL w h K) : LamX.LawAtS PySem.Challenge.rw_keepfew_k09_whole_shelf_within_shelf w K L2.CX0 7 63 "_law_script" mg fa h := by
  have cd := c.t.d
  have g_is_name := He.glo_ok X G (cd.fact 0 (f := .glo "is_name") rfl)
  have g_check_name := He.glo_ok X G (cd.fact 1 (f := .glo "check_name") rfl)
  have g_check_places := He.glo_ok X G (cd.fact 2 (f := .glo "check_places") rfl)
  have g_check_wishes := He.glo_ok X G (cd.fact 3 (f := .glo "check_wishes") rfl)
  have g__law_mixed := He.glo_ok X G (cd.fact 4 (f := .glo "_law_mixed") rfl)
  have g__law_names := He.glo_ok X G (cd.fact 5 (f := .glo "_law_names") rfl)
  have g__law_drawn := He.glo_ok X G (cd.fact 6 (f := .glo "_law_drawn") rfl)
  have g__law_places := He.glo_ok X G (cd.fact 7 (f := .glo "_law_places") rfl)
  have z_type := He.free_ok X G (cd.fact 8 (f := .free "type") rfl)
  have z_str := He.free_ok X G (cd.fact 9 (f := .free "str") rfl)
  have z_len := He.free_ok X G (cd.fact 10 (f := .free "len") rfl)
  have z_all := He.free_ok X G (cd.fact 11 (f := .free "all") rfl)
  have z_int := He.free_ok X G (cd.fact 12 (f := .free "int") rfl)
  have z_sum := He.free_ok X G (cd.fact 13 (f := .free "sum") rfl)
  have z_enumerate := He.free_ok X G (cd.fact 14 (f := .free "enumerate") rfl)
  have z_range := He.free_ok X G (cd.fact 15 (f := .free "range") rfl)
  have z_list := He.free_ok X G (cd.fact 16 (f := .free "list") rfl)
  obtain ⟨t_MOST_LETTERS, n_MOST_LETTERS⟩ := He.int_ok X G (cd.fact 17 (f := .int "MOST_LETTERS" 8) rfl)
  obtain ⟨t_MOST_PLACES, n_MOST_PLACES⟩ := He.int_ok X G (cd.fact 18 (f := .int "MOST_PLACES" 20) rfl)
  obtain ⟨t_MOST_WISHES, n_MOST_WISHES⟩ := He.int_ok X G (cd.fact 19 (f := .int "MOST_WISHES" 300) rfl)
  have g_depths := He.glo_ok X G (cd.fact 20 (f := .glo "depths") rfl)
  have g__met := He.glo_ok X G (cd.fact 21 (f := .glo "_met") rfl)
  have g_missed_by_places := He.glo_ok X G (cd.fact 22 (f := .glo "missed_by_places") rfl)
  have g_law := He.glo_ok X G (cd.fact 23 (f := .glo "law") rfl)
  have me_Cold___init__ := He.meth_ok (cd.fact 24 (f := .meth "Cold" "__init__") rfl)
  have me_Cold_wish := He.meth_ok (cd.fact 25 (f := .meth "Cold" "wish") rfl)
  have me_Cold_things := He.meth_ok (cd.fact 26 (f := .meth "Cold" "things") rfl)
  have me_Cold_missed := He.meth_ok (cd.fact 27 (f := .meth "Cold" "missed") rfl)
  have me_Cold__free_a_place := He.meth_ok (cd.fact 28 (f := .meth "Cold" "_free_a_place") rfl)
  have me_Cold__pick_going := He.meth_ok (cd.fact 29 (f := .meth "Cold" "_pick_going") rfl)
  have me_Cold__note_wish := He.meth_ok (cd.fact 30 (f := .meth "Cold" "_note_wish") rfl)
  have g_Cold := He.glo_ok X G (cd.fact 31 (f := .glo "Cold") rfl)
  have cl_Cold := He.cls_ok (cd.fact 32 (f := .cls "Cold") rfl)
  have mk_Cold := He.mkr_ok (cd.fact 33 (f := .mkr "Cold") rfl)
  have na_Cold__size := He.noat_ok (cd.fact 34 (f := .noat "Cold" "_size") rfl)
  have na_Cold__row := He.noat_ok (cd.fact 35 (f := .noat "Cold" "_row") rfl)
  have na_Cold__met := He.noat_ok (cd.fact 36 (f := .noat "Cold" "_met") rfl)
  have na_Cold__missed := He.noat_ok (cd.fact 37 (f := .noat "Cold" "_missed") rfl)
  have z_sorted := He.free_ok X G (cd.fact 38 (f := .free "sorted") rfl)
  have z_zip := He.free_ok X G (cd.fact 39 (f := .free "zip") rfl)
  obtain ⟨fd_is_name, F_is_name⟩ := cd.def_ 0 (d := dD ("is_name", none) "is_name" "is_name" s_is_name) rfl
  have F_is_name : FnP K "is_name" "is_name" s_is_name (He.fAd K ("is_name", none)) fd_is_name := F_is_name
  obtain ⟨fd_check_name, F_check_name⟩ := cd.def_ 1 (d := dD ("check_name", none) "check_name" "check_name" s_check_name) rfl
  have F_check_name : FnP K "check_name" "check_name" s_check_name (He.fAd K ("check_name", none)) fd_check_name := F_check_name
  obtain ⟨fd_check_places, F_check_places⟩ := cd.def_ 2 (d := dD ("check_places", none) "check_places" "check_places" s_check_places) rfl
  have F_check_places : FnP K "check_places" "check_places" s_check_places (He.fAd K ("check_places", none)) fd_check_places := F_check_places
  obtain ⟨fd_check_wishes, F_check_wishes⟩ := cd.def_ 3 (d := dD ("check_wishes", none) "check_wishes" "check_wishes" s_check_wishes) rfl
  have F_check_wishes : FnP K "check_wishes" "check_wishes" s_check_wishes (He.fAd K ("check_wishes", none)) fd_check_wishes := F_check_wishes
  obtain ⟨fd__law_mixed, F__law_mixed⟩ := cd.def_ 4 (d := dD ("_law_mixed", none) "_law_mixed" "_law_mixed" s__law_mixed) rfl
  have F__law_mixed : FnP K "_law_mixed" "_law_mixed" s__law_mixed (He.fAd K ("_law_mixed", none)) fd__law_mixed := F__law_mixed
  obtain ⟨fd__law_names, F__law_names⟩ := cd.def_ 5 (d := dD ("_law_names", none) "_law_names" "_law_names" s__law_names) rfl
  have F__law_names : FnP K "_law_names" "_law_names" s__law_names (He.fAd K ("_law_names", none)) fd__law_names := F__law_names
  obtain ⟨fd__law_drawn, F__law_drawn⟩ := cd.def_ 6 (d := dD ("_law_drawn", none) "_law_drawn" "_law_drawn" s__law_drawn) rfl
  have F__law_drawn : FnP K "_law_drawn" "_law_drawn" s__law_drawn (He.fAd K ("_law_drawn", none)) fd__law_drawn := F__law_drawn
  obtain ⟨fd__law_places, F__law_places⟩ := cd.def_ 7 (d := dD ("_law_places", none) "_law_places" "_law_places" s__law_places) rfl
  have F__law_places : FnP K "_law_places" "_law_places" s__law_places (He.fAd K ("_law_places", none)) fd__law_places := F__law_places
  obtain ⟨fd_depths, F_depths⟩ := cd.def_ 8 (d := dD ("depths", none) "depths" "depths" s_depths) rfl
  have F_depths : FnP K "depths" "depths" s_depths (He.fAd K ("depths", none)) fd_depths := F_depths
  obtain ⟨fd__met, F__met⟩ := cd.def_ 9 (d := dD ("_met", none) "_met" "_met" s__met) rfl
  have F__met : FnP K "_met" "_met" s__met (He.fAd K ("_met", none)) fd__met := F__met
  obtain ⟨fd_missed_by_places, F_missed_by_places⟩ := cd.def_ 10 (d := dD ("missed_by_places", none) "missed_by_places" "missed_by_places" s_missed_by_places) rfl
  have F_missed_by_places : FnP K "missed_by_places" "missed_by_places" s_missed_by_places (He.fAd K ("missed_by_places", none)) fd_missed_by_places := F_missed_by_places
  obtain ⟨fd_law, F_law⟩ := cd.def_ 11 (d := dD ("law", none) "law" "law" s_law) rfl
  have F_law : FnP K "law" "law" s_law (He.fAd K ("law", none)) fd_law := F_law
  obtain ⟨fd_Cold___init__, F_Cold___init__⟩ := cd.def_ 12 (d := dD ("Cold", some "__init__") "__init__" "Shelf.__init__" s_Shelf___init__) rfl
  have F_Cold___init__ : FnP K "__init__" "Shelf.__init__" s_Shelf___init__ (He.fAd K ("Cold", some "__init__")) fd_Cold___init__ := F_Cold___init__
  obtain ⟨fd_Cold_wish, F_Cold_wish⟩ := cd.def_ 13 (d := dD ("Cold", some "wish") "wish" "Shelf.wish" s_Shelf_wish) rfl
  have F_Cold_wish : FnP K "wish" "Shelf.wish" s_Shelf_wish (He.fAd K ("Cold", some "wish")) fd_Cold_wish := F_Cold_wish
  obtain ⟨fd_Cold_things, F_Cold_things⟩ := cd.def_ 14 (d := dD ("Cold", some "things") "things" "Shelf.things" s_Shelf_things) rfl
  have F_Cold_things : FnP K "things" "Shelf.things" s_Shelf_things (He.fAd K ("Cold", some "things")) fd_Cold_things := F_Cold_things
  obtain ⟨fd_Cold_missed, F_Cold_missed⟩ := cd.def_ 15 (d := dD ("Cold", some "missed") "missed" "Shelf.missed" s_Shelf_missed) rfl
  have F_Cold_missed : FnP K "missed" "Shelf.missed" s_Shelf_missed (He.fAd K ("Cold", some "missed")) fd_Cold_missed := F_Cold_missed
  obtain ⟨fd_Cold__free_a_place, F_Cold__free_a_place⟩ := cd.def_ 16 (d := dD ("Cold", some "_free_a_place") "_free_a_place" "Shelf._free_a_place" s_Shelf__free_a_place) rfl
  have F_Cold__free_a_place : FnP K "_free_a_place" "Shelf._free_a_place" s_Shelf__free_a_place (He.fAd K ("Cold", some "_free_a_place")) fd_Cold__free_a_place := F_Cold__free_a_place
  obtain ⟨fd_Cold__pick_going, F_Cold__pick_going⟩ := cd.def_ 17 (d := dD ("Cold", some "_pick_going") "_pick_going" "Cold._pick_going" s_Cold__pick_going) rfl
  have F_Cold__pick_going : FnP K "_pick_going" "Cold._pick_going" s_Cold__pick_going (He.fAd K ("Cold", some "_pick_going")) fd_Cold__pick_going := F_Cold__pick_going
  obtain ⟨fd_Cold__note_wish, F_Cold__note_wish⟩ := cd.def_ 18 (d := dD ("Cold", some "_note_wish") "_note_wish" "Cold._note_wish" s_Cold__note_wish) rfl
  have F_Cold__note_wish : FnP K "_note_wish" "Cold._note_wish" s_Cold__note_wish (He.fAd K ("Cold", some "_note_wish")) fd_Cold__note_wish := F_Cold__note_wish
  have e := hfa.symm.trans g_law
  cases e
  have hx := c.more
  unfold exL at hx
  refine ⟨fd_law, [He.cT K ("is_name", none)], spLaw K, fun p hp => ?_, fun p hp => ?_, fun p hp => ?_, fun s u => ?_, fun H a ns hl _ hT hS => ?_, fun base KX hN hTB => ?_⟩
  · rw [List.mem_singleton.mp hp]
    exact c.empty _ (by unfold tfL; exact List.mem_cons_self)
  · rw [List.mem_singleton.mp hp]
    exact c.out _ (by unfold tfL; exact List.mem_cons_self)
  · rw [List.mem_singleton.mp hp]
    exact PySem.W.codeHd_of_K X (c.hd _ (by unfold tfL; exact List.mem_cons_self))
  · exact FunD.bindsA (ps := ["_law_script"]) F_law (fun _ _ _ _ _ _ us hl => match us, hl with | [_], _ => rfl) s [u] rfl
  · exact ⟨a, ns, rfl, hS, hl, ⟨#[], hT _ List.mem_cons_self, trivial⟩, fun _ => rfl⟩
  have TB0 := hTB _ (List.mem_cons_self)
  have TB : GxR.TabB base mg (cIsName K) (tbOf K) := ⟨TB0.code, TB0.bm, TB0.gP⟩
  have G_is_name : Glob PySem.Challenge.rw_keepfew_k09_whole_shelf_within_shelf.prog w K mg base CX0 1 "is_name" ["value"] (spIsName K) := glob_of F_is_name g_is_name (fun _ _ _ _ _ _ us hl => match us, hl with | [_], _ => rfl) (ok_isname F_is_name TB n_MOST_LETTERS z_type z_str z_len z_all)
  have G_check_name : Glob PySem.Challenge.rw_keepfew_k09_whole_shelf_within_shelf.prog w K mg base CX0 2 "check_name" ["name"] (spCheckName K) := glob_of F_check_name g_check_name (fun _ _ _ _ _ _ us hl => match us, hl with | [_], _ => rfl) (ok_checkname F_check_name G_is_name)
  have G_check_places : Glob PySem.Challenge.rw_keepfew_k09_whole_shelf_within_shelf.prog w K mg base CX0 1 "check_places" ["places"] spCheckPlaces := glob_of F_check_places g_check_places (fun _ _ _ _ _ _ us hl => match us, hl with | [_], _ => rfl) (ok_checkplaces F_check_places n_MOST_PLACES z_type z_int)
  have G_check_wishes : Glob PySem.Challenge.rw_keepfew_k09_whole_shelf_within_shelf.prog w K mg base CX0 2 "check_wishes" ["wishes"] (spCheckWishes K) := glob_of F_check_wishes g_check_wishes (fun _ _ _ _ _ _ us hl => match us, hl with | [_], _ => rfl) (ok_checkwishes F_check_wishes G_is_name n_MOST_WISHES z_type z_list z_len z_enumerate)
  have G__law_mixed : Glob PySem.Challenge.rw_keepfew_k09_whole_shelf_within_shelf.prog w K mg base CX0 1 "_law_mixed" ["_law_cell", "_law_k"] spMixed := glob_of F__law_mixed g__law_mixed (fun _ _ _ _ _ _ us hl => match us, hl with | [_, _], _ => rfl) (ok_mixed F__law_mixed)
  have G__law_names : Glob PySem.Challenge.rw_keepfew_k09_whole_shelf_within_shelf.prog w K mg base CX0 1 "_law_names" ["_law_number", "_law_many"] (spNames (tbOf K)) := glob_of F__law_names g__law_names (fun _ _ _ _ _ _ us hl => match us, hl with | [_, _], _ => rfl) (ok_names F__law_names z_range z_enumerate)
  have G__law_drawn : Glob PySem.Challenge.rw_keepfew_k09_whole_shelf_within_shelf.prog w K mg base CX0 2 "_law_drawn" ["_law_script", "_law_most"] (spDrawn K (tbOf K)) := glob_of F__law_drawn g__law_drawn (fun _ _ _ _ _ _ us hl => match us, hl with | [_, _], _ => rfl) (ok_drawn F__law_drawn G__law_mixed G__law_names z_len z_sum z_int z_enumerate)
  have G__law_places : Glob PySem.Challenge.rw_keepfew_k09_whole_shelf_within_shelf.prog w K mg base CX0 2 "_law_places" ["_law_script", "_law_k"] (spPlaces K (tbOf K)) := glob_of F__law_places g__law_places (fun _ _ _ _ _ _ us hl => match us, hl with | [_, _], _ => rfl) (ok_places F__law_places G__law_mixed z_len z_sum)
  have G_depths : Glob PySem.Challenge.rw_keepfew_k09_whole_shelf_within_shelf.prog w K mg base CX0 3 "depths" ["wishes"] (spDepths (tbOf K)) := glob_of F_depths g_depths (fun _ _ _ _ _ _ us hl => match us, hl with | [_], _ => rfl) (ok_depths F_depths z_len G_check_wishes)
  have G__met : Glob PySem.Challenge.rw_keepfew_k09_whole_shelf_within_shelf.prog w K mg base CX0 3 "_met" ["told", "places"] (spMetP (tbOf K)) := glob_of F__met g__met (fun _ _ _ _ _ _ us hl => match us, hl with | [_, _], _ => rfl) (ok_metp (k0 := 2) F__met z_len)
  have G_missed_by_places : Glob PySem.Challenge.rw_keepfew_k09_whole_shelf_within_shelf.prog w K mg base CX0 4 "missed_by_places" ["wishes"] (spMissedBy (tbOf K)) := glob_of F_missed_by_places g_missed_by_places (fun _ _ _ _ _ _ us hl => match us, hl with | [_], _ => rfl) (ok_mbp F_missed_by_places n_MOST_PLACES z_len z_range G_depths G__met)
  have T_Cold : ClsT K (He.ga K "Cold") := ⟨cl_Cold, na_Cold__size, na_Cold__row, na_Cold__met, na_Cold__missed⟩
  have K_Cold : MakeOk PySem.Challenge.rw_keepfew_k09_whole_shelf_within_shelf.prog w K mg base CX0 2 "Cold" (He.ga K "Cold") ["self", "places"] (spInit (tbOf K) (He.ga K "Cold")) := ⟨_, fd_Cold___init__, g_Cold, mk_Cold, binds_of F_Cold___init__ (fun _ _ _ _ _ _ us hl => match us, hl with | [_, _], _ => rfl), ok_init F_Cold___init__ T_Cold G_check_places⟩
  have M_Cold_missed : MethOk PySem.Challenge.rw_keepfew_k09_whole_shelf_within_shelf.prog w K mg base CX0 1 (He.ga K "Cold") "missed" ["self"] (spInt (He.ga K "Cold") fun _ _ k => k) := ⟨_, fd_Cold_missed, cl_Cold, me_Cold_missed, binds_of F_Cold_missed (fun _ _ _ _ _ _ us hl => match us, hl with | [_], _ => rfl), ok_missed F_Cold_missed T_Cold⟩
  have M_Cold_things : MethOk PySem.Challenge.rw_keepfew_k09_whole_shelf_within_shelf.prog w K mg base CX0 1 (He.ga K "Cold") "things" ["self"] (spList (tbOf K) (He.ga K "Cold") sortS) := ⟨_, fd_Cold_things, cl_Cold, me_Cold_things, binds_of F_Cold_things (fun _ _ _ _ _ _ us hl => match us, hl with | [_], _ => rfl), ok_things F_Cold_things T_Cold z_sorted⟩
  have M_Cold__pick_going : MethOk PySem.Challenge.rw_keepfew_k09_whole_shelf_within_shelf.prog w K mg base CX0 1 (He.ga K "Cold") "_pick_going" ["self"] (spPickOC (He.ga K "Cold")) := ⟨_, fd_Cold__pick_going, cl_Cold, me_Cold__pick_going, binds_of F_Cold__pick_going (fun _ _ _ _ _ _ us hl => match us, hl with | [_], _ => rfl), ok_cpick F_Cold__pick_going T_Cold⟩
  have M_Cold__note_wish : MethOk PySem.Challenge.rw_keepfew_k09_whole_shelf_within_shelf.prog w K mg base CX0 1 (He.ga K "Cold") "_note_wish" ["self", "name"] (spNoteOC nfCold (tbOf K) (He.ga K "Cold")) := ⟨_, fd_Cold__note_wish, cl_Cold, me_Cold__note_wish, binds_of F_Cold__note_wish (fun _ _ _ _ _ _ us hl => match us, hl with | [_, _], _ => rfl), ok_cnote F_Cold__note_wish T_Cold⟩
  have M_Cold__free_a_place : MethOk PySem.Challenge.rw_keepfew_k09_whole_shelf_within_shelf.prog w K mg base CX0 2 (He.ga K "Cold") "_free_a_place" ["self"] (spFreeOC (tbOf K) (He.ga K "Cold")) := ⟨_, fd_Cold__free_a_place, cl_Cold, me_Cold__free_a_place, binds_of F_Cold__free_a_place (fun _ _ _ _ _ _ us hl => match us, hl with | [_], _ => rfl), ok_freeOC F_Cold__free_a_place T_Cold z_len M_Cold__pick_going⟩
  have M_Cold_wish : MethOk PySem.Challenge.rw_keepfew_k09_whole_shelf_within_shelf.prog w K mg base CX0 3 (He.ga K "Cold") "wish" ["self", "name"] (spWishOC nfCold (tbOf K) (He.ga K "Cold")) := ⟨_, fd_Cold_wish, cl_Cold, me_Cold_wish, binds_of F_Cold_wish (fun _ _ _ _ _ _ us hl => match us, hl with | [_, _], _ => rfl), ok_wishOC (k0 := 0) F_Cold_wish T_Cold G_check_name M_Cold__free_a_place (M_Cold__note_wish.mono (by decide))⟩
  exact ok_k09 (k0 := 0) F_law z_range z_len z_zip z_enumerate z_sorted (G__law_drawn.mono (by decide)) (G_depths.mono (by decide)) (G_missed_by_places.mono (by decide)) (K_Cold.mono (by decide)) (M_Cold_wish.mono (by decide)) (M_Cold_things.mono (by decide)) (M_Cold_missed.mono (by decide))
end
end Kf
open PySem PySem.W PySem.Calls PyProof.Rows
theorem PySem.Challenge.cw_keepfew_k09_whole_shelf_within_shelf_holds : PySem.Challenge.rw_keepfew_k09_whole_shelf_within_shelf.Holds := by
  w_on; o_law
  refine HandSHeadRun.head_any (r := OpenLaw.row PySem.Challenge.rw_keepfew_k09_whole_shelf_within_shelf) (q := view (OpenLaw.row PySem.Challenge.rw_keepfew_k09_whole_shelf_within_shelf).prog [26]) (H := Kf.hkL) (ob := Kf.obL) (M := 5000) (loose := Kf.looseL) (d := HandSHeadRun.topDef (OpenLaw.row PySem.Challenge.rw_keepfew_k09_whole_shelf_within_shelf).prog 26) (kwd := []) Kf.obL_eq
    (by kernel_rfl) (fun s => by kernel_rfl) Kf.runL (by kernel_rfl) (by kernel_rfl) (by kernel_rfl) (by rfl) (by first | assumption | decide +kernel) (by decide +kernel) ⟨rfl, rfl, rfl, rfl, rfl, by decide +kernel⟩ ?hw ?hc
  case hw => w_witness2
  case hc =>
    refine LamX.walk_ofTsE (l := PySem.Challenge.rw_keepfew_k09_whole_shelf_within_shelf) (n := 63) (k := 7) (x := "_law_script") (CX := fun _ => L2.CX0) rfl (by decide) (by kernel_rfl) ⟨rfl, by decide, by decide⟩ ?F (fun _ _ _ _ _ z => z)
    intro w mg fa h Y G hmg0
    obtain ⟨K, KX, c⟩ := Y
    have hmg : mg ("law" : PySem.Str) = some (.ref fa) := by
      have e : (HandSHeadRun.topDef (OpenLaw.row PySem.Challenge.rw_keepfew_k09_whole_shelf_within_shelf).prog 26).name = ("law" : PySem.Str) := by kernel_rfl
      rw [← e]
      exact hmg0
    exact ⟨K, KX, Kf.lawAt KX G hmg c⟩
