import PyProof.Rows.All
import Wide.All
import OpenK.AllK
import Wide.FinOn
import HandS.ForMost
import HandS.ForExc
import HandS.AnyAll
import HandS.SetFor
import HandS.Walk
import HandS.Style
import HandS.Strs
import HandS.IsInst
import HandS.More
import HandS.Flow
import HandS.Codes
import HandS.Defaults
import HandS.HeadHook1
import HandS.HeadHook2
import HandS.HeadHook3
import HandS.HeadHook4
import HandS.HeadWalk
import HandS.Head0
import HandS.Head1
import HandS.Head2
import PyProof.TypeEq
import PyProof.InstEq
import HandS.ClsMeth
import KE.KStateDown
import PySem.Challenge.RW_keepfew_k03_marked_shelves
set_option Elab.async false
set_option linter.all false
set_option maxRecDepth 100000
set_option maxHeartbeats 8000000
/-! Order of texts, and rules of my own over flat lists: remove, count, min, sorted. -/
namespace Kf
open PySem PySem.Spec PyProof.Rows L2

/-! ### texts by letters -/
def ltB (a b : Str) : Bool := decide (a.cps.toList < b.cps.toList)
def leB (a b : Str) : Bool := !ltB b a
theorem ltB_irrefl (a : Str) : ltB a a = false := decide_eq_false (List.lt_irrefl _)
theorem leB_iff {a b : Str} : leB a b = true ↔ a.cps.toList ≤ b.cps.toList := by
  unfold leB ltB
  rw [Bool.not_eq_true', decide_eq_false_iff_not]
  exact List.not_lt
theorem leB_refl (a : Str) : leB a a = true := leB_iff.mpr (List.le_refl _)
theorem leB_trans {a b c : Str} (h : leB a b = true) (k : leB b c = true) : leB a c = true := leB_iff.mpr (List.le_trans (leB_iff.mp h) (leB_iff.mp k))
theorem leB_total (a b : Str) : leB a b = true ∨ leB b a = true := by
  rw [leB_iff, leB_iff]
  exact List.le_total _ _
theorem leB_antisymm {a b : Str} (h : leB a b = true) (k : leB b a = true) : a = b := ext_toList (List.le_antisymm (leB_iff.mp h) (leB_iff.mp k))
theorem ltB_leB {a b : Str} (h : ltB a b = true) : leB a b = true := leB_iff.mpr (List.le_of_lt (of_decide_eq_true h))
theorem leB_ne {a b : Str} (h : leB a b = true) (n : a ≠ b) : ltB a b = true := by
  cases e : ltB a b with
  | true => rfl
  | false =>
    have k : leB b a = true := by unfold leB; rw [e]; rfl
    exact absurd (leB_antisymm h k) n

/-! ### sorted texts -/
def sortS (xs : List Str) : List Str := xs.mergeSort leB
theorem sortS_perm (xs : List Str) : (sortS xs).Perm xs := List.mergeSort_perm xs leB
theorem sortS_pw (xs : List Str) : (sortS xs).Pairwise (fun a b => leB a b = true) :=
  List.pairwise_mergeSort (le := leB) (fun _ _ _ h k => leB_trans h k) (fun a b => by
    rcases leB_total a b with h | h <;> simp [h]) xs
theorem pw_uniq : ∀ {xs ys : List Str}, xs.Perm ys → xs.Pairwise (fun a b => leB a b = true) → ys.Pairwise (fun a b => leB a b = true) → xs = ys := fun {xs ys} p h k =>
  List.Perm.eq_of_pairwise (le := fun a b => leB a b = true) (fun _ _ _ _ h k => leB_antisymm h k) h k p
theorem sortS_of_perm {xs ys : List Str} (p : xs.Perm ys) : sortS xs = sortS ys := pw_uniq (((sortS_perm xs).trans p).trans (sortS_perm ys).symm) (sortS_pw xs) (sortS_pw ys)
theorem risingS_pw : ∀ {p : Str} {l : List Str}, risingS p l = true → (p :: l).Pairwise (fun a b => leB a b = true)
  | p, [], _ => List.pairwise_cons.mpr ⟨fun _ h => absurd h (by simp), List.Pairwise.nil⟩
  | p, x :: r, h => by
    have h2 : (!ltCps x.cps.toList p.cps.toList && risingS x r) = true := h
    rw [Bool.and_eq_true, ltCps_eq] at h2
    have ih := risingS_pw h2.2
    refine List.pairwise_cons.mpr ⟨fun y hy => ?_, ih⟩
    have px : leB p x = true := h2.1
    rcases List.mem_cons.mp hy with e | hy
    · rw [e]; exact px
    · exact leB_trans px ((List.pairwise_cons.mp ih).1 y hy)
theorem sortedS_pw {l : List Str} (h : sortedS l = true) : l.Pairwise (fun a b => leB a b = true) := by
  cases l with
  | nil => exact List.Pairwise.nil
  | cons x r => exact risingS_pw h
theorem sortS_eq {xs ys : List Str} (p : ys.Perm xs) (h : sortedS ys = true) : ys = sortS xs := pw_uniq (p.trans (sortS_perm xs).symm) (sortedS_pw h) (sortS_pw xs)

/-! ### the least text -/
def minS : List Str → Str
  | [] => ⟨#[]⟩
  | [x] => x
  | x :: r => if leB x (minS r) then x else minS r
theorem minS_spec : ∀ {l : List Str}, l ≠ [] → minS l ∈ l ∧ ∀ y ∈ l, leB (minS l) y = true
  | [], h => absurd rfl h
  | [x], _ => ⟨List.mem_cons_self, fun y hy => by rw [List.mem_singleton.mp hy]; exact leB_refl _⟩
  | x :: y :: r, _ => by
    obtain ⟨h1, h2⟩ := minS_spec (l := y :: r) (by simp)
    show (if leB x (minS (y :: r)) then x else minS (y :: r)) ∈ _ ∧ ∀ z ∈ _, leB (if leB x (minS (y :: r)) then x else minS (y :: r)) z = true
    cases e : leB x (minS (y :: r)) with
    | true =>
      refine ⟨List.mem_cons_self, fun z hz => ?_⟩
      rcases List.mem_cons.mp hz with q | hz
      · rw [q]; exact leB_refl _
      · exact leB_trans e (h2 z hz)
    | false =>
      refine ⟨List.mem_cons_of_mem _ h1, fun z hz => ?_⟩
      rcases List.mem_cons.mp hz with q | hz
      · rw [q]
        rcases leB_total x (minS (y :: r)) with w | w
        · rw [e] at w; cases w
        · exact w
      · exact h2 z hz
theorem minS_uniq {l : List Str} {m : Str} (hm : m ∈ l) (h : ∀ y ∈ l, leB m y = true) : m = minS l := by
  obtain ⟨h1, h2⟩ := minS_spec (l := l) (fun e => by rw [e] at hm; cases hm)
  exact leB_antisymm (h _ h1) (h2 _ hm)
theorem minS_mem {l : List Str} (h : l ≠ []) : minS l ∈ l := (minS_spec h).1
theorem argBest_ltS (num : Nat → Str) : ∀ k, argBest (fun i j => ltB (num i) (num j)) k ≤ k ∧ ∀ j, j ≤ k → leB (num (argBest (fun i j => ltB (num i) (num j)) k)) (num j) = true
  | 0 => ⟨Nat.le_refl _, fun j hj => by
    have e : j = 0 := by omega
    subst e
    exact leB_refl _⟩
  | k + 1 => by
    obtain ⟨h1, h2⟩ := argBest_ltS num k
    simp only [argBest]
    by_cases hc : ltB (num (k + 1)) (num (argBest (fun i j => ltB (num i) (num j)) k)) = true
    · rw [if_pos hc]
      refine ⟨Nat.le_refl _, fun j hj => ?_⟩
      rcases Nat.lt_or_ge j (k + 1) with hlt | hge
      · exact leB_trans (ltB_leB hc) (h2 j (by omega))
      · have e : j = k + 1 := by omega
        subst e
        exact leB_refl _
    · rw [if_neg hc]
      refine ⟨by omega, fun j hj => ?_⟩
      rcases Nat.lt_or_ge j (k + 1) with hlt | hge
      · exact h2 j (by omega)
      · have e : j = k + 1 := by omega
        subst e
        unfold leB
        rw [Bool.eq_false_iff.mpr hc]
        rfl
theorem ltS_cmp {prog : Program} {w : World} {A : Around} {Pv : Nat → Value → Prop} (val : Nat → Str) (hval : ∀ i v, Pv i v → ∃ t, v = .str (val i) t) :
    CmpOf prog w A .Lt Pv (fun i j => ltB (val i) (val j)) := fun i j vi vj s Q E hi hj h => by
  obtain ⟨t, rfl⟩ := hval i vi hi
  obtain ⟨u, rfl⟩ := hval j vj hj
  have q := PySem.P.lt_str (prog := prog) (w := w) (A := A) (E := E) (s := s) (x := val i) (y := val j) (t := t) (u := u) (Q := Q) h
  exact q

/-! ### rules -/
section
variable {X : Cx}
theorem erase_mapS : ∀ (l : List Str) (j : Nat), (l.map V.str).eraseIdx j = (l.eraseIdx j).map V.str
  | [], j => by simp
  | a :: r, 0 => by simp
  | a :: r, j + 1 => by
    have ih := erase_mapS r j
    simp [ih]
theorem first_atS : ∀ {ns : List Str} {k : Str}, k ∈ ns → ∃ j, j < ns.length ∧ ns[j]? = some k ∧ (∀ i, i < j → ns[i]? ≠ some k) ∧ ns.eraseIdx j = ns.erase k
  | [], k, h => absurd h (by simp)
  | a :: r, k, h => by
    by_cases e : a = k
    · refine ⟨0, Nat.succ_pos _, by rw [e] <;> rfl, fun i hi => absurd hi (Nat.not_lt_zero _), ?_⟩
      rw [e, List.erase_cons_head] <;> rfl
    · have hr : k ∈ r := by
        rcases List.mem_cons.mp h with z | z
        · exact absurd z.symm e
        · exact z
      obtain ⟨j, h1, h2, h3, h4⟩ := first_atS hr
      refine ⟨j + 1, Nat.succ_lt_succ h1, h2, fun i hi => ?_, ?_⟩
      · cases i with
        | zero =>
          intro z
          exact e (Option.some.inj z)
        | succ i => exact h3 i (Nat.lt_of_succ_lt_succ hi)
      · rw [List.erase_cons_tail (by rw [beq_iff_eq]; exact e), ← h4] <;> rfl
theorem isStr_at (k : Str) : ∀ {vs : List Value} {ns : List Str}, StrsAre vs ns → ∀ (i : Nat) (h : i < vs.length), isStrOf k vs[i] = true ↔ ns[i]? = some k
  | _, _, .nil, i, h => absurd h (by simp)
  | _, _, .cons n t hr, 0, _ => by
    show (n == k) = true ↔ some n = some k
    rw [beq_iff_eq, Option.some_inj]
  | _, _, .cons n t hr, i + 1, h => isStr_at k hr i (Nat.lt_of_succ_lt_succ h)
/-- xs.remove(k), texts, k is there -/
def rRemS : V → List V → Hp → VK → Prop := fun x xs H Q => ∃ (l : Addr) (ns : List Str) (k : Str), x = .ref l ∧ xs = [.str k] ∧ H l = some (.lst (ns.map V.str)) ∧ k ∈ ns ∧ Q .non (upd H l (.lst ((ns.erase k).map V.str)))
theorem mt_removeS : MtM X "list.remove" rRemS := by
  intro pins s σ H x xs v us Q I rx rxs h
  obtain ⟨l, ns, k, rfl, rfl, hH, hk, q⟩ := h
  cases rx
  obtain ⟨u, rfl, ru⟩ := rxs.one
  obtain ⟨t, rfl⟩ := ru
  obtain ⟨z, its, n, r, hl, e⟩ := I.lstM hH
  have hi := Vals.strs r
  rw [List.length_map] at hl z
  obtain ⟨j, j1, j2, j3, j4⟩ := first_atS hk
  have hj : j < its.length := by omega
  refine call_meets PySem.F.slot_list_remove ⟨_, e, rfl⟩ PySem.F.entry_list_remove (PySem.F.args_list_remove_2 _ _)
    (MeetsSeq.list_remove l its.toArray n (.str k t) (isStrOf k) (fun y hy => eq_isStrOf k t hi y (by simpa using hy)) j (by rw [List.size_toArray]; exact hj) ?_ (fun i hi2 hlt => ?_) (by rw [List.size_toArray]; omega)) ⟨e, ?_⟩
  · show isStrOf k its[j] = true
    exact (isStr_at k hi j hj).mpr j2
  · have hi3 : i < its.length := by rw [List.size_toArray] at hi2; exact hi2
    show isStrOf k its[i] = false
    rw [Bool.eq_false_iff]
    intro w
    exact j3 i hlt ((isStr_at k hi i hi3).mp w)
  · have rr := r.eraseIdx j
    rw [erase_mapS, j4] at rr
    refine ⟨.non, _, I.lset (its' := its.eraseIdx j) (t' := s.toks) hH e ?_ rr ?_, rfl, q⟩
    · show its.toArray.eraseIdxIfInBounds j = (its.eraseIdx j).toArray
      rw [List.eraseIdxIfInBounds_toArray]
    · rw [List.length_map]
      have := List.length_erase_le (a := k) (l := ns)
      omega
/-- xs.count(x), flat items -/
def rCntF (K : PySem.W.Frag) : V → List V → Hp → VK → Prop := fun x xs H Q => ∃ (p : Addr) (ys : List V) (y : V), x = .ref p ∧ xs = [y] ∧ SqL K H p ys ∧ flatV y = true ∧ ys.all flatV = true ∧ Q (.int (ys.countP fun z => eqV z y : Nat)) H
theorem countP_eqU {x : V} : ∀ {xs : List V} {us : List Value}, Vals xs us → xs.all flatV = true → us.countP (eqU x) = xs.countP fun y => eqV y x
  | _, _, .nil, _ => rfl
  | y :: xs, u :: us, .cons r t, f => by
    rw [List.all_cons, Bool.and_eq_true] at f
    rw [List.countP_cons, List.countP_cons, eqU_of r f.1, countP_eqU t f.2]
theorem mt_countF : MtR X "list.count" (rCntF X.K) := by
  intro pins s σ H x xs v us Q I rx rxs h
  obtain ⟨p, ys, y, rfl, rfl, hs, fy, fys, q⟩ := h
  cases rx
  obtain ⟨u, rfl, ru⟩ := rxs.one
  obtain ⟨its, rv, ⟨⟨cls, dd, data, sl⟩, n, ho, hc, hdn, hd⟩, hlen⟩ := I.list hs
  simp only at hc hd
  subst hc hd
  refine call_meets PySem.F.slot_list_count ⟨_, ho, rfl⟩ PySem.F.entry_list_count (PySem.F.args_list_count_2 _ _)
    (SeqAt.list_countAt p its.toArray n dd sl u (eqU y)) ⟨ho, fun z hz => mem_eqAt ru fy rv fys z (by simpa using hz), ?_⟩
  refine ⟨.int (ys.countP fun z => eqV z y : Nat), H, I.tok _, ⟨s.toks, ?_⟩, q⟩
  show Value.int ((its.toArray.toList.countP (eqU y) : Nat) : Int) s.toks = Value.int ((ys.countP fun z => eqV z y : Nat) : Int) s.toks
  rw [show its.toArray.toList.countP (eqU y) = _ from countP_eqU rv fys]
/-- min(xs), texts -/
def rMinS (K : PySem.W.Frag) : List V → Hp → VK → Prop := fun vs H Q => ∃ (a : Addr) (ns : List Str), vs = [V.ref a] ∧ SqL K H a (ns.map V.str) ∧ ns ≠ [] ∧ Q (.str (minS ns)) H
theorem strs_len : ∀ {vs : List Value} {ns : List Str}, StrsAre vs ns → vs.length = ns.length
  | _, _, .nil => rfl
  | _, _, .cons n t h => congrArg (· + 1) (strs_len h)
theorem strs_get : ∀ {vs : List Value} {ns : List Str}, StrsAre vs ns → ∀ {i : Nat} {v : Value}, vs[i]? = some v → ∃ t, v = .str (ns.getD i ⟨#[]⟩) t
  | _, _, .nil, i, v, h => by simp at h
  | _, _, .cons n t hr, 0, v, h => ⟨t, (Option.some.inj h).symm⟩
  | _, _, .cons n t hr, i + 1, v, h => by
    obtain ⟨t', e⟩ := strs_get hr (i := i) (v := v) h
    exact ⟨t', e⟩
theorem cr_minS (hc : X.calm = true) : CallR X (.builtin "min") (rMinS X.K) := by
  intro pins s σ H vs us Q I r h
  obtain ⟨a, ns, rfl, hs, hne, q⟩ := h
  obtain ⟨its, rv, hl, _⟩ := I.list hs
  rw [Vals.ref1 r]
  have hi := Vals.strs rv
  have hln := strs_len hi
  have hpos : 0 < its.length := by
    rw [hln]
    exact List.length_pos_iff.mpr hne
  have hll := hl.isList
  have hlt : a < s.heap.objs.size := by obtain ⟨_, e, _⟩ := hll; exact Heap.lt_size e
  have hval : ∀ i v, its.toArray[i]? = some v → ∃ t, v = Value.str (ns.getD i ⟨#[]⟩) t := fun i v e => strs_get hi (by simpa using e)
  refine call_min_walk (wpAny_pyIter_list hll ?_)
  refine ⟨_, _, _, _, _, _, _, rfl, Walks.list (A := X.A.in1) (I.ok.hd hc) _ a (Nat.ne_of_lt hlt) its.toArray, ⟨⟨_, Heap.get?_push_size _ rfl, rfl, rfl⟩, hll.push _⟩, fun b hb => ?_, by simpa using hpos, ltS_cmp (fun i => ns.getD i ⟨#[]⟩) hval, fun v h' tk hP hk => ?_⟩
  · show b < (s.heap.push _).objs.size
    rw [Heap.size_push]
    rcases List.mem_cons.mp hb with e | hb
    · rw [e]
      exact Nat.lt_succ_self _
    · rw [List.mem_singleton.mp hb]
      exact Nat.lt_succ_of_lt hlt
  · obtain ⟨t, rfl⟩ := hval _ v hP
    obtain ⟨b1, b2⟩ := argBest_ltS (fun i => ns.getD i ⟨#[]⟩) (its.toArray.size - 1)
    rw [List.size_toArray] at b1 b2
    have hb : argBest (fun i j => ltB (ns.getD i ⟨#[]⟩) (ns.getD j ⟨#[]⟩)) (its.length - 1) < ns.length := by omega
    have em : ns.getD (argBest (fun i j => ltB (ns.getD i ⟨#[]⟩) (ns.getD j ⟨#[]⟩)) (its.toArray.size - 1)) ⟨#[]⟩ = minS ns := by
      rw [List.size_toArray]
      refine minS_uniq ?_ fun y hy => ?_
      · rw [List.getD_eq_getElem?_getD, List.getElem?_eq_getElem hb]
        exact List.getElem_mem hb
      · obtain ⟨i, hi2, e⟩ := List.mem_iff_getElem.mp hy
        have e2 : ns.getD i ⟨#[]⟩ = y := by rw [List.getD_eq_getElem?_getD, List.getElem?_eq_getElem hi2, ← e] <;> rfl
        rw [← e2]
        exact b2 i (by omega)
    rw [em]
    refine ⟨.str _, H, I.kept (t' := tk) fun b u e => hk b u (fun hmem => ?_) (Heap.get?_push_of_some _ e), ⟨t, rfl⟩, q⟩
    have e1 : b = s.heap.objs.size := List.mem_singleton.mp hmem
    have e2 := Heap.lt_size e
    rw [e1] at e2
    exact absurd e2 (Nat.lt_irrefl _)
/-- sorted(xs), texts: the sorted list -/
def rSortS (K : PySem.W.Frag) : List V → Hp → VK → Prop := fun vs H Q => ∃ (a : Addr) (xs : List Str), vs = [V.ref a] ∧ SqL K H a (xs.map V.str) ∧ xs.length < 64 ∧
  ∀ p : Addr, H p = none → Q (.ref p) (upd H p (.lst ((sortS xs).map V.str)))
theorem cr_sortS : CallR X (.builtin "sorted") (rSortS X.K) := by
  intro pins s σ H vs us Q I r h
  obtain ⟨a, xs, e, hs, h64, q⟩ := h
  refine cr_sortedS pins s σ H vs us Q I r ⟨a, xs, e, hs, h64, fun ys p pm so np => ?_⟩
  rw [sortS_eq pm so]
  exact q p np
end

/-! ### one sign of a name -/
def lowB (c : Nat) : Bool := decide (97 ≤ c) && decide (c ≤ 122)
/-- 'a' <= x <= 'z' -/
theorem elt_low {prog : Program} {w : World} {scope : Scope} {x : Str} {j j2 : Nat} {p1 p2 p3 p4 : Pos} (hk : scope.kind = .function) (hl : scope.names.lookup x = some .local) (hd : (x == ("__debug__" : Str)) = false := by decide) :
    GxR.EltP prog w scope x (.Compare (.Constant (.str "a") j p2) [.LtE, .LtE] [.Name x p1, .Constant (.str "z") j2 p4] p3) lowB := by
  intro cenv A' E' c t s₂ m₂ hs hn hm
  refine Compare_chain ?_ (by rfl)
  refine Calls.Constant_str ?_
  refine chain_link ?_
  have hn' : ({ s₂ with toks := s₂.toks + 1 } : Shared).heap.Ns cenv.locals m₂ := hn
  refine wpAny_Name (wpAny_loadName_local (by rw [hs]; exact hk) (show cenv.scope.names.lookup x = some .local by rw [hs]; exact hl) hn' hm ?_) hd
  refine PySem.P.le_str ?_
  refine wpAny_truthy_bool ?_
  have e1 : (!decide ((⟨#[c]⟩ : Str).cps.toList < ("a" : Str).cps.toList)) = decide (97 ≤ c) := by
    have ea : ("a" : Str).cps.toList = [97] := by decide +kernel
    rw [ea]
    show (!decide ([c] < [97])) = decide (97 ≤ c)
    rw [← ltCps_eq]
    show (!(decide (c < 97) || (c == 97 && false))) = decide (97 ≤ c)
    rw [Bool.and_false, Bool.or_false, ← decide_not]
    exact decide_eq_decide.mpr Nat.not_lt
  rw [e1]
  cases h97 : decide (97 ≤ c) with
  | false => exact ite_ff ⟨by unfold lowB; rw [h97]; rfl, GxR.keeps_tok _ _⟩
  | true =>
    refine ite_tt (chain_last (Calls.Constant_str (PySem.P.le_str ⟨?_, GxR.keeps_tok _ _⟩)))
    have e2 : (!decide (("z" : Str).cps.toList < (⟨#[c]⟩ : Str).cps.toList)) = decide (c ≤ 122) := by
      have ea : ("z" : Str).cps.toList = [122] := by decide +kernel
      rw [ea]
      show (!decide ([122] < [c])) = decide (c ≤ 122)
      rw [← ltCps_eq]
      show (!(decide (122 < c) || (122 == c && false))) = decide (c ≤ 122)
      rw [Bool.and_false, Bool.or_false, ← decide_not]
      exact decide_eq_decide.mpr Nat.not_lt
    rw [e2]
    unfold lowB
    rw [h97]
    rfl
/-- a name -/
def IsName (z : Str) : Prop := 1 ≤ z.length ∧ z.length ≤ 8 ∧ z.cps.toList.all lowB = true
end Kf

/-! What is kept, defs by what they promise, and calls. -/
namespace Kf
open PySem PySem.Spec PyProof.Rows L2

/-! ### what is kept: all but the table at tb and the objects of S -/
def notTbl : HO → Bool
  | .tbl _ => false
  | _ => true
structure Kp (tb : Addr) (S : List Addr) (H H' : Hp) : Prop where
  keep : ∀ b o, H b = some o → notTbl o = true → b ∉ S → H' b = some o
  tab : GxR.TabG H tb → GxR.TabG H' tb
  free : ∀ b, H' b = none → H b = none
theorem Kp.refl {tb : Addr} {S : List Addr} (H : Hp) : Kp tb S H H := ⟨fun _ _ h _ _ => h, fun h => h, fun _ h => h⟩
theorem Kp.trans {tb : Addr} {S : List Addr} {H H1 H2 : Hp} (a : Kp tb S H H1) (b : Kp tb S H1 H2) : Kp tb S H H2 :=
  ⟨fun c o h n m => b.keep c o (a.keep c o h n m) n m, fun h => b.tab (a.tab h), fun c h => a.free c (b.free c h)⟩
theorem Kp.mono {tb : Addr} {S S' : List Addr} {H H1 : Hp} (a : Kp tb S H H1) (h : ∀ x ∈ S, x ∈ S') : Kp tb S' H H1 :=
  ⟨fun c o h' n m => a.keep c o h' n (fun z => m (h c z)), a.tab, a.free⟩
theorem Kp.nil {tb : Addr} {S : List Addr} {H H1 : Hp} (a : Kp tb [] H H1) : Kp tb S H H1 := a.mono fun _ h => absurd h (by simp)
theorem Kp.get {tb : Addr} {S : List Addr} {H H1 : Hp} (a : Kp tb S H H1) {b : Addr} {o : HO} (h : H b = some o) (n : notTbl o = true := by rfl) (m : b ∉ S := by simp) : H1 b = some o := a.keep b o h n m
theorem free_upd {H : Hp} {p b : Addr} {o : HO} (h : upd H p o b = none) : H b = none := by
  by_cases e : b = p
  · rw [e, upd_same] at h
    cases h
  · rw [upd_ne e] at h
    exact h
/-- a new object -/
theorem Kp.new {tb : Addr} {S : List Addr} {H : Hp} {p : Addr} {o : HO} (h : H p = none) : Kp tb S H (upd H p o) :=
  ⟨fun b u e _ _ => by rw [upd_ne (ne_of_none e h)]; exact e, fun ⟨ps, e, t⟩ => ⟨ps, by rw [upd_ne (ne_of_none e h)]; exact e, t⟩, fun _ => free_upd⟩
theorem Kp.put {tb : Addr} {S : List Addr} {H : Hp} {p : Addr} {o u : HO} (h : H p = some u) (n : notTbl u = true := by rfl) (hp : p ∈ S := by simp) : Kp tb S H (upd H p o) :=
  ⟨fun b v e _ m => by rw [upd_ne (fun z => m (by rw [z]; exact hp))]; exact e, fun ⟨ps, e, t⟩ => ⟨ps, by
    rw [upd_ne (fun z => by rw [z, h] at e; cases e; cases n)]
    exact e, t⟩, fun _ => free_upd⟩
theorem Kp.step {tb : Addr} {S : List Addr} {H H1 : Hp} {p : Addr} {o : HO} (a : Kp tb S H H1) (h : H1 p = none) : Kp tb S H (upd H1 p o) := a.trans (Kp.new h)
/-- a store to what is new since H -/
theorem Kp.own {tb : Addr} {S : List Addr} {H H1 : Hp} {p : Addr} {o u : HO} (a : Kp tb S H H1) (h0 : H p = none) (h : H1 p = some u) (n : notTbl u = true := by rfl) : Kp tb S H (upd H1 p o) :=
  ⟨fun b v e m k => by rw [upd_ne (ne_of_none e h0)]; exact a.keep b v e m k, fun t => (Kp.put (S := [p]) h n).tab (a.tab t), fun b e => a.free b (free_upd e)⟩
theorem Kp.seq {tb : Addr} {S : List Addr} {K : PySem.W.Frag} {H H' : Hp} {a : Addr} {xs : List V} (e : Kp tb S H H') (h : SqL K H a xs) (m : a ∉ S := by simp) : SqL K H' a xs := by
  rcases h with (h | ⟨o, h⟩) | h
  · exact .inl (.inl (e.get h rfl m))
  · exact .inl (.inr ⟨o, e.get h rfl m⟩)
  · exact .inr h
theorem tab_new {tb : Addr} {H : Hp} {p : Addr} {o : HO} (t : GxR.TabG H tb) (h : H p = none) : GxR.TabG (upd H p o) tb := (Kp.new (S := []) h).tab t
/-- the table may have grown -/
theorem Kp.tabbed {tb : Addr} {S : List Addr} {H H' : Hp} (t : GxR.TabG H tb) (h : GxR.Tabbed tb H H') : Kp tb S H H' := by
  obtain ⟨h1, h2⟩ := h
  refine ⟨fun b o e n _ => ?_, fun _ => h1, fun b e => ?_⟩
  · rw [h2 b (fun z => ?_)]
    · exact e
    · obtain ⟨ps, e2, _⟩ := t
      rw [z, e2] at e
      cases e
      cases n
  · by_cases z : b = tb
    · obtain ⟨ps, e2, _⟩ := h1
      rw [z, e2] at e
      cases e
    · rw [h2 b z] at e
      exact e

/-! ### defs of the text -/
abbrev FnP (K : PySem.W.Frag) (x qual : Str) (st : Stmt) (f : Addr) (fd : FuncData) : Prop := FunD K x qual (defArgs st) (defBody st) (defScope st) [] [] f fd
section
variable {P : Program} {w : World} {K : PySem.W.Frag} {mg : Str → Option Value} {base : Heap}
/-- the module's name x is a def that keeps its promise -/
def Glob (P : Program) (w : World) (K : PySem.W.Frag) (mg : Str → Option Value) (base : Heap) (CX : CXT) (k : Nat) (x : Str) (ps : List Str) (sp : Sp) : Prop :=
  ∃ f fd, mg x = some (.ref f) ∧ PySem.W.keepIn K (.ref f) = true ∧ Binds K fd ps [] ∧ FnOk P w K mg base CX k f fd ps sp
/-- the method m of the class at C -/
def MethOk (P : Program) (w : World) (K : PySem.W.Frag) (mg : Str → Option Value) (base : Heap) (CX : CXT) (k : Nat) (C : Addr) (m : Str) (ps : List Str) (sp : Sp) : Prop :=
  ∃ f fd, Cls K C ∧ Meth K C m f ∧ Binds K fd ps [] ∧ FnOk P w K mg base CX k f fd ps sp
/-- the class x is made -/
def MakeOk (P : Program) (w : World) (K : PySem.W.Frag) (mg : Str → Option Value) (base : Heap) (CX : CXT) (k : Nat) (x : Str) (C : Addr) (ps : List Str) (sp : Sp) : Prop :=
  ∃ f fd, mg x = some (.ref C) ∧ Mk K C f ∧ Binds K fd ps [] ∧ FnOk P w K mg base CX k f fd ps sp
theorem Glob.mono {CX : CXT} {j k : Nat} {x : Str} {ps : List Str} {sp : Sp} (G : Glob P w K mg base CX j x ps sp) (h : j ≤ k) : Glob P w K mg base CX k x ps sp := by
  obtain ⟨f, fd, a, b, c, d⟩ := G
  exact ⟨f, fd, a, b, c, d.mono h⟩
theorem MethOk.mono {CX : CXT} {j k : Nat} {C : Addr} {x : Str} {ps : List Str} {sp : Sp} (G : MethOk P w K mg base CX j C x ps sp) (h : j ≤ k) : MethOk P w K mg base CX k C x ps sp := by
  obtain ⟨f, fd, a, b, c, d⟩ := G
  exact ⟨f, fd, a, b, c, d.mono h⟩
theorem MakeOk.mono {CX : CXT} {j k : Nat} {C : Addr} {x : Str} {ps : List Str} {sp : Sp} (G : MakeOk P w K mg base CX j x C ps sp) (h : j ≤ k) : MakeOk P w K mg base CX k x C ps sp := by
  obtain ⟨f, fd, a, b, c, d⟩ := G
  exact ⟨f, fd, a, b, c, d.mono h⟩
theorem glob_of {CX : CXT} {k : Nat} {x qual : Str} {st : Stmt} {f : Addr} {fd : FuncData} {ps : List Str} {sp : Sp} (F : FnP K x qual st f fd) (hm : mg x = some (.ref f))
    (hb : ∀ (kV doc pm : Value) (an : Option Addr) (cdv ct : Value) (us : List Value), us.length = ps.length → bindArgs (PySem.W.fnOf x qual (defArgs st) (defBody st) (defScope st) .none kV doc pm an cdv ct) ⟨us, []⟩ = pure (ps.zip us))
    (G : FnOk P w K mg base CX k f fd ps sp) : Glob P w K mg base CX k x ps sp := by
  exact ⟨f, fd, hm, F.kp, FunD.bindsN F hb, G⟩
theorem binds_of {x qual : Str} {st : Stmt} {f : Addr} {fd : FuncData} {ps : List Str} (F : FnP K x qual st f fd)
    (hb : ∀ (kV doc pm : Value) (an : Option Addr) (cdv ct : Value) (us : List Value), us.length = ps.length → bindArgs (PySem.W.fnOf x qual (defArgs st) (defBody st) (defScope st) .none kV doc pm an cdv ct) ⟨us, []⟩ = pure (ps.zip us)) : Binds K fd ps [] := by
  exact FunD.bindsN F hb
theorem ok0 {CX : CXT} {x qual : Str} {st : Stmt} {f : Addr} {fd : FuncData} {N ps : List Str} {k : Nat} {sp : Sp} (F : FnP K x qual st f fd) (S : FnScope N ps (defScope st)) (len : ∀ vs H Q E, sp vs H Q E → vs.length = ps.length)
    (hbody : ∀ (cdv : Value) (A : Around) (outer : List Env) (s : Shared) (H : Hp) (vs : List V) (Q : VK) (E : XK), Room k (A.deeper (envOfC qual (defScope st) s.heap.objs.size f cdv)) → sp vs H Q E →
      ∃ t, PSs (cxOf CX P w K mg base N qual (defScope st) f cdv A outer s H E).nox (defBody st) t ∧ t { nx := fun _ H' => Q .non H', rt := Q } (start N vs) H) : FnOk P w K mg base CX (k + 1) f fd ps sp :=
  FunD.ok F S len fun cdv A outer s H vs Q E hr hsp => by
    obtain ⟨t, h, q⟩ := hbody cdv A outer s H vs Q E hr hsp
    exact ⟨t, h.nox, q⟩
/-- as FunD.ok, with the code object told -/
theorem okC {CX : CXT} {x qual : Str} {st : Stmt} {f : Addr} {fd : FuncData} {N ps : List Str} {k : Nat} {sp : Sp} {p : He.Defn} (hp : He.fAd K p = f) (F : FnP K x qual st f fd) (S : FnScope N ps (defScope st)) (len : ∀ vs H Q E, sp vs H Q E → vs.length = ps.length)
    (hbody : ∀ (cdv : Value) (A : Around) (outer : List Env) (s : Shared) (H : Hp) (vs : List V) (Q : VK) (E : XK), cdv = .ref (He.codeOf K p) → Room k (A.deeper (envOfC qual (defScope st) s.heap.objs.size f cdv)) → sp vs H Q E →
      ∃ t, PSs (cxOf CX P w K mg base N qual (defScope st) f cdv A outer s H E) (defBody st) t ∧ t { nx := fun _ H' => Q .non H', rt := Q } (start N vs) H) : FnOk P w K mg base CX (k + 1) f fd ps sp := by
  obtain ⟨oc, od, dV, kV, doc, pm, an, cdv, ct, osl, rfl, lk, hcd, _, _⟩ := F.ex
  obtain ⟨c, hc⟩ := He.codeIn_ref hcd
  have e : cdv = .ref (He.codeOf K p) := by
    rw [He.codeOf_eq (p := p) (by rw [hp]; exact lk) hc]
    exact hc
  exact fn_of lk hcd S len fun A outer s H vs Q E hr hsp => hbody cdv A outer s H vs Q E e hr hsp
end
section
variable {X : Cx} {CX : CXT} {k : Nat} {C : Addr} {ps : List Str} {sp : Sp} {E : XK} {x m : Str} {p pos apos : Pos} {e o : Expr} {es : List Expr} {ta : TE} {t : TA}
theorem pe_callG (G : Glob X.prog X.w X.K X.mg X.base CX k x ps sp) (hr : Room k X.A) (hg : Gl X x) (hx : Passes CX X E) (ha : PA X (e :: es) t) (hdb : (x == ("__debug__" : Str)) = false := by decide)
    (he : starEach (e :: es) X.env = (false, eval e X.env) :: starEach es X.env := by rfl) (hpl : (backTo pos (starEach es X.env)).any (·.1) = false := by rfl) : PE X (.Call (.Name x p) (e :: es) [] pos) (tCall sp [] E t) := by
  obtain ⟨f, fd, hm, kp, b, F⟩ := G
  exact pe_call F hr hg hm kp b .nil hx ha hdb he hpl
theorem pe_methG {pl : Sem Bool} (ho : PE X o ta) (G : MethOk X.prog X.w X.K X.mg X.base CX k C m ps sp) (hr : Room k X.A) (hx : Passes CX X E) (ha : PA X (e :: es) t)
    (hst : starEach (e :: es) X.env = (false, eval e X.env) :: starEach es X.env := by rfl) (hpl : (backTo pos (starEach es X.env)).any (·.1) = false := by rfl)
    (ht : eval (.Call (.Attribute o m apos) (e :: es) [] pos) X.env = (do
      let ov ← eval o X.env
      standAt apos.atName
      let (f, first) ← holding [ov] (getMethod ov m pl)
      callWith pos f first (backTo pos (starEach (e :: es) X.env)) (backToKw pos (keywordEach [] X.env))) := by rfl) :
    PE X (.Call (.Attribute o m apos) (e :: es) [] pos) (tMeth C m sp [] E ta t) := by
  obtain ⟨f, fd, c, hm, b, F⟩ := G
  exact pe_meth ho c hm F hr b .nil hx ha hst hpl ht
theorem pe_meth0G {pl : Sem Bool} (ho : PE X o ta) (G : MethOk X.prog X.w X.K X.mg X.base CX k C m ps sp) (hr : Room k X.A) (hx : Passes CX X E)
    (ht : eval (.Call (.Attribute o m apos) [] [] pos) X.env = (do
      let ov ← eval o X.env
      standAt apos.atName
      let (f, first) ← holding [ov] (getMethod ov m pl)
      callWith pos f first (backTo pos (starEach [] X.env)) (backToKw pos (keywordEach [] X.env))) := by rfl) :
    PE X (.Call (.Attribute o m apos) [] [] pos) (tMeth C m sp [] E ta tNil) := by
  obtain ⟨f, fd, c, hm, b, F⟩ := G
  exact pe_meth0 ho c hm F hr b .nil hx ht
theorem pe_makeG (G : MakeOk X.prog X.w X.K X.mg X.base CX k x C ps sp) (hr : Room (k + 1) X.A) (hg : Gl X x) (hx : Passes CX X E) (ha : PA X (e :: es) t) (hdb : (x == ("__debug__" : Str)) = false := by decide)
    (he : starEach (e :: es) X.env = (false, eval e X.env) :: starEach es X.env := by rfl) (hpl : (backTo pos (starEach es X.env)).any (·.1) = false := by rfl) : PE X (.Call (.Name x p) (e :: es) [] pos) (tMake C sp [] E t) := by
  obtain ⟨f, fd, hm, M, b, F⟩ := G
  exact pe_make M F hr hg hm b .nil hx ha hdb he hpl
end

/-! ### comprehensions that gather -/
def LcI (tb : Addr) (H1 : Hp) (D : Addr) (R : Nat → List V → Prop) (i : Nat) (H : Hp) : Prop := ∃ acc, R i acc ∧ Kp tb [] H1 H ∧ H D = some (.lst acc)
theorem LcI.start {tb : Addr} {H1 : Hp} {D : Addr} {R : Nat → List V → Prop} (hD : H1 D = none) (h : R 0 []) : LcI tb H1 D R 0 (upd H1 D (.lst [])) := ⟨[], h, Kp.new hD, upd_same⟩
theorem LcI.next {tb : Addr} {H1 H H4 : Hp} {D : Addr} {R : Nat → List V → Prop} {i : Nat} {acc : List V} {y : V} (hD : H1 D = none) (kp : Kp tb [] H1 H) (hd : H D = some (.lst acc)) (k2 : Kp tb [] H H4) (hl : acc.length < sizeLine) (hr : R (i + 1) (acc ++ [y])) :
    ∃ acc, H4 D = some (.lst acc) ∧ acc.length < sizeLine ∧ LcI tb H1 D R (i + 1) (upd H4 D (.lst (acc ++ [y]))) := by
  have h4 : H4 D = some (.lst acc) := k2.get hd
  exact ⟨acc, h4, hl, acc ++ [y], hr, (kp.trans k2).own hD h4, upd_same⟩
theorem small_of {n m : Nat} (h : n ≤ m) (hm : m < sizeLine := by decide) : n < sizeLine := Nat.lt_of_le_of_lt h hm
theorem get_mapI {ns : List Int} {i : Nat} {y : V} (hi : (ns.map V.int)[i]? = some y) : ∃ z, ns[i]? = some z ∧ y = V.int z := by
  rw [List.getElem?_map] at hi
  cases e : ns[i]? with
  | none =>
    rw [e] at hi
    cases hi
  | some z =>
    rw [e] at hi
    exact ⟨z, rfl, (Option.some.inj hi).symm⟩
theorem get_mapS {ns : List Str} {i : Nat} {y : V} (hi : (ns.map V.str)[i]? = some y) : ∃ z, ns[i]? = some z ∧ y = V.str z := by
  rw [List.getElem?_map] at hi
  cases e : ns[i]? with
  | none =>
    rw [e] at hi
    cases hi
  | some z =>
    rw [e] at hi
    exact ⟨z, rfl, (Option.some.inj hi).symm⟩

theorem ite_else {c A B : Prop} [Decidable c] (hB : B) (hA : B → c → A) : if c then A else B := by
  by_cases h : c
  · rw [if_pos h]
    exact hA hB h
  · rw [if_neg h]
    exact hB
theorem ite_then {c A B : Prop} [Decidable c] (hA : A) (hB : A → ¬ c → B) : if c then A else B := by
  by_cases h : c
  · rw [if_pos h]
    exact hA
  · rw [if_neg h]
    exact hB hA h

/-! ### letters -/
def Low (z : Str) : Prop := z.cps.toList.all lowB = true
theorem low_app {a b : Str} (ha : Low a) (hb : Low b) : Low (a ++ b) := by
  unfold Low
  rw [Str.cps_append, Array.toList_append, List.all_append, Bool.and_eq_true]
  exact ⟨ha, hb⟩
theorem len_app (a b : Str) : (a ++ b).length = a.length + b.length := Str.length_append a b
theorem cut_list (z : Str) (lo hi : Option Int) : (cutS z lo hi).cps.toList = (z.cps.toList.drop (HT.sIx z.length 0 lo)).take (HT.sIx z.length z.length hi - HT.sIx z.length 0 lo) := by
  unfold cutS
  simp
theorem low_cut {z : Str} (h : Low z) (lo hi : Option Int) : Low (cutS z lo hi) := by
  unfold Low at *
  rw [cut_list]
  rw [List.all_eq_true] at *
  exact fun c hc => h c (List.mem_of_mem_drop (List.mem_of_mem_take hc))
theorem len_cut (z : Str) (lo hi : Option Int) : (cutS z lo hi).length = min (HT.sIx z.length z.length hi - HT.sIx z.length 0 lo) (z.length - HT.sIx z.length 0 lo) := by
  have e : (cutS z lo hi).length = (cutS z lo hi).cps.toList.length := by simp [Str.length]
  have e2 : z.cps.toList.length = z.length := by simp [Str.length]
  rw [e, cut_list, List.length_take, List.length_drop, e2]
theorem sIx_pos {n d : Nat} {v : Int} (h : 0 ≤ v) : HT.sIx n d (some v) = min v.toNat n := by
  show (if v < 0 then (v + (n : Int)).toNat else min v.toNat n) = _
  rw [if_neg (by omega)]
theorem isName_of {z : Str} (h1 : 1 ≤ z.length) (h8 : z.length ≤ 8) (h : Low z) : IsName z := ⟨h1, h8, h⟩
theorem low_nil : Low ("" : Str) := by
  show ("" : Str).cps.toList.all lowB = true
  decide +kernel
theorem join_low : ∀ (ys : List Str), (∀ y ∈ ys, Low y) → Low (Str.join ("" : Str) ys)
  | [], _ => rfl
  | [x], h => h x List.mem_cons_self
  | x :: y :: r, h => by
    show Low (x ++ ("" : Str) ++ Str.join ("" : Str) (y :: r))
    exact low_app (low_app (h x List.mem_cons_self) low_nil) (join_low (y :: r) fun z hz => h z (List.mem_cons_of_mem _ hz))
theorem join_len : ∀ (ys : List Str), (∀ y ∈ ys, y.length = 1) → (Str.join ("" : Str) ys).length = ys.length
  | [], _ => by decide +kernel
  | [x], h => h x List.mem_cons_self
  | x :: y :: r, h => by
    show (x ++ ("" : Str) ++ Str.join ("" : Str) (y :: r)).length = _
    rw [len_app, len_app, join_len (y :: r) fun z hz => h z (List.mem_cons_of_mem _ hz), h x List.mem_cons_self]
    have e : ("" : Str).length = 0 := by decide +kernel
    rw [e]
    simp only [List.length_cons]
    omega
theorem tjoin_eq (ys : List Str) : Txt.join ("" : Str) ys = Str.join ("" : Str) ys := StrLaws.glued_eq_join _ _
theorem letter_at : ∀ n : Nat, n < 26 → ∃ c, ("abcdefghijklmnopqrstuvwxyz" : Str).cps.toList[n]? = some c ∧ lowB c = true := by
  intro n hn
  have h : ∀ m : Fin 26, ∃ c, ("abcdefghijklmnopqrstuvwxyz" : Str).cps.toList[m.val]? = some c ∧ lowB c = true := by
    have e : ("abcdefghijklmnopqrstuvwxyz" : Str).cps.toList = (List.range 26).map (· + 97) := by decide +kernel
    rw [e]
    intro m
    refine ⟨m.val + 97, ?_, ?_⟩
    · rw [List.getElem?_map, List.getElem?_range m.isLt]
      rfl
    · unfold lowB
      have := m.isLt
      rw [decide_eq_true (by omega), decide_eq_true (by omega)]
      rfl
  exact h ⟨n, hn⟩
theorem letter_atI {i : Int} (h0 : 0 ≤ i) (h : i < 26) : ∃ c, atI ("abcdefghijklmnopqrstuvwxyz" : Str).cps.toList i = some c ∧ lowB c = true := by
  obtain ⟨c, h1, h2⟩ := letter_at i.toNat (by omega)
  refine ⟨c, ?_, h2⟩
  have e : i = (i.toNat : Int) := by omega
  rw [e]
  exact atI_nat h1
theorem low_one {c : Nat} (h : lowB c = true) : Low ⟨#[c]⟩ := by
  show [c].all lowB = true
  rw [List.all_cons, h]
  rfl

/-! ### equal lists of texts -/
def OkS (zs : List Str) : Prop := ∀ z ∈ zs, PyData.strOk z = true
theorem isName_ok {z : Str} (h : IsName z) : PyData.strOk z = true := by
  obtain ⟨_, _, h⟩ := h
  unfold PyData.strOk
  rw [← Array.all_toList]
  rw [List.all_eq_true] at h ⊢
  intro c hc
  have := h c hc
  unfold lowB at this
  rw [Bool.and_eq_true, decide_eq_true_eq, decide_eq_true_eq] at this
  exact decide_eq_true (by omega)
def dS (zs : List Str) : PyData := .list (zs.map PyData.str)
theorem dpAllS {K : PySem.W.Frag} {H : Hp} : ∀ zs : List Str, DpAll K H (zs.map V.str) (zs.map PyData.str)
  | [] => .nil
  | z :: r => .cons (.str z) (dpAllS r)
theorem dpS {K : PySem.W.Frag} {H : Hp} {a : Addr} {zs : List Str} (h : SqL K H a (zs.map V.str)) : Dp K H (.ref a) (dS zs) := .lst h (dpAllS zs)
theorem layAllS : ∀ {zs : List Str}, OkS zs → PyData.canLayAll0 (zs.map PyData.str) = true
  | [], _ => rfl
  | z :: r, h => by
    have h1 := h z List.mem_cons_self
    have h2 := layAllS (zs := r) fun y hy => h y (List.mem_cons_of_mem _ hy)
    show (PyData.canLay0 (.str z) && PyData.canLayAll0 (r.map PyData.str)) = true
    rw [h2, Bool.and_true]
    exact h1
theorem depthAllS : ∀ zs : List Str, PyData.depthAll (zs.map PyData.str) = 0
  | [] => rfl
  | z :: r => by
    show max (PyData.depth (.str z)) (PyData.depthAll (r.map PyData.str)) = 0
    rw [depthAllS r]
    rfl
theorem shS {zs : List Str} (h : OkS zs) : SeqAt.shaped (dS zs) = true := by
  unfold SeqAt.shaped dS
  rw [Bool.and_eq_true]
  refine ⟨layAllS h, decide_eq_true ?_⟩
  show PyData.depthAll (zs.map PyData.str) + 1 ≤ 64
  rw [depthAllS]
  decide
theorem eqvAllS : ∀ xs ys : List Str, PyData.eqvAll (xs.map PyData.str) (ys.map PyData.str) = decide (xs = ys)
  | [], [] => rfl
  | [], _ :: _ => rfl
  | _ :: _, [] => rfl
  | x :: r, y :: t => by
    show (PyData.eqv (.str x) (.str y) && PyData.eqvAll (r.map PyData.str) (t.map PyData.str)) = _
    rw [eqvAllS r t]
    show ((x == y) && decide (r = t)) = decide (x :: r = y :: t)
    by_cases e : x = y
    · subst e
      by_cases e2 : r = t
      · subst e2; simp
      · rw [decide_eq_false e2, decide_eq_false (fun z => e2 (List.cons.inj z).2), Bool.and_false]
    · rw [beq_eq_false_iff_ne.mpr e, decide_eq_false (fun z => e (List.cons.inj z).1), Bool.false_and]
def rEqS (K : PySem.W.Frag) : R2 := fun x y H Q => ∃ a b xs ys, x = .ref a ∧ y = .ref b ∧ SqL K H a (xs.map V.str) ∧ SqL K H b (ys.map V.str) ∧ OkS xs ∧ OkS ys ∧ Q (.bl (decide (xs = ys))) H
def rNeS (K : PySem.W.Frag) : R2 := fun x y H Q => ∃ a b xs ys, x = .ref a ∧ y = .ref b ∧ SqL K H a (xs.map V.str) ∧ SqL K H b (ys.map V.str) ∧ OkS xs ∧ OkS ys ∧ Q (.bl (!decide (xs = ys))) H
theorem op_eqS {X : Cx} (hu : X.A.units + 64 < cLine) : OpR X (compareOp .Eq) (rEqS X.K) := by
  intro pins s σ H x y v u Q I rx ry h
  obtain ⟨a, b, xs, ys, rfl, rfl, ha, hb, ox, oy, q⟩ := h
  exact op_eqD hu pins s σ H _ _ v u Q I rx ry ⟨dS xs, dS ys, dpS ha, dpS hb, shS ox, shS oy, by
    show Q (.bl (PyData.eqvAll (xs.map PyData.str) (ys.map PyData.str))) H
    rw [eqvAllS]; exact q⟩
theorem op_neS {X : Cx} (hu : X.A.units + 64 < cLine) : OpR X (compareOp .NotEq) (rNeS X.K) := by
  intro pins s σ H x y v u Q I rx ry h
  obtain ⟨a, b, xs, ys, rfl, rfl, ha, hb, ox, oy, q⟩ := h
  exact op_neD hu pins s σ H _ _ v u Q I rx ry ⟨dS xs, dS ys, dpS ha, dpS hb, shS ox, shS oy, by
    show Q (.bl (!PyData.eqvAll (xs.map PyData.str) (ys.map PyData.str))) H
    rw [eqvAllS]; exact q⟩
theorem okS_names {zs : List Str} (h : ∀ z ∈ zs, IsName z) : OkS zs := fun z hz => isName_ok (h z hz)

/-! ### cuts of lists -/
theorem cutV_map {f : Str → V} (xs : List Str) (lo hi : Option Int) : ∃ ys : List Str, cutV (xs.map f) lo hi = ys.map f ∧ (∀ y ∈ ys, y ∈ xs) ∧ ys.length = (cutV (xs.map f) lo hi).length := by
  unfold cutV
  rw [← List.map_drop, ← List.map_take]
  exact ⟨_, rfl, fun y hy => List.mem_of_mem_drop (List.mem_of_mem_take hy), by simp only [List.length_map]⟩
theorem cutV_len (xs : List V) (lo hi : Option Int) : (cutV xs lo hi).length = min (HT.sIx xs.length xs.length hi - HT.sIx xs.length 0 lo) (xs.length - HT.sIx xs.length 0 lo) := by
  unfold cutV
  rw [List.length_take, List.length_drop]

/-! ### new instances; stores to what is new -/
theorem Kp.made {tb x dx C : Addr} {H H' : Hp} (hx : H x = none) (hdx : H dx = none) (kp : Kp tb [x] (upd (upd H dx (.own x)) x (.ins C dx [])) H') : Kp tb [] H H' := by
  refine ⟨fun b o e n _ => ?_, fun t => ?_, fun b e => free_upd (free_upd (kp.free b e))⟩
  · have e1 : (upd (upd H dx (.own x)) x (.ins C dx [])) b = some o := by
      rw [upd_ne (ne_of_none e hx), upd_ne (ne_of_none e hdx)]
      exact e
    refine kp.keep b o e1 n fun z => ?_
    exact ne_of_none e hx (List.mem_singleton.mp z)
  · refine kp.tab ?_
    obtain ⟨ps, e, tr⟩ := t
    exact ⟨ps, by rw [upd_ne (ne_of_none e hx), upd_ne (ne_of_none e hdx)]; exact e, tr⟩
theorem Kp.transN {tb : Addr} {S : List Addr} {H H1 H2 : Hp} (a : Kp tb [] H H1) (b : Kp tb S H1 H2) (hS : ∀ x ∈ S, H x = none) : Kp tb [] H H2 :=
  ⟨fun c o e n m => b.keep c o (a.keep c o e n m) n (fun z => by rw [hS c z] at e; cases e), fun t => b.tab (a.tab t), fun c e => a.free c (b.free c e)⟩
/-! ### two sides -/
def sel {α : Type} (x y : α) (b : Bool) : α := if b then y else x
theorem disj_fix {rl sl ol tl d0 d1 p0 p1 l0 l1 lo0 lo1 a0 a1 : Addr} (nd : [tl, a1, a0, ol, lo1, d1, lo0, d0, p1, l1, p0, l0, sl, rl].Nodup) :
    (∀ b, ∀ x ∈ [rl, sl, ol, tl, d0, d1], x ∉ [sel p0 p1 b, sel l0 l1 b, sel lo0 lo1 b, sel a0 a1 b]) ∧ ∀ b, ∀ x ∈ [sel p0 p1 (!b), sel l0 l1 (!b), sel lo0 lo1 (!b), sel a0 a1 (!b)], x ∉ [sel p0 p1 b, sel l0 l1 b, sel lo0 lo1 b, sel a0 a1 b] := by
  simp only [List.nodup_cons, List.mem_cons, List.not_mem_nil, or_false, not_or] at nd
  constructor
  · intro b x hx
    simp only [List.mem_cons, List.not_mem_nil, or_false] at hx ⊢
    cases b <;> simp only [sel, if_true, Bool.false_eq_true, if_false] <;> rintro (e | e | e | e) <;> rcases hx with f | f | f | f | f | f <;> (rw [f] at e; simp [e] at nd)
  · intro b x hx
    simp only [List.mem_cons, List.not_mem_nil, or_false] at hx ⊢
    cases b <;> simp only [sel, if_true, Bool.false_eq_true, if_false, Bool.not_true, Bool.not_false] at hx ⊢ <;> rintro (e | e | e | e) <;> rcases hx with f | f | f | f <;> (rw [f] at e; simp [e] at nd)
theorem disj_self {rl sl ol tl d0 d1 p0 p1 l0 l1 lo0 lo1 a0 a1 : Addr} (nd : [tl, a1, a0, ol, lo1, d1, lo0, d0, p1, l1, p0, l0, sl, rl].Nodup) (b : Bool) :
    (sel p0 p1 b ≠ sel lo0 lo1 b ∧ sel l0 l1 b ≠ sel lo0 lo1 b ∧ sel a0 a1 b ≠ sel lo0 lo1 b) ∧ (sel p0 p1 b ≠ sel a0 a1 b ∧ sel l0 l1 b ≠ sel a0 a1 b) := by
  simp only [List.nodup_cons, List.mem_cons, List.not_mem_nil, or_false, not_or] at nd
  cases b <;> simp only [sel, if_true, Bool.false_eq_true, if_false] <;> refine ⟨⟨?_, ?_, ?_⟩, ?_, ?_⟩ <;> intro e <;> simp [e] at nd
end Kf

/-! Types compared by !=. -/
namespace Kf
open PySem PySem.Spec PyProof.Rows L2
open PySem.TypeEq
theorem slot_tyne : Slot "type" (cmpInfo .NotEq).2.1 "object.__ne__" :=
  .of (owner := "object") (n := "__ne__") (by rw [typeLookup_type, builtinLookup_eq_fast]; kernel_rfl) (by decide +kernel) (by decide +kernel) (by decide +kernel)
    (by first | exact .inl (by decide +kernel) | exact .inr (by decide +kernel)) (by rw [isSubtype_type]; kernel_rfl)
theorem slot_tyneR : Slot "type" (cmpInfo .NotEq).2.2 "object.__ne__" :=
  .of (owner := "object") (n := "__ne__") (by rw [typeLookup_type, builtinLookup_eq_fast]; kernel_rfl) (by decide +kernel) (by decide +kernel) (by decide +kernel)
    (by first | exact .inl (by decide +kernel) | exact .inr (by decide +kernel)) (by rw [isSubtype_type]; kernel_rfl)
section
variable {prog : Program} {w : World} {A : Around} {E : Value → Shared → Prop} {s : Shared}
theorem tyne_entry_same {X : String} (hX : ∀ s' : Shared, s'.TypeIs (.type X) "type") {Q : Fin → Shared → Prop} (hu : A.units < cLine) (h : Q (.done (.ret (.bool false))) s) :
    wpAny (model prog w) A (Builtin.«object.__ne__» ⟨[.type X, .type X], []⟩) Q E s := by
  unfold Builtin.«object.__ne__»
  repeat (first
    | with_reducible refine wpAny_cRoomFor hu ?_
    | (refine wpAny_bind (m := callSpecialIfBound? (.type X) (Str.ofString "__eq__") [.type X]) (wpAny_callSpecialIfBound?_slot (hX _) slot_type_eq
        (call_gives slot_type_eq (hX _) F.entry_object_eq (F.args_object_eq_2 _ _) (object_eq_same rfl (by simp)) ?_)))
    | wp_step)
  exact wpAny_bind (wpAny_truthy_bool (wpAny_pure h))
theorem tyne_entry_other {X Y : String} (hX : ∀ s' : Shared, s'.TypeIs (.type X) "type") (hne : (Value.type X == Value.type Y) = false) {Q : Fin → Shared → Prop} (hu : A.units < cLine) (h : Q (.done (.ret .notImplemented)) s) :
    wpAny (model prog w) A (Builtin.«object.__ne__» ⟨[.type X, .type Y], []⟩) Q E s := by
  unfold Builtin.«object.__ne__»
  repeat (first
    | with_reducible refine wpAny_cRoomFor hu ?_
    | (refine wpAny_bind (m := callSpecialIfBound? (.type X) (Str.ofString "__eq__") [.type Y]) (wpAny_callSpecialIfBound?_slot (hX _) slot_type_eq
        (call_gives slot_type_eq (hX _) F.entry_object_eq (F.args_object_eq_2 _ _) (object_eq_other rfl hne) ?_)))
    | wp_step)
  exact wpAny_pure h
theorem ne_ty_same {X : String} {Q : Value → Shared → Prop} (hX : ∀ s' : Shared, s'.TypeIs (.type X) "type") (hu : A.units + 1 < cLine) (h : Q (.bool false) s) : wpAny (model prog w) A (compareOp .NotEq (.type X) (.type X)) Q E s := by
  show wpAny _ A (richCompare .NotEq _ _) Q E s
  refine wpAny_richCompare_same (T := "type") (hX s) (hX s) slot_tyne ?_
  refine wpAny_call_entry slot_tyne (hX s) F.cmpEntry_ne (tyne_entry_same (A := A.in1) hX hu ⟨_, rfl, (by intro e; cases e), h⟩) (F.cmpArgs_ne _ _)
theorem ne_ty_other {X Y : String} {Q : Value → Shared → Prop} (hX : ∀ s' : Shared, s'.TypeIs (.type X) "type") (hY : ∀ s' : Shared, s'.TypeIs (.type Y) "type") (hne : (Value.type X == Value.type Y) = false) (hu : A.units + 1 < cLine) (h : Q (.bool true) s) :
    wpAny (model prog w) A (compareOp .NotEq (.type X) (.type Y)) Q E s := by
  have hne' : (Value.type Y == Value.type X) = false := by
    rw [Bool.eq_false_iff] at hne ⊢
    intro e
    exact hne (by rw [beq_iff_eq] at e ⊢; exact e.symm)
  show wpAny _ A (richCompare .NotEq _ _) Q E s
  have h1 := slot_tyne
  have h2 := slot_tyneR
  rcases hi : cmpInfo CmpOp.NotEq with ⟨sym, f, r⟩
  rw [hi] at h1 h2
  simp only [richCompare, hi, (hX s).oneThing_none]
  try with_reducible refine wpAny_holding ?_
  refine wpAny_bind (wpAny_cRoomFor_or (.inl rfl) ?_)
  refine wpAny_bind (wpAny_typeOf (hX s) (wpAny_bind (wpAny_typeOf (hY s) ?_)))
  simp only [bne_self_eq_false, Bool.false_eq_true, if_false, pure_bind, Bool.not_false, if_true]
  refine wpAny_bind (m := tryCompare (.type X) _ (.type Y)) (wpAny_tryCompare_declines (hX s) h1 (wpAny_call_entry h1 (hX s) F.cmpEntry_ne (tyne_entry_other (A := A.in1) hX hne hu ⟨_, rfl, rfl, ?_⟩) (F.cmpArgs_ne _ _)))
  refine wpAny_bind (m := tryCompare (.type Y) _ (.type X)) (wpAny_tryCompare_declines (hY s) h2 (wpAny_call_entry h2 (hY s) F.cmpEntry_ne (tyne_entry_other (A := A.in1) hY hne' hu ⟨_, rfl, rfl, ?_⟩) (F.cmpArgs_ne _ _)))
  refine wpAny_bind (wpAny_rule (wpAny_bind (wpAny_of_eq (isSame_plain rfl) (wpAny_pure ?_))))
  rw [hne]
  exact h
end
/-- the types that a value may have here -/
def tyOk (T : String) : Bool := T == "str" || T == "int" || T == "list" || T == "bool" || T == "NoneType" || T == "tuple" || T == "dict"
theorem tyOk_meta {T : String} (h : tyOk T = true) (s : Shared) : s.TypeIs (.type T) "type" := by
  unfold tyOk at h
  simp only [Bool.or_eq_true, beq_iff_eq] at h
  rcases h with (((((h | h) | h) | h) | h) | h) | h <;> subst h
  · exact meta_str s
  · exact meta_int s
  · exact meta_list s
  · exact meta_bool s
  · exact meta_NoneType s
  · exact meta_tuple s
  · exact meta_dict s
theorem op_neTy {X : Cx} (hu : X.A.units + 1 < cLine) : OpR X (compareOp .NotEq) (fun x y H Q => ∃ m n, x = .ty m ∧ y = .ty n ∧ tyOk m = true ∧ tyOk n = true ∧ Q (.bl (!decide (m = n))) H) := by
  intro pins s σ H x y v u Q I rx ry h
  obtain ⟨m, n, rfl, rfl, hm, hn, q⟩ := h
  cases rx
  cases ry
  by_cases e : m = n
  · subst e
    rw [decide_eq_true rfl] at q
    exact ne_ty_same (tyOk_meta hm) hu ⟨.bl false, H, I, rfl, q⟩
  · rw [decide_eq_false e] at q
    exact ne_ty_other (tyOk_meta hm) (tyOk_meta hn) (beq_eq_false_iff_ne.mpr fun z => e (Value.type.inj z)) hu ⟨.bl true, H, I, rfl, q⟩
end Kf

/-! the text by places -/
namespace Kf
open PySem PySem.Spec PyProof.Rows L2
def topS (i : Nat) : Stmt := PySem.Challenge.pw_keepfew_k03_marked_shelves.main.body.getD i (.Pass ⟨0, 0, 0, 0⟩)
abbrev s_is_name : Stmt := topS 7
abbrev s_check_name : Stmt := topS 8
abbrev s_check_places : Stmt := topS 9
abbrev s_Shelf___init__ : Stmt := inClass (topS 11) 0
abbrev s_Shelf_wish : Stmt := inClass (topS 11) 1
abbrev s_Shelf_places : Stmt := inClass (topS 11) 2
abbrev s_Shelf_things : Stmt := inClass (topS 11) 3
abbrev s_Shelf_met : Stmt := inClass (topS 11) 4
abbrev s_Shelf_missed : Stmt := inClass (topS 11) 5
abbrev s_Shelf__free_a_place : Stmt := inClass (topS 11) 6
abbrev s_Shelf__pick_going : Stmt := inClass (topS 11) 7
abbrev s_Shelf__note_wish : Stmt := inClass (topS 11) 8
abbrev s_Old_order : Stmt := inClass (topS 12) 0
abbrev s_Old__pick_going : Stmt := inClass (topS 12) 1
abbrev s_Cold_order : Stmt := inClass (topS 13) 0
abbrev s_Cold__pick_going : Stmt := inClass (topS 13) 1
abbrev s_Cold__note_wish : Stmt := inClass (topS 13) 2
abbrev s_Marked___init__ : Stmt := inClass (topS 14) 0
abbrev s_Marked_marks : Stmt := inClass (topS 14) 1
abbrev s_Marked_rounds : Stmt := inClass (topS 14) 2
abbrev s_Marked__pick_going : Stmt := inClass (topS 14) 3
abbrev s_Marked__note_wish : Stmt := inClass (topS 14) 4
abbrev s__law_mixed : Stmt := topS 16
abbrev s__law_names : Stmt := topS 17
abbrev s__law_drawn : Stmt := topS 18
abbrev s__law_places : Stmt := topS 19
abbrev s__law_marked : Stmt := topS 20
abbrev s__law_counts_right : Stmt := topS 21
abbrev s__law_is_pair : Stmt := topS 22
abbrev s__law_marks_right : Stmt := topS 23
abbrev s_law : Stmt := topS 24
end Kf

namespace Kf
open PySem PySem.Spec PyProof.Rows L2
section
variable {P : Program} {w : World} {K : PySem.W.Frag} {mg : Str → Option Value} {base : Heap} {tb : Addr}
/-! ### _law_mixed -/
def spMixed : Sp := fun vs H Q _ => ∃ c k : Int, vs = [.int c, .int k] ∧ 0 ≤ k ∧ k ≤ 1000000 ∧ ∀ r : Int, 0 ≤ r → r < 100000000 → Q (.int r) H
theorem sc_mixed : FnScope ["_law_cell", "_law_k", "_law_number"] ["_law_cell", "_law_k"] (defScope s__law_mixed) := ⟨rfl, rfl, rfl, by decide +kernel, rfl, by decide +kernel, by decide +kernel⟩
theorem ok_mixed {f : Addr} {fd : FuncData} {k0 : Nat} (F : FnP K "_law_mixed" "_law_mixed" s__law_mixed f fd) : FnOk P w K mg base CX0 (k0 + 1) f fd ["_law_cell", "_law_k"] spMixed := by
  refine ok0 F sc_mixed (fun vs H Q E h => ?_) (fun cdv A outer s H vs Q E hr h => ?_)
  · obtain ⟨c, k, rfl, _⟩ := h
    rfl
  · obtain ⟨c, k, rfl, k0, k1, q⟩ := h
    refine ⟨_, pss_cons (ps_set (i := 2) sc_mixed.nd rfl (.inl rfl) (pe_op op_add (pe_op op_add (pe_op op_mod (pv 0) pe_int) (pe_op op_mul pe_int (pv 1))) pe_int))
      (pss_one (ps_ret (pe_op op_fdiv (pe_op op_mod (pe_op op_mul (pe_op op_mod (pe_op op_mul (pv 2) (pv 2)) pe_int) (pv 2)) pe_int) pe_int))), ?_⟩
    have h1 := Int.emod_nonneg c (show (1000000007 : Int) ≠ 0 by decide)
    have h2 := Int.emod_lt_of_pos c (show (0 : Int) < 1000000007 by decide)
    refine ⟨_, rfl, _, _, rfl, rfl, (by show (0 : Int) < 1000000007; decide), _, rfl, _, _, rfl, rfl, .inl ⟨by decide, by decide⟩, _, _, rfl, rfl, _, _, rfl, rfl, ?_⟩
    generalize hn : c % 1000000007 + 7919 * k + 13 = n
    have n0 : 0 ≤ n := by omega
    have n1 : n < 18446744073709551616 := by omega
    refine ⟨_, rfl, _, rfl, _, _, rfl, rfl, .inl ⟨by omega, by omega⟩, _, _, rfl, rfl, (by show (0 : Int) < 1000000007; decide), ?_⟩
    generalize hm : n * n = m
    have m1 := Int.emod_nonneg m (show (1000000007 : Int) ≠ 0 by decide)
    have m2 := Int.emod_lt_of_pos m (show (0 : Int) < 1000000007 by decide)
    refine ⟨_, rfl, _, _, rfl, rfl, .inl ⟨by omega, by omega⟩, _, _, rfl, rfl, (by show (0 : Int) < 998244353; decide), _, _, rfl, rfl, ⟨by decide, by decide⟩, ?_⟩
    generalize hz : m % 1000000007 * n = z
    have z1 := Int.emod_nonneg z (show (998244353 : Int) ≠ 0 by decide)
    have z2 := Int.emod_lt_of_pos z (show (0 : Int) < 998244353 by decide)
    exact q _ (by omega) (by omega)
end
end Kf

namespace Kf
open PySem PySem.Spec PyProof.Rows L2
section
variable {P : Program} {w : World} {K : PySem.W.Frag} {mg : Str → Option Value} {base : Heap} {tb : Addr}
/-! ### _law_places -/
def spPlaces (K : PySem.W.Frag) (tb : Addr) : Sp := fun vs H Q _ => ∃ (a : Addr) (ns : List Int) (k : Int), vs = [.ref a, .int k] ∧ SqL K H a (ns.map V.int) ∧ ns.length ≤ 300 ∧ 0 ≤ k ∧ k ≤ 1000 ∧
  ∀ (r : Int) (H' : Hp), 1 ≤ r → r ≤ 20 → Kp tb [] H H' → Q (.int r) H'
theorem sc_places : FnScope ["_law_script", "_law_k", "_law_number", "_law_cell"] ["_law_script", "_law_k"] (defScope s__law_places) := ⟨rfl, rfl, rfl, by decide +kernel, rfl, by decide +kernel, by decide +kernel⟩
theorem ok_places {f : Addr} {fd : FuncData} {k0 : Nat} (F : FnP K "_law_places" "_law_places" s__law_places f fd) (G : Glob P w K mg base CX0 (k0 + 1) "_law_mixed" ["_law_cell", "_law_k"] spMixed)
    (hlen : mg "len" = none) (hsum : mg "sum" = none) : FnOk P w K mg base CX0 (k0 + 2) f fd ["_law_script", "_law_k"] (spPlaces K tb) := by
  refine ok0 F sc_places (fun vs H Q E h => ?_) (fun cdv A outer s H vs Q E hr h => ?_)
  · obtain ⟨a, ns, k, rfl, _⟩ := h
    rfl
  · obtain ⟨a, ns, k, rfl, hS, hl, k0', k1, q⟩ := h
    refine ⟨_, pss_cons (ps_set (i := 2) sc_places.nd rfl (.inl rfl) (pe_callG G hr (by rfl) pass0
        (pa_cons (pe_op op_add (pe_callB call_len_seq (by rfl) hlen PySem.boot_len (pa_cons (pv 0) pa_nil))
          (pe_callB (cr_sum rfl) (by rfl) hsum (by decide +kernel) (pa_cons (pe_lc (own := [("_law_cell", 3)]) (g := gName 3) (tt := tYes) rfl sc_places.nd (pi_list (pv 0)) (blkOk_by (N := ["_law_script", "_law_k", "_law_number", "_law_cell"]) (sc := defScope s__law_places) (by decide +kernel))
            (fun _ _ _ _ _ => pg_name (i := 3) sc_places.nd rfl (Or.inl rfl)) (fun _ _ _ _ _ => pts_nil) (fun _ _ _ _ _ => pe_op op_mod (pv 3) pe_int)) pa_nil)))
        (pa_cons (pe_op op_add pe_int (pv 1)) pa_nil))))
      (pss_one (ps_ret (pe_op op_add pe_int (pe_op op_mod (pe_op op_fdiv (pv 2) pe_int) (pe_ix ix_list (pe_lst (pa_cons pe_int (pa_cons pe_int (pa_cons pe_int (pa_cons pe_int pa_nil))))) (pe_op op_mod (pv 2) pe_int) (fun _ _ => rfl)))))), ?_⟩
    -- len(script)
    refine ⟨_, rfl, a, _, rfl, .inl hS, ?_⟩
    -- the comprehension
    refine ⟨_, rfl, a, rfl, ⟨_, hS⟩, fun D hD => lc_list (K := K) (a := a) (xs := ns.map V.int) (fun i H1 => ∃ ms : List Int, ms.length = i ∧ Kp tb [] H H1 ∧ H1 D = some (.lst (ms.map V.int)))
      ⟨[], rfl, Kp.new hD, upd_same⟩ (fun i H1 _ ⟨_, _, kp, _⟩ => kp.seq hS) ?_ ?_⟩
    · rintro i x H1 hi ⟨ms, hms, kp, hd⟩
      obtain ⟨z, hz, rfl⟩ := get_mapI hi
      have hil : i < ns.length := (List.getElem?_eq_some_iff.mp hz).1
      refine ⟨rfl, _, rfl, _, _, rfl, rfl, (by show (0 : Int) < 1009; decide), _, hd, ?_, ms ++ [z % 1009], ?_, ?_, ?_⟩
      · rw [List.length_map]
        exact small_of (m := 300) (by omega)
      · rw [List.length_append, hms]
        rfl
      · exact kp.own hD hd
      · rw [upd_same, List.map_append]
        rfl
    · rintro H1 ⟨ms, hms, kp, hd⟩
      refine ⟨D, ms, rfl, SqL.of hd, _, _, rfl, rfl, _, rfl, _, _, rfl, rfl, _, _, rfl, by omega, by omega, fun r r0 r1 => ?_⟩
      refine ⟨_, rfl, _, _, rfl, rfl, ⟨by decide, by decide⟩, by decide, fun p hp => ?_⟩
      have e0 := Int.emod_nonneg r (show (4 : Int) ≠ 0 by decide)
      have e1 := Int.emod_lt_of_pos r (show (0 : Int) < 4 by decide)
      have hc : ∃ d : Int, atI [V.int 3, V.int 5, V.int 9, V.int 20] (r % 4) = some (V.int d) ∧ 0 < d ∧ d ≤ 20 := by
        have : r % 4 = 0 ∨ r % 4 = 1 ∨ r % 4 = 2 ∨ r % 4 = 3 := by omega
        rcases this with e | e | e | e <;> rw [e]
        · exact ⟨3, rfl, by decide, by decide⟩
        · exact ⟨5, rfl, by decide, by decide⟩
        · exact ⟨9, rfl, by decide, by decide⟩
        · exact ⟨20, rfl, by decide, by decide⟩
      obtain ⟨d, hd1, hd2, hd3⟩ := hc
      refine ⟨_, rfl, _, _, rfl, rfl, (by show (0 : Int) < 4; decide), p, _, _, _, rfl, rfl, SqL.of upd_same, hd1, ?_⟩
      refine ⟨_, _, rfl, rfl, hd2, _, _, rfl, rfl, ?_⟩
      have f0 := Int.emod_nonneg (r / 4) (show d ≠ 0 by omega)
      have f1 := Int.emod_lt_of_pos (r / 4) hd2
      exact q _ _ (by omega) (by omega) (kp.step hp)
end
end Kf

namespace Kf
open PySem PySem.Spec PyProof.Rows L2
section
variable {P : Program} {w : World} {K : PySem.W.Frag} {mg : Str → Option Value} {base : Heap} {tb : Addr}
/-! ### _law_names -/
def spNames (tb : Addr) : Sp := fun vs H Q _ => ∃ n m : Int, vs = [.int n, .int m] ∧ 0 ≤ n ∧ n < 100000000 ∧ 3 ≤ m ∧ m ≤ 26 ∧
  ∀ (zs : List Str) (p : Addr) (H' : Hp), (zs.length : Int) = m → (∀ z ∈ zs, IsName z) → Kp tb [] H H' → H p = none → H' p = some (.lst (zs.map V.str)) → Q (.ref p) H'
abbrev nNames : List Str := ["_law_number", "_law_many", "_law_letters", "_law_size", "_law_row", "_law_at", "_law_signs", "_law_j", "_law_k", "_law_sign"]
theorem sc_names : FnScope nNames ["_law_number", "_law_many"] (defScope s__law_names) := ⟨rfl, rfl, rfl, by decide +kernel, rfl, by decide +kernel, by decide +kernel⟩
/-- texts gathered, each of a kind -/
def RS (p : Str → Prop) (i : Nat) (acc : List V) : Prop := ∃ zs : List Str, zs.length = i ∧ (∀ z ∈ zs, p z) ∧ acc = zs.map V.str
theorem RS.nil {p : Str → Prop} : RS p 0 [] := ⟨[], rfl, fun _ h => absurd h (by simp), rfl⟩
theorem RS.snoc {p : Str → Prop} {i : Nat} {acc : List V} {z : Str} (h : RS p i acc) (hz : p z) : RS p (i + 1) (acc ++ [.str z]) := by
  obtain ⟨zs, h1, h2, rfl⟩ := h
  refine ⟨zs ++ [z], by rw [List.length_append, h1]; rfl, fun y hy => ?_, by rw [List.map_append]; rfl⟩
  rcases List.mem_append.mp hy with hy | hy
  · exact h2 y hy
  · rw [List.mem_singleton.mp hy]; exact hz
theorem RS.len {p : Str → Prop} {i : Nat} {acc : List V} (h : RS p i acc) : acc.length = i := by
  obtain ⟨zs, h1, _, rfl⟩ := h
  rw [List.length_map, h1]
def IsSign (z : Str) : Prop := z.length = 1 ∧ Low z
theorem ok_names {f : Addr} {fd : FuncData} {k0 : Nat} (F : FnP K "_law_names" "_law_names" s__law_names f fd) (hrange : mg "range" = none) (henum : mg "enumerate" = none) :
    FnOk P w K mg base CX0 (k0 + 1) f fd ["_law_number", "_law_many"] (spNames tb) := by
  refine ok0 F sc_names (fun vs H Q E h => ?_) (fun cdv A outer s H vs Q E hr h => ?_)
  · obtain ⟨n, m, rfl, _⟩ := h
    rfl
  · obtain ⟨n, m, rfl, n0, n1, m0, m1, q⟩ := h
    refine ⟨_, pss_cons (ps_set (i := 2) sc_names.nd rfl (.inr rfl) pe_str)
      (pss_cons (ps_set (i := 3) sc_names.nd rfl (.inr rfl) (pe_op op_mod (pv 0) pe_int))
      (pss_cons (ps_set (i := 4) sc_names.nd rfl (.inr rfl) (pe_join pe_str
        (pe_lc (own := [("_law_j", 7)]) (g := gName 7) (tt := tYes) rfl sc_names.nd (pi_range1 (by rfl) hrange (pa_cons pe_int pa_nil)) (blkOk_by (N := nNames) (sc := defScope s__law_names) (by decide +kernel))
            (fun _ _ _ _ _ => pg_name (i := 7) sc_names.nd rfl (Or.inl rfl)) (fun _ _ _ _ _ => pts_nil)
            (fun _ _ _ _ _ => pe_ix ix_str (pv 2) (pe_op op_mod (pe_op op_add (pe_op op_fdiv (pv 0) pe_int) (pe_op op_mul pe_int (pv 7))) pe_int) (fun _ _ => rfl)))))
      (pss_cons (ps_if (PW.pt (pw_and (pt_cmpR op_eq (pe_op op_mod (pe_op op_fdiv (pv 0) pe_int) pe_int) pe_int (nomark _)) (pw_and1 (pt_cmpR op_lt (pv 1) pe_int (nomark _)))))
        (pss_one (ps_ret (pe_lc (own := [("_law_k", 8)]) (g := gName 8) (tt := tYes) rfl sc_names.nd (pi_range1 (by rfl) hrange (pa_cons (pv 1) pa_nil)) (blkOk_by (N := nNames) (sc := defScope s__law_names) (by decide +kernel))
            (fun _ _ _ _ _ => pg_name (i := 8) sc_names.nd rfl (Or.inl rfl)) (fun _ _ _ _ _ => pts_nil)
            (fun _ _ _ _ _ => pe_slice sl_str (pv 4) po_none (po_some (pe_op op_add (pv 8) pe_int)))))) pss_nil)
      (pss_cons (ps_set (i := 5) sc_names.nd rfl (.inr rfl) (pe_op op_mod (pe_op op_fdiv (pv 0) pe_int) (pe_op op_add (pv 3) pe_int)))
      (pss_cons (ps_setLc (i := 6) (own := [("_law_k", 8)]) (g := gName 8) (tt := tYes) rfl sc_names.nd rfl rfl (sw_true rfl rfl rfl (by decide +kernel)) (pi_range1 (by rfl) hrange (pa_cons (pv 1) pa_nil)) (blkOk_by (N := nNames) (sc := defScope s__law_names) (by decide +kernel))
            (fun _ _ _ _ _ => pg_name (i := 8) sc_names.nd rfl (Or.inl rfl)) (fun _ _ _ _ _ => pts_nil)
            (fun _ _ _ _ _ => pe_ix ix_str (pv 2) (pe_op op_mod (pe_op op_add (pe_op op_fdiv (pv 0) pe_int) (pe_op op_mul pe_int (pv 8))) pe_int) (fun _ _ => rfl)))
      (pss_cons (ps_if (pt_cmpR op_eq (pe_op op_mod (pe_op op_fdiv (pv 0) pe_int) pe_int) pe_int (nomark _))
        (pss_one (ps_ret (pe_lc (own := [("_law_k", 8), ("_law_sign", 9)]) (g := gTup K 2 (gCons (gName 8) (gCons (gName 9) gNil))) (tt := tYes) rfl sc_names.nd (pi_enum (by rfl) henum (pa_cons (pv 6) pa_nil)) (blkOk_by (N := nNames) (sc := defScope s__law_names) (by decide +kernel))
            (fun _ _ _ _ _ => pg_tup rfl (pgs_cons (pg_name (i := 8) sc_names.nd rfl (Or.inl rfl)) (pgs_cons (pg_name (i := 9) sc_names.nd rfl (Or.inl rfl)) pgs_nil))) (fun _ _ _ _ _ => pts_nil)
            (fun _ _ _ _ _ => pe_op op_add_str (pv 9) (pe_slice sl_str (pv 4) po_none (po_some (pe_op op_mod (pe_op op_add (pe_op op_mul pe_int (pv 8)) (pv 5)) pe_int))))))) pss_nil)
      (pss_one (ps_ret (pe_lc (own := [("_law_sign", 9)]) (g := gName 9) (tt := tYes) rfl sc_names.nd (pi_list (pv 6)) (blkOk_by (N := nNames) (sc := defScope s__law_names) (by decide +kernel))
            (fun _ _ _ _ _ => pg_name (i := 9) sc_names.nd rfl (Or.inl rfl)) (fun _ _ _ _ _ => pts_nil)
            (fun _ _ _ _ _ => pe_op op_add_str (pe_op op_add_str (pe_slice sl_str (pv 4) po_none (po_some (pv 5))) (pv 9)) (pe_slice sl_str (pv 4) (po_some (pv 5)) (po_some (pv 3))))))))))))), ?_⟩
    have hline : ∀ {z : Str}, z.length ≤ 8 → z.length ≤ sizeLine := fun h => Nat.le_of_lt (small_of (m := 8) h)
    -- letters, size
    refine ⟨_, rfl, _, _, rfl, rfl, (by show (0 : Int) < 8; decide), ?_⟩
    have s0 := Int.emod_nonneg n (show (8 : Int) ≠ 0 by decide)
    have s1 := Int.emod_lt_of_pos n (show (0 : Int) < 8 by decide)
    -- row
    refine ⟨⟨_, rfl⟩, 8, rfl, by decide, by decide, fun D hD => ?_⟩
    refine lc_it (n := 8) walk_range (LcI tb H D (RS IsSign)) (LcI.start hD RS.nil) (fun _ _ _ _ => trivial) ?_ ?_
    · rintro i x H1 H2 hi ⟨acc, r, kp, hd⟩ ⟨rfl, rfl⟩
      obtain ⟨c, hc, lc⟩ := letter_atI (i := (n / 8 + 5 * (0 + (i : Int))) % 26) (Int.emod_nonneg _ (by decide)) (Int.emod_lt_of_pos _ (by decide))
      refine ⟨rfl, _, rfl, _, rfl, _, _, rfl, rfl, ⟨by decide, by decide⟩, _, rfl, _, _, rfl, rfl, .inl ⟨by decide, by decide⟩, _, _, rfl, rfl, _, _, rfl, rfl, (by show (0 : Int) < 26; decide), _, _, c, rfl, rfl, by decide +kernel, hc, ?_⟩
      exact LcI.next hD kp hd (Kp.refl _) (by rw [r.len]; exact small_of (m := 8) (by omega)) (r.snoc ⟨rfl, low_one lc⟩)
    · rintro H1 ⟨acc, ⟨signs, hl8, hsg, rfl⟩, kp1, hd1⟩
      refine ⟨_, _, signs, rfl, rfl, .inl (SqL.of hd1), ?_, ?_⟩
      · have e1 : (signs.map (·.length)).sum = signs.length := by
          have : ∀ l : List Str, (∀ z ∈ l, IsSign z) → (l.map (·.length)).sum = l.length := by
            intro l
            induction l with
            | nil => intro _; rfl
            | cons a r ih =>
              intro h
              rw [List.map_cons, List.sum_cons, ih fun z hz => h z (List.mem_cons_of_mem _ hz), (h a List.mem_cons_self).1, List.length_cons]
              omega
          exact this signs hsg
        rw [e1, hl8]
        decide +kernel
      rw [tjoin_eq]
      have rl : (Str.join ("" : Str) signs).length = 8 := by rw [join_len signs fun z hz => (hsg z hz).1, hl8]
      have rlow : Low (Str.join ("" : Str) signs) := join_low signs fun z hz => (hsg z hz).2
      generalize Str.join ("" : Str) signs = row at rl rlow ⊢
      have f1 : Kp tb [] H H1 := kp1
      have fin : ∀ (H' : Hp) (zs : List Str) (p : Addr), Kp tb [] H1 H' → H1 p = none → (zs.length : Int) = m → (∀ z ∈ zs, IsName z) → H' p = some (.lst (zs.map V.str)) → Q (.ref p) H' := fun H' zs p k2 np h1 h2 h3 =>
        q zs p H' h1 h2 (f1.trans k2) (f1.free _ np) h3
      -- if number // 64 % 3 == 1 and many < 9
      refine ⟨_, rfl, _, _, rfl, rfl, ⟨by decide, by decide⟩, _, _, rfl, rfl, (by show (0 : Int) < 3; decide), rfl, _, rfl, ?_⟩
      refine ite_else ?rest (fun hrest _ => ⟨_, rfl, _, _, rfl, rfl, _, rfl, ?_⟩)
      · -- at, signs
        have a0 := Int.emod_nonneg (n / 200) (show n % 8 + 1 ≠ 0 by omega)
        have a1 := Int.emod_lt_of_pos (n / 200) (show 0 < n % 8 + 1 by omega)
        refine ⟨_, rfl, _, _, rfl, rfl, ⟨by decide, by decide⟩, _, rfl, _, _, rfl, rfl, _, _, rfl, rfl, by omega, ?_⟩
        refine ⟨_, rfl, m, rfl, by omega, by omega, fun D2 hD2 => ?_⟩
        refine lc_it (n := m.toNat) walk_range (LcI tb H1 D2 (RS IsSign)) (LcI.start hD2 RS.nil) (fun _ _ _ _ => trivial) ?_ ?_
        · rintro i x H2 H3 hi ⟨acc, r, kp, hd⟩ ⟨rfl, rfl⟩
          obtain ⟨c, hc, lc⟩ := letter_atI (i := (n / 2000 + 7 * (0 + (i : Int))) % 26) (Int.emod_nonneg _ (by decide)) (Int.emod_lt_of_pos _ (by decide))
          refine ⟨rfl, _, rfl, _, rfl, _, _, rfl, rfl, ⟨by decide, by decide⟩, _, rfl, _, _, rfl, rfl, .inl ⟨by decide, by decide⟩, _, _, rfl, rfl, _, _, rfl, rfl, (by show (0 : Int) < 26; decide), _, _, c, rfl, rfl, by decide +kernel, hc, ?_⟩
          exact LcI.next hD2 kp hd (Kp.refl _) (by rw [r.len]; exact small_of (m := 26) (by omega)) (r.snoc ⟨rfl, low_one lc⟩)
        · rintro H2 ⟨acc, ⟨sgs, hlm, hsgs, rfl⟩, kp2, hd2⟩
          have fin2 : ∀ (H' : Hp) (zs : List Str) (p : Addr), Kp tb [] H2 H' → H2 p = none → zs.length = sgs.length → (∀ z ∈ zs, IsName z) → H' p = some (.lst (zs.map V.str)) → Q (.ref p) H' := fun H' zs p k2 np h1 h2 h3 => by
            exact fin H' zs p (kp2.trans k2) (kp2.free _ np) (by omega) h2 h3
          -- if number // 64 % 3 == 2
          refine ⟨_, rfl, _, _, rfl, rfl, ⟨by decide, by decide⟩, _, _, rfl, rfl, (by show (0 : Int) < 3; decide), rfl, _, rfl, ?_⟩
          refine ite2 (fun _ => ?_) (fun _ => ?_)
          · refine ⟨_, rfl, D2, _, rfl, SqL.of hd2, fun D3 hD3 => ?_⟩
            refine lc_it (n := (sgs.map V.str).length) walk_enum (LcI tb H2 D3 (RS IsName)) (LcI.start hD3 RS.nil) (fun i H _ ⟨_, _, kp, _⟩ => kp.seq (SqL.of hd2)) ?_ ?_
            · rintro i x H3 H4 hi ⟨acc, r, kp, hd⟩ ⟨T, x1, x2, rfl, nT, rfl, e1, e2⟩
              cases e1
              obtain ⟨sg, hsg1, rfl⟩ := get_mapS e2
              obtain ⟨l1, lw⟩ := hsgs sg (List.mem_of_getElem? hsg1)
              refine ⟨T, _, rfl, SqT.of upd_same, rfl, _, _, rfl, _, _, rfl, rfl, rfl, ?_⟩
              have e0 := Int.emod_nonneg (3 * (i : Int) + n / 200 % (n % 8 + 1)) (show (8 : Int) ≠ 0 by decide)
              have e8 := Int.emod_lt_of_pos (3 * (i : Int) + n / 200 % (n % 8 + 1)) (show (0 : Int) < 8 by decide)
              refine ⟨_, rfl, _, rfl, _, rfl, _, _, rfl, rfl, .inl ⟨by decide, by decide⟩, _, rfl, _, _, rfl, rfl, _, _, rfl, rfl, (by show (0 : Int) < 8; decide), _, rfl, row, rfl, hline (by omega), ?_⟩
              have lc : (cutS row none (some ((3 * (i : Int) + n / 200 % (n % 8 + 1)) % 8))).length ≤ 7 := by
                rw [len_cut, HT.sIx_none, sIx_pos e0, rl]; omega
              refine ⟨_, _, rfl, rfl, Nat.le_of_lt (small_of (m := 8) (by omega)), ?_⟩
              rw [List.length_map] at hi
              exact LcI.next hD3 kp hd (Kp.new nT) (by rw [r.len]; exact small_of (m := 26) (by omega)) (r.snoc (isName_of (by rw [len_app]; omega) (by rw [len_app]; omega) (low_app lw (low_cut rlow _ _))))
            · rintro H3 ⟨acc, ⟨zs, hz1, hz2, rfl⟩, kp, hd⟩
              rw [List.length_map] at hz1
              exact fin2 H3 zs D3 kp hD3 hz1 hz2 hd
          · refine ⟨_, rfl, D2, rfl, ⟨_, SqL.of hd2⟩, fun D3 hD3 => ?_⟩
            refine lc_it (n := (sgs.map V.str).length) walk_list (LcI tb H2 D3 (RS IsName)) (LcI.start hD3 RS.nil) (fun i H _ ⟨_, _, kp, _⟩ => kp.seq (SqL.of hd2)) ?_ ?_
            · rintro i x H3 H4 hi ⟨acc, r, kp, hd⟩ ⟨rfl, e2⟩
              obtain ⟨sg, hsg1, rfl⟩ := get_mapS e2
              obtain ⟨l1, lw⟩ := hsgs sg (List.mem_of_getElem? hsg1)
              rw [List.length_map] at hi
              refine ⟨rfl, _, rfl, _, rfl, _, rfl, row, rfl, hline (by omega), _, rfl, _, _, rfl, rfl, ?_, _, rfl, _, rfl, _, rfl, _, rfl, _, rfl, row, rfl, hline (by omega), _, _, rfl, rfl, ?_, ?_⟩
              · rw [len_cut, HT.sIx_none, sIx_pos a0, rl]
                exact Nat.le_of_lt (small_of (m := 9) (by omega))
              · rw [len_app, len_cut, len_cut, HT.sIx_none, sIx_pos a0, sIx_pos s0, rl]
                exact Nat.le_of_lt (small_of (m := 20) (by omega))
              · refine LcI.next hD3 kp hd (Kp.refl _) (by rw [r.len]; exact small_of (m := 26) (by omega)) (r.snoc (isName_of ?_ ?_ (low_app (low_app (low_cut rlow _ _) lw) (low_cut rlow _ _))))
                · rw [len_app, len_app]; omega
                · simp only [len_app, len_cut, HT.sIx_none, sIx_pos a0, sIx_pos s0, rl]; omega
            · rintro H3 ⟨acc, ⟨zs, hz1, hz2, rfl⟩, kp, hd⟩
              rw [List.length_map] at hz1
              exact fin2 H3 zs D3 kp hD3 hz1 hz2 hd
      · cases h9 : decide (m < 9) with
        | true =>
          refine iteT ?_
          refine ⟨_, rfl, m, rfl, by omega, by omega, fun D2 hD2 => ?_⟩
          refine lc_it (n := m.toNat) walk_range (LcI tb H1 D2 (RS IsName)) (LcI.start hD2 RS.nil) (fun _ _ _ _ => trivial) ?_ ?_
          · rintro i x H2 H3 hi ⟨acc, r, kp, hd⟩ ⟨rfl, rfl⟩
            have hm9 := of_decide_eq_true h9
            refine ⟨rfl, _, rfl, _, rfl, _, _, rfl, rfl, _, rfl, row, rfl, hline (by omega), ?_⟩
            refine LcI.next hD2 kp hd (Kp.refl _) (by rw [r.len]; exact small_of (m := 26) (by omega)) (r.snoc (isName_of ?_ ?_ (low_cut rlow _ _)))
            · rw [len_cut, HT.sIx_none, sIx_pos (by omega), rl]; omega
            · rw [len_cut, HT.sIx_none, sIx_pos (by omega), rl]; omega
          · rintro H2 ⟨acc, ⟨zs, hz1, hz2, rfl⟩, kp, hd⟩
            exact fin H2 zs D2 kp hD2 (by omega) hz2 hd
        | false => exact iteF hrest
end
end Kf

namespace Kf
open PySem PySem.Spec PyProof.Rows L2
section
variable {P : Program} {w : World} {K : PySem.W.Frag} {mg : Str → Option Value} {base : Heap} {tb : Addr}
/-! ### _law_drawn -/
def spDrawn (K : PySem.W.Frag) (tb : Addr) : Sp := fun vs H Q _ => ∃ (a : Addr) (ns : List Int) (m : Int), vs = [.ref a, .int m] ∧ SqL K H a (ns.map V.int) ∧ ns.length ≤ 63 ∧ 5 ≤ m ∧ m ≤ 12 ∧
  ∀ (zs ws : List Str) (t pz pw : Addr) (H' : Hp), 0 < zs.length → zs.length ≤ 26 → (m ≤ 9 → (zs.length : Int) ≤ m) → (∀ z ∈ zs, IsName z) → ws.length = ns.length → (∀ z ∈ ws, z ∈ zs) → Kp tb [] H H' → H pz = none → H pw = none → H t = none → pz ≠ pw →
    H' t = some (.tup [.ref pz, .ref pw]) → H' pz = some (.lst (zs.map V.str)) → H' pw = some (.lst (ws.map V.str)) → Q (.ref t) H'
abbrev nDrawn : List Str := ["_law_script", "_law_most", "_law_cell", "_law_number", "_law_many", "_law_names_here", "_law_found", "_law_k", "_law_more", "_law_some"]
theorem sc_drawn : FnScope nDrawn ["_law_script", "_law_most"] (defScope s__law_drawn) := ⟨rfl, rfl, rfl, by decide +kernel, rfl, by decide +kernel, by decide +kernel⟩
theorem ok_drawn {f : Addr} {fd : FuncData} {k0 : Nat} (F : FnP K "_law_drawn" "_law_drawn" s__law_drawn f fd) (GM : Glob P w K mg base CX0 (k0 + 1) "_law_mixed" ["_law_cell", "_law_k"] spMixed)
    (GN : Glob P w K mg base CX0 (k0 + 1) "_law_names" ["_law_number", "_law_many"] (spNames tb)) (hlen : mg "len" = none) (hsum : mg "sum" = none) (hint : mg "int" = none) (henum : mg "enumerate" = none) :
    FnOk P w K mg base CX0 (k0 + 2) f fd ["_law_script", "_law_most"] (spDrawn K tb) := by
  refine ok0 F sc_drawn (fun vs H Q E h => ?_) (fun cdv A outer s H vs Q E hr h => ?_)
  · obtain ⟨a, ns, m, rfl, _⟩ := h
    rfl
  · obtain ⟨a, ns, m, rfl, hS, hl, m0, m1, q⟩ := h
    refine ⟨_, pss_cons (ps_set (i := 3) sc_drawn.nd rfl (.inl rfl) (pe_callG GM hr (by rfl) pass0
        (pa_cons (pe_op op_add (pe_callB call_len_seq (by rfl) hlen PySem.boot_len (pa_cons (pv 0) pa_nil))
          (pe_callB (cr_sum rfl) (by rfl) hsum (by decide +kernel) (pa_cons (pe_lc (own := [("_law_cell", 2)]) (g := gName 2) (tt := tYes) rfl sc_drawn.nd (pi_list (pv 0)) (blkOk_by (N := nDrawn) (sc := defScope s__law_drawn) (by decide +kernel))
            (fun _ _ _ _ _ => pg_name (i := 2) sc_drawn.nd rfl (Or.inl rfl)) (fun _ _ _ _ _ => pts_nil) (fun _ _ _ _ _ => pe_op op_mod (pv 2) pe_int)) pa_nil)))
        (pa_cons pe_int pa_nil))))
      (C8.pss_cut (ps_set (i := 4) sc_drawn.nd rfl (.inl rfl) (pe_ix ix_list (pe_lst (pa_cons (pe_op op_add pe_int (pe_op op_mod (pv 3) (pe_op op_sub (pv 1) pe_int))) (pa_cons pe_int pa_nil)))
          (pe_callTy call_int1 (by rfl) hint (by decide +kernel) (pa_cons (pe_and (pe_cmpR op_gt (pv 1) pe_int (nomark _)) (pe_one (pe_cmpR op_eq (pe_op op_mod (pe_op op_fdiv (pv 3) pe_int) pe_int) pe_int (nomark _)))) pa_nil)) (fun _ _ => rfl)))
      (pss_cons (ps_set (i := 5) sc_drawn.nd rfl (.inl rfl) (pe_callG GN hr (by rfl) pass0 (pa_cons (pe_op op_fdiv (pv 3) pe_int) (pa_cons (pv 4) pa_nil))))
      (pss_cons (ps_set (i := 6) sc_drawn.nd rfl (.inl rfl) (pe_lst pa_nil))
      (pss_cons (ps_for PassesOwn.never rfl (pi_enum (by rfl) henum (pa_cons (pe_slice sl_list (pv 0) po_none (po_some pe_int)) pa_nil))
          (pg_tup rfl (pgs_cons (pg_name (i := 7) sc_drawn.nd rfl (Or.inl rfl)) (pgs_cons (pg_name (i := 2) sc_drawn.nd rfl (Or.inl rfl)) pgs_nil)))
        (pss_cons (ps_set (i := 8) sc_drawn.nd rfl (.inl rfl) (pe_callG GM hr (by rfl) pass0 (pa_cons (pv 2) (pa_cons (pv 7) pa_nil))))
        (pss_cons (ps_set (i := 9) sc_drawn.nd rfl (.inl rfl) (pv 5))
        (C8.pss_cut (ps_if (PW.pt (pw_and (pt_cmpR op_eq (pe_op op_mod (pv 8) pe_int) pe_int (nomark _)) (pw_and1 (pt_cmpR (op_neS hr.units) (pv 6) (pe_lst pa_nil) (nomark _)))))
            (pss_one (ps_set (i := 9) sc_drawn.nd rfl (.inl rfl) (pe_slice sl_list (pv 6) (po_some (pe_un un_neg pe_int)) po_none))) pss_nil)
        (pss_one (ps_expr (pe_bm PySem.F.plainAttrs_list PySem.F.slot_list_append PySem.F.type_list_append mt_append (pv 6)
          (pa_cons (pe_ix ix_list (pv 9) (pe_op op_mod (pe_op op_fdiv (pv 8) pe_int) (pe_callB call_len_seq (by rfl) hlen PySem.boot_len (pa_cons (pv 9) pa_nil))) (fun _ _ => rfl)) pa_nil))))))))
      (pss_one (ps_ret (pe_tup (pa_cons (pv 5) (pa_cons (pv 6) pa_nil))))))))), ?_⟩
    -- number
    refine ⟨_, rfl, a, _, rfl, .inl hS, ?_⟩
    refine ⟨_, rfl, a, rfl, ⟨_, hS⟩, fun D hD => lc_it (walk_list (K := K) (a := a) (xs := ns.map V.int)) (LcI tb H D (fun i acc => ∃ ms : List Int, ms.length = i ∧ acc = ms.map V.int)) (LcI.start hD ⟨[], rfl, rfl⟩)
      (fun i H1 _ ⟨_, _, kp, _⟩ => kp.seq hS) ?_ ?_⟩
    · rintro i x H1 H2 hi ⟨acc, ⟨ms, hms, rfl⟩, kp, hd⟩ ⟨rfl, hx⟩
      obtain ⟨z, hz, rfl⟩ := get_mapI hx
      rw [List.length_map] at hi
      refine ⟨rfl, _, rfl, _, _, rfl, rfl, (by show (0 : Int) < 1000003; decide), ?_⟩
      refine LcI.next hD kp hd (Kp.refl _) (by rw [List.length_map, hms]; exact small_of (m := 300) (by omega)) ⟨ms ++ [z % 1000003], by rw [List.length_append, hms]; rfl, by rw [List.map_append]; rfl⟩
    · rintro H1 ⟨acc, ⟨ms, hms, rfl⟩, kp1, hd1⟩
      refine ⟨D, ms, rfl, SqL.of hd1, _, _, rfl, rfl, _, _, rfl, by decide, by decide, fun r r0 r1 => ?_⟩
      have e0 := Int.emod_nonneg r (show m - 2 ≠ 0 by omega)
      have e1 := Int.emod_lt_of_pos r (show 0 < m - 2 by omega)
      -- many
      refine ⟨fun σ H' => ∃ y : Int, 3 ≤ y ∧ y ≤ 26 ∧ (m ≤ 9 → y ≤ m) ∧ σ = [some (.ref a), some (.int m), none, some (.int r), some (.int y), none, none, none, none, none] ∧ Kp tb [] H H', ?_, ?_⟩
      · refine ⟨_, rfl, _, rfl, _, _, rfl, rfl, _, _, rfl, rfl, by omega, _, _, rfl, rfl, by show 2 ≤ sizeLine; decide, fun p hp => ?_⟩
        have k2 := kp1.step (o := .lst [.int (3 + r % (m - 2)), .int 26]) hp
        have hp2 : (upd H1 p (.lst [.int (3 + r % (m - 2)), .int 26])) p = some (.lst [.int (3 + r % (m - 2)), .int 26]) := upd_same
        refine ⟨_, rfl, _, _, rfl, rfl, _, rfl, ?_⟩
        cases h9 : decide (9 < m) with
        | false =>
          have := of_decide_eq_false h9
          refine iteF (.inr ⟨_, rfl, p, _, _, _, rfl, rfl, SqL.of hp2, (rfl : atI [V.int (3 + r % (m - 2)), V.int 26] 0 = some (V.int (3 + r % (m - 2)))), ?_⟩)
          exact ⟨_, by omega, by omega, fun _ => by omega, rfl, k2⟩
        | true =>
          have := of_decide_eq_true h9
          refine iteT ⟨_, rfl, _, _, rfl, rfl, ⟨by decide, by decide⟩, _, _, rfl, rfl, (by show (0 : Int) < 8; decide), rfl, .inr ⟨_, rfl, ?_⟩⟩
          cases decide ((fun i j => V.int (i % j)) (r / 1000) 8 = V.int 1) with
          | true => exact ⟨p, _, _, _, rfl, rfl, SqL.of hp2, (rfl : atI [V.int (3 + r % (m - 2)), V.int 26] 1 = some (V.int 26)), 26, by omega, by omega, fun _ => by omega, rfl, k2⟩
          | false => exact ⟨p, _, _, _, rfl, rfl, SqL.of hp2, (rfl : atI [V.int (3 + r % (m - 2)), V.int 26] 0 = some (V.int (3 + r % (m - 2)))), _, by omega, by omega, fun _ => by omega, rfl, k2⟩
      rintro σ H2 ⟨y, y0, y1, ym, rfl, k2⟩
      -- names
      refine ⟨_, rfl, _, _, rfl, rfl, ⟨by decide, by decide⟩, _, rfl, _, _, rfl, by omega, by omega, y0, y1, fun zs pz H3 hzl hzn k3 fz hz => ?_⟩
      -- found
      refine ⟨Nat.zero_le _, fun pw hw => ?_⟩
      have nzw : pz ≠ pw := ne_of_none hz hw
      have k4 : Kp tb [] H3 (upd H3 pw (.lst [])) := Kp.new hw
      have hz0 : 0 < zs.length := by omega
      -- the loop over a cut
      refine ⟨_, rfl, _, rfl, a, _, rfl, (k2.trans (k3.trans k4)).seq hS, fun c hc => ?_⟩
      have ecut : cutV (ns.map V.int) none (some 300) = ns.map V.int := by
        unfold cutV
        rw [HT.sIx_none, sIx_pos (by decide), List.length_map, List.drop_zero, show min (300 : Int).toNat ns.length - 0 = ns.length by
          show min 300 ns.length - 0 = ns.length
          omega]
        exact List.take_of_length_le (by rw [List.length_map]; exact Nat.le_refl _)
      rw [ecut]
      have k5 : Kp tb [] (upd H3 pw (.lst [])) (upd (upd H3 pw (.lst [])) c (.lst (ns.map V.int))) := Kp.new hc
      have ncw : c ≠ pw := fun e => by rw [e, upd_same] at hc; cases hc
      have ncz : pz ≠ c := ne_of_none (k4.get hz) hc
      refine ⟨c, _, rfl, SqL.of upd_same, ?_⟩
      have base5 : Kp tb [] H3 (upd (upd H3 pw (.lst [])) c (.lst (ns.map V.int))) := k4.trans k5
      refine for_it walk_enum (fun i σ H' => ∃ (ws : List Str) (v2 v7 v8 v9 : Option V), ws.length = i ∧ (∀ z ∈ ws, z ∈ zs) ∧ σ = [some (.ref a), some (.int m), v2, some (.int r), some (.int y), some (.ref pz), some (.ref pw), v7, v8, v9] ∧
        Kp tb [] H3 H' ∧ H' c = some (.lst (ns.map V.int)) ∧ H' pw = some (.lst (ws.map V.str)))
        ⟨[], none, none, none, none, rfl, fun _ h => absurd h (by simp), rfl, base5, upd_same, by rw [upd_ne ncw.symm, upd_same]; rfl⟩
        (fun i σ H' _ ⟨_, _, _, _, _, _, _, _, _, hc', _⟩ => SqL.of hc') ?_ ?_
      · rintro i x σ H4 H5 hi ⟨ws, v2, v7, v8, v9, hwl, hws, rfl, kp, hc4, hw4⟩ ⟨T, x1, x2, rfl, nT, rfl, e1, e2⟩
        cases e1
        obtain ⟨cell, hcell, rfl⟩ := get_mapI e2
        rw [List.length_map] at hi
        refine ⟨T, _, rfl, SqT.of upd_same, rfl, _, _, rfl, _, _, rfl, rfl, ?_⟩
        have nTw : pw ≠ T := ne_of_none hw4 nT
        have nTc : c ≠ T := ne_of_none hc4 nT
        have k6 : Kp tb [] H3 (upd H4 T (.tup [.int (i : Nat), .int cell])) := kp.step nT
        have hz6 := k6.get hz
        have hw6 : (upd H4 T (.tup [.int (i : Nat), .int cell])) pw = some (.lst (ws.map V.str)) := by rw [upd_ne nTw]; exact hw4
        have hc6 : (upd H4 T (.tup [.int (i : Nat), .int cell])) c = some (.lst (ns.map V.int)) := by rw [upd_ne nTc]; exact hc4
        generalize upd H4 T (.tup [.int (i : Nat), .int cell]) = H6 at k6 hz6 hw6 hc6 ⊢
        -- more, some
        refine ⟨_, rfl, _, rfl, _, _, rfl, by omega, by omega, fun more mo0 mo1 => ?_⟩
        refine ⟨_, rfl, ?_⟩
        refine ⟨fun σ H' => ∃ (sa : Addr) (ss : List Str), 0 < ss.length ∧ (∀ z ∈ ss, z ∈ zs) ∧ σ = [some (.ref a), some (.int m), some (.int cell), some (.int r), some (.int y), some (.ref pz), some (.ref pw), some (.int (i : Nat)), some (.int more), some (.ref sa)] ∧
          Kp tb [] H3 H' ∧ H' c = some (.lst (ns.map V.int)) ∧ H' pw = some (.lst (ws.map V.str)) ∧ H' sa = some (.lst (ss.map V.str)), ?_, ?_⟩
        · refine ⟨_, rfl, _, _, rfl, rfl, (by show (0 : Int) < 3; decide), rfl, _, rfl, ?_⟩
          refine ite2 (fun _ => ?_) (fun _ => ⟨pz, zs, hz0, fun z h => h, rfl, k6, hc6, hw6, hz6⟩)
          refine ⟨_, rfl, Nat.zero_le _, fun e he => ?_⟩
          have k7 : Kp tb [] H6 (upd H6 e (.lst [])) := Kp.new he
          refine ⟨pw, e, ws, [], rfl, rfl, SqL.of (k7.get hw6), SqL.of upd_same, okS_names fun z hz => hzn z (hws z hz), okS_names (fun z hz => absurd hz (by simp)), _, rfl, ?_⟩
          cases hne : decide (ws = []) with
          | true => exact iteF ⟨pz, zs, hz0, fun z h => h, rfl, k6.trans k7, k7.get hc6, k7.get hw6, k7.get hz6⟩
          | false =>
            have hne2 := of_decide_eq_false hne
            have hwpos : 0 < ws.length := List.length_pos_iff.mpr hne2
            refine iteT ⟨_, rfl, _, rfl, _, rfl, pw, _, rfl, SqL.of (k7.get hw6), fun d hd => ?_⟩
            obtain ⟨ss, es, hss, hsl⟩ := cutV_map (f := V.str) ws (some (-4)) none
            have hpos : 0 < ss.length := by
              rw [hsl, cutV_len, HT.sIx_none, List.length_map]
              have e4 : HT.sIx ws.length 0 (some (-4)) = ((-4 : Int) + (ws.length : Int)).toNat := rfl
              rw [e4]
              omega
            have k8 : Kp tb [] (upd H6 e (.lst [])) (upd (upd H6 e (.lst [])) d (.lst (cutV (ws.map V.str) (some (-4)) none))) := Kp.new hd
            exact ⟨d, ss, hpos, fun z hz => hws z (hss z hz), rfl, k6.trans (k7.trans k8), k8.get (k7.get hc6), k8.get (k7.get hw6), by rw [← es]; exact upd_same⟩
        · rintro σ H7 ⟨sa, ss, hspos, hss, rfl, k7, hc7, hw7, hs7⟩
          have i0 := Int.emod_nonneg (more / 3) (show (ss.length : Int) ≠ 0 by omega)
          have i1 := Int.emod_lt_of_pos (more / 3) (show (0 : Int) < (ss.length : Int) by omega)
          obtain ⟨j, ej⟩ : ∃ j : Nat, more / 3 % (ss.length : Int) = (j : Int) := ⟨(more / 3 % (ss.length : Int)).toNat, by omega⟩
          have hj : j < ss.length := by omega
          have hat : atI (ss.map V.str) (more / 3 % (ss.length : Int)) = some (V.str ss[j]) := at_of ej (by rw [List.getElem?_map, List.getElem?_eq_getElem hj]; rfl)
          refine ⟨_, rfl, .inl ⟨rfl, _, SqL.of hw7⟩, _, rfl, _, rfl, _, _, rfl, rfl, ⟨by decide, by decide⟩, _, rfl, sa, _, rfl, .inl (SqL.of hs7), _, _, rfl, rfl, by rw [List.length_map]; omega, sa, _, _, _, rfl, rfl, SqL.of hs7, by rw [List.length_map]; exact hat, ?_⟩
          refine ⟨pw, _, _, rfl, rfl, hw7, by rw [List.length_map, hwl]; exact small_of (m := 63) (by omega), ?_⟩
          refine ⟨ws ++ [ss[j]], _, _, _, _, by rw [List.length_append, hwl]; rfl, fun z hz => ?_, rfl, k7.own hw hw7, by rw [upd_ne ncw]; exact hc7, by rw [upd_same, List.map_append]; rfl⟩
          rcases List.mem_append.mp hz with hz | hz
          · exact hws z hz
          · rw [List.mem_singleton.mp hz]
            exact hss _ (List.getElem_mem hj)
      · rintro σ H4 ⟨ws, v2, v7, v8, v9, hwl, hws, rfl, kp, hc4, hw4⟩
        rw [List.length_map] at hwl
        refine ⟨_, rfl, _, rfl, by show 2 ≤ sizeLine; decide, fun t ht => ?_⟩
        have kt : Kp tb [] H4 (upd H4 t (.tup [.ref pz, .ref pw])) := Kp.new ht
        refine q zs ws t pz pw _ hz0 (by omega) (fun z => by have := ym z; omega) hzn hwl hws (k2.trans (k3.trans (kp.trans kt))) (k2.free _ fz) (k2.free _ (k3.free _ hw)) (k2.free _ (k3.free _ (kp.free _ ht))) nzw upd_same (kt.get (kp.get hz)) (kt.get hw4)
end
end Kf

namespace Kf
open PySem PySem.Spec PyProof.Rows L2
section
variable {P : Program} {w : World} {K : PySem.W.Frag} {mg : Str → Option Value} {base : Heap}
/-! ### is_name, check_name, check_places -/
abbrev cIsName (K : PySem.W.Frag) : Addr := (He.cT K ("is_name", none)).1
abbrev tbOf (K : PySem.W.Frag) : Addr := (He.cT K ("is_name", none)).2
def isNameB (z : Str) : Bool := decide (1 ≤ z.length) && decide (z.length ≤ 8) && z.cps.toList.all lowB
def isNameV : V → Bool
  | .str z => isNameB z
  | _ => false
theorem isNameB_of {z : Str} (h : IsName z) : isNameB z = true := by
  obtain ⟨h1, h2, h3⟩ := h
  unfold isNameB
  rw [decide_eq_true h1, decide_eq_true h2, h3]
  rfl
theorem isName_ofB {z : Str} (h : isNameB z = true) : IsName z := by
  unfold isNameB at h
  rw [Bool.and_eq_true, Bool.and_eq_true] at h
  exact ⟨of_decide_eq_true h.1.1, of_decide_eq_true h.1.2, h.2⟩
def spIsName (K : PySem.W.Frag) : Sp := fun vs H Q _ => ∃ (x : V) (T : String), vs = [x] ∧ TyB K H x T ∧ tyOk T = true ∧ (∀ z, x = .str z → z.length ≤ sizeLine) ∧ GxR.TabG H (tbOf K) ∧ ∀ H', Kp (tbOf K) [] H H' → Q (.bl (isNameV x)) H'
theorem sc_isname : FnScope ["value"] ["value"] (defScope s_is_name) := ⟨rfl, rfl, rfl, by decide +kernel, rfl, by decide +kernel, by decide +kernel⟩
theorem genS_of {env : Env} {scope : Scope} {x : Str} (hk : scope.kind = .function) (hc : scope.isCoroutine = false) (hn : scope.names = [((".0" : Str), NameKind.local), (x, NameKind.local)]) (hx : (x == (".0" : Str)) = false) : GxR.GenS env scope x := by
  refine ⟨hk, hc, fun y hy => ?_, ?_, ?_, fun y hy e => ?_⟩
  · rw [hn] at hy
    rcases List.mem_cons.mp hy with z | z
    · rw [z]; exact fun q => nomatch q
    · rw [List.mem_singleton.mp z]; exact fun q => nomatch q
  · rw [hn]
    rfl
  · rw [hn]
    show (match x == (".0" : Str) with | true => some NameKind.local | false => List.lookup x [(x, NameKind.local)]) = some NameKind.local
    rw [hx]
    show (match x == x with | true => some NameKind.local | false => List.lookup x []) = some NameKind.local
    rw [beq_self_eq_true]
  · rw [hn] at hy
    rcases List.mem_cons.mp hy with z | z
    · rw [z] at e; exact nomatch e
    · rw [List.mem_singleton.mp z] at e; exact nomatch e
theorem ok_isname {fd : FuncData} {k0 : Nat} (F : FnP K "is_name" "is_name" s_is_name (He.fAd K ("is_name", none)) fd) (TB : GxR.TabB base mg (cIsName K) (tbOf K)) {tl : Tok}
    (hml : mg "MOST_LETTERS" = some (.int 8 tl)) (hty : mg "type" = none) (hstr : mg "str" = none) (hlen : mg "len" = none) (hall : mg "all" = none) :
    FnOk P w K mg base CX0 (k0 + 1) (He.fAd K ("is_name", none)) fd ["value"] (spIsName K) := by
  refine okC (p := ("is_name", none)) rfl F sc_isname (fun vs H Q E h => ?_) (fun cdv A outer s H vs Q E hcd hr h => ?_)
  · obtain ⟨x, T, rfl, _⟩ := h
    rfl
  · obtain ⟨x, T, rfl, ty, tok, hsz, tab, q⟩ := h
    refine ⟨_, PSs.nox (pss_cons (ps_if (PW.pt (pw_or (pt_cmpR (op_neTy (hu_of hr)) (pe_callTy call_type1 (by rfl) hty (by decide +kernel) (pa_cons (pv 0) pa_nil)) (pe_bltn (v := .ty "str") (by rfl) hstr (by decide +kernel) rfl) (nomark _))
        (pw_or1 (pt_not (pt_chain op_le op_le pe_int (pe_callB call_len_str (by rfl) hlen PySem.boot_len (pa_cons (pv 0) pa_nil)) (pe_glob (v := .int 8) rfl hml ⟨_, rfl⟩))))))
        (pss_one (ps_ret pe_bl)) pss_nil)
      (pss_one (ps_ret (GxR.pe_allS hr (by rfl) hall (by decide +kernel) TB hcd (genS_of rfl rfl rfl (by decide +kernel)) (pv 0) (elt_low rfl (by decide +kernel)) (fun _ => rfl))))), ?_⟩
    refine ⟨_, rfl, x, T, rfl, ty, _, _, rfl, rfl, tok, by decide, _, rfl, ?_⟩
    by_cases hT : T = "str"
    · have ex : ∃ z, x = .str z := by
        cases ty with
        | str z => exact ⟨z, rfl⟩
        | _ => exact absurd hT (by decide)
      rw [decide_eq_true hT]
      refine iteF ?_
      obtain ⟨z, rfl⟩ := ex
      · have hz := hsz z rfl
        refine ⟨_, rfl, z, rfl, hz, _, _, rfl, rfl, _, rfl, ?_⟩
        cases h1 : decide ((1 : Int) ≤ (z.length : Int)) with
        | false =>
          have := of_decide_eq_false h1
          refine iteF ⟨_, rfl, iteT ?_⟩
          have e : isNameV (.str z) = false := by
            show isNameB z = false
            unfold isNameB
            rw [decide_eq_false (by omega)]
            rfl
          have qq := q H (Kp.refl _)
          rw [e] at qq
          exact qq
        | true =>
          refine iteT ⟨_, _, rfl, rfl, _, rfl, ?_⟩
          have h1' := of_decide_eq_true h1
          cases h8 : decide ((z.length : Int) ≤ 8) with
          | false =>
            have := of_decide_eq_false h8
            refine iteT ?_
            have e : isNameV (.str z) = false := by
              show isNameB z = false
              unfold isNameB
              rw [decide_eq_false (p := z.length ≤ 8) (by omega), Bool.and_false]
              rfl
            have qq := q H (Kp.refl _)
            rw [e] at qq
            exact qq
          | true =>
            have h8' := of_decide_eq_true h8
            refine iteF ⟨_, rfl, z, rfl, tab, fun H2 hT2 => ?_⟩
            have e : isNameV (.str z) = z.cps.toList.all lowB := by
              show isNameB z = _
              unfold isNameB
              rw [decide_eq_true (p := 1 ≤ z.length) (by omega), decide_eq_true (p := z.length ≤ 8) (by omega)]
              rfl
            have qq := q H2 (Kp.tabbed tab hT2)
            rw [e] at qq
            exact qq
    · rw [decide_eq_false hT]
      refine iteT ?_
      have e : isNameV x = false := by
        cases ty with
        | str z => exact absurd rfl hT
        | _ => rfl
      have qq := q H (Kp.refl _)
      rw [e] at qq
      exact qq
def spCheckName (K : PySem.W.Frag) : Sp := fun vs H Q _ => ∃ z : Str, vs = [.str z] ∧ IsName z ∧ GxR.TabG H (tbOf K) ∧ ∀ H', Kp (tbOf K) [] H H' → Q .non H'
theorem sc_checkname : FnScope ["name"] ["name"] (defScope s_check_name) := ⟨rfl, rfl, rfl, by decide +kernel, rfl, by decide +kernel, by decide +kernel⟩
theorem ok_checkname {f : Addr} {fd : FuncData} {k0 : Nat} (F : FnP K "check_name" "check_name" s_check_name f fd) (G : Glob P w K mg base CX0 (k0 + 1) "is_name" ["value"] (spIsName K)) :
    FnOk P w K mg base CX0 (k0 + 2) f fd ["name"] (spCheckName K) := by
  refine ok0 F sc_checkname (fun vs H Q E h => ?_) (fun cdv A outer s H vs Q E hr h => ?_)
  · obtain ⟨z, rfl, _⟩ := h
    rfl
  · obtain ⟨z, rfl, hz, tab, q⟩ := h
    refine ⟨_, pss_one (ps_if (pt_not (pt_val (pe_callG G hr (by rfl) pass0 (pa_cons (pv 0) pa_nil)))) (pss_one ps_never) pss_nil), ?_⟩
    refine ⟨_, rfl, _, _, rfl, .str z, rfl, fun z' e => ?_, tab, fun H' kp => ⟨_, rfl, ?_⟩⟩
    · cases e
      exact Nat.le_of_lt (small_of (m := 8) hz.2.1)
    · rw [show isNameV (.str z) = true from isNameB_of hz]
      exact iteF (q H' kp)
def spCheckPlaces : Sp := fun vs H Q _ => ∃ n : Int, vs = [.int n] ∧ 1 ≤ n ∧ n ≤ 20 ∧ Q .non H
theorem sc_checkplaces : FnScope ["places"] ["places"] (defScope s_check_places) := ⟨rfl, rfl, rfl, by decide +kernel, rfl, by decide +kernel, by decide +kernel⟩
theorem ok_checkplaces {f : Addr} {fd : FuncData} {k0 : Nat} (F : FnP K "check_places" "check_places" s_check_places f fd) {tl : Tok}
    (hmp : mg "MOST_PLACES" = some (.int 20 tl)) (hty : mg "type" = none) (hint : mg "int" = none) : FnOk P w K mg base CX0 (k0 + 1) f fd ["places"] spCheckPlaces := by
  refine ok0 F sc_checkplaces (fun vs H Q E h => ?_) (fun cdv A outer s H vs Q E hr h => ?_)
  · obtain ⟨n, rfl, _⟩ := h
    rfl
  · obtain ⟨n, rfl, n0, n1, q⟩ := h
    refine ⟨_, pss_one (ps_if (PW.pt (pw_or (pt_cmpR (op_neTy (hu_of hr)) (pe_callTy call_type1 (by rfl) hty (by decide +kernel) (pa_cons (pv 0) pa_nil)) (pe_bltn (v := .ty "int") (by rfl) hint (by decide +kernel) rfl) (nomark _))
        (pw_or1 (pt_not (pt_chain op_le op_le pe_int (pv 0) (pe_glob (v := .int 20) rfl hmp ⟨_, rfl⟩))))))
        (pss_one ps_never) pss_nil), ?_⟩
    refine ⟨_, rfl, .int n, "int", rfl, .int n, _, _, rfl, rfl, by decide, by decide, _, rfl, ?_⟩
    refine iteF ⟨_, rfl, _, _, rfl, rfl, _, rfl, ?_⟩
    rw [decide_eq_true n0]
    refine iteT ⟨_, _, rfl, rfl, _, rfl, ?_⟩
    rw [decide_eq_true n1]
    exact iteF q
end
end Kf

namespace Kf
open PySem PySem.Spec PyProof.Rows L2
/-! ### shelves: what stands in the heap -/
def oF (n : Int) (l : Addr) (m k : Int) (ext : List (Str × V)) : List (Str × V) := ("_size", .int n) :: ("_row", .ref l) :: ("_met", .int m) :: ("_missed", .int k) :: ext
theorem oF_size (n : Int) (l : Addr) (m k : Int) (ext : List (Str × V)) : (oF n l m k ext).lookup ("_size" : Str) = some (.int n) := by kernel_rfl
theorem oF_row (n : Int) (l : Addr) (m k : Int) (ext : List (Str × V)) : (oF n l m k ext).lookup ("_row" : Str) = some (.ref l) := by kernel_rfl
theorem oF_met (n : Int) (l : Addr) (m k : Int) (ext : List (Str × V)) : (oF n l m k ext).lookup ("_met" : Str) = some (.int m) := by kernel_rfl
theorem oF_missed (n : Int) (l : Addr) (m k : Int) (ext : List (Str × V)) : (oF n l m k ext).lookup ("_missed" : Str) = some (.int k) := by kernel_rfl
theorem oF_put_met (n : Int) (l : Addr) (m k m' : Int) (ext : List (Str × V)) : putF "_met" (.int m') (oF n l m k ext) = oF n l m' k ext := by kernel_rfl
theorem oF_put_missed (n : Int) (l : Addr) (m k k' : Int) (ext : List (Str × V)) : putF "_missed" (.int k') (oF n l m k ext) = oF n l m k' ext := by kernel_rfl
theorem oF_init (n : Int) (l : Addr) : putF "_missed" (.int 0) (putF "_met" (.int 0) (putF "_row" (.ref l) (putF "_size" (.int n) []))) = oF n l 0 0 [] := by kernel_rfl
theorem oF_wish (n : Int) (l : Addr) (m k : Int) (ext : List (Str × V)) : (oF n l m k ext).lookup ("wish" : Str) = ext.lookup ("wish" : Str) := by kernel_rfl
theorem oF_free (n : Int) (l : Addr) (m k : Int) (ext : List (Str × V)) : (oF n l m k ext).lookup ("_free_a_place" : Str) = ext.lookup ("_free_a_place" : Str) := by kernel_rfl
theorem oF_pick (n : Int) (l : Addr) (m k : Int) (ext : List (Str × V)) : (oF n l m k ext).lookup ("_pick_going" : Str) = ext.lookup ("_pick_going" : Str) := by kernel_rfl
theorem oF_note (n : Int) (l : Addr) (m k : Int) (ext : List (Str × V)) : (oF n l m k ext).lookup ("_note_wish" : Str) = ext.lookup ("_note_wish" : Str) := by kernel_rfl
theorem oF_places (n : Int) (l : Addr) (m k : Int) (ext : List (Str × V)) : (oF n l m k ext).lookup ("places" : Str) = ext.lookup ("places" : Str) := by kernel_rfl
theorem oF_things (n : Int) (l : Addr) (m k : Int) (ext : List (Str × V)) : (oF n l m k ext).lookup ("things" : Str) = ext.lookup ("things" : Str) := by kernel_rfl
theorem oF_nmet (n : Int) (l : Addr) (m k : Int) (ext : List (Str × V)) : (oF n l m k ext).lookup ("met" : Str) = ext.lookup ("met" : Str) := by kernel_rfl
theorem oF_nmissed (n : Int) (l : Addr) (m k : Int) (ext : List (Str × V)) : (oF n l m k ext).lookup ("missed" : Str) = ext.lookup ("missed" : Str) := by kernel_rfl
theorem oF_order (n : Int) (l : Addr) (m k : Int) (ext : List (Str × V)) : (oF n l m k ext).lookup ("order" : Str) = ext.lookup ("order" : Str) := by kernel_rfl
/-- a shelf of the class at C: n places, its list at l, what is there, how many were met and missed, further attributes -/
structure ShAt (C : Addr) (H : Hp) (p : Addr) (n : Int) (l : Addr) (row : List Str) (m k : Int) (ext : List (Str × V)) : Prop where
  ob : ∃ dx, H p = some (.ins C dx (oF n l m k ext))
  ls : H l = some (.lst (row.map V.str))
theorem ShAt.ne {C : Addr} {H : Hp} {p l : Addr} {n m k : Int} {row : List Str} {ext : List (Str × V)} (h : ShAt C H p n l row m k ext) : p ≠ l := by
  obtain ⟨⟨dx, h1⟩, h2⟩ := h
  exact ne_of h1 h2 (by intro z; cases z)
theorem ShAt.kp {C : Addr} {H H' : Hp} {tb : Addr} {S : List Addr} {p l : Addr} {n m k : Int} {row : List Str} {ext : List (Str × V)} (h : ShAt C H p n l row m k ext) (kp : Kp tb S H H') (hp : p ∉ S := by simp) (hl : l ∉ S := by simp) : ShAt C H' p n l row m k ext := by
  obtain ⟨⟨dx, h1⟩, h2⟩ := h
  exact ⟨⟨dx, kp.get h1 rfl hp⟩, kp.get h2 rfl hl⟩
theorem inV_str (z : Str) : ∀ row : List Str, inV (.str z) (row.map V.str) = decide (z ∈ row)
  | [] => rfl
  | y :: r => by
    have ih := inV_str z r
    show (eqV (.str y) (.str z) || (r.map V.str).any fun y => eqV y (.str z)) = _
    rw [show ((r.map V.str).any fun y => eqV y (.str z)) = decide (z ∈ r) from ih]
    show ((y == z) || decide (z ∈ r)) = decide (z ∈ y :: r)
    by_cases e : y = z
    · subst e
      simp
    · rw [beq_eq_false_iff_ne.mpr e, Bool.false_or]
      exact decide_eq_decide.mpr ⟨fun h => List.mem_cons_of_mem _ h, fun h => (List.mem_cons.mp h).elim (fun q => absurd q.symm e) id⟩
theorem flat_strs : ∀ row : List Str, (row.map V.str).all flatV = true
  | [] => rfl
  | _ :: r => flat_strs r
def optV : Option Str → V
  | none => .non
  | some z => .str z

/-- what is known of a class of shelves -/
structure ClsT (K : PySem.W.Frag) (C : Addr) : Prop where
  cl : Cls K C
  nS : NoAttr K C "_size"
  nR : NoAttr K C "_row"
  nM : NoAttr K C "_met"
  nK : NoAttr K C "_missed"
section
variable {P : Program} {w : World} {K : PySem.W.Frag} {mg : Str → Option Value} {base : Heap} {tb C : Addr}
/-! ### Shelf.__init__ -/
def spInit (tb C : Addr) : Sp := fun vs H Q _ => ∃ (p dx : Addr) (n : Int), vs = [.ref p, .int n] ∧ 1 ≤ n ∧ n ≤ 20 ∧ H p = some (.ins C dx []) ∧
  ∀ (l : Addr) (H' : Hp), H l = none → (∃ dx, H' p = some (.ins C dx (oF n l 0 0 []))) → H' l = some (.lst []) → Kp tb [p] H H' → Q .non H'
theorem sc_init : FnScope ["self", "places"] ["self", "places"] (defScope s_Shelf___init__) := ⟨rfl, rfl, rfl, by decide +kernel, rfl, by decide +kernel, by decide +kernel⟩
theorem ok_init {f : Addr} {fd : FuncData} {k0 : Nat} (F : FnP K "__init__" "Shelf.__init__" s_Shelf___init__ f fd) (T : ClsT K C) (G : Glob P w K mg base CX0 (k0 + 1) "check_places" ["places"] spCheckPlaces) :
    FnOk P w K mg base CX0 (k0 + 2) f fd ["self", "places"] (spInit tb C) := by
  refine ok0 F sc_init (fun vs H Q E h => ?_) (fun cdv A outer s H vs Q E hr h => ?_)
  · obtain ⟨p, dx, n, rfl, _⟩ := h
    rfl
  · obtain ⟨p, dx, n, rfl, n0, n1, hp, q⟩ := h
    refine ⟨_, pss_cons (ps_expr (pe_callG G hr (by rfl) pass0 (pa_cons (pv 1) pa_nil))) (pss_cons (ps_fld (pv 0) (pv 1) rfl) (pss_cons (ps_fld (pv 0) (pe_lst pa_nil) rfl)
      (pss_cons (ps_fld (pv 0) pe_int rfl) (pss_one (ps_fld (pv 0) pe_int rfl))))), ?_⟩
    refine ⟨_, rfl, n, rfl, n0, n1, ?_⟩
    refine ⟨_, rfl, _, rfl, p, C, dx, [], rfl, hp, T.cl, T.nS, (by show 0 < 1000; decide), ?_⟩
    refine ⟨Nat.zero_le _, fun l hl => ?_⟩
    have hl0 : H l = none := free_upd hl
    have npl : p ≠ l := ne_of_none hp hl0
    refine ⟨_, rfl, p, C, dx, _, rfl, Eq.trans (upd_ne npl) upd_same, T.cl, T.nR, (by show 1 < 1000; decide), ?_⟩
    refine ⟨_, rfl, p, C, dx, _, rfl, upd_same, T.cl, T.nM, (by show 2 < 1000; decide), ?_⟩
    refine ⟨_, rfl, p, C, dx, _, rfl, upd_same, T.cl, T.nK, (by show 3 < 1000; decide), ?_⟩
    refine q l _ hl0 ⟨dx, by rw [upd_same, oF_init]⟩ (by rw [upd_ne npl.symm, upd_ne npl.symm, upd_ne npl.symm, upd_same]) ?_
    have k1 : Kp tb [p] H (upd H p (.ins C dx (putF "_size" (.int n) []))) := Kp.put hp
    have k2 := k1.step (o := .lst []) hl
    have h3 : (upd (upd H p (.ins C dx (putF "_size" (.int n) []))) l (.lst [])) p = some (.ins C dx (putF "_size" (.int n) [])) := Eq.trans (upd_ne npl) upd_same
    exact ((k2.trans (Kp.put h3)).trans (Kp.put upd_same)).trans (Kp.put upd_same)
/-! ### what a shelf tells -/
def spInt (C : Addr) (g : Int → Int → Int → Int) : Sp := fun vs H Q _ => ∃ (p l : Addr) (n m k : Int) (ext : List (Str × V)), vs = [.ref p] ∧ (∃ dx, H p = some (.ins C dx (oF n l m k ext))) ∧ Q (.int (g n m k)) H
theorem sc_places_ : FnScope ["self"] ["self"] (defScope s_Shelf_places) := ⟨rfl, rfl, rfl, by decide +kernel, rfl, by decide +kernel, by decide +kernel⟩
theorem ok_places_ {f : Addr} {fd : FuncData} {k0 : Nat} (F : FnP K "places" "Shelf.places" s_Shelf_places f fd) (T : ClsT K C) : FnOk P w K mg base CX0 (k0 + 1) f fd ["self"] (spInt C fun n _ _ => n) := by
  refine ok0 F sc_places_ (fun vs H Q E h => ?_) (fun cdv A outer s H vs Q E hr h => ?_)
  · obtain ⟨p, l, n, m, k, ext, rfl, _⟩ := h
    rfl
  · obtain ⟨p, l, n, m, k, ext, rfl, ⟨dx, hp⟩, q⟩ := h
    exact ⟨_, pss_one (ps_ret (pe_fld (pv 0) rfl)), _, rfl, p, C, dx, _, _, rfl, hp, T.cl, T.nS, oF_size .., q⟩
theorem sc_met : FnScope ["self"] ["self"] (defScope s_Shelf_met) := ⟨rfl, rfl, rfl, by decide +kernel, rfl, by decide +kernel, by decide +kernel⟩
theorem ok_met {f : Addr} {fd : FuncData} {k0 : Nat} (F : FnP K "met" "Shelf.met" s_Shelf_met f fd) (T : ClsT K C) : FnOk P w K mg base CX0 (k0 + 1) f fd ["self"] (spInt C fun _ m _ => m) := by
  refine ok0 F sc_met (fun vs H Q E h => ?_) (fun cdv A outer s H vs Q E hr h => ?_)
  · obtain ⟨p, l, n, m, k, ext, rfl, _⟩ := h
    rfl
  · obtain ⟨p, l, n, m, k, ext, rfl, ⟨dx, hp⟩, q⟩ := h
    exact ⟨_, pss_one (ps_ret (pe_fld (pv 0) rfl)), _, rfl, p, C, dx, _, _, rfl, hp, T.cl, T.nM, oF_met .., q⟩
theorem sc_missed : FnScope ["self"] ["self"] (defScope s_Shelf_missed) := ⟨rfl, rfl, rfl, by decide +kernel, rfl, by decide +kernel, by decide +kernel⟩
theorem ok_missed {f : Addr} {fd : FuncData} {k0 : Nat} (F : FnP K "missed" "Shelf.missed" s_Shelf_missed f fd) (T : ClsT K C) : FnOk P w K mg base CX0 (k0 + 1) f fd ["self"] (spInt C fun _ _ k => k) := by
  refine ok0 F sc_missed (fun vs H Q E h => ?_) (fun cdv A outer s H vs Q E hr h => ?_)
  · obtain ⟨p, l, n, m, k, ext, rfl, _⟩ := h
    rfl
  · obtain ⟨p, l, n, m, k, ext, rfl, ⟨dx, hp⟩, q⟩ := h
    exact ⟨_, pss_one (ps_ret (pe_fld (pv 0) rfl)), _, rfl, p, C, dx, _, _, rfl, hp, T.cl, T.nK, oF_missed .., q⟩
/-- a new list, made of what is there -/
def spList (tb C : Addr) (g : List Str → List Str) : Sp := fun vs H Q _ => ∃ (p l : Addr) (n m k : Int) (row : List Str) (ext : List (Str × V)), vs = [.ref p] ∧ ShAt C H p n l row m k ext ∧ row.length < 64 ∧
  ∀ (o : Addr) (H' : Hp), H o = none → H' o = some (.lst ((g row).map V.str)) → Kp tb [] H H' → Q (.ref o) H'
theorem sc_things : FnScope ["self"] ["self"] (defScope s_Shelf_things) := ⟨rfl, rfl, rfl, by decide +kernel, rfl, by decide +kernel, by decide +kernel⟩
theorem ok_things {f : Addr} {fd : FuncData} {k0 : Nat} (F : FnP K "things" "Shelf.things" s_Shelf_things f fd) (T : ClsT K C) (hs : mg "sorted" = none) : FnOk P w K mg base CX0 (k0 + 1) f fd ["self"] (spList tb C sortS) := by
  refine ok0 F sc_things (fun vs H Q E h => ?_) (fun cdv A outer s H vs Q E hr h => ?_)
  · obtain ⟨p, l, n, m, k, row, ext, rfl, _⟩ := h
    rfl
  · obtain ⟨p, l, n, m, k, row, ext, rfl, S, h64, q⟩ := h
    obtain ⟨⟨dx, hp⟩, hl⟩ := id S
    refine ⟨_, pss_one (ps_ret (pe_callB cr_sortS (by rfl) hs (by decide +kernel) (pa_cons (pe_fld (pv 0) rfl) pa_nil))), ?_⟩
    refine ⟨_, rfl, p, C, dx, _, _, rfl, hp, T.cl, T.nR, oF_row .., l, row, rfl, SqL.of hl, h64, fun o ho => ?_⟩
    exact q o _ ho upd_same (Kp.new ho)
end
end Kf

namespace Kf
open PySem PySem.Spec PyProof.Rows L2
/-! ### old and cold shelves -/
/-- one wish: met, what went, what is there then; nf: what the rule does with the row behind a wish -/
def stepOC (nf : Str → List Str → List Str) (n : Int) (row : List Str) (z : Str) : Bool × Option Str × List Str :=
  if z ∈ row then (true, none, nf z row)
  else if (row.length : Int) < n then (false, none, nf z (row ++ [z])) else (false, row.head?, nf z (row.tail ++ [z]))
def nfOld (_ : Str) (row : List Str) : List Str := row
def nfCold (z : Str) (row : List Str) : List Str := row.erase z ++ [z]
section
variable {P : Program} {w : World} {K : PySem.W.Frag} {mg : Str → Option Value} {base : Heap} {tb C : Addr}
theorem atI_zero (x : V) (r : List V) : atI (x :: r) 0 = some x := by
  have h : atI (x :: r) ((0 : Nat) : Int) = some x := atI_nat rfl
  exact h
/-- list(self._row) -/
theorem sc_oorder : FnScope ["self"] ["self"] (defScope s_Old_order) := ⟨rfl, rfl, rfl, by decide +kernel, rfl, by decide +kernel, by decide +kernel⟩
theorem ok_oorder {f : Addr} {fd : FuncData} {k0 : Nat} (F : FnP K "order" "Old.order" s_Old_order f fd) (T : ClsT K C) (hs : mg "list" = none) : FnOk P w K mg base CX0 (k0 + 1) f fd ["self"] (spList tb C fun r => r) := by
  refine ok0 F sc_oorder (fun vs H Q E h => ?_) (fun cdv A outer s H vs Q E hr h => ?_)
  · obtain ⟨p, l, n, m, k, row, ext, rfl, _⟩ := h
    rfl
  · obtain ⟨p, l, n, m, k, row, ext, rfl, S, h64, q⟩ := h
    obtain ⟨⟨dx, hp⟩, hl⟩ := id S
    refine ⟨_, pss_one (ps_ret (pe_callTy call_list_of (by rfl) hs (by decide +kernel) (pa_cons (pe_fld (pv 0) rfl) pa_nil))), ?_⟩
    refine ⟨_, rfl, p, C, dx, _, _, rfl, hp, T.cl, T.nR, oF_row .., l, _, rfl, .inl (SqL.of hl), fun o ho => ?_⟩
    exact q o _ ho upd_same (Kp.new ho)
theorem sc_corder : FnScope ["self"] ["self"] (defScope s_Cold_order) := ⟨rfl, rfl, rfl, by decide +kernel, rfl, by decide +kernel, by decide +kernel⟩
theorem ok_corder {f : Addr} {fd : FuncData} {k0 : Nat} (F : FnP K "order" "Cold.order" s_Cold_order f fd) (T : ClsT K C) (hs : mg "list" = none) : FnOk P w K mg base CX0 (k0 + 1) f fd ["self"] (spList tb C fun r => r) := by
  refine ok0 F sc_corder (fun vs H Q E h => ?_) (fun cdv A outer s H vs Q E hr h => ?_)
  · obtain ⟨p, l, n, m, k, row, ext, rfl, _⟩ := h
    rfl
  · obtain ⟨p, l, n, m, k, row, ext, rfl, S, h64, q⟩ := h
    obtain ⟨⟨dx, hp⟩, hl⟩ := id S
    refine ⟨_, pss_one (ps_ret (pe_callTy call_list_of (by rfl) hs (by decide +kernel) (pa_cons (pe_fld (pv 0) rfl) pa_nil))), ?_⟩
    refine ⟨_, rfl, p, C, dx, _, _, rfl, hp, T.cl, T.nR, oF_row .., l, _, rfl, .inl (SqL.of hl), fun o ho => ?_⟩
    exact q o _ ho upd_same (Kp.new ho)
/-- self._row[0] -/
def spPickOC (C : Addr) : Sp := fun vs H Q _ => ∃ (p l : Addr) (n m k : Int) (g : Str) (r : List Str) (ext : List (Str × V)), vs = [.ref p] ∧ ShAt C H p n l (g :: r) m k ext ∧ Q (.str g) H
theorem sc_opick : FnScope ["self"] ["self"] (defScope s_Old__pick_going) := ⟨rfl, rfl, rfl, by decide +kernel, rfl, by decide +kernel, by decide +kernel⟩
theorem ok_opick {f : Addr} {fd : FuncData} {k0 : Nat} (F : FnP K "_pick_going" "Old._pick_going" s_Old__pick_going f fd) (T : ClsT K C) : FnOk P w K mg base CX0 (k0 + 1) f fd ["self"] (spPickOC C) := by
  refine ok0 F sc_opick (fun vs H Q E h => ?_) (fun cdv A outer s H vs Q E hr h => ?_)
  · obtain ⟨p, l, n, m, k, g, r, ext, rfl, _⟩ := h
    rfl
  · obtain ⟨p, l, n, m, k, g, r, ext, rfl, S, q⟩ := h
    obtain ⟨⟨dx, hp⟩, hl⟩ := id S
    refine ⟨_, pss_one (ps_ret (pe_ix ix_list (pe_fld (pv 0) rfl) pe_int (fun _ _ => rfl))), ?_⟩
    exact ⟨_, rfl, p, C, dx, _, _, rfl, hp, T.cl, T.nR, oF_row .., l, _, 0, _, rfl, rfl, SqL.of hl, atI_zero _ _, q⟩
theorem sc_cpick : FnScope ["self"] ["self"] (defScope s_Cold__pick_going) := ⟨rfl, rfl, rfl, by decide +kernel, rfl, by decide +kernel, by decide +kernel⟩
theorem ok_cpick {f : Addr} {fd : FuncData} {k0 : Nat} (F : FnP K "_pick_going" "Cold._pick_going" s_Cold__pick_going f fd) (T : ClsT K C) : FnOk P w K mg base CX0 (k0 + 1) f fd ["self"] (spPickOC C) := by
  refine ok0 F sc_cpick (fun vs H Q E h => ?_) (fun cdv A outer s H vs Q E hr h => ?_)
  · obtain ⟨p, l, n, m, k, g, r, ext, rfl, _⟩ := h
    rfl
  · obtain ⟨p, l, n, m, k, g, r, ext, rfl, S, q⟩ := h
    obtain ⟨⟨dx, hp⟩, hl⟩ := id S
    refine ⟨_, pss_one (ps_ret (pe_ix ix_list (pe_fld (pv 0) rfl) pe_int (fun _ _ => rfl))), ?_⟩
    exact ⟨_, rfl, p, C, dx, _, _, rfl, hp, T.cl, T.nR, oF_row .., l, _, 0, _, rfl, rfl, SqL.of hl, atI_zero _ _, q⟩
/-- _note_wish -/
def spNoteOC (nf : Str → List Str → List Str) (tb C : Addr) : Sp := fun vs H Q _ => ∃ (p l : Addr) (n m k : Int) (z : Str) (row : List Str), vs = [.ref p, .str z] ∧ ShAt C H p n l row m k [] ∧ z ∈ row ∧ row.length ≤ 20 ∧
  ∀ H', ShAt C H' p n l (nf z row) m k [] → Kp tb [l] H H' → Q .non H'
theorem sc_note : FnScope ["self", "name"] ["self", "name"] (defScope s_Shelf__note_wish) := ⟨rfl, rfl, rfl, by decide +kernel, rfl, by decide +kernel, by decide +kernel⟩
theorem ok_note {f : Addr} {fd : FuncData} {k0 : Nat} (F : FnP K "_note_wish" "Shelf._note_wish" s_Shelf__note_wish f fd) : FnOk P w K mg base CX0 (k0 + 1) f fd ["self", "name"] (spNoteOC nfOld tb C) := by
  refine ok0 F sc_note (fun vs H Q E h => ?_) (fun cdv A outer s H vs Q E hr h => ?_)
  · obtain ⟨p, l, n, m, k, z, row, rfl, _⟩ := h
    rfl
  · obtain ⟨p, l, n, m, k, z, row, rfl, S, hz, hl, q⟩ := h
    exact ⟨_, pss_one ps_pass, q H S (Kp.refl _)⟩
theorem sc_cnote : FnScope ["self", "name"] ["self", "name"] (defScope s_Cold__note_wish) := ⟨rfl, rfl, rfl, by decide +kernel, rfl, by decide +kernel, by decide +kernel⟩
theorem ok_cnote {f : Addr} {fd : FuncData} {k0 : Nat} (F : FnP K "_note_wish" "Cold._note_wish" s_Cold__note_wish f fd) (T : ClsT K C) : FnOk P w K mg base CX0 (k0 + 1) f fd ["self", "name"] (spNoteOC nfCold tb C) := by
  refine ok0 F sc_cnote (fun vs H Q E h => ?_) (fun cdv A outer s H vs Q E hr h => ?_)
  · obtain ⟨p, l, n, m, k, z, row, rfl, _⟩ := h
    rfl
  · obtain ⟨p, l, n, m, k, z, row, rfl, S, hz, hlen, q⟩ := h
    obtain ⟨⟨dx, hp⟩, hl⟩ := id S
    have npl := S.ne
    refine ⟨_, pss_cons (ps_expr (pe_bm PySem.F.plainAttrs_list PySem.F.slot_list_remove PySem.F.type_list_remove mt_removeS (pe_fld (pv 0) rfl) (pa_cons (pv 1) pa_nil)))
      (pss_one (ps_expr (pe_bm PySem.F.plainAttrs_list PySem.F.slot_list_append PySem.F.type_list_append mt_append (pe_fld (pv 0) rfl) (pa_cons (pv 1) pa_nil)))), ?_⟩
    refine ⟨_, rfl, p, C, dx, _, _, rfl, hp, T.cl, T.nR, oF_row .., .inl ⟨rfl, _, SqL.of hl⟩, _, rfl, l, row, z, rfl, rfl, hl, hz, ?_⟩
    have hp1 : (upd H l (.lst ((row.erase z).map V.str))) p = some (.ins C dx (oF n l m k [])) := by rw [upd_ne npl]; exact hp
    refine ⟨_, rfl, p, C, dx, _, _, rfl, hp1, T.cl, T.nR, oF_row .., .inl ⟨rfl, _, SqL.of upd_same⟩, _, rfl, l, _, _, rfl, rfl, upd_same, ?_, ?_⟩
    · rw [List.length_map]
      exact small_of (m := 20) (Nat.le_trans (List.length_erase_le) hlen)
    · refine q _ ⟨⟨dx, by rw [upd_ne npl]; exact hp1⟩, by rw [upd_same]; unfold nfCold; rw [List.map_append]; rfl⟩ ?_
      exact (Kp.put hl).trans (Kp.put upd_same)
/-- _free_a_place -/
def spFreeOC (tb C : Addr) : Sp := fun vs H Q _ => ∃ (p l : Addr) (n m k : Int) (row : List Str), vs = [.ref p] ∧ ShAt C H p n l row m k [] ∧ 1 ≤ n ∧ ((row.length : Int) < n → Q .non H) ∧
  (¬ (row.length : Int) < n → ∀ (g : Str) (r : List Str) (H' : Hp), row = g :: r → ShAt C H' p n l r m k [] → Kp tb [l] H H' → Q (.str g) H')
theorem sc_free : FnScope ["self", "gone"] ["self"] (defScope s_Shelf__free_a_place) := ⟨rfl, rfl, rfl, by decide +kernel, rfl, by decide +kernel, by decide +kernel⟩
theorem ok_freeOC {f : Addr} {fd : FuncData} {k0 : Nat} (F : FnP K "_free_a_place" "Shelf._free_a_place" s_Shelf__free_a_place f fd) (T : ClsT K C) (hlen : mg "len" = none) (G : MethOk P w K mg base CX0 (k0 + 1) C "_pick_going" ["self"] (spPickOC C)) :
    FnOk P w K mg base CX0 (k0 + 2) f fd ["self"] (spFreeOC tb C) := by
  refine ok0 F sc_free (fun vs H Q E h => ?_) (fun cdv A outer s H vs Q E hr h => ?_)
  · obtain ⟨p, l, n, m, k, row, rfl, _⟩ := h
    rfl
  · obtain ⟨p, l, n, m, k, row, rfl, S, n0, q1, q2⟩ := h
    obtain ⟨⟨dx, hp⟩, hl⟩ := id S
    refine ⟨_, pss_cons (ps_if (pt_cmpR op_lt (pe_callB call_len_seq (by rfl) hlen PySem.boot_len (pa_cons (pe_fld (pv 0) rfl) pa_nil)) (pe_fld (pv 0) rfl) (nomark _)) (pss_one (ps_ret pe_non)) pss_nil)
      (pss_cons (ps_set (i := 1) sc_free.nd rfl (.inl rfl) (pe_meth0G (pv 0) G hr pass0))
      (pss_cons (ps_expr (pe_bm PySem.F.plainAttrs_list PySem.F.slot_list_remove PySem.F.type_list_remove mt_removeS (pe_fld (pv 0) rfl) (pa_cons (pv 1) pa_nil)))
      (pss_one (ps_ret (pv 1))))), ?_⟩
    refine ⟨_, rfl, p, C, dx, _, _, rfl, hp, T.cl, T.nR, oF_row .., l, _, rfl, .inl (SqL.of hl), _, rfl, p, C, dx, _, _, rfl, hp, T.cl, T.nS, oF_size .., _, _, rfl, rfl, _, rfl, ?_⟩
    rw [List.length_map]
    refine ite2 (fun hlt => q1 (of_decide_eq_true hlt)) (fun hge => ?_)
    have hge' : ¬ (row.length : Int) < n := fun z => hge (decide_eq_true z)
    cases row with
    | nil => exact absurd (show ((List.length ([] : List Str) : Nat) : Int) < n by simp; omega) hge'
    | cons g r =>
      refine ⟨_, rfl, p, dx, _, rfl, hp, by rw [oF_pick]; rfl, p, l, n, m, k, g, r, [], rfl, S, ?_⟩
      refine ⟨_, rfl, p, C, dx, _, _, rfl, hp, T.cl, T.nR, oF_row .., .inl ⟨rfl, _, SqL.of hl⟩, _, rfl, l, g :: r, g, rfl, rfl, hl, List.mem_cons_self, ?_⟩
      rw [List.erase_cons_head]
      refine ⟨_, rfl, q2 hge' g r _ rfl ⟨⟨dx, by rw [upd_ne S.ne]; exact hp⟩, upd_same⟩ (Kp.put hl)⟩
/-- wish -/
def spWishOC (nf : Str → List Str → List Str) (tb C : Addr) : Sp := fun vs H Q _ => ∃ (p l : Addr) (n m k : Int) (z : Str) (row : List Str), vs = [.ref p, .str z] ∧ ShAt C H p n l row m k [] ∧ 1 ≤ n ∧ n ≤ 20 ∧ (row.length : Int) ≤ n ∧ IsName z ∧ GxR.TabG H tb ∧
  ∀ (t : Addr) (H' : Hp), ShAt C H' p n l (stepOC nf n row z).2.2 (if (stepOC nf n row z).1 then m + 1 else m) (if (stepOC nf n row z).1 then k else k + 1) [] → Kp tb [p, l] H H' → H t = none →
    H' t = some (.tup [.bl (stepOC nf n row z).1, optV (stepOC nf n row z).2.1]) → Q (.ref t) H'
theorem sc_wish : FnScope ["self", "name", "met", "gone"] ["self", "name"] (defScope s_Shelf_wish) := ⟨rfl, rfl, rfl, by decide +kernel, rfl, by decide +kernel, by decide +kernel⟩
theorem ok_wishOC {nf : Str → List Str → List Str} {f : Addr} {fd : FuncData} {k0 : Nat} (F : FnP K "wish" "Shelf.wish" s_Shelf_wish f fd) (T : ClsT K C) (GC : Glob P w K mg base CX0 (k0 + 2) "check_name" ["name"] (spCheckName K))
    (GF : MethOk P w K mg base CX0 (k0 + 2) C "_free_a_place" ["self"] (spFreeOC (tbOf K) C)) (GN : MethOk P w K mg base CX0 (k0 + 2) C "_note_wish" ["self", "name"] (spNoteOC nf (tbOf K) C)) :
    FnOk P w K mg base CX0 (k0 + 3) f fd ["self", "name"] (spWishOC nf (tbOf K) C) := by
  refine ok0 F sc_wish (fun vs H Q E h => ?_) (fun cdv A outer s H vs Q E hr h => ?_)
  · obtain ⟨p, l, n, m, k, z, row, rfl, _⟩ := h
    rfl
  · obtain ⟨p, l, n, m, k, z, row, rfl, S, n0, n1, hrow, hz, tab, q⟩ := h
    refine ⟨_, pss_cons (ps_expr (pe_callG GC hr (by rfl) pass0 (pa_cons (pv 1) pa_nil)))
      (pss_cons (ps_set (i := 2) sc_wish.nd rfl (.inl rfl) (pe_cmpR op_in_seq (pv 1) (pe_fld (pv 0) rfl) (by with_unfolding_all rfl)))
      (pss_cons (ps_set (i := 3) sc_wish.nd rfl (.inl rfl) pe_non)
      (C8.pss_cut (ps_if (pt_val (pv 2)) (pss_one (ps_fldaug (pv 0) pe_int in_add))
          (pss_cons (ps_fldaug (pv 0) pe_int in_add) (pss_cons (ps_set (i := 3) sc_wish.nd rfl (.inl rfl) (pe_meth0G (pv 0) GF hr pass0))
            (pss_one (ps_expr (pe_bm PySem.F.plainAttrs_list PySem.F.slot_list_append PySem.F.type_list_append mt_append (pe_fld (pv 0) rfl) (pa_cons (pv 1) pa_nil)))))))
      (pss_cons (ps_expr (pe_methG (pv 0) GN hr pass0 (pa_cons (pv 1) pa_nil)))
      (pss_one (ps_ret (pe_tup (pa_cons (pv 2) (pa_cons (pv 3) pa_nil))))))))), ?_⟩
    refine ⟨_, rfl, z, rfl, hz, tab, fun H1 kp1 => ?_⟩
    have S1 := S.kp kp1
    obtain ⟨⟨dx, hp⟩, hl⟩ := id S1
    have npl := S1.ne
    refine ⟨_, rfl, _, rfl, p, C, dx, _, _, rfl, hp, T.cl, T.nR, oF_row .., l, _, rfl, .inl (SqL.of hl), rfl, flat_strs row, ?_⟩
    rw [inV_str]
    -- the state behind the if
    refine ⟨fun σ H2 => ∃ (row2 : List Str) (met : Bool) (gone : Option Str) (m2 k2 : Int), σ = [some (.ref p), some (.str z), some (.bl met), some (optV gone)] ∧ ShAt C H2 p n l row2 m2 k2 [] ∧ z ∈ row2 ∧ row2.length ≤ 20 ∧ Kp (tbOf K) [p, l] H1 H2 ∧
      stepOC nf n row z = (met, gone, nf z row2) ∧ m2 = (if met then m + 1 else m) ∧ k2 = (if met then k else k + 1), ?_, ?_⟩
    · refine ⟨_, rfl, _, rfl, ?_⟩
      by_cases hin : z ∈ row
      · rw [decide_eq_true hin]
        refine iteT ?_
        refine ⟨_, rfl, p, C, dx, _, _, rfl, hp, T.cl, T.nM, oF_met .., _, _, rfl, rfl, dx, _, hp, (by show 4 < 1000; decide), ?_⟩
        rw [oF_put_met]
        refine ⟨row, true, none, m + 1, k, rfl, ⟨⟨dx, upd_same⟩, by rw [upd_ne npl.symm]; exact hl⟩, hin, by omega, Kp.put hp, ?_, rfl, rfl⟩
        unfold stepOC
        rw [if_pos hin]
      · rw [decide_eq_false hin]
        refine iteF ?_
        refine ⟨_, rfl, p, C, dx, _, _, rfl, hp, T.cl, T.nK, oF_missed .., _, _, rfl, rfl, dx, _, hp, (by show 4 < 1000; decide), ?_⟩
        rw [oF_put_missed]
        have kA : Kp (tbOf K) [p, l] H1 (upd H1 p (.ins C dx (oF n l m (k + 1) []))) := Kp.put hp
        have SA : ShAt C (upd H1 p (.ins C dx (oF n l m (k + 1) []))) p n l row m (k + 1) [] := ⟨⟨dx, upd_same⟩, by rw [upd_ne npl.symm]; exact hl⟩
        generalize upd H1 p (.ins C dx (oF n l m (k + 1) [])) = HA at kA SA ⊢
        obtain ⟨⟨dA, hpA⟩, hlA⟩ := id SA
        refine ⟨_, rfl, p, dA, _, rfl, hpA, by rw [oF_free]; rfl, p, l, n, m, k + 1, row, rfl, SA, n0, fun hlt => ?_, fun hge g r HB er SB kB => ?_⟩
        · refine ⟨_, rfl, p, C, dA, _, _, rfl, hpA, T.cl, T.nR, oF_row .., .inl ⟨rfl, _, SqL.of hlA⟩, _, rfl, l, _, _, rfl, rfl, hlA, by rw [List.length_map]; exact small_of (m := 20) (by omega), ?_⟩
          refine ⟨row ++ [z], false, none, m, k + 1, rfl, ⟨⟨dA, by rw [upd_ne npl]; exact hpA⟩, by rw [upd_same, List.map_append]; rfl⟩, List.mem_append_right _ List.mem_cons_self, by rw [List.length_append]; show row.length + 1 ≤ 20; omega, kA.trans (Kp.put hlA), ?_, rfl, rfl⟩
          unfold stepOC
          rw [if_neg hin, if_pos hlt]
        · obtain ⟨⟨dB, hpB⟩, hlB⟩ := id SB
          have hr20 : r.length + 1 ≤ 20 := by
            have : row.length = r.length + 1 := by rw [er]; rfl
            omega
          refine ⟨_, rfl, p, C, dB, _, _, rfl, hpB, T.cl, T.nR, oF_row .., .inl ⟨rfl, _, SqL.of hlB⟩, _, rfl, l, _, _, rfl, rfl, hlB, by rw [List.length_map]; exact small_of (m := 20) (by omega), ?_⟩
          refine ⟨r ++ [z], false, some g, m, k + 1, rfl, ⟨⟨dB, by rw [upd_ne npl]; exact hpB⟩, by rw [upd_same, List.map_append]; rfl⟩, List.mem_append_right _ List.mem_cons_self, by rw [List.length_append]; exact hr20, (kA.trans (kB.mono (by simp))).trans (Kp.put hlB), ?_, rfl, rfl⟩
          unfold stepOC
          rw [if_neg hin, if_neg hge, er]
          rfl
    · rintro σ H2 ⟨row2, met, gone, m2, k2, rfl, S2, hz2, h20, kp2, est, em, ek⟩
      obtain ⟨⟨d2, hp2⟩, hl2⟩ := id S2
      refine ⟨_, rfl, p, d2, _, rfl, hp2, by rw [oF_note]; rfl, _, rfl, p, l, n, m2, k2, z, row2, rfl, S2, hz2, h20, fun H3 S3 kp3 => ?_⟩
      refine ⟨_, rfl, _, rfl, by show 2 ≤ sizeLine; decide, fun t ht => ?_⟩
      have kt : Kp (tbOf K) [p, l] H3 (upd H3 t (.tup [.bl met, optV gone])) := Kp.new ht
      have kAll : Kp (tbOf K) [p, l] H H3 := (kp1.nil.trans kp2).trans (kp3.mono (by simp))
      have S4 : ShAt C (upd H3 t (.tup [.bl met, optV gone])) p n l (nf z row2) m2 k2 [] := S3.kp (Kp.new (tb := tbOf K) (S := []) ht)
      have e1 : (stepOC nf n row z).1 = met := by rw [est]
      have e2 : (stepOC nf n row z).2.1 = gone := by rw [est]
      have e3 : (stepOC nf n row z).2.2 = nf z row2 := by rw [est]
      exact q t _ (by rw [e3, e1, ← em, ← ek]; exact S4) (kAll.trans kt) (kAll.free _ ht) (by rw [e1, e2]; exact upd_same)
end
end Kf

namespace Kf
open PySem PySem.Spec PyProof.Rows L2
/-! ### a def read off its class, called -/
def fclsB (K : PySem.W.Frag) (C : Addr) (m : Str) (f : Addr) : Bool := match PySem.W.findCls K (.ref C) (.type "type") m with
  | some (.val v) => decide (v = .ref f)
  | _ => false
theorem fclsB_ok {K : PySem.W.Frag} {C : Addr} {m : Str} {f : Addr} (h : fclsB K C m f = true) : PySem.W.findCls K (.ref C) (.type "type") m = some (.val (.ref f)) := by
  unfold fclsB at h
  split at h
  · rename_i v e
    rw [e, of_decide_eq_true h]
  · cases h
section
variable {X : Cx} {CX : CXT} {k : Nat} {C f : Addr} {fd : FuncData} {mc : Value} {ps : List Str} {sp : Sp} {E : XK} {x m : Str} {p pos apos : Pos} {e : Expr} {es : List Expr} {t : TA}
theorem pe_clsfn {pl : Sem Bool} (hg : Gl X x) (hm : X.mg x = some (.ref C)) (r : ClX.CRead X.K C mc) (kv : ClX.CVal X.K C mc m (.ref f) (.ref f)) (F : FnOk X.prog X.w X.K X.mg X.base CX k f fd ps sp) (hr : Room k X.A) (hk : PySem.W.keepIn X.K (.ref f) = true)
    (hb : Binds X.K fd ps []) (hx : Passes CX X E) (ha : PA X (e :: es) t)
    (hc : eval (.Call (.Attribute (.Name x p) m apos) (e :: es) [] pos) X.env = (do
      let ov ← eval (.Name x p) X.env
      standAt apos.atName
      let (f, first) ← holding [ov] (getMethod ov m pl)
      callWith pos f first (backTo pos (starEach (e :: es) X.env)) (backToKw pos (keywordEach [] X.env))) := by rfl)
    (he : starEach (e :: es) X.env = (false, eval e X.env) :: starEach es X.env := by rfl) (hpl : (backTo pos (starEach es X.env)).any (·.1) = false := by rfl) (hdb : (x == ("__debug__" : Str)) = false := by decide) :
    PE X (.Call (.Attribute (.Name x p) m apos) (e :: es) [] pos) (tCall sp [] E t) := by
  refine ⟨fun pins s σ H Q I h => ?_⟩
  refine PySem.W.methodCall_KW (ld_glob I hg hm ?_ hdb) hc
  refine PySem.W.method_cls I.kIn r.ga (ClX.getcval_ok I r kv fun s' I' => ?_)
  exact PySem.W.callWith_K (first := []) (h₀ := X.base) I.ok.mod.kin hk (thn (ha.run pos pins _ σ H _ I' h) fun us s1 ⟨vs, H1, I1, r1, q⟩ => ⟨I1.kIn, run_fn F hr hb .nil hx I1 r1 q⟩) he hpl
end
/-- sorted(d), keys that are texts -/
def rSortD : List V → Hp → VK → Prop := fun vs H Q => ∃ (a : Addr) (kvs : List (Key × V)) (ks : List Str), vs = [V.ref a] ∧ H a = some (.dK kvs) ∧ kvs.map (·.1) = ks.map Sum.inr ∧ ks.length < 64 ∧ ∀ p : Addr, H p = none → Q (.ref p) (upd H p (.lst ((sortS ks).map V.str)))
theorem cr_sortD {X : Cx} (hc : X.calm = true) : CallR X (.builtin "sorted") rSortD := by
  intro pins s σ H vs us Q I r h
  obtain ⟨a, kvs, ks, e, hd, hks, h64, q⟩ := h
  exact call_sortedD hc pins s σ H vs us Q I r ⟨a, kvs, ks, e, .inl hd, hks, h64, fun ys p pm so np => by
    rw [sortS_eq pm so]
    exact q p np⟩

/-! ### marked shelves -/
def extM (d : Addr) (rd : Int) : List (Str × V) := [("_marks", .ref d), ("_rounds", .int rd)]
theorem extM_wish (d : Addr) (rd : Int) : (extM d rd).lookup ("wish" : Str) = none := by kernel_rfl
theorem extM_met (d : Addr) (rd : Int) : (extM d rd).lookup ("met" : Str) = none := by kernel_rfl
theorem extM_missed (d : Addr) (rd : Int) : (extM d rd).lookup ("missed" : Str) = none := by kernel_rfl
theorem extM_things (d : Addr) (rd : Int) : (extM d rd).lookup ("things" : Str) = none := by kernel_rfl
theorem extM_places (d : Addr) (rd : Int) : (extM d rd).lookup ("places" : Str) = none := by kernel_rfl
theorem extM_order (d : Addr) (rd : Int) : (extM d rd).lookup ("order" : Str) = none := by kernel_rfl
theorem extM_free (d : Addr) (rd : Int) : (extM d rd).lookup ("_free_a_place" : Str) = none := by kernel_rfl
theorem extM_pick (d : Addr) (rd : Int) : (extM d rd).lookup ("_pick_going" : Str) = none := by kernel_rfl
theorem extM_note (d : Addr) (rd : Int) : (extM d rd).lookup ("_note_wish" : Str) = none := by kernel_rfl
theorem mF_marks (n : Int) (l : Addr) (m k : Int) (d : Addr) (rd : Int) : (oF n l m k (extM d rd)).lookup ("_marks" : Str) = some (.ref d) := by kernel_rfl
theorem mF_rounds (n : Int) (l : Addr) (m k : Int) (d : Addr) (rd : Int) : (oF n l m k (extM d rd)).lookup ("_rounds" : Str) = some (.int rd) := by kernel_rfl
theorem mF_nmarks (n : Int) (l : Addr) (m k : Int) (d : Addr) (rd : Int) : (oF n l m k (extM d rd)).lookup ("marks" : Str) = none := by kernel_rfl
theorem mF_nrounds (n : Int) (l : Addr) (m k : Int) (d : Addr) (rd : Int) : (oF n l m k (extM d rd)).lookup ("rounds" : Str) = none := by kernel_rfl
theorem mF_putm (n : Int) (l : Addr) (m k : Int) (d d' : Addr) (rd : Int) : putF "_marks" (.ref d') (oF n l m k (extM d rd)) = oF n l m k (extM d' rd) := by kernel_rfl
theorem mF_putr (n : Int) (l : Addr) (m k : Int) (d : Addr) (rd rd' : Int) : putF "_rounds" (.int rd') (oF n l m k (extM d rd)) = oF n l m k (extM d rd') := by kernel_rfl
theorem mF_init (n : Int) (l d : Addr) : putF "_rounds" (.int 0) (putF "_marks" (.ref d) (oF n l 0 0 [])) = oF n l 0 0 (extM d 0) := by kernel_rfl
def mkK (marks : List Str) : List (Key × V) := marks.map fun z => (Sum.inr z, V.bl true)
theorem mkK_keys (marks : List Str) : (mkK marks).map (·.1) = marks.map Sum.inr := by
  unfold mkK
  rw [List.map_map]
  rfl
theorem mkK_len (marks : List Str) : (mkK marks).length = marks.length := by unfold mkK; rw [List.length_map]
theorem mkK_val (z : Str) : ∀ marks : List Str, valV (mkK marks) (Sum.inr z) = if z ∈ marks then some (.bl true) else none
  | [] => rfl
  | y :: r => by
    have ih := mkK_val z r
    unfold valV at ih ⊢
    by_cases e : y = z
    · subst e
      rw [if_pos List.mem_cons_self]
      unfold mkK
      rw [List.map_cons, List.find?_cons_of_pos (by simp)]
      rfl
    · have e1 : (mkK (y :: r)).find? (fun kv => decide (kv.1 = Sum.inr z)) = (mkK r).find? (fun kv => decide (kv.1 = Sum.inr z)) := by
        unfold mkK
        rw [List.map_cons, List.find?_cons_of_neg (by simpa using e)]
      rw [e1, ih]
      by_cases h : z ∈ r
      · rw [if_pos h, if_pos (List.mem_cons_of_mem _ h)]
      · rw [if_neg h, if_neg (fun q => (List.mem_cons.mp q).elim (fun w => e w.symm) h)]
def addM (marks : List Str) (z : Str) : List Str := if z ∈ marks then marks else marks ++ [z]
theorem mkK_put (z : Str) (marks : List Str) : putK (mkK marks) (Sum.inr z : Key) (.bl true) = mkK (addM marks z) := by
  have hany : ((mkK marks).any fun kv => decide (kv.1 = (Sum.inr z : Key))) = decide (z ∈ marks) := by
    unfold mkK
    rw [List.any_map]
    induction marks with
    | nil => rfl
    | cons y r ih =>
      rw [List.any_cons, ih]
      show (decide ((Sum.inr y : Key) = Sum.inr z) || decide (z ∈ r)) = decide (z ∈ y :: r)
      by_cases e : y = z
      · subst e; simp
      · rw [decide_eq_false (fun q => e (Sum.inr.inj q)), Bool.false_or]
        exact decide_eq_decide.mpr ⟨fun h => List.mem_cons_of_mem _ h, fun h => (List.mem_cons.mp h).elim (fun q => absurd q.symm e) id⟩
  unfold putK addM
  rw [hany]
  by_cases h : z ∈ marks
  · rw [if_pos (decide_eq_true h), if_pos h]
    unfold mkK
    rw [List.map_map]
    refine List.map_congr_left fun y hy => ?_
    show (if (Sum.inr y : Key) = Sum.inr z then ((Sum.inr y : Key), V.bl true) else ((Sum.inr y : Key), V.bl true)) = _
    rw [ite_self]
  · rw [if_neg (by simp [h]), if_neg h]
    unfold mkK
    rw [List.map_append]
    rfl
/-- who goes, the marks and the rounds behind it -/
def pickM (row marks : List Str) (rd : Int) : Str × List Str × Int :=
  if marks.length = row.length then (minS row, [], rd + 1) else (minS (row.filter fun y => decide (y ∉ marks)), marks, rd)
structure MkAt (C : Addr) (H : Hp) (p : Addr) (n : Int) (l : Addr) (row : List Str) (m k : Int) (d : Addr) (marks : List Str) (rd : Int) : Prop where
  sh : ShAt C H p n l row m k (extM d rd)
  mkd : H d = some (.dK (mkK marks))
theorem MkAt.kp {C : Addr} {H H' : Hp} {tb : Addr} {S : List Addr} {p l d : Addr} {n m k rd : Int} {row marks : List Str} (h : MkAt C H p n l row m k d marks rd) (kp : Kp tb S H H') (hp : p ∉ S := by simp) (hl : l ∉ S := by simp) (hd : d ∉ S := by simp) :
    MkAt C H' p n l row m k d marks rd := ⟨h.sh.kp kp hp hl, kp.get h.mkd rfl hd⟩
/-- further facts of the class -/
structure ClsM (K : PySem.W.Frag) (C : Addr) : Prop where
  nA : NoAttr K C "_marks"
  nO : NoAttr K C "_rounds"
section
variable {P : Program} {w : World} {K : PySem.W.Frag} {mg : Str → Option Value} {base : Heap} {tb C : Addr}
def spInitM (tb C : Addr) : Sp := fun vs H Q _ => ∃ (p dx : Addr) (n : Int), vs = [.ref p, .int n] ∧ 1 ≤ n ∧ n ≤ 20 ∧ H p = some (.ins C dx []) ∧
  ∀ (l d : Addr) (H' : Hp), H l = none → H d = none → l ≠ d → MkAt C H' p n l [] 0 0 d [] 0 → Kp tb [p] H H' → Q .non H'
theorem sc_minit : FnScope ["self", "places"] ["self", "places"] (defScope s_Marked___init__) := ⟨rfl, rfl, rfl, by decide +kernel, rfl, by decide +kernel, by decide +kernel⟩
theorem ok_minit {f fS CS : Addr} {fd fdS : FuncData} {mc : Value} {k0 : Nat} (F : FnP K "__init__" "Marked.__init__" s_Marked___init__ f fd) (T : ClsT K C) (T2 : ClsM K C) (mS : mg "Shelf" = some (.ref CS)) (r : ClX.CRead K CS mc) (kv : ClX.CVal K CS mc "__init__" (.ref fS) (.ref fS))
    (FS : FnOk P w K mg base CX0 (k0 + 1) fS fdS ["self", "places"] (spInit tb C)) (hk : PySem.W.keepIn K (.ref fS) = true) (hb : Binds K fdS ["self", "places"] []) : FnOk P w K mg base CX0 (k0 + 2) f fd ["self", "places"] (spInitM tb C) := by
  refine ok0 F sc_minit (fun vs H Q E h => ?_) (fun cdv A outer s H vs Q E hr h => ?_)
  · obtain ⟨p, dx, n, rfl, _⟩ := h
    rfl
  · obtain ⟨p, dx, n, rfl, n0, n1, hp, q⟩ := h
    refine ⟨_, pss_cons (ps_expr (pe_clsfn (by rfl) mS r kv FS hr hk hb pass0 (pa_cons (pv 0) (pa_cons (pv 1) pa_nil)))) (pss_cons (ps_fld (pv 0) pe_dnewK rfl) (pss_one (ps_fld (pv 0) pe_int rfl))), ?_⟩
    refine ⟨_, rfl, _, rfl, p, dx, n, rfl, n0, n1, hp, fun l H1 hl hob hls k1 => ?_⟩
    obtain ⟨dx1, hob⟩ := hob
    refine fun d hd => ?_
    have hd0 : H d = none := k1.free _ hd
    have npd : p ≠ d := ne_of_none hob hd
    have nld : l ≠ d := ne_of_none hls hd
    have npl : p ≠ l := ne_of_none hp hl
    refine ⟨_, rfl, p, C, dx1, _, rfl, Eq.trans (upd_ne npd) hob, T.cl, T2.nA, (by show 4 < 1000; decide), ?_⟩
    refine ⟨_, rfl, p, C, dx1, _, rfl, upd_same, T.cl, T2.nO, (by show 5 < 1000; decide), ?_⟩
    refine q l d _ hl hd0 nld ⟨⟨⟨dx1, by rw [upd_same, mF_init]⟩, by rw [upd_ne npl.symm, upd_ne npl.symm, upd_ne nld]; exact hls⟩, by rw [upd_ne npd.symm, upd_ne npd.symm, upd_same]; rfl⟩ ?_
    have e1 : (upd H1 d (.dK [])) p = some (.ins C dx1 (oF n l 0 0 [])) := Eq.trans (upd_ne npd) hob
    exact ((k1.step hd).trans (Kp.put e1)).trans (Kp.put upd_same)
/-- marks(), rounds() -/
def spMarks (tb C : Addr) : Sp := fun vs H Q _ => ∃ (p l d : Addr) (n m k rd : Int) (row marks : List Str), vs = [.ref p] ∧ MkAt C H p n l row m k d marks rd ∧ marks.length < 64 ∧
  ∀ (o : Addr) (H' : Hp), H o = none → H' o = some (.lst ((sortS marks).map V.str)) → Kp tb [] H H' → Q (.ref o) H'
theorem sc_marks : FnScope ["self"] ["self"] (defScope s_Marked_marks) := ⟨rfl, rfl, rfl, by decide +kernel, rfl, by decide +kernel, by decide +kernel⟩
theorem ok_marks {f : Addr} {fd : FuncData} {k0 : Nat} (F : FnP K "marks" "Marked.marks" s_Marked_marks f fd) (T : ClsT K C) (T2 : ClsM K C) (hs : mg "sorted" = none) : FnOk P w K mg base CX0 (k0 + 1) f fd ["self"] (spMarks tb C) := by
  refine ok0 F sc_marks (fun vs H Q E h => ?_) (fun cdv A outer s H vs Q E hr h => ?_)
  · obtain ⟨p, l, d, n, m, k, rd, row, marks, rfl, _⟩ := h
    rfl
  · obtain ⟨p, l, d, n, m, k, rd, row, marks, rfl, S, h64, q⟩ := h
    obtain ⟨⟨dx, hp⟩, hl⟩ := S.sh
    refine ⟨_, pss_one (ps_ret (pe_callB (cr_sortD rfl) (by rfl) hs (by decide +kernel) (pa_cons (pe_fld (pv 0) rfl) pa_nil))), ?_⟩
    refine ⟨_, rfl, p, C, dx, _, _, rfl, hp, T.cl, T2.nA, mF_marks .., d, _, marks, rfl, S.mkd, mkK_keys marks, h64, fun o ho => ?_⟩
    exact q o _ ho upd_same (Kp.new ho)
def spRounds (C : Addr) : Sp := fun vs H Q _ => ∃ (p l d : Addr) (n m k rd : Int), vs = [.ref p] ∧ (∃ dx, H p = some (.ins C dx (oF n l m k (extM d rd)))) ∧ Q (.int rd) H
theorem sc_rounds : FnScope ["self"] ["self"] (defScope s_Marked_rounds) := ⟨rfl, rfl, rfl, by decide +kernel, rfl, by decide +kernel, by decide +kernel⟩
theorem ok_rounds {f : Addr} {fd : FuncData} {k0 : Nat} (F : FnP K "rounds" "Marked.rounds" s_Marked_rounds f fd) (T : ClsT K C) (T2 : ClsM K C) : FnOk P w K mg base CX0 (k0 + 1) f fd ["self"] (spRounds C) := by
  refine ok0 F sc_rounds (fun vs H Q E h => ?_) (fun cdv A outer s H vs Q E hr h => ?_)
  · obtain ⟨p, l, d, n, m, k, rd, rfl, _⟩ := h
    rfl
  · obtain ⟨p, l, d, n, m, k, rd, rfl, ⟨dx, hp⟩, q⟩ := h
    exact ⟨_, pss_one (ps_ret (pe_fld (pv 0) rfl)), _, rfl, p, C, dx, _, _, rfl, hp, T.cl, T2.nO, mF_rounds .., q⟩
/-- _pick_going -/
def spPickM (tb C : Addr) : Sp := fun vs H Q _ => ∃ (p l d : Addr) (n m k rd : Int) (row marks : List Str), vs = [.ref p] ∧ MkAt C H p n l row m k d marks rd ∧ row.length ≤ 20 ∧ row ≠ [] ∧ (marks.length ≠ row.length → row.filter (fun y => decide (y ∉ marks)) ≠ []) ∧
  ∀ (d' : Addr) (H' : Hp), MkAt C H' p n l row m k d' (pickM row marks rd).2.1 (pickM row marks rd).2.2 → (d' = d ∨ H d' = none) → Kp tb [p] H H' → Q (.str (pickM row marks rd).1) H'
theorem sc_mpick : FnScope ["self", "name"] ["self"] (defScope s_Marked__pick_going) := ⟨rfl, rfl, rfl, by decide +kernel, rfl, by decide +kernel, by decide +kernel⟩
theorem ok_mpick {f : Addr} {fd : FuncData} {k0 : Nat} (F : FnP K "_pick_going" "Marked._pick_going" s_Marked__pick_going f fd) (T : ClsT K C) (T2 : ClsM K C) (hlen : mg "len" = none) (hmin : mg "min" = none) : FnOk P w K mg base CX0 (k0 + 1) f fd ["self"] (spPickM tb C) := by
  refine ok0 F sc_mpick (fun vs H Q E h => ?_) (fun cdv A outer s H vs Q E hr h => ?_)
  · obtain ⟨p, l, d, n, m, k, rd, row, marks, rfl, _⟩ := h
    rfl
  · obtain ⟨p, l, d, n, m, k, rd, row, marks, rfl, S, h20, hne, hfl, q⟩ := h
    have hu := hu_of hr
    obtain ⟨⟨dx, hp⟩, hl⟩ := S.sh
    have npl := S.sh.ne
    have npd : p ≠ d := ne_of hp S.mkd (by intro z; cases z)
    refine ⟨_, C8.pss_cut (ps_if (pt_cmpR op_eq (pe_callB call_lenD (by rfl) hlen PySem.boot_len (pa_cons (pe_fld (pv 0) rfl) pa_nil)) (pe_callB call_len_seq (by rfl) hlen PySem.boot_len (pa_cons (pe_fld (pv 0) rfl) pa_nil)) (nomark _))
        (pss_cons (ps_fld (pv 0) pe_dnewK rfl) (pss_one (ps_fldaug (pv 0) pe_int in_add))) pss_nil)
      (pss_one (ps_ret (pe_callB (cr_minS rfl) (by rfl) hmin (by decide +kernel) (pa_cons (pe_lc (own := [("name", 1)]) (g := gName 1) (tt := tB (tDNotIn (tVar 1) (tFld K (tVar 0) "_marks"))) rfl sc_mpick.nd (pi_list (pe_fld (pv 0) rfl)) (blkOk_by (N := ["self", "name"]) (sc := defScope s_Marked__pick_going) (by decide +kernel))
            (fun _ _ _ _ _ => pg_name (i := 1) sc_mpick.nd rfl (Or.inl rfl)) (fun _ _ _ _ _ => pts_one (pt_cmp (pc_dnotin hu (pv 1) (pe_fld (pv 0) rfl)))) (fun _ _ _ _ _ => pv 1)) pa_nil)))), ?_⟩
    refine ⟨fun σ H2 => ∃ (d' : Addr) (marks2 : List Str) (rd2 : Int), σ = [some (.ref p), none] ∧ MkAt C H2 p n l row m k d' marks2 rd2 ∧ (d' = d ∨ H d' = none) ∧ Kp tb [p] H H2 ∧ row.filter (fun y => decide (y ∉ marks2)) ≠ [] ∧ pickM row marks rd = (minS (row.filter fun y => decide (y ∉ marks2)), marks2, rd2), ?_, ?_⟩
    · refine ⟨_, rfl, p, C, dx, _, _, rfl, hp, T.cl, T2.nA, mF_marks .., d, _, rfl, S.mkd, _, rfl, p, C, dx, _, _, rfl, hp, T.cl, T.nR, oF_row .., l, _, rfl, .inl (SqL.of hl), rfl, _, rfl, ?_⟩
      rw [List.length_map, mkK_len, dec_int]
      by_cases he : marks.length = row.length
      · rw [beq_iff_eq.mpr (by rw [he])]
        refine iteT (fun d' hd' => ?_)
        have npd' : p ≠ d' := ne_of_none hp hd'
        have nld' : l ≠ d' := ne_of_none hl hd'
        refine ⟨_, rfl, p, C, dx, _, rfl, Eq.trans (upd_ne npd') hp, T.cl, T2.nA, (by show 6 < 1000; decide), ?_⟩
        rw [mF_putm]
        refine ⟨_, rfl, p, C, dx, _, _, rfl, upd_same, T.cl, T2.nO, mF_rounds .., _, _, rfl, rfl, dx, _, upd_same, (by show 6 < 1000; decide), ?_⟩
        rw [mF_putr]
        have e1 : (upd H d' (.dK [])) p = some (.ins C dx (oF n l m k (extM d rd))) := Eq.trans (upd_ne npd') hp
        have hfull : row.filter (fun y => decide (y ∉ ([] : List Str))) = row := List.filter_eq_self.mpr fun y _ => by simp
        refine ⟨d', [], rd + 1, rfl, ⟨⟨⟨dx, upd_same⟩, by rw [upd_ne npl.symm, upd_ne npl.symm, upd_ne nld']; exact hl⟩, by rw [upd_ne npd'.symm, upd_ne npd'.symm, upd_same]; rfl⟩, .inr hd', ((Kp.new hd').trans (Kp.put e1)).trans (Kp.put upd_same), by rw [hfull]; exact hne, ?_⟩
        unfold pickM
        rw [if_pos he, hfull]
      · rw [beq_eq_false_iff_ne.mpr (fun z => he (by omega))]
        refine iteF ⟨d, marks, rd, rfl, S, .inl rfl, Kp.refl _, hfl he, ?_⟩
        unfold pickM
        rw [if_neg he]
    · rintro σ H2 ⟨d', marks2, rd2, rfl, S2, hd', k2, hne2, epick⟩
      obtain ⟨⟨dx2, hp2⟩, hl2⟩ := S2.sh
      refine ⟨_, rfl, p, C, dx2, _, _, rfl, hp2, T.cl, T.nR, oF_row .., l, rfl, ⟨_, SqL.of hl2⟩, fun D hD => ?_⟩
      refine lc_it walk_list (LcI tb H2 D (fun i acc => acc = ((row.take i).filter (fun y => decide (y ∉ marks2))).map V.str)) (LcI.start hD rfl) (fun i H' _ ⟨_, _, kp, _⟩ => SqL.of (kp.get hl2)) ?_ ?_
      · rintro i x H3 H4 hi ⟨acc, rfl, kp, hD3⟩ ⟨rfl, hx⟩
        obtain ⟨y, hy, rfl⟩ := get_mapS hx
        rw [List.length_map] at hi
        have etake : row.take (i + 1) = row.take i ++ [y] := by rw [List.take_add_one, hy]; rfl
        have S4 := S2.kp kp
        obtain ⟨⟨dx4, hp4⟩, hl4⟩ := S4.sh
        refine ⟨rfl, _, rfl, _, rfl, p, C, dx4, _, _, rfl, hp4, T.cl, T2.nA, mF_marks .., d', _, rfl, DGet.k (k := Sum.inr y) S4.mkd, _, rfl, ?_⟩
        rw [mkK_val]
        by_cases e : y ∈ marks2
        · rw [if_pos e]
          refine iteF ⟨_, ?_, kp, hD3⟩
          dsimp only
          rw [etake, List.filter_append, List.filter_cons_of_neg (by simpa using e), List.filter_nil, List.append_nil]
        · rw [if_neg e]
          refine iteT ⟨_, rfl, LcI.next hD kp hD3 (Kp.refl _) ?_ ?_⟩
          · rw [List.length_map]
            exact small_of (m := 20) (Nat.le_trans (List.length_filter_le _ _) (Nat.le_trans (List.length_take_le _ _) (by omega)))
          · rw [etake, List.filter_append, List.filter_cons_of_pos (by simpa using e), List.filter_nil, List.map_append]
            rfl
      · rintro H3 ⟨acc, rfl, kp3, hD3⟩
        rw [List.length_map, List.take_of_length_le (Nat.le_refl _)] at hD3
        refine ⟨D, _, rfl, SqL.of hD3, hne2, ?_⟩
        have qq := q d' H3 (by rw [epick]; exact S2.kp kp3) hd' (k2.trans kp3.nil)
        rw [epick] at qq
        exact qq
/-- _note_wish -/
def spNoteM (tb C : Addr) : Sp := fun vs H Q _ => ∃ (p l d : Addr) (n m k rd : Int) (z : Str) (row marks : List Str), vs = [.ref p, .str z] ∧ MkAt C H p n l row m k d marks rd ∧ marks.length ≤ 20 ∧ ∀ H', MkAt C H' p n l row m k d (addM marks z) rd → Kp tb [d] H H' → Q .non H'
theorem sc_mnote : FnScope ["self", "name"] ["self", "name"] (defScope s_Marked__note_wish) := ⟨rfl, rfl, rfl, by decide +kernel, rfl, by decide +kernel, by decide +kernel⟩
theorem ok_mnote {f : Addr} {fd : FuncData} {k0 : Nat} (F : FnP K "_note_wish" "Marked._note_wish" s_Marked__note_wish f fd) (T : ClsT K C) (T2 : ClsM K C) : FnOk P w K mg base CX0 (k0 + 1) f fd ["self", "name"] (spNoteM tb C) := by
  refine ok0 F sc_mnote (fun vs H Q E h => ?_) (fun cdv A outer s H vs Q E hr h => ?_)
  · obtain ⟨p, l, d, n, m, k, rd, z, row, marks, rfl, _⟩ := h
    rfl
  · obtain ⟨p, l, d, n, m, k, rd, z, row, marks, rfl, S, h20, q⟩ := h
    have hu := hu_of hr
    obtain ⟨⟨dx, hp⟩, hl⟩ := S.sh
    have npd : p ≠ d := ne_of hp S.mkd (by intro z; cases z)
    have nld : l ≠ d := ne_of hl S.mkd (by intro z; cases z)
    refine ⟨_, pss_one (ps_dput hu (pe_fld (pv 0) rfl) (pv 1) pe_bl rfl), ?_⟩
    refine ⟨_, rfl, p, C, dx, _, _, rfl, hp, T.cl, T2.nA, mF_marks .., _, rfl, d, _, rfl, DPut.k (k := Sum.inr z) S.mkd (by rw [mkK_len]; exact small_of (m := 20) h20), ?_⟩
    rw [mkK_put]
    exact q _ ⟨⟨⟨dx, by rw [upd_ne npd]; exact hp⟩, by rw [upd_ne nld]; exact hl⟩, upd_same⟩ (Kp.put S.mkd)
/-- _free_a_place -/
def spFreeM (tb C : Addr) : Sp := fun vs H Q _ => ∃ (p l d : Addr) (n m k rd : Int) (row marks : List Str), vs = [.ref p] ∧ MkAt C H p n l row m k d marks rd ∧ 1 ≤ n ∧ row.length ≤ 20 ∧ (marks.length ≠ row.length → row.filter (fun y => decide (y ∉ marks)) ≠ []) ∧ ((row.length : Int) < n → Q .non H) ∧
  (¬ (row.length : Int) < n → ∀ (d' : Addr) (H' : Hp), MkAt C H' p n l (row.erase (pickM row marks rd).1) m k d' (pickM row marks rd).2.1 (pickM row marks rd).2.2 → (d' = d ∨ H d' = none) → Kp tb [p, l] H H' → Q (.str (pickM row marks rd).1) H')
theorem pickM_mem {row marks : List Str} {rd : Int} (h : row ≠ []) (hf : marks.length ≠ row.length → row.filter (fun y => decide (y ∉ marks)) ≠ []) : (pickM row marks rd).1 ∈ row := by
  unfold pickM
  by_cases e : marks.length = row.length
  · rw [if_pos e]
    exact minS_mem h
  · rw [if_neg e]
    exact (List.mem_filter.mp (minS_mem (hf e))).1
theorem sc_mfree : FnScope ["self", "gone"] ["self"] (defScope s_Shelf__free_a_place) := ⟨rfl, rfl, rfl, by decide +kernel, rfl, by decide +kernel, by decide +kernel⟩
theorem ok_mfree {f : Addr} {fd : FuncData} {k0 : Nat} (F : FnP K "_free_a_place" "Shelf._free_a_place" s_Shelf__free_a_place f fd) (T : ClsT K C) (hlen : mg "len" = none) (G : MethOk P w K mg base CX0 (k0 + 1) C "_pick_going" ["self"] (spPickM tb C)) :
    FnOk P w K mg base CX0 (k0 + 2) f fd ["self"] (spFreeM tb C) := by
  refine ok0 F sc_mfree (fun vs H Q E h => ?_) (fun cdv A outer s H vs Q E hr h => ?_)
  · obtain ⟨p, l, d, n, m, k, rd, row, marks, rfl, _⟩ := h
    rfl
  · obtain ⟨p, l, d, n, m, k, rd, row, marks, rfl, S, n0, h20, hfl, q1, q2⟩ := h
    obtain ⟨⟨dx, hp⟩, hl⟩ := S.sh
    refine ⟨_, pss_cons (ps_if (pt_cmpR op_lt (pe_callB call_len_seq (by rfl) hlen PySem.boot_len (pa_cons (pe_fld (pv 0) rfl) pa_nil)) (pe_fld (pv 0) rfl) (nomark _)) (pss_one (ps_ret pe_non)) pss_nil)
      (pss_cons (ps_set (i := 1) sc_mfree.nd rfl (.inl rfl) (pe_meth0G (pv 0) G hr pass0))
      (pss_cons (ps_expr (pe_bm PySem.F.plainAttrs_list PySem.F.slot_list_remove PySem.F.type_list_remove mt_removeS (pe_fld (pv 0) rfl) (pa_cons (pv 1) pa_nil)))
      (pss_one (ps_ret (pv 1))))), ?_⟩
    refine ⟨_, rfl, p, C, dx, _, _, rfl, hp, T.cl, T.nR, oF_row .., l, _, rfl, .inl (SqL.of hl), _, rfl, p, C, dx, _, _, rfl, hp, T.cl, T.nS, oF_size .., _, _, rfl, rfl, _, rfl, ?_⟩
    rw [List.length_map]
    refine ite2 (fun hlt => q1 (of_decide_eq_true hlt)) (fun hge => ?_)
    have hge' : ¬ (row.length : Int) < n := fun z => hge (decide_eq_true z)
    have hne : row ≠ [] := fun e => hge' (by rw [e]; simp; omega)
    refine ⟨_, rfl, p, dx, _, rfl, hp, by rw [oF_pick, extM_pick], p, l, d, n, m, k, rd, row, marks, rfl, S, h20, hne, hfl, fun d' H2 S2 hd' k2 => ?_⟩
    have hmem := pickM_mem (rd := rd) hne hfl
    generalize pickM row marks rd = pk at *
    obtain ⟨⟨dx2, hp2⟩, hl2⟩ := S2.sh
    have npl := S2.sh.ne
    have nld' : l ≠ d' := ne_of hl2 S2.mkd (by intro z; cases z)
    refine ⟨_, rfl, p, C, dx2, _, _, rfl, hp2, T.cl, T.nR, oF_row .., .inl ⟨rfl, _, SqL.of hl2⟩, _, rfl, l, row, pk.1, rfl, rfl, hl2, hmem, ?_⟩
    refine ⟨_, rfl, q2 hge' d' _ ⟨⟨⟨dx2, by rw [upd_ne npl]; exact hp2⟩, upd_same⟩, by rw [upd_ne nld'.symm]; exact S2.mkd⟩ hd' ((k2.mono (by simp)).trans (Kp.put hl2))⟩
/-- wish -/
def stepM (n : Int) (row marks : List Str) (rd : Int) (z : Str) : Bool × Option Str × List Str × List Str × Int :=
  if z ∈ row then (true, none, row, addM marks z, rd)
  else if (row.length : Int) < n then (false, none, row ++ [z], addM marks z, rd)
  else (false, some (pickM row marks rd).1, row.erase (pickM row marks rd).1 ++ [z], addM (pickM row marks rd).2.1 z, (pickM row marks rd).2.2)
/-- what holds of a marked shelf -/
structure MkOk (n : Int) (row marks : List Str) : Prop where
  le : (row.length : Int) ≤ n
  nd : row.Nodup
  md : marks.Nodup
  sub : ∀ y ∈ marks, y ∈ row
  nm : ∀ y ∈ row, IsName y
theorem subset_len : ∀ {xs ys : List Str}, xs.Nodup → (∀ y ∈ xs, y ∈ ys) → xs.length ≤ ys.length
  | [], _, _, _ => Nat.zero_le _
  | x :: r, ys, h, s => by
    obtain ⟨h1, h2⟩ := List.nodup_cons.mp h
    have hx := s x List.mem_cons_self
    have ih := subset_len (ys := ys.erase x) h2 fun y hy => (List.mem_erase_of_ne (fun e => h1 (by rw [← e]; exact hy))).mpr (s y (List.mem_cons_of_mem _ hy))
    have e := List.length_erase_of_mem hx
    have e2 := List.length_pos_of_mem hx
    rw [List.length_cons]
    omega
theorem MkOk.fl {n : Int} {row marks : List Str} (h : MkOk n row marks) : marks.length ≠ row.length → row.filter (fun y => decide (y ∉ marks)) ≠ [] := fun ne e => by
  have h1 : ∀ y ∈ row, y ∈ marks := fun y hy => by
    by_cases q : y ∈ marks
    · exact q
    · have : y ∈ row.filter (fun y => decide (y ∉ marks)) := List.mem_filter.mpr ⟨hy, by simpa using q⟩
      rw [e] at this
      cases this
  have h2 := subset_len h.nd h1
  have h3 := subset_len h.md h.sub
  omega
theorem addM_nd {marks : List Str} {z : Str} (h : marks.Nodup) : (addM marks z).Nodup := by
  unfold addM
  by_cases e : z ∈ marks
  · rw [if_pos e]; exact h
  · rw [if_neg e, List.nodup_append]
    exact ⟨h, List.nodup_cons.mpr ⟨by simp, List.nodup_nil⟩, fun x hx y hy q => e (by rw [← List.mem_singleton.mp hy, ← q]; exact hx)⟩
theorem addM_sub {marks : List Str} {z y : Str} (h : y ∈ addM marks z) : y ∈ marks ∨ y = z := by
  unfold addM at h
  by_cases e : z ∈ marks
  · rw [if_pos e] at h; exact .inl h
  · rw [if_neg e] at h
    rcases List.mem_append.mp h with q | q
    · exact .inl q
    · exact .inr (List.mem_singleton.mp q)
theorem nodup_snoc {r : List Str} {z : Str} (hr : z ∉ r) (h : r.Nodup) : (r ++ [z]).Nodup := by
  rw [List.nodup_append]
  exact ⟨h, List.nodup_cons.mpr ⟨by simp, List.nodup_nil⟩, fun x hx y hy e => hr (by rw [← List.mem_singleton.mp hy, ← e]; exact hx)⟩
/-- behind the pick: who goes has no mark any more -/
theorem pickM_ok {n : Int} {row marks : List Str} {rd : Int} (h : MkOk n row marks) (hne : row ≠ []) : (pickM row marks rd).1 ∈ row ∧ (pickM row marks rd).2.1.Nodup ∧ (∀ y ∈ (pickM row marks rd).2.1, y ∈ row.erase (pickM row marks rd).1) := by
  refine ⟨pickM_mem hne h.fl, ?_⟩
  unfold pickM
  by_cases e : marks.length = row.length
  · rw [if_pos e]
    exact ⟨List.nodup_nil, fun y hy => absurd hy (by simp)⟩
  · rw [if_neg e]
    refine ⟨h.md, fun y hy => (List.mem_erase_of_ne (fun q => ?_)).mpr (h.sub y hy)⟩
    have hm := (List.mem_filter.mp (minS_mem (h.fl e))).2
    dsimp only at q hy
    rw [← q, decide_eq_true_eq] at hm
    exact hm hy
theorem stepM_ok {n : Int} {row marks : List Str} {rd : Int} {z : Str} (h : MkOk n row marks) (n0 : 1 ≤ n) (hz : IsName z) : MkOk n (stepM n row marks rd z).2.2.1 (stepM n row marks rd z).2.2.2.1 := by
  unfold stepM
  by_cases h1 : z ∈ row
  · rw [if_pos h1]
    exact ⟨h.le, h.nd, addM_nd h.md, fun y hy => (addM_sub hy).elim (h.sub y) (fun e => by rw [e]; exact h1), h.nm⟩
  · rw [if_neg h1]
    by_cases h2 : (row.length : Int) < n
    · rw [if_pos h2]
      refine ⟨?_, nodup_snoc h1 h.nd, addM_nd h.md, fun y hy => (addM_sub hy).elim (fun q => List.mem_append_left _ (h.sub y q)) (fun e => by rw [e]; exact List.mem_append_right _ List.mem_cons_self), fun y hy => ?_⟩
      · show ((row ++ [z]).length : Int) ≤ n
        rw [List.length_append, List.length_singleton]
        omega
      · rcases List.mem_append.mp hy with q | q
        · exact h.nm y q
        · rw [List.mem_singleton.mp q]; exact hz
    · rw [if_neg h2]
      have hne : row ≠ [] := fun e => h2 (by rw [e]; simp; omega)
      obtain ⟨p1, p2, p3⟩ := pickM_ok (rd := rd) h hne
      refine ⟨?_, nodup_snoc (fun q => h1 (List.mem_of_mem_erase q)) (h.nd.erase _), addM_nd p2, fun y hy => (addM_sub hy).elim (fun q => List.mem_append_left _ (p3 y q)) (fun e => by rw [e]; exact List.mem_append_right _ List.mem_cons_self), fun y hy => ?_⟩
      · show ((row.erase (pickM row marks rd).1 ++ [z]).length : Int) ≤ n
        have e1 := List.length_erase_of_mem p1
        have e2 := List.length_pos_of_mem p1
        rw [List.length_append, List.length_singleton]
        have := h.le
        omega
      · rcases List.mem_append.mp hy with q | q
        · exact h.nm y (List.mem_of_mem_erase q)
        · rw [List.mem_singleton.mp q]; exact hz
theorem stepM_gone {n : Int} {row marks : List Str} {rd : Int} {z : Str} (h : MkOk n row marks) (n0 : 1 ≤ n) : ∀ g, (stepM n row marks rd z).2.1 = some g → IsName g := by
  intro g hg
  unfold stepM at hg
  by_cases h1 : z ∈ row
  · rw [if_pos h1] at hg; cases hg
  · rw [if_neg h1] at hg
    by_cases h2 : (row.length : Int) < n
    · rw [if_pos h2] at hg; cases hg
    · rw [if_neg h2] at hg
      have hne : row ≠ [] := fun e => h2 (by rw [e]; simp; omega)
      have := (pickM_ok (rd := rd) h hne).1
      rw [← Option.some.inj hg]
      exact h.nm _ this
def spWishM (tb C : Addr) : Sp := fun vs H Q _ => ∃ (p l d : Addr) (n m k rd : Int) (z : Str) (row marks : List Str), vs = [.ref p, .str z] ∧ MkAt C H p n l row m k d marks rd ∧ MkOk n row marks ∧ 1 ≤ n ∧ n ≤ 20 ∧ IsName z ∧ GxR.TabG H tb ∧
  ∀ (t d' : Addr) (H' : Hp), MkAt C H' p n l (stepM n row marks rd z).2.2.1 (if (stepM n row marks rd z).1 then m + 1 else m) (if (stepM n row marks rd z).1 then k else k + 1) d' (stepM n row marks rd z).2.2.2.1 (stepM n row marks rd z).2.2.2.2 → (d' = d ∨ H d' = none) → t ≠ d' →
    Kp tb [p, l, d] H H' → H t = none → H' t = some (.tup [.bl (stepM n row marks rd z).1, optV (stepM n row marks rd z).2.1]) → Q (.ref t) H'
theorem sc_mwish : FnScope ["self", "name", "met", "gone"] ["self", "name"] (defScope s_Shelf_wish) := ⟨rfl, rfl, rfl, by decide +kernel, rfl, by decide +kernel, by decide +kernel⟩
theorem ok_mwish {f : Addr} {fd : FuncData} {k0 : Nat} (F : FnP K "wish" "Shelf.wish" s_Shelf_wish f fd) (T : ClsT K C) (GC : Glob P w K mg base CX0 (k0 + 2) "check_name" ["name"] (spCheckName K))
    (GF : MethOk P w K mg base CX0 (k0 + 2) C "_free_a_place" ["self"] (spFreeM (tbOf K) C)) (GN : MethOk P w K mg base CX0 (k0 + 2) C "_note_wish" ["self", "name"] (spNoteM (tbOf K) C)) :
    FnOk P w K mg base CX0 (k0 + 3) f fd ["self", "name"] (spWishM (tbOf K) C) := by
  refine ok0 F sc_mwish (fun vs H Q E h => ?_) (fun cdv A outer s H vs Q E hr h => ?_)
  · obtain ⟨p, l, d, n, m, k, rd, z, row, marks, rfl, _⟩ := h
    rfl
  · obtain ⟨p, l, d, n, m, k, rd, z, row, marks, rfl, S, ok, n0, n1, hz, tab, q⟩ := h
    have hrow := ok.le
    refine ⟨_, pss_cons (ps_expr (pe_callG GC hr (by rfl) pass0 (pa_cons (pv 1) pa_nil)))
      (pss_cons (ps_set (i := 2) sc_mwish.nd rfl (.inl rfl) (pe_cmpR op_in_seq (pv 1) (pe_fld (pv 0) rfl) (by with_unfolding_all rfl)))
      (pss_cons (ps_set (i := 3) sc_mwish.nd rfl (.inl rfl) pe_non)
      (C8.pss_cut (ps_if (pt_val (pv 2)) (pss_one (ps_fldaug (pv 0) pe_int in_add))
          (pss_cons (ps_fldaug (pv 0) pe_int in_add) (pss_cons (ps_set (i := 3) sc_mwish.nd rfl (.inl rfl) (pe_meth0G (pv 0) GF hr pass0))
            (pss_one (ps_expr (pe_bm PySem.F.plainAttrs_list PySem.F.slot_list_append PySem.F.type_list_append mt_append (pe_fld (pv 0) rfl) (pa_cons (pv 1) pa_nil)))))))
      (pss_cons (ps_expr (pe_methG (pv 0) GN hr pass0 (pa_cons (pv 1) pa_nil)))
      (pss_one (ps_ret (pe_tup (pa_cons (pv 2) (pa_cons (pv 3) pa_nil))))))))), ?_⟩
    refine ⟨_, rfl, z, rfl, hz, tab, fun H1 kp1 => ?_⟩
    have S1 := S.kp kp1
    obtain ⟨⟨dx, hp⟩, hl⟩ := S1.sh
    have npl := S1.sh.ne
    have npd : p ≠ d := ne_of hp S1.mkd (by intro z; cases z)
    have nld : l ≠ d := ne_of hl S1.mkd (by intro z; cases z)
    refine ⟨_, rfl, _, rfl, p, C, dx, _, _, rfl, hp, T.cl, T.nR, oF_row .., l, _, rfl, .inl (SqL.of hl), rfl, flat_strs row, ?_⟩
    rw [inV_str]
    -- the state behind the if
    refine ⟨fun σ H2 => ∃ (row2 marks2 : List Str) (met : Bool) (gone : Option Str) (m2 k2 rd2 : Int) (d2 : Addr), σ = [some (.ref p), some (.str z), some (.bl met), some (optV gone)] ∧ MkAt C H2 p n l row2 m2 k2 d2 marks2 rd2 ∧ (d2 = d ∨ H d2 = none) ∧ marks2.length ≤ 20 ∧ Kp (tbOf K) [p, l, d] H1 H2 ∧
      stepM n row marks rd z = (met, gone, row2, addM marks2 z, rd2) ∧ m2 = (if met then m + 1 else m) ∧ k2 = (if met then k else k + 1), ?_, ?_⟩
    · have hm20 : marks.length ≤ 20 := by have := subset_len ok.md ok.sub; omega
      refine ⟨_, rfl, _, rfl, ?_⟩
      by_cases hin : z ∈ row
      · rw [decide_eq_true hin]
        refine iteT ?_
        refine ⟨_, rfl, p, C, dx, _, _, rfl, hp, T.cl, T.nM, oF_met .., _, _, rfl, rfl, dx, _, hp, (by show 6 < 1000; decide), ?_⟩
        rw [oF_put_met]
        refine ⟨row, marks, true, none, m + 1, k, rd, d, rfl, ⟨⟨⟨dx, upd_same⟩, by rw [upd_ne npl.symm]; exact hl⟩, by rw [upd_ne npd.symm]; exact S1.mkd⟩, .inl rfl, hm20, Kp.put hp, ?_, rfl, rfl⟩
        unfold stepM
        rw [if_pos hin]
      · rw [decide_eq_false hin]
        refine iteF ?_
        refine ⟨_, rfl, p, C, dx, _, _, rfl, hp, T.cl, T.nK, oF_missed .., _, _, rfl, rfl, dx, _, hp, (by show 6 < 1000; decide), ?_⟩
        rw [oF_put_missed]
        have kA : Kp (tbOf K) [p, l, d] H1 (upd H1 p (.ins C dx (oF n l m (k + 1) (extM d rd)))) := Kp.put hp
        have SA : MkAt C (upd H1 p (.ins C dx (oF n l m (k + 1) (extM d rd)))) p n l row m (k + 1) d marks rd := ⟨⟨⟨dx, upd_same⟩, by rw [upd_ne npl.symm]; exact hl⟩, by rw [upd_ne npd.symm]; exact S1.mkd⟩
        generalize upd H1 p (.ins C dx (oF n l m (k + 1) (extM d rd))) = HA at kA SA ⊢
        obtain ⟨⟨dA, hpA⟩, hlA⟩ := SA.sh
        refine ⟨_, rfl, p, dA, _, rfl, hpA, by rw [oF_free, extM_free], p, l, d, n, m, k + 1, rd, row, marks, rfl, SA, n0, by omega, ok.fl, fun hlt => ?_, fun hge dB HB SB hdB kB => ?_⟩
        · refine ⟨_, rfl, p, C, dA, _, _, rfl, hpA, T.cl, T.nR, oF_row .., .inl ⟨rfl, _, SqL.of hlA⟩, _, rfl, l, _, _, rfl, rfl, hlA, by rw [List.length_map]; exact small_of (m := 20) (by omega), ?_⟩
          refine ⟨row ++ [z], marks, false, none, m, k + 1, rd, d, rfl, ⟨⟨⟨dA, by rw [upd_ne npl]; exact hpA⟩, by rw [upd_same, List.map_append]; rfl⟩, by rw [upd_ne nld.symm]; exact SA.mkd⟩, .inl rfl, hm20, kA.trans (Kp.put hlA), ?_, rfl, rfl⟩
          unfold stepM
          rw [if_neg hin, if_pos hlt]
        · obtain ⟨⟨dxB, hpB⟩, hlB⟩ := SB.sh
          have nldB : l ≠ dB := ne_of hlB SB.mkd (by intro z; cases z)
          have hne : row ≠ [] := fun e => hge (by rw [e]; simp; omega)
          obtain ⟨p1, p2, p3⟩ := pickM_ok (rd := rd) ok hne
          have hl20 : (row.erase (pickM row marks rd).1).length ≤ 20 := Nat.le_trans List.length_erase_le (by omega)
          have hm2 : (pickM row marks rd).2.1.length ≤ 20 := Nat.le_trans (subset_len p2 p3) hl20
          refine ⟨_, rfl, p, C, dxB, _, _, rfl, hpB, T.cl, T.nR, oF_row .., .inl ⟨rfl, _, SqL.of hlB⟩, _, rfl, l, _, _, rfl, rfl, hlB, by rw [List.length_map]; exact small_of hl20, ?_⟩
          refine ⟨row.erase (pickM row marks rd).1 ++ [z], (pickM row marks rd).2.1, false, some (pickM row marks rd).1, m, k + 1, (pickM row marks rd).2.2, dB, rfl, ⟨⟨⟨dxB, by rw [upd_ne npl]; exact hpB⟩, by rw [upd_same, List.map_append]; rfl⟩, by rw [upd_ne nldB.symm]; exact SB.mkd⟩, ?_, hm2, (kA.trans (kB.mono (by simp))).trans (Kp.put hlB), ?_, rfl, rfl⟩
          · rcases hdB with e | e
            · exact .inl e
            · exact .inr (kp1.free _ (kA.free _ e))
          · unfold stepM
            rw [if_neg hin, if_neg hge]
    · rintro σ H2 ⟨row2, marks2, met, gone, m2, k2, rd2, d2, rfl, S2, hd2, h20, kp2, est, em, ek⟩
      obtain ⟨⟨dx2, hp2⟩, hl2⟩ := S2.sh
      refine ⟨_, rfl, p, dx2, _, rfl, hp2, by rw [oF_note, extM_note], _, rfl, p, l, d2, n, m2, k2, rd2, z, row2, marks2, rfl, S2, h20, fun H3 S3 kp3 => ?_⟩
      refine ⟨_, rfl, _, rfl, by show 2 ≤ sizeLine; decide, fun t ht => ?_⟩
      have kAll : Kp (tbOf K) [p, l, d] H H3 := by
        have k12 : Kp (tbOf K) [p, l, d] H H2 := kp1.nil.trans kp2
        rcases hd2 with e | e
        · exact k12.trans (kp3.mono (by rw [e]; simp))
        · refine ⟨fun b o eb no hb => kp3.keep b o (k12.keep b o eb no hb) no fun hm => ?_, fun tt => kp3.tab (k12.tab tt), fun b eb => k12.free b (kp3.free b eb)⟩
          rw [List.mem_singleton.mp hm, e] at eb
          cases eb
      have kt : Kp (tbOf K) [p, l, d] H3 (upd H3 t (.tup [.bl met, optV gone])) := Kp.new ht
      have S4 : MkAt C (upd H3 t (.tup [.bl met, optV gone])) p n l row2 m2 k2 d2 (addM marks2 z) rd2 := S3.kp (Kp.new (tb := tbOf K) (S := []) ht)
      have ntd : t ≠ d2 := (ne_of_none S3.mkd ht).symm
      refine q t d2 _ ?_ hd2 ntd (kAll.trans kt) (kAll.free _ ht) ?_
      · rw [est]
        dsimp only
        rw [← em, ← ek]
        exact S4
      · rw [est]
        exact upd_same
end
end Kf

namespace Kf
open PySem PySem.Spec PyProof.Rows L2
/-! ### helpers of the laws over one shelf -/
def ExtOk (ext : List (Str × V)) : Prop := ext.lookup ("wish" : Str) = none ∧ ext.lookup ("met" : Str) = none ∧ ext.lookup ("missed" : Str) = none ∧ ext.lookup ("things" : Str) = none ∧ ext.lookup ("places" : Str) = none ∧ ext.lookup ("order" : Str) = none
theorem extOk_nil : ExtOk [] := ⟨rfl, rfl, rfl, rfl, rfl, rfl⟩
def optD : Option Str → PyData
  | none => .none
  | some z => .str z
theorem dp_opt {K : PySem.W.Frag} {H : Hp} : ∀ g : Option Str, Dp K H (optV g) (optD g)
  | none => .non
  | some z => .str z
def pairD (b : Bool) (g : Option Str) : PyData := .tuple [.bool b, optD g]
theorem dp_pair {K : PySem.W.Frag} {H : Hp} {t : Addr} {b : Bool} {g : Option Str} (h : H t = some (.tup [.bl b, optV g])) : Dp K H (.ref t) (pairD b g) := .tup (SqT.of h) (.cons (.bl b) (.cons (dp_opt g) .nil))
theorem eqv_pair (b : Bool) (g : Option Str) : PyData.eqv (pairD b g) (pairD b g) = true := by
  show (PyData.eqv (.bool b) (.bool b) && (PyData.eqv (optD g) (optD g) && true)) = true
  have h1 : PyData.eqv (.bool b) (.bool b) = true := by
    show (b == b) = true
    simp
  have h2 : PyData.eqv (optD g) (optD g) = true := by
    cases g with
    | none => rfl
    | some z =>
      show (z == z) = true
      simp
  rw [h1, h2]
  rfl
theorem sh_pair {b : Bool} {g : Option Str} (h : ∀ z, g = some z → PyData.strOk z = true) : SeqAt.shaped (pairD b g) = true := by
  unfold SeqAt.shaped pairD
  rw [Bool.and_eq_true]
  cases g with
  | none => exact ⟨rfl, rfl⟩
  | some z =>
    refine ⟨?_, rfl⟩
    show (true && (PyData.strOk z && true)) = true
    rw [h z rfl]
    rfl
theorem count_bl (b : Bool) : ∀ ts : List Bool, (ts.map V.bl).countP (fun z => eqV z (.bl b)) = ts.count b
  | [] => rfl
  | t :: r => by
    rw [List.map_cons, List.countP_cons, List.count_cons, count_bl b r]
    rfl
theorem flat_bls : ∀ ts : List Bool, (ts.map V.bl).all flatV = true
  | [] => rfl
  | _ :: r => flat_bls r
theorem seq0 {n : Nat} (h : 0 < n) : seqIndex? 0 n = some 0 := by
  unfold seqIndex?
  simp
  omega
section
variable {P : Program} {w : World} {K : PySem.W.Frag} {mg : Str → Option Value} {base : Heap} {tb C : Addr}
/-! ### _law_is_pair -/
def spIsPair : Sp := fun vs H Q _ => ∃ (t u : Addr) (b : Bool) (g : Option Str), vs = [.ref t, .ref u] ∧ H t = some (.tup [.bl b, optV g]) ∧ H u = some (.tup [.bl b, optV g]) ∧ (∀ z, g = some z → PyData.strOk z = true) ∧ Q (.bl true) H
theorem sc_ispair : FnScope ["_law_found", "_law_due"] ["_law_found", "_law_due"] (defScope s__law_is_pair) := ⟨rfl, rfl, rfl, by decide +kernel, rfl, by decide +kernel, by decide +kernel⟩
theorem ok_ispair {f : Addr} {fd : FuncData} {k0 : Nat} (F : FnP K "_law_is_pair" "_law_is_pair" s__law_is_pair f fd) (hisi : mg "isinstance" = none) (htup : mg "tuple" = none) (hbool : mg "bool" = none) :
    FnOk P w K mg base CX0 (k0 + 1) f fd ["_law_found", "_law_due"] spIsPair := by
  refine ok0 F sc_ispair (fun vs H Q E h => ?_) (fun cdv A outer s H vs Q E hr h => ?_)
  · obtain ⟨t, u, b, g, rfl, _⟩ := h
    rfl
  · obtain ⟨t, u, b, g, rfl, ht, hu, hg, q⟩ := h
    refine ⟨_, pss_one (ps_ret (pe_and (pe_callB call_isi (by rfl) hisi (by decide +kernel) (pa_cons (pv 0) (pa_cons (pe_bltn (v := .ty "tuple") (by rfl) htup (by decide +kernel) rfl) pa_nil)))
      (pe_and (pe_cmpR (op_eqD hr.units) (pv 0) (pv 1) (nomark _))
      (pe_one (pe_callB call_isi (by rfl) hisi (by decide +kernel) (pa_cons (pe_ix ix_tup (pv 0) pe_int (fun _ _ => rfl)) (pa_cons (pe_bltn (v := .ty "bool") (by rfl) hbool (by decide +kernel) rfl) pa_nil))))))), ?_⟩
    refine ⟨_, rfl, _, _, _, _, true, rfl, .ty _, .base (.tup ht), kit_ty (by decide +kernel), _, rfl, iteT ?_⟩
    refine ⟨_, rfl, _, rfl, pairD b g, pairD b g, dp_pair ht, dp_pair hu, sh_pair hg, sh_pair hg, _, rfl, ?_⟩
    rw [eqv_pair]
    refine iteT ⟨_, rfl, t, _, 0, _, rfl, rfl, SqT.of ht, atI_zero _ _, ?_⟩
    exact ⟨_, _, _, _, true, rfl, .ty _, .base (.bl b), kit_ty (by decide +kernel), q⟩
/-! ### _law_counts_right -/
def spCounts (tb C : Addr) : Sp := fun vs H Q _ => ∃ (p l d lo a : Addr) (n m k : Int) (row ord : List Str) (ts : List Bool) (ext : List (Str × V)) (kvs : List (Key × V)), vs = [.ref p, .ref d, .ref a] ∧ ShAt C H p n l row m k ext ∧ ExtOk ext ∧ H d = some (.dK kvs) ∧
  valV kvs (Sum.inr "order") = some (.ref lo) ∧ H lo = some (.lst (ord.map V.str)) ∧ H a = some (.lst (ts.map V.bl)) ∧ row.Perm ord ∧ row.length < 64 ∧ (∀ z ∈ row, IsName z) ∧ m = (ts.count true : Nat) ∧ k = (ts.count false : Nat) ∧ ∀ H', Kp tb [] H H' → Q (.bl true) H'
abbrev nCounts : List Str := ["_law_shelf", "_law_own", "_law_told", "_law_found", "_law_due", "_law_things"]
theorem sc_counts : FnScope nCounts ["_law_shelf", "_law_own", "_law_told"] (defScope s__law_counts_right) := ⟨rfl, rfl, rfl, by decide +kernel, rfl, by decide +kernel, by decide +kernel⟩
theorem ok_counts {f : Addr} {fd : FuncData} {k0 : Nat} (F : FnP K "_law_counts_right" "_law_counts_right" s__law_counts_right f fd) (hisi : mg "isinstance" = none) (hlist : mg "list" = none) (hbool : mg "bool" = none) (hsorted : mg "sorted" = none)
    (GM : MethOk P w K mg base CX0 (k0 + 1) C "met" ["self"] (spInt C fun _ m _ => m)) (GK : MethOk P w K mg base CX0 (k0 + 1) C "missed" ["self"] (spInt C fun _ _ k => k)) (GT : MethOk P w K mg base CX0 (k0 + 1) C "things" ["self"] (spList tb C sortS)) :
    FnOk P w K mg base CX0 (k0 + 2) f fd ["_law_shelf", "_law_own", "_law_told"] (spCounts tb C) := by
  refine ok0 F sc_counts (fun vs H Q E h => ?_) (fun cdv A outer s H vs Q E hr h => ?_)
  · obtain ⟨p, l, d, lo, a, n, m, k, row, ord, ts, ext, kvs, rfl, _⟩ := h
    rfl
  · obtain ⟨p, l, d, lo, a, n, m, k, row, ord, ts, ext, kvs, rfl, S, X1, hd, hv, hlo, ha, hperm, h64, hnames, em, ek, q⟩ := h
    obtain ⟨⟨dx, hp⟩, hl⟩ := id S
    obtain ⟨x1, x2, x3, x4, x5, x6⟩ := X1
    have hu := hu_of hr
    have hget : ∀ {H' : Hp}, Kp tb [] H H' → DGet H' d (.str "order") (some (.ref lo)) := fun kp => by
      rw [← hv]
      exact DGet.k (k := Sum.inr "order") (kp.get hd)
    refine ⟨_, pss_cons (ps_for PassesOwn.never rfl (pi_list (pe_lst (pa_cons (pe_tup (pa_cons (pe_meth0G (pv 0) GM hr pass0) (pa_cons (pe_bm PySem.F.plainAttrs_list PySem.F.slot_list_count PySem.F.type_list_count mt_countF (pv 2) (pa_cons pe_bl pa_nil)) pa_nil)))
          (pa_cons (pe_tup (pa_cons (pe_meth0G (pv 0) GK hr pass0) (pa_cons (pe_bm PySem.F.plainAttrs_list PySem.F.slot_list_count PySem.F.type_list_count mt_countF (pv 2) (pa_cons pe_bl pa_nil)) pa_nil))) pa_nil))))
        (pg_tup rfl (pgs_cons (pg_name (i := 3) sc_counts.nd rfl (Or.inl rfl)) (pgs_cons (pg_name (i := 4) sc_counts.nd rfl (Or.inl rfl)) pgs_nil)))
        (pss_one (ps_if (PW.pt (pw_or (pt_val (pe_callB call_isi (by rfl) hisi (by decide +kernel) (pa_cons (pv 3) (pa_cons (pe_bltn (v := .ty "bool") (by rfl) hbool (by decide +kernel) rfl) pa_nil)))) (pw_or1 (pt_cmpR op_ne (pv 3) (pv 4) (nomark _))))) (pss_one (ps_ret pe_bl)) pss_nil)))
      (pss_cons (ps_set (i := 5) sc_counts.nd rfl (.inl rfl) (pe_meth0G (pv 0) GT hr pass0))
      (pss_cons (ps_if (PW.pt (pw_or (pt_not (pt_val (pe_callB call_isi (by rfl) hisi (by decide +kernel) (pa_cons (pv 5) (pa_cons (pe_bltn (v := .ty "list") (by rfl) hlist (by decide +kernel) rfl) pa_nil)))))
          (pw_or1 (pt_cmpR (op_neS hr.units) (pv 5) (pe_callB cr_sortS (by rfl) hsorted (by decide +kernel) (pa_cons (pe_dget hu (pv 1) pe_str (fun _ _ => rfl)) pa_nil)) (nomark _))))) (pss_one (ps_ret pe_bl)) pss_nil)
      (pss_cons (ps_expr (pe_bm PySem.F.plainAttrs_list PySem.F.slot_list_append PySem.F.type_list_append mt_append (pv 5) (pa_cons pe_str pa_nil)))
      (pss_one (ps_ret (pe_cmpR (op_eqS hr.units) (pe_meth0G (pv 0) GT hr pass0) (pe_callB cr_sortS (by rfl) hsorted (by decide +kernel) (pa_cons (pe_dget hu (pv 1) pe_str (fun _ _ => rfl)) pa_nil)) (nomark _))))))), ?_⟩
    -- the pairs
    refine ⟨_, rfl, p, dx, _, rfl, hp, by rw [oF_nmet]; exact x2, p, l, n, m, k, ext, rfl, ⟨dx, hp⟩, ?_⟩
    refine ⟨_, rfl, .inl ⟨rfl, _, SqL.of ha⟩, a, _, _, rfl, rfl, SqL.of ha, rfl, flat_bls ts, ?_⟩
    refine ⟨by show 2 ≤ sizeLine; decide, fun t1 h1 => ?_⟩
    rw [count_bl]
    have k1 : Kp tb [] H (upd H t1 (.tup [.int m, .int (ts.count true : Nat)])) := Kp.new h1
    refine ⟨_, rfl, p, dx, _, rfl, k1.get hp, by rw [oF_nmissed]; exact x3, p, l, n, m, k, ext, rfl, ⟨dx, k1.get hp⟩, ?_⟩
    refine ⟨_, rfl, .inl ⟨rfl, _, SqL.of (k1.get ha)⟩, a, _, _, rfl, rfl, SqL.of (k1.get ha), rfl, flat_bls ts, ?_⟩
    refine ⟨by show 2 ≤ sizeLine; decide, fun t2 h2 => ?_⟩
    rw [count_bl]
    refine ⟨by show 2 ≤ sizeLine; decide, fun lp hlp => ?_⟩
    have g1 : (upd H t1 (.tup [.int m, .int (ts.count true : Nat)])) t1 = some (.tup [.int m, .int (ts.count true : Nat)]) := upd_same
    generalize upd H t1 (.tup [.int m, .int (ts.count true : Nat)]) = H1 at k1 h2 hlp g1 ⊢
    have k2 : Kp tb [] H1 (upd H1 t2 (.tup [.int k, .int (ts.count false : Nat)])) := Kp.new h2
    have g2 : (upd H1 t2 (.tup [.int k, .int (ts.count false : Nat)])) t2 = some (.tup [.int k, .int (ts.count false : Nat)]) := upd_same
    generalize upd H1 t2 (.tup [.int k, .int (ts.count false : Nat)]) = H2 at k2 hlp g2 ⊢
    have k3 : Kp tb [] H2 (upd H2 lp (.lst [.ref t1, .ref t2])) := Kp.new hlp
    have g3 : (upd H2 lp (.lst [.ref t1, .ref t2])) lp = some (.lst [.ref t1, .ref t2]) := upd_same
    have kA : Kp tb [] H (upd H2 lp (.lst [.ref t1, .ref t2])) := k1.trans (k2.trans k3)
    have gt1 := k3.get (k2.get g1)
    have gt2 := k3.get g2
    refine ⟨lp, rfl, ⟨_, SqL.of g3⟩, ?_⟩
    generalize upd H2 lp (.lst [.ref t1, .ref t2]) = H3 at k3 g3 kA gt1 gt2 ⊢
    refine for_it (walk_list (K := K) (a := lp) (xs := [.ref t1, .ref t2])) (fun i σ H' => ∃ v3 v4 : Option V, σ = [some (.ref p), some (.ref d), some (.ref a), v3, v4, none] ∧ H' = H3) ⟨none, none, rfl, rfl⟩ (fun i σ H' _ ⟨_, _, _, e⟩ => by rw [e]; exact SqL.of g3) ?_ ?_
    · rintro i x σ H4 H5 hi ⟨v3, v4, rfl, rfl⟩ ⟨rfl, hx⟩
      have body : ∃ (t : Addr) (c : Int), x = .ref t ∧ H5 t = some (.tup [.int c, .int c]) := by
        rcases i with _ | _ | i
        · cases hx
          exact ⟨t1, m, rfl, by rw [gt1, em]⟩
        · cases hx
          exact ⟨t2, k, rfl, by rw [gt2, ek]⟩
        · simp at hx
      obtain ⟨t, c, rfl, hc⟩ := body
      refine ⟨t, _, rfl, SqT.of hc, rfl, _, _, rfl, _, _, rfl, rfl, ?_⟩
      refine ⟨_, rfl, _, _, _, _, false, rfl, .ty _, .base (.int c), kit_ty (by decide +kernel), _, rfl, iteF ?_⟩
      refine ⟨_, rfl, _, rfl, rfl, _, rfl, ?_⟩
      rw [decide_eq_true rfl]
      exact iteF ⟨_, _, rfl, rfl⟩
    · rintro σ H4 ⟨v3, v4, rfl, rfl⟩
      have S3 := S.kp kA
      obtain ⟨⟨d3, hp3⟩, hl3⟩ := id S3
      refine ⟨_, rfl, p, d3, _, rfl, hp3, by rw [oF_things]; exact x4, p, l, n, m, k, row, ext, rfl, S3, h64, fun o H5 ho ho5 k5 => ?_⟩
      have kB := kA.trans k5
      refine ⟨_, rfl, _, _, _, _, true, rfl, .ty _, .base (.lst ho5), kit_ty (by decide +kernel), _, rfl, iteF ?_⟩
      have hord : sortS ord = sortS row := sortS_of_perm hperm.symm
      have hord64 : ord.length < 64 := by rw [← hperm.length_eq]; exact h64
      have okr : OkS (sortS row) := fun z hz => isName_ok (hnames z ((sortS_perm row).mem_iff.mp hz))
      refine ⟨_, rfl, _, rfl, d, _, rfl, hget kB, lo, ord, rfl, SqL.of (kB.get hlo), hord64, fun e he => ?_⟩
      rw [hord]
      have k6 : Kp tb [] H5 (upd H5 e (.lst ((sortS row).map V.str))) := Kp.new he
      refine ⟨o, e, sortS row, sortS row, rfl, rfl, SqL.of (k6.get ho5), SqL.of upd_same, okr, okr, _, rfl, ?_⟩
      rw [decide_eq_true rfl]
      refine iteF ?_
      have kC := kB.trans k6
      have ho6 := k6.get ho5
      generalize upd H5 e (.lst ((sortS row).map V.str)) = H6 at k6 kC ho6 ⊢
      refine ⟨_, rfl, .inl ⟨rfl, _, SqL.of ho6⟩, o, _, _, rfl, rfl, ho6, by rw [List.length_map, (sortS_perm row).length_eq]; exact small_of (m := 64) (by omega), ?_⟩
      have kD : Kp tb [] H (upd H6 o (.lst ((sortS row).map V.str ++ [.str "more"]))) := kC.own (kA.free _ ho) ho6
      generalize upd H6 o (.lst ((sortS row).map V.str ++ [.str "more"])) = H7 at kD ⊢
      have S7 := S.kp kD
      obtain ⟨⟨d7, hp7⟩, hl7⟩ := id S7
      refine ⟨_, rfl, p, d7, _, rfl, hp7, by rw [oF_things]; exact x4, p, l, n, m, k, row, ext, rfl, S7, h64, fun o2 H8 ho2 ho8 k8 => ?_⟩
      have kE := kD.trans k8
      refine ⟨_, rfl, d, _, rfl, hget kE, lo, ord, rfl, SqL.of (kE.get hlo), hord64, fun e2 he2 => ?_⟩
      rw [hord]
      have k9 : Kp tb [] H8 (upd H8 e2 (.lst ((sortS row).map V.str))) := Kp.new he2
      refine ⟨o2, e2, sortS row, sortS row, rfl, rfl, SqL.of (k9.get ho8), SqL.of upd_same, okr, okr, ?_⟩
      rw [decide_eq_true rfl]
      exact q _ (kE.trans k9)
end
end Kf

namespace Kf
open PySem PySem.Spec PyProof.Rows L2
def ownM (lo lm : Addr) (rd : Int) : List (Key × V) := [(Sum.inr "order", .ref lo), (Sum.inr "marks", .ref lm), (Sum.inr "rounds", .int rd)]
theorem ownM_o (lo lm : Addr) (rd : Int) : valV (ownM lo lm rd) (Sum.inr "order") = some (.ref lo) := by kernel_rfl
theorem ownM_m (lo lm : Addr) (rd : Int) : valV (ownM lo lm rd) (Sum.inr "marks") = some (.ref lm) := by kernel_rfl
theorem ownM_r (lo lm : Addr) (rd : Int) : valV (ownM lo lm rd) (Sum.inr "rounds") = some (.int rd) := by kernel_rfl
theorem ownM_putm (lo lm lm' : Addr) (rd : Int) : putK (ownM lo lm rd) (Sum.inr "marks" : Key) (.ref lm') = ownM lo lm' rd := by kernel_rfl
theorem ownM_putr (lo lm : Addr) (rd rd' : Int) : putK (ownM lo lm rd) (Sum.inr "rounds" : Key) (.int rd') = ownM lo lm rd' := by kernel_rfl
theorem dgO {H : Hp} {d lo lm : Addr} {rd : Int} (e : H d = some (.dK (ownM lo lm rd))) : DGet H d (.str "order") (some (.ref lo)) := by
  rw [← ownM_o lo lm rd]
  exact DGet.k (k := Sum.inr "order") e
theorem dgM {H : Hp} {d lo lm : Addr} {rd : Int} (e : H d = some (.dK (ownM lo lm rd))) : DGet H d (.str "marks") (some (.ref lm)) := by
  rw [← ownM_m lo lm rd]
  exact DGet.k (k := Sum.inr "marks") e
theorem dgR {H : Hp} {d lo lm : Addr} {rd : Int} (e : H d = some (.dK (ownM lo lm rd))) : DGet H d (.str "rounds") (some (.int rd)) := by
  rw [← ownM_r lo lm rd]
  exact DGet.k (k := Sum.inr "rounds") e
theorem filter_eraseM {z : Str} {row : List Str} (h : row.Nodup) : row.filter (fun y => decide (y ≠ z)) = row.erase z := by
  rw [h.erase_eq_filter]
  refine List.filter_congr fun x _ => ?_
  by_cases e : x = z
  · rw [e]; simp
  · rw [decide_eq_true e]; simp [e]
theorem perm_addM {lw marks : List Str} {z : Str} (hp : lw.Perm marks) (hn : marks.Nodup) : (lw.filter (fun y => decide (y ≠ z)) ++ [z]).Perm (addM marks z) := by
  unfold addM
  by_cases h : z ∈ marks
  · rw [if_pos h]
    refine ((hp.filter _).append_right [z]).trans ?_
    rw [filter_eraseM hn]
    exact (List.perm_append_singleton z _).trans (List.perm_cons_erase h).symm
  · rw [if_neg h]
    refine ((hp.filter _).append_right [z]).trans ?_
    rw [show marks.filter (fun y => decide (y ≠ z)) = marks from List.filter_eq_self.mpr fun y hy => decide_eq_true fun q => h (by rw [← q]; exact hy)]
theorem nd_perm {xs ys : List Str} (hx : xs.Nodup) (hy : ys.Nodup) (h : ∀ z, z ∈ xs ↔ z ∈ ys) : xs.Perm ys := List.perm_iff_count.mpr fun a => by
  rw [hx.count, hy.count]
  by_cases e : a ∈ xs
  · rw [if_pos e, if_pos ((h a).mp e)]
  · rw [if_neg e, if_neg fun q => e ((h a).mpr q)]
theorem full_iff {n : Int} {row marks lw : List Str} (ok : MkOk n row marks) (hp : lw.Perm marks) : sortS row = sortS lw ↔ marks.length = row.length := by
  constructor
  · intro e
    have p1 := (sortS_perm row).symm.trans (e ▸ sortS_perm lw)
    rw [p1.length_eq, hp.length_eq]
  · intro e
    refine sortS_of_perm (List.Perm.trans (nd_perm ok.nd ok.md fun z => ⟨fun hz => ?_, ok.sub z⟩) hp.symm)
    by_cases q : z ∈ marks
    · exact q
    · have := subset_len (xs := z :: marks) (ys := row) (List.nodup_cons.mpr ⟨q, ok.md⟩) fun y hy => (List.mem_cons.mp hy).elim (fun w => by rw [w]; exact hz) (ok.sub y)
      rw [List.length_cons] at this
      omega
theorem filter_permM {row lw marks : List Str} (hp : lw.Perm marks) : row.filter (fun y => decide (y ∉ lw)) = row.filter (fun y => decide (y ∉ marks)) := List.filter_congr fun y _ => decide_eq_decide.mpr (not_congr hp.mem_iff)
section
variable {P : Program} {w : World} {K : PySem.W.Frag} {mg : Str → Option Value} {base : Heap} {tb : Addr}
/-! ### _law_marked -/
def spLMarked (tb : Addr) : Sp := fun vs H Q _ => ∃ (d lo lm : Addr) (z : Str) (n rd : Int) (row marks lw : List Str), vs = [.ref d, .str z, .int n] ∧ H d = some (.dK (ownM lo lm rd)) ∧ H lo = some (.lst (row.map V.str)) ∧ H lm = some (.lst (lw.map V.str)) ∧ lo ≠ lm ∧ lw.Perm marks ∧ MkOk n row marks ∧ 1 ≤ n ∧ n ≤ 20 ∧
  ∀ (t lm' : Addr) (H' : Hp) (lw' : List Str), H t = none → H lm' = none → t ≠ lm' → H' t = some (.tup [.bl (stepM n row marks rd z).1, optV (stepM n row marks rd z).2.1]) → H' d = some (.dK (ownM lo lm' (stepM n row marks rd z).2.2.2.2)) → H' lo = some (.lst ((stepM n row marks rd z).2.2.1.map V.str)) →
    H' lm' = some (.lst (lw'.map V.str)) → lw'.Perm (stepM n row marks rd z).2.2.2.1 → Kp tb [d, lo] H H' → Q (.ref t) H'
abbrev nLM : List Str := ["_law_own", "_law_name", "_law_places_here", "_law_met", "_law_gone", "_law_one"]
theorem sc_lmk : FnScope nLM ["_law_own", "_law_name", "_law_places_here"] (defScope s__law_marked) := ⟨rfl, rfl, rfl, by decide +kernel, rfl, by decide +kernel, by decide +kernel⟩
theorem ok_lmarked {f : Addr} {fd : FuncData} {k0 : Nat} (F : FnP K "_law_marked" "_law_marked" s__law_marked f fd) (hlen : mg "len" = none) (hsorted : mg "sorted" = none) (hmin : mg "min" = none) : FnOk P w K mg base CX0 (k0 + 1) f fd ["_law_own", "_law_name", "_law_places_here"] (spLMarked tb) := by
  refine ok0 F sc_lmk (fun vs H Q E h => ?_) (fun cdv A outer s H vs Q E hr h => ?_)
  · obtain ⟨d, lo, lm, z, n, rd, row, marks, lw, rfl, _⟩ := h
    rfl
  · obtain ⟨d, lo, lm, z, n, rd, row, marks, lw, rfl, hd, hlo, hlm, nlm, hperm, ok, n0, n1, q⟩ := h
    have hu := hu_of hr
    have ndl : d ≠ lo := ne_of hd hlo (by intro z; cases z)
    have ndm : d ≠ lm := ne_of hd hlm (by intro z; cases z)
    have hrow := ok.le
    have hlw : lw.length ≤ row.length := by rw [hperm.length_eq]; exact subset_len ok.md ok.sub
    refine ⟨_, pss_cons (ps_set (i := 3) sc_lmk.nd rfl (.inl rfl) (pe_cmpR op_in_seq (pv 1) (pe_dget hu (pv 0) pe_str (fun _ _ => rfl)) (by with_unfolding_all rfl)))
      (pss_cons (ps_set (i := 4) sc_lmk.nd rfl (.inl rfl) pe_non)
      (C8.pss_cut (ps_if (PW.pt (pw_and (pt_not (pt_val (pv 3))) (pw_and1 (pt_cmpR op_eq (pe_callB call_len_seq (by rfl) hlen PySem.boot_len (pa_cons (pe_dget hu (pv 0) pe_str (fun _ _ => rfl)) pa_nil)) (pv 2) (nomark _)))))
          (C8.pss_cut (ps_if (pt_cmpR (op_eqS hr.units) (pe_callB cr_sortS (by rfl) hsorted (by decide +kernel) (pa_cons (pe_dget hu (pv 0) pe_str (fun _ _ => rfl)) pa_nil)) (pe_callB cr_sortS (by rfl) hsorted (by decide +kernel) (pa_cons (pe_dget hu (pv 0) pe_str (fun _ _ => rfl)) pa_nil)) (nomark _))
              (pss_cons (ps_dput hu (pv 0) pe_str (pe_lst pa_nil) rfl) (pss_one (ps_dput hu (pv 0) pe_str (pe_op op_add (pe_dget hu (pv 0) pe_str (fun _ _ => rfl)) pe_int) rfl))) pss_nil)
          (pss_cons (ps_set (i := 4) sc_lmk.nd rfl (.inl rfl) (pe_callB (cr_minS rfl) (by rfl) hmin (by decide +kernel) (pa_cons (pe_lc (own := [("_law_one", 5)]) (g := gName 5) (tt := tTest (tOp (rIn K true) (tVar 5) (tDGet (tVar 0) (tC (.str "marks"))))) rfl sc_lmk.nd (pi_list (pe_dget hu (pv 0) pe_str (fun _ _ => rfl))) (blkOk_by (N := nLM) (sc := defScope s__law_marked) (by decide +kernel))
                (fun _ _ _ _ _ => pg_name (i := 5) sc_lmk.nd rfl (Or.inl rfl)) (fun _ _ _ _ _ => pts_one (pt_cmpR op_notIn_seq (pv 5) (pe_dget hu (pv 0) pe_str (fun _ _ => rfl)) (by with_unfolding_all rfl))) (fun _ _ _ _ _ => pv 5)) pa_nil)))
          (pss_one (ps_expr (pe_bm PySem.F.plainAttrs_list PySem.F.slot_list_remove PySem.F.type_list_remove mt_removeS (pe_dget hu (pv 0) pe_str (fun _ _ => rfl)) (pa_cons (pv 4) pa_nil)))))) pss_nil)
      (C8.pss_cut (ps_if (pt_not (pt_val (pv 3))) (pss_one (ps_expr (pe_bm PySem.F.plainAttrs_list PySem.F.slot_list_append PySem.F.type_list_append mt_append (pe_dget hu (pv 0) pe_str (fun _ _ => rfl)) (pa_cons (pv 1) pa_nil)))) pss_nil)
      (pss_cons (ps_dput hu (pv 0) pe_str (pe_op op_cat (pe_lc (own := [("_law_one", 5)]) (g := gName 5) (tt := tTest (tOp rNe (tVar 5) (tVar 1))) rfl sc_lmk.nd (pi_list (pe_dget hu (pv 0) pe_str (fun _ _ => rfl))) (blkOk_by (N := nLM) (sc := defScope s__law_marked) (by decide +kernel))
            (fun _ _ _ _ _ => pg_name (i := 5) sc_lmk.nd rfl (Or.inl rfl)) (fun _ _ _ _ _ => pts_one (pt_cmpR op_ne (pv 5) (pv 1) (nomark _))) (fun _ _ _ _ _ => pv 5)) (pe_lst (pa_cons (pv 1) pa_nil))) rfl)
      (pss_one (ps_ret (pe_tup (pa_cons (pv 3) (pa_cons (pv 4) pa_nil))))))))), ?_⟩
    refine ⟨_, rfl, _, rfl, d, _, rfl, dgO hd, lo, _, rfl, .inl (SqL.of hlo), rfl, flat_strs row, ?_⟩
    rw [inV_str]
    -- behind the first if
    refine ⟨fun σ H2 => ∃ (row2 marks2 lw2 : List Str) (gone : Option Str) (rd2 : Int) (lm2 : Addr), σ = [some (.ref d), some (.str z), some (.int n), some (.bl (decide (z ∈ row))), some (optV gone), none] ∧ H2 d = some (.dK (ownM lo lm2 rd2)) ∧ H2 lo = some (.lst (row2.map V.str)) ∧ H2 lm2 = some (.lst (lw2.map V.str)) ∧
      lo ≠ lm2 ∧ lw2.Perm marks2 ∧ marks2.Nodup ∧ row2.length ≤ 20 ∧ lw2.length ≤ 20 ∧ Kp tb [d, lo] H H2 ∧ stepM n row marks rd z = (decide (z ∈ row), gone, (if z ∈ row then row2 else row2 ++ [z]), addM marks2 z, rd2), ?_, ?_⟩
    · refine ⟨_, rfl, _, rfl, ?_⟩
      by_cases hin : z ∈ row
      · rw [decide_eq_true hin]
        refine iteF (iteF ⟨row, marks, lw, none, rd, lm, rfl, hd, hlo, hlm, nlm, hperm, ok.md, by omega, by omega, Kp.refl _, ?_⟩)
        unfold stepM
        rw [if_pos hin, if_pos hin]
      · rw [decide_eq_false hin]
        refine iteT ⟨_, rfl, d, _, rfl, dgO hd, lo, _, rfl, .inl (SqL.of hlo), _, rfl, rfl, _, rfl, ?_⟩
        rw [List.length_map, dec_int]
        by_cases heq : (row.length : Int) = n
        · rw [beq_iff_eq.mpr heq]
          have hne : row ≠ [] := fun e => by rw [e] at heq; simp at heq; omega
          refine iteT ?_
          -- behind the round's end
          refine ⟨fun σ H2 => ∃ (marks2 lw2 : List Str) (rd2 : Int) (lm2 : Addr), σ = [some (.ref d), some (.str z), some (.int n), some (.bl false), some .non, none] ∧ H2 d = some (.dK (ownM lo lm2 rd2)) ∧ H2 lo = some (.lst (row.map V.str)) ∧ H2 lm2 = some (.lst (lw2.map V.str)) ∧
            lo ≠ lm2 ∧ lw2.Perm marks2 ∧ marks2.Nodup ∧ lw2.length ≤ 20 ∧ Kp tb [d, lo] H H2 ∧ row.filter (fun y => decide (y ∉ marks2)) ≠ [] ∧ pickM row marks rd = (minS (row.filter fun y => decide (y ∉ marks2)), marks2, rd2), ?_, ?_⟩
          · refine ⟨_, rfl, d, _, rfl, dgO hd, lo, row, rfl, SqL.of hlo, by omega, fun e1 he1 => ?_⟩
            have k1 : Kp tb [d, lo] H (upd H e1 (.lst ((sortS row).map V.str))) := Kp.new he1
            have g1 : (upd H e1 (.lst ((sortS row).map V.str))) e1 = some (.lst ((sortS row).map V.str)) := upd_same
            have hd1 := (Kp.new (tb := tb) (S := []) (o := .lst ((sortS row).map V.str)) he1).get hd
            have hlo1 := (Kp.new (tb := tb) (S := []) (o := .lst ((sortS row).map V.str)) he1).get hlo
            have hlm1 := (Kp.new (tb := tb) (S := []) (o := .lst ((sortS row).map V.str)) he1).get hlm
            generalize upd H e1 (.lst ((sortS row).map V.str)) = H1 at k1 g1 hd1 hlo1 hlm1 ⊢
            refine ⟨_, rfl, d, _, rfl, dgM hd1, lm, lw, rfl, SqL.of hlm1, by omega, fun e2 he2 => ?_⟩
            have k2 : Kp tb [] H1 (upd H1 e2 (.lst ((sortS lw).map V.str))) := Kp.new he2
            have g2 : (upd H1 e2 (.lst ((sortS lw).map V.str))) e2 = some (.lst ((sortS lw).map V.str)) := upd_same
            generalize upd H1 e2 (.lst ((sortS lw).map V.str)) = H2 at k2 g2 ⊢
            have okr : OkS (sortS row) := fun y hy => isName_ok (ok.nm y ((sortS_perm row).mem_iff.mp hy))
            have okw : OkS (sortS lw) := fun y hy => isName_ok (ok.nm y (ok.sub y (hperm.mem_iff.mp ((sortS_perm lw).mem_iff.mp hy))))
            refine ⟨e1, e2, sortS row, sortS lw, rfl, rfl, SqL.of (k2.get g1), SqL.of g2, okr, okw, _, rfl, ?_⟩
            have hd2 := k2.get hd1
            have hlo2 := k2.get hlo1
            have hlm2 := k2.get hlm1
            have k12 : Kp tb [d, lo] H H2 := k1.trans k2.nil
            by_cases hf : marks.length = row.length
            · rw [decide_eq_true ((full_iff ok hperm).mpr hf)]
              refine iteT ?_
              refine ⟨Nat.zero_le _, fun lm' hlm' => ?_⟩
              have k3 : Kp tb [] H2 (upd H2 lm' (.lst [])) := Kp.new hlm'
              have g3 : (upd H2 lm' (.lst [])) lm' = some (.lst []) := upd_same
              have nlm' : lo ≠ lm' := ne_of_none hlo2 hlm'
              have ndm' : d ≠ lm' := ne_of_none hd2 hlm'
              generalize upd H2 lm' (.lst []) = H3 at k3 g3 ⊢
              have hd3 := k3.get hd2
              refine ⟨_, rfl, d, _, rfl, DPut.k (k := Sum.inr "marks") hd3 (by show 3 < sizeLine; decide), ?_⟩
              rw [ownM_putm]
              have k4 : Kp tb [d, lo] H3 (upd H3 d (.dK (ownM lo lm' rd))) := Kp.put hd3
              have g4 : (upd H3 d (.dK (ownM lo lm' rd))) d = some (.dK (ownM lo lm' rd)) := upd_same
              have g4l : (upd H3 d (.dK (ownM lo lm' rd))) lm' = some (.lst []) := by rw [upd_ne ndm'.symm]; exact g3
              have g4o : (upd H3 d (.dK (ownM lo lm' rd))) lo = some (.lst (row.map V.str)) := by rw [upd_ne ndl.symm]; exact k3.get hlo2
              generalize upd H3 d (.dK (ownM lo lm' rd)) = H4 at k4 g4 g4l g4o ⊢
              refine ⟨_, rfl, d, _, rfl, dgR g4, _, _, rfl, rfl, ?_⟩
              refine ⟨_, rfl, d, _, rfl, DPut.k (k := Sum.inr "rounds") g4 (by show 3 < sizeLine; decide), ?_⟩
              rw [ownM_putr]
              have hfull : row.filter (fun y => decide (y ∉ ([] : List Str))) = row := List.filter_eq_self.mpr fun y _ => by simp
              refine ⟨[], [], rd + 1, lm', rfl, upd_same, by rw [upd_ne ndl.symm]; exact g4o, by rw [upd_ne ndm'.symm]; exact g4l, nlm', List.Perm.refl _, List.nodup_nil, by simp, ((k12.trans k3.nil).trans k4).trans (Kp.put g4), by rw [hfull]; exact hne, ?_⟩
              unfold pickM
              rw [if_pos hf, hfull]
            · rw [decide_eq_false (fun z => hf ((full_iff ok hperm).mp z))]
              refine iteF ⟨marks, lw, rd, lm, rfl, hd2, hlo2, hlm2, nlm, hperm, ok.md, by omega, k12, ok.fl hf, ?_⟩
              unfold pickM
              rw [if_neg hf]
          · rintro σ H2 ⟨marks2, lw2, rd2, lm2, rfl, hd2, hlo2, hlm2, nlm2, hp2, hnd2, h20, k2, hne2, epick⟩
            refine ⟨_, rfl, d, _, rfl, dgO hd2, lo, rfl, ⟨_, SqL.of hlo2⟩, fun D hD => ?_⟩
            refine lc_it walk_list (LcI tb H2 D (fun i acc => acc = ((row.take i).filter (fun y => decide (y ∉ lw2))).map V.str)) (LcI.start hD rfl) (fun i H' _ ⟨_, _, kp, _⟩ => SqL.of (kp.get hlo2)) ?_ ?_
            · rintro i x H3 H4 hi ⟨acc, rfl, kp, hD3⟩ ⟨rfl, hx⟩
              obtain ⟨y, hy, rfl⟩ := get_mapS hx
              rw [List.length_map] at hi
              have etake : row.take (i + 1) = row.take i ++ [y] := by rw [List.take_add_one, hy]; rfl
              refine ⟨rfl, _, rfl, _, rfl, d, _, rfl, dgM (kp.get hd2), lm2, _, rfl, .inl (SqL.of (kp.get hlm2)), rfl, flat_strs lw2, _, rfl, ?_⟩
              rw [if_pos rfl, inV_str]
              by_cases e : y ∈ lw2
              · rw [decide_eq_true e]
                refine iteF ⟨_, ?_, kp, hD3⟩
                dsimp only
                rw [etake, List.filter_append, List.filter_cons_of_neg (by simpa using e), List.filter_nil, List.append_nil]
              · rw [decide_eq_false e]
                refine iteT ⟨_, rfl, LcI.next hD kp hD3 (Kp.refl _) ?_ ?_⟩
                · rw [List.length_map]
                  exact small_of (m := 20) (Nat.le_trans (List.length_filter_le _ _) (Nat.le_trans (List.length_take_le _ _) (by omega)))
                · rw [etake, List.filter_append, List.filter_cons_of_pos (by simpa using e), List.filter_nil, List.map_append]
                  rfl
            · rintro H3 ⟨acc, rfl, kp3, hD3⟩
              rw [List.length_map, List.take_of_length_le (Nat.le_refl _), filter_permM hp2] at hD3
              refine ⟨D, _, rfl, SqL.of hD3, hne2, ?_⟩
              have epk1 : minS (row.filter fun y => decide (y ∉ marks2)) = (pickM row marks rd).1 := by rw [epick]
              rw [epk1]
              have hmem := pickM_mem (rd := rd) hne ok.fl
              have hd3 := kp3.get hd2
              have hlo3 := kp3.get hlo2
              refine ⟨_, rfl, d, _, rfl, dgO hd3, .inl ⟨rfl, _, SqL.of hlo3⟩, _, rfl, lo, row, (pickM row marks rd).1, rfl, rfl, hlo3, hmem, ?_⟩
              refine ⟨row.erase (pickM row marks rd).1, marks2, lw2, some (pickM row marks rd).1, rd2, lm2, rfl, by rw [upd_ne ndl]; exact hd3, upd_same, by rw [upd_ne nlm2.symm]; exact kp3.get hlm2, nlm2, hp2, hnd2, Nat.le_trans List.length_erase_le (by omega), h20, (k2.trans kp3.nil).trans (Kp.put hlo3), ?_⟩
              unfold stepM
              rw [if_neg hin, if_neg (by omega), if_neg hin, epick]
        · rw [beq_eq_false_iff_ne.mpr heq]
          refine iteF ⟨row, marks, lw, none, rd, lm, rfl, hd, hlo, hlm, nlm, hperm, ok.md, by omega, by omega, Kp.refl _, ?_⟩
          unfold stepM
          rw [if_neg hin, if_pos (by omega), if_neg hin]
    · rintro σ H2 ⟨row2, marks2, lw2, gone, rd2, lm2, rfl, hd2, hlo2, hlm2, nlm2, hp2, hnd2, h20, hw20, k2, est⟩
      have ndm2 : d ≠ lm2 := ne_of hd2 hlm2 (by intro z; cases z)
      refine ⟨fun σ H3 => σ = [some (.ref d), some (.str z), some (.int n), some (.bl (decide (z ∈ row))), some (optV gone), none] ∧ H3 d = some (.dK (ownM lo lm2 rd2)) ∧ H3 lo = some (.lst ((if z ∈ row then row2 else row2 ++ [z]).map V.str)) ∧ H3 lm2 = some (.lst (lw2.map V.str)) ∧ Kp tb [d, lo] H H3, ?_, ?_⟩
      · refine ⟨_, rfl, _, rfl, ?_⟩
        by_cases hin : z ∈ row
        · rw [decide_eq_true hin]
          refine iteF ⟨rfl, hd2, by rw [if_pos hin]; exact hlo2, hlm2, k2⟩
        · rw [decide_eq_false hin]
          refine iteT ⟨_, rfl, d, _, rfl, dgO hd2, .inl ⟨rfl, _, SqL.of hlo2⟩, _, rfl, lo, _, _, rfl, rfl, hlo2, by rw [List.length_map]; exact small_of (m := 20) h20, ?_⟩
          refine ⟨rfl, by rw [upd_ne ndl]; exact hd2, by rw [upd_same, if_neg hin, List.map_append]; rfl, by rw [upd_ne nlm2.symm]; exact hlm2, k2.trans (Kp.put hlo2)⟩
      · rintro σ H3 ⟨rfl, hd3, hlo3, hlm3, k3⟩
        refine ⟨_, rfl, d, _, rfl, dgM hd3, lm2, rfl, ⟨_, SqL.of hlm3⟩, fun D hD => ?_⟩
        refine lc_it walk_list (LcI tb H3 D (fun i acc => acc = ((lw2.take i).filter (fun y => decide (y ≠ z))).map V.str)) (LcI.start hD rfl) (fun i H' _ ⟨_, _, kp, _⟩ => SqL.of (kp.get hlm3)) ?_ ?_
        · rintro i x H4 H5 hi ⟨acc, rfl, kp, hD3⟩ ⟨rfl, hx⟩
          obtain ⟨y, hy, rfl⟩ := get_mapS hx
          rw [List.length_map] at hi
          have etake : lw2.take (i + 1) = lw2.take i ++ [y] := by rw [List.take_add_one, hy]; rfl
          refine ⟨rfl, _, rfl, _, rfl, rfl, _, rfl, ?_⟩
          rw [dec_str]
          by_cases e : y = z
          · rw [beq_iff_eq.mpr e]
            refine iteF ⟨_, ?_, kp, hD3⟩
            dsimp only
            rw [etake, List.filter_append, List.filter_cons_of_neg (by simpa using e), List.filter_nil, List.append_nil]
          · rw [beq_eq_false_iff_ne.mpr e]
            refine iteT ⟨_, rfl, LcI.next hD kp hD3 (Kp.refl _) ?_ ?_⟩
            · rw [List.length_map]
              exact small_of (m := 20) (Nat.le_trans (List.length_filter_le _ _) (Nat.le_trans (List.length_take_le _ _) (by omega)))
            · rw [etake, List.filter_append, List.filter_cons_of_pos (by simpa using e), List.filter_nil, List.map_append]
              rfl
        · rintro H4 ⟨acc, rfl, kp4, hD4⟩
          rw [List.length_map, List.take_of_length_le (Nat.le_refl _)] at hD4
          refine ⟨_, rfl, Nat.le_of_lt (small_of (m := 1) (Nat.le_refl _)), fun e he => ?_⟩
          have ke : Kp tb [] H4 (upd H4 e (.lst [.str z])) := Kp.new he
          refine ⟨D, e, _, _, rfl, rfl, ke.get hD4, upd_same, ?_, fun lm' hlm' => ?_⟩
          · rw [List.length_map]
            exact Nat.le_of_lt (small_of (m := 21) (by have := List.length_filter_le (fun y => decide (y ≠ z)) lw2; show _ + 1 ≤ 21; omega))
          have k5 := (kp4.trans ke).step (o := .lst ((lw2.filter (fun y => decide (y ≠ z))).map V.str ++ [.str z])) hlm'
          have g5 : (upd (upd H4 e (.lst [.str z])) lm' (.lst ((lw2.filter (fun y => decide (y ≠ z))).map V.str ++ [.str z]))) lm' = some (.lst ((lw2.filter (fun y => decide (y ≠ z)) ++ [z]).map V.str)) := by
            rw [upd_same, List.map_append]
            rfl
          have f5 : H3 lm' = none := kp4.free _ (ke.free _ hlm')
          generalize upd (upd H4 e (.lst [.str z])) lm' (.lst ((lw2.filter (fun y => decide (y ≠ z))).map V.str ++ [.str z])) = H5 at k5 g5 ⊢
          have hd5 := k5.get hd3
          refine ⟨_, rfl, d, _, rfl, DPut.k (k := Sum.inr "marks") hd5 (by show 3 < sizeLine; decide), ?_⟩
          rw [ownM_putm]
          have ndl' : d ≠ lm' := ne_of_none hd3 f5
          have k6 : Kp tb [d, lo] H5 (upd H5 d (.dK (ownM lo lm' rd2))) := Kp.put hd5
          have g6 : (upd H5 d (.dK (ownM lo lm' rd2))) lm' = some (.lst ((lw2.filter (fun y => decide (y ≠ z)) ++ [z]).map V.str)) := by rw [upd_ne ndl'.symm]; exact g5
          have go6 : (upd H5 d (.dK (ownM lo lm' rd2))) lo = some (.lst ((if z ∈ row then row2 else row2 ++ [z]).map V.str)) := by rw [upd_ne ndl.symm]; exact k5.get hlo3
          have gd6 : (upd H5 d (.dK (ownM lo lm' rd2))) d = some (.dK (ownM lo lm' rd2)) := upd_same
          generalize upd H5 d (.dK (ownM lo lm' rd2)) = H6 at k6 g6 go6 gd6 ⊢
          refine ⟨_, rfl, _, rfl, by show 2 ≤ sizeLine; decide, fun t ht => ?_⟩
          have kt : Kp tb [] H6 (upd H6 t (.tup [.bl (decide (z ∈ row)), optV gone])) := Kp.new ht
          have kAll : Kp tb [d, lo] H H6 := k3.trans (k5.nil.trans k6)
          refine q t lm' _ _ (kAll.free _ ht) (k3.free _ f5) (ne_of_none g6 ht).symm (by rw [est]; exact upd_same) (by rw [est]; exact kt.get gd6) (by rw [est]; exact kt.get go6) (kt.get g6) (by rw [est]; exact perm_addM hp2 hnd2) (kAll.trans kt.nil)
/-! ### _law_marks_right -/
def spMR (tb C : Addr) : Sp := fun vs H Q _ => ∃ (p l dp d lm : Addr) (n m k rd : Int) (row marks lw : List Str) (kvs : List (Key × V)), vs = [.ref p, .ref d] ∧ MkAt C H p n l row m k dp marks rd ∧ H d = some (.dK kvs) ∧
  valV kvs (Sum.inr "marks") = some (.ref lm) ∧ valV kvs (Sum.inr "rounds") = some (.int rd) ∧ H lm = some (.lst (lw.map V.str)) ∧ lw.Perm marks ∧ marks.length < 64 ∧ (∀ z ∈ marks, IsName z) ∧ ∀ H', Kp tb [] H H' → Q (.bl true) H'
abbrev nMR : List Str := ["_law_shelf", "_law_own", "_law_marks"]
theorem sc_mr : FnScope nMR ["_law_shelf", "_law_own"] (defScope s__law_marks_right) := ⟨rfl, rfl, rfl, by decide +kernel, rfl, by decide +kernel, by decide +kernel⟩
theorem ok_mr {C f : Addr} {fd : FuncData} {k0 : Nat} (F : FnP K "_law_marks_right" "_law_marks_right" s__law_marks_right f fd) (hisi : mg "isinstance" = none) (hlist : mg "list" = none) (hbool : mg "bool" = none) (hsorted : mg "sorted" = none)
    (GM : MethOk P w K mg base CX0 (k0 + 1) C "marks" ["self"] (spMarks tb C)) (GR : MethOk P w K mg base CX0 (k0 + 1) C "rounds" ["self"] (spRounds C)) :
    FnOk P w K mg base CX0 (k0 + 2) f fd ["_law_shelf", "_law_own"] (spMR tb C) := by
  refine ok0 F sc_mr (fun vs H Q E h => ?_) (fun cdv A outer s H vs Q E hr h => ?_)
  · obtain ⟨p, l, dp, d, lm, n, m, k, rd, row, marks, lw, kvs, rfl, _⟩ := h
    rfl
  · obtain ⟨p, l, dp, d, lm, n, m, k, rd, row, marks, lw, kvs, rfl, S, hd, hv, hvr, hlm, hperm, h64, hnames, q⟩ := h
    obtain ⟨⟨dx, hp⟩, hl⟩ := S.sh
    have hu := hu_of hr
    have hget : ∀ {H' : Hp}, Kp tb [] H H' → DGet H' d (.str "marks") (some (.ref lm)) := fun kp => by
      rw [← hv]
      exact DGet.k (k := Sum.inr "marks") (kp.get hd)
    have hgetr : ∀ {H' : Hp}, Kp tb [] H H' → DGet H' d (.str "rounds") (some (.int rd)) := fun kp => by
      rw [← hvr]
      exact DGet.k (k := Sum.inr "rounds") (kp.get hd)
    refine ⟨_, pss_cons (ps_set (i := 2) sc_mr.nd rfl (.inl rfl) (pe_meth0G (pv 0) GM hr pass0))
      (pss_cons (ps_if (PW.pt (pw_or (pt_not (pt_val (pe_callB call_isi (by rfl) hisi (by decide +kernel) (pa_cons (pv 2) (pa_cons (pe_bltn (v := .ty "list") (by rfl) hlist (by decide +kernel) rfl) pa_nil)))))
          (pw_or (pt_cmpR (op_neS hr.units) (pv 2) (pe_callB cr_sortS (by rfl) hsorted (by decide +kernel) (pa_cons (pe_dget hu (pv 1) pe_str (fun _ _ => rfl)) pa_nil)) (nomark _))
          (pw_or1 (pt_val (pe_callB call_isi (by rfl) hisi (by decide +kernel) (pa_cons (pe_meth0G (pv 0) GR hr pass0) (pa_cons (pe_bltn (v := .ty "bool") (by rfl) hbool (by decide +kernel) rfl) pa_nil)))))))) (pss_one (ps_ret pe_bl)) pss_nil)
      (pss_cons (ps_expr (pe_bm PySem.F.plainAttrs_list PySem.F.slot_list_append PySem.F.type_list_append mt_append (pv 2) (pa_cons pe_str pa_nil)))
      (pss_one (ps_ret (pe_cmpR op_eq (pe_meth0G (pv 0) GR hr pass0) (pe_dget hu (pv 1) pe_str (fun _ _ => rfl)) (nomark _)))))), ?_⟩
    refine ⟨_, rfl, p, dx, _, rfl, hp, mF_nmarks .., p, l, dp, n, m, k, rd, row, marks, rfl, S, h64, fun o H5 ho ho5 k5 => ?_⟩
    refine ⟨_, rfl, _, _, _, _, true, rfl, .ty _, .base (.lst ho5), kit_ty (by decide +kernel), _, rfl, iteF ?_⟩
    have hord : sortS lw = sortS marks := sortS_of_perm hperm
    have hord64 : lw.length < 64 := by rw [hperm.length_eq]; exact h64
    have okr : OkS (sortS marks) := fun z hz => isName_ok (hnames z ((sortS_perm marks).mem_iff.mp hz))
    refine ⟨_, rfl, _, rfl, d, _, rfl, hget k5, lm, lw, rfl, SqL.of (k5.get hlm), hord64, fun e he => ?_⟩
    rw [hord]
    have k6 : Kp tb [] H5 (upd H5 e (.lst ((sortS marks).map V.str))) := Kp.new he
    refine ⟨o, e, sortS marks, sortS marks, rfl, rfl, SqL.of (k6.get ho5), SqL.of upd_same, okr, okr, _, rfl, ?_⟩
    rw [decide_eq_true rfl]
    refine iteF ?_
    have kC := k5.trans k6
    have ho6 := k6.get ho5
    generalize upd H5 e (.lst ((sortS marks).map V.str)) = H6 at k6 kC ho6 ⊢
    refine ⟨_, rfl, p, dx, _, rfl, kC.get hp, mF_nrounds .., p, l, dp, n, m, k, rd, rfl, ⟨dx, kC.get hp⟩, ?_⟩
    refine ⟨_, _, _, _, false, rfl, .ty _, .base (.int rd), kit_ty (by decide +kernel), _, rfl, iteF ?_⟩
    refine ⟨_, rfl, .inl ⟨rfl, _, SqL.of ho6⟩, o, _, _, rfl, rfl, ho6, by rw [List.length_map, (sortS_perm marks).length_eq]; exact small_of (m := 64) (by omega), ?_⟩
    have kD : Kp tb [] H (upd H6 o (.lst ((sortS marks).map V.str ++ [.str "more"]))) := kC.own ho ho6
    generalize upd H6 o (.lst ((sortS marks).map V.str ++ [.str "more"])) = H7 at kD ⊢
    refine ⟨_, rfl, p, dx, _, rfl, kD.get hp, mF_nrounds .., p, l, dp, n, m, k, rd, rfl, ⟨dx, kD.get hp⟩, ?_⟩
    refine ⟨_, rfl, d, _, rfl, hgetr kD, rfl, ?_⟩
    rw [decide_eq_true rfl]
    exact q _ kD
end
end Kf

namespace Kf
open PySem PySem.Spec PyProof.Rows L2
/-! ### a head's facts read in a part of the heap that holds the interpreter's own statics too -/
def asY (g : Addr → Option Obj) (n : Nat) : List Addr := He.asD g n ++ [cStatics]
section
variable (n : Nat) (fa : List He.Fa) (fn : List He.DefD) (ts : List He.Tab) (tf : List He.Defn) (ex : PySem.W.Frag → Bool)
def toldY (g : Addr → Option Obj) (K : PySem.W.Frag) : He.AlX := (He.obsT fa fn ts K, ex K && He.tabsB g tf K)
def obsY (g : Addr → Option Obj) : He.AlX := toldY fa fn ts tf ex g (He.frT g (asY g n))
end
section
variable {n : Nat} {fa : List He.Fa} {fn : List He.DefD} {ts : List He.Tab} {tf : List He.Defn} {ex : PySem.W.Frag → Bool}
theorem saysY_of {as : List Addr} {w : World} {h : Heap} (e : toldY fa fn ts tf ex h.get? (He.frT h.get? as) = He.valX fn ts w) : He.SaysX fa fn ts tf ex w h (He.frT h.get? as) := by
  have e1 := congrArg (fun z : He.AlX => z.1) e
  obtain ⟨h1, h2⟩ := He.ba (show (ex (He.frT h.get? as) && He.tabsB h.get? tf (He.frT h.get? as)) = true from congrArg (fun z : He.AlX => z.2) e)
  have key : ∀ p ∈ tf, PySem.W.codeHdIn (He.frT h.get? as) (He.cT (He.frT h.get? as) p).1 (He.cT (He.frT h.get? as) p).2 = true ∧ ∃ o, h.get? (He.cT (He.frT h.get? as) p).2 = some o ∧ He.emptyTab o = true := by
    intro p hp
    obtain ⟨h3, h4⟩ := He.ba (List.all_eq_true.mp h2 p hp)
    refine ⟨h3, ?_⟩
    revert h4
    cases h.get? (He.cT (He.frT h.get? as) p).2 with
    | none => exact fun h4 => nomatch h4
    | some o => exact fun h4 => ⟨o, rfl, h4⟩
  refine ⟨e1, h1, fun p hp => (key p hp).1, fun p hp => ?_, fun p hp => ?_⟩
  · obtain ⟨_, o, q, z⟩ := key p hp
    exact He.frT_none q z
  · obtain ⟨_, o, q, z⟩ := key p hp
    rw [q, He.emptyTab_eq z]
end
def hookY (n : Nat) (fa : List He.Fa) (fn : List He.DefD) (ts : List He.Tab) (tf : List He.Defn) (ex : PySem.W.Frag → Bool) : PySem.W.Hook where
  α := He.AlX
  obs := fun s => obsY n fa fn ts tf ex s.heap.get?
  val := fun w => He.valX fn ts w
  says := fun w h => ∃ K : PySem.W.Frag, K.In h ∧ He.SaysX fa fn ts tf ex w h K
  of := fun _ _ e => ⟨_, He.frT_in, saysY_of e⟩
  keeps := fun _ _ _ ⟨K, hK, c⟩ k => ⟨K, PySem.W.Frag.In.keeps hK k, ⟨c.t, c.more, c.hd, c.out, fun p hp => k _ _ (c.empty p hp)⟩⟩
theorem obsY_eq {n : Nat} {fa : List He.Fa} {fn : List He.DefD} {ts : List He.Tab} {tf : List He.Defn} {ex : PySem.W.Frag → Bool} {g : Addr → Option Obj} {s : Shared} (h : ∀ a, g a = s.heap.get? a) : obsY n fa fn ts tf ex g = (hookY n fa fn ts tf ex).obs s := by
  rw [show g = s.heap.get? from funext h] <;> rfl
end Kf

namespace Kf
open PySem PySem.Spec PyProof.Rows L2
/-! ### two things, by a truth -/
def pick2 {α : Type} (x : Bool → α) : List α := [x false, x true]
def b01 (b : Bool) : Int := if b then 1 else 0
theorem at2 (x : Bool → V) (b : Bool) : atI (pick2 x) (b01 b) = some (x b) := by
  cases b with
  | false => exact atI_nat (j := 0) rfl
  | true => exact atI_nat (j := 1) rfl
theorem at2n (x : Bool → V) (b : Bool) : atI (pick2 x) (1 - b01 b) = some (x (!b)) := by
  cases b with
  | false => exact atI_nat (j := 1) rfl
  | true => exact atI_nat (j := 0) rfl
/-- isinstance's facts of a class -/
structure InsT (K : PySem.W.Frag) (C : Addr) : Prop where
  ha : PySem.W.findIn K (.ref C) "__class__" = some (some (.builtin "object.__class__"))
  hn : PySem.W.specialIn K (.builtin "object.__class__") "__get__" = some (some (.builtin "getset_descriptor.__get__"))
  htk : PySem.W.takesIn K (.builtin "object.__class__") = some true
  hm : PySem.W.mroIn K C (.type "object") = some true
theorem kit2 {K : PySem.W.Frag} {t c1 c2 : Value} (h1 : PySem.W.kitOne K t c1 = some false) (h2 : PySem.W.kitOne K t c2 = some false) : PySem.W.kitAny K t [c1, c2] = some false :=
  kitAny_cons (b := false) h1 (fun _ => kitAny_cons (b := false) h2 (fun _ => kitAny_nil) (fun z => nomatch z)) (fun z => nomatch z)
/-! ### addresses by their place in a list -/
theorem getD_inj {L : List Addr} (h : L.Nodup) {i j : Nat} (hi : i < L.length) (hj : j < L.length) (e : L.getD i 0 = L.getD j 0) : i = j := by
  rw [List.getD_eq_getElem?_getD, List.getD_eq_getElem?_getD, List.getElem?_eq_getElem hi, List.getElem?_eq_getElem hj] at e
  exact (List.getElem_inj h).mp e
theorem at_dis {L : List Addr} {N : Nat} (h : L.Nodup) (hl : L.length = N) (I J : List Nat) (hI : ∀ i ∈ I, i < N) (hJ : ∀ i ∈ J, i < N) (hd : ∀ i ∈ I, i ∉ J) : ∀ x ∈ I.map (fun i => L.getD i 0), x ∉ J.map (fun i => L.getD i 0) := by
  intro x hx hy
  obtain ⟨i, hi, rfl⟩ := List.mem_map.mp hx
  obtain ⟨j, hj, e⟩ := List.mem_map.mp hy
  have := getD_inj h (by rw [hl]; exact hJ j hj) (by rw [hl]; exact hI i hi) e
  exact hd i hi (by rw [← this]; exact hj)
theorem at_nd {L : List Addr} {N : Nat} (h : L.Nodup) (hl : L.length = N) : ∀ (I : List Nat), (∀ i ∈ I, i < N) → I.Nodup → (I.map (fun i => L.getD i 0)).Nodup
  | [], _, _ => List.nodup_nil
  | i :: r, hI, hn => by
    obtain ⟨h1, h2⟩ := List.nodup_cons.mp hn
    refine List.nodup_cons.mpr ⟨fun hm => ?_, at_nd h hl r (fun j hj => hI j (List.mem_cons_of_mem _ hj)) h2⟩
    obtain ⟨j, hj, e⟩ := List.mem_map.mp hm
    have := getD_inj h (by rw [hl]; exact hI j (List.mem_cons_of_mem _ hj)) (by rw [hl]; exact hI i List.mem_cons_self) e
    exact h1 (by rw [← this]; exact hj)
def upd2 {α : Type} (x : Bool → α) (b : Bool) (v : α) : Bool → α := fun c => if c = b then v else x c
theorem upd2_same {α : Type} (x : Bool → α) (b : Bool) (v : α) : upd2 x b v b = v := by unfold upd2; rw [if_pos rfl]
theorem upd2_not {α : Type} (x : Bool → α) (b : Bool) (v : α) : upd2 x b v (!b) = x (!b) := by unfold upd2; rw [if_neg (by cases b <;> simp)]
theorem all2 {P : Bool → Prop} (b : Bool) (h : P b) (h' : P (!b)) : ∀ c, P c := fun c => by
  cases b <;> cases c <;> assumption
def Al (H : Hp) (L : List Addr) : Prop := L.Nodup ∧ ∀ x ∈ L, H x ≠ none
theorem Al.nil (H : Hp) : Al H [] := ⟨List.nodup_nil, fun _ h => absurd h (by simp)⟩
theorem Al.kp {H H' : Hp} {tb : Addr} {S L : List Addr} (h : Al H L) (k : Kp tb S H H') : Al H' L := ⟨h.1, fun x hx e => h.2 x hx (k.free x e)⟩
theorem Al.add {H : Hp} {L : List Addr} {p : Addr} {o : HO} (h : Al H L) (hp : H p = some o) (hn : p ∉ L) : Al H (p :: L) := ⟨List.nodup_cons.mpr ⟨hn, h.1⟩, fun x hx => by
  rcases List.mem_cons.mp hx with e | hx
  · rw [e, hp]; exact fun z => nomatch z
  · exact h.2 x hx⟩
theorem Al.fresh {H : Hp} {L : List Addr} {p : Addr} (h : Al H L) (hp : H p = none) : p ∉ L := fun z => h.2 p z hp
theorem Al.new {H H' : Hp} {L : List Addr} {p : Addr} {o : HO} {tb : Addr} {S : List Addr} (h : Al H L) (hp : H p = none) (k : Kp tb S H H') (e : H' p = some o) : Al H' (p :: L) := (h.kp k).add e (h.fresh hp)
theorem Al.upd {H : Hp} {L : List Addr} {p : Addr} {o : HO} (h : Al H L) (hp : H p = none) : Al (upd H p o) (p :: L) := h.new (tb := 0) (S := []) hp (Kp.new hp) upd_same
section
variable {P : Program} {w : World} {K : PySem.W.Frag} {mg : Str → Option Value} {base : Heap}
/-- one of the two shelves, with the law's own doing beside it -/
structure One3 (C : Addr) (H : Hp) (p l dm d lo lm a : Addr) (n : Int) (row marks lw : List Str) (rd : Int) (ts : List Bool) : Prop where
  sh : MkAt C H p n l row (ts.count true : Nat) (ts.count false : Nat) dm marks rd
  hd : H d = some (.dK (ownM lo lm rd))
  lo : H lo = some (.lst (row.map V.str))
  lm : H lm = some (.lst (lw.map V.str))
  a : H a = some (.lst (ts.map V.bl))
  ok : MkOk n row marks
  pm : lw.Perm marks
theorem One3.kp {C : Addr} {H H' : Hp} {tb p l dm d lo lm a : Addr} {n rd : Int} {row marks lw : List Str} {ts : List Bool} {S : List Addr} (h : One3 C H p l dm d lo lm a n row marks lw rd ts) (kp : Kp tb S H H') (hs : ∀ x ∈ [p, l, a, d, lo, dm, lm], x ∉ S := by simp) :
    One3 C H' p l dm d lo lm a n row marks lw rd ts := ⟨h.sh.kp kp (hs _ (by simp)) (hs _ (by simp)) (hs _ (by simp)), kp.get h.hd rfl (hs _ (by simp)), kp.get h.lo rfl (hs _ (by simp)), kp.get h.lm rfl (hs _ (by simp)), kp.get h.a rfl (hs _ (by simp)), h.ok, h.pm⟩
theorem One3.al {C : Addr} {H : Hp} {p l dm d lo lm a : Addr} {n rd : Int} {row marks lw : List Str} {ts : List Bool} (h : One3 C H p l dm d lo lm a n row marks lw rd ts) : ∀ x ∈ [p, l, a, d, lo, dm, lm], H x ≠ none := by
  obtain ⟨⟨dx, hp⟩, hl⟩ := h.sh.sh
  intro x hx
  simp only [List.mem_cons, List.not_mem_nil, or_false] at hx
  rcases hx with e | e | e | e | e | e | e <;> rw [e]
  · rw [hp]; exact fun z => nomatch z
  · rw [hl]; exact fun z => nomatch z
  · rw [h.a]; exact fun z => nomatch z
  · rw [h.hd]; exact fun z => nomatch z
  · rw [h.lo]; exact fun z => nomatch z
  · rw [h.sh.mkd]; exact fun z => nomatch z
  · rw [h.lm]; exact fun z => nomatch z
abbrev ow3 (p l d lo a dm lm : Bool → Addr) (b : Bool) : List Addr := [p b, l b, a b, d b, lo b, dm b, lm b]
structure Wld3 (C tb : Addr) (H1 : Hp) (rl sl ol tl : Addr) (p l d lo a : Bool → Addr) (n : Bool → Int) (dm lm : Bool → Addr) (row marks lw : Bool → List Str) (rd : Bool → Int) (ts : Bool → List Bool) (H : Hp) : Prop where
  one : ∀ b, One3 C H (p b) (l b) (dm b) (d b) (lo b) (lm b) (a b) (n b) (row b) (marks b) (lw b) (rd b) (ts b)
  hr : H rl = some (.lst (pick2 fun b => V.int (n b)))
  hs : H sl = some (.lst (pick2 fun b => V.ref (p b)))
  ho : H ol = some (.lst (pick2 fun b => V.ref (d b)))
  ht : H tl = some (.lst (pick2 fun b => V.ref (a b)))
  kp : Kp tb [] H1 H
  late : ∀ b, ∀ x ∈ ow3 p l d lo a dm lm b, H1 x = none
  dj : ∀ b, ∀ x ∈ ow3 p l d lo a dm lm (!b), x ∉ ow3 p l d lo a dm lm b
  fxd : ∀ b, ∀ x ∈ [rl, sl, ol, tl], x ∉ ow3 p l d lo a dm lm b
  self : ∀ b, (ow3 p l d lo a dm lm b).Nodup
section
variable {C tb : Addr} {H1 : Hp} {rl sl ol tl : Addr} {p l d a lo dm lm : Bool → Addr} {n rd : Bool → Int} {row marks lw : Bool → List Str} {ts : Bool → List Bool} {H H' : Hp} {b : Bool} {r mk w2 : List Str} {t : List Bool} {dm' lm' : Addr} {rd' : Int}
theorem Wld3.keep (W : Wld3 C tb H1 rl sl ol tl p l d lo a n dm lm row marks lw rd ts H) (k : Kp tb [] H H') : Wld3 C tb H1 rl sl ol tl p l d lo a n dm lm row marks lw rd ts H' :=
  ⟨fun b => (W.one b).kp k, k.get W.hr, k.get W.hs, k.get W.ho, k.get W.ht, W.kp.trans k, W.late, W.dj, W.fxd, W.self⟩
theorem Wld3.fx (W : Wld3 C tb H1 rl sl ol tl p l d lo a n dm lm row marks lw rd ts H) : ∀ x ∈ [rl, sl, ol, tl], H x ≠ none := by
  intro x hx
  simp only [List.mem_cons, List.not_mem_nil, or_false] at hx
  rcases hx with e | e | e | e <;> rw [e]
  · rw [W.hr]; exact fun z => nomatch z
  · rw [W.hs]; exact fun z => nomatch z
  · rw [W.ho]; exact fun z => nomatch z
  · rw [W.ht]; exact fun z => nomatch z
theorem Wld3.step (W : Wld3 C tb H1 rl sl ol tl p l d lo a n dm lm row marks lw rd ts H) (k : Kp tb (ow3 p l d lo a dm lm b) H H') (f1 : dm' = dm b ∨ H dm' = none) (f2 : H lm' = none) (ne : dm' ≠ lm')
    (o : One3 C H' (p b) (l b) dm' (d b) (lo b) lm' (a b) (n b) r mk w2 rd' t) :
    Wld3 C tb H1 rl sl ol tl p l d lo a n (upd2 dm b dm') (upd2 lm b lm') (upd2 row b r) (upd2 marks b mk) (upd2 lw b w2) (upd2 rd b rd') (upd2 ts b t) H' := by
  have al := fun b => (W.one b).al
  have same : ow3 p l d lo a (upd2 dm b dm') (upd2 lm b lm') b = [p b, l b, a b, d b, lo b, dm', lm'] := by unfold ow3; rw [upd2_same, upd2_same]
  have other : ow3 p l d lo a (upd2 dm b dm') (upd2 lm b lm') (!b) = ow3 p l d lo a dm lm (!b) := by unfold ow3; rw [upd2_not, upd2_not]
  have sub : ∀ x ∈ [p b, l b, a b, d b, lo b, dm', lm'], x ∈ ow3 p l d lo a dm lm b ∨ H x = none := fun x hx => by
    simp only [List.mem_cons, List.not_mem_nil, or_false] at hx
    rcases hx with e | e | e | e | e | e | e
    · exact .inl (by rw [e]; simp)
    · exact .inl (by rw [e]; simp)
    · exact .inl (by rw [e]; simp)
    · exact .inl (by rw [e]; simp)
    · exact .inl (by rw [e]; simp)
    · rcases f1 with q | q
      · exact .inl (by rw [e, q]; simp)
      · exact .inr (by rw [e]; exact q)
    · exact .inr (by rw [e]; exact f2)
  have dj1 : ∀ x ∈ ow3 p l d lo a dm lm (!b), x ∉ [p b, l b, a b, d b, lo b, dm', lm'] := fun x hx z => by
    rcases sub x z with q | q
    · exact W.dj b x hx q
    · exact al _ x hx q
  refine ⟨all2 b ?_ ?_, k.get W.hr rfl (W.fxd b _ (by simp)), k.get W.hs rfl (W.fxd b _ (by simp)), k.get W.ho rfl (W.fxd b _ (by simp)), k.get W.ht rfl (W.fxd b _ (by simp)), W.kp.transN k (W.late b), all2 b ?_ ?_, all2 b ?_ ?_, all2 b ?_ ?_, all2 b ?_ ?_⟩
  · rw [upd2_same, upd2_same, upd2_same, upd2_same, upd2_same, upd2_same, upd2_same]
    exact o
  · rw [upd2_not, upd2_not, upd2_not, upd2_not, upd2_not, upd2_not, upd2_not]
    exact (W.one (!b)).kp k (W.dj b)
  · rw [same]
    intro x hx
    rcases sub x hx with q | q
    · exact W.late b x q
    · exact W.kp.free _ q
  · rw [other]
    exact W.late (!b)
  · rw [same, other]
    exact dj1
  · rw [other, Bool.not_not, same]
    intro x hx z
    exact dj1 x z hx
  · rw [same]
    intro x hx z
    rcases sub x z with q | q
    · exact W.fxd b x hx q
    · exact W.fx x hx q
  · rw [other]
    exact W.fxd (!b)
  · rw [same]
    have q := W.self b
    have z1 : ∀ x ∈ [p b, l b, a b, d b, lo b], x ≠ dm' := fun x hx e => by
      rcases f1 with f | f
      · rw [e, f] at hx
        simp only [List.nodup_cons, List.mem_cons, List.not_mem_nil, or_false, not_or] at q hx
        rcases hx with h | h | h | h | h <;> simp [h] at q
      · exact al b x (by simp only [List.mem_cons, List.not_mem_nil, or_false] at hx ⊢; rcases hx with e | e | e | e | e <;> simp [e]) (by rw [e]; exact f)
    have z2 : ∀ x ∈ [p b, l b, a b, d b, lo b], x ≠ lm' := fun x hx e => al b x (by simp only [List.mem_cons, List.not_mem_nil, or_false] at hx ⊢; rcases hx with e | e | e | e | e <;> simp [e]) (by rw [e]; exact f2)
    simp only [List.nodup_cons, List.mem_cons, List.not_mem_nil, or_false, not_or] at q ⊢
    refine ⟨⟨q.1.1, q.1.2.1, q.1.2.2.1, q.1.2.2.2.1, z1 _ (by simp), z2 _ (by simp)⟩, ⟨q.2.1.1, q.2.1.2.1, q.2.1.2.2.1, z1 _ (by simp), z2 _ (by simp)⟩, ⟨q.2.2.1.1, q.2.2.1.2.1, z1 _ (by simp), z2 _ (by simp)⟩, ⟨q.2.2.2.1.1, z1 _ (by simp), z2 _ (by simp)⟩, ⟨z1 _ (by simp), z2 _ (by simp)⟩, ne, id, List.nodup_nil⟩
  · rw [other]
    exact W.self (!b)
end
theorem disj7 {rl sl ol tl d0 d1 p0 p1 l0 l1 lo0 lo1 a0 a1 m0 m1 w0 w1 : Addr} (nd : [tl, a1, a0, ol, w1, lo1, d1, w0, lo0, d0, m1, p1, l1, m0, p0, l0, sl, rl].Nodup) :
    (∀ b, ∀ x ∈ ow3 (sel p0 p1) (sel l0 l1) (sel d0 d1) (sel lo0 lo1) (sel a0 a1) (sel m0 m1) (sel w0 w1) (!b), x ∉ ow3 (sel p0 p1) (sel l0 l1) (sel d0 d1) (sel lo0 lo1) (sel a0 a1) (sel m0 m1) (sel w0 w1) b) ∧
    (∀ b, ∀ x ∈ [rl, sl, ol, tl], x ∉ ow3 (sel p0 p1) (sel l0 l1) (sel d0 d1) (sel lo0 lo1) (sel a0 a1) (sel m0 m1) (sel w0 w1) b) ∧ ∀ b, (ow3 (sel p0 p1) (sel l0 l1) (sel d0 d1) (sel lo0 lo1) (sel a0 a1) (sel m0 m1) (sel w0 w1) b).Nodup := by
  refine ⟨fun b => ?_, fun b => ?_, fun b => ?_⟩
  · cases b
    · exact at_dis (N := 18) nd rfl [11, 12, 1, 6, 5, 10, 4] [14, 15, 2, 9, 8, 13, 7] (by decide) (by decide) (by decide)
    · exact at_dis (N := 18) nd rfl [14, 15, 2, 9, 8, 13, 7] [11, 12, 1, 6, 5, 10, 4] (by decide) (by decide) (by decide)
  · cases b
    · exact at_dis (N := 18) nd rfl [17, 16, 3, 0] [14, 15, 2, 9, 8, 13, 7] (by decide) (by decide) (by decide)
    · exact at_dis (N := 18) nd rfl [17, 16, 3, 0] [11, 12, 1, 6, 5, 10, 4] (by decide) (by decide) (by decide)
  · cases b
    · exact at_nd (N := 18) nd rfl [14, 15, 2, 9, 8, 13, 7] (by decide) (by decide)
    · exact at_nd (N := 18) nd rfl [11, 12, 1, 6, 5, 10, 4] (by decide) (by decide)
def spLaw (K : PySem.W.Frag) : Sp := fun vs H Q _ => ∃ (a : Addr) (ns : List Int), vs = [.ref a] ∧ SqL K H a (ns.map V.int) ∧ ns.length ≤ 63 ∧ GxR.TabG H (tbOf K) ∧ ∀ H', Q (.bl true) H'
abbrev nK03 : List Str := ["_law_script", "_law_names_here", "_law_wishes", "_law_rooms", "_law_shelves", "_law_own", "_law_told", "_law_k", "_law_name", "_law_which", "_law_due", "_law_room"]
theorem sc_k03 : FnScope nK03 ["_law_script"] (defScope s_law) := ⟨rfl, rfl, rfl, by decide +kernel, rfl, by decide +kernel, by decide +kernel⟩
theorem mergeM (lo lm : Addr) (rd : Int) : mergeK [] (ownM lo lm rd) = ownM lo lm rd := by kernel_rfl
theorem extM_ok (d : Addr) (rd : Int) : ExtOk (extM d rd) := ⟨by kernel_rfl, by kernel_rfl, by kernel_rfl, by kernel_rfl, by kernel_rfl, by kernel_rfl⟩
theorem mkOk_nil {n : Int} (h : 1 ≤ n) : MkOk n [] [] := ⟨by simp; omega, List.nodup_nil, List.nodup_nil, fun _ h => absurd h (by simp), fun _ h => absurd h (by simp)⟩
theorem ok_k03 {f C CO CC CS : Addr} {fd : FuncData} {k0 : Nat} (F : FnP K "law" "law" s_law f fd)
    (T : ClsT K C) (I : InsT K C) (i1 : PySem.W.kitOne K (.ref C) (.ref CS) = some true) (i2 : PySem.W.kitOne K (.ref C) (.ref CC) = some false) (i3 : PySem.W.kitOne K (.ref C) (.ref CO) = some false)
    (mS : mg "Shelf" = some (.ref CS)) (mC : mg "Cold" = some (.ref CC)) (mO : mg "Old" = some (.ref CO))
    (hisi : mg "isinstance" = none) (hint : mg "int" = none) (henum : mg "enumerate" = none) (hrange : mg "range" = none)
    (GMx : Glob P w K mg base CX0 (k0 + 4) "_law_mixed" ["_law_cell", "_law_k"] spMixed) (GD : Glob P w K mg base CX0 (k0 + 4) "_law_drawn" ["_law_script", "_law_most"] (spDrawn K (tbOf K))) (GP : Glob P w K mg base CX0 (k0 + 4) "_law_places" ["_law_script", "_law_k"] (spPlaces K (tbOf K)))
    (GL : Glob P w K mg base CX0 (k0 + 4) "_law_marked" ["_law_own", "_law_name", "_law_places_here"] (spLMarked (tbOf K))) (GI : Glob P w K mg base CX0 (k0 + 4) "_law_is_pair" ["_law_found", "_law_due"] spIsPair)
    (GC : Glob P w K mg base CX0 (k0 + 4) "_law_counts_right" ["_law_shelf", "_law_own", "_law_told"] (spCounts (tbOf K) C)) (GR : Glob P w K mg base CX0 (k0 + 4) "_law_marks_right" ["_law_shelf", "_law_own"] (spMR (tbOf K) C))
    (MO : MakeOk P w K mg base CX0 (k0 + 3) "Marked" C ["self", "places"] (spInitM (tbOf K) C)) (MW : MethOk P w K mg base CX0 (k0 + 4) C "wish" ["self", "name"] (spWishM (tbOf K) C))
    (MP : MethOk P w K mg base CX0 (k0 + 4) C "places" ["self"] (spInt C fun n _ _ => n)) :
    FnOk P w K mg base CX0 (k0 + 5) f fd ["_law_script"] (spLaw K) := by
  refine ok0 F sc_k03 (fun vs H Q E h => ?_) (fun cdv A outer s H vs Q E hr h => ?_)
  · obtain ⟨a, ns, rfl, _⟩ := h
    rfl
  · obtain ⟨sa, ns, rfl, hS, hlen, tab, q⟩ := h
    have hu := hu_of hr
    refine ⟨_, pss_cons (ps_asg (pe_callG GD hr (by rfl) pass0 (pa_cons (pv 0) (pa_cons pe_int pa_nil))) (pg_tup rfl (pgs_cons (pg_name (i := 1) sc_k03.nd rfl (Or.inl rfl)) (pgs_cons (pg_name (i := 2) sc_k03.nd rfl (Or.inl rfl)) pgs_nil))))
      (pss_cons (ps_set (i := 3) sc_k03.nd rfl (.inl rfl) (pe_lst (pa_cons (pe_callG GP hr (by rfl) pass0 (pa_cons (pv 0) (pa_cons pe_int pa_nil))) (pa_cons (pe_callG GP hr (by rfl) pass0 (pa_cons (pv 0) (pa_cons pe_int pa_nil))) pa_nil))))
      (pss_cons (ps_setLc (i := 4) (own := [("_law_room", 11)]) (g := gName 11) (tt := tYes) rfl sc_k03.nd rfl rfl (sw_true rfl rfl rfl (by decide +kernel)) (pi_list (pv 3)) (blkOk_by (N := nK03) (sc := defScope s_law) (by decide +kernel))
            (fun _ _ _ _ _ => pg_name (i := 11) sc_k03.nd rfl (Or.inl rfl)) (fun _ _ _ _ _ => pts_nil) (fun _ _ _ _ _ => pe_makeG MO hr (by rfl) pass0 (pa_cons (pv 11) pa_nil)))
      (pss_cons (ps_set (i := 5) sc_k03.nd rfl (.inl rfl) (pe_lst (pa_cons (pe_disp (pps_cons pe_str (pe_lst pa_nil) (pps_cons pe_str (pe_lst pa_nil) (pps_cons pe_str pe_int pps_nil))) (by rfl) (by rfl) (fun z => by cases z) (by decide)) (pa_cons (pe_disp (pps_cons pe_str (pe_lst pa_nil) (pps_cons pe_str (pe_lst pa_nil) (pps_cons pe_str pe_int pps_nil))) (by rfl) (by rfl) (fun z => by cases z) (by decide)) pa_nil))))
      (pss_cons (ps_set (i := 6) sc_k03.nd rfl (.inl rfl) (pe_lst (pa_cons (pe_lst pa_nil) (pa_cons (pe_lst pa_nil) pa_nil))))
      (pss_cons (ps_if (PW.pt (pw_or (pt_not (pt_val (pe_callB call_isi (by rfl) hisi (by decide +kernel) (pa_cons (pe_ix ix_list (pv 4) pe_int (fun _ _ => rfl)) (pa_cons (pe_glob (v := .ref CS) (by rfl) mS rfl) pa_nil)))))
          (pw_or1 (pt_val (pe_callB call_isiT (by rfl) hisi (by decide +kernel) (pa_cons (pe_ix ix_list (pv 4) pe_int (fun _ _ => rfl)) (pa_cons (pe_tup (pa_cons (pe_glob (v := .ref CC) (by rfl) mC rfl) (pa_cons (pe_glob (v := .ref CO) (by rfl) mO rfl) pa_nil))) pa_nil))))))) (pss_one (ps_ret pe_bl)) pss_nil)
      (pss_cons (ps_for PassesOwn.never rfl (pi_enum (by rfl) henum (pa_cons (pv 2) pa_nil)) (pg_tup rfl (pgs_cons (pg_name (i := 7) sc_k03.nd rfl (Or.inl rfl)) (pgs_cons (pg_name (i := 8) sc_k03.nd rfl (Or.inl rfl)) pgs_nil)))
        (pss_cons (ps_set (i := 9) sc_k03.nd rfl (.inl rfl) (pe_callTy call_int1 (by rfl) hint (by decide +kernel) (pa_cons (pe_cmpR op_eq (pe_op op_mod (pe_callG GMx hr (by rfl) pass0 (pa_cons (pe_ix ix_list (pv 0) (pv 7) (fun _ _ => rfl)) (pa_cons (pe_op op_add (pv 7) pe_int) pa_nil))) pe_int) pe_int (nomark _)) pa_nil)))
        (pss_cons (ps_set (i := 10) sc_k03.nd rfl (.inl rfl) (pe_callG GL hr (by rfl) pass0 (pa_cons (pe_ix ix_list (pv 5) (pv 9) (fun _ _ => rfl)) (pa_cons (pv 8) (pa_cons (pe_ix ix_list (pv 3) (pv 9) (fun _ _ => rfl)) pa_nil)))))
        (pss_cons (ps_if (pt_not (pt_val (pe_callG GI hr (by rfl) pass0 (pa_cons (pe_methG (pe_ix ix_list (pv 4) (pv 9) (fun _ _ => rfl)) MW hr pass0 (pa_cons (pv 8) pa_nil)) (pa_cons (pv 10) pa_nil))))) (pss_one (ps_ret pe_bl)) pss_nil)
        (pss_cons (ps_expr (pe_bm PySem.F.plainAttrs_list PySem.F.slot_list_append PySem.F.type_list_append mt_append (pe_ix ix_list (pv 6) (pv 9) (fun _ _ => rfl)) (pa_cons (pe_ix ix_tup (pv 10) pe_int (fun _ _ => rfl)) pa_nil)))
        (C8.pss_cut (ps_if (PW.pt (pw_and (pt_cmpR op_eq (pe_op op_mod (pv 7) pe_int) pe_int (nomark _)) (pw_and1 (pt_not (pt_val (pe_callG GC hr (by rfl) pass0 (pa_cons (pe_ix ix_list (pv 4) (pv 9) (fun _ _ => rfl)) (pa_cons (pe_ix ix_list (pv 5) (pv 9) (fun _ _ => rfl)) (pa_cons (pe_ix ix_list (pv 6) (pv 9) (fun _ _ => rfl)) pa_nil)))))))))
            (pss_one (ps_ret pe_bl)) pss_nil)
        (pss_one (ps_if (pt_not (pt_val (pe_callG GR hr (by rfl) pass0 (pa_cons (pe_ix ix_list (pv 4) (pe_op op_mod (pv 7) pe_int) (fun _ _ => rfl)) (pa_cons (pe_ix ix_list (pv 5) (pe_op op_mod (pv 7) pe_int) (fun _ _ => rfl)) pa_nil))))) (pss_one (ps_ret pe_bl)) pss_nil))))))))
      (pss_cons (ps_for PassesOwn.never rfl (pi_range1 (by rfl) hrange (pa_cons pe_int pa_nil)) (pg_name (i := 9) sc_k03.nd rfl (Or.inl rfl))
        (pss_cons (ps_if (PW.pt (pw_or (pt_cmpR op_ne (pe_meth0G (pe_ix ix_list (pv 4) (pv 9) (fun _ _ => rfl)) MP hr pass0) (pe_ix ix_list (pv 3) (pv 9) (fun _ _ => rfl)) (nomark _))
            (pw_or1 (pt_not (pt_val (pe_callG GR hr (by rfl) pass0 (pa_cons (pe_ix ix_list (pv 4) (pv 9) (fun _ _ => rfl)) (pa_cons (pe_ix ix_list (pv 5) (pv 9) (fun _ _ => rfl)) pa_nil)))))))) (pss_one (ps_ret pe_bl)) pss_nil)
        (pss_one (ps_if (pt_not (pt_val (pe_callG GC hr (by rfl) pass0 (pa_cons (pe_ix ix_list (pv 4) (pv 9) (fun _ _ => rfl)) (pa_cons (pe_ix ix_list (pv 5) (pv 9) (fun _ _ => rfl)) (pa_cons (pe_ix ix_list (pv 6) (pv 9) (fun _ _ => rfl)) pa_nil)))))) (pss_one (ps_ret pe_bl)) pss_nil))))
      (pss_one (ps_ret pe_bl))))))))), ?_⟩
    -- names, wishes
    refine ⟨_, rfl, _, _, 12, rfl, hS, hlen, by decide, by decide, fun zs ws t pz pw H1 hz0 hz26 _ hzn hwl hws k1 fz fw ft nzw et ez ew => ?_⟩
    refine ⟨t, _, rfl, SqT.of et, rfl, _, _, rfl, _, _, rfl, rfl, ?_⟩
    have tab1 := k1.tab tab
    have hS1 := k1.seq hS
    -- rooms
    refine ⟨_, rfl, sa, ns, 0, rfl, hS1, by omega, by decide, by decide, fun r0 H2 r00 r01 k2 => ?_⟩
    refine ⟨_, rfl, sa, ns, 1, rfl, k2.seq hS1, by omega, by decide, by decide, fun r1 H3 r10 r11 k3 => ?_⟩
    refine ⟨by show 2 ≤ sizeLine; decide, fun rl hrl => ?_⟩
    obtain ⟨n, hn, hn1, hn20⟩ : ∃ n : Bool → Int, [V.int r0, V.int r1] = pick2 (fun b => V.int (n b)) ∧ (∀ b, 1 ≤ n b) ∧ ∀ b, n b ≤ 20 := ⟨fun b => if b then r1 else r0, rfl, fun b => by cases b <;> assumption, fun b => by cases b <;> assumption⟩
    rw [hn]
    have hrl1 : H1 rl = none := k2.free _ (k3.free _ hrl)
    have k4 : Kp (tbOf K) [] H1 (upd H3 rl (.lst (pick2 fun b => V.int (n b)))) := (k2.trans k3).step hrl
    have g4 : (upd H3 rl (.lst (pick2 fun b => V.int (n b)))) rl = some (.lst (pick2 fun b => V.int (n b))) := upd_same
    generalize upd H3 rl (.lst (pick2 fun b => V.int (n b))) = H4 at k4 g4 ⊢
    have al4 : Al H4 [rl] := (Al.nil H4).add g4 (by simp)
    -- shelves
    refine ⟨_, rfl, rl, rfl, ⟨_, SqL.of g4⟩, fun sl hsl => ?_⟩
    refine lc_it (n := 2) (walk_list (K := K) (a := rl) (xs := pick2 fun b => V.int (n b))) (fun i H' => Kp (tbOf K) [] H4 H' ∧ match i with
        | 0 => H' sl = some (.lst []) ∧ Al H' [sl, rl]
        | 1 => ∃ p0 l0 m0, H4 p0 = none ∧ H4 l0 = none ∧ H4 m0 = none ∧ H' sl = some (.lst [.ref p0]) ∧ MkAt C H' p0 (n false) l0 [] 0 0 m0 [] 0 ∧ Al H' [m0, p0, l0, sl, rl]
        | _ => ∃ p0 l0 m0 p1 l1 m1, H4 p0 = none ∧ H4 l0 = none ∧ H4 m0 = none ∧ H4 p1 = none ∧ H4 l1 = none ∧ H4 m1 = none ∧ H' sl = some (.lst [.ref p0, .ref p1]) ∧ MkAt C H' p0 (n false) l0 [] 0 0 m0 [] 0 ∧ MkAt C H' p1 (n true) l1 [] 0 0 m1 [] 0 ∧ Al H' [m1, p1, l1, m0, p0, l0, sl, rl])
      ⟨Kp.new hsl, upd_same, al4.upd hsl⟩ (fun i H' _ h => SqL.of (h.1.get g4)) ?_ ?_
    · rintro i x H5 H6 hi ⟨k5, inv⟩ ⟨rfl, hx⟩
      have fin : ∀ (b : Bool) (acc : List V) (L : List Addr), H6 sl = some (.lst acc) → acc.length ≤ 2 → Al H6 L → sl ∈ L → ∀ (x dx l m : Addr) (H' : Hp), H6 x = none → H6 dx = none → (upd (upd H6 dx (.own x)) x (.ins C dx [])) l = none → (upd (upd H6 dx (.own x)) x (.ins C dx [])) m = none → l ≠ m → MkAt C H' x (n b) l [] 0 0 m [] 0 → Kp (tbOf K) [x] (upd (upd H6 dx (.own x)) x (.ins C dx [])) H' →
          H' sl = some (.lst acc) ∧ acc.length < sizeLine ∧ Kp (tbOf K) [] H4 (upd H' sl (.lst (acc ++ [.ref x]))) ∧ Kp (tbOf K) [sl] H6 (upd H' sl (.lst (acc ++ [.ref x]))) ∧ MkAt C (upd H' sl (.lst (acc ++ [.ref x]))) x (n b) l [] 0 0 m [] 0 ∧ H4 x = none ∧ H4 l = none ∧ H4 m = none ∧ Al (upd H' sl (.lst (acc ++ [.ref x]))) (m :: x :: l :: L) := by
        intro b acc L hacc hal hL hsL x dx l m H' hx hdx hl hm hlm hmk kp
        have k6 : Kp (tbOf K) [] H6 H' := Kp.made hx hdx kp
        have hl6 : H6 l = none := free_upd (free_upd hl)
        have hm6 : H6 m = none := free_upd (free_upd hm)
        have nxl : x ≠ l := fun e => by rw [← e, upd_same] at hl; cases hl
        have nxm : x ≠ m := fun e => by rw [← e, upd_same] at hm; cases hm
        have nxs : x ≠ sl := (ne_of_none hacc hx).symm
        have nls : l ≠ sl := (ne_of_none hacc hl6).symm
        have nms : m ≠ sl := (ne_of_none hacc hm6).symm
        have hacc' : H' sl = some (.lst acc) := k6.get hacc
        obtain ⟨⟨dx', hob⟩, hls⟩ := id hmk.sh
        refine ⟨hacc', small_of (m := 2) hal, (k5.trans k6).own hsl hacc', k6.nil.trans (Kp.put hacc'), hmk.kp (Kp.put (S := [sl]) (tb := tbOf K) hacc') (by simp [nxs]) (by simp [nls]) (by simp [nms]), k5.free _ hx, k5.free _ hl6, k5.free _ hm6, ?_⟩
        have a1 : Al H' (l :: L) := hL.new hl6 k6 hls
        have a2 : Al H' (x :: l :: L) := a1.add hob (fun z => by
          rcases List.mem_cons.mp z with z | z
          · exact nxl z
          · exact hL.fresh hx z)
        have a3 : Al H' (m :: x :: l :: L) := a2.add hmk.mkd (fun z => by
          rcases List.mem_cons.mp z with z | z
          · exact nxm z.symm
          · rcases List.mem_cons.mp z with z | z
            · exact hlm z.symm
            · exact hL.fresh hm6 z)
        exact a3.kp (Kp.put (S := [sl]) (tb := tbOf K) hacc')
      rcases i with _ | _ | i
      · obtain ⟨hs, al⟩ := inv
        cases hx
        refine ⟨rfl, _, rfl, fun x dx hx hdx _ => ⟨x, dx, n false, rfl, hn1 _, hn20 _, upd_same, fun l m H' hl hm hlm hmk kp => ⟨rfl, ?_⟩⟩⟩
        obtain ⟨f1, f2, f3, f4, f5, f7, f8, f9, f6⟩ := fin false [] _ hs (by decide) al (by simp) x dx l m H' hx hdx hl hm hlm hmk kp
        exact ⟨_, f1, f2, f3, x, l, m, f7, f8, f9, upd_same, f5, f6⟩
      · obtain ⟨p0, l0, m0, fp, fl, fm, hs, sh0, al⟩ := inv
        cases hx
        refine ⟨rfl, _, rfl, fun x dx hx hdx _ => ⟨x, dx, n true, rfl, hn1 _, hn20 _, upd_same, fun l m H' hl hm hlm hmk kp => ⟨rfl, ?_⟩⟩⟩
        obtain ⟨f1, f2, f3, f4, f5, f7, f8, f9, f6⟩ := fin true [.ref p0] _ hs (by show 1 ≤ 2; decide) al (by simp) x dx l m H' hx hdx hl hm hlm hmk kp
        have nd := al.1
        simp only [List.nodup_cons, List.mem_cons, List.not_mem_nil, or_false, not_or] at nd
        exact ⟨_, f1, f2, f3, p0, l0, m0, x, l, m, fp, fl, fm, f7, f8, f9, upd_same, sh0.kp f4 (by simp [nd]) (by simp [nd]) (by simp [nd]), f5, f6⟩
      · simp [pick2] at hx
    · rintro H5 ⟨k5, p0, l0, m0, p1, l1, m1, fp0, fl0, fm0, fp1, fl1, fm1, hs5, sh0, sh1, al5⟩
      -- own
      have mk : ∀ (Hx : Hp) (L : List Addr), Al Hx L → ∀ d0 : Addr, Hx d0 = none → ∀ lo0 : Addr, upd Hx d0 (.dK []) lo0 = none → ∀ lm0 : Addr, upd (upd Hx d0 (.dK [])) lo0 (.lst []) lm0 = none →
          (upd (upd (upd Hx d0 (.dK [])) lo0 (.lst [])) lm0 (.lst [])) d0 = some (.dK []) ∧ Kp (tbOf K) [] Hx (upd (upd (upd (upd Hx d0 (.dK [])) lo0 (.lst [])) lm0 (.lst [])) d0 (.dK (ownM lo0 lm0 0))) ∧
          Al (upd (upd (upd (upd Hx d0 (.dK [])) lo0 (.lst [])) lm0 (.lst [])) d0 (.dK (ownM lo0 lm0 0))) (lm0 :: lo0 :: d0 :: L) ∧ (upd (upd (upd (upd Hx d0 (.dK [])) lo0 (.lst [])) lm0 (.lst [])) d0 (.dK (ownM lo0 lm0 0))) d0 = some (.dK (ownM lo0 lm0 0)) ∧
          (upd (upd (upd (upd Hx d0 (.dK [])) lo0 (.lst [])) lm0 (.lst [])) d0 (.dK (ownM lo0 lm0 0))) lo0 = some (.lst []) ∧ (upd (upd (upd (upd Hx d0 (.dK [])) lo0 (.lst [])) lm0 (.lst [])) d0 (.dK (ownM lo0 lm0 0))) lm0 = some (.lst []) ∧
          Hx lo0 = none ∧ Hx lm0 = none := by
        intro Hx L al d0 hd0 lo0 hlo0 lm0 hlm0
        have n1 : d0 ≠ lo0 := ne_of_none upd_same hlo0
        have n2 : d0 ≠ lm0 := fun e => by rw [← e, upd_ne n1, upd_same] at hlm0; cases hlm0
        have n3 : lo0 ≠ lm0 := fun e => by rw [← e, upd_same] at hlm0; cases hlm0
        have e1 : (upd (upd (upd Hx d0 (.dK [])) lo0 (.lst [])) lm0 (.lst [])) d0 = some (.dK []) := by rw [upd_ne n2, upd_ne n1, upd_same]
        have k1 : Kp (tbOf K) [] Hx (upd (upd (upd (upd Hx d0 (.dK [])) lo0 (.lst [])) lm0 (.lst [])) d0 (.dK (ownM lo0 lm0 0))) := (((Kp.new hd0).step hlo0).step hlm0).own hd0 e1
        have g1 : (upd (upd (upd (upd Hx d0 (.dK [])) lo0 (.lst [])) lm0 (.lst [])) d0 (.dK (ownM lo0 lm0 0))) lo0 = some (.lst []) := by rw [upd_ne n1.symm, upd_ne n3, upd_same]
        have g2 : (upd (upd (upd (upd Hx d0 (.dK [])) lo0 (.lst [])) lm0 (.lst [])) d0 (.dK (ownM lo0 lm0 0))) lm0 = some (.lst []) := by rw [upd_ne n2.symm, upd_same]
        have f1 : Hx lo0 = none := free_upd hlo0
        have f2 : Hx lm0 = none := free_upd (free_upd hlm0)
        refine ⟨e1, k1, ((al.new hd0 k1 upd_same).add g1 fun z => ?_).add g2 fun z => ?_, upd_same, g1, g2, f1, f2⟩
        · rcases List.mem_cons.mp z with z | z
          · exact n1 z.symm
          · exact al.fresh f1 z
        · rcases List.mem_cons.mp z with z | z
          · exact n3 z.symm
          · rcases List.mem_cons.mp z with z | z
            · exact n2 z.symm
            · exact al.fresh f2 z
      refine fun d0 hd0 => ⟨Nat.zero_le _, fun lo0 hlo0 => ⟨Nat.zero_le _, fun lm0 hlm0 => ?_⟩⟩
      obtain ⟨e6, k6, al6, gd0, gl0, gw0, flo0, flm0⟩ := mk H5 _ al5 d0 hd0 lo0 hlo0 lm0 hlm0
      refine ⟨e6, ownM lo0 lm0 0, rfl, by show 3 ≤ 15; decide, ?_⟩
      rw [mergeM]
      generalize upd (upd (upd (upd H5 d0 (.dK [])) lo0 (.lst [])) lm0 (.lst [])) d0 (.dK (ownM lo0 lm0 0)) = H6 at k6 gd0 gl0 gw0 al6 ⊢
      refine fun d1 hd1 => ⟨Nat.zero_le _, fun lo1 hlo1 => ⟨Nat.zero_le _, fun lm1 hlm1 => ?_⟩⟩
      obtain ⟨e7, k7, al7, gd1, gl1, gw1, flo1, flm1⟩ := mk H6 _ al6 d1 hd1 lo1 hlo1 lm1 hlm1
      refine ⟨e7, ownM lo1 lm1 0, rfl, by show 3 ≤ 15; decide, ?_⟩
      rw [mergeM]
      generalize upd (upd (upd (upd H6 d1 (.dK [])) lo1 (.lst [])) lm1 (.lst [])) d1 (.dK (ownM lo1 lm1 0)) = H7 at k7 gd1 gl1 gw1 al7 ⊢
      refine ⟨by show 2 ≤ sizeLine; decide, fun ol hol => ?_⟩
      have k8 : Kp (tbOf K) [] H7 (upd H7 ol (.lst [.ref d0, .ref d1])) := Kp.new hol
      have gol : (upd H7 ol (.lst [.ref d0, .ref d1])) ol = some (.lst [.ref d0, .ref d1]) := upd_same
      have al8 := al7.upd (o := .lst [.ref d0, .ref d1]) hol
      generalize upd H7 ol (.lst [.ref d0, .ref d1]) = H8 at k8 gol al8 ⊢
      -- told
      refine ⟨Nat.zero_le _, fun a0 ha0 => ⟨Nat.zero_le _, fun a1 ha1 => ⟨by show 2 ≤ sizeLine; decide, fun tl htl => ?_⟩⟩⟩
      have k9 : Kp (tbOf K) [] H8 (upd H8 a0 (.lst [])) := Kp.new ha0
      have ga0 : (upd H8 a0 (.lst [])) a0 = some (.lst []) := upd_same
      have al9 := al8.upd (o := .lst []) ha0
      generalize upd H8 a0 (.lst []) = H9 at k9 ga0 al9 ha1 htl ⊢
      have k10 : Kp (tbOf K) [] H9 (upd H9 a1 (.lst [])) := Kp.new ha1
      have ga1 : (upd H9 a1 (.lst [])) a1 = some (.lst []) := upd_same
      have al10 := al9.upd (o := .lst []) ha1
      generalize upd H9 a1 (.lst []) = H10 at k10 ga1 al10 htl ⊢
      have k11 : Kp (tbOf K) [] H10 (upd H10 tl (.lst [.ref a0, .ref a1])) := Kp.new htl
      have gtl : (upd H10 tl (.lst [.ref a0, .ref a1])) tl = some (.lst [.ref a0, .ref a1]) := upd_same
      have al11 := al10.upd (o := .lst [.ref a0, .ref a1]) htl
      generalize upd H10 tl (.lst [.ref a0, .ref a1]) = H11 at k11 gtl al11 ⊢
      -- everything by a truth
      have kk8 : Kp (tbOf K) [] H8 H11 := k9.trans (k10.trans k11)
      have kk5 : Kp (tbOf K) [] H5 H11 := k6.trans (k7.trans (k8.trans kk8))
      have kk1 : Kp (tbOf K) [] H1 H11 := k4.trans (k5.trans kk5)
      obtain ⟨hoth, hfix, hself⟩ := disj7 al11.1
      have hnone : ∀ b, ∀ x ∈ ow3 (sel p0 p1) (sel l0 l1) (sel d0 d1) (sel lo0 lo1) (sel a0 a1) (sel m0 m1) (sel lm0 lm1) b, H1 x = none := by
        intro b x hx
        have f5 : ∀ {x}, H5 x = none → H1 x = none := fun e => k4.free _ (k5.free _ e)
        have f8 : ∀ {x}, H8 x = none → H1 x = none := fun e => f5 (k6.free _ (k7.free _ (k8.free _ e)))
        simp only [List.mem_cons, List.not_mem_nil, or_false] at hx
        cases b <;> rcases hx with e | e | e | e | e | e | e <;> subst e
        · exact k4.free _ fp0
        · exact k4.free _ fl0
        · exact f8 ha0
        · exact f5 hd0
        · exact f5 flo0
        · exact k4.free _ fm0
        · exact f5 flm0
        · exact k4.free _ fp1
        · exact k4.free _ fl1
        · exact f8 (k9.free _ ha1)
        · exact f5 (k6.free _ hd1)
        · exact f5 (k6.free _ flo1)
        · exact k4.free _ fm1
        · exact f5 (k6.free _ flm1)
      have hone : ∀ b, One3 C H11 (sel p0 p1 b) (sel l0 l1 b) (sel m0 m1 b) (sel d0 d1 b) (sel lo0 lo1 b) (sel lm0 lm1 b) (sel a0 a1 b) (n b) [] [] [] 0 [] := by
        intro b
        cases b
        · exact ⟨sh0.kp kk5, kk8.get (k8.get (k7.get gd0)), kk8.get (k8.get (k7.get gl0)), kk8.get (k8.get (k7.get gw0)), k11.get (k10.get ga0), mkOk_nil (hn1 _), List.Perm.refl _⟩
        · exact ⟨sh1.kp kk5, kk8.get (k8.get gd1), kk8.get (k8.get gl1), kk8.get (k8.get gw1), k11.get ga1, mkOk_nil (hn1 _), List.Perm.refl _⟩
      have hrl' : H11 rl = some (.lst (pick2 fun b => V.int (n b))) := kk5.get (k5.get g4)
      have hsl' : H11 sl = some (.lst (pick2 fun b => V.ref (sel p0 p1 b))) := kk5.get hs5
      have hol' : H11 ol = some (.lst (pick2 fun b => V.ref (sel d0 d1 b))) := kk8.get gol
      have htl' : H11 tl = some (.lst (pick2 fun b => V.ref (sel a0 a1 b))) := gtl
      have W11 : Wld3 C (tbOf K) H1 rl sl ol tl (sel p0 p1) (sel l0 l1) (sel d0 d1) (sel lo0 lo1) (sel a0 a1) n (sel m0 m1) (sel lm0 lm1) (fun _ => []) (fun _ => []) (fun _ => []) (fun _ => 0) (fun _ => []) H11 := ⟨hone, hrl', hsl', hol', htl', kk1, hnone, hoth, hfix, hself⟩
      clear hone hrl' hsl' hol' htl' hoth hfix hself hnone
      generalize sel p0 p1 = p at *
      generalize sel l0 l1 = l at *
      generalize sel d0 d1 = d at *
      generalize sel lo0 lo1 = lo at *
      generalize sel a0 a1 = a at *
      generalize sel m0 m1 = dm at *
      generalize sel lm0 lm1 = lm at *
      clear sh0 sh1 al5 al6 al7 al8 al9 al10 al11 gd0 gd1 gl0 gl1 ga0 ga1 gw0 gw1 mk
      obtain ⟨⟨dx0, hp0⟩, _⟩ := (W11.one false).sh.sh
      -- isinstance
      refine ⟨_, rfl, sl, _, 0, _, rfl, rfl, SqL.of W11.hs, at2 (fun b => V.ref (p b)) false, _, _, _, _, true, rfl, .own _, .base (.ins hp0 T.cl I.ha I.hn I.htk I.hm), i1, _, rfl, iteF ?_⟩
      refine ⟨_, rfl, sl, _, 0, _, rfl, rfl, SqL.of W11.hs, at2 (fun b => V.ref (p b)) false, by show 2 ≤ sizeLine; decide, fun tp htp => ?_⟩
      have W12 := W11.keep (Kp.new (o := .tup [.ref CC, .ref CO]) htp)
      have hp12 := (Kp.new (tb := tbOf K) (S := []) (o := .tup [.ref CC, .ref CO]) htp).get hp0
      refine ⟨_, tp, _, _, _, false, rfl, upd_same, .cons (.own _) (.cons (.own _) .nil), .base (.ins hp12 T.cl I.ha I.hn I.htk I.hm), kit2 i2 i3, _, rfl, iteF ?_⟩
      generalize upd H11 tp (.tup [.ref CC, .ref CO]) = H12 at W12 ⊢
      -- the wishes
      refine ⟨_, rfl, pw, _, rfl, SqL.of (W12.kp.get ew), ?_⟩
      refine for_it walk_enum (fun i σ H' => ∃ (dm lm : Bool → Addr) (row marks lw : Bool → List Str) (rd : Bool → Int) (ts : Bool → List Bool) (v7 v8 v9 v10 : Option V), σ = [some (.ref sa), some (.ref pz), some (.ref pw), some (.ref rl), some (.ref sl), some (.ref ol), some (.ref tl), v7, v8, v9, v10, none] ∧
        (∀ b, (ts b).length ≤ i) ∧ Wld3 C (tbOf K) H1 rl sl ol tl p l d lo a n dm lm row marks lw rd ts H') ⟨_, _, _, _, _, _, _, none, none, none, none, rfl, fun b => Nat.le_refl _, W12⟩
        (fun i σ H' _ ⟨_, _, _, _, _, _, _, _, _, _, _, _, _, W⟩ => SqL.of (W.kp.get ew)) ?_ ?_
      · rintro i x σ H13 H14 hi ⟨dm, lm, row, marks, lw, rd, ts, v7, v8, v9, v10, rfl, hts, W⟩ ⟨Tp, x1, x2, rfl, nT, rfl, e1, e2⟩
        cases e1
        obtain ⟨z, hz, rfl⟩ := get_mapS e2
        rw [List.length_map] at hi
        have hzn' : IsName z := hzn z (hws z (List.mem_of_getElem? hz))
        have W14 := W.keep (Kp.new (o := .tup [.int (i : Nat), .str z]) nT)
        refine ⟨Tp, _, rfl, SqT.of upd_same, rfl, _, _, rfl, _, _, rfl, rfl, ?_⟩
        generalize upd H13 Tp (.tup [.int (i : Nat), .str z]) = H14 at W14 ⊢
        -- which
        have hin : i < ns.length := by omega
        refine ⟨_, rfl, _, rfl, sa, _, _, _, rfl, rfl, W14.kp.seq hS1, at_of (j := i) rfl (by rw [List.getElem?_map, List.getElem?_eq_getElem hin]; rfl), ?_⟩
        refine ⟨_, rfl, _, _, rfl, rfl, _, _, rfl, by omega, by omega, fun r r0 r1 => ?_⟩
        refine ⟨_, _, rfl, rfl, (by show (0 : Int) < 4; decide), rfl, .inr ⟨_, rfl, ?_⟩⟩
        generalize decide ((fun i j => V.int (i % j)) r 4 = V.int 1) = b
        have hbb : ∀ (Q' : V → Prop), Q' (V.int (b01 b)) → Q' (V.int (if b = true then 1 else 0)) := fun _ h => h
        refine hbb (fun v => gName 9 v _ _ _) ?_
        have hf := W14.fxd b
        have hno := W14.late b
        have hself := W14.self b
        simp only [List.nodup_cons, List.mem_cons, List.not_mem_nil, or_false, not_or] at hself
        obtain ⟨⟨npl, npa, npd, npo, npm, npw⟩, ⟨nla, nld, nlo, nlm, nlw⟩, ⟨nad, nao, nam, naw⟩, ⟨ndo, ndm, ndw⟩, ⟨nom, now⟩, nmw, _⟩ := hself
        have al14 := (W14.one b).al
        obtain ⟨sh, hd, hlo, hlm, ha, hok, hpm⟩ := W14.one b
        -- due
        refine ⟨_, rfl, _, rfl, ol, _, _, _, rfl, rfl, SqL.of W14.ho, at2 _ b, _, rfl, _, rfl, _, rfl, rl, _, _, _, rfl, rfl, SqL.of W14.hr, at2 _ b, ?_⟩
        refine ⟨d b, lo b, lm b, z, n b, rd b, row b, marks b, lw b, rfl, hd, hlo, hlm, now, hpm, hok, hn1 b, hn20 b, fun t2 lm' H15 lw' ft2 flm' ntl et2 hd15 hlo15 hlm15 hpm' k15 => ?_⟩
        -- the shelf's wish
        have k15' : Kp (tbOf K) (ow3 p l d lo a dm lm b) H14 H15 := k15.mono (by simp)
        have sh15 := sh.kp k15 (by simp [npd, npo]) (by simp [nld, nlo]) (by simp [Ne.symm ndm, Ne.symm nom])
        obtain ⟨dx, hp⟩ := sh15.sh.ob
        refine ⟨_, rfl, _, rfl, sl, _, _, _, rfl, rfl, SqL.of (k15'.get W14.hs rfl (hf _ (by simp))), at2 _ b, p b, dx, _, rfl, hp, by rw [oF_wish, extM_wish], _, rfl, ?_⟩
        refine ⟨p b, l b, dm b, n b, _, _, rd b, z, row b, marks b, rfl, sh15, hok, hn1 b, hn20 b, hzn', (W14.kp.transN k15' hno).tab tab1, fun t3 dm' H16 sh16 hdm' ntm k16 ft3 et3 => ?_⟩
        have k16' : Kp (tbOf K) (ow3 p l d lo a dm lm b) H15 H16 := k16.mono (by simp)
        have est := stepM_ok (rd := rd b) (z := z) hok (hn1 b) hzn'
        have ego := stepM_gone (rd := rd b) (z := z) hok (hn1 b)
        generalize stepM (n b) (row b) (marks b) (rd b) z = st at *
        obtain ⟨met, gone, row', marks', rd'⟩ := st
        have nfr : ∀ {x y : Addr}, x ∈ [p b, l b, a b, d b, lo b, dm b, lm b] → H14 y = none → y ≠ x := fun hx hy e => al14 _ hx (by rw [← e]; exact hy)
        have et2' : H16 t2 = some (.tup [.bl met, optV gone]) := k16.get et2 rfl (by
          simp only [List.mem_cons, List.not_mem_nil, or_false, not_or]
          exact ⟨nfr (by simp) ft2, nfr (by simp) ft2, nfr (by simp) ft2⟩)
        have hlm16 : H16 lm' = some (.lst (lw'.map V.str)) := k16.get hlm15 rfl (by
          simp only [List.mem_cons, List.not_mem_nil, or_false, not_or]
          exact ⟨nfr (by simp) flm', nfr (by simp) flm', nfr (by simp) flm'⟩)
        have hlo16 : H16 (lo b) = some (.lst (row'.map V.str)) := k16.get hlo15 rfl (by simp [Ne.symm npo, Ne.symm nlo, nom])
        have hd16 : H16 (d b) = some (.dK (ownM (lo b) lm' rd')) := k16.get hd15 rfl (by simp [Ne.symm npd, Ne.symm nld, ndm])
        have ndmlm : dm' ≠ lm' := by
          rcases hdm' with e | e
          · rw [e]; exact (nfr (by simp) flm').symm
          · exact (ne_of_none hlm15 e).symm
        have nadm : a b ≠ dm' := by
          rcases hdm' with e | e
          · rw [e]; exact nam
          · exact ne_of_none (k15.get ha rfl (by simp [nad, nao])) e
        refine ⟨_, rfl, t3, t2, met, gone, rfl, et3, et2', fun g hg => isName_ok (ego g hg), _, rfl, iteF ?_⟩
        -- told
        have k146 := k15'.trans k16'
        have ha16 : H16 (a b) = some (.lst ((ts b).map V.bl)) := k16.get (k15.get ha rfl (by simp [nad, nao])) rfl (by simp [Ne.symm npa, Ne.symm nla, nam])
        refine ⟨_, rfl, _, rfl, tl, _, _, _, rfl, rfl, SqL.of (k146.get W14.ht rfl (hf _ (by simp))), at2 _ b, .inl ⟨rfl, _, SqL.of ha16⟩, _, rfl, t2, _, 0, _, rfl, rfl, SqT.of et2', atI_zero _ _, ?_⟩
        refine ⟨a b, _, _, rfl, rfl, ha16, by rw [List.length_map]; exact small_of (m := 63) (by have := hts b; omega), ?_⟩
        have k17 : Kp (tbOf K) [a b] H16 (upd H16 (a b) (.lst ((ts b).map V.bl ++ [.bl met]))) := Kp.put ha16
        have k17' : Kp (tbOf K) (ow3 p l d lo a dm lm b) H16 (upd H16 (a b) (.lst ((ts b).map V.bl ++ [.bl met]))) := k17.mono (by simp)
        have ha17 : (upd H16 (a b) (.lst ((ts b).map V.bl ++ [.bl met]))) (a b) = some (.lst ((ts b ++ [met]).map V.bl)) := by rw [upd_same, List.map_append]; rfl
        have hlm17 := k17.get hlm16 rfl (by simp [nfr (x := a b) (by simp) flm'])
        have hlo17 := k17.get hlo16 rfl (by simp [Ne.symm nao])
        have hd17 := k17.get hd16 rfl (by simp [Ne.symm nad])
        have sh17 : MkAt C (upd H16 (a b) (.lst ((ts b).map V.bl ++ [.bl met]))) (p b) (n b) (l b) row' ((ts b ++ [met]).count true : Nat) ((ts b ++ [met]).count false : Nat) dm' marks' rd' := by
          have s1 := sh16.kp k17 (by simp [npa]) (by simp [nla]) (by simp [Ne.symm nadm])
          cases met
          · rw [show (ts b ++ [false]).count true = (ts b).count true by simp, show (ts b ++ [false]).count false = (ts b).count false + 1 by simp]
            exact s1
          · rw [show (ts b ++ [true]).count true = (ts b).count true + 1 by simp, show (ts b ++ [true]).count false = (ts b).count false by simp]
            exact s1
        have W17 := W14.step (k146.trans k17') (hdm'.imp id (fun e => k15.free _ e)) flm' ndmlm ⟨sh17, hd17, hlo17, hlm17, ha17, est, hpm'⟩
        have hts17 : ∀ c, ((upd2 ts b (ts b ++ [met])) c).length ≤ i + 1 := all2 b (by rw [upd2_same, List.length_append]; have := hts b; show (ts b).length + 1 ≤ i + 1; omega) (by rw [upd2_not]; have := hts (!b); omega)
        generalize upd H16 (a b) (.lst ((ts b).map V.bl ++ [.bl met])) = H17 at W17 ⊢
        clear sh17 hlo17 ha17 hlm17 k17 k17' k146 et2' ha16 hd17
        generalize upd2 row b row' = row2 at W17
        generalize upd2 marks b marks' = marks2 at W17
        generalize upd2 lw b lw' = lw2 at W17
        generalize upd2 rd b rd' = rd2 at W17
        generalize upd2 dm b dm' = dm2 at W17
        generalize upd2 lm b lm' = lm2 at W17
        generalize upd2 ts b (ts b ++ [met]) = ts2 at W17 hts17
        -- counts
        have lt64 : ∀ c, (row2 c).length < 64 := fun c => by have := (W17.one c).ok.le; have := hn20 c; omega
        have mt64 : ∀ c, (marks2 c).length < 64 := fun c => by have := subset_len (W17.one c).ok.md (W17.one c).ok.sub; have := lt64 c; omega
        refine ⟨fun σ H' => σ = [some (.ref sa), some (.ref pz), some (.ref pw), some (.ref rl), some (.ref sl), some (.ref ol), some (.ref tl), some (.int (i : Nat)), some (.str z), some (.int (b01 b)), some (.ref t2), none] ∧ Wld3 C (tbOf K) H1 rl sl ol tl p l d lo a n dm2 lm2 row2 marks2 lw2 rd2 ts2 H', ?_, ?_⟩
        · refine ⟨_, rfl, _, _, rfl, rfl, (by show (0 : Int) < 3; decide), rfl, _, rfl, ite2 (fun _ => ?_) (fun _ => ⟨rfl, W17⟩)⟩
          obtain ⟨shc, hdc, hloc, hlmc, hac, hokc, hpmc⟩ := W17.one b
          refine ⟨_, rfl, _, rfl, sl, _, _, _, rfl, rfl, SqL.of W17.hs, at2 _ b, _, rfl, _, rfl, ol, _, _, _, rfl, rfl, SqL.of W17.ho, at2 _ b, _, rfl, _, rfl, tl, _, _, _, rfl, rfl, SqL.of W17.ht, at2 _ b, ?_⟩
          exact ⟨p b, l b, d b, lo b, a b, n b, _, _, row2 b, row2 b, ts2 b, extM (dm2 b) (rd2 b), ownM (lo b) (lm2 b) (rd2 b), rfl, shc.sh, extM_ok _ _, hdc, ownM_o _ _ _, hloc, hac, List.Perm.refl _, lt64 b, hokc.nm, rfl, rfl, fun H' kk => ⟨_, rfl, iteF ⟨rfl, W17.keep kk⟩⟩⟩
        · rintro σ H18 ⟨rfl, W18⟩
          -- the marks
          obtain ⟨c, hc⟩ : ∃ c : Bool, ((i : Nat) : Int) % 2 = b01 c := by
            rcases Nat.mod_two_eq_zero_or_one i with e | e
            · exact ⟨false, by show ((i : Nat) : Int) % 2 = 0; omega⟩
            · exact ⟨true, by show ((i : Nat) : Int) % 2 = 1; omega⟩
          have at2m : ∀ x : Bool → V, atI (pick2 x) (((i : Nat) : Int) % 2) = some (x c) := fun x => by rw [hc]; exact at2 x c
          obtain ⟨shc, hdc, hloc, hlmc, hac, hokc, hpmc⟩ := W18.one c
          refine ⟨_, rfl, _, rfl, _, _, rfl, rfl, (by show (0 : Int) < 2; decide), sl, _, _, _, rfl, rfl, SqL.of W18.hs, at2m _, ?_⟩
          refine ⟨_, rfl, _, rfl, _, _, rfl, rfl, (by show (0 : Int) < 2; decide), ol, _, _, _, rfl, rfl, SqL.of W18.ho, at2m _, ?_⟩
          refine ⟨p c, l c, dm2 c, d c, lm2 c, n c, _, _, rd2 c, row2 c, marks2 c, lw2 c, ownM (lo c) (lm2 c) (rd2 c), rfl, shc, hdc, ownM_m _ _ _, ownM_r _ _ _, hlmc, hpmc, mt64 c, fun y hy => hokc.nm y (hokc.sub y hy), fun H' kk => ⟨_, rfl, iteF ?_⟩⟩
          exact ⟨dm2, lm2, row2, marks2, lw2, rd2, ts2, _, _, _, _, rfl, hts17, W18.keep kk⟩
      · rintro σ H13 ⟨dm, lm, row, marks, lw, rd, ts, v7, v8, v9, v10, rfl, hts, W⟩
        refine ⟨2, rfl, by decide, by decide, ?_⟩
        refine for_it (n := 2) walk_range (fun i σ H' => ∃ v9 : Option V, σ = [some (.ref sa), some (.ref pz), some (.ref pw), some (.ref rl), some (.ref sl), some (.ref ol), some (.ref tl), v7, v8, v9, v10, none] ∧ Wld3 C (tbOf K) H1 rl sl ol tl p l d lo a n dm lm row marks lw rd ts H') ⟨_, rfl, W⟩ (fun _ _ _ _ _ => trivial) ?_ ?_
        · rintro i x σ H14 H15 hi ⟨v9', rfl, W14⟩ ⟨rfl, rfl⟩
          obtain ⟨b, hb⟩ : ∃ b : Bool, (0 : Int) + (i : Nat) = b01 b := by
            rcases i with _ | _ | i
            · exact ⟨false, rfl⟩
            · exact ⟨true, rfl⟩
            · omega
          change gName 9 (V.int (0 + (i : Nat))) _ _ _
          rw [hb]
          obtain ⟨shc, hdc, hloc, hlmc, hac, hokc, hpmc⟩ := W14.one b
          obtain ⟨dc, hpc⟩ := shc.sh.ob
          have lt64 : (row b).length < 64 := by have := hn20 b; have := hokc.le; omega
          have mt64 : (marks b).length < 64 := by have := subset_len hokc.md hokc.sub; omega
          refine ⟨_, rfl, _, rfl, sl, _, _, _, rfl, rfl, SqL.of W14.hs, at2 _ b, p b, dc, _, rfl, hpc, by rw [oF_places, extM_places], p b, l b, n b, _, _, _, rfl, ⟨dc, hpc⟩, ?_⟩
          refine ⟨_, rfl, _, rfl, rl, _, _, _, rfl, rfl, SqL.of W14.hr, at2 _ b, rfl, _, rfl, ?_⟩
          rw [decide_eq_true rfl]
          refine iteF ?_
          refine ⟨_, rfl, _, rfl, sl, _, _, _, rfl, rfl, SqL.of W14.hs, at2 _ b, _, rfl, _, rfl, ol, _, _, _, rfl, rfl, SqL.of W14.ho, at2 _ b, ?_⟩
          refine ⟨p b, l b, dm b, d b, lm b, n b, _, _, rd b, row b, marks b, lw b, ownM (lo b) (lm b) (rd b), rfl, shc, hdc, ownM_m _ _ _, ownM_r _ _ _, hlmc, hpmc, mt64, fun y hy => hokc.nm y (hokc.sub y hy), fun H16 k16 => ⟨_, rfl, iteF ?_⟩⟩
          have W16 := W14.keep k16
          obtain ⟨shd, hdd, hlod, hlmd, had, hokd, hpmd⟩ := W16.one b
          refine ⟨_, rfl, _, rfl, sl, _, _, _, rfl, rfl, SqL.of W16.hs, at2 _ b, _, rfl, _, rfl, ol, _, _, _, rfl, rfl, SqL.of W16.ho, at2 _ b, _, rfl, _, rfl, tl, _, _, _, rfl, rfl, SqL.of W16.ht, at2 _ b, ?_⟩
          exact ⟨p b, l b, d b, lo b, a b, n b, _, _, row b, row b, ts b, extM (dm b) (rd b), ownM (lo b) (lm b) (rd b), rfl, shd.sh, extM_ok _ _, hdd, ownM_o _ _ _, hlod, had, List.Perm.refl _, lt64, hokd.nm, rfl, rfl, fun H' kk => ⟨_, rfl, iteF ⟨_, rfl, W16.keep kk⟩⟩⟩
        · rintro σ H14 ⟨v9', rfl, W14⟩
          exact q H14
end
end Kf

namespace Kf
open PySem PySem.Spec PyProof.Rows L2
def dD (a : He.Defn) (x q : Str) (st : Stmt) : He.DefD := ⟨a, x, q, defArgs st, defBody st, defScope st, [], []⟩
def fnL : List He.DefD := [dD ("is_name", none) "is_name" "is_name" s_is_name, dD ("check_name", none) "check_name" "check_name" s_check_name, dD ("check_places", none) "check_places" "check_places" s_check_places, dD ("_law_mixed", none) "_law_mixed" "_law_mixed" s__law_mixed, dD ("_law_names", none) "_law_names" "_law_names" s__law_names, dD ("_law_drawn", none) "_law_drawn" "_law_drawn" s__law_drawn, dD ("_law_places", none) "_law_places" "_law_places" s__law_places, dD ("_law_marked", none) "_law_marked" "_law_marked" s__law_marked, dD ("_law_counts_right", none) "_law_counts_right" "_law_counts_right" s__law_counts_right, dD ("_law_is_pair", none) "_law_is_pair" "_law_is_pair" s__law_is_pair, dD ("_law_marks_right", none) "_law_marks_right" "_law_marks_right" s__law_marks_right, dD ("law", none) "law" "law" s_law, dD ("Marked", some "__init__") "__init__" "Marked.__init__" s_Marked___init__, dD ("Marked", some "wish") "wish" "Shelf.wish" s_Shelf_wish, dD ("Marked", some "places") "places" "Shelf.places" s_Shelf_places, dD ("Marked", some "things") "things" "Shelf.things" s_Shelf_things, dD ("Marked", some "met") "met" "Shelf.met" s_Shelf_met, dD ("Marked", some "missed") "missed" "Shelf.missed" s_Shelf_missed, dD ("Marked", some "_free_a_place") "_free_a_place" "Shelf._free_a_place" s_Shelf__free_a_place, dD ("Marked", some "_pick_going") "_pick_going" "Marked._pick_going" s_Marked__pick_going, dD ("Marked", some "_note_wish") "_note_wish" "Marked._note_wish" s_Marked__note_wish, dD ("Marked", some "marks") "marks" "Marked.marks" s_Marked_marks, dD ("Marked", some "rounds") "rounds" "Marked.rounds" s_Marked_rounds, dD ("Shelf", some "__init__") "__init__" "Shelf.__init__" s_Shelf___init__]
def faL : List He.Fa := [.glo "is_name", .glo "check_name", .glo "check_places", .glo "_law_mixed", .glo "_law_names", .glo "_law_drawn", .glo "_law_places", .free "type", .free "str", .free "len", .free "all", .free "int", .free "sum", .free "enumerate", .free "range", .int "MOST_LETTERS" 8, .int "MOST_PLACES" 20, .glo "_law_marked", .glo "_law_counts_right", .glo "_law_is_pair", .glo "_law_marks_right", .glo "law", .meth "Marked" "__init__", .meth "Marked" "wish", .meth "Marked" "places", .meth "Marked" "things", .meth "Marked" "met", .meth "Marked" "missed", .meth "Marked" "_free_a_place", .meth "Marked" "_pick_going", .meth "Marked" "_note_wish", .meth "Marked" "marks", .meth "Marked" "rounds", .meth "Shelf" "__init__", .glo "Marked", .cls "Marked", .mkr "Marked", .noat "Marked" "_size", .noat "Marked" "_row", .noat "Marked" "_met", .noat "Marked" "_missed", .noat "Marked" "_marks", .noat "Marked" "_rounds", .glo "Shelf", .glo "Cold", .glo "Old", .free "sorted", .free "list", .free "isinstance", .free "tuple", .free "bool", .free "min"]
def exL (K : PySem.W.Frag) : Bool := (decide (PySem.W.kitOne K (.ref (He.ga K "Marked")) (.ref (He.ga K "Shelf")) = some true)) && (decide (PySem.W.kitOne K (.ref (He.ga K "Marked")) (.ref (He.ga K "Cold")) = some false)) && (decide (PySem.W.kitOne K (.ref (He.ga K "Marked")) (.ref (He.ga K "Old")) = some false)) && (decide (PySem.W.findIn K (.ref (He.ga K "Marked")) "__class__" = some (some (.builtin "object.__class__")))) && (decide (PySem.W.specialIn K (.builtin "object.__class__") "__get__" = some (some (.builtin "getset_descriptor.__get__")))) && (decide (PySem.W.takesIn K (.builtin "object.__class__") = some true)) && (decide (PySem.W.mroIn K (He.ga K "Marked") (.type "object") = some true)) && (PySem.W.readsIn K (He.ga K "Shelf") (.type "type")) && (decide (PySem.W.specialIn K (.ref (He.ga K "Shelf")) "__getattribute__" = some (some (.builtin "type.__getattribute__")))) && (fclsB K (He.ga K "Shelf") "__init__" (He.ma K (He.ga K "Shelf") "__init__"))
def tfL : List He.Defn := [("is_name", none)]
abbrev RL : PySem.W.OpenRow := PySem.W.OpenLaw.row PySem.Challenge.rw_keepfew_k03_marked_shelves
abbrev hkL : PySem.W.Hook := hookY 6 faL fnL [] tfL exL
def obL (s : PySem.W.SharedT) : He.AlX := obsY 6 faL fnL [] tfL exL (HandSHeadRun.getT s)
theorem obL_eq (s : PySem.W.SharedT) : obL s = hkL.obs s.abs := obsY_eq (HandSHeadRun.getT_eq s)
def looseL : List Str := ["KeepError", "BadName", "BadPlaces", "MOST_LETTERS", "MOST_PLACES", "is_name", "check_name", "check_places", "Shelf", "Old", "Cold", "Marked", "_law_mixed", "_law_names", "_law_drawn", "_law_places", "_law_marked", "_law_counts_right", "_law_is_pair", "_law_marks_right"]
theorem runL (w : World) : HandSHeadRun.RunEq RL (PySem.W.view RL.prog [24]) hkL obL 3000 looseL w := by
  intro os
  kernel_rfl
end Kf
namespace Kf
open PySem PySem.Spec PyProof.Rows L2
section
variable {P : Program} {w : World} {K : PySem.W.Frag} {h : Heap} {mg : Str → Option Value} {fa : Addr}
theorem lawAt (X : K.In h) (G : h.Ns mainGlobals mg) (hfa : mg ("law" : Str) = some (.ref fa)) (c : He.SaysX faL fnL [] tfL exL w h K) : LamX.LawAtS PySem.Challenge.rw_keepfew_k03_marked_shelves w K L2.CX0 5 63 "_law_script" mg fa h := by
  have cd := c.t.d
  have g_is_name := He.glo_ok X G (cd.fact 0 (f := .glo "is_name") rfl)
  have g_check_name := He.glo_ok X G (cd.fact 1 (f := .glo "check_name") rfl)
  have g_check_places := He.glo_ok X G (cd.fact 2 (f := .glo "check_places") rfl)
  have g__law_mixed := He.glo_ok X G (cd.fact 3 (f := .glo "_law_mixed") rfl)
  have g__law_names := He.glo_ok X G (cd.fact 4 (f := .glo "_law_names") rfl)
  have g__law_drawn := He.glo_ok X G (cd.fact 5 (f := .glo "_law_drawn") rfl)
  have g__law_places := He.glo_ok X G (cd.fact 6 (f := .glo "_law_places") rfl)
  have z_type := He.free_ok X G (cd.fact 7 (f := .free "type") rfl)
  have z_str := He.free_ok X G (cd.fact 8 (f := .free "str") rfl)
  have z_len := He.free_ok X G (cd.fact 9 (f := .free "len") rfl)
  have z_all := He.free_ok X G (cd.fact 10 (f := .free "all") rfl)
  have z_int := He.free_ok X G (cd.fact 11 (f := .free "int") rfl)
  have z_sum := He.free_ok X G (cd.fact 12 (f := .free "sum") rfl)
  have z_enumerate := He.free_ok X G (cd.fact 13 (f := .free "enumerate") rfl)
  have z_range := He.free_ok X G (cd.fact 14 (f := .free "range") rfl)
  obtain ⟨t_MOST_LETTERS, n_MOST_LETTERS⟩ := He.int_ok X G (cd.fact 15 (f := .int "MOST_LETTERS" 8) rfl)
  obtain ⟨t_MOST_PLACES, n_MOST_PLACES⟩ := He.int_ok X G (cd.fact 16 (f := .int "MOST_PLACES" 20) rfl)
  have g__law_marked := He.glo_ok X G (cd.fact 17 (f := .glo "_law_marked") rfl)
  have g__law_counts_right := He.glo_ok X G (cd.fact 18 (f := .glo "_law_counts_right") rfl)
  have g__law_is_pair := He.glo_ok X G (cd.fact 19 (f := .glo "_law_is_pair") rfl)
  have g__law_marks_right := He.glo_ok X G (cd.fact 20 (f := .glo "_law_marks_right") rfl)
  have g_law := He.glo_ok X G (cd.fact 21 (f := .glo "law") rfl)
  have me_Marked___init__ := He.meth_ok (cd.fact 22 (f := .meth "Marked" "__init__") rfl)
  have me_Marked_wish := He.meth_ok (cd.fact 23 (f := .meth "Marked" "wish") rfl)
  have me_Marked_places := He.meth_ok (cd.fact 24 (f := .meth "Marked" "places") rfl)
  have me_Marked_things := He.meth_ok (cd.fact 25 (f := .meth "Marked" "things") rfl)
  have me_Marked_met := He.meth_ok (cd.fact 26 (f := .meth "Marked" "met") rfl)
  have me_Marked_missed := He.meth_ok (cd.fact 27 (f := .meth "Marked" "missed") rfl)
  have me_Marked__free_a_place := He.meth_ok (cd.fact 28 (f := .meth "Marked" "_free_a_place") rfl)
  have me_Marked__pick_going := He.meth_ok (cd.fact 29 (f := .meth "Marked" "_pick_going") rfl)
  have me_Marked__note_wish := He.meth_ok (cd.fact 30 (f := .meth "Marked" "_note_wish") rfl)
  have me_Marked_marks := He.meth_ok (cd.fact 31 (f := .meth "Marked" "marks") rfl)
  have me_Marked_rounds := He.meth_ok (cd.fact 32 (f := .meth "Marked" "rounds") rfl)
  have me_Shelf___init__ := He.meth_ok (cd.fact 33 (f := .meth "Shelf" "__init__") rfl)
  have g_Marked := He.glo_ok X G (cd.fact 34 (f := .glo "Marked") rfl)
  have cl_Marked := He.cls_ok (cd.fact 35 (f := .cls "Marked") rfl)
  have mk_Marked := He.mkr_ok (cd.fact 36 (f := .mkr "Marked") rfl)
  have na_Marked__size := He.noat_ok (cd.fact 37 (f := .noat "Marked" "_size") rfl)
  have na_Marked__row := He.noat_ok (cd.fact 38 (f := .noat "Marked" "_row") rfl)
  have na_Marked__met := He.noat_ok (cd.fact 39 (f := .noat "Marked" "_met") rfl)
  have na_Marked__missed := He.noat_ok (cd.fact 40 (f := .noat "Marked" "_missed") rfl)
  have na_Marked__marks := He.noat_ok (cd.fact 41 (f := .noat "Marked" "_marks") rfl)
  have na_Marked__rounds := He.noat_ok (cd.fact 42 (f := .noat "Marked" "_rounds") rfl)
  have g_Shelf := He.glo_ok X G (cd.fact 43 (f := .glo "Shelf") rfl)
  have g_Cold := He.glo_ok X G (cd.fact 44 (f := .glo "Cold") rfl)
  have g_Old := He.glo_ok X G (cd.fact 45 (f := .glo "Old") rfl)
  have z_sorted := He.free_ok X G (cd.fact 46 (f := .free "sorted") rfl)
  have z_list := He.free_ok X G (cd.fact 47 (f := .free "list") rfl)
  have z_isinstance := He.free_ok X G (cd.fact 48 (f := .free "isinstance") rfl)
  have z_tuple := He.free_ok X G (cd.fact 49 (f := .free "tuple") rfl)
  have z_bool := He.free_ok X G (cd.fact 50 (f := .free "bool") rfl)
  have z_min := He.free_ok X G (cd.fact 51 (f := .free "min") rfl)
  obtain ⟨fd_is_name, F_is_name⟩ := cd.def_ 0 (d := dD ("is_name", none) "is_name" "is_name" s_is_name) rfl
  have F_is_name : FnP K "is_name" "is_name" s_is_name (He.fAd K ("is_name", none)) fd_is_name := F_is_name
  obtain ⟨fd_check_name, F_check_name⟩ := cd.def_ 1 (d := dD ("check_name", none) "check_name" "check_name" s_check_name) rfl
  have F_check_name : FnP K "check_name" "check_name" s_check_name (He.fAd K ("check_name", none)) fd_check_name := F_check_name
  obtain ⟨fd_check_places, F_check_places⟩ := cd.def_ 2 (d := dD ("check_places", none) "check_places" "check_places" s_check_places) rfl
  have F_check_places : FnP K "check_places" "check_places" s_check_places (He.fAd K ("check_places", none)) fd_check_places := F_check_places
  obtain ⟨fd__law_mixed, F__law_mixed⟩ := cd.def_ 3 (d := dD ("_law_mixed", none) "_law_mixed" "_law_mixed" s__law_mixed) rfl
  have F__law_mixed : FnP K "_law_mixed" "_law_mixed" s__law_mixed (He.fAd K ("_law_mixed", none)) fd__law_mixed := F__law_mixed
  obtain ⟨fd__law_names, F__law_names⟩ := cd.def_ 4 (d := dD ("_law_names", none) "_law_names" "_law_names" s__law_names) rfl
  have F__law_names : FnP K "_law_names" "_law_names" s__law_names (He.fAd K ("_law_names", none)) fd__law_names := F__law_names
  obtain ⟨fd__law_drawn, F__law_drawn⟩ := cd.def_ 5 (d := dD ("_law_drawn", none) "_law_drawn" "_law_drawn" s__law_drawn) rfl
  have F__law_drawn : FnP K "_law_drawn" "_law_drawn" s__law_drawn (He.fAd K ("_law_drawn", none)) fd__law_drawn := F__law_drawn
  obtain ⟨fd__law_places, F__law_places⟩ := cd.def_ 6 (d := dD ("_law_places", none) "_law_places" "_law_places" s__law_places) rfl
  have F__law_places : FnP K "_law_places" "_law_places" s__law_places (He.fAd K ("_law_places", none)) fd__law_places := F__law_places
  obtain ⟨fd__law_marked, F__law_marked⟩ := cd.def_ 7 (d := dD ("_law_marked", none) "_law_marked" "_law_marked" s__law_marked) rfl
  have F__law_marked : FnP K "_law_marked" "_law_marked" s__law_marked (He.fAd K ("_law_marked", none)) fd__law_marked := F__law_marked
  obtain ⟨fd__law_counts_right, F__law_counts_right⟩ := cd.def_ 8 (d := dD ("_law_counts_right", none) "_law_counts_right" "_law_counts_right" s__law_counts_right) rfl
  have F__law_counts_right : FnP K "_law_counts_right" "_law_counts_right" s__law_counts_right (He.fAd K ("_law_counts_right", none)) fd__law_counts_right := F__law_counts_right
  obtain ⟨fd__law_is_pair, F__law_is_pair⟩ := cd.def_ 9 (d := dD ("_law_is_pair", none) "_law_is_pair" "_law_is_pair" s__law_is_pair) rfl
  have F__law_is_pair : FnP K "_law_is_pair" "_law_is_pair" s__law_is_pair (He.fAd K ("_law_is_pair", none)) fd__law_is_pair := F__law_is_pair
  obtain ⟨fd__law_marks_right, F__law_marks_right⟩ := cd.def_ 10 (d := dD ("_law_marks_right", none) "_law_marks_right" "_law_marks_right" s__law_marks_right) rfl
  have F__law_marks_right : FnP K "_law_marks_right" "_law_marks_right" s__law_marks_right (He.fAd K ("_law_marks_right", none)) fd__law_marks_right := F__law_marks_right
  obtain ⟨fd_law, F_law⟩ := cd.def_ 11 (d := dD ("law", none) "law" "law" s_law) rfl
  have F_law : FnP K "law" "law" s_law (He.fAd K ("law", none)) fd_law := F_law
  obtain ⟨fd_Marked___init__, F_Marked___init__⟩ := cd.def_ 12 (d := dD ("Marked", some "__init__") "__init__" "Marked.__init__" s_Marked___init__) rfl
  have F_Marked___init__ : FnP K "__init__" "Marked.__init__" s_Marked___init__ (He.fAd K ("Marked", some "__init__")) fd_Marked___init__ := F_Marked___init__
  obtain ⟨fd_Marked_wish, F_Marked_wish⟩ := cd.def_ 13 (d := dD ("Marked", some "wish") "wish" "Shelf.wish" s_Shelf_wish) rfl
  have F_Marked_wish : FnP K "wish" "Shelf.wish" s_Shelf_wish (He.fAd K ("Marked", some "wish")) fd_Marked_wish := F_Marked_wish
  obtain ⟨fd_Marked_places, F_Marked_places⟩ := cd.def_ 14 (d := dD ("Marked", some "places") "places" "Shelf.places" s_Shelf_places) rfl
  have F_Marked_places : FnP K "places" "Shelf.places" s_Shelf_places (He.fAd K ("Marked", some "places")) fd_Marked_places := F_Marked_places
  obtain ⟨fd_Marked_things, F_Marked_things⟩ := cd.def_ 15 (d := dD ("Marked", some "things") "things" "Shelf.things" s_Shelf_things) rfl
  have F_Marked_things : FnP K "things" "Shelf.things" s_Shelf_things (He.fAd K ("Marked", some "things")) fd_Marked_things := F_Marked_things
  obtain ⟨fd_Marked_met, F_Marked_met⟩ := cd.def_ 16 (d := dD ("Marked", some "met") "met" "Shelf.met" s_Shelf_met) rfl
  have F_Marked_met : FnP K "met" "Shelf.met" s_Shelf_met (He.fAd K ("Marked", some "met")) fd_Marked_met := F_Marked_met
  obtain ⟨fd_Marked_missed, F_Marked_missed⟩ := cd.def_ 17 (d := dD ("Marked", some "missed") "missed" "Shelf.missed" s_Shelf_missed) rfl
  have F_Marked_missed : FnP K "missed" "Shelf.missed" s_Shelf_missed (He.fAd K ("Marked", some "missed")) fd_Marked_missed := F_Marked_missed
  obtain ⟨fd_Marked__free_a_place, F_Marked__free_a_place⟩ := cd.def_ 18 (d := dD ("Marked", some "_free_a_place") "_free_a_place" "Shelf._free_a_place" s_Shelf__free_a_place) rfl
  have F_Marked__free_a_place : FnP K "_free_a_place" "Shelf._free_a_place" s_Shelf__free_a_place (He.fAd K ("Marked", some "_free_a_place")) fd_Marked__free_a_place := F_Marked__free_a_place
  obtain ⟨fd_Marked__pick_going, F_Marked__pick_going⟩ := cd.def_ 19 (d := dD ("Marked", some "_pick_going") "_pick_going" "Marked._pick_going" s_Marked__pick_going) rfl
  have F_Marked__pick_going : FnP K "_pick_going" "Marked._pick_going" s_Marked__pick_going (He.fAd K ("Marked", some "_pick_going")) fd_Marked__pick_going := F_Marked__pick_going
  obtain ⟨fd_Marked__note_wish, F_Marked__note_wish⟩ := cd.def_ 20 (d := dD ("Marked", some "_note_wish") "_note_wish" "Marked._note_wish" s_Marked__note_wish) rfl
  have F_Marked__note_wish : FnP K "_note_wish" "Marked._note_wish" s_Marked__note_wish (He.fAd K ("Marked", some "_note_wish")) fd_Marked__note_wish := F_Marked__note_wish
  obtain ⟨fd_Marked_marks, F_Marked_marks⟩ := cd.def_ 21 (d := dD ("Marked", some "marks") "marks" "Marked.marks" s_Marked_marks) rfl
  have F_Marked_marks : FnP K "marks" "Marked.marks" s_Marked_marks (He.fAd K ("Marked", some "marks")) fd_Marked_marks := F_Marked_marks
  obtain ⟨fd_Marked_rounds, F_Marked_rounds⟩ := cd.def_ 22 (d := dD ("Marked", some "rounds") "rounds" "Marked.rounds" s_Marked_rounds) rfl
  have F_Marked_rounds : FnP K "rounds" "Marked.rounds" s_Marked_rounds (He.fAd K ("Marked", some "rounds")) fd_Marked_rounds := F_Marked_rounds
  obtain ⟨fd_Shelf___init__, F_Shelf___init__⟩ := cd.def_ 23 (d := dD ("Shelf", some "__init__") "__init__" "Shelf.__init__" s_Shelf___init__) rfl
  have F_Shelf___init__ : FnP K "__init__" "Shelf.__init__" s_Shelf___init__ (He.fAd K ("Shelf", some "__init__")) fd_Shelf___init__ := F_Shelf___init__
  have e := hfa.symm.trans g_law
  cases e
  have hx := c.more
  unfold exL at hx
  simp only [Bool.and_eq_true, decide_eq_true_eq] at hx
  obtain ⟨⟨⟨⟨⟨⟨⟨⟨⟨x0, x1⟩, x2⟩, x3⟩, x4⟩, x5⟩, x6⟩, x7⟩, x8⟩, x9⟩ := hx
  refine ⟨fd_law, [He.cT K ("is_name", none)], spLaw K, fun p hp => ?_, fun p hp => ?_, fun p hp => ?_, fun s u => ?_, fun H a ns hl _ hT hS => ?_, fun base KX hN hTB => ?_⟩
  · rw [List.mem_singleton.mp hp]
    exact c.empty _ (by unfold tfL; exact List.mem_cons_self)
  · rw [List.mem_singleton.mp hp]
    exact c.out _ (by unfold tfL; exact List.mem_cons_self)
  · rw [List.mem_singleton.mp hp]
    exact PySem.W.codeHd_of_K X (c.hd _ (by unfold tfL; exact List.mem_cons_self))
  · exact FunD.bindsA (ps := ["_law_script"]) F_law (fun _ _ _ _ _ _ us hl => match us, hl with | [_], _ => rfl) s [u] rfl
  · exact ⟨a, ns, rfl, hS, hl, ⟨#[], hT _ List.mem_cons_self, trivial⟩, fun _ => rfl⟩
  have TB0 := hTB _ (List.mem_cons_self)
  have TB : GxR.TabB base mg (cIsName K) (tbOf K) := ⟨TB0.code, TB0.bm, TB0.gP⟩
  have G_is_name : Glob PySem.Challenge.rw_keepfew_k03_marked_shelves.prog w K mg base CX0 1 "is_name" ["value"] (spIsName K) := glob_of F_is_name g_is_name (fun _ _ _ _ _ _ us hl => match us, hl with | [_], _ => rfl) (ok_isname F_is_name TB n_MOST_LETTERS z_type z_str z_len z_all)
  have G_check_name : Glob PySem.Challenge.rw_keepfew_k03_marked_shelves.prog w K mg base CX0 2 "check_name" ["name"] (spCheckName K) := glob_of F_check_name g_check_name (fun _ _ _ _ _ _ us hl => match us, hl with | [_], _ => rfl) (ok_checkname F_check_name G_is_name)
  have G_check_places : Glob PySem.Challenge.rw_keepfew_k03_marked_shelves.prog w K mg base CX0 1 "check_places" ["places"] spCheckPlaces := glob_of F_check_places g_check_places (fun _ _ _ _ _ _ us hl => match us, hl with | [_], _ => rfl) (ok_checkplaces F_check_places n_MOST_PLACES z_type z_int)
  have G__law_mixed : Glob PySem.Challenge.rw_keepfew_k03_marked_shelves.prog w K mg base CX0 1 "_law_mixed" ["_law_cell", "_law_k"] spMixed := glob_of F__law_mixed g__law_mixed (fun _ _ _ _ _ _ us hl => match us, hl with | [_, _], _ => rfl) (ok_mixed F__law_mixed)
  have G__law_names : Glob PySem.Challenge.rw_keepfew_k03_marked_shelves.prog w K mg base CX0 1 "_law_names" ["_law_number", "_law_many"] (spNames (tbOf K)) := glob_of F__law_names g__law_names (fun _ _ _ _ _ _ us hl => match us, hl with | [_, _], _ => rfl) (ok_names F__law_names z_range z_enumerate)
  have G__law_drawn : Glob PySem.Challenge.rw_keepfew_k03_marked_shelves.prog w K mg base CX0 2 "_law_drawn" ["_law_script", "_law_most"] (spDrawn K (tbOf K)) := glob_of F__law_drawn g__law_drawn (fun _ _ _ _ _ _ us hl => match us, hl with | [_, _], _ => rfl) (ok_drawn F__law_drawn G__law_mixed G__law_names z_len z_sum z_int z_enumerate)
  have G__law_places : Glob PySem.Challenge.rw_keepfew_k03_marked_shelves.prog w K mg base CX0 2 "_law_places" ["_law_script", "_law_k"] (spPlaces K (tbOf K)) := glob_of F__law_places g__law_places (fun _ _ _ _ _ _ us hl => match us, hl with | [_, _], _ => rfl) (ok_places F__law_places G__law_mixed z_len z_sum)
  have T_Marked : ClsT K (He.ga K "Marked") := ⟨cl_Marked, na_Marked__size, na_Marked__row, na_Marked__met, na_Marked__missed⟩
  have T2_Marked : ClsM K (He.ga K "Marked") := ⟨na_Marked__marks, na_Marked__rounds⟩
  have K_Marked : MakeOk PySem.Challenge.rw_keepfew_k03_marked_shelves.prog w K mg base CX0 3 "Marked" (He.ga K "Marked") ["self", "places"] (spInitM (tbOf K) (He.ga K "Marked")) := ⟨_, fd_Marked___init__, g_Marked, mk_Marked, binds_of F_Marked___init__ (fun _ _ _ _ _ _ us hl => match us, hl with | [_, _], _ => rfl), ok_minit (k0 := 1) F_Marked___init__ T_Marked T2_Marked g_Shelf (mc := .type "type") ⟨x7, x8⟩ ⟨fclsB_ok x9, rfl⟩ (ok_init F_Shelf___init__ T_Marked G_check_places) F_Shelf___init__.kp (binds_of F_Shelf___init__ (fun _ _ _ _ _ _ us hl => match us, hl with | [_, _], _ => rfl))⟩
  have M_Marked_places : MethOk PySem.Challenge.rw_keepfew_k03_marked_shelves.prog w K mg base CX0 1 (He.ga K "Marked") "places" ["self"] (spInt (He.ga K "Marked") fun n _ _ => n) := ⟨_, fd_Marked_places, cl_Marked, me_Marked_places, binds_of F_Marked_places (fun _ _ _ _ _ _ us hl => match us, hl with | [_], _ => rfl), ok_places_ F_Marked_places T_Marked⟩
  have M_Marked_met : MethOk PySem.Challenge.rw_keepfew_k03_marked_shelves.prog w K mg base CX0 1 (He.ga K "Marked") "met" ["self"] (spInt (He.ga K "Marked") fun _ m _ => m) := ⟨_, fd_Marked_met, cl_Marked, me_Marked_met, binds_of F_Marked_met (fun _ _ _ _ _ _ us hl => match us, hl with | [_], _ => rfl), ok_met F_Marked_met T_Marked⟩
  have M_Marked_missed : MethOk PySem.Challenge.rw_keepfew_k03_marked_shelves.prog w K mg base CX0 1 (He.ga K "Marked") "missed" ["self"] (spInt (He.ga K "Marked") fun _ _ k => k) := ⟨_, fd_Marked_missed, cl_Marked, me_Marked_missed, binds_of F_Marked_missed (fun _ _ _ _ _ _ us hl => match us, hl with | [_], _ => rfl), ok_missed F_Marked_missed T_Marked⟩
  have M_Marked_things : MethOk PySem.Challenge.rw_keepfew_k03_marked_shelves.prog w K mg base CX0 1 (He.ga K "Marked") "things" ["self"] (spList (tbOf K) (He.ga K "Marked") sortS) := ⟨_, fd_Marked_things, cl_Marked, me_Marked_things, binds_of F_Marked_things (fun _ _ _ _ _ _ us hl => match us, hl with | [_], _ => rfl), ok_things F_Marked_things T_Marked z_sorted⟩
  have M_Marked_marks : MethOk PySem.Challenge.rw_keepfew_k03_marked_shelves.prog w K mg base CX0 1 (He.ga K "Marked") "marks" ["self"] (spMarks (tbOf K) (He.ga K "Marked")) := ⟨_, fd_Marked_marks, cl_Marked, me_Marked_marks, binds_of F_Marked_marks (fun _ _ _ _ _ _ us hl => match us, hl with | [_], _ => rfl), ok_marks F_Marked_marks T_Marked T2_Marked z_sorted⟩
  have M_Marked_rounds : MethOk PySem.Challenge.rw_keepfew_k03_marked_shelves.prog w K mg base CX0 1 (He.ga K "Marked") "rounds" ["self"] (spRounds (He.ga K "Marked")) := ⟨_, fd_Marked_rounds, cl_Marked, me_Marked_rounds, binds_of F_Marked_rounds (fun _ _ _ _ _ _ us hl => match us, hl with | [_], _ => rfl), ok_rounds F_Marked_rounds T_Marked T2_Marked⟩
  have M_Marked__pick_going : MethOk PySem.Challenge.rw_keepfew_k03_marked_shelves.prog w K mg base CX0 1 (He.ga K "Marked") "_pick_going" ["self"] (spPickM (tbOf K) (He.ga K "Marked")) := ⟨_, fd_Marked__pick_going, cl_Marked, me_Marked__pick_going, binds_of F_Marked__pick_going (fun _ _ _ _ _ _ us hl => match us, hl with | [_], _ => rfl), ok_mpick F_Marked__pick_going T_Marked T2_Marked z_len z_min⟩
  have M_Marked__note_wish : MethOk PySem.Challenge.rw_keepfew_k03_marked_shelves.prog w K mg base CX0 1 (He.ga K "Marked") "_note_wish" ["self", "name"] (spNoteM (tbOf K) (He.ga K "Marked")) := ⟨_, fd_Marked__note_wish, cl_Marked, me_Marked__note_wish, binds_of F_Marked__note_wish (fun _ _ _ _ _ _ us hl => match us, hl with | [_, _], _ => rfl), ok_mnote F_Marked__note_wish T_Marked T2_Marked⟩
  have M_Marked__free_a_place : MethOk PySem.Challenge.rw_keepfew_k03_marked_shelves.prog w K mg base CX0 2 (He.ga K "Marked") "_free_a_place" ["self"] (spFreeM (tbOf K) (He.ga K "Marked")) := ⟨_, fd_Marked__free_a_place, cl_Marked, me_Marked__free_a_place, binds_of F_Marked__free_a_place (fun _ _ _ _ _ _ us hl => match us, hl with | [_], _ => rfl), ok_mfree F_Marked__free_a_place T_Marked z_len M_Marked__pick_going⟩
  have M_Marked_wish : MethOk PySem.Challenge.rw_keepfew_k03_marked_shelves.prog w K mg base CX0 3 (He.ga K "Marked") "wish" ["self", "name"] (spWishM (tbOf K) (He.ga K "Marked")) := ⟨_, fd_Marked_wish, cl_Marked, me_Marked_wish, binds_of F_Marked_wish (fun _ _ _ _ _ _ us hl => match us, hl with | [_, _], _ => rfl), ok_mwish (k0 := 0) F_Marked_wish T_Marked G_check_name M_Marked__free_a_place (M_Marked__note_wish.mono (by decide))⟩
  have G__law_marked : Glob PySem.Challenge.rw_keepfew_k03_marked_shelves.prog w K mg base CX0 1 "_law_marked" ["_law_own", "_law_name", "_law_places_here"] (spLMarked (tbOf K)) := glob_of F__law_marked g__law_marked (fun _ _ _ _ _ _ us hl => match us, hl with | [_, _, _], _ => rfl) (ok_lmarked F__law_marked z_len z_sorted z_min)
  have G__law_is_pair : Glob PySem.Challenge.rw_keepfew_k03_marked_shelves.prog w K mg base CX0 1 "_law_is_pair" ["_law_found", "_law_due"] spIsPair := glob_of F__law_is_pair g__law_is_pair (fun _ _ _ _ _ _ us hl => match us, hl with | [_, _], _ => rfl) (ok_ispair F__law_is_pair z_isinstance z_tuple z_bool)
  have G__law_counts_right : Glob PySem.Challenge.rw_keepfew_k03_marked_shelves.prog w K mg base CX0 2 "_law_counts_right" ["_law_shelf", "_law_own", "_law_told"] (spCounts (tbOf K) (He.ga K "Marked")) := glob_of F__law_counts_right g__law_counts_right (fun _ _ _ _ _ _ us hl => match us, hl with | [_, _, _], _ => rfl) (ok_counts F__law_counts_right z_isinstance z_list z_bool z_sorted M_Marked_met M_Marked_missed M_Marked_things)
  have G__law_marks_right : Glob PySem.Challenge.rw_keepfew_k03_marked_shelves.prog w K mg base CX0 2 "_law_marks_right" ["_law_shelf", "_law_own"] (spMR (tbOf K) (He.ga K "Marked")) := glob_of F__law_marks_right g__law_marks_right (fun _ _ _ _ _ _ us hl => match us, hl with | [_, _], _ => rfl) (ok_mr F__law_marks_right z_isinstance z_list z_bool z_sorted M_Marked_marks M_Marked_rounds)
  exact ok_k03 (k0 := 0) F_law T_Marked ⟨x3, x4, x5, x6⟩ x0 x1 x2 g_Shelf g_Cold g_Old z_isinstance z_int z_enumerate z_range (G__law_mixed.mono (by decide)) (G__law_drawn.mono (by decide)) (G__law_places.mono (by decide)) (G__law_marked.mono (by decide)) (G__law_is_pair.mono (by decide)) (G__law_counts_right.mono (by decide)) (G__law_marks_right.mono (by decide)) (K_Marked.mono (by decide)) (M_Marked_wish.mono (by decide)) (M_Marked_places.mono (by decide))
end
end Kf
open PySem PySem.W PySem.Calls PyProof.Rows
theorem PySem.Challenge.cw_keepfew_k03_marked_shelves_holds : PySem.Challenge.rw_keepfew_k03_marked_shelves.Holds := by
  w_on; o_law
  refine HandSHeadRun.head_any (r := OpenLaw.row PySem.Challenge.rw_keepfew_k03_marked_shelves) (q := view (OpenLaw.row PySem.Challenge.rw_keepfew_k03_marked_shelves).prog [24]) (H := Kf.hkL) (ob := Kf.obL) (M := 3000) (loose := Kf.looseL) (d := HandSHeadRun.topDef (OpenLaw.row PySem.Challenge.rw_keepfew_k03_marked_shelves).prog 24) (kwd := []) Kf.obL_eq
    (by kernel_rfl) (fun s => by kernel_rfl) Kf.runL (by kernel_rfl) (by kernel_rfl) (by kernel_rfl) (by rfl) (by first | assumption | decide +kernel) (by decide +kernel) ⟨rfl, rfl, rfl, rfl, rfl, by decide +kernel⟩ ?hw ?hc
  case hw => w_witness2
  case hc =>
    refine LamX.walk_ofTsE (l := PySem.Challenge.rw_keepfew_k03_marked_shelves) (n := 63) (k := 5) (x := "_law_script") (CX := fun _ => L2.CX0) rfl (by decide) (by kernel_rfl) ⟨rfl, by decide, by decide⟩ ?F (fun _ _ _ _ _ z => z)
    intro w mg fa h Y G hmg0
    obtain ⟨K, KX, c⟩ := Y
    have hmg : mg ("law" : PySem.Str) = some (.ref fa) := by
      have e : (HandSHeadRun.topDef (OpenLaw.row PySem.Challenge.rw_keepfew_k03_marked_shelves).prog 24).name = ("law" : PySem.Str) := by kernel_rfl
      rw [← e]
      exact hmg0
    exact ⟨K, KX, Kf.lawAt KX G hmg c⟩
