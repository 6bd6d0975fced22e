import PyProof.Rows.All
import Wide.All
import OpenK.AllK
import Wide.FinOn
import KE.KStateDown
import HandS.ForMost
import HandS.ForExc
import HandS.SortOrd
import HandS.SortRule
import KE.KExcIs
import HandS.Wide
import HandS.ExcInit
import HandS.ExcField
import HandS.ExcIs
import HandS.Conv
import HandS.More
import HandS.Defaults
import HandS.MakeKw
import HandS.Lambda
import HandS.IsInst
import HandS.NoneIn
import HandS.Text
import HandS.DictComp
import HandS.TryMany
import HandS.EndTab
import HandS.HeadWalk
import HandS.Head0
import HandS.Head1
import HandS.Head2
import HandS.HeadEnd
import HandS.HeadHook1
import HandS.HeadHook2
import HandS.HeadHook3
import HandS.HeadHook4
import PySem.Challenge.RW_mustcross_k64_whole_boards_within
import KE.GoesMore
import HandS.Iter
import HandS.Comp
import HandS.WordsExc
import PyProof.InstNe
import HandS.SlotsOwn
import PyProof.WalkInts
import PyProof.FString5
import HandS.Call
import HandS.Walk
import HandS.SortInts
import HandS.Deep
import HandS.Exc
import HandS.Zip
import HandS.ListItems
import HandS.TupSets
import HandS.SetFor
import HandS.Style
import HandS.List
import KE.KEqDict
import PyProof.NeKinds
import HandS.Codes
import PyProof.ReprRoads
import PyProof.Rows.RegFStrParts
set_option Elab.async false
set_option linter.all false
set_option maxRecDepth 100000
set_option maxHeartbeats 4000000
/-! Sorting of names, and of pairs of names, lists and tuples, any number of them. -/
namespace G0
open PySem PySem.Spec PyProof.Rows L2
/-! ### the order of texts -/
def ltS (x y : Str) : Bool := decide (x.cps.toList < y.cps.toList)
def leS (x y : Str) : Bool := !ltS y x
theorem ltS_asym {x y : Str} (h : ltS x y = true) : ltS y x = false := decide_eq_false (List.lt_asymm (of_decide_eq_true h))
theorem ltS_tr {x y z : Str} (h1 : ltS y x = false) (h2 : ltS z y = false) : ltS z x = false := decide_eq_false (List.le_trans (of_decide_eq_false h1) (of_decide_eq_false h2))
theorem ltS_eq {x y : Str} (h1 : ltS x y = false) (h2 : ltS y x = false) : x = y := ext_toList (List.le_antisymm (of_decide_eq_false h2) (of_decide_eq_false h1))
theorem ltS_irr (x : Str) : ltS x x = false := decide_eq_false (List.lt_irrefl _)
theorem ltS_ne {x y : Str} (h : ltS x y = true) : x ≠ y := fun e => by rw [e, ltS_irr] at h; cases h
theorem leS_trans (a b c : Str) (h1 : leS a b = true) (h2 : leS b c = true) : leS a c = true := by
  unfold leS at *
  simp only [Bool.not_eq_true'] at *
  exact ltS_tr h1 h2
theorem leS_total (a b : Str) : (leS a b || leS b a) = true := by
  unfold leS
  cases h : ltS b a with
  | false => rfl
  | true => rw [ltS_asym h]; rfl
def sortS (xs : List Str) : List Str := xs.mergeSort leS
theorem sortS_perm (xs : List Str) : (sortS xs).Perm xs := List.mergeSort_perm xs leS
theorem sortS_pw (xs : List Str) : (sortS xs).Pairwise (fun a b => leS a b = true) := List.pairwise_mergeSort leS_trans leS_total xs
theorem sortS_uniq {xs ys : List Str} (p : ys.Perm xs) (h : ys.Pairwise (fun a b => leS a b = true)) : ys = sortS xs :=
  List.Perm.eq_of_pairwise (fun a b _ _ h1 h2 => by
    unfold leS at h1 h2
    simp only [Bool.not_eq_true'] at h1 h2
    exact ltS_eq h2 h1) h (sortS_pw xs) (p.trans (sortS_perm xs).symm)
theorem sortS_of_perm {xs ys : List Str} (p : ys.Perm xs) : sortS ys = sortS xs := sortS_uniq ((sortS_perm ys).trans p) (sortS_pw ys)
theorem sortS_idem (xs : List Str) : sortS (sortS xs) = sortS xs := sortS_of_perm (sortS_perm xs)
theorem sortS_len (xs : List Str) : (sortS xs).length = xs.length := (sortS_perm xs).length_eq
theorem sortS_mem {x : Str} {xs : List Str} : x ∈ sortS xs ↔ x ∈ xs := (sortS_perm xs).mem_iff
/-! ### the order of pairs -/
abbrev Pr : Type := Str × Str
def ltPr (p q : Pr) : Bool := if p.1 = q.1 then ltS p.2 q.2 else ltS p.1 q.1
def lePr (p q : Pr) : Bool := !ltPr q p
theorem ltPr_no {p q : Pr} : ltPr p q = false ↔ ltS p.1 q.1 = false ∧ (p.1 = q.1 → ltS p.2 q.2 = false) := by
  unfold ltPr
  by_cases e : p.1 = q.1
  · rw [if_pos e, e, ltS_irr]
    simp
  · rw [if_neg e]
    simp [e]
theorem ltPr_asym {p q : Pr} (h : ltPr p q = true) : ltPr q p = false := by
  refine ltPr_no.mpr ?_
  unfold ltPr at h
  by_cases e : p.1 = q.1
  · rw [if_pos e] at h
    exact ⟨by rw [e]; exact ltS_irr _, fun _ => ltS_asym h⟩
  · rw [if_neg e] at h
    exact ⟨ltS_asym h, fun z => absurd z.symm e⟩
theorem ltPr_tr {x y z : Pr} (h1 : ltPr y x = false) (h2 : ltPr z y = false) : ltPr z x = false := by
  obtain ⟨a1, a2⟩ := ltPr_no.mp h1
  obtain ⟨b1, b2⟩ := ltPr_no.mp h2
  refine ltPr_no.mpr ⟨ltS_tr a1 b1, fun e => ?_⟩
  have e1 : z.1 = y.1 := by
    refine ltS_eq b1 ?_
    rw [← e] at a1
    exact a1
  exact ltS_tr (a2 (e1.symm.trans e)) (b2 e1)
theorem ltPr_eq {p q : Pr} (h1 : ltPr p q = false) (h2 : ltPr q p = false) : p = q := by
  obtain ⟨a1, a2⟩ := ltPr_no.mp h1
  obtain ⟨b1, b2⟩ := ltPr_no.mp h2
  have e := ltS_eq a1 b1
  exact Prod.ext e (ltS_eq (a2 e) (b2 e.symm))
theorem lePr_trans (a b c : Pr) (h1 : lePr a b = true) (h2 : lePr b c = true) : lePr a c = true := by
  unfold lePr at *
  simp only [Bool.not_eq_true'] at *
  exact ltPr_tr h1 h2
theorem lePr_total (a b : Pr) : (lePr a b || lePr b a) = true := by
  unfold lePr
  cases h : ltPr b a with
  | false => rfl
  | true => rw [ltPr_asym h]; rfl
def sortPr (xs : List Pr) : List Pr := xs.mergeSort lePr
theorem sortPr_perm (xs : List Pr) : (sortPr xs).Perm xs := List.mergeSort_perm xs lePr
theorem sortPr_pw (xs : List Pr) : (sortPr xs).Pairwise (fun a b => lePr a b = true) := List.pairwise_mergeSort lePr_trans lePr_total xs
theorem sortPr_uniq {xs ys : List Pr} (p : ys.Perm xs) (h : ys.Pairwise (fun a b => lePr a b = true)) : ys = sortPr xs :=
  List.Perm.eq_of_pairwise (fun a b _ _ h1 h2 => by
    unfold lePr at h1 h2
    simp only [Bool.not_eq_true'] at h1 h2
    exact ltPr_eq h2 h1) h (sortPr_pw xs) (p.trans (sortPr_perm xs).symm)
theorem sortPr_of_perm {xs ys : List Pr} (p : ys.Perm xs) : sortPr ys = sortPr xs := sortPr_uniq ((sortPr_perm ys).trans p) (sortPr_pw ys)
theorem sortPr_len (xs : List Pr) : (sortPr xs).length = xs.length := (sortPr_perm xs).length_eq
theorem sortPr_mem {x : Pr} {xs : List Pr} : x ∈ sortPr xs ↔ x ∈ xs := (sortPr_perm xs).mem_iff
/-! ### values that are texts -/
def vStr : Value → Str
  | .str x _ => x
  | _ => default
def ltVS (u v : Value) : Bool := ltS (vStr u) (vStr v)
theorem ltVS_swo : SrtO.Swo ltVS := ⟨fun _ _ h => ltS_asym h, fun _ _ _ h1 h2 => ltS_tr h1 h2⟩
theorem strs_vStr : ∀ {vs : List Value} {xs : List Str}, StrsAre vs xs → vs.map vStr = xs ∧ ∀ v ∈ vs, ∃ x t, v = .str x t
  | _, _, .nil => ⟨rfl, by simp⟩
  | _, _, .cons x t h => by
    obtain ⟨a, b⟩ := strs_vStr h
    refine ⟨by rw [List.map_cons, a]; rfl, fun v hv => ?_⟩
    rcases List.mem_cons.mp hv with rfl | hv
    · exact ⟨x, t, rfl⟩
    · exact b v hv
theorem strs_of : ∀ {vs : List Value}, (∀ v ∈ vs, ∃ x t, v = .str x t) → StrsAre vs (vs.map vStr)
  | [], _ => .nil
  | v :: vs, h => by
    obtain ⟨x, t, rfl⟩ := h v (by simp)
    exact .cons x t (strs_of fun u hu => h u (by simp [hu]))
section
variable {prog : Program} {w : World} {A : Around} {E : Value → Shared → Prop} {s : Shared}
theorem str_cmp {vs : List Value} (hv : ∀ v ∈ vs, ∃ x t, v = .str x t) : SrtO.Cmp prog w A s oneType' (fun p => p.1 ∈ vs) (SrtO.lt2 ltVS) := by
  intro p q hp hq
  obtain ⟨x, t, e1⟩ := hv _ hp
  obtain ⟨y, u, e2⟩ := hv _ hq
  show wpAny (model prog w) A (keyLt' oneType' p.1 q.1) (fun r s' => s' = s ∧ r = ltVS p.1 q.1) (fun _ _ => False) s
  rw [e1, e2, keyLt'_oneType]
  exact oneLt_str ⟨rfl, rfl⟩
theorem strs_sortable {a : Addr} {vs : List Value} (hv : ∀ v ∈ vs, ∃ x t, v = .str x t) (h2 : 2 ≤ vs.length) : SrtO.SortableO prog w A s a vs ltVS := by
  intro h' _
  refine ⟨oneType', fun Q E hq => ?_, str_cmp hv⟩
  match vs, hv, h2 with
  | v1 :: v2 :: r, hv, _ =>
    rw [keyKind_strs (strs_of hv)]
    exact wpAny_pure hq
/-- what is in a list or a tuple -/
theorem collect_seq {l : Addr} {vs : List Value} {o : Obj} {n : Nat} {Q : List Value → Shared → Prop} (ho : s.heap.get? l = some o) (hc : o.cls = .type "list" ∨ o.cls = .type "tuple") (hd : o.data = .seq vs.toArray n) (hz : vs.length ≤ sizeLine)
    (h : Q vs { s with heap := (s.heap.push (seqObj "list" #[] 0)).update s.heap.objs.size (Obj.mapSeq (· ++ vs.toArray)) }) : wpAny (model prog w) A (collect (.ref l)) Q E s := by
  unfold collect
  refine wpAny_bind (wpAny_runValue (codeAny_builtin entry_proto_collect' (show wpAny _ _ (do again (.builtin "list.__iadd__" ⟨[← newList [], .ref l], []⟩)) _ _ s from wpAny_bind (wpAny_newList (wpAny_pure ⟨Code.quiet_builtin _ (by decide +kernel), codeAny_builtin entry_list_iadd' ?_⟩)))))
  have h1 : (s.heap.push (seqObj "list" #[] 0)).get? l = some o := Heap.get?_push_of_some _ ho
  have h2 : (s.heap.push (seqObj "list" #[] 0)).get? s.heap.objs.size = some (seqObj "list" #[] 0) := Heap.get?_push_size _ rfl
  show wpAny _ _ (Builtin.List.listExtendWith (.ref s.heap.objs.size) (.ref l) (.ref s.heap.objs.size)) _ _ { s with heap := s.heap.push (seqObj "list" #[] 0) }
  unfold Builtin.List.listExtendWith
  have e : ∃ T : String, o.cls = .type T ∧ ((Value.type T == Value.type "list") || (Value.type T == Value.type "tuple")) = true := by
    rcases hc with z | z
    · exact ⟨_, z, by rfl⟩
    · exact ⟨_, z, by rfl⟩
  obtain ⟨T, eT, eb⟩ := e
  refine wpAny_bind (wpAny_typeOf (T := T) ⟨o, h1, eT⟩ ?_)
  rw [if_pos (by rw [Bool.or_assoc, eb, Bool.or_true])]
  refine wpAny_bind (listItems_at h1 hd (wpAny_bind (listItems_at (xs := #[]) (n := 0) h2 rfl ?_)))
  rw [if_neg (by simp)]
  refine wpAny_bind (listUpdate_at (xs := #[]) (n := 0) h2 rfl ?_ (Nat.zero_le _) (by show (#[] ++ vs.toArray).size ≤ sizeLine + 1; simp; omega))
  refine wpAny_pure (show wpAny (model prog w) A (do
      let o ← load s.heap.objs.size
      match o.data with
      | .seq xs _ => pure xs.toList
      | _ => unsupported "internal:collect") Q E { s with heap := (s.heap.push (seqObj "list" #[] 0)).update s.heap.objs.size (Obj.mapSeq (· ++ vs.toArray)) } from wpAny_bind (wpAny_load (get?_update_seq h2 _) ?_))
  have ea : ((#[] : Array Value) ++ vs.toArray).toList = vs := by simp
  show wpAny _ _ (pure ((#[] : Array Value) ++ vs.toArray).toList) Q E _
  rw [ea]
  exact wpAny_pure h
end
end G0

set_option Elab.async false
set_option linter.all false
set_option maxRecDepth 100000
set_option maxHeartbeats 4000000
/-! sorted(..) of names and of pairs of names, as rules. -/
namespace G0
open PySem PySem.Spec PyProof.Rows L2
section
variable {prog : Program} {w : World} {A : Around} {E : Value → Shared → Prop} {s : Shared}
/-- sorted(l), l a list or a tuple, whatever the order -/
theorem sorted_seq {l : Addr} {vs : List Value} {o : Obj} {n : Nat} {ltv : Value → Value → Bool} {Q : Value → Shared → Prop} (O : SrtO.Swo ltv) (ho : s.heap.get? l = some o) (hc : o.cls = .type "list" ∨ o.cls = .type "tuple") (hd : o.data = .seq vs.toArray n) (hz : vs.length ≤ sizeLine)
    (hS : 2 ≤ vs.length → ∀ (h₁ : Heap) (a : Addr), h₁.get? a = some (seqObj "list" vs.toArray 0) → (∀ b o, s.heap.get? b = some o → b ≠ a ∧ h₁.get? b = some o) → SrtO.SortableO prog w A.in1.in1 { s with heap := h₁ } a vs ltv)
    (h : ∀ (h' : Heap) (d : Addr) (out : List Value), SrtO.Srtd ltv out → SrtO.Stb ltv out vs → (∀ b o, s.heap.get? b = some o → h'.get? b = some o) → s.heap.objs.size ≤ d → (∃ n, h'.get? d = some (seqObj "list" out.toArray n)) → Q (.ref d) { s with heap := h' }) :
    wpAny (model prog w) A (call (.builtin "sorted") [.ref l]) Q E s := by
  refine Calls.call_function_entry kind_sorted plain_sorted entry_sorted (args_sorted1 _) ?_
  unfold Builtin.«sorted»
  refine wpAny_bind (m := checkCount "sorted" 1 1 _) (wpAny_pure (wpAny_bind (collect_seq ho hc hd hz (wpAny_bind (wpAny_newList ?_ hz)))))
  have e1 : ((s.heap.push (seqObj "list" #[] 0)).update s.heap.objs.size (Obj.mapSeq (· ++ vs.toArray))).objs.size = s.heap.objs.size + 1 := (Heap.size_update ..).trans (size_push' ..)
  have e2 : (((s.heap.push (seqObj "list" #[] 0)).update s.heap.objs.size (Obj.mapSeq (· ++ vs.toArray))).push (seqObj "list" vs.toArray 0)).get? (s.heap.objs.size + 1) = some (seqObj "list" vs.toArray 0) := by
    have z := Heap.get?_push_size ((s.heap.push (seqObj "list" #[] 0)).update s.heap.objs.size (Obj.mapSeq (· ++ vs.toArray))) (o := seqObj "list" vs.toArray 0) rfl
    rw [e1] at z
    exact z
  have kk : ∀ b o, s.heap.get? b = some o → b ≠ s.heap.objs.size + 1 ∧ (((s.heap.push (seqObj "list" #[] 0)).update s.heap.objs.size (Obj.mapSeq (· ++ vs.toArray))).push (seqObj "list" vs.toArray 0)).get? b = some o := fun b o q => by
    have lt : b < s.heap.objs.size := Heap.lt_size q
    exact ⟨Nat.ne_of_lt (Nat.lt_succ_of_lt lt), Heap.get?_push_of_some _ ((Heap.get?_update_ne _ _ _ _ (Nat.ne_of_lt lt)).trans (Heap.get?_push_of_some _ q))⟩
  show wpAny _ _ _ _ _ { s with heap := ((s.heap.push (seqObj "list" #[] 0)).update s.heap.objs.size (Obj.mapSeq (· ++ vs.toArray))).push (seqObj "list" vs.toArray 0) }
  rw [e1]
  refine wpAny_bind (wpAny_holding (wpAny_call_entry slot_list_sort ⟨_, e2, rfl⟩ entry_list_sort (SrtO.list_sort_ord O e2 hz (fun h2 => hS h2 _ _ e2 kk) fun out hs hb => ⟨_, rfl, ?_⟩) (args_list_sort _)))
  exact wpAny_pure ⟨_, rfl, h _ _ out hs hb (fun b o q => sortedAll_old (vs := vs) (out := out.toArray) q) (Nat.le_succ _) (sortedAll_at s.heap vs out.toArray)⟩
end
/-! ### pairs of texts -/
def IsPrS (h : Heap) (v : Value) (x y : Str) : Prop := ∃ a o t u n, v = .ref a ∧ h.get? a = some o ∧ o.cls = .type "tuple" ∧ o.data = .seq #[.str x t, .str y u] n
theorem IsPrS.keeps {h h' : Heap} {v : Value} {x y : Str} (p : IsPrS h v x y) (k : ∀ b o, h.get? b = some o → o.cls = .type "tuple" → h'.get? b = some o) : IsPrS h' v x y := by
  obtain ⟨a, o, t, u, n, e, ho, hc, hd⟩ := p
  exact ⟨a, o, t, u, n, e, k a o ho hc, hc, hd⟩
section
variable {prog : Program} {w : World} {A : Around} {E : Value → Shared → Prop} {s : Shared}
theorem prs_cmp {vs : List Value} {k : Value → Pr} (hp : ∀ v ∈ vs, IsPrS s.heap v (k v).1 (k v).2) : SrtO.Cmp prog w A s (tuples' true) (fun p => p.1 ∈ vs) (SrtO.lt2 fun v u => ltPr (k v) (k u)) := by
  intro p q hm hm'
  obtain ⟨a, o, t, u, n, e, ho, hc, hd⟩ := hp _ hm
  obtain ⟨a', o', t', u', n', e', ho', hc', hd'⟩ := hp _ hm'
  show wpAny (model prog w) A (keyLt' (tuples' true) p.1 q.1) (fun r s' => s' = s ∧ r = ltPr (k p.1) (k q.1)) (fun _ _ => False) s
  generalize k p.1 = P at hd ⊢
  generalize k q.1 = P' at hd' ⊢
  obtain ⟨x, y⟩ := P
  obtain ⟨x', y'⟩ := P'
  rw [e, e']
  have yes : x = x' → ltPr (x, y) (x', y') = ltS y y' := fun z => if_pos z
  have no : x ≠ x' → ltPr (x, y) (x', y') = ltS x x' := fun z => if_neg z
  refine PySem.W.kat_lt ho hd ho' hd' (show PySem.W.KatLex prog w A true (decide (2 < 2)) _ [(.str x t, .str x' t'), (.str y u, .str y' u')] 0 s from PySem.W.kat_cons (SeqAt.EqAt.str_str x t x' t' prog w _ _ (PySem.W.kat_go (fun e1 => ?_) fun e1 => ?_)))
  · have ex : x = x' := by simpa using e1
    refine PySem.W.kat_yes (PySem.W.kat_cons (SeqAt.EqAt.str_str y u y' u' prog w _ _ (PySem.W.kat_go (fun e2 => ?_) fun e2 => ?_)))
    · have ey : y = y' := by simpa using e2
      refine PySem.W.kat_yes (PySem.W.kat_nil ⟨rfl, ?_⟩)
      rw [yes ex, ey, ltS_irr]
      rfl
    · exact PySem.W.kat_no (PySem.W.kat_one _ _ (PyProof.Rows.lt_str (show s = s ∧ decide (y.cps.toList < y'.cps.toList) = ltPr (x, y) (x', y') from ⟨rfl, (yes ex).symm⟩)))
  · have ex : x ≠ x' := by simpa using e1
    exact PySem.W.kat_no (oneLt_str ⟨rfl, (no ex).symm⟩)
theorem prs_firsts {h : Heap} : ∀ {vs : List Value}, (∀ v ∈ vs, ∃ x y, IsPrS h v x y) → ∃ fs : List Value, PySem.W.KatTups h vs fs ∧ fs.length = vs.length ∧ ∀ f ∈ fs, ∃ x t, f = Value.str x t
  | [], _ => ⟨[], trivial, rfl, by simp⟩
  | v :: vs, hv => by
    obtain ⟨fs, h1, h2, h3⟩ := prs_firsts (vs := vs) fun u hu => hv u (by simp [hu])
    obtain ⟨x, y, a, o, t, u, n, rfl, ho, hc, hd⟩ := hv v (by simp)
    refine ⟨.str x t :: fs, ?_, by rw [List.length_cons, List.length_cons, h2], fun f hf => ?_⟩
    · exact PySem.W.KatTups.cons ho hc hd rfl h1
    · rcases List.mem_cons.mp hf with rfl | hf
      · exact ⟨x, t, rfl⟩
      · exact h3 f hf
theorem swo_prs (k : Value → Pr) : SrtO.Swo fun v u => ltPr (k v) (k u) := ⟨fun _ _ h => ltPr_asym h, fun _ _ _ h1 h2 => ltPr_tr h1 h2⟩
theorem prs_sortable {a : Addr} {vs : List Value} {k : Value → Pr} (h0 : 0 < vs.length) (hp : ∀ v ∈ vs, IsPrS s.heap v (k v).1 (k v).2) (ha : ∀ o, s.heap.get? a = some o → o.cls ≠ .type "tuple") : SrtO.SortableO prog w A s a vs fun v u => ltPr (k v) (k u) := by
  intro h' keep
  have hp' : ∀ v ∈ vs, IsPrS h' v (k v).1 (k v).2 := fun v hm => (hp v hm).keeps fun b o e c => keep b o (fun z => by subst z; exact ha o e c) e
  obtain ⟨fs, h1, h2, h3⟩ := prs_firsts fun v hm => ⟨_, _, hp' v hm⟩
  refine ⟨tuples' true, fun Q E hq => PySem.W.kat_kind (T := .type "str") h1 (by omega) (fun f hm => ?_) (by rfl) ?_, prs_cmp hp'⟩
  · obtain ⟨x, t, rfl⟩ := h3 f hm
    exact PySem.W.Looks.now
  · have e : (Value.type "str" != Value.type "tuple") = true := by first | decide +kernel | rfl | decide
    rw [e]
    exact hq
end
/-! ### the rules -/
/-- sorted(x), x a list or a tuple of texts -/
def rSortQ (K : PySem.W.Frag) : List V → Hp → VK → Prop := fun vs H Q => ∃ (a : Addr) (xs : List Str), vs = [V.ref a] ∧ (SqL K H a (xs.map V.str) ∨ SqT K H a (xs.map V.str)) ∧ ∀ p, H p = none → Q (.ref p) (upd H p (.lst ((sortS xs).map V.str)))
/-- these stand for pairs of texts -/
def PrsAt (H : Hp) (vs : List V) (ps : List Pr) : Prop := vs.length = ps.length ∧ ∀ (i : Nat) (v : V) (q : Pr), vs[i]? = some v → ps[i]? = some q → ∃ t, v = .ref t ∧ H t = some (.tup [.str q.1, .str q.2])
/-- sorted(x), x a list of pairs of texts -/
def rSortP (K : PySem.W.Frag) : List V → Hp → VK → Prop := fun vs H Q => ∃ (a : Addr) (xs : List V) (ps : List Pr), vs = [V.ref a] ∧ SqL K H a xs ∧ PrsAt H xs ps ∧ ∀ p ys, H p = none → ys.Perm xs → PrsAt H ys (sortPr ps) → Q (.ref p) (upd H p (.lst ys))
def prOf (H : Hp) : V → Pr
  | .ref t => match H t with
    | some (.tup [.str x, .str y]) => (x, y)
    | _ => default
  | _ => default
theorem prOf_at {H : Hp} {t : Addr} {x y : Str} (h : H t = some (.tup [.str x, .str y])) : prOf H (.ref t) = (x, y) := by
  show (match H t with
    | some (.tup [.str x, .str y]) => (x, y)
    | _ => default) = _
  rw [h]
theorem PrsAt.nil {H : Hp} : PrsAt H [] [] := ⟨rfl, fun i v q h => by simp at h⟩
theorem PrsAt.cons {H : Hp} {t : Addr} {q : Pr} {vs : List V} {ps : List Pr} (h : H t = some (.tup [.str q.1, .str q.2])) (r : PrsAt H vs ps) : PrsAt H (.ref t :: vs) (q :: ps) := by
  refine ⟨congrArg Nat.succ r.1, fun i v u h1 h2 => ?_⟩
  cases i with
  | zero =>
    cases h1
    cases h2
    exact ⟨t, rfl, h⟩
  | succ i => exact r.2 i v u h1 h2
theorem PrsAt.inv {H : Hp} {v : V} {q : Pr} {vs : List V} {ps : List Pr} (h : PrsAt H (v :: vs) (q :: ps)) : (∃ t, v = .ref t ∧ H t = some (.tup [.str q.1, .str q.2])) ∧ PrsAt H vs ps :=
  ⟨h.2 0 v q rfl rfl, Nat.succ.inj h.1, fun i v u h1 h2 => h.2 (i + 1) v u h1 h2⟩
theorem PrsAt.map : ∀ {H : Hp} {vs : List V} {ps : List Pr}, PrsAt H vs ps → vs.map (prOf H) = ps ∧ ∀ v ∈ vs, ∃ t, v = .ref t ∧ H t = some (.tup [.str (prOf H v).1, .str (prOf H v).2])
  | _, [], [], _ => ⟨rfl, by simp⟩
  | _, [], _ :: _, h => by cases h.1
  | _, _ :: _, [], h => by cases h.1
  | H, v :: vs, q :: ps, h => by
    obtain ⟨⟨t, rfl, ht⟩, r⟩ := h.inv
    obtain ⟨a, b⟩ := PrsAt.map r
    have e := prOf_at ht
    refine ⟨by rw [List.map_cons, a, e], fun u hu => ?_⟩
    rcases List.mem_cons.mp hu with rfl | hu
    · rw [e]
      exact ⟨t, rfl, ht⟩
    · exact b u hu
theorem PrsAt.of : ∀ {H : Hp} {vs : List V}, (∀ v ∈ vs, ∃ t, v = .ref t ∧ H t = some (.tup [.str (prOf H v).1, .str (prOf H v).2])) → PrsAt H vs (vs.map (prOf H))
  | _, [], _ => .nil
  | H, v :: vs, h => by
    obtain ⟨t, rfl, ht⟩ := h v (by simp)
    exact .cons ht (PrsAt.of fun u hu => h u (by simp [hu]))
theorem PrsAt.mono {H H' : Hp} {vs : List V} {ps : List Pr} (h : PrsAt H vs ps) (k : ∀ t xs, H t = some (.tup xs) → H' t = some (.tup xs)) : PrsAt H' vs ps := ⟨h.1, fun i v q h1 h2 => by
  obtain ⟨t, e, ht⟩ := h.2 i v q h1 h2
  exact ⟨t, e, k _ _ ht⟩⟩
theorem srtd_sortS {vs : List Value} {xs : List Str} {out : List Value} (hS : StrsAre vs xs) (h1 : SrtO.Srtd ltVS out) (h2 : out.Perm vs) : StrsAre out (sortS xs) := by
  obtain ⟨e, all⟩ := strs_vStr hS
  have so := strs_of (vs := out) fun v hv => all v (h2.mem_iff.mp hv)
  have : out.map vStr = sortS xs := by
    refine sortS_uniq ?_ (List.pairwise_map.mpr ?_)
    · rw [← e]
      exact h2.map vStr
    · refine List.Pairwise.imp ?_ h1
      intro a b hab
      unfold leS
      rw [show ltS (vStr b) (vStr a) = false from hab]
      rfl
  rw [← this]
  exact so
section
variable {X : Cx}
theorem cr_sortQ : CallR X (.builtin "sorted") (rSortQ X.K) := by
  intro pins s σ H vs us Q I r h
  obtain ⟨a, xs, rfl, hs, q⟩ := h
  have key : ∀ (its : List Value) (o : Obj) (n : Nat), Vals (xs.map V.str) its → s.heap.get? a = some o → (o.cls = .type "list" ∨ o.cls = .type "tuple") → o.data = .seq its.toArray n → (xs.map V.str).length ≤ sizeLine → wpAny (model X.prog X.w) X.A (call (.builtin "sorted") [.ref a]) (EP X pins σ Q) X.xe s := by
    intro its o n rv ho hc hd hz
    have hS := rv.strs
    obtain ⟨_, all⟩ := strs_vStr hS
    refine sorted_seq ltVS_swo ho hc hd (by rw [← rv.length]; exact hz) (fun h2 _ _ _ _ => strs_sortable all h2) fun h' d out s1 s2 kp hd' ⟨m, hm⟩ => ?_
    have so := srtd_sortS hS s1 s2.perm
    exact ⟨.ref d, upd H d (.lst ((sortS xs).map V.str)), I.laid (t' := s.toks) kp hd' ⟨by rw [List.length_map, sortS_len]; rw [List.length_map] at hz; exact hz, out, m, vals_of_strs so, hm⟩, rfl, q d (I.hok.fresh hd')⟩
  rw [Vals.ref1 r]
  rcases hs with hs | hs
  · obtain ⟨its, rv, hl, hz⟩ := I.list hs
    obtain ⟨o, ho, hc, n, hd⟩ := hl.isList
    exact key its o n rv ho (.inl hc) hd hz
  · obtain ⟨its, rv, ⟨o, ho, hc, n, hd⟩, hz⟩ := I.tuple hs
    exact key its o n rv ho (.inr hc) hd hz
theorem cr_sortP : CallR X (.builtin "sorted") (rSortP X.K) := by
  intro pins s σ H vs us Q I r h
  obtain ⟨a, xs, ps, rfl, hs, hp, q⟩ := h
  obtain ⟨its, rv, hl, hz⟩ := I.list hs
  obtain ⟨em, al⟩ := hp.map
  obtain ⟨e1, e2⟩ := refs_back rv fun x m => by
    obtain ⟨t, e, _⟩ := al x m
    exact ⟨t, e⟩
  obtain ⟨o, ho, hc, n, hd⟩ := hl.isList
  have pr : ∀ v ∈ its, IsPrS s.heap v (prOf H (backV v)).1 (prOf H (backV v)).2 := fun v hv => by
    obtain ⟨t, rfl⟩ := e2 v hv
    obtain ⟨t', e, ht⟩ := al (backV (.ref t)) (by rw [e1]; exact List.mem_map.mpr ⟨_, hv, rfl⟩)
    cases e
    obtain ⟨_, its2, r2, o2, ho2, hc2, n2, hd2⟩ := I.hok _ _ ht
    obtain ⟨u1, u2, rfl, ri, rj⟩ := vals2 r2
    obtain ⟨t1, rfl⟩ := ri
    obtain ⟨t2, rfl⟩ := rj
    exact ⟨t, o2, t1, t2, n2, rfl, ho2, hc2, hd2⟩
  rw [Vals.ref1 r]
  refine sorted_seq (swo_prs fun u => prOf H (backV u)) ho (.inl hc) hd (by rw [← rv.length]; exact hz) (fun h2 h₁ b hb kk => ?_) fun h' d out s1 s2 kp hd' ⟨m, hm⟩ => ?_
  · refine prs_sortable (s := { s with heap := h₁ }) (by omega) (fun v hm => (pr v hm).keeps fun b o e _ => (kk b o e).2) fun o e => ?_
    have e' := Option.some.inj (e.symm.trans hb)
    rw [e']
    intro c
    exact absurd (Value.type.inj c) (by decide)
  · have h3 : ∀ u ∈ out, ∃ a, u = Value.ref a := fun u hu => e2 u (s2.perm.mem_iff.mp hu)
    have pm : (out.map backV).Perm xs := by
      rw [e1]
      exact s2.perm.map backV
    have pa : PrsAt H (out.map backV) (sortPr ps) := by
      have z := PrsAt.of (H := H) (vs := out.map backV) fun v hv => al v (pm.mem_iff.mp hv)
      have e3 : (out.map backV).map (prOf H) = sortPr ps := by
        refine sortPr_uniq ?_ ?_
        · rw [← em]
          exact pm.map (prOf H)
        · rw [List.map_map]
          refine List.pairwise_map.mpr (List.Pairwise.imp ?_ s1)
          intro x y hxy
          unfold lePr
          rw [show ltPr ((prOf H ∘ backV) y) ((prOf H ∘ backV) x) = false from hxy]
          rfl
      rw [← e3]
      exact z
    have lz : (out.map backV).length ≤ sizeLine := by
      rw [pm.length_eq]
      exact hz
    exact ⟨.ref d, upd H d (.lst (out.map backV)), I.laid (t' := s.toks) kp hd' ⟨lz, out, m, vals_back h3, hm⟩, rfl, q d _ (I.hok.fresh hd') pm pa⟩
end
end G0

set_option Elab.async false
set_option linter.all false
set_option maxRecDepth 100000
set_option maxHeartbeats 4000000
/-! The text by places; kinds of values. -/
namespace E1
open PySem PySem.Spec PyProof.Rows L2 G0
def topS (i : Nat) : Stmt := PySem.Challenge.pw_mustcross_k64_whole_boards_within.main.body.getD i (.Pass ⟨0, 0, 0, 0⟩)
def tName (i : Nat) : Str := match topS i with
  | .FunctionDef n _ _ _ _ _ _ _ _ _ => n
  | _ => default
abbrev FnS (K : PySem.W.Frag) (i : Nat) (f : Addr) (fd : FuncData) : Prop := Fun K (tName i) (tName i) (topS i) f fd
/-- the class of boards, as isinstance asks it -/
structure OwnC (K : PySem.W.Frag) (C : Addr) : Prop where
  cl : Cls K C
  ha : PySem.W.findIn K (.ref C) "__class__" = some (some (.builtin "object.__class__"))
  hn : PySem.W.specialIn K (.builtin "object.__class__") "__get__" = some (some (.builtin "getset_descriptor.__get__"))
  htk : PySem.W.takesIn K (.builtin "object.__class__") = some true
  hm : PySem.W.mroIn K C (.type "object") = some true
  no : ∀ T, T ∈ ["str", "list", "tuple", "dict", "int", "bool"] → PySem.W.kitOne K (.ref C) (.type T) = some false
  ty : ∀ T, T ∈ ["str", "list", "tuple", "dict", "int", "bool", "NoneType"] → PySem.W.kitOne K (.type T) (.ref C) = some false
/-- a value whose kind is known -/
inductive Kn (C : Addr) (H : Hp) : V → Prop
  | non : Kn C H .non
  | bl (b : Bool) : Kn C H (.bl b)
  | int (i : Int) : Kn C H (.int i)
  | str (x : Str) : Kn C H (.str x)
  | lst {a : Addr} {xs : List V} (e : H a = some (.lst xs)) : Kn C H (.ref a)
  | tup {a : Addr} {xs : List V} (e : H a = some (.tup xs)) : Kn C H (.ref a)
  | dic {a : Addr} {kvs : List (Key × V)} (e : H a = some (.dK kvs)) : Kn C H (.ref a)
  | own {a dx : Addr} {fs : List (Str × V)} (e : H a = some (.ins C dx fs)) : Kn C H (.ref a)
/-- its kind's name; the empty one for a board -/
def kdOf (H : Hp) : V → String
  | .non => "NoneType"
  | .bl _ => "bool"
  | .int _ => "int"
  | .str _ => "str"
  | .ref a => match H a with
    | some (.lst _) => "list"
    | some (.tup _) => "tuple"
    | some (.dK _) => "dict"
    | _ => ""
  | _ => ""
def isSeq (H : Hp) (v : V) : Bool := kdOf H v == "list" || kdOf H v == "tuple"
theorem Kn.same {C : Addr} {H H' : Hp} {v : V} (k : Kn C H v) (S : Same H H') : Kn C H' v ∧ kdOf H' v = kdOf H v := by
  cases k with
  | non => exact ⟨.non, rfl⟩
  | bl b => exact ⟨.bl b, rfl⟩
  | int i => exact ⟨.int i, rfl⟩
  | str x => exact ⟨.str x, rfl⟩
  | lst e => exact ⟨.lst (S _ _ e), by simp only [kdOf, e, S _ _ e]⟩
  | tup e => exact ⟨.tup (S _ _ e), by simp only [kdOf, e, S _ _ e]⟩
  | dic e => exact ⟨.dic (S _ _ e), by simp only [kdOf, e, S _ _ e]⟩
  | own e => exact ⟨.own (S _ _ e), by simp only [kdOf, e, S _ _ e]⟩
/-- isinstance(v, T) -/
theorem kn_isi {K : PySem.W.Frag} {C : Addr} {H : Hp} {v : V} (O : OwnC K C) (k : Kn C H v) : ∃ t, TyX K H v t ∧ ∀ T, T ∈ ["str", "list", "tuple", "dict", "int"] → PySem.W.kitOne K t (.type T) = some (kdOf H v == T || (kdOf H v == "bool" && T == "int")) := by
  have all := (by decide +kernel : ∀ T ∈ ["str", "list", "tuple", "dict", "int"], ∀ a ∈ ["NoneType", "bool", "int", "str", "list", "tuple", "dict"], kitB a T = some (a == T || (a == "bool" && T == "int")))
  have tk : ∀ a, a ∈ ["NoneType", "bool", "int", "str", "list", "tuple", "dict"] → ∀ T, T ∈ ["str", "list", "tuple", "dict", "int"] → PySem.W.kitOne K (.type a) (.type T) = some (a == T || (a == "bool" && T == "int")) := fun a ha T hT => kit_ty (all T hT a ha)
  cases k with
  | non => exact ⟨_, .base .non, tk _ (by decide)⟩
  | bl b => exact ⟨_, .base (.bl b), tk _ (by decide)⟩
  | int i => exact ⟨_, .base (.int i), tk _ (by decide)⟩
  | str x => exact ⟨_, .base (.str x), tk _ (by decide)⟩
  | lst e => exact ⟨_, .base (.lst e), by simp only [kdOf, e]; exact tk _ (by decide)⟩
  | tup e => exact ⟨_, .base (.tup e), by simp only [kdOf, e]; exact tk _ (by decide)⟩
  | dic e => exact ⟨_, .base (.dK e), by simp only [kdOf, e]; exact tk _ (by decide)⟩
  | own e =>
    refine ⟨_, .base (.ins e O.cl O.ha O.hn O.htk O.hm), fun T hT => ?_⟩
    simp only [kdOf, e]
    have h1 : T ∈ ["str", "list", "tuple", "dict", "int", "bool"] := by
      simp only [List.mem_cons, List.not_mem_nil, or_false] at hT ⊢
      rcases hT with rfl | rfl | rfl | rfl | rfl <;> simp
    rw [O.no T h1]
    simp only [List.mem_cons, List.not_mem_nil, or_false] at hT
    rcases hT with rfl | rfl | rfl | rfl | rfl <;> decide
/-- isinstance(v, (list, tuple)) -/
theorem kn_seq {K : PySem.W.Frag} {C : Addr} {H : Hp} {v : V} (O : OwnC K C) (k : Kn C H v) : ∃ t, TyX K H v t ∧ PySem.W.kitAny K t [.type "list", .type "tuple"] = some (isSeq H v) := by
  obtain ⟨t, h1, h2⟩ := kn_isi O k
  have a := h2 "list" (by decide)
  have b := h2 "tuple" (by decide)
  simp only [show (("list" : String) == "int") = false from by decide, show (("tuple" : String) == "int") = false from by decide, Bool.and_false, Bool.or_false] at a b
  refine ⟨t, h1, kitAny_cons a (fun z => kitAny_cons b (fun y => ?_) fun y => ?_) fun z => ?_⟩
  · unfold isSeq
    rw [z, y]
    rfl
  · unfold isSeq
    rw [y, Bool.or_true]
  · unfold isSeq
    rw [z, Bool.true_or]
def isStrV : V → Bool
  | .str _ => true
  | _ => false
theorem kd_str {C : Addr} {H : Hp} {v : V} (k : Kn C H v) : (kdOf H v == "str") = isStrV v := by
  cases k with
  | non => rfl
  | bl b => rfl
  | int i => rfl
  | str x => rfl
  | lst e => simp only [kdOf, e]; rfl
  | tup e => simp only [kdOf, e]; rfl
  | dic e => simp only [kdOf, e]; rfl
  | own e => simp only [kdOf, e]; rfl
theorem kn_str {K : PySem.W.Frag} {C : Addr} {H : Hp} {v : V} (O : OwnC K C) (k : Kn C H v) : ∃ t, TyX K H v t ∧ PySem.W.kitOne K t (.type "str") = some (isStrV v) := by
  obtain ⟨t, h1, h2⟩ := kn_isi O k
  have a := h2 "str" (by decide)
  rw [show (("str" : String) == "int") = false from by decide, Bool.and_false, Bool.or_false, kd_str k] at a
  exact ⟨t, h1, a⟩
end E1

set_option Elab.async false
set_option linter.all false
set_option maxRecDepth 100000
set_option maxHeartbeats 4000000
/-! names.py -/
namespace E1
open PySem PySem.Spec PyProof.Rows L2 G0
/-! ### a comprehension over a text -/
theorem lc_str {z : Str} {g : TG} {tt : TT} {te : TE} {vs : List Nat} {σ : L2.St} {H1 : Hp} {D : Addr} {Qd : Hp → Prop} (Pv : Nat → Hp → Prop) (h0 : Pv 0 (upd H1 D (.lst [])))
    (hs : ∀ i c H, z.cps[i]? = some c → Pv i H → g (.str ⟨#[c]⟩) (wipe σ vs) H fun σ2 H2 => wipe σ2 vs = wipe σ vs ∧ tt σ2 H2 fun b H3 =>
      if b = true then te σ2 H3 fun y H4 => ∃ acc, H4 D = some (.lst acc) ∧ acc.length < sizeLine ∧ Pv (i + 1) (upd H4 D (.lst (acc ++ [y]))) else Pv (i + 1) H3) (hd : ∀ H, Pv z.cps.size H → Qd H) :
    ∃ W : Nat → Nat → Hp → Prop, (∃ m, W 0 m (upd H1 D (.lst []))) ∧ ∀ i m H, W i m H →
      ((Its z).stop i H ∧ Qd H) ∨ ((Its z).go i H ∧ ∃ Nx : Hp → Prop, (∀ H', Nx H' → ∃ m', m' < m ∧ W (i + 1) m' H') ∧ ∀ x H', (Its z).yld i H x H' → g x (wipe σ vs) H' fun σ2 H2 => wipe σ2 vs = wipe σ vs ∧ tt σ2 H2 fun b H3 =>
        if b = true then te σ2 H3 fun y H4 => ∃ acc, H4 D = some (.lst acc) ∧ acc.length < sizeLine ∧ Nx (upd H4 D (.lst (acc ++ [y]))) else Nx H3) := by
  refine ⟨fun i m H => m = z.cps.size - i ∧ i ≤ z.cps.size ∧ Pv i H, ⟨z.cps.size, by simp, Nat.zero_le _, h0⟩, fun i m H ⟨em, hi, p⟩ => ?_⟩
  subst em
  rcases Nat.lt_or_ge i z.cps.size with lt | ge
  · refine .inr ⟨lt, Pv (i + 1), fun H' p' => ⟨z.cps.size - (i + 1), by omega, rfl, lt, p'⟩, fun x H' y => ?_⟩
    obtain ⟨rfl, c, hc, rfl⟩ := y
    exact hs i c _ hc p
  · have e : i = z.cps.size := by omega
    exact .inl ⟨ge, hd H (by rw [← e]; exact p)⟩
theorem yes_of {σ : L2.St} {H : Hp} {f g : Hp → Prop} (h : f H) : tYes σ H (fun b H3 => if b = true then f H3 else g H3) := by
  show (if true = true then f H else g H)
  exact iteT h
theorem new_same {H : Hp} {a : Addr} {o : HO} (n : H a = none) : Same H (upd H a o) := fun b u e => by
  rw [upd_ne (ne_of_none e n)]
  exact e
theorem same_upd {H H' : Hp} {a : Addr} {o : HO} (S : Same H H') (n : H a = none) : Same H (upd H' a o) := fun b u e => by
  rw [upd_ne (ne_of_none e n)]
  exact S _ _ e
/-! ### the texts of names -/
def lettersS : Str := "abcdefghijklmnopqrstuvwxyz"
def signsS : Str := "abcdefghijklmnopqrstuvwxyz0123456789"
def wordsL : List Str := ["place", "tie", "rim", "pair", "way", "fold", "behind", "at", "cross", "none", "apart", "not", "watch", "hold"]
def nameB (z : Str) : Bool := (decide (0 < z.length) && decide (z.length ≤ 8)) && ((match z.cps[0]? with
  | some c => decide (c ∈ lettersS.cps.toList)
  | none => false) && (!decide (z ∈ wordsL) && z.cps.toList.all fun c => decide (c ∈ signsS.cps.toList)))
def nameV : V → Bool
  | .str z => nameB z
  | _ => false
structure TxtN (K : PySem.W.Frag) (mg : Str → Option Value) : Prop where
  isinstance : mg "isinstance" = none
  str : mg "str" = none
  list : mg "list" = none
  tuple : mg "tuple" = none
  len : mg "len" = none
  all : mg "all" = none
  enumerate : mg "enumerate" = none
  sorted : mg "sorted" = none
  letters : ∃ t, mg "LETTERS" = some (.str lettersS t)
  signs : ∃ t, mg "NAME_SIGNS" = some (.str signsS t)
  longest : ∃ t, mg "LONGEST_NAME" = some (.int 8 t)
  words : ∃ a, mg "WORDS" = some (.ref a) ∧ ∀ H, SqT K H a (wordsL.map V.str)
theorem boot_tuple : bootBuiltins "tuple" = some (.type "tuple") := by decide +kernel
theorem boot_str : bootBuiltins "str" = some (.type "str") := by decide +kernel
theorem inV_strs (z : Str) : ∀ l : List Str, inV (.str z) (l.map V.str) = decide (z ∈ l)
  | [] => rfl
  | x :: l => by
    show (eqV (.str x) (.str z) || inV (.str z) (l.map V.str)) = decide (z ∈ x :: l)
    rw [inV_strs z l]
    by_cases e : z = x
    · subst e
      have : eqV (.str z) (.str z) = true := by simp [eqV]
      rw [this]
      simp
    · have : eqV (.str x) (.str z) = false := by simp [eqV, Ne.symm e]
      rw [this]
      simp [e]
theorem flat_strs : ∀ l : List Str, (l.map V.str).all flatV = true
  | [] => rfl
  | x :: l => by rw [List.map_cons, List.all_cons, flat_strs l]; rfl
abbrev s_is_name : Stmt := topS 16
abbrev N_is_name : List Str := ["thing", "sign"]
theorem sc_is_name : FnScope N_is_name ["thing"] (defScope s_is_name) := ⟨rfl, rfl, rfl, by decide +kernel, rfl, by decide +kernel, by decide +kernel⟩
def spIsName (C : Addr) : Sp := fun vs H Q _ => ∃ v, vs = [v] ∧ Kn C H v ∧ (∀ z, v = .str z → z.length ≤ 1000) ∧ ∀ H', Same H H' → Q (.bl (nameV v)) H'
section
variable {P : Program} {w : World} {K : PySem.W.Frag} {mg : Str → Option Value} {base : Heap} {C f : Addr} {fd : FuncData}
theorem ok_is_name (F : FnS K 16 f fd) (T : TxtN K mg) (O : OwnC K C) : FnOk P w K mg base CX0 1 f fd ["thing"] (spIsName C) := by
  obtain ⟨tL, gL⟩ := T.letters
  obtain ⟨tS, gS⟩ := T.signs
  obtain ⟨t8, g8⟩ := T.longest
  obtain ⟨aW, gW, hW⟩ := T.words
  refine Fun.ok F sc_is_name (fun vs H Q E h => ?_) (fun cdv A outer s H vs Q E hr h => ⟨_, pss_cons (ps_if (PW.pt (pw_or (pt_not (pt_val (pe_callB call_isi (by rfl) T.isinstance (by decide +kernel) (pa_cons (pv 0) (pa_cons (pe_bltn (by rfl) T.str boot_str (v := .ty "str") rfl) pa_nil))))) (pw_or1 (pt_not (pt_chain op_lt op_le pe_int (pe_callB call_len_str (by rfl) T.len PySem.boot_len (pa_cons (pv 0) pa_nil)) (pe_glob (by rfl) g8 (v := .int 8) ⟨_, rfl⟩)))))) (pss_one (ps_ret pe_bl)) pss_nil)
    (pss_cons (ps_if (PW.pt (pw_or (pt_cmpR op_notIn_sign (pe_ix ix_str (pv 0) pe_int (fun _ _ => rfl)) (pe_glob (by rfl) gL (v := .str lettersS) ⟨_, rfl⟩) (by rfl)) (pw_or1 (pt_cmpR op_in_seq (pv 0) (pe_glob (by rfl) gW (v := .ref aW) rfl) (by rfl))))) (pss_one (ps_ret pe_bl)) pss_nil)
    (pss_one (ps_ret (pe_callB (cr_all rfl) (by rfl) T.all (by decide +kernel) (pa_cons (pe_lc (own := [("sign", 1)]) (tt := tYes) rfl sc_is_name.nd (pi_str (pv 0)) (blkOk_by (own := [("sign", 1)]) (N := N_is_name) (sc := defScope s_is_name) (by decide +kernel)) (fun _ _ _ _ _ => (pg_name (i := 1) sc_is_name.nd rfl (Or.inl rfl))) (fun _ _ _ _ _ => pts_nil) (fun _ _ _ _ _ => (pe_cmpR op_in_sign (pv 1) (pe_glob (by rfl) gS (v := .str signsS) ⟨_, rfl⟩) (by rfl)))) pa_nil))))), ?_⟩)
  · obtain ⟨v, rfl, _⟩ := h
    rfl
  · obtain ⟨v, rfl, hk, hl, k⟩ := h
    obtain ⟨t, ty, ki⟩ := kn_str O hk
    refine ⟨_, rfl, v, _, t, _, isStrV v, rfl, .ty _, ty, ki, _, rfl, ?_⟩
    have no : nameV v = false → Q (.bl false) H := fun e => by
      have := k H (Same.refl H)
      rw [e] at this
      exact this
    cases v with
    | str z =>
      have hz := hl z rfl
      have hzl : z.length ≤ sizeLine := Nat.le_of_lt (small1000 hz)
      have e0 : nameB z = ((decide (0 < z.length) && decide (z.length ≤ 8)) && ((match z.cps[0]? with
        | some c => decide (c ∈ lettersS.cps.toList)
        | none => false) && (!decide (z ∈ wordsL) && z.cps.toList.all fun c => decide (c ∈ signsS.cps.toList)))) := rfl
      refine iteF ⟨_, rfl, z, rfl, hzl, 0, (z.length : Int), rfl, rfl, _, rfl, ?_⟩
      refine ite2 (fun h0 => ?_) (fun h0 => ?_)
      · have h0' : 0 < z.length := by
          have := of_decide_eq_true h0
          omega
        refine ⟨(z.length : Int), 8, rfl, rfl, _, rfl, ?_⟩
        cases h8 : decide ((z.length : Int) ≤ 8) with
        | false =>
          refine iteT (no ?_)
          have : decide (z.length ≤ 8) = false := decide_eq_false fun q => of_decide_eq_false h8 (by omega)
          show nameB z = false
          rw [e0, this, Bool.and_false, Bool.false_and]
        | true =>
          refine iteF ?_
          have h8' : z.length ≤ 8 := by
            have := of_decide_eq_true h8
            omega
          have hs : z.cps.size = z.length := rfl
          obtain ⟨c0, hc0⟩ : ∃ c, z.cps[0]? = some c := ⟨z.cps[0]'(by omega), Array.getElem?_eq_getElem _⟩
          have hc0' : z.cps.toList[0]? = some c0 := by rw [Array.getElem?_toList]; exact hc0
          rw [decide_eq_true h0', decide_eq_true h8', hc0] at e0
          refine ⟨_, rfl, _, 0, c0, rfl, rfl, hzl, atI_nat hc0', c0, lettersS, rfl, rfl, _, rfl, ?_⟩
          cases hL : decide (c0 ∈ lettersS.cps.toList) with
          | false =>
            refine iteT (iteT (no ?_))
            show nameB z = false
            rw [e0]
            simp only [hL]
            rfl
          | true =>
            refine iteF ⟨_, rfl, aW, _, rfl, .inr (hW _), rfl, flat_strs _, _, rfl, ?_⟩
            rw [inV_strs]
            cases hW : decide (z ∈ wordsL) with
            | true =>
              refine iteT (no ?_)
              show nameB z = false
              rw [e0]
              simp only [hL, hW]
              rfl
            | false =>
              refine iteF ⟨_, rfl, z, rfl, fun D hD => lc_str (fun i H' => H' D = some (.lst ((z.cps.toList.take i).map fun c => V.bl (decide (c ∈ signsS.cps.toList)))) ∧ Same H H') ⟨by rw [upd_same]; rfl, new_same hD⟩ ?_ ?_⟩
              · rintro i c H' hc ⟨h, S⟩
                have hi : i < z.cps.toList.length := by
                  have := (Array.getElem?_eq_some_iff.mp hc).1
                  rw [Array.length_toList]
                  exact this
                have et : z.cps.toList.take (i + 1) = z.cps.toList.take i ++ [c] := by
                  rw [List.take_succ, Array.getElem?_toList, hc]
                  rfl
                refine ⟨rfl, yes_of ⟨_, rfl, c, signsS, rfl, rfl, _, h, ?_, ?_, same_upd S hD⟩⟩
                · rw [List.length_map, List.length_take]
                  refine small1000 (Nat.le_trans (Nat.min_le_right _ _) ?_)
                  rw [Array.length_toList]
                  exact Nat.le_trans (Nat.le_of_eq hs) (by omega)
                · rw [upd_same, et, List.map_append]
                  rfl
              · rintro H' ⟨h, S⟩
                have ea : z.cps.toList.take z.cps.size = z.cps.toList := List.take_of_length_le (by rw [Array.length_toList]; exact Nat.le_refl _)
                rw [ea] at h
                refine ⟨D, z.cps.toList.map fun c => decide (c ∈ signsS.cps.toList), rfl, SqL.of (by rw [h, List.map_map]; rfl), ?_⟩
                have := k H' S
                have en : nameV (.str z) = (z.cps.toList.map fun c => decide (c ∈ signsS.cps.toList)).all id := by
                  show nameB z = _
                  rw [e0, List.all_map]
                  simp only [hL, hW]
                  rfl
                rw [en] at this
                exact this
      · refine ⟨false, rfl, iteT (no ?_)⟩
        have : decide (0 < z.length) = false := decide_eq_false fun q => h0 (decide_eq_true (by omega))
        show nameB z = false
        rw [e0, this, Bool.false_and, Bool.false_and]
    | _ => exact iteT (no rfl)
end
end E1

set_option Elab.async false
set_option linter.all false
set_option maxRecDepth 100000
set_option maxHeartbeats 4000000
/-! Walks over what may be a list or a tuple; enumerate of a tuple. -/
namespace PySem
open Sem (wp)
open AutoSeq1 (wpAny_loadPart')
set_option maxRecDepth 100000
theorem meets_enumT (l : Addr) (items : Array Value) (n : Nat) (dct : Option Addr) (sl : Array (Option Value)) :
    Meets (Builtin.«enumerate.__new__» ⟨[.type "enumerate", .ref l], []⟩) (fun _ R s => s.heap.get? l = some { cls := .type "tuple", dict := dct, data := .seq items n, slots := sl } ∧
      R (.ok (.ret (.ref (s.heap.push { cls := .type "tuple_iterator", data := .fields #[.ref l, .int 0 0] }).objs.size)))
        { s with heap := (s.heap.push { cls := .type "tuple_iterator", data := .fields #[.ref l, .int 0 0] }).push { cls := .type "enumerate", data := .fields #[.none, .bool false, .ref s.heap.objs.size, rawInt 0, .none, .none] } }) :=
  .of_wp fun prog w A R s h => by
    obtain ⟨hp, g, d, tk, os⟩ := s
    obtain ⟨hl, h⟩ := h
    have hsub := sub_enumerate
    have hL : Heap.IsTuple (Shared.heap ⟨hp, g, d, tk, os⟩) l items := ⟨_, hl, rfl, n, rfl⟩
    wp_walk using wpAny_loadPart' hl
    refine wpAny_stack_any fun st => wpAny_pure ?_
    split
    · rename_i c _ _ _ _ _
      cases (c == Value.type "enumerate")
      all_goals (wp_walk using wpAny_loadPart' hl, wpAny_pyIter_tuple hL; exact ⟨_, rfl, h⟩)
    · wp_walk using wpAny_loadPart' hl, wpAny_pyIter_tuple hL
      exact ⟨_, rfl, h⟩
section
variable {prog : Program} {w : World} {A : Around} {E : Value → Shared → Prop} {s : Shared}
theorem call_enumT {l : Addr} {items : Array Value} {Q : Value → Shared → Prop} (hL : s.heap.IsTuple l items)
    (h : ∀ h', IsEnum h' (s.heap.objs.size + 1) s.heap.objs.size 0 .none → h'.IsTupleIter s.heap.objs.size l 0 → h'.objs.size = s.heap.objs.size + 2 → (∀ b o, s.heap.get? b = some o → h'.get? b = some o) → Q (.ref (s.heap.objs.size + 1)) { s with heap := h' }) :
    wpAny (model prog w) A (call (.type "enumerate") [.ref l]) Q E s := by
  obtain ⟨⟨c, dct, dt, sl⟩, hl, hc, n, hd⟩ := hL
  have hc : c = .type "tuple" := hc
  have hd : dt = .seq items n := hd
  subst hc hd
  have hz : (s.heap.push { cls := .type "tuple_iterator", data := .fields #[.ref l, .int 0 0] }).objs.size = s.heap.objs.size + 1 := Heap.size_push ..
  have he : IsEnum ((s.heap.push { cls := .type "tuple_iterator", data := .fields #[.ref l, .int 0 0] }).push { cls := .type "enumerate", data := .fields #[.none, .bool false, .ref s.heap.objs.size, rawInt 0, .none, .none] }) (s.heap.objs.size + 1) s.heap.objs.size 0 .none := by
    have q := Heap.get?_push_size (s.heap.push { cls := .type "tuple_iterator", data := .fields #[.ref l, .int 0 0] }) (o := { cls := .type "enumerate", data := .fields #[.none, .bool false, .ref s.heap.objs.size, rawInt 0, .none, .none] }) rfl
    rw [hz] at q
    exact q
  refine callType_new F.called_enumerate (by decide) (F.typeCall_enumerate_1 _) (F.newCall_enumerate_1 _) (fun obj => F.args_object_init_2 obj _) F.entry_enumerate_new (meets_enumT l items n dct sl) ⟨hl, ?_⟩
  show _ ∧ _
  rw [hz]
  exact ⟨⟨_, he, rfl⟩, h _ he ⟨_, Heap.get?_push_of_some _ (Heap.get?_push_size _ rfl), rfl, rfl⟩ (by rw [Heap.size_push, hz]) fun b o x => Heap.get?_push_of_some _ (Heap.get?_push_of_some _ x)⟩
end
end PySem
namespace G0
open PySem PySem.Spec PyProof.Rows L2
/-- a list or a tuple, by its items -/
def SqQ (K : PySem.W.Frag) (H : Hp) (a : Addr) (xs : List V) : Prop := SqL K H a xs ∨ SqT K H a xs
def IteT (K : PySem.W.Frag) (a : Addr) : It :=
  ⟨fun i H => ∃ (xs : List V) (x : V), SqT K H a xs ∧ xs[i]? = some x, fun i H v H' => ∃ T x, v = .ref T ∧ H T = none ∧ H' = upd H T (.tup [.int (i : Nat), x]) ∧ ∀ xs, SqT K H a xs → xs[i]? = some x, fun i H => ∃ xs : List V, SqT K H a xs ∧ xs.length = i⟩
theorem turn_enumT {P : Program} {w : World} {K : PySem.W.Frag} {elts : List Expr} {kk : Nat} {tpos : Pos} (a e it : Addr) (hat : a ≠ it) (hae : e ≠ a) :
    Turn P w K (.Tuple elts kk tpos) (IteT K a) [e, it] e (fun i h => (∃ old, IsEnum h e it ((i : Nat) : Int) old) ∧ h.IsTupleIter it a i ∧ e ≠ it) where
  mem := by simp
  obj := fun i h st b hb => by
    obtain ⟨⟨old, he⟩, ⟨o, ho, hc, hd⟩, _⟩ := st
    rcases (show b = e ∨ b = it by simpa using hb) with rfl | rfl
    · exact ⟨_, he, fun v q => nomatch q⟩
    · exact ⟨o, ho, fun v q => by rw [hd] at q; cases q⟩
  keep := fun i h h' st k => by
    obtain ⟨⟨old, he⟩, hi, hne⟩ := st
    exact ⟨⟨old, k e (by simp) _ he⟩, hi.at fun o q => k it (by simp) o q, hne⟩
  item := by
    intro X hP hw hK hc i pins s σ H E I hf st hg
    subst hP hw hK
    obtain ⟨⟨old, he⟩, hit, hne⟩ := st
    obtain ⟨xs, x, hq, hx⟩ := hg
    obtain ⟨its, rv, p, hz⟩ := I.tuple hq
    obtain ⟨u, hu, ru⟩ := rv.get hx
    have p' : s.heap.IsTuple a its.toArray := p
    have hel : e < s.heap.objs.size := Heap.lt_size he
    have hil : it < s.heap.objs.size := by
      obtain ⟨_, q, _⟩ := hit
      exact Heap.lt_size q
    have hin : i < its.toArray.size := by
      have := (List.getElem?_eq_some_iff.mp hu).1
      simpa using this
    refine wpAny_pyNext_enum_itemD (Draws.tuple (A := X.A.in1) (I.ok.hd hc) it a hat its.toArray) he ⟨hit, p'⟩ hin hne (by simp [hne, hae]) fun y h' tk hy ho hst' hT hsz hk => ?_
    have ey : y = u := by
      have hy : its.toArray[i]? = some y := hy
      have hu' : its.toArray[i]? = some u := by simpa using hu
      exact Option.some.inj (hy.symm.trans hu')
    subst ey
    refine ⟨_, rfl, wpAny_letOwnedTupleGo_enum (s := { s with heap := h', toks := tk + 1 }) ho fun h'' he' sb => ?_⟩
    have hT2 : h''.get? s.heap.objs.size = some { cls := .type "tuple", data := .seq #[.int i tk, y] } := (sb.2 _ (Nat.ne_of_gt hel)).trans hT
    have new : ObjOk X.prog X.w (upd H s.heap.objs.size (.tup [.int (i : Nat), x])) h'' s.heap.objs.size (.tup [.int (i : Nat), x]) := ⟨by show 2 ≤ sizeLine; decide, [.int i tk, y], .cons ⟨_, rfl⟩ (.cons ru .nil), ⟨_, hT2, rfl, _, rfl⟩⟩
    have I1 : Inv X pins σ (upd H s.heap.objs.size (.tup [.int (i : Nat), x])) { s with heap := h'', toks := tk + 1 } :=
      I.turnedNew (ch := [e, it]) (fun b ob hb q => (sb.2 b (fun z => hb (by simp [z]))).trans (hk b ob (fun z => hb (by simp [z])) (fun z => hb (by simp [z])) q)) hf (Nat.le_refl _) new
    refine ⟨.ref s.heap.objs.size, _, I1, rfl, ⟨_, x, rfl, I.hok.fresh (Nat.le_refl _), rfl, fun ys hy => by rw [I.tuple_inj hy hq]; exact hx⟩, ⟨⟨y, ?_⟩, hst'.1.at fun o q => (sb.2 it (Ne.symm hne)).trans q, hne⟩, fun b hb => ?_⟩
    · rw [show ((i + 1 : Nat) : Int) = (i : Int) + 1 by omega]
      exact he'
    · have hb' : b < s.heap.objs.size := by
        rcases (show b = e ∨ b = it by simpa using hb) with rfl | rfl
        · exact hel
        · exact hil
      rw [upd_ne (Nat.ne_of_lt hb')]
      exact (hf b hb).1
  done := by
    intro X hP hw hK hc i pins s σ H E I hf st hg
    subst hP hw hK
    obtain ⟨⟨old, he⟩, hit, hne⟩ := st
    obtain ⟨xs, hq, hx⟩ := hg
    obtain ⟨its, rv, p, hz⟩ := I.tuple hq
    have p' : s.heap.IsTuple a its.toArray := p
    obtain ⟨f0, f1, f2, f3, f4, f5⟩ := hf it (by simp)
    have ei : i = its.toArray.size := by
      have := rv.length
      simp
      omega
    subst ei
    exact wpAny_pyNext_enum_endD (Draws.tuple (A := X.A.in1) (I.ok.hd hc) it a hat its.toArray) he ⟨hit, p'⟩ fun h' eb => ⟨rfl, I.turned (t' := s.toks) (fun b o hb q => eb b o hb q) f0 f1 f3 f4 f5⟩
  self := fun A i s Q E st h => let ⟨⟨_, he⟩, _⟩ := st; wpAny_pyIter_enum he h
/-- enumerate(x), x a list or a tuple -/
def iEnumQ (K : PySem.W.Frag) (ta : TA) : TI := fun σ H R => ta σ H fun vs H1 => ∃ a xs, vs = [.ref a] ∧ ((SqL K H1 a xs ∧ R (Ite K a) H1) ∨ (SqT K H1 a xs ∧ R (IteT K a) H1))
theorem pi_enumQ {X : Cx} {e : Expr} {ta : TA} {p pos tpos : Pos} {elts : List Expr} {kk : Nat} (hg : Gl X "enumerate") (hm : X.mg "enumerate" = none) (ha : PA X [e] ta) (hs : starEach [e] X.env = [(false, eval e X.env)] := by rfl) :
    PI X (.Tuple elts kk tpos) (.Call (.Name "enumerate" p) [e] [] pos) (iEnumQ X.K ta) := by
  refine ⟨fun pins s σ H R I h => Call_ (ld_blt I hg hm boot_enumerate (PyProof.Rows.callWith_type1 (thn (ha.run pos pins s σ H _ I h) fun us s1 ⟨vs, H1, I1, r1, q1⟩ => ?_) hs rfl))⟩
  obtain ⟨a, xs, rfl, q⟩ := q1
  cases r1 with
  | cons r rr =>
    cases rr
    cases r
    have two : ∀ b ∈ [s1.heap.objs.size + 1, s1.heap.objs.size], s1.heap.objs.size ≤ b := fun b hb => by
      rcases (show b = s1.heap.objs.size + 1 ∨ b = s1.heap.objs.size by simpa using hb) with rfl | rfl
      · exact Nat.le_succ _
      · exact Nat.le_refl _
    rcases q with ⟨hq, q⟩ | ⟨hq, q⟩
    · obtain ⟨its, rv, p', hz⟩ := I1.list hq
      exact call_enumerate_list p'.isList fun h' he hit hsz hk => wpAny_pyIter_enum he ⟨s1.heap.objs.size + 1, [s1.heap.objs.size + 1, s1.heap.objs.size], _, _, H1, rfl, I1.kept (t' := s1.toks) hk, turn_enum a (s1.heap.objs.size + 1) s1.heap.objs.size, ⟨⟨.none, he⟩, hit, Nat.succ_ne_self _⟩, fun b hb => I1.fpOk (two b hb) (I1.hok.fresh (two b hb)), q⟩
    · obtain ⟨its, rv, p', hz⟩ := I1.tuple hq
      have p2 : s1.heap.IsTuple a its.toArray := p'
      have lt : a < s1.heap.objs.size := by
        obtain ⟨o, ho, _⟩ := p'
        exact Heap.lt_size ho
      exact call_enumT p2 fun h' he hit hsz hk => wpAny_pyIter_enum he ⟨s1.heap.objs.size + 1, [s1.heap.objs.size + 1, s1.heap.objs.size], _, _, H1, rfl, I1.kept (t' := s1.toks) hk, turn_enumT a (s1.heap.objs.size + 1) s1.heap.objs.size (Nat.ne_of_lt lt) (Nat.ne_of_gt (Nat.lt_succ_of_lt lt)), ⟨⟨.none, he⟩, hit, Nat.succ_ne_self _⟩, fun b hb => I1.fpOk (two b hb) (I1.hok.fresh (two b hb)), q⟩
/-- x, a list or a tuple -/
def iSeqQ (K : PySem.W.Frag) (te : TE) : TI := fun σ H R => te σ H fun x H1 => ∃ a xs, x = .ref a ∧ ((SqL K H1 a xs ∧ R (Itl K a) H1) ∨ (SqT K H1 a xs ∧ R (Itt K a) H1))
theorem pi_seqQ {X : Cx} {tg l : Expr} {tl : TE} (hl : PE X l tl) : PI X tg l (iSeqQ X.K tl) := by
  refine ⟨fun pins s σ H R I h => thn (hl.run pins s σ H _ I h) fun v s1 ⟨x, H1, I1, r1, q1⟩ => ?_⟩
  obtain ⟨a, xs, rfl, q⟩ := q1
  cases r1
  have one : ∀ b ∈ [s1.heap.objs.size], FpOk X pins H1 b := fun b hb => by
    obtain rfl : b = s1.heap.objs.size := by simpa using hb
    exact I1.fpOk (Nat.le_refl _) (I1.hok.fresh (Nat.le_refl _))
  rcases q with ⟨hq, q⟩ | ⟨hq, q⟩
  · obtain ⟨its, rv, p, hz⟩ := I1.list hq
    exact wpAny_pyIter_list p.isList ⟨s1.heap.objs.size, [s1.heap.objs.size], _, _, H1, rfl, I1.kept (t' := s1.toks) fun b o e => Heap.get?_push_of_some _ e, turn_list a _, ⟨_, Heap.get?_push_size _ rfl, rfl, rfl⟩, one, q⟩
  · obtain ⟨its, rv, p, hz⟩ := I1.tuple hq
    exact wpAny_pyIter_tuple (show s1.heap.IsTuple a its.toArray from p) ⟨s1.heap.objs.size, [s1.heap.objs.size], _, _, H1, rfl, I1.kept (t' := s1.toks) fun b o e => Heap.get?_push_of_some _ e, turn_tuple a _, ⟨_, Heap.get?_push_size _ rfl, rfl, rfl⟩, one, q⟩
/-! ### loops over them -/
abbrev ForW (J : It) (g : TG) (tb : TS) (D : Ends) (σ : L2.St) (H : Hp) : Prop := ∃ W : Nat → Nat → L2.St → Hp → Prop, (∃ m, W 0 m σ H) ∧ ∀ i m σ H, W i m σ H →
  (J.stop i H ∧ D.nx σ H) ∨ (J.go i H ∧ ∃ N : L2.St → Hp → Prop, (∀ σ' H', N σ' H' → ∃ m', m' < m ∧ W (i + 1) m' σ' H') ∧ ∀ x H', J.yld i H x H' → g x σ H' fun σ2 H2 => tb { D with nx := N, ct := N, bk := D.nx } σ2 H2)
theorem for_any {J : It} {g : TG} {tb : TS} {D : Ends} {σ : L2.St} {H : Hp} (n : Nat) (Pv : Nat → L2.St → Hp → Prop) (h0 : Pv 0 σ H) (hg : ∀ i σ H, i < n → Pv i σ H → J.go i H) (hst : ∀ σ H, Pv n σ H → J.stop n H)
    (hs : ∀ i σ H x H', i < n → Pv i σ H → J.yld i H x H' → g x σ H' fun σ2 H2 => tb { D with nx := Pv (i + 1), ct := Pv (i + 1), bk := D.nx } σ2 H2) (hd : ∀ σ H, Pv n σ H → D.nx σ H) : ForW J g tb D σ H := by
  refine ⟨fun i m σ H => m = n - i ∧ i ≤ n ∧ Pv i σ H, ⟨n, by simp, Nat.zero_le _, h0⟩, fun i m σ H ⟨em, hi, p⟩ => ?_⟩
  subst em
  rcases Nat.lt_or_ge i n with lt | ge
  · exact .inr ⟨hg i σ H lt p, Pv (i + 1), fun σ' H' p' => ⟨n - (i + 1), by omega, rfl, lt, p'⟩, fun x H' y => hs i σ H x H' lt p y⟩
  · have e : i = n := by omega
    rw [e] at p ⊢
    exact .inl ⟨hst σ H p, hd σ H p⟩
/-- over enumerate(x): the items come in new pairs -/
theorem for_enQ {K : PySem.W.Frag} {a : Addr} {xs : List V} {g : TG} {tb : TS} {D : Ends} {σ : L2.St} {H : Hp} (hq : SqQ K H a xs) (Pv : Nat → L2.St → Hp → Prop) (h0 : Pv 0 σ H) (hl : ∀ i σ H', i ≤ xs.length → Pv i σ H' → (∀ ys, SqL K H a ys → SqL K H' a ys) ∧ ∀ ys, SqT K H a ys → SqT K H' a ys)
    (hs : ∀ i x σ H T, xs[i]? = some x → Pv i σ H → H T = none → g (.ref T) σ (upd H T (.tup [.int (i : Nat), x])) fun σ2 H2 => tb { D with nx := Pv (i + 1), ct := Pv (i + 1), bk := D.nx } σ2 H2) (hd : ∀ σ H, Pv xs.length σ H → D.nx σ H) :
    (SqL K H a xs ∧ ForW (Ite K a) g tb D σ H) ∨ (SqT K H a xs ∧ ForW (IteT K a) g tb D σ H) := by
  rcases hq with hq | hq
  · refine .inl ⟨hq, for_any xs.length Pv h0 (fun i σ H' lt p => ⟨xs, xs[i], (hl i σ H' (Nat.le_of_lt lt) p).1 _ hq, by simp [lt]⟩) (fun σ H' p => ⟨xs, (hl _ σ H' (Nat.le_refl _) p).1 _ hq, Nat.le_refl _⟩) (fun i σ H' v H2 lt p y => ?_) hd⟩
    obtain ⟨T, z, rfl, nT, rfl, hz⟩ := y
    exact hs i z σ H' T (hz xs ((hl i σ H' (Nat.le_of_lt lt) p).1 _ hq)) p nT
  · refine .inr ⟨hq, for_any xs.length Pv h0 (fun i σ H' lt p => ⟨xs, xs[i], (hl i σ H' (Nat.le_of_lt lt) p).2 _ hq, by simp [lt]⟩) (fun σ H' p => ⟨xs, (hl _ σ H' (Nat.le_refl _) p).2 _ hq, rfl⟩) (fun i σ H' v H2 lt p y => ?_) hd⟩
    obtain ⟨T, z, rfl, nT, rfl, hz⟩ := y
    exact hs i z σ H' T (hz xs ((hl i σ H' (Nat.le_of_lt lt) p).2 _ hq)) p nT
/-- over x itself -/
theorem for_seqQ {K : PySem.W.Frag} {a : Addr} {xs : List V} {g : TG} {tb : TS} {D : Ends} {σ : L2.St} {H : Hp} (hq : SqQ K H a xs) (Pv : Nat → L2.St → Hp → Prop) (h0 : Pv 0 σ H) (hl : ∀ i σ H', i ≤ xs.length → Pv i σ H' → (∀ ys, SqL K H a ys → SqL K H' a ys) ∧ ∀ ys, SqT K H a ys → SqT K H' a ys)
    (hs : ∀ i x σ H, xs[i]? = some x → Pv i σ H → g x σ H fun σ2 H2 => tb { D with nx := Pv (i + 1), ct := Pv (i + 1), bk := D.nx } σ2 H2) (hd : ∀ σ H, Pv xs.length σ H → D.nx σ H) :
    (SqL K H a xs ∧ ForW (Itl K a) g tb D σ H) ∨ (SqT K H a xs ∧ ForW (Itt K a) g tb D σ H) := by
  rcases hq with hq | hq
  · refine .inl ⟨hq, for_any xs.length Pv h0 (fun i σ H' lt p => ⟨xs, xs[i], (hl i σ H' (Nat.le_of_lt lt) p).1 _ hq, by simp [lt]⟩) (fun σ H' p => ⟨xs, (hl _ σ H' (Nat.le_refl _) p).1 _ hq, Nat.le_refl _⟩) (fun i σ H' v H2 lt p y => ?_) hd⟩
    obtain ⟨rfl, hz⟩ := y
    exact hs i v σ H2 (hz xs ((hl i σ H2 (Nat.le_of_lt lt) p).1 _ hq)) p
  · refine .inr ⟨hq, for_any xs.length Pv h0 (fun i σ H' lt p => ⟨xs, xs[i], (hl i σ H' (Nat.le_of_lt lt) p).2 _ hq, by simp [lt]⟩) (fun σ H' p => ⟨xs, (hl _ σ H' (Nat.le_refl _) p).2 _ hq, Nat.le_refl _⟩) (fun i σ H' v H2 lt p y => ?_) hd⟩
    obtain ⟨rfl, hz⟩ := y
    exact hs i v σ H2 (hz xs ((hl i σ H2 (Nat.le_of_lt lt) p).2 _ hq)) p
end G0

set_option Elab.async false
set_option linter.all false
set_option maxRecDepth 100000
set_option maxHeartbeats 4000000
/-! Comprehensions over what may be a list or a tuple. -/
namespace G0
open PySem PySem.Spec PyProof.Rows L2
abbrev LcW (J : It) (g : TG) (tt : TT) (te : TE) (vs : List Nat) (σ : L2.St) (H1 : Hp) (D : Addr) (Qd : Hp → Prop) : Prop := ∃ W : Nat → Nat → Hp → Prop, (∃ m, W 0 m (upd H1 D (.lst []))) ∧ ∀ i m H, W i m H →
  (J.stop i H ∧ Qd H) ∨ (J.go i H ∧ ∃ Nx : Hp → Prop, (∀ H', Nx H' → ∃ m', m' < m ∧ W (i + 1) m' H') ∧ ∀ x H', J.yld i H x H' → g x (wipe σ vs) H' fun σ2 H2 => wipe σ2 vs = wipe σ vs ∧ tt σ2 H2 fun b H3 =>
    if b = true then te σ2 H3 fun y H4 => ∃ acc, H4 D = some (.lst acc) ∧ acc.length < sizeLine ∧ Nx (upd H4 D (.lst (acc ++ [y]))) else Nx H3)
theorem lc_any {J : It} {g : TG} {tt : TT} {te : TE} {vs : List Nat} {σ : L2.St} {H1 : Hp} {D : Addr} {Qd : Hp → Prop} (n : Nat) (Pv : Nat → Hp → Prop) (h0 : Pv 0 (upd H1 D (.lst []))) (hg : ∀ i H, i < n → Pv i H → J.go i H) (hst : ∀ H, Pv n H → J.stop n H)
    (hs : ∀ i H x H', i < n → Pv i H → J.yld i H x H' → g x (wipe σ vs) H' fun σ2 H2 => wipe σ2 vs = wipe σ vs ∧ tt σ2 H2 fun b H3 =>
      if b = true then te σ2 H3 fun y H4 => ∃ acc, H4 D = some (.lst acc) ∧ acc.length < sizeLine ∧ Pv (i + 1) (upd H4 D (.lst (acc ++ [y]))) else Pv (i + 1) H3) (hd : ∀ H, Pv n H → Qd H) : LcW J g tt te vs σ H1 D Qd := by
  refine ⟨fun i m H => m = n - i ∧ i ≤ n ∧ Pv i H, ⟨n, by simp, Nat.zero_le _, h0⟩, fun i m H ⟨em, hi, p⟩ => ?_⟩
  subst em
  rcases Nat.lt_or_ge i n with lt | ge
  · exact .inr ⟨hg i H lt p, Pv (i + 1), fun H' p' => ⟨n - (i + 1), by omega, rfl, lt, p'⟩, fun x H' y => hs i H x H' lt p y⟩
  · have e : i = n := by omega
    rw [e] at p ⊢
    exact .inl ⟨hst H p, hd H p⟩
theorem lc_seqQ {K : PySem.W.Frag} {a : Addr} {xs : List V} {g : TG} {tt : TT} {te : TE} {vs : List Nat} {σ : L2.St} {H1 : Hp} {D : Addr} {Qd : Hp → Prop} (hq : SqQ K H1 a xs) (Pv : Nat → Hp → Prop) (h0 : Pv 0 (upd H1 D (.lst [])))
    (hl : ∀ i H', i ≤ xs.length → Pv i H' → (∀ ys, SqL K H1 a ys → SqL K H' a ys) ∧ ∀ ys, SqT K H1 a ys → SqT K H' a ys)
    (hs : ∀ i x H, xs[i]? = some x → Pv i H → g x (wipe σ vs) H fun σ2 H2 => wipe σ2 vs = wipe σ vs ∧ tt σ2 H2 fun b H3 =>
      if b = true then te σ2 H3 fun y H4 => ∃ acc, H4 D = some (.lst acc) ∧ acc.length < sizeLine ∧ Pv (i + 1) (upd H4 D (.lst (acc ++ [y]))) else Pv (i + 1) H3) (hd : ∀ H, Pv xs.length H → Qd H) :
    (SqL K H1 a xs ∧ LcW (Itl K a) g tt te vs σ H1 D Qd) ∨ (SqT K H1 a xs ∧ LcW (Itt K a) g tt te vs σ H1 D Qd) := by
  rcases hq with hq | hq
  · refine .inl ⟨hq, lc_any xs.length Pv h0 (fun i H' lt p => ⟨xs, xs[i], (hl i H' (Nat.le_of_lt lt) p).1 _ hq, by simp [lt]⟩) (fun H' p => ⟨xs, (hl _ H' (Nat.le_refl _) p).1 _ hq, Nat.le_refl _⟩) (fun i H' v H2 lt p y => ?_) hd⟩
    obtain ⟨rfl, hz⟩ := y
    exact hs i v H2 (hz xs ((hl i H2 (Nat.le_of_lt lt) p).1 _ hq)) p
  · refine .inr ⟨hq, lc_any xs.length Pv h0 (fun i H' lt p => ⟨xs, xs[i], (hl i H' (Nat.le_of_lt lt) p).2 _ hq, by simp [lt]⟩) (fun H' p => ⟨xs, (hl _ H' (Nat.le_refl _) p).2 _ hq, Nat.le_refl _⟩) (fun i H' v H2 lt p y => ?_) hd⟩
    obtain ⟨rfl, hz⟩ := y
    exact hs i v H2 (hz xs ((hl i H2 (Nat.le_of_lt lt) p).2 _ hq)) p
end G0

set_option Elab.async false
set_option linter.all false
set_option maxRecDepth 100000
set_option maxHeartbeats 4000000
/-! names.py: lists of names. -/
namespace E1
open PySem PySem.Spec PyProof.Rows L2 G0
theorem same_T {K : PySem.W.Frag} {H H' : Hp} (S : Same H H') {a : Addr} {xs : List V} (h : SqT K H a xs) : SqT K H' a xs := by
  rcases h with (h | ⟨o, h⟩) | h
  · exact .inl (.inl (S _ _ h))
  · exact .inl (.inr ⟨o, S _ _ h⟩)
  · exact .inr h
theorem same_Q {K : PySem.W.Frag} {H H' : Hp} (S : Same H H') {a : Addr} {xs : List V} (h : SqQ K H a xs) : SqQ K H' a xs := h.elim (fun h => .inl (S.seq h)) fun h => .inr (same_T S h)
theorem same_LT {K : PySem.W.Frag} {H H' : Hp} (S : Same H H') {a : Addr} : (∀ ys, SqL K H a ys → SqL K H' a ys) ∧ ∀ ys, SqT K H a ys → SqT K H' a ys := ⟨fun _ h => S.seq h, fun _ h => same_T S h⟩
/-- the items of a list or a tuple that is tracked -/
def itemsOf (H : Hp) : V → Option (List V)
  | .ref a => match H a with
    | some (.lst xs) => some xs
    | some (.tup xs) => some xs
    | _ => none
  | _ => none
theorem items_at {H : Hp} {a : Addr} {xs : List V} : itemsOf H (.ref a) = some xs ↔ H a = some (.lst xs) ∨ H a = some (.tup xs) := by
  show (match H a with
    | some (.lst xs) => some xs
    | some (.tup xs) => some xs
    | _ => none) = some xs ↔ _
  constructor
  · intro h
    split at h
    · next e =>
      cases h
      exact .inl e
    · next e =>
      cases h
      exact .inr e
    · cases h
  · rintro (h | h) <;> rw [h]
theorem items_ref {H : Hp} {v : V} {xs : List V} (h : itemsOf H v = some xs) : ∃ a, v = .ref a ∧ (H a = some (.lst xs) ∨ H a = some (.tup xs)) := by
  cases v with
  | ref a => exact ⟨a, rfl, items_at.mp h⟩
  | _ => cases h
theorem items_Q {K : PySem.W.Frag} {H : Hp} {a : Addr} {xs : List V} (h : itemsOf H (.ref a) = some xs) : SqQ K H a xs := (items_at.mp h).elim (fun h => .inl (SqL.of h)) fun h => .inr (SqT.of h)
theorem items_same {H H' : Hp} (S : Same H H') {v : V} {xs : List V} (h : itemsOf H v = some xs) : itemsOf H' v = some xs := by
  obtain ⟨a, rfl, h2⟩ := items_ref h
  exact items_at.mpr (h2.elim (fun h => .inl (S _ _ h)) fun h => .inr (S _ _ h))
theorem kn_items {C : Addr} {H : Hp} {v : V} (k : Kn C H v) : isSeq H v = (itemsOf H v).isSome := by
  unfold isSeq
  cases k with
  | non => rfl
  | bl b => rfl
  | int i => rfl
  | str x => rfl
  | lst e => simp only [kdOf, itemsOf, e]; rfl
  | tup e => simp only [kdOf, itemsOf, e]; rfl
  | dic e => simp only [kdOf, itemsOf, e]; rfl
  | own e => simp only [kdOf, itemsOf, e]; rfl
/-! ### is_list, is_pair, told_pair -/
def pairB (H : Hp) (v : V) : Bool := match itemsOf H v with
  | some xs => decide (xs.length = 2)
  | none => false
def tp (x y : Str) : Pr := if ltS y x then (y, x) else (x, y)
theorem sort_two (x y : Str) : sortS [x, y] = [(tp x y).1, (tp x y).2] := by
  symm
  unfold tp
  cases h : ltS y x with
  | true =>
    refine sortS_uniq (List.Perm.swap x y []) (.cons (fun z hz => ?_) (.cons (fun _ h => by cases h) .nil))
    have hz : z = x := List.mem_singleton.mp hz
    subst hz
    show (!ltS z y) = true
    rw [ltS_asym h]
    rfl
  | false =>
    refine sortS_uniq (List.Perm.refl [x, y]) (.cons (fun z hz => ?_) (.cons (fun _ h => by cases h) .nil))
    have hz : z = y := List.mem_singleton.mp hz
    subst hz
    show (!ltS z x) = true
    rw [h]
    rfl
def spIsList (C : Addr) : Sp := fun vs H Q _ => ∃ v, vs = [v] ∧ Kn C H v ∧ ∀ H', Same H H' → Q (.bl (itemsOf H v).isSome) H'
def spIsPair (C : Addr) : Sp := fun vs H Q _ => ∃ v, vs = [v] ∧ Kn C H v ∧ ∀ H', Same H H' → Q (.bl (pairB H v)) H'
def spTold : Sp := fun vs H Q _ => ∃ v x y, vs = [v] ∧ itemsOf H v = some [.str x, .str y] ∧ ∀ t H', H t = none → H' t = some (.tup [.str (tp x y).1, .str (tp x y).2]) → Same H H' → Q (.ref t) H'
/-- where the defs of names.py stand -/
structure NamesD (K : PySem.W.Frag) (mg : Str → Option Value) where
  fN : Addr
  dN : FuncData
  FN : FnS K 16 fN dN
  gN : mg "is_name" = some (.ref fN)
  fL : Addr
  dL : FuncData
  FL : FnS K 17 fL dL
  gL : mg "is_list" = some (.ref fL)
  fP : Addr
  dP : FuncData
  FP : FnS K 18 fP dP
  gP : mg "is_pair" = some (.ref fP)
  fT : Addr
  dT : FuncData
  FT : FnS K 19 fT dT
  gT : mg "told_pair" = some (.ref fT)
  fW : Addr
  dW : FuncData
  FW : FnS K 20 fW dW
  gW : mg "first_wrong_name" = some (.ref fW)
  fU : Addr
  dU : FuncData
  FU : FnS K 21 fU dU
  gU : mg "first_unknown" = some (.ref fU)
  fX : Addr
  dX : FuncData
  FX : FnS K 23 fX dX
  gX : mg "first_wrong_tie" = some (.ref fX)
section
variable {P : Program} {w : World} {K : PySem.W.Frag} {mg : Str → Option Value} {base : Heap} {C : Addr}
theorem sc_is_list : FnScope ["thing"] ["thing"] (defScope (topS 17)) := ⟨rfl, rfl, rfl, by decide +kernel, rfl, by decide +kernel, by decide +kernel⟩
theorem ok_is_list (D : NamesD K mg) (T : TxtN K mg) (O : OwnC K C) : FnOk P w K mg base CX0 1 D.fL D.dL ["thing"] (spIsList C) := by
  refine Fun.ok D.FL sc_is_list (fun vs H Q E h => ?_) (fun cdv A outer s H vs Q E hr h => ⟨_, pss_one (ps_ret (pe_callB call_isiT (by rfl) T.isinstance (by decide +kernel) (pa_cons (pv 0) (pa_cons (pe_tup (pa_cons (pe_bltn (by rfl) T.list PyProof.Rows.boot_list (v := .ty "list") rfl) (pa_cons (pe_bltn (by rfl) T.tuple boot_tuple (v := .ty "tuple") rfl) pa_nil))) pa_nil)))), ?_⟩)
  · obtain ⟨v, rfl, _⟩ := h
    rfl
  · obtain ⟨v, rfl, hk, k⟩ := h
    refine ⟨_, rfl, by show 2 ≤ sizeLine; decide, fun t nt => ?_⟩
    have S := new_same (o := .tup [.ty "list", .ty "tuple"]) nt
    obtain ⟨k1, k2⟩ := hk.same S
    obtain ⟨ty, h1, h2⟩ := kn_seq O k1
    refine ⟨v, t, _, ty, _, _, rfl, upd_same, .cons (.ty _) (.cons (.ty _) .nil), h1, h2, ?_⟩
    have e : isSeq (upd H t (.tup [.ty "list", .ty "tuple"])) v = (itemsOf H v).isSome := by
      unfold isSeq
      rw [k2]
      exact kn_items hk
    rw [e]
    exact k _ S
theorem bL (D : NamesD K mg) : Binds K D.dL ["thing"] [] := D.FL.binds fun _ _ _ _ _ _ us hl => match us, hl with | [_], _ => rfl
theorem bN (D : NamesD K mg) : Binds K D.dN ["thing"] [] := D.FN.binds fun _ _ _ _ _ _ us hl => match us, hl with | [_], _ => rfl
theorem bP (D : NamesD K mg) : Binds K D.dP ["thing"] [] := D.FP.binds fun _ _ _ _ _ _ us hl => match us, hl with | [_], _ => rfl
theorem bT (D : NamesD K mg) : Binds K D.dT ["pair"] [] := D.FT.binds fun _ _ _ _ _ _ us hl => match us, hl with | [_], _ => rfl
theorem bW (D : NamesD K mg) : Binds K D.dW ["things"] [] := D.FW.binds fun _ _ _ _ _ _ us hl => match us, hl with | [_], _ => rfl
theorem bU (D : NamesD K mg) : Binds K D.dU ["things", "known"] [] := D.FU.binds fun _ _ _ _ _ _ us hl => match us, hl with | [_, _], _ => rfl
theorem bX (D : NamesD K mg) : Binds K D.dX ["things", "known"] [] := D.FX.binds fun _ _ _ _ _ _ us hl => match us, hl with | [_, _], _ => rfl
theorem sc_is_pair : FnScope ["thing"] ["thing"] (defScope (topS 18)) := ⟨rfl, rfl, rfl, by decide +kernel, rfl, by decide +kernel, by decide +kernel⟩
theorem ok_is_pair (D : NamesD K mg) (T : TxtN K mg) (O : OwnC K C) : FnOk P w K mg base CX0 2 D.fP D.dP ["thing"] (spIsPair C) := by
  have G : FnOk P w K mg base CX0 1 D.fL D.dL ["thing"] (spIsList C) := ok_is_list D T O
  refine Fun.ok D.FP sc_is_pair (fun vs H Q E h => ?_) (fun cdv A outer s H vs Q E hr h => ⟨_, pss_one (ps_ret (pe_and (pe_call G hr (by rfl) D.gL D.FL.kp (bL D) .nil pass0 (pa_cons (pv 0) pa_nil)) (pe_one (pe_cmpR op_eq (pe_callB call_len_seq (by rfl) T.len PySem.boot_len (pa_cons (pv 0) pa_nil)) pe_int (nomark _))))), ?_⟩)
  · obtain ⟨v, rfl, _⟩ := h
    rfl
  · obtain ⟨v, rfl, hk, k⟩ := h
    refine ⟨_, rfl, v, rfl, hk, fun H1 S1 => ⟨_, rfl, ?_⟩⟩
    cases e : itemsOf H v with
    | none =>
      refine iteF ?_
      have := k H1 S1
      unfold pairB at this
      rw [e] at this
      exact this
    | some xs =>
      refine iteT ?_
      obtain ⟨a, rfl, _⟩ := items_ref e
      refine ⟨_, rfl, a, xs, rfl, items_Q (K := K) (items_same S1 e), rfl, ?_⟩
      have := k H1 S1
      unfold pairB at this
      rw [e] at this
      have e2 : decide (V.int (xs.length : Int) = V.int 2) = decide (xs.length = 2) := by
        by_cases z : xs.length = 2
        · rw [decide_eq_true z, z]
          rfl
        · rw [decide_eq_false z]
          exact decide_eq_false fun q => by
            injection q with q
            omega
      rw [e2]
      exact this
theorem sc_told : FnScope ["pair"] ["pair"] (defScope (topS 19)) := ⟨rfl, rfl, rfl, by decide +kernel, rfl, by decide +kernel, by decide +kernel⟩
theorem ok_told (D : NamesD K mg) (T : TxtN K mg) : FnOk P w K mg base CX0 1 D.fT D.dT ["pair"] spTold := by
  refine Fun.ok D.FT sc_told (fun vs H Q E h => ?_) (fun cdv A outer s H vs Q E hr h => ⟨_, pss_one (ps_ret (pe_callTy call_tuple_of (by rfl) T.tuple boot_tuple (pa_cons (pe_callB cr_sortQ (by rfl) T.sorted (by decide +kernel) (pa_cons (pv 0) pa_nil)) pa_nil))), ?_⟩)
  · obtain ⟨v, x, y, rfl, _⟩ := h
    rfl
  · obtain ⟨v, x, y, rfl, hi, k⟩ := h
    obtain ⟨a, rfl, _⟩ := items_ref hi
    refine ⟨_, rfl, a, [x, y], rfl, items_Q (K := K) hi, fun p np => ⟨p, _, rfl, .inl ⟨SqL.of upd_same, fun l nl => ?_⟩⟩⟩
    have hpl : p ≠ l := ne_of_none upd_same nl
    have nl0 : H l = none := by
      rw [upd_ne hpl.symm] at nl
      exact nl
    refine k l _ nl0 ?_ ((new_same np).trans (new_same nl))
    rw [upd_same, sort_two]
    rfl
end
end E1

set_option Elab.async false
set_option linter.all false
set_option maxRecDepth 100000
set_option maxHeartbeats 4000000
/-! names.py: the first wrong thing of a list. -/
namespace E1
open PySem PySem.Spec PyProof.Rows L2 G0
/-- a good begin: unlike texts that are let -/
structure Good (ok : Str → Prop) (ss : List Str) : Prop where
  nd : ss.Nodup
  all : ∀ z ∈ ss, ok z
theorem Good.nil {ok : Str → Prop} : Good ok [] := ⟨List.nodup_nil, by simp⟩
theorem Good.snoc {ok : Str → Prop} {ss : List Str} {z : Str} (g : Good ok ss) (h1 : ok z) (h2 : z ∉ ss) : Good ok (ss ++ [z]) := by
  refine ⟨List.nodup_append.mpr ⟨g.nd, by simp, fun a ha b hb => ?_⟩, fun y hy => ?_⟩
  · rw [List.mem_singleton.mp hb]
    exact fun e => h2 (e ▸ ha)
  · rcases List.mem_append.mp hy with hy | hy
    · exact g.all y hy
    · rw [List.mem_singleton.mp hy]
      exact h1
/-- what is told of a list: none, or the first wrong one's index -/
def ScanR (ok : Str → Prop) (xs : List V) : Option Nat → Prop
  | none => ∃ ss, xs = ss.map V.str ∧ Good ok ss
  | some i => ∃ ss y, xs[i]? = some y ∧ xs.take i = ss.map V.str ∧ Good ok ss ∧ ∀ z, y = .str z → ok z → z ∈ ss
def optV : Option Nat → V
  | none => .non
  | some i => .int (i : Nat)
def seenK {κ : Type} (ks : List κ) : List (κ × V) := ks.map fun k => (k, .bl true)
theorem seen_val {κ : Type} [DecidableEq κ] : ∀ (ks : List κ) (k : κ), (valV (seenK ks) k).isSome = decide (k ∈ ks)
  | [], k => rfl
  | x :: ks, k => by
    have ih := seen_val ks k
    unfold valV seenK at ih ⊢
    rw [List.map_cons, List.find?_cons]
    by_cases e : x = k
    · subst e
      simp
    · simp only [e, decide_false]
      rw [ih]
      simp [Ne.symm e]
theorem seen_yes {κ : Type} [DecidableEq κ] {ks : List κ} {k : κ} (h : k ∈ ks) : (valV (seenK ks) k).isSome = true := by rw [seen_val, decide_eq_true h]
theorem seen_no {κ : Type} [DecidableEq κ] {ks : List κ} {k : κ} (h : k ∉ ks) : (valV (seenK ks) k).isSome = false := by rw [seen_val, decide_eq_false h]
theorem seen_put {κ : Type} [DecidableEq κ] (ks : List κ) (k : κ) (h : k ∉ ks) : putK (seenK ks) k (.bl true) = seenK (ks ++ [k]) := by
  unfold putK
  have e : ((seenK ks).any fun kv => decide (kv.1 = k)) = false := by
    unfold seenK
    rw [List.any_map, List.any_eq_false]
    intro x hx
    simp only [Function.comp]
    exact fun z => h ((of_decide_eq_true z) ▸ hx)
  rw [e, if_neg (by simp)]
  unfold seenK
  rw [List.map_append]
  rfl
/-- the kinds of the items are known -/
def KnAll (C : Addr) (H : Hp) (xs : List V) : Prop := ∀ x ∈ xs, Kn C H x ∧ ∀ z, x = .str z → z.length ≤ 1000
theorem KnAll.same {C : Addr} {H H' : Hp} {xs : List V} (k : KnAll C H xs) (S : Same H H') : KnAll C H' xs := fun x hx => ⟨((k x hx).1.same S).1, (k x hx).2⟩
theorem but_LT {K : PySem.W.Frag} {H H' : Hp} {a d : Addr} (B : ∀ b o, b ≠ d → H b = some o → H' b = some o) (n : a ≠ d) : (∀ ys, SqL K H a ys → SqL K H' a ys) ∧ ∀ ys, SqT K H a ys → SqT K H' a ys := by
  refine ⟨fun ys h => ?_, fun ys h => ?_⟩
  · rcases h with (h | ⟨o, h⟩) | h
    · exact .inl (.inl (B _ _ n h))
    · exact .inl (.inr ⟨o, B _ _ n h⟩)
    · exact .inr h
  · rcases h with (h | ⟨o, h⟩) | h
    · exact .inl (.inl (B _ _ n h))
    · exact .inl (.inr ⟨o, B _ _ n h⟩)
    · exact .inr h
theorem items_ne {H : Hp} {a d : Addr} {xs : List V} (e : itemsOf H (.ref a) = some xs) (n : H d = none) : a ≠ d := by
  rcases items_at.mp e with h | h
  · exact ne_of_none h n
  · exact ne_of_none h n
theorem take_snoc {α : Type} {xs : List α} {i : Nat} {x : α} (h : xs[i]? = some x) : xs.take (i + 1) = xs.take i ++ [x] := by
  rw [List.take_succ, h]
  rfl
theorem map_len {xs : List V} {ss : List Str} {i : Nat} (h : xs.take i = ss.map V.str) : ss.length ≤ xs.length := by
  have := congrArg List.length h
  rw [List.length_take, List.length_map] at this
  omega
abbrev ScanW (ok : Str → Prop) (C : Addr) (H : Hp) (v : V) (Q : VK) : Prop := (itemsOf H v = none ∧ ∀ H', Same H H' → Q (.int 0) H') ∨ ∃ xs, itemsOf H v = some xs ∧ xs.length ≤ 1000 ∧ KnAll C H xs ∧ ∀ r H', ScanR ok xs r → Same H H' → Q (optV r) H'
def spFwn (C : Addr) : Sp := fun vs H Q _ => ∃ v, vs = [v] ∧ Kn C H v ∧ ScanW (fun z => nameB z = true) C H v Q
section
variable {P : Program} {w : World} {K : PySem.W.Frag} {mg : Str → Option Value} {base : Heap} {C : Addr}
theorem sc_fwn : FnScope ["things", "seen", "index", "thing"] ["things"] (defScope (topS 20)) := ⟨rfl, rfl, rfl, by decide +kernel, rfl, by decide +kernel, by decide +kernel⟩
theorem ok_fwn (D : NamesD K mg) (T : TxtN K mg) (O : OwnC K C) : FnOk P w K mg base CX0 2 D.fW D.dW ["things"] (spFwn C) := by
  have GL : FnOk P w K mg base CX0 1 D.fL D.dL ["thing"] (spIsList C) := ok_is_list D T O
  have GN : FnOk P w K mg base CX0 1 D.fN D.dN ["thing"] (spIsName C) := ok_is_name D.FN T O
  refine Fun.ok D.FW sc_fwn (fun vs H Q E h => ?_) (fun cdv A outer s H vs Q E hr h => ⟨_, pss_cons (ps_if (pt_not (pt_val (pe_call GL hr (by rfl) D.gL D.FL.kp (bL D) .nil pass0 (pa_cons (pv 0) pa_nil)))) (pss_one (ps_ret pe_int)) pss_nil)
    (pss_cons (ps_set (i := 1) sc_fwn.nd rfl (Or.inl rfl) pe_dnewK)
    (pss_cons (ps_for PassesOwn.never rfl (pi_enumQ (by rfl) T.enumerate (pa_cons (pv 0) pa_nil)) (pg_tup rfl (pgs_cons (pg_name (i := 2) sc_fwn.nd rfl (Or.inl rfl)) (pgs_cons (pg_name (i := 3) sc_fwn.nd rfl (Or.inl rfl)) pgs_nil)))
      (pss_cons (ps_if (PW.pt (pw_or (pt_not (pt_val (pe_call GN hr (by rfl) D.gN D.FN.kp (bN D) .nil pass0 (pa_cons (pv 3) pa_nil)))) (pw_or1 (pt_cmp (pc_din (hu_of hr) (pv 3) (pv 1)))))) (pss_one (ps_ret (pv 2))) pss_nil)
      (pss_one (ps_dput (hu_of hr) (pv 1) (pv 3) pe_bl rfl))))
    (pss_one (ps_ret pe_non)))), ?_⟩)
  · obtain ⟨v, rfl, _⟩ := h
    rfl
  · obtain ⟨v, rfl, hk, h⟩ := h
    refine ⟨_, rfl, v, rfl, hk, fun H1 S1 => ⟨_, rfl, ?_⟩⟩
    rcases h with ⟨e, k⟩ | ⟨xs, e, hl, hK, k⟩
    · rw [e]
      exact iteT (k H1 S1)
    · rw [e]
      refine iteF ?_
      obtain ⟨a, rfl, _⟩ := items_ref e
      intro d nd
      have S2 := S1.trans (new_same (o := .dK []) nd)
      have nd0 : H d = none := S1.free nd
      refine ⟨_, rfl, a, xs, rfl, for_enQ (items_Q (K := K) (items_same S2 e)) (fun i σ H' => ∃ v2 v3 ss, σ = [some (.ref a), some (.ref d), v2, v3] ∧ H' d = some (.dK (seenK (ss.map Sum.inr))) ∧ xs.take i = ss.map V.str ∧ Good (fun z => nameB z = true) ss ∧ Same H H' ∧ (∀ b o, b ≠ d → (upd H1 d (.dK [])) b = some o → H' b = some o))
        ⟨none, none, [], rfl, upd_same, rfl, .nil, S2, fun _ _ _ e => e⟩ ?_ ?_ ?_⟩
      · rintro i σ H' hi ⟨v2, v3, ss, _, _, _, _, _, B⟩
        exact but_LT B (items_ne (items_same S1 e) nd)
      · rintro i x σ H' T hx ⟨v2, v3, ss, rfl, hd, ht, g, S, B⟩ nT
        have ST := new_same (o := .tup [.int (i : Nat), x]) nT
        obtain ⟨kx, lx⟩ := hK x (List.mem_of_getElem? hx)
        refine ⟨T, _, rfl, SqT.of upd_same, rfl, _, _, rfl, _, _, rfl, rfl, ?_⟩
        refine ⟨_, rfl, x, rfl, (kx.same (S.trans ST)).1, lx, fun H2 S2' => ⟨_, rfl, ?_⟩⟩
        have S3 := (S.trans ST).trans S2'
        have hd3 : H2 d = some (.dK (seenK (ss.map Sum.inr))) := S2' _ _ (ST _ _ hd)
        cases en : nameV x with
        | false =>
          refine iteT (iteT ⟨_, rfl, ?_⟩)
          refine k (some i) H2 ⟨ss, x, hx, ht, g, fun z ez oz => ?_⟩ S3
          rw [ez] at en
          rw [show nameV (.str z) = nameB z from rfl, oz] at en
          cases en
        | true =>
          cases x with
          | str z =>
            refine iteF ⟨_, rfl, _, rfl, d, _, rfl, DGet.k (k := Sum.inr z) hd3, _, rfl, ?_⟩
            by_cases hz : z ∈ ss
            · rw [seen_yes (List.mem_map.mpr ⟨z, hz, rfl⟩)]
              exact iteT ⟨_, rfl, k (some i) H2 ⟨ss, _, hx, ht, g, fun y ey _ => by cases ey; exact hz⟩ S3⟩
            · have nz : (Sum.inr z : Key) ∉ ss.map Sum.inr := fun q => by
                obtain ⟨y, hy, ey⟩ := List.mem_map.mp q
                cases ey
                exact hz hy
              rw [seen_no nz]
              refine iteF ⟨_, rfl, _, rfl, d, _, rfl, DPut.k (k := Sum.inr z) hd3 ?_, ?_⟩
              · unfold seenK
                rw [List.length_map, List.length_map]
                exact small1000 (Nat.le_trans (map_len ht) hl)
              · have nd2 : H d = none := nd0
                refine ⟨_, _, ss ++ [z], rfl, ?_, ?_, g.snoc (by exact en) hz, ?_, ?_⟩
                · rw [upd_same, seen_put _ _ nz, List.map_append]
                  rfl
                · rw [take_snoc hx, ht, List.map_append]
                  rfl
                · exact fun b o q => by
                    rw [upd_ne (ne_of_none q nd0)]
                    exact S3 b o q
                · exact fun b o nb q => by
                    rw [upd_ne nb]
                    exact S2' _ _ (ST _ _ (B b o nb q))
          | _ => cases en
      · rintro σ H' ⟨v2, v3, ss, rfl, hd, ht, g, S, B⟩
        rw [List.take_length] at ht
        exact k none H' ⟨ss, ht, g⟩ S
end
end E1

set_option Elab.async false
set_option linter.all false
set_option maxRecDepth 100000
set_option maxHeartbeats 4000000
/-! first_unknown, first_wrong_tie. -/
namespace E1
open PySem PySem.Spec PyProof.Rows L2 G0
def spFwu (K : PySem.W.Frag) (C : Addr) : Sp := fun vs H Q _ => ∃ (v : V) (b : Addr) (ks : List Str), vs = [v, .ref b] ∧ Kn C H v ∧ SqQ K H b (ks.map V.str) ∧ ScanW (fun z => z ∈ ks) C H v Q
/-- x is a pair of unlike places of ks, p as it is told -/
def TieOk (ks : List Str) (H : Hp) (x : V) (p : Pr) : Prop := ∃ a b, itemsOf H x = some [.str a, .str b] ∧ a ≠ b ∧ a ∈ ks ∧ b ∈ ks ∧ tp a b = p
structure TiesTo (ks : List Str) (H : Hp) (xs : List V) (ps : List Pr) : Prop where
  nd : ps.Nodup
  len : ps.length ≤ xs.length
  ok : ∀ (j : Nat) (x : V) (p : Pr), xs[j]? = some x → ps[j]? = some p → TieOk ks H x p
def TieR (ks : List Str) (H : Hp) (xs : List V) : Option Nat → Prop
  | none => ∃ ps, ps.length = xs.length ∧ TiesTo ks H xs ps
  | some i => ∃ ps y, xs[i]? = some y ∧ ps.length = i ∧ TiesTo ks H xs ps ∧ ∀ p, TieOk ks H y p → p ∈ ps
def KnTies (C : Addr) (H : Hp) (xs : List V) : Prop := ∀ x ∈ xs, Kn C H x ∧ ∀ ys, itemsOf H x = some ys → ys.length ≤ 1000 ∧ KnAll C H ys
abbrev TieW (ks : List Str) (C : Addr) (H : Hp) (v : V) (Q : VK) : Prop := (itemsOf H v = none ∧ ∀ H', Same H H' → Q (.int 0) H') ∨ ∃ xs, itemsOf H v = some xs ∧ xs.length ≤ 1000 ∧ KnTies C H xs ∧ ∀ r H', TieR ks H xs r → Same H H' → Q (optV r) H'
def spFwt (K : PySem.W.Frag) (C : Addr) : Sp := fun vs H Q _ => ∃ (v : V) (b : Addr) (ks : List Str), vs = [v, .ref b] ∧ Kn C H v ∧ SqQ K H b (ks.map V.str) ∧ TieW ks C H v Q
section
variable {P : Program} {w : World} {K : PySem.W.Frag} {mg : Str → Option Value} {base : Heap} {C : Addr}
theorem sc_fwu : FnScope ["things", "known", "seen", "index", "thing"] ["things", "known"] (defScope (topS 21)) := ⟨rfl, rfl, rfl, by decide +kernel, rfl, by decide +kernel, by decide +kernel⟩
theorem ok_fwu (D : NamesD K mg) (T : TxtN K mg) (O : OwnC K C) : FnOk P w K mg base CX0 2 D.fU D.dU ["things", "known"] (spFwu K C) := by
  have GL : FnOk P w K mg base CX0 1 D.fL D.dL ["thing"] (spIsList C) := ok_is_list D T O
  refine Fun.ok D.FU sc_fwu (fun vs H Q E h => ?_) (fun cdv A outer s H vs Q E hr h => ⟨_, pss_cons (ps_if (pt_not (pt_val (pe_call GL hr (by rfl) D.gL D.FL.kp (bL D) .nil pass0 (pa_cons (pv 0) pa_nil)))) (pss_one (ps_ret pe_int)) pss_nil)
    (pss_cons (ps_set (i := 2) sc_fwu.nd rfl (Or.inl rfl) pe_dnewK)
    (pss_cons (ps_for PassesOwn.never rfl (pi_enumQ (by rfl) T.enumerate (pa_cons (pv 0) pa_nil)) (pg_tup rfl (pgs_cons (pg_name (i := 3) sc_fwu.nd rfl (Or.inl rfl)) (pgs_cons (pg_name (i := 4) sc_fwu.nd rfl (Or.inl rfl)) pgs_nil)))
      (pss_cons (ps_if (PW.pt (pw_or (pt_not (pt_val (pe_callB call_isi (by rfl) T.isinstance (by decide +kernel) (pa_cons (pv 4) (pa_cons (pe_bltn (by rfl) T.str boot_str (v := .ty "str") rfl) pa_nil))))) (pw_or (pt_cmpR op_notIn_seq (pv 4) (pv 1) (by rfl)) (pw_or1 (pt_cmp (pc_din (hu_of hr) (pv 4) (pv 2))))))) (pss_one (ps_ret (pv 3))) pss_nil)
      (pss_one (ps_dput (hu_of hr) (pv 2) (pv 4) pe_bl rfl))))
    (pss_one (ps_ret pe_non)))), ?_⟩)
  · obtain ⟨v, b, ks, rfl, _⟩ := h
    rfl
  · obtain ⟨v, b, ks, rfl, hk, hb, h⟩ := h
    refine ⟨_, rfl, v, rfl, hk, fun H1 S1 => ⟨_, rfl, ?_⟩⟩
    rcases h with ⟨e, k⟩ | ⟨xs, e, hl, hK, k⟩
    · rw [e]
      exact iteT (k H1 S1)
    · rw [e]
      refine iteF ?_
      obtain ⟨a, rfl, _⟩ := items_ref e
      intro d nd
      have S2 := S1.trans (new_same (o := .dK []) nd)
      have nd0 : H d = none := S1.free nd
      refine ⟨_, rfl, a, xs, rfl, for_enQ (items_Q (K := K) (items_same S2 e)) (fun i σ H' => ∃ v2 v3 ss, σ = [some (.ref a), some (.ref b), some (.ref d), v2, v3] ∧ H' d = some (.dK (seenK (ss.map Sum.inr))) ∧ xs.take i = ss.map V.str ∧ Good (fun z => z ∈ ks) ss ∧ Same H H' ∧ (∀ b o, b ≠ d → (upd H1 d (.dK [])) b = some o → H' b = some o))
        ⟨none, none, [], rfl, upd_same, rfl, .nil, S2, fun _ _ _ e => e⟩ ?_ ?_ ?_⟩
      · rintro i σ H' hi ⟨v2, v3, ss, _, _, _, _, _, B⟩
        exact but_LT B (items_ne (items_same S1 e) nd)
      · rintro i x σ H' T hx ⟨v2, v3, ss, rfl, hd, ht, g, S, B⟩ nT
        have ST := new_same (o := .tup [.int (i : Nat), x]) nT
        obtain ⟨kx, lx⟩ := hK x (List.mem_of_getElem? hx)
        obtain ⟨t, ty, ki⟩ := kn_str O (kx.same (S.trans ST)).1
        refine ⟨T, _, rfl, SqT.of upd_same, rfl, _, _, rfl, _, _, rfl, rfl, ?_⟩
        refine ⟨_, rfl, x, _, t, _, isStrV x, rfl, .ty _, ty, ki, _, rfl, ?_⟩
        have S3 := S.trans ST
        have hd3 := ST _ _ hd
        cases x with
        | str z =>
          refine iteF ⟨_, rfl, _, rfl, b, _, rfl, same_Q S3 hb, rfl, flat_strs _, _, rfl, ?_⟩
          rw [if_pos rfl, inV_strs]
          by_cases hzk : z ∈ ks
          · rw [decide_eq_true hzk]
            refine iteF ⟨_, rfl, _, rfl, d, _, rfl, DGet.k (k := Sum.inr z) hd3, _, rfl, ?_⟩
            by_cases hz : z ∈ ss
            · rw [seen_yes (List.mem_map.mpr ⟨z, hz, rfl⟩)]
              exact iteT ⟨_, rfl, k (some i) _ ⟨ss, _, hx, ht, g, fun y ey _ => by cases ey; exact hz⟩ S3⟩
            · have nz : (Sum.inr z : Key) ∉ ss.map Sum.inr := fun q => by
                obtain ⟨y, hy, ey⟩ := List.mem_map.mp q
                cases ey
                exact hz hy
              rw [seen_no nz]
              refine iteF ⟨_, rfl, _, rfl, d, _, rfl, DPut.k (k := Sum.inr z) hd3 ?_, ?_⟩
              · unfold seenK
                rw [List.length_map, List.length_map]
                exact small1000 (Nat.le_trans (map_len ht) hl)
              · refine ⟨_, _, ss ++ [z], rfl, ?_, ?_, g.snoc hzk hz, ?_, ?_⟩
                · rw [upd_same, seen_put _ _ nz, List.map_append]
                  rfl
                · rw [take_snoc hx, ht, List.map_append]
                  rfl
                · exact fun b o q => by
                    rw [upd_ne (ne_of_none q nd0)]
                    exact S3 b o q
                · exact fun b o nb q => by
                    rw [upd_ne nb]
                    exact ST _ _ (B b o nb q)
          · rw [decide_eq_false hzk]
            exact iteT (iteT ⟨_, rfl, k (some i) _ ⟨ss, _, hx, ht, g, fun y ey oy => by cases ey; exact absurd oy hzk⟩ S3⟩)
        | _ => exact iteT (iteT ⟨_, rfl, k (some i) _ ⟨ss, _, hx, ht, g, fun y ey => by cases ey⟩ S3⟩)
      · rintro σ H' ⟨v2, v3, ss, rfl, hd, ht, g, S, B⟩
        rw [List.take_length] at ht
        exact k none H' ⟨ss, ht, g⟩ S
theorem tie_same {ks : List Str} {H H' : Hp} {x : V} {p : Pr} (S : Same H H') (h : TieOk ks H x p) : TieOk ks H' x p := by
  obtain ⟨a, b, h1, h2⟩ := h
  exact ⟨a, b, items_same S h1, h2⟩
def keyP (p : Pr) : List Key := [.inr p.1, .inr p.2]
theorem keyP_inj {p q : Pr} (h : keyP p = keyP q) : p = q := by
  unfold keyP at h
  injection h with h1 h2
  injection h2 with h2 _
  injection h1 with h1
  injection h2 with h2
  exact Prod.ext h1 h2
theorem keyP_mem {ps : List Pr} {p : Pr} : keyP p ∈ ps.map keyP ↔ p ∈ ps := by
  constructor
  · intro h
    obtain ⟨q, hq, e⟩ := List.mem_map.mp h
    rw [← keyP_inj e]
    exact hq
  · exact fun h => List.mem_map.mpr ⟨p, h, rfl⟩
theorem pair_iff {H : Hp} {v : V} : pairB H v = true ↔ ∃ x y, itemsOf H v = some [x, y] := by
  unfold pairB
  cases e : itemsOf H v with
  | none => simp
  | some xs =>
    constructor
    · intro h
      match xs, of_decide_eq_true h with
      | [x, y], _ => exact ⟨x, y, rfl⟩
    · rintro ⟨x, y, h⟩
      cases h
      rfl
theorem sc_fwt : FnScope ["things", "known", "seen", "index", "thing", "tie"] ["things", "known"] (defScope (topS 23)) := ⟨rfl, rfl, rfl, by decide +kernel, rfl, by decide +kernel, by decide +kernel⟩
theorem ok_fwt (D : NamesD K mg) (T : TxtN K mg) (O : OwnC K C) : FnOk P w K mg base CX0 3 D.fX D.dX ["things", "known"] (spFwt K C) := by
  have GL : FnOk P w K mg base CX0 1 D.fL D.dL ["thing"] (spIsList C) := ok_is_list D T O
  have GP : FnOk P w K mg base CX0 2 D.fP D.dP ["thing"] (spIsPair C) := ok_is_pair D T O
  have GU : FnOk P w K mg base CX0 2 D.fU D.dU ["things", "known"] (spFwu K C) := ok_fwu D T O
  have GT : FnOk P w K mg base CX0 1 D.fT D.dT ["pair"] spTold := ok_told D T
  refine Fun.ok D.FX sc_fwt (fun vs H Q E h => ?_) (fun cdv A outer s H vs Q E hr h => ⟨_, pss_cons (ps_if (pt_not (pt_val (pe_call GL (hr.mono (by decide)) (by rfl) D.gL D.FL.kp (bL D) .nil pass0 (pa_cons (pv 0) pa_nil)))) (pss_one (ps_ret pe_int)) pss_nil)
    (pss_cons (ps_set (i := 2) sc_fwt.nd rfl (Or.inl rfl) pe_dnewT)
    (pss_cons (ps_for PassesOwn.never rfl (pi_enumQ (by rfl) T.enumerate (pa_cons (pv 0) pa_nil)) (pg_tup rfl (pgs_cons (pg_name (i := 3) sc_fwt.nd rfl (Or.inl rfl)) (pgs_cons (pg_name (i := 4) sc_fwt.nd rfl (Or.inl rfl)) pgs_nil)))
      (pss_cons (ps_if (PW.pt (pw_or (pt_not (pt_val (pe_call GP hr (by rfl) D.gP D.FP.kp (bP D) .nil pass0 (pa_cons (pv 4) pa_nil)))) (pw_or1 (pt_cmpR op_notN (pe_call GU hr (by rfl) D.gU D.FU.kp (bU D) .nil pass0 (pa_cons (pv 4) (pa_cons (pv 1) pa_nil))) pe_non (nomark _))))) (pss_one (ps_ret (pv 3))) pss_nil)
      (pss_cons (ps_set (i := 5) sc_fwt.nd rfl (Or.inl rfl) (pe_call GT (hr.mono (by decide)) (by rfl) D.gT D.FT.kp (bT D) .nil pass0 (pa_cons (pv 4) pa_nil)))
      (pss_cons (ps_if (pt_cmp (pc_din (hu_of hr) (pv 5) (pv 2))) (pss_one (ps_ret (pv 3))) pss_nil)
      (pss_one (ps_dput (hu_of hr) (pv 2) (pv 5) pe_bl rfl))))))
    (pss_one (ps_ret pe_non)))), ?_⟩)
  · obtain ⟨v, b, ks, rfl, _⟩ := h
    rfl
  · obtain ⟨v, b, ks, rfl, hk, hb, h⟩ := h
    refine ⟨_, rfl, v, rfl, hk, fun H1 S1 => ⟨_, rfl, ?_⟩⟩
    rcases h with ⟨e, k⟩ | ⟨xs, e, hl, hK, k⟩
    · rw [e]
      exact iteT (k H1 S1)
    · rw [e]
      refine iteF ?_
      obtain ⟨a, rfl, _⟩ := items_ref e
      intro d nd
      have S2 := S1.trans (new_same (o := .dT []) nd)
      have nd0 : H d = none := S1.free nd
      refine ⟨_, rfl, a, xs, rfl, for_enQ (items_Q (K := K) (items_same S2 e)) (fun i σ H' => ∃ v2 v3 v4 ps, σ = [some (.ref a), some (.ref b), some (.ref d), v2, v3, v4] ∧ H' d = some (.dT (seenK (ps.map keyP))) ∧ ps.length = i ∧ TiesTo ks H xs ps ∧ Same H H' ∧ (∀ b o, b ≠ d → (upd H1 d (.dT [])) b = some o → H' b = some o))
        ⟨none, none, none, [], rfl, upd_same, rfl, ⟨List.nodup_nil, Nat.zero_le _, fun j x p _ h => by simp at h⟩, S2, fun _ _ _ e => e⟩ ?_ ?_ ?_⟩
      · rintro i σ H' hi ⟨v2, v3, v4, ps, _, _, _, _, _, B⟩
        exact but_LT B (items_ne (items_same S1 e) nd)
      · rintro i x σ H' T hx ⟨v2, v3, v4, ps, rfl, hd, hlen, g, S, B⟩ nT
        have ST := new_same (o := .tup [.int (i : Nat), x]) nT
        obtain ⟨kx, kys⟩ := hK x (List.mem_of_getElem? hx)
        refine ⟨T, _, rfl, SqT.of upd_same, rfl, _, _, rfl, _, _, rfl, rfl, ?_⟩
        have S3 := S.trans ST
        have bad : ∀ H', Same H H' → (∀ p, TieOk ks H x p → p ∈ ps) → Q (.int (i : Nat)) H' := fun H' S' hbad => k (some i) H' ⟨ps, x, hx, hlen, g, hbad⟩ S'
        refine ⟨_, rfl, x, rfl, (kx.same S3).1, fun H4 S4 => ⟨_, rfl, ?_⟩⟩
        have S5 := S3.trans S4
        cases ep : pairB (upd H' T (.tup [.int (i : Nat), x])) x with
        | false =>
          refine iteT (iteT ⟨_, rfl, bad _ S5 fun p hp => ?_⟩)
          obtain ⟨a1, b1, h1, _⟩ := hp
          rw [pair_iff.mpr ⟨_, _, items_same S3 h1⟩] at ep
          cases ep
        | true =>
          refine iteF ?_
          have hit : ∃ ys, itemsOf H x = some ys ∧ ys.length = 2 := by
            obtain ⟨x1, y1, h1⟩ := pair_iff.mp ep
            have kq : isSeq H x = (itemsOf H x).isSome := kn_items kx
            have kq2 : isSeq (upd H' T (.tup [.int (i : Nat), x])) x = (itemsOf (upd H' T (.tup [.int (i : Nat), x])) x).isSome := kn_items (kx.same S3).1
            have kk := (kx.same S3).2
            unfold isSeq at kq kq2
            rw [kk, kq, h1] at kq2
            cases eq : itemsOf H x with
            | none =>
              rw [eq] at kq2
              cases kq2
            | some ys =>
              have := items_same S3 eq
              rw [h1] at this
              cases this
              exact ⟨_, rfl, rfl⟩
          obtain ⟨ys, hys, hy2⟩ := hit
          obtain ⟨_, kyall⟩ := kys ys hys
          refine ⟨_, rfl, _, rfl, x, b, ks, rfl, (kx.same S5).1, same_Q S5 hb, .inr ⟨ys, items_same S5 hys, by omega, kyall.same S5, fun r H6 hR S6 => ?_⟩⟩
          have S7 := S5.trans S6
          cases r with
          | some j =>
            refine ⟨rfl, _, rfl, ?_⟩
            rw [show decide (optV (some j) = V.non) = false from decide_eq_false (by intro z; cases z)]
            refine iteT ⟨_, rfl, bad _ S7 fun p hp => ?_⟩
            obtain ⟨a1, b1, h1, hne, ha, hb1, _⟩ := hp
            rw [hys] at h1
            cases h1
            obtain ⟨ss, y, hy, ht, gg, hbad⟩ := hR
            exfalso
            match j, hy, ht with
            | 0, hy, ht =>
              cases hy
              have : ss = [] := by
                have := congrArg List.length ht
                simpa using this.symm
              have := hbad a1 rfl ha
              simp_all
            | 1, hy, ht =>
              cases hy
              have es : ss = [a1] := by
                match ss, ht with
                | [s0], ht =>
                  simp at ht
                  rw [ht]
                | [], ht => simp at ht
                | _ :: _ :: _, ht => simp at ht
              have := hbad b1 rfl hb1
              rw [es] at this
              exact hne (List.mem_singleton.mp this).symm
            | n + 2, hy, ht => simp at hy
          | none =>
            refine ⟨rfl, _, rfl, ?_⟩
            rw [show decide (optV none = V.non) = true from decide_eq_true rfl]
            refine iteF ?_
            obtain ⟨ss, e1, gg⟩ := hR
            match ss, e1, gg with
            | [a1, b1], e1, gg =>
              subst e1
              have hne : a1 ≠ b1 := by
                have := gg.nd
                simp at this
                exact this
              have ok1 : TieOk ks H x (tp a1 b1) := ⟨a1, b1, hys, hne, gg.all a1 (by simp), gg.all b1 (by simp), rfl⟩
              refine ⟨_, rfl, x, a1, b1, rfl, items_same S7 hys, fun t H8 nt ht S8 => ?_⟩
              have hd8 : H8 d = some (.dT (seenK (ps.map keyP))) := S8 _ _ (S6 _ _ (S4 _ _ (ST _ _ hd)))
              have S9 := S7.trans S8
              refine ⟨_, rfl, _, rfl, d, _, rfl, DGet.t (k := keyP (tp a1 b1)) hd8 ht, _, rfl, ?_⟩
              by_cases hm : tp a1 b1 ∈ ps
              · rw [seen_yes (keyP_mem.mpr hm)]
                refine iteT ⟨_, rfl, bad _ S9 fun p hp => ?_⟩
                obtain ⟨a2, b2, h2, _, _, _, ep2⟩ := hp
                rw [hys] at h2
                cases h2
                rw [← ep2]
                exact hm
              · have nz : keyP (tp a1 b1) ∉ ps.map keyP := fun z => hm (keyP_mem.mp z)
                rw [seen_no nz]
                refine iteF ⟨_, rfl, _, rfl, d, _, rfl, DPut.t (k := keyP (tp a1 b1)) hd8 ht ?_, ?_⟩
                · unfold seenK
                  rw [List.length_map, List.length_map]
                  exact small1000 (Nat.le_trans g.len hl)
                · refine ⟨_, _, _, ps ++ [tp a1 b1], rfl, ?_, by rw [List.length_append, hlen]; rfl, ⟨?_, ?_, ?_⟩, ?_, ?_⟩
                  · rw [upd_same, seen_put _ _ nz, List.map_append]
                    rfl
                  · refine List.nodup_append.mpr ⟨g.nd, by simp, fun q hq q' hq' => ?_⟩
                    rw [List.mem_singleton.mp hq']
                    exact fun z => hm (z ▸ hq)
                  · have := (List.getElem?_eq_some_iff.mp hx).1
                    rw [List.length_append]
                    show ps.length + 1 ≤ xs.length
                    omega
                  · intro j u q hu hq
                    by_cases hj : j < ps.length
                    · rw [List.getElem?_append_left hj] at hq
                      exact g.ok j u q hu hq
                    · rw [List.getElem?_append_right (Nat.le_of_not_lt hj)] at hq
                      have ej : j - ps.length = 0 := by
                        have := (List.getElem?_eq_some_iff.mp hq).1
                        simp at this
                        omega
                      rw [ej] at hq
                      have ej2 : j = i := by omega
                      subst ej2
                      rw [hx] at hu
                      cases hu
                      cases hq
                      exact ok1
                  · exact fun b o q => by
                      rw [upd_ne (ne_of_none q nd0)]
                      exact S9 b o q
                  · exact fun b o nb q => by
                      rw [upd_ne nb]
                      exact S8 _ _ (S6 _ _ (S4 _ _ (ST _ _ (B b o nb q))))
            | [], e1, gg => subst e1; simp at hy2
            | [_], e1, gg => subst e1; simp at hy2
            | _ :: _ :: _ :: _, e1, gg => subst e1; simp at hy2
      · rintro σ H' ⟨v2, v3, v4, ps, rfl, hd, hlen, g, S, B⟩
        exact k none H' ⟨ps, hlen, g⟩ S
end
end E1

set_option Elab.async false
set_option linter.all false
set_option maxRecDepth 100000
set_option maxHeartbeats 4000000
/-! neighbours -/
namespace E1
open PySem PySem.Spec PyProof.Rows L2 G0
theorem dc_list {K : PySem.W.Frag} {a : Addr} {xs : List V} {g : TG} {tt : TT} {tk tv : TE} {vs : List Nat} {σ : L2.St} {H1 : Hp} {D : Addr} {Qd : Hp → Prop} (Pv : Nat → Hp → Prop) (h0 : Pv 0 (upd H1 D (.dK []))) (hl : ∀ i H, i ≤ xs.length → Pv i H → SqL K H a xs)
    (hs : ∀ i x H, xs[i]? = some x → Pv i H → g x (wipe σ vs) H fun σ2 H2 => wipe σ2 vs = wipe σ vs ∧ tt σ2 H2 fun b H3 =>
      if b = true then tk σ2 H3 fun y H4 => tv σ2 H4 fun z H5 => ∃ kvs k, y = kV k ∧ H5 D = some (.dK kvs) ∧ kvs.length < sizeLine ∧ Pv (i + 1) (upd H5 D (.dK (putK kvs k z))) else Pv (i + 1) H3) (hd : ∀ H, Pv xs.length H → Qd H) :
    ∃ W : Nat → Nat → Hp → Prop, (∃ m, W 0 m (upd H1 D (.dK []))) ∧ ∀ i m H, W i m H →
      ((Itl K a).stop i H ∧ Qd H) ∨ ((Itl K a).go i H ∧ ∃ Nx : Hp → Prop, (∀ H', Nx H' → ∃ m', m' < m ∧ W (i + 1) m' H') ∧ ∀ x H', (Itl K a).yld i H x H' → g x (wipe σ vs) H' fun σ2 H2 => wipe σ2 vs = wipe σ vs ∧ tt σ2 H2 fun b H3 =>
        if b = true then tk σ2 H3 fun y H4 => tv σ2 H4 fun z H5 => ∃ kvs k, y = kV k ∧ H5 D = some (.dK kvs) ∧ kvs.length < sizeLine ∧ Nx (upd H5 D (.dK (putK kvs k z))) else Nx H3) := by
  refine ⟨fun i m H => m = xs.length - i ∧ i ≤ xs.length ∧ Pv i H, ⟨xs.length, by simp, Nat.zero_le _, h0⟩, fun i m H ⟨em, hi, p⟩ => ?_⟩
  subst em
  have q := hl i H hi p
  rcases Nat.lt_or_ge i xs.length with lt | ge
  · refine .inr ⟨⟨xs, xs[i], q, by simp [lt]⟩, Pv (i + 1), fun H' p' => ⟨xs.length - (i + 1), by omega, rfl, lt, p'⟩, fun x H' y => ?_⟩
    obtain ⟨rfl, hz⟩ := y
    exact hs i x H' (hz xs q) p
  · have e : i = xs.length := by omega
    exact .inl ⟨⟨xs, q, ge⟩, hd H (by rw [← e]; exact p)⟩
/-- the other end of each tie of a place -/
def nb (ps : List Pr) (s : Str) : List Str := ps.flatMap fun p => (if p.1 = s then [p.2] else []) ++ (if p.2 = s then [p.1] else [])
theorem nb_snoc (ps : List Pr) (p : Pr) (s : Str) : nb (ps ++ [p]) s = nb ps s ++ ((if p.1 = s then [p.2] else []) ++ (if p.2 = s then [p.1] else [])) := by
  unfold nb
  rw [List.flatMap_append]
  simp
theorem nb_len (ps : List Pr) (s : Str) : (nb ps s).length ≤ 2 * ps.length := by
  induction ps with
  | nil => exact Nat.zero_le _
  | cons p r ih =>
    have e : nb (p :: r) s = ((if p.1 = s then [p.2] else []) ++ (if p.2 = s then [p.1] else [])) ++ nb r s := by simp [nb]
    rw [e, List.length_append, List.length_append, List.length_cons]
    split <;> split <;> simp <;> omega
/-- a dict from these places to lists of places -/
structure NearAt (H : Hp) (q : Addr) (ss : List Str) (f : Str → List Str) (l : Str → Addr) : Prop where
  d : H q = some (.dK (ss.map fun s => (Sum.inr s, V.ref (l s))))
  at_ : ∀ s ∈ ss, H (l s) = some (.lst ((f s).map V.str))
  inj : ∀ s ∈ ss, ∀ t ∈ ss, l s = l t → s = t
theorem NearAt.ne {H : Hp} {q : Addr} {ss : List Str} {f : Str → List Str} {l : Str → Addr} (N : NearAt H q ss f l) {s : Str} (h : s ∈ ss) : l s ≠ q := ne_of (N.at_ s h) N.d (fun z => by cases z)
theorem NearAt.mono {H H' : Hp} {q : Addr} {ss : List Str} {f : Str → List Str} {l : Str → Addr} (N : NearAt H q ss f l) (S : Same H H') : NearAt H' q ss f l := ⟨S _ _ N.d, fun s h => S _ _ (N.at_ s h), N.inj⟩
theorem map_val {ss : List Str} (l : Str → V) : ∀ {s : Str}, s ∈ ss → valV (ss.map fun s => ((Sum.inr s : Key), l s)) (Sum.inr s) = some (l s) := by
  induction ss with
  | nil => intro s h; cases h
  | cons x r ih =>
    intro s h
    unfold valV
    rw [List.map_cons, List.find?_cons]
    by_cases e : x = s
    · subst e
      simp
    · have e2 : decide ((Sum.inr x : Key) = Sum.inr s) = false := decide_eq_false fun z => e (by injection z)
      rw [e2]
      have h2 : s ∈ r := (List.mem_cons.mp h).resolve_left (Ne.symm e)
      have := ih h2
      unfold valV at this
      exact this
theorem put_new {κ : Type} [DecidableEq κ] {kvs : List (κ × V)} {k : κ} {v : V} (h : ∀ kv ∈ kvs, kv.1 ≠ k) : putK kvs k v = kvs ++ [(k, v)] := by
  unfold putK
  have e : (kvs.any fun kv => decide (kv.1 = k)) = false := by
    rw [List.any_eq_false]
    intro x hx
    simp only [decide_eq_true_eq]
    exact h x hx
  rw [e, if_neg (by simp)]
/-- one list grows -/
theorem NearAt.put {H : Hp} {q : Addr} {ss : List Str} {f : Str → List Str} {l : Str → Addr} (N : NearAt H q ss f l) {s : Str} (hs : s ∈ ss) (x : Str) : NearAt (upd H (l s) (.lst ((f s ++ [x]).map V.str))) q ss (fun t => if t = s then f s ++ [x] else f t) l := by
  refine ⟨by rw [upd_ne (N.ne hs).symm]; exact N.d, fun t ht => ?_, N.inj⟩
  by_cases e : t = s
  · subst e
    rw [upd_same, if_pos rfl]
  · rw [upd_ne (fun z => e (N.inj t ht s hs z)), if_neg e]
    exact N.at_ t ht
theorem NearAt.congr {H : Hp} {q : Addr} {ss : List Str} {f g : Str → List Str} {l : Str → Addr} (N : NearAt H q ss f l) (h : ∀ s ∈ ss, f s = g s) : NearAt H q ss g l := ⟨N.d, fun s hs => by rw [← h s hs]; exact N.at_ s hs, N.inj⟩
/-- one more place -/
theorem NearAt.more {H : Hp} {q p : Addr} {ss : List Str} {f : Str → List Str} {l : Str → Addr} (N : NearAt H q ss f l) {s : Str} (hs : s ∉ ss) (hp : H p = some (.lst ((f s).map V.str))) (np : ∀ t ∈ ss, l t ≠ p) (npq : p ≠ q) :
    NearAt (upd H q (.dK (putK (ss.map fun s => ((Sum.inr s : Key), V.ref (l s))) (Sum.inr s) (.ref p)))) q (ss ++ [s]) f (fun t => if t = s then p else l t) := by
  have ls : ∀ t ∈ ss, (if t = s then p else l t) = l t := fun t ht => if_neg (show t ≠ s from fun z => hs (z ▸ ht))
  refine ⟨?_, fun t ht => ?_, fun t ht u hu e => ?_⟩
  · rw [upd_same, put_new (fun kv hkv => ?_), List.map_append]
    · have e1 : (ss.map fun t => ((Sum.inr t : Key), V.ref (if t = s then p else l t))) = ss.map fun t => ((Sum.inr t : Key), V.ref (l t)) := List.map_congr_left fun t ht => by rw [ls t ht]
      rw [e1]
      simp
    · obtain ⟨t, ht, rfl⟩ := List.mem_map.mp hkv
      intro z
      cases z
      exact hs ht
  · rcases List.mem_append.mp ht with ht | ht
    · show upd H q _ (if t = s then p else l t) = _
      rw [ls t ht, upd_ne (N.ne ht)]
      exact N.at_ t ht
    · rw [List.mem_singleton.mp ht]
      show upd H q _ (if s = s then p else l s) = _
      rw [if_pos rfl, upd_ne npq]
      exact hp
  · have e : (if t = s then p else l t) = if u = s then p else l u := e
    rcases List.mem_append.mp ht with ht | ht
    · rw [ls t ht] at e
      rcases List.mem_append.mp hu with hu | hu
      · rw [ls u hu] at e
        exact N.inj t ht u hu e
      · rw [List.mem_singleton.mp hu, if_pos rfl] at e
        exact absurd e (np t ht)
    · rw [List.mem_singleton.mp ht] at e ⊢
      rw [if_pos rfl] at e
      rcases List.mem_append.mp hu with hu | hu
      · rw [ls u hu] at e
        exact absurd e.symm (np u hu)
      · exact (List.mem_singleton.mp hu).symm
abbrev s_nb : Stmt := topS 24
abbrev N_nb : List Str := ["places", "ties", "near", "place", "one", "other"]
theorem sc_nb : FnScope N_nb ["places", "ties"] (defScope s_nb) := ⟨rfl, rfl, rfl, by decide +kernel, rfl, by decide +kernel, by decide +kernel⟩
def spNb : Sp := fun vs H Q _ => ∃ (a b : Addr) (ss : List Str) (ts : List V) (ps : List Pr), vs = [.ref a, .ref b] ∧ H a = some (.lst (ss.map V.str)) ∧ H b = some (.lst ts) ∧ PrsAt H ts ps ∧ ss.Nodup ∧ ss.length ≤ 1000 ∧ ps.length ≤ 1000 ∧ (∀ p ∈ ps, p.1 ∈ ss ∧ p.2 ∈ ss) ∧
  ∀ q l H', NearAt H' q ss (fun s => sortS (nb ps s)) l → H q = none → (∀ s ∈ ss, H (l s) = none) → Same H H' → Q (.ref q) H'
section
variable {P : Program} {w : World} {K : PySem.W.Frag} {mg : Str → Option Value} {base : Heap} {C f : Addr} {fd : FuncData}
theorem take_mem {α : Type} {xs : List α} (nd : xs.Nodup) {i : Nat} {x : α} (h : xs[i]? = some x) : x ∉ xs.take i := by
  intro hm
  have e := List.take_append_drop i xs
  rw [← e] at nd
  have hx : x ∈ xs.drop i := by
    refine List.mem_of_getElem? (i := 0) ?_
    rw [List.getElem?_drop]
    exact h
  exact (List.nodup_append.mp nd).2.2 x hm x hx rfl
theorem boot_sorted : bootBuiltins "sorted" = some (.builtin "sorted") := by decide +kernel
theorem ok_nb (F : FnS K 24 f fd) (T : TxtN K mg) : FnOk P w K mg base CX0 1 f fd ["places", "ties"] spNb := by
  refine Fun.ok F sc_nb (fun vs H Q E h => ?_) (fun cdv A outer s H vs Q E hr h => ⟨_, pss_cons (ps_set (i := 2) sc_nb.nd rfl (Or.inr rfl) (pe_dc (own := [("place", 3)]) (tt := tYes) rfl sc_nb.nd (pi_list (pv 0)) (blkOk_by (own := [("place", 3)]) (N := N_nb) (sc := defScope s_nb) (by decide +kernel)) (fun _ _ _ _ _ => pg_name (i := 3) sc_nb.nd rfl (Or.inl rfl)) (fun _ _ _ _ _ => pts_nil) (fun _ _ _ _ _ => pv 3) (fun _ _ _ _ _ => pe_lst pa_nil)))
    (pss_cons (ps_for PassesOwn.never rfl (pi_list (pv 1)) (pg_tup rfl (pgs_cons (pg_name (i := 4) sc_nb.nd rfl (Or.inl rfl)) (pgs_cons (pg_name (i := 5) sc_nb.nd rfl (Or.inl rfl)) pgs_nil)))
      (pss_cons (ps_expr (pe_bm PySem.F.plainAttrs_list PySem.F.slot_list_append PySem.F.type_list_append mt_append (pe_dget (hu_of hr) (pv 2) (pv 4) (fun _ _ => rfl)) (pa_cons (pv 5) pa_nil)))
      (pss_one (ps_expr (pe_bm PySem.F.plainAttrs_list PySem.F.slot_list_append PySem.F.type_list_append mt_append (pe_dget (hu_of hr) (pv 2) (pv 5) (fun _ _ => rfl)) (pa_cons (pv 4) pa_nil))))))
    (pss_one (ps_ret (pe_dc (tv := tCB (rSortQ K) (tCons (tDGet (tVar 2) (tVar 3)) tNil)) (own := [("place", 3)]) (tt := tYes) rfl sc_nb.nd (pi_list (pv 0)) (blkOk_by (own := [("place", 3)]) (N := N_nb) (sc := defScope s_nb) (by decide +kernel)) (fun _ _ _ _ _ => pg_name (i := 3) sc_nb.nd rfl (Or.inl rfl)) (fun _ _ _ _ _ => pts_nil) (fun _ _ _ _ _ => pv 3) (fun _ _ _ _ _ => pe_callB cr_sortQ (by rfl) T.sorted boot_sorted (pa_cons (pe_dget (hu_of hr) (pv 2) (pv 3) (fun _ _ => rfl)) pa_nil)))))), ?_⟩)
  · obtain ⟨a, b, ss, ts, ps, rfl, _⟩ := h
    rfl
  · obtain ⟨a, b, ss, ts, ps, rfl, ha, hb, hp, nd, hl, hpl, hin, k⟩ := h
    refine ⟨_, rfl, a, rfl, ⟨_, SqL.of ha⟩, fun q nq => dc_list (xs := ss.map V.str) (fun i H' => ∃ l, NearAt H' q (ss.take i) (fun _ => []) l ∧ (∀ s ∈ ss.take i, H (l s) = none) ∧ Same H H') ⟨fun _ => q, ⟨upd_same, by simp, by simp⟩, by simp, new_same nq⟩ (fun i H' _ ⟨_, _, _, S⟩ => SqL.of (S _ _ ha)) ?_ ?_⟩
    · rintro i x H' hx ⟨l, N, fr, S⟩
      rw [List.getElem?_map] at hx
      cases es : ss[i]? with
      | none => rw [es] at hx; cases hx
      | some s =>
        rw [es] at hx
        cases hx
        have ns := take_mem nd es
        refine ⟨rfl, yes_of ⟨_, rfl, Nat.zero_le _, fun p np => ⟨_, Sum.inr s, rfl, by rw [upd_ne (ne_of_none N.d np)]; exact N.d, ?_, fun t => if t = s then p else l t, ?_, ?_, ?_⟩⟩⟩
        · rw [List.length_map, List.length_take]
          exact small1000 (by omega)
        · rw [take_snoc es]
          have N2 : NearAt (upd H' p (.lst [])) q (ss.take i) (fun _ => []) l := N.mono (new_same np)
          exact N2.more (p := p) ns upd_same (fun t ht => ne_of_none (N.at_ t ht) np) (ne_of_none N.d np).symm
        · intro t ht
          have npH : H p = none := S.free np
          rw [take_snoc es] at ht
          by_cases e : t = s
          · show H (if t = s then p else l t) = none
            rw [if_pos e]
            exact npH
          · show H (if t = s then p else l t) = none
            rw [if_neg e]
            rcases List.mem_append.mp ht with ht | ht
            · exact fr t ht
            · exact absurd (List.mem_singleton.mp ht) e
        · exact fun b o e => by
            have npH : H p = none := S.free np
            rw [upd_ne (ne_of_none e nq), upd_ne (ne_of_none e npH)]
            exact S b o e
    · rintro H1 ⟨l, N, fr, S⟩
      rw [List.length_map, List.take_length] at N fr
      have key : ∀ (H2 : Hp) (p : Pr) (i : Nat), NearAt H2 q ss (nb (ps.take i)) l → p ∈ ps → NearAt (upd (upd H2 (l p.1) (.lst ((nb (ps.take i) p.1 ++ [p.2]).map V.str))) (l p.2) (.lst (((if p.2 = p.1 then nb (ps.take i) p.1 ++ [p.2] else nb (ps.take i) p.2) ++ [p.1]).map V.str))) q ss (fun s => if s = p.2 then (if p.2 = p.1 then nb (ps.take i) p.1 ++ [p.2] else nb (ps.take i) p.2) ++ [p.1] else if s = p.1 then nb (ps.take i) p.1 ++ [p.2] else nb (ps.take i) s) l := fun H2 p i N2 hp =>
        ((N2.put (hin p hp).1 p.2).put (hin p hp).2 p.1)
      refine ⟨_, rfl, b, rfl, ⟨_, SqL.of (S _ _ hb)⟩, for_list (xs := ts) (fun i σ H' => ∃ v3 v4 v5, σ = [some (.ref a), some (.ref b), some (.ref q), v3, v4, v5] ∧ NearAt H' q ss (nb (ps.take i)) l ∧ Same H H') ⟨none, none, none, rfl, N.congr fun s _ => by simp [nb], S⟩ (fun i σ H' _ ⟨_, _, _, _, _, S⟩ => SqL.of (S _ _ hb)) ?_ ?_⟩
      · rintro i x σ H' hx ⟨v3, v4, v5, rfl, N, S⟩
        have hi : i < ps.length := by
          rw [← hp.1]
          exact (List.getElem?_eq_some_iff.mp hx).1
        obtain ⟨p, hpi⟩ : ∃ p, ps[i]? = some p := ⟨ps[i], List.getElem?_eq_getElem hi⟩
        have hpm : p ∈ ps := List.mem_of_getElem? hpi
        obtain ⟨t, rfl, ht⟩ := hp.2 i x p hx hpi
        obtain ⟨h1, h2⟩ := hin p hpm
        refine ⟨t, _, rfl, SqT.of (S _ _ ht), rfl, _, _, rfl, _, _, rfl, rfl, ?_⟩
        have small : ∀ s, (nb (ps.take i) s).length + 5 < sizeLine := fun s => by
          have := nb_len (ps.take i) s
          rw [List.length_take] at this
          exact Nat.lt_of_le_of_lt (Nat.add_le_add_right (Nat.le_trans this (show 2 * min i ps.length ≤ 2000 by omega)) 5) (by decide)
        have e1 := DGet.k (k := Sum.inr p.1) N.d
        rw [map_val (fun s => V.ref (l s)) h1] at e1
        refine ⟨_, rfl, _, rfl, q, _, rfl, e1, .inl ⟨rfl, _, SqL.of (N.at_ _ h1)⟩, _, rfl, l p.1, _, _, rfl, rfl, N.at_ _ h1, ?_, ?_⟩
        · rw [List.length_map]
          have := small p.1
          omega
        have N2 := N.put h1 p.2
        rw [List.map_append] at N2
        have e2 := DGet.k (k := Sum.inr p.2) N2.d
        rw [map_val (fun s => V.ref (l s)) h2] at e2
        refine ⟨_, rfl, _, rfl, q, _, rfl, e2, .inl ⟨rfl, _, SqL.of (N2.at_ _ h2)⟩, _, rfl, l p.2, _, _, rfl, rfl, N2.at_ _ h2, ?_, ?_⟩
        · rw [List.length_map]
          have a1 := small p.1
          have a2 := small p.2
          split
          · rw [List.length_append]
            simp
            omega
          · omega
        have N3 := N2.put h2 p.1
        rw [List.map_append] at N3
        refine ⟨_, _, _, rfl, N3.congr fun s hs => ?_, ?_⟩
        · rw [take_snoc hpi, nb_snoc]
          show (if s = p.2 then (if p.2 = p.1 then nb (ps.take i) p.1 ++ [p.2] else nb (ps.take i) p.2) ++ [p.1] else if s = p.1 then nb (ps.take i) p.1 ++ [p.2] else nb (ps.take i) s) = _
          by_cases c2 : s = p.2
          · subst c2
            rw [if_pos rfl, if_pos rfl]
            by_cases c1 : p.2 = p.1
            · rw [if_pos c1, if_pos c1.symm, c1, List.append_assoc]
            · rw [if_neg c1, if_neg (fun z => c1 z.symm), List.nil_append]
          · rw [if_neg c2, show (if p.2 = s then [p.1] else ([] : List Str)) = [] from if_neg (fun z => c2 z.symm), List.append_nil]
            by_cases c1 : s = p.1
            · subst c1
              rw [if_pos rfl, if_pos rfl]
            · rw [if_neg c1, show (if p.1 = s then [p.2] else ([] : List Str)) = [] from if_neg (fun z => c1 z.symm), List.append_nil]
        · exact fun b o e => by
            rw [upd_ne (ne_of_none e (fr _ h2)), upd_ne (ne_of_none e (fr _ h1))]
            exact S b o e
      · rintro σ H2 ⟨v3, v4, v5, rfl, N, S⟩
        rw [hp.1, List.take_length] at N
        have N0 := N
        refine ⟨_, rfl, a, rfl, ⟨_, SqL.of (S _ _ ha)⟩, fun q2 nq2 => dc_list (xs := ss.map V.str) (fun i H' => ∃ l2, NearAt H' q2 (ss.take i) (fun s => sortS (nb ps s)) l2 ∧ NearAt H' q ss (nb ps) l ∧ (∀ s ∈ ss.take i, H (l2 s) = none) ∧ Same H H') ⟨fun _ => q2, ⟨upd_same, by simp, by simp⟩, N.mono (new_same nq2), by simp, S.trans (new_same nq2)⟩ (fun i H' _ ⟨_, _, _, _, S⟩ => SqL.of (S _ _ ha)) ?_ ?_⟩
        · rintro i x H' hx ⟨l2, N2, N, fr2, S'⟩
          rw [List.getElem?_map] at hx
          cases es : ss[i]? with
          | none => rw [es] at hx; cases hx
          | some s =>
            rw [es] at hx
            cases hx
            have ns := take_mem nd es
            have hs : s ∈ ss := List.mem_of_getElem? es
            have e1 := DGet.k (k := Sum.inr s) N.d
            rw [map_val (fun s => V.ref (l s)) hs] at e1
            refine ⟨rfl, yes_of ⟨_, rfl, _, rfl, _, rfl, q, _, rfl, e1, l s, nb ps s, rfl, .inl (SqL.of (N.at_ s hs)), fun p np => ⟨_, Sum.inr s, rfl, by rw [upd_ne (ne_of_none N2.d np)]; exact N2.d, ?_, fun t => if t = s then p else l2 t, ?_, ?_, ?_, ?_⟩⟩⟩
            · rw [List.length_map, List.length_take]
              exact small1000 (by omega)
            · rw [take_snoc es]
              have N3 : NearAt (upd H' p (.lst ((sortS (nb ps s)).map V.str))) q2 (ss.take i) (fun s => sortS (nb ps s)) l2 := N2.mono (new_same np)
              exact N3.more (p := p) ns upd_same (fun t ht => ne_of_none (N2.at_ t ht) np) (ne_of_none N2.d np).symm
            · have nq2' : q2 ≠ q := (ne_of_none N0.d nq2).symm
              have N4 : NearAt (upd H' p (.lst ((sortS (nb ps s)).map V.str))) q ss (nb ps) l := N.mono (new_same np)
              have hq2 : (upd H' p (.lst ((sortS (nb ps s)).map V.str))) q2 = _ := (new_same np) _ _ N2.d
              exact ⟨by rw [upd_ne nq2'.symm]; exact N4.d, fun t ht => by rw [upd_ne (ne_of (N4.at_ t ht) hq2 (fun z => by cases z))]; exact N4.at_ t ht, N4.inj⟩
            · intro t ht
              have npH : H p = none := S'.free np
              rw [take_snoc es] at ht
              by_cases e : t = s
              · show H (if t = s then p else l2 t) = none
                rw [if_pos e]
                exact npH
              · show H (if t = s then p else l2 t) = none
                rw [if_neg e]
                rcases List.mem_append.mp ht with ht | ht
                · exact fr2 t ht
                · exact absurd (List.mem_singleton.mp ht) e
            · exact fun b o e => by
                have npH : H p = none := S'.free np
                have nqH : H q2 = none := S.free nq2
                rw [upd_ne (ne_of_none e nqH), upd_ne (ne_of_none e npH)]
                exact S' b o e
        · rintro H3 ⟨l2, N2, N, fr2, S'⟩
          rw [List.length_map, List.take_length] at N2 fr2
          exact k q2 l2 H3 N2 (S.free nq2) fr2 S'
end
end E1

set_option Elab.async false
set_option linter.all false
set_option maxRecDepth 100000
set_option maxHeartbeats 4000000
/-! What is told of a list is told once. -/
namespace E1
open PySem PySem.Spec PyProof.Rows L2 G0
theorem scan_no {ok : Str → Prop} {xs : List V} {ss ss' : List Str} {i j : Nat} {y : V} (g : Good ok ss) (ht : xs.take j = ss.map V.str) (hij : i < j) (hy : xs[i]? = some y) (ht' : xs.take i = ss'.map V.str) (hb : ∀ z, y = .str z → ok z → z ∈ ss') : False := by
  have e1 : (xs.take j)[i]? = some y := by
    rw [List.getElem?_take, if_pos hij]
    exact hy
  rw [ht, List.getElem?_map] at e1
  cases ez : ss[i]? with
  | none => rw [ez] at e1; cases e1
  | some z =>
    rw [ez] at e1
    injection e1 with e1
    have hm := hb z e1.symm (g.all z (List.mem_of_getElem? ez))
    have e2 : (ss.take i).map V.str = ss'.map V.str := by
      rw [List.map_take, ← ht, List.take_take, Nat.min_eq_left (Nat.le_of_lt hij), ht']
    have e3 : ss.take i = ss' := (List.map_inj_right (fun a b h => by injection h)).mp e2
    rw [← e3] at hm
    exact take_mem g.nd ez hm
theorem scan_uniq {ok : Str → Prop} {xs : List V} {r q : Option Nat} (h1 : ScanR ok xs r) (h2 : ScanR ok xs q) : r = q := by
  cases r with
  | none =>
    obtain ⟨ss, e, g⟩ := h1
    cases q with
    | none => rfl
    | some i =>
      obtain ⟨ss', y, hy, ht, _, hb⟩ := h2
      exact (scan_no (j := xs.length) g (by rw [List.take_length]; exact e) (List.getElem?_eq_some_iff.mp hy).1 hy ht hb).elim
  | some i =>
    obtain ⟨ss, y, hy, ht, g, hb⟩ := h1
    cases q with
    | none =>
      obtain ⟨ss', e, g'⟩ := h2
      exact (scan_no (j := xs.length) g' (by rw [List.take_length]; exact e) (List.getElem?_eq_some_iff.mp hy).1 hy ht hb).elim
    | some j =>
      obtain ⟨ss', y', hy', ht', g', hb'⟩ := h2
      rcases Nat.lt_trichotomy i j with l | l | l
      · exact (scan_no g' ht' l hy ht hb).elim
      · rw [l]
      · exact (scan_no g ht l hy' ht' hb').elim
theorem tie_fun {ks : List Str} {H : Hp} {x : V} {p q : Pr} (h1 : TieOk ks H x p) (h2 : TieOk ks H x q) : p = q := by
  obtain ⟨a, b, e, _, _, _, rfl⟩ := h1
  obtain ⟨a', b', e', _, _, _, rfl⟩ := h2
  rw [e] at e'
  cases e'
  rfl
theorem tie_no {ks : List Str} {H : Hp} {xs : List V} {ps qs : List Pr} {i : Nat} {y : V} (g : TiesTo ks H xs ps) (hi : i < ps.length) (hy : xs[i]? = some y) (g' : TiesTo ks H xs qs) (hq : qs.length = i) (hb : ∀ p, TieOk ks H y p → p ∈ qs) : False := by
  have ep : ps[i]? = some ps[i] := List.getElem?_eq_getElem hi
  have hm := hb _ (g.ok i y _ hy ep)
  obtain ⟨k, hk⟩ := List.getElem?_of_mem hm
  have hk' : k < i := by
    rw [← hq]
    exact (List.getElem?_eq_some_iff.mp hk).1
  have hkl : k < xs.length := Nat.lt_trans hk' (Nat.lt_of_lt_of_le hi g.len)
  have ex : xs[k]? = some xs[k] := List.getElem?_eq_getElem hkl
  have ek : ps[k]? = some ps[k] := List.getElem?_eq_getElem (Nat.lt_trans hk' hi)
  have e1 := tie_fun (g.ok k _ _ ex ek) (g'.ok k _ _ ex hk)
  have := (List.getElem?_inj (Nat.lt_trans hk' hi) g.nd).mp (show ps[k]? = ps[i]? from by rw [ek, ep, e1])
  omega
theorem tie_uniq {ks : List Str} {H : Hp} {xs : List V} {r q : Option Nat} (h1 : TieR ks H xs r) (h2 : TieR ks H xs q) : r = q := by
  cases r with
  | none =>
    obtain ⟨ps, e, g⟩ := h1
    cases q with
    | none => rfl
    | some i =>
      obtain ⟨qs, y, hy, hl, g', hb⟩ := h2
      exact (tie_no g (by rw [e]; exact (List.getElem?_eq_some_iff.mp hy).1) hy g' hl hb).elim
  | some i =>
    obtain ⟨ps, y, hy, hl, g, hb⟩ := h1
    cases q with
    | none =>
      obtain ⟨qs, e, g'⟩ := h2
      exact (tie_no g' (by rw [e]; exact (List.getElem?_eq_some_iff.mp hy).1) hy g hl hb).elim
    | some j =>
      obtain ⟨qs, y', hy', hl', g', hb'⟩ := h2
      rcases Nat.lt_trichotomy i j with l | l | l
      · exact (tie_no g' (by omega) hy g hl hb).elim
      · rw [l]
      · exact (tie_no g (by omega) hy' g' hl' hb').elim
end E1

set_option Elab.async false
set_option linter.all false
set_option maxRecDepth 100000
set_option maxHeartbeats 4000000
/-! Own errors with one field: the __init__, and the raising. -/
namespace G0
open PySem PySem.Spec PyProof.Rows L2
/-- at e stands an error of the class at C, with these fields -/
def ExcAt (H : Hp) (e C : Addr) (fs : List (Str × V)) : Prop := ∃ d, H e = some (exo e C (some d)) ∧ H d = some (exd d fs) ∧ d ≠ e
def spI1 (C : Addr) (n : Str) : Sp := fun vs H Q _ => ∃ (a : Addr) (v : V), vs = [.ref a, v] ∧ H a = some (exo a C none) ∧
  ∀ H' d, H d = none → d ≠ a → H' a = some (exo a C (some d)) → H' d = some (exd d [(n, v)]) → (∀ b o, b ≠ a → H b = some o → H' b = some o) → Q .non H'
theorem visP {N ps : List Str} {sc : Scope} (S : FnScope N ps sc) {x : Str} (h : x ∈ ps) : Vis sc x := by
  rcases S.par x h with k | k
  · exact .inl k
  · exact .inr (.inl k)
section
variable {P : Program} {w : World} {K : PySem.W.Frag} {mg : Str → Option Value} {base : Heap} {q x : Str} {params : Arguments} {body : List Stmt} {scope : Scope} {C f : Addr} {fd : FuncData}
theorem ok_init1 {p1 p2 p3 p4 : Pos} (F : FunD K "__init__" q params body scope [] [] f fd) (hb : body = [.Assign [.Attribute (.Name "self" p1) x p2] (.Name x p3) p4]) (S : FnScope ["self", x] ["self", x] scope)
    (T : OexC K C) (no : PySem.W.findIn K (.ref C) x = some none) (hd : (x == ("__debug__" : Str)) = false) (hc : (x == ("__classdict__" : Str)) = false) : FnOk P w K mg base CX0 1 f fd ["self", x] (spI1 C x) := by
  subst hb
  refine F.ok S (fun vs H Q E h => ?_) (fun cdv A outer s H vs Q E hr h => ?_)
  · obtain ⟨a, v, rfl, _⟩ := h
    rfl
  · obtain ⟨a, v, rfl, ha, k⟩ := h
    refine ⟨_, PSs.nox (pss_one (ps_ost (pe_var (i := 0) rfl (visP S (by simp)) (by decide) (by decide)) (pe_var (i := 1) rfl (visP S (by simp)) hd hc))), ?_⟩
    refine ⟨v, rfl, .ref a, rfl, a, C, rfl, T, no, .inl ⟨ha, fun dx n ne => k _ dx n ne upd_same ?_ fun b o hb e => ?_⟩⟩
    · rw [upd_ne ne]
      exact upd_same
    · rw [upd_ne hb, upd_ne (ne_of_none e n)]
      exact e
end
/-- what is wanted of an error of the class at C with this field -/
def Raised (H : Hp) (C : Addr) (n : Str) (v : V) (E : XK) : Prop := ∀ d H', H d = none → H' d = some (.xd [(n, v)]) → (∀ b o, H b = some o → H' b = some o) → E (.ref C) (some d) H'
theorem Raised.of {H : Hp} {C : Addr} {n : Str} {v : V} {E : XK} {a : Addr} (h : Raised H C n v E) (na : H a = none) : spI1 C n [.ref a, v] (upd H a (exo a C none))
    (fun v H2 => v = .non ∧ ∃ (d : Addr) (fs : List (Str × V)), H2 a = some (exo a C (some d)) ∧ H2 d = some (exd d fs) ∧ H d = none ∧ E (.ref C) (some d) (upd (del H2 a) d (.xd fs))) (fun _ _ _ => False) := by
  refine ⟨a, v, rfl, upd_same, fun H' d nd ne ha hd k => ⟨rfl, d, _, ha, hd, ?_, ?_⟩⟩
  · rw [upd_ne ne] at nd
    exact nd
  · rw [upd_ne ne] at nd
    refine h d _ nd upd_same fun b o e => ?_
    have nb : b ≠ a := ne_of_none e na
    rw [upd_ne (ne_of_none e nd), del_ne nb]
    exact k b o nb (by rw [upd_ne nb]; exact e)
theorem Raised.mono {H H1 : Hp} {C : Addr} {n : Str} {v : V} {E : XK} (h : Raised H C n v E) (k : ∀ b o, H b = some o → H1 b = some o) : Raised H1 C n v E := fun d H' nd hd kk => h d H' (by
  cases e : H d with
  | none => rfl
  | some o =>
    rw [k d o e] at nd
    cases nd) hd fun b o e => kk b o (k b o e)
end G0

set_option Elab.async false
set_option linter.all false
set_option maxRecDepth 100000
set_option maxHeartbeats 4000000
/-! boards.py: class Board. -/
namespace E1
open PySem PySem.Spec PyProof.Rows L2 G0
abbrev mS (j : Nat) : Stmt := inClass (topS 25) j
/-- an error with one field: where it stands -/
structure ErrD (K : PySem.W.Frag) (mg : Str → Option Value) (i : Nat) (nm fl : Str) where
  C : Addr
  f : Addr
  fd : FuncData
  F : FunD K "__init__" (nm ++ ".__init__") (defArgs (inClass (topS i) 0)) (defBody (inClass (topS i) 0)) (defScope (inClass (topS i) 0)) [] [] f fd
  T : OexC K C
  no : PySem.W.findIn K (.ref C) fl = some none
  iC : PySem.W.findIn K (.ref C) "__init__" = some (some (.ref f))
  tI : PySem.W.typeIn K (.ref f) = some (.type "function")
  g : mg nm = some (.ref C)
/-- where the class Board stands -/
structure BoardD (K : PySem.W.Frag) (mg : Str → Option Value) where
  C : Addr
  g : mg "Board" = some (.ref C)
  O : OwnC K C
  noP : NoAttr K C "_places"
  noT : NoAttr K C "_ties"
  noR : NoAttr K C "_rim"
  noN : NoAttr K C "_near"
  f : Nat → Addr
  d : Nat → FuncData
  F0 : FunD K "__init__" "Board.__init__" (defArgs (mS 0)) (defBody (mS 0)) (defScope (mS 0)) [] [] (f 0) (d 0)
  F1 : FunD K "__eq__" "Board.__eq__" (defArgs (mS 1)) (defBody (mS 1)) (defScope (mS 1)) [] [] (f 1) (d 1)
  F2 : FunD K "places" "Board.places" (defArgs (mS 2)) (defBody (mS 2)) (defScope (mS 2)) [] [] (f 2) (d 2)
  F3 : FunD K "ties" "Board.ties" (defArgs (mS 3)) (defBody (mS 3)) (defScope (mS 3)) [] [] (f 3) (d 3)
  F4 : FunD K "rim" "Board.rim" (defArgs (mS 4)) (defBody (mS 4)) (defScope (mS 4)) [] [] (f 4) (d 4)
  F5 : FunD K "has_place" "Board.has_place" (defArgs (mS 5)) (defBody (mS 5)) (defScope (mS 5)) [] [] (f 5) (d 5)
  F6 : FunD K "ties_of" "Board.ties_of" (defArgs (mS 6)) (defBody (mS 6)) (defScope (mS 6)) [] [] (f 6) (d 6)
  M0 : Mk K C (f 0)
  M2 : Meth K C "places" (f 2)
  M3 : Meth K C "ties" (f 3)
  M4 : Meth K C "rim" (f 4)
  M5 : Meth K C "has_place" (f 5)
  M6 : Meth K C "ties_of" (f 6)
  eqA : PySem.W.findIn K (.ref C) "__eq__" = some (some (.ref (f 1)))
  eqF : PySem.W.isFn K (.ref (f 1)) = true
  ne : ∀ (h : Heap) (x : Addr) (o : Obj), K.In h → h.get? x = some o → o.cls = .ref C → h.OwnEqNoNe x C (f 1) "object" [.type "object"]
  P : ErrD K mg 4 "BadPlaces" "index"
  T : ErrD K mg 6 "BadTies" "index"
  R : ErrD K mg 5 "BadRim" "index"
  N : ErrD K mg 8 "NoPlace" "thing"
  nf : ∀ T ∈ ["NoneType", "bool", "int", "str", "list", "tuple", "dict"], PySem.W.notFirst K C (.type T) = true
  fNb : Addr
  dNb : FuncData
  FNb : FnS K 24 fNb dNb
  gNb : mg "neighbours" = some (.ref fNb)
/-- names, ties between them, pins among them -/
structure BdOk (pl : List Str) (ts : List Pr) (rm : List Str) : Prop where
  nm : ∀ z ∈ pl, nameB z = true
  tie : ∀ p ∈ ts, p.1 ∈ pl ∧ p.2 ∈ pl
  pin : ∀ z ∈ rm, z ∈ pl
/-- a board: its places, ties and rim; N: where it may lie -/
def BoardAt (N : Addr → Prop) (C : Addr) (H : Hp) (a : Addr) (pl : List Str) (ts : List Pr) (rm : List Str) : Prop :=
  ∃ (dx aP aT aR aN : Addr) (tv : List V) (l : Str → Addr), H a = some (.ins C dx [("_places", .ref aP), ("_ties", .ref aT), ("_rim", .ref aR), ("_near", .ref aN)]) ∧ H aP = some (.lst (pl.map V.str)) ∧ H aT = some (.lst tv) ∧ PrsAt H tv ts ∧
    H aR = some (.lst (rm.map V.str)) ∧ NearAt H aN pl (fun s => sortS (nb ts s)) l ∧ BdOk pl ts rm ∧ (N a ∧ N aP ∧ N aT ∧ N aR ∧ N aN ∧ (∀ s ∈ pl, N (l s)) ∧ ∀ t, V.ref t ∈ tv → N t)
theorem BoardAt.frame {N : Addr → Prop} {C : Addr} {H H' : Hp} {a : Addr} {pl : List Str} {ts : List Pr} {rm : List Str} (b : BoardAt N C H a pl ts rm) (S : ∀ c o, N c → H c = some o → H' c = some o) : BoardAt N C H' a pl ts rm := by
  obtain ⟨dx, aP, aT, aR, aN, tv, l, h1, h2, h3, h4, h5, h6, h7, n1, n2, n3, n4, n5, n6, n7⟩ := b
  refine ⟨dx, aP, aT, aR, aN, tv, l, S _ _ n1 h1, S _ _ n2 h2, S _ _ n3 h3, ⟨h4.1, fun i v q e1 e2 => ?_⟩, S _ _ n4 h5, ⟨S _ _ n5 h6.d, fun s hs => S _ _ (n6 s hs) (h6.at_ s hs), h6.inj⟩, h7, n1, n2, n3, n4, n5, n6, n7⟩
  obtain ⟨t, rfl, ht⟩ := h4.2 i v q e1 e2
  exact ⟨t, rfl, S _ _ (n7 t (List.mem_of_getElem? e1)) ht⟩
theorem BoardAt.same {N : Addr → Prop} {C : Addr} {H H' : Hp} {a : Addr} {pl : List Str} {ts : List Pr} {rm : List Str} (b : BoardAt N C H a pl ts rm) (S : Same H H') : BoardAt N C H' a pl ts rm := b.frame fun c o _ e => S c o e
theorem BoardAt.weak {N N' : Addr → Prop} {C : Addr} {H : Hp} {a : Addr} {pl : List Str} {ts : List Pr} {rm : List Str} (b : BoardAt N C H a pl ts rm) (k : ∀ c, N c → N' c) : BoardAt N' C H a pl ts rm := by
  obtain ⟨dx, aP, aT, aR, aN, tv, l, h1, h2, h3, h4, h5, h6, h7, n1, n2, n3, n4, n5, n6, n7⟩ := b
  exact ⟨dx, aP, aT, aR, aN, tv, l, h1, h2, h3, h4, h5, h6, h7, k _ n1, k _ n2, k _ n3, k _ n4, k _ n5, fun s hs => k _ (n6 s hs), fun t ht => k _ (n7 t ht)⟩
/-- where it is known to lie -/
theorem BoardAt.there {N : Addr → Prop} {C : Addr} {H : Hp} {a : Addr} {pl : List Str} {ts : List Pr} {rm : List Str} (b : BoardAt N C H a pl ts rm) : BoardAt (fun c => N c ∧ ∃ o, H c = some o) C H a pl ts rm := by
  obtain ⟨dx, aP, aT, aR, aN, tv, l, h1, h2, h3, h4, h5, h6, h7, n1, n2, n3, n4, n5, n6, n7⟩ := b
  refine ⟨dx, aP, aT, aR, aN, tv, l, h1, h2, h3, h4, h5, h6, h7, ⟨n1, _, h1⟩, ⟨n2, _, h2⟩, ⟨n3, _, h3⟩, ⟨n4, _, h5⟩, ⟨n5, _, h6.d⟩, fun s hs => ⟨n6 s hs, _, h6.at_ s hs⟩, fun t ht => ⟨n7 t ht, ?_⟩⟩
  obtain ⟨i, hi⟩ := List.getElem?_of_mem ht
  have hl : i < ts.length := by
    rw [← h4.1]
    exact (List.getElem?_eq_some_iff.mp hi).1
  obtain ⟨t', e, ht'⟩ := h4.2 i _ _ hi (List.getElem?_eq_getElem hl)
  cases e
  exact ⟨_, ht'⟩
/-- what Board(p, t, r) does -/
def MadeR {mg : Str → Option Value} (K : PySem.W.Frag) (D : BoardD K mg) (H : Hp) (p t r : V) (nx : List Str → List Pr → List Str → Prop) (E : XK) : Prop :=
  Kn D.C H p ∧ (
    (∃ i : Nat, ((itemsOf H p = none ∧ i = 0) ∨ ∃ xs, itemsOf H p = some xs ∧ xs.length ≤ 1000 ∧ KnAll D.C H xs ∧ ScanR (fun z => nameB z = true) xs (some i)) ∧ Raised H D.P.C "index" (.int i) E) ∨
    ∃ ps : List Str, itemsOf H p = some (ps.map V.str) ∧ ps.length ≤ 1000 ∧ (∀ z ∈ ps, z.length ≤ 1000) ∧ Good (fun z => nameB z = true) ps ∧ Kn D.C H t ∧ (
      (∃ i : Nat, ((itemsOf H t = none ∧ i = 0) ∨ ∃ xs, itemsOf H t = some xs ∧ xs.length ≤ 1000 ∧ KnTies D.C H xs ∧ TieR ps H xs (some i)) ∧ Raised H D.T.C "index" (.int i) E) ∨
      ∃ xs qs, itemsOf H t = some xs ∧ xs.length ≤ 1000 ∧ KnTies D.C H xs ∧ qs.length = xs.length ∧ TiesTo ps H xs qs ∧ Kn D.C H r ∧ (
        (∃ i : Nat, ((itemsOf H r = none ∧ i = 0) ∨ ∃ ys, itemsOf H r = some ys ∧ ys.length ≤ 1000 ∧ KnAll D.C H ys ∧ ScanR (fun z => z ∈ ps) ys (some i)) ∧ Raised H D.R.C "index" (.int i) E) ∨
        ∃ rs : List Str, itemsOf H r = some (rs.map V.str) ∧ rs.length ≤ 1000 ∧ (∀ z ∈ rs, z.length ≤ 1000) ∧ Good (fun z => z ∈ ps) rs ∧ nx ps qs rs)))
def spInit {mg : Str → Option Value} (K : PySem.W.Frag) (D : BoardD K mg) : Sp := fun vs H Q E => ∃ (x dx : Addr) (p t r : V), vs = [.ref x, p, t, r] ∧ H x = some (.ins D.C dx []) ∧
  MadeR K D H p t r (fun ps qs rs => ∀ H', BoardAt (fun b => b = x ∨ H b = none) D.C H' x (sortS ps) (sortPr qs) rs → (∀ b o, b ≠ x → H b = some o → H' b = some o) → Q .non H') E
theorem good_len {ok : Str → Prop} {rs : List Str} (g : Good ok rs) : True := trivial
theorem kn_strs {C : Addr} {H : Hp} {ss : List Str} (h : ∀ z ∈ ss, z.length ≤ 1000) : KnAll C H (ss.map V.str) := fun x hx => by
  obtain ⟨z, hz, rfl⟩ := List.mem_map.mp hx
  exact ⟨.str z, fun y e => by cases e; exact h z hz⟩
theorem scan_none {ok : Str → Prop} {ss : List Str} (g : Good ok ss) : ScanR ok (ss.map V.str) none := ⟨ss, rfl, g⟩
theorem Same.of {H H' : Hp} (h : ∀ b o, H b = some o → H' b = some o) : Same H H' := h
theorem lc_seqQ2 {K : PySem.W.Frag} {a : Addr} {xs : List V} {g : TG} {tt : TT} {te : TE} {vs : List Nat} {σ : L2.St} {H1 : Hp} {Qd : Addr → Hp → Prop} (hq : SqQ K H1 a xs)
    (h : ∀ D, H1 D = none → ∃ Pv : Nat → Hp → Prop, Pv 0 (upd H1 D (.lst [])) ∧ (∀ i H', i ≤ xs.length → Pv i H' → (∀ ys, SqL K H1 a ys → SqL K H' a ys) ∧ ∀ ys, SqT K H1 a ys → SqT K H' a ys) ∧
      (∀ i x H, xs[i]? = some x → Pv i H → g x (wipe σ vs) H fun σ2 H2 => wipe σ2 vs = wipe σ vs ∧ tt σ2 H2 fun b H3 =>
        if b = true then te σ2 H3 fun y H4 => ∃ acc, H4 D = some (.lst acc) ∧ acc.length < sizeLine ∧ Pv (i + 1) (upd H4 D (.lst (acc ++ [y]))) else Pv (i + 1) H3) ∧ ∀ H, Pv xs.length H → Qd D H) :
    (SqL K H1 a xs ∧ ∀ D, H1 D = none → LcW (Itl K a) g tt te vs σ H1 D (Qd D)) ∨ (SqT K H1 a xs ∧ ∀ D, H1 D = none → LcW (Itt K a) g tt te vs σ H1 D (Qd D)) := by
  rcases hq with hq | hq
  · refine .inl ⟨hq, fun D hD => ?_⟩
    obtain ⟨Pv, h0, hl, hs, hd⟩ := h D hD
    exact lc_any xs.length Pv h0 (fun i H' lt p => ⟨xs, xs[i], (hl i H' (Nat.le_of_lt lt) p).1 _ hq, by simp [lt]⟩) (fun H' p => ⟨xs, (hl _ H' (Nat.le_refl _) p).1 _ hq, Nat.le_refl _⟩) (fun i H' v H2 lt p y => by
      obtain ⟨rfl, hz⟩ := y
      exact hs i v H2 (hz xs ((hl i H2 (Nat.le_of_lt lt) p).1 _ hq)) p) hd
  · refine .inr ⟨hq, fun D hD => ?_⟩
    obtain ⟨Pv, h0, hl, hs, hd⟩ := h D hD
    exact lc_any xs.length Pv h0 (fun i H' lt p => ⟨xs, xs[i], (hl i H' (Nat.le_of_lt lt) p).2 _ hq, by simp [lt]⟩) (fun H' p => ⟨xs, (hl _ H' (Nat.le_refl _) p).2 _ hq, Nat.le_refl _⟩) (fun i H' v H2 lt p y => by
      obtain ⟨rfl, hz⟩ := y
      exact hs i v H2 (hz xs ((hl i H2 (Nat.le_of_lt lt) p).2 _ hq)) p) hd
theorem prs_snoc {H : Hp} {vs : List V} {ps : List Pr} {t : Addr} {q : Pr} (h : PrsAt H vs ps) (ht : H t = some (.tup [.str q.1, .str q.2])) : PrsAt H (vs ++ [.ref t]) (ps ++ [q]) := by
  refine ⟨by rw [List.length_append, List.length_append, h.1]; rfl, fun i v p h1 h2 => ?_⟩
  rcases Nat.lt_or_ge i vs.length with l | l
  · rw [List.getElem?_append_left l] at h1
    rw [List.getElem?_append_left (by rw [← h.1]; exact l)] at h2
    exact h.2 i v p h1 h2
  · rw [List.getElem?_append_right l] at h1
    rw [List.getElem?_append_right (by rw [← h.1]; exact l)] at h2
    rw [← h.1] at h2
    cases e : i - vs.length with
    | zero =>
      rw [e] at h1 h2
      cases h1
      cases h2
      exact ⟨t, rfl, ht⟩
    | succ n =>
      rw [e] at h1
      simp at h1
/-- all but x stays -/
def Bx (x : Addr) (H H' : Hp) : Prop := ∀ b o, b ≠ x → H b = some o → H' b = some o
theorem Bx.trans {x : Addr} {H H1 H2 : Hp} (a : Bx x H H1) (b : Bx x H1 H2) : Bx x H H2 := fun c o n e => b c o n (a c o n e)
theorem Bx.same {x : Addr} {H H1 : Hp} (S : Same H H1) : Bx x H H1 := fun c o _ e => S c o e
theorem Bx.free {x : Addr} {H H1 : Hp} {o : HO} (b : Bx x H H1) (hx : H1 x = some o) {c : Addr} (n : H1 c = none) : H c = none := by
  cases e : H c with
  | none => rfl
  | some u =>
    have ne : c ≠ x := fun z => by rw [z, hx] at n; cases n
    rw [b c u ne e] at n
    cases n
theorem Bx.at_ {x : Addr} {H : Hp} {o : HO} : Bx x H (upd H x o) := fun c u n e => by
  rw [upd_ne n]
  exact e
theorem Bx.new {x a : Addr} {H : Hp} {o : HO} (n : H a = none) : Bx x H (upd H a o) := .same (new_same n)
theorem Bx.items {x : Addr} {H H' : Hp} {v : V} {xs : List V} (b : Bx x H H') (hx : itemsOf H (.ref x) = none) (e : itemsOf H v = some xs) : itemsOf H' v = some xs := by
  obtain ⟨a, rfl, h⟩ := items_ref e
  have ne : a ≠ x := fun z => by rw [z, hx] at e; cases e
  exact items_at.mpr (h.elim (fun h => .inl (b _ _ ne h)) fun h => .inr (b _ _ ne h))
theorem Bx.prs {x : Addr} {H H' : Hp} {vs : List V} {ps : List Pr} (b : Bx x H H') (hx : ∀ xs, H x ≠ some (.tup xs)) (h : PrsAt H vs ps) : PrsAt H' vs ps := h.mono fun t xs e => b _ _ (fun z => hx xs (z ▸ e)) e
theorem items_ins {H : Hp} {x C dx : Addr} {fs : List (Str × V)} (h : H x = some (.ins C dx fs)) : itemsOf H (.ref x) = none := by
  show (match H x with
    | some (.lst xs) => some xs
    | some (.tup xs) => some xs
    | _ => none) = none
  rw [h]
abbrev ScanAt (ok : Str → Prop) (C : Addr) (H : Hp) (p : V) (i : Nat) : Prop := (itemsOf H p = none ∧ i = 0) ∨ ∃ xs, itemsOf H p = some xs ∧ xs.length ≤ 1000 ∧ KnAll C H xs ∧ ScanR ok xs (some i)
abbrev TieAt (ks : List Str) (C : Addr) (H : Hp) (p : V) (i : Nat) : Prop := (itemsOf H p = none ∧ i = 0) ∨ ∃ xs, itemsOf H p = some xs ∧ xs.length ≤ 1000 ∧ KnTies C H xs ∧ TieR ks H xs (some i)
theorem fwn_use {ok : Str → Prop} {C : Addr} {H : Hp} {p : V} {i : Nat} {Q : VK} (hc : ScanAt ok C H p i) (k : ∀ H', Same H H' → Q (.int (i : Nat)) H') : ScanW ok C H p Q := by
  rcases hc with ⟨e, rfl⟩ | ⟨xs, e, hl, hK, hs⟩
  · exact .inl ⟨e, k⟩
  · exact .inr ⟨xs, e, hl, hK, fun r H' hr S => by cases scan_uniq hr hs; exact k H' S⟩
theorem fwt_use {C : Addr} {H : Hp} {p : V} {ks : List Str} {i : Nat} {Q : VK} (hc : TieAt ks C H p i) (k : ∀ H', Same H H' → Q (.int (i : Nat)) H') : TieW ks C H p Q := by
  rcases hc with ⟨e, rfl⟩ | ⟨xs, e, hl, hK, hs⟩
  · exact .inl ⟨e, k⟩
  · exact .inr ⟨xs, e, hl, hK, fun r H' hr S => by cases tie_uniq hr hs; exact k H' S⟩
theorem scan_good {C : Addr} {H : Hp} {p : V} {ok : Str → Prop} {ss : List Str} {Q : VK} (e : itemsOf H p = some (ss.map V.str)) (hl : ss.length ≤ 1000) (hz : ∀ z ∈ ss, z.length ≤ 1000) (g : Good ok ss) (k : ∀ H', Same H H' → Q .non H') : ScanW ok C H p Q :=
  .inr ⟨_, e, by rw [List.length_map]; exact hl, kn_strs hz, fun r H' hr S => by cases scan_uniq hr (scan_none g); exact k H' S⟩
theorem tie_good {C : Addr} {H : Hp} {p : V} {ks : List Str} {xs : List V} {qs : List Pr} {Q : VK} (e : itemsOf H p = some xs) (hl : xs.length ≤ 1000) (hK : KnTies C H xs) (lq : qs.length = xs.length) (g : TiesTo ks H xs qs) (k : ∀ H', Same H H' → Q .non H') : TieW ks C H p Q :=
  .inr ⟨_, e, hl, hK, fun r H' hr S => by cases tie_uniq hr (show TieR ks H xs none from ⟨qs, lq, g⟩); exact k H' S⟩
theorem KnTies.same {C : Addr} {H H' : Hp} {xs : List V} (k : KnTies C H xs) (S : Same H H') : KnTies C H' xs := fun x hx => by
  obtain ⟨h1, h2⟩ := k x hx
  refine ⟨(h1.same S).1, fun ys e => ?_⟩
  have q1 := kn_items h1
  have q2 := kn_items (h1.same S).1
  have q3 := (h1.same S).2
  unfold isSeq at q1 q2
  rw [q3, q1, e] at q2
  cases ez : itemsOf H x with
  | none => rw [ez] at q2; cases q2
  | some zs =>
    have := items_same S ez
    rw [e] at this
    cases this
    exact ⟨(h2 _ ez).1, (h2 _ ez).2.same S⟩
theorem tie_back {C : Addr} {ks : List Str} {H H' : Hp} {x : V} {p : Pr} (k : Kn C H x) (S : Same H H') (h : TieOk ks H' x p) : TieOk ks H x p := by
  obtain ⟨a, b, e, h2⟩ := h
  refine ⟨a, b, ?_, h2⟩
  have q1 := kn_items k
  have q2 := kn_items (k.same S).1
  have q3 := (k.same S).2
  unfold isSeq at q1 q2
  rw [q3, q1, e] at q2
  cases ez : itemsOf H x with
  | none => rw [ez] at q2; cases q2
  | some zs =>
    have := items_same S ez
    rw [e] at this
    cases this
    rfl
theorem ties_same {ks : List Str} {H H' : Hp} {xs : List V} {ps : List Pr} (h : TiesTo ks H xs ps) (S : Same H H') : TiesTo ks H' xs ps := ⟨h.nd, h.len, fun j x p h1 h2 => tie_same S (h.ok j x p h1 h2)⟩
theorem none_same {C : Addr} {H H' : Hp} {v : V} (k : Kn C H v) (S : Same H H') (e : itemsOf H v = none) : itemsOf H' v = none := by
  have q1 := kn_items k
  have q2 := kn_items (k.same S).1
  have q3 := (k.same S).2
  unfold isSeq at q1 q2
  rw [q3, q1, e] at q2
  cases ez : itemsOf H' v with
  | none => rfl
  | some zs => rw [ez] at q2; cases q2
theorem tieR_same {C : Addr} {ks : List Str} {H H' : Hp} {xs : List V} {r : Option Nat} (k : KnTies C H xs) (S : Same H H') (h : TieR ks H xs r) : TieR ks H' xs r := by
  cases r with
  | none =>
    obtain ⟨ps, e, g⟩ := h
    exact ⟨ps, e, ties_same g S⟩
  | some i =>
    obtain ⟨ps, y, hy, hl, g, hb⟩ := h
    exact ⟨ps, y, hy, hl, ties_same g S, fun p hp => hb p (tie_back (k y (List.mem_of_getElem? hy)).1 S hp)⟩
section
variable {P : Program} {w : World} {K : PySem.W.Frag} {mg : Str → Option Value} {base : Heap} {C f : Addr} {fd : FuncData}
abbrev N_init : List Str := ["self", "places", "ties", "rim", "index", "tie"]
theorem sc_init : FnScope N_init ["self", "places", "ties", "rim"] (defScope (mS 0)) := ⟨rfl, rfl, rfl, by decide +kernel, rfl, by decide +kernel, by decide +kernel⟩
theorem sc_err2 : FnScope ["self", "index"] ["self", "index"] (defScope (inClass (topS 4) 0)) := ⟨rfl, rfl, rfl, by decide +kernel, rfl, by decide +kernel, by decide +kernel⟩
theorem sc_err3 : FnScope ["self", "index"] ["self", "index"] (defScope (inClass (topS 5) 0)) := ⟨rfl, rfl, rfl, by decide +kernel, rfl, by decide +kernel, by decide +kernel⟩
theorem sc_err4 : FnScope ["self", "index"] ["self", "index"] (defScope (inClass (topS 6) 0)) := ⟨rfl, rfl, rfl, by decide +kernel, rfl, by decide +kernel, by decide +kernel⟩
theorem sc_err5 : FnScope ["self", "thing"] ["self", "thing"] (defScope (inClass (topS 8) 0)) := ⟨rfl, rfl, rfl, by decide +kernel, rfl, by decide +kernel, by decide +kernel⟩
theorem ok_err2 (D : ErrD K mg 4 "BadPlaces" "index") : FnOk P w K mg base CX0 1 D.f D.fd ["self", "index"] (spI1 D.C "index") := ok_init1 D.F rfl sc_err2 D.T D.no (by decide) (by decide)
theorem ok_err3 (D : ErrD K mg 5 "BadRim" "index") : FnOk P w K mg base CX0 1 D.f D.fd ["self", "index"] (spI1 D.C "index") := ok_init1 D.F rfl sc_err3 D.T D.no (by decide) (by decide)
theorem ok_err4 (D : ErrD K mg 6 "BadTies" "index") : FnOk P w K mg base CX0 1 D.f D.fd ["self", "index"] (spI1 D.C "index") := ok_init1 D.F rfl sc_err4 D.T D.no (by decide) (by decide)
theorem ok_err5 (D : ErrD K mg 8 "NoPlace" "thing") : FnOk P w K mg base CX0 1 D.f D.fd ["self", "thing"] (spI1 D.C "thing") := ok_init1 D.F rfl sc_err5 D.T D.no (by decide) (by decide)
theorem bindsD {x q : Str} {params : Arguments} {body : List Stmt} {scope : Scope} {ps : List Str} (F : FunD K x q params body scope [] [] f fd)
    (h : ∀ (kV doc pm : Value) (an : Option Addr) (cdv ct : Value) (us : List Value), us.length = ps.length → bindArgs (PySem.W.fnOf x q params body scope .none kV doc pm an cdv ct) ⟨us, []⟩ = pure (ps.zip us)) : Binds K fd ps [] := by
  obtain ⟨oc, od, dV, kV, doc, pm, an, cdv, ct, osl, rfl, lk, hcd, hD, hK⟩ := F.ex
  rcases hD with ⟨_, rfl⟩ | ⟨e, _⟩
  · exact Binds.all fun us hl => h kV doc pm an cdv ct us hl
  · exact absurd rfl e
theorem bE2 (D : ErrD K mg 4 "BadPlaces" "index") : Binds K D.fd ["self", "index"] [] := bindsD D.F fun _ _ _ _ _ _ us hl => match us, hl with | [_, _], _ => rfl
theorem bE3 (D : ErrD K mg 5 "BadRim" "index") : Binds K D.fd ["self", "index"] [] := bindsD D.F fun _ _ _ _ _ _ us hl => match us, hl with | [_, _], _ => rfl
theorem bE4 (D : ErrD K mg 6 "BadTies" "index") : Binds K D.fd ["self", "index"] [] := bindsD D.F fun _ _ _ _ _ _ us hl => match us, hl with | [_, _], _ => rfl
theorem bE5 (D : ErrD K mg 8 "NoPlace" "thing") : Binds K D.fd ["self", "thing"] [] := bindsD D.F fun _ _ _ _ _ _ us hl => match us, hl with | [_, _], _ => rfl
theorem bNb (D : BoardD K mg) : Binds K D.dNb ["places", "ties"] [] := D.FNb.binds fun _ _ _ _ _ _ us hl => match us, hl with | [_, _], _ => rfl
theorem ok_init (B : BoardD K mg) (D : NamesD K mg) (T : TxtN K mg) : FnOk P w K mg base (L2.CX P w) 4 (B.f 0) (B.d 0) ["self", "places", "ties", "rim"] (spInit K B) := by
  have GW : FnOk P w K mg base CX0 2 D.fW D.dW ["things"] (spFwn B.C) := ok_fwn D T B.O
  have GU : FnOk P w K mg base CX0 2 D.fU D.dU ["things", "known"] (spFwu K B.C) := ok_fwu D T B.O
  have GX : FnOk P w K mg base CX0 3 D.fX D.dX ["things", "known"] (spFwt K B.C) := ok_fwt D T B.O
  have GT : FnOk P w K mg base CX0 1 D.fT D.dT ["pair"] spTold := ok_told D T
  have GN : FnOk P w K mg base CX0 1 B.fNb B.dNb ["places", "ties"] spNb := ok_nb B.FNb T
  refine B.F0.ok sc_init (fun vs H Q E h => ?_) (fun cdv A outer s H vs Q E hr h => ⟨_, pss_cons (ps_set (i := 4) sc_init.nd rfl (Or.inl rfl) (pe_call GW (hr.mono (by decide)) (by rfl) D.gW D.FW.kp (bW D) .nil pass0 (pa_cons (pv 1) pa_nil)))
    (pss_cons (ps_if (pt_cmpR op_notN (pv 4) pe_non (nomark _)) (pss_one (ps_raise rfl (takes_of rfl rfl rfl rfl) (pmk_oex B.P.T B.P.iC B.P.tI (ok_err2 B.P) (hr.mono (by decide)) (bE2 B.P) .nil pass0 (by rfl) B.P.g (by exact pa_cons (pv 4) pa_nil)))) pss_nil)
    (pss_cons (ps_set (i := 4) sc_init.nd rfl (Or.inl rfl) (pe_call GX hr (by rfl) D.gX D.FX.kp (bX D) .nil pass0 (pa_cons (pv 2) (pa_cons (pv 1) pa_nil))))
    (pss_cons (ps_if (pt_cmpR op_notN (pv 4) pe_non (nomark _)) (pss_one (ps_raise rfl (takes_of rfl rfl rfl rfl) (pmk_oex B.T.T B.T.iC B.T.tI (ok_err4 B.T) (hr.mono (by decide)) (bE4 B.T) .nil pass0 (by rfl) B.T.g (by exact pa_cons (pv 4) pa_nil)))) pss_nil)
    (pss_cons (ps_set (i := 4) sc_init.nd rfl (Or.inl rfl) (pe_call GU (hr.mono (by decide)) (by rfl) D.gU D.FU.kp (bU D) .nil pass0 (pa_cons (pv 3) (pa_cons (pv 1) pa_nil))))
    (pss_cons (ps_if (pt_cmpR op_notN (pv 4) pe_non (nomark _)) (pss_one (ps_raise rfl (takes_of rfl rfl rfl rfl) (pmk_oex B.R.T B.R.iC B.R.tI (ok_err3 B.R) (hr.mono (by decide)) (bE3 B.R) .nil pass0 (by rfl) B.R.g (by exact pa_cons (pv 4) pa_nil)))) pss_nil)
    (pss_cons (ps_fld (pv 0) (pe_callB cr_sortQ (by rfl) T.sorted boot_sorted (pa_cons (pv 1) pa_nil)) (by rfl))
    (pss_cons (ps_fld (pv 0) (pe_callB cr_sortP (by rfl) T.sorted boot_sorted (pa_cons (pe_lc (own := [("tie", 5)]) (tt := tYes) rfl sc_init.nd (pi_seqQ (pv 2)) (blkOk_by (own := [("tie", 5)]) (N := N_init) (sc := defScope (mS 0)) (by decide +kernel)) (fun _ _ _ _ _ => pg_name (i := 5) sc_init.nd rfl (Or.inl rfl)) (fun _ _ _ _ _ => pts_nil) (fun _ _ _ _ _ => pe_call GT (hr.mono (by decide)) (by rfl) D.gT D.FT.kp (bT D) .nil pass0 (pa_cons (pv 5) pa_nil))) pa_nil)) (by rfl))
    (pss_cons (ps_fld (pv 0) (pe_callTy call_list_of (by rfl) T.list PyProof.Rows.boot_list (pa_cons (pv 3) pa_nil)) (by rfl))
    (pss_one (ps_fld (pv 0) (pe_call GN (hr.mono (by decide)) (by rfl) B.gNb B.FNb.kp (bNb B) .nil pass0 (pa_cons (pe_fld (pv 0) rfl) (pa_cons (pe_fld (pv 0) rfl) pa_nil))) (by rfl)))))))))))
    , ?_⟩)
  · obtain ⟨x, dx, p, t, r, rfl, _⟩ := h
    rfl
  · obtain ⟨x, dx, p, t, r, rfl, hx, hkp, h⟩ := h
    refine ⟨_, rfl, p, rfl, hkp, ?_⟩
    rcases h with ⟨i, hc, hR⟩ | ⟨ps, ep, lp, sp, gp, hkt, h⟩
    · refine fwn_use hc fun H1 S1 => ⟨_, rfl, rfl, _, rfl, ?_⟩
      rw [show (!decide (V.int (i : Nat) = V.non)) = true from by rw [decide_eq_false (by intro z; cases z)]; rfl]
      refine iteT ⟨_, rfl, by show 1 ≤ 1000; decide, fun a na => ?_⟩
      exact (hR.mono S1).of na
    refine scan_good ep lp sp gp fun H1 S1 => ⟨_, rfl, rfl, _, rfl, ?_⟩
    refine iteF ?_
    obtain ⟨ap, rfl, _⟩ := items_ref ep
    refine ⟨_, rfl, _, rfl, t, ap, ps, rfl, (hkt.same S1).1, items_Q (items_same S1 ep), ?_⟩
    rcases h with ⟨i, hc, hR⟩ | ⟨xs, qs, et, lt, kt, lq, tq, hkr, h⟩
    · have hc1 : TieAt ps B.C H1 t i := by
        rcases hc with ⟨e, h0⟩ | ⟨xs, e, hl, hK, hs⟩
        · exact .inl ⟨none_same hkt S1 e, h0⟩
        · exact .inr ⟨xs, items_same S1 e, hl, hK.same S1, tieR_same hK S1 hs⟩
      refine fwt_use hc1 fun H2 S2 => ⟨_, rfl, rfl, _, rfl, ?_⟩
      rw [show (!decide (V.int (i : Nat) = V.non)) = true from by rw [decide_eq_false (by intro z; cases z)]; rfl]
      refine iteT ⟨_, rfl, by show 1 ≤ 1000; decide, fun a na => ?_⟩
      exact (hR.mono (S1.trans S2)).of na
    refine tie_good (items_same S1 et) lt (kt.same S1) lq (ties_same tq S1) fun H2 S2 => ⟨_, rfl, rfl, _, rfl, iteF ?_⟩
    have S12 := S1.trans S2
    refine ⟨_, rfl, _, rfl, r, ap, ps, rfl, (hkr.same S12).1, items_Q (items_same S12 ep), ?_⟩
    rcases h with ⟨i, hc, hR⟩ | ⟨rs, er, lr, sr, gr, k⟩
    · have hc1 : ScanAt (fun z => z ∈ ps) B.C H2 r i := by
        rcases hc with ⟨e, h0⟩ | ⟨ys, e, hl, hK, hs⟩
        · exact .inl ⟨none_same hkr S12 e, h0⟩
        · exact .inr ⟨ys, items_same S12 e, hl, hK.same S12, hs⟩
      refine fwn_use hc1 fun H3 S3 => ⟨_, rfl, rfl, _, rfl, ?_⟩
      rw [show (!decide (V.int (i : Nat) = V.non)) = true from by rw [decide_eq_false (by intro z; cases z)]; rfl]
      refine iteT ⟨_, rfl, by show 1 ≤ 1000; decide, fun a na => ?_⟩
      exact (hR.mono (S12.trans S3)).of na
    refine scan_good (items_same S12 er) lr sr gr fun H3 S3 => ⟨_, rfl, rfl, _, rfl, iteF ?_⟩
    have S := S12.trans S3
    refine ⟨_, rfl, ap, ps, rfl, items_Q (K := K) (items_same S ep), fun q1 n1 => ⟨_, rfl, x, B.C, dx, [], rfl, ?_, B.O.cl, B.noP, by show 0 < 1000; decide, ?_⟩⟩
    · rw [upd_ne (ne_of_none (S _ _ hx) n1)]
      exact S _ _ hx
    have ix : itemsOf H (.ref x) = none := items_ins hx
    have x3 : x ≠ q1 := ne_of_none (S _ _ hx) n1
    have B1 : Bx x H (upd (upd H3 q1 (.lst ((sortS ps).map V.str))) x (.ins B.C dx [("_places", .ref q1)])) := ((Bx.same S).trans (Bx.new n1)).trans Bx.at_
    obtain ⟨at_, rfl, _⟩ := items_ref et
    refine ⟨_, rfl, at_, xs, rfl, lc_seqQ2 (items_Q (K := K) (B1.items ix et)) fun D hD => ⟨fun i H' => ∃ acc, H' D = some (.lst acc) ∧ acc.length = i ∧ PrsAt H' acc (qs.take i) ∧ (∀ t, V.ref t ∈ acc → H t = none) ∧ Same (upd (upd H3 q1 (.lst ((sortS ps).map V.str))) x (.ins B.C dx [("_places", .ref q1)])) H',
      ⟨[], upd_same, rfl, PrsAt.nil, fun t ht => (by cases ht), new_same hD⟩, fun i H' _ ⟨_, _, _, _, _, S'⟩ => same_LT S', ?_, ?_⟩⟩
    · rintro i y H' hy ⟨acc, hacc, la, pa, fa, S'⟩
      have hiq : i < qs.length := by
        rw [lq]
        exact (List.getElem?_eq_some_iff.mp hy).1
      have eq : qs[i]? = some qs[i] := List.getElem?_eq_getElem hiq
      obtain ⟨a1, b1, e1, _, _, _, e2⟩ := tq.ok i y _ hy eq
      refine ⟨rfl, yes_of ⟨_, rfl, y, a1, b1, rfl, items_same S' (B1.items ix e1), fun t2 H4 nt2 ht2 S4 => ⟨acc, S4 _ _ hacc, ?_, acc ++ [.ref t2], upd_same, ?_, ?_, ?_, ?_⟩⟩⟩
      · exact small1000 (by omega)
      · rw [List.length_append, la]; rfl
      · rw [take_snoc eq]
        rw [e2] at ht2
        refine (prs_snoc (pa.mono fun t xs e => S4 _ _ e) ht2).mono fun t xs e => ?_
        rw [upd_ne (ne_of e (S4 _ _ hacc) (fun z => by cases z))]
        exact e
      · intro t ht
        rcases List.mem_append.mp ht with ht | ht
        · exact fa t ht
        · cases List.mem_singleton.mp ht
          exact B1.free (o := .ins B.C dx [("_places", .ref q1)]) upd_same (S'.free nt2)
      · exact fun b o e => by
          rw [upd_ne (ne_of_none e hD)]
          exact S4 _ _ (S' _ _ e)
    · rintro H4 ⟨acc, hacc, la, pa, fa, S4⟩
      rw [← lq, List.take_length] at pa
      refine ⟨D, acc, qs, rfl, SqL.of hacc, pa, fun q2 ys n2 pyy hy => ⟨_, rfl, x, B.C, dx, [("_places", .ref q1)], rfl, ?_, B.O.cl, B.noT, by show 1 < 1000; decide, ?_⟩⟩
      · exact new_same n2 _ _ (S4 _ _ upd_same)
      have e1 : putF "_ties" (.ref q2) [("_places", .ref q1)] = [(("_places" : Str), V.ref q1), ("_ties", .ref q2)] := rfl
      have e2 : ∀ q3, putF "_rim" (.ref q3) [("_places", .ref q1), ("_ties", .ref q2)] = [(("_places" : Str), V.ref q1), ("_ties", .ref q2), ("_rim", .ref q3)] := fun _ => rfl
      have e3 : ∀ q3 q4, putF "_near" (.ref q4) [("_places", .ref q1), ("_ties", .ref q2), ("_rim", .ref q3)] = [(("_places" : Str), V.ref q1), ("_ties", .ref q2), ("_rim", .ref q3), ("_near", .ref q4)] := fun _ _ => rfl
      obtain ⟨ar, rfl, _⟩ := items_ref er
      have x4 : H4 x = some (.ins B.C dx [("_places", .ref q1)]) := S4 _ _ upd_same
      have xq2 : x ≠ q2 := ne_of_none x4 n2
      have B5 : Bx x H (upd (upd H4 q2 (.lst ys)) x (.ins B.C dx (putF "_ties" (.ref q2) [("_places", .ref q1)]))) := ((B1.trans (Bx.same S4)).trans (Bx.new n2)).trans Bx.at_
      rw [e1] at B5 ⊢
      refine ⟨_, rfl, ar, _, rfl, items_Q (K := K) (B5.items ix er), fun q3 n3 => ⟨_, rfl, x, B.C, dx, _, rfl, new_same n3 _ _ upd_same, B.O.cl, B.noR, by show 2 < 1000; decide, ?_⟩⟩
      rw [e2]
      have xq3 : x ≠ q3 := ne_of_none upd_same n3
      have h1 : ∀ (H' : Hp), Bx x (upd (upd H3 q1 (.lst ((sortS ps).map V.str))) x (.ins B.C dx [("_places", .ref q1)])) H' → H' q1 = some (.lst ((sortS ps).map V.str)) := fun H' b => b _ _ x3.symm (by rw [upd_ne x3.symm]; exact upd_same)
      have B45 : Bx x (upd (upd H3 q1 (.lst ((sortS ps).map V.str))) x (.ins B.C dx [("_places", .ref q1)])) (upd (upd H4 q2 (.lst ys)) x (.ins B.C dx [("_places", .ref q1), ("_ties", .ref q2)])) := ((Bx.same S4).trans (Bx.new n2)).trans Bx.at_
      have B56 : Bx x (upd (upd H4 q2 (.lst ys)) x (.ins B.C dx [("_places", .ref q1), ("_ties", .ref q2)])) (upd (upd (upd (upd H4 q2 (.lst ys)) x (.ins B.C dx [("_places", .ref q1), ("_ties", .ref q2)])) q3 (.lst (rs.map V.str))) x (.ins B.C dx [("_places", .ref q1), ("_ties", .ref q2), ("_rim", .ref q3)])) := (Bx.new n3).trans Bx.at_
      have hq1 := h1 _ (B45.trans B56)
      have hq2 := B56 q2 _ xq2.symm (show (upd (upd H4 q2 (.lst ys)) x (.ins B.C dx [("_places", .ref q1), ("_ties", .ref q2)])) q2 = some (.lst ys) from by rw [upd_ne xq2.symm]; exact upd_same)
      have nx4 : ∀ ws, H4 x ≠ some (.tup ws) := fun ws z => by rw [x4] at z; cases z
      have py6 : PrsAt _ ys (sortPr qs) := Bx.prs (((Bx.new n2).trans Bx.at_).trans B56) nx4 hy
      have hq3 : (upd (upd (upd (upd H4 q2 (.lst ys)) x (.ins B.C dx [("_places", .ref q1), ("_ties", .ref q2)])) q3 (.lst (rs.map V.str))) x (.ins B.C dx [("_places", .ref q1), ("_ties", .ref q2), ("_rim", .ref q3)])) q3 = some (.lst (rs.map V.str)) := by
        rw [upd_ne xq3.symm]
        exact upd_same
      have inp : ∀ p ∈ sortPr qs, p.1 ∈ sortS ps ∧ p.2 ∈ sortS ps := fun p hp => by
        obtain ⟨j, hj⟩ := List.getElem?_of_mem (sortPr_mem.mp hp)
        have hjx : j < xs.length := by
          rw [← lq]
          exact (List.getElem?_eq_some_iff.mp hj).1
        obtain ⟨a1, b1, _, _, m1, m2, rfl⟩ := tq.ok j _ p (List.getElem?_eq_getElem hjx) hj
        unfold tp
        split
        · exact ⟨sortS_mem.mpr m2, sortS_mem.mpr m1⟩
        · exact ⟨sortS_mem.mpr m1, sortS_mem.mpr m2⟩
      refine ⟨_, rfl, x, B.C, dx, _, _, rfl, upd_same, B.O.cl, B.noP, rfl, _, rfl, x, B.C, dx, _, _, rfl, upd_same, B.O.cl, B.noT, rfl, ?_⟩
      refine ⟨q1, q2, sortS ps, ys, sortPr qs, rfl, hq1, hq2, py6, (sortS_perm ps).nodup_iff.mpr gp.nd, by rw [sortS_len]; exact lp, by rw [sortPr_len]; omega, inp, fun q4 l H7 N7 n4 nl S7 => ?_⟩
      refine ⟨_, rfl, x, B.C, dx, _, rfl, S7 _ _ upd_same, B.O.cl, B.noN, by show 3 < 1000; decide, ?_⟩
      rw [e3]
      have B7 : Bx x H (upd H7 x (.ins B.C dx [("_places", .ref q1), ("_ties", .ref q2), ("_rim", .ref q3), ("_near", .ref q4)])) := ((B5.trans B56).trans (Bx.same S7)).trans Bx.at_
      have K7 : Bx x H7 (upd H7 x (.ins B.C dx [("_places", .ref q1), ("_ties", .ref q2), ("_rim", .ref q3), ("_near", .ref q4)])) := Bx.at_
      have x7 : H7 x = some (.ins B.C dx [("_places", .ref q1), ("_ties", .ref q2), ("_rim", .ref q3)]) := S7 _ _ upd_same
      refine k _ ⟨dx, q1, q2, q3, q4, ys, l, upd_same, K7 _ _ x3.symm (S7 _ _ hq1), K7 _ _ xq2.symm (S7 _ _ hq2), Bx.prs K7 (fun ws z => by rw [x7] at z; cases z) (py6.mono fun t ws e => S7 _ _ e), K7 _ _ xq3.symm (S7 _ _ hq3), ?_, ⟨fun z hz => gp.all z (sortS_mem.mp hz), inp, fun z hz => sortS_mem.mpr (gr.all z hz)⟩, .inl rfl, .inr (S.free n1), .inr ((B1.trans (Bx.same S4)).free x4 n2), .inr (B5.free upd_same n3), .inr ((B5.trans B56).free upd_same n4), fun s hs => .inr ((B5.trans B56).free upd_same (nl s hs)), fun t ht => .inr (fa t (pyy.mem_iff.mp ht))⟩ B7
      have nel : ∀ {b : Addr} {o : HO}, H7 b = some o → (∀ f, o ≠ .ins B.C dx f) → b ≠ x := fun e f z => by
        rw [z, x7] at e
        cases e
        exact f _ rfl
      exact ⟨K7 _ _ (nel N7.d (fun f z => by cases z)) N7.d, fun s hs => K7 _ _ (nel (N7.at_ s hs) (fun f z => by cases z)) (N7.at_ s hs), N7.inj⟩
end
end E1

set_option Elab.async false
set_option linter.all false
set_option maxRecDepth 100000
set_option maxHeartbeats 4000000
/-! == and != where the left one has an __eq__ of its own; making and asking by keywords alone. -/
namespace E1
open PySem PySem.Spec PyProof.Rows L2 G0
def knTys : List String := ["NoneType", "bool", "int", "str", "list", "tuple", "dict"]
section
variable {X : Cx} {pins : List (Addr × Obj)} {σ : L2.St} {H : Hp} {s : Shared} {C : Addr}
theorem ty_at {M : Model} {h : Heap} {a : Addr} {o : Obj} (e : h.get? a = some o) : PySem.W.Looks M h (typeOf (.ref a)) o.cls := (PySem.W.Looks.ld e).andThen .now
theorem kn_type {M : Model} {v : V} {u : Value} (I : Inv X pins σ H s) (k : Kn C H v) (r : RelV v u) (nf : ∀ T ∈ knTys, PySem.W.notFirst X.K C (.type T) = true) : ∃ tb, PySem.W.Looks M s.heap (typeOf u) tb ∧ PySem.W.notFirst X.K C tb = true := by
  cases k with
  | non => cases (show u = Value.none from r); exact ⟨_, .of_pure rfl, nf "NoneType" (by decide)⟩
  | bl b => cases (show u = Value.bool b from r); exact ⟨_, .of_pure rfl, nf "bool" (by decide)⟩
  | int i => obtain ⟨t, e⟩ := (show ∃ t, u = Value.int i t from r); cases e; exact ⟨_, .of_pure rfl, nf "int" (by decide)⟩
  | str x => obtain ⟨t, e⟩ := (show ∃ t, u = Value.str x t from r); cases e; exact ⟨_, .of_pure rfl, nf "str" (by decide)⟩
  | @lst a xs e =>
    cases (show u = Value.ref a from r)
    obtain ⟨_, _, n, _, h1⟩ := (show ObjOk X.prog X.w H s.heap a (.lst xs) from I.hok a _ e)
    exact ⟨_, ty_at h1, nf "list" (by decide)⟩
  | @tup a xs e =>
    cases (show u = Value.ref a from r)
    obtain ⟨_, _, _, p⟩ := (show ObjOk X.prog X.w H s.heap a (.tup xs) from I.hok a _ e)
    obtain ⟨o, h1, h2, _⟩ := p
    exact ⟨_, ty_at h1, by rw [h2]; exact nf "tuple" (by decide)⟩
  | @dic a kvs e =>
    cases (show u = Value.ref a from r)
    obtain ⟨_, _, vs, _, p⟩ := (show ObjOk X.prog X.w H s.heap a (.dK kvs) from I.hok a _ e)
    obtain ⟨o, es, ep, h1, h2, _⟩ := p
    exact ⟨_, ty_at h1, by rw [h2.1]; exact nf "dict" (by decide)⟩
  | @own a dx fs e =>
    cases (show u = Value.ref a from r)
    obtain ⟨mA, J, _⟩ := ins_get I.hok e
    obtain ⟨od, J, _⟩ := J.look
    exact ⟨_, J.type, by simp [PySem.W.notFirst]⟩
end
section
variable {X : Cx} {CX : CXT} {n : Nat} {C f : Addr} {fd : FuncData} {ps : List Str} {sp : Sp} {E : XK}
/-- x == y, x of the class at C -/
def rBEq (C : Addr) (sp : Sp) (E : XK) : R2 := fun x y H Q => ∃ a dx fs, x = .ref a ∧ H a = some (.ins C dx fs) ∧ Kn C H y ∧ sp [x, y] H Q E
theorem op_beq (F : FnOk X.prog X.w X.K X.mg X.base CX n f fd ps sp) (hr : Room n X.A) (hs : PySem.W.findIn X.K (.ref C) "__eq__" = some (some (.ref f))) (hf : PySem.W.isFn X.K (.ref f) = true) (hb : Binds X.K fd ps []) (hx : Passes CX X E)
    (nf : ∀ T ∈ knTys, PySem.W.notFirst X.K C (.type T) = true) : OpR X (compareOp .Eq) (rBEq C sp E) := by
  intro pins s σ H x y v u Q I rx ry h
  obtain ⟨a, dx, fs, rfl, ha, kn, q⟩ := h
  cases (show v = Value.ref a from rx)
  obtain ⟨mA, J, _⟩ := ins_get I.hok ha
  obtain ⟨od, J, _⟩ := J.look
  obtain ⟨tb, L, hn⟩ := kn_type (M := model X.prog X.w) I kn ry nf
  obtain ⟨m, hF⟩ := I.fr
  show wpAny _ _ (richCompare .Eq (.ref a) u) _ _ _
  refine PySem.W.cmp_K (op := .Eq) (tb := tb) hr.units0 hF I.ok.mod.kin J L hn hs hf ?_
  refine wpAny_mono (run_fn (us := [.ref a, u]) (vs := [.ref a, y]) (ds := []) (dvs := []) F hr hb .nil hx I (.cons rfl (.cons ry .nil)) q) (fun w s' z => ?_) fun _ _ x => x
  obtain ⟨z', H', I', rz, qz⟩ := z
  exact SlX.cmpback rz ⟨z', H', I', rz, qz⟩
/-- x != y, x of the class at C, which has no __ne__ of its own -/
def rBNe (C : Addr) (sp : Sp) (E : XK) : R2 := fun x y H Q => ∃ a dx fs b, x = .ref a ∧ y = .ref b ∧ H a = some (.ins C dx fs) ∧ Kn C H y ∧ sp [x, y] H (fun z H' => ∃ r, z = .bl r ∧ Q (.bl (!r)) H') E
theorem op_bne (F : FnOk X.prog X.w X.K X.mg X.base CX n f fd ps sp) (hr : Room (n + 1) X.A) (hb : Binds X.K fd ps []) (hx : Passes CX X E)
    (hne : ∀ (h : Heap) (x : Addr) (o : Obj), X.K.In h → h.get? x = some o → o.cls = .ref C → h.OwnEqNoNe x C f "object" [.type "object"])
    (nf : ∀ T ∈ knTys, PySem.W.notFirst X.K C (.type T) = true) : OpR X (compareOp .NotEq) (rBNe C sp E) := by
  intro pins s σ H x y v u Q I rx ry h
  obtain ⟨a, dx, fs, b, rfl, rfl, ha, kn, q⟩ := h
  cases (show v = Value.ref a from rx)
  cases (show u = Value.ref b from ry)
  obtain ⟨mA, J0, _⟩ := ins_get I.hok ha
  obtain ⟨od, J, _⟩ := J0.look
  obtain ⟨tb, L, hn⟩ := kn_type (M := model X.prog X.w) I kn ry nf
  obtain ⟨m, hF⟩ := I.fr
  have XE := hne s.heap a _ I.kIn J0.obj rfl
  have hu : X.A.units < cLine := hr.units0
  have hu1 : X.A.units + 1 < cLine := by
    have := (show Room n X.A.in1 from hr.in1).units0
    exact this
  have one : wpAny (model X.prog X.w) X.A (tryCompare (.ref a) "__ne__" (.ref b)) (fun r s' => ∃ w, r = some w ∧ EP X pins σ Q w s') X.xe s := by
    refine tryCompare_ne_ownEq PySem.F.cmp_object XE hu1 ?_
    have hl := F.len _ _ _ _ q
    refine wpAny_call (codeAny_mono (F.run X.A.in1 X.stack s H ⟨[.ref a, .ref b], []⟩ [.ref a, .ref b] [.ref a, .ref b] _ E hr.in1 I.env0.in1 (by
      have := hb s [.ref a, .ref b] I.kIn (by simpa using hl)
      simpa using this) (.cons rfl (.cons rfl .nil)) q) fun r s' hq => ?_)
    cases r with
    | error e => exact hx pins σ H s e s' I hq
    | ok fl =>
      cases fl with
      | ret w =>
        obtain ⟨z, H', I', rz, r, ez, qz⟩ := I.after hq
        subst ez
        cases (show w = Value.bool r from rz)
        exact ⟨r, rfl, _, rfl, .bl (!r), H', I', rfl, qz⟩
      | next => exact False.elim hq
      | brk => exact False.elim hq
      | cont => exact False.elim hq
  show wpAny _ _ (richCompare .NotEq (.ref a) (.ref b)) _ _ _
  unfold richCompare
  simp only [oneThing_ref]
  refine wpAny_holding (wpAny_bind (wpAny_cRoomFor hu ?_))
  refine wpAny_bind (J.type.here (wpAny_bind (L.here ?_)))
  split
  · rename_i q'
    have e : PySem.W.subIn X.K tb (.ref C) = some false := by
      rcases Bool.or_eq_true_iff.mp hn with e | e
      · rw [beq_iff_eq.mp e] at q'; simp at q'
      · exact beq_iff_eq.mp e
    refine wpAny_bind ((PySem.W.looks_subIn I.kIn e).here ?_)
    simp only [Bool.false_eq_true, if_false]
    refine wpAny_bind (wpAny_mono one (fun r s' z => ?_) fun _ _ e => e)
    obtain ⟨v, rfl, hq⟩ := z
    exact wpAny_pure hq
  · refine wpAny_bind (wpAny_pure ?_)
    simp only [Bool.false_eq_true, if_false]
    refine wpAny_bind (wpAny_mono one (fun r s' z => ?_) fun _ _ e => e)
    obtain ⟨v, rfl, hq⟩ := z
    exact wpAny_pure hq
end
section
variable {X : Cx} {CX : CXT} {k n : Nat} {f C : Addr} {fd : FuncData} {ps ks : List Str} {sp : Sp} {E : XK} {x m : Str} {p pos apos : Pos} {o : Expr} {kws : List Keyword} {ta : TE} {tk : TA} {g : List Value → List Value → List Value} {gV : List V → List V → List V}
/-- C(k = v, ..) -/
theorem pe_make0K (M : Mk X.K C f) (F : FnOk X.prog X.w X.K X.mg X.base CX k f fd ps sp) (hr : Room (k + 1) X.A) (hg : Gl X x) (hm : X.mg x = some (.ref C)) (hb : KBn X.K fd ps 1 ks g gV) (hx : Passes CX X E)
    (hkw : PK X kws tk) (hall : (backToKw pos (keywordEach kws X.env)).all (·.1.isSome) = true := by rfl) (hks : (backToKw pos (keywordEach kws X.env)).filterMap (·.1) = ks := by rfl)
    (hdb : (x == ("__debug__" : Str)) = false := by decide)
    (hpl : ((backTo pos (starEach [] X.env)).any (·.1) || (backToKw pos (keywordEach kws X.env)).any (·.1.isNone)) = false := by rfl) :
    PE X (.Call (.Name x p) [] kws pos) (tMakeN C 0 ks.length sp gV E tNil tk) := by
  refine ⟨fun pins s σ H Q I h => ?_⟩
  refine wpAny_Call_Name_kw (ld_glob I hg hm ?_ hdb)
  refine PySem.W.callWith_KW0 (h₀ := X.base) I.ok.mod.kin M.kp hall ?_ hpl
  refine thn (hkw.run pos pins s σ H _ I h) fun ws s2 ⟨zs, H2, I2, rz, l1, l2, q2⟩ => ⟨I2.kIn, ?_⟩
  rw [hks]
  exact run_makeN (n := 0) (us := []) (vs := []) M F hr hb hx I2 .nil rz rfl l2 q2
/-- o.m(k = v, ..) of an instance of the class at C -/
def tMethK (C : Addr) (m : Str) (sp : Sp) (gV : List V → List V → List V) (E : XK) (ta : TE) (tk : TA) : TE := fun σ H Q => ta σ H fun x H1 => ∃ a dx fs, x = .ref a ∧ H1 a = some (.ins C dx fs) ∧ fs.lookup m = none ∧
  tk σ H1 fun zs H2 => sp (gV [x] zs) H2 Q E
theorem pe_methK0 {pl : Sem Bool} (he : PE X o ta) (c : Cls X.K C) (hm : Meth X.K C m f) (F : FnOk X.prog X.w X.K X.mg X.base CX k f fd ps sp) (hr : Room k X.A) (hb : KBinds X.K fd ps ks g gV) (hx : Passes CX X E)
    (hkw : PK X kws tk) (hall : (backToKw pos (keywordEach kws X.env)).all (·.1.isSome) = true := by rfl) (hks : (backToKw pos (keywordEach kws X.env)).filterMap (·.1) = ks := by rfl)
    (hpl : ((backTo pos (starEach [] X.env)).any (·.1) || (backToKw pos (keywordEach kws X.env)).any (·.1.isNone)) = false := by rfl)
    (ht : eval (.Call (.Attribute o m apos) [] kws pos) X.env = (do
      let ov ← eval o X.env
      standAt apos.atName
      let (f, first) ← holding [ov] (getMethod ov m pl)
      callWith pos f first (backTo pos (starEach [] X.env)) (backToKw pos (keywordEach kws X.env))) := by rfl) :
    PE X (.Call (.Attribute o m apos) [] kws pos) (tMethK C m sp gV E ta tk) := by
  refine ⟨fun pins s σ H Q I h => ?_⟩
  refine PySem.W.methodCall_KW (pl := pl) (thn (he.run pins s σ H _ I h) fun u s1 ⟨x, H1, I1, rx, a, dx, fs, ex, ea, l, q⟩ => ?_) ht
  subst ex
  obtain rfl : u = Value.ref a := rx
  refine getmeth_ok I1 ea c hm l ?_
  refine PySem.W.callWith_KW0 (first := [.ref a]) (h₀ := X.base) I1.ok.mod.kin hm.kp hall ?_ hpl
  refine thn (hkw.run pos pins s1 σ H1 _ I1 q) fun ws s2 ⟨zs, H2, I2, rz, q2⟩ => ⟨I2.kIn, ?_⟩
  rw [hks]
  exact run_fnk (us := [.ref a]) (vs := [.ref a]) F hr hb hx I2 (.cons rfl .nil) rz q2
end
end E1

set_option Elab.async false
set_option linter.all false
set_option maxRecDepth 100000
set_option maxHeartbeats 4000000
/-! boards.py: what a board tells. -/
namespace E1
open PySem PySem.Spec PyProof.Rows L2 G0
/-! ### lists of names, lists of ties, as data -/
def strD (ss : List Str) : PyData := .list (ss.map PyData.str)
def prD1 (p : Pr) : PyData := .tuple [.str p.1, .str p.2]
def prsD (ps : List Pr) : PyData := .list (ps.map prD1)
theorem dpS {K : PySem.W.Frag} {H : Hp} : ∀ ss : List Str, DpAll K H (ss.map V.str) (ss.map PyData.str)
  | [] => .nil
  | s :: ss => .cons (.str s) (dpS ss)
theorem dp_strs {K : PySem.W.Frag} {H : Hp} {a : Addr} {ss : List Str} (h : H a = some (.lst (ss.map V.str))) : Dp K H (.ref a) (strD ss) := .lst (SqL.of h) (dpS ss)
theorem dpP {K : PySem.W.Frag} {H : Hp} : ∀ {vs : List V} {ps : List Pr}, PrsAt H vs ps → DpAll K H vs (ps.map prD1)
  | [], [], _ => .nil
  | [], _ :: _, h => by cases h.1
  | _ :: _, [], h => by cases h.1
  | v :: vs, p :: ps, h => by
    obtain ⟨⟨t, rfl, ht⟩, r⟩ := h.inv
    exact .cons (.tup (SqT.of ht) (.cons (.str _) (.cons (.str _) .nil))) (dpP r)
theorem dp_prs {K : PySem.W.Frag} {H : Hp} {a : Addr} {vs : List V} {ps : List Pr} (h : H a = some (.lst vs)) (hp : PrsAt H vs ps) : Dp K H (.ref a) (prsD ps) := .lst (SqL.of h) (dpP hp)
theorem signs_ok : ∀ c ∈ signsS.cps.toList, c < 1114112 := by decide +kernel
theorem name_ok {z : Str} (h : nameB z = true) : PyData.strOk z = true := by
  unfold nameB at h
  simp only [Bool.and_eq_true] at h
  have h2 := h.2.2.2
  show z.cps.all (· < 0x110000) = true
  rw [← Array.all_toList, List.all_eq_true]
  intro c hc
  exact decide_eq_true (signs_ok c (of_decide_eq_true (List.all_eq_true.mp h2 c hc)))
theorem lays : ∀ ss : List Str, (∀ z ∈ ss, PyData.strOk z = true) → PyData.canLayAll0 (ss.map PyData.str) = true ∧ PyData.depthAll (ss.map PyData.str) ≤ 1
  | [], _ => ⟨by simp [PyData.canLayAll0], by simp [PyData.depthAll]⟩
  | s :: ss, h => ⟨by simp [PyData.canLayAll0, PyData.canLay0, (lays ss fun z hz => h z (List.mem_cons_of_mem _ hz)).1, h s List.mem_cons_self], by
    have := (lays ss fun z hz => h z (List.mem_cons_of_mem _ hz)).2
    simp only [List.map_cons, PyData.depthAll, PyData.depth]
    omega⟩
theorem layp : ∀ ps : List Pr, (∀ p ∈ ps, PyData.strOk p.1 = true ∧ PyData.strOk p.2 = true) → PyData.canLayAll0 (ps.map prD1) = true ∧ PyData.depthAll (ps.map prD1) ≤ 2
  | [], _ => ⟨by simp [PyData.canLayAll0], by simp [PyData.depthAll]⟩
  | p :: ps, h => ⟨by simp [prD1, PyData.canLayAll0, PyData.canLay0, (layp ps fun z hz => h z (List.mem_cons_of_mem _ hz)).1, (h p List.mem_cons_self).1, (h p List.mem_cons_self).2], by
    have := (layp ps fun z hz => h z (List.mem_cons_of_mem _ hz)).2
    simp only [List.map_cons, prD1, PyData.depthAll, PyData.depth] at this ⊢
    omega⟩
theorem shS {ss : List Str} (hs : ∀ z ∈ ss, PyData.strOk z = true) : SeqAt.shaped (strD ss) = true := by
  have h := lays ss hs
  show ((strD ss).canLay0 && decide ((strD ss).depth ≤ 64)) = true
  rw [Bool.and_eq_true]
  refine ⟨by simp only [strD, PyData.canLay0]; exact h.1, decide_eq_true ?_⟩
  simp only [strD, PyData.depth]
  omega
theorem shP {ps : List Pr} (hs : ∀ p ∈ ps, PyData.strOk p.1 = true ∧ PyData.strOk p.2 = true) : SeqAt.shaped (prsD ps) = true := by
  have h := layp ps hs
  show ((prsD ps).canLay0 && decide ((prsD ps).depth ≤ 64)) = true
  rw [Bool.and_eq_true]
  refine ⟨by simp only [prsD, PyData.canLay0]; exact h.1, decide_eq_true ?_⟩
  simp only [prsD, PyData.depth]
  omega
theorem BdOk.shP {pl : List Str} {ts : List Pr} {rm : List Str} (b : BdOk pl ts rm) : SeqAt.shaped (strD pl) = true := shS fun z hz => name_ok (b.nm z hz)
theorem BdOk.shR {pl : List Str} {ts : List Pr} {rm : List Str} (b : BdOk pl ts rm) : SeqAt.shaped (strD rm) = true := shS fun z hz => name_ok (b.nm z (b.pin z hz))
theorem BdOk.shT {pl : List Str} {ts : List Pr} {rm : List Str} (b : BdOk pl ts rm) : SeqAt.shaped (prsD ts) = true := E1.shP fun p hp => ⟨name_ok (b.nm _ (b.tie p hp).1), name_ok (b.nm _ (b.tie p hp).2)⟩
theorem strBeq (x y : Str) : (x == y) = decide (x = y) := by
  by_cases h : x = y
  · rw [h, decide_eq_true rfl, beq_self_eq_true]
  · rw [decide_eq_false h]
    exact beq_eq_false_iff_ne.mpr h
theorem dec_cons {α : Type} [DecidableEq α] (x y : α) (xs ys : List α) : (decide (x = y) && decide (xs = ys)) = decide (x :: xs = y :: ys) := by
  by_cases h : x = y
  · by_cases h2 : xs = ys
    · simp [h, h2]
    · simp [h, h2]
  · simp [h]
theorem eqvS : ∀ xs ys : List Str, PyData.eqvAll (xs.map PyData.str) (ys.map PyData.str) = decide (xs = ys)
  | [], [] => by simp [PyData.eqvAll]
  | [], _ :: _ => by simp [PyData.eqvAll]
  | _ :: _, [] => by simp [PyData.eqvAll]
  | x :: xs, y :: ys => by
    simp only [List.map_cons, PyData.eqvAll, PyData.eqv]
    rw [eqvS xs ys, strBeq, dec_cons]
theorem eqv_strs (xs ys : List Str) : PyData.eqv (strD xs) (strD ys) = decide (xs = ys) := by
  simp only [strD, PyData.eqv]
  exact eqvS xs ys
theorem eqv_pr (p q : Pr) : PyData.eqv (prD1 p) (prD1 q) = decide (p = q) := by
  simp only [prD1, PyData.eqv, PyData.eqvAll, strBeq, Bool.and_true]
  obtain ⟨a, b⟩ := p
  obtain ⟨c, d⟩ := q
  by_cases h : a = c
  · by_cases h2 : b = d
    · simp [h, h2]
    · simp [h, h2]
  · simp [h]
theorem eqvP : ∀ xs ys : List Pr, PyData.eqvAll (xs.map prD1) (ys.map prD1) = decide (xs = ys)
  | [], [] => by simp [PyData.eqvAll]
  | [], _ :: _ => by simp [PyData.eqvAll]
  | _ :: _, [] => by simp [PyData.eqvAll]
  | x :: xs, y :: ys => by
    simp only [List.map_cons, PyData.eqvAll]
    rw [eqvP xs ys, eqv_pr, dec_cons]
theorem eqv_prs (xs ys : List Pr) : PyData.eqv (prsD xs) (prsD ys) = decide (xs = ys) := by
  simp only [prsD, PyData.eqv]
  exact eqvP xs ys
/-! ### the methods -/
def spPlaces (C : Addr) : Sp := fun vs H Q _ => ∃ x pl ts rm, vs = [.ref x] ∧ BoardAt (fun _ => True) C H x pl ts rm ∧ ∀ l, H l = none → Q (.ref l) (upd H l (.lst (pl.map V.str)))
def spTies (C : Addr) : Sp := fun vs H Q _ => ∃ x pl ts rm, vs = [.ref x] ∧ BoardAt (fun _ => True) C H x pl ts rm ∧ ∀ l tv, H l = none → PrsAt H tv ts → Q (.ref l) (upd H l (.lst tv))
def spRim (C : Addr) : Sp := fun vs H Q _ => ∃ x pl ts rm, vs = [.ref x] ∧ BoardAt (fun _ => True) C H x pl ts rm ∧ ∀ l, H l = none → Q (.ref l) (upd H l (.lst (rm.map V.str)))
/-- a text of the list -/
def inB (pl : List Str) : V → Bool
  | .str z => decide (z ∈ pl)
  | _ => false
def spHas (C : Addr) : Sp := fun vs H Q _ => ∃ x v pl ts rm, vs = [.ref x, v] ∧ BoardAt (fun _ => True) C H x pl ts rm ∧ Kn C H v ∧ Q (.bl (inB pl v)) H
def spTiesOf {mg : Str → Option Value} {K : PySem.W.Frag} (B : BoardD K mg) : Sp := fun vs H Q E => ∃ x v pl ts rm, vs = [.ref x, v] ∧ BoardAt (fun _ => True) B.C H x pl ts rm ∧ Kn B.C H v ∧
  ((inB pl v = false ∧ Raised H B.N.C "thing" v E) ∨ ∃ z, v = .str z ∧ z ∈ pl ∧ ∀ l, H l = none → Q (.ref l) (upd H l (.lst ((sortS (nb ts z)).map V.str))))
def spBEq (C : Addr) : Sp := fun vs H Q _ => ∃ x v pl ts rm, vs = [.ref x, v] ∧ BoardAt (fun _ => True) C H x pl ts rm ∧ ((Kn C H v ∧ kdOf H v ≠ "" ∧ Q (.bl false) H) ∨
  ∃ y pl' ts' rm', v = .ref y ∧ BoardAt (fun _ => True) C H y pl' ts' rm' ∧ Q (.bl (decide (pl = pl') && (decide (ts = ts') && decide (rm = rm')))) H)
section
variable {P : Program} {w : World} {K : PySem.W.Frag} {mg : Str → Option Value} {base : Heap} {C f : Addr} {fd : FuncData}
theorem sc_m2 : FnScope ["self"] ["self"] (defScope (mS 2)) := ⟨rfl, rfl, rfl, by decide +kernel, rfl, by decide +kernel, by decide +kernel⟩
theorem sc_m3 : FnScope ["self"] ["self"] (defScope (mS 3)) := ⟨rfl, rfl, rfl, by decide +kernel, rfl, by decide +kernel, by decide +kernel⟩
theorem sc_m4 : FnScope ["self"] ["self"] (defScope (mS 4)) := ⟨rfl, rfl, rfl, by decide +kernel, rfl, by decide +kernel, by decide +kernel⟩
theorem sc_m5 : FnScope ["self", "thing"] ["self", "thing"] (defScope (mS 5)) := ⟨rfl, rfl, rfl, by decide +kernel, rfl, by decide +kernel, by decide +kernel⟩
theorem sc_m6 : FnScope ["self", "place"] ["self", "place"] (defScope (mS 6)) := ⟨rfl, rfl, rfl, by decide +kernel, rfl, by decide +kernel, by decide +kernel⟩
theorem sc_m1 : FnScope ["self", "other"] ["self", "other"] (defScope (mS 1)) := ⟨rfl, rfl, rfl, by decide +kernel, rfl, by decide +kernel, by decide +kernel⟩
theorem b_m1 (B : BoardD K mg) : Binds K (B.d 1) ["self", "other"] [] := bindsD B.F1 fun _ _ _ _ _ _ us hl => match us, hl with | [_, _], _ => rfl
theorem b_m2 (B : BoardD K mg) : Binds K (B.d 2) ["self"] [] := bindsD B.F2 fun _ _ _ _ _ _ us hl => match us, hl with | [_], _ => rfl
theorem b_m3 (B : BoardD K mg) : Binds K (B.d 3) ["self"] [] := bindsD B.F3 fun _ _ _ _ _ _ us hl => match us, hl with | [_], _ => rfl
theorem b_m4 (B : BoardD K mg) : Binds K (B.d 4) ["self"] [] := bindsD B.F4 fun _ _ _ _ _ _ us hl => match us, hl with | [_], _ => rfl
theorem b_m5 (B : BoardD K mg) : Binds K (B.d 5) ["self", "thing"] [] := bindsD B.F5 fun _ _ _ _ _ _ us hl => match us, hl with | [_, _], _ => rfl
theorem b_m6 (B : BoardD K mg) : Binds K (B.d 6) ["self", "place"] [] := bindsD B.F6 fun _ _ _ _ _ _ us hl => match us, hl with | [_, _], _ => rfl
theorem ok_places (B : BoardD K mg) (T : TxtN K mg) : FnOk P w K mg base CX0 1 (B.f 2) (B.d 2) ["self"] (spPlaces B.C) := by
  refine B.F2.ok sc_m2 (fun vs H Q E h => ?_) (fun cdv A outer s H vs Q E hr h => ⟨_, pss_one (ps_ret (pe_callTy call_list_of (by rfl) T.list PyProof.Rows.boot_list (pa_cons (pe_fld (pv 0) rfl) pa_nil))), ?_⟩)
  · obtain ⟨x, pl, ts, rm, rfl, _⟩ := h
    rfl
  · obtain ⟨x, pl, ts, rm, rfl, ⟨dx, aP, aT, aR, aN, tv, l, h1, h2, h3, h4, h5, h6, h7, h8⟩, k⟩ := h
    exact ⟨_, rfl, x, B.C, dx, _, _, rfl, h1, B.O.cl, B.noP, rfl, aP, _, rfl, .inl (SqL.of h2), fun l nl => k l nl⟩
theorem ok_ties (B : BoardD K mg) (T : TxtN K mg) : FnOk P w K mg base CX0 1 (B.f 3) (B.d 3) ["self"] (spTies B.C) := by
  refine B.F3.ok sc_m3 (fun vs H Q E h => ?_) (fun cdv A outer s H vs Q E hr h => ⟨_, pss_one (ps_ret (pe_callTy call_list_of (by rfl) T.list PyProof.Rows.boot_list (pa_cons (pe_fld (pv 0) rfl) pa_nil))), ?_⟩)
  · obtain ⟨x, pl, ts, rm, rfl, _⟩ := h
    rfl
  · obtain ⟨x, pl, ts, rm, rfl, ⟨dx, aP, aT, aR, aN, tv, l, h1, h2, h3, h4, h5, h6, h7, h8⟩, k⟩ := h
    exact ⟨_, rfl, x, B.C, dx, _, _, rfl, h1, B.O.cl, B.noT, rfl, aT, _, rfl, .inl (SqL.of h3), fun l nl => k l tv nl h4⟩
theorem ok_rim (B : BoardD K mg) (T : TxtN K mg) : FnOk P w K mg base CX0 1 (B.f 4) (B.d 4) ["self"] (spRim B.C) := by
  refine B.F4.ok sc_m4 (fun vs H Q E h => ?_) (fun cdv A outer s H vs Q E hr h => ⟨_, pss_one (ps_ret (pe_callTy call_list_of (by rfl) T.list PyProof.Rows.boot_list (pa_cons (pe_fld (pv 0) rfl) pa_nil))), ?_⟩)
  · obtain ⟨x, pl, ts, rm, rfl, _⟩ := h
    rfl
  · obtain ⟨x, pl, ts, rm, rfl, ⟨dx, aP, aT, aR, aN, tv, l, h1, h2, h3, h4, h5, h6, h7, h8⟩, k⟩ := h
    exact ⟨_, rfl, x, B.C, dx, _, _, rfl, h1, B.O.cl, B.noR, rfl, aR, _, rfl, .inl (SqL.of h5), fun l nl => k l nl⟩
theorem near_has {ss : List Str} (l : Str → V) (z : Str) : (valV (ss.map fun s => ((Sum.inr s : Key), l s)) (Sum.inr z)).isSome = decide (z ∈ ss) := by
  by_cases h : z ∈ ss
  · rw [map_val l h, decide_eq_true h]
    rfl
  · rw [decide_eq_false h]
    unfold valV
    have : (ss.map fun s => ((Sum.inr s : Key), l s)).find? (fun kv => decide (kv.1 = (Sum.inr z : Key))) = none := by
      rw [List.find?_eq_none]
      intro kv hkv
      obtain ⟨s, hs, rfl⟩ := List.mem_map.mp hkv
      simp only [decide_eq_true_eq]
      intro e
      cases e
      exact h hs
    rw [this]
    rfl
theorem ok_has (B : BoardD K mg) (T : TxtN K mg) : FnOk P w K mg base CX0 1 (B.f 5) (B.d 5) ["self", "thing"] (spHas B.C) := by
  refine B.F5.ok sc_m5 (fun vs H Q E h => ?_) (fun cdv A outer s H vs Q E hr h => ⟨_, pss_one (ps_ret (pe_and (pe_callB call_isi (by rfl) T.isinstance (by decide +kernel) (pa_cons (pv 1) (pa_cons (pe_bltn (by rfl) T.str boot_str (v := .ty "str") rfl) pa_nil))) (pe_one (pe_cmp (pc_din (hu_of hr) (pv 1) (pe_fld (pv 0) rfl)))))), ?_⟩)
  · obtain ⟨x, v, pl, ts, rm, rfl, _⟩ := h
    rfl
  · obtain ⟨x, v, pl, ts, rm, rfl, ⟨dx, aP, aT, aR, aN, tv, l, h1, h2, h3, h4, h5, h6, h7, h8⟩, kn, q⟩ := h
    obtain ⟨t, ty, ki⟩ := kn_str B.O kn
    refine ⟨_, rfl, v, _, t, _, isStrV v, rfl, .ty _, ty, ki, _, rfl, ?_⟩
    cases v with
    | str z =>
      refine iteT ⟨_, rfl, _, rfl, x, B.C, dx, _, _, rfl, h1, B.O.cl, B.noN, rfl, aN, _, rfl, DGet.k (k := Sum.inr z) h6.d, ?_⟩
      rw [near_has (fun s => V.ref (l s)) z]
      exact q
    | _ => exact iteF q
theorem ok_ties_of (B : BoardD K mg) (T : TxtN K mg) : FnOk P w K mg base (L2.CX P w) 3 (B.f 6) (B.d 6) ["self", "place"] (spTiesOf B) := by
  have GH : FnOk P w K mg base CX0 1 (B.f 5) (B.d 5) ["self", "thing"] (spHas B.C) := ok_has B T
  refine B.F6.ok sc_m6 (fun vs H Q E h => ?_) (fun cdv A outer s H vs Q E hr h => ⟨_, pss_cons (ps_if (pt_not (pt_val (pe_meth (pv 0) B.O.cl B.M5 GH (hr.mono (by decide)) (b_m5 B) .nil pass0 (pa_cons (pv 1) pa_nil)))) (pss_one (ps_raise rfl (takes_of rfl rfl rfl rfl) (pmk_oex B.N.T B.N.iC B.N.tI (ok_err5 B.N) hr (bE5 B.N) .nil pass0 (by rfl) B.N.g (by exact pa_cons (pv 1) pa_nil)))) pss_nil)
    (pss_one (ps_ret (pe_callTy call_list_of (by rfl) T.list PyProof.Rows.boot_list (pa_cons (pe_dget (hu_of hr) (pe_fld (pv 0) rfl) (pv 1) (fun _ _ => rfl)) pa_nil)))), ?_⟩)
  · obtain ⟨x, v, pl, ts, rm, rfl, _⟩ := h
    rfl
  · obtain ⟨x, v, pl, ts, rm, rfl, hB, kn, h⟩ := h
    obtain ⟨dx, aP, aT, aR, aN, tv, l, h1, h2, h3, h4, h5, h6, h7, h8⟩ := hB
    refine ⟨_, rfl, x, dx, _, rfl, h1, rfl, _, rfl, x, v, pl, ts, rm, rfl, ⟨dx, aP, aT, aR, aN, tv, l, h1, h2, h3, h4, h5, h6, h7, h8⟩, kn, _, rfl, ?_⟩
    rcases h with ⟨e, hR⟩ | ⟨z, rfl, hz, k⟩
    · rw [e]
      exact iteT ⟨_, rfl, by show 1 ≤ 1000; decide, fun a na => hR.of na⟩
    · rw [show inB pl (.str z) = true from decide_eq_true hz]
      exact iteF ⟨_, rfl, x, B.C, dx, _, _, rfl, h1, B.O.cl, B.noN, rfl, _, rfl, aN, _, rfl, by have := DGet.k (k := Sum.inr z) h6.d; rw [map_val _ hz] at this; exact this, l z, _, rfl, .inl (SqL.of (h6.at_ z hz)), fun q nq => k q nq⟩
theorem ok_beq (B : BoardD K mg) (T : TxtN K mg) : FnOk P w K mg base CX0 1 (B.f 1) (B.d 1) ["self", "other"] (spBEq B.C) := by
  refine B.F1.ok sc_m1 (fun vs H Q E h => ?_) (fun cdv A outer s H vs Q E hr h => ⟨_, pss_one (ps_ret (pe_and (pe_callB call_isi (by rfl) T.isinstance (by decide +kernel) (pa_cons (pv 1) (pa_cons (pe_glob (by rfl) B.g (v := .ref B.C) rfl) pa_nil)))
    (pe_and (pe_cmpR (op_eqD hr.units) (pe_fld (pv 0) rfl) (pe_fld (pv 1) rfl) (nomark _)) (pe_and (pe_cmpR (op_eqD hr.units) (pe_fld (pv 0) rfl) (pe_fld (pv 1) rfl) (nomark _)) (pe_one (pe_cmpR (op_eqD hr.units) (pe_fld (pv 0) rfl) (pe_fld (pv 1) rfl) (nomark _))))))), ?_⟩)
  · obtain ⟨x, v, pl, ts, rm, rfl, _⟩ := h
    rfl
  · obtain ⟨x, v, pl, ts, rm, rfl, hB, h⟩ := h
    obtain ⟨dx, aP, aT, aR, aN, tv, l, h1, h2, h3, h4, h5, h6, h7, h8⟩ := hB
    rcases h with ⟨kn, nk, q⟩ | ⟨y, pl', ts', rm', rfl, ⟨dx', aP', aT', aR', aN', tv', l', g1, g2, g3, g4, g5, g6, g7, g8⟩, q⟩
    · have key : ∃ t, TyX K H v t ∧ PySem.W.kitOne K t (.ref B.C) = some false := by
        cases kn with
        | non => exact ⟨_, .base .non, B.O.ty "NoneType" (by decide)⟩
        | bl b => exact ⟨_, .base (.bl b), B.O.ty "bool" (by decide)⟩
        | int i => exact ⟨_, .base (.int i), B.O.ty "int" (by decide)⟩
        | str x => exact ⟨_, .base (.str x), B.O.ty "str" (by decide)⟩
        | lst e => exact ⟨_, .base (.lst e), B.O.ty "list" (by decide)⟩
        | tup e => exact ⟨_, .base (.tup e), B.O.ty "tuple" (by decide)⟩
        | dic e => exact ⟨_, .base (.dK e), B.O.ty "dict" (by decide)⟩
        | own e => exact absurd (by simp only [kdOf, e]) nk
      obtain ⟨t, ty, ki⟩ := key
      exact ⟨_, rfl, v, _, t, _, false, rfl, .own _, ty, ki, _, rfl, iteF q⟩
    · refine ⟨_, rfl, .ref y, _, _, _, true, rfl, .own _, .base (.ins g1 B.O.cl B.O.ha B.O.hn B.O.htk B.O.hm), by unfold PySem.W.kitOne; simp, _, rfl, iteT ?_⟩
      refine ⟨_, rfl, x, B.C, dx, _, _, rfl, h1, B.O.cl, B.noP, rfl, _, rfl, y, B.C, dx', _, _, rfl, g1, B.O.cl, B.noP, rfl, strD pl, strD pl', dp_strs h2, dp_strs g2, h7.shP, g7.shP, _, rfl, ?_⟩
      rw [eqv_strs]
      cases e1 : decide (pl = pl') with
      | false =>
        rw [e1] at q
        exact iteF q
      | true =>
        rw [e1] at q
        refine iteT ⟨_, rfl, x, B.C, dx, _, _, rfl, h1, B.O.cl, B.noT, rfl, _, rfl, y, B.C, dx', _, _, rfl, g1, B.O.cl, B.noT, rfl, prsD ts, prsD ts', dp_prs h3 h4, dp_prs g3 g4, h7.shT, g7.shT, _, rfl, ?_⟩
        rw [eqv_prs]
        cases e2 : decide (ts = ts') with
        | false =>
          rw [e2] at q
          exact iteF q
        | true =>
          rw [e2] at q
          refine iteT ⟨_, rfl, x, B.C, dx, _, _, rfl, h1, B.O.cl, B.noR, rfl, _, rfl, y, B.C, dx', _, _, rfl, g1, B.O.cl, B.noR, rfl, strD rm, strD rm', dp_strs h5, dp_strs g5, h7.shR, g7.shR, ?_⟩
          rw [eqv_strs]
          exact q
end
end E1

set_option Elab.async false
set_option linter.all false
set_option maxRecDepth 100000
set_option maxHeartbeats 4000000
namespace E1
open PySem PySem.Spec PyProof.Rows L2 G0
abbrev sStart : Stmt := topS 52
abbrev sDraw : Stmt := topS 53
abbrev sMixed : Stmt := topS 55
/-! ### the stream -/
structure StmAt (H : Hp) (p l : Addr) (c : Int) : Prop where
  ex : ∃ (ns : List Int) (b d : Int), H p = some (.lst [.ref l, .int b, .int c, .int d]) ∧ H l = some (.lst (ns.map V.int)) ∧ 0 ≤ b ∧ 0 ≤ d ∧ d < 2147483647
  ne : p ≠ l
/-- all but what stands at p and l stands as it stood -/
def But2 (H H' : Hp) (p l : Addr) : Prop := ∀ b o, H b = some o → b ≠ p → b ≠ l → H' b = some o
theorem But2.rfl {H : Hp} {p l : Addr} : But2 H H p l := fun _ _ e _ _ => e
theorem But2.trans {H H1 H2 : Hp} {p l : Addr} (a : But2 H H1 p l) (b : But2 H1 H2 p l) : But2 H H2 p l := fun x o e h1 h2 => b x o (a x o e h1 h2) h1 h2
theorem But2.updP {H : Hp} {p l : Addr} {o : HO} : But2 H (upd H p o) p l := fun x u e h1 _ => by rw [upd_ne h1]; exact e
theorem But2.updL {H : Hp} {p l : Addr} {o : HO} : But2 H (upd H l o) p l := fun x u e _ h2 => by rw [upd_ne h2]; exact e
theorem But2.new {H : Hp} {p l q : Addr} {o : HO} (h : H q = none) : But2 H (upd H q o) p l := fun x u e _ _ => by rw [upd_ne (ne_of_none e h)]; exact e
theorem dpInts {K : PySem.W.Frag} {H : Hp} : ∀ ns : List Int, DpAll K H (ns.map V.int) (ns.map PyData.int)
  | [] => .nil
  | n :: r => .cons (.int n) (dpInts r)
theorem laidInts : ∀ ns : List Int, PyData.canLayAll0 (ns.map PyData.int) = true
  | [] => rfl
  | n :: r => by
    show (PyData.canLay0 (.int n) && PyData.canLayAll0 (r.map PyData.int)) = true
    rw [laidInts r]
    rfl
theorem depthInts : ∀ ns : List Int, PyData.depthAll (ns.map PyData.int) = 0
  | [] => rfl
  | n :: r => by
    show max (PyData.depth (.int n)) (PyData.depthAll (r.map PyData.int)) = 0
    rw [depthInts r]
    rfl
theorem shapedInts (ns : List Int) : SeqAt.shaped (.list (ns.map PyData.int)) = true := by
  show (PyData.canLayAll0 (ns.map PyData.int) && decide (PyData.depthAll (ns.map PyData.int) + 1 ≤ 64)) = true
  rw [laidInts, depthInts]
  rfl
theorem eqvNil : ∀ ns : List Int, PyData.eqv (.list (ns.map PyData.int)) (.list []) = decide (ns = [])
  | [] => rfl
  | _ :: _ => rfl
theorem seq0 (n : Nat) : seqIndex? 0 (n + 1) = some 0 := by
  unfold seqIndex?
  simp
def spDraw : Sp := fun vs H Q _ => ∃ (p l : Addr) (c m : Int), vs = [.ref p, .int m] ∧ StmAt H p l c ∧ 0 ≤ c ∧ c < 1000000000 ∧ 0 < m ∧ m < 1000000 ∧
  ∀ (r : Int) (H' : Hp), 0 ≤ r → r < m → StmAt H' p l (c + 1) → But2 H H' p l → Q (.int r) H'
structure TxtD (mg : Str → Option Value) : Prop where
  int : mg "int" = none
  list : mg "list" = none
  len : mg "len" = none
  range : mg "range" = none
section
variable {P : Program} {w : World} {K : PySem.W.Frag} {mg : Str → Option Value} {base : Heap}
theorem scD : FnScope ["_law_stream", "_law_many", "_law_cell", "_law_digit", "_law_mixed_here"] ["_law_stream", "_law_many"] (defScope sDraw) := ⟨rfl, rfl, rfl, by decide +kernel, rfl, by decide +kernel, by decide +kernel⟩
theorem ok_draw {f : Addr} {fd : FuncData} (F : Fun K "_law_draw" "_law_draw" sDraw f fd) (T : TxtD mg) : FnOk P w K mg base CX0 1 f fd ["_law_stream", "_law_many"] spDraw := by
  refine F.ok scD (fun vs H Q E h => ?_) (fun cdv A outer s H vs Q E hr h => ?_)
  · obtain ⟨p, l, c, m, rfl, _⟩ := h
    rfl
  · obtain ⟨p, l, c, m, rfl, S, c0, c1, m0, m1, k⟩ := h
    have hu := hr.units
    refine ⟨_, pss_cons (ps_asg (pe_op op_add (pe_ix ix_list (pv 0) pe_int (fun _ _ => rfl)) pe_int) (pg_sub (pv 0) pe_int set_list))
      (pss_cons (ps_while PassesOwn.never
         (PW.pt (pw_and (pt_cmpR op_eq (pe_ix ix_list (pv 0) pe_int (fun _ _ => rfl)) pe_int (nomark _))
            (pw_and1 (pt_cmpR (op_neD hu) (pe_ix ix_list (pv 0) pe_int (fun _ _ => rfl)) (pe_lst pa_nil) (nomark _)))))
         (pss_cons (ps_set (i := 2) scD.nd rfl (Or.inl rfl) (pe_bm PySem.F.plainAttrs_list PySem.F.slot_list_pop PySem.F.type_list_pop mt_popAt (pe_ix ix_list (pv 0) pe_int (fun _ _ => rfl)) (pa_cons pe_int pa_nil)))
         (pss_cons (ps_asg (pe_op op_mod (pe_callTy call_int1 (by rfl) T.int PyProof.Rows.boot_int (pa_cons (pe_op op_add (pe_op op_add (pe_op op_mul (pe_ix ix_list (pv 0) pe_int (fun _ _ => rfl)) pe_int) (pv 2)) pe_int) pa_nil)) pe_int) (pg_sub (pv 0) pe_int set_list))
         (pss_one (ps_asg (pe_ifExp (pt_cmpR op_ge (pv 2) (pe_op op_pow pe_int pe_int) (nomark _)) (pv 2) pe_int) (pg_sub (pv 0) pe_int set_list))))))
      (pss_cons (ps_if (pt_cmpR op_gt (pe_ix ix_list (pv 0) pe_int (fun _ _ => rfl)) pe_int (nomark _))
         (pss_cons (ps_set (i := 3) scD.nd rfl (Or.inl rfl) (pe_op op_mod (pe_callTy call_int1 (by rfl) T.int PyProof.Rows.boot_int (pa_cons (pe_ix ix_list (pv 0) pe_int (fun _ _ => rfl)) pa_nil)) (pv 1)))
         (pss_cons (ps_asg (pe_op op_fdiv (pe_ix ix_list (pv 0) pe_int (fun _ _ => rfl)) (pv 1)) (pg_sub (pv 0) pe_int set_list))
         (pss_one (ps_ret (pv 3))))) pss_nil)
      (pss_cons (ps_set (i := 4) scD.nd rfl (Or.inl rfl) (pe_op op_mod (pe_callTy call_int1 (by rfl) T.int PyProof.Rows.boot_int (pa_cons (pe_op op_pow (pe_op op_add (pe_op op_add (pe_ix ix_list (pv 0) pe_int (fun _ _ => rfl)) (pe_op op_mul pe_int (pe_ix ix_list (pv 0) pe_int (fun _ _ => rfl)))) pe_int) pe_int) pa_nil)) pe_int))
      (pss_one (ps_ret (pe_op op_mod (pe_op op_mod (pe_callTy call_int1 (by rfl) T.int PyProof.Rows.boot_int (pa_cons (pe_op op_pow (pe_op op_add (pe_op op_add (pe_op op_mul (pv 4) pe_int) (pe_op op_mul pe_int (pe_ix ix_list (pv 0) pe_int (fun _ _ => rfl)))) pe_int) pe_int) pa_nil)) pe_int) (pv 1))))))), ?_⟩
    obtain ⟨⟨ns, b, d, hp, hl, b0, d0, d1⟩, hne⟩ := S
    -- stream[2] = stream[2] + 1
    refine ⟨_, rfl, p, _, 2, _, rfl, rfl, SqL.of hp, rfl, _, _, rfl, rfl, _, rfl, p, _, 2, 2, rfl, rfl, hp, rfl, ?_⟩
    -- while
    have e1 : (upd H p (.lst [.ref l, .int b, .int (c + 1), .int d])) l = some (.lst (ns.map V.int)) := by rw [upd_ne (Ne.symm hne)]; exact hl
    refine ⟨fun n σ H' => ∃ (v : Option V) (ns : List Int) (b d : Int), n = ns.length ∧ σ = [some (.ref p), some (.int m), v, none, none] ∧ H' p = some (.lst [.ref l, .int b, .int (c + 1), .int d]) ∧ H' l = some (.lst (ns.map V.int)) ∧ 0 ≤ b ∧ 0 ≤ d ∧ d < 2147483647 ∧ But2 H H' p l,
      ⟨ns.length, none, ns, b, d, rfl, rfl, upd_same, e1, b0, d0, d1, But2.updP⟩, ?_⟩
    rintro n σ H' ⟨v, ns, b, d, rfl, rfl, hp, hl, b0, d0, d1, s1⟩
    -- stream[1] == 0 and stream[0] != []
    refine ⟨_, rfl, p, _, 1, _, rfl, rfl, SqL.of hp, rfl, rfl, _, rfl, ?_⟩
    refine ite2 (fun hb => ?_) (fun hb => ?_)
    · refine ⟨_, rfl, p, _, 0, _, rfl, rfl, SqL.of hp, rfl, Nat.zero_le _, fun q hq => ?_⟩
      have hpq : p ≠ q := ne_of_none hp hq
      have hlq : l ≠ q := ne_of_none hl hq
      have hp1 : (upd H' q (.lst [])) p = some (.lst [.ref l, .int b, .int (c + 1), .int d]) := by rw [upd_ne hpq]; exact hp
      have hl1 : (upd H' q (.lst [])) l = some (.lst (ns.map V.int)) := by rw [upd_ne hlq]; exact hl
      have s2 : But2 H (upd H' q (.lst [])) p l := s1.trans (But2.new hq)
      refine ⟨_, _, Dp.lst (SqL.of hl1) (dpInts ns), Dp.lst (SqL.of upd_same) .nil, shapedInts ns, rfl, _, rfl, ?_⟩
      rw [eqvNil]
      refine ite2 (fun hn => ?_) (fun hn => ?_)
      · -- the body
        cases ns with
        | nil => cases hn
        | cons z r =>
          refine ⟨fun σ' H'' => ∃ (v : Option V) (b d : Int), σ' = [some (.ref p), some (.int m), v, none, none] ∧ H'' p = some (.lst [.ref l, .int b, .int (c + 1), .int d]) ∧ H'' l = some (.lst (r.map V.int)) ∧ 0 ≤ b ∧ 0 ≤ d ∧ d < 2147483647 ∧ But2 H H'' p l, ?_, ?_⟩
          · rintro σ' H'' ⟨v, b, d, rfl, h1, h2, h3, h4, h5, h6⟩
            exact ⟨r.length, Nat.lt_succ_self _, v, r, b, d, rfl, rfl, h1, h2, h3, h4, h5, h6⟩
          · refine ⟨_, rfl, p, _, 0, _, rfl, rfl, SqL.of hp1, rfl, .inl ⟨rfl, _, SqL.of hl1⟩, l, _, 0, 0, _, rfl, rfl, hl1, by decide, by decide, seq0 _, rfl, ?_⟩
            have hp2 : (upd (upd H' q (.lst [])) l (.lst (((z :: r).map V.int).eraseIdx 0))) p = some (.lst [.ref l, .int b, .int (c + 1), .int d]) := by rw [upd_ne hne]; exact hp1
            refine ⟨_, rfl, p, _, 3, _, rfl, rfl, SqL.of hp2, rfl, _, _, rfl, rfl, .inr ⟨by decide, by decide⟩, _, rfl, _, _, rfl, rfl, _, _, rfl, rfl, .inl ⟨_, rfl, _, _, rfl, rfl, (by decide : (0 : Int) < 2147483647), _, rfl, p, _, 3, 3, rfl, rfl, hp2, rfl, ?_⟩⟩
            refine ⟨_, rfl, _, _, rfl, rfl, ⟨by decide, by decide, by decide⟩, _, _, rfl, rfl, _, rfl, ?_⟩
            have d2 := Int.emod_nonneg (d * 8191 + z + 3) (by decide : (2147483647 : Int) ≠ 0)
            have d3 := Int.emod_lt_of_pos (d * 8191 + z + 3) (by decide : (0 : Int) < 2147483647)
            refine ite2 (fun hz => ?_) (fun hz => ?_)
            · have z0 : (0 : Int) ≤ z := Int.le_trans (by decide : (0 : Int) ≤ 10 ^ (18 : Int).toNat) (of_decide_eq_true hz)
              refine ⟨_, rfl, _, rfl, p, _, 1, 1, rfl, rfl, upd_same, rfl, some (.int z), z, _, rfl, upd_same, ?_, z0, d2, d3, s2.trans (But2.updL.trans (But2.updP.trans But2.updP))⟩
              rw [upd_ne (Ne.symm hne), upd_ne (Ne.symm hne), upd_same]
              rfl
            · refine ⟨_, rfl, p, _, 1, 1, rfl, rfl, upd_same, rfl, some (.int z), 0, _, rfl, upd_same, ?_, Int.le_refl _, d2, d3, s2.trans (But2.updL.trans (But2.updP.trans But2.updP))⟩
              rw [upd_ne (Ne.symm hne), upd_ne (Ne.symm hne), upd_same]
              rfl
      · refine ⟨_, rfl, p, _, 1, _, rfl, rfl, SqL.of hp1, rfl, _, _, rfl, rfl, _, rfl, ite2 (fun hg => ?_) (fun hg => ?_)⟩
        · have q0 := Int.emod_nonneg b (Int.ne_of_gt m0)
          have q1 := Int.emod_lt_of_pos b m0
          refine ⟨_, rfl, p, _, 1, _, rfl, rfl, SqL.of hp1, rfl, .inl ⟨_, rfl, _, rfl, _, _, rfl, rfl, m0, ?_⟩⟩
          refine ⟨_, rfl, p, _, 1, _, rfl, rfl, SqL.of hp1, rfl, _, rfl, _, _, rfl, rfl, ⟨m0, Int.lt_trans m1 (by decide)⟩, _, rfl, p, _, 1, 1, rfl, rfl, hp1, rfl, _, rfl, ?_⟩
          exact k _ _ q0 q1 ⟨⟨ns, b / m, d, upd_same, by rw [upd_ne (Ne.symm hne)]; exact hl1, Int.ediv_nonneg b0 (Int.le_of_lt m0), d0, d1⟩, hne⟩ (s2.trans But2.updP)
        · refine ⟨_, rfl, p, _, 3, _, rfl, rfl, SqL.of hp1, rfl, _, rfl, p, _, 2, _, rfl, rfl, SqL.of hp1, rfl, _, _, rfl, rfl, .inl ⟨by decide, by decide⟩, _, _, rfl, rfl, _, _, rfl, rfl, _, _, rfl, rfl, ⟨by decide, by decide, (by omega)⟩, .inl ⟨_, rfl, _, _, rfl, rfl, (by decide : (0 : Int) < 2147483629), ?_⟩⟩
          have g0 := Int.emod_nonneg ((d + 7919 * (c + 1) + 104729) ^ (5 : Int).toNat) (by decide : (2147483629 : Int) ≠ 0)
          have g1 := Int.emod_lt_of_pos ((d + 7919 * (c + 1) + 104729) ^ (5 : Int).toNat) (by decide : (0 : Int) < 2147483629)
          generalize hx : ((d + 7919 * (c + 1) + 104729) ^ (5 : Int).toNat) % 2147483629 = x at *
          refine ⟨_, rfl, _, _, rfl, rfl, .inr ⟨by decide, by decide⟩, _, rfl, p, _, 2, _, rfl, rfl, SqL.of hp1, rfl, _, _, rfl, rfl, .inl ⟨by decide, by decide⟩, _, _, rfl, rfl, _, _, rfl, rfl, _, _, rfl, rfl, ⟨by decide, by decide, (by omega)⟩, .inl ⟨_, rfl, _, _, rfl, rfl, (by decide : (0 : Int) < 1000000007), _, rfl, _, _, rfl, rfl, m0, ?_⟩⟩
          exact k _ _ (Int.emod_nonneg _ (Int.ne_of_gt m0)) (Int.emod_lt_of_pos _ m0) ⟨⟨ns, b, d, hp1, hl1, b0, d0, d1⟩, hne⟩ s2
    · refine ⟨_, rfl, p, _, 1, _, rfl, rfl, SqL.of hp, rfl, _, _, rfl, rfl, _, rfl, ite2 (fun hg => ?_) (fun hg => ?_)⟩
      · have q0 := Int.emod_nonneg b (Int.ne_of_gt m0)
        have q1 := Int.emod_lt_of_pos b m0
        refine ⟨_, rfl, p, _, 1, _, rfl, rfl, SqL.of hp, rfl, .inl ⟨_, rfl, _, rfl, _, _, rfl, rfl, m0, ?_⟩⟩
        refine ⟨_, rfl, p, _, 1, _, rfl, rfl, SqL.of hp, rfl, _, rfl, _, _, rfl, rfl, ⟨m0, Int.lt_trans m1 (by decide)⟩, _, rfl, p, _, 1, 1, rfl, rfl, hp, rfl, _, rfl, ?_⟩
        exact k _ _ q0 q1 ⟨⟨ns, b / m, d, upd_same, by rw [upd_ne (Ne.symm hne)]; exact hl, Int.ediv_nonneg b0 (Int.le_of_lt m0), d0, d1⟩, hne⟩ (s1.trans But2.updP)
      · refine ⟨_, rfl, p, _, 3, _, rfl, rfl, SqL.of hp, rfl, _, rfl, p, _, 2, _, rfl, rfl, SqL.of hp, rfl, _, _, rfl, rfl, .inl ⟨by decide, by decide⟩, _, _, rfl, rfl, _, _, rfl, rfl, _, _, rfl, rfl, ⟨by decide, by decide, (by omega)⟩, .inl ⟨_, rfl, _, _, rfl, rfl, (by decide : (0 : Int) < 2147483629), ?_⟩⟩
        have g0 := Int.emod_nonneg ((d + 7919 * (c + 1) + 104729) ^ (5 : Int).toNat) (by decide : (2147483629 : Int) ≠ 0)
        have g1 := Int.emod_lt_of_pos ((d + 7919 * (c + 1) + 104729) ^ (5 : Int).toNat) (by decide : (0 : Int) < 2147483629)
        generalize hx : ((d + 7919 * (c + 1) + 104729) ^ (5 : Int).toNat) % 2147483629 = x at *
        refine ⟨_, rfl, _, _, rfl, rfl, .inr ⟨by decide, by decide⟩, _, rfl, p, _, 2, _, rfl, rfl, SqL.of hp, rfl, _, _, rfl, rfl, .inl ⟨by decide, by decide⟩, _, _, rfl, rfl, _, _, rfl, rfl, _, _, rfl, rfl, ⟨by decide, by decide, (by omega)⟩, .inl ⟨_, rfl, _, _, rfl, rfl, (by decide : (0 : Int) < 1000000007), _, rfl, _, _, rfl, rfl, m0, ?_⟩⟩
        exact k _ _ (Int.emod_nonneg _ (Int.ne_of_gt m0)) (Int.emod_lt_of_pos _ m0) ⟨⟨ns, b, d, hp, hl, b0, d0, d1⟩, hne⟩ s1
end
theorem StmAt.upd {H : Hp} {p l q : Addr} {c : Int} {o : HO} (S : StmAt H p l c) (h1 : p ≠ q) (h2 : l ≠ q) : StmAt (upd H q o) p l c := by
  obtain ⟨⟨ns, b, d, hp, hl, r⟩, hne⟩ := S
  exact ⟨⟨ns, b, d, by rw [upd_ne h1]; exact hp, by rw [upd_ne h2]; exact hl, r⟩, hne⟩
theorem StmAt.at (S : StmAt H p l c) : (∃ xs, H p = some (.lst xs)) ∧ ∃ xs, H l = some (.lst xs) := by
  obtain ⟨⟨ns, b, d, hp, hl, r⟩, hne⟩ := S
  exact ⟨⟨_, hp⟩, _, hl⟩
def spMixed (K : PySem.W.Frag) : Sp := fun vs H Q _ => ∃ (p l a : Addr) (c : Int) (xs : List V), vs = [.ref p, .ref a] ∧ StmAt H p l c ∧ 0 ≤ c ∧ c < 100000000 ∧ SqL K H a xs ∧ xs.length < 1000 ∧
  ∀ (q : Addr) (ys : List V) (H' : Hp), ys.Perm xs → StmAt H' p l (c + xs.length) → H q = none → H' q = some (.lst ys) → But2 H H' p l → Q (.ref q) H'
structure TxtM (K : PySem.W.Frag) (mg : Str → Option Value) (fD : Addr) : Prop where
  d : TxtD mg
  gD : mg "_law_draw" = some (.ref fD)
  kD : PySem.W.keepIn K (.ref fD) = true
theorem erase_perm {α : Type} : ∀ (l : List α) (k : Nat) (y : α), l[k]? = some y → (y :: l.eraseIdx k).Perm l
  | [], k, y, h => by simp at h
  | x :: r, 0, y, h => by
    have e : x = y := Option.some.inj h
    subst e
    exact .refl _
  | x :: r, k + 1, y, h => by
    have ih := erase_perm r k y h
    exact (List.Perm.swap x _ _).trans (ih.cons x)
theorem seqNat {r : Int} {n : Nat} (h0 : 0 ≤ r) (h1 : r < (n : Int)) : seqIndex? r n = some r.toNat := by
  unfold seqIndex?
  have e : (if r < 0 then r + (n : Int) else r) = r := if_neg (by omega)
  simp only [e]
  have e2 : (decide (0 ≤ r) && decide (r < (n : Int))) = true := by simp [h0, h1]
  rw [if_pos e2]
/-- left.pop(draw(stream, len(left))) -/
def tMixE (K : PySem.W.Frag) : TE := tBM K "list" rPopAt (tVar 2) (tCons (tCall spDraw [] L2.E0 (tCons (tVar 0) (tCons (tCB (fun xs H Q => ∃ p ys, xs = [.ref p] ∧ (SqL K H p ys ∨ SqT K H p ys) ∧ Q (.int ys.length) H) (tCons (tVar 2) tNil)) tNil))) tNil)
section
variable {P : Program} {w : World} {K : PySem.W.Frag} {mg : Str → Option Value} {base : Heap}
theorem scM : FnScope ["_law_stream", "_law_some", "_law_left", "_law_k"] ["_law_stream", "_law_some"] (defScope sMixed) := ⟨rfl, rfl, rfl, by decide +kernel, rfl, by decide +kernel, by decide +kernel⟩
theorem ok_mixed {f fD : Addr} {fd fdD : FuncData} (F : Fun K "_law_mixed" "_law_mixed" sMixed f fd) (T : TxtM K mg fD) (FD : Fun K "_law_draw" "_law_draw" sDraw fD fdD) (bD : Binds K fdD ["_law_stream", "_law_many"] []) : FnOk P w K mg base CX0 2 f fd ["_law_stream", "_law_some"] (spMixed K) := by
  have GD : FnOk P w K mg base CX0 1 fD fdD ["_law_stream", "_law_many"] spDraw := ok_draw FD T.d
  refine F.ok scM (fun vs H Q E h => ?_) (fun cdv A outer s H vs Q E hr h => ?_)
  · obtain ⟨p, l, a, c, xs, rfl, _⟩ := h
    rfl
  · obtain ⟨p, l, a, c, xs, rfl, S, c0, c1, hS, hlen, k⟩ := h
    refine ⟨_, pss_cons (ps_set (i := 2) scM.nd rfl (Or.inr rfl) (pe_callTy call_list_of (by rfl) T.d.list PyProof.Rows.boot_list (pa_cons (pv 1) pa_nil)))
      (pss_one (ps_ret (pe_lc (te := tMixE K) (own := [("_law_k", 3)]) (g := gName 3) (tt := tYes) rfl scM.nd (pi_range1 (by rfl) T.d.range (pa_cons (pe_callB call_len_seq (by rfl) T.d.len PySem.boot_len (pa_cons (pv 2) pa_nil)) pa_nil))
        (blkOk_by (own := [("_law_k", 3)]) (N := ["_law_stream", "_law_some", "_law_left", "_law_k"]) (sc := defScope sMixed) (by decide +kernel)) (fun _ _ _ _ _ => pg_name (i := 3) scM.nd rfl (Or.inl rfl)) (fun _ _ _ _ _ => pts_nil)
        ?he))), ?_⟩
    case he =>
      intro s1 H1 C1 cl1 fp1
      exact pe_bm PySem.F.plainAttrs_list PySem.F.slot_list_pop PySem.F.type_list_pop mt_popAt (pv 2) (pa_cons (pe_call GD hr (by rfl) T.gD T.kD bD .nil pass0 (pa_cons (pv 0) (pa_cons (pe_callB call_len_seq (by rfl) T.d.len PySem.boot_len (pa_cons (pv 2) pa_nil)) pa_nil))) pa_nil)
    obtain ⟨⟨_, hp⟩, _, hl⟩ := S.at
    refine ⟨_, rfl, a, xs, rfl, .inl hS, fun q hq => ?_⟩
    have hpq : p ≠ q := ne_of_none hp hq
    have hlq : l ≠ q := ne_of_none hl hq
    refine ⟨_, rfl, q, xs, rfl, .inl (SqL.of upd_same), _, rfl, by omega, by omega, fun D hD => ?_⟩
    have hDq : q ≠ D := ne_of_none upd_same hD
    have hpD : p ≠ D := ne_of_none (o := .lst _) (by rw [upd_ne hpq]; exact hp) hD
    have hlD : l ≠ D := ne_of_none (o := .lst _) (by rw [upd_ne hlq]; exact hl) hD
    have hDn : H D = none := by rw [upd_ne (Ne.symm hDq)] at hD; exact hD
    refine lc_range (fun i H' => ∃ acc left : List V, H' D = some (.lst acc) ∧ H' q = some (.lst left) ∧ (acc ++ left).Perm xs ∧ acc.length = i ∧ StmAt H' p l (c + i) ∧ But2 H H' p l) ⟨[], xs, upd_same, by rw [upd_ne hDq]; exact upd_same, .refl _, rfl, ?_, ?_⟩ ?_ ?_
    · have e : c + ((0 : Nat) : Int) = c := by omega
      rw [e]
      exact (S.upd hpq hlq).upd hpD hlD
    · exact (But2.new hq).trans (But2.new hD)
    · rintro i H' hi ⟨acc, left, eD, eq, hperm, hacc, S', B⟩
      have hlf : acc.length + left.length = xs.length := by rw [← List.length_append]; exact hperm.length_eq
      refine ⟨rfl, yes_of ?_⟩
      refine ⟨_, rfl, .inl ⟨rfl, _, SqL.of eq⟩, _, rfl, _, rfl, q, left, rfl, .inl (SqL.of eq), p, l, c + i, (left.length : Int), rfl, S', by omega, by omega, by omega, by omega, fun r H2 r0 r1 S2 B2 => ?_⟩
      have eq2 : H2 q = some (.lst left) := B2 q _ eq (Ne.symm hpq) (Ne.symm hlq)
      have eD2 : H2 D = some (.lst acc) := B2 D _ eD (Ne.symm hpD) (Ne.symm hlD)
      obtain ⟨y, hy⟩ : ∃ y, left[r.toNat]? = some y := ⟨left[r.toNat]'(by omega), List.getElem?_eq_getElem _⟩
      refine ⟨q, left, r, r.toNat, y, rfl, rfl, eq2, by omega, by omega, seqNat r0 r1, hy, acc, ?_, small1000 (by omega), acc ++ [y], left.eraseIdx r.toNat, upd_same, ?_, ?_, ?_, ?_, ?_⟩
      · rw [upd_ne (Ne.symm hDq)]; exact eD2
      · rw [upd_ne hDq]; exact upd_same
      · rw [List.append_assoc]
        exact ((erase_perm left _ y hy).append_left acc).trans hperm
      · rw [List.length_append, hacc]; rfl
      · have e : c + ((i + 1 : Nat) : Int) = c + i + 1 := by omega
        rw [e]
        exact (S2.upd hpq hlq).upd hpD hlD
      · exact fun b o e h1 h2 => by
          rw [upd_ne (ne_of_none e hDn), upd_ne (ne_of_none e hq)]
          exact B2 b o (B b o e h1 h2) h1 h2
    · rintro H' ⟨acc, left, eD, eq, hperm, hacc, S', B⟩
      have hlf : acc.length + left.length = xs.length := by rw [← List.length_append]; exact hperm.length_eq
      have hl0 : left = [] := List.eq_nil_of_length_eq_zero (by omega)
      subst hl0
      rw [List.append_nil] at hperm
      have e : c + (((xs.length : Int).toNat : Nat) : Int) = c + xs.length := by omega
      rw [e] at S'
      exact k D acc H' hperm S' hDn eD B
theorem scS : FnScope ["_law_script"] ["_law_script"] (defScope sStart) := ⟨rfl, rfl, rfl, by decide +kernel, rfl, by decide +kernel, by decide +kernel⟩
def spStart (K : PySem.W.Frag) : Sp := fun vs H Q _ => ∃ (a : Addr) (ns : List Int), vs = [.ref a] ∧ SqL K H a (ns.map V.int) ∧ ∀ (p l : Addr) (H' : Hp), StmAt H' p l 0 → H p = none → H l = none → Same H H' → Q (.ref p) H'
theorem ok_start {f : Addr} {fd : FuncData} (F : Fun K "_law_start" "_law_start" sStart f fd) (T : TxtD mg) : FnOk P w K mg base CX0 1 f fd ["_law_script"] (spStart K) := by
  refine F.ok scS (fun vs H Q E h => ?_) (fun cdv A outer s H vs Q E hr h => ?_)
  · obtain ⟨a, ns, rfl, _⟩ := h
    rfl
  · obtain ⟨a, ns, rfl, hS, k⟩ := h
    refine ⟨_, pss_one (ps_ret (pe_lst (pa_cons (pe_callTy call_list_of (by rfl) T.list PyProof.Rows.boot_list (pa_cons (pv 0) pa_nil)) (pa_cons pe_int (pa_cons pe_int (pa_cons pe_int pa_nil)))))), ?_⟩
    refine ⟨_, rfl, a, _, rfl, .inl hS, fun l hl => ⟨by show 4 ≤ sizeLine; decide, fun p hp => ?_⟩⟩
    have hlp : l ≠ p := ne_of_none upd_same hp
    have hpn : H p = none := by rw [upd_ne (Ne.symm hlp)] at hp; exact hp
    refine k p l _ ⟨⟨ns, 0, 11, upd_same, by rw [upd_ne hlp]; exact upd_same, by decide, by decide, by decide⟩, Ne.symm hlp⟩ hpn hl fun b o e => ?_
    rw [upd_ne (ne_of_none e hpn), upd_ne (ne_of_none e hl)]
    exact e
end



/-! ### with a budget -/
def Stm (H : Hp) (p l : Addr) (n : Nat) : Prop := ∃ c : Int, StmAt H p l c ∧ 0 ≤ c ∧ c ≤ (n : Int)
theorem Stm.mono {H : Hp} {p l : Addr} {n m : Nat} (s : Stm H p l n) (h : n ≤ m) : Stm H p l m := by
  obtain ⟨c, S, c0, c1⟩ := s
  exact ⟨c, S, c0, by omega⟩
theorem Stm.at_ {H : Hp} {p l : Addr} {n : Nat} (s : Stm H p l n) : (∃ xs, H p = some (.lst xs)) ∧ ∃ xs, H l = some (.lst xs) := by
  obtain ⟨c, S, _⟩ := s
  exact S.at
theorem Stm.upd {H : Hp} {p l q : Addr} {n : Nat} {o : HO} (s : Stm H p l n) (h1 : p ≠ q) (h2 : l ≠ q) : Stm (upd H q o) p l n := by
  obtain ⟨c, S, c0, c1⟩ := s
  exact ⟨c, S.upd h1 h2, c0, c1⟩
theorem Stm.same {H H' : Hp} {p l : Addr} {n : Nat} (s : Stm H p l n) (S : Same H H') : Stm H' p l n := by
  obtain ⟨c, ⟨⟨ns, b, d, hp, hl, r⟩, hne⟩, c0, c1⟩ := s
  exact ⟨c, ⟨⟨ns, b, d, S _ _ hp, S _ _ hl, r⟩, hne⟩, c0, c1⟩
/-- all but the stream stays -/
theorem But2.same {H H' : Hp} {p l : Addr} (S : Same H H') : But2 H H' p l := fun b o e _ _ => S b o e
theorem But2.free {H H' : Hp} {p l : Addr} {n : Nat} (B : But2 H H' p l) (S : Stm H' p l n) {c : Addr} (h : H' c = none) : H c = none := by
  cases e : H c with
  | none => rfl
  | some o =>
    obtain ⟨⟨xs, h1⟩, ⟨ys, h2⟩⟩ := S.at_
    have n1 : c ≠ p := fun z => by rw [z, h1] at h; cases h
    have n2 : c ≠ l := fun z => by rw [z, h2] at h; cases h
    rw [B c o e n1 n2] at h
    cases h
/-- since H all but the stream stays, and what is new -/
structure Fr (H : Hp) (p l : Addr) (n : Nat) (H' : Hp) : Prop where
  hp : H p ≠ none
  hl : H l ≠ none
  st : Stm H' p l n
  but : But2 H H' p l
theorem Stm.fr {H : Hp} {p l : Addr} {n : Nat} (s : Stm H p l n) : Fr H p l n H := by
  obtain ⟨⟨xs, h1⟩, ys, h2⟩ := s.at_
  exact ⟨(by rw [h1]; intro z; cases z), (by rw [h2]; intro z; cases z), s, But2.rfl⟩
theorem Fr.of {H H' : Hp} {p l : Addr} {n m : Nat} (s : Stm H p l n) (s' : Stm H' p l m) (B : But2 H H' p l) : Fr H p l m H' := ⟨s.fr.hp, s.fr.hl, s', B⟩
section
variable {H H1 H2 : Hp} {p l q c : Addr} {n m : Nat} {o : HO}
theorem Fr.mono (F : Fr H p l n H1) (h : n ≤ m) : Fr H p l m H1 := ⟨F.hp, F.hl, F.st.mono h, F.but⟩
theorem Fr.ne (F : Fr H p l n H1) (h : H c = none) : c ≠ p ∧ c ≠ l := ⟨fun z => F.hp (z ▸ h), fun z => F.hl (z ▸ h)⟩
theorem Fr.put (F : Fr H p l n H1) (h : H q = none) : Fr H p l n (upd H1 q o) := ⟨F.hp, F.hl, F.st.upd (F.ne h).1.symm (F.ne h).2.symm, fun b u e h1 h2 => by
  rw [upd_ne (ne_of_none e h)]
  exact F.but b u e h1 h2⟩
theorem Fr.free (F : Fr H p l n H1) (h : H1 c = none) : H c = none := F.but.free F.st h
theorem Fr.trans (F : Fr H p l n H1) (G : Fr H1 p l m H2) : Fr H p l m H2 := ⟨F.hp, F.hl, G.st, F.but.trans G.but⟩
theorem Fr.same (F : Fr H p l n H1) (S : Same H1 H2) : Fr H p l n H2 := ⟨F.hp, F.hl, F.st.same S, F.but.trans (But2.same S)⟩
/-- what came since H stays -/
theorem Fr.keep (F : Fr H p l n H1) (G : Fr H1 p l m H2) (h : H c = none) (e : H1 c = some o) : H2 c = some o := G.but c o e (F.ne h).1 (F.ne h).2
end
def spDr : Sp := fun vs H Q _ => ∃ (p l : Addr) (n m : Nat), vs = [.ref p, .int (m : Int)] ∧ Stm H p l n ∧ n < 100000000 ∧ 0 < m ∧ m < 1000000 ∧ ∀ (r : Nat) (H' : Hp), r < m → Fr H p l (n + 1) H' → Q (.int (r : Int)) H'
def spMx (K : PySem.W.Frag) : Sp := fun vs H Q _ => ∃ (p l a : Addr) (n : Nat) (xs : List V), vs = [.ref p, .ref a] ∧ Stm H p l n ∧ n < 90000000 ∧ SqL K H a xs ∧ xs.length < 1000 ∧
  ∀ (q : Addr) (ys : List V) (H' : Hp), ys.Perm xs → Fr H p l (n + xs.length) H' → H q = none → H' q = some (.lst ys) → Q (.ref q) H'
theorem spDr_of {vs : List V} {H : Hp} {Q : VK} {E : XK} (h : spDr vs H Q E) : spDraw vs H Q E := by
  obtain ⟨p, l, n, m, rfl, S0, hn, m0, m1, k⟩ := h
  obtain ⟨c, S, c0, c1⟩ := id S0
  refine ⟨p, l, c, m, rfl, S, c0, by omega, by omega, by omega, fun r H' r0 r1 S' B => ?_⟩
  obtain ⟨k0, rfl⟩ := Int.eq_ofNat_of_zero_le r0
  exact k k0 H' (by omega) (.of S0 ⟨c + 1, S', by omega, by omega⟩ B)
theorem spMx_of {K : PySem.W.Frag} {vs : List V} {H : Hp} {Q : VK} {E : XK} (h : spMx K vs H Q E) : spMixed K vs H Q E := by
  obtain ⟨p, l, a, n, xs, rfl, S0, hn, hq, hx, k⟩ := h
  obtain ⟨c, S, c0, c1⟩ := id S0
  exact ⟨p, l, a, c, xs, rfl, S, c0, by omega, hq, hx, fun q ys H' hp S' nq hq' B => k q ys H' hp (.of S0 ⟨_, S', by omega, by omega⟩ B) nq hq'⟩
def spSt (K : PySem.W.Frag) : Sp := fun vs H Q _ => ∃ (a : Addr) (ns : List Int), vs = [.ref a] ∧ SqL K H a (ns.map V.int) ∧ ∀ (p l : Addr) (H' : Hp), Stm H' p l 0 → H p = none → H l = none → Same H H' → Q (.ref p) H'
theorem spSt_of {K : PySem.W.Frag} {vs : List V} {H : Hp} {Q : VK} {E : XK} (h : spSt K vs H Q E) : spStart K vs H Q E := by
  obtain ⟨a, ns, rfl, hq, k⟩ := h
  exact ⟨a, ns, rfl, hq, fun p l H' S n1 n2 S' => k p l H' ⟨0, S, Int.le_refl _, Int.le_refl _⟩ n1 n2 S'⟩
/-- where the law's defs for the stream stand -/
structure DrawD (K : PySem.W.Frag) (mg : Str → Option Value) where
  t : TxtD mg
  fS : Addr
  dS : FuncData
  FS : FnS K 52 fS dS
  gS : mg "_law_start" = some (.ref fS)
  fD : Addr
  dD : FuncData
  FD : FnS K 53 fD dD
  gD : mg "_law_draw" = some (.ref fD)
  fM : Addr
  dM : FuncData
  FM : FnS K 55 fM dM
  gM : mg "_law_mixed" = some (.ref fM)
section
variable {P : Program} {w : World} {K : PySem.W.Frag} {mg : Str → Option Value} {base : Heap}
theorem bDr (D : DrawD K mg) : Binds K D.dD ["_law_stream", "_law_many"] [] := D.FD.binds fun _ _ _ _ _ _ us hl => match us, hl with | [_, _], _ => rfl
theorem bMx (D : DrawD K mg) : Binds K D.dM ["_law_stream", "_law_some"] [] := D.FM.binds fun _ _ _ _ _ _ us hl => match us, hl with | [_, _], _ => rfl
theorem bSt (D : DrawD K mg) : Binds K D.dS ["_law_script"] [] := D.FS.binds fun _ _ _ _ _ _ us hl => match us, hl with | [_], _ => rfl
theorem ok_dr (D : DrawD K mg) : FnOk P w K mg base CX0 1 D.fD D.dD ["_law_stream", "_law_many"] spDr := (ok_draw D.FD D.t).imp fun _ _ _ _ h => spDr_of h
theorem ok_mx (D : DrawD K mg) : FnOk P w K mg base CX0 2 D.fM D.dM ["_law_stream", "_law_some"] (spMx K) := (ok_mixed D.FM ⟨D.t, D.gD, D.FD.kp⟩ D.FD (bDr D)).imp fun _ _ _ _ h => spMx_of h
theorem ok_st (D : DrawD K mg) : FnOk P w K mg base CX0 1 D.fS D.dS ["_law_script"] (spSt K) := (ok_start D.FS D.t).imp fun _ _ _ _ h => spSt_of h
end
end E1

set_option Elab.async false
set_option linter.all false
set_option maxRecDepth 100000
set_option maxHeartbeats 4000000
/-! min and max of two texts. -/
namespace G0
open PySem PySem.Spec PyProof.Rows L2
section
variable {prog : Program} {w : World} {A : Around} {E : Value → Shared → Prop} {s : Shared}
theorem rc_lt_str {x y : Str} {t u : Tok} {Q : Value → Shared → Prop} (h : Q (.bool (ltS x y)) s) : wpAny (model prog w) A (richCompare .Lt (.str x t) (.str y u)) Q E s := lt_str h
theorem rc_gt_str {x y : Str} {t u : Tok} {Q : Value → Shared → Prop} (h : Q (.bool (ltS y x)) s) : wpAny (model prog w) A (richCompare .Gt (.str x t) (.str y u)) Q E s := PySem.P.gt_str h
def strAt (x y : Str) (i : Nat) : Str := if i = 0 then x else y
theorem two_at {x y : Str} {t u : Tok} {i : Nat} {v : Value} (h : (#[Value.str x t, Value.str y u] : Array Value)[i]? = some v) : ∃ k, v = .str (strAt x y i) k := by
  match i, h with
  | 0, h => exact ⟨t, by simpa [strAt] using h.symm⟩
  | 1, h => exact ⟨u, by simpa [strAt] using h.symm⟩
  | n + 2, h => simp at h
theorem max_two_strs {x y : Str} {t u : Tok} {Q : Value → Shared → Prop} (hh : A.handled = none)
    (h : ∀ h' tk, (∀ c o, s.heap.get? c = some o → h'.get? c = some o) → Q (if ltS x y = true then .str y u else .str x t) { s with heap := h', toks := tk }) :
    wpAny (model prog w) A (call (.builtin "max") [.str x t, .str y u]) Q E s := by
  have hT : (s.heap.push { cls := .type "tuple", data := .seq #[.str x t, .str y u] }).IsTuple s.heap.objs.size #[.str x t, .str y u] := ⟨_, Heap.get?_push_size _ rfl, rfl, 0, by simp⟩
  refine call_max_two (wpAny_pyIter_tuple hT ?_)
  have hsz : (s.heap.push { cls := .type "tuple", data := .seq #[.str x t, .str y u] }).objs.size = s.heap.objs.size + 1 := Heap.size_push ..
  refine ⟨_, [_, s.heap.objs.size], [_], _, _, _, (fun i j => ltS (strAt x y j) (strAt x y i)), rfl, Walks.tuple (A := A.in1) hh _ s.heap.objs.size (by rw [hsz]; exact Nat.ne_of_lt (Nat.lt_succ_self _)) #[.str x t, .str y u],
    ⟨⟨_, Heap.get?_push_size _ rfl, rfl, rfl⟩, hT.push _⟩, fun c hc => ?_, by simp, (fun i j vi vj s Q E hi hj hQ => ?_), fun v h' tk hP hk => ?_⟩
  · show c < ((s.heap.push _).push _).objs.size
    rw [Heap.size_push, hsz]
    rcases List.mem_cons.mp hc with rfl | hc
    · rw [hsz]; exact Nat.lt_succ_self _
    · rcases List.mem_cons.mp hc with rfl | hc
      · exact Nat.lt_succ_of_lt (Nat.lt_succ_self _)
      · cases hc
  · obtain ⟨k1, rfl⟩ := two_at hi
    obtain ⟨k2, rfl⟩ := two_at hj
    exact rc_gt_str hQ
  · have hold : ∀ c o, s.heap.get? c = some o → h'.get? c = some o := fun c o e => by
      refine hk c o (fun hm => ?_) (Heap.get?_push_of_some _ (Heap.get?_push_of_some _ e))
      rcases List.mem_cons.mp hm with e1 | hm
      · have := Heap.lt_size e; rw [e1, hsz] at this; exact Nat.lt_irrefl _ (Nat.lt_of_succ_lt this)
      · cases hm
    have := h h' tk hold
    have hv : v = if ltS x y = true then Value.str y u else Value.str x t := by
      have hP' : (#[Value.str x t, Value.str y u] : Array Value)[argBest (fun i j => ltS (strAt x y j) (strAt x y i)) 1]? = some v := hP
      by_cases hba : ltS x y = true
      · have e : argBest (fun i j => ltS (strAt x y j) (strAt x y i)) 1 = 1 := by simp [argBest, strAt, hba]
        rw [e] at hP'
        simpa [hba] using hP'.symm
      · have e : argBest (fun i j => ltS (strAt x y j) (strAt x y i)) 1 = 0 := by simp [argBest, strAt, hba]
        rw [e] at hP'
        simpa [hba] using hP'.symm
    rw [hv]; exact this
theorem min_two_strs {x y : Str} {t u : Tok} {Q : Value → Shared → Prop} (hh : A.handled = none)
    (h : ∀ h' tk, (∀ c o, s.heap.get? c = some o → h'.get? c = some o) → Q (if ltS y x = true then .str y u else .str x t) { s with heap := h', toks := tk }) :
    wpAny (model prog w) A (call (.builtin "min") [.str x t, .str y u]) Q E s := by
  have hT : (s.heap.push { cls := .type "tuple", data := .seq #[.str x t, .str y u] }).IsTuple s.heap.objs.size #[.str x t, .str y u] := ⟨_, Heap.get?_push_size _ rfl, rfl, 0, by simp⟩
  refine call_min_two (wpAny_pyIter_tuple hT ?_)
  have hsz : (s.heap.push { cls := .type "tuple", data := .seq #[.str x t, .str y u] }).objs.size = s.heap.objs.size + 1 := Heap.size_push ..
  refine ⟨_, [_, s.heap.objs.size], [_], _, _, _, (fun i j => ltS (strAt x y i) (strAt x y j)), rfl, Walks.tuple (A := A.in1) hh _ s.heap.objs.size (by rw [hsz]; exact Nat.ne_of_lt (Nat.lt_succ_self _)) #[.str x t, .str y u],
    ⟨⟨_, Heap.get?_push_size _ rfl, rfl, rfl⟩, hT.push _⟩, fun c hc => ?_, by simp, (fun i j vi vj s Q E hi hj hQ => ?_), fun v h' tk hP hk => ?_⟩
  · show c < ((s.heap.push _).push _).objs.size
    rw [Heap.size_push, hsz]
    rcases List.mem_cons.mp hc with rfl | hc
    · rw [hsz]; exact Nat.lt_succ_self _
    · rcases List.mem_cons.mp hc with rfl | hc
      · exact Nat.lt_succ_of_lt (Nat.lt_succ_self _)
      · cases hc
  · obtain ⟨k1, rfl⟩ := two_at hi
    obtain ⟨k2, rfl⟩ := two_at hj
    exact rc_lt_str hQ
  · have hold : ∀ c o, s.heap.get? c = some o → h'.get? c = some o := fun c o e => by
      refine hk c o (fun hm => ?_) (Heap.get?_push_of_some _ (Heap.get?_push_of_some _ e))
      rcases List.mem_cons.mp hm with e1 | hm
      · have := Heap.lt_size e; rw [e1, hsz] at this; exact Nat.lt_irrefl _ (Nat.lt_of_succ_lt this)
      · cases hm
    have := h h' tk hold
    have hv : v = if ltS y x = true then Value.str y u else Value.str x t := by
      have hP' : (#[Value.str x t, Value.str y u] : Array Value)[argBest (fun i j => ltS (strAt x y i) (strAt x y j)) 1]? = some v := hP
      by_cases hba : ltS y x = true
      · have e : argBest (fun i j => ltS (strAt x y i) (strAt x y j)) 1 = 1 := by simp [argBest, strAt, hba]
        rw [e] at hP'
        simpa [hba] using hP'.symm
      · have e : argBest (fun i j => ltS (strAt x y i) (strAt x y j)) 1 = 0 := by simp [argBest, strAt, hba]
        rw [e] at hP'
        simpa [hba] using hP'.symm
    rw [hv]; exact this
end
section
variable {X : Cx}
theorem cr_minT (hc : X.calm = true) : CallR X (.builtin "min") (fun xs H Q => ∃ i j, xs = [.str i, .str j] ∧ Q (.str (if ltS j i = true then j else i)) H) := by
  intro pins s σ H xs us Q I r h
  obtain ⟨i, j, rfl, q⟩ := h
  obtain ⟨u, w', rfl, ⟨t, rfl⟩, ⟨t', rfl⟩⟩ := vals2 r
  refine min_two_strs (I.ok.hd hc) fun h' tk k => ⟨_, H, I.kept k, ?_, q⟩
  by_cases hj : ltS j i = true
  · rw [if_pos hj, if_pos hj]; exact ⟨_, rfl⟩
  · rw [if_neg hj, if_neg hj]; exact ⟨_, rfl⟩
theorem cr_maxT (hc : X.calm = true) : CallR X (.builtin "max") (fun xs H Q => ∃ i j, xs = [.str i, .str j] ∧ Q (.str (if ltS i j = true then j else i)) H) := by
  intro pins s σ H xs us Q I r h
  obtain ⟨i, j, rfl, q⟩ := h
  obtain ⟨u, w', rfl, ⟨t, rfl⟩, ⟨t', rfl⟩⟩ := vals2 r
  refine max_two_strs (I.ok.hd hc) fun h' tk k => ⟨_, H, I.kept k, ?_, q⟩
  by_cases hj : ltS i j = true
  · rw [if_pos hj, if_pos hj]; exact ⟨_, rfl⟩
  · rw [if_neg hj, if_neg hj]; exact ⟨_, rfl⟩
/-- what never runs -/
theorem pe_dead {e : Expr} : PE X e (fun _ _ _ => False) := ⟨fun _ _ _ _ _ _ h => h.elim⟩
end
end G0

set_option Elab.async false
set_option linter.all false
set_option maxRecDepth 100000
set_option maxHeartbeats 4000000
/-! The law's own defs: where they stand; picking, names, ties. -/
namespace E1
open PySem PySem.Spec PyProof.Rows L2 G0
def lawIx : List Nat := [27, 28, 29, 31, 33, 34, 35, 36, 37, 38, 39, 40, 41, 42, 43, 44, 45, 46, 47, 48, 49, 50, 51, 54, 56, 57, 58, 59, 60, 61, 62, 63, 64, 65]
def freeN : List Str := ["dict", "min", "max", "zip", "range", "int", "bool", "set"]
structure LawD (K : PySem.W.Frag) (mg : Str → Option Value) where
  n : NamesD K mg
  t : TxtN K mg
  B : BoardD K mg
  s : DrawD K mg
  f : Nat → Addr
  d : Nat → FuncData
  F : ∀ i ∈ lawIx, FnS K i (f i) (d i)
  g : ∀ i ∈ lawIx, mg (tName i) = some (.ref (f i))
  free : ∀ x ∈ freeN, mg x = none
/-- fewer than 1000 -/
theorem But2.upd {H H' : Hp} {p l q : Addr} {o : HO} (B : But2 H H' p l) (h : H q = none) : But2 H (upd H' q o) p l := fun x u e h1 h2 => by
  rw [upd_ne (ne_of_none e h)]
  exact B x u e h1 h2
section
variable {P : Program} {w : World} {K : PySem.W.Frag} {mg : Str → Option Value} {base : Heap}
/-! ### _law_pick -/
abbrev N_pick : List Str := ["_law_stream", "_law_some"]
theorem sc_pick : FnScope N_pick ["_law_stream", "_law_some"] (defScope (topS 54)) := ⟨rfl, rfl, rfl, by decide +kernel, rfl, by decide +kernel, by decide +kernel⟩
def spPick (K : PySem.W.Frag) : Sp := fun vs H Q _ => ∃ (p l a : Addr) (n : Nat) (xs : List V), vs = [.ref p, .ref a] ∧ Stm H p l n ∧ n < 90000000 ∧ H a = some (.lst xs) ∧ a ≠ p ∧ a ≠ l ∧ 0 < xs.length ∧ xs.length < 100000 ∧
  ∀ (i : Nat) (y : V) (H' : Hp), xs[i]? = some y → Fr H p l (n + 1) H' → Q y H'
theorem ok_pick (Z : LawD K mg) : FnOk P w K mg base CX0 2 (Z.f 54) (Z.d 54) ["_law_stream", "_law_some"] (spPick K) := by
  have GD : FnOk P w K mg base CX0 1 Z.s.fD Z.s.dD ["_law_stream", "_law_many"] spDr := ok_dr Z.s
  refine Fun.ok (Z.F 54 (by decide)) sc_pick (fun vs H Q E h => ?_) (fun cdv A outer s H vs Q E hr h => ⟨_, pss_one (ps_ret (pe_ix ix_list (pv 1) (pe_call GD hr (by rfl) Z.s.gD Z.s.FD.kp (bDr Z.s) .nil pass0 (pa_cons (pv 0) (pa_cons (pe_callB call_len_seq (by rfl) Z.t.len PySem.boot_len (pa_cons (pv 1) pa_nil)) pa_nil))) (fun _ _ => rfl))), ?_⟩)
  · obtain ⟨p, l, a, n, xs, rfl, _⟩ := h
    rfl
  · obtain ⟨p, l, a, n, xs, rfl, S, hn, ha, n1, n2, h0, hl, k⟩ := h
    refine ⟨_, rfl, _, rfl, _, rfl, a, xs, rfl, .inl (SqL.of ha), p, l, n, xs.length, rfl, S, by omega, h0, by omega, fun r H' hr' F => ?_⟩
    have hy : xs[r]? = some xs[r] := List.getElem?_eq_getElem hr'
    exact ⟨a, xs, r, xs[r], rfl, rfl, SqL.of (F.but _ _ ha n1 n2), atI_nat hy, k r _ H' hy F⟩
theorem bPick (Z : LawD K mg) : Binds K (Z.d 54) ["_law_stream", "_law_some"] [] := (Z.F 54 (by decide)).binds fun _ _ _ _ _ _ us hl => match us, hl with | [_, _], _ => rfl
/-! ### _law_a_tie -/
abbrev N_a_tie : List Str := ["_law_one", "_law_other"]
theorem sc_a_tie : FnScope N_a_tie N_a_tie (defScope (topS 34)) := ⟨rfl, rfl, rfl, by decide +kernel, rfl, by decide +kernel, by decide +kernel⟩
def spTie : Sp := fun vs H Q _ => ∃ (x y : Str), vs = [.str x, .str y] ∧ ∀ t, H t = none → Q (.ref t) (upd H t (.tup [.str (tp x y).1, .str (tp x y).2]))
theorem boot_min : bootBuiltins "min" = some (.builtin "min") := by decide +kernel
theorem boot_max : bootBuiltins "max" = some (.builtin "max") := by decide +kernel
theorem tp_max (x y : Str) : (if ltS x y = true then y else x) = (tp x y).2 := by
  unfold tp
  cases h1 : ltS y x with
  | true =>
    rw [ltS_asym h1]
    rfl
  | false =>
    cases h2 : ltS x y with
    | true => rfl
    | false => exact ltS_eq h2 h1
theorem tp_min (x y : Str) : (if ltS y x = true then y else x) = (tp x y).1 := by
  unfold tp
  cases h1 : ltS y x with
  | true => rfl
  | false => rfl
theorem ok_a_tie (Z : LawD K mg) : FnOk P w K mg base CX0 1 (Z.f 34) (Z.d 34) N_a_tie spTie := by
  refine Fun.ok (Z.F 34 (by decide)) sc_a_tie (fun vs H Q E h => ?_) (fun cdv A outer s H vs Q E hr h => ⟨_, pss_one (ps_ret (pe_tup (pa_cons (pe_callB (cr_minT rfl) (by rfl) (Z.free "min" (by decide)) boot_min (pa_cons (pv 0) (pa_cons (pv 1) pa_nil))) (pa_cons (pe_callB (cr_maxT rfl) (by rfl) (Z.free "max" (by decide)) boot_max (pa_cons (pv 0) (pa_cons (pv 1) pa_nil))) pa_nil)))), ?_⟩)
  · obtain ⟨x, y, rfl, _⟩ := h
    rfl
  · obtain ⟨x, y, rfl, k⟩ := h
    refine ⟨_, rfl, _, rfl, x, y, rfl, _, rfl, _, rfl, x, y, rfl, by show 2 ≤ sizeLine; decide, fun t nt => ?_⟩
    rw [tp_max, tp_min]
    exact k t nt
theorem bTie (Z : LawD K mg) : Binds K (Z.d 34) N_a_tie [] := (Z.F 34 (by decide)).binds fun _ _ _ _ _ _ us hl => match us, hl with | [_, _], _ => rfl
/-! ### _law_a_names -/
abbrev N_a_names : List Str := ["_law_stream", "_law_many", "_law_some", "_law_found", "_law_number"]
theorem sc_a_names : FnScope N_a_names ["_law_stream", "_law_many"] (defScope (topS 33)) := ⟨rfl, rfl, rfl, by decide +kernel, rfl, by decide +kernel, by decide +kernel⟩
def someN : List Str := ["a", "b", "c", "d", "x", "y", "u", "v", "an", "ann", "p1", "p", "q9", "places", "tied", "eightsgn", "w0"]
def nK (k : Nat) : Str := ("n" : Str) ++ (toString (k : Int) : String)
def nKs : List Str := (List.range 40).map nK
def baseN : List Str := someN ++ nKs
theorem baseN_ok : baseN.all nameB = true := by decide +kernel
theorem baseN_nd : baseN.Nodup := by decide +kernel
theorem nK_len : (List.range 40).all (fun k => decide (((k : Int).natAbs.log2 < 1920) ∧ (("n" : Str).length + (Str.ofString (toString (k : Int))).length ≤ sizeLine))) = true := by decide +kernel
def spNames : Sp := fun vs H Q _ => ∃ (p l : Addr) (n m : Nat), vs = [.ref p, .int (m : Int)] ∧ Stm H p l n ∧ n < 80000000 ∧ m ≤ 40 ∧
  ∀ (q : Addr) (ns : List Str) (H' : Hp), Fr H p l (n + 17) H' → H q = none → H' q = some (.lst (ns.map V.str)) → ns.length = m → ns.Nodup → (∀ z ∈ ns, z ∈ baseN) → Q (.ref q) H'
theorem bNames (Z : LawD K mg) : Binds K (Z.d 33) ["_law_stream", "_law_many"] [] := (Z.F 33 (by decide)).binds fun _ _ _ _ _ _ us hl => match us, hl with | [_, _], _ => rfl
theorem strs_perm {ys : List V} {ss : List Str} (h : ys.Perm (ss.map V.str)) : ∃ ts : List Str, ys = ts.map V.str ∧ ts.Perm ss := by
  have hm : ∀ y ∈ ys, ∃ z, y = V.str z := fun y hy => by
    obtain ⟨z, _, rfl⟩ := List.mem_map.mp (h.mem_iff.mp hy)
    exact ⟨z, rfl⟩
  let g : V → Str := fun v => match v with
    | .str z => z
    | _ => default
  have e : ys = (ys.map g).map V.str := by
    rw [List.map_map]
    refine (List.map_id ys).symm.trans (List.map_congr_left fun y hy => ?_)
    obtain ⟨z, rfl⟩ := hm y hy
    rfl
  refine ⟨ys.map g, e, ?_⟩
  have h2 := h.map g
  rw [List.map_map] at h2
  have e2 : (ss.map (g ∘ V.str)) = ss := (List.map_congr_left fun y _ => rfl).trans (List.map_id ss)
  rw [e2] at h2
  exact h2
theorem cut_to {xs : List V} (m : Nat) : cutV xs none (some (m : Int)) = xs.take m := by
  unfold cutV
  rw [HT.sIx_none, HT.sIx_nat, List.drop_zero, Nat.sub_zero]
  rcases Nat.le_total m xs.length with h | h
  · rw [Nat.min_eq_left h]
  · rw [Nat.min_eq_right h, List.take_of_length_le (Nat.le_refl _), List.take_of_length_le h]
theorem ok_a_names (Z : LawD K mg) : FnOk P w K mg base CX0 3 (Z.f 33) (Z.d 33) ["_law_stream", "_law_many"] spNames := by
  have GM : FnOk P w K mg base CX0 2 Z.s.fM Z.s.dM ["_law_stream", "_law_some"] (spMx K) := ok_mx Z.s
  refine Fun.ok (Z.F 33 (by decide)) sc_a_names (fun vs H Q E h => ?_) (fun cdv A outer s H vs Q E hr h => ⟨_, pss_cons (ps_set (i := 2) sc_a_names.nd rfl (Or.inl rfl) (pe_lst (pa_cons pe_str (pa_cons pe_str (pa_cons pe_str (pa_cons pe_str (pa_cons pe_str (pa_cons pe_str (pa_cons pe_str (pa_cons pe_str (pa_cons pe_str (pa_cons pe_str (pa_cons pe_str (pa_cons pe_str (pa_cons pe_str (pa_cons pe_str (pa_cons pe_str (pa_cons pe_str (pa_cons pe_str pa_nil)))))))))))))))))))
  (pss_cons (ps_set (i := 3) sc_a_names.nd rfl (Or.inl rfl) (pe_slice sl_list (pe_call GM hr (by rfl) Z.s.gM Z.s.FM.kp (bMx Z.s) .nil pass0 (pa_cons (pv 0) (pa_cons (pv 2) pa_nil))) po_none (po_some (pv 1))))
  (pss_one (ps_ret (pe_op op_cat (pv 3) (pe_lc (te := tOp (fun x y H Q => ∃ i j, x = .str i ∧ y = .str j ∧ i.length + j.length ≤ sizeLine ∧ Q (.str (i ++ j)) H) (tC (.str "n")) (tCB (fun xs H Q => ∃ i, xs = [.int i] ∧ i.natAbs.log2 < 1920 ∧ Q (.str (toString i)) H) (tCons (tVar 4) tNil))) (own := [("_law_number", 4)]) (tt := tYes) rfl sc_a_names.nd (pi_range1 (by rfl) (Z.free "range" (by decide)) (pa_cons (pe_op op_sub (pv 1) (pe_callB call_len_seq (by rfl) Z.t.len PySem.boot_len (pa_cons (pv 3) pa_nil))) pa_nil)) (blkOk_by (own := [("_law_number", 4)]) (N := N_a_names) (sc := defScope (topS 33)) (by decide +kernel)) (fun _ _ _ _ _ => (pg_name (i := 4) sc_a_names.nd rfl (Or.inl rfl))) (fun _ _ _ _ _ => pts_nil) (fun _ _ _ _ _ => (pe_op op_add_str pe_str (pe_callTy call_str_int (by rfl) Z.t.str boot_str (pa_cons (pv 4) pa_nil)))))))))
  , ?_⟩)
  · obtain ⟨p, l, n, m, rfl, _⟩ := h
    rfl
  · obtain ⟨p, l, n, m, rfl, S, hn, hm, k⟩ := h
    refine ⟨by show 17 ≤ sizeLine; decide, fun a na => ?_⟩
    have F0 : Fr H p l n (upd H a (.lst (someN.map V.str))) := S.fr.put na
    refine ⟨_, rfl, _, rfl, p, l, a, n, someN.map V.str, rfl, F0.st, by omega, SqL.of upd_same, by show 17 < 1000; decide, fun q ys H1 hperm F1 nq hq => ?_⟩
    obtain ⟨ts, rfl, tperm⟩ := strs_perm hperm
    have tl : ts.length = 17 := tperm.length_eq
    have F2 := F0.trans F1
    refine ⟨_, rfl, (m : Int), rfl, q, _, rfl, SqL.of hq, fun q2 n2 => ?_⟩
    rw [cut_to, ← List.map_take]
    have hq2l : (ts.take m).length = min m 17 := by rw [List.length_take, tl]
    have n2H := F2.free n2
    refine ⟨_, rfl, _, rfl, _, rfl, q2, _, rfl, .inl (SqL.of upd_same), _, _, rfl, rfl, _, rfl, ?_, ?_, fun D hD => ?_⟩
    · rw [List.length_map, hq2l]; omega
    · rw [List.length_map, hq2l]; omega
    have F3 : Fr H p l (n + 17) (upd H1 q2 (.lst ((ts.take m).map V.str))) := F2.put n2H
    have hDq : q2 ≠ D := ne_of_none upd_same hD
    have nD := F3.free hD
    have eN : ((m : Int) - (((ts.take m).map V.str).length : Nat) : Int).toNat = m - 17 := by rw [List.length_map, hq2l]; omega
    rw [eN]
    refine lc_range (n := m - 17) (fun i H' => H' D = some (.lst (((List.range i).map nK).map V.str)) ∧ H' q2 = some (.lst ((ts.take m).map V.str)) ∧ Fr H p l (n + 17) H') ⟨upd_same, by rw [upd_ne hDq]; exact upd_same, F3.put nD⟩ ?_ ?_
    · rintro i H' hi ⟨hD', hq', F'⟩
      have hk := List.all_eq_true.mp nK_len i (List.mem_range.mpr (by omega))
      obtain ⟨k1, k2⟩ := of_decide_eq_true hk
      have ei : (0 : Int) + (i : Int) = (i : Int) := Int.zero_add _
      rw [ei]
      refine ⟨rfl, yes_of ⟨_, rfl, i, rfl, k1, _, _, rfl, rfl, k2, _, hD', ?_, ?_, ?_, F'.put nD⟩⟩
      · rw [List.length_map, List.length_map, List.length_range]
        exact small1000 (by omega)
      · rw [upd_same, List.range_succ, List.map_append, List.map_append]
        rfl
      · rw [upd_ne hDq]
        exact hq'
    · rintro H' ⟨hD', hq', F'⟩
      refine ⟨q2, D, _, _, rfl, rfl, hq', hD', ?_, fun r nr => ?_⟩
      · rw [List.length_map, List.length_map, List.length_map, List.length_range, hq2l]
        exact Nat.le_of_lt (small1000 (by omega))
      · have nrH := F'.free nr
        rw [← List.map_append]
        have sub : ∀ z ∈ (List.range (m - 17)).map nK, z ∈ nKs := fun z hz => by
          obtain ⟨j, hj, rfl⟩ := List.mem_map.mp hz
          exact List.mem_map.mpr ⟨j, List.mem_range.mpr (by have := List.mem_range.mp hj; omega), rfl⟩
        have subT : ∀ z ∈ ts.take m, z ∈ someN := fun z hz => tperm.mem_iff.mp (List.mem_of_mem_take hz)
        have nd := List.nodup_append.mp baseN_nd
        refine k r _ _ (F'.put nrH) nrH upd_same ?_ ?_ ?_
        · rw [List.length_append, List.length_map, List.length_range, hq2l]
          omega
        · refine List.nodup_append.mpr ⟨?_, ?_, fun x hx y hy e => nd.2.2 x (subT x hx) y (sub y hy) e⟩
          · exact (tperm.nodup_iff.mpr nd.1).sublist (List.take_sublist _ _)
          · have e : (List.range (m - 17)).map nK = nKs.take (m - 17) := by
              unfold nKs
              rw [← List.map_take, List.take_range, Nat.min_eq_left (by omega)]
            rw [e]
            exact nd.2.1.sublist (List.take_sublist _ _)
        · intro z hz
          rcases List.mem_append.mp hz with hz | hz
          · exact List.mem_append_left _ (subT z hz)
          · exact List.mem_append_right _ (sub z hz)
end
end E1

set_option Elab.async false
set_option linter.all false
set_option maxRecDepth 100000
set_option maxHeartbeats 4000000
/-! Raw boards: any ties. -/
namespace E1
open PySem PySem.Spec PyProof.Rows L2 G0
theorem tp_cases (a b : Str) : tp a b = (a, b) ∨ tp a b = (b, a) := by
  unfold tp
  split
  · exact .inr rfl
  · exact .inl rfl
theorem tp_eq {a b c d : Str} (h : tp a b = tp c d) : (a = c ∧ b = d) ∨ (a = d ∧ b = c) := by
  rcases tp_cases a b with e | e <;> rcases tp_cases c d with f | f <;> rw [e, f] at h <;> injection h with h1 h2
  · exact .inl ⟨h1, h2⟩
  · exact .inr ⟨h1, h2⟩
  · exact .inr ⟨h2, h1⟩
  · exact .inl ⟨h2, h1⟩
theorem tp_inj {a b c : Str} (h : tp a b = tp a c) : b = c := by
  rcases tp_eq h with ⟨_, h⟩ | ⟨h1, h2⟩
  · exact h
  · rw [h2, h1]
theorem tp_lt {a b : Str} (h : a ≠ b) : ltS (tp a b).1 (tp a b).2 = true := by
  unfold tp
  cases e : ltS b a with
  | true => exact e
  | false =>
    cases e2 : ltS a b with
    | true => exact e2
    | false => exact absurd (ltS_eq e2 e) h
theorem tp_mem {a b : Str} {pl : List Str} (h1 : a ∈ pl) (h2 : b ∈ pl) : (tp a b).1 ∈ pl ∧ (tp a b).2 ∈ pl := by
  rcases tp_cases a b with e | e <;> rw [e]
  · exact ⟨h1, h2⟩
  · exact ⟨h2, h1⟩
theorem tp_self {p : Pr} (h : ltS p.1 p.2 = true) : tp p.1 p.2 = p := by
  unfold tp
  rw [ltS_asym h]
  rfl
theorem tp_swap (a b : Str) : tp a b = tp b a := by
  unfold tp
  cases h1 : ltS b a with
  | true =>
    rw [ltS_asym h1]
    rfl
  | false =>
    cases h2 : ltS a b with
    | true => rfl
    | false =>
      have := ltS_eq h2 h1
      rw [this]
theorem nodup_map {α β : Type} {f : α → β} {xs : List α} (hf : ∀ x y, x ∈ xs → y ∈ xs → f x = f y → x = y) (h : xs.Nodup) : (xs.map f).Nodup := by
  induction xs with
  | nil => exact List.nodup_nil
  | cons x xs ih =>
    have hc := List.nodup_cons.mp h
    refine List.nodup_cons.mpr ⟨fun hm => ?_, ih (fun a b ha hb => hf a b (List.mem_cons_of_mem _ ha) (List.mem_cons_of_mem _ hb)) hc.2⟩
    obtain ⟨y, hy, e⟩ := List.mem_map.mp hm
    exact hc.1 (hf y x (List.mem_cons_of_mem _ hy) List.mem_cons_self e ▸ hy)
/-- pairs of unlike ones, put as they are told, each once -/
structure TsOk (pl : List Str) (ts : List Pr) : Prop where
  nd : ts.Nodup
  ok : ∀ p ∈ ts, p.1 ∈ pl ∧ p.2 ∈ pl ∧ ltS p.1 p.2 = true
theorem TsOk.nil {pl : List Str} : TsOk pl [] := ⟨List.nodup_nil, by simp⟩
theorem TsOk.mono {pl pl' : List Str} {ts : List Pr} (t : TsOk pl ts) (h : ∀ z ∈ pl, z ∈ pl') : TsOk pl' ts := ⟨t.nd, fun p hp => ⟨h _ (t.ok p hp).1, h _ (t.ok p hp).2.1, (t.ok p hp).2.2⟩⟩
theorem TsOk.perm {pl : List Str} {ts us : List Pr} (t : TsOk pl ts) (h : us.Perm ts) : TsOk pl us := ⟨h.nodup_iff.mpr t.nd, fun p hp => t.ok p (h.mem_iff.mp hp)⟩
/-- ties from a new end to unlike others -/
theorem TsOk.fan {pl : List Str} {ts : List Pr} (t : TsOk pl ts) {a : Str} {es : List Str} (ha : a ∈ pl) (he : ∀ e ∈ es, e ∈ pl ∧ e ≠ a) (hn : es.Nodup) (hf : ∀ e ∈ es, tp a e ∉ ts) : TsOk pl (ts ++ es.map (tp a)) := by
  refine ⟨List.nodup_append.mpr ⟨t.nd, ?_, ?_⟩, fun p hp => ?_⟩
  · exact nodup_map (fun x y _ _ h => tp_inj h) hn
  · intro x hx y hy e
    obtain ⟨z, hz, rfl⟩ := List.mem_map.mp hy
    exact hf z hz (e ▸ hx)
  · rcases List.mem_append.mp hp with hp | hp
    · exact t.ok p hp
    · obtain ⟨z, hz, rfl⟩ := List.mem_map.mp hp
      exact ⟨(tp_mem ha (he z hz).1).1, (tp_mem ha (he z hz).1).2, tp_lt (he z hz).2.symm⟩
theorem prod_len (xs ys : List Str) : (xs.flatMap fun x => ys.map fun y => ((x, y) : Pr)).length = xs.length * ys.length := by
  induction xs with
  | nil => simp
  | cons x xs ih => rw [List.flatMap_cons, List.length_append, ih, List.length_map, List.length_cons, Nat.succ_mul, Nat.add_comm]
theorem TsOk.len2 {pl : List Str} {ts : List Pr} (t : TsOk pl ts) : ts.length + ts.length ≤ pl.length * pl.length := by
  have nd : (ts ++ ts.map fun q => ((q.2, q.1) : Pr)).Nodup := by
    refine List.nodup_append.mpr ⟨t.nd, nodup_map (fun x y _ _ e => ?_) t.nd, fun x hx y hy e => ?_⟩
    · obtain ⟨a, b⟩ := x
      obtain ⟨c, d⟩ := y
      injection e with e1 e2
      exact Prod.ext e2 e1
    · obtain ⟨z, hz, rfl⟩ := List.mem_map.mp hy
      have l1 := (t.ok x hx).2.2
      have l2 := (t.ok z hz).2.2
      rw [e] at l1
      rw [ltS_asym l1] at l2
      cases l2
  have sub : (ts ++ ts.map fun q => ((q.2, q.1) : Pr)) ⊆ pl.flatMap fun x => pl.map fun y => ((x, y) : Pr) := fun q hq => by
    have key : q.1 ∈ pl ∧ q.2 ∈ pl := by
      rcases List.mem_append.mp hq with hq | hq
      · exact ⟨(t.ok q hq).1, (t.ok q hq).2.1⟩
      · obtain ⟨z, hz, rfl⟩ := List.mem_map.mp hq
        exact ⟨(t.ok z hz).2.1, (t.ok z hz).1⟩
    exact List.mem_flatMap.mpr ⟨q.1, key.1, List.mem_map.mpr ⟨q.2, key.2, rfl⟩⟩
  have := nd.length_le_of_subset sub
  rw [prod_len, List.length_append, List.length_map] at this
  exact this
theorem TsOk.len {pl : List Str} {ts : List Pr} (t : TsOk pl ts) (h : pl.length ≤ 44) : ts.length ≤ 968 := by
  have nd : (ts ++ ts.map fun p => ((p.2, p.1) : Pr)).Nodup := by
    refine List.nodup_append.mpr ⟨t.nd, nodup_map (fun x y _ _ e => by
      obtain ⟨a, b⟩ := x
      obtain ⟨c, d⟩ := y
      injection e with e1 e2
      have e1' : b = d := e1
      have e2' : a = c := e2
      rw [e1', e2']) t.nd, fun x hx y hy e => ?_⟩
    obtain ⟨z, hz, rfl⟩ := List.mem_map.mp hy
    have l1 := (t.ok x hx).2.2
    have l2 := (t.ok z hz).2.2
    rw [e] at l1
    rw [ltS_asym l1] at l2
    cases l2
  have sub : (ts ++ ts.map fun p => ((p.2, p.1) : Pr)) ⊆ pl.flatMap fun x => pl.map fun y => ((x, y) : Pr) := fun p hp => by
    have key : p.1 ∈ pl ∧ p.2 ∈ pl := by
      rcases List.mem_append.mp hp with hp | hp
      · exact ⟨(t.ok p hp).1, (t.ok p hp).2.1⟩
      · obtain ⟨z, hz, rfl⟩ := List.mem_map.mp hp
        exact ⟨(t.ok z hz).2.1, (t.ok z hz).1⟩
    exact List.mem_flatMap.mpr ⟨p.1, key.1, List.mem_map.mpr ⟨p.2, key.2, rfl⟩⟩
  have := nd.length_le_of_subset sub
  rw [prod_len, List.length_append, List.length_map] at this
  have := Nat.mul_le_mul h h
  omega
/-- a raw board: places, ties, rim; N: where it lies -/
def RawAt (N : Addr → Prop) (H : Hp) (r : Addr) (pl : List Str) (ts : List Pr) (rm : List Str) : Prop :=
  ∃ (aP aT aR : Addr) (tv : List V), H r = some (.tup [.ref aP, .ref aT, .ref aR]) ∧ H aP = some (.lst (pl.map V.str)) ∧ H aT = some (.lst tv) ∧ PrsAt H tv ts ∧ H aR = some (.lst (rm.map V.str)) ∧ N r ∧ N aP ∧ N aT ∧ N aR ∧ ∀ t, V.ref t ∈ tv → N t
theorem prs_frame {N : Addr → Prop} {H H' : Hp} {vs : List V} {ps : List Pr} (h : PrsAt H vs ps) (n : ∀ t, V.ref t ∈ vs → N t) (S : ∀ c o, N c → H c = some o → H' c = some o) : PrsAt H' vs ps := ⟨h.1, fun i v q e1 e2 => by
  obtain ⟨t, rfl, ht⟩ := h.2 i v q e1 e2
  exact ⟨t, rfl, S _ _ (n t (List.mem_of_getElem? e1)) ht⟩⟩
theorem RawAt.frame {N : Addr → Prop} {H H' : Hp} {r : Addr} {pl : List Str} {ts : List Pr} {rm : List Str} (b : RawAt N H r pl ts rm) (S : ∀ c o, N c → H c = some o → H' c = some o) : RawAt N H' r pl ts rm := by
  obtain ⟨aP, aT, aR, tv, h1, h2, h3, h4, h5, n1, n2, n3, n4, n5⟩ := b
  exact ⟨aP, aT, aR, tv, S _ _ n1 h1, S _ _ n2 h2, S _ _ n3 h3, prs_frame h4 n5 S, S _ _ n4 h5, n1, n2, n3, n4, n5⟩
theorem RawAt.weak {N N' : Addr → Prop} {H : Hp} {r : Addr} {pl : List Str} {ts : List Pr} {rm : List Str} (b : RawAt N H r pl ts rm) (k : ∀ c, N c → N' c) : RawAt N' H r pl ts rm := by
  obtain ⟨aP, aT, aR, tv, h1, h2, h3, h4, h5, n1, n2, n3, n4, n5⟩ := b
  exact ⟨aP, aT, aR, tv, h1, h2, h3, h4, h5, k _ n1, k _ n2, k _ n3, k _ n4, fun t ht => k _ (n5 t ht)⟩
/-- names that the law takes for places -/
def sK (k : Nat) : Str := Str.ofString (toString (k : Int))
def gK (a b : Nat) : Str := ((("g" : Str) ++ sK a) ++ "k") ++ sK b
def gN : List Str := (List.range 4).flatMap fun a => (List.range 4).map fun b => gK a b
def allN : List Str := baseN ++ ((["cr0ss", "cr1ss", "far0", "in0", "in1", "in2", "hub", "r0", "r1", "r2", "r3", "r4", "r5"] : List Str) ++ gN)
/-- names of drawn boards -/
def drawnN : List Str := baseN ++ ((["cr0ss", "cr1ss"] : List Str) ++ gN)
theorem allN_ok : allN.all nameB = true := by decide +kernel
structure RawOk (pl : List Str) (us : List Pr) (rm : List Str) : Prop where
  nd : pl.Nodup
  nm : ∀ z ∈ pl, z ∈ allN
  len : pl.length ≤ 44
  ts : TsOk pl us
  rnd : rm.Nodup
  rin : ∀ z ∈ rm, z ∈ pl
  few : us.length ≤ 968
theorem RawOk.name {pl : List Str} {ts : List Pr} {rm : List Str} (r : RawOk pl ts rm) {z : Str} (h : z ∈ pl) : nameB z = true := List.all_eq_true.mp allN_ok z (r.nm z h)
end E1

set_option Elab.async false
set_option linter.all false
set_option maxRecDepth 100000
set_option maxHeartbeats 4000000
namespace E1
open PySem PySem.Spec PyProof.Rows L2 G0
abbrev N_a_any : List Str := ["_law_stream", "_law_many", "_law_pins", "_law_share", "_law_places", "_law_ties", "_law_at", "_law_one", "_law_other"]
theorem sc_a_any : FnScope N_a_any ["_law_stream", "_law_many", "_law_pins", "_law_share"] (defScope (topS 36)) := ⟨rfl, rfl, rfl, by decide +kernel, rfl, by decide +kernel, by decide +kernel⟩
def spAny : Sp := fun vs H Q _ => ∃ (p l : Addr) (n m pins : Nat) (share : Int), vs = [.ref p, .int (m : Int), .int (pins : Int), .int share] ∧ Stm H p l n ∧ n < 70000000 ∧ m ≤ 40 ∧
  ∀ (r : Addr) (pl : List Str) (ts : List Pr) (rm : List Str) (H' : Hp), Fr H p l (n + 3000) H' → RawAt (fun c => H c = none) H' r pl ts rm → RawOk pl ts rm → pl.length = m → (∀ z ∈ pl, z ∈ drawnN) → Q (.ref r) H'
theorem lt_at {K : PySem.W.Frag} {H H' : Hp} {a : Addr} {xs : List V} (e0 : H a = some (.lst xs)) (e1 : H' a = some (.lst xs)) : (∀ ys, SqL K H a ys → SqL K H' a ys) ∧ ∀ ys, SqT K H a ys → SqT K H' a ys := by
  refine ⟨fun ys h => ?_, fun ys h => ?_⟩
  · rcases h with (h | ⟨o, h⟩) | h
    · rw [e0] at h
      cases h
      exact .inl (.inl e1)
    · rw [e0] at h
      cases h
    · exact .inr h
  · rcases h with (h | ⟨o, h⟩) | h
    · rw [e0] at h
      cases h
    · rw [e0] at h
      cases h
    · exact .inr h
theorem cut_from {xs : List V} (m : Nat) : cutV xs (some (m : Int)) none = xs.drop m := by
  unfold cutV
  rw [HT.sIx_none, HT.sIx_nat]
  rcases Nat.le_total m xs.length with h | h
  · rw [Nat.min_eq_left h, List.take_of_length_le (by rw [List.length_drop]; exact Nat.le_refl _)]
  · rw [Nat.min_eq_right h, Nat.sub_self, List.take_zero, List.drop_of_length_le h]
theorem prs_keep {H H1 H2 : Hp} {p l : Addr} {n m : Nat} {vs : List V} {ps : List Pr} (F : Fr H p l n H1) (G : Fr H1 p l m H2) (h : PrsAt H1 vs ps) (fr : ∀ t, V.ref t ∈ vs → H t = none) : PrsAt H2 vs ps := prs_frame h fr fun c o e1 e2 => F.keep G e1 e2
theorem prs_upd {H : Hp} {q : Addr} {o : HO} {vs : List V} {ps : List Pr} (h : PrsAt H vs ps) (e : ∀ xs, H q ≠ some (.tup xs)) : PrsAt (upd H q o) vs ps := h.mono fun t xs h2 => by
  rw [upd_ne (fun z => e xs (by rw [← z]; exact h2))]
  exact h2
theorem prs_app {H : Hp} {vs ws : List V} {ps qs : List Pr} (h : PrsAt H vs ps) (g : PrsAt H ws qs) : PrsAt H (vs ++ ws) (ps ++ qs) := by
  refine ⟨by rw [List.length_append, List.length_append, h.1, g.1], fun i v p h1 h2 => ?_⟩
  rcases Nat.lt_or_ge i vs.length with l | l
  · rw [List.getElem?_append_left l] at h1
    rw [List.getElem?_append_left (by rw [← h.1]; exact l)] at h2
    exact h.2 i v p h1 h2
  · rw [List.getElem?_append_right l] at h1
    rw [List.getElem?_append_right (by rw [← h.1]; exact l), ← h.1] at h2
    exact g.2 _ v p h1 h2
section
variable {P : Program} {w : World} {K : PySem.W.Frag} {mg : Str → Option Value} {base : Heap}
theorem bAny (Z : LawD K mg) : Binds K (Z.d 36) ["_law_stream", "_law_many", "_law_pins", "_law_share"] [] := (Z.F 36 (by decide)).binds fun _ _ _ _ _ _ us hl => match us, hl with | [_, _, _, _], _ => rfl
theorem ok_a_any (Z : LawD K mg) : FnOk P w K mg base CX0 4 (Z.f 36) (Z.d 36) ["_law_stream", "_law_many", "_law_pins", "_law_share"] spAny := by
  have GA : FnOk P w K mg base CX0 3 (Z.f 33) (Z.d 33) ["_law_stream", "_law_many"] spNames := ok_a_names Z
  have GM : FnOk P w K mg base CX0 2 Z.s.fM Z.s.dM ["_law_stream", "_law_some"] (spMx K) := ok_mx Z.s
  have GD : FnOk P w K mg base CX0 1 Z.s.fD Z.s.dD ["_law_stream", "_law_many"] spDr := ok_dr Z.s
  have GT : FnOk P w K mg base CX0 1 (Z.f 34) (Z.d 34) N_a_tie spTie := ok_a_tie Z
  refine Fun.ok (Z.F 36 (by decide)) sc_a_any (fun vs H Q E h => ?_) (fun cdv A outer s H vs Q E hr h => ⟨_, pss_cons (ps_par (i := 4) (j := 5) rfl sc_a_any.nd rfl rfl (by decide) rfl rfl (pa_cons (pe_call GA hr (by rfl) (Z.g 33 (by decide)) (Z.F 33 (by decide)).kp (bNames Z) .nil pass0 (pa_cons (pv 0) (pa_cons (pv 1) pa_nil))) (pa_cons (pe_lst pa_nil) pa_nil)) (by rfl))
  (pss_cons (ps_for PassesOwn.never rfl (pi_enumQ (by rfl) Z.t.enumerate (pa_cons (pv 4) pa_nil)) (pg_tup rfl (pgs_cons (pg_name (i := 6) sc_a_any.nd rfl (Or.inl rfl)) (pgs_cons (pg_name (i := 7) sc_a_any.nd rfl (Or.inr rfl)) pgs_nil)))
    (pss_one (ps_expr (pe_bm PySem.F.plainAttrs_list PySem.F.slot_list_extend PySem.F.type_list_extend mt_extend (pv 5) (pa_cons (pe_lc (own := [("_law_other", 8)]) (tt := _) rfl sc_a_any.nd (pi_list (pe_slice sl_list (pv 4) (po_some (pe_op op_add (pv 6) pe_int)) po_none)) (blkOk_by (own := [("_law_other", 8)]) (N := N_a_any) (sc := defScope (topS 36)) (by decide +kernel)) (fun _ _ _ _ _ => (pg_name (i := 8) sc_a_any.nd rfl (Or.inl rfl))) (fun _ _ _ _ _ => (pts_one (pt_cmpR op_lt (pe_call GD (hr.mono (by decide)) (by rfl) Z.s.gD Z.s.FD.kp (bDr Z.s) .nil pass0 (pa_cons (pv 0) (pa_cons pe_int pa_nil))) (pv 3) (nomark _)))) (fun _ _ _ _ _ => (pe_call GT (hr.mono (by decide)) (by rfl) (Z.g 34 (by decide)) (Z.F 34 (by decide)).kp (bTie Z) .nil pass0 (pa_cons (pv 7) (pa_cons (pv 8) pa_nil))))) pa_nil)))))
  (pss_one (ps_ret (pe_tup (pa_cons (pv 4) (pa_cons (pe_callB cr_sortP (by rfl) Z.t.sorted boot_sorted (pa_cons (pv 5) pa_nil)) (pa_cons (pe_slice sl_list (pe_call GM (hr.mono (by decide)) (by rfl) Z.s.gM Z.s.FM.kp (bMx Z.s) .nil pass0 (pa_cons (pv 0) (pa_cons (pv 4) pa_nil))) po_none (po_some (pv 2))) pa_nil))))))), ?_⟩)
  · obtain ⟨p, l, n, m, pins, share, rfl, _⟩ := h
    rfl
  · obtain ⟨p, l, n, m, pins, share, rfl, S, hn, hm, k⟩ := h
    refine ⟨_, rfl, _, rfl, p, l, n, m, rfl, S, by omega, hm, fun q pl H1 F1 nq hq lpl ndp inb => ⟨Nat.zero_le _, fun b nb => ⟨_, _, rfl, ?_⟩⟩⟩
    have nbH := F1.free nb
    have bq : b ≠ q := (ne_of_none hq nb).symm
    have F2 : Fr H p l (n + 17) (upd H1 b (.lst [])) := F1.put nbH
    refine ⟨_, rfl, q, pl.map V.str, rfl, for_enQ (.inl (SqL.of (by rw [upd_ne bq.symm]; exact hq))) (fun i σ H' => ∃ v6 v7 v8 tv ts, σ = [some (.ref p), some (.int (m : Int)), some (.int (pins : Int)), some (.int share), some (.ref q), some (.ref b), v6, v7, v8] ∧ H' q = some (.lst (pl.map V.str)) ∧ H' b = some (.lst tv) ∧ PrsAt H' tv ts ∧
      TsOk pl ts ∧ (∀ x ∈ ts, ∃ a c, x = tp a c ∧ a ∈ pl.take i) ∧ (∀ t, V.ref t ∈ tv → H t = none) ∧ Fr H p l (n + 17 + 40 * i) H')
      ⟨none, none, none, [], [], rfl, by rw [upd_ne bq.symm]; exact hq, upd_same, PrsAt.nil, TsOk.nil, by simp, (fun t ht => by cases ht), F2⟩ ?_ ?_ ?_⟩
    · rintro i σ H' hi ⟨v6, v7, v8, tv, ts, rfl, hq', _⟩
      exact lt_at (by rw [upd_ne bq.symm]; exact hq) hq'
    · rintro i x σ H' T hx ⟨v6, v7, v8, tv, ts, rfl, hq', hb', pt, tok, tin, fr, F'⟩ nT
      rw [List.getElem?_map] at hx
      cases ez : pl[i]? with
      | none => rw [ez] at hx; cases hx
      | some z =>
        rw [ez] at hx
        cases hx
        have hil : i < pl.length := (List.getElem?_eq_some_iff.mp ez).1
        have zpl : z ∈ pl := List.mem_of_getElem? ez
        have znt : z ∉ pl.take i := take_mem ndp ez
        have nTH := F'.free nT
        have FT : Fr H p l (n + 17 + 40 * i) (upd H' T (.tup [.int (i : Nat), .str z])) := F'.put nTH
        have qT : q ≠ T := ne_of_none hq' nT
        have bT : b ≠ T := ne_of_none hb' nT
        refine ⟨T, _, rfl, SqT.of upd_same, rfl, _, _, rfl, _, _, rfl, rfl, ?_⟩
        refine ⟨_, rfl, .inl ⟨rfl, _, SqL.of (by rw [upd_ne bT]; exact hb')⟩, _, rfl, _, rfl, _, _, rfl, rfl, _, rfl, q, _, rfl, SqL.of (by rw [upd_ne qT]; exact hq'), fun s ns => ⟨s, rfl, ⟨_, SqL.of upd_same⟩, fun D hD => ?_⟩⟩
        have ei : cutV (pl.map V.str) (some ((i : Int) + 1)) none = (pl.drop (i + 1)).map V.str := by
          rw [show ((i : Int) + 1) = ((i + 1 : Nat) : Int) from rfl, cut_from, List.map_drop]
        rw [ei] at hD ⊢
        have nsH := FT.free ns
        have Fs : Fr H p l (n + 17 + 40 * i) (upd (upd H' T (.tup [.int (i : Nat), .str z])) s (.lst ((pl.drop (i + 1)).map V.str))) := FT.put nsH
        have nDH := Fs.free hD
        have sD : s ≠ D := ne_of_none upd_same hD
        have qs : q ≠ s := ne_of_none (show (upd H' T _) q = _ from by rw [upd_ne qT]; exact hq') ns
        have bs : b ≠ s := ne_of_none (show (upd H' T _) b = _ from by rw [upd_ne bT]; exact hb') ns
        have q1 : (upd (upd H' T (.tup [.int (i : Nat), .str z])) s (.lst ((pl.drop (i + 1)).map V.str))) q = some (.lst (pl.map V.str)) := by rw [upd_ne qs, upd_ne qT]; exact hq'
        have b1 : (upd (upd H' T (.tup [.int (i : Nat), .str z])) s (.lst ((pl.drop (i + 1)).map V.str))) b = some (.lst tv) := by rw [upd_ne bs, upd_ne bT]; exact hb'
        have qD : q ≠ D := ne_of_none q1 hD
        have bD : b ≠ D := ne_of_none b1 hD
        have pt1 : PrsAt (upd (upd H' T (.tup [.int (i : Nat), .str z])) s (.lst ((pl.drop (i + 1)).map V.str))) tv ts := prs_upd (prs_upd pt (fun xs e => by rw [nT] at e; cases e)) (fun xs e => by rw [ns] at e; cases e)
        refine lc_list (xs := (pl.drop (i + 1)).map V.str) (fun j H2 => ∃ acc es, H2 D = some (.lst acc) ∧ es.Sublist ((pl.drop (i + 1)).take j) ∧ PrsAt H2 acc (es.map (tp z)) ∧ (∀ t, V.ref t ∈ acc → H t = none) ∧ H2 s = some (.lst ((pl.drop (i + 1)).map V.str)) ∧ H2 q = some (.lst (pl.map V.str)) ∧
            H2 b = some (.lst tv) ∧ PrsAt H2 tv ts ∧ Fr H p l (n + 17 + 40 * i + j) H2) ⟨[], [], upd_same, List.nil_sublist _, PrsAt.nil, (fun t ht => by cases ht), by rw [upd_ne sD]; exact upd_same, by rw [upd_ne qD]; exact q1, by rw [upd_ne bD]; exact b1, prs_upd pt1 (fun xs e => by rw [hD] at e; cases e), Fs.put nDH⟩ ?_ ?_ ?_
        · rintro j H2 hj ⟨acc, es, _, _, _, _, hs, _⟩
          exact SqL.of hs
        · rintro j x H2 hx ⟨acc, es, hacc, sub, pa, fa, hs2, hq2, hb2, pt2, F2⟩
          rw [List.getElem?_map] at hx
          cases ey : (pl.drop (i + 1))[j]? with
          | none => rw [ey] at hx; cases hx
          | some y =>
            rw [ey] at hx
            cases hx
            have jl : j < (pl.drop (i + 1)).length := (List.getElem?_eq_some_iff.mp ey).1
            rw [List.length_drop] at jl
            refine ⟨rfl, _, rfl, p, l, n + 17 + 40 * i + j, 6, rfl, F2.st, by omega, by decide, by decide, fun r H3 hr3 F3 => ⟨_, rfl, _, _, rfl, rfl, _, rfl, ?_⟩⟩
            have F23 := F2.trans F3
            have acc3 := F2.keep F3 nDH hacc
            have pa3 := prs_keep F2 F3 pa fa
            have keep : ∀ {c : Addr} {o : HO}, H c = none → H2 c = some o → H3 c = some o := fun h e => F2.keep F3 h e
            refine ite2 (fun _ => ?_) (fun _ => ?_)
            · refine ⟨_, rfl, _, rfl, z, y, rfl, fun t nt => ⟨acc, by rw [upd_ne (ne_of_none acc3 nt)]; exact acc3, ?_, acc ++ [.ref t], es ++ [y], upd_same, ?_, ?_, ?_, ?_, ?_, ?_, ?_, ?_⟩⟩
              · rw [pa.1, List.length_map]
                have := sub.length_le
                rw [List.length_take] at this
                exact small1000 (by omega)
              · rw [take_snoc ey]
                exact sub.append (List.Sublist.refl _)
              · rw [List.map_append]
                refine prs_upd (prs_snoc (prs_upd pa3 (fun xs e => by rw [nt] at e; cases e)) upd_same) (fun xs e => ?_)
                rw [upd_ne (ne_of_none acc3 nt), acc3] at e
                cases e
              · intro t' ht'
                rcases List.mem_append.mp ht' with h | h
                · exact fa t' h
                · cases List.mem_singleton.mp h
                  exact F23.free nt
              · have h3 := keep nsH hs2
                rw [upd_ne sD, upd_ne (ne_of_none h3 nt)]
                exact h3
              · have h3 := keep nq hq2
                rw [upd_ne qD, upd_ne (ne_of_none h3 nt)]
                exact h3
              · have h3 := keep nbH hb2
                rw [upd_ne bD, upd_ne (ne_of_none h3 nt)]
                exact h3
              · refine prs_upd (prs_upd (prs_keep F2 F3 pt2 fr) (fun xs e => by rw [nt] at e; cases e)) (fun xs e => ?_)
                rw [upd_ne (ne_of_none acc3 nt), acc3] at e
                cases e
              · exact (F23.put (F23.free nt)).put nDH
            · refine ⟨acc, es, acc3, ?_, pa3, fa, keep nsH hs2, keep nq hq2, keep nbH hb2, prs_keep F2 F3 pt2 fr, F23⟩
              rw [take_snoc ey]
              exact sub.trans (List.sublist_append_left _ _)
        · rintro H2 ⟨acc, es, hacc, sub, pa, fa, hs2, hq2, hb2, pt2, F2⟩
          rw [List.length_map, List.take_length] at sub
          have subm : ∀ e ∈ es, e ∈ pl.drop (i + 1) := fun e he => sub.subset he
          have zdrop : z ∉ pl.drop (i + 1) := fun hm => by
            have e := List.take_append_drop (i + 1) pl
            rw [take_snoc ez] at e
            rw [← e] at ndp
            exact (List.nodup_append.mp ndp).2.2 z (List.mem_append_right _ (List.mem_singleton.mpr rfl)) z hm rfl
          have tnd : ∀ {x y : Str}, x ∈ pl.take i → y ∈ pl.drop (i + 1) → x ≠ y := fun {x y} hx hy e => by
            have e2 := List.take_append_drop (i + 1) pl
            rw [take_snoc ez] at e2
            rw [← e2] at ndp
            exact (List.nodup_append.mp ndp).2.2 x (List.mem_append_left _ hx) y hy e
          have tok2 : TsOk pl (ts ++ es.map (tp z)) := by
            refine tok.fan zpl (fun e he => ⟨List.mem_of_mem_drop (subm e he), fun q => zdrop (q ▸ subm e he)⟩) ((ndp.sublist (List.drop_sublist _ _)).sublist sub) fun e he hm => ?_
            obtain ⟨a, c, e1, e2⟩ := tin _ hm
            rcases tp_eq e1 with ⟨h1, _⟩ | ⟨_, h2⟩
            · exact znt (h1 ▸ e2)
            · exact tnd e2 (subm e he) h2.symm
          have len2 := tok2.len (by omega)
          refine ⟨b, D, tv, acc, rfl, rfl, hb2, hacc, ?_, ?_⟩
          · have := (prs_app pt2 pa).1
            rw [List.length_append] at this
            have h3 := small1000 (n := (ts ++ es.map (tp z)).length) (by omega)
            omega
          · refine ⟨_, _, _, tv ++ acc, ts ++ es.map (tp z), rfl, ?_, upd_same, ?_, tok2, ?_, ?_, ?_⟩
            · rw [upd_ne bq.symm]
              exact hq2
            · exact prs_upd (prs_app pt2 pa) (fun xs e => by rw [hb2] at e; cases e)
            · intro x hx
              rcases List.mem_append.mp hx with hx | hx
              · obtain ⟨a, c, e1, e2⟩ := tin x hx
                refine ⟨a, c, e1, ?_⟩
                rw [take_snoc ez]
                exact List.mem_append_left _ e2
              · obtain ⟨e, he, rfl⟩ := List.mem_map.mp hx
                refine ⟨z, e, rfl, ?_⟩
                rw [take_snoc ez]
                exact List.mem_append_right _ (List.mem_singleton.mpr rfl)
            · intro t ht
              rcases List.mem_append.mp ht with h | h
              · exact fr t h
              · exact fa t h
            · refine (F2.put nbH).mono ?_
              rw [List.length_map, List.length_drop]
              omega
    · rintro σ H' ⟨v6, v7, v8, tv, ts, rfl, hq', hb', pt, tok, tin, fr, F'⟩
      have len2 := tok.len (by omega)
      refine ⟨_, rfl, _, rfl, b, tv, ts, rfl, SqL.of hb', pt, fun s ys ns pyy hy => ?_⟩
      have nsH := F'.free ns
      have F2 : Fr H p l (n + 17 + 40 * (pl.map V.str).length) (upd H' s (.lst ys)) := F'.put nsH
      have qs : q ≠ s := ne_of_none hq' ns
      refine ⟨_, rfl, _, rfl, p, l, q, _, pl.map V.str, rfl, F2.st, by rw [List.length_map]; omega, SqL.of (by rw [upd_ne qs]; exact hq'), by rw [List.length_map]; omega, fun u zs H3 hp3 F3 nu hu => ?_⟩
      have F23 := F2.trans F3
      obtain ⟨rs, rfl, rperm⟩ := strs_perm hp3
      refine ⟨_, rfl, pins, rfl, u, _, rfl, SqL.of hu, fun v nv => ?_⟩
      rw [cut_to, ← List.map_take]
      have nvH := F23.free nv
      refine ⟨by show 3 ≤ sizeLine; decide, fun r nr => ?_⟩
      have F4 : Fr H p l _ (upd H3 v (.lst ((rs.take pins).map V.str))) := F23.put nvH
      have nrH := F4.free nr
      have q3 : H3 q = some (.lst (pl.map V.str)) := F2.keep F3 nq (by rw [upd_ne qs]; exact hq')
      have s3 : H3 s = some (.lst ys) := F2.keep F3 nsH upd_same
      have qv : q ≠ v := ne_of_none q3 nv
      have sv : s ≠ v := ne_of_none s3 nv
      have rq : q ≠ r := ne_of_none (show (upd H3 v _) q = _ from by rw [upd_ne qv]; exact q3) nr
      have rs' : s ≠ r := ne_of_none (show (upd H3 v _) s = _ from by rw [upd_ne sv]; exact s3) nr
      have rv : v ≠ r := ne_of_none upd_same nr
      refine k r pl (sortPr ts) (rs.take pins) _ ((F4.put nrH).mono (by simp only [List.length_map]; omega)) ⟨q, s, v, ys, upd_same, ?_, ?_, ?_, ?_, nrH, nq, nsH, nvH, fun t ht => fr t (pyy.mem_iff.mp ht)⟩ ⟨ndp, fun z hz => List.mem_append_left _ (inb z hz), by omega, tok.perm (sortPr_perm ts), (rperm.nodup_iff.mpr ndp).sublist (List.take_sublist _ _), fun z hz => rperm.mem_iff.mp (List.mem_of_mem_take hz), (tok.perm (sortPr_perm ts)).len (by omega)⟩ lpl (fun z hz => List.mem_append_left _ (inb z hz))
      · rw [upd_ne rq, upd_ne qv]; exact q3
      · rw [upd_ne rs', upd_ne sv]; exact s3
      · refine prs_upd (prs_upd (prs_keep F2 F3 (prs_upd hy (fun xs e => by rw [ns] at e; cases e)) fun t ht => fr t (pyy.mem_iff.mp ht)) (fun xs e => by rw [nv] at e; cases e)) (fun xs e => by rw [nr] at e; cases e)
      · rw [upd_ne rv]; exact upd_same
end
end E1

set_option Elab.async false
set_option linter.all false
set_option maxRecDepth 100000
set_option maxHeartbeats 4000000
/-! Raw boards: neighbours by the law. -/
namespace E1
open PySem PySem.Spec PyProof.Rows L2 G0
/-- pairs of a place and a list of places, not yet a dict -/
structure PL (K : PySem.W.Frag) (H : Hp) (ps : List Addr) (ss : List Str) (f : Str → List Str) (l : Str → Addr) : Prop where
  pr : Paired (fun (p : Addr) (kv : Key × V) => SqT K H p [kV kv.1, kv.2]) ps (ss.map fun s => ((Sum.inr s : Key), V.ref (l s)))
  at_ : ∀ s ∈ ss, H (l s) = some (.lst ((f s).map V.str))
  inj : ∀ s ∈ ss, ∀ t ∈ ss, l s = l t → s = t
theorem PL.same {K : PySem.W.Frag} {H H' : Hp} {ps : List Addr} {ss : List Str} {f : Str → List Str} {l : Str → Addr} (h : PL K H ps ss f l) (S : Same H H') : PL K H' ps ss f l := ⟨h.pr.mono fun _ _ e => same_T S e, fun s hs => S _ _ (h.at_ s hs), h.inj⟩
theorem sqT_upd {K : PySem.W.Frag} {H : Hp} {a D : Addr} {xs : List V} {o : HO} (h : SqT K H a xs) (n1 : ∀ ys, H D ≠ some (.tup ys)) (n2 : ∀ u ys, H D ≠ some (.frz u (.tup ys))) : SqT K (upd H D o) a xs := by
  rcases h with (h | ⟨u, h⟩) | h
  · refine .inl (.inl ?_)
    rw [upd_ne (fun z => n1 xs (by rw [← z]; exact h))]
    exact h
  · refine .inl (.inr ⟨u, ?_⟩)
    rw [upd_ne (fun z => n2 u xs (by rw [← z]; exact h))]
    exact h
  · exact .inr h
theorem PL.wr {K : PySem.W.Frag} {H : Hp} {D : Addr} {o : HO} {ps : List Addr} {ss : List Str} {f : Str → List Str} {l : Str → Addr} (h : PL K H ps ss f l) (n1 : ∀ ys, H D ≠ some (.tup ys)) (n2 : ∀ u ys, H D ≠ some (.frz u (.tup ys))) (n3 : ∀ s ∈ ss, l s ≠ D) : PL K (upd H D o) ps ss f l :=
  ⟨h.pr.mono fun _ _ e => sqT_upd e n1 n2, fun s hs => by rw [upd_ne (n3 s hs)]; exact h.at_ s hs, h.inj⟩
theorem PL.nil {K : PySem.W.Frag} {H : Hp} {f : Str → List Str} {l : Str → Addr} : PL K H [] [] f l := ⟨.nil, by simp, by simp⟩
theorem PL.more {K : PySem.W.Frag} {H : Hp} {ps : List Addr} {ss : List Str} {f : Str → List Str} {l : Str → Addr} {s : Str} {p T : Addr} (h : PL K H ps ss f l) (hs : s ∉ ss) (np : H p = none) (nT : (upd H p (.lst ((f s).map V.str))) T = none) :
    PL K (upd (upd H p (.lst ((f s).map V.str))) T (.tup [.str s, .ref p])) (ps ++ [T]) (ss ++ [s]) f (fun t => if t = s then p else l t) := by
  have ls : ∀ t ∈ ss, (if t = s then p else l t) = l t := fun t ht => if_neg (show t ≠ s from fun z => hs (z ▸ ht))
  have S : Same H (upd (upd H p (.lst ((f s).map V.str))) T (.tup [.str s, .ref p])) := (new_same np).trans (new_same nT)
  have h' := h.same S
  have pT : p ≠ T := ne_of_none upd_same nT
  have lp : ∀ t ∈ ss, l t ≠ p := fun t ht => ne_of_none (h.at_ t ht) np
  refine ⟨?_, fun t ht => ?_, fun t ht u hu e => ?_⟩
  · have e1 : (ss.map fun t => ((Sum.inr t : Key), V.ref (if t = s then p else l t))) = ss.map fun t => ((Sum.inr t : Key), V.ref (l t)) := List.map_congr_left fun t ht => by rw [ls t ht]
    rw [List.map_append]
    show Paired _ _ ((ss.map fun t => ((Sum.inr t : Key), V.ref (if t = s then p else l t))) ++ [((Sum.inr s : Key), V.ref (if s = s then p else l s))])
    rw [e1, if_pos rfl]
    exact h'.pr.snoc (SqT.of upd_same)
  · rcases List.mem_append.mp ht with ht | ht
    · show (upd (upd H p _) T _) (if t = s then p else l t) = _
      rw [ls t ht]
      exact h'.at_ t ht
    · rw [List.mem_singleton.mp ht]
      show (upd (upd H p _) T _) (if s = s then p else l s) = _
      rw [if_pos rfl, upd_ne pT, upd_same]
  · have e : (if t = s then p else l t) = if u = s then p else l u := e
    rcases List.mem_append.mp ht with ht | ht
    · rw [ls t ht] at e
      rcases List.mem_append.mp hu with hu | hu
      · rw [ls u hu] at e
        exact h.inj t ht u hu e
      · rw [List.mem_singleton.mp hu, if_pos rfl] at e
        exact absurd e (lp t ht)
    · rw [List.mem_singleton.mp ht] at e ⊢
      rw [if_pos rfl] at e
      rcases List.mem_append.mp hu with hu | hu
      · rw [ls u hu] at e
        exact absurd e.symm (lp u hu)
      · exact (List.mem_singleton.mp hu).symm
theorem merge_new : ∀ (kvs acc : List (Key × V)), ((acc ++ kvs).map Prod.fst).Nodup → mergeK acc kvs = acc ++ kvs
  | [], acc, _ => by unfold mergeK; simp
  | kv :: kvs, acc, h => by
    have e : mergeK acc (kv :: kvs) = mergeK (putK acc kv.1 kv.2) kvs := rfl
    have hk : ∀ x ∈ acc, x.1 ≠ kv.1 := fun x hx e => by
      rw [List.map_append] at h
      exact (List.nodup_append.mp h).2.2 x.1 (List.mem_map.mpr ⟨x, hx, rfl⟩) kv.1 (List.mem_map.mpr ⟨kv, List.mem_cons_self, rfl⟩) e
    rw [e, put_new hk, merge_new kvs (acc ++ [kv]) (by rw [List.append_assoc]; exact h), List.append_assoc]
    rfl
theorem merge_strs {ss : List Str} (nd : ss.Nodup) (l : Str → V) : mergeK [] (ss.map fun s => ((Sum.inr s : Key), l s)) = ss.map fun s => ((Sum.inr s : Key), l s) := by
  have := merge_new (ss.map fun s => ((Sum.inr s : Key), l s)) [] (by
    rw [List.nil_append, List.map_map]
    exact nodup_map (fun x y _ _ e => by
      have : (Sum.inr x : Key) = Sum.inr y := e
      injection this) nd)
  rw [List.nil_append] at this
  exact this
/-- both ends get the other -/
theorem near_step {H : Hp} {q : Addr} {ss : List Str} {l : Str → Addr} {ps : List Pr} {i : Nat} {p : Pr} (N : NearAt H q ss (nb (ps.take i)) l) (hpi : ps[i]? = some p) (h1 : p.1 ∈ ss) (h2 : p.2 ∈ ss) :
    NearAt (upd (upd H (l p.1) (.lst ((nb (ps.take i) p.1 ++ [p.2]).map V.str))) (l p.2) (.lst (((if p.2 = p.1 then nb (ps.take i) p.1 ++ [p.2] else nb (ps.take i) p.2) ++ [p.1]).map V.str))) q ss (nb (ps.take (i + 1))) l := by
  refine ((N.put h1 p.2).put h2 p.1).congr fun s hs => ?_
  rw [take_snoc hpi, nb_snoc]
  show (if s = p.2 then (if p.2 = p.1 then nb (ps.take i) p.1 ++ [p.2] else nb (ps.take i) p.2) ++ [p.1] else if s = p.1 then nb (ps.take i) p.1 ++ [p.2] else nb (ps.take i) s) = _
  by_cases c2 : s = p.2
  · subst c2
    rw [if_pos rfl, if_pos rfl]
    by_cases c1 : p.2 = p.1
    · rw [if_pos c1, if_pos c1.symm, c1, List.append_assoc]
    · rw [if_neg c1, if_neg (fun z => c1 z.symm), List.nil_append]
  · rw [if_neg c2, show (if p.2 = s then [p.1] else ([] : List Str)) = [] from if_neg (fun z => c2 z.symm), List.append_nil]
    by_cases c1 : s = p.1
    · subst c1
      rw [if_pos rfl, if_pos rfl]
    · rw [if_neg c1, show (if p.1 = s then [p.2] else ([] : List Str)) = [] from if_neg (fun z => c1 z.symm), List.append_nil]
theorem boot_dict : bootBuiltins "dict" = some (.type "dict") := by decide +kernel
abbrev N_a_near : List Str := ["_law_raw", "_law_found", "_law_place", "_law_one", "_law_other"]
theorem sc_a_near : FnScope N_a_near ["_law_raw"] (defScope (topS 35)) := ⟨rfl, rfl, rfl, by decide +kernel, rfl, by decide +kernel, by decide +kernel⟩
def spANear : Sp := fun vs H Q _ => ∃ (r : Addr) (pl : List Str) (ts : List Pr) (rm : List Str), vs = [.ref r] ∧ RawAt (fun _ => True) H r pl ts rm ∧ pl.Nodup ∧ pl.length ≤ 1000 ∧ ts.length ≤ 1000 ∧ (∀ p ∈ ts, p.1 ∈ pl ∧ p.2 ∈ pl) ∧
  ∀ q l H', NearAt H' q (sortS pl) (fun s => sortS (nb ts s)) l → H q = none → (∀ s ∈ sortS pl, H (l s) = none) → Same H H' → Q (.ref q) H'
section
variable {P : Program} {w : World} {K : PySem.W.Frag} {mg : Str → Option Value} {base : Heap}
theorem bANear (Z : LawD K mg) : Binds K (Z.d 35) ["_law_raw"] [] := (Z.F 35 (by decide)).binds fun _ _ _ _ _ _ us hl => match us, hl with | [_], _ => rfl
theorem ok_a_near (Z : LawD K mg) : FnOk P w K mg base CX0 1 (Z.f 35) (Z.d 35) ["_law_raw"] spANear := by
  refine Fun.ok (Z.F 35 (by decide)) sc_a_near (fun vs H Q E h => ?_) (fun cdv A outer s H vs Q E hr h => ⟨_, pss_cons (ps_set (i := 1) sc_a_near.nd rfl (Or.inr rfl) (pe_callTy (call_dictP rfl) (by rfl) (Z.free "dict" (by decide)) boot_dict (pa_cons (pe_lc (own := [("_law_place", 2)]) (tt := tYes) rfl sc_a_near.nd (pi_list (pe_callB cr_sortQ (by rfl) Z.t.sorted boot_sorted (pa_cons (pe_ix ix_tup (pv 0) pe_int (fun _ _ => rfl)) pa_nil))) (blkOk_by (own := [("_law_place", 2)]) (N := N_a_near) (sc := defScope (topS 35)) (by decide +kernel)) (fun _ _ _ _ _ => (pg_name (i := 2) sc_a_near.nd rfl (Or.inl rfl))) (fun _ _ _ _ _ => pts_nil) (fun _ _ _ _ _ => (pe_tup (pa_cons (pv 2) (pa_cons (pe_lst pa_nil) pa_nil))))) pa_nil)))
  (pss_cons (ps_for PassesOwn.never rfl (pi_list (pe_ix ix_tup (pv 0) pe_int (fun _ _ => rfl))) (pg_tup rfl (pgs_cons (pg_name (i := 3) sc_a_near.nd rfl (Or.inl rfl)) (pgs_cons (pg_name (i := 4) sc_a_near.nd rfl (Or.inl rfl)) pgs_nil)))
    (pss_cons (ps_expr (pe_bm PySem.F.plainAttrs_list PySem.F.slot_list_append PySem.F.type_list_append mt_append (pe_dget (hu_of hr) (pv 1) (pv 3) (fun _ _ => rfl)) (pa_cons (pv 4) pa_nil)))
  (pss_one (ps_expr (pe_bm PySem.F.plainAttrs_list PySem.F.slot_list_append PySem.F.type_list_append mt_append (pe_dget (hu_of hr) (pv 1) (pv 4) (fun _ _ => rfl)) (pa_cons (pv 3) pa_nil))))))
  (pss_one (ps_ret (pe_callTy (call_dictP rfl) (by rfl) (Z.free "dict" (by decide)) boot_dict (pa_cons (pe_lock (pe_lc (own := [("_law_place", 2)]) (tt := tYes) (te := tTup (tCons (tVar 2) (tCons (tCB (rSortQ K) (tCons (tDGet (tVar 1) (tVar 2)) tNil)) tNil))) rfl sc_a_near.nd (pi_keys (pv 1)) (blkOk_by (own := [("_law_place", 2)]) (N := N_a_near) (sc := defScope (topS 35)) (by decide +kernel)) (fun _ _ _ _ _ => (pg_name (i := 2) sc_a_near.nd rfl (Or.inl rfl))) (fun _ _ _ _ _ => pts_nil) (fun _ _ _ _ _ => (pe_tup (pa_cons (pv 2) (pa_cons (pe_callB cr_sortQ (by rfl) Z.t.sorted boot_sorted (pa_cons (pe_dget (hu_of hr) (pv 1) (pv 2) (fun _ _ => rfl)) pa_nil)) pa_nil)))))) pa_nil))))), ?_⟩)
  · obtain ⟨r, pl, ts, rm, rfl, _⟩ := h
    rfl
  · obtain ⟨r, pl, ts, rm, rfl, ⟨aP, aT, aR, tv, hr0, hP, hT, pt, hR, _⟩, nd, lp, lt, hin, k⟩ := h
    have ndS : (sortS pl).Nodup := (sortS_perm pl).nodup_iff.mpr nd
    have lS : (sortS pl).length = pl.length := sortS_len pl
    refine ⟨_, rfl, r, _, 0, _, rfl, rfl, SqT.of hr0, rfl, aP, pl, rfl, .inl (SqL.of hP), fun u nu => ⟨u, rfl, ⟨_, SqL.of upd_same⟩, fun D hD => ?_⟩⟩
    have hDn : H D = none := by
      rw [upd_ne (ne_of_none upd_same hD).symm] at hD
      exact hD
    refine lc_list (xs := (sortS pl).map V.str) (fun i H' => ∃ ps l, H' D = some (.lst (ps.map V.ref)) ∧ PL K H' ps ((sortS pl).take i) (fun _ => []) l ∧ (∀ s ∈ (sortS pl).take i, H (l s) = none ∧ l s ≠ D) ∧ ps.length = i ∧ Same (upd H u (.lst ((sortS pl).map V.str))) H') ⟨[], fun _ => 0, upd_same, .nil, by simp, rfl, new_same hD⟩ ?_ ?_ ?_
    · rintro i H' hi ⟨ps, l, _, _, _, _, S⟩
      exact SqL.of (S _ _ upd_same)
    · rintro i x H' hx ⟨ps, l, hacc, pp, fr, pln, S⟩
      rw [List.getElem?_map] at hx
      cases es : (sortS pl)[i]? with
      | none => rw [es] at hx; cases hx
      | some s =>
        rw [es] at hx
        cases hx
        refine ⟨rfl, yes_of ⟨_, rfl, Nat.zero_le _, fun p np => ⟨by show 2 ≤ sizeLine; decide, fun T nT => ?_⟩⟩⟩
        have h2 := pp.more (f := fun _ => []) (take_mem ndS es) np nT
        have acc2 := ((new_same (o := .lst []) np).trans (new_same (o := .tup [.str s, .ref p]) nT)) _ _ hacc
        have S2 : Same (upd H u (.lst ((sortS pl).map V.str))) _ := S.trans ((new_same (o := .lst []) np).trans (new_same (o := .tup [.str s, .ref p]) nT))
        have pD : p ≠ D := (ne_of_none hacc np).symm
        have npH : H p = none := ((new_same nu).trans S).free np
        have fr2 : ∀ t ∈ (sortS pl).take i ++ [s], H (if t = s then p else l t) = none ∧ (if t = s then p else l t) ≠ D := fun t ht => by
          by_cases e : t = s
          · rw [if_pos e]
            exact ⟨npH, pD⟩
          · rw [if_neg e]
            rcases List.mem_append.mp ht with ht | ht
            · exact fr t ht
            · exact absurd (List.mem_singleton.mp ht) e
        refine ⟨_, acc2, ?_, ps ++ [T], fun t => if t = s then p else l t, ?_, ?_, ?_, ?_, ?_⟩
        · rw [List.length_map, pln]
          have := (List.getElem?_eq_some_iff.mp es).1
          exact small1000 (by omega)
        · rw [upd_same, List.map_append]
          rfl
        · rw [take_snoc es]
          exact PL.wr (show PL K (upd (upd H' p (.lst [])) T (.tup [.str s, .ref p])) _ _ _ _ from h2) (fun ys e => by rw [acc2] at e; cases e) (fun v ys e => by rw [acc2] at e; cases e) fun t ht => (fr2 t ht).2
        · rw [take_snoc es]
          exact fr2
        · rw [List.length_append, pln]; rfl
        · exact fun b o e => by
            rw [upd_ne (ne_of_none e hD)]
            exact S2 _ _ e
    rintro H1 ⟨ps, l, hacc, pp, fr, pln, S⟩
    rw [List.length_map, List.take_length] at pp fr
    refine ⟨D, ps, _, rfl, SqL.of hacc, pp.pr, fun q nq => ?_⟩
    rw [merge_strs ndS (fun s => V.ref (l s))]
    have SH : Same H H1 := (new_same nu).trans S
    have nqH : H q = none := SH.free nq
    have N0 : NearAt (upd H1 q (.dK ((sortS pl).map fun s => ((Sum.inr s : Key), V.ref (l s))))) q (sortS pl) (nb (ts.take 0)) l := ⟨upd_same, fun s hs => by
      rw [upd_ne (ne_of_none (pp.at_ s hs) nq)]
      exact pp.at_ s hs, pp.inj⟩
    have S0 : Same H (upd H1 q (.dK ((sortS pl).map fun s => ((Sum.inr s : Key), V.ref (l s))))) := SH.trans (new_same nq)
    refine ⟨_, rfl, r, _, 1, _, rfl, rfl, SqT.of (S0 _ _ hr0), rfl, aT, rfl, ⟨tv, SqL.of (S0 _ _ hT)⟩, for_list (xs := tv) (fun i σ H' => ∃ v3 v4, σ = [some (.ref r), some (.ref q), none, v3, v4] ∧ NearAt H' q (sortS pl) (nb (ts.take i)) l ∧ Same H H') ⟨none, none, rfl, N0, S0⟩ (fun i σ H' _ ⟨_, _, _, _, S⟩ => SqL.of (S _ _ hT)) ?_ ?_⟩
    · rintro i x σ H' hx ⟨v3, v4, rfl, N, S⟩
      have hi : i < ts.length := by
        rw [← pt.1]
        exact (List.getElem?_eq_some_iff.mp hx).1
      have hpi : ts[i]? = some ts[i] := List.getElem?_eq_getElem hi
      obtain ⟨t, rfl, ht⟩ := pt.2 i x _ hx hpi
      obtain ⟨h1, h2⟩ := hin _ (List.mem_of_getElem? hpi)
      have h1 := sortS_mem.mpr h1
      have h2 := sortS_mem.mpr h2
      refine ⟨t, _, rfl, SqT.of (S _ _ ht), rfl, _, _, rfl, _, _, rfl, rfl, ?_⟩
      have small : ∀ s, (nb (ts.take i) s).length + 5 < sizeLine := fun s => by
        have := nb_len (ts.take i) s
        rw [List.length_take] at this
        exact Nat.lt_of_le_of_lt (Nat.add_le_add_right (Nat.le_trans this (show 2 * min i ts.length ≤ 2000 by omega)) 5) (by decide)
      have e1 := DGet.k (k := Sum.inr ts[i].1) N.d
      rw [map_val (fun s => V.ref (l s)) h1] at e1
      refine ⟨_, rfl, _, rfl, q, _, rfl, e1, .inl ⟨rfl, _, SqL.of (N.at_ _ h1)⟩, _, rfl, l ts[i].1, _, _, rfl, rfl, N.at_ _ h1, ?_, ?_⟩
      · rw [List.length_map]
        have := small ts[i].1
        omega
      have N2 := N.put h1 ts[i].2
      rw [List.map_append] at N2
      have e2 := DGet.k (k := Sum.inr ts[i].2) N2.d
      rw [map_val (fun s => V.ref (l s)) h2] at e2
      refine ⟨_, rfl, _, rfl, q, _, rfl, e2, .inl ⟨rfl, _, SqL.of (N2.at_ _ h2)⟩, _, rfl, l ts[i].2, _, _, rfl, rfl, N2.at_ _ h2, ?_, ?_⟩
      · rw [List.length_map]
        have a1 := small ts[i].1
        have a2 := small ts[i].2
        split
        · rw [List.length_append]
          simp
          omega
        · omega
      have N3 := near_step N hpi h1 h2
      rw [List.map_append, List.map_append] at N3
      refine ⟨_, _, rfl, N3, ?_⟩
      exact fun b o e => by
        rw [upd_ne (ne_of_none e (fr _ h2).1), upd_ne (ne_of_none e (fr _ h1).1)]
        exact S b o e
    · rintro σ H2 ⟨v3, v4, rfl, N, S2⟩
      rw [pt.1, List.take_length] at N
      refine ⟨q, _, N.d, trivial, fun od => ⟨_, rfl, q, od, rfl, .inl ⟨_, upd_same, fun D2 hD2 => ?_⟩⟩⟩
      have lq : ∀ s ∈ sortS pl, l s ≠ q := fun s hs => N.ne hs
      have Sf : Same H (upd H2 q (.frz od (.dK ((sortS pl).map fun s => ((Sum.inr s : Key), V.ref (l s)))))) := fun b o e => by
        rw [upd_ne (ne_of_none e nqH)]
        exact S2 b o e
      have qD2 : q ≠ D2 := ne_of_none upd_same hD2
      have nD2H : H D2 = none := Sf.free hD2
      have lD2 : ∀ s ∈ sortS pl, l s ≠ D2 := fun s hs => ne_of_none (show (upd H2 q _) (l s) = _ from by rw [upd_ne (lq s hs)]; exact N.at_ s hs) hD2
      refine lc_it walk_keys (fun i H' => ∃ ps l2, H' D2 = some (.lst (ps.map V.ref)) ∧ PL K H' ps ((sortS pl).take i) (fun s => sortS (nb ts s)) l2 ∧ (∀ s ∈ (sortS pl).take i, H (l2 s) = none ∧ l2 s ≠ D2) ∧ ps.length = i ∧ H' q = some (.frz od (.dK ((sortS pl).map fun s => ((Sum.inr s : Key), V.ref (l s))))) ∧
          (∀ s ∈ sortS pl, H' (l s) = some (.lst ((nb ts s).map V.str))) ∧ Same H H') ⟨[], fun _ => 0, upd_same, .nil, by simp, rfl, by rw [upd_ne qD2]; exact upd_same, fun s hs => by rw [upd_ne (lD2 s hs), upd_ne (lq s hs)]; exact N.at_ s hs, Sf.trans (new_same hD2)⟩ ?_ ?_ ?_
      · rintro i H' hi ⟨ps, l2, _, _, _, _, hq, _⟩
        exact hq
      · rintro i x H' H3 hi ⟨ps, l2, hacc, pp2, fr2, pln2, hq, hls, S⟩ ⟨rfl, kk, vv, hkv, rfl⟩
        rw [List.getElem?_map] at hkv
        cases es : (sortS pl)[i]? with
        | none => rw [es] at hkv; cases hkv
        | some s =>
          rw [es] at hkv
          cases hkv
          have hs : s ∈ sortS pl := List.mem_of_getElem? es
          have dg : DGet H3 q (.str s) (some (V.ref (l s))) := .inl ⟨_, Sum.inr s, .inr ⟨od, hq⟩, rfl, (map_val (fun s => V.ref (l s)) hs).symm⟩
          refine ⟨rfl, yes_of ⟨_, rfl, _, rfl, _, rfl, q, _, rfl, dg, l s, nb ts s, rfl, .inl (SqL.of (hls s hs)), fun p np => ⟨by show 2 ≤ sizeLine; decide, fun T nT => ?_⟩⟩⟩
          have h2 := pp2.more (f := fun s => sortS (nb ts s)) (take_mem ndS es) np nT
          have SS := (new_same (o := .lst ((sortS (nb ts s)).map V.str)) np).trans (new_same (o := .tup [.str s, .ref p]) nT)
          have acc2 := SS _ _ hacc
          have q2' := SS _ _ hq
          have pD : p ≠ D2 := (ne_of_none hacc np).symm
          have npH : H p = none := S.free np
          have fr3 : ∀ t ∈ (sortS pl).take i ++ [s], H (if t = s then p else l2 t) = none ∧ (if t = s then p else l2 t) ≠ D2 := fun t ht => by
            by_cases e : t = s
            · rw [if_pos e]
              exact ⟨npH, pD⟩
            · rw [if_neg e]
              rcases List.mem_append.mp ht with ht | ht
              · exact fr2 t ht
              · exact absurd (List.mem_singleton.mp ht) e
          refine ⟨_, acc2, ?_, ps ++ [T], fun t => if t = s then p else l2 t, ?_, ?_, ?_, ?_, ?_, ?_, ?_⟩
          · rw [List.length_map, pln2]
            have := (List.getElem?_eq_some_iff.mp es).1
            exact small1000 (by omega)
          · rw [upd_same, List.map_append]
            rfl
          · rw [take_snoc es]
            exact h2.wr (fun ys e => by rw [acc2] at e; cases e) (fun v ys e => by rw [acc2] at e; cases e) fun t ht => (fr3 t ht).2
          · rw [take_snoc es]
            exact fr3
          · rw [List.length_append, pln2]; rfl
          · rw [upd_ne qD2]
            exact q2'
          · intro t ht
            rw [upd_ne (lD2 t ht)]
            exact SS _ _ (hls t ht)
          · exact fun b o e => by
              rw [upd_ne (ne_of_none e nD2H)]
              exact SS _ _ (S _ _ e)
      · rintro H3 ⟨ps, l2, hacc, pp2, fr2, pln2, hq, hls, S⟩
        rw [List.length_map, List.take_length] at pp2 fr2
        have l2q : ∀ s ∈ sortS pl, l2 s ≠ q := fun s hs z => by
          have := pp2.at_ s hs
          rw [z, hq] at this
          cases this
        have acc3 : (upd H3 q (.dK ((sortS pl).map fun s => ((Sum.inr s : Key), V.ref (l s))))) D2 = some (.lst (ps.map V.ref)) := by
          rw [upd_ne qD2.symm]
          exact hacc
        have pp3 := pp2.wr (D := q) (o := .dK ((sortS pl).map fun s => ((Sum.inr s : Key), V.ref (l s)))) (fun ys e => by rw [hq] at e; cases e) (fun v ys e => by rw [hq] at e; cases e) l2q
        refine ⟨hq, D2, ps, _, rfl, SqL.of acc3, pp3.pr, fun q3 n3 => ?_⟩
        rw [merge_strs ndS (fun s => V.ref (l2 s))]
        have S3 : Same H (upd H3 q (.dK ((sortS pl).map fun s => ((Sum.inr s : Key), V.ref (l s))))) := fun b o e => by
          rw [upd_ne (ne_of_none e nqH)]
          exact S b o e
        exact k q3 l2 _ ⟨upd_same, fun s hs => by rw [upd_ne (ne_of_none (pp3.at_ s hs) n3)]; exact pp3.at_ s hs, pp3.inj⟩ (S3.free n3) (fun s hs => (fr2 s hs).1) (S3.trans (new_same n3))
end
end E1

set_option Elab.async false
set_option linter.all false
set_option maxRecDepth 100000
set_option maxHeartbeats 8000000
namespace E1
open PySem PySem.Spec PyProof.Rows L2 G0
theorem hu65 {k : Nat} {A : Around} (r : Room k A) : A.units + 65 < cLine := by
  have := r.un
  omega
theorem atI_pred {α : Type} {xs : List α} {i : Nat} (h : i < xs.length) : ∃ v, atI xs ((i : Int) - 1) = some v ∧ xs[if i = 0 then xs.length - 1 else i - 1]? = some v := by
  cases i with
  | zero =>
    have ne : xs ≠ [] := fun e => by rw [e] at h; exact absurd h (Nat.lt_irrefl 0)
    refine ⟨xs.getLast ne, ?_, ?_⟩
    · have := atI_last xs.dropLast (xs.getLast ne)
      rw [List.dropLast_concat_getLast ne] at this
      exact this
    · rw [if_pos rfl, List.getLast_eq_getElem]
      exact List.getElem?_eq_getElem _
  | succ j =>
    have hj : j < xs.length := Nat.lt_of_succ_lt h
    refine ⟨xs[j], ?_, by rw [if_neg (Nat.succ_ne_zero j)]; exact List.getElem?_eq_getElem hj⟩
    rw [show ((j + 1 : Nat) : Int) - 1 = (j : Int) by omega]
    exact atI_nat (List.getElem?_eq_getElem hj)
theorem shp1 {q : Pr} (h : PyData.strOk q.1 = true ∧ PyData.strOk q.2 = true) : SeqAt.shaped (prD1 q) = true := by
  show ((prD1 q).canLay0 && decide ((prD1 q).depth ≤ 64)) = true
  rw [Bool.and_eq_true]
  exact ⟨by simp [prD1, PyData.canLay0, PyData.canLayAll0, h.1, h.2], decide_eq_true (by simp [prD1, PyData.depth, PyData.depthAll])⟩
theorem not_any {ts : List Pr} {q : Pr} (h : (!(ts.map prD1).any fun z => PyData.eqv z (prD1 q)) = true) : q ∉ ts := fun hm => by
  have : ((ts.map prD1).any fun z => PyData.eqv z (prD1 q)) = true := by
    rw [List.any_eq_true]
    exact ⟨prD1 q, List.mem_map.mpr ⟨q, hm, rfl⟩, by rw [eqv_pr]; exact decide_eq_true rfl⟩
  rw [this] at h
  cases h
end E1

set_option Elab.async false
set_option linter.all false
set_option maxRecDepth 100000
set_option maxHeartbeats 4000000
/-! A loose copy: lists and tuples at will. -/
namespace E1
open PySem PySem.Spec PyProof.Rows L2 G0
/-- what may be copied, nested no deeper than n, by no more than k draws -/
def Lq (C p l : Addr) (H : Hp) : Nat → V → Nat → Prop
  | 0 => fun v _ => Kn C H v ∧ itemsOf H v = none
  | n + 1 => fun v k => (Kn C H v ∧ itemsOf H v = none) ∨ ∃ a xs c, v = .ref a ∧ itemsOf H v = some xs ∧ a ≠ p ∧ a ≠ l ∧ xs.length ≤ 2000 ∧ (∀ x ∈ xs, Lq C p l H n x c) ∧ 1 + xs.length * c ≤ k
/-- w, in the heap H', is a loose copy of v in the heap H; N: where its lists and tuples lie -/
def Lz (C : Addr) (N : Addr → Prop) (H H' : Hp) (n : Nat) (v w : V) : Prop := match n with
  | 0 => w = v ∧ Kn C H v ∧ itemsOf H v = none
  | n + 1 => (w = v ∧ Kn C H v ∧ itemsOf H v = none) ∨ ∃ xs ys a, itemsOf H v = some xs ∧ w = .ref a ∧ (H' a = some (.lst ys) ∨ H' a = some (.tup ys)) ∧ N a ∧ xs.length = ys.length ∧ ∀ (i : Nat) (x y : V), xs[i]? = some x → ys[i]? = some y → Lz C (fun c => N c ∧ c ≠ a) H H' n x y
theorem Lz.frame {C : Addr} {H H' H2 : Hp} : ∀ {n : Nat} {N : Addr → Prop} {v w : V}, (∀ c o, N c → H' c = some o → H2 c = some o) → Lz C N H H' n v w → Lz C N H H2 n v w
  | 0, _, _, _, _, h => h
  | n + 1, _, _, _, S, h => by
    rcases h with h | ⟨xs, ys, a, h1, h2, h3, h4, h5, h6⟩
    · exact .inl h
    · exact .inr ⟨xs, ys, a, h1, h2, h3.elim (fun e => .inl (S _ _ h4 e)) (fun e => .inr (S _ _ h4 e)), h4, h5, fun i x y e1 e2 => Lz.frame (fun c o hc e => S c o hc.1 e) (h6 i x y e1 e2)⟩
/-- its addresses are there -/
theorem Lz.weak {C : Addr} {H H' : Hp} : ∀ {n : Nat} {N N' : Addr → Prop} {v w : V}, (∀ c, N c → (∃ o, H' c = some o) → N' c) → Lz C N H H' n v w → Lz C N' H H' n v w
  | 0, _, _, _, _, _, h => h
  | n + 1, _, _, _, _, S, h => by
    rcases h with h | ⟨xs, ys, a, h1, h2, h3, h4, h5, h6⟩
    · exact .inl h
    · exact .inr ⟨xs, ys, a, h1, h2, h3, S _ h4 (h3.elim (fun e => ⟨_, e⟩) fun e => ⟨_, e⟩), h5, fun i x y e1 e2 => Lz.weak (fun c hc ho => ⟨S c hc.1 ho, hc.2⟩) (h6 i x y e1 e2)⟩
theorem kn_but {C p l : Addr} {H H1 : Hp} {v : V} {n : Nat} (k : Kn C H v) (e : itemsOf H v = none) (S : Stm H p l n) (B : But2 H H1 p l) : Kn C H1 v ∧ itemsOf H1 v = none := by
  obtain ⟨⟨xs, hp⟩, ys, hl⟩ := S.at_
  cases k with
  | non => exact ⟨.non, rfl⟩
  | bl b => exact ⟨.bl b, rfl⟩
  | int i => exact ⟨.int i, rfl⟩
  | str x => exact ⟨.str x, rfl⟩
  | lst h => rw [items_at.mpr (.inl h)] at e; cases e
  | tup h => rw [items_at.mpr (.inr h)] at e; cases e
  | @dic a kvs h =>
    have h1 := B _ _ h (ne_of h hp (fun z => by cases z)) (ne_of h hl (fun z => by cases z))
    exact ⟨.dic h1, by simp only [itemsOf, h1]⟩
  | @own a dx fs h =>
    have h1 := B _ _ h (ne_of h hp (fun z => by cases z)) (ne_of h hl (fun z => by cases z))
    exact ⟨.own h1, by simp only [itemsOf, h1]⟩
theorem items_but {p l a : Addr} {H H1 : Hp} {xs : List V} (e : itemsOf H (.ref a) = some xs) (B : But2 H H1 p l) (h1 : a ≠ p) (h2 : a ≠ l) : itemsOf H1 (.ref a) = some xs :=
  items_at.mpr ((items_at.mp e).elim (fun h => .inl (B _ _ h h1 h2)) fun h => .inr (B _ _ h h1 h2))
theorem Lq.but {C p l : Addr} {H H1 : Hp} {m : Nat} (S : Stm H p l m) (B : But2 H H1 p l) : ∀ {n : Nat} {v : V} {k : Nat}, Lq C p l H n v k → Lq C p l H1 n v k
  | 0, _, _, h => kn_but h.1 h.2 S B
  | n + 1, _, _, h => by
    rcases h with h | ⟨a, xs, c, rfl, h1, h2, h3, h4, h5, h6⟩
    · exact .inl (kn_but h.1 h.2 S B)
    · exact .inr ⟨a, xs, c, rfl, items_but h1 B h2 h3, h2, h3, h4, fun x hx => Lq.but S B (h5 x hx), h6⟩
theorem Lz.old {C p l : Addr} {H H1 H' : Hp} {m : Nat} (S : Stm H p l m) (B : But2 H H1 p l) : ∀ {n : Nat} {N : Addr → Prop} {v w : V} {k : Nat}, Lq C p l H n v k → Lz C N H1 H' n v w → Lz C N H H' n v w
  | 0, _, _, _, _, h, g => ⟨g.1, h⟩
  | n + 1, _, _, _, _, h, g => by
    rcases h with h | ⟨a, xs, c, rfl, h1, h2, h3, h4, h5, h6⟩
    · rcases g with g | ⟨xs, ys, a, g1, _⟩
      · exact .inl ⟨g.1, h⟩
      · rw [(kn_but h.1 h.2 S B).2] at g1
        cases g1
    · rcases g with g | ⟨xs', ys, b, g1, g2, g3, g4, g5, g6⟩
      · rw [items_but h1 B h2 h3] at g
        cases g.2.2
      · rw [items_but h1 B h2 h3] at g1
        cases g1
        exact .inr ⟨xs, ys, b, h1, g2, g3, g4, g5, fun i x y e1 e2 => Lz.old S B (h5 x (List.mem_of_getElem? e1)) (g6 i x y e1 e2)⟩
theorem seq_test {K : PySem.W.Frag} {C : Addr} {H H' : Hp} {v : V} (O : OwnC K C) (k : Kn C H v) (S : Same H H') : ∃ t, TyX K H' v t ∧ PySem.W.kitAny K t [.type "list", .type "tuple"] = some (itemsOf H v).isSome := by
  obtain ⟨k1, k2⟩ := k.same S
  obtain ⟨ty, h1, h2⟩ := kn_seq O k1
  refine ⟨ty, h1, ?_⟩
  rw [h2]
  unfold isSeq
  rw [k2]
  exact congrArg some (kn_items k)
theorem items_kn {C : Addr} {H : Hp} {a : Addr} {xs : List V} (e : itemsOf H (.ref a) = some xs) : Kn C H (.ref a) := (items_at.mp e).elim (fun h => .lst h) fun h => .tup h
theorem small1000' {n : Nat} (h : n ≤ 2000) : n < sizeLine := Nat.lt_of_le_of_lt h (by decide)
abbrev N_loose : List Str := ["_law_stream", "_law_thing", "_law_found", "_law_part"]
theorem sc_loose : FnScope N_loose ["_law_stream", "_law_thing"] (defScope (topS 58)) := ⟨rfl, rfl, rfl, by decide +kernel, rfl, by decide +kernel, by decide +kernel⟩
def spLoose (C : Addr) (n : Nat) : Sp := fun vs H Q _ => ∃ (p l : Addr) (m k : Nat) (v : V), vs = [.ref p, v] ∧ Stm H p l m ∧ m + k < 80000000 ∧ Lq C p l H n v k ∧ ∀ w H', Lz C (fun c => H c = none) H H' n v w → Fr H p l (m + k) H' → Q w H'
section
variable {P : Program} {w : World} {K : PySem.W.Frag} {mg : Str → Option Value} {base : Heap}
theorem bLoose (Z : LawD K mg) : Binds K (Z.d 58) ["_law_stream", "_law_thing"] [] := (Z.F 58 (by decide)).binds fun _ _ _ _ _ _ us hl => match us, hl with | [_, _], _ => rfl
theorem ok_loose (Z : LawD K mg) : ∀ n, FnOk P w K mg base CX0 (n + 2) (Z.f 58) (Z.d 58) ["_law_stream", "_law_thing"] (spLoose Z.B.C n)
  | 0 => by
    have GD : FnOk P w K mg base CX0 1 Z.s.fD Z.s.dD ["_law_stream", "_law_many"] spDr := ok_dr Z.s
    refine Fun.ok (Z.F 58 (by decide)) sc_loose (fun vs H Q E h => ?_) (fun cdv A outer s H vs Q E hr h => ⟨_, pss_cons (ps_if (pt_not (pt_val (pe_callB call_isiT (by rfl) Z.t.isinstance (by decide +kernel) (pa_cons (pv 1) (pa_cons (pe_tup (pa_cons (pe_bltn (by rfl) Z.t.list PyProof.Rows.boot_list (v := .ty "list") rfl) (pa_cons (pe_bltn (by rfl) Z.t.tuple boot_tuple (v := .ty "tuple") rfl) pa_nil))) pa_nil))))) (pss_one (ps_ret (pv 1))) pss_nil)
      (pss_cons (ps_setLc (i := 2) (own := [("_law_part", 3)]) (tt := tYes) rfl sc_loose.nd rfl rfl (by rfl) (pi_seqQ (pv 1)) (blkOk_by (own := [("_law_part", 3)]) (N := N_loose) (sc := defScope (topS 58)) (by decide +kernel)) (fun _ _ _ _ _ => (pg_name (i := 3) sc_loose.nd rfl (Or.inl rfl))) (fun _ _ _ _ _ => pts_nil) (fun _ _ _ _ _ => pe_dead))
      (pss_one (ps_ret (pe_ifExp (pt_cmpR op_eq (pe_call GD hr (by rfl) Z.s.gD Z.s.FD.kp (bDr Z.s) .nil pass0 (pa_cons (pv 0) (pa_cons pe_int pa_nil))) pe_int (nomark _)) (pv 2) (pe_callTy call_tuple_of (by rfl) Z.t.tuple boot_tuple (pa_cons (pv 2) pa_nil)))))), ?_⟩)
    · obtain ⟨p, l, m, k, v, rfl, _⟩ := h
      rfl
    · obtain ⟨p, l, m, k, v, rfl, S, hm, hv, kk⟩ := h
      refine ⟨_, rfl, by show 2 ≤ sizeLine; decide, fun t nt => ?_⟩
      obtain ⟨ty, h1, h2⟩ := seq_test Z.B.O hv.1 (new_same (o := .tup [.ty "list", .ty "tuple"]) nt)
      rw [hv.2] at h2
      refine ⟨v, t, _, ty, _, _, rfl, upd_same, .cons (.ty _) (.cons (.ty _) .nil), h1, h2, _, rfl, iteT ⟨_, rfl, ?_⟩⟩
      exact kk v _ ⟨rfl, hv⟩ ((S.fr.put nt).mono (by omega))
  | n + 1 => by
    have GD : FnOk P w K mg base CX0 1 Z.s.fD Z.s.dD ["_law_stream", "_law_many"] spDr := ok_dr Z.s
    have GL : FnOk P w K mg base CX0 (n + 2) (Z.f 58) (Z.d 58) ["_law_stream", "_law_thing"] (spLoose Z.B.C n) := ok_loose Z n
    refine Fun.ok (Z.F 58 (by decide)) sc_loose (fun vs H Q E h => ?_) (fun cdv A outer s H vs Q E hr h => ⟨_, pss_cons (ps_if (pt_not (pt_val (pe_callB call_isiT (by rfl) Z.t.isinstance (by decide +kernel) (pa_cons (pv 1) (pa_cons (pe_tup (pa_cons (pe_bltn (by rfl) Z.t.list PyProof.Rows.boot_list (v := .ty "list") rfl) (pa_cons (pe_bltn (by rfl) Z.t.tuple boot_tuple (v := .ty "tuple") rfl) pa_nil))) pa_nil))))) (pss_one (ps_ret (pv 1))) pss_nil)
      (pss_cons (ps_setLc (i := 2) (own := [("_law_part", 3)]) (tt := tYes) rfl sc_loose.nd rfl rfl (by rfl) (pi_seqQ (pv 1)) (blkOk_by (own := [("_law_part", 3)]) (N := N_loose) (sc := defScope (topS 58)) (by decide +kernel)) (fun _ _ _ _ _ => (pg_name (i := 3) sc_loose.nd rfl (Or.inl rfl))) (fun _ _ _ _ _ => pts_nil) (fun _ _ _ _ _ => (pe_call GL hr (by rfl) (Z.g 58 (by decide)) (Z.F 58 (by decide)).kp (bLoose Z) .nil pass0 (pa_cons (pv 0) (pa_cons (pv 3) pa_nil)))))
      (pss_one (ps_ret (pe_ifExp (pt_cmpR op_eq (pe_call GD (hr.mono (by omega)) (by rfl) Z.s.gD Z.s.FD.kp (bDr Z.s) .nil pass0 (pa_cons (pv 0) (pa_cons pe_int pa_nil))) pe_int (nomark _)) (pv 2) (pe_callTy call_tuple_of (by rfl) Z.t.tuple boot_tuple (pa_cons (pv 2) pa_nil)))))), ?_⟩)
    · obtain ⟨p, l, m, k, v, rfl, _⟩ := h
      rfl
    · obtain ⟨p, l, m, k, v, rfl, S, hm, hv, kk⟩ := h
      refine ⟨_, rfl, by show 2 ≤ sizeLine; decide, fun t nt => ?_⟩
      have ST := new_same (o := .tup [.ty "list", .ty "tuple"]) nt
      have FT : Fr H p l m (upd H t (.tup [.ty "list", .ty "tuple"])) := S.fr.put nt
      rcases hv with hv | ⟨a, xs, c, rfl, e1, ap, al, lx, hx, hc⟩
      · obtain ⟨ty, h1, h2⟩ := seq_test Z.B.O hv.1 ST
        rw [hv.2] at h2
        refine ⟨v, t, _, ty, _, _, rfl, upd_same, .cons (.ty _) (.cons (.ty _) .nil), h1, h2, _, rfl, iteT ⟨_, rfl, ?_⟩⟩
        exact kk v _ (.inl ⟨rfl, hv⟩) (FT.mono (by omega))
      obtain ⟨ty, h1, h2⟩ := seq_test Z.B.O (items_kn (C := Z.B.C) e1) ST
      rw [e1] at h2
      refine ⟨.ref a, t, _, ty, _, _, rfl, upd_same, .cons (.ty _) (.cons (.ty _) .nil), h1, h2, _, rfl, iteF ?_⟩
      refine ⟨_, rfl, a, xs, rfl, lc_seqQ2 (items_Q (K := K) (items_same ST e1)) fun D hD => ?_⟩
      have nD := FT.free hD
      refine ⟨fun i H' => ∃ ys, H' D = some (.lst ys) ∧ ys.length = i ∧ (∀ (j : Nat) (x y : V), xs[j]? = some x → ys[j]? = some y → Lz Z.B.C (fun c => H c = none ∧ c ≠ D) H H' n x y) ∧ Fr H p l (m + i * c) H', ⟨[], upd_same, rfl, (fun j x y _ h => by simp at h), (FT.put nD).mono (by omega)⟩, ?_, ?_, ?_⟩
      · rintro i H' _ ⟨ys, _, _, _, F'⟩
        have key := items_but e1 F'.but ap al
        have keyT := items_same ST e1
        have hh : (upd H t (.tup [.ty "list", .ty "tuple"])) a = H' a := by
          rcases items_at.mp e1 with h | h
          · rw [ST _ _ h, F'.but _ _ h ap al]
          · rw [ST _ _ h, F'.but _ _ h ap al]
        refine ⟨fun zs h => ?_, fun zs h => ?_⟩
        · rcases h with (h | ⟨o, h⟩) | h
          · exact .inl (.inl (hh ▸ h))
          · exact .inl (.inr ⟨o, hh ▸ h⟩)
          · exact .inr h
        · rcases h with (h | ⟨o, h⟩) | h
          · exact .inl (.inl (hh ▸ h))
          · exact .inl (.inr ⟨o, hh ▸ h⟩)
          · exact .inr h
      · rintro i x H' hxi ⟨ys, hys, ly, hz, F'⟩
        have il := (List.getElem?_eq_some_iff.mp hxi).1
        have hx' := hx x (List.mem_of_getElem? hxi)
        have hm1 : (i + 1) * c ≤ xs.length * c := Nat.mul_le_mul_right c il
        rw [Nat.succ_mul] at hm1
        refine ⟨rfl, yes_of ⟨_, rfl, _, rfl, p, l, m + i * c, c, x, rfl, F'.st, by omega, hx'.but S F'.but, fun w H2 hw F2 => ?_⟩⟩
        have hys2 := F'.keep F2 nD hys
        refine ⟨ys, hys2, small1000' (by omega), ys ++ [w], upd_same, by rw [List.length_append, ly]; rfl, ?_, ?_⟩
        · intro j x' y h1 h2
          refine Lz.frame (H' := H2) (fun c' o hc' e => by rw [upd_ne hc'.2]; exact e) ?_
          rcases Nat.lt_trichotomy j ys.length with l | l | l
          · rw [List.getElem?_append_left l] at h2
            exact (hz j x' y h1 h2).frame fun c' o hc' e => F'.keep F2 hc'.1 e
          · rw [l, ly, hxi] at h1
            cases h1
            rw [List.getElem?_append_right (by omega), l, Nat.sub_self] at h2
            cases h2
            exact (Lz.old S F'.but hx' hw).weak fun c' hc' _ => ⟨F'.free hc', fun z => by rw [z, hys] at hc'; cases hc'⟩
          · rw [List.getElem?_eq_none (by rw [List.length_append]; simp; omega)] at h2
            cases h2
        · refine ((F'.trans F2).put nD).mono ?_
          rw [Nat.succ_mul]
          omega
      · rintro H' ⟨ys, hys, ly, hz, F'⟩
        refine ⟨_, rfl, p, l, _, 3, rfl, F'.st, by omega, by decide, by decide, fun r H3 hr3 F3 => ⟨rfl, _, rfl, ?_⟩⟩
        have hys3 := F'.keep F3 nD hys
        have F13 := F'.trans F3
        have hz3 : ∀ (j : Nat) (x y : V), xs[j]? = some x → ys[j]? = some y → Lz Z.B.C (fun c => H c = none ∧ c ≠ D) H H3 n x y := fun j x y h1 h2 => (hz j x y h1 h2).frame fun c' o hc' e => F'.keep F3 hc'.1 e
        refine ite2 (fun _ => ⟨_, rfl, ?_⟩) (fun _ => ⟨_, rfl, D, ys, rfl, .inl ⟨SqL.of hys3, fun t2 nt2 => ?_⟩⟩)
        · exact kk (.ref D) H3 (.inr ⟨xs, ys, D, e1, rfl, .inl hys3, nD, ly.symm, hz3⟩) (F13.mono (by omega))
        · have n2 := F13.free nt2
          refine kk (.ref t2) _ (.inr ⟨xs, ys, t2, e1, rfl, .inr upd_same, n2, ly.symm, fun j x y h1 h2 => ?_⟩) ((F13.put n2).mono (by omega))
          exact ((hz3 j x y h1 h2).weak (N' := fun c => H c = none ∧ c ≠ t2) fun c hc ho => ⟨hc.1, fun z => by
            obtain ⟨o, ho⟩ := ho
            rw [z, nt2] at ho
            cases ho⟩).frame fun c' o _ e => new_same nt2 _ _ e
end
end E1


set_option Elab.async false
set_option linter.all false
set_option maxRecDepth 100000
set_option maxHeartbeats 8000000
/-! A board made of a raw one. -/
namespace E1
open PySem PySem.Spec PyProof.Rows L2 G0
theorem prs_but {H H2 : Hp} {p l : Addr} {m : Nat} {tv : List V} {ts : List Pr} (F2 : Fr H p l m H2) (pt : PrsAt H tv ts) (fr : ∀ t, V.ref t ∈ tv → t ≠ p ∧ t ≠ l) : PrsAt H2 tv ts := ⟨pt.1, fun i v q e1 e2 => by
  obtain ⟨t, rfl, ht⟩ := pt.2 i v q e1 e2
  have h := fr t (List.mem_of_getElem? e1)
  exact ⟨t, rfl, F2.but _ _ ht h.1 h.2⟩⟩
/-- a list or a tuple of texts; N: where it lies -/
def HP (N : Addr → Prop) (H : Hp) (v : V) (ss : List Str) : Prop := ∃ a, v = .ref a ∧ itemsOf H v = some (ss.map V.str) ∧ N a
/-- a list or a tuple of pairs, either way about -/
def HT (N : Addr → Prop) (H : Hp) (v : V) (ps : List Pr) : Prop := ∃ a xs, v = .ref a ∧ itemsOf H v = some xs ∧ xs.length = ps.length ∧ N a ∧
  ∀ (j : Nat) (x : V) (q : Pr), xs[j]? = some x → ps[j]? = some q → ∃ u y z, x = .ref u ∧ itemsOf H x = some [.str y, .str z] ∧ tp y z = q ∧ N u
theorem itemsF {N : Addr → Prop} {H H' : Hp} {a : Addr} {xs : List V} (e : itemsOf H (.ref a) = some xs) (n : N a) (S : ∀ c o, N c → H c = some o → H' c = some o) : itemsOf H' (.ref a) = some xs :=
  items_at.mpr ((items_at.mp e).elim (fun h => .inl (S _ _ n h)) fun h => .inr (S _ _ n h))
theorem HP.frame {N : Addr → Prop} {H H' : Hp} {v : V} {ss : List Str} (h : HP N H v ss) (S : ∀ c o, N c → H c = some o → H' c = some o) : HP N H' v ss := by
  obtain ⟨a, rfl, e, n⟩ := h
  exact ⟨a, rfl, itemsF e n S, n⟩
theorem HT.frame {N : Addr → Prop} {H H' : Hp} {v : V} {ps : List Pr} (h : HT N H v ps) (S : ∀ c o, N c → H c = some o → H' c = some o) : HT N H' v ps := by
  obtain ⟨a, xs, rfl, e, l, n, k⟩ := h
  exact ⟨a, xs, rfl, itemsF e n S, l, n, fun j x q e1 e2 => by
    obtain ⟨u, y, z, rfl, e4, e5, e6⟩ := k j x q e1 e2
    exact ⟨u, y, z, rfl, itemsF e4 e6 S, e5, e6⟩⟩
theorem HP.weak {N N' : Addr → Prop} {H : Hp} {v : V} {ss : List Str} (h : HP N H v ss) (k : ∀ c, N c → N' c) : HP N' H v ss := by
  obtain ⟨a, rfl, e, n⟩ := h
  exact ⟨a, rfl, e, k _ n⟩
theorem HT.weak {N N' : Addr → Prop} {H : Hp} {v : V} {ps : List Pr} (h : HT N H v ps) (k : ∀ c, N c → N' c) : HT N' H v ps := by
  obtain ⟨a, xs, rfl, e, l, n, kk⟩ := h
  exact ⟨a, xs, rfl, e, l, k _ n, fun j x q e1 e2 => by
    obtain ⟨u, y, z, rfl, e4, e5, e6⟩ := kk j x q e1 e2
    exact ⟨u, y, z, rfl, e4, e5, k _ e6⟩⟩
theorem HP.lst {N : Addr → Prop} {H : Hp} {a : Addr} {ss : List Str} (h : H a = some (.lst (ss.map V.str))) (n : N a) : HP N H (.ref a) ss := ⟨a, rfl, items_at.mpr (.inl h), n⟩
theorem HT.lst {N : Addr → Prop} {H : Hp} {a : Addr} {tv : List V} {ps : List Pr} (h : H a = some (.lst tv)) (pt : PrsAt H tv ps) (lt : ∀ q ∈ ps, ltS q.1 q.2 = true) (n : N a) (n2 : ∀ t, V.ref t ∈ tv → N t) : HT N H (.ref a) ps := ⟨a, tv, rfl, items_at.mpr (.inl h), pt.1, n, fun j x q e1 e2 => by
  obtain ⟨t, rfl, ht⟩ := pt.2 j x q e1 e2
  exact ⟨t, q.1, q.2, rfl, items_at.mpr (.inr ht), tp_self (lt q (List.mem_of_getElem? e2)), n2 t (List.mem_of_getElem? e1)⟩⟩
theorem prs_perm {H : Hp} {vs ws : List V} {ps : List Pr} (h : PrsAt H vs ps) (p : ws.Perm vs) : ∃ qs : List Pr, qs.Perm ps ∧ PrsAt H ws qs := by
  let f : V → Pr := fun v => match v with
    | .ref t => match H t with
      | some (.tup [.str a, .str b]) => (a, b)
      | _ => default
    | _ => default
  have hf : ∀ (i : Nat) (v : V) (q : Pr), vs[i]? = some v → ps[i]? = some q → f v = q := fun i v q e1 e2 => by
    obtain ⟨t, rfl, ht⟩ := h.2 i v q e1 e2
    simp only [f, ht]
  have e : ps = vs.map f := by
    refine List.ext_getElem? fun i => ?_
    rw [List.getElem?_map]
    rcases Nat.lt_or_ge i vs.length with l | l
    · have l2 : i < ps.length := by rw [← h.1]; exact l
      rw [List.getElem?_eq_getElem l, List.getElem?_eq_getElem l2]
      exact congrArg some (hf i _ _ (List.getElem?_eq_getElem l) (List.getElem?_eq_getElem l2)).symm
    · rw [List.getElem?_eq_none l, List.getElem?_eq_none (by rw [← h.1]; exact l)]
      rfl
  refine ⟨ws.map f, by rw [e]; exact p.map f, by rw [List.length_map], fun i v q e1 e2 => ?_⟩
  rw [List.getElem?_map, e1] at e2
  have e2' : f v = q := by injection e2
  obtain ⟨j, hj⟩ := List.getElem?_of_mem (p.mem_iff.mp (List.mem_of_getElem? e1))
  have l2 : j < ps.length := by rw [← h.1]; exact (List.getElem?_eq_some_iff.mp hj).1
  obtain ⟨t, et, ht⟩ := h.2 j v _ hj (List.getElem?_eq_getElem l2)
  have := hf j v _ hj (List.getElem?_eq_getElem l2)
  rw [← e2', this]
  exact ⟨t, et, ht⟩
theorem nameB_len {z : Str} (h : nameB z = true) : z.length ≤ 1000 := by
  unfold nameB at h
  simp only [Bool.and_eq_true, decide_eq_true_eq] at h
  omega
theorem HP.kn {N : Addr → Prop} {C : Addr} {H : Hp} {v : V} {ss : List Str} (h : HP N H v ss) : Kn C H v := by
  obtain ⟨a, rfl, e, _⟩ := h
  exact items_kn e
theorem HT.kn {N : Addr → Prop} {C : Addr} {H : Hp} {v : V} {ps : List Pr} (h : HT N H v ps) : Kn C H v := by
  obtain ⟨a, xs, rfl, e, _⟩ := h
  exact items_kn e
/-- Board(p, t, r) of right things -/
theorem made_ok {N N2 N3 : Addr → Prop} {mg : Str → Option Value} {K : PySem.W.Frag} {D : BoardD K mg} {H : Hp} {p t r : V} {ps : List Str} {qs : List Pr} {rs : List Str} {nx : List Str → List Pr → List Str → Prop} {E : XK} (hp : HP N H p ps) (ht : HT N2 H t qs) (hr : HP N3 H r rs)
    (nd : ps.Nodup) (nm : ∀ z ∈ ps, nameB z = true) (lp : ps.length ≤ 1000) (tok : TsOk ps qs) (lq : qs.length ≤ 1000) (rnd : rs.Nodup) (rin : ∀ z ∈ rs, z ∈ ps) (q : nx ps qs rs) : MadeR K D H p t r nx E := by
  have lr : rs.length ≤ 1000 := Nat.le_trans (rnd.length_le_of_subset rin) lp
  obtain ⟨a, xs, rfl, e1, l1, _, k1⟩ := id ht
  have hx : ∀ x ∈ xs, ∃ u y z q, x = .ref u ∧ itemsOf H x = some [.str y, .str z] ∧ q ∈ qs ∧ tp y z = q := fun x hx => by
    obtain ⟨j, hj⟩ := List.getElem?_of_mem hx
    have hl : j < qs.length := by
      rw [← l1]
      exact (List.getElem?_eq_some_iff.mp hj).1
    obtain ⟨u, y, z, g1, g2, g3, _⟩ := k1 j x _ hj (List.getElem?_eq_getElem hl)
    exact ⟨u, y, z, _, g1, g2, List.getElem_mem hl, g3⟩
  have inP : ∀ y z, tp y z ∈ qs → y ∈ ps ∧ z ∈ ps ∧ y ≠ z := fun y z h => by
    obtain ⟨g1, g2, g3⟩ := tok.ok _ h
    have ne : y ≠ z := fun e => by
      subst e
      rcases tp_cases y y with e | e <;> rw [e] at g3 <;> exact absurd g3 (by rw [ltS_irr]; decide)
    rcases tp_cases y z with e | e <;> rw [e] at g1 g2
    · exact ⟨g1, g2, ne⟩
    · exact ⟨g2, g1, ne⟩
  refine ⟨hp.kn, .inr ⟨ps, ?_, lp, fun z hz => nameB_len (nm z hz), ⟨nd, nm⟩, ht.kn, .inr ⟨xs, qs, e1, by omega, ?_, l1.symm, ⟨tok.nd, by omega, ?_⟩, hr.kn, .inr ⟨rs, ?_, lr, fun z hz => nameB_len (nm z (rin z hz)), ⟨rnd, rin⟩, q⟩⟩⟩⟩
  · obtain ⟨_, _, e, _⟩ := hp
    exact e
  · intro x hm
    obtain ⟨u, y, z, q, rfl, g2, g3, g4⟩ := hx x hm
    refine ⟨items_kn g2, fun ys hys => ?_⟩
    rw [g2] at hys
    cases hys
    have h3 := inP y z (g4 ▸ g3)
    refine ⟨by show 2 ≤ 1000; decide, fun w hw => ?_⟩
    rcases List.mem_cons.mp hw with rfl | hw
    · exact ⟨.str y, fun z' e => by cases e; exact nameB_len (nm y h3.1)⟩
    · rw [List.mem_singleton.mp hw]
      exact ⟨.str z, fun z' e => by cases e; exact nameB_len (nm z h3.2.1)⟩
  · intro j x q e2 e3
    obtain ⟨u, y, z, rfl, g2, g3, _⟩ := k1 j x q e2 e3
    have h3 := inP y z (g3 ▸ List.mem_of_getElem? e3)
    exact ⟨y, z, g2, h3.2.2, h3.1, h3.2.1, g3⟩
  · obtain ⟨_, _, e, _⟩ := hr
    exact e
/-! ### what may be copied loosely -/
theorem lq_strs {C p l : Addr} {N : Addr → Prop} {H : Hp} {v : V} {ss : List Str} {n k : Nat} (h : HP N H v ss) (hN : ∀ c, N c → c ≠ p ∧ c ≠ l) (ls : ss.length ≤ 2000) (hk : 1 ≤ k) : Lq C p l H (n + 1) v k := by
  obtain ⟨a, rfl, e, na⟩ := h
  refine .inr ⟨a, _, 0, rfl, e, (hN a na).1, (hN a na).2, by rw [List.length_map]; exact ls, fun x hx => ?_, by omega⟩
  obtain ⟨z, _, rfl⟩ := List.mem_map.mp hx
  cases n with
  | zero => exact ⟨.str z, rfl⟩
  | succ n => exact .inl ⟨.str z, rfl⟩
theorem lq_prs {C p l : Addr} {N : Addr → Prop} {H : Hp} {v : V} {ps : List Pr} {n k : Nat} (h : HT N H v ps) (hN : ∀ c, N c → c ≠ p ∧ c ≠ l) (ls : ps.length ≤ 2000) (hk : 1 + ps.length ≤ k) : Lq C p l H (n + 2) v k := by
  obtain ⟨a, xs, rfl, e, l1, na, k1⟩ := h
  refine .inr ⟨a, xs, 1, rfl, e, (hN a na).1, (hN a na).2, by omega, fun x hx => ?_, by omega⟩
  obtain ⟨j, hj⟩ := List.getElem?_of_mem hx
  have hl : j < ps.length := by
    rw [← l1]
    exact (List.getElem?_eq_some_iff.mp hj).1
  obtain ⟨u, y, z, rfl, g2, g3, nu⟩ := k1 j x _ hj (List.getElem?_eq_getElem hl)
  exact lq_strs (ss := [y, z]) ⟨u, rfl, g2, nu⟩ hN (by show 2 ≤ 2000; decide) (Nat.le_refl _)
theorem lz_strs {C : Addr} {N N0 : Addr → Prop} {H H' : Hp} {v w : V} {ss : List Str} {n : Nat} (h : HP N0 H v ss) (z : Lz C N H H' (n + 1) v w) : HP N H' w ss := by
  obtain ⟨a, rfl, e, _⟩ := h
  rcases z with ⟨_, _, e2⟩ | ⟨xs, ys, b, e1, rfl, hb, nb, ll, k⟩
  · rw [e] at e2
    cases e2
  · rw [e] at e1
    cases e1
    have ey : ys = ss.map V.str := by
      refine List.ext_getElem? fun i => ?_
      rcases Nat.lt_or_ge i ys.length with h | h
      · have h2 : i < (ss.map V.str).length := by omega
        have e3 := List.getElem?_eq_getElem h
        have e4 := List.getElem?_eq_getElem h2
        have hz := k i _ _ e4 e3
        have key : ys[i] = (ss.map V.str)[i] := by
          obtain ⟨s, _, es⟩ := List.mem_map.mp (List.mem_of_getElem? e4)
          cases n with
          | zero => exact hz.1
          | succ n =>
            rcases hz with h | ⟨xs, ys, a, h1, _⟩
            · exact h.1
            · rw [← es] at h1
              cases h1
        rw [e3, e4, key]
      · rw [List.getElem?_eq_none h, List.getElem?_eq_none (by omega)]
    subst ey
    exact ⟨b, rfl, items_at.mpr hb, nb⟩
theorem lz_prs {C : Addr} {N N0 : Addr → Prop} {H H' : Hp} {v w : V} {ps : List Pr} {n : Nat} (h : HT N0 H v ps) (z : Lz C N H H' (n + 2) v w) : HT N H' w ps := by
  obtain ⟨a, xs, rfl, e, l1, _, k1⟩ := h
  rcases z with ⟨_, _, e2⟩ | ⟨xs', ys, b, e1, rfl, hb, nb, ll, k⟩
  · rw [e] at e2
    cases e2
  · rw [e] at e1
    cases e1
    refine ⟨b, ys, rfl, items_at.mpr hb, by omega, nb, fun j y q e2 e3 => ?_⟩
    have hl : j < xs.length := by
      have := (List.getElem?_eq_some_iff.mp e2).1
      omega
    obtain ⟨u, s, t, g1, g2, g3, g4⟩ := k1 j _ q (List.getElem?_eq_getElem hl) e3
    have hz := k j _ y (List.getElem?_eq_getElem hl) e2
    obtain ⟨b', rfl, g5, g6⟩ := lz_strs (N0 := N0) (ss := [s, t]) ⟨u, g1, g2, g4⟩ hz
    exact ⟨b', s, t, rfl, g5, g3, g6.1⟩
abbrev N_a_made : List Str := ["_law_stream", "_law_raw", "_law_ties", "_law_pair", "_law_places"]
theorem sc_a_made : FnScope N_a_made ["_law_stream", "_law_raw"] (defScope (topS 43)) := ⟨rfl, rfl, rfl, by decide +kernel, rfl, by decide +kernel, by decide +kernel⟩
def spMade (C : Addr) : Sp := fun vs H Q _ => ∃ (p l q : Addr) (n : Nat) (N : Addr → Prop) (pl : List Str) (ts : List Pr) (rm : List Str), vs = [.ref p, .ref q] ∧ Stm H p l n ∧ n < 70000000 ∧ RawAt N H q pl ts rm ∧ (∀ c, N c → c ≠ p ∧ c ≠ l) ∧ RawOk pl ts rm ∧
  ∀ x H', BoardAt (fun c => H c = none) C H' x (sortS pl) (sortPr ts) rm → Fr H p l (n + 4000) H' → Q (.ref x) H'
section
variable {P : Program} {w : World} {K : PySem.W.Frag} {mg : Str → Option Value} {base : Heap}
theorem bInit (B : BoardD K mg) : Binds K (B.d 0) ["self", "places", "ties", "rim"] [] := bindsD B.F0 fun _ _ _ _ _ _ us hl => match us, hl with | [_, _, _, _], _ => rfl
theorem bMade (Z : LawD K mg) : Binds K (Z.d 43) ["_law_stream", "_law_raw"] [] := (Z.F 43 (by decide)).binds fun _ _ _ _ _ _ us hl => match us, hl with | [_, _], _ => rfl
theorem ok_a_made (Z : LawD K mg) : FnOk P w K mg base (L2.CX P w) 6 (Z.f 43) (Z.d 43) ["_law_stream", "_law_raw"] (spMade Z.B.C) := by
  have GM : FnOk P w K mg base CX0 2 Z.s.fM Z.s.dM ["_law_stream", "_law_some"] (spMx K) := ok_mx Z.s
  have GD : FnOk P w K mg base CX0 1 Z.s.fD Z.s.dD ["_law_stream", "_law_many"] spDr := ok_dr Z.s
  have GL : FnOk P w K mg base CX0 4 (Z.f 58) (Z.d 58) ["_law_stream", "_law_thing"] (spLoose Z.B.C 2) := ok_loose Z 2
  have GI : FnOk P w K mg base (L2.CX P w) 4 (Z.B.f 0) (Z.B.d 0) ["self", "places", "ties", "rim"] (spInit K Z.B) := ok_init Z.B Z.n Z.t
  refine Fun.okX (Z.F 43 (by decide)) sc_a_made (fun vs H Q E h => ?_) (fun cdv A outer s H vs Q E hr h => ⟨_, pss_cons (ps_setLc (i := 2) (own := [("_law_pair", 3)]) (tt := tYes) (te := tIf (tTest (tOp rEq (tCall spDr [] L2.E0 (tCons (tVar 0) (tCons (tC (.int 2)) tNil))) (tC (.int 0)))) (tVar 3) (tTup (tCons (tOp (rIxT K) (tVar 3) (tC (.int 1))) (tCons (tOp (rIxT K) (tVar 3) (tC (.int 0))) tNil)))) rfl sc_a_made.nd rfl rfl (by rfl) (pi_list (pe_call GM (hr.mono (by decide)) (by rfl) Z.s.gM Z.s.FM.kp (bMx Z.s) .nil pass0 (pa_cons (pv 0) (pa_cons (pe_ix ix_tup (pv 1) pe_int (fun _ _ => rfl)) pa_nil)))) (blkOk_by (own := [("_law_pair", 3)]) (N := N_a_made) (sc := defScope (topS 43)) (by decide +kernel)) (fun _ _ _ _ _ => (pg_name (i := 3) sc_a_made.nd rfl (Or.inl rfl))) (fun _ _ _ _ _ => pts_nil) (fun _ _ _ _ _ => (pe_ifExp (pt_cmpR op_eq (pe_call GD (hr.mono (by decide)) (by rfl) Z.s.gD Z.s.FD.kp (bDr Z.s) .nil pass0 (pa_cons (pv 0) (pa_cons pe_int pa_nil))) pe_int (nomark _)) (pv 3) (pe_tup (pa_cons (pe_ix ix_tup (pv 3) pe_int (fun _ _ => rfl)) (pa_cons (pe_ix ix_tup (pv 3) pe_int (fun _ _ => rfl)) pa_nil))))))
  (pss_cons (ps_set (i := 4) sc_a_made.nd rfl (Or.inl rfl) (pe_call GL (hr.mono (by decide)) (by rfl) (Z.g 58 (by decide)) (Z.F 58 (by decide)).kp (bLoose Z) .nil pass0 (pa_cons (pv 0) (pa_cons (pe_call GM (hr.mono (by decide)) (by rfl) Z.s.gM Z.s.FM.kp (bMx Z.s) .nil pass0 (pa_cons (pv 0) (pa_cons (pe_ix ix_tup (pv 1) pe_int (fun _ _ => rfl)) pa_nil))) pa_nil))))
  (pss_one (ps_ret (pe_make Z.B.M0 GI hr (by rfl) Z.B.g (bInit Z.B) .nil passL (pa_cons (pv 4) (pa_cons (pe_call GL (hr.mono (by decide)) (by rfl) (Z.g 58 (by decide)) (Z.F 58 (by decide)).kp (bLoose Z) .nil pass0 (pa_cons (pv 0) (pa_cons (pv 2) pa_nil))) (pa_cons (pe_call GL (hr.mono (by decide)) (by rfl) (Z.g 58 (by decide)) (Z.F 58 (by decide)).kp (bLoose Z) .nil pass0 (pa_cons (pv 0) (pa_cons (pe_ix ix_tup (pv 1) pe_int (fun _ _ => rfl)) pa_nil))) pa_nil))))))), ?_⟩)
  · obtain ⟨p, l, q, n, N, pl, ts, rm, rfl, _⟩ := h
    rfl
  · obtain ⟨p, l, q, n, N, pl, ts, rm, rfl, S, hn, raw0, hN, ok, k⟩ := h
    obtain ⟨aP, aT, aR, tv, g1, g2, g3, g4, g5, nq, nP, nT, nR, nt⟩ := id raw0
    have lts := ok.ts.len ok.len
    have ltv : tv.length = ts.length := g4.1
    have lpl := ok.len
    refine ⟨_, rfl, _, rfl, q, _, 1, _, rfl, rfl, SqT.of g1, rfl, p, l, aT, n, tv, rfl, S, by omega, SqL.of g3, by omega, fun s ys H1 hperm F1 ns hs => ⟨s, rfl, ⟨_, SqL.of hs⟩, fun D hD => ?_⟩⟩
    have pt1 := prs_but F1 g4 fun t ht => hN t (nt t ht)
    obtain ⟨us, uperm, pty⟩ := prs_perm pt1 hperm
    have toku : TsOk pl us := ok.ts.perm uperm
    have lus : us.length = ts.length := uperm.length_eq
    have nyN : ∀ t, V.ref t ∈ ys → t ≠ p ∧ t ≠ l := fun t ht => hN t (nt t (hperm.mem_iff.mp ht))
    have nD := F1.free hD
    have Ds : s ≠ D := ne_of_none hs hD
    have ly : ys.length = ts.length := by rw [hperm.length_eq, ltv]
    refine lc_list (xs := ys) (fun i H' => ∃ acc, H' D = some (.lst acc) ∧ acc.length = i ∧ (∀ (j : Nat) (x : V) (q : Pr), acc[j]? = some x → us[j]? = some q → ∃ u y z, x = .ref u ∧ H' u = some (.tup [.str y, .str z]) ∧ tp y z = q ∧ u ≠ p ∧ u ≠ l) ∧ H' s = some (.lst ys) ∧ PrsAt H' ys us ∧ Fr H p l (n + ts.length + i) H') ⟨[], upd_same, rfl, (fun j x q h => by simp at h), by rw [upd_ne Ds]; exact hs, prs_upd pty (fun xs e => by rw [hD] at e; cases e), (F1.put nD).mono (by omega)⟩ (fun i H' _ ⟨_, _, _, _, h, _⟩ => SqL.of h) ?_ ?_
    · rintro i x H' hx ⟨acc, hacc, lac, hin, hs', pt', F'⟩
      have il := (List.getElem?_eq_some_iff.mp hx).1
      have eu : us[i]? = some (us[i]'(by omega)) := List.getElem?_eq_getElem _
      obtain ⟨u, rfl, hu⟩ := pt'.2 i x _ hx eu
      have nu := nyN u (List.mem_of_getElem? hx)
      have lti := (toku.ok _ (List.mem_of_getElem? eu)).2.2
      -- what is put behind
      have put : ∀ (H2 : Hp) (t : Addr) (y z : Str), Fr H' p l (n + ts.length + (i + 1)) H2 → H2 t = some (.tup [.str y, .str z]) → tp y z = us[i]'(by omega) → t ≠ p → t ≠ l → ∃ acc2, H2 D = some (.lst acc2) ∧ acc2.length < sizeLine ∧ ∃ acc, (upd H2 D (.lst (acc2 ++ [.ref t]))) D = some (.lst acc) ∧ acc.length = i + 1 ∧ (∀ (j : Nat) (x : V) (q : Pr), acc[j]? = some x → us[j]? = some q → ∃ u y z, x = .ref u ∧ (upd H2 D (.lst (acc2 ++ [.ref t]))) u = some (.tup [.str y, .str z]) ∧ tp y z = q ∧ u ≠ p ∧ u ≠ l) ∧ (upd H2 D (.lst (acc2 ++ [.ref t]))) s = some (.lst ys) ∧ PrsAt (upd H2 D (.lst (acc2 ++ [.ref t]))) ys us ∧ Fr H p l (n + ts.length + (i + 1)) (upd H2 D (.lst (acc2 ++ [.ref t]))) := fun H2 t y z F2 ht et n1 n2 => by
        have acc2 := F'.keep F2 nD hacc
        have tD : t ≠ D := ne_of ht acc2 (fun z => by cases z)
        refine ⟨acc, acc2, ?_, acc ++ [.ref t], upd_same, ?_, ?_, ?_, ?_, (F'.trans F2).put nD⟩
        · rw [lac]
          exact small1000 (by omega)
        · rw [List.length_append, lac]; rfl
        · intro j x q h1 h2
          rcases Nat.lt_trichotomy j acc.length with h | h | h
          · rw [List.getElem?_append_left h] at h1
            obtain ⟨u', y', z', rfl, k1, k2, k3, k4⟩ := hin j x q h1 h2
            have k5 := F2.but _ _ k1 k3 k4
            exact ⟨u', y', z', rfl, by rw [upd_ne (ne_of k5 acc2 (fun z => by cases z))]; exact k5, k2, k3, k4⟩
          · rw [List.getElem?_append_right (by omega), h, Nat.sub_self] at h1
            cases h1
            rw [h, lac, eu] at h2
            cases h2
            exact ⟨t, y, z, rfl, by rw [upd_ne tD]; exact ht, et, n1, n2⟩
          · rw [List.getElem?_eq_none (by rw [List.length_append]; simp; omega)] at h1
            cases h1
        · rw [upd_ne Ds]
          exact F'.keep F2 ns hs'
        · refine prs_upd (prs_but F2 pt' nyN) (fun xs e => ?_)
          rw [acc2] at e
          cases e
      refine ⟨rfl, yes_of ⟨_, rfl, p, l, _, 2, rfl, F'.st, by omega, by decide, by decide, fun r H2 hr2 F2 => ⟨rfl, _, rfl, ite2 (fun c => ⟨_, rfl, put H2 u _ _ F2 (F2.but _ _ hu nu.1 nu.2) (tp_self lti) nu.1 nu.2⟩) (fun c => ?_)⟩⟩⟩
      have hu2 := F2.but _ _ hu nu.1 nu.2
      refine ⟨_, rfl, u, _, 1, _, rfl, rfl, SqT.of hu2, rfl, _, rfl, u, _, 0, _, rfl, rfl, SqT.of hu2, rfl, by show 2 ≤ sizeLine; decide, fun t nt' => ?_⟩
      have ntH := (F'.trans F2).free nt'
      have nt2 := F'.ne ntH
      exact put _ t _ _ (F2.put (F2.free nt')) upd_same (by rw [tp_swap]; exact tp_self lti) nt2.1 nt2.2
    rintro H2 ⟨acc, hacc, lac, hin, hs2, _, F2⟩
    have hN0 : ∀ c, (N c ∨ H c = none) → c ≠ p ∧ c ≠ l := fun c hc => hc.elim (hN c) fun h => F2.ne h
    have ht2 : HT (fun c => c ≠ p ∧ c ≠ l) H2 (.ref D) us := ⟨D, acc, rfl, items_at.mpr (.inl hacc), by omega, F2.ne nD, fun j x q e1 e2 => by
      obtain ⟨u, y, z, h1, h2, h3, h4⟩ := hin j x q e1 e2
      exact ⟨u, y, z, h1, by rw [h1]; exact items_at.mpr (.inr h2), h3, h4⟩⟩
    -- the places
    have q2 := hN q nq
    have P2 := hN aP nP
    have R2 := hN aR nR
    refine ⟨_, rfl, _, rfl, _, rfl, q, _, 0, _, rfl, rfl, SqT.of (F2.but _ _ g1 q2.1 q2.2), rfl, p, l, aP, _, pl.map V.str, rfl, F2.st, by omega, SqL.of (F2.but _ _ g2 P2.1 P2.2), by rw [List.length_map]; omega, fun s2 ys2 H3 hperm2 F3 ns2 hs2 => ?_⟩
    obtain ⟨ps, rfl, pperm⟩ := strs_perm hperm2
    have lps : ps.length = pl.length := pperm.length_eq
    have F03 := F2.trans F3
    rw [List.length_map] at F03
    have ht3 := ht2.frame (H' := H3) fun c o hc e => F3.but _ _ e hc.1 hc.2
    have hp3 : HP (fun c => c ≠ p ∧ c ≠ l) H3 (.ref s2) ps := HP.lst hs2 (F2.ne (F2.free ns2))
    refine ⟨p, l, _, 1, .ref s2, rfl, F03.st, by omega, lq_strs hp3 (fun c h => h) (by omega) (Nat.le_refl _), fun w1 H4 z4 F4 => ?_⟩
    have F04 := F03.trans F4
    have hp4 := (lz_strs hp3 z4).weak (N' := fun c => c ≠ p ∧ c ≠ l) fun c hc => F03.ne (F03.free hc)
    have ht4 := ht3.frame (H' := H4) fun c o hc e => F4.but _ _ e hc.1 hc.2
    refine ⟨_, rfl, _, rfl, _, rfl, p, l, _, 1 + us.length, .ref D, rfl, F04.st, by omega, lq_prs ht4 (fun c h => h) (by omega) (Nat.le_refl _), fun w2 H5 z5 F5 => ?_⟩
    have F05 := F04.trans F5
    have ht5 := (lz_prs ht4 z5).weak (N' := fun c => c ≠ p ∧ c ≠ l) fun c hc => F04.ne (F04.free hc)
    have hp5 := hp4.frame (H' := H5) fun c o hc e => F5.but _ _ e hc.1 hc.2
    have hr5 : HP (fun c => c ≠ p ∧ c ≠ l) H5 (.ref aR) rm := HP.lst (F05.but _ _ g5 R2.1 R2.2) R2
    refine ⟨_, rfl, _, rfl, q, _, 2, _, rfl, rfl, SqT.of (F05.but _ _ g1 q2.1 q2.2), rfl, p, l, _, 1, .ref aR, rfl, F05.st, by omega, lq_strs hr5 (fun c h => h) (by have := ok.rnd.length_le_of_subset ok.rin; omega) (Nat.le_refl _), fun w3 H6 z6 F6 => ?_⟩
    have F06 := F05.trans F6
    have hr6 := (lz_strs hr5 z6).weak (N' := fun c => c ≠ p ∧ c ≠ l) fun c hc => F05.ne (F05.free hc)
    have hp6 := hp5.frame (H' := H6) fun c o hc e => F6.but _ _ e hc.1 hc.2
    have ht6 := ht5.frame (H' := H6) fun c o hc e => F6.but _ _ e hc.1 hc.2
    intro x dx nx ndx ne
    have Sx : Same H6 (upd (upd H6 dx (.own x)) x (.ins Z.B.C dx [])) := (new_same ndx).trans (new_same (by rw [upd_ne ne.symm]; exact nx))
    refine ⟨x, dx, w1, w2, w3, rfl, upd_same, made_ok (hp6.frame fun c o _ e => Sx _ _ e) (ht6.frame fun c o _ e => Sx _ _ e) (hr6.frame fun c o _ e => Sx _ _ e) (pperm.nodup_iff.mpr ok.nd) (fun z hz => ok.name (pperm.mem_iff.mp hz)) (by omega) (toku.mono fun z hz => pperm.mem_iff.mpr hz) (by omega) ok.rnd (fun z hz => pperm.mem_iff.mpr (ok.rin z hz)) fun H' hB hk => ⟨rfl, ?_⟩⟩
    rw [sortS_of_perm pperm, sortPr_of_perm uperm] at hB
    refine k x H' (hB.weak fun c hc => ?_) (((F06.same (Same.of fun b o e => hk b o (fun q => by rw [q, nx] at e; cases e) (Sx _ _ e)))).mono (by omega))
    rcases hc with rfl | hc
    · exact F06.free nx
    · exact F06.free (Sx.free hc)
end
end E1

set_option Elab.async false
set_option linter.all false
set_option maxRecDepth 100000
set_option maxHeartbeats 8000000
/-! Each once. -/
namespace E1
open PySem PySem.Spec PyProof.Rows L2 G0
/-- each once, in the order in which they first stand -/
def onceA {α : Type} [DecidableEq α] (acc : List α) (x : α) : List α := if x ∈ acc then acc else acc ++ [x]
def once {α : Type} [DecidableEq α] (xs : List α) : List α := xs.foldl onceA []
section
variable {α : Type} [DecidableEq α]
theorem once_snoc {xs : List α} {i : Nat} {x : α} (h : xs[i]? = some x) : once (xs.take (i + 1)) = onceA (once (xs.take i)) x := by
  unfold once
  rw [take_snoc h, List.foldl_append]
  rfl
theorem onceA_mem {acc : List α} {x y : α} : y ∈ onceA acc x ↔ y ∈ acc ∨ y = x := by
  unfold onceA
  split
  · rename_i h
    exact ⟨.inl, fun q => q.elim id fun e => e ▸ h⟩
  · simp
theorem onceA_nd {acc : List α} {x : α} (h : acc.Nodup) : (onceA acc x).Nodup := by
  unfold onceA
  split
  · exact h
  · rename_i hn
    exact List.nodup_append.mpr ⟨h, by simp, fun a ha b hb e => hn (by rw [← List.mem_singleton.mp hb, ← e]; exact ha)⟩
theorem foldl_once_mem : ∀ (xs acc : List α) (y : α), y ∈ xs.foldl onceA acc ↔ y ∈ acc ∨ y ∈ xs
  | [], acc, y => by simp
  | x :: xs, acc, y => by
    rw [List.foldl_cons, foldl_once_mem xs, onceA_mem]
    simp only [List.mem_cons]
    exact ⟨fun h => h.elim (fun h => h.elim .inl fun e => .inr (.inl e)) fun h => .inr (.inr h), fun h => h.elim (fun h => .inl (.inl h)) fun h => h.elim (fun e => .inl (.inr e)) .inr⟩
theorem foldl_once_nd : ∀ (xs acc : List α), acc.Nodup → (xs.foldl onceA acc).Nodup
  | [], acc, h => h
  | x :: xs, acc, h => foldl_once_nd xs _ (onceA_nd h)
theorem once_mem {xs : List α} {y : α} : y ∈ once xs ↔ y ∈ xs := by
  unfold once
  rw [foldl_once_mem]
  simp
theorem once_nd (xs : List α) : (once xs).Nodup := foldl_once_nd xs [] List.nodup_nil
theorem onceA_sub (acc : List α) (x : α) : (onceA acc x).Sublist (acc ++ [x]) := by
  unfold onceA
  split
  · exact List.sublist_append_left _ _
  · exact List.Sublist.refl _
theorem foldl_once_sub : ∀ (xs acc : List α), (xs.foldl onceA acc).Sublist (acc ++ xs)
  | [], acc => by simp
  | x :: xs, acc => by
    have h := foldl_once_sub xs (onceA acc x)
    refine h.trans ?_
    have := (onceA_sub acc x).append (List.Sublist.refl xs)
    simpa using this
theorem once_sub (xs : List α) : (once xs).Sublist xs := by
  have := foldl_once_sub xs []
  simpa [once] using this
end
/-- values that are these -/
def A2 {α : Type} (P : V → α → Prop) (xs : List V) (qs : List α) : Prop := xs.length = qs.length ∧ ∀ (i : Nat) (v : V) (q : α), xs[i]? = some v → qs[i]? = some q → P v q
/-- values as data -/
structure EncD (K : PySem.W.Frag) {α : Type} [DecidableEq α] (R : Hp → V → α → Prop) (f : α → PyData) (ok : α → Prop) : Prop where
  stb : ∀ {H H' : Hp} {v : V} {q : α}, Same H H' → R H v q → R H' v q
  dp : ∀ {H : Hp} {v : V} {q : α}, R H v q → Dp K H v (f q)
  lay : ∀ q, ok q → (f q).canLay0 = true ∧ (f q).depth ≤ 8
  eqv : ∀ q q', PyData.eqv (f q) (f q') = decide (q = q')
section
variable {K : PySem.W.Frag} {α : Type} [DecidableEq α] {R : Hp → V → α → Prop} {f : α → PyData} {ok : α → Prop}
theorem A2.stb (E : EncD K R f ok) {H H' : Hp} {xs : List V} {qs : List α} (S : Same H H') (h : A2 (R H) xs qs) : A2 (R H') xs qs := ⟨h.1, fun i v q e1 e2 => E.stb S (h.2 i v q e1 e2)⟩
theorem A2.dp (E : EncD K R f ok) {H : Hp} : ∀ {xs : List V} {qs : List α}, A2 (R H) xs qs → DpAll K H xs (qs.map f)
  | [], [], _ => .nil
  | [], _ :: _, h => by cases h.1
  | _ :: _, [], h => by cases h.1
  | v :: vs, z :: ws, h => .cons (E.dp (h.2 0 v z rfl rfl)) (A2.dp E ⟨Nat.succ.inj h.1, fun i v z e1 e2 => h.2 (i + 1) v z e1 e2⟩)
theorem A2.snoc {P : V → α → Prop} {xs : List V} {qs : List α} {v : V} {q : α} (h : A2 P xs qs) (hv : P v q) : A2 P (xs ++ [v]) (qs ++ [q]) := by
  refine ⟨by rw [List.length_append, List.length_append, h.1]; rfl, fun i w r h1 h2 => ?_⟩
  rcases Nat.lt_trichotomy i xs.length with l | l | l
  · rw [List.getElem?_append_left l] at h1
    rw [List.getElem?_append_left (by rw [← h.1]; exact l)] at h2
    exact h.2 i w r h1 h2
  · rw [List.getElem?_append_right (by omega), l, Nat.sub_self] at h1
    rw [List.getElem?_append_right (by rw [← h.1]; omega), ← h.1, l, Nat.sub_self] at h2
    cases h1
    cases h2
    exact hv
  · rw [List.getElem?_eq_none (by rw [List.length_append]; show xs.length + 1 ≤ i; omega)] at h1
    cases h1
theorem lay_all (E : EncD K R f ok) : ∀ qs : List α, (∀ q ∈ qs, ok q) → PyData.canLayAll0 (qs.map f) = true ∧ PyData.depthAll (qs.map f) ≤ 8
  | [], _ => ⟨by simp [PyData.canLayAll0], by simp [PyData.depthAll]⟩
  | q :: qs, h => by
    obtain ⟨h1, h2⟩ := lay_all E qs fun z hz => h z (List.mem_cons_of_mem _ hz)
    obtain ⟨g1, g2⟩ := E.lay q (h q List.mem_cons_self)
    refine ⟨by simp [PyData.canLayAll0, g1, h1], ?_⟩
    simp only [List.map_cons, PyData.depthAll]
    omega
theorem shp_all (E : EncD K R f ok) {qs : List α} (h : ∀ q ∈ qs, ok q) : SeqAt.shaped (.list (qs.map f)) = true := by
  obtain ⟨h1, h2⟩ := lay_all E qs h
  show ((PyData.list (qs.map f)).canLay0 && decide ((PyData.list (qs.map f)).depth ≤ 64)) = true
  rw [Bool.and_eq_true]
  refine ⟨by simp only [PyData.canLay0]; exact h1, decide_eq_true ?_⟩
  simp only [PyData.depth]
  omega
theorem shp_oneE (E : EncD K R f ok) {q : α} (h : ok q) : SeqAt.shaped (f q) = true := by
  obtain ⟨h1, h2⟩ := E.lay q h
  show ((f q).canLay0 && decide ((f q).depth ≤ 64)) = true
  rw [Bool.and_eq_true]
  exact ⟨h1, decide_eq_true (by omega)⟩
theorem any_enc (E : EncD K R f ok) (y : α) : ∀ qs : List α, ((qs.map f).any fun z => PyData.eqv z (f y)) = decide (y ∈ qs)
  | [] => by simp
  | q :: qs => by
    simp only [List.map_cons, List.any_cons, any_enc E y qs, E.eqv]
    by_cases h : q = y
    · simp [h]
    · have h' : ¬ y = q := fun e => h e.symm
      simp [h, h']
end
def spOnce {α : Type} [DecidableEq α] (R : Hp → V → α → Prop) (ok : α → Prop) : Sp := fun vs H Q _ => ∃ (a : Addr) (xs : List V) (qs : List α), vs = [.ref a] ∧ H a = some (.lst xs) ∧ A2 (R H) xs qs ∧ (∀ q ∈ qs, ok q) ∧ xs.length ≤ 2000 ∧
  ∀ r ys H', H r = none → H' r = some (.lst ys) → A2 (R H') ys (once qs) → (∀ y ∈ ys, y ∈ xs) → Same H H' → Q (.ref r) H'
abbrev N_once : List Str := ["_law_things", "_law_found", "_law_thing"]
theorem sc_once : FnScope N_once ["_law_things"] (defScope (topS 57)) := ⟨rfl, rfl, rfl, by decide +kernel, rfl, by decide +kernel, by decide +kernel⟩
section
variable {P : Program} {w : World} {K : PySem.W.Frag} {mg : Str → Option Value} {base : Heap}
theorem bOnce (Z : LawD K mg) : Binds K (Z.d 57) ["_law_things"] [] := (Z.F 57 (by decide)).binds fun _ _ _ _ _ _ us hl => match us, hl with | [_], _ => rfl
theorem ok_once {α : Type} [DecidableEq α] {R : Hp → V → α → Prop} {f : α → PyData} {ok : α → Prop} (Z : LawD K mg) (E : EncD K R f ok) (put : ∀ {H : Hp} {v : V} {q : α} {a : Addr} {xs ys : List V}, H a = some (.lst xs) → R H v q → R (upd H a (.lst ys)) v q) : FnOk P w K mg base CX0 1 (Z.f 57) (Z.d 57) ["_law_things"] (spOnce R ok) := by
  refine Fun.ok (Z.F 57 (by decide)) sc_once (fun vs H Q E h => ?_) (fun cdv A outer s H vs Q E' hr h => ⟨_, pss_cons (ps_set (i := 1) sc_once.nd rfl (Or.inl rfl) (pe_lst pa_nil))
  (pss_cons (ps_for PassesOwn.never rfl (pi_list (pv 0)) (pg_name (i := 2) sc_once.nd rfl (Or.inl rfl))
    (pss_one (ps_if (pt_cmpR (op_notInD (hu65 hr)) (pv 2) (pv 1) (by rfl)) (pss_one (ps_expr (pe_bm PySem.F.plainAttrs_list PySem.F.slot_list_append PySem.F.type_list_append mt_append (pv 1) (pa_cons (pv 2) pa_nil)))) pss_nil)))
  (pss_one (ps_ret (pv 1)))), ?_⟩)
  · obtain ⟨a, xs, qs, rfl, _⟩ := h
    rfl
  · obtain ⟨a, xs, qs, rfl, ha, hA, hok, hl, k⟩ := h
    have sz : 5000 < sizeLine := by decide
    refine ⟨Nat.zero_le _, fun r nr => ?_⟩
    have S0 := new_same (o := .lst []) nr
    have ar : a ≠ r := ne_of_none ha nr
    refine ⟨_, rfl, a, rfl, ⟨_, SqL.of (S0 _ _ ha)⟩, for_list (xs := xs) (fun i σ H' => ∃ v2 ys, σ = [some (.ref a), some (.ref r), v2] ∧ H' r = some (.lst ys) ∧ A2 (R H') ys (once (qs.take i)) ∧ (∀ y ∈ ys, y ∈ xs) ∧ A2 (R H') xs qs ∧ Same H H') ⟨none, [], rfl, upd_same, ⟨rfl, fun i v q e => by simp at e⟩, by simp, hA.stb E S0, S0⟩ (fun i σ H' _ ⟨_, _, _, _, _, _, _, S'⟩ => SqL.of (S' _ _ ha)) ?_ ?_⟩
    · rintro i x σ H' hx ⟨v2, ys, rfl, hr', hy, sub, hA', S'⟩
      have il := (List.getElem?_eq_some_iff.mp hx).1
      have eq : qs[i]? = some (qs[i]'(by rw [← hA.1]; exact il)) := List.getElem?_eq_getElem _
      have hRx := hA'.2 i x _ hx eq
      have okx := hok _ (List.mem_of_getElem? eq)
      have lo := (once_sub (qs.take i)).length_le
      rw [List.length_take] at lo
      have oky : ∀ q ∈ once (qs.take i), ok q := fun q hq => hok q (List.mem_of_mem_take (once_mem.mp hq))
      refine ⟨_, rfl, _, rfl, f _, (once (qs.take i)).map f, E.dp hRx, .lst (SqL.of hr') (hy.dp E), shp_oneE E okx, shp_all E oky, _, rfl, ?_⟩
      rw [any_enc E]
      refine ite2 (fun c => ?_) (fun c => ?_)
      · have hn : (qs[i]'(by rw [← hA.1]; exact il)) ∉ once (qs.take i) := by simpa using c
        refine ⟨_, rfl, .inl ⟨rfl, _, SqL.of hr'⟩, _, rfl, r, _, x, rfl, rfl, hr', ?_, _, _, rfl, upd_same, ?_, ?_, ?_, ?_⟩
        · rw [hy.1]
          omega
        · rw [once_snoc eq]
          unfold onceA
          rw [if_neg hn]
          exact A2.snoc ⟨hy.1, fun j v q e1 e2 => put hr' (hy.2 j v q e1 e2)⟩ (put hr' hRx)
        · intro y hm
          rcases List.mem_append.mp hm with hm | hm
          · exact sub y hm
          · rw [List.mem_singleton.mp hm]
            exact List.mem_of_getElem? hx
        · exact ⟨hA'.1, fun j v q e1 e2 => put hr' (hA'.2 j v q e1 e2)⟩
        · exact fun b o e => by
            rw [upd_ne (ne_of_none e nr)]
            exact S' _ _ e
      · have hm : (qs[i]'(by rw [← hA.1]; exact il)) ∈ once (qs.take i) := by simpa using c
        refine ⟨_, _, rfl, hr', ?_, sub, hA', S'⟩
        rw [once_snoc eq]
        unfold onceA
        rw [if_pos hm]
        exact hy
    · rintro σ H' ⟨v2, ys, rfl, hr', hy, sub, hA', S'⟩
      rw [hA.1, List.take_length] at hy
      exact ⟨_, rfl, k r ys H' nr hr' hy sub S'⟩
/-- texts, pairs -/
def isS : Hp → V → Str → Prop := fun _ v s => v = .str s
def isP : Hp → V → Pr → Prop := fun H v q => ∃ t, v = .ref t ∧ H t = some (.tup [.str q.1, .str q.2])
theorem encS : EncD K isS PyData.str (fun s => PyData.strOk s = true) := ⟨fun _ h => h, fun h => by rw [show _ = _ from h]; exact .str _, fun q h => ⟨by simp only [PyData.canLay0]; exact h, by simp [PyData.depth]⟩, fun q q' => by simp only [PyData.eqv]; exact Bool.eq_iff_iff.mpr (by simp)⟩
theorem encP : EncD K isP prD1 (fun q => PyData.strOk q.1 = true ∧ PyData.strOk q.2 = true) := ⟨fun S ⟨t, e, h⟩ => ⟨t, e, S _ _ h⟩, fun ⟨t, e, h⟩ => by rw [e]; exact .tup (SqT.of h) (.cons (.str _) (.cons (.str _) .nil)), fun q h => ⟨by simp [prD1, PyData.canLay0, PyData.canLayAll0, h.1, h.2], by simp [prD1, PyData.depth, PyData.depthAll]⟩, fun q q' => eqv_pr q q'⟩
theorem ok_onceS (Z : LawD K mg) : FnOk P w K mg base CX0 1 (Z.f 57) (Z.d 57) ["_law_things"] (spOnce isS (fun s => PyData.strOk s = true)) := ok_once Z encS fun _ h => h
theorem ok_onceP (Z : LawD K mg) : FnOk P w K mg base CX0 1 (Z.f 57) (Z.d 57) ["_law_things"] (spOnce isP (fun q => PyData.strOk q.1 = true ∧ PyData.strOk q.2 = true)) := ok_once Z encP fun ha ⟨t, e, h⟩ => ⟨t, e, by rw [upd_ne (ne_of h ha (fun z => by cases z))]; exact h⟩
end
end E1

set_option Elab.async false
set_option linter.all false
set_option maxRecDepth 100000
set_option maxHeartbeats 8000000
/-! A rim, begun at a drawn place. -/
namespace E1
open PySem PySem.Spec PyProof.Rows L2 G0
def rot (rm : List Str) (i : Nat) : List Str := rm.drop i ++ rm.take i
theorem rot_perm (rm : List Str) (i : Nat) : (rot rm i).Perm rm := List.perm_append_comm.trans (by rw [List.take_append_drop])
abbrev N_turn : List Str := ["_law_stream", "_law_rim", "_law_at"]
theorem sc_turn : FnScope N_turn ["_law_stream", "_law_rim"] (defScope (topS 50)) := ⟨rfl, rfl, rfl, by decide +kernel, rfl, by decide +kernel, by decide +kernel⟩
def spTurn : Sp := fun vs H Q _ => ∃ (p l a : Addr) (n : Nat) (rm : List Str), vs = [.ref p, .ref a] ∧ Stm H p l n ∧ n < 90000000 ∧ H a = some (.lst (rm.map V.str)) ∧ a ≠ p ∧ a ≠ l ∧ rm.length ≤ 1000 ∧
  ∀ (r : Addr) (i : Nat) (H' : Hp), Fr H p l (n + 1) H' → H r = none → H' r = some (.lst ((rot rm i).map V.str)) → Q (.ref r) H'
section
variable {P : Program} {w : World} {K : PySem.W.Frag} {mg : Str → Option Value} {base : Heap}
theorem bTurn (Z : LawD K mg) : Binds K (Z.d 50) ["_law_stream", "_law_rim"] [] := (Z.F 50 (by decide)).binds fun _ _ _ _ _ _ us hl => match us, hl with | [_, _], _ => rfl
theorem ok_turn (Z : LawD K mg) : FnOk P w K mg base CX0 2 (Z.f 50) (Z.d 50) ["_law_stream", "_law_rim"] spTurn := by
  have GD : FnOk P w K mg base CX0 1 Z.s.fD Z.s.dD ["_law_stream", "_law_many"] spDr := ok_dr Z.s
  refine Fun.ok (Z.F 50 (by decide)) sc_turn (fun vs H Q E h => ?_) (fun cdv A outer s H vs Q E hr h => ⟨_, pss_cons (ps_set (i := 2) sc_turn.nd rfl (Or.inl rfl) (pe_call GD (hr.mono (by decide)) (by rfl) Z.s.gD Z.s.FD.kp (bDr Z.s) .nil pass0 (pa_cons (pv 0) (pa_cons (pe_op op_add (pe_callB call_len_seq (by rfl) Z.t.len PySem.boot_len (pa_cons (pv 1) pa_nil)) pe_int) pa_nil))))
  (pss_one (ps_ret (pe_op op_cat (pe_slice sl_list (pv 1) (po_some (pv 2)) po_none) (pe_slice sl_list (pv 1) po_none (po_some (pv 2)))))), ?_⟩)
  · obtain ⟨p, l, a, n, rm, rfl, _⟩ := h
    rfl
  · obtain ⟨p, l, a, n, rm, rfl, S, hn, ha, ap, al, lr, k⟩ := h
    have sz : 5000 < sizeLine := by decide
    refine ⟨_, rfl, _, rfl, a, _, rfl, .inl (SqL.of ha), _, _, rfl, rfl, p, l, n, rm.length + 1, by rw [List.length_map]; rfl, S, by omega, by omega, by omega, fun i H1 hi F1 => ?_⟩
    have ha1 : H1 a = some (.lst (rm.map V.str)) := F1.but _ _ ha ap al
    refine ⟨_, rfl, _, rfl, (i : Int), rfl, a, _, rfl, SqL.of ha1, fun s3 n3 => ?_⟩
    rw [cut_from, ← List.map_drop]
    have T3 := new_same (o := .lst ((rm.drop i).map V.str)) n3
    refine ⟨_, rfl, _, rfl, (i : Int), rfl, a, _, rfl, SqL.of (T3 _ _ ha1), fun s4 n4 => ?_⟩
    rw [cut_to, ← List.map_take]
    have T4 := T3.trans (new_same (o := .lst ((rm.take i).map V.str)) n4)
    refine ⟨s3, s4, _, _, rfl, rfl, new_same n4 _ _ upd_same, upd_same, ?_, fun s5 n5 => ?_⟩
    · rw [List.length_map, List.length_map, List.length_drop, List.length_take]
      omega
    have T5 := T4.trans (new_same (o := .lst ((rm.drop i).map V.str ++ (rm.take i).map V.str)) n5)
    refine k s5 i _ (F1.same T5) (F1.free (T4.free n5)) ?_
    rw [upd_same]
    unfold rot
    rw [List.map_append]
end
end E1

set_option Elab.async false
set_option linter.all false
set_option maxRecDepth 100000
set_option maxHeartbeats 4000000
/-! Several except clauses, each with its name. -/
namespace G0
open PySem PySem.Spec PyProof.Rows L2
/-- the ends behind a suite whose name, slot i, goes -/
def gone (i : Nat) (D : Ends) : Ends := { nx := fun σ H => D.nx (σ.set i none) H, rt := D.rt, bk := fun σ H => D.bk (σ.set i none) H, ct := fun σ H => D.ct (σ.set i none) H }
abbrev SuiteT : Type := Addr → Value → Option Addr → TS
/-- what clauses with a name each wish of what the body raises, the first that fits -/
def wManyAs (K : PySem.W.Frag) (i : Nat) (Wo : WX) (D : Ends) : List (Value × SuiteT) → WX
  | [] => Wo
  | q :: rest => fun cls d σ H => ∃ fits, PySem.W.exmOne K cls q.1 = some fits ∧ (fits = true → ∀ a, H a = none → q.2 a cls d (gone i D) (σ.set i (some (.ref a))) H) ∧ (fits = false → wManyAs K i Wo D rest cls d σ H)
/-- the clauses, all with the name n -/
inductive HdsAs (X : Cx) (n : Str) : List ExceptHandler → List (Value × SuiteT) → Prop
  | nil : HdsAs X n [] []
  | cons {x : Str} {c : Value} {ts : SuiteT} {st : Stmt} {sts : List Stmt} {pn pc : Pos} {more : List ExceptHandler} {lm : List (Value × SuiteT)} (nm : Names X x c)
      (su : ∀ (z : Addr) (oz : Obj) (cls : Value) (d : Option Addr) (pins : List (Addr × Obj)), Zc cls d oz → (∃ fs, oz.data = .fields fs) → PSs (X.suite z ((z, oz) :: pins)) (st :: sts) (ts z cls d)) (rest : HdsAs X n more lm) :
      HdsAs X n (.ExceptHandler (some (.Name x pn)) (some n) (st :: sts) pc :: more) ((c, ts) :: lm)
section
variable {X : Cx} {n : Str} {i : Nat} {pins : List (Addr × Obj)} {D : Ends} {Wo : WX} {z : Addr} {below : Heap} {cls : Value} {d : Option Addr} {σ : L2.St} {H : Hp} {sI u : Shared} {g : Heap}
/-- what is known as the clauses are asked: the exception at z is caught, in flight over the heap g -/
structure Caught (X : Cx) (pins : List (Addr × Obj)) (σ : L2.St) (H : Hp) (z : Addr) (below : Heap) (cls : Value) (d : Option Addr) (sI u : Shared) (g : Heap) : Prop where
  inv : Inv X pins σ H sI
  low : ∀ b o, sI.heap.get? b = some o → b ∉ frs X.stack → below.get? b = some o
  up : sI.heap.UpToSlots g
  new : H z = none
  os : u.os = sI.os
  bare : AllBare u.gens
  fly : HandSPX.FlyingZ below (X.env :: X.outer) z (Zc cls d) g
  top : X.stack = X.env :: X.outer
  own : X.env.frame = some X.env.locals
/-- the invariant over the heap in which it flies, and its object -/
theorem Caught.here (C : Caught X pins σ H z below cls d sI u g) : Inv X pins σ H { u with heap := g } ∧ ∃ oz fs, g.get? z = some oz ∧ Zc cls d oz ∧ oz.data = .fields fs ∧ z ≠ X.env.locals ∧ z ∉ X.fs := by
  have I2 : Inv X pins σ H { u with heap := g } := C.inv.landed C.low C.fly.1 C.up C.os C.bare
  obtain ⟨oz, fs, k1, k2, k3⟩ := C.fly.there
  have off : z ∉ frs (X.env :: X.outer) := by
    intro hm
    obtain ⟨_, w, k4, k5⟩ := C.fly.2.2.1.mem hm
    cases k1.symm.trans k4
    exact k5 _ k3
  refine ⟨I2, oz, fs, k1, k2, k3, ?_, ?_⟩
  · rintro rfl
    exact off (List.mem_filterMap.mpr ⟨X.env, by simp, C.own⟩)
  · intro hm
    obtain ⟨e, k4, k5⟩ := List.mem_filterMap.mp hm
    exact off (List.mem_filterMap.mpr ⟨e, by simp [k4], k5⟩)
/-- no clause is left: on it flies -/
theorem caught_on (C : Caught X pins σ H z below cls d sI u g) (tk : Takes X Wo) (wish : Wo cls d σ H) : wpAny (model X.prog X.w) X.A (handleBy (.ref z) X.env []) (SP X pins D) X.xe { u with heap := g } := by
  refine wpAny_handleBy_nil ?_
  have flight : wpAny (model X.prog X.w) X.A (setFlight (.ref z) X.env.frame) (fun _ t => wpAny (model X.prog X.w) X.A (throw (.ref z) : Sem Flow) (SP X pins D) X.xe t) X.xe { u with heap := g } := by
    rw [C.own]
    exact HandSPX.setFlight_upZ C.fly fun g2 held more => wpAny_throw (tk _ _ ⟨z, below, sI, pins, σ, H, cls, d, rfl, C.inv, C.low, C.up.trans more, .inr (.inr (by rw [C.top]; exact held)), C.new, C.os, C.bare, wish⟩)
  obtain ⟨_, _, _, ow, fw, Tb, _, _, k1, _, k2, k3, _⟩ := id C.fly
  unfold PySem.passOn
  refine wpAny_bind (wpAny_field k1 k2 k3 ?_)
  have live : ¬ ((Value.ref Tb == Value.none) = true) := by simp
  rw [if_neg live]
  first
    | exact wpAny_bind flight
    | exact wpAny_bind (wpAny_pure (wpAny_bind flight))
/-- the clauses, one behind another -/
theorem caught_by (C : Caught X pins σ H z below cls d sI u g) (hN : X.N.Nodup) (hi : X.N[i]? = some n) (hn : X.env.kindOf n = some .local) (tk : Takes X Wo) {cs : List ExceptHandler} {lm : List (Value × SuiteT)} (k : HdsAs X n cs lm) :
    wManyAs X.K i Wo D lm cls d σ H → wpAny (model X.prog X.w) X.A (handleBy (.ref z) X.env cs) (SP X pins D) X.xe { u with heap := g } := by
  induction k with
  | nil => exact caught_on C tk
  | @cons x c ts st sts pn pc more lm nm su rest ih =>
    rintro ⟨fits, asked, yes, no⟩
    obtain ⟨I2, oz, fs, k1, k2, k3, k4, k5⟩ := C.here
    refine wpAny_handleBy_cons (codeAny_handlers_test ?_) (by intro q; cases q)
    have I3 := I2.suite k1 k3 C.new k4 k5
    have kind : PySem.W.Looks (model X.prog X.w) g (typeOf (.ref z)) cls := fun _ _ _ _ keep q => wpAny_typeOf_ref (keep _ _ k1) (by rw [k2.1]; exact q)
    have said : wpAny (model X.prog X.w) (X.A.mark (some (.ref z))) (eval (.Name x pn) X.env) (fun v t => v = c ∧ t = { u with heap := g }) (fun _ _ => False) { u with heap := g } := by
      rcases nm with ⟨gl, nd, m | ⟨m, bt, nn⟩⟩
      · exact ld_glob (X := X.suite z ((z, oz) :: (X.pn ++ pins))) I3 gl m ⟨rfl, rfl⟩ nd
      · exact ld_blt (X := X.suite z ((z, oz) :: (X.pn ++ pins))) I3 gl m bt ⟨rfl, rfl⟩ nn nd
    refine wpAny_mono said (fun v t e => ?_) (fun _ _ e => e.elim)
    obtain ⟨e1, e2⟩ := e
    subst e1
    subst e2
    refine (PySem.W.exm_one (M := model X.prog X.w) I2.kIn kind asked).here ?_
    cases fits with
    | false => exact ih (no rfl)
    | true =>
      refine codeAny_handlers_suite_as (HandSPX.lands_againZ C.fly fun g2 fly2 up2 => ?_)
      have C2 : Caught X pins σ H z below cls d sI u g2 := ⟨C.inv, C.low, C.up.trans up2, C.new, C.os, C.bare, fly2, C.top, C.own⟩
      obtain ⟨I4, o2, f2, m1, m2, m3, m4, m5⟩ := C2.here
      have I5 := I4.suite m1 m3 C.new m4 m5
      refine store_ok (X := X.suite z ((z, o2) :: (X.pn ++ pins))) (v := .ref z) I5 hN hi (.inl hn) rfl (fun t I6 => ?_) (.inr hn)
      refine wpAny_mono ((su z o2 cls d (X.pn ++ pins) m2 ⟨_, m3⟩).run [] t _ H _ I6 (yes rfl z C.new)) (fun f t2 h => ?_) (fun _ _ q => q.elim)
      have goes : ∀ {σ2 : L2.St} {H2 : Hp} {R : Shared → Prop}, Inv (X.suite z ((z, o2) :: (X.pn ++ pins))) [] σ2 H2 t2 → (∀ t3, Inv X pins (σ2.set i none) H2 t3 → R t3) →
          wpAny (model X.prog X.w) X.A (do bindName X.env n .none; unbindBehindTheSuite X.env n pc) (fun _ t3 => R t3) X.xe t2 := fun {_ _ _} J r => gone_ok (J.unsuite C.inv.ok) hN hi hn r
      cases f with
      | ret w =>
        obtain ⟨v2, σ2, H2, J, rv, q⟩ := h
        exact goes J fun _ J3 => ⟨_, _, _, J3, rv, q⟩
      | next => exact let ⟨_, _, J, q⟩ := h; goes J fun _ J3 => ⟨_, _, J3, q⟩
      | brk => exact let ⟨_, _, J, q⟩ := h; goes J fun _ J3 => ⟨_, _, J3, q⟩
      | cont => exact let ⟨_, _, J, q⟩ := h; goes J fun _ J3 => ⟨_, _, J3, q⟩
end
section
variable {X : Cx} {n : Str} {i : Nat} {body : List Stmt} {c0 : ExceptHandler} {cs : List ExceptHandler} {lm : List (Value × SuiteT)} {pos : Pos} {tb : WX → TS} {Wo : WX}
theorem ps_try_manyAs (top : X.stack = X.env :: X.outer) (own : X.env.frame = some X.env.locals) (hN : X.N.Nodup) (hi : X.N[i]? = some n) (hn : X.env.kindOf n = some .local) (tk : Takes X Wo)
    (tried : ∀ (W : WX) (pn : List (Addr × Obj)) (xe : Value → Shared → Prop), Takes (X.tr pn xe) W → PassesOwn (model X.prog X.w) X.A X.env xe → PSs (X.tr pn xe) body (tb W))
    (k : HdsAs X n (c0 :: cs) lm) : PS X (.Try body (c0 :: cs) [] [] pos) (fun D σ H => tb (fun cls d σ' H' => σ'.length = X.N.length → wManyAs X.K i Wo D lm cls d σ' H') D σ H) := by
  constructor
  intro pins s σ H D I h
  have okX := I.ok
  have frs' : X.A.frames = some (X.env :: X.outer) := okX.frames.trans (by rw [top])
  refine wpAny_Try_except (wpAny_mono ((tried (fun cls d σ' H' => σ'.length = X.N.length → wManyAs X.K i Wo D lm cls d σ' H') (X.pn ++ pins) _ (fun v t x => ?_) PassesOwn.looking).run [] s σ H D (I.toTry _) h) (fun f t hf => ?_) (fun _ _ q => q))
  · obtain ⟨z, below, sI, _, σ2, H2, cls, d, rfl, J, low, up, sky, new, os, bare, wish⟩ := x
    rw [show (X.tr (X.pn ++ pins) _).stack = X.stack from rfl, top] at sky
    exact Sky.land Zc.steady frs' own sky fun g fly more => caught_by ⟨J.ofTry okX, low, up.trans more, new, os, bare, fly, top, own⟩ hN hi hn tk k (wish J.len)
  · cases f with
    | next => exact let ⟨_, _, J, q⟩ := hf; wpAny_execs_nil ⟨_, _, J.ofTry okX, q⟩
    | ret v => exact let ⟨_, _, _, J, r, q⟩ := hf; ⟨_, _, _, J.ofTry okX, r, q⟩
    | brk => exact let ⟨_, _, J, q⟩ := hf; ⟨_, _, J.ofTry okX, q⟩
    | cont => exact let ⟨_, _, J, q⟩ := hf; ⟨_, _, J.ofTry okX, q⟩
end
end G0

set_option Elab.async false
set_option linter.all false
set_option maxRecDepth 100000
set_option maxHeartbeats 4000000
/-! Several except clauses, some with a name, some with none. -/
namespace G0
open PySem PySem.Spec PyProof.Rows L2
/-- what clauses each wish of what the body raises, the first that fits; true: with the name -/
def wMix (K : PySem.W.Frag) (i : Nat) (Wo : WX) (D : Ends) : List (Value × Bool × SuiteT) → WX
  | [] => Wo
  | q :: rest => fun cls d σ H => ∃ fits, PySem.W.exmOne K cls q.1 = some fits ∧ (fits = true → ∀ a, H a = none → if q.2.1 = true then q.2.2 a cls d (gone i D) (σ.set i (some (.ref a))) H else q.2.2 a cls d D σ H) ∧ (fits = false → wMix K i Wo D rest cls d σ H)
/-- the clauses; those with a name: n -/
inductive HdsMix (X : Cx) (n : Str) : List ExceptHandler → List (Value × Bool × SuiteT) → Prop
  | nil : HdsMix X n [] []
  | cons {x : Str} {c : Value} {ts : SuiteT} {st : Stmt} {sts : List Stmt} {pn pc : Pos} {more : List ExceptHandler} {lm : List (Value × Bool × SuiteT)} (nm : Names X x c)
      (su : ∀ (z : Addr) (oz : Obj) (cls : Value) (d : Option Addr) (pins : List (Addr × Obj)), Zc cls d oz → (∃ fs, oz.data = .fields fs) → PSs (X.suite z ((z, oz) :: pins)) (st :: sts) (ts z cls d)) (rest : HdsMix X n more lm) :
      HdsMix X n (.ExceptHandler (some (.Name x pn)) (some n) (st :: sts) pc :: more) ((c, true, ts) :: lm)
  | bare {x : Str} {c : Value} {ts : SuiteT} {st : Stmt} {sts : List Stmt} {pn pc : Pos} {more : List ExceptHandler} {lm : List (Value × Bool × SuiteT)} (nm : Names X x c)
      (su : ∀ (z : Addr) (oz : Obj) (cls : Value) (d : Option Addr) (pins : List (Addr × Obj)), Zc cls d oz → (∃ fs, oz.data = .fields fs) → PSs (X.suite z ((z, oz) :: pins)) (st :: sts) (ts z cls d)) (rest : HdsMix X n more lm) :
      HdsMix X n (.ExceptHandler (some (.Name x pn)) none (st :: sts) pc :: more) ((c, false, ts) :: lm)
section
variable {X : Cx} {n : Str} {i : Nat} {pins : List (Addr × Obj)} {D : Ends} {Wo : WX} {z : Addr} {below : Heap} {cls : Value} {d : Option Addr} {σ : L2.St} {H : Hp} {sI u : Shared} {g : Heap}
/-- the clauses, one behind another -/
theorem caught_mix (C : Caught X pins σ H z below cls d sI u g) (hN : X.N.Nodup) (hi : X.N[i]? = some n) (hn : X.env.kindOf n = some .local) (tk : Takes X Wo) {cs : List ExceptHandler} {lm : List (Value × Bool × SuiteT)} (k : HdsMix X n cs lm) :
    wMix X.K i Wo D lm cls d σ H → wpAny (model X.prog X.w) X.A (handleBy (.ref z) X.env cs) (SP X pins D) X.xe { u with heap := g } := by
  induction k with
  | nil => exact caught_on C tk
  | @cons x c ts st sts pn pc more lm nm su rest ih =>
    rintro ⟨fits, asked, yes, no⟩
    obtain ⟨I2, oz, fs, k1, k2, k3, k4, k5⟩ := C.here
    refine wpAny_handleBy_cons (codeAny_handlers_test ?_) (by intro q; cases q)
    have I3 := I2.suite k1 k3 C.new k4 k5
    have kind : PySem.W.Looks (model X.prog X.w) g (typeOf (.ref z)) cls := fun _ _ _ _ keep q => wpAny_typeOf_ref (keep _ _ k1) (by rw [k2.1]; exact q)
    have said : wpAny (model X.prog X.w) (X.A.mark (some (.ref z))) (eval (.Name x pn) X.env) (fun v t => v = c ∧ t = { u with heap := g }) (fun _ _ => False) { u with heap := g } := by
      rcases nm with ⟨gl, nd, m | ⟨m, bt, nn⟩⟩
      · exact ld_glob (X := X.suite z ((z, oz) :: (X.pn ++ pins))) I3 gl m ⟨rfl, rfl⟩ nd
      · exact ld_blt (X := X.suite z ((z, oz) :: (X.pn ++ pins))) I3 gl m bt ⟨rfl, rfl⟩ nn nd
    refine wpAny_mono said (fun v t e => ?_) (fun _ _ e => e.elim)
    obtain ⟨e1, e2⟩ := e
    subst e1
    subst e2
    refine (PySem.W.exm_one (M := model X.prog X.w) I2.kIn kind asked).here ?_
    cases fits with
    | false => exact ih (no rfl)
    | true =>
      refine codeAny_handlers_suite_as (HandSPX.lands_againZ C.fly fun g2 fly2 up2 => ?_)
      have C2 : Caught X pins σ H z below cls d sI u g2 := ⟨C.inv, C.low, C.up.trans up2, C.new, C.os, C.bare, fly2, C.top, C.own⟩
      obtain ⟨I4, o2, f2, m1, m2, m3, m4, m5⟩ := C2.here
      have I5 := I4.suite m1 m3 C.new m4 m5
      have yes' := yes rfl z C.new
      rw [if_pos rfl] at yes'
      refine store_ok (X := X.suite z ((z, o2) :: (X.pn ++ pins))) (v := .ref z) I5 hN hi (.inl hn) rfl (fun t I6 => ?_) (.inr hn)
      refine wpAny_mono ((su z o2 cls d (X.pn ++ pins) m2 ⟨_, m3⟩).run [] t _ H _ I6 yes') (fun f t2 h => ?_) (fun _ _ q => q.elim)
      have goes : ∀ {σ2 : L2.St} {H2 : Hp} {R : Shared → Prop}, Inv (X.suite z ((z, o2) :: (X.pn ++ pins))) [] σ2 H2 t2 → (∀ t3, Inv X pins (σ2.set i none) H2 t3 → R t3) →
          wpAny (model X.prog X.w) X.A (do bindName X.env n .none; unbindBehindTheSuite X.env n pc) (fun _ t3 => R t3) X.xe t2 := fun {_ _ _} J r => gone_ok (J.unsuite C.inv.ok) hN hi hn r
      cases f with
      | ret w =>
        obtain ⟨v2, σ2, H2, J, rv, q⟩ := h
        exact goes J fun _ J3 => ⟨_, _, _, J3, rv, q⟩
      | next => exact let ⟨_, _, J, q⟩ := h; goes J fun _ J3 => ⟨_, _, J3, q⟩
      | brk => exact let ⟨_, _, J, q⟩ := h; goes J fun _ J3 => ⟨_, _, J3, q⟩
      | cont => exact let ⟨_, _, J, q⟩ := h; goes J fun _ J3 => ⟨_, _, J3, q⟩
  | @bare x c ts st sts pn pc more lm nm su rest ih =>
    rintro ⟨fits, asked, yes, no⟩
    obtain ⟨I2, oz, fs, k1, k2, k3, k4, k5⟩ := C.here
    refine wpAny_handleBy_cons (codeAny_handlers_test ?_) (by intro q; cases q)
    have I3 := I2.suite k1 k3 C.new k4 k5
    have kind : PySem.W.Looks (model X.prog X.w) g (typeOf (.ref z)) cls := fun _ _ _ _ keep q => wpAny_typeOf_ref (keep _ _ k1) (by rw [k2.1]; exact q)
    have said : wpAny (model X.prog X.w) (X.A.mark (some (.ref z))) (eval (.Name x pn) X.env) (fun v t => v = c ∧ t = { u with heap := g }) (fun _ _ => False) { u with heap := g } := by
      rcases nm with ⟨gl, nd, m | ⟨m, bt, nn⟩⟩
      · exact ld_glob (X := X.suite z ((z, oz) :: (X.pn ++ pins))) I3 gl m ⟨rfl, rfl⟩ nd
      · exact ld_blt (X := X.suite z ((z, oz) :: (X.pn ++ pins))) I3 gl m bt ⟨rfl, rfl⟩ nn nd
    refine wpAny_mono said (fun v t e => ?_) (fun _ _ e => e.elim)
    obtain ⟨e1, e2⟩ := e
    subst e1
    subst e2
    refine (PySem.W.exm_one (M := model X.prog X.w) I2.kIn kind asked).here ?_
    cases fits with
    | false => exact ih (no rfl)
    | true =>
      refine codeAny_handlers_suite (HandSPX.lands_againZ C.fly fun g2 fly2 up2 => ?_)
      have C2 : Caught X pins σ H z below cls d sI u g2 := ⟨C.inv, C.low, C.up.trans up2, C.new, C.os, C.bare, fly2, C.top, C.own⟩
      obtain ⟨I4, o2, f2, m1, m2, m3, m4, m5⟩ := C2.here
      have I5 := I4.suite m1 m3 C.new m4 m5
      have yes' := yes rfl z C.new
      rw [if_neg (show ¬ (false = true) from by decide)] at yes'
      refine wpAny_mono ((su z o2 cls d (X.pn ++ pins) m2 ⟨_, m3⟩).run [] _ _ H _ I5 yes') (fun f t2 h => ?_) (fun _ _ q => q.elim)
      cases f with
      | ret w =>
        obtain ⟨v2, σ2, H2, J, rv, q⟩ := h
        exact ⟨_, _, _, J.unsuite C.inv.ok, rv, q⟩
      | next => exact let ⟨_, _, J, q⟩ := h; ⟨_, _, J.unsuite C.inv.ok, q⟩
      | brk => exact let ⟨_, _, J, q⟩ := h; ⟨_, _, J.unsuite C.inv.ok, q⟩
      | cont => exact let ⟨_, _, J, q⟩ := h; ⟨_, _, J.unsuite C.inv.ok, q⟩
end
section
variable {X : Cx} {n : Str} {i : Nat} {body : List Stmt} {c0 : ExceptHandler} {cs : List ExceptHandler} {lm : List (Value × Bool × SuiteT)} {pos : Pos} {tb : WX → TS} {Wo : WX}
theorem ps_try_mix (top : X.stack = X.env :: X.outer) (own : X.env.frame = some X.env.locals) (hN : X.N.Nodup) (hi : X.N[i]? = some n) (hn : X.env.kindOf n = some .local) (tk : Takes X Wo)
    (tried : ∀ (W : WX) (pn : List (Addr × Obj)) (xe : Value → Shared → Prop), Takes (X.tr pn xe) W → PassesOwn (model X.prog X.w) X.A X.env xe → PSs (X.tr pn xe) body (tb W))
    (k : HdsMix X n (c0 :: cs) lm) : PS X (.Try body (c0 :: cs) [] [] pos) (fun D σ H => tb (fun cls d σ' H' => σ'.length = X.N.length → wMix X.K i Wo D lm cls d σ' H') D σ H) := by
  constructor
  intro pins s σ H D I h
  have okX := I.ok
  have frs' : X.A.frames = some (X.env :: X.outer) := okX.frames.trans (by rw [top])
  refine wpAny_Try_except (wpAny_mono ((tried (fun cls d σ' H' => σ'.length = X.N.length → wMix X.K i Wo D lm cls d σ' H') (X.pn ++ pins) _ (fun v t x => ?_) PassesOwn.looking).run [] s σ H D (I.toTry _) h) (fun f t hf => ?_) (fun _ _ q => q))
  · obtain ⟨z, below, sI, _, σ2, H2, cls, d, rfl, J, low, up, sky, new, os, bare, wish⟩ := x
    rw [show (X.tr (X.pn ++ pins) _).stack = X.stack from rfl, top] at sky
    exact Sky.land Zc.steady frs' own sky fun g fly more => caught_mix ⟨J.ofTry okX, low, up.trans more, new, os, bare, fly, top, own⟩ hN hi hn tk k (wish J.len)
  · cases f with
    | next => exact let ⟨_, _, J, q⟩ := hf; wpAny_execs_nil ⟨_, _, J.ofTry okX, q⟩
    | ret v => exact let ⟨_, _, _, J, r, q⟩ := hf; ⟨_, _, _, J.ofTry okX, r, q⟩
    | brk => exact let ⟨_, _, J, q⟩ := hf; ⟨_, _, J.ofTry okX, q⟩
    | cont => exact let ⟨_, _, J, q⟩ := hf; ⟨_, _, J.ofTry okX, q⟩
end
end G0

set_option Elab.async false
set_option linter.all false
set_option maxRecDepth 100000
set_option maxHeartbeats 8000000
/-! What is met: told, or one of the errors. -/
namespace E1
open PySem PySem.Spec PyProof.Rows L2 G0 LamX
abbrev N_met : List Str := ["_law_ask", "e"]
theorem sc_met : FnScope N_met ["_law_ask"] (defScope (topS 51)) := ⟨rfl, rfl, rfl, by decide +kernel, rfl, by decide +kernel, by decide +kernel⟩
def clE : Fin 6 → Str
  | 0 => "BadBoard"
  | 1 => "NoPlace"
  | 2 => "IsPin"
  | 3 => "BadCross"
  | 4 => "NotBeside"
  | 5 => "NotWithin"
def flE : Fin 4 → Str
  | 0 => "thing"
  | 1 => "thing"
  | 2 => "place"
  | 3 => "thing"
/-- the errors, as except clauses ask them -/
structure MetD (K : PySem.W.Frag) (mg : Str → Option Value) where
  C : Fin 6 → Addr
  g : ∀ i, mg (clE i) = some (.ref (C i))
  x : ∀ i : Fin 4, XfC K (C (i.castLE (by decide)))
  no : ∀ i : Fin 4, PySem.W.findIn K (.ref (C (i.castLE (by decide)))) (flE i) = some none
  is0 : ∀ j, PySem.W.exmOne K (.ref (C 0)) (.ref (C j)) = some (decide (0 = j))
  is1 : ∀ j, PySem.W.exmOne K (.ref (C 1)) (.ref (C j)) = some (decide (1 = j))
  is2 : ∀ j, PySem.W.exmOne K (.ref (C 2)) (.ref (C j)) = some (decide (2 = j))
  is5 : ∀ j, PySem.W.exmOne K (.ref (C 5)) (.ref (C j)) = some (decide (5 = j))
section
variable {K : PySem.W.Frag} {mg : Str → Option Value}
/-- an error of these, met -/
def Emet (M : MetD K mg) (Q : VK) : XK := fun cls d H => (∃ (v : V) (dd : Addr), cls = .ref (M.C 0) ∧ d = some dd ∧ H dd = some (.xd [("thing", v)]) ∧ ∀ t, H t = none → Q (.ref t) (upd H t (.tup [.str "board", v]))) ∨
  (∃ (v : V) (dd : Addr), cls = .ref (M.C 1) ∧ d = some dd ∧ H dd = some (.xd [("thing", v)]) ∧ ∀ t, H t = none → Q (.ref t) (upd H t (.tup [.str "place", v]))) ∨
  (∃ (v : V) (dd : Addr), cls = .ref (M.C 2) ∧ d = some dd ∧ H dd = some (.xd [("place", v)]) ∧ ∀ t, H t = none → Q (.ref t) (upd H t (.tup [.str "pin", v]))) ∨
  (cls = .ref (M.C 5) ∧ ∀ t, H t = none → Q (.ref t) (upd H t (.tup [.str "within"])))
def TTmet (M : MetD K mg) : (XK → Hp → VK → Prop) → Hp → VK → Prop := fun tl H Q =>
  tl (Emet M Q) H (fun v H1 => ([V.str "told", v] : List V).length ≤ sizeLine ∧ ∀ t, H1 t = none → Q (.ref t) (upd H1 t (.tup [.str "told", v])))
end
section
variable {X : Cx}
theorem met_gives (M : MetD X.K X.mg) {q : Str} {g : Addr} {cdg : Value} : GivesTo X N_met "_law_j_met" (defScope (topS 51)) g cdg (defBody (topS 51)) "_law_ask" q (TTmet M) := by
  intro f c' s H Q tl act hc h
  refine ⟨_, pss_one (ps_try_mix (X := (cxOf C8.CX0 X.prog X.w X.K X.mg X.base N_met "_law_j_met" (defScope (topS 51)) g cdg X.A X.stack s H C8.E0).nox) (n := "e") (i := 1)
      (tb := fun W D' σ H => ∃ Ech : XK, (∀ cls d σ' H', Ech cls d H' → W cls d σ' H') ∧ σ[0]? = some (some (.ref f)) ∧ H c' = some (CodeO c' q) ∧ tl Ech H (fun v H1 => ([V.str "told", v] : List V).length ≤ sizeLine ∧ ∀ t, H1 t = none → D'.rt (.ref t) (upd H1 t (.tup [.str "told", v]))))
      rfl rfl sc_met.nd rfl rfl L2.takes0 (fun W pn xe tk _ => ?_)
      (.cons ⟨by rfl, by decide, .inl (M.g 0)⟩ (fun z oz cls d pn hz hf => pss_one (ps_ret (pe_tup (pa_cons pe_str (pa_cons (pe_xf (M.x 0) (M.no 0) hz hf (pv 1)) pa_nil)))))
      (.cons ⟨by rfl, by decide, .inl (M.g 1)⟩ (fun z oz cls d pn hz hf => pss_one (ps_ret (pe_tup (pa_cons pe_str (pa_cons (pe_xf (M.x 1) (M.no 1) hz hf (pv 1)) pa_nil)))))
      (.cons ⟨by rfl, by decide, .inl (M.g 2)⟩ (fun z oz cls d pn hz hf => pss_one (ps_ret (pe_tup (pa_cons pe_str (pa_cons (pe_xf (M.x 2) (M.no 2) hz hf (pv 1)) pa_nil)))))
      (.cons ⟨by rfl, by decide, .inl (M.g 3)⟩ (fun z oz cls d pn hz hf => pss_one (ps_ret (pe_tup (pa_cons pe_str (pa_cons (pe_xf (M.x 3) (M.no 3) hz hf (pv 1)) pa_nil)))))
      (.bare ⟨by rfl, by decide, .inl (M.g 4)⟩ (fun z oz cls d pn hz hf => pss_one (ps_ret (pe_tup (pa_cons pe_str pa_nil))))
      (.bare ⟨by rfl, by decide, .inl (M.g 5)⟩ (fun z oz cls d pn hz hf => pss_one (ps_ret (pe_tup (pa_cons pe_str pa_nil))))
      .nil))))))), ?_⟩
  · refine ⟨fun pins s' σ H' D I h' => ?_⟩
    obtain ⟨Ech, hW, h1, h2, h3⟩ := h'
    refine PSs.run (t := tRet (tTup (tCons (tC (.str "told")) (tCons (fun σZ HZ Q => σZ[0]? = some (some (V.ref f)) ∧ HZ c' = some (CodeO c' q) ∧ tl Ech HZ Q) tNil)))) ?_ pins s' σ H' D I ⟨h1, h2, h3⟩
    exact pss_one (ps_ret (pe_tup (pa_cons pe_str (pa_cons (act W pn xe Ech _ _ tk hW) pa_nil))))
  · refine ⟨Emet M Q, ?_, rfl, hc, h⟩
    intro cls d σ' H' he hl
    have hl2 : σ'.length = 2 := hl
    have slot : ∀ a : Addr, (σ'.set 1 (some (V.ref a)))[1]? = some (some (V.ref a)) := fun a => List.getElem?_set_self (by omega)
    have s2 : 2 ≤ sizeLine := by decide
    rcases he with ⟨v, dd, rfl, rfl, hdd, k⟩ | ⟨v, dd, rfl, rfl, hdd, k⟩ | ⟨v, dd, rfl, rfl, hdd, k⟩ | ⟨rfl, k⟩
    · exact ⟨true, M.is0 0, fun _ a na => by rw [if_pos rfl]; exact ⟨_, slot a, rfl, rfl, dd, _, v, rfl, hdd, rfl, s2, fun t nt => k t nt⟩, fun e => by cases e⟩
    · exact ⟨false, M.is1 0, (fun e => by cases e), fun _ => ⟨true, M.is1 1, fun _ a na => by rw [if_pos rfl]; exact ⟨_, slot a, rfl, rfl, dd, _, v, rfl, hdd, rfl, s2, fun t nt => k t nt⟩, fun e => by cases e⟩⟩
    · exact ⟨false, M.is2 0, (fun e => by cases e), fun _ => ⟨false, M.is2 1, (fun e => by cases e), fun _ => ⟨true, M.is2 2, fun _ a na => by rw [if_pos rfl]; exact ⟨_, slot a, rfl, rfl, dd, _, v, rfl, hdd, rfl, s2, fun t nt => k t nt⟩, fun e => by cases e⟩⟩⟩
    · exact ⟨false, M.is5 0, (fun e => by cases e), fun _ => ⟨false, M.is5 1, (fun e => by cases e), fun _ => ⟨false, M.is5 2, (fun e => by cases e), fun _ => ⟨false, M.is5 3, (fun e => by cases e), fun _ => ⟨false, M.is5 4, (fun e => by cases e), fun _ => ⟨true, M.is5 5, fun _ a na => by rw [if_neg (show ¬ (false = true) from by decide)]; exact ⟨by show 1 ≤ sizeLine; decide, fun t nt => k t nt⟩, fun e => by cases e⟩⟩⟩⟩⟩⟩
/-- _law_j_met(lambda: ..) -/
theorem pe_met (Z : LawD X.K X.mg) (M : MetD X.K X.mg) {T : List (Addr × Str)} {c P : Addr} {k : Nat} {params : Arguments} {body : Expr} {scope : Scope} {t : XK → TE} {p lpos pos : Pos} (hg : Gl X "_law_j_met") (TB : TabB X.base X.mg c P) (hcode : X.env.code = .ref c)
    (hmT : (P, X.env.qual ++ "<lambda>") ∈ T) (hu : ∀ p ∈ T, p.1 = P → p.2 = X.env.qual ++ "<lambda>") (hr : Room (k + 2) X.A) (L : LamS X.env.scope scope) (hdef : defaultsOf params X.env = ([], []))
    (hbind : ∀ (q : Str) (cl : List (Str × Addr)) (pm cv ctv : Value), bindArgs (PySem.W.kla_fn "<lambda>" q params body scope cl pm cv ctv) ⟨[], []⟩ = pure [])
    (hbody : ∀ (A : Around) (outer : List Env) (s : Shared) (H : Hp) (E : XK) (f c' : Addr), Room k (A.deeper (lamEnv X scope s.heap.objs.size f c')) → PE (lamCx X A outer s H E scope f c') body (t E)) :
    PE X (.Call (.Name "_law_j_met" p) [.Lambda params body scope lpos] [] pos) (tLam T (TTmet M) t) := by
  have F : Fun X.K "_law_j_met" "_law_j_met" (topS 51) (Z.f 51) (Z.d 51) := Z.F 51 (by decide)
  have bd : Binds X.K (Z.d 51) ["_law_ask"] [] := F.binds fun _ _ _ _ _ _ us hl => match us, hl with | [_], _ => rfl
  obtain ⟨oc, od, kV, doc, pm, an, cdv, ct, osl, e, lk, hcd⟩ := F.ex
  rw [e] at bd lk
  exact pe_lamcall hg (Z.g 51 (by decide)) F.kp lk hcd bd sc_met rfl (.inl rfl) (met_gives M) TB hcode hmT hu hr L hdef hbind hbody
end
end E1

set_option Elab.async false
set_option linter.all false
set_option maxRecDepth 100000
set_option maxHeartbeats 8000000
/-! A frame that lets tables of code objects grow; what is refused. -/
namespace E1
open PySem PySem.Spec PyProof.Rows L2 G0 LamX
/-- the stream at hand, the tables right, all but these as it stood -/
structure Kx (T : List (Addr × Str)) (p l : Addr) (n : Nat) (H H' : Hp) : Prop where
  st : Stm H' p l n
  tb : Tabs T H'
  but : ∀ b o, H b = some o → b ≠ p → b ≠ l → (∀ ps, o ≠ .tbl ps) → H' b = some o
theorem codeO_lst {c : Addr} {q : Str} (xs : List V) : CodeO c q ≠ .lst xs := fun z => by
  unfold CodeO at z
  cases z
section
variable {T : List (Addr × Str)} {p l c : Addr} {n m : Nat} {H H1 H2 : Hp} {o : HO}
theorem tabs_fr (S : Stm H p l n) (t : Tabs T H) (F : Fr H p l m H1) : Tabs T H1 := fun q hq => by
  obtain ⟨⟨xs, hp⟩, ys, hl⟩ := S.at_
  obtain ⟨ps, h1, h2, h3⟩ := t q hq
  refine ⟨ps, F.but _ _ h1 (ne_of h1 hp (fun z => by cases z)) (ne_of h1 hl (fun z => by cases z)), h2, fun pos cv hc => ?_⟩
  obtain ⟨c, e1, e2⟩ := h3 pos cv hc
  exact ⟨c, e1, F.but _ _ e2 (ne_of e2 hp (fun z => codeO_lst _ z)) (ne_of e2 hl (fun z => codeO_lst _ z))⟩
theorem Kx.start (S : Stm H p l n) (t : Tabs T H) : Kx T p l n H H := ⟨S, t, fun _ _ e _ _ _ => e⟩
theorem Kx.fr (F : Kx T p l n H H1) (G : Fr H1 p l m H2) : Kx T p l m H H2 := ⟨G.st, tabs_fr F.st F.tb G, fun b o e h1 h2 h3 => G.but _ _ (F.but b o e h1 h2 h3) h1 h2⟩
theorem Kx.same (F : Kx T p l n H H1) (S : Same H1 H2) : Kx T p l n H H2 := ⟨F.st.same S, F.tb.ext S, fun b o e h1 h2 h3 => S _ _ (F.but b o e h1 h2 h3)⟩
theorem Kx.put (F : Kx T p l n H H1) (h : H1 c = none) : Kx T p l n H (upd H1 c o) := F.same (new_same h)
theorem stm_ext (S : Stm H p l n) (e : ExtN H H1) : Stm H1 p l n := by
  obtain ⟨k, ⟨⟨ns, b, d, hp, hl, r⟩, hne⟩, c0, c1⟩ := S
  exact ⟨k, ⟨⟨ns, b, d, e _ _ hp (fun ps z => by cases z), e _ _ hl (fun ps z => by cases z), r⟩, hne⟩, c0, c1⟩
theorem Kx.ext (F : Kx T p l n H H1) (e : ExtN H1 H2) (t : Tabs T H2) : Kx T p l n H H2 := ⟨stm_ext F.st e, t, fun b o e1 h1 h2 h3 => e _ _ (F.but b o e1 h1 h2 h3) h3⟩
theorem Kx.trans (F : Kx T p l n H H1) (G : Kx T p l m H1 H2) : Kx T p l m H H2 := ⟨G.st, G.tb, fun b o e h1 h2 h3 => G.but _ _ (F.but b o e h1 h2 h3) h1 h2 h3⟩
theorem Kx.mono (F : Kx T p l n H H1) (h : n ≤ m) : Kx T p l m H H1 := ⟨F.st.mono h, F.tb, F.but⟩
theorem Kx.ne (F : Kx T p l n H H1) (h : H1 c = none) : c ≠ p ∧ c ≠ l := by
  obtain ⟨⟨xs, hp⟩, ys, hl⟩ := F.st.at_
  exact ⟨(fun z => by rw [z, hp] at h; cases h), (fun z => by rw [z, hl] at h; cases h)⟩
theorem Kx.lst {xs : List V} (F : Kx T p l n H H1) (e : H c = some (.lst xs)) (h : c ≠ p ∧ c ≠ l) : H1 c = some (.lst xs) := F.but _ _ e h.1 h.2 (fun ps z => by cases z)
theorem Kx.tup {xs : List V} (F : Kx T p l n H H1) (e : H c = some (.tup xs)) (h : c ≠ p ∧ c ≠ l) : H1 c = some (.tup xs) := F.but _ _ e h.1 h.2 (fun ps z => by cases z)
theorem Kx.items {a : Addr} {xs : List V} (F : Kx T p l n H H1) (e : itemsOf H (.ref a) = some xs) (h : a ≠ p ∧ a ≠ l) : itemsOf H1 (.ref a) = some xs := items_at.mpr ((items_at.mp e).elim (fun q => .inl (F.lst q h)) fun q => .inr (F.tup q h))
theorem Kx.prs {tv : List V} {ts : List Pr} (F : Kx T p l n H H1) (pt : PrsAt H tv ts) (h : ∀ t, V.ref t ∈ tv → t ≠ p ∧ t ≠ l) : PrsAt H1 tv ts := ⟨pt.1, fun i v q e1 e2 => by
  obtain ⟨t, rfl, ht⟩ := pt.2 i v q e1 e2
  exact ⟨t, rfl, F.tup ht (h t (List.mem_of_getElem? e1))⟩⟩
theorem ext_items {a : Addr} {xs : List V} (e : ExtN H H1) (h : itemsOf H (.ref a) = some xs) : itemsOf H1 (.ref a) = some xs := items_at.mpr ((items_at.mp h).elim (fun q => .inl (e _ _ q fun ps z => by cases z)) fun q => .inr (e _ _ q fun ps z => by cases z))
theorem ext_itemsV {v : V} {xs : List V} (e : ExtN H H1) (h : itemsOf H v = some xs) : itemsOf H1 v = some xs := by
  cases v with
  | ref a => exact ext_items e h
  | _ => cases h
/-- a value's kind, and what is no list, stay -/
theorem kn_ext {C : Addr} {v : V} (k : Kn C H v) (e : ExtN H H1) : Kn C H1 v ∧ kdOf H1 v = kdOf H v ∧ itemsOf H1 v = itemsOf H v := by
  cases k with
  | non => exact ⟨.non, rfl, rfl⟩
  | bl b => exact ⟨.bl b, rfl, rfl⟩
  | int i => exact ⟨.int i, rfl, rfl⟩
  | str x => exact ⟨.str x, rfl, rfl⟩
  | lst h =>
    have h1 := e _ _ h (fun ps z => by cases z)
    exact ⟨.lst h1, by simp only [kdOf, h, h1], by simp only [itemsOf, h, h1]⟩
  | tup h =>
    have h1 := e _ _ h (fun ps z => by cases z)
    exact ⟨.tup h1, by simp only [kdOf, h, h1], by simp only [itemsOf, h, h1]⟩
  | dic h =>
    have h1 := e _ _ h (fun ps z => by cases z)
    exact ⟨.dic h1, by simp only [kdOf, h, h1], by simp only [itemsOf, h, h1]⟩
  | own h =>
    have h1 := e _ _ h (fun ps z => by cases z)
    exact ⟨.own h1, by simp only [kdOf, h, h1], by simp only [itemsOf, h, h1]⟩
theorem kn_kx {C : Addr} {v : V} (k : Kn C H v) (e : itemsOf H v = none) (S : Stm H p l m) (F : Kx T p l n H H1) : Kn C H1 v ∧ itemsOf H1 v = none := by
  obtain ⟨⟨xs, hp⟩, ys, hl⟩ := S.at_
  cases k with
  | non => exact ⟨.non, rfl⟩
  | bl b => exact ⟨.bl b, rfl⟩
  | int i => exact ⟨.int i, rfl⟩
  | str x => exact ⟨.str x, rfl⟩
  | lst h => rw [items_at.mpr (.inl h)] at e; cases e
  | tup h => rw [items_at.mpr (.inr h)] at e; cases e
  | @dic a kvs h =>
    have h1 := F.but _ _ h (ne_of h hp (fun z => by cases z)) (ne_of h hl (fun z => by cases z)) (fun ps z => by cases z)
    exact ⟨.dic h1, by simp only [itemsOf, h1]⟩
  | @own a dx fs h =>
    have h1 := F.but _ _ h (ne_of h hp (fun z => by cases z)) (ne_of h hl (fun z => by cases z)) (fun ps z => by cases z)
    exact ⟨.own h1, by simp only [itemsOf, h1]⟩
theorem Lq.kx {C : Addr} (S : Stm H p l m) (F : Kx T p l n H H1) : ∀ {i : Nat} {v : V} {k : Nat}, Lq C p l H i v k → Lq C p l H1 i v k
  | 0, _, _, h => kn_kx h.1 h.2 S F
  | i + 1, _, _, h => by
    rcases h with h | ⟨a, xs, c, rfl, h1, h2, h3, h4, h5, h6⟩
    · exact .inl (kn_kx h.1 h.2 S F)
    · exact .inr ⟨a, xs, c, rfl, F.items h1 ⟨h2, h3⟩, h2, h3, h4, fun x hx => Lq.kx S F (h5 x hx), h6⟩
end
/-! ### a loose copy, looked at -/
section
variable {C : Addr} {N : Addr → Prop} {H H' : Hp} {n : Nat} {v w : V}
theorem lz_list {xs : List V} (e : itemsOf H v = some xs) (z : Lz C N H H' (n + 1) v w) : ∃ a ys, w = .ref a ∧ itemsOf H' w = some ys ∧ N a ∧ xs.length = ys.length ∧ ∀ (i : Nat) (x y : V), xs[i]? = some x → ys[i]? = some y → Lz C (fun c => N c ∧ c ≠ a) H H' n x y := by
  rcases z with ⟨_, _, e2⟩ | ⟨xs', ys, b, e1, rfl, hb, nb, ll, k⟩
  · rw [e] at e2
    cases e2
  · rw [e] at e1
    cases e1
    exact ⟨b, ys, rfl, items_at.mpr hb, nb, ll, k⟩
theorem lz_str {s : Str} (z : Lz C N H H' n v w) (e : w = .str s) : v = .str s := by
  cases n with
  | zero => exact z.1.symm.trans e
  | succ n =>
    rcases z with h | ⟨xs, ys, a, _, rfl, _⟩
    · exact h.1.symm.trans e
    · cases e
/-- its kind: what is no list stands as it stood -/
theorem lz_kn {p l : Addr} {m m2 : Nat} (S : Stm H p l m) (F : Fr H p l m2 H') (z : Lz C N H H' n v w) : Kn C H' w := by
  cases n with
  | zero =>
    obtain ⟨rfl, h1, h2⟩ := z
    exact (kn_but h1 h2 S F.but).1
  | succ n =>
    rcases z with ⟨rfl, h1, h2⟩ | ⟨xs, ys, a, _, rfl, hb, _⟩
    · exact (kn_but h1 h2 S F.but).1
    · exact items_kn (items_at.mpr hb)
/-- its items, told back -/
theorem lz_back {ys : List V} {p l : Addr} {m m2 : Nat} (S : Stm H p l m) (F : Fr H p l m2 H') (z : Lz C N H H' (n + 1) v w) (e : itemsOf H' w = some ys) : ∃ xs, itemsOf H v = some xs ∧ xs.length = ys.length ∧ ∀ (i : Nat) (x y : V), xs[i]? = some x → ys[i]? = some y → ∃ N', Lz C N' H H' n x y := by
  rcases z with ⟨rfl, h1, h2⟩ | ⟨xs, ys', a, h1, rfl, hb, na, ll, k⟩
  · rw [(kn_but h1 h2 S F.but).2] at e
    cases e
  · rw [items_at.mpr hb] at e
    cases e
    exact ⟨xs, h1, ll, fun i x y e1 e2 => ⟨_, k i x y e1 e2⟩⟩
theorem lz_pair {a b : Str} {p l : Addr} {m m2 : Nat} (S : Stm H p l m) (F : Fr H p l m2 H') (z : Lz C N H H' (n + 1) v w) (e : itemsOf H' w = some [.str a, .str b]) : itemsOf H v = some [.str a, .str b] := by
  obtain ⟨xs, h1, ll, k⟩ := lz_back S F z e
  match xs, ll with
  | [x, y], _ =>
    obtain ⟨_, z1⟩ := k 0 x (.str a) rfl rfl
    obtain ⟨_, z2⟩ := k 1 y (.str b) rfl rfl
    rw [h1, lz_str z1 rfl, lz_str z2 rfl]
end
end E1

set_option Elab.async false
set_option linter.all false
set_option maxRecDepth 100000
set_option maxHeartbeats 4000000
/-! The same data. -/
namespace E1
open PySem PySem.Spec PyProof.Rows L2 G0
theorem kn_is6 {K : PySem.W.Frag} {C : Addr} {H : Hp} {v : V} (O : OwnC K C) (k : Kn C H v) : ∃ t, TyX K H v t ∧ ∀ T, T ∈ ["str", "list", "tuple", "dict", "int", "bool"] → PySem.W.kitOne K t (.type T) = some (kdOf H v == T || (kdOf H v == "bool" && T == "int")) := by
  have all := (by decide +kernel : ∀ T ∈ ["str", "list", "tuple", "dict", "int", "bool"], ∀ a ∈ ["NoneType", "bool", "int", "str", "list", "tuple", "dict"], kitB a T = some (a == T || (a == "bool" && T == "int")))
  have tk : ∀ a, a ∈ ["NoneType", "bool", "int", "str", "list", "tuple", "dict"] → ∀ T, T ∈ ["str", "list", "tuple", "dict", "int", "bool"] → PySem.W.kitOne K (.type a) (.type T) = some (a == T || (a == "bool" && T == "int")) := fun a ha T hT => kit_ty (all T hT a ha)
  cases k with
  | non => exact ⟨_, .base .non, tk _ (by decide)⟩
  | bl b => exact ⟨_, .base (.bl b), tk _ (by decide)⟩
  | int i => exact ⟨_, .base (.int i), tk _ (by decide)⟩
  | str x => exact ⟨_, .base (.str x), tk _ (by decide)⟩
  | lst e => exact ⟨_, .base (.lst e), by simp only [kdOf, e]; exact tk _ (by decide)⟩
  | tup e => exact ⟨_, .base (.tup e), by simp only [kdOf, e]; exact tk _ (by decide)⟩
  | dic e => exact ⟨_, .base (.dK e), by simp only [kdOf, e]; exact tk _ (by decide)⟩
  | own e =>
    refine ⟨_, .base (.ins e O.cl O.ha O.hn O.htk O.hm), fun T hT => ?_⟩
    simp only [kdOf, e]
    rw [O.no T (by simpa using hT)]
    simp only [List.mem_cons, List.not_mem_nil, or_false] at hT
    rcases hT with rfl | rfl | rfl | rfl | rfl | rfl <;> decide
/-- isinstance(v, T) where v's kind is known by name -/
theorem kn_one {K : PySem.W.Frag} {C : Addr} {H : Hp} {v : V} {d : String} (O : OwnC K C) (k : Kn C H v) (e : kdOf H v = d) : ∃ t, TyX K H v t ∧ (∀ T, T ∈ ["str", "list", "tuple", "dict", "int", "bool"] → PySem.W.kitOne K t (.type T) = some (d == T || (d == "bool" && T == "int"))) ∧
    PySem.W.kitAny K t [.type "list", .type "tuple"] = some (d == "list" || d == "tuple") := by
  obtain ⟨t, h1, h2⟩ := kn_is6 O k
  rw [e] at h2
  have a := h2 "list" (by decide)
  have b := h2 "tuple" (by decide)
  simp only [show (("list" : String) == "int") = false from by decide, show (("tuple" : String) == "int") = false from by decide, Bool.and_false, Bool.or_false] at a b
  refine ⟨t, h1, h2, kitAny_cons a (fun z => kitAny_cons b (fun y => ?_) fun y => ?_) fun z => ?_⟩
  · rw [z, y]
    rfl
  · rw [y, Bool.or_true]
  · rw [z, Bool.true_or]
def scV : V → Bool
  | .non => true
  | .bl _ => true
  | .int _ => true
  | .str _ => true
  | _ => false
/-- the same data, what is within by R -/
def Sq (C : Addr) (R : V → V → Hp → Prop) : V → V → Hp → Prop := fun v w H => (v = w ∧ scV v = true) ∨ (∃ a pl ts rm, v = .ref a ∧ w = .ref a ∧ BoardAt (fun _ => True) C H a pl ts rm) ∨
  (∃ a b xs ys, v = .ref a ∧ w = .ref b ∧ ((H a = some (.lst xs) ∧ H b = some (.lst ys)) ∨ (H a = some (.tup xs) ∧ H b = some (.tup ys))) ∧ xs.length = ys.length ∧ xs.length ≤ 2000 ∧ ∀ (i : Nat) (x y : V), xs[i]? = some x → ys[i]? = some y → R x y H) ∨
  ∃ a, v = .ref a ∧ w = .ref a ∧ H a = some (.dK []) ∧ ∀ (H' : Hp) (b c : Addr), H' b = some (.lst []) → H' c = some (.lst []) → R (.ref b) (.ref c) H'
def spSame (R : V → V → Hp → Prop) : Sp := fun vs H Q _ => ∃ v w, vs = [v, w] ∧ R v w H ∧ ∀ H', Same H H' → Q (.bl true) H'
def Stb (R : V → V → Hp → Prop) : Prop := ∀ v w H H', Same H H' → R v w H → R v w H'
theorem Sq.stb {C : Addr} {R : V → V → Hp → Prop} (h : Stb R) : Stb (Sq C R) := fun v w H H' S x => by
  rcases x with x | ⟨a, pl, ts, rm, e1, e2, b⟩ | ⟨a, b, xs, ys, e1, e2, e3, e4, e5, e6⟩ | ⟨a, e1, e2, e3, e4⟩
  · exact .inl x
  · exact .inr (.inl ⟨a, pl, ts, rm, e1, e2, b.same S⟩)
  · exact .inr (.inr (.inl ⟨a, b, xs, ys, e1, e2, e3.elim (fun q => .inl ⟨S _ _ q.1, S _ _ q.2⟩) (fun q => .inr ⟨S _ _ q.1, S _ _ q.2⟩), e4, e5, fun i x y h1 h2 => h _ _ _ _ S (e6 i x y h1 h2)⟩))
  · exact .inr (.inr (.inr ⟨a, e1, e2, S _ _ e3, e4⟩))
theorem walk_zipT {K : PySem.W.Frag} {a b : Addr} {xs ys : List V} {n : Nat} (hn : n = min xs.length ys.length) : Walk (RZ.ItzT K a b) n (fun H => SqT K H a xs ∧ SqT K H b ys) (YPair (fun i => xs[i]?) (fun i => ys[i]?)) := by
  subst hn
  refine ⟨fun i _ hi q => ?_, fun _ q => ⟨xs, ys, q.1, q.2, by omega⟩, fun i H v H' _ q y => ?_⟩
  · have h1 : i < xs.length := by omega
    have h2 : i < ys.length := by omega
    exact ⟨xs, ys, xs[i], ys[i], q.1, q.2, by simp [h1], by simp [h2]⟩
  · obtain ⟨T, x, z, h1, h2, h3, h4, h5⟩ := y
    exact ⟨T, x, z, h1, h2, h3, h4 xs q.1, h5 ys q.2⟩
abbrev N_same : List Str := ["_law_found", "_law_due_here", "_law_x", "_law_y"]
theorem sc_same : FnScope N_same ["_law_found", "_law_due_here"] (defScope (topS 56)) := ⟨rfl, rfl, rfl, by decide +kernel, rfl, by decide +kernel, by decide +kernel⟩
theorem boot_dictT : bootBuiltins "dict" = some (.type "dict") := by decide +kernel
theorem boot_int' : bootBuiltins "int" = some (.type "int") := by decide +kernel
theorem boot_bool' : bootBuiltins "bool" = some (.type "bool") := by decide +kernel
section
variable {P : Program} {w : World} {K : PySem.W.Frag} {mg : Str → Option Value} {base : Heap}
theorem bSame (Z : LawD K mg) : Binds K (Z.d 56) ["_law_found", "_law_due_here"] [] := (Z.F 56 (by decide)).binds fun _ _ _ _ _ _ us hl => match us, hl with | [_, _], _ => rfl
theorem ok_same_of (Z : LawD K mg) {k : Nat} {R : V → V → Hp → Prop} (hR : Stb R) (GS : FnOk P w K mg base CX0 (k + 1) (Z.f 56) (Z.d 56) ["_law_found", "_law_due_here"] (spSame R)) :
    FnOk P w K mg base CX0 (k + 2) (Z.f 56) (Z.d 56) ["_law_found", "_law_due_here"] (spSame (Sq Z.B.C R)) := by
  have GB : FnOk P w K mg base CX0 1 (Z.B.f 1) (Z.B.d 1) ["self", "other"] (spBEq Z.B.C) := ok_beq Z.B Z.t
  refine Fun.ok (Z.F 56 (by decide)) sc_same (fun vs H Q E h => ?_) (fun cdv A outer s H vs Q E hr h => ⟨_, pss_cons (ps_if (pt_val (pe_callB call_isiT (by rfl) Z.t.isinstance (by decide +kernel) (pa_cons (pv 1) (pa_cons (pe_tup (pa_cons (pe_bltn (by rfl) Z.t.list PyProof.Rows.boot_list (v := .ty "list") rfl) (pa_cons (pe_bltn (by rfl) Z.t.tuple boot_tuple (v := .ty "tuple") rfl) pa_nil))) pa_nil))))
      (pss_cons (ps_if (PW.pt (pw_or (pt_cmpR op_ne (pe_callB call_isi (by rfl) Z.t.isinstance (by decide +kernel) (pa_cons (pv 0) (pa_cons (pe_bltn (by rfl) Z.t.list PyProof.Rows.boot_list (v := .ty "list") rfl) pa_nil))) (pe_callB call_isi (by rfl) Z.t.isinstance (by decide +kernel) (pa_cons (pv 1) (pa_cons (pe_bltn (by rfl) Z.t.list PyProof.Rows.boot_list (v := .ty "list") rfl) pa_nil))) (nomark _))
          (pw_or1 (pt_cmpR op_ne (pe_callB call_isi (by rfl) Z.t.isinstance (by decide +kernel) (pa_cons (pv 0) (pa_cons (pe_bltn (by rfl) Z.t.tuple boot_tuple (v := .ty "tuple") rfl) pa_nil))) (pe_callB call_isi (by rfl) Z.t.isinstance (by decide +kernel) (pa_cons (pv 1) (pa_cons (pe_bltn (by rfl) Z.t.tuple boot_tuple (v := .ty "tuple") rfl) pa_nil))) (nomark _))))) (pss_one (ps_ret pe_bl)) pss_nil)
      (pss_one (ps_ret (pe_and (pe_cmpR op_eq (pe_callB call_len_seq (by rfl) Z.t.len PySem.boot_len (pa_cons (pv 0) pa_nil)) (pe_callB call_len_seq (by rfl) Z.t.len PySem.boot_len (pa_cons (pv 1) pa_nil)) (nomark _)) (pe_one (pe_callB (cr_all rfl) (by rfl) Z.t.all (by decide +kernel) (pa_cons (pe_lc (own := [("_law_x", 2), ("_law_y", 3)]) (tt := tYes) (g := gTup K 2 (gCons (gName 2) (gCons (gName 3) gNil))) rfl sc_same.nd (RZ.pi_zipA (by rfl) (Z.free "zip" (by decide)) (pa_cons (pv 0) (pa_cons (pv 1) pa_nil))) (blkOk_by (own := [("_law_x", 2), ("_law_y", 3)]) (N := N_same) (sc := defScope (topS 56)) (by decide +kernel)) (fun _ _ _ _ _ => by exact (pg_tup rfl (pgs_cons (pg_name (i := 2) sc_same.nd rfl (Or.inl rfl)) (pgs_cons (pg_name (i := 3) sc_same.nd rfl (Or.inl rfl)) pgs_nil)))) (fun _ _ _ _ _ => pts_nil) (fun _ _ _ _ _ => (pe_call GS hr (by rfl) (Z.g 56 (by decide)) (Z.F 56 (by decide)).kp (bSame Z) .nil pass0 (pa_cons (pv 2) (pa_cons (pv 3) pa_nil))))) pa_nil))))))) pss_nil)
    (pss_cons (ps_if (pt_val (pe_callB call_isi (by rfl) Z.t.isinstance (by decide +kernel) (pa_cons (pv 1) (pa_cons (pe_bltn (by rfl) (Z.free "dict" (by decide)) boot_dictT (v := .ty "dict") rfl) pa_nil)))) (pss_one (ps_ret (pe_and (pe_callB call_isi (by rfl) Z.t.isinstance (by decide +kernel) (pa_cons (pv 0) (pa_cons (pe_bltn (by rfl) (Z.free "dict" (by decide)) boot_dictT (v := .ty "dict") rfl) pa_nil))) (pe_one (pe_call GS hr (by rfl) (Z.g 56 (by decide)) (Z.F 56 (by decide)).kp (bSame Z) .nil pass0 (pa_cons (LiI.pe_listItems rfl (pv 0) (by rfl) Z.t.list PyProof.Rows.boot_list) (pa_cons (LiI.pe_listItems rfl (pv 1) (by rfl) Z.t.list PyProof.Rows.boot_list) pa_nil))))))) pss_nil)
    (pss_cons (ps_if (pt_val (pe_callB call_isi (by rfl) Z.t.isinstance (by decide +kernel) (pa_cons (pv 1) (pa_cons (pe_bltn (by rfl) (Z.free "int" (by decide)) boot_int' (v := .ty "int") rfl) pa_nil)))) (pss_one (ps_ret (pe_and (pe_callB call_isi (by rfl) Z.t.isinstance (by decide +kernel) (pa_cons (pv 0) (pa_cons (pe_bltn (by rfl) (Z.free "int" (by decide)) boot_int' (v := .ty "int") rfl) pa_nil))) (pe_and (pe_cmpR op_eq (pe_callB call_isi (by rfl) Z.t.isinstance (by decide +kernel) (pa_cons (pv 0) (pa_cons (pe_bltn (by rfl) (Z.free "bool" (by decide)) boot_bool' (v := .ty "bool") rfl) pa_nil))) (pe_callB call_isi (by rfl) Z.t.isinstance (by decide +kernel) (pa_cons (pv 1) (pa_cons (pe_bltn (by rfl) (Z.free "bool" (by decide)) boot_bool' (v := .ty "bool") rfl) pa_nil))) (nomark _)) (pe_one (pe_cmpR op_eq (pv 0) (pv 1) (nomark _))))))) pss_nil)
    (pss_one (ps_ret (pe_and (pe_not (pe_callB call_isiT (by rfl) Z.t.isinstance (by decide +kernel) (pa_cons (pv 0) (pa_cons (pe_tup (pa_cons (pe_bltn (by rfl) (Z.free "int" (by decide)) boot_int' (v := .ty "int") rfl) (pa_cons (pe_bltn (by rfl) Z.t.list PyProof.Rows.boot_list (v := .ty "list") rfl) (pa_cons (pe_bltn (by rfl) Z.t.tuple boot_tuple (v := .ty "tuple") rfl) (pa_cons (pe_bltn (by rfl) (Z.free "dict" (by decide)) boot_dictT (v := .ty "dict") rfl) pa_nil))))) pa_nil)))) (pe_one (pe_cmpR (OpR.or op_eq (op_beq GB (hr.mono (by omega)) Z.B.eqA Z.B.eqF (b_m1 Z.B) pass0 Z.B.nf)) (pv 0) (pv 1) (nomark _)))))))), ?_⟩)
  · obtain ⟨v, u, rfl, _⟩ := h
    rfl
  · obtain ⟨v, u, rfl, h, k⟩ := h
    have any4 : ∀ {t : Value} {d : String}, (∀ T, T ∈ ["str", "list", "tuple", "dict", "int", "bool"] → PySem.W.kitOne K t (.type T) = some (d == T || (d == "bool" && T == "int"))) → (d ∈ ["NoneType", "str", ""]) → PySem.W.kitAny K t [.type "int", .type "list", .type "tuple", .type "dict"] = some false := fun {t d} g hd => by
      have a := g "int" (by decide)
      have b := g "list" (by decide)
      have c := g "tuple" (by decide)
      have e := g "dict" (by decide)
      simp only [List.mem_cons, List.not_mem_nil, or_false] at hd
      rcases hd with rfl | rfl | rfl <;> exact kitAny_cons a (fun _ => kitAny_cons b (fun _ => kitAny_cons c (fun _ => kitAny_cons e (fun _ => rfl) (fun z => by revert z; decide)) (fun z => by revert z; decide)) (fun z => by revert z; decide)) (fun z => by revert z; decide)
    rcases h with ⟨rfl, hs⟩ | ⟨a, pl, ts, rm, rfl, rfl, hB⟩ | ⟨a, b, xs, ys, rfl, rfl, hab, hl, hL, hx⟩ | ⟨a, rfl, rfl, ha, hE⟩
    · cases v with
      | non =>
        refine ⟨_, rfl, by show 2 ≤ sizeLine; decide, fun t nt => ?_⟩
        have ST := new_same (o := .tup [.ty "list", .ty "tuple"]) nt
        obtain ⟨ty, h1, h2, h3⟩ := kn_one (d := "NoneType") Z.B.O (.non : Kn Z.B.C (upd H t (.tup [.ty "list", .ty "tuple"])) _) rfl
        refine ⟨_, t, _, ty, _, _, rfl, upd_same, .cons (.ty _) (.cons (.ty _) .nil), h1, h3, _, rfl, iteF ?_⟩
        refine ⟨_, rfl, _, _, ty, _, _, rfl, .ty _, h1, h2 "dict" (by decide), _, rfl, iteF ?_⟩
        refine ⟨_, rfl, _, _, ty, _, _, rfl, .ty _, h1, h2 "int" (by decide), _, rfl, iteF ?_⟩
        refine ⟨_, rfl, by show 4 ≤ sizeLine; decide, fun t4 nt4 => ?_⟩
        obtain ⟨ty4, g1, g2, _⟩ := kn_one (d := "NoneType") Z.B.O (.non : Kn Z.B.C (upd (upd H t (.tup [.ty "list", .ty "tuple"])) t4 (.tup [.ty "int", .ty "list", .ty "tuple", .ty "dict"])) _) rfl
        refine ⟨_, t4, _, ty4, _, _, rfl, upd_same, .cons (.ty _) (.cons (.ty _) (.cons (.ty _) (.cons (.ty _) .nil))), g1, any4 g2 (by decide), ?_⟩
        refine ⟨_, rfl, _, rfl, iteT ⟨_, rfl, _, rfl, .inl ⟨rfl, ?_⟩⟩⟩
        exact k _ (ST.trans (new_same nt4))
      | bl x =>
        refine ⟨_, rfl, by show 2 ≤ sizeLine; decide, fun t nt => ?_⟩
        have ST := new_same (o := .tup [.ty "list", .ty "tuple"]) nt
        obtain ⟨ty, h1, h2, h3⟩ := kn_one (d := "bool") Z.B.O (.bl x : Kn Z.B.C (upd H t (.tup [.ty "list", .ty "tuple"])) _) rfl
        refine ⟨_, t, _, ty, _, _, rfl, upd_same, .cons (.ty _) (.cons (.ty _) .nil), h1, h3, _, rfl, iteF ?_⟩
        refine ⟨_, rfl, _, _, ty, _, _, rfl, .ty _, h1, h2 "dict" (by decide), _, rfl, iteF ?_⟩
        refine ⟨_, rfl, _, _, ty, _, _, rfl, .ty _, h1, h2 "int" (by decide), _, rfl, iteT ?_⟩
        refine ⟨_, rfl, _, _, ty, _, _, rfl, .ty _, h1, h2 "int" (by decide), _, rfl, iteT ?_⟩
        refine ⟨_, rfl, _, _, ty, _, _, rfl, .ty _, h1, h2 "bool" (by decide), _, rfl, _, _, ty, _, _, rfl, .ty _, h1, h2 "bool" (by decide), rfl, _, rfl, ?_⟩
        rw [decide_eq_true rfl]
        refine iteT ⟨_, rfl, _, rfl, rfl, ?_⟩
        rw [decide_eq_true rfl]
        exact k _ ST
      | int x =>
        refine ⟨_, rfl, by show 2 ≤ sizeLine; decide, fun t nt => ?_⟩
        have ST := new_same (o := .tup [.ty "list", .ty "tuple"]) nt
        obtain ⟨ty, h1, h2, h3⟩ := kn_one (d := "int") Z.B.O (.int x : Kn Z.B.C (upd H t (.tup [.ty "list", .ty "tuple"])) _) rfl
        refine ⟨_, t, _, ty, _, _, rfl, upd_same, .cons (.ty _) (.cons (.ty _) .nil), h1, h3, _, rfl, iteF ?_⟩
        refine ⟨_, rfl, _, _, ty, _, _, rfl, .ty _, h1, h2 "dict" (by decide), _, rfl, iteF ?_⟩
        refine ⟨_, rfl, _, _, ty, _, _, rfl, .ty _, h1, h2 "int" (by decide), _, rfl, iteT ?_⟩
        refine ⟨_, rfl, _, _, ty, _, _, rfl, .ty _, h1, h2 "int" (by decide), _, rfl, iteT ?_⟩
        refine ⟨_, rfl, _, _, ty, _, _, rfl, .ty _, h1, h2 "bool" (by decide), _, rfl, _, _, ty, _, _, rfl, .ty _, h1, h2 "bool" (by decide), rfl, _, rfl, ?_⟩
        rw [decide_eq_true rfl]
        refine iteT ⟨_, rfl, _, rfl, rfl, ?_⟩
        rw [decide_eq_true rfl]
        exact k _ ST
      | str x =>
        refine ⟨_, rfl, by show 2 ≤ sizeLine; decide, fun t nt => ?_⟩
        have ST := new_same (o := .tup [.ty "list", .ty "tuple"]) nt
        obtain ⟨ty, h1, h2, h3⟩ := kn_one (d := "str") Z.B.O (.str x : Kn Z.B.C (upd H t (.tup [.ty "list", .ty "tuple"])) _) rfl
        refine ⟨_, t, _, ty, _, _, rfl, upd_same, .cons (.ty _) (.cons (.ty _) .nil), h1, h3, _, rfl, iteF ?_⟩
        refine ⟨_, rfl, _, _, ty, _, _, rfl, .ty _, h1, h2 "dict" (by decide), _, rfl, iteF ?_⟩
        refine ⟨_, rfl, _, _, ty, _, _, rfl, .ty _, h1, h2 "int" (by decide), _, rfl, iteF ?_⟩
        refine ⟨_, rfl, by show 4 ≤ sizeLine; decide, fun t4 nt4 => ?_⟩
        obtain ⟨ty4, g1, g2, _⟩ := kn_one (d := "str") Z.B.O (.str x : Kn Z.B.C (upd (upd H t (.tup [.ty "list", .ty "tuple"])) t4 (.tup [.ty "int", .ty "list", .ty "tuple", .ty "dict"])) _) rfl
        refine ⟨_, t4, _, ty4, _, _, rfl, upd_same, .cons (.ty _) (.cons (.ty _) (.cons (.ty _) (.cons (.ty _) .nil))), g1, any4 g2 (by decide), ?_⟩
        refine ⟨_, rfl, _, rfl, iteT ⟨_, rfl, _, rfl, .inl ⟨rfl, ?_⟩⟩⟩
        rw [decide_eq_true rfl]
        exact k _ (ST.trans (new_same nt4))
      | _ => cases hs
    · -- a board
      obtain ⟨dx, aP, aT, aR, aN, tv, l, e1, hB2⟩ := id hB
      refine ⟨_, rfl, by show 2 ≤ sizeLine; decide, fun t nt => ?_⟩
      have ST := new_same (o := .tup [.ty "list", .ty "tuple"]) nt
      have e2 := ST _ _ e1
      obtain ⟨ty, h1, h2, h3⟩ := kn_one (d := "") Z.B.O (Kn.own (C := Z.B.C) e2) (by simp only [kdOf, e2])
      refine ⟨_, t, _, ty, _, _, rfl, upd_same, .cons (.ty _) (.cons (.ty _) .nil), h1, h3, _, rfl, iteF ?_⟩
      refine ⟨_, rfl, _, _, ty, _, _, rfl, .ty _, h1, h2 "dict" (by decide), _, rfl, iteF ?_⟩
      refine ⟨_, rfl, _, _, ty, _, _, rfl, .ty _, h1, h2 "int" (by decide), _, rfl, iteF ?_⟩
      refine ⟨_, rfl, by show 4 ≤ sizeLine; decide, fun t4 nt4 => ?_⟩
      have S4 := ST.trans (new_same (o := .tup [.ty "int", .ty "list", .ty "tuple", .ty "dict"]) nt4)
      have e4 := S4 _ _ e1
      obtain ⟨ty4, g1, g2, _⟩ := kn_one (d := "") Z.B.O (Kn.own (C := Z.B.C) e4) (by simp only [kdOf, e4])
      refine ⟨_, t4, _, ty4, _, _, rfl, upd_same, .cons (.ty _) (.cons (.ty _) (.cons (.ty _) (.cons (.ty _) .nil))), g1, any4 g2 (by decide), ?_⟩
      refine ⟨_, rfl, _, rfl, iteT ⟨_, rfl, _, rfl, .inr ⟨a, dx, _, rfl, e4, .own e4, a, .ref a, pl, ts, rm, rfl, hB.same S4, .inr ⟨a, pl, ts, rm, rfl, hB.same S4, ?_⟩⟩⟩⟩
      rw [decide_eq_true rfl, decide_eq_true rfl, decide_eq_true rfl]
      exact k _ S4
    · rcases hab with ⟨ha, hb⟩ | ⟨ha, hb⟩
      · refine ⟨_, rfl, by show 2 ≤ sizeLine; decide, fun t nt => ?_⟩
        have ST := new_same (o := .tup [.ty "list", .ty "tuple"]) nt
        have ea := ST _ _ ha
        have eb := ST _ _ hb
        obtain ⟨tya, ga1, ga2, ga3⟩ := kn_one (d := "list") Z.B.O (Kn.lst (C := Z.B.C) ea) (by simp only [kdOf, ea])
        obtain ⟨tyb, gb1, gb2, gb3⟩ := kn_one (d := "list") Z.B.O (Kn.lst (C := Z.B.C) eb) (by simp only [kdOf, eb])
        refine ⟨_, t, _, tyb, _, _, rfl, upd_same, .cons (.ty _) (.cons (.ty _) .nil), gb1, gb3, _, rfl, iteT ?_⟩
        refine ⟨_, rfl, _, _, tya, _, _, rfl, .ty _, ga1, ga2 "list" (by decide), _, rfl, _, _, tyb, _, _, rfl, .ty _, gb1, gb2 "list" (by decide), rfl, _, rfl, ?_⟩
        rw [decide_eq_true rfl]
        refine iteF ⟨_, rfl, _, _, tya, _, _, rfl, .ty _, ga1, ga2 "tuple" (by decide), _, rfl, _, _, tyb, _, _, rfl, .ty _, gb1, gb2 "tuple" (by decide), rfl, _, rfl, ?_⟩
        rw [decide_eq_true rfl]
        refine iteF ⟨_, rfl, a, xs, rfl, .inl (SqL.of ea), _, rfl, b, ys, rfl, .inl (SqL.of eb), rfl, _, rfl, ?_⟩
        rw [show decide (V.int (xs.length : Nat) = V.int (ys.length : Nat)) = true from decide_eq_true (by rw [hl])]
        refine iteT ⟨_, rfl, _, rfl, a, b, xs, ys, rfl, .inl ⟨SqL.of ea, SqL.of eb, fun D hD => ?_⟩⟩
        refine lc_it (walk_zip (n := xs.length) (by omega)) (fun i H' => H' D = some (.lst ((List.replicate i true).map V.bl)) ∧ Same (upd H t (.tup [.ty "list", .ty "tuple"])) H') ⟨upd_same, new_same hD⟩ (fun i H' _ ⟨_, S'⟩ => ⟨SqL.of (S' _ _ ea), SqL.of (S' _ _ eb)⟩) ?_ ?_
        · rintro i v H' H'' hi ⟨hacc, S'⟩ ⟨T, x, y, rfl, nT, rfl, hx1, hy1⟩
          have S2 := S'.trans (new_same (o := .tup [x, y]) nT)
          refine ⟨T, _, rfl, SqT.of upd_same, rfl, _, _, rfl, _, _, rfl, rfl, rfl, yes_of ⟨_, rfl, _, rfl, x, y, rfl, hR _ _ _ _ (ST.trans S2) (hx i x y hx1 hy1), fun H3 S3 => ⟨_, S3 _ _ (new_same nT _ _ hacc), ?_, ?_, ?_⟩⟩⟩
          · rw [List.length_map, List.length_replicate]
            exact small1000' (by omega)
          · rw [upd_same, List.replicate_succ', List.map_append]
            rfl
          · exact fun b o e => by
              rw [upd_ne (ne_of_none e hD)]
              exact S3 _ _ (S2 _ _ e)
        · rintro H' ⟨hacc, S'⟩
          refine ⟨D, List.replicate xs.length true, rfl, SqL.of hacc, ?_⟩
          rw [show (List.replicate xs.length true).all id = true from List.all_eq_true.mpr fun z hz => (List.mem_replicate.mp hz).2]
          exact k _ (ST.trans S')
      · refine ⟨_, rfl, by show 2 ≤ sizeLine; decide, fun t nt => ?_⟩
        have ST := new_same (o := .tup [.ty "list", .ty "tuple"]) nt
        have ea := ST _ _ ha
        have eb := ST _ _ hb
        obtain ⟨tya, ga1, ga2, ga3⟩ := kn_one (d := "tuple") Z.B.O (Kn.tup (C := Z.B.C) ea) (by simp only [kdOf, ea])
        obtain ⟨tyb, gb1, gb2, gb3⟩ := kn_one (d := "tuple") Z.B.O (Kn.tup (C := Z.B.C) eb) (by simp only [kdOf, eb])
        refine ⟨_, t, _, tyb, _, _, rfl, upd_same, .cons (.ty _) (.cons (.ty _) .nil), gb1, gb3, _, rfl, iteT ?_⟩
        refine ⟨_, rfl, _, _, tya, _, _, rfl, .ty _, ga1, ga2 "list" (by decide), _, rfl, _, _, tyb, _, _, rfl, .ty _, gb1, gb2 "list" (by decide), rfl, _, rfl, ?_⟩
        rw [decide_eq_true rfl]
        refine iteF ⟨_, rfl, _, _, tya, _, _, rfl, .ty _, ga1, ga2 "tuple" (by decide), _, rfl, _, _, tyb, _, _, rfl, .ty _, gb1, gb2 "tuple" (by decide), rfl, _, rfl, ?_⟩
        rw [decide_eq_true rfl]
        refine iteF ⟨_, rfl, a, xs, rfl, .inr (SqT.of ea), _, rfl, b, ys, rfl, .inr (SqT.of eb), rfl, _, rfl, ?_⟩
        rw [show decide (V.int (xs.length : Nat) = V.int (ys.length : Nat)) = true from decide_eq_true (by rw [hl])]
        refine iteT ⟨_, rfl, _, rfl, a, b, xs, ys, rfl, .inr ⟨SqT.of ea, SqT.of eb, fun D hD => ?_⟩⟩
        refine lc_it (walk_zipT (n := xs.length) (by omega)) (fun i H' => H' D = some (.lst ((List.replicate i true).map V.bl)) ∧ Same (upd H t (.tup [.ty "list", .ty "tuple"])) H') ⟨upd_same, new_same hD⟩ (fun i H' _ ⟨_, S'⟩ => ⟨SqT.of (S' _ _ ea), SqT.of (S' _ _ eb)⟩) ?_ ?_
        · rintro i v H' H'' hi ⟨hacc, S'⟩ ⟨T, x, y, rfl, nT, rfl, hx1, hy1⟩
          have S2 := S'.trans (new_same (o := .tup [x, y]) nT)
          refine ⟨T, _, rfl, SqT.of upd_same, rfl, _, _, rfl, _, _, rfl, rfl, rfl, yes_of ⟨_, rfl, _, rfl, x, y, rfl, hR _ _ _ _ (ST.trans S2) (hx i x y hx1 hy1), fun H3 S3 => ⟨_, S3 _ _ (new_same nT _ _ hacc), ?_, ?_, ?_⟩⟩⟩
          · rw [List.length_map, List.length_replicate]
            exact small1000' (by omega)
          · rw [upd_same, List.replicate_succ', List.map_append]
            rfl
          · exact fun b o e => by
              rw [upd_ne (ne_of_none e hD)]
              exact S3 _ _ (S2 _ _ e)
        · rintro H' ⟨hacc, S'⟩
          refine ⟨D, List.replicate xs.length true, rfl, SqL.of hacc, ?_⟩
          rw [show (List.replicate xs.length true).all id = true from List.all_eq_true.mpr fun z hz => (List.mem_replicate.mp hz).2]
          exact k _ (ST.trans S')
    · -- an empty dict
      refine ⟨_, rfl, by show 2 ≤ sizeLine; decide, fun t nt => ?_⟩
      have ST := new_same (o := .tup [.ty "list", .ty "tuple"]) nt
      have e2 := ST _ _ ha
      obtain ⟨ty, h1, h2, h3⟩ := kn_one (d := "dict") Z.B.O (Kn.dic (C := Z.B.C) e2) (by simp only [kdOf, e2])
      refine ⟨_, t, _, ty, _, _, rfl, upd_same, .cons (.ty _) (.cons (.ty _) .nil), h1, h3, _, rfl, iteF ?_⟩
      refine ⟨_, rfl, _, _, ty, _, _, rfl, .ty _, h1, h2 "dict" (by decide), _, rfl, iteT ?_⟩
      refine ⟨_, rfl, _, _, ty, _, _, rfl, .ty _, h1, h2 "dict" (by decide), _, rfl, iteT ?_⟩
      refine ⟨_, rfl, a, [], rfl, e2, fun H3 p1 ts1 S3 np1 _ _ hp1 pr1 => ⟨_, rfl, a, [], rfl, S3 _ _ e2, fun H4 p2 ts2 S4 np2 _ _ hp2 pr2 => ?_⟩⟩
      cases pr1
      cases pr2
      exact ⟨.ref p1, .ref p2, rfl, hE H4 p1 p2 (S4 _ _ hp1) hp2, fun H5 S5 => k H5 (((ST.trans S3).trans S4).trans S5)⟩
/-- the same data, nested less than n deep -/
def SmN (C : Addr) : Nat → V → V → Hp → Prop
  | 0 => fun _ _ _ => False
  | n + 1 => Sq C (SmN C n)
theorem SmN.stb {C : Addr} : ∀ n, Stb (SmN C n)
  | 0 => fun _ _ _ _ _ h => h.elim
  | n + 1 => Sq.stb (SmN.stb n)
theorem ok_same (Z : LawD K mg) : ∀ n, FnOk P w K mg base CX0 (n + 1) (Z.f 56) (Z.d 56) ["_law_found", "_law_due_here"] (spSame (SmN Z.B.C n))
  | 0 => ⟨fun _ _ _ _ h => by
      obtain ⟨_, _, _, h, _⟩ := h
      exact h.elim, fun _ _ _ _ _ _ _ _ _ _ _ _ _ h => by
      obtain ⟨_, _, _, h, _⟩ := h
      exact h.elim⟩
  | n + 1 => ok_same_of Z (SmN.stb n) (ok_same Z n)
end
end E1

set_option Elab.async false
set_option linter.all false
set_option maxRecDepth 100000
set_option maxHeartbeats 8000000
/-! What is one's own under such a frame. -/
namespace E1
open PySem PySem.Spec PyProof.Rows L2 G0 LamX
theorem sm_tup {C : Addr} {H : Hp} {a b : Addr} {s : Str} {v w : V} {n : Nat} (ha : H a = some (.tup [.str s, v])) (hb : H b = some (.tup [.str s, w])) (h : SmN C (n + 1) v w H) : SmN C (n + 2) (.ref a) (.ref b) H := by
  refine .inr (.inr (.inl ⟨a, b, _, _, rfl, rfl, .inr ⟨ha, hb⟩, rfl, by show 2 ≤ 2000; decide, fun i x y e1 e2 => ?_⟩))
  match i, e1, e2 with
  | 0, e1, e2 =>
    cases e1
    cases e2
    exact .inl ⟨rfl, rfl⟩
  | 1, e1, e2 =>
    cases e1
    cases e2
    exact h
  | i + 2, e1, e2 => simp at e1
theorem sm_sc {C : Addr} {H : Hp} {v : V} {n : Nat} (h : scV v = true) : SmN C (n + 1) v v H := .inl ⟨rfl, h⟩
/-- nothing stood here but a table, perhaps -/
def New (H : Hp) (f : Addr) : Prop := ∀ o, H f = some o → ∃ ps, o = .tbl ps
section
variable {T : List (Addr × Str)} {p l f : Addr} {n : Nat} {H H1 : Hp} {xs ys : List V}
theorem Kx.new (F : Kx T p l n H H1) (h : H1 f = none) : New H f := fun o e => by
  by_cases ht : ∃ ps, o = .tbl ps
  · exact ht
  · have ne := F.ne h
    have := F.but f o e ne.1 ne.2 fun ps q => ht ⟨ps, q⟩
    rw [h] at this
    cases this
theorem tabs_own (t : Tabs T H1) (h : H1 f = some (.lst xs)) : Tabs T (upd H1 f (.lst ys)) := fun q hq => by
  obtain ⟨ps, h1, h2, h3⟩ := t q hq
  refine ⟨ps, by rw [upd_ne (ne_of h1 h (fun z => by cases z))]; exact h1, h2, fun pos cv hc => ?_⟩
  obtain ⟨c, e1, e2⟩ := h3 pos cv hc
  exact ⟨c, e1, by rw [upd_ne (ne_of e2 h (fun z => codeO_lst _ z))]; exact e2⟩
/-- a list of one's own is written -/
theorem Kx.own (F : Kx T p l n H H1) (nf : New H f) (h : H1 f = some (.lst xs)) (ne : f ≠ p ∧ f ≠ l) : Kx T p l n H (upd H1 f (.lst ys)) :=
  ⟨F.st.upd ne.1.symm ne.2.symm, tabs_own F.tb h, fun b o e h1 h2 h3 => by
    by_cases hb : b = f
    · rw [hb] at e
      obtain ⟨ps, q⟩ := nf o e
      exact absurd q (h3 ps)
    · rw [upd_ne hb]
      exact F.but b o e h1 h2 h3⟩
theorem BoardAt.nt {N : Addr → Prop} {C : Addr} {a : Addr} {pl : List Str} {ts : List Pr} {rm : List Str} (b : BoardAt N C H a pl ts rm) : BoardAt (fun c => N c ∧ ∀ ps, H c ≠ some (.tbl ps)) C H a pl ts rm := by
  obtain ⟨dx, aP, aT, aR, aN, tv, l, h1, h2, h3, h4, h5, h6, h7, n1, n2, n3, n4, n5, n6, n7⟩ := b
  refine ⟨dx, aP, aT, aR, aN, tv, l, h1, h2, h3, h4, h5, h6, h7, ⟨n1, fun ps e => by rw [h1] at e; cases e⟩, ⟨n2, fun ps e => by rw [h2] at e; cases e⟩, ⟨n3, fun ps e => by rw [h3] at e; cases e⟩, ⟨n4, fun ps e => by rw [h5] at e; cases e⟩, ⟨n5, fun ps e => by rw [h6.d] at e; cases e⟩,
    fun s hs => ⟨n6 s hs, fun ps e => by rw [h6.at_ s hs] at e; cases e⟩, fun t ht => ⟨n7 t ht, fun ps e => ?_⟩⟩
  obtain ⟨i, hi⟩ := List.getElem?_of_mem ht
  have hl : i < ts.length := by
    rw [← h4.1]
    exact (List.getElem?_eq_some_iff.mp hi).1
  obtain ⟨t', q, ht'⟩ := h4.2 i _ _ hi (List.getElem?_eq_getElem hl)
  cases q
  rw [ht'] at e
  cases e
theorem BoardAt.kx {N : Addr → Prop} {C : Addr} {a : Addr} {pl : List Str} {ts : List Pr} {rm : List Str} (b : BoardAt N C H a pl ts rm) (hN : ∀ c, N c → c ≠ p ∧ c ≠ l) (F : Kx T p l n H H1) : BoardAt (fun _ => True) C H1 a pl ts rm :=
  ((b.nt).frame (H' := H1) fun c o hc e => F.but c o e (hN c hc.1).1 (hN c hc.1).2 fun ps q => hc.2 ps (by rw [e, q])).weak fun _ _ => trivial
theorem BoardAt.kxN {N : Addr → Prop} {C : Addr} {a : Addr} {pl : List Str} {ts : List Pr} {rm : List Str} (b : BoardAt N C H a pl ts rm) (hN : ∀ c, N c → c ≠ p ∧ c ≠ l) (F : Kx T p l n H H1) : BoardAt N C H1 a pl ts rm :=
  ((b.nt).frame (H' := H1) fun c o hc e => F.but c o e (hN c hc.1).1 (hN c hc.1).2 fun ps q => hc.2 ps (by rw [e, q])).weak fun _ h => h.1
theorem BoardAt.ext {N : Addr → Prop} {C : Addr} {a : Addr} {pl : List Str} {ts : List Pr} {rm : List Str} (b : BoardAt N C H a pl ts rm) (e : ExtN H H1) : BoardAt N C H1 a pl ts rm :=
  ((b.nt).frame (H' := H1) fun c o hc q => e c o q fun ps z => hc.2 ps (by rw [q, z])).weak fun _ h => h.1
end
end E1

set_option Elab.async false
set_option linter.all false
set_option maxRecDepth 100000
set_option maxHeartbeats 3200000
/-! Sets of objects that are told apart by a key (tuples of texts, say): adding, over any such kind. -/
namespace G14
open PySem PySem.Spec PyProof.Rows L2
/-- objects that a set may hold -/
structure Elt (P : Program) (w : World) (K : Type) [DecidableEq K] where
  At : Heap → K → Addr → Prop
  num : K → Int
  stay : ∀ {h h' : Heap} {k : K} {b : Addr}, At h k b → (∀ o, h.get? b = some o → h'.get? b = some o) → At h' k b
  noSet : ∀ {h : Heap} {k : K} {b : Addr} {o : Obj} {es : Array (Int × Value)} {ep : Nat} {t : SetTable}, At h k b → h.get? b = some o → o.data = .set es ep t → False
  one : ∀ {h : Heap} {k k' : K} {b : Addr}, At h k b → At h k' b → k = k'
  cmp : ∀ {A : Around} {E : Value → Shared → Prop} {s : Shared} {k k' : K} {b c : Addr} {Q : Bool → Shared → Prop}, A.units < cLine → At s.heap k' c → At s.heap k b → Q (decide (k' = k)) s → wpAny (model P w) A (eqBool (.ref c) (.ref b)) Q E s
  mute : ∀ {A : Around} {E : Value → Shared → Prop} {s : Shared} {k : K} {b : Addr} {ys : List Value} {Q : Bool → Shared → Prop}, At s.heap k b → (∀ y ∈ ys, ∃ k' c, y = Value.ref c ∧ At s.heap k' c) → Q false s → wpAny (model P w) A (searchCouldBeSeen (.ref b) ys) Q E s
  byVal : ∀ {A : Around} {E : Value → Shared → Prop} {s : Shared} {k : K} {b : Addr} {Q : Bool → Shared → Prop}, At s.heap k b → (∀ z, Q z s) → wpAny (model P w) A (hashByValue 8 (.ref b)) Q E s
  hashed : ∀ {A : Around} {E : Value → Shared → Prop} {s : Shared} {k : K} {b : Addr} {Q : Int → Shared → Prop}, A.units < cLine → At s.heap k b → (∀ n, Q (num k) { s with toks := s.toks + n }) → wpAny (model P w) A (pyHash (.ref b)) Q E s
/-! ### the way of a probe -/
abbrev pr (m : Nat) (d : Int) (c : Nat) : SetTable.Probe := nth m (runAt m (SetTable.bits d % (m + 1)) (SetTable.bits d)) c
theorem pr_more (m : Nat) (d : Int) (c q : Nat) : nth m (pr m d c) q = pr m d (c + q) := (nth_add m c _ q).symm
theorem adv_dm (m : Nat) (p : SetTable.Probe) : (adv m p).dummy = p.dummy := by
  unfold adv
  split <;> rfl
theorem pr_dm (m : Nat) (d : Int) : ∀ c, (pr m d c).dummy = none
  | 0 => rfl
  | c + 1 => by
    show (nth m _ (c + 1)).dummy = none
    rw [nth_succ, adv_dm]
    exact pr_dm m d c
section
variable {P : Program} {w : World} {A : Around} {E : Value → Shared → Prop} {s : Shared} {K : Type} [DecidableEq K] {T : Elt P w K}
def lines (T : Elt P w K) (L : List (Addr × K)) : List (Int × Value) := L.map fun p => (T.num p.2, Value.ref p.1)
theorem lines_len (L : List (Addr × K)) : (lines T L).length = L.length := List.length_map _
theorem lines_at {L : List (Addr × K)} {i : Nat} {p : Addr × K} (h : L[i]? = some p) : (lines T L)[i]? = some (T.num p.2, Value.ref p.1) := by
  unfold lines
  rw [List.getElem?_map, h]
  rfl
/-- a set that holds just these -/
structure SetE (T : Elt P w K) (h : Heap) (a : Addr) (L : List (Addr × K)) (es : Array (Int × Value)) (ep : Nat) (t : SetTable) : Prop where
  ob : ∃ o, h.get? a = some o ∧ o.ExactSet ∧ o.data = .set es ep t
  rows : es.toList = lines T L
  tab : TabOk t (L.map fun p => T.num p.2)
  nd : (L.map (·.2)).Nodup
  has : ∀ p ∈ L, T.At h p.2 p.1
  led : w.params.followText "set-order" = true ∨ t.led = true
  room : L.length * 5 < t.mask * 3
  few : L.length < 77
variable {a : Addr} {L : List (Addr × K)} {es : Array (Int × Value)} {ep : Nat} {t : SetTable}
theorem rows_size (e : es.toList = lines T L) : es.size = L.length := by
  rw [← Array.length_toList, e, lines_len]
theorem tab_size (e : TabOk t (L.map fun p => T.num p.2)) : t.place.size = L.length := by
  rw [e.sz, List.length_map]
theorem fits_of (hp : t.place.size = L.length) (dm : t.dummies = #[]) (he : es.size = L.length) (le : L.length ≤ t.mask) : t.fits es.size = true := by
  unfold SetTable.fits SetTable.fill
  rw [dm, Bool.and_eq_true, beq_iff_eq, decide_eq_true_eq, hp, he]
  exact ⟨rfl, le⟩
theorem SetE.fits (R : SetE T s.heap a L es ep t) : t.fits es.size = true := fits_of (tab_size R.tab) R.tab.dm (rows_size R.rows) (by have := R.room; omega)
theorem SetE.entry (R : SetE T s.heap a L es ep t) {i : Nat} {p : Addr × K} (h : L[i]? = some p) : es[i]? = some (T.num p.2, Value.ref p.1) := by
  rw [← Array.getElem?_toList, R.rows]
  exact lines_at h
theorem SetE.stands (R : SetE T s.heap a L es ep t) : ¬ t.gaveWay = true := by
  unfold SetTable.gaveWay
  rw [mask_odd R.tab.mok]
  decide
/-- the search, from the c-th step on -/
theorem seek (R : SetE T s.heap a L es ep t) {x : Addr} {k : K} (hx : T.At s.heap k x) (hu : A.units < cLine) {J : Nat} (fuel : J < 10 * SetTable.turns t.mask)
    (free : way t.mask (T.num k) J ∉ t.place.toList) (busy : ∀ c, c < J → way t.mask (T.num k) c ∈ t.place.toList) {Q : SetFound → Shared → Prop}
    (yes : k ∈ L.map (·.2) → Q (.there none) s) (no : k ∉ L.map (·.2) → Q (.free (way t.mask (T.num k) J) false) s) :
    ∀ (f c : Nat) (stand : Option SetTable.Probe), stand.getD (t.probeStart (T.num k)) = pr t.mask (T.num k) c → c ≤ J → J - c < f →
      (∀ (i : Nat) p, L[i]? = some p → p.2 = k → ∃ c', c ≤ c' ∧ c' < J ∧ t.place.toList[i]? = some (way t.mask (T.num k) c')) →
      wpAny (model P w) A (setSearchFrom a (.ref x) (T.num k) true f stand) Q E s
  | 0, _, _, _, _, lt, _ => absurd lt (Nat.not_lt_zero _)
  | f + 1, c, stand, at_, le, lt, far => by
    obtain ⟨o, ho, ex, da⟩ := R.ob
    rw [setSearchFrom_succ]
    refine wpAny_bind (wpAny_setState_of ho da R.fits ?_)
    dsimp only
    refine wp_if_neg R.stands ?_
    try refine wpAny_bind (wpAny_pure ?_)
    have j_ : ∀ q, (nth t.mask (pr t.mask (T.num k) c) q).j = way t.mask (T.num k) (c + q) := fun q => congrArg SetTable.Probe.j (pr_more _ _ c q)
    have hash_ : ∀ (i : Nat) p, L[i]? = some p → (es[i]?.map (·.1)).getD 0 = T.num p.2 := fun i p hp => by
      rw [R.entry hp]
      rfl
    have found := go_spec t R.tab.ris R.tab.dm (fun i => (es[i]?.map (·.1)).getD 0) (T.num k) (10 * SetTable.turns t.mask) (J - c) (pr t.mask (T.num k) c) (pr_dm _ _ c) (by omega) (fun q hq => by rw [j_]; exact busy _ (by omega)) (by rw [j_, show c + (J - c) = J by omega]; exact free)
    rcases found with ⟨q, i, hq, hi, hh, ahead, met⟩ | ⟨ahead, met⟩
    · have met' : t.probe (fun i => (es[i]?.map (·.1)).getD 0) (T.num k) (stand.getD (t.probeStart (T.num k))) = some (.candidate (way t.mask (T.num k) (c + q)) i (pr t.mask (T.num k) (c + (q + 1)))) := by
        rw [at_, ← j_, ← pr_more]
        exact met
      rw [met']
      dsimp only
      rw [j_] at hi
      have il : i < L.length := by
        rw [← tab_size R.tab, ← Array.length_toList]
        exact (List.getElem?_eq_some_iff.mp hi).1
      obtain ⟨p, hp⟩ : ∃ p, L[i]? = some p := ⟨_, List.getElem?_eq_getElem il⟩
      have mem : p ∈ L := List.mem_of_getElem? hp
      have rest : wpAny (model P w) A (searchRest a (.ref x) (T.num k) true f es t (way t.mask (T.num k) (c + q)) i (pr t.mask (T.num k) (c + (q + 1)))) Q E s := by
        unfold searchRest
        rw [R.entry hp]
        dsimp only
        refine wpAny_bind (wpAny_holding (T.cmp hu (R.has p mem) hx ?_))
        refine wpAny_bind (wpAny_setState_of ho da R.fits ?_)
        dsimp only
        by_cases same : p.2 = k
        · refine wp_if_pos (by simp [same]) ?_
          exact wpAny_pure (yes (List.mem_map.mpr ⟨p, mem, same⟩))
        · refine wp_if_neg (by simp [same]) ?_
          try refine wpAny_bind (wpAny_pure ?_)
          rw [sameMem]
          dsimp only
          have live : t.slot (way t.mask (T.num k) (c + q)) = .live i := slot_live R.tab.ris hi
          simp only [if_true, live, R.entry hp]
          refine wpAny_bind (wpAny_isSame_ref_self (wpAny_bind (wpAny_pure ?_)))
          simp only [if_true]
          refine wp_if_neg (by simp [same]) ?_
          refine seek R hx hu fuel free busy yes no f (c + (q + 1)) _ rfl (by omega) (by omega) fun i' p' h' k' => ?_
          obtain ⟨c', b1, b2, b3⟩ := far i' p' h' k'
          have ne : c' ≠ c + q := fun z => by
            rw [z] at b3
            have live' := slot_live R.tab.ris b3
            rw [live] at live'
            injection live' with e
            rw [← e, hp] at h'
            cases h'
            exact same k'
          have ge : ¬ c' < c + q := fun z => ahead (c' - c) i' (by omega) (by rw [j_, show c + (c' - c) = c' by omega]; exact b3) ((hash_ i' p' h').trans (congrArg T.num k'))
          exact ⟨c', by omega, b2, b3⟩
      by_cases ld : t.led = true
      · refine wp_if_neg (by simp [ld]) ?_
        try refine wpAny_bind (wpAny_pure ?_)
        exact rest
      · refine wp_if_pos (by simp [ld]) ?_
        refine wpAny_bind (T.mute hx (fun y hy => ?_) ?_)
        · obtain ⟨e, he, ee⟩ := List.mem_map.mp hy
          have h1 : e ∈ es ∧ e.1 = T.num k := by simpa using he
          have h2 : e ∈ es.toList := by simpa using h1.1
          rw [R.rows] at h2
          obtain ⟨p2, hp2, e2⟩ := List.mem_map.mp h2
          exact ⟨p2.2, p2.1, by rw [← ee, ← e2], R.has p2 hp2⟩
        · refine wp_if_neg (by decide) ?_
          try refine wpAny_bind (wpAny_pure ?_)
          exact rest
    · have met' : t.probe (fun i => (es[i]?.map (·.1)).getD 0) (T.num k) (stand.getD (t.probeStart (T.num k))) = some (.empty (way t.mask (T.num k) J) none) := by
        have e2 := j_ (J - c)
        rw [show c + (J - c) = J by omega] at e2
        rw [at_, ← e2]
        exact met
      rw [met']
      dsimp only
      refine wpAny_pure (no fun m => ?_)
      obtain ⟨p0, h0, k0⟩ := List.mem_map.mp m
      obtain ⟨i0, hi0⟩ := List.getElem?_of_mem h0
      obtain ⟨c', b1, b2, b3⟩ := far i0 p0 hi0 k0
      exact ahead (c' - c) i0 (by omega) (by rw [j_, show c + (c' - c) = c' by omega]; exact b3) ((hash_ i0 p0 hi0).trans (congrArg T.num k0))
/-- the search that adding asks for -/
theorem seekAdd (R : SetE T s.heap a L es ep t) {x : Addr} {k : K} (hx : T.At s.heap k x) (hu : A.units < cLine) {Q : SetFound → Shared → Prop} (yes : k ∈ L.map (·.2) → Q (.there none) s)
    (no : ∀ J, k ∉ L.map (·.2) → way t.mask (T.num k) J ∉ t.place.toList → (∀ c, c < J → way t.mask (T.num k) c ∈ t.place.toList) → Q (.free (way t.mask (T.num k) J) false) s) :
    wpAny (model P w) A (setSearch a (.ref x) (T.num k) true) Q E s := by
  have room := R.room
  obtain ⟨J, f1, f2, f3⟩ := R.tab.first (by rw [List.length_map]; omega) (T.num k)
  have small : 10 * SetTable.turns t.mask ≤ 1420 := by
    unfold SetTable.turns
    rcases R.tab.mok with e | e | e <;> omega
  unfold setSearch
  refine seek R hx hu f1 f2 f3 yes (fun n => no J n f2 f3) 100000 0 none rfl (Nat.zero_le _) (by omega) fun i p hp hk => ?_
  have h1 : (L.map fun p => T.num p.2)[i]? = some (T.num k) := by
    rw [List.getElem?_map, hp, ← hk]
    rfl
  have il : i < t.place.toList.length := by
    rw [Array.length_toList, tab_size R.tab]
    exact (List.getElem?_eq_some_iff.mp hp).1
  obtain ⟨c, hc, e⟩ := R.tab.before f2 h1 (List.getElem?_eq_getElem il)
  exact ⟨c, Nat.zero_le _, hc, by rw [List.getElem?_eq_getElem il, e]⟩
/-! ### laid anew -/
theorem at_other {h h' : Heap} {k : K} {b : Addr} {o : Obj} (hb : T.At h k b) (ho : h.get? a = some o) (da : o.data = .set es ep t) (sb : Heap.SameBut a h h') : T.At h' k b := by
  have ne : b ≠ a := fun z => by
    rw [z] at hb
    exact T.noSet hb ho da
  exact T.stay hb fun o' e => (sb.2 b ne).trans e
theorem picked {order : List Nat} (e : es.toList = lines T L) (lt : ∀ i ∈ order, i < L.length) : order.filterMap (fun i => es[i]?) = lines T (order.filterMap fun i => L[i]?) ∧ ((order.filterMap fun i => L[i]?).map fun p => T.num p.2) = order.map fun i => (es.map (·.1)).getD i 0 := by
  induction order with
  | nil => exact ⟨rfl, rfl⟩
  | cons i order ih =>
    obtain ⟨ih1, ih2⟩ := ih fun j hj => lt j (List.mem_cons_of_mem _ hj)
    obtain ⟨p, hp⟩ : ∃ p, L[i]? = some p := ⟨_, List.getElem?_eq_getElem (lt i List.mem_cons_self)⟩
    have he : es[i]? = some (T.num p.2, Value.ref p.1) := by
      rw [← Array.getElem?_toList, e]
      exact lines_at hp
    have hm : (es.map (·.1))[i]? = some (T.num p.2) := by
      rw [Array.getElem?_map, he]
      rfl
    rw [List.filterMap_cons_some he, List.filterMap_cons_some hp, ih1, List.map_cons, List.map_cons, ih2]
    exact ⟨rfl, by rw [show (es.map (·.1)).getD i 0 = T.num p.2 by simp [Array.getD_eq_getD_getElem?, hm]]⟩
theorem all_picked (L : List (Addr × K)) : (List.range L.length).filterMap (fun i => L[i]?) = L := by
  have key : ∀ n, n ≤ L.length → (List.range n).filterMap (fun i => L[i]?) = L.take n := by
    intro n
    induction n with
    | zero => intro _; rfl
    | succ n ih =>
      intro le
      rw [List.range_succ, List.filterMap_append, ih (Nat.le_of_succ_le le), List.take_succ, List.getElem?_eq_getElem le]
      rw [List.filterMap_cons_some (List.getElem?_eq_getElem le)]
      rfl
  rw [key _ (Nat.le_refl _), List.take_length]
theorem anew {o : Obj} (ho : s.heap.get? a = some o) (ex : o.ExactSet) (da : o.data = .set es ep t) (rows : es.toList = lines T L) (pl : t.place.size = L.length) (dm : t.dummies = #[]) (le : L.length ≤ t.mask)
    (nd : (L.map (·.2)).Nodup) (has : ∀ p ∈ L, T.At s.heap p.2 p.1) (led : w.params.followText "set-order" = true ∨ t.led = true) (few : L.length < 77) {want M : Nat}
    (hw : SetTable.sizeAbove want - 1 = M) (hM : MaskOk M) (h128 : SetTable.sizeAbove want ≤ 128) (room : L.length * 5 < M * 3) {Q : Unit → Shared → Prop}
    (q : ∀ h' L' es' ep' t', Heap.SameBut a s.heap h' → SetE T h' a L' es' ep' t' → L'.Perm L → Q () { s with heap := h' }) : wpAny (model P w) A (setRelay a want) Q E s := by
  have sz := rows_size rows
  obtain ⟨t', order, e, perm, tab, em, el, epl, ed⟩ := relaid_ok t (hs := es.map (·.1)) (wanted := want) hw hM (by rw [Array.size_map, sz]; omega)
  rw [Array.size_map, sz] at perm
  obtain ⟨r1, r2⟩ := picked rows (order := order.toList) fun i hi => List.mem_range.mp (perm.mem_iff.mp hi)
  have pm : (order.toList.filterMap fun i => L[i]?).Perm L := by
    have := perm.filterMap fun i => L[i]?
    rw [all_picked] at this
    exact this
  rw [← r2] at tab
  generalize order.toList.filterMap (fun i => L[i]?) = L2 at r1 r2 pm tab
  have r1' : (order.filterMap (es[·]?)).toList = lines T L2 := by
    first
      | (rw [Array.toList_filterMap]; exact r1)
      | simpa using r1
  have s2 : (order.filterMap (es[·]?)).size = es.size := by rw [rows_size r1', pm.length_eq, sz]
  rw [setRelay_eq]
  refine wpAny_bind (wpAny_setState_of ho da (fits_of pl dm sz le) ?_)
  dsimp only
  refine wp_if_neg (by rw [sizeLine_eq]; omega) ?_
  try refine wpAny_bind (wpAny_pure ?_)
  rw [e]
  dsimp only
  refine wpAny_bind ?_
  refine wp_if_neg (by rw [s2]; simp) ?_
  try refine wpAny_bind (wpAny_pure ?_)
  refine wpAny_pure ?_
  dsimp only
  refine wpAny_storeSet_of ho da ?_ (by rw [s2, sz, sizeLine_eq]; omega)
  have sb : Heap.SameBut a s.heap (s.heap.update a (Obj.putSet (order.filterMap (es[·]?)) t')) := Heap.SameBut.update ..
  exact q _ L2 _ (ep + 1) t' sb ⟨⟨_, store_at ho da, ⟨ex.1, ex.2.1, ex.2.2⟩, rfl⟩, r1', tab, (pm.map (·.2)).nodup_iff.mpr nd, fun p hp => at_other (has p (pm.mem_iff.mp hp)) ho da sb, by rw [el]; exact led, by rw [pm.length_eq, em]; exact room, by rw [pm.length_eq]; exact few⟩ pm
theorem either {β : Type} {M : Model} {c : Prop} [Decidable c] {m : Sem Bool} {f : Bool → Sem β} {Q : β → Shared → Prop} (hm : ∀ R : Bool → Shared → Prop, (∀ z, R z s) → wpAny M A m R E s) (h : ∀ z, wpAny M A (f z) Q E s) :
    wpAny M A (if c then m >>= f else pure true >>= f) Q E s := by
  by_cases hc : c
  · exact wp_if_pos hc (wpAny_bind (hm _ h))
  · exact wp_if_neg hc (wpAny_bind (wpAny_pure (h true)))
/-- one is added -/
theorem added (R : SetE T s.heap a L es ep t) {x : Addr} {k : K} (hx : T.At s.heap k x) (hu : A.units < cLine) (few : L.length + 1 < 77) {Q : Bool → Shared → Prop}
    (q : ∀ b h' L' es' ep' t', Heap.SameBut a s.heap h' → SetE T h' a L' es' ep' t' → (k ∈ L.map (·.2) → L' = L) → (k ∉ L.map (·.2) → L'.Perm ((x, k) :: L)) → Q b { s with heap := h' }) :
    wpAny (model P w) A (setAddHashed a (.ref x) (T.num k)) Q E s := by
  obtain ⟨o, ho, ex, da⟩ := R.ob
  have sz := rows_size R.rows
  have room := R.room
  unfold setAddHashed
  refine wpAny_holding ?_
  rw [show (100000 : Nat) = 99999 + 1 from rfl, setAddHashedIn_succ]
  refine wpAny_bind (wpAny_setState_of ho da R.fits ?_)
  dsimp only
  refine wp_if_neg (by simp [byScan, Value.scannable]) ?_
  try refine wpAny_bind (wpAny_pure ?_)
  refine wpAny_bind (seekAdd R hx hu (fun m => ?_) fun J m free busy => ?_)
  · dsimp only
    exact wpAny_pure (q false s.heap L es ep t (Heap.SameBut.refl a s.heap) R (fun _ => rfl) fun z => absurd m z)
  dsimp only
  refine wpAny_bind (wpAny_setState_of ho da R.fits ?_)
  dsimp only
  obtain ⟨p1, p2, p3, p4, p5, p6, p7, p8, p9⟩ := R.tab.put free busy
  generalize t.put (way t.mask (T.num k) J) = pt at p1 p3 p4 p5 p6 p7 p8 p9 ⊢
  obtain ⟨t1, p⟩ := pt
  dsimp only at p1 p3 p4 p5 p6 p7 p8 p9 ⊢
  subst p1
  refine either (fun R hR => T.byVal hx hR) fun z => ?_
  have fork : ∃ t2 : SetTable, (if z = true then t1 else { t1 with plain := false }) = t2 ∧ TabOk t2 ((L.map fun p => T.num p.2).take (SetTable.below t.place (way t.mask (T.num k) J)) ++ T.num k :: (L.map fun p => T.num p.2).drop (SetTable.below t.place (way t.mask (T.num k) J))) ∧ t2.mask = t.mask ∧ t2.led = t.led ∧ t2.fill = L.length + 1 := by
    rw [List.length_map] at p9
    cases z with
    | true => exact ⟨_, rfl, p3, p4, p5, p9⟩
    | false => exact ⟨_, rfl, ⟨p3.ris, p3.dm, p3.sz, p3.mok, p3.bd, p3.reach⟩, p4, p5, p9⟩
  obtain ⟨t2, e2, q3, q4, q5, q9⟩ := fork
  rw [e2]
  clear e2 p3 p4 p5 p6 p7 p8 p9
  have in1 : (SetTable.insertAt es (SetTable.below t.place (way t.mask (T.num k) J)) (T.num k, Value.ref x)).toList = lines T (L.take (SetTable.below t.place (way t.mask (T.num k) J)) ++ (x, k) :: L.drop (SetTable.below t.place (way t.mask (T.num k) J))) := by
    rw [SetTable.toList_insertAt, R.rows]
    unfold lines
    rw [List.map_append, List.map_cons, List.map_take, List.map_drop]
  generalize SetTable.below t.place (way t.mask (T.num k) J) = p at p2 q3 in1 ⊢
  have pm := put_perm L p (x, k)
  have hs1 : (L.take p ++ (x, k) :: L.drop p).map (fun p => T.num p.2) = (L.map fun p => T.num p.2).take p ++ T.num k :: (L.map fun p => T.num p.2).drop p := by
    rw [List.map_append, List.map_cons, List.map_take, List.map_drop]
  rw [← hs1] at q3
  generalize L.take p ++ (x, k) :: L.drop p = L1 at pm q3 in1
  have len1 : L1.length = L.length + 1 := pm.length_eq
  have nd1 : (L1.map (·.2)).Nodup := (pm.map (·.2)).nodup_iff.mpr (List.nodup_cons.mpr ⟨m, R.nd⟩)
  have sz1 := rows_size in1
  generalize SetTable.insertAt es p (T.num k, Value.ref x) = es1 at in1 sz1 ⊢
  refine wpAny_bind (wpAny_storeSet_of ho da ?_ (by rw [sz1, len1, sizeLine_eq]; omega))
  have sb : Heap.SameBut a s.heap (s.heap.update a (Obj.putSet es1 t2)) := Heap.SameBut.update ..
  have ho1 := store_at (es' := es1) (t' := t2) ho da
  generalize s.heap.update a (Obj.putSet es1 t2) = h1 at sb ho1 ⊢
  have has1 : ∀ p ∈ L1, T.At h1 p.2 p.1 := fun p hp => by
    rcases List.mem_cons.mp (pm.mem_iff.mp hp) with e | hp
    · rw [e]
      exact at_other hx ho da sb
    · exact at_other (R.has p hp) ho da sb
  have ld1 : w.params.followText "set-order" = true ∨ t2.led = true := by rw [q5]; exact R.led
  by_cases full : t2.tooFull = true
  · first
      | (refine wpAny_bind ?_; refine wp_if_pos (by simp [full]) ?_)
      | (refine wp_if_pos (by simp [full]) ?_; refine wpAny_bind ?_)
    unfold SetTable.tooFull at full
    rw [decide_eq_true_eq, q9, q4] at full
    rw [sz]
    have pl2 : t2.place.size = L1.length := tab_size q3
    have go : ∀ M, SetTable.sizeAbove (SetTable.grown (L.length + 1)) - 1 = M → MaskOk M → SetTable.sizeAbove (SetTable.grown (L.length + 1)) ≤ 128 → L1.length * 5 < M * 3 → L1.length ≤ t2.mask →
        wpAny (model P w) A (setRelay a (SetTable.grown (L.length + 1))) (fun _ s' => wpAny (model P w) A (pure true) Q E s') E { s with heap := h1 } := fun M m1 m2 m3 m4 m5 =>
      anew (s := { s with heap := h1 }) ho1 ⟨ex.1, ex.2.1, ex.2.2⟩ rfl in1 pl2 q3.dm m5 nd1 has1 ld1 (by rw [len1]; exact few) m1 m2 m3 m4 fun h2 L2 es2 ep2 t2 sb2 R2 pm2 =>
        wpAny_pure (q true h2 L2 es2 ep2 t2 (sb.trans sb2) R2 (fun z => absurd z m) fun _ => pm2.trans pm)
    rcases R.tab.mok with e | e | e
    · have l4 : L.length = 4 := by omega
      exact go 31 (by rw [l4, size_20]) (.inr (.inl rfl)) (by rw [l4, size_20]; decide) (by omega) (by omega)
    · have l18 : L.length = 18 := by omega
      exact go 127 (by rw [l18, size_76]) (.inr (.inr rfl)) (by rw [l18, size_76]; decide) (by omega) (by omega)
    · exfalso
      omega
  · first
      | refine wp_if_neg (by simp [full]) ?_
      | (refine wpAny_bind ?_; refine wp_if_neg (by simp [full]) ?_; refine wpAny_pure ?_)
    unfold SetTable.tooFull at full
    rw [decide_eq_true_eq, q9] at full
    exact wpAny_pure (q true h1 L1 es1 (ep + 1) t2 sb ⟨⟨_, ho1, ⟨ex.1, ex.2.1, ex.2.2⟩, rfl⟩, in1, q3, nd1, has1, ld1, by omega, by omega⟩ (fun z => absurd z m) fun _ => pm)
end
end G14

set_option Elab.async false
set_option linter.all false
set_option maxRecDepth 100000
set_option maxHeartbeats 3200000
/-! Tuples of texts, as what a set holds; set(a list of them). -/
namespace G14
open PySem PySem.Spec PyProof.Rows L2
section
variable {P : Program} {w : World} {A : Around} {E : Value → Shared → Prop} {s : Shared}
abbrev TupAt (P : Program) (w : World) (h : Heap) (k : List Str) (b : Addr) : Prop := IsTupleKey (strKind P w) h k b
theorem txt_items {k : List Str} {vs : List Value} (h : ItemsAre (strKind P w) k vs) : ∀ v ∈ vs, ∃ x t, v = Value.str x t := by
  induction h with
  | nil =>
    intro v hv
    cases hv
  | @cons x u ks us h1 _ ih =>
    intro v hv
    rcases List.mem_cons.mp hv with e | hv
    · obtain ⟨t, e2⟩ := Value.isStrOf_shape h1
      exact ⟨x, t, e.trans e2⟩
    · exact ih v hv
theorem txt_noclass (n : Nat) (x : Str) (t : Tok) : ofAClassStatement n (.str x t) = pure false := by
  cases n <;> rfl
theorem txt_byVal (n : Nat) (x : Str) (t : Tok) : hashByValue n (.str x t) = pure false := by
  cases n <;> rfl
/-- over the items of a tuple of texts -/
theorem over_txt {σ : Type} {r0 : σ} {vs : Array Value} (all : ∀ v ∈ vs.toList, ∃ x t, v = Value.str x t) {f : Value → σ → Sem (ForInStep σ)} {Q : σ → Shared → Prop}
    (step : ∀ x t, ∀ R : ForInStep σ → Shared → Prop, R (.yield r0) s → wpAny (model P w) A (f (.str x t) r0) R E s) (q : Q r0 s) : wpAny (model P w) A (forIn vs r0 f) Q E s := by
  rw [← Array.forIn_toList]
  refine wpAny_forIn_list _ (fun rest r s' => r = r0 ∧ s' = s ∧ ∀ v ∈ rest, ∃ x t, v = Value.str x t) _ ?_ ?_ _ _ ⟨rfl, rfl, all⟩
  · rintro v rest r s' ⟨rfl, rfl, h⟩
    obtain ⟨x, t, rfl⟩ := h v List.mem_cons_self
    exact step x t _ ⟨rfl, rfl, fun u hu => h u (List.mem_cons_of_mem _ hu)⟩
  · rintro r s' ⟨rfl, rfl, _⟩
    exact q
theorem wp_either {α : Type} {M : Model} {c : Prop} [Decidable c] {x y : Sem α} {Q : α → Shared → Prop} (h : c → wpAny M A x Q E s) (h' : ¬ c → wpAny M A y Q E s) : wpAny M A (if c then x else y) Q E s := by
  split
  · exact h ‹_›
  · exact h' ‹_›
theorem tup_noclass {k : List Str} {b : Addr} {Q : Bool → Shared → Prop} (hk : TupAt P w s.heap k b) (q : Q false s) : wpAny (model P w) A (ofAClassStatement 8 (.ref b)) Q E s := by
  have ty := hk.typeIs
  obtain ⟨o, items, n, ho, _, da, hi⟩ := hk
  unfold ofAClassStatement
  refine wpAny_bind (wpAny_typeOf ty ?_)
  dsimp only
  have e : (("tuple" : String) == "tuple") = true := by decide
  simp only [e, if_true, Bool.not_true, Bool.false_eq_true, if_false]
  try refine wpAny_bind (wpAny_pure ?_)
  try simp only [Bool.not_true, Bool.false_eq_true, if_false]
  refine wpAny_bind (wpAny_seqItems ho da ?_)
  dsimp only
  refine wpAny_bind (over_txt (txt_items hi) (fun x t R hR => ?_) ?_)
  · rw [txt_noclass]
    refine wpAny_bind (wpAny_pure ?_)
    exact wpAny_pure hR
  · exact wpAny_pure q
theorem tup_byVal {k : List Str} {b : Addr} {Q : Bool → Shared → Prop} (hk : TupAt P w s.heap k b) (q : ∀ z, Q z s) : wpAny (model P w) A (hashByValue 8 (.ref b)) Q E s := by
  have ty := hk.typeIs
  obtain ⟨o, items, n, ho, _, da, hi⟩ := hk
  unfold hashByValue
  refine wpAny_bind (wpAny_specialOf ty F.slot_tuple_hash.lookup ?_)
  show wpAny _ _ (seqItems? (.ref b) >>= _) _ _ s
  refine wpAny_bind (wpAny_seqItems ho da ?_)
  dsimp only
  refine wpAny_bind ?_
  show wpAny _ _ (forIn items _ _) _ _ s
  rw [← Array.forIn_toList]
  refine wpAny_forIn_list _ (fun rest r s' => r.1 = none ∧ s' = s ∧ ∀ v ∈ rest, ∃ x t, v = Value.str x t) _ ?_ ?_ _ _ ⟨rfl, rfl, txt_items hi⟩
  · rintro v rest r s' ⟨_, rfl, h⟩
    obtain ⟨x, t, rfl⟩ := h v List.mem_cons_self
    rw [txt_byVal]
    refine wpAny_bind (wpAny_pure ?_)
    exact wpAny_pure (wpAny_pure (q false))
  · rintro ⟨r1, r2⟩ s' ⟨e, rfl, _⟩
    cases e
    exact wpAny_pure (q true)
theorem tup_mute {k : List Str} {b : Addr} {ys : List Value} {Q : Bool → Shared → Prop} (hk : TupAt P w s.heap k b) (hy : ∀ y ∈ ys, ∃ k' c, y = Value.ref c ∧ TupAt P w s.heap k' c) (q : Q false s) :
    wpAny (model P w) A (searchCouldBeSeen (.ref b) ys) Q E s := by
  unfold searchCouldBeSeen
  refine wpAny_bind ?_
  refine wpAny_forIn_list _ (fun rest r s' => r.1 = none ∧ s' = s ∧ ∀ y ∈ rest, ∃ k' c, y = Value.ref c ∧ TupAt P w s.heap k' c) _ ?_ ?_ _ _ ⟨rfl, rfl, hy⟩
  · rintro v rest r s' ⟨e, rfl, h⟩
    obtain ⟨k', c, rfl, hc⟩ := h v List.mem_cons_self
    have on := fun u hu => h u (List.mem_cons_of_mem _ hu)
    dsimp only
    refine wp_either (fun _ => wpAny_pure ⟨rfl, rfl, on⟩) fun _ => ?_
    refine wpAny_bind (wpAny_eqIsQuiet_tuple hk (wp_if_neg (by decide) ?_))
    refine wpAny_bind (wpAny_eqIsQuiet_tuple hc (wp_if_neg (by decide) ?_))
    refine wpAny_bind (tup_noclass hk (wp_if_neg (by decide) ?_))
    refine wpAny_bind (tup_noclass hc (wp_if_neg (by decide) ?_))
    exact wpAny_pure ⟨rfl, rfl, on⟩
  · rintro ⟨r1, r2⟩ s' ⟨e, rfl, _⟩
    cases e
    exact wpAny_pure q
/-- tuples of texts -/
def tupE (P : Program) (w : World) : Elt P w (List Str) where
  At := IsTupleKey (strKind P w)
  num := tupleKeyHash (strKind P w)
  stay := fun ⟨o, its, n, ho, r⟩ e => ⟨o, its, n, e o ho, r⟩
  noSet := fun ⟨o, its, n, ho, _, da, _⟩ h e => by
    cases ho.symm.trans h
    rw [da] at e
    cases e
  one := fun h h' => by
    obtain ⟨o, its, n, ho, _, da, hi⟩ := h
    obtain ⟨o', its', n', ho', _, da', hi'⟩ := h'
    cases ho.symm.trans ho'
    cases da.symm.trans da'
    exact hi.inj hi'
  cmp := fun hu h h' q => wpAny_eqBool_tuple hu h h' q
  mute := tup_mute
  byVal := tup_byVal
  hashed := fun hu h q => wpAny_pyHash_tuple hu h (q _)
end
end G14

set_option Elab.async false
set_option linter.all false
set_option maxRecDepth 100000
set_option maxHeartbeats 4000000
/-! set(l) of a list of such objects; sorted(set(l)) of pairs of texts. -/
namespace G14
open PySem PySem.Spec PyProof.Rows L2
section
variable {P : Program} {w : World} {K : Type} [DecidableEq K] {T : Elt P w K}
structure Taken (ks : List (Addr × K)) (i : Nat) (L : List (Addr × K)) : Prop where
  of : ∀ p ∈ L, p ∈ ks
  all : ∀ p ∈ ks.take i, p.2 ∈ L.map (·.2)
  le : L.length ≤ i
theorem Taken.none (ks : List (Addr × K)) : Taken ks 0 [] := ⟨fun p h => (by cases h), fun p h => (by cases h), Nat.le_refl _⟩
theorem Taken.next {ks L L' : List (Addr × K)} {i : Nat} {x : Addr × K} (g : Taken ks i L) (h : ks[i]? = some x) (c1 : x.2 ∈ L.map (·.2) → L' = L) (c2 : x.2 ∉ L.map (·.2) → L'.Perm (x :: L)) : Taken ks (i + 1) L' := by
  have le := g.le
  by_cases c : x.2 ∈ L.map (·.2)
  · rw [c1 c]
    refine ⟨g.of, fun p hp => ?_, by omega⟩
    rw [take_next h] at hp
    rcases List.mem_append.mp hp with hp | hp
    · exact g.all p hp
    · rw [List.mem_singleton.mp hp]
      exact c
  · have pm := c2 c
    refine ⟨fun p hp => ?_, fun p hp => ?_, by rw [pm.length_eq, List.length_cons]; omega⟩
    · rcases List.mem_cons.mp (pm.mem_iff.mp hp) with e | hp
      · rw [e]
        exact List.mem_of_getElem? h
      · exact g.of p hp
    · rw [(pm.map (·.2)).mem_iff]
      rw [take_next h] at hp
      rcases List.mem_append.mp hp with hp | hp
      · exact List.mem_cons_of_mem _ (g.all p hp)
      · rw [List.mem_singleton.mp hp]
        exact List.mem_cons_self
theorem SetE.move {h h' : Heap} {a : Addr} {L : List (Addr × K)} {es : Array (Int × Value)} {ep : Nat} {t : SetTable} (R : SetE T h a L es ep t) (k : ∀ o, h.get? a = some o → h'.get? a = some o) (has : ∀ p ∈ L, T.At h' p.2 p.1) : SetE T h' a L es ep t := by
  obtain ⟨o, ho, r⟩ := R.ob
  exact ⟨⟨o, k o ho, r⟩, R.rows, R.tab, R.nd, has, R.led, R.room, R.few⟩
abbrev nude (w : World) : Obj := { cls := .type "set", dict := none, data := .set #[] 0 (.fresh 0 0 (!w.params.followText "set-order")) }
theorem SetE.nude {h : Heap} {a : Addr} (ho : h.get? a = some (nude w)) : SetE T h a [] #[] 0 (.fresh 0 0 (!w.params.followText "set-order")) :=
  ⟨⟨_, ho, ⟨rfl, rfl, rfl⟩, rfl⟩, rfl, ⟨List.Pairwise.nil, rfl, rfl, .inl rfl, fun x hx => (by cases hx), fun i h j hi => (by simp at hi)⟩, List.nodup_nil, fun p hp => (by cases hp),
    (show w.params.followText "set-order" = true ∨ (!w.params.followText "set-order") = true by cases w.params.followText "set-order" <;> decide), (show 0 * 5 < 7 * 3 by decide), (show 0 < 77 by decide)⟩
variable {A : Around} {R : Result → Shared → Prop} {I S : Addr} {fp wr : List Addr} {G : Array GenState → Array GenState → Prop} {n : Nat} {Pv : Nat → Value → Prop} {St : Nat → Shared → Prop}
/-- what comes of the rest of the walk -/
theorem fill (W : WalksS P w A.in1 I fp wr G n Pv St) (out : S ∉ fp) (ks : List (Addr × K)) (vals : ∀ i v, Pv i v → ∃ p, ks[i]? = some p ∧ v = .ref p.1) (few : ks.length < 77) (hn : n = ks.length) (hu : A.in1.units < cLine)
    (h0 : Heap) (there : ∀ p ∈ ks, T.At h0 p.2 p.1) (newS : h0.get? S = none) (newW : ∀ b ∈ wr, h0.get? b = none) :
    ∀ (left at_ : Nat), at_ + left = n → ∀ s : Shared, St at_ s → (∀ b o, h0.get? b = some o → s.heap.get? b = some o) → (∃ L es ep t, SetE T s.heap S L es ep t ∧ Taken ks at_ L) →
      (∀ s' L es ep t, Moved (S :: wr) G s s' → SetE T s'.heap S L es ep t → Taken ks n L → (∀ b o, h0.get? b = some o → s'.heap.get? b = some o) → R (.ok (.ret .none)) s') → codeAny (model P w) A (.builtin "set.update.loop" ⟨[.ref S, .ref I], []⟩) R s
  | 0, at_, sum, s, st, kept, ⟨L, es, ep, t, has, tk⟩, fin => by
    obtain rfl : at_ = n := by omega
    refine codeAny_builtin F.entry_set_update_loop ?_
    rw [Around.under_plainId F.plain_set_update_loop _]
    refine (show wpAny (model P w) A.in1 (pyNext (.ref I) >>= _) _ _ s from wpAny_bind (W.done s _ _ st fun s' mv => ?_))
    have kept' : ∀ b o, h0.get? b = some o → s'.heap.get? b = some o := fun b o e => mv.heap b o (fun q => by rw [newW b q] at e; cases e) (kept b o e)
    exact wpAny_pure (fin s' L es ep t (mv.mono fun b hb => List.mem_cons_of_mem _ hb) (has.move (fun o e => mv.heap S o (fun q => out (W.sub _ q)) e) fun p hp => T.stay (there p (tk.of p hp)) fun o e => kept' _ o e) tk kept')
  | left + 1, at_, sum, s, st, kept, ⟨L, es, ep, t, has, tk⟩, fin => by
    have lt : at_ < n := by omega
    refine codeAny_builtin F.entry_set_update_loop ?_
    rw [Around.under_plainId F.plain_set_update_loop _]
    refine (show wpAny (model P w) A.in1 (pyNext (.ref I) >>= _) _ _ s from wpAny_bind (W.item at_ s _ _ lt st fun v s1 hv st1 mv => ?_))
    obtain ⟨p, hp, rfl⟩ := vals at_ v hv
    have kept1 : ∀ b o, h0.get? b = some o → s1.heap.get? b = some o := fun b o e => mv.heap b o (fun q => by rw [newW b q] at e; cases e) (kept b o e)
    have has1 := has.move (fun o e => mv.heap S o (fun q => out (W.sub _ q)) e) fun p hp => T.stay (there p (tk.of p hp)) fun o e => kept1 _ o e
    have le := tk.le
    have hx : T.At s1.heap p.2 p.1 := T.stay (there p (List.mem_of_getElem? hp)) fun o e => kept1 _ o e
    refine (show wpAny (model P w) A.in1 (holding [Value.ref p.1] (setAdd S (.ref p.1)) >>= _) _ _ s1 from wpAny_bind (wpAny_holding ?_))
    unfold setAdd
    refine wpAny_holding (wpAny_bind (T.hashed hu hx fun m => ?_))
    refine added (s := { s1 with toks := s1.toks + m }) has1 hx hu (by omega) fun z h2 L2 es2 ep2 t2 but has2 c1 c2 => ?_
    have kept2 : ∀ b o, h0.get? b = some o → h2.get? b = some o := fun b o e => (but.2 b (fun q => by rw [q, newS] at e; cases e)).trans (kept1 b o e)
    have still : ∀ b, b ≠ S → ∀ o, s1.heap.get? b = some o → h2.get? b = some o := fun b ne o e => (but.2 b ne).trans e
    refine wpAny_pure ⟨plainId_quiet F.plain_set_update_loop _, fill W out ks vals few hn hu h0 there newS newW left (at_ + 1) (by omega) _ (W.frame _ s1 _ _ st1 (Nat.le_add_right _ _) fun b hb o e => still b (fun q => out (q ▸ hb)) o e) kept2 ⟨L2, es2, ep2, t2, has2, tk.next hp c1 c2⟩ fun s3 L3 es3 ep3 t3 mv3 has3 tk3 kept3 => ?_⟩
    have mv1 := mv.mono (wr' := S :: wr) fun b hb => List.mem_cons_of_mem _ hb
    exact fin s3 L3 es3 ep3 t3 (Moved.trans W.gtrans (mv1.then_heap (Nat.le_add_right _ _) fun b o nb e => still b (fun q => nb (q ▸ List.mem_cons_self)) o e) mv3) has3 tk3 kept3
end
section
variable {P : Program} {w : World} {K : Type} [DecidableEq K] {T : Elt P w K} {A : Around} {E : Value → Shared → Prop} {s : Shared}
/-- the set, just made, takes them in -/
theorem init_elts {l : Addr} {its : Array Value} (ks : List (Addr × K)) (calm : A.handled = none) (isl : s.heap.IsList l its) (are : its.toList = ks.map fun p => Value.ref p.1) (there : ∀ p ∈ ks, T.At s.heap p.2 p.1) (few : ks.length < 77) (hu : A.units + 3 < cLine) :
    codeAny (model P w) A (.call (.builtin "set.__init__") ⟨[.ref s.heap.objs.size, .ref l], []⟩)
      (wants (fun r s2 => r = .none ∧ ∃ (h' : Heap) (tk : Nat) (L : List (Addr × K)) (es : Array (Int × Value)) (ep : Nat) (t : SetTable), s2 = { s with heap := h', toks := tk } ∧ SetE T h' s.heap.objs.size L es ep t ∧ Taken ks ks.length L ∧ ∀ b o, s.heap.get? b = some o → h'.get? b = some o) E) { s with heap := s.heap.push (nude w) } := by
  have at_ : (s.heap.push (nude w)).get? s.heap.objs.size = some (nude w) := Heap.get?_push_size _ rfl
  have isSet : Shared.TypeIs { s with heap := s.heap.push (nude w) } (.ref s.heap.objs.size) "set" := ⟨_, at_, rfl⟩
  have isl1 : (s.heap.push (nude w)).IsList l its := isl.push _
  have below : l < s.heap.objs.size := by
    obtain ⟨o, e, _⟩ := isl
    exact Heap.lt_size e
  have size1 : (s.heap.push (nude w)).objs.size = s.heap.objs.size + 1 := Heap.size_push _ _
  have sizeK : its.size = ks.length := by rw [← Array.length_toList, are, List.length_map]
  refine codeAny_call_builtin PySem.F.called_set.init.plain PySem.F.entry_set_init (check_set_init_1 isSet ?_)
  obtain ⟨⟨lc, ld, ldt, ls⟩, ho, hc, n0, hd⟩ := isl1
  dsimp only at hc hd
  subst hc hd
  have noSet := PySem.F.sub_list_set
  have noFro := PySem.F.sub_list_frozenset
  have noDict : (Value.type "list" == Value.type "dict") = false := by decide
  unfold Builtin.«set.__init__» noKeywords Builtin.Frozenset.updateFrom
  generalize it : pyIter = PI
  wp_walk
  subst it
  have isl2 : (s.heap.push (nude w)).IsList l its := isl.push _
  refine wpAny_pyIter_list isl2 (wpAny_bind (wpAny_runValue ?_))
  have none3 : A.in1.in1.handled = none := by simp [calm]
  have apart : l ≠ (s.heap.push (nude w)).objs.size := by
    rw [size1]
    exact Nat.ne_of_lt (Nat.lt_succ_of_lt below)
  have out : s.heap.objs.size ∉ [(s.heap.push (nude w)).objs.size, l] := fun h => by
    rw [size1] at h
    rcases List.mem_cons.mp h with h | h
    · exact absurd h (Nat.ne_of_lt (Nat.lt_succ_self _))
    · exact absurd (List.mem_singleton.mp h) (Nat.ne_of_gt below)
  have vals : ∀ (i : Nat) (v : Value), its[i]? = some v → ∃ p, ks[i]? = some p ∧ v = .ref p.1 := fun i v e => by
    rw [← Array.getElem?_toList, are, List.getElem?_map] at e
    cases q : ks[i]? with
    | none =>
      rw [q] at e
      cases e
    | some p =>
      rw [q] at e
      cases e
      exact ⟨p, rfl, rfl⟩
  have gone : ∀ b, s.heap.objs.size ≤ b → s.heap.get? b = none := fun b hb => by
    cases q : s.heap.get? b with
    | none => rfl
    | some o => exact absurd (Heap.lt_size q) (Nat.not_lt_of_le hb)
  have fresh : ((s.heap.push (nude w)).push { cls := .type "list_iterator", data := .fields #[.ref l, .int 0 0] }).get? s.heap.objs.size = some (nude w) := Heap.get?_push_of_some _ at_
  refine fill (Walks.list none3 _ l apart its).toS out ks vals few sizeK (by show A.units + 1 + 1 < cLine; omega) s.heap there (gone _ (Nat.le_refl _)) (fun b hb => gone b (by rw [List.mem_singleton.mp hb, size1]; exact Nat.le_succ _)) its.size 0 (Nat.zero_add _) _ ?_ ?_ ?_ fun s' L es ep t mv has' tk' kept => ?_
  · exact ⟨⟨_, Heap.get?_push_size _ rfl, rfl, rfl⟩, isl2.push _⟩
  · exact fun b o e => Heap.get?_push_of_some _ (Heap.get?_push_of_some _ e)
  · exact ⟨[], #[], 0, .fresh 0 0 (!w.params.followText "set-order"), SetE.nude fresh, Taken.none ks⟩
  obtain ⟨h', g', d', tok', os'⟩ := s'
  obtain rfl : g' = s.gens := mv.gens
  obtain rfl : d' = s.drawn := mv.drawn
  obtain rfl : os' = s.os := mv.os
  rw [sizeK] at tk'
  exact (show wpAny _ _ (pure ()) _ _ _ from wpAny_pure (show wpAny _ _ (ret Value.none) _ _ _ from wpAny_pure ⟨rfl, h', tok', L, es, ep, t, rfl, has', tk', kept⟩))
/-- set(l) -/
theorem call_set_elts {l : Addr} {its : Array Value} (ks : List (Addr × K)) {Q : Value → Shared → Prop} (calm : A.handled = none) (isl : s.heap.IsList l its) (are : its.toList = ks.map fun p => Value.ref p.1) (there : ∀ p ∈ ks, T.At s.heap p.2 p.1) (few : ks.length < 77) (hu : A.units + 4 < cLine)
    (q : ∀ (h' : Heap) (tk : Nat) L es ep t, SetE T h' s.heap.objs.size L es ep t → Taken ks ks.length L → (∀ b o, s.heap.get? b = some o → h'.get? b = some o) → Q (.ref s.heap.objs.size) { s with heap := h', toks := tk }) :
    wpAny (model P w) A (call (.type "set") [.ref l]) Q E s := by
  obtain ⟨cc, tl, mro⟩ := PySem.F.called_set.mro
  have made := PySem.F.called_set.made
  have sub := PySem.F.called_set.sub
  have can := PySem.F.called_set.canCreate
  have noType := PySem.F.called_set.notType
  have checked := PySem.F.typeCall_set_1 (.ref l)
  refine wpAny_call (codeAny_of_tree (show wpAny _ _ (callAny (.type "set") _) _ _ _ from wpAny_pure ⟨Code.quiet_builtin _ (by decide +kernel), codeAny_builtin PySem.F.entry_type_call ?_⟩))
  rw [Around.under_plain (weight_type_call_type "set" [.ref l] []) rfl]
  repeat any_goals first | assumption | wp_step
  refine codeAny_mono (code_set_led1 (.ref l) (E := E) (Q₁ := fun ob s1 => ob = .ref s.heap.objs.size ∧ s1 = { s with heap := s.heap.push (nude w) }) ⟨rfl, rfl⟩) fun r s1 hr => ?_
  match r, hr with
  | .error e, hr => exact hr
  | .ok (.ret ob), ⟨eo, es⟩ =>
    subst eo es
    have at_ : (s.heap.push (nude w)).get? s.heap.objs.size = some (nude w) := Heap.get?_push_size _ rfl
    have isSet : Shared.TypeIs { s with heap := s.heap.push (nude w) } (.ref s.heap.objs.size) "set" := ⟨_, at_, rfl⟩
    have look := PySem.F.called_set.init.lookup
    have bound := PySem.F.called_set.init.bind (.ref s.heap.objs.size)
    repeat any_goals first | assumption | wp_step
    refine codeAny_mono (init_elts (E := E) ks calm isl are there few (by show A.units + 1 + 3 < cLine; omega)) fun r2 s2 hr2 => ?_
    match r2, hr2 with
    | .error e, hr2 => exact hr2
    | .ok (.ret v), ⟨ev, h', tk, L, es, ep, t, e2, has, taken, keep⟩ =>
      subst ev e2
      repeat any_goals first | assumption | wp_step
      exact q _ _ _ _ _ _ has taken keep
    | .ok .next, hr2 => exact hr2.elim
    | .ok .brk, hr2 => exact hr2.elim
    | .ok .cont, hr2 => exact hr2.elim
  | .ok .next, hr => exact hr.elim
  | .ok .brk, hr => exact hr.elim
  | .ok .cont, hr => exact hr.elim
end
end G14

set_option Elab.async false
set_option linter.all false
set_option maxRecDepth 100000
set_option maxHeartbeats 4000000
/-! sorted(set(l)), l a list of pairs of texts. -/
namespace G14
open PySem PySem.Spec PyProof.Rows L2 G0
section
variable {P : Program} {w : World} {K : Type} [DecidableEq K] {T : Elt P w K} {A : Around} {E : Value → Shared → Prop} {s : Shared}
theorem sorted_set_elts {a : Addr} {L : List (Addr × K)} {es : Array (Int × Value)} {ep : Nat} {t : SetTable} (R : SetE T s.heap a L es ep t) (calm : A.handled = none) {ltv : Value → Value → Bool} (O : SrtO.Swo ltv) {Q : Value → Shared → Prop}
    (hS : ∀ vs : List Value, vs.Perm (L.map fun p => Value.ref p.1) → 2 ≤ vs.length → ∀ (s₁ : Shared) (b : Addr), s₁.heap.get? b = some (seqObj "list" vs.toArray 0) → (∀ c o, s.heap.get? c = some o → s₁.heap.get? c = some o) → SrtO.SortableO P w A.in1.in1 s₁ b vs ltv)
    (q : ∀ (s' : Shared) (d : Addr) (out : List Value), SrtO.Srtd ltv out → out.Perm (L.map fun p => Value.ref p.1) → (∀ b o, s.heap.get? b = some o → s'.heap.get? b = some o) → s'.gens = s.gens → s'.os = s.os → s.heap.objs.size ≤ d → (∃ n, s'.heap.get? d = some (seqObj "list" out.toArray n)) → Q (.ref d) s') :
    wpAny (model P w) A (call (.builtin "sorted") [.ref a]) Q E s := by
  obtain ⟨o, ho, ex, da⟩ := R.ob
  have sz := rows_size R.rows
  have few := R.few
  refine Calls.call_function_entry kind_sorted plain_sorted entry_sorted (args_sorted1 _) ?_
  unfold Builtin.«sorted»
  refine wpAny_bind (m := checkCount "sorted" 1 1 _) (wpAny_pure (wpAny_bind (collect_set (A := A.in1) calm ⟨o, ho, ex.1, da⟩ R.fits (by unfold scanBound; omega) R.tab.ris R.led fun s1 vs k1 hz g1 o1 pm => ?_)))
  have eL : es.toList.map (·.2) = L.map fun p => Value.ref p.1 := by
    rw [R.rows]
    unfold lines
    rw [List.map_map]
    rfl
  rw [eL] at pm
  have lz : vs.length ≤ sizeLine := by
    rw [pm.length_eq, List.length_map, sizeLine_eq]
    omega
  refine wpAny_bind (wpAny_newList ?_ lz)
  have e2 : (s1.heap.push (seqObj "list" vs.toArray 0)).get? s1.heap.objs.size = some (seqObj "list" vs.toArray 0) := Heap.get?_push_size _ rfl
  refine wpAny_bind (wpAny_holding (wpAny_call_entry slot_list_sort ⟨_, e2, rfl⟩ entry_list_sort (SrtO.list_sort_ord O e2 lz (fun h2 => hS vs pm h2 _ _ e2 fun c o e => Heap.get?_push_of_some _ (k1 c o e)) fun out hs hb => ⟨_, rfl, ?_⟩) (args_list_sort _)))
  refine wpAny_pure ⟨_, rfl, q _ s1.heap.objs.size out hs (hb.perm.trans pm) (fun b u e => ?_) g1 o1 hz (sortedHeap_at e2)⟩
  have lt : b < s1.heap.objs.size := Heap.lt_size (k1 b u e)
  exact (sortedHeap_old (Nat.ne_of_lt lt) (by rw [size_push']; exact Nat.lt_succ_of_lt lt)).trans (Heap.get?_push_of_some _ (k1 b u e))
end
section
variable {X : Cx}
/-- sorted(set(l)), l a list of pairs of texts -/
def tSortSet (K : PySem.W.Frag) (ta : TE) : TE := fun σ H Q => ta σ H fun x H1 => ∃ (l : Addr) (xs : List V) (ps : List Pr), x = .ref l ∧ SqL K H1 l xs ∧ PrsAt H1 xs ps ∧ ps.length < 77 ∧
  ∀ (p : Addr) (ys : List V) (qs : List Pr), H1 p = none → (∀ y ∈ ys, y ∈ xs) → qs.Nodup → (∀ z, z ∈ qs ↔ z ∈ ps) → PrsAt H1 ys (sortPr qs) → Q (.ref p) (upd H1 p (.lst ys))
theorem pe_sortSet {a : Expr} {ta : TE} {p1 p2 p3 pos : Pos} (calm : X.calm = true) (hu : X.A.units + 4 < cLine) (g1 : Gl X "sorted") (m1 : X.mg "sorted" = none) (g2 : Gl X "set") (m2 : X.mg "set" = none) (pa : PE X a ta)
    (one : starEach [a] X.env = (false, eval a X.env) :: starEach [] X.env := by rfl) : PE X (.Call (.Name "sorted" p1) [.Call (.Name "set" p2) [a] [] p3] [] pos) (tSortSet X.K ta) := by
  refine ⟨fun pins s σ H Q inv h => Call_ (ld_blt inv g1 m1 boot_sorted (PyProof.Rows.callWith_builtin1 (PyProof.Rows.args_cons (Call_ (ld_blt inv g2 m2 boot_set (PyProof.Rows.callWith_type1 (PyProof.Rows.args_cons (thn (pa.run pins s σ H _ inv h) fun v s1 ⟨x, H1, I1, r1, q1⟩ => PyProof.Rows.args_nil ?_) one) one rfl))) rfl) rfl rfl))⟩
  obtain ⟨l, xs, ps, rfl, hq, pt, few, q1⟩ := q1
  cases r1
  obtain ⟨its, rv, lay, _⟩ := I1.list hq
  obtain ⟨em, al⟩ := pt.map
  obtain ⟨e1, e2⟩ := refs_back rv fun x m => by
    obtain ⟨t, e, _⟩ := al x m
    exact ⟨t, e⟩
  let kp : V → Addr × List Str := fun v => ((match v with | .ref t => t | _ => 0), [(prOf H1 v).1, (prOf H1 v).2])
  have pr : ∀ v ∈ its, ∃ t, v = Value.ref t ∧ backV v = .ref t ∧ TupAt X.prog X.w s1.heap (kp (backV v)).2 t ∧ IsPrS s1.heap v (prOf H1 (backV v)).1 (prOf H1 (backV v)).2 := fun v hv => by
    obtain ⟨t, rfl⟩ := e2 v hv
    obtain ⟨t', e, ht⟩ := al (backV (.ref t)) (by rw [e1]; exact List.mem_map.mpr ⟨_, hv, rfl⟩)
    cases e
    obtain ⟨_, its2, r2, o2, ho2, hc2, n2, hd2⟩ := I1.hok _ _ ht
    obtain ⟨u1, u2, rfl, ri, rj⟩ := vals2 r2
    obtain ⟨t1, rfl⟩ := ri
    obtain ⟨t2, rfl⟩ := rj
    exact ⟨t, rfl, rfl, ⟨o2, _, n2, ho2, hc2, hd2, .cons (strKind_is _ _ _ _) (.cons (strKind_is _ _ _ _) .nil)⟩, t, o2, t1, t2, n2, rfl, ho2, hc2, hd2⟩
  have lenI : its.length = ps.length := by rw [← rv.length, pt.1]
  refine call_set_elts (T := tupE X.prog X.w) (its.map fun v => kp (backV v)) (I1.ok.hd calm) lay.isList ?_ (fun p hp => ?_) (by rw [List.length_map, lenI]; exact few) hu fun h' tk L es ep t has taken keep => PyProof.Rows.args_nil ?_
  · rw [List.map_map]
    refine (List.map_id its).symm.trans (List.map_congr_left fun v hv => ?_) |> fun e => by simpa using e
    obtain ⟨t, rfl, _⟩ := pr v hv
    rfl
  · obtain ⟨v, hv, rfl⟩ := List.mem_map.mp hp
    obtain ⟨t, rfl, _, h, _⟩ := pr v hv
    exact h
  have I2 : Inv X pins σ H1 { s1 with heap := h', toks := tk } := I1.kept keep
  have of_L : ∀ p ∈ L, ∃ v ∈ its, ∃ t, v = Value.ref t ∧ p = (t, [(prOf H1 (.ref t)).1, (prOf H1 (.ref t)).2]) ∧ backV v = .ref t := fun p hp => by
    obtain ⟨v, hv, e⟩ := List.mem_map.mp (taken.of p hp)
    obtain ⟨t, rfl, eb, _⟩ := pr v hv
    exact ⟨_, hv, t, rfl, e.symm, eb⟩
  have in_its : ∀ {us : List Value}, us.Perm (L.map fun p => Value.ref p.1) → ∀ v ∈ us, v ∈ its := fun pm v hv => by
    obtain ⟨p, hp, e⟩ := List.mem_map.mp (pm.mem_iff.mp hv)
    obtain ⟨u, hu', t, rfl, rfl, _⟩ := of_L p hp
    rw [← e]
    exact hu'
  refine sorted_set_elts has (I1.ok.hd calm) (swo_prs fun u => prOf H1 (backV u)) (fun vs pm h2 s₁ b hb kk => ?_) fun s' d out so pm kp2 hg ho hd' ⟨m, hm⟩ => ?_
  · refine prs_sortable (s := s₁) (by omega) (fun v hv => ?_) fun o e => ?_
    · obtain ⟨t, _, _, _, h⟩ := pr v (in_its pm v hv)
      exact h.keeps fun b o e _ => kk b o (keep b o e)
    · have e' := Option.some.inj (e.symm.trans hb)
      rw [e']
      intro c
      exact absurd (Value.type.inj c) (by decide)
  have ys_xs : ∀ y ∈ out.map backV, y ∈ xs := fun y hy => by
    obtain ⟨v, hv, rfl⟩ := List.mem_map.mp hy
    rw [e1]
    exact List.mem_map.mpr ⟨v, in_its pm v hv, rfl⟩
  have refs : ∀ u ∈ out, ∃ a, u = Value.ref a := fun u hu' => e2 u (in_its pm u hu')
  have pq : ((out.map backV).map (prOf H1)).Perm (L.map fun p => prOf H1 (.ref p.1)) := by
    have z := (pm.map backV).map (prOf H1)
    rw [List.map_map (l := L)] at z
    exact z.trans (List.Perm.of_eq (by rw [List.map_map]; rfl))
  have pa : PrsAt H1 (out.map backV) (sortPr (L.map fun p => prOf H1 (.ref p.1))) := by
    have z := PrsAt.of (H := H1) (vs := out.map backV) fun v hv => al v (ys_xs v hv)
    have e3 : (out.map backV).map (prOf H1) = sortPr (L.map fun p => prOf H1 (.ref p.1)) := by
      refine sortPr_uniq pq ?_
      rw [List.map_map]
      refine List.pairwise_map.mpr (List.Pairwise.imp ?_ so)
      intro x y hxy
      unfold lePr
      rw [show ltPr ((prOf H1 ∘ backV) y) ((prOf H1 ∘ backV) x) = false from hxy]
      rfl
    rw [← e3]
    exact z
  have nd : (L.map fun p => prOf H1 (.ref p.1)).Nodup := by
    refine List.pairwise_map.mpr (List.Pairwise.imp_of_mem (fun {p r} hp hr ne e => ?_) (List.pairwise_map.mp has.nd))
    obtain ⟨_, _, t, _, rfl, _⟩ := of_L p hp
    obtain ⟨_, _, u, _, rfl, _⟩ := of_L r hr
    exact ne (by rw [show prOf H1 (.ref t) = prOf H1 (.ref u) from e])
  have mem : ∀ z, z ∈ (L.map fun p => prOf H1 (.ref p.1)) ↔ z ∈ ps := fun z => by
    constructor
    · intro hz
      obtain ⟨p, hp, rfl⟩ := List.mem_map.mp hz
      obtain ⟨v, hv, t, rfl, rfl, eb⟩ := of_L p hp
      rw [← em, e1]
      exact List.mem_map.mpr ⟨.ref t, List.mem_map.mpr ⟨_, hv, eb⟩, rfl⟩
    · intro hz
      rw [← em, e1] at hz
      obtain ⟨y, hy, rfl⟩ := List.mem_map.mp hz
      obtain ⟨v, hv, rfl⟩ := List.mem_map.mp hy
      have h1 : kp (backV v) ∈ (its.map fun v => kp (backV v)).take (its.map fun v => kp (backV v)).length := by
        rw [List.take_length]
        exact List.mem_map.mpr ⟨v, hv, rfl⟩
      obtain ⟨p, hp, e⟩ := List.mem_map.mp (taken.all _ h1)
      obtain ⟨_, _, t, _, rfl, _⟩ := of_L p hp
      refine List.mem_map.mpr ⟨_, hp, ?_⟩
      have e' : [(prOf H1 (.ref t)).1, (prOf H1 (.ref t)).2] = [(prOf H1 (backV v)).1, (prOf H1 (backV v)).2] := e
      injection e' with f1 f2
      injection f2 with f2 _
      exact Prod.ext f1 f2
  have lz : (out.map backV).length ≤ sizeLine := by
    rw [List.length_map, pm.length_eq, List.length_map, sizeLine_eq]
    have := has.few
    omega
  have nn : H1 d = none := I2.hok.fresh hd'
  have kp3 : ∀ b o, s1.heap.get? b = some o → s'.heap.get? b = some o := fun b o e => kp2 b o (keep b o e)
  have hd3 : s1.heap.objs.size ≤ d := by
    obtain ⟨o, e, _⟩ := has.ob
    exact Nat.le_trans (Nat.le_of_lt (Heap.lt_size e)) hd'
  have J : Inv X pins σ (upd H1 d (.lst (out.map backV))) { s1 with heap := s'.heap, gens := s'.gens, drawn := s'.drawn, toks := s'.toks } :=
    I1.call (ch := []) (Un.laid kp3 hd3 nn) (I1.hok.laid kp3 hd3 ⟨lz, out, m, vals_back refs, hm⟩) (by rw [hg]; exact I1.bare) (fun _ z => nomatch z)
  have es' : s' = { s1 with heap := s'.heap, gens := s'.gens, drawn := s'.drawn, toks := s'.toks } := by
    cases s'
    cases s1
    cases ho
    rfl
  rw [es']
  exact ⟨.ref d, _, J, rfl, q1 d _ _ nn ys_xs nd mem pa⟩
end
end G14

set_option Elab.async false
set_option linter.all false
set_option maxRecDepth 100000
set_option maxHeartbeats 8000000
/-! checks.py: what is no board, no place, a pin. -/
namespace E1
open PySem PySem.Spec PyProof.Rows L2 G0
/-- where the errors of this part stand -/
structure PrD (K : PySem.W.Frag) (mg : Str → Option Value) (M : MetD K mg) where
  XB : ErrD K mg 2 "BadBoard" "thing"
  eB : XB.C = M.C 0
  XN : ErrD K mg 8 "NoPlace" "thing"
  eN : XN.C = M.C 1
  XI : ErrD K mg 7 "IsPin" "place"
  eI : XI.C = M.C 2
  bx : PySem.W.excIn K (M.C 5) [.type "ValueError", .type "Exception", .type "BaseException", .type "object"] "ValueError.__new__" = true
  kp : PySem.W.keepIn K (.ref (M.C 5)) = true
  sb : PySem.W.subIn K (.ref (M.C 5)) (.type "BaseException") = some true
  ty : PySem.W.typeIn K (.ref (M.C 5)) = some (.type "type")
theorem iteT' {c : Prop} [Decidable c] {A B : Prop} (h : c) (a : A) : if c then A else B := by rw [if_pos h]; exact a
theorem iteF' {c : Prop} [Decidable c] {A B : Prop} (h : ¬ c) (b : B) : if c then A else B := by rw [if_neg h]; exact b
theorem Same.updN {H H' : Hp} {q : Addr} {o : HO} (S : Same H H') (n : H q = none) : Same H (upd H' q o) := fun b u e => by
  rw [upd_ne (ne_of_none e n)]
  exact S b u e
/-- few ties, nobody twice -/
def Few (pl : List Str) (ts : List Pr) (rm : List Str) : Prop := ts.length ≤ 968 ∧ pl.Nodup ∧ rm.Nodup ∧ TsOk pl ts
theorem TsOk.sorted {pl : List Str} {us : List Pr} (t : TsOk pl us) : TsOk (sortS pl) (sortPr us) := (t.perm (sortPr_perm us)).mono fun z hz => (sortS_perm pl).mem_iff.mpr hz
theorem RawOk.fewS {pl : List Str} {us : List Pr} {rm : List Str} (r : RawOk pl us rm) : Few (sortS pl) (sortPr us) rm := ⟨by rw [(sortPr_perm us).length_eq]; exact r.few, (sortS_perm pl).nodup_iff.mpr r.nd, r.rnd, r.ts.sorted⟩
theorem BoardAt.kn {CB : Addr} {H' : Hp} {a : Addr} {pl : List Str} {ts : List Pr} {rm : List Str} (b : BoardAt (fun _ => True) CB H' a pl ts rm) : Kn CB H' (.ref a) := by
  obtain ⟨dx, _, _, _, _, _, _, h1, _⟩ := b
  exact .own h1
theorem BoardAt.ok {N : Addr → Prop} {C : Addr} {H : Hp} {a : Addr} {pl : List Str} {ts : List Pr} {rm : List Str} (b : BoardAt N C H a pl ts rm) : BdOk pl ts rm := by
  obtain ⟨_, _, _, _, _, _, _, _, _, _, _, _, _, h7, _⟩ := b
  exact h7
theorem kn_own {C : Addr} {H : Hp} {v : V} (k : Kn C H v) (e : kdOf H v = "") : ∃ a dx fs, v = .ref a ∧ H a = some (.ins C dx fs) := by
  cases k with
  | own h => exact ⟨_, _, _, rfl, h⟩
  | lst h => simp only [kdOf, h] at e; exact absurd e (by decide)
  | tup h => simp only [kdOf, h] at e; exact absurd e (by decide)
  | dic h => simp only [kdOf, h] at e; exact absurd e (by decide)
  | non => simp only [kdOf] at e; exact absurd e (by decide)
  | bl b => simp only [kdOf] at e; exact absurd e (by decide)
  | int i => simp only [kdOf] at e; exact absurd e (by decide)
  | str x => simp only [kdOf] at e; exact absurd e (by decide)
theorem kn_kit {K : PySem.W.Frag} {C D : Addr} {H : Hp} {v : V} (O : OwnC K D) (k : Kn C H v) (nk : kdOf H v ≠ "") : ∃ t, TyX K H v t ∧ PySem.W.kitOne K t (.ref D) = some false := by
  cases k with
  | non => exact ⟨_, .base .non, O.ty "NoneType" (by decide)⟩
  | bl b => exact ⟨_, .base (.bl b), O.ty "bool" (by decide)⟩
  | int i => exact ⟨_, .base (.int i), O.ty "int" (by decide)⟩
  | str x => exact ⟨_, .base (.str x), O.ty "str" (by decide)⟩
  | lst e => exact ⟨_, .base (.lst e), O.ty "list" (by decide)⟩
  | tup e => exact ⟨_, .base (.tup e), O.ty "tuple" (by decide)⟩
  | dic e => exact ⟨_, .base (.dK e), O.ty "dict" (by decide)⟩
  | own e => exact absurd (by simp only [kdOf, e]) nk
theorem inB_str {pl : List Str} {u : V} (h : inB pl u = true) : ∃ z, u = .str z ∧ z ∈ pl := by
  cases u with
  | str z => exact ⟨z, rfl, of_decide_eq_true h⟩
  | _ => cases h
section
variable {X : Cx} {C : Addr} {bmB : List Value} {B newId initId : String} {x : Str} {p pos : Pos}
/-- X(), X an own class of errors without an __init__ -/
theorem pmk_bare (F : ExcBaseFacts B newId initId bmB) (q : PySem.W.excIn X.K C bmB newId = true) (gC : X.mg x = some (.ref C)) (kC : PySem.W.keepIn X.K (.ref C) = true) (r : Raises X (.ref C)) (hg : Gl X x)
    (hdb : (x == ("__debug__" : Str)) = false := by decide) : PMk X (.Call (.Name x p) [] [] pos) (fun _ H Q => Q (.ref C) none H) := by
  intro pins s σ H Q I h
  refine wpAny_Call_Name_kw (ld_glob I hg gC ?_ hdb)
  refine PySem.W.callWith_K0 I.kIn kC ?_
  show wpAny _ _ (call (.ref C) []) _ _ _
  obtain ⟨bm, N, nm, qn, bs, hdct, sn, sub, ab, col, dd, k0, k1, k2, k3, k5, mN, hC, hN, hni, T⟩ := exc_obj I.kIn q
  refine wpAny_call_exc_subT F T hC hN hni (fun h' e hm => ?_) (Nat.zero_le _)
  exact mk_of I hm r h (I.hok.gone hm.new)
end
section
variable {P : Program} {w : World} {K : PySem.W.Frag} {mg : Str → Option Value} {base : Heap}
theorem sc_errB : FnScope ["self", "thing"] ["self", "thing"] (defScope (inClass (topS 2) 0)) := ⟨rfl, rfl, rfl, by decide +kernel, rfl, by decide +kernel, by decide +kernel⟩
theorem ok_errB (D : ErrD K mg 2 "BadBoard" "thing") : FnOk P w K mg base CX0 1 D.f D.fd ["self", "thing"] (spI1 D.C "thing") := ok_init1 D.F rfl sc_errB D.T D.no (by decide) (by decide)
theorem bEB (D : ErrD K mg 2 "BadBoard" "thing") : Binds K D.fd ["self", "thing"] [] := bindsD D.F fun _ _ _ _ _ _ us hl => match us, hl with | [_, _], _ => rfl
theorem sc_errI : FnScope ["self", "place"] ["self", "place"] (defScope (inClass (topS 7) 0)) := ⟨rfl, rfl, rfl, by decide +kernel, rfl, by decide +kernel, by decide +kernel⟩
theorem ok_errI (D : ErrD K mg 7 "IsPin" "place") : FnOk P w K mg base CX0 1 D.f D.fd ["self", "place"] (spI1 D.C "place") := ok_init1 D.F rfl sc_errI D.T D.no (by decide) (by decide)
theorem bEI (D : ErrD K mg 7 "IsPin" "place") : Binds K D.fd ["self", "place"] [] := bindsD D.F fun _ _ _ _ _ _ us hl => match us, hl with | [_, _], _ => rfl
/-- one board looked at -/
def spNeed (CB CX : Addr) : Sp := fun vs H Q E => ∃ v, vs = [v] ∧ Kn CB H v ∧ ((kdOf H v ≠ "" ∧ Raised H CX "thing" v E) ∨ (kdOf H v = "" ∧ Q .non H))
theorem sc_need : FnScope ["board"] ["board"] (defScope (topS 27)) := ⟨rfl, rfl, rfl, by decide +kernel, rfl, by decide +kernel, by decide +kernel⟩
theorem bNeed (Z : LawD K mg) : Binds K (Z.d 27) ["board"] [] := (Z.F 27 (by decide)).binds fun _ _ _ _ _ _ us hl => match us, hl with | [_], _ => rfl
theorem ok_need (Z : LawD K mg) {M : MetD K mg} (D : PrD K mg M) : FnOk P w K mg base (L2.CX P w) 3 (Z.f 27) (Z.d 27) ["board"] (spNeed Z.B.C (M.C 0)) := by
  refine Fun.okX (Z.F 27 (by decide)) sc_need (fun vs H Q E h => ?_) (fun cdv A outer s H vs Q E hr h => ⟨_, pss_one (ps_if (pt_not (pt_val (pe_callB call_isi (by rfl) Z.t.isinstance (by decide +kernel) (pa_cons (pv 0) (pa_cons (pe_glob (by rfl) Z.B.g (v := .ref Z.B.C) rfl) pa_nil))))) (pss_one (ps_raise rfl (takes_of rfl rfl rfl rfl) (pmk_oex D.XB.T D.XB.iC D.XB.tI (ok_errB D.XB) (hr.mono (by decide)) (bEB D.XB) .nil pass0 (by rfl) D.XB.g (by exact pa_cons (pv 0) pa_nil)))) pss_nil), ?_⟩)
  · obtain ⟨v, rfl, _⟩ := h
    rfl
  · obtain ⟨v, rfl, kn, h⟩ := h
    rcases h with ⟨nk, hR⟩ | ⟨e, q⟩
    · obtain ⟨t, ty, ki⟩ := kn_kit Z.B.O kn nk
      refine ⟨_, rfl, v, _, t, _, false, rfl, .own _, ty, ki, _, rfl, iteT ⟨_, rfl, by show 1 ≤ 1000; decide, fun a na => ?_⟩⟩
      rw [D.eB]
      exact hR.of na
    · obtain ⟨a, dx, fs, rfl, ha⟩ := kn_own kn e
      exact ⟨_, rfl, .ref a, _, _, _, true, rfl, .own _, .base (.ins ha Z.B.O.cl Z.B.O.ha Z.B.O.hn Z.B.O.htk Z.B.O.hm), by unfold PySem.W.kitOne; simp, _, rfl, iteF q⟩
/-- a place looked at -/
def spNeedP (CB CX : Addr) : Sp := fun vs H Q E => ∃ x u pl ts rm, vs = [.ref x, u] ∧ BoardAt (fun _ => True) CB H x pl ts rm ∧ Kn CB H u ∧ ((inB pl u = false ∧ Raised H CX "thing" u E) ∨ (inB pl u = true ∧ Q .non H))
theorem sc_needP : FnScope ["board", "place"] ["board", "place"] (defScope (topS 28)) := ⟨rfl, rfl, rfl, by decide +kernel, rfl, by decide +kernel, by decide +kernel⟩
theorem bNeedP (Z : LawD K mg) : Binds K (Z.d 28) ["board", "place"] [] := (Z.F 28 (by decide)).binds fun _ _ _ _ _ _ us hl => match us, hl with | [_, _], _ => rfl
theorem ok_needP (Z : LawD K mg) {M : MetD K mg} (D : PrD K mg M) : FnOk P w K mg base (L2.CX P w) 3 (Z.f 28) (Z.d 28) ["board", "place"] (spNeedP Z.B.C (M.C 1)) := by
  have GB5 : FnOk P w K mg base CX0 1 (Z.B.f 5) (Z.B.d 5) ["self", "thing"] (spHas Z.B.C) := ok_has Z.B Z.t
  refine Fun.okX (Z.F 28 (by decide)) sc_needP (fun vs H Q E h => ?_) (fun cdv A outer s H vs Q E hr h => ⟨_, pss_one (ps_if (pt_not (pt_val (pe_meth (pv 0) Z.B.O.cl Z.B.M5 GB5 (hr.mono (by decide)) (b_m5 Z.B) .nil pass0 (pa_cons (pv 1) pa_nil)))) (pss_one (ps_raise rfl (takes_of rfl rfl rfl rfl) (pmk_oex D.XN.T D.XN.iC D.XN.tI (ok_err5 D.XN) (hr.mono (by decide)) (bE5 D.XN) .nil pass0 (by rfl) D.XN.g (by exact pa_cons (pv 1) pa_nil)))) pss_nil), ?_⟩)
  · obtain ⟨x, u, pl, ts, rm, rfl, _⟩ := h
    rfl
  · obtain ⟨x, u, pl, ts, rm, rfl, B, kn, h⟩ := h
    obtain ⟨dx, _, _, _, _, _, _, h1, _⟩ := id B
    refine ⟨_, rfl, x, dx, _, rfl, h1, rfl, _, rfl, x, u, pl, ts, rm, rfl, B, kn, ?_⟩
    rcases h with ⟨e, hR⟩ | ⟨e, q⟩
    · rw [e]
      refine ⟨_, rfl, iteT ⟨_, rfl, by show 1 ≤ 1000; decide, fun a na => ?_⟩⟩
      rw [D.eN]
      exact hR.of na
    · rw [e]
      exact ⟨_, rfl, iteF q⟩
/-- a place that is no pin -/
def spNeedI (CB CX CP : Addr) : Sp := fun vs H Q E => ∃ x u pl ts rm, vs = [.ref x, u] ∧ BoardAt (fun _ => True) CB H x pl ts rm ∧ Kn CB H u ∧ ((inB pl u = false ∧ Raised H CX "thing" u E) ∨ ∃ z, u = .str z ∧ z ∈ pl ∧ ((z ∈ rm ∧ Raised H CP "place" u E) ∨ (z ∉ rm ∧ ∀ H', Same H H' → Q .non H')))
theorem sc_needI : FnScope ["board", "place"] ["board", "place"] (defScope (topS 29)) := ⟨rfl, rfl, rfl, by decide +kernel, rfl, by decide +kernel, by decide +kernel⟩
theorem bNeedI (Z : LawD K mg) : Binds K (Z.d 29) ["board", "place"] [] := (Z.F 29 (by decide)).binds fun _ _ _ _ _ _ us hl => match us, hl with | [_, _], _ => rfl
theorem ok_needI (Z : LawD K mg) {M : MetD K mg} (D : PrD K mg M) : FnOk P w K mg base (L2.CX P w) 4 (Z.f 29) (Z.d 29) ["board", "place"] (spNeedI Z.B.C (M.C 1) (M.C 2)) := by
  have GP : FnOk P w K mg base (L2.CX P w) 3 (Z.f 28) (Z.d 28) ["board", "place"] (spNeedP Z.B.C (M.C 1)) := ok_needP Z D
  have GB4 : FnOk P w K mg base CX0 1 (Z.B.f 4) (Z.B.d 4) ["self"] (spRim Z.B.C) := ok_rim Z.B Z.t
  refine Fun.okX (Z.F 29 (by decide)) sc_needI (fun vs H Q E h => ?_) (fun cdv A outer s H vs Q E hr h => ⟨_, pss_cons (ps_expr (pe_call GP (hr.mono (by decide)) (by rfl) (Z.g 28 (by decide)) (Z.F 28 (by decide)).kp (bNeedP Z) .nil (passes_call (takes_of rfl rfl rfl rfl) (fun _ _ _ _ h => h)) (pa_cons (pv 0) (pa_cons (pv 1) pa_nil))))
  (pss_one (ps_if (pt_cmpR op_in_seq (pv 1) (pe_meth0 (pv 0) Z.B.O.cl Z.B.M4 GB4 (hr.mono (by decide)) (b_m4 Z.B) .nil pass0) (by rfl)) (pss_one (ps_raise rfl (takes_of rfl rfl rfl rfl) (pmk_oex D.XI.T D.XI.iC D.XI.tI (ok_errI D.XI) (hr.mono (by decide)) (bEI D.XI) .nil pass0 (by rfl) D.XI.g (by exact pa_cons (pv 1) pa_nil)))) pss_nil)), ?_⟩)
  · obtain ⟨x, u, pl, ts, rm, rfl, _⟩ := h
    rfl
  · obtain ⟨x, u, pl, ts, rm, rfl, B, kn, h⟩ := h
    obtain ⟨dx, _, _, _, _, _, _, h1, _⟩ := id B
    rcases h with ⟨e, hR⟩ | ⟨z, rfl, hz, h⟩
    · exact ⟨_, rfl, _, rfl, x, u, pl, ts, rm, rfl, B, kn, .inl ⟨e, hR⟩⟩
    refine ⟨_, rfl, _, rfl, x, .str z, pl, ts, rm, rfl, B, kn, .inr ⟨decide_eq_true hz, _, rfl, _, rfl, x, dx, _, rfl, h1, rfl, x, pl, ts, rm, rfl, B, fun l nl => ?_⟩⟩
    have S := new_same (o := .lst (rm.map V.str)) nl
    refine ⟨l, _, rfl, .inl (SqL.of upd_same), rfl, flat_strs _, _, rfl, ?_⟩
    rw [show inV (.str z) (rm.map V.str) = decide (z ∈ rm) from inV_strs z _]
    rcases h with ⟨hi, hR⟩ | ⟨hn, k⟩
    · rw [decide_eq_true hi]
      refine iteT ⟨_, rfl, by show 1 ≤ 1000; decide, fun a na => ?_⟩
      rw [D.eI]
      exact (hR.mono S).of na
    · rw [decide_eq_false hn]
      exact iteF (k _ S)
end
end E1

set_option Elab.async false
set_option linter.all false
set_option maxRecDepth 100000
set_option maxHeartbeats 4000000
/-! Ways apart, one more at a time: what the search makes of them, without the machine. -/
namespace Flow
open PySem PySem.Spec PyProof.Rows L2 G0
section
variable {α β : Type} [DecidableEq α]
def putF (φ : α → Option β) (k : α) (v : β) : α → Option β := fun s => if s = k then some v else φ s
def delF (φ : α → Option β) (k : α) : α → Option β := fun s => if s = k then none else φ s
def putAll (φ : α → Option β) (kvs : List (α × β)) : α → Option β := kvs.foldl (fun φ p => putF φ p.1 p.2) φ
theorem putAll_cons (φ : α → Option β) (p : α × β) (kvs : List (α × β)) : putAll φ (p :: kvs) = putAll (putF φ p.1 p.2) kvs := rfl
theorem putAll_append (φ : α → Option β) (k1 k2 : List (α × β)) : putAll φ (k1 ++ k2) = putAll (putAll φ k1) k2 := List.foldl_append ..
theorem putAll_not {kvs : List (α × β)} : ∀ {φ : α → Option β} {s : α}, s ∉ kvs.map Prod.fst → putAll φ kvs s = φ s := by
  induction kvs with
  | nil => intro φ s _; rfl
  | cons p kvs ih =>
    intro φ s h
    rw [List.map_cons, List.mem_cons, not_or] at h
    rw [putAll_cons, ih h.2]
    unfold putF
    rw [if_neg h.1]
theorem putAll_in {kvs : List (α × β)} : ∀ {φ : α → Option β} {k : α} {v : β}, (kvs.map Prod.fst).Nodup → (k, v) ∈ kvs → putAll φ kvs k = some v := by
  induction kvs with
  | nil => intro φ k v _ h; cases h
  | cons p kvs ih =>
    intro φ k v nd h
    rw [List.map_cons, List.nodup_cons] at nd
    rw [putAll_cons]
    rcases List.mem_cons.mp h with rfl | h
    · rw [putAll_not nd.1]
      unfold putF
      rw [if_pos rfl]
    · exact ih nd.2 h
theorem putAll_some {kvs : List (α × β)} {k : α} {v : β} (nd : (kvs.map Prod.fst).Nodup) (h : putAll (fun _ => none) kvs k = some v) : (k, v) ∈ kvs := by
  by_cases m : k ∈ kvs.map Prod.fst
  · obtain ⟨⟨k', v'⟩, hm, rfl⟩ := List.mem_map.mp m
    rw [putAll_in nd hm] at h
    cases h
    exact hm
  · rw [putAll_not m] at h
    cases h
/-! ### one behind another in a list -/
theorem zip_snd : ∀ (a : α) (r : List α), (((a :: r).zip r).map Prod.snd) = r
  | _, [] => rfl
  | a, b :: r => by
    rw [List.zip_cons_cons, List.map_cons, zip_snd b r]
theorem zip_fst_sub : ∀ (w u : List α), ((w.zip u).map Prod.fst).Sublist w
  | [], _ => by simp
  | a :: w, [] => by simp
  | a :: w, b :: u => by
    rw [List.zip_cons_cons, List.map_cons]
    exact (zip_fst_sub w u).cons_cons a
theorem zip_snd_sub : ∀ (w u : List α), ((w.zip u).map Prod.snd).Sublist u
  | [], _ => by simp
  | a :: w, [] => by simp
  | a :: w, b :: u => by
    rw [List.zip_cons_cons, List.map_cons]
    exact (zip_snd_sub w u).cons_cons b
/-- pairs of neighbours -/
def nbs (w : List α) : List (α × α) := w.zip w.tail
theorem nbs_cons2 (a b : α) (r : List α) : nbs (a :: b :: r) = (a, b) :: nbs (b :: r) := rfl
theorem nbs_mem {w : List α} {x y : α} (h : (x, y) ∈ nbs w) : x ∈ w ∧ y ∈ w := by
  have h' := List.of_mem_zip h
  exact ⟨h'.1, List.mem_of_mem_tail h'.2⟩
/-- who has nobody behind is the last -/
theorem nbs_or_last : ∀ {w : List α} {x : α}, x ∈ w → (∃ y, (x, y) ∈ nbs w) ∨ w.getLast? = some x
  | [a], x, h => .inr (by rw [List.mem_singleton.mp h]; rfl)
  | a :: b :: r, x, h => by
    rcases List.mem_cons.mp h with rfl | h
    · exact .inl ⟨b, by rw [nbs_cons2]; exact List.mem_cons_self⟩
    · rcases nbs_or_last h with ⟨y, hy⟩ | hl
      · exact .inl ⟨y, by rw [nbs_cons2]; exact List.mem_cons_of_mem _ hy⟩
      · exact .inr (by rw [List.getLast?_cons_cons]; exact hl)
/-- who has nobody ahead is the first -/
theorem nbs_or_first : ∀ {w : List α} {y : α}, y ∈ w → (∃ x, (x, y) ∈ nbs w) ∨ w.head? = some y
  | a :: r, y, h => by
    rcases List.mem_cons.mp h with rfl | h
    · exact .inr rfl
    · have m : y ∈ ((a :: r).zip r).map Prod.snd := by rw [zip_snd]; exact h
      obtain ⟨⟨x, y'⟩, hm, rfl⟩ := List.mem_map.mp m
      exact .inl ⟨x, hm⟩
theorem nbs_append {A : List α} {x : α} {C : List α} : nbs (A ++ x :: C) = nbs (A ++ [x]) ++ nbs (x :: C) := by
  induction A with
  | nil => rfl
  | cons a A ih =>
    cases A with
    | nil => rfl
    | cons b A =>
      show nbs (a :: b :: (A ++ x :: C)) = nbs (a :: b :: (A ++ [x])) ++ _
      rw [nbs_cons2, nbs_cons2, List.cons_append]
      exact congrArg _ ih
theorem nbs_at {w : List α} {x y : α} (h : (x, y) ∈ nbs w) : ∃ A B, w = A ++ x :: y :: B := by
  induction w with
  | nil => cases h
  | cons a r ih =>
    cases r with
    | nil => cases h
    | cons b r =>
      rw [nbs_cons2] at h
      rcases List.mem_cons.mp h with e | h
      · cases e
        exact ⟨[], r, rfl⟩
      · obtain ⟨A, B, e⟩ := ih h
        exact ⟨a :: A, B, by rw [e]; rfl⟩
theorem nbs_of (A : List α) (x y : α) (B : List α) : (x, y) ∈ nbs (A ++ x :: y :: B) := by
  rw [nbs_append, nbs_cons2]
  exact List.mem_append_right _ List.mem_cons_self
end
/-! ### ways apart -/
structure Ways (f : Str → List Str) (so ot : List Str) (W : List (List Str)) : Prop where
  ne : ∀ w ∈ W, w ≠ []
  chain : ∀ w ∈ W, ∀ p ∈ nbs w, p.2 ∈ f p.1
  first : ∀ w ∈ W, ∀ x, w.head? = some x → x ∈ so
  last : ∀ w ∈ W, ∀ x, w.getLast? = some x → x ∈ ot
  nd : W.flatten.Nodup
theorem Ways.nil (f : Str → List Str) (so ot : List Str) : Ways f so ot [] := ⟨by simp, by simp, by simp, by simp, List.nodup_nil⟩
def aheadKvs : List Str → List (Str × Option Str)
  | [] => []
  | a :: r => (a, none) :: ((nbs (a :: r)).map fun p => (p.2, some p.1))
def aheadOn (W : List (List Str)) : Str → Option (Option Str) := putAll (fun _ => none) (W.flatMap aheadKvs)
def behindOn (W : List (List Str)) : Str → Option Str := putAll (fun _ => none) (W.flatMap nbs)
theorem aheadKvs_keys (w : List Str) : (aheadKvs w).map Prod.fst = w := by
  cases w with
  | nil => rfl
  | cons a r =>
    show a :: (((nbs (a :: r)).map fun p => (p.2, some p.1)).map Prod.fst) = a :: r
    rw [List.map_map]
    exact congrArg _ (zip_snd a r)
theorem ahead_keys (W : List (List Str)) : (W.flatMap aheadKvs).map Prod.fst = W.flatten := by
  induction W with
  | nil => rfl
  | cons w W ih => rw [List.flatMap_cons, List.map_append, aheadKvs_keys, ih, List.flatten_cons]
theorem behind_keys (W : List (List Str)) : ((W.flatMap nbs).map Prod.fst).Sublist W.flatten := by
  induction W with
  | nil => exact List.Sublist.refl _
  | cons w W ih =>
    rw [List.flatMap_cons, List.map_append, List.flatten_cons]
    exact (zip_fst_sub _ _).append ih
section
variable {f : Str → List Str} {so ot : List Str} {W : List (List Str)}
theorem ah_none {y : Str} (h : y ∉ W.flatten) : aheadOn W y = none := putAll_not (by rw [ahead_keys]; exact h)
theorem ah_head (nd : W.flatten.Nodup) {w : List Str} {y : Str} (hw : w ∈ W) (h : w.head? = some y) : aheadOn W y = some none := by
  refine putAll_in (by rw [ahead_keys]; exact nd) (List.mem_flatMap.mpr ⟨w, hw, ?_⟩)
  cases w with
  | nil => cases h
  | cons a r =>
    cases h
    exact List.mem_cons_self
theorem ah_nbs (nd : W.flatten.Nodup) {w : List Str} {x y : Str} (hw : w ∈ W) (h : (x, y) ∈ nbs w) : aheadOn W y = some (some x) := by
  refine putAll_in (by rw [ahead_keys]; exact nd) (List.mem_flatMap.mpr ⟨w, hw, ?_⟩)
  cases w with
  | nil => cases h
  | cons a r => exact List.mem_cons_of_mem _ (List.mem_map.mpr ⟨(x, y), h, rfl⟩)
theorem ah_cases (nd : W.flatten.Nodup) {y : Str} {v : Option Str} (h : aheadOn W y = some v) : (v = none ∧ ∃ w ∈ W, w.head? = some y) ∨ ∃ x, v = some x ∧ ∃ w ∈ W, (x, y) ∈ nbs w := by
  obtain ⟨w, hw, hm⟩ := List.mem_flatMap.mp (putAll_some (by rw [ahead_keys]; exact nd) h)
  cases w with
  | nil => cases hm
  | cons a r =>
    rcases List.mem_cons.mp hm with e | hm
    · cases e
      exact .inl ⟨rfl, _, hw, rfl⟩
    · obtain ⟨⟨x, y'⟩, hp, e⟩ := List.mem_map.mp hm
      cases e
      exact .inr ⟨x, rfl, _, hw, hp⟩
theorem bh_iff (nd : W.flatten.Nodup) {x y : Str} : behindOn W x = some y ↔ ∃ w ∈ W, (x, y) ∈ nbs w := by
  have nk := nd.sublist (behind_keys W)
  constructor
  · intro h
    obtain ⟨w, hw, hm⟩ := List.mem_flatMap.mp (putAll_some nk h)
    exact ⟨w, hw, hm⟩
  · rintro ⟨w, hw, h⟩
    exact putAll_in nk (List.mem_flatMap.mpr ⟨w, hw, h⟩)
theorem bh_ah (nd : W.flatten.Nodup) {x y : Str} : behindOn W x = some y ↔ aheadOn W y = some (some x) := by
  rw [bh_iff nd]
  constructor
  · rintro ⟨w, hw, h⟩
    exact ah_nbs nd hw h
  · intro h
    rcases ah_cases nd h with ⟨e, _⟩ | ⟨x', e, h⟩
    · cases e
    · cases e
      exact h
/-- who is on a way and has nobody behind is its end -/
theorem bh_end (Y : Ways f so ot W) {x : Str} (h : x ∈ W.flatten) (hb : behindOn W x = none) : x ∈ ot := by
  obtain ⟨w, hw, hx⟩ := List.mem_flatten.mp h
  rcases nbs_or_last hx with ⟨y, hy⟩ | hl
  · rw [(bh_iff Y.nd).mpr ⟨w, hw, hy⟩] at hb
    cases hb
  · exact Y.last w hw x hl
theorem ah_in {y : Str} {v : Option Str} (h : aheadOn W y = some v) : y ∈ W.flatten := by
  by_cases m : y ∈ W.flatten
  · exact m
  · rw [ah_none m] at h
    cases h
theorem in_ah (nd : W.flatten.Nodup) {y : Str} (h : y ∈ W.flatten) : ∃ v, aheadOn W y = some v := by
  obtain ⟨w, hw, hy⟩ := List.mem_flatten.mp h
  rcases nbs_or_first hy with ⟨x, hx⟩ | hh
  · exact ⟨_, ah_nbs nd hw hx⟩
  · exact ⟨_, ah_head nd hw hh⟩
end
/-! ### steps -/
abbrev Step : Type := Str × Bool
/-- where a row may go on: to who is tied, back along the ways -/
def nextS (f : Str → List Str) (ah : Str → Option (Option Str)) (st : Step) : List Step :=
  if st.2 = true then (f st.1).map (fun o => (o, false)) ++ (if (ah st.1).isSome = true then [(st.1, false)] else [])
  else match ah st.1 with
    | none => [(st.1, true)]
    | some none => []
    | some (some p) => [(p, true)]
/-- a row of steps from some to others -/
structure Row (f : Str → List Str) (ah : Str → Option (Option Str)) (so ot : List Str) (row : List Step) : Prop where
  nd : row.Nodup
  next : ∀ p ∈ nbs row, p.2 ∈ nextS f ah p.1
  first : ∃ s, row.head? = some (s, false) ∧ s ∈ so
  last : ∃ t, row.getLast? = some (t, true) ∧ t ∈ ot
def stepB (b : Str → Option Str) (p : Step × Step) : Str → Option Str :=
  if p.1.1 ≠ p.2.1 ∧ p.1.2 = true then putF b p.1.1 p.2.1 else if p.1.1 ≠ p.2.1 then delF b p.2.1 else b
def augB (b : Str → Option Str) (ps : List (Step × Step)) : Str → Option Str := ps.foldl stepB b
/-- what is deleted is there -/
def delOk (b : Str → Option Str) : List (Step × Step) → Prop
  | [] => True
  | p :: ps => (p.1.1 ≠ p.2.1 → p.1.2 = false → (b p.2.1).isSome = true) ∧ delOk (stepB b p) ps
theorem augB_append (b : Str → Option Str) (p q : List (Step × Step)) : augB b (p ++ q) = augB (augB b p) q := List.foldl_append ..
theorem augB_out {x : Str} {row : List Step} : ∀ {b : Str → Option Str}, (∀ p ∈ nbs row, p.1.2 = false → p.1.1 ≠ p.2.1 → p.2.2 = true) → (x, true) ∉ row → augB b (nbs row) x = b x := by
  induction row with
  | nil => intro b _ _; rfl
  | cons a r ih =>
    intro b ok h
    cases r with
    | nil => rfl
    | cons c r =>
      rw [nbs_cons2]
      show augB (stepB b (a, c)) (nbs (c :: r)) x = b x
      rw [ih (fun p hp => ok p (by rw [nbs_cons2]; exact List.mem_cons_of_mem _ hp)) (fun z => h (List.mem_cons_of_mem _ z))]
      unfold stepB
      obtain ⟨a1, a2⟩ := a
      obtain ⟨c1, c2⟩ := c
      dsimp only
      split
      · rename_i hc
        unfold putF
        rw [if_neg fun e => h (by rw [e, ← hc.2]; exact List.mem_cons_self)]
      · rename_i hc
        split
        · rename_i hn
          have a2f : a2 = false := by
            cases a2 with
            | false => rfl
            | true => exact absurd ⟨hn, rfl⟩ hc
          have := ok ((a1, a2), (c1, c2)) (by rw [nbs_cons2]; exact List.mem_cons_self) a2f hn
          have c2t : c2 = true := this
          unfold delF
          rw [if_neg fun e => h (by rw [e, ← c2t]; exact List.mem_cons_of_mem _ List.mem_cons_self)]
        · rfl
end Flow

set_option Elab.async false
set_option linter.all false
set_option maxRecDepth 100000
set_option maxHeartbeats 4000000
/-! A row of steps makes one way more. -/
namespace Flow
open PySem PySem.Spec PyProof.Rows L2 G0
section
variable {f : Str → List Str} {so ot : List Str} {W : List (List Str)} {row : List Step}
theorem next_cases {ah : Str → Option (Option Str)} {a c : Step} (h : c ∈ nextS f ah a) : (a.2 = true ∧ c.2 = false ∧ (c.1 ∈ f a.1 ∨ (c.1 = a.1 ∧ (ah a.1).isSome = true))) ∨ (a.2 = false ∧ c.2 = true ∧ ((ah a.1 = none ∧ c.1 = a.1) ∨ ah a.1 = some (some c.1))) := by
  unfold nextS at h
  split at h
  · rename_i h2
    refine .inl ⟨h2, ?_⟩
    rcases List.mem_append.mp h with h | h
    · obtain ⟨o, ho, rfl⟩ := List.mem_map.mp h
      exact ⟨rfl, .inl ho⟩
    · split at h
      · rename_i hs
        cases List.mem_singleton.mp h
        exact ⟨rfl, .inr ⟨rfl, hs⟩⟩
      · cases h
  · rename_i h2
    have h2 : a.2 = false := by
      cases q : a.2 with
      | false => rfl
      | true => exact absurd q h2
    refine .inr ⟨h2, ?_⟩
    split at h
    · rename_i e
      cases List.mem_singleton.mp h
      exact ⟨rfl, .inl ⟨e, rfl⟩⟩
    · cases h
    · rename_i p e
      cases List.mem_singleton.mp h
      exact ⟨rfl, .inr e⟩
theorem Row.side {ah : Str → Option (Option Str)} (R : Row f ah so ot row) {p : Step × Step} (hp : p ∈ nbs row) : p.2.2 = !p.1.2 := by
  rcases next_cases (R.next p hp) with ⟨h1, h2, _⟩ | ⟨h1, h2, _⟩ <;> rw [h1, h2] <;> rfl
theorem Row.okB {ah : Str → Option (Option Str)} (R : Row f ah so ot row) {ps : List Step} (sub : ∀ p ∈ nbs ps, p ∈ nbs row) : ∀ p ∈ nbs ps, p.1.2 = false → p.1.1 ≠ p.2.1 → p.2.2 = true := fun p hp h _ => by
  rw [R.side (sub p hp), h]
  rfl
theorem Row.start_in {ah : Str → Option (Option Str)} (R : Row f ah so ot row) {A C : List Step} {x : Str} (e : row = A ++ (x, true) :: C) : ∃ A' p, A = A' ++ [(p, false)] := by
  rcases List.eq_nil_or_concat A with rfl | ⟨A', q, rfl⟩
  · obtain ⟨s, hs, _⟩ := R.first
    rw [e] at hs
    cases hs
  · rw [List.concat_eq_append] at e ⊢
    have hm : (q, ((x, true) : Step)) ∈ nbs row := by
      rw [e, List.append_assoc]
      exact nbs_of A' q (x, true) C
    have := R.side hm
    obtain ⟨p, s⟩ := q
    cases s with
    | false => exact ⟨A', p, rfl⟩
    | true => cases this
variable (Y : Ways f so ot W)
include Y
theorem aug_enter (R : Row f (aheadOn W) so ot row) {A C : List Step} {x : Str} (e : row = A ++ (x, true) :: C) : augB (behindOn W) (nbs (A ++ [(x, true)])) x = none := by
  obtain ⟨A', p, rfl⟩ := R.start_in e
  have hm : (((p, false) : Step), ((x, true) : Step)) ∈ nbs row := by
    rw [e, List.append_assoc]
    exact nbs_of A' (p, false) (x, true) C
  have nx := next_cases (R.next _ hm)
  have split : nbs (A' ++ [((p, false) : Step)] ++ [(x, true)]) = nbs (A' ++ [(p, false)]) ++ [((p, false), (x, true))] := by
    rw [List.append_assoc]
    exact nbs_append
  have out : (x, true) ∉ A' ++ [((p, false) : Step)] := fun h => by
    have nd := R.nd
    rw [e] at nd
    exact (List.nodup_append.mp nd).2.2 _ h _ List.mem_cons_self rfl
  rw [split, augB_append]
  show stepB (augB (behindOn W) (nbs (A' ++ [(p, false)]))) ((p, false), (x, true)) x = none
  have b1 : augB (behindOn W) (nbs (A' ++ [(p, false)])) x = behindOn W x := by
    refine augB_out (R.okB fun q hq => ?_) out
    rw [e, List.append_assoc]
    show q ∈ nbs (A' ++ (p, false) :: ([] ++ (x, true) :: C))
    rw [nbs_append]
    exact List.mem_append_left _ hq
  unfold stepB
  dsimp only
  rw [if_neg (fun h => by cases h.2)]
  split
  · unfold delF
    rw [if_pos rfl]
  · rename_i hn
    have epx : p = x := Classical.byContradiction hn
    rw [b1]
    rcases nx with ⟨h, _⟩ | ⟨_, _, h⟩
    · cases h
    rcases h with ⟨h, _⟩ | h
    · cases q : behindOn W x with
      | none => rfl
      | some y =>
        obtain ⟨w, hw, hm⟩ := (bh_iff Y.nd).mp q
        obtain ⟨v, hv⟩ := in_ah Y.nd (List.mem_flatten.mpr ⟨w, hw, (nbs_mem hm).1⟩)
        rw [epx] at h
        rw [h] at hv
        cases hv
    · exfalso
      rw [epx] at h
      obtain ⟨w, hw, hm⟩ := (bh_iff Y.nd).mp ((bh_ah Y.nd).mpr h)
      obtain ⟨A, B, e'⟩ := nbs_at hm
      have nw : w.Nodup := (List.pairwise_flatten.mp Y.nd).1 w hw
      rw [e'] at nw
      have := (List.nodup_append.mp nw).2.1
      rw [List.nodup_cons] at this
      exact this.1 List.mem_cons_self
theorem aug_set (R : Row f (aheadOn W) so ot row) {x y : Str} (h : (((x, true) : Step), ((y, false) : Step)) ∈ nbs row) (ne : y ≠ x) : augB (behindOn W) (nbs row) x = some y := by
  obtain ⟨A, B, e⟩ := nbs_at h
  have nd := R.nd
  rw [e] at nd
  have out : (x, true) ∉ ((y, false) : Step) :: B := (List.nodup_cons.mp (List.nodup_append.mp nd).2.1).1
  have sub : ∀ p ∈ nbs (((y, false) : Step) :: B), p ∈ nbs row := fun p hp => by
    rw [e, nbs_append, nbs_cons2]
    exact List.mem_append_right _ (List.mem_cons_of_mem _ hp)
  rw [e, nbs_append, nbs_cons2, augB_append]
  show augB (stepB _ ((x, true), (y, false))) (nbs ((y, false) :: B)) x = some y
  rw [augB_out (R.okB sub) out]
  unfold stepB
  dsimp only
  rw [if_pos ⟨fun z => ne z.symm, rfl⟩]
  unfold putF
  rw [if_pos rfl]
theorem aug_gone (R : Row f (aheadOn W) so ot row) {x : Str} (hx : (x, true) ∈ row) (h : ∀ y, (((x, true) : Step), ((y, false) : Step)) ∈ nbs row → y = x) : augB (behindOn W) (nbs row) x = none := by
  obtain ⟨A, C, e⟩ := List.append_of_mem hx
  have en := aug_enter Y R e
  cases C with
  | nil =>
    rw [e]
    exact en
  | cons c C =>
    have hm : (((x, true) : Step), c) ∈ nbs row := by
      rw [e]
      exact nbs_of A (x, true) c C
    have sd := R.side hm
    obtain ⟨y, s⟩ := c
    have sf : s = false := sd
    subst sf
    have ey := h y hm
    subst ey
    have nd := R.nd
    rw [e] at nd
    have out : (y, true) ∉ ((y, false) : Step) :: C := (List.nodup_cons.mp (List.nodup_append.mp nd).2.1).1
    have sub : ∀ p ∈ nbs (((y, false) : Step) :: C), p ∈ nbs row := fun p hp => by
      rw [e, nbs_append, nbs_cons2]
      exact List.mem_append_right _ (List.mem_cons_of_mem _ hp)
    rw [e, nbs_append, nbs_cons2, augB_append]
    show augB (stepB _ ((y, true), (y, false))) (nbs ((y, false) :: C)) y = none
    rw [augB_out (R.okB sub) out]
    unfold stepB
    dsimp only
    rw [if_neg (fun z => z.1 rfl), if_neg (fun z => z rfl)]
    exact en
theorem aug_out (R : Row f (aheadOn W) so ot row) {x : Str} (hx : (x, true) ∉ row) : augB (behindOn W) (nbs row) x = behindOn W x := augB_out (R.okB fun _ h => h) hx
/-- each that is deleted is there -/
theorem aug_del (R : Row f (aheadOn W) so ot row) : delOk (behindOn W) (nbs row) := by
  have key : ∀ (r : List Step) (A : List Step) (a : Step), row = A ++ a :: r → delOk (augB (behindOn W) (nbs (A ++ [a]))) (nbs (a :: r)) := by
    intro r
    induction r with
    | nil => intro A a _; exact trivial
    | cons c r ih =>
      intro A a e
      rw [nbs_cons2]
      have nd := R.nd
      refine ⟨fun ne hs => ?_, ?_⟩
      · have hm : (a, c) ∈ nbs row := by
          rw [e]
          exact nbs_of A a c r
        rcases next_cases (R.next _ hm) with ⟨h, _⟩ | ⟨_, h2, h⟩
        · rw [hs] at h
          cases h
        rcases h with ⟨_, h⟩ | h
        · exact absurd h.symm ne
        have out : (c.1, true) ∉ A ++ [a] := fun z => by
          rw [e] at nd
          have ec : c = (c.1, true) := by
            obtain ⟨c1, c2⟩ := c
            rw [show c2 = true from h2]
          have e' : A ++ a :: c :: r = (A ++ [a]) ++ c :: r := by simp
          rw [e'] at nd
          exact (List.nodup_append.mp nd).2.2 _ z _ List.mem_cons_self ec.symm
        show (augB (behindOn W) (nbs (A ++ [a])) c.1).isSome = true
        rw [augB_out (R.okB fun q hq => by rw [e, nbs_append]; exact List.mem_append_left _ hq) out, (bh_ah Y.nd).mpr h]
        rfl
      · have := ih (A ++ [a]) c (by rw [e]; simp)
        have e2 : nbs (A ++ [a] ++ [c]) = nbs (A ++ [a]) ++ [(a, c)] := by
          rw [List.append_assoc]
          exact nbs_append
        rw [e2, augB_append] at this
        exact this
  obtain ⟨s, hs, _⟩ := R.first
  cases row with
  | nil => cases hs
  | cons a r => exact key r [] a rfl
/-- no circle begins, no way is joined to another one -/
structure FlowOk (f : Str → List Str) (ot : List Str) (B : Str → Prop) (b : Str → Option Str) : Prop where
  edge : ∀ x y, b x = some y → y ∈ f x
  inj : ∀ x y z, b x = some z → b y = some z → x = y
  noin : ∀ x z, B z → b x ≠ some z
  ends : ∀ x, (B x ∨ ∃ w, b w = some x) → b x = none → x ∈ ot
theorem aug_flow (R : Row f (aheadOn W) so ot row) (noself : ∀ x, x ∉ f x) {s : Str} (hs : row.head? = some (s, false)) : FlowOk f ot (fun z => z = s ∨ ∃ w ∈ W, w.head? = some z) (augB (behindOn W) (nbs row)) ∧ ∀ w ∈ W, w.head? ≠ some s := by
  have nd := R.nd
  -- the step behind one that leads in
  have go_in : ∀ x, (x, false) ∈ row → ∃ c, (((x, false) : Step), c) ∈ nbs row := fun x hx => by
    rcases nbs_or_last hx with h | h
    · exact h
    · obtain ⟨t, ht, _⟩ := R.last
      rw [h] at ht
      cases ht
  have in_free : ∀ x, (x, false) ∈ row → aheadOn W x = none → (x, true) ∈ row := fun x hx ha => by
    obtain ⟨c, hc⟩ := go_in x hx
    rcases next_cases (R.next _ hc) with ⟨h, _⟩ | ⟨_, h2, h⟩
    · cases h
    rcases h with ⟨_, h⟩ | h
    · have := (nbs_mem hc).2
      have ec : c = (x, true) := Prod.ext h h2
      rw [ec] at this
      exact this
    · rw [ha] at h
      cases h
  have in_way : ∀ x p, (x, false) ∈ row → aheadOn W x = some (some p) → (((x, false) : Step), ((p, true) : Step)) ∈ nbs row := fun x p hx ha => by
    obtain ⟨c, hc⟩ := go_in x hx
    rcases next_cases (R.next _ hc) with ⟨h, _⟩ | ⟨_, h2, h⟩
    · cases h
    rcases h with ⟨h, _⟩ | h
    · rw [ha] at h
      cases h
    · have h : aheadOn W x = some (some c.1) := h
      rw [ha] at h
      injection h with h
      injection h with h
      have ec : c = (p, true) := Prod.ext h.symm h2
      rw [← ec]
      exact hc
  have in_begin : ∀ x, (x, false) ∈ row → aheadOn W x ≠ some none := fun x hx ha => by
    obtain ⟨c, hc⟩ := go_in x hx
    rcases next_cases (R.next _ hc) with ⟨h, _⟩ | ⟨_, _, h⟩
    · cases h
    rcases h with ⟨h, _⟩ | h
    · rw [ha] at h
      cases h
    · have h : aheadOn W x = some (some c.1) := h
      rw [ha] at h
      injection h with h
      cases h
  have s_in : (s, false) ∈ row := List.mem_of_head? hs
  have headNo : ∀ w ∈ W, w.head? ≠ some s := fun w hw h => in_begin s s_in (ah_head Y.nd hw h)
  -- who stands before a step
  have before : ∀ {a a' c : Step}, (a, c) ∈ nbs row → (a', c) ∈ nbs row → a = a' := fun {a a' c} h h' => by
    obtain ⟨A, B, e⟩ := nbs_at h
    obtain ⟨A', B', e'⟩ := nbs_at h'
    have h1 : row[A.length]? = some a := by rw [e, List.getElem?_append_right (Nat.le_refl _), Nat.sub_self]; rfl
    have h2 : row[A.length + 1]? = some c := by rw [e, List.getElem?_append_right (by omega), Nat.add_sub_cancel_left]; rfl
    have h3 : row[A'.length]? = some a' := by rw [e', List.getElem?_append_right (Nat.le_refl _), Nat.sub_self]; rfl
    have h4 : row[A'.length + 1]? = some c := by rw [e', List.getElem?_append_right (by omega), Nat.add_sub_cancel_left]; rfl
    have : A.length + 1 = A'.length + 1 := (List.getElem?_inj (List.getElem?_eq_some_iff.mp h2).1 nd).mp (h2.trans h4.symm)
    have : A.length = A'.length := by omega
    rw [this, h3] at h1
    exact (Option.some.inj h1).symm
  have not_first : ∀ {a : Step}, (a, ((s, false) : Step)) ∉ nbs row := fun {a} h => by
    obtain ⟨A, B, e⟩ := nbs_at h
    have h2 : row[A.length + 1]? = some (s, false) := by rw [e, List.getElem?_append_right (by omega), Nat.add_sub_cancel_left]; rfl
    have h0 : row[0]? = some (s, false) := by rw [← hs, List.head?_eq_getElem?]
    have := (List.getElem?_inj (List.getElem?_eq_some_iff.mp h0).1 nd).mp (h0.trans h2.symm)
    omega
  -- what b' tells: as it was, or a step forward
  have told : ∀ x y, augB (behindOn W) (nbs row) x = some y → ((x, true) ∉ row ∧ behindOn W x = some y) ∨ (y ≠ x ∧ (((x, true) : Step), ((y, false) : Step)) ∈ nbs row) := fun x y h => by
    by_cases m : (x, true) ∈ row
    · by_cases g : ∃ z, z ≠ x ∧ (((x, true) : Step), ((z, false) : Step)) ∈ nbs row
      · obtain ⟨z, nz, hz⟩ := g
        rw [aug_set Y R hz nz] at h
        cases h
        exact .inr ⟨nz, hz⟩
      · rw [aug_gone Y R m fun z hz => Classical.byContradiction fun n => g ⟨z, n, hz⟩] at h
        cases h
    · rw [aug_out Y R m] at h
      exact .inl ⟨m, h⟩
  have two : ∀ {x1 x2 y}, (x1, true) ∉ row → behindOn W x1 = some y → (((x2, true) : Step), ((y, false) : Step)) ∈ nbs row → False := fun {x1 x2 y} h1 h2 h3 => h1 (nbs_mem (in_way y x1 (nbs_mem h3).2 ((bh_ah Y.nd).mp h2))).2
  refine ⟨⟨fun x y h => ?_, fun x y z h1 h2 => ?_, fun x z hz h => ?_, fun x hx h => ?_⟩, headNo⟩
  · rcases told x y h with ⟨_, h⟩ | ⟨ne, h⟩
    · obtain ⟨w, hw, hm⟩ := (bh_iff Y.nd).mp h
      exact Y.chain w hw _ hm
    · rcases next_cases (R.next _ h) with ⟨_, _, h⟩ | ⟨h, _⟩
      · exact h.elim id fun q => absurd q.1 ne
      · cases h
  · rcases told x z h1 with ⟨m1, h1⟩ | ⟨n1, h1⟩
    · rcases told y z h2 with ⟨m2, h2⟩ | ⟨n2, h2⟩
      · have e1 := (bh_ah Y.nd).mp h1
        rw [(bh_ah Y.nd).mp h2] at e1
        injection e1 with e1
        injection e1 with e1
        exact e1.symm
      · exact (two m1 h1 h2).elim
    · rcases told y z h2 with ⟨m2, h2⟩ | ⟨n2, h2⟩
      · exact (two m2 h2 h1).elim
      · have := before h1 h2
        injection this
  · rcases told x z h with ⟨m, h⟩ | ⟨n, h⟩
    · rcases hz with rfl | ⟨w, hw, hz⟩
      · exact m (nbs_mem (in_way z x s_in ((bh_ah Y.nd).mp h))).2
      · have := (bh_ah Y.nd).mp h
        rw [ah_head Y.nd hw hz] at this
        injection this with this
        cases this
    · rcases hz with rfl | ⟨w, hw, hz⟩
      · exact not_first h
      · exact in_begin z (nbs_mem h).2 (ah_head Y.nd hw hz)
  · -- who has nobody behind
    have on_way : behindOn W x = none → x ∈ W.flatten → x ∈ ot := fun hb hm => bh_end Y hm hb
    by_cases m : (x, true) ∈ row
    · -- the last step, or one who is left out
      rcases nbs_or_last m with ⟨c, hc⟩ | hl
      · exfalso
        have sd := R.side hc
        obtain ⟨z, sz⟩ := c
        have sf : sz = false := sd
        subst sf
        have ezx : z = x := Classical.byContradiction fun n => by
          rw [aug_set Y R hc n] at h
          cases h
        subst ezx
        have xin : (z, false) ∈ row := (nbs_mem hc).2
        rcases hx with (rfl | ⟨w, hw, hz⟩) | ⟨w, hw⟩
        · exact not_first hc
        · exact in_begin z xin (ah_head Y.nd hw hz)
        · rcases told w z hw with ⟨m', h'⟩ | ⟨n', h'⟩
          · exact two m' h' hc
          · have := before hc h'
            injection this with q
            exact n' q
      · obtain ⟨t, ht, hot⟩ := R.last
        rw [hl] at ht
        cases ht
        exact hot
    · rw [aug_out Y R m] at h
      rcases hx with (rfl | ⟨w, hw, hz⟩) | ⟨w, hw⟩
      · refine on_way h ?_
        by_cases z : x ∈ W.flatten
        · exact z
        · exact absurd (in_free x s_in (ah_none z)) m
      · exact on_way h (List.mem_flatten.mpr ⟨w, hw, List.mem_of_head? hz⟩)
      · rcases told w x hw with ⟨_, h'⟩ | ⟨_, h'⟩
        · obtain ⟨v, hv, hm⟩ := (bh_iff Y.nd).mp h'
          exact on_way h (List.mem_flatten.mpr ⟨v, hv, (nbs_mem hm).2⟩)
        · refine on_way h ?_
          by_cases z : x ∈ W.flatten
          · exact z
          · exact absurd (in_free x (nbs_mem h').2 (ah_none z)) m
end
end Flow

set_option Elab.async false
set_option linter.all false
set_option maxRecDepth 100000
set_option maxHeartbeats 4000000
/-! The search for a row; the ways that come of it; what parts, if there is none. -/
namespace Flow
open PySem PySem.Spec PyProof.Rows L2 G0
/-! ### ways along a partial map -/
def wayOn (b : Str → Option Str) : Nat → Str → List Str
  | 0, p => [p]
  | n + 1, p => p :: (match b p with
    | none => []
    | some q => wayOn b n q)
def Linked (b : Str → Option Str) (L : List Str) : Prop := ∀ q ∈ nbs L, b q.1 = some q.2
theorem wayOn_head (b : Str → Option Str) (n : Nat) (p : Str) : (wayOn b n p).head? = some p := by
  cases n <;> rfl
section
variable {f : Str → List Str} {ot : List Str} {B : Str → Prop} {b : Str → Option Str} {pl : List Str}
theorem link_new (O : FlowOk f ot B b) {pre : List Str} {p q : Str} (nd : (pre ++ [p]).Nodup) (lk : Linked b (pre ++ [p])) (hB : ∀ z, (pre ++ [p]).head? = some z → B z) (h : b p = some q) : q ∉ pre ++ [p] := fun hq => by
  rcases nbs_or_first hq with ⟨u, hu⟩ | hh
  · have eu := O.inj u p q (lk _ hu) h
    subst eu
    obtain ⟨A, C, e⟩ := nbs_at hu
    have h1 : (pre ++ [u])[A.length]? = some u := by rw [e, List.getElem?_append_right (Nat.le_refl _), Nat.sub_self]; rfl
    have h2 : (pre ++ [u])[pre.length]? = some u := by rw [List.getElem?_append_right (Nat.le_refl _), Nat.sub_self]; rfl
    have h3 := (List.getElem?_inj (List.getElem?_eq_some_iff.mp h1).1 nd).mp (h1.trans h2.symm)
    have h4 := congrArg List.length e
    rw [List.length_append, List.length_append, List.length_singleton, List.length_cons, List.length_cons] at h4
    omega
  · exact O.noin p q (hB q hh) h
theorem way_ok (O : FlowOk f ot B b) (inpl : ∀ x y, b x = some y → y ∈ pl) : ∀ (n : Nat) (pre : List Str) (p : Str), (pre ++ [p]).Nodup → (∀ z ∈ pre ++ [p], z ∈ pl) → Linked b (pre ++ [p]) → (∀ z, (pre ++ [p]).head? = some z → B z) → pl.length ≤ pre.length + 1 + n →
    (pre ++ wayOn b n p).Nodup ∧ Linked b (pre ++ wayOn b n p) ∧ (∀ z ∈ wayOn b n p, z ∈ pl) ∧ ∃ l, (wayOn b n p).getLast? = some l ∧ b l = none := by
  intro n
  induction n with
  | zero =>
    intro pre p nd ip lk hB le
    refine ⟨nd, lk, fun z hz => ip z (List.mem_append_right _ hz), p, rfl, ?_⟩
    cases h : b p with
    | none => rfl
    | some q =>
      exfalso
      have nq := link_new O nd lk hB h
      have := (List.nodup_cons.mpr ⟨nq, nd⟩).length_le_of_subset (l₂ := pl) fun z hz => (List.mem_cons.mp hz).elim (fun e => e ▸ inpl p q h) (ip z)
      rw [List.length_cons, List.length_append, List.length_singleton] at this
      omega
  | succ n ih =>
    intro pre p nd ip lk hB le
    cases h : b p with
    | none =>
      have e : wayOn b (n + 1) p = [p] := by
        show p :: (match b p with | none => [] | some q => wayOn b n q) = [p]
        rw [h]
      rw [e]
      exact ⟨nd, lk, fun z hz => ip z (List.mem_append_right _ hz), p, rfl, h⟩
    | some q =>
      have e : wayOn b (n + 1) p = p :: wayOn b n q := by
        show p :: (match b p with | none => [] | some q => wayOn b n q) = _
        rw [h]
      have nq := link_new O nd lk hB h
      have hl : Linked b (pre ++ [p] ++ [q]) := fun z hz => by
        have e2 : nbs (pre ++ [p] ++ [q]) = nbs (pre ++ [p]) ++ [(p, q)] := by
          rw [List.append_assoc]
          exact nbs_append
        rw [e2] at hz
        rcases List.mem_append.mp hz with hz | hz
        · exact lk z hz
        · rw [List.mem_singleton.mp hz]
          exact h
      obtain ⟨r1, r2, r3, l, r4, r5⟩ := ih (pre ++ [p]) q (List.nodup_append.mpr ⟨nd, by simp, fun u hu v hv e => nq (by rw [← List.mem_singleton.mp hv, ← e]; exact hu)⟩)
        (fun z hz => (List.mem_append.mp hz).elim (ip z) fun h' => List.mem_singleton.mp h' ▸ inpl p q h) hl
        (fun z hz => hB z (by
          cases pre with
          | nil => exact hz
          | cons a pre => exact hz)) (by rw [List.length_append, List.length_singleton]; omega)
      rw [e]
      have ea : pre ++ p :: wayOn b n q = pre ++ [p] ++ wayOn b n q := by simp
      rw [ea]
      refine ⟨r1, r2, fun z hz => (List.mem_cons.mp hz).elim (fun e => e ▸ ip p (by simp)) (r3 z), l, ?_, r5⟩
      rw [List.getLast?_cons, r4]
      rfl
theorem way_same (O : FlowOk f ot B b) {L1 L2 : List Str} (k1 : Linked b L1) (k2 : Linked b L2) (h1 : ∀ z, L1.head? = some z → B z) (h2 : ∀ z, L2.head? = some z → B z) : ∀ (i : Nat) (z : Str), L1[i]? = some z → z ∈ L2 → L1.head? = L2.head? := by
  intro i
  induction i with
  | zero =>
    intro z hz m
    have hh : L1.head? = some z := by rw [List.head?_eq_getElem?]; exact hz
    rcases nbs_or_first m with ⟨u, hu⟩ | e
    · exact absurd (k2 _ hu) (O.noin u z (h1 z hh))
    · rw [hh, e]
  | succ i ih =>
    intro z hz m
    have il := (List.getElem?_eq_some_iff.mp hz).1
    have hu := List.getElem?_eq_getElem (show i < L1.length by omega)
    have hm : (L1[i], z) ∈ nbs L1 := by
      have e : L1 = L1.take i ++ L1[i] :: z :: L1.drop (i + 2) := by
        have ez : L1[i + 1] = z := by
          have := List.getElem?_eq_getElem il
          rw [hz] at this
          exact (Option.some.inj this).symm
        rw [← ez, ← List.drop_eq_getElem_cons il, ← List.drop_eq_getElem_cons (by omega), List.take_append_drop]
      have := nbs_of (L1.take i) L1[i] z (L1.drop (i + 2))
      rw [← e] at this
      exact this
    have bu := k1 _ hm
    rcases nbs_or_first m with ⟨v, hv⟩ | e
    · have euv : L1[i] = v := O.inj _ _ z bu (k2 (v, z) hv)
      exact ih _ hu (by rw [euv]; exact (nbs_mem hv).1)
    · exact absurd bu (O.noin _ z (h2 z e))
end
def heads (W : List (List Str)) : List Str := W.map fun w => w.headD Str.empty
theorem head_of {w : List Str} (h : w ≠ []) : w.head? = some (w.headD Str.empty) := by
  cases w with
  | nil => exact absurd rfl h
  | cons a r => rfl
theorem heads_sub : ∀ {W : List (List Str)}, (∀ w ∈ W, w ≠ []) → (heads W).Sublist W.flatten
  | [], _ => List.Sublist.refl _
  | w :: W, h => by
    cases w with
    | nil => exact absurd rfl (h _ List.mem_cons_self)
    | cons a r =>
      show (a :: heads W).Sublist ((a :: r) ++ W.flatten)
      exact ((heads_sub fun w hw => h w (List.mem_cons_of_mem _ hw)).trans (List.sublist_append_right r _)).cons_cons a
section
variable {f : Str → List Str} {so ot : List Str} {W : List (List Str)} {row : List Step} {pl : List Str}
/-- what is told, by a row -/
def moreBy (N : Nat) (W : List (List Str)) (row : List Step) : List (List Str) := (sortS (heads W ++ [(row.headD (Str.empty, false)).1])).map (wayOn (augB (behindOn W) (nbs row)) N)
theorem more_ok (Y : Ways f so ot W) (R : Row f (aheadOn W) so ot row) (noself : ∀ x, x ∉ f x) (fpl : ∀ x y, y ∈ f x → y ∈ pl) (spl : ∀ x ∈ so, x ∈ pl) : Ways f so ot (moreBy pl.length W row) ∧ (moreBy pl.length W row).length = W.length + 1 ∧ heads (moreBy pl.length W row) = sortS (heads W ++ [(row.headD (Str.empty, false)).1]) := by
  obtain ⟨s, hs, hso⟩ := R.first
  have es : (row.headD (Str.empty, false)).1 = s := by
    cases row with
    | nil => cases hs
    | cons a r =>
      cases hs
      rfl
  obtain ⟨O, sn⟩ := aug_flow Y R noself hs
  unfold moreBy
  rw [es]
  generalize augB (behindOn W) (nbs row) = b at O
  have hin : ∀ p, p ∈ sortS (heads W ++ [s]) ↔ (p = s ∨ ∃ w ∈ W, w.head? = some p) := fun p => by
    rw [sortS_mem, List.mem_append]
    constructor
    · rintro (h | h)
      · obtain ⟨w, hw, rfl⟩ := List.mem_map.mp h
        exact .inr ⟨w, hw, head_of (Y.ne w hw)⟩
      · exact .inl (List.mem_singleton.mp h)
    · rintro (rfl | ⟨w, hw, h⟩)
      · exact .inr (List.mem_singleton.mpr rfl)
      · refine .inl (List.mem_map.mpr ⟨w, hw, ?_⟩)
        have := head_of (Y.ne w hw)
        rw [h] at this
        exact (Option.some.inj this).symm
  have hso' : ∀ p ∈ sortS (heads W ++ [s]), p ∈ so := fun p hp => by
    rcases (hin p).mp hp with rfl | ⟨w, hw, h⟩
    · exact hso
    · exact Y.first w hw p h
  have nds : (sortS (heads W ++ [s])).Nodup := (sortS_perm _).nodup_iff.mpr (List.nodup_append.mpr ⟨Y.nd.sublist (heads_sub Y.ne), by simp, fun x hx y hy e => by
    obtain ⟨w, hw, rfl⟩ := List.mem_map.mp hx
    have := head_of (Y.ne w hw)
    rw [e, List.mem_singleton.mp hy] at this
    exact sn w hw this⟩)
  have inpl : ∀ x y, b x = some y → y ∈ pl := fun x y h => fpl x y (O.edge x y h)
  have each : ∀ p ∈ sortS (heads W ++ [s]), (wayOn b pl.length p).Nodup ∧ Linked b (wayOn b pl.length p) ∧ (∀ z ∈ wayOn b pl.length p, z ∈ pl) ∧ ∃ l, (wayOn b pl.length p).getLast? = some l ∧ b l = none := fun p hp => by
    have := way_ok O inpl pl.length [] p (by simp) (fun z hz => by rw [List.mem_singleton.mp hz]; exact spl p (hso' p hp)) (fun q hq => by cases hq) (fun z hz => by cases hz; exact (hin p).mp hp) (by rw [List.length_nil]; omega)
    exact this
  refine ⟨⟨fun w hw => ?_, fun w hw q hq => ?_, fun w hw x hx => ?_, fun w hw x hx => ?_, ?_⟩, ?_, ?_⟩
  · obtain ⟨p, hp, rfl⟩ := List.mem_map.mp hw
    intro e
    have := wayOn_head b pl.length p
    rw [e] at this
    cases this
  · obtain ⟨p, hp, rfl⟩ := List.mem_map.mp hw
    exact O.edge _ _ ((each p hp).2.1 q hq)
  · obtain ⟨p, hp, rfl⟩ := List.mem_map.mp hw
    rw [wayOn_head] at hx
    injection hx with hx
    rw [← hx]
    exact hso' p hp
  · obtain ⟨p, hp, rfl⟩ := List.mem_map.mp hw
    obtain ⟨_, lk, _, l, hl, hn⟩ := each p hp
    rw [hl] at hx
    injection hx with hx
    rw [← hx]
    refine O.ends l ?_ hn
    rcases nbs_or_first (List.mem_of_getLast? hl) with ⟨u, hu⟩ | h
    · exact .inr ⟨u, lk _ hu⟩
    · rw [wayOn_head] at h
      injection h with h
      rw [← h]
      exact .inl ((hin p).mp hp)
  · refine List.pairwise_flatten.mpr ⟨fun w hw => ?_, ?_⟩
    · obtain ⟨p, hp, rfl⟩ := List.mem_map.mp hw
      exact (each p hp).1
    · refine List.pairwise_map.mpr (List.Pairwise.imp_of_mem (fun {p q} hp hq ne x hx y hy e => ?_) nds)
      rw [← e] at hy
      obtain ⟨i, hi⟩ := List.getElem?_of_mem hx
      have := way_same O (each p hp).2.1 (each q hq).2.1 (fun z hz => by rw [wayOn_head] at hz; cases hz; exact (hin p).mp hp) (fun z hz => by rw [wayOn_head] at hz; cases hz; exact (hin q).mp hq) i x hi hy
      rw [wayOn_head, wayOn_head] at this
      exact ne (Option.some.inj this)
  · rw [List.length_map, sortS_len, List.length_append, List.length_singleton]
    unfold heads
    rw [List.length_map]
  · unfold heads
    rw [List.map_map]
    refine (List.map_congr_left fun p hp => ?_).trans (List.map_id _)
    have := wayOn_head b pl.length p
    show (wayOn b pl.length p).headD Str.empty = p
    rw [List.headD_eq_head?_getD, this]
    rfl
end
end Flow

set_option Elab.async false
set_option linter.all false
set_option maxRecDepth 100000
set_option maxHeartbeats 4000000
/-! The search, step by step; as many ways as can be; what parts. -/
namespace Flow
open PySem PySem.Spec PyProof.Rows L2 G0
abbrev Come : Type := List (Step × Option Step)
def addS (st : Step) (c : Come) (o : Step) : Come := if o ∈ c.map Prod.fst then c else c ++ [(o, some st)]
def expand (c : Come) (st : Step) (os : List Step) : Come := os.foldl (addS st) c
def search (f : Str → List Str) (ah : Str → Option (Option Str)) (ot : List Str) : Nat → Come → Nat → Come × Option Step
  | 0, c, _ => (c, none)
  | n + 1, c, i => match c[i]? with
    | none => (c, none)
    | some e => if e.1.2 = true ∧ e.1.1 ∈ ot then (c, some e.1) else search f ah ot n (expand c e.1 (nextS f ah e.1)) (i + 1)
theorem expand_ok : ∀ (os : List Step) (c : Come) (st : Step), (c.map Prod.fst).Nodup → (∃ u, expand c st os = c ++ u ∧ ∀ e ∈ u, e.2 = some st ∧ e.1 ∈ os) ∧ ((expand c st os).map Prod.fst).Nodup ∧ ∀ o ∈ os, o ∈ (expand c st os).map Prod.fst
  | [], c, st, nd => ⟨⟨[], (List.append_nil c).symm, by simp⟩, nd, by simp⟩
  | o :: os, c, st, nd => by
    have e : expand c st (o :: os) = expand (addS st c o) st os := rfl
    rw [e]
    unfold addS
    split
    · rename_i h
      obtain ⟨⟨u, e1, e2⟩, h2, h3⟩ := expand_ok os c st nd
      refine ⟨⟨u, e1, fun e he => ⟨(e2 e he).1, List.mem_cons_of_mem _ (e2 e he).2⟩⟩, h2, fun x hx => ?_⟩
      rcases List.mem_cons.mp hx with rfl | hx
      · rw [e1, List.map_append]
        exact List.mem_append_left _ h
      · exact h3 x hx
    · rename_i h
      have nd' : ((c ++ [(o, some st)]).map Prod.fst).Nodup := by
        rw [List.map_append]
        exact List.nodup_append.mpr ⟨nd, by simp, fun a ha b hb q => h (by rw [← show b = o from List.mem_singleton.mp hb, ← q]; exact ha)⟩
      obtain ⟨⟨u, e1, e2⟩, h2, h3⟩ := expand_ok os (c ++ [(o, some st)]) st nd'
      refine ⟨⟨(o, some st) :: u, by rw [e1, List.append_assoc]; rfl, fun e he => ?_⟩, h2, fun x hx => ?_⟩
      · rcases List.mem_cons.mp he with rfl | he
        · exact ⟨rfl, List.mem_cons_self⟩
        · exact ⟨(e2 e he).1, List.mem_cons_of_mem _ (e2 e he).2⟩
      · rcases List.mem_cons.mp hx with rfl | hx
        · rw [e1, List.map_append, List.map_append]
          exact List.mem_append_left _ (List.mem_append_right _ List.mem_cons_self)
        · exact h3 x hx
/-- how far the search has come -/
structure CI (f : Str → List Str) (ah : Str → Option (Option Str)) (so ot pl : List Str) (c : Come) (i : Nat) : Prop where
  nd : (c.map Prod.fst).Nodup
  inpl : ∀ e ∈ c, e.1.1 ∈ pl
  root : ∀ e ∈ c, e.2 = none → ∃ p ∈ so, e.1 = (p, false)
  par : ∀ (k : Nat) (e : Step × Option Step), c[k]? = some e → ∀ st, e.2 = some st → ∃ (j : Nat) (e' : Step × Option Step), j < k ∧ c[j]? = some e' ∧ e'.1 = st ∧ e.1 ∈ nextS f ah st
  closed : ∀ (j : Nat), j < i → ∀ (e : Step × Option Step), c[j]? = some e → ¬ (e.1.2 = true ∧ e.1.1 ∈ ot) ∧ ∀ o ∈ nextS f ah e.1, o ∈ c.map Prod.fst
  starts : ∀ p ∈ so, (p, false) ∈ c.map Prod.fst
  le : i ≤ c.length
def startC (so : List Str) : Come := (sortS so).map fun p => ((p, false), none)
section
variable {f : Str → List Str} {ah : Str → Option (Option Str)} {so ot pl : List Str}
theorem CI.start (nd : so.Nodup) (spl : ∀ x ∈ so, x ∈ pl) : CI f ah so ot pl (startC so) 0 := by
  have ek : (startC so).map Prod.fst = (sortS so).map fun p => (p, false) := by
    unfold startC
    rw [List.map_map]
    rfl
  refine ⟨?_, fun e he => ?_, fun e he _ => ?_, fun k e he st hs => ?_, fun j hj => absurd hj (Nat.not_lt_zero _), fun p hp => ?_, Nat.zero_le _⟩
  · rw [ek]
    exact List.pairwise_map.mpr (List.Pairwise.imp (fun ne q => ne (by injection q)) ((sortS_perm so).nodup_iff.mpr nd))
  · obtain ⟨p, hp, rfl⟩ := List.mem_map.mp he
    exact spl p (sortS_mem.mp hp)
  · obtain ⟨p, hp, rfl⟩ := List.mem_map.mp he
    exact ⟨p, sortS_mem.mp hp, rfl⟩
  · obtain ⟨p, hp, rfl⟩ := List.mem_map.mp (List.mem_of_getElem? he)
    cases hs
  · rw [ek]
    exact List.mem_map.mpr ⟨p, sortS_mem.mpr hp, rfl⟩
theorem few_steps {c : Come} (nd : (c.map Prod.fst).Nodup) (inpl : ∀ e ∈ c, e.1.1 ∈ pl) : c.length ≤ 2 * pl.length := by
  have sub : (c.map Prod.fst) ⊆ pl.flatMap fun p => [((p, false) : Step), (p, true)] := fun st h => by
    obtain ⟨e, he, rfl⟩ := List.mem_map.mp h
    refine List.mem_flatMap.mpr ⟨e.1.1, inpl e he, ?_⟩
    obtain ⟨⟨p, s⟩, q⟩ := e
    cases s <;> simp
  have l := nd.length_le_of_subset sub
  have l2 : (pl.flatMap fun p => [((p, false) : Step), (p, true)]).length = 2 * pl.length := by
    clear l sub inpl
    induction pl with
    | nil => rfl
    | cons p pl ih =>
      rw [List.flatMap_cons, List.length_append, ih]
      show 2 + 2 * pl.length = 2 * (pl.length + 1)
      omega
  rw [List.length_map, l2] at l
  exact l
theorem next_pl (fpl : ∀ x y, y ∈ f x → y ∈ pl) (apl : ∀ x v, ah x = some (some v) → v ∈ pl) {a c : Step} (ha : a.1 ∈ pl) (h : c ∈ nextS f ah a) : c.1 ∈ pl := by
  rcases next_cases h with ⟨_, _, h | ⟨h, _⟩⟩ | ⟨_, _, ⟨_, h⟩ | h⟩
  · exact fpl _ _ h
  · rw [h]; exact ha
  · rw [h]; exact ha
  · exact apl _ _ h
theorem search_ok (fpl : ∀ x y, y ∈ f x → y ∈ pl) (apl : ∀ x v, ah x = some (some v) → v ∈ pl) : ∀ (n : Nat) (c : Come) (i : Nat), CI f ah so ot pl c i → 2 * pl.length + 1 ≤ n + i →
    (∃ c', search f ah ot n c i = (c', none) ∧ CI f ah so ot pl c' c'.length) ∨ ∃ (c' : Come) (k : Nat) (e : Step × Option Step), search f ah ot n c i = (c', some e.1) ∧ CI f ah so ot pl c' k ∧ c'[k]? = some e ∧ e.1.2 = true ∧ e.1.1 ∈ ot := by
  intro n
  induction n with
  | zero =>
    intro c i C le
    have := few_steps C.nd C.inpl
    have := C.le
    omega
  | succ n ih =>
    intro c i C le
    cases ec : c[i]? with
    | none =>
      have ei : i = c.length := Nat.le_antisymm C.le (List.getElem?_eq_none_iff.mp ec)
      refine .inl ⟨c, ?_, ei ▸ C⟩
      show (match c[i]? with
        | none => (c, none)
        | some e => if e.1.2 = true ∧ e.1.1 ∈ ot then (c, some e.1) else search f ah ot n (expand c e.1 (nextS f ah e.1)) (i + 1)) = _
      rw [ec]
    | some e =>
      have es : search f ah ot (n + 1) c i = if e.1.2 = true ∧ e.1.1 ∈ ot then (c, some e.1) else search f ah ot n (expand c e.1 (nextS f ah e.1)) (i + 1) := by
        show (match c[i]? with
          | none => (c, none)
          | some e => if e.1.2 = true ∧ e.1.1 ∈ ot then (c, some e.1) else search f ah ot n (expand c e.1 (nextS f ah e.1)) (i + 1)) = _
        rw [ec]
      rw [es]
      by_cases g : e.1.2 = true ∧ e.1.1 ∈ ot
      · rw [if_pos g]
        exact .inr ⟨c, i, e, rfl, C, ec, g.1, g.2⟩
      · rw [if_neg g]
        obtain ⟨⟨u, e1, e2⟩, h2, h3⟩ := expand_ok (nextS f ah e.1) c e.1 C.nd
        refine ih _ _ ?_ (by omega)
        have il := (List.getElem?_eq_some_iff.mp ec).1
        have old : ∀ {k : Nat} {x}, k < c.length → ((c ++ u)[k]? = some x ↔ c[k]? = some x) := fun hk => by rw [List.getElem?_append_left hk]
        have keys : ∀ o, o ∈ c.map Prod.fst → o ∈ (c ++ u).map Prod.fst := fun o h => by rw [List.map_append]; exact List.mem_append_left _ h
        rw [e1] at h2 h3 ⊢
        refine ⟨h2, fun x hx => ?_, fun x hx hn => ?_, fun k x hx st hs => ?_, fun j hj x hx => ?_, fun p hp => keys _ (C.starts p hp), by rw [List.length_append]; omega⟩
        · rcases List.mem_append.mp hx with h | h
          · exact C.inpl x h
          · exact next_pl fpl apl (C.inpl e (List.mem_of_getElem? ec)) (e2 x h).2
        · rcases List.mem_append.mp hx with h | h
          · exact C.root x h hn
          · rw [(e2 x h).1] at hn
            cases hn
        · rcases Nat.lt_or_ge k c.length with l | l
          · obtain ⟨j, e', h1, h4, h5, h6⟩ := C.par k x ((old l).mp hx) st hs
            exact ⟨j, e', h1, (old (by omega)).mpr h4, h5, h6⟩
          · rw [List.getElem?_append_right l] at hx
            obtain ⟨q1, q2⟩ := e2 x (List.mem_of_getElem? hx)
            rw [q1] at hs
            cases hs
            exact ⟨i, e, by omega, (old il).mpr ec, rfl, q2⟩
        · rcases Nat.lt_or_ge j i with l | l
          · obtain ⟨q1, q2⟩ := C.closed j l x ((old (by omega)).mp hx)
            exact ⟨q1, fun o ho => keys o (q2 o ho)⟩
          · have ej : j = i := by omega
            rw [ej, List.getElem?_append_left il, ec] at hx
            cases hx
            exact ⟨g, h3⟩
/-! ### the row back -/
def rowBack (c : Come) : Nat → Option Step → List Step
  | 0, _ => []
  | _ + 1, none => []
  | n + 1, some st => st :: rowBack c n (c.lookup st).join
theorem rowBack_none (c : Come) (n : Nat) : rowBack c n none = [] := by
  cases n <;> rfl
theorem lookup_at {α β : Type} [BEq α] [LawfulBEq α] : ∀ {c : List (α × β)} {k : Nat} {e : α × β}, (c.map Prod.fst).Nodup → c[k]? = some e → c.lookup e.1 = some e.2
  | [], k, e, _, h => by simp at h
  | x :: c, 0, e, _, h => by
    cases h
    obtain ⟨a, b⟩ := x
    exact List.lookup_cons_self
  | x :: c, k + 1, e, nd, h => by
    rw [List.map_cons, List.nodup_cons] at nd
    have h : c[k]? = some e := h
    obtain ⟨a, b⟩ := x
    have ne : (e.1 == a) = false := by
      rw [beq_eq_false_iff_ne]
      intro q
      exact nd.1 (by rw [← show e.1 = a from q]; exact List.mem_map.mpr ⟨e, List.mem_of_getElem? h, rfl⟩)
    rw [List.lookup_cons, ne]
    exact lookup_at nd.2 h
theorem back_ok {c : Come} {i : Nat} (C : CI f ah so ot pl c i) : ∀ (m k : Nat), k ≤ m → ∀ (e : Step × Option Step), c[k]? = some e → ∀ n, k + 2 ≤ n → ∃ r, rowBack c n (some e.1) = e.1 :: r ∧ (∀ st ∈ e.1 :: r, ∃ j, j ≤ k ∧ (c.map Prod.fst)[j]? = some st) ∧ (e.1 :: r).Nodup ∧ (∀ p ∈ nbs (e.1 :: r), p.1 ∈ nextS f ah p.2) ∧ ∃ p ∈ so, (e.1 :: r).getLast? = some (p, false) := by
  intro m
  induction m with
  | zero =>
    intro k hk e he n hn
    obtain rfl : k = 0 := by omega
    obtain ⟨n, rfl⟩ : ∃ n', n = n' + 1 := ⟨n - 1, by omega⟩
    have hl := lookup_at C.nd he
    cases e2 : e.2 with
    | some st =>
      obtain ⟨j, _, hj, _⟩ := C.par 0 e he st e2
      omega
    | none =>
      obtain ⟨p, hp, ep⟩ := C.root e (List.mem_of_getElem? he) e2
      refine ⟨[], ?_, fun st hs => ⟨0, Nat.le_refl _, by rw [List.mem_singleton.mp hs, List.getElem?_map, he]; rfl⟩, by simp, (by intro q hq; cases hq), p, hp, by rw [← ep]; rfl⟩
      show e.1 :: rowBack c n (c.lookup e.1).join = [e.1]
      rw [hl, e2]
      exact congrArg _ (rowBack_none c n)
  | succ m ih =>
    intro k hk e he n hn
    obtain ⟨n, rfl⟩ : ∃ n', n = n' + 1 := ⟨n - 1, by omega⟩
    have hl := lookup_at C.nd he
    have hk0 : (c.map Prod.fst)[k]? = some e.1 := by rw [List.getElem?_map, he]; rfl
    cases e2 : e.2 with
    | none =>
      obtain ⟨p, hp, ep⟩ := C.root e (List.mem_of_getElem? he) e2
      refine ⟨[], ?_, fun st hs => ⟨k, Nat.le_refl _, by rw [List.mem_singleton.mp hs]; exact hk0⟩, by simp, (by intro q hq; cases hq), p, hp, by rw [← ep]; rfl⟩
      show e.1 :: rowBack c n (c.lookup e.1).join = [e.1]
      rw [hl, e2]
      exact congrArg _ (rowBack_none c n)
    | some st =>
      obtain ⟨j, e', hj, he', es, hn'⟩ := C.par k e he st e2
      obtain ⟨r, r1, r2, r3, r4, p, hp, r5⟩ := ih j (by omega) e' he' n (by omega)
      refine ⟨e'.1 :: r, ?_, fun x hx => ?_, ?_, fun q hq => ?_, p, hp, by rw [List.getLast?_cons_cons]; exact r5⟩
      · show e.1 :: rowBack c n (c.lookup e.1).join = _
        rw [hl, e2]
        show e.1 :: rowBack c n (some st) = _
        rw [← es, r1]
      · rcases List.mem_cons.mp hx with rfl | hx
        · exact ⟨k, Nat.le_refl _, hk0⟩
        · obtain ⟨j', l, q⟩ := r2 x hx
          exact ⟨j', by omega, q⟩
      · refine List.nodup_cons.mpr ⟨fun hm => ?_, r3⟩
        obtain ⟨j', l, q⟩ := r2 _ hm
        have := (List.getElem?_inj (List.getElem?_eq_some_iff.mp q).1 C.nd).mp (q.trans hk0.symm)
        omega
      · rw [nbs_cons2] at hq
        rcases List.mem_cons.mp hq with rfl | hq
        · show e.1 ∈ nextS f ah e'.1
          rw [es]
          exact hn'
        · exact r4 q hq
theorem nbs_rev {α : Type} [DecidableEq α] {l : List α} {x y : α} (h : (x, y) ∈ nbs l.reverse) : (y, x) ∈ nbs l := by
  obtain ⟨A, B, e⟩ := nbs_at h
  have e' : l = B.reverse ++ y :: x :: A.reverse := by
    have := congrArg List.reverse e
    rw [List.reverse_reverse] at this
    rw [this]
    simp
  rw [e']
  exact nbs_of _ _ _ _
def rowTo (c : Come) (st : Step) : List Step := (rowBack c (c.length + 1) (some st)).reverse
theorem row_ok {c : Come} {i k : Nat} {e : Step × Option Step} (C : CI f ah so ot pl c i) (he : c[k]? = some e) (h1 : e.1.2 = true) (h2 : e.1.1 ∈ ot) : Row f ah so ot (rowTo c e.1) := by
  have kl := (List.getElem?_eq_some_iff.mp he).1
  obtain ⟨r, r1, r2, r3, r4, p, hp, r5⟩ := back_ok C k k (Nat.le_refl _) e he (c.length + 1) (by omega)
  unfold rowTo
  rw [r1]
  refine ⟨(List.reverse_perm _).nodup_iff.mpr r3, fun q hq => r4 (q.2, q.1) (nbs_rev (x := q.1) (y := q.2) hq), ⟨p, ?_, hp⟩, ⟨e.1.1, ?_, h2⟩⟩
  · rw [List.head?_reverse]
    exact r5
  · rw [List.getLast?_reverse]
    show some e.1 = some (e.1.1, true)
    rw [← h1]
end
/-! ### one way more, as many as can be -/
def found (f : Str → List Str) (so ot : List Str) (N : Nat) (W : List (List Str)) : Come × Option Step := search f (aheadOn W) ot (2 * N + 1) (startC so) 0
def oneMore (f : Str → List Str) (so ot : List Str) (N : Nat) (W : List (List Str)) : Option (List (List Str)) := match (found f so ot N W).2 with
  | none => none
  | some st => some (moreBy N W (rowTo (found f so ot N W).1 st))
def apartGo (f : Str → List Str) (so ot : List Str) (N most : Nat) : Nat → List (List Str) → List (List Str)
  | 0, W => W
  | n + 1, W => if W.length < most then
      match oneMore f so ot N W with
      | none => W
      | some W' => apartGo f so ot N most n W'
    else W
def mostApart (f : Str → List Str) (so ot : List Str) (N : Nat) : List (List Str) := apartGo f so ot N N N []
def partOf (c : Come) : List Str := sortS (((c.map Prod.fst).filter fun e => decide (e.2 = false) && !decide ((e.1, true) ∈ c.map Prod.fst)).map Prod.fst)
/-- a board that ways are looked for on -/
structure Bd (f : Str → List Str) (so pl : List Str) : Prop where
  self : ∀ x, x ∉ f x
  fpl : ∀ x y, y ∈ f x → y ∈ pl
  spl : ∀ x ∈ so, x ∈ pl
  snd : so.Nodup
section
variable {f : Str → List Str} {so ot pl : List Str} {W : List (List Str)}
theorem Ways.inpl (Y : Ways f so ot W) (G : Bd f so pl) {x : Str} (h : x ∈ W.flatten) : x ∈ pl := by
  obtain ⟨w, hw, hx⟩ := List.mem_flatten.mp h
  rcases nbs_or_first hx with ⟨y, hy⟩ | hh
  · exact G.fpl _ _ (Y.chain w hw _ hy)
  · exact G.spl x (Y.first w hw x hh)
theorem Ways.apl (Y : Ways f so ot W) (G : Bd f so pl) (x v : Str) (h : aheadOn W x = some (some v)) : v ∈ pl := by
  rcases ah_cases Y.nd h with ⟨e, _⟩ | ⟨y, e, w, hw, hm⟩
  · cases e
  · cases e
    exact Y.inpl G (List.mem_flatten.mpr ⟨w, hw, (nbs_mem hm).1⟩)
theorem found_ok (Y : Ways f so ot W) (G : Bd f so pl) : (∃ c, found f so ot pl.length W = (c, none) ∧ CI f (aheadOn W) so ot pl c c.length) ∨ ∃ (c : Come) (k : Nat) (e : Step × Option Step), found f so ot pl.length W = (c, some e.1) ∧ CI f (aheadOn W) so ot pl c k ∧ c[k]? = some e ∧ e.1.2 = true ∧ e.1.1 ∈ ot :=
  search_ok G.fpl (Y.apl G) _ _ _ (CI.start G.snd G.spl) (Nat.le_refl _)
theorem one_ok (Y : Ways f so ot W) (G : Bd f so pl) {W' : List (List Str)} (h : oneMore f so ot pl.length W = some W') : ∃ c st, found f so ot pl.length W = (c, some st) ∧ W' = moreBy pl.length W (rowTo c st) ∧ Row f (aheadOn W) so ot (rowTo c st) ∧ Ways f so ot W' ∧ W'.length = W.length + 1 := by
  unfold oneMore at h
  rcases found_ok Y G with ⟨c, e, _⟩ | ⟨c, k, e, ef, C, hk, h1, h2⟩
  · rw [e] at h
    cases h
  · rw [ef] at h
    injection h with h
    have R := row_ok C hk h1 h2
    obtain ⟨m1, m2, _⟩ := more_ok Y R G.self G.fpl G.spl
    exact ⟨c, e.1, ef, h.symm, R, by rw [← h]; exact m1, by rw [← h]; exact m2⟩
theorem one_none (Y : Ways f so ot W) (G : Bd f so pl) (h : oneMore f so ot pl.length W = none) : ∃ c, found f so ot pl.length W = (c, none) ∧ CI f (aheadOn W) so ot pl c c.length := by
  rcases found_ok Y G with h' | ⟨c, k, e, ef, _⟩
  · exact h'
  · unfold oneMore at h
    rw [ef] at h
    cases h
theorem Ways.few (Y : Ways f so ot W) (G : Bd f so pl) : W.length ≤ so.length := by
  have nd := Y.nd.sublist (heads_sub Y.ne)
  have := nd.length_le_of_subset (l₂ := so) fun x hx => by
    obtain ⟨w, hw, rfl⟩ := List.mem_map.mp hx
    exact Y.first w hw _ (head_of (Y.ne w hw))
  unfold heads at this
  rw [List.length_map] at this
  exact this
theorem go_ok (G : Bd f so pl) (most : Nat) : ∀ (n : Nat) (W : List (List Str)), Ways f so ot W → most ≤ n + W.length → W.length ≤ most → Ways f so ot (apartGo f so ot pl.length most n W) ∧ (apartGo f so ot pl.length most n W).length ≤ most ∧
    ((apartGo f so ot pl.length most n W).length = most ∨ oneMore f so ot pl.length (apartGo f so ot pl.length most n W) = none) := by
  intro n
  induction n with
  | zero =>
    intro W Y le le2
    exact ⟨Y, le2, .inl (show W.length = most by omega)⟩
  | succ n ih =>
    intro W Y le le2
    have e : apartGo f so ot pl.length most (n + 1) W = if W.length < most then (match oneMore f so ot pl.length W with
      | none => W
      | some W' => apartGo f so ot pl.length most n W') else W := rfl
    rw [e]
    split
    · rename_i lt
      cases h : oneMore f so ot pl.length W with
      | none => exact ⟨Y, le2, .inr h⟩
      | some W' =>
        obtain ⟨_, _, _, _, _, Y', l⟩ := one_ok Y G h
        exact ih W' Y' (by omega) (by omega)
    · exact ⟨Y, le2, .inl (by omega)⟩
/-- as many as can be: there is no row any more -/
theorem most_ok (G : Bd f so pl) : Ways f so ot (mostApart f so ot pl.length) ∧ oneMore f so ot pl.length (mostApart f so ot pl.length) = none := by
  obtain ⟨Y, le, h⟩ := go_ok (ot := ot) G pl.length pl.length [] (Ways.nil _ _ _) (by simp) (by simp)
  refine ⟨Y, ?_⟩
  rcases h with h | h
  · cases q : oneMore f so ot pl.length (mostApart f so ot pl.length) with
    | none => rfl
    | some W' =>
      exfalso
      obtain ⟨_, _, _, _, _, Y', l⟩ := one_ok Y G q
      have l1 := Y'.few G
      have l2 := G.snd.length_le_of_subset (l₂ := pl) G.spl
      omega
  · exact h
/-! ### what parts -/
theorem few_ways : ∀ (W : List (List Str)) (L : List Str), L.Nodup → (∀ p ∈ L, ∃ w ∈ W, p ∈ w) → (∀ w ∈ W, ∀ p ∈ L, ∀ q ∈ L, p ∈ w → q ∈ w → p = q) → L.length ≤ W.length
  | [], L, _, h, _ => by
    cases L with
    | nil => exact Nat.le_refl _
    | cons p L =>
      obtain ⟨w, hw, _⟩ := h p List.mem_cons_self
      cases hw
  | w :: W, L, nd, h, one => by
    have split : L.length = (L.filter fun p => decide (p ∈ w)).length + (L.filter fun p => !decide (p ∈ w)).length := by
      clear nd h one
      induction L with
      | nil => rfl
      | cons p L ih =>
        by_cases c : p ∈ w
        · rw [List.filter_cons_of_pos (by simpa using c), List.filter_cons_of_neg (by simpa using c), List.length_cons, List.length_cons, ih]
          omega
        · rw [List.filter_cons_of_neg (by simpa using c), List.filter_cons_of_pos (by simpa using c), List.length_cons, List.length_cons, ih]
          omega
    have one1 : (L.filter fun p => decide (p ∈ w)).length ≤ 1 := by
      have ndf : (L.filter fun p => decide (p ∈ w)).Nodup := nd.sublist List.filter_sublist
      have mem : ∀ p ∈ L.filter fun p => decide (p ∈ w), p ∈ L ∧ p ∈ w := fun p hp => ⟨(List.mem_filter.mp hp).1, of_decide_eq_true (List.mem_filter.mp hp).2⟩
      generalize (L.filter fun p => decide (p ∈ w)) = M at ndf mem
      cases M with
      | nil => exact Nat.zero_le _
      | cons a M =>
        cases M with
        | nil => exact Nat.le_refl _
        | cons b M =>
          exfalso
          have e := one w List.mem_cons_self a (mem a (by simp)).1 b (mem b (by simp)).1 (mem a (by simp)).2 (mem b (by simp)).2
          rw [e, List.nodup_cons] at ndf
          exact ndf.1 List.mem_cons_self
    have rest := few_ways W (L.filter fun p => !decide (p ∈ w)) (nd.sublist List.filter_sublist) (fun p hp => by
      obtain ⟨h1, h2⟩ := List.mem_filter.mp hp
      obtain ⟨v, hv, hpv⟩ := h p h1
      rcases List.mem_cons.mp hv with rfl | hv
      · rw [decide_eq_true hpv] at h2
        cases h2
      · exact ⟨v, hv, hpv⟩) (fun v hv p hp q hq => one v (List.mem_cons_of_mem _ hv) p (List.mem_filter.mp hp).1 q (List.mem_filter.mp hq).1)
    rw [List.length_cons]
    omega
theorem part_mem {c : Come} {p : Str} : p ∈ partOf c ↔ (p, false) ∈ c.map Prod.fst ∧ (p, true) ∉ c.map Prod.fst := by
  unfold partOf
  rw [sortS_mem, List.mem_map]
  constructor
  · rintro ⟨⟨q, s⟩, h, rfl⟩
    obtain ⟨h1, h2⟩ := List.mem_filter.mp h
    simp only [Bool.and_eq_true, decide_eq_true_eq, Bool.not_eq_true', decide_eq_false_iff_not] at h2
    obtain ⟨rfl, h3⟩ := h2
    exact ⟨h1, h3⟩
  · rintro ⟨h1, h2⟩
    exact ⟨(p, false), List.mem_filter.mpr ⟨h1, by simp [h2]⟩, rfl⟩
theorem part_nd {c : Come} (nd : (c.map Prod.fst).Nodup) : (partOf c).Nodup := by
  unfold partOf
  refine (sortS_perm _).nodup_iff.mpr (List.pairwise_map.mpr (List.Pairwise.imp_of_mem (fun {a b} ha hb ne e => ne ?_) (nd.sublist List.filter_sublist)))
  have h1 := (List.mem_filter.mp ha).2
  have h2 := (List.mem_filter.mp hb).2
  simp only [Bool.and_eq_true, decide_eq_true_eq] at h1 h2
  exact Prod.ext e (h1.1.trans h2.1.symm)
theorem part_ok (Y : Ways f so ot W) (G : Bd f so pl) {c : Come} (C : CI f (aheadOn W) so ot pl c c.length) : (partOf c).length ≤ W.length ∧ (∀ p ∈ partOf c, p ∈ pl) ∧
    ∀ L : List Str, (∀ q ∈ nbs L, q.2 ∈ f q.1) → (∀ x, L.head? = some x → x ∈ so) → (∀ x, L.getLast? = some x → x ∈ ot) → L ≠ [] → ∃ z ∈ L, z ∈ partOf c := by
  have close : ∀ st, st ∈ c.map Prod.fst → ¬ (st.2 = true ∧ st.1 ∈ ot) ∧ ∀ o ∈ nextS f (aheadOn W) st, o ∈ c.map Prod.fst := fun st h => by
    obtain ⟨j, hj⟩ := List.getElem?_of_mem h
    rw [List.getElem?_map] at hj
    cases q : c[j]? with
    | none => rw [q] at hj; cases hj
    | some e =>
      rw [q] at hj
      cases hj
      exact C.closed j (List.getElem?_eq_some_iff.mp q).1 e q
  have goIn : ∀ p, (p, false) ∈ c.map Prod.fst → aheadOn W p = none → (p, true) ∈ c.map Prod.fst := fun p h ha => (close _ h).2 _ (by unfold nextS; rw [if_neg (fun z : false = true => by cases z), ha]; exact List.mem_singleton.mpr rfl)
  have goBack : ∀ p q, (p, false) ∈ c.map Prod.fst → aheadOn W p = some (some q) → (q, true) ∈ c.map Prod.fst := fun p q h ha => (close _ h).2 _ (by unfold nextS; rw [if_neg (fun z : false = true => by cases z), ha]; exact List.mem_singleton.mpr rfl)
  have goSame : ∀ p, (p, true) ∈ c.map Prod.fst → (aheadOn W p).isSome = true → (p, false) ∈ c.map Prod.fst := fun p h ha => (close _ h).2 _ (by unfold nextS; rw [if_pos rfl, if_pos ha]; exact List.mem_append_right _ (List.mem_singleton.mpr rfl))
  have goOn : ∀ p q, (p, true) ∈ c.map Prod.fst → q ∈ f p → (q, false) ∈ c.map Prod.fst := fun p q h hq => (close _ h).2 _ (by unfold nextS; rw [if_pos rfl]; exact List.mem_append_left _ (List.mem_map.mpr ⟨q, hq, rfl⟩))
  refine ⟨few_ways W (partOf c) (part_nd C.nd) (fun p hp => ?_) (fun w hw p hp q hq h1 h2 => ?_), fun p hp => ?_, fun L chain first last ne => ?_⟩
  · obtain ⟨h1, h2⟩ := part_mem.mp hp
    cases ha : aheadOn W p with
    | none => exact absurd (goIn p h1 ha) h2
    | some v => exact List.mem_flatten.mp (ah_in ha)
  · -- two of one way
    have key : ∀ (d i : Nat) (y : Str), w[i + d + 1]? = some y → (y, false) ∈ c.map Prod.fst → ∀ x, w[i]? = some x → (x, true) ∈ c.map Prod.fst := by
      intro d
      induction d with
      | zero =>
        intro i y hy hc x hx
        have hm : (x, y) ∈ nbs w := by
          have il := (List.getElem?_eq_some_iff.mp hy).1
          have e : w = w.take i ++ x :: y :: w.drop (i + 2) := by
            have ex : w[i] = x := (List.getElem?_eq_some_iff.mp hx).2
            have ey : w[i + 1] = y := (List.getElem?_eq_some_iff.mp hy).2
            rw [← ex, ← ey, ← List.drop_eq_getElem_cons il, ← List.drop_eq_getElem_cons (by omega), List.take_append_drop]
          have := nbs_of (w.take i) x y (w.drop (i + 2))
          rw [← e] at this
          exact this
        exact goBack y x hc (ah_nbs Y.nd hw hm)
      | succ d ih =>
        intro i y hy hc x hx
        have il := (List.getElem?_eq_some_iff.mp hy).1
        obtain ⟨u, hu⟩ : ∃ u, w[i + d + 1]? = some u := ⟨_, List.getElem?_eq_getElem (by omega)⟩
        have hm : (u, y) ∈ nbs w := by
          have e : w = w.take (i + d + 1) ++ u :: y :: w.drop (i + d + 1 + 2) := by
            have ex : w[i + d + 1] = u := (List.getElem?_eq_some_iff.mp hu).2
            have ey : w[i + d + 1 + 1] = y := (List.getElem?_eq_some_iff.mp hy).2
            rw [← ex, ← ey, ← List.drop_eq_getElem_cons (by omega), ← List.drop_eq_getElem_cons (by omega), List.take_append_drop]
          have := nbs_of (w.take (i + d + 1)) u y (w.drop (i + d + 1 + 2))
          rw [← e] at this
          exact this
        have hut := goBack y u hc (ah_nbs Y.nd hw hm)
        obtain ⟨v, hv⟩ := in_ah Y.nd (List.mem_flatten.mpr ⟨w, hw, (nbs_mem hm).1⟩)
        exact ih i u hu (goSame u hut (by rw [hv]; rfl)) x hx
    obtain ⟨p1, p2⟩ := part_mem.mp hp
    obtain ⟨q1, q2⟩ := part_mem.mp hq
    obtain ⟨i, hi⟩ := List.getElem?_of_mem h1
    obtain ⟨j, hj⟩ := List.getElem?_of_mem h2
    rcases Nat.lt_trichotomy i j with l | l | l
    · exact absurd (key (j - i - 1) i q (by rw [show i + (j - i - 1) + 1 = j by omega]; exact hj) q1 p hi) p2
    · rw [l, hj] at hi
      exact (Option.some.inj hi).symm
    · exact absurd (key (i - j - 1) j p (by rw [show j + (i - j - 1) + 1 = i by omega]; exact hi) p1 q hj) q2
  · obtain ⟨h1, _⟩ := part_mem.mp hp
    obtain ⟨e, he, ee⟩ := List.mem_map.mp h1
    have := C.inpl e he
    rw [ee] at this
    exact this
  · by_cases any : ∃ z ∈ L, z ∈ partOf c
    · exact any
    exfalso
    have out : ∀ z ∈ L, (z, false) ∈ c.map Prod.fst → (z, true) ∈ c.map Prod.fst := fun z hz h => by
      by_cases t : (z, true) ∈ c.map Prod.fst
      · exact t
      · exact absurd ⟨z, hz, part_mem.mpr ⟨h, t⟩⟩ any
    have all : ∀ (i : Nat) (z : Str), L[i]? = some z → (z, true) ∈ c.map Prod.fst := by
      intro i
      induction i with
      | zero =>
        intro z hz
        exact out z (List.mem_of_getElem? hz) (C.starts z (first z (by rw [List.head?_eq_getElem?]; exact hz)))
      | succ i ih =>
        intro z hz
        have il := (List.getElem?_eq_some_iff.mp hz).1
        obtain ⟨u, hu⟩ : ∃ u, L[i]? = some u := ⟨_, List.getElem?_eq_getElem (by omega)⟩
        have hm : (u, z) ∈ nbs L := by
          have e : L = L.take i ++ u :: z :: L.drop (i + 2) := by
            have ex : L[i] = u := (List.getElem?_eq_some_iff.mp hu).2
            have ey : L[i + 1] = z := (List.getElem?_eq_some_iff.mp hz).2
            rw [← ex, ← ey, ← List.drop_eq_getElem_cons il, ← List.drop_eq_getElem_cons (by omega), List.take_append_drop]
          have := nbs_of (L.take i) u z (L.drop (i + 2))
          rw [← e] at this
          exact this
        exact out z (List.mem_of_getElem? hz) (goOn u z (ih u hu) (chain _ hm))
    have hl := List.getLast?_eq_some_getLast ne
    obtain ⟨i, hi⟩ := List.getElem?_of_mem (List.getLast_mem ne)
    exact (close _ (all i _ hi)).1 ⟨rfl, last _ hl⟩
end
end Flow

set_option Elab.async false
set_option linter.all false
set_option maxRecDepth 100000
set_option maxHeartbeats 4000000
/-! What hangs together, some places left out; what parts. -/
namespace Flow
open PySem PySem.Spec PyProof.Rows L2 G0
inductive Reach (f : Str → List Str) (lot : List Str) (s : Str) : Str → Prop
  | refl : Reach f lot s s
  | step {x y : Str} : Reach f lot s x → y ∈ f x → y ∉ lot → Reach f lot s y
/-- no way from one to the others but through the lot -/
def Parted (f : Str → List Str) (row others lot : List Str) : Prop := ∀ s ∈ row, s ∉ lot → ∀ y, Reach f lot s y → y ∉ others
section
variable {f : Str → List Str} {lot : List Str} {s : Str}
/-- found so far: the first `at` of them have been looked at -/
structure Hg (f : Str → List Str) (lot : List Str) (s : Str) (pl found : List Str) (i : Nat) : Prop where
  nd : found.Nodup
  inpl : ∀ x ∈ found, x ∈ pl
  st : s ∈ found
  re : ∀ x ∈ found, Reach f lot s x
  cl : ∀ (j : Nat) (x : Str), j < i → found[j]? = some x → ∀ y ∈ f x, y ∉ lot → y ∈ found
  le : i ≤ found.length
theorem Hg.start {pl : List Str} (h : s ∈ pl) : Hg f lot s pl [s] 0 := ⟨by simp, by simpa using h, by simp, by simpa using Reach.refl, fun j x h => by omega, by simp⟩
theorem Hg.next {pl found : List Str} {i : Nat} {x : Str} (g : Hg f lot s pl found i) (hx : found[i]? = some x) (fnd : (f x).Nodup) (fin : ∀ y ∈ f x, y ∈ pl) : Hg f lot s pl (found ++ (f x).filter fun y => !decide (y ∈ lot) && !decide (y ∈ found)) (i + 1) := by
  have il := (List.getElem?_eq_some_iff.mp hx).1
  have xm := List.mem_of_getElem? hx
  have mem : ∀ y, y ∈ ((f x).filter fun y => !decide (y ∈ lot) && !decide (y ∈ found)) ↔ y ∈ f x ∧ y ∉ lot ∧ y ∉ found := fun y => by
    rw [List.mem_filter]
    simp
  refine ⟨List.nodup_append.mpr ⟨g.nd, fnd.filter _, fun a ha b hb e => ((mem b).mp hb).2.2 (e ▸ ha)⟩, fun y hy => ?_, List.mem_append_left _ g.st, fun y hy => ?_, fun j z hj hz y hy hn => ?_, ?_⟩
  · rcases List.mem_append.mp hy with h | h
    · exact g.inpl y h
    · exact fin y ((mem y).mp h).1
  · rcases List.mem_append.mp hy with h | h
    · exact g.re y h
    · obtain ⟨h1, h2, _⟩ := (mem y).mp h
      exact .step (g.re x xm) h1 h2
  · have jl : j < found.length := by omega
    rw [List.getElem?_append_left jl] at hz
    rcases Nat.lt_or_ge j i with lt | ge
    · exact List.mem_append_left _ (g.cl j z lt hz y hy hn)
    · have e : j = i := by omega
      rw [e, hx] at hz
      cases hz
      by_cases m : y ∈ found
      · exact List.mem_append_left _ m
      · exact List.mem_append_right _ ((mem y).mpr ⟨hy, hn, m⟩)
  · rw [List.length_append]
    omega
theorem Hg.done {pl found : List Str} (g : Hg f lot s pl found found.length) (y : Str) : y ∈ found ↔ Reach f lot s y := by
  refine ⟨g.re y, fun h => ?_⟩
  induction h with
  | refl => exact g.st
  | step hr hy hn ih =>
    obtain ⟨j, hj⟩ := List.getElem?_of_mem ih
    exact g.cl j _ (List.getElem?_eq_some_iff.mp hj).1 hj _ hy hn
end
/-- a way that leaves the lot out leads there -/
theorem reach_way {f : Str → List Str} {lot : List Str} : ∀ {w : List Str} {s t : Str}, w.head? = some s → w.getLast? = some t → (∀ p ∈ nbs w, p.2 ∈ f p.1) → (∀ x ∈ w, x ∉ lot) → ∀ {r : Str}, Reach f lot r s → Reach f lot r t
  | [], s, t, h, _, _, _, _, _ => by cases h
  | [a], s, t, h1, h2, _, _, r, hr => by
    cases h1
    cases h2
    exact hr
  | a :: b :: w, s, t, h1, h2, h3, h4, r, hr => by
    cases h1
    rw [List.getLast?_cons_cons] at h2
    exact reach_way (w := b :: w) rfl h2 (fun p hp => h3 p (by rw [nbs_cons2]; exact List.mem_cons_of_mem _ hp)) (fun x hx => h4 x (List.mem_cons_of_mem _ hx)) (.step hr (h3 (a, b) (by rw [nbs_cons2]; exact List.mem_cons_self)) (h4 b (List.mem_cons_of_mem _ List.mem_cons_self)))
/-- ways apart, one for each of the row: no smaller lot parts -/
theorem parted_len {f : Str → List Str} {so ot lot : List Str} {W : List (List Str)} (Y : Ways f so ot W) (h : Parted f so ot lot) : W.length ≤ lot.length := by
  have hit : ∀ w ∈ W, ∃ z ∈ lot, z ∈ w := fun w hw => Classical.byContradiction fun n => by
    have no : ∀ x ∈ w, x ∉ lot := fun x hx hl => n ⟨x, hl, hx⟩
    obtain ⟨t, ht⟩ : ∃ t, w.getLast? = some t := by
      cases e : w.getLast? with
      | none => exact absurd (List.getLast?_eq_none_iff.mp e) (Y.ne w hw)
      | some t => exact ⟨t, rfl⟩
    have hs := head_of (Y.ne w hw)
    have sm : w.headD Str.empty ∈ w := List.mem_of_mem_head? hs
    exact h _ (Y.first w hw _ hs) (no _ sm) t (reach_way hs ht (Y.chain w hw) no .refl) (Y.last w hw t ht)
  have key : ∀ (W : List (List Str)) (lot : List Str), W.flatten.Nodup → (∀ w ∈ W, ∃ z ∈ lot, z ∈ w) → W.length ≤ lot.length := by
    intro W
    induction W with
    | nil => intro lot _ _; exact Nat.zero_le _
    | cons w W ih =>
      intro lot nd hit
      rw [List.flatten_cons] at nd
      obtain ⟨n1, n2, n3⟩ := List.nodup_append.mp nd
      obtain ⟨z, hz, hw⟩ := hit w List.mem_cons_self
      have r := ih (lot.erase z) n2 fun w' hw' => by
        obtain ⟨z', hz', hz2⟩ := hit w' (List.mem_cons_of_mem _ hw')
        have ne : z' ≠ z := fun e => n3 z hw z' (List.mem_flatten.mpr ⟨w', hw', hz2⟩) e.symm
        exact ⟨z', (List.mem_erase_of_ne ne).mpr hz', hz2⟩
      rw [List.length_erase_of_mem hz] at r
      have := List.length_pos_of_mem hz
      rw [List.length_cons]
      omega
  exact key W lot Y.nd hit
theorem reach_chain {f : Str → List Str} {lot : List Str} {s y : Str} (h : Reach f lot s y) (hs : s ∉ lot) : ∃ L : List Str, L ≠ [] ∧ L.head? = some s ∧ L.getLast? = some y ∧ (∀ q ∈ nbs L, q.2 ∈ f q.1) ∧ ∀ x ∈ L, x ∉ lot := by
  induction h with
  | refl => exact ⟨[s], by simp, rfl, rfl, (by intro q hq; cases hq), by simpa using hs⟩
  | @step x y _ hy hn ih =>
    obtain ⟨L, ne, h1, h2, h3, h4⟩ := ih
    refine ⟨L ++ [y], by simp, ?_, by simp, fun q hq => ?_, fun z hz => ?_⟩
    · cases L with
      | nil => exact absurd rfl ne
      | cons a r => exact h1
    · have e : L = L.dropLast ++ [x] := by
        rw [List.getLast?_eq_some_getLast ne] at h2
        have := List.dropLast_concat_getLast ne
        rw [Option.some.inj h2] at this
        exact this.symm
      have e2 : nbs (L ++ [y]) = nbs L ++ [(x, y)] := by
        rw [e, List.append_assoc]
        exact nbs_append
      rw [e2] at hq
      rcases List.mem_append.mp hq with hq | hq
      · exact h3 q hq
      · rw [List.mem_singleton.mp hq]
        exact hy
    · rcases List.mem_append.mp hz with hz | hz
      · exact h4 z hz
      · rw [List.mem_singleton.mp hz]
        exact hn
/-- the lot that comes of the search behind as many ways as can be -/
theorem lot_parts {f : Str → List Str} {so ot pl : List Str} (G : Bd f so pl) : Parted f so ot (partOf (found f so ot pl.length (mostApart f so ot pl.length)).1) ∧ (partOf (found f so ot pl.length (mostApart f so ot pl.length)).1).length ≤ (mostApart f so ot pl.length).length ∧
    (partOf (found f so ot pl.length (mostApart f so ot pl.length)).1).Nodup ∧ ∀ p ∈ partOf (found f so ot pl.length (mostApart f so ot pl.length)).1, p ∈ pl := by
  obtain ⟨Y, no⟩ := most_ok (ot := ot) G
  obtain ⟨c, ec, C⟩ := one_none Y G no
  rw [ec]
  obtain ⟨h1, h2, h3⟩ := part_ok Y G C
  refine ⟨fun s hs hn y hr hy => ?_, h1, part_nd C.nd, h2⟩
  obtain ⟨L, ne, e1, e2, e3, e4⟩ := reach_chain hr hn
  obtain ⟨z, hz, hl⟩ := h3 L e3 (fun x hx => by rw [e1] at hx; cases hx; exact hs) (fun x hx => by rw [e2] at hx; cases hx; exact hy) ne
  exact e4 z hz hl
/-- fewer ways than the row is long, just if a smaller lot parts -/
theorem few_iff {f : Str → List Str} {so ot pl : List Str} (G : Bd f so pl) : (mostApart f so ot pl.length).length < so.length ↔ ∃ lot, lot.length < so.length ∧ Parted f so ot lot := by
  obtain ⟨h1, h2, _, _⟩ := lot_parts (ot := ot) G
  constructor
  · intro h
    exact ⟨_, Nat.lt_of_le_of_lt h2 h, h1⟩
  · rintro ⟨lot, h3, h4⟩
    exact Nat.lt_of_le_of_lt (parted_len (most_ok G).1 h4) h3
end Flow

set_option Elab.async false
set_option linter.all false
set_option maxRecDepth 100000
set_option maxHeartbeats 8000000
/-! What hangs together; what is parted by a lot. -/
namespace E1
open PySem PySem.Spec PyProof.Rows L2 G0 Flow
theorem str_at {ss : List Str} {i : Nat} {s : Str} (h : ss[i]? = some s) : (ss.map V.str)[i]? = some (.str s) := by rw [List.getElem?_map, h]; rfl
def spHangs : Sp := fun vs H Q _ => ∃ (a c : Addr) (pl lot : List Str) (f : Str → List Str) (l : Str → Addr) (st : Str), vs = [.ref a, .str st, .ref c] ∧ NearAt H a pl f l ∧ H c = some (.lst (lot.map V.str)) ∧ (∀ x ∈ pl, (f x).Nodup ∧ ∀ y ∈ f x, y ∈ pl) ∧ st ∈ pl ∧ pl.length ≤ 1000 ∧
  ∀ (r : Addr) (res : List Str) H', H r = none → H' r = some (.lst (res.map V.str)) → (∀ y, y ∈ res ↔ Reach f lot st y) → res.length ≤ 1000 → Same H H' → Q (.ref r) H'
abbrev N_hangs : List Str := ["_law_near", "_law_start_here", "_law_barred", "_law_found", "_law_at", "_law_other"]
theorem sc_hangs : FnScope N_hangs ["_law_near", "_law_start_here", "_law_barred"] (defScope (topS 44)) := ⟨rfl, rfl, rfl, by decide +kernel, rfl, by decide +kernel, by decide +kernel⟩
section
variable {P : Program} {w : World} {K : PySem.W.Frag} {mg : Str → Option Value} {base : Heap}
theorem bHangs (Z : LawD K mg) : Binds K (Z.d 44) ["_law_near", "_law_start_here", "_law_barred"] [] := (Z.F 44 (by decide)).binds fun _ _ _ _ _ _ us hl => match us, hl with | [_, _, _], _ => rfl
theorem ok_hangs (Z : LawD K mg) : FnOk P w K mg base CX0 1 (Z.f 44) (Z.d 44) ["_law_near", "_law_start_here", "_law_barred"] spHangs := by
  refine Fun.ok (Z.F 44 (by decide)) sc_hangs (fun vs H Q E h => ?_) (fun cdv A outer s H vs Q E hr h => ⟨_, pss_cons (ps_asg (pe_tup (pa_cons (pe_lst (pa_cons (pv 1) pa_nil)) (pa_cons pe_int pa_nil))) (pg_tup rfl (pgs_cons (pg_name (i := 3) sc_hangs.nd rfl (Or.inr rfl)) (pgs_cons (pg_name (i := 4) sc_hangs.nd rfl (Or.inl rfl)) pgs_nil))))
  (pss_cons (ps_while PassesOwn.never (pt_cmpR op_lt (pv 4) (pe_callB call_len_seq (by rfl) Z.t.len PySem.boot_len (pa_cons (pv 3) pa_nil)) (nomark _)) (pss_cons (ps_expr (pe_bm PySem.F.plainAttrs_list PySem.F.slot_list_extend PySem.F.type_list_extend mt_extend (pv 3) (pa_cons (pe_lc (own := [("_law_other", 5)]) (tt := tAnd (tTest (tOp (rIn K true) (tVar 5) (tVar 2))) (tTest (tOp (rIn K true) (tVar 5) (tVar 3)))) (te := tVar 5) rfl sc_hangs.nd (pi_list (pe_dget (hu_of hr) (pv 0) (pe_ix ix_list (pv 3) (pv 4) (fun _ _ => rfl)) (fun _ _ => rfl))) (blkOk_by (own := [("_law_other", 5)]) (N := N_hangs) (sc := defScope (topS 44)) (by decide +kernel)) (fun _ _ _ _ _ => (pg_name (i := 5) sc_hangs.nd rfl (Or.inl rfl))) (fun _ _ _ _ _ => by exact (pts_one (PW.pt (pw_and (pt_cmpR op_notIn_seq (pv 5) (pv 2) (by rfl)) (pw_and1 (pt_cmpR op_notIn_seq (pv 5) (pv 3) (by rfl))))))) (fun _ _ _ _ _ => (pv 5))) pa_nil)))
  (pss_one (ps_set (i := 4) sc_hangs.nd rfl (Or.inl rfl) (pe_op op_add (pv 4) pe_int)))))
  (pss_one (ps_ret (pe_callB cr_sortQ (by rfl) Z.t.sorted (by decide +kernel) (pa_cons (pv 3) pa_nil))))), ?_⟩)
  · obtain ⟨a, c, pl, lot, f, l, st, rfl, _⟩ := h
    rfl
  · obtain ⟨a, c, pl, lot, f, l, st, rfl, N, hc, fok, hst, lp, k⟩ := h
    have sz : 5000 < sizeLine := by decide
    refine ⟨_, rfl, by show 1 ≤ sizeLine; decide, fun u nu => ⟨by show 2 ≤ sizeLine; decide, fun t nt => ⟨t, _, rfl, SqT.of upd_same, rfl, _, _, rfl, _, _, rfl, rfl, ?_⟩⟩⟩
    have S1 := (new_same (o := .lst [V.str st]) nu).trans (new_same (o := .tup [.ref u, .int 0]) nt)
    refine ⟨fun m σ H' => ∃ found i, σ = [some (.ref a), some (.str st), some (.ref c), some (.ref u), some (.int (i : Nat)), none] ∧ H' u = some (.lst (found.map V.str)) ∧ Hg f lot st pl found i ∧ m + i = pl.length ∧ Same H H', ⟨pl.length, [st], 0, rfl, new_same nt _ _ upd_same, Hg.start hst, rfl, S1⟩, ?_⟩
    rintro m σ H' ⟨found, i, rfl, hu, g, em, S⟩
    have fl : found.length ≤ pl.length := g.nd.length_le_of_subset fun x hx => g.inpl x hx
    refine ⟨_, rfl, _, rfl, u, _, rfl, .inl (SqL.of hu), (i : Int), ((found.map V.str).length : Int), rfl, rfl, _, rfl, ite2 (fun c1 => ?_) (fun c1 => ?_)⟩
    · have il : i < found.length := by
        have := of_decide_eq_true c1
        rw [List.length_map] at this
        omega
      obtain ⟨n, rfl⟩ : ∃ n, m = n + 1 := ⟨m - 1, by omega⟩
      obtain ⟨x, hx⟩ : ∃ x, found[i]? = some x := ⟨_, List.getElem?_eq_getElem il⟩
      have xp := g.inpl x (List.mem_of_getElem? hx)
      obtain ⟨fnd, fin⟩ := fok x xp
      have e1 := DGet.k (k := Sum.inr x) (S _ _ N.d)
      rw [map_val (fun s => V.ref (l s)) xp] at e1
      have hl := S _ _ (N.at_ x xp)
      have lfx : (f x).length ≤ pl.length := fnd.length_le_of_subset fin
      refine ⟨_, fun σ' H'' w => ⟨n, by omega, w⟩, _, rfl, .inl ⟨rfl, _, SqL.of hu⟩, _, rfl, _, rfl, _, rfl, u, _, (i : Int), _, rfl, rfl, SqL.of hu, atI_nat (str_at hx), a, _, rfl, e1, _, rfl, ⟨_, SqL.of hl⟩, fun D nD => lc_list (xs := (f x).map V.str) (fun j H2 => H2 D = some (.lst ((((f x).take j).filter fun y => !decide (y ∈ lot) && !decide (y ∈ found)).map V.str)) ∧ Same H' H2) ⟨upd_same, new_same nD⟩ (fun j H2 _ ⟨_, S2⟩ => SqL.of (S2 _ _ hl)) ?_ ?_⟩
      · rintro j v H2 hv ⟨hD, S2⟩
        rw [List.getElem?_map] at hv
        cases ej : (f x)[j]? with
        | none => rw [ej] at hv; cases hv
        | some y =>
          rw [ej] at hv
          cases hv
          have jl := (List.getElem?_eq_some_iff.mp ej).1
          refine ⟨rfl, _, rfl, _, rfl, c, _, rfl, .inl (SqL.of (S2 _ _ (S _ _ hc))), rfl, flat_strs _, _, rfl, ?_⟩
          rw [inV_strs]
          by_cases m1 : y ∈ lot
          · rw [decide_eq_true m1]
            refine iteF' (by simp) (iteF' Bool.false_ne_true ⟨?_, S2⟩)
            rw [take_snoc ej, List.filter_append, List.filter_cons_of_neg (by simp [m1]), List.filter_nil, List.append_nil]
            exact hD
          · rw [decide_eq_false m1]
            refine iteT' (by simp) ⟨_, rfl, _, rfl, u, _, rfl, .inl (SqL.of (S2 _ _ hu)), rfl, flat_strs _, _, rfl, ?_⟩
            rw [inV_strs]
            by_cases m2 : y ∈ found
            · rw [decide_eq_true m2]
              refine iteF' (by simp) ⟨?_, S2⟩
              rw [take_snoc ej, List.filter_append, List.filter_cons_of_neg (by simp [m2]), List.filter_nil, List.append_nil]
              exact hD
            · rw [decide_eq_false m2]
              refine iteT' (by simp) ⟨_, rfl, _, hD, ?_, ?_, Same.updN S2 nD⟩
              · rw [List.length_map]
                have := List.length_filter_le (fun y => !decide (y ∈ lot) && !decide (y ∈ found)) ((f x).take j)
                rw [List.length_take] at this
                omega
              · rw [upd_same, take_snoc ej, List.filter_append, List.filter_cons_of_pos (by simp [m1, m2]), List.filter_nil, List.map_append]
                rfl
      · rintro H2 ⟨hD, S2⟩
        rw [List.length_map, List.take_length] at hD
        have hu2 := S2 _ _ hu
        have nuH : H u = none := nu
        have ls := List.length_filter_le (fun y => !decide (y ∈ lot) && !decide (y ∈ found)) (f x)
        refine ⟨u, D, _, _, rfl, rfl, hu2, hD, by rw [List.length_map, List.length_map]; omega, _, rfl, (i : Int), 1, rfl, rfl, _, i + 1, rfl, ?_, g.next hx fnd fin, by omega, Same.updN (S.trans S2) nuH⟩
        rw [upd_same, List.map_append]
    · have il : i = found.length := by
        have := of_decide_eq_false (Bool.eq_false_iff.mpr c1)
        rw [List.length_map] at this
        have := g.le
        omega
      subst il
      refine ⟨_, rfl, u, found, rfl, .inl (SqL.of hu), fun r nr => k r (sortS found) _ (S.free nr) upd_same (fun y => ?_) ?_ (S.trans (new_same nr))⟩
      · rw [(sortS_perm found).mem_iff]
        exact g.done y
      · rw [(sortS_perm found).length_eq]
        omega
/-- _law_c_joined -/
def spJoined : Sp := fun vs H Q _ => ∃ (a c : Addr) (pl lot : List Str) (f : Str → List Str) (l : Str → Addr) (st to : Str), vs = [.ref a, .str st, .str to, .ref c] ∧ NearAt H a pl f l ∧ H c = some (.lst (lot.map V.str)) ∧ (∀ x ∈ pl, (f x).Nodup ∧ ∀ y ∈ f x, y ∈ pl) ∧ st ∈ pl ∧ pl.length ≤ 1000 ∧
  ∀ v H', (v = true ↔ Reach f lot st to) → Same H H' → Q (.bl v) H'
theorem sc_joined : FnScope ["_law_near", "_law_one", "_law_other", "_law_barred"] ["_law_near", "_law_one", "_law_other", "_law_barred"] (defScope (topS 46)) := ⟨rfl, rfl, rfl, by decide +kernel, rfl, by decide +kernel, by decide +kernel⟩
theorem bJoined (Z : LawD K mg) : Binds K (Z.d 46) ["_law_near", "_law_one", "_law_other", "_law_barred"] [] := (Z.F 46 (by decide)).binds fun _ _ _ _ _ _ us hl => match us, hl with | [_, _, _, _], _ => rfl
theorem ok_joined (Z : LawD K mg) : FnOk P w K mg base CX0 2 (Z.f 46) (Z.d 46) ["_law_near", "_law_one", "_law_other", "_law_barred"] spJoined := by
  have GH : FnOk P w K mg base CX0 1 (Z.f 44) (Z.d 44) ["_law_near", "_law_start_here", "_law_barred"] spHangs := ok_hangs Z
  refine Fun.ok (Z.F 46 (by decide)) sc_joined (fun vs H Q E h => ?_) (fun cdv A outer s H vs Q E hr h => ⟨_, pss_one (ps_ret (pe_cmpR op_in_seq (pv 2) (pe_call GH (hr.mono (by decide)) (by rfl) (Z.g 44 (by decide)) (Z.F 44 (by decide)).kp (bHangs Z) .nil pass0 (pa_cons (pv 0) (pa_cons (pv 1) (pa_cons (pv 3) pa_nil)))) (by rfl))), ?_⟩)
  · obtain ⟨a, c, pl, lot, f, l, st, to, rfl, _⟩ := h
    rfl
  · obtain ⟨a, c, pl, lot, f, l, st, to, rfl, N, hc, fok, hst, lp, k⟩ := h
    refine ⟨_, rfl, _, rfl, _, rfl, _, rfl, a, c, pl, lot, f, l, st, rfl, N, hc, fok, hst, lp, fun r res H1 nr hr1 hres lres S1 => ⟨r, _, rfl, .inl (SqL.of hr1), rfl, flat_strs _, ?_⟩⟩
    rw [show inV (.str to) (res.map V.str) = decide (to ∈ res) from inV_strs to _]
    exact k _ H1 (by show decide (to ∈ res) = true ↔ _; rw [decide_eq_true_iff]; exact hres to) S1
end
end E1

set_option Elab.async false
set_option linter.all false
set_option maxRecDepth 100000
set_option maxHeartbeats 16000000
/-! _law_c_two: two ways without a common place. -/
namespace E1
open PySem PySem.Spec PyProof.Rows L2 G0 Flow
/-- a way from a to b, and c hangs together with d without it -/
def Crs (f : Str → List Str) (a b c d : Str) : Prop := ∃ (row : List Str) (x : Str), row.head? = some a ∧ (∀ p ∈ nbs row, p.2 ∈ f p.1) ∧ row.getLast? = some x ∧ b ∈ f x ∧ Reach f (row ++ [b]) c d
structure GRow (f : Str → List Str) (a : Str) (pl row : List Str) : Prop where
  hd : row.head? = some a
  nd : row.Nodup
  inp : ∀ z ∈ row, z ∈ pl
  ch : ∀ p ∈ nbs row, p.2 ∈ f p.1
theorem GRow.ne {f : Str → List Str} {a : Str} {pl row : List Str} (g : GRow f a pl row) : row ≠ [] := fun e => by
  have := g.hd
  rw [e] at this
  cases this
theorem GRow.len {f : Str → List Str} {a : Str} {pl row : List Str} (g : GRow f a pl row) : row.length ≤ pl.length := g.nd.length_le_of_subset g.inp
theorem nbs_snoc {w : List Str} {x y : Str} (h : w.getLast? = some x) : nbs (w ++ [y]) = nbs w ++ [(x, y)] := by
  induction w with
  | nil => cases h
  | cons a r ih =>
    cases r with
    | nil => cases h; rfl
    | cons b r =>
      have := ih h
      unfold nbs at this ⊢
      simp only [List.cons_append, List.tail_cons, List.zip_cons_cons] at this ⊢
      rw [this]
theorem GRow.snoc {f : Str → List Str} {a x y : Str} {pl row : List Str} (g : GRow f a pl row) (h : row.getLast? = some x) (hy : y ∈ f x) (hn : y ∉ row) (hp : y ∈ pl) : GRow f a pl (row ++ [y]) := by
  refine ⟨?_, List.nodup_append.mpr ⟨g.nd, by simp, fun u hu v hv e => hn (by rw [← List.mem_singleton.mp hv, ← e]; exact hu)⟩, fun z hz => ?_, fun p hp => ?_⟩
  · cases row with
    | nil => cases h
    | cons b r => exact g.hd
  · rcases List.mem_append.mp hz with h | h
    · exact g.inp z h
    · rw [List.mem_singleton.mp h]
      exact hp
  · rw [nbs_snoc h] at hp
    rcases List.mem_append.mp hp with h | h
    · exact g.ch p h
    · rw [List.mem_singleton.mp h]
      exact hy
/-- rows on a stack -/
def RwAt (s : Addr) (H : Hp) (xs : List V) (rs : List (List Str)) : Prop := A2 (fun v ss => ∃ a, v = .ref a ∧ H a = some (.lst (ss.map V.str)) ∧ a ≠ s) xs rs
theorem RwAt.stb {s : Addr} {H H' : Hp} {xs : List V} {rs : List (List Str)} (R : RwAt s H xs rs) (S : ∀ a o, a ≠ s → H a = some o → H' a = some o) : RwAt s H' xs rs := ⟨R.1, fun i v q h1 h2 => let ⟨a, e, h, n⟩ := R.2 i v q h1 h2; ⟨a, e, S _ _ n h, n⟩⟩
theorem RwAt.drop {s : Addr} {H : Hp} {xs : List V} {rs : List (List Str)} (R : RwAt s H xs rs) : RwAt s H xs.dropLast rs.dropLast := by
  refine ⟨by rw [List.length_dropLast, List.length_dropLast, R.1], fun i v q h1 h2 => ?_⟩
  rw [List.getElem?_dropLast] at h1 h2
  split at h1
  · split at h2
    · exact R.2 i v q h1 h2
    · cases h2
  · cases h1
theorem RwAt.snoc {s r : Addr} {H : Hp} {xs : List V} {rs : List (List Str)} {row : List Str} (R : RwAt s H xs rs) (h : H r = some (.lst (row.map V.str))) (n : r ≠ s) : RwAt s H (xs ++ [.ref r]) (rs ++ [row]) := by
  refine ⟨by rw [List.length_append, List.length_append, R.1]; rfl, fun i v q h1 h2 => ?_⟩
  rcases Nat.lt_trichotomy i xs.length with l | l | l
  · rw [List.getElem?_append_left l] at h1
    rw [List.getElem?_append_left (by rw [← R.1]; exact l)] at h2
    exact R.2 i v q h1 h2
  · rw [List.getElem?_append_right (by omega), l, Nat.sub_self] at h1
    rw [List.getElem?_append_right (by rw [← R.1]; omega), l, R.1, Nat.sub_self] at h2
    cases h1
    cases h2
    exact ⟨r, rfl, h, n⟩
  · rw [List.getElem?_eq_none (by rw [List.length_append]; show xs.length + 1 ≤ i; omega)] at h1
    cases h1
theorem RwAt.dp {K : PySem.W.Frag} {s : Addr} {H : Hp} {xs : List V} {rs : List (List Str)} (R : RwAt s H xs rs) (h : H s = some (.lst xs)) : Dp K H (.ref s) (.list (rs.map strD)) := by
  have key : ∀ (xs : List V) (rs : List (List Str)), RwAt s H xs rs → DpAll K H xs (rs.map strD) := by
    intro xs
    induction xs with
    | nil =>
      intro rs R
      cases rs with
      | nil => exact .nil
      | cons u us => exact absurd R.1 (by simp)
    | cons v vs ih =>
      intro rs R
      cases rs with
      | nil => exact absurd R.1 (by simp)
      | cons u us =>
        obtain ⟨a, e, h, _⟩ := R.2 0 v u rfl rfl
        subst e
        exact .cons (dp_strs h) (ih us ⟨by have := R.1; simp at this; exact this, fun i v q e1 e2 => R.2 (i + 1) v q e1 e2⟩)
  exact .lst (SqL.of h) (key xs rs R)
theorem sh_rows {rs : List (List Str)} (h : ∀ r ∈ rs, ∀ z ∈ r, PyData.strOk z = true) : SeqAt.shaped (.list (rs.map strD)) = true := by
  have key : ∀ rs : List (List Str), (∀ r ∈ rs, ∀ z ∈ r, PyData.strOk z = true) → PyData.canLayAll0 (rs.map strD) = true ∧ PyData.depthAll (rs.map strD) ≤ 2 := by
    intro rs
    induction rs with
    | nil => intro _; exact ⟨rfl, by simp [PyData.depthAll]⟩
    | cons r rs ih =>
      intro h
      obtain ⟨h1, h2⟩ := ih fun q hq => h q (List.mem_cons_of_mem _ hq)
      have a := lays r (h r List.mem_cons_self)
      refine ⟨?_, ?_⟩
      · show ((strD r).canLay0 && PyData.canLayAll0 (rs.map strD)) = true
        rw [h1]
        simp [strD, PyData.canLay0, a.1]
      · show max (strD r).depth (PyData.depthAll (rs.map strD)) ≤ 2
        have := a.2
        simp only [strD, PyData.depth] at this ⊢
        omega
  obtain ⟨h1, h2⟩ := key rs h
  show ((PyData.list (rs.map strD)).canLay0 && decide ((PyData.list (rs.map strD)).depth ≤ 64)) = true
  rw [Bool.and_eq_true]
  refine ⟨by simp [PyData.canLay0, h1], decide_eq_true ?_⟩
  simp only [PyData.depth]
  omega
/-- what is still to be looked at -/
def wsum (N : Nat) (rs : List (List Str)) : Nat := (rs.map fun r => (N + 1) ^ (N + 1 - r.length)).sum
theorem wsum_app (N : Nat) (a b : List (List Str)) : wsum N (a ++ b) = wsum N a + wsum N b := by
  unfold wsum
  rw [List.map_append, List.sum_append]
theorem wsum_le {N k m : Nat} {ps : List (List Str)} (h : ∀ q ∈ ps, q.length = k) (l : ps.length ≤ m) : wsum N ps ≤ m * (N + 1) ^ (N + 1 - k) := by
  induction ps generalizing m with
  | nil => exact Nat.zero_le _
  | cons p ps ih =>
    obtain ⟨m', rfl⟩ : ∃ m', m = m' + 1 := ⟨m - 1, by simp at l; omega⟩
    have := ih (fun q hq => h q (List.mem_cons_of_mem _ hq)) (m := m') (by simp at l; omega)
    unfold wsum at this ⊢
    rw [List.map_cons, List.sum_cons, h p List.mem_cons_self, Nat.add_mul]
    omega
theorem wsum_step {N : Nat} {base ps : List (List Str)} {row : List Str} (l : row.length ≤ N) (h : ∀ q ∈ ps, q.length = row.length + 1) (lp : ps.length ≤ N) : wsum N (base ++ ps) < wsum N (base ++ [row]) := by
  rw [wsum_app, wsum_app]
  have h1 := wsum_le (N := N) h lp
  have e : wsum N [row] = (N + 1) * (N + 1) ^ (N + 1 - (row.length + 1)) := by
    unfold wsum
    rw [List.map_cons, List.map_nil, List.sum_cons, List.sum_nil, Nat.add_zero, show N + 1 - row.length = (N + 1 - (row.length + 1)) + 1 by omega, Nat.pow_succ, Nat.mul_comm]
  have pos : 0 < (N + 1) ^ (N + 1 - (row.length + 1)) := Nat.pow_pos (Nat.succ_pos N)
  rw [e, Nat.add_mul, Nat.one_mul]
  omega
theorem atI_lastS (pre : List Str) (p : Str) : atI ((pre ++ [p]).map V.str) (-1) = some (.str p) := by
  rw [List.map_append]
  exact atI_last _ _
theorem last_split {w : List Str} {x : Str} (h : w.getLast? = some x) : w = w.dropLast ++ [x] := by
  cases w with
  | nil => cases h
  | cons a r =>
    rw [List.getLast?_eq_some_getLast (by simp)] at h
    have := List.dropLast_concat_getLast (l := a :: r) (by simp)
    rw [Option.some.inj h] at this
    exact this.symm
/-- rows in the stack, each at its height -/
def Hi (N : Nat) (rs : List (List Str)) : Prop := ∀ (i : Nat) (r : List Str), rs[i]? = some r → i < N * r.length
theorem Hi.len {f : Str → List Str} {a : Str} {pl : List Str} {rs : List (List Str)} (h : Hi pl.length rs) (g : ∀ r ∈ rs, GRow f a pl r) : rs.length ≤ pl.length * pl.length := by
  rcases Nat.eq_zero_or_pos rs.length with z | z
  · omega
  · have e : rs[rs.length - 1]? = some rs[rs.length - 1] := List.getElem?_eq_getElem (by omega)
    have h1 := h _ _ e
    have h2 := (g _ (List.mem_of_getElem? e)).len
    have := Nat.mul_le_mul (Nat.le_refl pl.length) h2
    omega
theorem Hi.drop {N : Nat} {rs : List (List Str)} (h : Hi N rs) : Hi N rs.dropLast := fun i r e => by
  rw [List.getElem?_dropLast] at e
  split at e
  · exact h i r e
  · cases e
def spTwo : Sp := fun vs H Q _ => ∃ (q : Addr) (pl : List Str) (f : Str → List Str) (l : Str → Addr) (a b c d : Str), vs = [.ref q, .str a, .str b, .str c, .str d] ∧ NearAt H q pl f l ∧ (∀ x ∈ pl, (f x).Nodup ∧ ∀ y ∈ f x, y ∈ pl) ∧ a ∈ pl ∧ b ∈ pl ∧ c ∈ pl ∧ d ∈ pl ∧ pl.length ≤ 30 ∧ (∀ z ∈ pl, PyData.strOk z = true) ∧
  ∀ v H', (v = true → Crs f a b c d) → Same H H' → Q (.bl v) H'
abbrev N_two : List Str := ["_law_near", "_law_a", "_law_b", "_law_c", "_law_d", "_law_rows", "_law_row", "_law_other", "_law_one"]
theorem sc_two : FnScope N_two ["_law_near", "_law_a", "_law_b", "_law_c", "_law_d"] (defScope (topS 47)) := ⟨rfl, rfl, rfl, by decide +kernel, rfl, by decide +kernel, by decide +kernel⟩
section
variable {P : Program} {w : World} {K : PySem.W.Frag} {mg : Str → Option Value} {base : Heap}
theorem bTwo (Z : LawD K mg) : Binds K (Z.d 47) ["_law_near", "_law_a", "_law_b", "_law_c", "_law_d"] [] := (Z.F 47 (by decide)).binds fun _ _ _ _ _ _ us hl => match us, hl with | [_, _, _, _, _], _ => rfl
theorem ok_two (Z : LawD K mg) : FnOk P w K mg base CX0 3 (Z.f 47) (Z.d 47) ["_law_near", "_law_a", "_law_b", "_law_c", "_law_d"] spTwo := by
  have GJ : FnOk P w K mg base CX0 2 (Z.f 46) (Z.d 46) ["_law_near", "_law_one", "_law_other", "_law_barred"] spJoined := ok_joined Z
  refine Fun.ok (Z.F 47 (by decide)) sc_two (fun vs H Q E h => ?_) (fun cdv A outer s H vs Q E hr h => ?_)
  · obtain ⟨q, pl, f, l, a, b, c, d, rfl, _⟩ := h
    rfl
  have hu := hr.units
  refine ⟨_, pss_cons (ps_set (i := 5) sc_two.nd rfl (Or.inl rfl) (pe_lst (pa_cons (pe_lst (pa_cons (pv 1) pa_nil)) pa_nil)))
  (pss_cons (ps_while PassesOwn.never (pt_cmpR (op_neD hu) (pv 5) (pe_lst pa_nil) (nomark _)) (pss_cons (ps_set (i := 6) sc_two.nd rfl (Or.inr rfl) (pe_bm0 PySem.F.plainAttrs_list PySem.F.slot_list_pop PySem.F.type_list_pop mt_pop (pv 5)))
  (pss_one (ps_for PassesOwn.never rfl (pi_list (pe_lc (own := [("_law_one", 8)]) (tt := tAnd (tTest (tOp (rIn K true) (tVar 8) (tVar 6))) (tTest (tOp (rIn K true) (tVar 8) (tTup (tCons (tVar 3) (tCons (tVar 4) tNil)))))) (te := tVar 8) rfl sc_two.nd (pi_list (pe_dget (hu_of hr) (pv 0) (pe_ix ix_list (pv 6) (pe_un un_neg pe_int) (fun _ _ => rfl)) (fun _ _ => rfl))) (blkOk_by (own := [("_law_one", 8)]) (N := N_two) (sc := defScope (topS 47)) (by decide +kernel)) (fun _ _ _ _ _ => (pg_name (i := 8) sc_two.nd rfl (Or.inl rfl))) (fun _ _ _ _ _ => by exact (pts_one (PW.pt (pw_and (pt_cmpR op_notIn_seq (pv 8) (pv 6) (by rfl)) (pw_and1 (pt_cmpR op_notIn_seq (pv 8) (pe_tup (pa_cons (pv 3) (pa_cons (pv 4) pa_nil))) (by rfl))))))) (fun _ _ _ _ _ => (pv 8)))) (pg_name (i := 7) sc_two.nd rfl (Or.inl rfl))
    (pss_cons (ps_if (PW.pt (pw_and (pt_cmpR op_eq (pv 7) (pv 2) (nomark _)) (pw_and1 (pt_val (pe_call GJ (hr.mono (by decide)) (by rfl) (Z.g 46 (by decide)) (Z.F 46 (by decide)).kp (bJoined Z) .nil pass0 (pa_cons (pv 0) (pa_cons (pv 3) (pa_cons (pv 4) (pa_cons (pe_op op_cat (pv 6) (pe_lst (pa_cons (pv 2) pa_nil))) pa_nil))))))))) (pss_one (ps_ret pe_bl)) pss_nil)
  (pss_one (ps_if (PW.pt (pw_and (pt_cmpR op_ne (pv 7) (pv 2) (nomark _)) (pw_and1 (pt_val (pe_call GJ (hr.mono (by decide)) (by rfl) (Z.g 46 (by decide)) (Z.F 46 (by decide)).kp (bJoined Z) .nil pass0 (pa_cons (pv 0) (pa_cons (pv 7) (pa_cons (pv 2) (pa_cons (pe_op op_cat (pv 6) (pe_lst (pa_cons (pv 3) (pa_cons (pv 4) pa_nil)))) pa_nil))))))))) (pss_one (ps_expr (pe_bm PySem.F.plainAttrs_list PySem.F.slot_list_append PySem.F.type_list_append mt_append (pv 5) (pa_cons (pe_op op_cat (pv 6) (pe_lst (pa_cons (pv 7) pa_nil))) pa_nil)))) pss_nil)))))))
  (pss_one (ps_ret pe_bl))), ?_⟩
  obtain ⟨q, pl, f, l, a, b, c, d, rfl, N, fok, ha, hb, hc, hd, lp, so, k⟩ := h
  have sz : 5000 < sizeLine := by decide
  have one : 1 ≤ sizeLine := by decide
  have two : 2 ≤ sizeLine := by decide
  refine ⟨_, rfl, one, fun r0 nr0 => ⟨one, fun st nst => ?_⟩⟩
  have S0 := (new_same (o := .lst [V.str a]) nr0).trans (new_same (o := .lst [V.ref r0]) nst)
  have h0 := new_same (o := .lst [V.ref r0]) nst _ _ (upd_same (H := H) (a := r0) (o := .lst [V.str a]))
  have hst := upd_same (H := upd H r0 (.lst [V.str a])) (a := st) (o := .lst [V.ref r0])
  have nst0 := (new_same (o := .lst [V.str a]) nr0).free nst
  have r0st : r0 ≠ st := ne_of_none upd_same nst
  generalize upd (upd H r0 (.lst [V.str a])) st (.lst [V.ref r0]) = H0 at S0 h0 hst ⊢
  have lpos : 0 < pl.length := List.length_pos_iff.mpr (List.ne_nil_of_mem ha)
  -- what the stack is
  let W : Nat → L2.St → Hp → Prop := fun m σ H' => ∃ v6 v7 xs rs, σ = [some (.ref q), some (.str a), some (.str b), some (.str c), some (.str d), some (.ref st), v6, v7, none] ∧ H' st = some (.lst xs) ∧ RwAt st H' xs rs ∧ (∀ r ∈ rs, GRow f a pl r) ∧ Hi pl.length rs ∧ wsum pl.length rs = m ∧ Same H H'
  refine ⟨W, ⟨_, none, none, [.ref r0], [[a]], rfl, hst, ?_, ?_, ?_, rfl, S0⟩, ?_⟩
  · refine ⟨rfl, fun i v ss h1 h2 => ?_⟩
    match i, h1, h2 with
    | 0, h1, h2 =>
      cases h1; cases h2
      exact ⟨r0, rfl, h0, r0st⟩
    | i + 1, h1, h2 => simp at h1
  · intro r hr
    rw [List.mem_singleton.mp hr]
    exact ⟨rfl, by simp, (fun z hz => by rw [List.mem_singleton.mp hz]; exact ha), (fun p hp => by cases hp)⟩
  · intro i r e
    match i, e with
    | 0, e => cases e; simpa using lpos
    | i + 1, e => simp at e
  rintro m σ H1 ⟨v6, v7, xs, rs, rfl, hs1, R1, G1, I1, rfl, S1⟩
  have lrs := I1.len G1
  have lrs2 : rs.length ≤ 900 := Nat.le_trans lrs (Nat.mul_le_mul lp lp)
  refine ⟨_, rfl, Nat.zero_le _, fun e0 ne0 => ⟨_, _, (R1.stb fun a o n h => new_same ne0 _ _ h).dp (new_same ne0 _ _ hs1), Dp.lst (SqL.of upd_same) .nil, sh_rows (fun r hr z hz => so z ((G1 r hr).inp z hz)), rfl, ?_⟩⟩
  have S2 := S1.trans (new_same (o := .lst []) ne0)
  have hs2 := new_same (o := .lst []) ne0 _ _ hs1
  have R2 : RwAt st (upd H1 e0 (.lst [])) xs rs := R1.stb fun a o n h => new_same ne0 _ _ h
  generalize upd H1 e0 (.lst []) = H2 at S2 hs2 R2 ⊢
  rcases List.eq_nil_or_concat rs with e | ⟨bs, row, e⟩
  · subst e
    refine ⟨_, rfl, iteF' (by decide) ?_⟩
    exact k false H2 (fun h => by cases h) S2
  rw [List.concat_eq_append] at e
  subst e
  refine ⟨_, rfl, iteT' (by
    have : PyData.eqv (.list ((bs ++ [row]).map strD)) (.list []) = false := by cases bs <;> rfl
    rw [this]
    rfl) ⟨fun σ' H'' => ∃ m', m' < wsum pl.length (bs ++ [row]) ∧ W m' σ' H'', fun σ' H'' ⟨m', lt, w⟩ => ⟨m', lt, w⟩, ?_⟩⟩
  have lx : xs.length = bs.length + 1 := by rw [R2.1, List.length_append]; rfl
  obtain ⟨y, hy⟩ : ∃ y, xs[bs.length]? = some y := ⟨_, List.getElem?_eq_getElem (by omega)⟩
  have erow : (bs ++ [row])[bs.length]? = some row := by rw [List.getElem?_append_right (Nat.le_refl _), Nat.sub_self]; rfl
  obtain ⟨rw_, rfl, hrw, nrw⟩ := R2.2 _ _ _ hy erow
  have g := G1 row (List.mem_append_right _ (List.mem_singleton.mpr rfl))
  obtain ⟨x, hx⟩ : ∃ x, row.getLast? = some x := by
    rw [List.getLast?_eq_some_getLast g.ne]
    exact ⟨_, rfl⟩
  have esp := last_split hx
  have xp : x ∈ pl := g.inp x (by rw [esp]; exact List.mem_append_right _ (List.mem_singleton.mpr rfl))
  have lrow := g.len
  obtain ⟨fnd, fin⟩ := fok x xp
  have lfx : (f x).length ≤ pl.length := fnd.length_le_of_subset fin
  refine ⟨_, rfl, .inl ⟨rfl, _, SqL.of hs2⟩, st, xs, .ref rw_, rfl, rfl, hs2, by rw [lx]; exact hy, ?_⟩
  have S3 := Same.updN (o := .lst xs.dropLast) S2 nst0
  have hs3 := upd_same (H := H2) (a := st) (o := .lst xs.dropLast)
  have hrw3 : (upd H2 st (.lst xs.dropLast)) rw_ = some (.lst (row.map V.str)) := by rw [upd_ne nrw]; exact hrw
  have R3 : RwAt st (upd H2 st (.lst xs.dropLast)) xs.dropLast bs := by
    have := R2.drop
    rw [List.dropLast_concat] at this
    exact this.stb fun a o n h => by rw [upd_ne n]; exact h
  generalize upd H2 st (.lst xs.dropLast) = H3 at S3 hs3 hrw3 R3 ⊢
  have e1 := DGet.k (k := Sum.inr x) (S3 _ _ N.d)
  rw [map_val (fun s => V.ref (l s)) xp] at e1
  have hl := S3 _ _ (N.at_ x xp)
  refine ⟨_, rfl, _, rfl, 1, rfl, rw_, _, -1, _, rfl, rfl, SqL.of hrw3, by rw [esp]; exact atI_lastS _ x, q, _, rfl, e1, _, rfl, ⟨_, SqL.of hl⟩, fun D nD => lc_list (xs := (f x).map V.str) (fun j H' => H' D = some (.lst ((((f x).take j).filter fun y => !decide (y ∈ row) && !decide (y ∈ [c, d])).map V.str)) ∧ Same H3 H') ⟨upd_same, new_same nD⟩ (fun j H' _ ⟨_, S⟩ => SqL.of (S _ _ hl)) ?_ ?_⟩
  · rintro j v H' hv ⟨hD, S⟩
    rw [List.getElem?_map] at hv
    cases ej : (f x)[j]? with
    | none => rw [ej] at hv; cases hv
    | some y =>
      rw [ej] at hv
      cases hv
      have jl := (List.getElem?_eq_some_iff.mp ej).1
      refine ⟨rfl, _, rfl, _, rfl, rw_, _, rfl, .inl (SqL.of (S _ _ hrw3)), rfl, flat_strs _, _, rfl, ?_⟩
      rw [inV_strs]
      by_cases m1 : y ∈ row
      · rw [decide_eq_true m1]
        refine iteF' (by simp) (iteF' Bool.false_ne_true ⟨?_, S⟩)
        rw [take_snoc ej, List.filter_append, List.filter_cons_of_neg (by simp [m1]), List.filter_nil, List.append_nil]
        exact hD
      · rw [decide_eq_false m1]
        refine iteT' (by simp) ⟨_, rfl, _, rfl, _, rfl, two, fun t nt => ⟨t, _, rfl, .inr (SqT.of upd_same), rfl, rfl, _, rfl, ?_⟩⟩
        rw [show inV (.str y) [V.str c, .str d] = decide (y ∈ [c, d]) from inV_strs y [c, d]]
        have St := new_same (o := .tup [V.str c, .str d]) nt
        by_cases m2 : y ∈ [c, d]
        · rw [decide_eq_true m2]
          refine iteF' (by simp) ⟨?_, S.trans St⟩
          rw [take_snoc ej, List.filter_append, List.filter_cons_of_neg (by simp [m2]), List.filter_nil, List.append_nil]
          exact St _ _ hD
        · rw [decide_eq_false m2]
          refine iteT' (by simp) ⟨_, rfl, _, St _ _ hD, ?_, ?_, Same.updN (S.trans St) nD⟩
          · rw [List.length_map]
            have := List.length_filter_le (fun y => !decide (y ∈ row) && !decide (y ∈ [c, d])) ((f x).take j)
            rw [List.length_take] at this
            omega
          · rw [upd_same, take_snoc ej, List.filter_append, List.filter_cons_of_pos (by simp [m1, m2]), List.filter_nil, List.map_append]
            rfl
  rintro H4 ⟨hD4, S34⟩
  rw [List.length_map, List.take_length] at hD4
  have S4 := S3.trans S34
  have hs4 := S34 _ _ hs3
  have hrw4 := S34 _ _ hrw3
  have R4 : RwAt st H4 xs.dropLast bs := R3.stb fun a o _ h => S34 _ _ h
  have Dst : D ≠ st := fun z => by rw [z, hs3] at nD; cases nD
  have lkid := List.length_filter_le (fun y => !decide (y ∈ row) && !decide (y ∈ [c, d])) (f x)
  have kidin : ∀ o ∈ (f x).filter (fun y => !decide (y ∈ row) && !decide (y ∈ [c, d])), o ∈ f x ∧ o ∉ row := fun o ho => by
    have := List.mem_filter.mp ho
    simp at this
    exact ⟨this.1, this.2.1⟩
  generalize hk : (f x).filter (fun y => !decide (y ∈ row) && !decide (y ∈ [c, d])) = kids at hD4 lkid kidin
  refine ⟨D, rfl, ⟨_, SqL.of hD4⟩, for_list (xs := kids.map V.str) (fun i σ H' => ∃ v7 xs' ps, σ = [some (.ref q), some (.str a), some (.str b), some (.str c), some (.str d), some (.ref st), some (.ref rw_), v7, none] ∧ H' st = some (.lst xs') ∧ RwAt st H' xs' (bs ++ ps) ∧ (∀ p ∈ ps, ∃ o ∈ kids, p = row ++ [o]) ∧ ps.length ≤ i ∧ Same H H' ∧ ∀ a o, a ≠ st → H4 a = some o → H' a = some o)
    ⟨v7, xs.dropLast, [], rfl, hs4, by rw [List.append_nil]; exact R4, (fun p hp => by cases hp), Nat.le_refl _, S4, fun _ _ _ h => h⟩ (fun i σ H' _ ⟨_, _, _, _, _, _, _, _, _, B⟩ => SqL.of (B _ _ Dst hD4)) ?_ ?_⟩
  · rintro i v σ H5 hv ⟨v7, xs', ps, rfl, hs5, R5, P5, l5, S5, B5⟩
    rw [List.getElem?_map] at hv
    cases eo : kids[i]? with
    | none => rw [eo] at hv; cases hv
    | some o =>
      rw [eo] at hv
      cases hv
      have il := (List.getElem?_eq_some_iff.mp eo).1
      have ho := List.mem_of_getElem? eo
      obtain ⟨ofx, onr⟩ := kidin o ho
      have op := fin o ofx
      have hrw5 := B5 _ _ nrw hrw4
      have eob : decide (V.str o = V.str b) = decide (o = b) := decide_eq_decide.mpr ⟨fun q => by injection q, fun q => by rw [q]⟩
      have lx' : xs'.length = bs.length + ps.length := by rw [R5.1, List.length_append]
      have lbs : bs.length + 1 ≤ 900 := by
        rw [List.length_append] at lrs2
        exact lrs2
      refine ⟨_, rfl, _, rfl, rfl, _, rfl, ?_⟩
      rw [eob]
      by_cases m1 : o = b
      · subst m1
        refine iteT' (decide_eq_true rfl) ⟨_, rfl, _, rfl, _, rfl, _, rfl, _, rfl, one, fun e ne => ⟨rw_, e, _, _, rfl, rfl, new_same ne _ _ hrw5, upd_same, by rw [List.length_map]; show _ + 1 ≤ _; omega, fun e2 ne2 => ?_⟩⟩
        have Se := (new_same (o := .lst [V.str o]) ne).trans (new_same (o := .lst (row.map V.str ++ [V.str o])) ne2)
        have he2 : (upd (upd H5 e (.lst [V.str o])) e2 (.lst (row.map V.str ++ [V.str o]))) e2 = some (.lst ((row ++ [o]).map V.str)) := by rw [upd_same, List.map_append]; rfl
        generalize upd (upd H5 e (.lst [V.str o])) e2 (.lst (row.map V.str ++ [V.str o])) = H6 at Se he2 ⊢
        refine ⟨q, e2, pl, row ++ [o], f, l, c, d, rfl, N.mono (S5.trans Se), he2, fok, hc, by omega, fun v H7 hv S7 => ⟨_, rfl, ?_⟩⟩
        cases v with
        | true => exact iteT' rfl (k true H7 (fun _ => ⟨row, x, g.hd, g.ch, hx, ofx, hv.mp rfl⟩) ((S5.trans Se).trans S7))
        | false =>
          have Sa := Se.trans S7
          refine iteF' Bool.false_ne_true ⟨_, rfl, _, rfl, rfl, _, rfl, iteF' (by rw [decide_eq_true rfl]; decide) (iteF' Bool.false_ne_true ?_)⟩
          exact ⟨_, xs', ps, rfl, Sa _ _ hs5, R5.stb fun a o _ h => Sa _ _ h, P5, by omega, S5.trans Sa, fun a o n h => Sa _ _ (B5 a o n h)⟩
      · refine iteF' (by rw [decide_eq_false m1]; exact Bool.false_ne_true) (iteF' Bool.false_ne_true ⟨_, rfl, _, rfl, rfl, _, rfl, ?_⟩)
        rw [eob]
        refine iteT' (by rw [decide_eq_false m1]; rfl) ⟨_, rfl, _, rfl, _, rfl, _, rfl, _, rfl, _, rfl, two, fun e ne => ⟨rw_, e, _, _, rfl, rfl, new_same ne _ _ hrw5, upd_same, by rw [List.length_map]; show _ + 2 ≤ _; omega, fun e2 ne2 => ?_⟩⟩
        have Se := (new_same (o := .lst [V.str c, V.str d]) ne).trans (new_same (o := .lst (row.map V.str ++ [V.str c, V.str d])) ne2)
        have he2 : (upd (upd H5 e (.lst [V.str c, V.str d])) e2 (.lst (row.map V.str ++ [V.str c, V.str d]))) e2 = some (.lst ((row ++ [c, d]).map V.str)) := by rw [upd_same, List.map_append]; rfl
        generalize upd (upd H5 e (.lst [V.str c, V.str d])) e2 (.lst (row.map V.str ++ [V.str c, V.str d])) = H6 at Se he2 ⊢
        refine ⟨q, e2, pl, row ++ [c, d], f, l, o, b, rfl, N.mono (S5.trans Se), he2, fok, op, by omega, fun v H7 hv S7 => ⟨_, rfl, ?_⟩⟩
        have Sa := Se.trans S7
        cases v with
        | true =>
          refine iteT' rfl ⟨_, rfl, .inl ⟨rfl, _, SqL.of (Sa _ _ hs5)⟩, _, rfl, _, rfl, one, fun e3 ne3 => ⟨rw_, e3, _, _, rfl, rfl, new_same ne3 _ _ (Sa _ _ hrw5), upd_same, by rw [List.length_map]; show _ + 1 ≤ _; omega, fun e4 ne4 => ?_⟩⟩
          have Sb := Sa.trans ((new_same (o := .lst [V.str o]) ne3).trans (new_same (o := .lst (row.map V.str ++ [V.str o])) ne4))
          have he4 : (upd (upd H7 e3 (.lst [V.str o])) e4 (.lst (row.map V.str ++ [V.str o]))) e4 = some (.lst ((row ++ [o]).map V.str)) := by rw [upd_same, List.map_append]; rfl
          have e4st : e4 ≠ st := fun z => by
            have h := new_same (o := .lst [V.str o]) ne3 _ _ (Sa _ _ hs5)
            rw [← z, ne4] at h
            cases h
          generalize upd (upd H7 e3 (.lst [V.str o])) e4 (.lst (row.map V.str ++ [V.str o])) = H8 at Sb he4 ⊢
          refine ⟨st, _, _, rfl, rfl, Sb _ _ hs5, by omega, ?_⟩
          refine ⟨_, xs' ++ [.ref e4], ps ++ [row ++ [o]], rfl, upd_same, ?_, ?_, by rw [List.length_append]; show ps.length + 1 ≤ i + 1; omega, Same.updN (S5.trans Sb) nst0, fun a o n h => by rw [upd_ne n]; exact Sb _ _ (B5 a o n h)⟩
          · rw [← List.append_assoc]
            exact ((R5.stb fun a o _ h => Sb _ _ h).snoc he4 e4st).stb fun a o n h => by rw [upd_ne n]; exact h
          · intro p hp
            rcases List.mem_append.mp hp with h | h
            · exact P5 p h
            · exact ⟨o, ho, List.mem_singleton.mp h⟩
        | false =>
          refine iteF' Bool.false_ne_true ?_
          exact ⟨_, xs', ps, rfl, Sa _ _ hs5, R5.stb fun a o _ h => Sa _ _ h, P5, by omega, S5.trans Sa, fun a o n h => Sa _ _ (B5 a o n h)⟩
  · rintro σ H5 ⟨v7, xs', ps, rfl, hs5, R5, P5, l5, S5, B5⟩
    rw [List.length_map] at l5
    have lp5 : ps.length ≤ pl.length := by omega
    refine ⟨_, wsum_step (base := bs) lrow (fun q hq => ?_) lp5, _, _, xs', bs ++ ps, rfl, hs5, R5, fun r hr => ?_, fun i r e => ?_, rfl, S5⟩
    · obtain ⟨o, _, rfl⟩ := P5 q hq
      rw [List.length_append]; rfl
    · rcases List.mem_append.mp hr with h | h
      · exact G1 r (List.mem_append_left _ h)
      · obtain ⟨o, ho, rfl⟩ := P5 r h
        obtain ⟨ofx, onr⟩ := kidin o ho
        exact g.snoc hx ofx onr (fin o ofx)
    · rcases Nat.lt_or_ge i bs.length with h | h
      · rw [List.getElem?_append_left h] at e
        exact I1 i r (by rw [List.getElem?_append_left h]; exact e)
      · rw [List.getElem?_append_right h] at e
        obtain ⟨o, _, rfl⟩ := P5 r (List.mem_of_getElem? e)
        have h1 := I1 _ _ erow
        have h2 := (List.getElem?_eq_some_iff.mp e).1
        rw [List.length_append, show [o].length = 1 from rfl, Nat.mul_add, Nat.mul_one]
        omega
end
end E1

set_option Elab.async false
set_option linter.all false
set_option maxRecDepth 100000
set_option maxHeartbeats 16000000
/-! _law_c_twos: all four pins that are joined apart. -/
namespace E1
open PySem PySem.Spec PyProof.Rows L2 G0 Flow
abbrev Quad : Type := Nat × Nat × Nat × Nat
def QAt (H : Hp) (xs : List V) (qs : List Quad) : Prop := A2 (fun v q => ∃ t, v = .ref t ∧ H t = some (.tup [.int (q.1 : Int), .int (q.2.1 : Int), .int (q.2.2.1 : Int), .int (q.2.2.2 : Int)])) xs qs
theorem QAt.mono {H H' : Hp} {xs : List V} {qs : List Quad} (h : QAt H xs qs) (S : ∀ t vs, H t = some (.tup vs) → H' t = some (.tup vs)) : QAt H' xs qs := ⟨h.1, fun i v q h1 h2 => let ⟨t, e, ht⟩ := h.2 i v q h1 h2; ⟨t, e, S _ _ ht⟩⟩
theorem QAt.same {H H' : Hp} {xs : List V} {qs : List Quad} (h : QAt H xs qs) (S : Same H H') : QAt H' xs qs := h.mono fun t vs e => S _ _ e
theorem QAt.nil {H : Hp} : QAt H [] [] := ⟨rfl, fun i v q h => by simp at h⟩
theorem QAt.snoc {H : Hp} {xs : List V} {qs : List Quad} {t : Addr} {q : Quad} (h : QAt H xs qs) (ht : H t = some (.tup [.int (q.1 : Int), .int (q.2.1 : Int), .int (q.2.2.1 : Int), .int (q.2.2.2 : Int)])) : QAt H (xs ++ [.ref t]) (qs ++ [q]) := by
  refine ⟨by rw [List.length_append, List.length_append, h.1]; rfl, fun i v q h1 h2 => ?_⟩
  rcases Nat.lt_trichotomy i xs.length with l | l | l
  · rw [List.getElem?_append_left l] at h1
    rw [List.getElem?_append_left (by rw [← h.1]; exact l)] at h2
    exact h.2 i v q h1 h2
  · rw [List.getElem?_append_right (by omega), l, Nat.sub_self] at h1
    rw [List.getElem?_append_right (by rw [← h.1]; omega), l, h.1, Nat.sub_self] at h2
    cases h1
    cases h2
    exact ⟨t, rfl, ht⟩
  · rw [List.getElem?_eq_none (by rw [List.length_append]; show xs.length + 1 ≤ i; omega)] at h1
    cases h1
theorem QAt.app {H : Hp} {xs ys : List V} {qs rs : List Quad} (h : QAt H xs qs) (g : QAt H ys rs) : QAt H (xs ++ ys) (qs ++ rs) := by
  refine ⟨by rw [List.length_append, List.length_append, h.1, g.1], fun i v p h1 h2 => ?_⟩
  rcases Nat.lt_or_ge i xs.length with l | l
  · rw [List.getElem?_append_left l] at h1
    rw [List.getElem?_append_left (by rw [← h.1]; exact l)] at h2
    exact h.2 i v p h1 h2
  · rw [List.getElem?_append_right l] at h1
    rw [List.getElem?_append_right (by rw [← h.1]; exact l), ← h.1] at h2
    exact g.2 _ v p h1 h2
/-- four pins, by places on the rim, joined apart -/
def QOk (f : Str → List Str) (rm : List Str) (q : Quad) : Prop := q.1 < q.2.1 ∧ q.2.1 < q.2.2.1 ∧ q.2.2.1 < q.2.2.2 ∧ ∃ a b c d, rm[q.1]? = some a ∧ rm[q.2.2.1]? = some b ∧ rm[q.2.1]? = some c ∧ rm[q.2.2.2]? = some d ∧ Crs f a b c d
def spTwos : Sp := fun vs H Q _ => ∃ (q a : Addr) (pl : List Str) (f : Str → List Str) (l : Str → Addr) (rm : List Str), vs = [.ref q, .ref a] ∧ NearAt H q pl f l ∧ (∀ x ∈ pl, (f x).Nodup ∧ ∀ y ∈ f x, y ∈ pl) ∧ H a = some (.lst (rm.map V.str)) ∧ (∀ z ∈ rm, z ∈ pl) ∧ rm.length ≤ 6 ∧ pl.length ≤ 30 ∧ (∀ z ∈ pl, PyData.strOk z = true) ∧
  ∀ r xs qs H', H r = none → H' r = some (.lst xs) → QAt H' xs qs → (∀ q ∈ qs, QOk f rm q) → qs.length ≤ 2000 → Same H H' → Q (.ref r) H'
abbrev N_twos : List Str := ["_law_near", "_law_rim", "_law_found", "_law_many", "_law_i", "_law_j", "_law_k", "_law_rows", "_law_m", "_law_row"]
theorem sc_twos : FnScope N_twos ["_law_near", "_law_rim"] (defScope (topS 48)) := ⟨rfl, rfl, rfl, by decide +kernel, rfl, by decide +kernel, by decide +kernel⟩
section
variable {P : Program} {w : World} {K : PySem.W.Frag} {mg : Str → Option Value} {base : Heap}
theorem bTwos (Z : LawD K mg) : Binds K (Z.d 48) ["_law_near", "_law_rim"] [] := (Z.F 48 (by decide)).binds fun _ _ _ _ _ _ us hl => match us, hl with | [_, _], _ => rfl
theorem ok_twos (Z : LawD K mg) : FnOk P w K mg base CX0 4 (Z.f 48) (Z.d 48) ["_law_near", "_law_rim"] spTwos := by
  have GC2 : FnOk P w K mg base CX0 3 (Z.f 47) (Z.d 47) ["_law_near", "_law_a", "_law_b", "_law_c", "_law_d"] spTwo := ok_two Z
  refine Fun.ok (Z.F 48 (by decide)) sc_twos (fun vs H Q E h => ?_) (fun cdv A outer s H vs Q E hr h => ?_)
  · obtain ⟨q, a, pl, f, l, rm, rfl, _⟩ := h
    rfl
  refine ⟨_, pss_cons (ps_par (i := 2) (j := 3) rfl sc_twos.nd rfl rfl (by decide) rfl rfl (pa_cons (pe_lst pa_nil) (pa_cons (pe_callB call_len_seq (by rfl) Z.t.len PySem.boot_len (pa_cons (pv 1) pa_nil)) pa_nil)) (by rfl))
  (pss_cons (ps_for PassesOwn.never rfl (pi_range1 (by rfl) (Z.free "range" (by decide)) (pa_cons (pv 3) pa_nil)) (pg_name (i := 4) sc_twos.nd rfl (Or.inr rfl))
    (pss_one (ps_for PassesOwn.never rfl (pi_range2 (by rfl) (Z.free "range" (by decide)) (pa_cons (pe_op op_add (pv 4) pe_int) (pa_cons (pv 3) pa_nil))) (pg_name (i := 5) sc_twos.nd rfl (Or.inr rfl))
    (pss_one (ps_for PassesOwn.never rfl (pi_range2 (by rfl) (Z.free "range" (by decide)) (pa_cons (pe_op op_add (pv 5) pe_int) (pa_cons (pv 3) pa_nil))) (pg_name (i := 6) sc_twos.nd rfl (Or.inr rfl))
    (pss_cons (ps_setLc (i := 7) (own := [("_law_m", 8)]) (tt := tYes) (te := tTup (tCons (tVar 4) (tCons (tVar 5) (tCons (tVar 6) (tCons (tVar 8) tNil))))) rfl sc_twos.nd rfl rfl (by rfl) (pi_range2 (by rfl) (Z.free "range" (by decide)) (pa_cons (pe_op op_add (pv 6) pe_int) (pa_cons (pv 3) pa_nil))) (blkOk_by (own := [("_law_m", 8)]) (N := N_twos) (sc := defScope (topS 48)) (by decide +kernel)) (fun _ _ _ _ _ => (pg_name (i := 8) sc_twos.nd rfl (Or.inl rfl))) (fun _ _ _ _ _ => pts_nil) (fun _ _ _ _ _ => by exact (pe_tup (pa_cons (pv 4) (pa_cons (pv 5) (pa_cons (pv 6) (pa_cons (pv 8) pa_nil)))))))
  (pss_one (ps_expr (pe_bm PySem.F.plainAttrs_list PySem.F.slot_list_extend PySem.F.type_list_extend mt_extend (pv 2) (pa_cons (pe_lc (own := [("_law_row", 9)]) (tt := tB (tCall spTwo [] E0 (tCons (tVar 0) (tCons (tOp (rIxL K) (tVar 1) (tVar 4)) (tCons (tOp (rIxL K) (tVar 1) (tVar 6)) (tCons (tOp (rIxL K) (tVar 1) (tVar 5)) (tCons (tOp (rIxL K) (tVar 1) (tOp (rIxT K) (tVar 9) (tC (.int 3)))) tNil))))))) (te := tVar 9) rfl sc_twos.nd (pi_list (pv 7)) (blkOk_by (own := [("_law_row", 9)]) (N := N_twos) (sc := defScope (topS 48)) (by decide +kernel)) (fun _ _ _ _ _ => (pg_name (i := 9) sc_twos.nd rfl (Or.inl rfl))) (fun _ _ _ _ _ => by exact (pts_one (pt_val (pe_call GC2 (hr.mono (by decide)) (by rfl) (Z.g 47 (by decide)) (Z.F 47 (by decide)).kp (bTwo Z) .nil pass0 (pa_cons (pv 0) (pa_cons (pe_ix ix_list (pv 1) (pv 4) (fun _ _ => rfl)) (pa_cons (pe_ix ix_list (pv 1) (pv 6) (fun _ _ => rfl)) (pa_cons (pe_ix ix_list (pv 1) (pv 5) (fun _ _ => rfl)) (pa_cons (pe_ix ix_list (pv 1) (pe_ix ix_tup (pv 9) pe_int (fun _ _ => rfl)) (fun _ _ => rfl)) pa_nil))))))))) (fun _ _ _ _ _ => (pv 9))) pa_nil))))))))))
  (pss_one (ps_ret (pv 2)))), ?_⟩
  obtain ⟨q, a, pl, f, l, rm, rfl, N, fok, ha, rin, lrm, lp, so, k⟩ := h
  have sz : 5000 < sizeLine := by decide
  refine ⟨Nat.zero_le _, fun u nu => ⟨_, rfl, a, _, rfl, .inl (SqL.of (new_same nu _ _ ha)), _, _, rfl, ?_⟩⟩
  have hu := upd_same (H := H) (a := u) (o := .lst [])
  have S1 := new_same (o := .lst []) nu
  generalize upd H u (.lst []) = H1 at S1 hu ⊢
  rw [List.length_map]
  obtain ⟨n, hn⟩ : ∃ n, n = rm.length := ⟨_, rfl⟩
  rw [← hn] at lrm
  rw [← hn]
  -- what was found
  let I : Nat → Hp → Prop := fun m H' => ∃ xs qs, H' u = some (.lst xs) ∧ QAt H' xs qs ∧ (∀ q ∈ qs, QOk f rm q) ∧ qs.length ≤ m ∧ Same H H'
  have ixr : ∀ {i : Nat} {b : Str}, rm[i]? = some b → atI (rm.map V.str) (i : Int) = some (.str b) := fun h => atI_nat (str_at h)
  have at_ : ∀ {i : Nat}, i < n → ∃ b, rm[i]? = some b ∧ b ∈ pl := fun {i} h => ⟨_, List.getElem?_eq_getElem (by omega), rin _ (List.getElem_mem _)⟩
  refine ⟨_, rfl, _, rfl, by omega, by omega, ?_⟩
  rw [show ((n : Nat) : Int).toNat = n from by omega]
  refine for_range (fun i σ H' => ∃ v5 v6 v7 v4, σ = [some (.ref q), some (.ref a), some (.ref u), some (.int (n : Int)), v4, v5, v6, v7, none, none] ∧ I (i * 300) H') ⟨none, none, none, none, rfl, [], [], hu, QAt.nil, (fun q hq => by cases hq), Nat.zero_le _, S1⟩ ?_ ?_
  · rintro i σ H2 hi ⟨v5, v6, v7, v4, rfl, I2⟩
    rw [Int.zero_add]
    refine ⟨_, rfl, _, _, rfl, rfl, _, rfl, _, _, rfl, ⟨by omega, by omega, by omega, by omega⟩, ?_⟩
    rw [show ((n : Int) - ((i : Int) + 1)).toNat = n - (i + 1) from by omega]
    refine for_range (fun j' σ H' => ∃ v5 v6 v7, σ = [some (.ref q), some (.ref a), some (.ref u), some (.int (n : Int)), some (.int (i : Int)), v5, v6, v7, none, none] ∧ I (i * 300 + j' * 40) H') ⟨v5, v6, v7, rfl, I2⟩ ?_ ?_
    · rintro j' σ H3 hj ⟨v5, v6, v7, rfl, I3⟩
      obtain ⟨j, ej⟩ : ∃ j, j = i + 1 + j' := ⟨_, rfl⟩
      rw [show (i : Int) + 1 + (j' : Int) = (j : Int) from by omega]
      refine ⟨_, rfl, _, _, rfl, rfl, _, rfl, _, _, rfl, ⟨by omega, by omega, by omega, by omega⟩, ?_⟩
      rw [show ((n : Int) - ((j : Int) + 1)).toNat = n - (j + 1) from by omega]
      refine for_range (fun k' σ H' => ∃ v6 v7, σ = [some (.ref q), some (.ref a), some (.ref u), some (.int (n : Int)), some (.int (i : Int)), some (.int (j : Int)), v6, v7, none, none] ∧ I (i * 300 + j' * 40 + k' * 6) H') ⟨v6, v7, rfl, I3⟩ ?_ ?_
      · rintro k' σ H4 hk ⟨v6, v7, rfl, xs, qs, hu4, Q4, ok4, l4, S4⟩
        obtain ⟨kk, ek⟩ : ∃ kk, kk = j + 1 + k' := ⟨_, rfl⟩
        rw [show (j : Int) + 1 + (k' : Int) = (kk : Int) from by omega]
        refine ⟨_, rfl, _, _, rfl, rfl, _, rfl, _, _, rfl, ⟨by omega, by omega, by omega, by omega⟩, fun R nR => ?_⟩
        rw [show ((n : Int) - ((kk : Int) + 1)).toNat = n - (kk + 1) from by omega]
        refine lc_range (n := n - (kk + 1)) (fun m H' => ∃ acc, H' R = some (.lst acc) ∧ QAt H' acc ((List.range m).map fun t => (i, j, kk, kk + 1 + t)) ∧ Same H4 H') ⟨[], upd_same, QAt.nil, new_same nR⟩ ?_ ?_
        · rintro m H' hm ⟨acc, hacc, QA, S⟩
          refine ⟨rfl, yes_of ⟨_, rfl, _, rfl, _, rfl, _, rfl, by show 4 ≤ sizeLine; decide, fun t nt => ⟨acc, new_same nt _ _ hacc, by rw [QA.1, List.length_map, List.length_range]; omega, acc ++ [.ref t], upd_same, ?_, Same.updN (S.trans (new_same nt)) nR⟩⟩⟩
          rw [List.range_succ, List.map_append]
          have St : Same H' (upd H' t (.tup [V.int (i : Int), .int (j : Int), .int (kk : Int), .int ((kk : Int) + 1 + (m : Int))])) := new_same nt
          refine QAt.mono (QAt.snoc (QA.same St) ?_) fun t' vs e => ?_
          · rw [upd_same]
            show some (HO.tup [V.int (i : Int), .int (j : Int), .int (kk : Int), .int ((kk : Int) + 1 + (m : Int))]) = some (HO.tup [V.int (i : Int), .int (j : Int), .int (kk : Int), .int ((kk + 1 + m : Nat) : Int)])
            rw [show (kk : Int) + 1 + (m : Int) = ((kk + 1 + m : Nat) : Int) from by omega]
          · rw [upd_ne (fun z => by rw [z, new_same nt _ _ hacc] at e; cases e)]
            exact e
        rintro H5 ⟨acc, hacc, QA, S5⟩
        have S05 := S4.trans S5
        have hu5 := S5 _ _ hu4
        have la := QA.1
        rw [List.length_map, List.length_range] at la
        obtain ⟨bi, hbi, pbi⟩ := at_ (i := i) (by omega)
        obtain ⟨bj, hbj, pbj⟩ := at_ (i := j) (by omega)
        obtain ⟨bk, hbk, pbk⟩ := at_ (i := kk) (by omega)
        refine ⟨_, rfl, .inl ⟨rfl, _, SqL.of hu5⟩, _, rfl, R, rfl, ⟨_, SqL.of hacc⟩, fun D nD => lc_list (xs := acc) (fun m H' => ∃ acc2 qs2, H' D = some (.lst acc2) ∧ QAt H' acc2 qs2 ∧ (∀ q ∈ qs2, QOk f rm q) ∧ qs2.length ≤ m ∧ Same H5 H') ⟨[], [], upd_same, QAt.nil, (fun q hq => by cases hq), Nat.le_refl _, new_same nD⟩ (fun m H' _ ⟨_, _, _, _, _, _, S⟩ => SqL.of (S _ _ hacc)) ?_ ?_⟩
        · rintro m v H' hv ⟨acc2, qs2, hD, QA2, ok2, l2, S⟩
          have ml : m < n - (kk + 1) := by rw [← la]; exact (List.getElem?_eq_some_iff.mp hv).1
          have eq : ((List.range (n - (kk + 1))).map fun t => ((i, j, kk, kk + 1 + t) : Quad))[m]? = some (i, j, kk, kk + 1 + m) := by
            rw [List.getElem?_map, List.getElem?_range ml]
            rfl
          obtain ⟨t, rfl, ht⟩ := QA.2 m v _ hv eq
          obtain ⟨bm, hbm, pbm⟩ := at_ (i := kk + 1 + m) (by omega)
          have ha' := S _ _ (S05 _ _ ha)
          have ht' := S _ _ ht
          refine ⟨rfl, _, rfl, _, rfl, _, rfl, a, _, (i : Int), _, rfl, rfl, SqL.of ha', ixr hbi, _, rfl, _, rfl, a, _, (kk : Int), _, rfl, rfl, SqL.of ha', ixr hbk, _, rfl, _, rfl, a, _, (j : Int), _, rfl, rfl, SqL.of ha', ixr hbj, _, rfl, _, rfl, t, _, 3, _, rfl, rfl, SqT.of ht', rfl, a, _, ((kk + 1 + m : Nat) : Int), _, rfl, rfl, SqL.of ha', ixr hbm,
            q, pl, f, l, bi, bk, bj, bm, rfl, N.mono (S05.trans S), fok, pbi, pbk, pbj, pbm, lp, so, fun v H6 hv6 S6 => ⟨_, rfl, ?_⟩⟩
          cases v with
          | true =>
            refine iteT' rfl ⟨_, rfl, acc2, S6 _ _ hD, by rw [QA2.1]; omega, acc2 ++ [.ref t], qs2 ++ [(i, j, kk, kk + 1 + m)], upd_same, ?_, ?_, by rw [List.length_append]; show qs2.length + 1 ≤ m + 1; omega, Same.updN (S.trans S6) nD⟩
            · refine QAt.mono (QAt.snoc (QA2.same S6) (S6 _ _ ht')) fun t' vs e => ?_
              rw [upd_ne (fun z => by rw [z, S6 _ _ hD] at e; cases e)]
              exact e
            · intro q' hq'
              rcases List.mem_append.mp hq' with h | h
              · exact ok2 q' h
              · rw [List.mem_singleton.mp h]
                exact ⟨by show i < j; omega, by show j < kk; omega, by show kk < kk + 1 + m; omega, bi, bk, bj, bm, hbi, hbk, hbj, hbm, hv6 rfl⟩
          | false =>
            exact iteF' Bool.false_ne_true ⟨acc2, qs2, S6 _ _ hD, QA2.same S6, ok2, by omega, S.trans S6⟩
        · rintro H6 ⟨acc2, qs2, hD, QA2, ok2, l2, S6⟩
          rw [la] at l2
          have hu6 := S6 _ _ hu5
          have i5 : i * 300 ≤ 1500 := by omega
          refine ⟨u, D, xs, acc2, rfl, rfl, hu6, hD, by rw [Q4.1, QA2.1]; omega, _, _, rfl, xs ++ acc2, qs ++ qs2, upd_same, ?_, ?_, by rw [List.length_append]; omega, Same.updN (S05.trans S6) nu⟩
          · refine QAt.mono ((Q4.same (S5.trans S6)).app QA2) fun t' vs e => ?_
            rw [upd_ne (fun z => by rw [z, hu6] at e; cases e)]
            exact e
          · intro q' hq'
            exact (List.mem_append.mp hq').elim (ok4 q') (ok2 q')
      · rintro σ H4 ⟨v6, v7, rfl, xs, qs, h1, h2, h3, h4, h5⟩
        exact ⟨_, _, _, rfl, xs, qs, h1, h2, h3, by omega, h5⟩
    · rintro σ H3 ⟨v5, v6, v7, rfl, xs, qs, h1, h2, h3, h4, h5⟩
      exact ⟨_, _, _, _, rfl, xs, qs, h1, h2, h3, by omega, h5⟩
  · rintro σ H2 ⟨v5, v6, v7, v4, rfl, xs, qs, h1, h2, h3, h4, h5⟩
    exact ⟨_, rfl, k u xs qs H2 nu h1 h2 h3 (by omega) h5⟩
end
end E1

set_option Elab.async false
set_option linter.all false
set_option maxRecDepth 100000
set_option maxHeartbeats 4000000
/-! Raw boards: a face split. -/
namespace E1
open PySem PySem.Spec PyProof.Rows L2 G0
/-- lists of unlike places -/
def FcAt (N : Addr → Prop) (H : Hp) (vs : List V) (ok : Str → Prop) : Prop := ∀ v ∈ vs, ∃ (a : Addr) (f : List Str), v = .ref a ∧ H a = some (.lst (f.map V.str)) ∧ f.Nodup ∧ (∀ z ∈ f, ok z) ∧ N a
theorem FcAt.frame {N : Addr → Prop} {H H' : Hp} {vs : List V} {ok : Str → Prop} (h : FcAt N H vs ok) (S : ∀ c o, N c → H c = some o → H' c = some o) : FcAt N H' vs ok := fun v hv => by
  obtain ⟨a, f, e, h1, h2, h3, h4⟩ := h v hv
  exact ⟨a, f, e, S _ _ h4 h1, h2, h3, h4⟩
theorem FcAt.weak {N N' : Addr → Prop} {H : Hp} {vs : List V} {ok ok' : Str → Prop} (h : FcAt N H vs ok) (k : ∀ c, N c → N' c) (k2 : ∀ z, ok z → ok' z) : FcAt N' H vs ok' := fun v hv => by
  obtain ⟨a, f, e, h1, h2, h3, h4⟩ := h v hv
  exact ⟨a, f, e, h1, h2, fun z hz => k2 z (h3 z hz), k _ h4⟩
theorem FcAt.nil {N : Addr → Prop} {H : Hp} {ok : Str → Prop} : FcAt N H [] ok := fun v hv => by cases hv
theorem FcAt.app {N : Addr → Prop} {H : Hp} {vs ws : List V} {ok : Str → Prop} (h : FcAt N H vs ok) (g : FcAt N H ws ok) : FcAt N H (vs ++ ws) ok := fun v hv => by
  rcases List.mem_append.mp hv with hv | hv
  · exact h v hv
  · exact g v hv
theorem FcAt.sub {N : Addr → Prop} {H : Hp} {vs ws : List V} {ok : Str → Prop} (h : FcAt N H vs ok) (g : ∀ v ∈ ws, v ∈ vs) : FcAt N H ws ok := fun v hv => h v (g v hv)
theorem FcAt.one {N : Addr → Prop} {H : Hp} {a : Addr} {f : List Str} {ok : Str → Prop} (h : H a = some (.lst (f.map V.str))) (nd : f.Nodup) (hf : ∀ z ∈ f, ok z) (n : N a) : FcAt N H [.ref a] ok := fun v hv => ⟨a, f, List.mem_singleton.mp hv, h, nd, hf, n⟩
/-- a list at q, not one of them, may be written -/
theorem FcAt.put {N : Addr → Prop} {H : Hp} {vs : List V} {ok : Str → Prop} {q : Addr} {o : HO} (h : FcAt N H vs ok) (n : ¬ N q) : FcAt N (upd H q o) vs ok := h.frame fun c u hc e => by
  rw [upd_ne (fun z => n (by rw [← z]; exact hc))]
  exact e
abbrev N_a_split : List Str := ["_law_face", "_law_ends", "_law_found", "_law_at", "_law_end", "_law_low", "_law_high"]
theorem sc_a_split : FnScope N_a_split ["_law_face", "_law_ends"] (defScope (topS 37)) := ⟨rfl, rfl, rfl, by decide +kernel, rfl, by decide +kernel, by decide +kernel⟩
def spSplit : Sp := fun vs H Q _ => ∃ (a b : Addr) (f es : List Str), vs = [.ref a, .ref b] ∧ H a = some (.lst (f.map V.str)) ∧ H b = some (.lst (es.map V.str)) ∧ f.Nodup ∧ es.Nodup ∧ 2 ≤ es.length ∧ f.length ≤ 1000 ∧ (∀ z ∈ es, z ∈ f) ∧
  ∀ q fs H', H q = none → H' q = some (.lst fs) → fs.length = es.length → FcAt (fun c => H c = none ∧ c ≠ q) H' fs (fun z => z ∈ f) → Same H H' → Q (.ref q) H'
theorem eqV_str (x y : Str) : eqV (.str x) (.str y) = decide (x = y) := by
  by_cases h : x = y
  · subst h
    simp [eqV]
  · simp [eqV, h]
theorem idx_at {f : List Str} (nd : f.Nodup) {z : Str} (h : z ∈ f) : ∃ j, f[j]? = some z ∧ ∀ (m : Nat) (z' : V), m < j → (f.map V.str)[m]? = some z' → eqV z' (.str z) = false := by
  obtain ⟨j, hj⟩ := List.getElem?_of_mem h
  refine ⟨j, hj, fun m z' hm e => ?_⟩
  rw [List.getElem?_map] at e
  cases em : f[m]? with
  | none => rw [em] at e; cases e
  | some y =>
    rw [em] at e
    cases e
    rw [eqV_str]
    refine decide_eq_false fun q => ?_
    subst q
    have := (List.getElem?_inj (List.getElem?_eq_some_iff.mp em).1 nd).mp (em.trans hj.symm)
    omega
theorem cut_mid {xs : List V} (i j : Nat) : cutV xs (some (i : Int)) (some (j : Int)) = (xs.drop i).take (min j xs.length - i) := by
  unfold cutV
  rw [HT.sIx_nat, HT.sIx_nat]
  rcases Nat.le_total i xs.length with h | h
  · rw [Nat.min_eq_left h]
  · rw [Nat.min_eq_right h, List.drop_of_length_le (Nat.le_refl _), List.drop_of_length_le h, List.take_nil, List.take_nil]
section
variable {P : Program} {w : World} {K : PySem.W.Frag} {mg : Str → Option Value} {base : Heap}
theorem bSplit (Z : LawD K mg) : Binds K (Z.d 37) ["_law_face", "_law_ends"] [] := (Z.F 37 (by decide)).binds fun _ _ _ _ _ _ us hl => match us, hl with | [_, _], _ => rfl
theorem ok_a_split (Z : LawD K mg) : FnOk P w K mg base CX0 1 (Z.f 37) (Z.d 37) ["_law_face", "_law_ends"] spSplit := by
  refine Fun.ok (Z.F 37 (by decide)) sc_a_split (fun vs H Q E h => ?_) (fun cdv A outer s H vs Q E hr h => ⟨_, pss_cons (ps_set (i := 2) sc_a_split.nd rfl (Or.inl rfl) (pe_lst pa_nil))
  (pss_cons (ps_for PassesOwn.never rfl (pi_enumQ (by rfl) Z.t.enumerate (pa_cons (pv 1) pa_nil)) (pg_tup rfl (pgs_cons (pg_name (i := 3) sc_a_split.nd rfl (Or.inl rfl)) (pgs_cons (pg_name (i := 4) sc_a_split.nd rfl (Or.inl rfl)) pgs_nil)))
    (pss_cons (ps_par (i := 5) (j := 6) rfl sc_a_split.nd rfl rfl (by decide) rfl rfl (pa_cons (pe_bm PySem.F.plainAttrs_list PySem.F.slot_list_index PySem.F.type_list_index mt_index (pv 0) (pa_cons (pv 4) pa_nil)) (pa_cons (pe_bm PySem.F.plainAttrs_list PySem.F.slot_list_index PySem.F.type_list_index mt_index (pv 0) (pa_cons (pe_ix ix_list (pv 1) (pe_ifExp (pt_cmpR op_lt (pe_op op_add (pv 3) pe_int) (pe_callB call_len_seq (by rfl) Z.t.len PySem.boot_len (pa_cons (pv 1) pa_nil)) (nomark _)) (pe_op op_add (pv 3) pe_int) pe_int) (fun _ _ => rfl)) pa_nil)) pa_nil)) (by rfl))
  (pss_one (ps_expr (pe_bm PySem.F.plainAttrs_list PySem.F.slot_list_append PySem.F.type_list_append mt_append (pv 2) (pa_cons (pe_ifExp (pt_cmpR op_lt (pv 5) (pv 6) (nomark _)) (pe_slice sl_list (pv 0) (po_some (pv 5)) (po_some (pe_op op_add (pv 6) pe_int))) (pe_op op_cat (pe_slice sl_list (pv 0) (po_some (pv 5)) po_none) (pe_slice sl_list (pv 0) po_none (po_some (pe_op op_add (pv 6) pe_int))))) pa_nil))))))
  (pss_one (ps_ret (pv 2)))), ?_⟩)
  · obtain ⟨a, b, f, es, rfl, _⟩ := h
    rfl
  · obtain ⟨a, b, f, es, rfl, ha, hb, ndf, nde, l2, lf, sub, k⟩ := h
    refine ⟨Nat.zero_le _, fun q nq => ?_⟩
    have aq : a ≠ q := ne_of_none ha nq
    have bq : b ≠ q := ne_of_none hb nq
    have flat : (f.map V.str).all flatV = true := flat_strs f
    refine ⟨_, rfl, b, es.map V.str, rfl, for_enQ (.inl (SqL.of (by rw [upd_ne bq]; exact hb))) (fun i σ H' => ∃ v3 v4 v5 v6 fs, σ = [some (.ref a), some (.ref b), some (.ref q), v3, v4, v5, v6] ∧ H' q = some (.lst fs) ∧ fs.length = i ∧ FcAt (fun c => H c = none ∧ c ≠ q) H' fs (fun z => z ∈ f) ∧ Same H H')
      ⟨none, none, none, none, [], rfl, upd_same, rfl, .nil, new_same nq⟩ ?_ ?_ ?_⟩
    · rintro i σ H' hi ⟨v3, v4, v5, v6, fs, rfl, _, _, _, S⟩
      exact lt_at (by rw [upd_ne bq]; exact hb) (S _ _ hb)
    · rintro i x σ H' T hx ⟨v3, v4, v5, v6, fs, rfl, hq, lfs, fc, S⟩ nT
      rw [List.getElem?_map] at hx
      cases ez : es[i]? with
      | none => rw [ez] at hx; cases hx
      | some z =>
        rw [ez] at hx
        cases hx
        have hil : i < es.length := (List.getElem?_eq_some_iff.mp ez).1
        have ST : Same H (upd H' T (.tup [.int (i : Nat), .str z])) := S.trans (new_same nT)
        have qT : q ≠ T := ne_of_none hq nT
        obtain ⟨lo, hlo, lo1⟩ := idx_at ndf (sub z (List.mem_of_getElem? ez))
        refine ⟨T, _, rfl, SqT.of upd_same, rfl, _, _, rfl, _, _, rfl, rfl, ?_⟩
        refine ⟨_, rfl, .inl ⟨rfl, _, SqL.of (ST _ _ ha)⟩, _, rfl, a, _, _, lo, .str z, rfl, rfl, SqL.of (ST _ _ ha), rfl, flat, by rw [List.getElem?_map, hlo]; rfl, by rw [eqV_str]; exact decide_eq_true rfl, lo1, ?_⟩
        have hb1 := ST _ _ hb
        have ndz : ∀ (j : Nat) (y : Str), es[j]? = some y → j ≠ i → y ≠ z := fun j y e hji q => hji ((List.getElem?_inj (List.getElem?_eq_some_iff.mp e).1 nde).mp (e.trans (by rw [q, ez])))
        have rest : ∀ (y : Str), y ∈ es → y ≠ z → ∃ hi, (f.map V.str)[hi]? = some (V.str y) ∧ (∀ (m : Nat) (z' : V), m < hi → (f.map V.str)[m]? = some z' → eqV z' (.str y) = false) ∧ f[hi]? = some y ∧ hi ≠ lo := fun y hy hyz => by
          obtain ⟨hi, hhi, hi1⟩ := idx_at ndf (sub _ hy)
          refine ⟨hi, by rw [List.getElem?_map, hhi]; rfl, hi1, hhi, fun e => hyz ?_⟩
          rw [e, hlo] at hhi
          injection hhi with e
          exact e.symm
        refine ⟨_, rfl, .inl ⟨rfl, _, SqL.of (ST _ _ ha)⟩, _, rfl, _, rfl, _, _, rfl, rfl, _, rfl, b, _, rfl, .inl (SqL.of hb1), _, _, rfl, rfl, _, rfl, ?_⟩
        refine ite2 (fun c => ?b1) (fun c => ?b2)
        case' b1 =>
          have hj : i + 1 < es.length := by
            have := of_decide_eq_true c
            rw [List.length_map] at this
            omega
          obtain ⟨y, ey⟩ : ∃ y, es[i + 1]? = some y := ⟨es[i + 1], List.getElem?_eq_getElem hj⟩
          obtain ⟨hi, g1, g2, g3, g4⟩ := rest y (List.mem_of_getElem? ey) (ndz _ y ey (by omega))
          refine ⟨_, rfl, _, _, rfl, rfl, b, _, ((i + 1 : Nat) : Int), .str y, rfl, rfl, SqL.of hb1, atI_nat (by rw [List.getElem?_map, ey]; rfl), a, _, _, hi, .str y, rfl, rfl, SqL.of (ST _ _ ha), rfl, flat, g1, by rw [eqV_str]; exact decide_eq_true rfl, g2, _, _, rfl, ?_⟩
        case' b2 =>
          have hc : ¬ i + 1 < es.length := fun z => c (decide_eq_true (by rw [List.length_map]; omega))
          obtain ⟨y, ey⟩ : ∃ y, es[0]? = some y := ⟨es[0], List.getElem?_eq_getElem (by omega)⟩
          obtain ⟨hi, g1, g2, g3, g4⟩ := rest y (List.mem_of_getElem? ey) (ndz _ y ey (by omega))
          refine ⟨b, _, ((0 : Nat) : Int), .str y, rfl, rfl, SqL.of hb1, atI_nat (by rw [List.getElem?_map, ey]; rfl), a, _, _, hi, .str y, rfl, rfl, SqL.of (ST _ _ ha), rfl, flat, g1, by rw [eqV_str]; exact decide_eq_true rfl, g2, _, _, rfl, ?_⟩
        all_goals
          have hq1 : (upd H' T (.tup [.int (i : Nat), .str z])) q = some (.lst fs) := by rw [upd_ne qT]; exact hq
          have fcT : FcAt (fun c => H c = none ∧ c ≠ q) (upd H' T (.tup [.int (i : Nat), .str z])) fs (fun z => z ∈ f) := fc.frame fun c u _ e => new_same nT _ _ e
          have fin : ∀ (r : Addr) (g : List Str) (H2 : Hp), Same (upd H' T (.tup [.int (i : Nat), .str z])) H2 → H2 r = some (.lst (g.map V.str)) → H r = none → r ≠ q → g.Nodup → (∀ z ∈ g, z ∈ f) → FcAt (fun c => H c = none ∧ c ≠ q) (upd H2 q (.lst (fs ++ [.ref r]))) (fs ++ [.ref r]) (fun z => z ∈ f) ∧ Same H (upd H2 q (.lst (fs ++ [.ref r]))) := fun r g H2 S2 hr2 nr rq gnd gin => by
            refine ⟨FcAt.put (((fcT.frame fun c u _ e => S2 _ _ e)).app (FcAt.one hr2 gnd gin ⟨nr, rq⟩)) (fun z => z.2 rfl), fun b o e => ?_⟩
            rw [upd_ne (ne_of_none e nq)]
            exact S2 _ _ (ST _ _ e)
          have lfs' : fs.length < sizeLine := small1000 (by
            have := nde.length_le_of_subset sub
            omega)
          refine ⟨_, rfl, .inl ⟨rfl, _, SqL.of hq1⟩, _, rfl, _, rfl, _, _, rfl, rfl, _, rfl, ite2 (fun c2 => ?_) (fun c2 => ?_)⟩
          · refine ⟨_, rfl, _, rfl, _, rfl, _, rfl, _, _, rfl, rfl, _, rfl, a, _, rfl, SqL.of (ST _ _ ha), fun r nr => ?_⟩
            have rq : r ≠ q := (ne_of_none hq1 nr).symm
            have e : cutV (f.map V.str) (some (lo : Int)) (some ((hi : Int) + 1)) = ((f.drop lo).take (min (hi + 1) f.length - lo)).map V.str := by
              rw [show ((hi : Int) + 1) = ((hi + 1 : Nat) : Int) from rfl, cut_mid, List.length_map, List.map_take, List.map_drop]
            rw [e]
            obtain ⟨f1, f2⟩ := fin r _ _ (new_same nr) upd_same (ST.free nr) rq ((ndf.sublist (List.drop_sublist _ _)).sublist (List.take_sublist _ _)) (fun z hz => List.mem_of_mem_drop (List.mem_of_mem_take hz))
            exact ⟨q, fs, _, rfl, rfl, by rw [upd_ne rq.symm]; exact hq1, lfs', _, _, _, _, _, rfl, upd_same, by rw [List.length_append, lfs]; rfl, f1, f2⟩
          · refine ⟨_, rfl, _, rfl, _, rfl, a, _, rfl, SqL.of (ST _ _ ha), fun r1 nr1 => ⟨_, rfl, _, rfl, _, _, rfl, rfl, _, rfl, a, _, rfl, SqL.of (new_same nr1 _ _ (ST _ _ ha)), fun r2 nr2 => ?_⟩⟩
            have hlt : hi < lo := by
              have : ¬ ((lo : Int) < (hi : Int)) := fun z => c2 (decide_eq_true z)
              omega
            have e1 : cutV (f.map V.str) (some (lo : Int)) none = (f.drop lo).map V.str := by rw [cut_from, List.map_drop]
            have e2 : cutV (f.map V.str) none (some ((hi : Int) + 1)) = (f.take (hi + 1)).map V.str := by
              rw [show ((hi : Int) + 1) = ((hi + 1 : Nat) : Int) from rfl, cut_to, List.map_take]
            rw [e1, e2]
            rw [e1] at nr2
            refine ⟨r1, r2, _, _, rfl, rfl, by rw [upd_ne (ne_of_none upd_same nr2)]; exact upd_same, upd_same, ?_, fun r nr => ?_⟩
            · rw [List.length_map, List.length_map, List.length_drop, List.length_take]
              exact Nat.le_of_lt (small1000 (by omega))
            · have S2 := ((new_same (o := .lst ((f.drop lo).map V.str)) nr1).trans (new_same (o := .lst ((f.take (hi + 1)).map V.str)) nr2))
              have S3 := S2.trans (new_same (o := .lst (((f.drop lo).map V.str) ++ (f.take (hi + 1)).map V.str)) nr)
              have hq3 := S3 _ _ hq1
              have rq : r ≠ q := (ne_of_none (S2 _ _ hq1) nr).symm
              have nd2 : (f.drop lo ++ f.take (hi + 1)).Nodup := by
                refine List.nodup_append.mpr ⟨ndf.sublist (List.drop_sublist _ _), ndf.sublist (List.take_sublist _ _), fun x hx y hy e => ?_⟩
                have e4 := List.take_append_drop lo f
                have nd3 := ndf
                rw [← e4] at nd3
                have hy2 : y ∈ f.take lo := by
                  have : f.take (hi + 1) = (f.take lo).take (hi + 1) := by rw [List.take_take, Nat.min_eq_left (by omega)]
                  rw [this] at hy
                  exact List.mem_of_mem_take hy
                exact (List.nodup_append.mp nd3).2.2 y hy2 x hx e.symm
              obtain ⟨f1, f2⟩ := fin r (f.drop lo ++ f.take (hi + 1)) _ S3 (by rw [upd_same, List.map_append]) (ST.free (S2.free nr)) rq nd2 (fun z hz => by
                rcases List.mem_append.mp hz with h | h
                · exact List.mem_of_mem_drop h
                · exact List.mem_of_mem_take h)
              exact ⟨q, fs, _, rfl, rfl, hq3, lfs', _, _, _, _, _, rfl, upd_same, by rw [List.length_append, lfs]; rfl, f1, f2⟩
    · rintro σ H' ⟨v3, v4, v5, v6, fs, rfl, hq, lfs, fc, S⟩
      rw [List.length_map] at lfs
      exact ⟨_, rfl, k q fs H' nq hq lfs fc S⟩
end
end E1

set_option Elab.async false
set_option linter.all false
set_option maxRecDepth 100000
set_option maxHeartbeats 8000000
/-! Raw boards: flat ones. -/
namespace E1
open PySem PySem.Spec PyProof.Rows L2 G0
abbrev N_a_grown : List Str := ["_law_stream", "_law_names", "_law_pins", "_law_rim", "_law_ties", "_law_at", "_law_faces", "_law_new", "_law_face", "_law_some", "_law_ends", "_law_place", "_law_end", "_law_row", "_law_k", "_law_two"]
theorem sc_a_grown : FnScope N_a_grown ["_law_stream", "_law_names", "_law_pins"] (defScope (topS 38)) := ⟨rfl, rfl, rfl, by decide +kernel, rfl, by decide +kernel, by decide +kernel⟩
/-- a flat raw board, with its faces -/
def FlatAt (N : Addr → Prop) (H : Hp) (r : Addr) (ns : List Str) (ts : List Pr) (rm : List Str) (fs : List V) : Prop :=
  ∃ (aP aT aR aF : Addr) (tv : List V), H r = some (.tup [.ref aP, .ref aT, .ref aR, .ref aF]) ∧ H aP = some (.lst (ns.map V.str)) ∧ H aT = some (.lst tv) ∧ PrsAt H tv ts ∧ H aR = some (.lst (rm.map V.str)) ∧ H aF = some (.lst fs) ∧
    FcAt N H fs (fun z => z ∈ ns) ∧ N r ∧ N aP ∧ N aT ∧ N aR ∧ N aF ∧ ∀ t, V.ref t ∈ tv → N t
def Nf (H : Hp) (r4 r6 : Addr) : Addr → Prop := fun c => H c = none ∧ c ≠ r4 ∧ c ≠ r6
/-- what holds while a flat board grows -/
structure GI (H : Hp) (p l q r3 r4 r6 : Addr) (ns rim lim : List Str) (m : Nat) (tv : List V) (ts : List Pr) (fs : List V) (H' : Hp) : Prop where
  vq : H' q = some (.lst (ns.map V.str))
  v3 : H' r3 = some (.lst (rim.map V.str))
  v4 : H' r4 = some (.lst tv)
  pt : PrsAt H' tv ts
  v6 : H' r6 = some (.lst fs)
  fc : FcAt (Nf H r4 r6) H' fs (fun z => z ∈ lim)
  tok : TsOk lim ts
  fr : ∀ t, V.ref t ∈ tv → H t = none
  F : Fr H p l m H'
/-- where its lists lie -/
structure GA (H : Hp) (p l q r3 r4 r6 : Addr) : Prop where
  n3 : H r3 = none
  n4 : H r4 = none
  n6 : H r6 = none
  e34 : r3 ≠ r4
  e36 : r3 ≠ r6
  e46 : r4 ≠ r6
  qp : q ≠ p
  ql : q ≠ l
  q4 : q ≠ r4
  q6 : q ≠ r6
section
variable {H H' H2 : Hp} {p l q r3 r4 r6 c : Addr} {ns rim lim : List Str} {m m2 : Nat} {tv : List V} {ts : List Pr} {fs : List V} {o : HO}
theorem GI.step (G : GI H p l q r3 r4 r6 ns rim lim m tv ts fs H') (A : GA H p l q r3 r4 r6) (F2 : Fr H' p l m2 H2) : GI H p l q r3 r4 r6 ns rim lim m2 tv ts fs H2 :=
  ⟨F2.but _ _ G.vq A.qp A.ql, G.F.keep F2 A.n3 G.v3, G.F.keep F2 A.n4 G.v4, prs_keep G.F F2 G.pt G.fr, G.F.keep F2 A.n6 G.v6, G.fc.frame fun c o hc e => G.F.keep F2 hc.1 e, G.tok, G.fr, G.F.trans F2⟩
theorem GI.new (G : GI H p l q r3 r4 r6 ns rim lim m tv ts fs H') (n : H' c = none) : GI H p l q r3 r4 r6 ns rim lim m tv ts fs (upd H' c o) :=
  ⟨by rw [upd_ne (ne_of_none G.vq n)]; exact G.vq, by rw [upd_ne (ne_of_none G.v3 n)]; exact G.v3, by rw [upd_ne (ne_of_none G.v4 n)]; exact G.v4, prs_upd G.pt (fun xs e => by rw [n] at e; cases e), by rw [upd_ne (ne_of_none G.v6 n)]; exact G.v6,
    G.fc.frame (fun d u _ e => by rw [upd_ne (ne_of_none e n)]; exact e), G.tok, G.fr, G.F.put (G.F.free n)⟩
theorem GI.same (G : GI H p l q r3 r4 r6 ns rim lim m tv ts fs H') (S : Same H' H2) : GI H p l q r3 r4 r6 ns rim lim m tv ts fs H2 :=
  ⟨S _ _ G.vq, S _ _ G.v3, S _ _ G.v4, G.pt.mono fun t xs e => S _ _ e, S _ _ G.v6, G.fc.frame fun d u _ e => S _ _ e, G.tok, G.fr, G.F.same S⟩
/-- a list of its own, not one of these, is written -/
theorem GI.put (G : GI H p l q r3 r4 r6 ns rim lim m tv ts fs H') (n : H c = none) (hc : H q ≠ none) (h3 : c ≠ r3) (h4 : c ≠ r4) (h6 : c ≠ r6) (ht : ∀ xs, H' c ≠ some (.tup xs)) (hf : ∀ v ∈ fs, v ≠ .ref c) : GI H p l q r3 r4 r6 ns rim lim m tv ts fs (upd H' c o) :=
  ⟨by rw [upd_ne (fun z => hc (by rw [z]; exact n))]; exact G.vq, by rw [upd_ne h3.symm]; exact G.v3, by rw [upd_ne h4.symm]; exact G.v4, prs_upd G.pt ht, by rw [upd_ne h6.symm]; exact G.v6, fun v hv => by
    obtain ⟨a, f, e, h1, h2⟩ := G.fc v hv
    refine ⟨a, f, e, ?_, h2⟩
    rw [upd_ne (fun z => hf v hv (by rw [e, z]))]
    exact h1, G.tok, G.fr, G.F.put n⟩
theorem GI.tie {tv2 : List V} {ts2 : List Pr} {lim2 : List Str} (G : GI H p l q r3 r4 r6 ns rim lim m tv ts fs H') (A : GA H p l q r3 r4 r6) (pt2 : PrsAt H' tv2 ts2) (tok2 : TsOk lim2 ts2) (fr2 : ∀ t, V.ref t ∈ tv2 → H t = none) (sub : ∀ z ∈ lim, z ∈ lim2) :
    GI H p l q r3 r4 r6 ns rim lim2 m tv2 ts2 fs (upd H' r4 (.lst tv2)) :=
  ⟨by rw [upd_ne A.q4]; exact G.vq, by rw [upd_ne A.e34]; exact G.v3, upd_same, prs_upd pt2 (fun xs e => by rw [G.v4] at e; cases e), by rw [upd_ne A.e46.symm]; exact G.v6, (G.fc.put (fun z => z.2.1 rfl)).weak (fun _ h => h) sub, tok2, fr2, G.F.put A.n4⟩
theorem GI.face {fs2 : List V} (G : GI H p l q r3 r4 r6 ns rim lim m tv ts fs H') (A : GA H p l q r3 r4 r6) (fc2 : FcAt (Nf H r4 r6) H' fs2 (fun z => z ∈ lim)) : GI H p l q r3 r4 r6 ns rim lim m tv ts fs2 (upd H' r6 (.lst fs2)) :=
  ⟨by rw [upd_ne A.q6]; exact G.vq, by rw [upd_ne A.e36]; exact G.v3, by rw [upd_ne A.e46]; exact G.v4, prs_upd G.pt (fun xs e => by rw [G.v6] at e; cases e), upd_same, fc2.put (fun z => z.2.2 rfl), G.tok, G.fr, G.F.put A.n6⟩
theorem GI.mono (G : GI H p l q r3 r4 r6 ns rim lim m tv ts fs H') (h : m ≤ m2) : GI H p l q r3 r4 r6 ns rim lim m2 tv ts fs H' := ⟨G.vq, G.v3, G.v4, G.pt, G.v6, G.fc, G.tok, G.fr, G.F.mono h⟩
end
def spGrown : Sp := fun vs H Q _ => ∃ (p l q : Addr) (n pins : Nat) (ns : List Str), vs = [.ref p, .ref q, .int (pins : Int)] ∧ Stm H p l n ∧ n < 40000000 ∧ H q = some (.lst (ns.map V.str)) ∧ q ≠ p ∧ q ≠ l ∧ ns.Nodup ∧ (∀ z ∈ ns, nameB z = true) ∧ ns.length ≤ 40 ∧ pins ≤ ns.length ∧
  ∀ r ts fs H', Fr H p l (n + 30000) H' → FlatAt (fun c => H c = none) H' r ns ts (ns.take pins) fs → TsOk ns ts → 0 < fs.length → fs.length ≤ 3000 → Q (.ref r) H'
theorem ints_perm {ys : List V} {js : List Int} (h : ys.Perm (js.map V.int)) : ∃ ks : List Int, ys = ks.map V.int ∧ ks.Perm js := by
  have hm : ∀ y ∈ ys, ∃ z, y = V.int z := fun y hy => by
    obtain ⟨z, _, rfl⟩ := List.mem_map.mp (h.mem_iff.mp hy)
    exact ⟨z, rfl⟩
  let g : V → Int := fun v => match v with
    | .int z => z
    | _ => 0
  have e : ys = (ys.map g).map V.int := by
    rw [List.map_map]
    refine (List.map_id ys).symm.trans (List.map_congr_left fun y hy => ?_)
    obtain ⟨z, rfl⟩ := hm y hy
    rfl
  refine ⟨ys.map g, e, ?_⟩
  have h2 := h.map g
  rw [List.map_map] at h2
  have e2 : (js.map (g ∘ V.int)) = js := (List.map_congr_left fun y _ => rfl).trans (List.map_id js)
  rw [e2] at h2
  exact h2
section
variable {P : Program} {w : World} {K : PySem.W.Frag} {mg : Str → Option Value} {base : Heap}
theorem bGrown (Z : LawD K mg) : Binds K (Z.d 38) ["_law_stream", "_law_names", "_law_pins"] [] := (Z.F 38 (by decide)).binds fun _ _ _ _ _ _ us hl => match us, hl with | [_, _, _], _ => rfl
theorem ok_a_grown (Z : LawD K mg) : FnOk P w K mg base CX0 3 (Z.f 38) (Z.d 38) ["_law_stream", "_law_names", "_law_pins"] spGrown := by
  have GM : FnOk P w K mg base CX0 2 Z.s.fM Z.s.dM ["_law_stream", "_law_some"] (spMx K) := ok_mx Z.s
  have GD : FnOk P w K mg base CX0 1 Z.s.fD Z.s.dD ["_law_stream", "_law_many"] spDr := ok_dr Z.s
  have GT : FnOk P w K mg base CX0 1 (Z.f 34) (Z.d 34) N_a_tie spTie := ok_a_tie Z
  have GS : FnOk P w K mg base CX0 1 (Z.f 37) (Z.d 37) ["_law_face", "_law_ends"] spSplit := ok_a_split Z
  refine Fun.ok (Z.F 38 (by decide)) sc_a_grown (fun vs H Q E h => ?_) (fun cdv A outer s H vs Q E hr h => ⟨_, pss_cons (ps_par (i := 3) (j := 4) rfl sc_a_grown.nd rfl rfl (by decide) rfl rfl (pa_cons (pe_slice sl_list (pv 1) po_none (po_some (pv 2))) (pa_cons (pe_lst pa_nil) pa_nil)) (by rfl))
  (pss_cons (ps_for PassesOwn.never rfl (pi_range1 (by rfl) (Z.free "range" (by decide)) (pa_cons (pv 2) pa_nil)) (pg_name (i := 5) sc_a_grown.nd rfl (Or.inr rfl))
    (pss_one (ps_if (PW.pt (pw_and (pt_cmpR op_gt (pv 2) pe_int (nomark _)) (pw_and1 (pt_cmpR op_eq (pe_call GD (hr.mono (by decide)) (by rfl) Z.s.gD Z.s.FD.kp (bDr Z.s) .nil pass0 (pa_cons (pv 0) (pa_cons pe_int pa_nil))) pe_int (nomark _))))) (pss_one (ps_expr (pe_bm PySem.F.plainAttrs_list PySem.F.slot_list_append PySem.F.type_list_append mt_append (pv 4) (pa_cons (pe_call GT (hr.mono (by decide)) (by rfl) (Z.g 34 (by decide)) (Z.F 34 (by decide)).kp (bTie Z) .nil pass0 (pa_cons (pe_ix ix_list (pv 3) (pv 5) (fun _ _ => rfl)) (pa_cons (pe_ix ix_list (pv 3) (pe_op op_sub (pv 5) pe_int) (fun _ _ => rfl)) pa_nil))) pa_nil)))) pss_nil)))
  (pss_cons (ps_set (i := 6) sc_a_grown.nd rfl (Or.inr rfl) (pe_lst (pa_cons (pe_callTy call_list_of (by rfl) Z.t.list PyProof.Rows.boot_list (pa_cons (pv 3) pa_nil)) pa_nil)))
  (pss_cons (ps_for PassesOwn.never rfl (pi_list (pe_slice sl_list (pv 1) (po_some (pv 2)) po_none)) (pg_name (i := 7) sc_a_grown.nd rfl (Or.inr rfl))
    (pss_cons (ps_set (i := 8) sc_a_grown.nd rfl (Or.inl rfl) (pe_bm PySem.F.plainAttrs_list PySem.F.slot_list_pop PySem.F.type_list_pop mt_popAt (pv 6) (pa_cons (pe_call GD (hr.mono (by decide)) (by rfl) Z.s.gD Z.s.FD.kp (bDr Z.s) .nil pass0 (pa_cons (pv 0) (pa_cons (pe_callB call_len_seq (by rfl) Z.t.len PySem.boot_len (pa_cons (pv 6) pa_nil)) pa_nil))) pa_nil)))
  (pss_cons (ps_set (i := 9) sc_a_grown.nd rfl (Or.inr rfl) (pe_slice sl_list (pe_call GM hr (by rfl) Z.s.gM Z.s.FM.kp (bMx Z.s) .nil pass0 (pa_cons (pv 0) (pa_cons (pv 8) pa_nil))) po_none (po_some (pe_op op_add pe_int (pe_call GD (hr.mono (by decide)) (by rfl) Z.s.gD Z.s.FD.kp (bDr Z.s) .nil pass0 (pa_cons (pv 0) (pa_cons pe_int pa_nil)))))))
  (pss_cons (ps_setLc (i := 10) (own := [("_law_place", 11)]) (tt := tTest (tOp (rIn K false) (tVar 11) (tVar 9))) rfl sc_a_grown.nd rfl rfl (by rfl) (pi_list (pv 8)) (blkOk_by (own := [("_law_place", 11)]) (N := N_a_grown) (sc := defScope (topS 38)) (by decide +kernel)) (fun _ _ _ _ _ => (pg_name (i := 11) sc_a_grown.nd rfl (Or.inl rfl))) (fun _ _ _ _ _ => (pts_one (pt_cmpR op_in_seq (pv 11) (pv 9) (by rfl)))) (fun _ _ _ _ _ => (pv 11)))
  (pss_cons (ps_expr (pe_bm PySem.F.plainAttrs_list PySem.F.slot_list_extend PySem.F.type_list_extend mt_extend (pv 4) (pa_cons (pe_lc (own := [("_law_end", 12)]) (tt := tYes) rfl sc_a_grown.nd (pi_list (pv 10)) (blkOk_by (own := [("_law_end", 12)]) (N := N_a_grown) (sc := defScope (topS 38)) (by decide +kernel)) (fun _ _ _ _ _ => (pg_name (i := 12) sc_a_grown.nd rfl (Or.inl rfl))) (fun _ _ _ _ _ => pts_nil) (fun _ _ _ _ _ => (pe_call GT (hr.mono (by decide)) (by rfl) (Z.g 34 (by decide)) (Z.F 34 (by decide)).kp (bTie Z) .nil pass0 (pa_cons (pv 7) (pa_cons (pv 12) pa_nil))))) pa_nil)))
  (pss_one (ps_expr (pe_bm PySem.F.plainAttrs_list PySem.F.slot_list_extend PySem.F.type_list_extend mt_extend (pv 6) (pa_cons (pe_ifExp (pt_cmpR op_gt (pe_callB call_len_seq (by rfl) Z.t.len PySem.boot_len (pa_cons (pv 10) pa_nil)) pe_int (nomark _)) (pe_lc (own := [("_law_row", 13)]) (tt := tYes) rfl sc_a_grown.nd (pi_list (pe_call GS (hr.mono (by decide)) (by rfl) (Z.g 37 (by decide)) (Z.F 37 (by decide)).kp (bSplit Z) .nil pass0 (pa_cons (pv 8) (pa_cons (pv 10) pa_nil)))) (blkOk_by (own := [("_law_row", 13)]) (N := N_a_grown) (sc := defScope (topS 38)) (by decide +kernel)) (fun _ _ _ _ _ => (pg_name (i := 13) sc_a_grown.nd rfl (Or.inl rfl))) (fun _ _ _ _ _ => pts_nil) (fun _ _ _ _ _ => (pe_op op_cat (pe_lst (pa_cons (pv 7) pa_nil)) (pv 13)))) (pe_lst (pa_cons (pv 8) pa_nil))) pa_nil)))))))))
  (pss_cons (ps_for PassesOwn.never rfl (pi_range1 (by rfl) (Z.free "range" (by decide)) (pa_cons (pe_callB call_len_seq (by rfl) Z.t.len PySem.boot_len (pa_cons (pv 1) pa_nil)) pa_nil)) (pg_name (i := 14) sc_a_grown.nd rfl (Or.inl rfl))
    (pss_cons (ps_set (i := 5) sc_a_grown.nd rfl (Or.inr rfl) (pe_call GD (hr.mono (by decide)) (by rfl) Z.s.gD Z.s.FD.kp (bDr Z.s) .nil pass0 (pa_cons (pv 0) (pa_cons (pe_callB call_len_seq (by rfl) Z.t.len PySem.boot_len (pa_cons (pv 6) pa_nil)) pa_nil))))
  (pss_cons (ps_set (i := 10) sc_a_grown.nd rfl (Or.inl rfl) (pe_callB cr_sortedI (by rfl) Z.t.sorted boot_sorted (pa_cons (pe_slice sl_list (pe_call GM hr (by rfl) Z.s.gM Z.s.FM.kp (bMx Z.s) .nil pass0 (pa_cons (pv 0) (pa_cons (pe_listRg rfl (by rfl) Z.t.list (prg_1 (by rfl) (Z.free "range" (by decide)) (pe_callB call_len_seq (by rfl) Z.t.len PySem.boot_len (pa_cons (pe_ix ix_list (pv 6) (pv 5) (fun _ _ => rfl)) pa_nil)))) pa_nil))) po_none (po_some pe_int)) pa_nil)))
  (pss_cons (ps_setLc (i := 15) (own := [("_law_end", 12)]) (tt := tYes) (te := tOp (rIxL K) (tOp (rIxL K) (tVar 6) (tVar 5)) (tVar 12)) rfl sc_a_grown.nd rfl rfl (by rfl) (pi_list (pv 10)) (blkOk_by (own := [("_law_end", 12)]) (N := N_a_grown) (sc := defScope (topS 38)) (by decide +kernel)) (fun _ _ _ _ _ => (pg_name (i := 12) sc_a_grown.nd rfl (Or.inl rfl))) (fun _ _ _ _ _ => pts_nil) (fun _ _ _ _ _ => (pe_ix ix_list (pe_ix ix_list (pv 6) (pv 5) (fun _ _ => rfl)) (pv 12) (fun _ _ => rfl))))
  (pss_one (ps_if (PW.pt (pw_and (pt_cmpR op_eq (pe_callB call_len_seq (by rfl) Z.t.len PySem.boot_len (pa_cons (pv 15) pa_nil)) pe_int (nomark _)) (pw_and (pt_chain op_lt op_lt pe_int (pe_op op_sub (pe_ix ix_list (pv 10) pe_int (fun _ _ => rfl)) (pe_ix ix_list (pv 10) pe_int (fun _ _ => rfl))) (pe_op op_sub (pe_callB call_len_seq (by rfl) Z.t.len PySem.boot_len (pa_cons (pe_ix ix_list (pv 6) (pv 5) (fun _ _ => rfl)) pa_nil)) pe_int)) (pw_and1 (pt_cmpR (op_notInD (hu65 hr)) (pe_call GT (hr.mono (by decide)) (by rfl) (Z.g 34 (by decide)) (Z.F 34 (by decide)).kp (bTie Z) .nil pass0 (pa_cons (pe_ix ix_list (pv 15) pe_int (fun _ _ => rfl)) (pa_cons (pe_ix ix_list (pv 15) pe_int (fun _ _ => rfl)) pa_nil))) (pv 4) (by rfl)))))) (pss_cons (ps_set (i := 8) sc_a_grown.nd rfl (Or.inl rfl) (pe_bm PySem.F.plainAttrs_list PySem.F.slot_list_pop PySem.F.type_list_pop mt_popAt (pv 6) (pa_cons (pv 5) pa_nil)))
  (pss_cons (ps_expr (pe_bm PySem.F.plainAttrs_list PySem.F.slot_list_append PySem.F.type_list_append mt_append (pv 4) (pa_cons (pe_call GT (hr.mono (by decide)) (by rfl) (Z.g 34 (by decide)) (Z.F 34 (by decide)).kp (bTie Z) .nil pass0 (pa_cons (pe_ix ix_list (pv 15) pe_int (fun _ _ => rfl)) (pa_cons (pe_ix ix_list (pv 15) pe_int (fun _ _ => rfl)) pa_nil))) pa_nil)))
  (pss_one (ps_expr (pe_bm PySem.F.plainAttrs_list PySem.F.slot_list_extend PySem.F.type_list_extend mt_extend (pv 6) (pa_cons (pe_call GS (hr.mono (by decide)) (by rfl) (Z.g 37 (by decide)) (Z.F 37 (by decide)).kp (bSplit Z) .nil pass0 (pa_cons (pv 8) (pa_cons (pv 15) pa_nil))) pa_nil)))))) pss_nil))))))
  (pss_one (ps_ret (pe_tup (pa_cons (pe_callTy call_list_of (by rfl) Z.t.list PyProof.Rows.boot_list (pa_cons (pv 1) pa_nil)) (pa_cons (pe_callB cr_sortP (by rfl) Z.t.sorted boot_sorted (pa_cons (pv 4) pa_nil)) (pa_cons (pe_callTy call_list_of (by rfl) Z.t.list PyProof.Rows.boot_list (pa_cons (pv 3) pa_nil)) (pa_cons (pv 6) pa_nil)))))))))))
  , ?_⟩)
  · obtain ⟨p, l, q, n, pins, ns, rfl, _⟩ := h
    rfl
  · obtain ⟨p, l, q, n, pins, ns, rfl, S, hn, hq, qp, ql, ndn, nmn, ln, lp, k⟩ := h
    have hqn : H q ≠ none := by rw [hq]; intro z; cases z
    refine ⟨_, rfl, _, rfl, pins, rfl, q, _, rfl, SqL.of hq, fun r3 n3 => ⟨Nat.zero_le _, fun r4 n4' => ⟨_, _, rfl, ?_⟩⟩⟩
    rw [cut_to, ← List.map_take] at n4' ⊢
    have F3 : Fr H p l n (upd H r3 (.lst ((ns.take pins).map V.str))) := S.fr.put n3
    have n4 := F3.free n4'
    have e34 : r3 ≠ r4 := ne_of_none upd_same n4'
    have q3 : q ≠ r3 := ne_of_none hq n3
    have q4 : q ≠ r4 := ne_of_none hq n4
    have lrim : (ns.take pins).length = pins := by rw [List.length_take]; omega
    have ndr : (ns.take pins).Nodup := ndn.sublist (List.take_sublist _ _)
    generalize hrim : ns.take pins = rim at *
    refine ⟨_, rfl, pins, rfl, by omega, by omega, for_it walk_range (fun i σ H' => ∃ v5 tv ts, σ = [some (.ref p), some (.ref q), some (.int (pins : Int)), some (.ref r3), some (.ref r4), v5, none, none, none, none, none, none, none, none, none, none] ∧ H' q = some (.lst (ns.map V.str)) ∧ H' r3 = some (.lst (rim.map V.str)) ∧
        H' r4 = some (.lst tv) ∧ PrsAt H' tv ts ∧ TsOk rim ts ∧ (∀ x ∈ ts, ∃ j a b, j < i ∧ x = tp a b ∧ rim[j]? = some a ∧ rim[if j = 0 then rim.length - 1 else j - 1]? = some b) ∧ (∀ t, V.ref t ∈ tv → H t = none) ∧ Fr H p l (n + i) H')
      ⟨none, [], [], rfl, by rw [upd_ne q4, upd_ne q3]; exact hq, by rw [upd_ne e34]; exact upd_same, upd_same, PrsAt.nil, TsOk.nil, by simp, (fun t ht => by cases ht), F3.put n4⟩ (fun _ _ _ _ _ => True.intro) ?_ ?_⟩
    · rintro i x σ H' H'' hi ⟨v5, tv, ts, rfl, hq', h3', h4', pt, tok, tin, fr, F'⟩ ⟨rfl, ex⟩
      obtain rfl : x = .int (i : Int) := ex.trans (congrArg V.int (Int.zero_add _))
      have hi' : i < rim.length := by omega
      have skip : ∀ H2, Fr H'' p l (n + i + 1) H2 → ∃ v5 tv ts, [some (V.ref p), some (.ref q), some (.int (pins : Int)), some (.ref r3), some (.ref r4), some (.int (i : Int)), none, none, none, none, none, none, none, none, none, none] = [some (.ref p), some (.ref q), some (.int (pins : Int)), some (.ref r3), some (.ref r4), v5, none, none, none, none, none, none, none, none, none, none] ∧ H2 q = some (.lst (ns.map V.str)) ∧ H2 r3 = some (.lst (rim.map V.str)) ∧
        H2 r4 = some (.lst tv) ∧ PrsAt H2 tv ts ∧ TsOk rim ts ∧ (∀ x ∈ ts, ∃ j a b, j < i + 1 ∧ x = tp a b ∧ rim[j]? = some a ∧ rim[if j = 0 then rim.length - 1 else j - 1]? = some b) ∧ (∀ t, V.ref t ∈ tv → H t = none) ∧ Fr H p l (n + (i + 1)) H2 := fun H2 F2 =>
        ⟨_, tv, ts, rfl, F2.but _ _ hq' qp ql, F'.keep F2 n3 h3', F'.keep F2 n4 h4', prs_keep F' F2 pt fr, tok, fun x hx => let ⟨j, a, b, h1, h2⟩ := tin x hx; ⟨j, a, b, by omega, h2⟩, fr, F'.trans F2⟩
      refine ⟨_, rfl, _, _, rfl, rfl, _, rfl, ?_⟩
      refine ite2 (fun c => ?_) (fun c => ?_)
      · refine ⟨_, rfl, p, l, n + i, 2, rfl, F'.st, by omega, by decide, by decide, fun r H2 hr2 F2 => ⟨rfl, _, rfl, ?_⟩⟩
        refine ite2 (fun c2 => ?_) (fun c2 => ?_)
        · have hL : 2 < rim.length := by
            have := of_decide_eq_true c
            omega
          have h42 := F'.keep F2 n4 h4'
          have h32 := F'.keep F2 n3 h3'
          have F12 := F'.trans F2
          have ea : rim[i]? = some rim[i] := List.getElem?_eq_getElem hi'
          obtain ⟨b, eb0, eb⟩ := atI_pred (xs := rim.map V.str) (i := i) (by rw [List.length_map]; exact hi')
          rw [List.length_map, List.getElem?_map] at eb
          obtain ⟨b', ebr, rfl⟩ : ∃ b', rim[if i = 0 then rim.length - 1 else i - 1]? = some b' ∧ b = V.str b' := by
            cases e : rim[if i = 0 then rim.length - 1 else i - 1]? with
            | none => rw [e] at eb; cases eb
            | some b' => rw [e] at eb; exact ⟨b', rfl, by injection eb with eb; exact eb.symm⟩
          have idx : ∀ {i1 i2 : Nat} {x : Str}, rim[i1]? = some x → rim[i2]? = some x → i1 = i2 := fun {i1 i2 x} h1 h2 => (List.getElem?_inj (List.getElem?_eq_some_iff.mp h1).1 ndr).mp (h1.trans h2.symm)
          have nab : b' ≠ rim[i] := fun e => by
            have := idx (e ▸ ebr) ea
            split at this <;> omega
          have nin : tp rim[i] b' ∉ ts := fun hm => by
            obtain ⟨j, a1, b1, hj, e1, e2, e3⟩ := tin _ hm
            rcases tp_eq e1 with ⟨h1, _⟩ | ⟨h1, h2⟩
            · have := idx ea (h1 ▸ e2)
              omega
            · have k1 := idx ea (h1 ▸ e3)
              have k2 := idx ebr (h2 ▸ e2)
              split at k1 <;> split at k2 <;> omega
          have tok2 : TsOk rim (ts ++ [tp rim[i] b']) := tok.fan (es := [b']) (List.mem_of_getElem? ea) (fun e he => by rw [List.mem_singleton.mp he]; exact ⟨List.mem_of_getElem? ebr, nab⟩) (by simp) (fun e he => by rw [List.mem_singleton.mp he]; exact nin)
          refine ⟨_, rfl, .inl ⟨rfl, _, SqL.of h42⟩, _, rfl, _, rfl, r3, _, _, _, rfl, rfl, SqL.of h32, atI_nat (by rw [List.getElem?_map, ea]; rfl), _, rfl, _, rfl, _, _, rfl, rfl, r3, _, _, _, rfl, rfl, SqL.of h32, eb0, _, _, rfl, fun t nt => ?_⟩
          have pt2 := prs_keep F' F2 pt fr
          have t4 : r4 ≠ t := ne_of_none h42 nt
          have F3 := F12.put (F12.free nt) (o := .tup [.str (tp rim[i] b').1, .str (tp rim[i] b').2])
          refine ⟨r4, tv, .ref t, rfl, rfl, by rw [upd_ne t4]; exact h42, ?_, _, tv ++ [.ref t], ts ++ [tp rim[i] b'], rfl, ?_, ?_, upd_same, ?_, tok2, ?_, ?_, ?_⟩
          · have := tok.len (by omega)
            rw [pt.1]
            exact small1000 (by omega)
          · have h := F2.but _ _ hq' qp ql
            rw [upd_ne q4, upd_ne (ne_of_none h nt)]
            exact h
          · rw [upd_ne e34, upd_ne (ne_of_none h32 nt)]
            exact h32
          · refine prs_upd (prs_snoc (prs_upd pt2 (fun xs e => by rw [nt] at e; cases e)) upd_same) (fun xs e => ?_)
            rw [upd_ne t4, h42] at e
            cases e
          · intro x hx
            rcases List.mem_append.mp hx with hx | hx
            · obtain ⟨j, a1, b1, h1, h2⟩ := tin x hx
              exact ⟨j, a1, b1, by omega, h2⟩
            · rw [List.mem_singleton.mp hx]
              exact ⟨i, _, _, by omega, rfl, ea, ebr⟩
          · intro t' ht'
            rcases List.mem_append.mp ht' with h | h
            · exact fr t' h
            · cases List.mem_singleton.mp h
              exact F12.free nt
          · exact F3.put n4
        · exact skip H2 F2
      · exact skip H'' (F'.st.fr.mono (by omega))
    · rintro σ H1 ⟨v5, tv, ts, rfl, hq1, h31, h41, pt, tok, _, fr, F1⟩
      refine ⟨_, rfl, r3, _, rfl, .inl (SqL.of h31), fun f0 nf0 => ⟨by show 1 ≤ sizeLine; decide, fun r6 nr6 => ?_⟩⟩
      have nf0H := F1.free nf0
      have Fa : Fr H p l _ (upd H1 f0 (.lst (rim.map V.str))) := F1.put nf0H
      have n6 := Fa.free nr6
      have f06 : f0 ≠ r6 := ne_of_none upd_same nr6
      have f04 : f0 ≠ r4 := (ne_of_none h41 nf0).symm
      have a3 : (upd H1 f0 (.lst (rim.map V.str))) r3 = some (.lst (rim.map V.str)) := new_same nf0 _ _ h31
      have a4 : (upd H1 f0 (.lst (rim.map V.str))) r4 = some (.lst tv) := new_same nf0 _ _ h41
      have aq : (upd H1 f0 (.lst (rim.map V.str))) q = some (.lst (ns.map V.str)) := new_same nf0 _ _ hq1
      have e36 : r3 ≠ r6 := ne_of_none a3 nr6
      have e46 : r4 ≠ r6 := ne_of_none a4 nr6
      have q6 : q ≠ r6 := ne_of_none hq n6
      have GA0 : GA H p l q r3 r4 r6 := ⟨n3, n4, n6, e34, e36, e46, qp, ql, q4, q6⟩
      have G0 : GI H p l q r3 r4 r6 ns rim (ns.take (pins + 0)) (n + 40 + 100 * 0) tv ts [.ref f0] (upd (upd H1 f0 (.lst (rim.map V.str))) r6 (.lst [.ref f0])) := by
        rw [Nat.add_zero, hrim]
        refine ⟨new_same nr6 _ _ aq, new_same nr6 _ _ a3, new_same nr6 _ _ a4, prs_upd (prs_upd pt (fun xs e => by rw [nf0] at e; cases e)) (fun xs e => by rw [nr6] at e; cases e), upd_same, FcAt.one (f := rim) (by rw [upd_ne f06]; exact upd_same) ndr (fun z hz => hz) ⟨nf0H, f04, f06⟩, tok, fr, (Fa.put n6).mono (by omega)⟩
      refine ⟨_, rfl, _, rfl, pins, rfl, q, _, rfl, SqL.of G0.vq, fun s2 ns2 => ⟨s2, rfl, ⟨_, SqL.of upd_same⟩, ?_⟩⟩
      rw [cut_from, ← List.map_drop] at *
      have ns2H := G0.F.free ns2
      have G1 := G0.new ns2 (o := .lst ((ns.drop pins).map V.str))
      refine for_list (xs := (ns.drop pins).map V.str) (fun j σ H' => ∃ v5 v7 v8 v9 v10 tv ts fs, σ = [some (.ref p), some (.ref q), some (.int (pins : Int)), some (.ref r3), some (.ref r4), v5, some (.ref r6), v7, v8, v9, v10, none, none, none, none, none] ∧ H' s2 = some (.lst ((ns.drop pins).map V.str)) ∧
          GI H p l q r3 r4 r6 ns rim (ns.take (pins + j)) (n + 40 + 100 * j) tv ts fs H' ∧ 0 < fs.length ∧ fs.length ≤ 1 + 45 * j) ⟨_, _, _, _, _, tv, ts, [.ref f0], rfl, upd_same, G1, Nat.one_pos, Nat.le_refl _⟩ (fun j σ H' _ ⟨_, _, _, _, _, _, _, _, _, h, _⟩ => SqL.of h) ?_ ?_
      · rintro j x σ H2 hx ⟨v5, v7, v8, v9, v10, tv, ts, fs, rfl, hs2, G, fpos, flen⟩
        rw [List.getElem?_map] at hx
        cases ez : (ns.drop pins)[j]? with
        | none => rw [ez] at hx; cases hx
        | some z =>
          rw [ez] at hx
          cases hx
          have ezn : ns[pins + j]? = some z := by rw [List.getElem?_drop] at ez; exact ez
          have jl : pins + j < ns.length := (List.getElem?_eq_some_iff.mp ezn).1
          have znt : z ∉ ns.take (pins + j) := take_mem ndn ezn
          have lim1 : ns.take (pins + (j + 1)) = ns.take (pins + j) ++ [z] := take_snoc ezn
          have subl : ∀ y ∈ ns.take (pins + j), y ∈ ns.take (pins + (j + 1)) := fun y hy => by rw [lim1]; exact List.mem_append_left _ hy
          have zin : z ∈ ns.take (pins + (j + 1)) := by rw [lim1]; exact List.mem_append_right _ (List.mem_singleton.mpr rfl)
          -- a face is taken
          refine ⟨_, rfl, .inl ⟨rfl, _, SqL.of G.v6⟩, _, rfl, _, rfl, r6, fs, rfl, .inl (SqL.of G.v6), p, l, _, fs.length, rfl, G.F.st, by omega, fpos, by omega, fun kk H3 hk F3 => ?_⟩
          have Ga := G.step GA0 F3
          have s23 := G.F.keep F3 ns2H hs2
          have ev : fs[kk]? = some fs[kk] := List.getElem?_eq_getElem hk
          obtain ⟨a, f, eva, ha, ndf, fin, na⟩ := Ga.fc _ (List.mem_of_getElem? ev)
          rw [eva] at ev
          refine ⟨r6, fs, (kk : Nat), kk, .ref a, rfl, rfl, Ga.v6, by omega, by omega, seqNat (by omega) (by omega), ev, ?_⟩
          have Gb := Ga.face GA0 (fs2 := fs.eraseIdx kk) (Ga.fc.sub fun v hv => List.mem_of_mem_eraseIdx hv)
          have s26 : s2 ≠ r6 := fun e => by
            have h1 := Ga.v6
            rw [← e, s23] at h1
            injection h1 with h1
            injection h1 with h1
            have := List.mem_of_getElem? ev
            rw [← h1] at this
            obtain ⟨y, _, e⟩ := List.mem_map.mp this
            cases e
          have s24 : (upd H3 r6 (.lst (fs.eraseIdx kk))) s2 = some (.lst ((ns.drop pins).map V.str)) := by rw [upd_ne s26]; exact s23
          have ha4 : (upd H3 r6 (.lst (fs.eraseIdx kk))) a = some (.lst (f.map V.str)) := by rw [upd_ne na.2.2]; exact ha
          have lf : f.length ≤ 40 := by
            have := ndf.length_le_of_subset (l₂ := ns) (fun y hy => List.mem_of_mem_take (fin y hy))
            omega
          -- some of it
          refine ⟨_, rfl, _, rfl, p, l, a, _, f.map V.str, rfl, Gb.F.st, by omega, SqL.of ha4, by rw [List.length_map]; omega, fun s9 ys H5 hperm F5 ns9 hs9 => ?_⟩
          obtain ⟨gs, rfl, gperm⟩ := strs_perm hperm
          have Gc := Gb.step GA0 F5
          have s25 := Gb.F.keep F5 ns2H s24
          have ha5 := Gb.F.keep F5 na.1 ha4
          refine ⟨_, rfl, p, l, _, 3, rfl, Gc.F.st, by rw [List.length_map]; omega, by decide, by decide, fun d H6 hd F6 => ?_⟩
          have Gd := Gc.step GA0 F6
          have s2f := Gc.F.keep F6 ns2H s25
          have ha6 := Gc.F.keep F6 na.1 ha5
          have ns9H := Gb.F.free ns9
          have hs96 := Gc.F.keep F6 ns9H hs9
          refine ⟨_, _, rfl, rfl, _, rfl, s9, _, rfl, SqL.of hs96, fun s10 ns10 => ?_⟩
          rw [show ((2 : Int) + (d : Int)) = ((2 + d : Nat) : Int) from rfl, cut_to, ← List.map_take] at *
          generalize hgt : gs.take (2 + d) = g2 at *
          have Ge := Gd.new ns10 (o := .lst (g2.map V.str))
          have s2g := new_same ns10 (o := .lst (g2.map V.str)) _ _ s2f
          have ha7 := new_same ns10 (o := .lst (g2.map V.str)) _ _ ha6
          -- the ends
          refine ⟨_, rfl, a, rfl, ⟨_, SqL.of ha7⟩, fun D hD => ?_⟩
          have nDH := Ge.F.free hD
          refine lc_list (xs := f.map V.str) (fun i H' => ∃ es : List Str, H' D = some (.lst (es.map V.str)) ∧ es.Sublist (f.take i) ∧ Same (upd H6 s10 (.lst (g2.map V.str))) H') ⟨[], upd_same, List.nil_sublist _, new_same hD⟩ (fun i H' _ ⟨_, _, _, S'⟩ => SqL.of (S' _ _ ha7)) ?_ ?_
          · rintro i x H' hx ⟨es, he, sub, S'⟩
            rw [List.getElem?_map] at hx
            cases ey : f[i]? with
            | none => rw [ey] at hx; cases hx
            | some y =>
              rw [ey] at hx
              cases hx
              refine ⟨rfl, _, rfl, _, rfl, s10, _, rfl, .inl (SqL.of (S' _ _ upd_same)), rfl, flat_strs _, _, rfl, ?_⟩
              refine ite2 (fun _ => ⟨_, rfl, es.map V.str, he, ?_, es ++ [y], ?_, ?_, ?_⟩) (fun _ => ⟨es, he, ?_, S'⟩)
              · rw [List.length_map]
                have := sub.length_le
                rw [List.length_take] at this
                exact small1000 (by omega)
              · rw [upd_same, List.map_append]
                rfl
              · rw [take_snoc ey]
                exact sub.append (List.Sublist.refl _)
              · exact fun b o e => by
                  rw [upd_ne (ne_of_none e hD)]
                  exact S' _ _ e
              · rw [take_snoc ey]
                exact sub.trans (List.sublist_append_left _ _)
          rintro H7 ⟨es, he, sub, S7⟩
          rw [List.length_map, List.take_length] at sub
          have Gf := Ge.same S7
          have s2h := S7 _ _ s2g
          have ha8 := S7 _ _ ha7
          have nde : es.Nodup := ndf.sublist sub
          have ein : ∀ e ∈ es, e ∈ ns.take (pins + j) := fun e h => fin e (sub.subset h)
          have le : es.length ≤ 40 := Nat.le_trans sub.length_le lf
          -- their ties
          refine ⟨_, rfl, .inl ⟨rfl, _, SqL.of Gf.v4⟩, _, rfl, D, rfl, ⟨_, SqL.of he⟩, fun D2 hD2 => ?_⟩
          have nD2H := Gf.F.free hD2
          refine lc_list (xs := es.map V.str) (fun i H' => ∃ acc, H' D2 = some (.lst acc) ∧ PrsAt H' acc ((es.take i).map (tp z)) ∧ (∀ t, V.ref t ∈ acc → H t = none) ∧ Same H7 H') ⟨[], upd_same, PrsAt.nil, (fun t ht => by cases ht), new_same hD2⟩ (fun i H' _ ⟨_, _, _, _, S'⟩ => SqL.of (S' _ _ he)) ?_ ?_
          · rintro i x H' hx ⟨acc, hacc, pa, fa, S'⟩
            rw [List.getElem?_map] at hx
            cases ey : es[i]? with
            | none => rw [ey] at hx; cases hx
            | some y =>
              rw [ey] at hx
              cases hx
              have il := (List.getElem?_eq_some_iff.mp ey).1
              refine ⟨rfl, yes_of ⟨_, rfl, _, rfl, z, y, rfl, fun t nt => ⟨acc, by rw [upd_ne (ne_of_none hacc nt)]; exact hacc, ?_, acc ++ [.ref t], upd_same, ?_, ?_, ?_⟩⟩⟩
              · rw [pa.1, List.length_map, List.length_take]
                exact small1000 (by omega)
              · rw [take_snoc ey, List.map_append]
                refine prs_upd (prs_snoc (prs_upd pa (fun xs e => by rw [nt] at e; cases e)) upd_same) (fun xs e => ?_)
                rw [upd_ne (ne_of_none hacc nt), hacc] at e
                cases e
              · intro t' ht'
                rcases List.mem_append.mp ht' with h | h
                · exact fa t' h
                · cases List.mem_singleton.mp h
                  exact (Gf.F.same S').free nt
              · exact fun b o e => by
                  rw [upd_ne (ne_of_none e hD2), upd_ne (ne_of_none (S' _ _ e) nt)]
                  exact S' _ _ e
          rintro H8 ⟨acc, hacc, pa, fa, S8⟩
          rw [List.length_map, List.take_length] at pa
          have Gg := Gf.same S8
          have tok2 : TsOk (ns.take (pins + (j + 1))) (ts ++ es.map (tp z)) := (Gg.tok.mono subl).fan zin (fun e h => ⟨subl _ (ein e h), fun q => znt (q ▸ ein e h)⟩) nde (fun e h hm => by
            obtain ⟨k1, k2, _⟩ := Gg.tok.ok _ hm
            rcases tp_cases z e with q | q <;> rw [q] at k1 k2
            · exact znt k1
            · exact znt k2)
          have lim44 : (ns.take (pins + (j + 1))).length ≤ 44 := by rw [List.length_take]; omega
          have len2 := tok2.len lim44
          refine ⟨r4, D2, tv, acc, rfl, rfl, Gg.v4, hacc, ?_, ?_⟩
          · have := (prs_app Gg.pt pa).1
            rw [List.length_append] at this
            have h3 := small1000 (n := (ts ++ es.map (tp z)).length) (by omega)
            omega
          have Gh := Gg.tie GA0 (prs_app Gg.pt pa) tok2 (fun t ht => by
            rcases List.mem_append.mp ht with h | h
            · exact Gg.fr t h
            · exact fa t h) subl
          have ha9 : (upd H8 r4 (.lst (tv ++ acc))) a = some (.lst (f.map V.str)) := by rw [upd_ne na.2.1]; exact S8 _ _ ha8
          have D4 : D ≠ r4 := (ne_of_none Ge.v4 hD).symm
          have he9 : (upd H8 r4 (.lst (tv ++ acc))) D = some (.lst (es.map V.str)) := by rw [upd_ne D4]; exact S8 _ _ he
          have s2r4 : s2 ≠ r4 := (ne_of_none G0.v4 ns2).symm
          have s29 : (upd H8 r4 (.lst (tv ++ acc))) s2 = some (.lst ((ns.drop pins).map V.str)) := by rw [upd_ne s2r4]; exact S8 _ _ s2h
          have lfe : (fs.eraseIdx kk).length = fs.length - 1 := List.length_eraseIdx_of_lt hk
          -- what comes of the face
          have done : ∀ (D3 : Addr) (acc2 : List V) (H10 : Hp) (m10 : Nat), m10 ≤ 40 → acc2.length = m10 → 0 < m10 → Same (upd H8 r4 (.lst (tv ++ acc))) H10 → H10 D3 = some (.lst acc2) → FcAt (Nf H r4 r6) H10 acc2 (fun y => y ∈ ns.take (pins + (j + 1))) →
              ∃ v5' v7' v8' v9' v10' tv' ts' fs', [some (V.ref p), some (.ref q), some (.int (pins : Int)), some (.ref r3), some (.ref r4), v5, some (.ref r6), some (.str z), some (.ref a), some (.ref s10), some (.ref D), none, none, none, none, none] = [some (.ref p), some (.ref q), some (.int (pins : Int)), some (.ref r3), some (.ref r4), v5', some (.ref r6), v7', v8', v9', v10', none, none, none, none, none] ∧ (upd H10 r6 (.lst (fs.eraseIdx kk ++ acc2))) s2 = some (.lst ((ns.drop pins).map V.str)) ∧
          GI H p l q r3 r4 r6 ns rim (ns.take (pins + (j + 1))) (n + 40 + 100 * (j + 1)) tv' ts' fs' (upd H10 r6 (.lst (fs.eraseIdx kk ++ acc2))) ∧ 0 < fs'.length ∧ fs'.length ≤ 1 + 45 * (j + 1) := fun D3 acc2 H10 m10 hm lac pos S10 hD3 fc2 => by
            have Gi := Gh.same S10
            have Gj := Gi.face GA0 (fs2 := fs.eraseIdx kk ++ acc2) (Gi.fc.app fc2)
            refine ⟨_, _, _, _, _, _, _, _, rfl, by rw [upd_ne s26]; exact S10 _ _ s29, Gj.mono (by rw [List.length_map]; omega), ?_, ?_⟩
            · rw [List.length_append]; omega
            · rw [List.length_append]; omega
          refine ⟨_, rfl, .inl ⟨rfl, _, SqL.of Gh.v6⟩, _, rfl, D, _, rfl, .inl (SqL.of he9), _, _, rfl, rfl, _, rfl, ite2 (fun c => ?_) (fun c => ?_)⟩
          · have l2 : 2 ≤ es.length := by
              have := of_decide_eq_true c
              rw [List.length_map] at this
              omega
            refine ⟨_, rfl, _, rfl, a, D, f, es, rfl, ha9, he9, ndf, nde, l2, by omega, (fun y hy => sub.subset hy), fun qq rows H10 nqq hqq lrows fcr S10 => ⟨qq, rfl, ⟨_, SqL.of hqq⟩, fun D3 hD3 => ?_⟩⟩
            have Gi := Gh.same S10
            have nD3H := Gi.F.free hD3
            have D34 : D3 ≠ r4 := (ne_of_none Gi.v4 hD3).symm
            have D36 : D3 ≠ r6 := (ne_of_none Gi.v6 hD3).symm
            refine lc_list (xs := rows) (fun i H' => ∃ acc2, H' D3 = some (.lst acc2) ∧ acc2.length = i ∧ FcAt (fun c => Nf H r4 r6 c ∧ c ≠ D3) H' acc2 (fun y => y ∈ ns.take (pins + (j + 1))) ∧ Same H10 H') ⟨[], upd_same, rfl, .nil, new_same hD3⟩ (fun i H' _ ⟨_, _, _, _, S'⟩ => SqL.of (S' _ _ hqq)) ?_ ?_
            · rintro i x H' hx ⟨acc2, hacc2, lac2, fc2, S'⟩
              obtain ⟨b, g, rfl, hb, ndg, gin, nb⟩ := fcr x (List.mem_of_getElem? hx)
              have il := (List.getElem?_eq_some_iff.mp hx).1
              have hb' := S' _ _ hb
              refine ⟨rfl, yes_of ⟨_, rfl, by show 1 ≤ sizeLine; decide, fun u nu => ⟨_, rfl, u, b, [V.str z], g.map V.str, rfl, rfl, upd_same, by rw [upd_ne (ne_of_none hb' nu)]; exact hb', ?_, fun v nv => ?_⟩⟩⟩
              · rw [List.length_map]
                have := ndg.length_le_of_subset (l₂ := f) gin
                exact Nat.le_of_lt (small1000 (by simp; omega))
              · have SS := S'.trans ((new_same (o := .lst [V.str z]) nu).trans (new_same (o := .lst ([V.str z] ++ g.map V.str)) nv))
                have acc3 : (upd (upd H' u (.lst [V.str z])) v (.lst ([V.str z] ++ g.map V.str))) D3 = some (.lst acc2) := new_same nv _ _ (new_same nu _ _ hacc2)
                have vn : H v = none := (Gi.F.same S').free (show H' v = none from (new_same nu).free nv)
                have v4' : v ≠ r4 := (ne_of_none (new_same nu _ _ (S' _ _ Gi.v4)) nv).symm
                have v6' : v ≠ r6 := (ne_of_none (new_same nu _ _ (S' _ _ Gi.v6)) nv).symm
                have vD : v ≠ D3 := (ne_of_none (new_same nu _ _ hacc2) nv).symm
                refine ⟨acc2, acc3, ?_, acc2 ++ [.ref v], upd_same, ?_, ?_, ?_⟩
                · rw [lac2]
                  exact small1000 (by omega)
                · rw [List.length_append, lac2]; rfl
                · refine FcAt.put (((fc2.frame fun c o _ e => new_same nv _ _ (new_same nu _ _ e))).app (FcAt.one (f := z :: g) (by rw [upd_same]; rfl) ?_ ?_ ⟨⟨vn, v4', v6'⟩, vD⟩)) (fun z => z.2 rfl)
                  · exact List.nodup_cons.mpr ⟨fun h => znt (fin _ (gin _ h)), ndg⟩
                  · intro y hy
                    rcases List.mem_cons.mp hy with rfl | hy
                    · exact zin
                    · exact subl _ (fin _ (gin _ hy))
                · exact fun b o e => by
                    rw [upd_ne (ne_of_none e hD3)]
                    exact SS _ _ e
            · rintro H11 ⟨acc2, hacc2, lac2, fc2, S'⟩
              have Gk := Gi.same S'
              refine ⟨r6, D3, _, acc2, rfl, rfl, Gk.v6, hacc2, ?_, ?_⟩
              · have h3 : 5000 < sizeLine := by decide
                omega
              · exact done D3 acc2 H11 _ (by omega) rfl (by omega) (S10.trans S') hacc2 (fc2.weak (fun c h => h.1) fun _ h => h)
          · refine ⟨_, rfl, by show 1 ≤ sizeLine; decide, fun D3 nD3 => ⟨r6, D3, _, _, rfl, rfl, new_same nD3 _ _ Gh.v6, upd_same, ?_, ?_⟩⟩
            · have h3 : 5000 < sizeLine := by decide
              show (fs.eraseIdx kk).length + 1 ≤ sizeLine
              omega
            · exact done D3 [.ref a] _ 1 (by omega) rfl (by omega) (new_same nD3) upd_same (FcAt.one (new_same nD3 _ _ ha9) ndf (fun y hy => subl _ (fin y hy)) na)
      · rintro σ H2 ⟨v5, v7, v8, v9, v10, tv, ts, fs, rfl, hs2, G, fpos, flen⟩
        have elim : ns.take (pins + ((ns.drop pins).map V.str).length) = ns := by
          rw [List.length_map, List.length_drop]
          exact List.take_of_length_le (by omega)
        rw [elim] at G
        have l0 : ((ns.drop pins).map V.str).length ≤ 40 := by rw [List.length_map, List.length_drop]; omega
        refine ⟨_, rfl, q, _, rfl, .inl (SqL.of G.vq), _, rfl, by omega, by rw [List.length_map]; omega, for_it walk_range (fun i σ H' => ∃ v5 v7 v8 v9 v10 v14 v15 tv ts fs, σ = [some (.ref p), some (.ref q), some (.int (pins : Int)), some (.ref r3), some (.ref r4), v5, some (.ref r6), v7, v8, v9, v10, none, none, none, v14, v15] ∧
          GI H p l q r3 r4 r6 ns rim ns (n + 5000 + 100 * i) tv ts fs H' ∧ 0 < fs.length ∧ fs.length ≤ 2000 + 2 * i) ⟨v5, v7, v8, v9, v10, none, none, tv, ts, fs, rfl, G.mono (by omega), fpos, by omega⟩ (fun _ _ _ _ _ => True.intro) ?_ ?_⟩
        · rintro i x σ H' H3 hi ⟨v5, v7, v8, v9, v10, v14, v15, tv, ts, fs, rfl, G, fpos, flen⟩ ⟨rfl, ex⟩
          have hi40 : i < 40 := by
            rw [List.length_map] at hi
            omega
          have skip : ∀ (v5 v8 v10 v15 : Option V) (fs : List V) (tv : List V) (ts : List Pr) (m9 : Nat) (H9 : Hp), GI H p l q r3 r4 r6 ns rim ns m9 tv ts fs H9 → m9 ≤ n + 5000 + 100 * (i + 1) → 0 < fs.length → fs.length ≤ 2000 + 2 * (i + 1) → ∃ w5 w7 w8 w9 w10 w14 w15 tv ts fs', [some (V.ref p), some (.ref q), some (.int (pins : Int)), some (.ref r3), some (.ref r4), v5, some (.ref r6), v7, v8, v9, v10, none, none, none, some x, v15] = [some (.ref p), some (.ref q), some (.int (pins : Int)), some (.ref r3), some (.ref r4), w5, some (.ref r6), w7, w8, w9, w10, none, none, none, w14, w15] ∧
              GI H p l q r3 r4 r6 ns rim ns (n + 5000 + 100 * (i + 1)) tv ts fs' H9 ∧ 0 < fs'.length ∧ fs'.length ≤ 2000 + 2 * (i + 1) := fun v5 v8 v10 v15 fs tv ts m9 H9 G9 hm h1 h2 => ⟨v5, v7, v8, v9, v10, some x, v15, tv, ts, fs, rfl, G9.mono hm, h1, h2⟩
          refine ⟨_, rfl, _, rfl, r6, fs, rfl, .inl (SqL.of G.v6), p, l, _, fs.length, rfl, G.F.st, by omega, fpos, by omega, fun kk H4 hk F4 => ?_⟩
          have Ga := G.step GA0 F4
          have ev : fs[kk]? = some fs[kk] := List.getElem?_eq_getElem hk
          obtain ⟨a, f, eva, ha, ndf, fin, na⟩ := Ga.fc _ (List.mem_of_getElem? ev)
          rw [eva] at ev
          have lf : f.length ≤ 40 := by
            have := ndf.length_le_of_subset (l₂ := ns) fin
            omega
          refine ⟨_, rfl, _, rfl, _, rfl, r6, fs, _, _, rfl, rfl, SqL.of Ga.v6, atI_nat ev, a, _, rfl, .inl (SqL.of ha), _, rfl, RgOk.of_le (by omega) (by rw [List.length_map]; omega) (by omega) (by omega), fun q5 nq5 => ?_⟩
          have Gb := Ga.new nq5 (o := .lst (rgV 0 ((f.map V.str).length : Nat)))
          have ha5 := new_same nq5 (o := .lst (rgV 0 ((f.map V.str).length : Nat))) _ _ ha
          have erg : rgV 0 (((f.map V.str).length : Nat) : Int) = ((List.range f.length).map fun (i : Nat) => (i : Int)).map V.int := by
            unfold rgV
            rw [List.map_map, List.length_map]
            have : (((f.length : Nat) : Int) - 0).toNat = f.length := by omega
            rw [this]
            exact List.map_congr_left fun i _ => by
              show V.int (0 + (i : Int)) = V.int (i : Int)
              rw [Int.zero_add]
          refine ⟨p, l, q5, _, _, rfl, Gb.F.st, by omega, SqL.of upd_same, by rw [rgV_length, List.length_map]; omega, fun q6' ys H5 hperm F5 nq6 hq6 => ?_⟩
          rw [erg] at hperm
          obtain ⟨ks, rfl, kperm⟩ := ints_perm hperm
          have Gc := Gb.step GA0 F5
          have ha6 := Gb.F.keep F5 na.1 ha5
          refine ⟨_, rfl, q6', _, rfl, SqL.of hq6, fun q7 nq7 => ?_⟩
          have ec : cutV (ks.map V.int) none (some 2) = (ks.take 2).map V.int := by
            rw [show ((2 : Int)) = ((2 : Nat) : Int) from rfl, cut_to, List.map_take]
          rw [ec]
          have Gd := Gc.new nq7 (o := .lst ((ks.take 2).map V.int))
          have ha7 := new_same nq7 (o := .lst ((ks.take 2).map V.int)) _ _ ha6
          refine ⟨q7, ks.take 2, rfl, SqL.of upd_same, fun es q8 eperm epw nq8 => ?_⟩
          have Ge := Gd.new nq8 (o := .lst (es.map V.int))
          have ha8 := new_same nq8 (o := .lst (es.map V.int)) _ _ ha7
          have elen : es.length ≤ 2 := by
            rw [eperm.length_eq, List.length_take]
            omega
          have ndk : ks.Nodup := kperm.nodup_iff.mpr (nodup_map (fun x y _ _ h => by omega) List.nodup_range)
          have nde : es.Nodup := eperm.nodup_iff.mpr (ndk.sublist (List.take_sublist _ _))
          have ein : ∀ e ∈ es, ∃ t : Nat, e = (t : Int) ∧ t < f.length := fun e he => by
            have h1 := kperm.mem_iff.mp (List.mem_of_mem_take (eperm.mem_iff.mp he))
            obtain ⟨t, ht, rfl⟩ := List.mem_map.mp h1
            exact ⟨t, rfl, List.mem_range.mp ht⟩
          refine ⟨_, rfl, q8, rfl, ⟨_, SqL.of upd_same⟩, fun D hD => ?_⟩
          have nDH := Ge.F.free hD
          refine lc_list (xs := es.map V.int) (fun i H' => ∃ tw : List Str, H' D = some (.lst (tw.map V.str)) ∧ tw.length = i ∧ (∀ (j : Nat) (e : Int) (y : Str), es[j]? = some e → tw[j]? = some y → f[e.toNat]? = some y) ∧ Same (upd (upd H5 q7 (.lst ((ks.take 2).map V.int))) q8 (.lst (es.map V.int))) H') ⟨[], upd_same, rfl, (fun j e y _ h => by simp at h), new_same hD⟩ (fun i H' _ ⟨_, _, _, _, S'⟩ => SqL.of (S' _ _ upd_same)) ?_ ?_
          · rintro i x' H' hx ⟨tw, htw, ltw, ftw, S'⟩
            rw [List.getElem?_map] at hx
            cases ey : es[i]? with
            | none => rw [ey] at hx; cases hx
            | some e =>
              rw [ey] at hx
              cases hx
              obtain ⟨t, rfl, ht⟩ := ein e (List.mem_of_getElem? ey)
              have ef : f[t]? = some f[t] := List.getElem?_eq_getElem ht
              have Gx := Ge.same S'
              refine ⟨rfl, yes_of ⟨_, rfl, _, rfl, r6, fs, _, _, rfl, rfl, SqL.of Gx.v6, atI_nat ev, _, rfl, a, _, _, .str f[t], rfl, rfl, SqL.of (S' _ _ ha8), atI_nat (by rw [List.getElem?_map, ef]; rfl), _, htw, ?_, tw ++ [f[t]], ?_, ?_, ?_, ?_⟩⟩
              · rw [List.length_map, ltw]
                have := (List.getElem?_eq_some_iff.mp ey).1
                exact small1000 (by omega)
              · rw [upd_same, List.map_append]
                rfl
              · rw [List.length_append, ltw]; rfl
              · intro j e' y h1 h2
                rcases Nat.lt_trichotomy j tw.length with l | l | l
                · rw [List.getElem?_append_left l] at h2
                  exact ftw j e' y h1 h2
                · rw [l, ltw, ey] at h1
                  cases h1
                  rw [List.getElem?_append_right (by omega), l, Nat.sub_self] at h2
                  cases h2
                  exact ef
                · rw [List.getElem?_eq_none (by rw [List.length_append]; simp; omega)] at h2
                  cases h2
              · exact fun b o e => by
                  rw [upd_ne (ne_of_none e hD)]
                  exact S' _ _ e
          rintro H6 ⟨tw, htw, ltw, ftw, S6⟩
          rw [List.length_map] at ltw
          have lrg : (rgV 0 (((f.map V.str).length : Nat) : Int)).length ≤ 40 := by
            rw [rgV_length, List.length_map]
            omega
          have Gf := Ge.same S6
          have ha9 := S6 _ _ ha8
          have hq9 := S6 _ _ upd_same
          refine ⟨_, rfl, D, _, rfl, .inl (SqL.of htw), rfl, _, rfl, ite2 (fun c => ?_) (fun c => ?_)⟩
          · have ltw2 : tw.length = 2 := by
              have h1 : ((tw.map V.str).length : Int) = 2 := by
                have := of_decide_eq_true c
                injection this
              rw [List.length_map] at h1
              omega
            match tw, es, ltw2, (ltw.symm.trans ltw2 : es.length = 2) with
            | [x0, y0], [k0, k1], _, _ =>
              obtain ⟨t0, rfl, h0⟩ := ein k0 (by simp)
              obtain ⟨t1, rfl, h1⟩ := ein k1 (by simp)
              have f0 : f[t0]? = some x0 := ftw 0 _ x0 rfl rfl
              have f1 : f[t1]? = some y0 := ftw 1 _ y0 rfl rfl
              have tne : t0 ≠ t1 := fun e => by
                rw [e] at nde
                simp at nde
              have xy : x0 ≠ y0 := fun e => tne ((List.getElem?_inj h0 ndf).mp (by rw [f0, f1, e]))
              have xin : x0 ∈ f := List.mem_of_getElem? f0
              have yin : y0 ∈ f := List.mem_of_getElem? f1
              have dx : ∀ (S' : Same H6 H6), True := fun _ => trivial
              have gx0 : atI (([x0, y0] : List Str).map V.str) 0 = some (.str x0) := atI_nat (j := 0) rfl
              have gx1 : atI (([x0, y0] : List Str).map V.str) 1 = some (.str y0) := atI_nat (j := 1) rfl
              have ge0 : atI (([(t0 : Int), (t1 : Int)] : List Int).map V.int) 0 = some (.int t0) := atI_nat (j := 0) rfl
              have ge1 : atI (([(t0 : Int), (t1 : Int)] : List Int).map V.int) 1 = some (.int t1) := atI_nat (j := 1) rfl
              refine ⟨_, rfl, q8, _, 1, _, rfl, rfl, SqL.of hq9, ge1, _, rfl, q8, _, 0, _, rfl, rfl, SqL.of hq9, ge0, _, _, rfl, rfl, _, _, rfl, rfl, _, rfl, ?_⟩
              refine ite2 (fun c1 => ?_) (fun c1 => ?_)
              · refine ⟨_, rfl, _, rfl, r6, fs, _, _, rfl, rfl, SqL.of Gf.v6, atI_nat ev, a, _, rfl, .inl (SqL.of ha9), _, _, rfl, rfl, _, _, rfl, rfl, _, rfl, ?_⟩
                refine ite2 (fun c2 => ?_) (fun c2 => skip _ _ _ _ fs tv ts _ _ Gf (by omega) fpos (by omega))
                refine ⟨_, rfl, D, _, 0, _, rfl, rfl, SqL.of htw, gx0, _, rfl, D, _, 1, _, rfl, rfl, SqL.of htw, gx1, x0, y0, rfl, fun t nt => ?_⟩
                have Gg := Gf.new nt (o := .tup [.str (tp x0 y0).1, .str (tp x0 y0).2])
                have htw2 := new_same nt (o := .tup [.str (tp x0 y0).1, .str (tp x0 y0).2]) _ _ htw
                have ha10 := new_same nt (o := .tup [.str (tp x0 y0).1, .str (tp x0 y0).2]) _ _ ha9
                have okp : ∀ q : Pr, q.1 ∈ ns ∧ q.2 ∈ ns → PyData.strOk q.1 = true ∧ PyData.strOk q.2 = true := fun q h => ⟨name_ok (nmn _ h.1), name_ok (nmn _ h.2)⟩
                have tpin := tp_mem (fin _ xin) (fin _ yin)
                refine ⟨_, rfl, prD1 (tp x0 y0), ts.map prD1, .tup (SqT.of upd_same) (.cons (.str _) (.cons (.str _) .nil)), dp_prs Gg.v4 Gg.pt, ?_, shP fun q hq => okp q ⟨(G.tok.ok q hq).1, (G.tok.ok q hq).2.1⟩, _, rfl, ?_⟩
                · exact shp1 (okp _ tpin)
                · refine ite2 (fun c3 => ?_) (fun c3 => skip _ _ _ _ fs tv ts _ _ Gg (by omega) fpos (by omega))
                  have nin := not_any c3
                  refine ⟨_, rfl, .inl ⟨rfl, _, SqL.of Gg.v6⟩, _, rfl, r6, fs, (kk : Nat), kk, .ref a, rfl, rfl, Gg.v6, by omega, by omega, seqNat (by omega) (by omega), ev, ?_⟩
                  have Gh := Gg.face GA0 (fs2 := fs.eraseIdx kk) (Gg.fc.sub fun v hv => List.mem_of_mem_eraseIdx hv)
                  have D6 : D ≠ r6 := (ne_of_none Ge.v6 hD).symm
                  have D4 : D ≠ r4 := (ne_of_none Ge.v4 hD).symm
                  have htw3 : (upd (upd H6 t (.tup [.str (tp x0 y0).1, .str (tp x0 y0).2])) r6 (.lst (fs.eraseIdx kk))) D = some (.lst ([x0, y0].map V.str)) := by rw [upd_ne D6]; exact htw2
                  have ha11 : (upd (upd H6 t (.tup [.str (tp x0 y0).1, .str (tp x0 y0).2])) r6 (.lst (fs.eraseIdx kk))) a = some (.lst (f.map V.str)) := by rw [upd_ne na.2.2]; exact ha10
                  refine ⟨_, rfl, .inl ⟨rfl, _, SqL.of Gh.v4⟩, _, rfl, D, _, 0, _, rfl, rfl, SqL.of htw3, gx0, _, rfl, D, _, 1, _, rfl, rfl, SqL.of htw3, gx1, x0, y0, rfl, fun t2 nt2 => ?_⟩
                  have Gi := Gh.new nt2 (o := .tup [.str (tp x0 y0).1, .str (tp x0 y0).2])
                  have tok2 : TsOk ns (ts ++ [tp x0 y0]) := G.tok.fan (es := [y0]) (fin _ xin) (fun e he => by rw [List.mem_singleton.mp he]; exact ⟨fin _ yin, xy.symm⟩) (by simp) (fun e he => by rw [List.mem_singleton.mp he]; exact nin)
                  have pt2 := prs_snoc Gi.pt (show (upd (upd (upd H6 t (.tup [.str (tp x0 y0).1, .str (tp x0 y0).2])) r6 (.lst (fs.eraseIdx kk))) t2 (.tup [.str (tp x0 y0).1, .str (tp x0 y0).2])) t2 = some (.tup [.str (tp x0 y0).1, .str (tp x0 y0).2]) from upd_same)
                  have Gj := Gi.tie GA0 pt2 tok2 (fun t' ht' => by
                    rcases List.mem_append.mp ht' with h | h
                    · exact Gi.fr t' h
                    · cases List.mem_singleton.mp h
                      exact Gh.F.free nt2) (fun _ h => h)
                  refine ⟨r4, tv, .ref t2, rfl, rfl, Gi.v4, ?_, ?_⟩
                  · have := G.tok.len (by omega)
                    rw [Gi.pt.1]
                    exact small1000 (by omega)
                  have htw4 : (upd (upd (upd (upd H6 t (.tup [.str (tp x0 y0).1, .str (tp x0 y0).2])) r6 (.lst (fs.eraseIdx kk))) t2 (.tup [.str (tp x0 y0).1, .str (tp x0 y0).2])) r4 (.lst (tv ++ [.ref t2]))) D = some (.lst ([x0, y0].map V.str)) := by rw [upd_ne D4]; exact new_same nt2 _ _ htw3
                  have ha12 : (upd (upd (upd (upd H6 t (.tup [.str (tp x0 y0).1, .str (tp x0 y0).2])) r6 (.lst (fs.eraseIdx kk))) t2 (.tup [.str (tp x0 y0).1, .str (tp x0 y0).2])) r4 (.lst (tv ++ [.ref t2]))) a = some (.lst (f.map V.str)) := by rw [upd_ne na.2.1]; exact new_same nt2 _ _ ha11
                  refine ⟨_, rfl, .inl ⟨rfl, _, SqL.of Gj.v6⟩, _, rfl, _, rfl, a, D, f, [x0, y0], rfl, ha12, htw4, ndf, by simp [xy], by simp, by omega, (fun y hy => by
                    rcases List.mem_cons.mp hy with rfl | hy
                    · exact xin
                    · rw [List.mem_singleton.mp hy]; exact yin), fun qq rows H10 nqq hqq lrows fcr S10 => ?_⟩
                  have Gk := Gj.same S10
                  have lfe : (fs.eraseIdx kk).length = fs.length - 1 := List.length_eraseIdx_of_lt hk
                  have fcr2 : FcAt (Nf H r4 r6) H10 rows (fun y => y ∈ ns) := fun v hv => by
                    obtain ⟨b, g, e, hb, ndg, gin, nb⟩ := fcr v hv
                    have b4 : b ≠ r4 := (ne_of_none Gj.v4 nb.1).symm
                    have b6 : b ≠ r6 := (ne_of_none Gj.v6 nb.1).symm
                    exact ⟨b, g, e, hb, ndg, fun y hy => fin _ (gin y hy), Gj.F.free nb.1, b4, b6⟩
                  have hrl : rows.length = 2 := lrows
                  refine ⟨r6, qq, _, rows, rfl, rfl, Gk.v6, hqq, ?_, ?_⟩
                  · have h3 : 5000 < sizeLine := by decide
                    omega
                  · exact skip _ _ _ _ _ _ _ _ _ (Gk.face GA0 (Gk.fc.app fcr2)) (by omega) (by rw [List.length_append]; omega) (by rw [List.length_append]; omega)
              · exact ⟨_, rfl, iteF (skip _ _ _ _ fs tv ts _ _ Gf (by omega) fpos (by omega))⟩
          · exact skip _ _ _ _ fs tv ts _ _ Gf (by omega) fpos (by omega)
        · rintro σ H3 ⟨v5, v7, v8, v9, v10, v14, v15, tv, ts, fs, rfl, G, fpos, flen⟩
          have l40 : (ns.map V.str).length ≤ 40 := by rw [List.length_map]; exact ln
          refine ⟨_, rfl, q, _, rfl, .inl (SqL.of G.vq), fun aP nP => ?_⟩
          have Ga := G.new nP (o := .lst (ns.map V.str))
          refine ⟨_, rfl, r4, tv, ts, rfl, SqL.of Ga.v4, Ga.pt, fun aT ys nT pyy hy => ?_⟩
          have Gb := Ga.new nT (o := .lst ys)
          refine ⟨_, rfl, r3, _, rfl, .inl (SqL.of Gb.v3), fun aR nR => ?_⟩
          have Gc := Gb.new nR (o := .lst (rim.map V.str))
          refine ⟨_, rfl, by show 4 ≤ sizeLine; decide, fun r nr => ?_⟩
          have Gd := Gc.new nr (o := .tup [.ref aP, .ref aT, .ref aR, .ref r6])
          have hP : (upd (upd (upd (upd H3 aP (.lst (ns.map V.str))) aT (.lst ys)) aR (.lst (rim.map V.str))) r (.tup [.ref aP, .ref aT, .ref aR, .ref r6])) aP = some (.lst (ns.map V.str)) := new_same nr _ _ (new_same nR _ _ (new_same nT _ _ upd_same))
          have hT : (upd (upd (upd (upd H3 aP (.lst (ns.map V.str))) aT (.lst ys)) aR (.lst (rim.map V.str))) r (.tup [.ref aP, .ref aT, .ref aR, .ref r6])) aT = some (.lst ys) := new_same nr _ _ (new_same nR _ _ upd_same)
          have hR : (upd (upd (upd (upd H3 aP (.lst (ns.map V.str))) aT (.lst ys)) aR (.lst (rim.map V.str))) r (.tup [.ref aP, .ref aT, .ref aR, .ref r6])) aR = some (.lst (rim.map V.str)) := new_same nr _ _ upd_same
          have hyy : PrsAt (upd (upd (upd (upd H3 aP (.lst (ns.map V.str))) aT (.lst ys)) aR (.lst (rim.map V.str))) r (.tup [.ref aP, .ref aT, .ref aR, .ref r6])) ys (sortPr ts) := prs_upd (prs_upd (prs_upd hy (fun xs e => by rw [nT] at e; cases e)) (fun xs e => by rw [nR] at e; cases e)) (fun xs e => by rw [nr] at e; cases e)
          refine k r (sortPr ts) fs _ (Gd.F.mono (by omega)) ⟨aP, aT, aR, r6, ys, upd_same, hP, hT, hyy, hR, Gd.v6, Gd.fc.weak (fun c h => h.1) (fun _ h => h), Gc.F.free nr, G.F.free nP, Ga.F.free nT, Gb.F.free nR, n6, fun t ht => G.fr t (pyy.mem_iff.mp ht)⟩ (G.tok.perm (sortPr_perm ts)) fpos (by omega)
end
end E1

set_option Elab.async false
set_option linter.all false
set_option maxRecDepth 100000
set_option maxHeartbeats 8000000
/-! Raw boards: pieces put into a flat one. -/
namespace E1
open PySem PySem.Spec PyProof.Rows L2 G0
abbrev N_a_put : List Str := ["_law_stream", "_law_flat", "_law_sizes", "_law_places", "_law_ties", "_law_faces", "_law_face", "_law_at", "_law_size", "_law_some", "_law_feet", "_law_place", "_law_lot", "_law_name", "_law_number", "_law_one", "_law_other", "_law_foot"]
theorem sc_a_put : FnScope N_a_put ["_law_stream", "_law_flat", "_law_sizes"] (defScope (topS 39)) := ⟨rfl, rfl, rfl, by decide +kernel, rfl, by decide +kernel, by decide +kernel⟩
def Np (H : Hp) (r3 r4 r6 : Addr) : Addr → Prop := fun c => H c = none ∧ c ≠ r3 ∧ c ≠ r4 ∧ c ≠ r6
/-- what holds while pieces are put in -/
structure PI (N : Addr → Prop) (H : Hp) (p l r3 r4 r6 : Addr) (pl lim : List Str) (m : Nat) (tv : List V) (ts : List Pr) (fs : List V) (H' : Hp) : Prop where
  v3 : H' r3 = some (.lst (pl.map V.str))
  v4 : H' r4 = some (.lst tv)
  pt : PrsAt H' tv ts
  v6 : H' r6 = some (.lst fs)
  fc : FcAt (Np H r3 r4 r6) H' fs (fun z => z ∈ pl)
  tok : TsOk lim ts
  fr : ∀ t, V.ref t ∈ tv → N t ∨ H t = none
  F : Fr H p l m H'
structure PA (N : Addr → Prop) (H : Hp) (p l r3 r4 r6 : Addr) : Prop where
  n3 : H r3 = none
  n4 : H r4 = none
  n6 : H r6 = none
  e34 : r3 ≠ r4
  e36 : r3 ≠ r6
  e46 : r4 ≠ r6
  hN : ∀ c, N c → c ≠ p ∧ c ≠ l
section
variable {N : Addr → Prop} {H H' H2 : Hp} {p l r3 r4 r6 c : Addr} {pl lim : List Str} {m m2 : Nat} {tv : List V} {ts : List Pr} {fs : List V} {o : HO}
theorem PI.ne (G : PI N H p l r3 r4 r6 pl lim m tv ts fs H') (A : PA N H p l r3 r4 r6) : ∀ t, V.ref t ∈ tv → t ≠ p ∧ t ≠ l := fun t ht => by
  rcases G.fr t ht with h | h
  · exact A.hN t h
  · exact G.F.ne h
theorem PI.step (G : PI N H p l r3 r4 r6 pl lim m tv ts fs H') (A : PA N H p l r3 r4 r6) (F2 : Fr H' p l m2 H2) : PI N H p l r3 r4 r6 pl lim m2 tv ts fs H2 :=
  ⟨G.F.keep F2 A.n3 G.v3, G.F.keep F2 A.n4 G.v4, prs_but F2 G.pt (G.ne A), G.F.keep F2 A.n6 G.v6, G.fc.frame fun c o hc e => G.F.keep F2 hc.1 e, G.tok, G.fr, G.F.trans F2⟩
theorem PI.new (G : PI N H p l r3 r4 r6 pl lim m tv ts fs H') (n : H' c = none) : PI N H p l r3 r4 r6 pl lim m tv ts fs (upd H' c o) :=
  ⟨new_same n _ _ G.v3, new_same n _ _ G.v4, prs_upd G.pt (fun xs e => by rw [n] at e; cases e), new_same n _ _ G.v6, G.fc.frame (fun d u _ e => new_same n _ _ e), G.tok, G.fr, G.F.put (G.F.free n)⟩
theorem PI.same (G : PI N H p l r3 r4 r6 pl lim m tv ts fs H') (S : Same H' H2) : PI N H p l r3 r4 r6 pl lim m tv ts fs H2 :=
  ⟨S _ _ G.v3, S _ _ G.v4, G.pt.mono fun t xs e => S _ _ e, S _ _ G.v6, G.fc.frame fun d u _ e => S _ _ e, G.tok, G.fr, G.F.same S⟩
theorem PI.tie {tv2 : List V} {ts2 : List Pr} {lim2 : List Str} (G : PI N H p l r3 r4 r6 pl lim m tv ts fs H') (A : PA N H p l r3 r4 r6) (pt2 : PrsAt H' tv2 ts2) (tok2 : TsOk lim2 ts2) (fr2 : ∀ t, V.ref t ∈ tv2 → N t ∨ H t = none) :
    PI N H p l r3 r4 r6 pl lim2 m tv2 ts2 fs (upd H' r4 (.lst tv2)) :=
  ⟨by rw [upd_ne A.e34]; exact G.v3, upd_same, prs_upd pt2 (fun xs e => by rw [G.v4] at e; cases e), by rw [upd_ne A.e46.symm]; exact G.v6, G.fc.put (fun z => z.2.2.1 rfl), tok2, fr2, G.F.put A.n4⟩
theorem PI.face {fs2 : List V} (G : PI N H p l r3 r4 r6 pl lim m tv ts fs H') (A : PA N H p l r3 r4 r6) (fc2 : FcAt (Np H r3 r4 r6) H' fs2 (fun z => z ∈ pl)) : PI N H p l r3 r4 r6 pl lim m tv ts fs2 (upd H' r6 (.lst fs2)) :=
  ⟨by rw [upd_ne A.e36]; exact G.v3, by rw [upd_ne A.e46]; exact G.v4, prs_upd G.pt (fun xs e => by rw [G.v6] at e; cases e), upd_same, fc2.put (fun z => z.2.2.2 rfl), G.tok, G.fr, G.F.put A.n6⟩
theorem PI.place {pl2 : List Str} (G : PI N H p l r3 r4 r6 pl lim m tv ts fs H') (A : PA N H p l r3 r4 r6) (sub : ∀ z ∈ pl, z ∈ pl2) : PI N H p l r3 r4 r6 pl2 lim m tv ts fs (upd H' r3 (.lst (pl2.map V.str))) :=
  ⟨upd_same, by rw [upd_ne A.e34.symm]; exact G.v4, prs_upd G.pt (fun xs e => by rw [G.v3] at e; cases e), by rw [upd_ne A.e36.symm]; exact G.v6, (G.fc.put (fun z => z.2.1 rfl)).weak (fun _ h => h) sub, G.tok, G.fr, G.F.put A.n3⟩
theorem PI.mono (G : PI N H p l r3 r4 r6 pl lim m tv ts fs H') (h : m ≤ m2) : PI N H p l r3 r4 r6 pl lim m2 tv ts fs H' := ⟨G.v3, G.v4, G.pt, G.v6, G.fc, G.tok, G.fr, G.F.mono h⟩
theorem PI.limTo {lim2 : List Str} (G : PI N H p l r3 r4 r6 pl lim m tv ts fs H') (h : TsOk lim2 ts) : PI N H p l r3 r4 r6 pl lim2 m tv ts fs H' := ⟨G.v3, G.v4, G.pt, G.v6, G.fc, h, G.fr, G.F⟩
end
def spPut : Sp := fun vs H Q _ => ∃ (p l q z : Addr) (n : Nat) (N : Addr → Prop) (ns : List Str) (ts : List Pr) (rm : List Str) (fs : List V) (ks : List Nat), vs = [.ref p, .ref q, .ref z] ∧ Stm H p l n ∧ n < 50000000 ∧ FlatAt N H q ns ts rm fs ∧ (∀ c, N c → c ≠ p ∧ c ≠ l) ∧ TsOk ns ts ∧ 0 < fs.length ∧ fs.length ≤ 3000 ∧
  ns.Nodup ∧ (∀ z ∈ ns, z ∈ baseN) ∧ ns.length ≤ 35 ∧ (∀ z ∈ rm, z ∈ ns) ∧ rm.Nodup ∧ H z = some (.lst (ks.map fun (k : Nat) => V.int (k : Int))) ∧ z ≠ p ∧ z ≠ l ∧ ks.length ≤ 3 ∧ (∀ k ∈ ks, k ≤ 3) ∧
  ∀ r pl2 ts2 H', Fr H p l (n + 1000) H' → RawAt (fun c => N c ∨ H c = none) H' r pl2 ts2 rm → RawOk pl2 ts2 rm → (∀ y ∈ pl2, y ∈ baseN ∨ y ∈ gN) → pl2.length ≤ ns.length + 3 * ks.length → Q (.ref r) H'
abbrev rLo (K : PySem.W.Frag) : List V → Hp → VK → Prop := fun xs H Q => ∃ p ys, xs = [.ref p] ∧ (SqL K H p ys ∨ SqT K H p ys) ∧ ∀ l, H l = none → Q (.ref l) (upd H l (.lst ys))
abbrev rAS : R2 := fun x y H Q => ∃ i j, x = .str i ∧ y = .str j ∧ i.length + j.length ≤ sizeLine ∧ Q (.str (i ++ j)) H
abbrev rSI : List V → Hp → VK → Prop := fun xs H Q => ∃ i, xs = [.int i] ∧ i.natAbs.log2 < 1920 ∧ Q (.str (toString i)) H
theorem ite_share {b : Bool} {t1 t2 : TE} {σ : L2.St} {H : Hp} {Q : VK} (mid : V → Hp → Prop) (h1 : b = true → ∀ Q' : VK, (∀ y H', mid y H' → Q' y H') → t1 σ H Q') (h2 : b = false → ∀ Q' : VK, (∀ y H', mid y H' → Q' y H') → t2 σ H Q') (k : ∀ y H', mid y H' → Q y H') : if b = true then t1 σ H Q else t2 σ H Q := by
  cases b with
  | true => exact h1 rfl Q k
  | false => exact h2 rfl Q k
theorem gN_nd : gN.Nodup := by decide +kernel
theorem gK_in {a b : Nat} (ha : a < 4) (hb : b < 4) : gK a b ∈ gN := List.mem_flatMap.mpr ⟨a, List.mem_range.mpr ha, List.mem_map.mpr ⟨b, List.mem_range.mpr hb, rfl⟩⟩
theorem gK_nd : (List.range 4).all (fun a => decide (((List.range 3).map (gK a)).Nodup)) = true := by decide +kernel
theorem gK_l1 : (List.range 4).all (fun a => decide (((a : Int).natAbs.log2 < 1920) ∧ ("g" : Str).length + (sK a).length ≤ sizeLine ∧ (("g" : Str) ++ sK a).length + ("k" : Str).length ≤ sizeLine)) = true := by decide +kernel
theorem gK_l2 : (List.range 4).all (fun a => (List.range 4).all (fun b => decide (((("g" : Str) ++ sK a) ++ "k").length + (sK b).length ≤ sizeLine))) = true := by decide +kernel
theorem range_nd {a k : Nat} (ha : a < 4) (hk : k ≤ 3) : ((List.range k).map (gK a)).Nodup := by
  have h := of_decide_eq_true (List.all_eq_true.mp gK_nd a (List.mem_range.mpr ha))
  have e : (List.range k).map (gK a) = ((List.range 3).map (gK a)).take k := by
    rw [← List.map_take, List.take_range, Nat.min_eq_left hk]
  rw [e]
  exact h.sublist (List.take_sublist _ _)
section
variable {P : Program} {w : World} {K : PySem.W.Frag} {mg : Str → Option Value} {base : Heap}
theorem bPut (Z : LawD K mg) : Binds K (Z.d 39) ["_law_stream", "_law_flat", "_law_sizes"] [] := (Z.F 39 (by decide)).binds fun _ _ _ _ _ _ us hl => match us, hl with | [_, _, _], _ => rfl
theorem ok_a_put (Z : LawD K mg) : FnOk P w K mg base CX0 3 (Z.f 39) (Z.d 39) ["_law_stream", "_law_flat", "_law_sizes"] spPut := by
  have GM : FnOk P w K mg base CX0 2 Z.s.fM Z.s.dM ["_law_stream", "_law_some"] (spMx K) := ok_mx Z.s
  have GD : FnOk P w K mg base CX0 1 Z.s.fD Z.s.dD ["_law_stream", "_law_many"] spDr := ok_dr Z.s
  have GP : FnOk P w K mg base CX0 2 (Z.f 54) (Z.d 54) ["_law_stream", "_law_some"] (spPick K) := ok_pick Z
  have GT : FnOk P w K mg base CX0 1 (Z.f 34) (Z.d 34) N_a_tie spTie := ok_a_tie Z
  have GS : FnOk P w K mg base CX0 1 (Z.f 37) (Z.d 37) ["_law_face", "_law_ends"] spSplit := ok_a_split Z
  refine Fun.ok (Z.F 39 (by decide)) sc_a_put (fun vs H Q E h => ?_) (fun cdv A outer s H vs Q E hr h => ⟨_, pss_cons (ps_asg (pe_tup (pa_cons (pe_callTy call_list_of (by rfl) Z.t.list PyProof.Rows.boot_list (pa_cons (pe_ix ix_tup (pv 1) pe_int (fun _ _ => rfl)) pa_nil)) (pa_cons (pe_callTy call_list_of (by rfl) Z.t.list PyProof.Rows.boot_list (pa_cons (pe_ix ix_tup (pv 1) pe_int (fun _ _ => rfl)) pa_nil)) (pa_cons (pe_lc (own := [("_law_face", 6)]) (tt := tYes) (te := tCB (rLo K) (tCons (tVar 6) tNil)) rfl sc_a_put.nd (pi_list (pe_ix ix_tup (pv 1) pe_int (fun _ _ => rfl))) (blkOk_by (own := [("_law_face", 6)]) (N := N_a_put) (sc := defScope (topS 39)) (by decide +kernel)) (fun _ _ _ _ _ => (pg_name (i := 6) sc_a_put.nd rfl (Or.inl rfl))) (fun _ _ _ _ _ => pts_nil) (fun _ _ _ _ _ => (pe_callTy call_list_of (by rfl) Z.t.list PyProof.Rows.boot_list (pa_cons (pv 6) pa_nil)))) pa_nil)))) (by exact (pg_tup rfl (pgs_cons (pg_name (i := 3) sc_a_put.nd rfl (Or.inr rfl)) (pgs_cons (pg_name (i := 4) sc_a_put.nd rfl (Or.inl rfl)) (pgs_cons (pg_name (i := 5) sc_a_put.nd rfl (Or.inl rfl)) pgs_nil))))))
  (pss_cons (ps_for PassesOwn.never rfl (pi_enumQ (by rfl) Z.t.enumerate (pa_cons (pv 2) pa_nil)) (by exact (pg_tup rfl (pgs_cons (pg_name (i := 7) sc_a_put.nd rfl (Or.inr rfl)) (pgs_cons (pg_name (i := 8) sc_a_put.nd rfl (Or.inl rfl)) pgs_nil))))
    (pss_cons (ps_set (i := 6) sc_a_put.nd rfl (Or.inl rfl) (pe_bm PySem.F.plainAttrs_list PySem.F.slot_list_pop PySem.F.type_list_pop mt_popAt (pv 5) (pa_cons (pe_call GD (hr.mono (by decide)) (by rfl) Z.s.gD Z.s.FD.kp (bDr Z.s) .nil pass0 (pa_cons (pv 0) (pa_cons (pe_callB call_len_seq (by rfl) Z.t.len PySem.boot_len (pa_cons (pv 5) pa_nil)) pa_nil))) pa_nil)))
  (pss_cons (ps_set (i := 9) sc_a_put.nd rfl (Or.inr rfl) (pe_slice sl_list (pe_call GM (hr.mono (by decide)) (by rfl) Z.s.gM Z.s.FM.kp (bMx Z.s) .nil pass0 (pa_cons (pv 0) (pa_cons (pv 6) pa_nil))) po_none (po_some (pe_call GP (hr.mono (by decide)) (by rfl) (Z.g 54 (by decide)) (Z.F 54 (by decide)).kp (bPick Z) .nil pass0 (pa_cons (pv 0) (pa_cons (pe_lst (pa_cons pe_int (pa_cons pe_int (pa_cons pe_int (pa_cons pe_int (pa_cons pe_int (pa_cons pe_int pa_nil))))))) pa_nil))))))
  (pss_cons (ps_setLc (i := 10) (own := [("_law_place", 11)]) (tt := tTest (tOp (rIn K false) (tVar 11) (tVar 9))) rfl sc_a_put.nd rfl rfl (by rfl) (pi_list (pv 6)) (blkOk_by (own := [("_law_place", 11)]) (N := N_a_put) (sc := defScope (topS 39)) (by decide +kernel)) (fun _ _ _ _ _ => (pg_name (i := 11) sc_a_put.nd rfl (Or.inl rfl))) (fun _ _ _ _ _ => (pts_one (pt_cmpR op_in_seq (pv 11) (pv 9) (by rfl)))) (fun _ _ _ _ _ => (pv 11)))
  (pss_cons (ps_expr (pe_bm PySem.F.plainAttrs_list PySem.F.slot_list_extend PySem.F.type_list_extend mt_extend (pv 5) (pa_cons (pe_ifExp (pt_cmpR op_gt (pe_callB call_len_seq (by rfl) Z.t.len PySem.boot_len (pa_cons (pv 10) pa_nil)) pe_int (nomark _)) (pe_op op_cat (pe_call GS (hr.mono (by decide)) (by rfl) (Z.g 37 (by decide)) (Z.F 37 (by decide)).kp (bSplit Z) .nil pass0 (pa_cons (pv 6) (pa_cons (pv 10) pa_nil))) (pe_lst (pa_cons (pv 10) pa_nil))) (pe_lst (pa_cons (pv 6) pa_nil))) pa_nil)))
  (pss_cons (ps_setLc (i := 12) (own := [("_law_name", 13)]) (tt := tTest (tOp (rIn K true) (tVar 13) (tVar 3))) rfl sc_a_put.nd rfl rfl (by rfl) (pi_list (pe_lc (own := [("_law_number", 14)]) (tt := tYes) (te := tOp rAS (tOp rAS (tOp rAS (tC (.str "g")) (tCB rSI (tCons (tVar 7) tNil))) (tC (.str "k"))) (tCB rSI (tCons (tVar 14) tNil))) rfl sc_a_put.nd (pi_range1 (by rfl) (Z.free "range" (by decide)) (pa_cons (pv 8) pa_nil)) (blkOk_by (own := [("_law_number", 14)]) (N := N_a_put) (sc := defScope (topS 39)) (by decide +kernel)) (fun _ _ _ _ _ => (pg_name (i := 14) sc_a_put.nd rfl (Or.inl rfl))) (fun _ _ _ _ _ => pts_nil) (fun _ _ _ _ _ => (pe_op op_add_str (pe_op op_add_str (pe_op op_add_str pe_str (pe_callTy call_str_int (by rfl) Z.t.str boot_str (pa_cons (pv 7) pa_nil))) pe_str) (pe_callTy call_str_int (by rfl) Z.t.str boot_str (pa_cons (pv 14) pa_nil)))))) (blkOk_by (own := [("_law_name", 13)]) (N := N_a_put) (sc := defScope (topS 39)) (by decide +kernel)) (fun _ _ _ _ _ => (pg_name (i := 13) sc_a_put.nd rfl (Or.inl rfl))) (fun _ _ _ _ _ => (pts_one (pt_cmpR op_notIn_seq (pv 13) (pv 3) (by rfl)))) (fun _ _ _ _ _ => (pv 13)))
  (pss_cons (ps_for PassesOwn.never rfl (pi_enumQ (by rfl) Z.t.enumerate (pa_cons (pv 12) pa_nil)) (by exact (pg_tup rfl (pgs_cons (pg_name (i := 14) sc_a_put.nd rfl (Or.inr rfl)) (pgs_cons (pg_name (i := 15) sc_a_put.nd rfl (Or.inr rfl)) pgs_nil))))
    (pss_cons (ps_expr (pe_bm PySem.F.plainAttrs_list PySem.F.slot_list_extend PySem.F.type_list_extend mt_extend (pv 4) (pa_cons (pe_lc (own := [("_law_other", 16)]) (tt := tYes) rfl sc_a_put.nd (pi_list (pe_slice sl_list (pv 12) (po_some (pe_op op_add (pv 14) pe_int)) po_none)) (blkOk_by (own := [("_law_other", 16)]) (N := N_a_put) (sc := defScope (topS 39)) (by decide +kernel)) (fun _ _ _ _ _ => (pg_name (i := 16) sc_a_put.nd rfl (Or.inl rfl))) (fun _ _ _ _ _ => pts_nil) (fun _ _ _ _ _ => (pe_call GT (hr.mono (by decide)) (by rfl) (Z.g 34 (by decide)) (Z.F 34 (by decide)).kp (bTie Z) .nil pass0 (pa_cons (pv 15) (pa_cons (pv 16) pa_nil))))) pa_nil)))
  (pss_one (ps_expr (pe_bm PySem.F.plainAttrs_list PySem.F.slot_list_extend PySem.F.type_list_extend mt_extend (pv 4) (pa_cons (pe_lc (own := [("_law_foot", 17)]) (tt := _) rfl sc_a_put.nd (pi_list (pv 10)) (blkOk_by (own := [("_law_foot", 17)]) (N := N_a_put) (sc := defScope (topS 39)) (by decide +kernel)) (fun _ _ _ _ _ => (pg_name (i := 17) sc_a_put.nd rfl (Or.inl rfl))) (fun _ _ _ _ _ => (pts_one (PW.pt (pw_or (pt_cmpR op_eq (pv 14) pe_int (nomark _)) (pw_or1 (pt_cmpR op_eq (pe_call GD (hr.mono (by decide)) (by rfl) Z.s.gD Z.s.FD.kp (bDr Z.s) .nil pass0 (pa_cons (pv 0) (pa_cons pe_int pa_nil))) pe_int (nomark _))))))) (fun _ _ _ _ _ => (pe_call GT (hr.mono (by decide)) (by rfl) (Z.g 34 (by decide)) (Z.F 34 (by decide)).kp (bTie Z) .nil pass0 (pa_cons (pv 15) (pa_cons (pv 17) pa_nil))))) pa_nil))))))
  (pss_one (ps_expr (pe_bm PySem.F.plainAttrs_list PySem.F.slot_list_extend PySem.F.type_list_extend mt_extend (pv 3) (pa_cons (pv 12) pa_nil)))))))))))
  (pss_one (ps_ret (pe_tup (pa_cons (pv 3) (pa_cons (pe_callB cr_sortP (by rfl) Z.t.sorted boot_sorted (pa_cons (pv 4) pa_nil)) (pa_cons (pe_callTy call_list_of (by rfl) Z.t.list PyProof.Rows.boot_list (pa_cons (pe_ix ix_tup (pv 1) pe_int (fun _ _ => rfl)) pa_nil)) pa_nil))))))), ?_⟩)
  · obtain ⟨p, l, q, z, n, N, ns, ts, rm, fs, ks, rfl, _⟩ := h
    rfl
  · obtain ⟨p, l, q, z, n, N, ns, ts, rm, fs, ks, rfl, S, hn, hFl, hN, tok, fpos, flen, ndn, nmn, ln, rin, rnd, hz, zp, zl, lk, kk, k⟩ := h
    obtain ⟨aP, aT, aR, aF, tv, g1, g2, g3, g4, g5, g6, g7, nq, nP, nT, nR, nF, nt⟩ := hFl
    refine ⟨_, rfl, q, _, 0, _, rfl, rfl, SqT.of g1, rfl, aP, _, rfl, .inl (SqL.of g2), fun r3 n3 => ?_⟩
    have S1 := new_same (o := .lst (ns.map V.str)) n3
    refine ⟨_, rfl, q, _, 1, _, rfl, rfl, SqT.of (S1 _ _ g1), rfl, aT, _, rfl, .inl (SqL.of (S1 _ _ g3)), fun r4 n4' => ?_⟩
    have S2 := S1.trans (new_same (o := .lst tv) n4')
    have n4 := S1.free n4'
    refine ⟨_, rfl, q, _, 3, _, rfl, rfl, SqT.of (S2 _ _ g1), rfl, aF, rfl, ⟨_, SqL.of (S2 _ _ g6)⟩, fun r6 n6' => ?_⟩
    have n6 := S2.free n6'
    have e34 : r3 ≠ r4 := ne_of_none upd_same n4'
    have e36 : r3 ≠ r6 := ne_of_none (new_same (o := .lst tv) n4' _ _ upd_same) n6'
    have e46 : r4 ≠ r6 := ne_of_none upd_same n6'
    have A0 : PA N H p l r3 r4 r6 := ⟨n3, n4, n6, e34, e36, e46, hN⟩
    refine lc_list (xs := fs) (fun i H' => ∃ acc, H' r6 = some (.lst acc) ∧ acc.length = i ∧ FcAt (Np H r3 r4 r6) H' acc (fun z => z ∈ ns) ∧ Same (upd (upd H r3 (.lst (ns.map V.str))) r4 (.lst tv)) H') ⟨[], upd_same, rfl, .nil, new_same n6'⟩ (fun i H' _ ⟨_, _, _, _, S'⟩ => SqL.of (S' _ _ (S2 _ _ g6))) ?_ ?_
    · rintro i x H' hx ⟨acc, hacc, lac, fc, S'⟩
      obtain ⟨a, f, rfl, ha, ndf, fin, na⟩ := g7 x (List.mem_of_getElem? hx)
      have il := (List.getElem?_eq_some_iff.mp hx).1
      refine ⟨rfl, yes_of ⟨_, rfl, a, _, rfl, .inl (SqL.of (S' _ _ (S2 _ _ ha))), fun u nu => ⟨acc, new_same nu _ _ hacc, ?_, acc ++ [.ref u], upd_same, ?_, ?_, ?_⟩⟩⟩
      · have h3 : 5000 < sizeLine := by decide
        omega
      · rw [List.length_append, lac]; rfl
      · have nuH : H u = none := S2.free (S'.free nu)
        have u3 : u ≠ r3 := (ne_of_none (S' _ _ (new_same n4' _ _ upd_same)) nu).symm
        have u4 : u ≠ r4 := (ne_of_none (S' _ _ upd_same) nu).symm
        have u6 : u ≠ r6 := (ne_of_none hacc nu).symm
        exact FcAt.put ((fc.frame fun c o _ e => new_same nu _ _ e).app (FcAt.one (f := f) upd_same ndf fin ⟨nuH, u3, u4, u6⟩)) (fun z => z.2.2.2 rfl)
      · exact fun b o e => by
          rw [upd_ne (ne_of_none e n6')]
          exact new_same nu _ _ (S' _ _ e)
    rintro H1 ⟨fs1, h6, lf1, fc1, S1'⟩
    have S3 := S2.trans S1'
    refine ⟨by show 3 ≤ sizeLine; decide, fun T nT => ⟨T, _, rfl, SqT.of upd_same, rfl, _, _, rfl, _, _, rfl, _, _, rfl, rfl, ?_⟩⟩
    have G0 : PI N H p l r3 r4 r6 ns ns (n + 200 * 0) tv ts fs1 H1 := ⟨S1' _ _ (new_same n4' _ _ upd_same), S1' _ _ upd_same, g4.mono fun t xs e => S3 _ _ e, h6, fc1, tok, fun t ht => .inl (nt t ht), (S.fr.same S3).mono (by omega)⟩
    have G1 := G0.new nT (o := .tup [.ref r3, .ref r4, .ref r6])
    refine ⟨_, rfl, z, _, rfl, for_enQ (.inl (SqL.of (G1.F.but _ _ hz zp zl))) (fun i σ H' => ∃ v6 v7 v8 v9 v10 v12 v14 v15 pl tv ts fs, σ = [some (.ref p), some (.ref q), some (.ref z), some (.ref r3), some (.ref r4), some (.ref r6), v6, v7, v8, v9, v10, none, v12, none, v14, v15, none, none] ∧
      PI N H p l r3 r4 r6 pl pl (n + 200 * i) tv ts fs H' ∧ 0 < fs.length ∧ fs.length ≤ 3000 + 50 * i ∧ pl.Nodup ∧ (∀ y ∈ pl, y ∈ ns ∨ y ∈ gN) ∧ (∀ y ∈ ns, y ∈ pl) ∧ pl.length ≤ ns.length + 3 * i) ⟨none, none, none, none, none, none, none, none, ns, tv, ts, fs1, rfl, G1, by omega, by omega, ndn, fun y h => .inl h, fun y h => h, by omega⟩ ?_ ?_ ?_⟩
    · rintro i σ H' hi ⟨v6, v7, v8, v9, v10, v12, v14, v15, pl, tv, ts, fs, rfl, G, _⟩
      exact lt_at (G1.F.but _ _ hz zp zl) (G.F.but _ _ hz zp zl)
    · rintro i x σ H' T hx ⟨v6, v7, v8, v9, v10, v12, v14, v15, pl, tv, ts, fs, rfl, G, fpos, flen, ndp, pin, sub, lpl⟩ nT
      rw [List.getElem?_map] at hx
      cases ek : ks[i]? with
      | none => rw [ek] at hx; cases hx
      | some kz =>
        rw [ek] at hx
        cases hx
        have il : i < ks.length := (List.getElem?_eq_some_iff.mp ek).1
        have kz3 : kz ≤ 3 := kk kz (List.mem_of_getElem? ek)
        have Gt := G.new nT (o := .tup [.int (i : Nat), .int (kz : Int)])
        refine ⟨T, _, rfl, SqT.of upd_same, rfl, _, _, rfl, _, _, rfl, rfl, ?_⟩
        -- a face is taken
        refine ⟨_, rfl, .inl ⟨rfl, _, SqL.of Gt.v6⟩, _, rfl, _, rfl, r6, fs, rfl, .inl (SqL.of Gt.v6), p, l, _, fs.length, rfl, Gt.F.st, by omega, fpos, by omega, fun kk H3 hk F3 => ?_⟩
        have Ga := Gt.step A0 F3
        have ev : fs[kk]? = some fs[kk] := List.getElem?_eq_getElem hk
        obtain ⟨a, f, eva, ha, ndf, fin, na⟩ := Ga.fc _ (List.mem_of_getElem? ev)
        rw [eva] at ev
        refine ⟨r6, fs, (kk : Nat), kk, .ref a, rfl, rfl, Ga.v6, by omega, by omega, seqNat (by omega) (by omega), ev, ?_⟩
        have Gb := Ga.face A0 (fs2 := fs.eraseIdx kk) (Ga.fc.sub fun v hv => List.mem_of_mem_eraseIdx hv)
        have lfe : (fs.eraseIdx kk).length = fs.length - 1 := List.length_eraseIdx_of_lt hk
        have ha4 : (upd H3 r6 (.lst (fs.eraseIdx kk))) a = some (.lst (f.map V.str)) := by rw [upd_ne na.2.2.2]; exact ha
        have lf : f.length ≤ 44 := by
          have := ndf.length_le_of_subset (l₂ := pl) fin
          omega
        -- some of it
        refine ⟨_, rfl, _, rfl, p, l, a, _, f.map V.str, rfl, Gb.F.st, by omega, SqL.of ha4, by rw [List.length_map]; omega, fun s9 ys H5 hperm F5 ns9 hs9 => ?_⟩
        obtain ⟨gs, rfl, gperm⟩ := strs_perm hperm
        have Gc := Gb.step A0 F5
        have ha5 := Gb.F.keep F5 na.1 ha4
        have ns9H := Gb.F.free ns9
        refine ⟨_, rfl, by show 6 ≤ sizeLine; decide, fun b nb => ?_⟩
        have Gd := Gc.new nb (o := .lst [.int 3, .int 3, .int 3, .int 2, .int 1, .int 0])
        have nbH := Gc.F.free nb
        refine ⟨p, l, b, _, _, rfl, Gd.F.st, by rw [List.length_map]; omega, upd_same, (Gc.F.ne nbH).1, (Gc.F.ne nbH).2, by decide, by decide, fun j y H6 hy F6 => ?_⟩
        obtain ⟨d, rfl, hd⟩ : ∃ d : Nat, y = .int (d : Int) ∧ d ≤ 3 := by
          have hm := List.mem_of_getElem? hy
          simp only [List.mem_cons, List.not_mem_nil, or_false] at hm
          rcases hm with rfl | rfl | rfl | rfl | rfl | rfl
          · exact ⟨3, rfl, by decide⟩
          · exact ⟨3, rfl, by decide⟩
          · exact ⟨3, rfl, by decide⟩
          · exact ⟨2, rfl, by decide⟩
          · exact ⟨1, rfl, by decide⟩
          · exact ⟨0, rfl, by decide⟩
        have Ge := Gd.step A0 F6
        have ha6 := Gd.F.keep F6 na.1 (new_same nb _ _ ha5)
        have hs96 := Gd.F.keep F6 ns9H (new_same nb _ _ hs9)
        refine ⟨(d : Int), rfl, s9, _, rfl, SqL.of hs96, fun s10 ns10 => ?_⟩
        rw [cut_to, ← List.map_take] at *
        generalize hgt : gs.take d = g2 at *
        have Gf := Ge.new ns10 (o := .lst (g2.map V.str))
        have ha7 := new_same ns10 (o := .lst (g2.map V.str)) _ _ ha6
        -- the feet
        refine ⟨_, rfl, a, rfl, ⟨_, SqL.of ha7⟩, fun D hD => ?_⟩
        have nDH := Gf.F.free hD
        refine lc_list (xs := f.map V.str) (fun i H' => ∃ es : List Str, H' D = some (.lst (es.map V.str)) ∧ es.Sublist (f.take i) ∧ Same (upd H6 s10 (.lst (g2.map V.str))) H') ⟨[], upd_same, List.nil_sublist _, new_same hD⟩ (fun i H' _ ⟨_, _, _, S'⟩ => SqL.of (S' _ _ ha7)) ?_ ?_
        · rintro i x H' hx ⟨es, he, sub, S'⟩
          rw [List.getElem?_map] at hx
          cases ey : f[i]? with
          | none => rw [ey] at hx; cases hx
          | some y =>
            rw [ey] at hx
            cases hx
            refine ⟨rfl, _, rfl, _, rfl, s10, _, rfl, .inl (SqL.of (S' _ _ upd_same)), rfl, flat_strs _, _, rfl, ?_⟩
            refine ite2 (fun _ => ⟨_, rfl, es.map V.str, he, ?_, es ++ [y], ?_, ?_, ?_⟩) (fun _ => ⟨es, he, ?_, S'⟩)
            · rw [List.length_map]
              have := sub.length_le
              rw [List.length_take] at this
              exact small1000 (by omega)
            · rw [upd_same, List.map_append]
              rfl
            · rw [take_snoc ey]
              exact sub.append (List.Sublist.refl _)
            · exact fun b o e => by
                rw [upd_ne (ne_of_none e hD)]
                exact S' _ _ e
            · rw [take_snoc ey]
              exact sub.trans (List.sublist_append_left _ _)
        rintro H7 ⟨es, he, esub, S7⟩
        rw [List.length_map, List.take_length] at esub
        have Gg := Gf.same S7
        have ha8 := S7 _ _ ha7
        have nde : es.Nodup := ndf.sublist esub
        have ein : ∀ e ∈ es, e ∈ pl := fun e h => fin e (esub.subset h)
        have le : es.length ≤ 44 := Nat.le_trans esub.length_le lf
        have D3 : D ≠ r3 := (ne_of_none Gf.v3 hD).symm
        have D4 : D ≠ r4 := (ne_of_none Gf.v4 hD).symm
        have D6 : D ≠ r6 := (ne_of_none Gf.v6 hD).symm
        -- what comes of the face
        refine ⟨_, rfl, .inl ⟨rfl, _, SqL.of Gg.v6⟩, _, rfl, D, _, rfl, .inl (SqL.of he), _, _, rfl, rfl, _, rfl, ?_⟩
        refine ite_share (fun y H' => ∃ (q2 : Addr) (acc2 : List V), y = .ref q2 ∧ H' q2 = some (.lst acc2) ∧ Same H7 H' ∧ 0 < acc2.length ∧ acc2.length ≤ 45 ∧ FcAt (Np H r3 r4 r6) H' acc2 (fun y => y ∈ pl)) (fun c Q' kQ => ?_) (fun c Q' kQ => ?_) ?_
        · have l2 : 2 ≤ es.length := by
            have := of_decide_eq_true c
            rw [List.length_map] at this
            omega
          refine ⟨_, rfl, _, rfl, a, D, f, es, rfl, ha8, he, ndf, nde, l2, by omega, (fun y hy => esub.subset hy), fun qq rows H10 nqq hqq lrows fcr S10 => ⟨_, rfl, by show 1 ≤ sizeLine; decide, fun u nu => ⟨qq, u, rows, _, rfl, rfl, new_same nu _ _ hqq, upd_same, ?_, fun v nv => ?_⟩⟩⟩
          · have h3 : 5000 < sizeLine := by decide
            show rows.length + 1 ≤ sizeLine
            omega
          · have Gi := Gg.same S10
            have SS := S10.trans ((new_same (o := .lst [V.ref D]) nu).trans (new_same (o := .lst (rows ++ [V.ref D])) nv))
            have nD : Np H r3 r4 r6 D := ⟨nDH, D3, D4, D6⟩
            refine kQ _ _ ⟨v, rows ++ [.ref D], rfl, upd_same, SS, by rw [List.length_append]; show 0 < rows.length + 1; omega, by rw [List.length_append]; show rows.length + 1 ≤ 45; omega, ?_⟩
            refine FcAt.app ?_ (FcAt.one (SS _ _ he) nde ein nD)
            intro w hw
            obtain ⟨b', g, e, hb, ndg, gin, nb'⟩ := fcr w hw
            have b3 : b' ≠ r3 := (ne_of_none Gg.v3 nb'.1).symm
            have b4 : b' ≠ r4 := (ne_of_none Gg.v4 nb'.1).symm
            have b6 : b' ≠ r6 := (ne_of_none Gg.v6 nb'.1).symm
            exact ⟨b', g, e, new_same nv _ _ (new_same nu _ _ hb), ndg, fun y hy => fin _ (gin y hy), Gg.F.free nb'.1, b3, b4, b6⟩
        · refine ⟨_, rfl, by show 1 ≤ sizeLine; decide, fun u nu => kQ _ _ ⟨u, [.ref a], rfl, upd_same, new_same nu, Nat.one_pos, (by show 1 ≤ 45; decide), FcAt.one (new_same nu _ _ ha8) ndf fin na⟩⟩
        rintro y H10 ⟨q2, acc2, rfl, hq2, S10, la1, la2, fc2⟩
        have Gh := Gg.same S10
        refine ⟨r6, q2, _, acc2, rfl, rfl, Gh.v6, hq2, ?_, ?_⟩
        · have h3 : 5000 < sizeLine := by decide
          omega
        have Gi := Gh.face A0 (fs2 := fs.eraseIdx kk ++ acc2) (Gh.fc.app fc2)
        have he10 : (upd H10 r6 (.lst (fs.eraseIdx kk ++ acc2))) D = some (.lst (es.map V.str)) := by rw [upd_ne D6]; exact S10 _ _ he
        have lfs : 0 < (fs.eraseIdx kk ++ acc2).length ∧ (fs.eraseIdx kk ++ acc2).length ≤ 3000 + 50 * (i + 1) := by
          rw [List.length_append]
          omega
        generalize hfs2 : fs.eraseIdx kk ++ acc2 = fs2 at *
        generalize hH11 : upd H10 r6 (.lst fs2) = H11 at *
        -- names of a lot
        have i4 : i < 4 := by omega
        obtain ⟨q1, q2', q3⟩ := of_decide_eq_true (List.all_eq_true.mp gK_l1 i (List.mem_range.mpr i4))
        refine ⟨_, rfl, (kz : Int), rfl, by omega, by omega, fun E2 nE2 => ?_⟩
        rw [Int.toNat_natCast]
        refine lc_range (n := kz) (fun j H' => H' E2 = some (.lst (((List.range j).map (gK i)).map V.str)) ∧ Same H11 H') ⟨upd_same, new_same nE2⟩ ?_ ?_
        · rintro j H' hj ⟨hD', S'⟩
          have j4 : j < 4 := by omega
          obtain ⟨p1, _, _⟩ := of_decide_eq_true (List.all_eq_true.mp gK_l1 j (List.mem_range.mpr j4))
          have p2 := of_decide_eq_true (List.all_eq_true.mp (List.all_eq_true.mp gK_l2 i (List.mem_range.mpr i4)) j (List.mem_range.mpr j4))
          have ei : (0 : Int) + (j : Int) = (j : Int) := Int.zero_add _
          rw [ei]
          refine ⟨rfl, yes_of ⟨_, rfl, (i : Int), rfl, q1, _, _, rfl, rfl, q2', _, _, rfl, rfl, q3, _, rfl, (j : Int), rfl, p1, _, _, rfl, rfl, p2, _, hD', ?_, ?_, ?_⟩⟩
          · rw [List.length_map, List.length_map, List.length_range]
            exact small1000 (by omega)
          · rw [upd_same, List.range_succ, List.map_append, List.map_append]
            rfl
          · exact fun b o e => by
              rw [upd_ne (ne_of_none e nE2)]
              exact S' _ _ e
        rintro H12 ⟨hE2, S12⟩
        have Gj := Gi.same S12
        have he12 := S12 _ _ he10
        have lotnd := range_nd i4 kz3
        generalize hrow : (List.range kz).map (gK i) = row at *
        have lrow : row.length = kz := by rw [← hrow, List.length_map, List.length_range]
        have rowG : ∀ y ∈ row, y ∈ gN := fun y hy => by
          rw [← hrow] at hy
          obtain ⟨b', hb', rfl⟩ := List.mem_map.mp hy
          exact gK_in i4 (by have := List.mem_range.mp hb'; omega)
        refine ⟨E2, rfl, ⟨_, SqL.of hE2⟩, fun L hL => ?_⟩
        have nLH := Gj.F.free hL
        refine lc_list (xs := row.map V.str) (fun j H' => ∃ lot : List Str, H' L = some (.lst (lot.map V.str)) ∧ lot.Sublist (row.take j) ∧ (∀ y ∈ lot, y ∉ pl) ∧ Same H12 H') ⟨[], upd_same, List.nil_sublist _, by simp, new_same hL⟩ (fun j H' _ ⟨_, _, _, _, S'⟩ => SqL.of (S' _ _ hE2)) ?_ ?_
        · rintro j x H' hx ⟨lot, hlot, lsub, lno, S'⟩
          rw [List.getElem?_map] at hx
          cases ey : row[j]? with
          | none => rw [ey] at hx; cases hx
          | some y =>
            rw [ey] at hx
            cases hx
            refine ⟨rfl, _, rfl, _, rfl, r3, _, rfl, .inl (SqL.of (S' _ _ Gj.v3)), rfl, flat_strs _, _, rfl, ?_⟩
            refine ite2 (fun c => ⟨_, rfl, lot.map V.str, hlot, ?_, lot ++ [y], ?_, ?_, ?_, ?_⟩) (fun _ => ⟨lot, hlot, ?_, lno, S'⟩)
            · rw [List.length_map]
              have := lsub.length_le
              rw [List.length_take] at this
              exact small1000 (by omega)
            · rw [upd_same, List.map_append]
              rfl
            · rw [take_snoc ey]
              exact lsub.append (List.Sublist.refl _)
            · intro w hw
              rcases List.mem_append.mp hw with hw | hw
              · exact lno w hw
              · rw [List.mem_singleton.mp hw]
                have c' : (!inV (.str y) (pl.map V.str)) = true := c
                rw [inV_strs] at c'
                intro hm
                rw [decide_eq_true hm] at c'
                cases c'
            · exact fun b o e => by
                rw [upd_ne (ne_of_none e hL)]
                exact S' _ _ e
            · rw [take_snoc ey]
              exact lsub.trans (List.sublist_append_left _ _)
        rintro H13 ⟨lot, hlot, lsub, lno, S13⟩
        rw [List.length_map, List.take_length] at lsub
        have Gk := Gj.same S13
        have he13 := S13 _ _ he12
        have ndl : lot.Nodup := lotnd.sublist lsub
        have lotG : ∀ y ∈ lot, y ∈ gN := fun y hy => rowG y (lsub.subset hy)
        have llot : lot.length ≤ 3 := by
          have := lsub.length_le
          omega
        have subl : ∀ y ∈ pl, y ∈ pl ++ lot := fun y hy => List.mem_append_left _ hy
        have lim44 : (pl ++ lot).length ≤ 44 := by
          rw [List.length_append]
          omega
        have Gl := Gk.limTo (Gk.tok.mono subl)
        have L3 : L ≠ r3 := (ne_of_none Gj.v3 hL).symm
        have L4 : L ≠ r4 := (ne_of_none Gj.v4 hL).symm
        have L6 : L ≠ r6 := (ne_of_none Gj.v6 hL).symm
        have LD : L ≠ D := (ne_of_none he12 hL).symm
        -- their ties
        refine ⟨_, rfl, L, lot.map V.str, rfl, for_enQ (.inl (SqL.of hlot)) (fun j σ H' => ∃ v14 v15 tv ts, σ = [some (.ref p), some (.ref q), some (.ref z), some (.ref r3), some (.ref r4), some (.ref r6), some (.ref a), some (.int (i : Nat)), some (.int (kz : Int)), some (.ref s10), some (.ref D), none, some (.ref L), none, v14, v15, none, none] ∧
          PI N H p l r3 r4 r6 pl (pl ++ lot) (n + 200 * i + 60 + 45 * j) tv ts fs2 H' ∧ H' L = some (.lst (lot.map V.str)) ∧ H' D = some (.lst (es.map V.str)) ∧ (∀ x ∈ ts, (x.1 ∈ pl ∧ x.2 ∈ pl) ∨ ∃ u v, x = tp u v ∧ u ∈ lot.take j)) ⟨v14, v15, tv, ts, rfl, Gl.mono (by rw [List.length_map]; omega), hlot, he13, fun x hx => .inl ⟨(Gk.tok.ok x hx).1, (Gk.tok.ok x hx).2.1⟩⟩ ?_ ?_ ?_⟩
        · rintro j σ H' hj ⟨_, _, _, _, rfl, G, hl', _⟩
          exact lt_at hlot hl'
        · rintro j x σ H' T2 hx ⟨v14, v15, tv, ts, rfl, G, hl', hD', tin⟩ nT2
          rw [List.getElem?_map] at hx
          cases ez : lot[j]? with
          | none => rw [ez] at hx; cases hx
          | some y =>
            rw [ez] at hx
            cases hx
            have jl : j < lot.length := (List.getElem?_eq_some_iff.mp ez).1
            have ylot : y ∈ lot := List.mem_of_getElem? ez
            have ynpl : y ∉ pl := lno y ylot
            have ynt : y ∉ lot.take j := take_mem ndl ez
            have yin : y ∈ pl ++ lot := List.mem_append_right _ ylot
            have Ga' := G.new nT2 (o := .tup [.int (j : Nat), .str y])
            have hlA := new_same nT2 (o := .tup [.int (j : Nat), .str y]) _ _ hl'
            have hDA := new_same nT2 (o := .tup [.int (j : Nat), .str y]) _ _ hD'
            refine ⟨T2, _, rfl, SqT.of upd_same, rfl, _, _, rfl, _, _, rfl, rfl, ?_⟩
            refine ⟨_, rfl, .inl ⟨rfl, _, SqL.of Ga'.v4⟩, _, rfl, _, rfl, _, _, rfl, rfl, _, rfl, L, _, rfl, SqL.of hlA, fun s ns' => ⟨s, rfl, ⟨_, SqL.of upd_same⟩, fun E hE => ?_⟩⟩
            have ei : cutV (lot.map V.str) (some ((j : Int) + 1)) none = (lot.drop (j + 1)).map V.str := by
              rw [show ((j : Int) + 1) = ((j + 1 : Nat) : Int) from rfl, cut_from, List.map_drop]
            rw [ei] at hE ⊢
            have Gb' := Ga'.new ns' (o := .lst ((lot.drop (j + 1)).map V.str))
            have hlB := new_same ns' (o := .lst ((lot.drop (j + 1)).map V.str)) _ _ hlA
            have hDB := new_same ns' (o := .lst ((lot.drop (j + 1)).map V.str)) _ _ hDA
            generalize hHB : upd (upd H' T2 (.tup [.int (j : Nat), .str y])) s (.lst ((lot.drop (j + 1)).map V.str)) = HB at *
            have hs : HB s = some (.lst ((lot.drop (j + 1)).map V.str)) := by rw [← hHB]; exact upd_same
            refine lc_list (xs := (lot.drop (j + 1)).map V.str) (fun i H' => ∃ acc, H' E = some (.lst acc) ∧ PrsAt H' acc (((lot.drop (j + 1)).take i).map (tp y)) ∧ (∀ t, V.ref t ∈ acc → H t = none) ∧ Same HB H') ⟨[], upd_same, PrsAt.nil, (fun t ht => by cases ht), new_same hE⟩ (fun i H' _ ⟨_, _, _, _, S'⟩ => SqL.of (S' _ _ hs)) ?_ ?_
            · rintro i x H' hx ⟨acc, hacc, pa, fa, S'⟩
              rw [List.getElem?_map] at hx
              cases ew : (lot.drop (j + 1))[i]? with
              | none => rw [ew] at hx; cases hx
              | some w =>
                rw [ew] at hx
                cases hx
                have il := (List.getElem?_eq_some_iff.mp ew).1
                rw [List.length_drop] at il
                refine ⟨rfl, yes_of ⟨_, rfl, _, rfl, y, w, rfl, fun t nt => ⟨acc, new_same nt _ _ hacc, ?_, acc ++ [.ref t], upd_same, ?_, ?_, ?_⟩⟩⟩
                · rw [pa.1, List.length_map, List.length_take, List.length_drop]
                  exact small1000 (by omega)
                · rw [take_snoc ew, List.map_append]
                  refine prs_upd (prs_snoc (prs_upd pa (fun xs e => by rw [nt] at e; cases e)) upd_same) (fun xs e => ?_)
                  rw [upd_ne (ne_of_none hacc nt), hacc] at e
                  cases e
                · intro t' ht'
                  rcases List.mem_append.mp ht' with h | h
                  · exact fa t' h
                  · cases List.mem_singleton.mp h
                    exact (Gb'.F.same S').free nt
                · exact fun b o e => by
                    rw [upd_ne (ne_of_none e hE)]
                    exact new_same nt _ _ (S' _ _ e)
            rintro HC ⟨acc, hacc, pa, fa, SC⟩
            rw [List.length_map, List.take_length] at pa
            have Gc' := Gb'.same SC
            have dropin : ∀ e ∈ lot.drop (j + 1), e ∈ lot := fun e h => List.mem_of_mem_drop h
            have split : lot = lot.take j ++ [y] ++ lot.drop (j + 1) := by
              rw [← take_snoc ez, List.take_append_drop]
            have ndl2 := ndl
            rw [split] at ndl2
            have dne : ∀ e ∈ lot.drop (j + 1), e ∉ lot.take j ++ [y] := fun e h h2 => (List.nodup_append.mp ndl2).2.2 e h2 e h rfl
            have nd2 : (lot.drop (j + 1)).Nodup := ndl.sublist (List.drop_sublist _ _)
            have tok2 : TsOk (pl ++ lot) (ts ++ (lot.drop (j + 1)).map (tp y)) := Gc'.tok.fan yin (fun e h => ⟨List.mem_append_right _ (dropin e h), fun q => dne e h (List.mem_append_right _ (List.mem_singleton.mpr q))⟩) nd2 (fun e h hm => by
              rcases tin _ hm with ⟨k1, k2⟩ | ⟨u, v, e1, e2⟩
              · rcases tp_cases y e with q | q <;> rw [q] at k1 k2
                · exact ynpl k1
                · exact ynpl k2
              · rcases tp_eq e1 with ⟨h1, _⟩ | ⟨h1, h2⟩
                · exact ynt (h1 ▸ e2)
                · exact dne e h (List.mem_append_left _ (h2 ▸ e2)))
            have len2 := tok2.len lim44
            refine ⟨r4, E, tv, acc, rfl, rfl, Gc'.v4, hacc, ?_, ?_⟩
            · have := (prs_app Gc'.pt pa).1
              rw [List.length_append] at this
              have h3 := small1000 (n := (ts ++ (lot.drop (j + 1)).map (tp y)).length) (by omega)
              omega
            have Gd' := Gc'.tie A0 (prs_app Gc'.pt pa) tok2 (fun t ht => by
              rcases List.mem_append.mp ht with h | h
              · exact Gc'.fr t h
              · exact .inr (fa t h))
            have hlD : (upd HC r4 (.lst (tv ++ acc))) L = some (.lst (lot.map V.str)) := by rw [upd_ne L4]; exact SC _ _ hlB
            have hDD : (upd HC r4 (.lst (tv ++ acc))) D = some (.lst (es.map V.str)) := by rw [upd_ne D4]; exact SC _ _ hDB
            have tin2 : ∀ x ∈ ts ++ (lot.drop (j + 1)).map (tp y), (x.1 ∈ pl ∧ x.2 ∈ pl) ∨ (∃ u v, x = tp u v ∧ u ∈ lot.take j) ∨ ∃ v, x = tp y v ∧ v ∈ lot := fun x hx => by
              rcases List.mem_append.mp hx with hx | hx
              · rcases tin x hx with h | h
                · exact .inl h
                · exact .inr (.inl h)
              · obtain ⟨e, he', rfl⟩ := List.mem_map.mp hx
                exact .inr (.inr ⟨e, rfl, dropin e he'⟩)
            generalize hts2 : ts ++ (lot.drop (j + 1)).map (tp y) = ts2 at *
            generalize htv2 : tv ++ acc = tv2 at *
            generalize hHD : upd HC r4 (.lst tv2) = HD at *
            -- ties to the feet
            refine ⟨_, rfl, .inl ⟨rfl, _, SqL.of Gd'.v4⟩, _, rfl, D, rfl, ⟨_, SqL.of hDD⟩, fun E5 hE5 => ?_⟩
            have nE5H := Gd'.F.free hE5
            have E5D : E5 ≠ D := (ne_of_none hDD hE5).symm
            refine lc_list (xs := es.map V.str) (fun i' H' => ∃ (acc : List V) (es' : List Str), H' E5 = some (.lst acc) ∧ es'.Sublist (es.take i') ∧ PrsAt H' acc (es'.map (tp y)) ∧ (∀ t, V.ref t ∈ acc → H t = none) ∧ H' D = some (.lst (es.map V.str)) ∧ H' L = some (.lst (lot.map V.str)) ∧
              PI N H p l r3 r4 r6 pl (pl ++ lot) (n + 200 * i + 60 + 45 * j + i') tv2 ts2 fs2 H') ⟨[], [], upd_same, List.nil_sublist _, PrsAt.nil, (fun t ht => by cases ht), new_same hE5 _ _ hDD, new_same hE5 _ _ hlD, (Gd'.new hE5).mono (by omega)⟩ (fun i H' _ ⟨_, _, _, _, _, _, h, _⟩ => SqL.of h) ?_ ?_
            · rintro i' x H' hx ⟨acc, es', hacc, sub', pa, fa, hD2, hL2, G2⟩
              rw [List.getElem?_map] at hx
              cases ew : es[i']? with
              | none => rw [ew] at hx; cases hx
              | some w =>
                rw [ew] at hx
                cases hx
                have il := (List.getElem?_eq_some_iff.mp ew).1
                have put : ∀ H3 : Hp, Fr H' p l (n + 200 * i + 60 + 45 * j + (i' + 1)) H3 → ∀ t, H3 t = none → ∃ acc2 : List V, (upd H3 t (.tup [.str (tp y w).1, .str (tp y w).2])) E5 = some (.lst acc2) ∧ acc2.length < sizeLine ∧ ∃ (acc : List V) (es' : List Str), (upd (upd H3 t (.tup [.str (tp y w).1, .str (tp y w).2])) E5 (.lst (acc2 ++ [.ref t]))) E5 = some (.lst acc) ∧ es'.Sublist (es.take (i' + 1)) ∧ PrsAt (upd (upd H3 t (.tup [.str (tp y w).1, .str (tp y w).2])) E5 (.lst (acc2 ++ [.ref t]))) acc (es'.map (tp y)) ∧ (∀ t, V.ref t ∈ acc → H t = none) ∧
                    (upd (upd H3 t (.tup [.str (tp y w).1, .str (tp y w).2])) E5 (.lst (acc2 ++ [.ref t]))) D = some (.lst (es.map V.str)) ∧ (upd (upd H3 t (.tup [.str (tp y w).1, .str (tp y w).2])) E5 (.lst (acc2 ++ [.ref t]))) L = some (.lst (lot.map V.str)) ∧
                    PI N H p l r3 r4 r6 pl (pl ++ lot) (n + 200 * i + 60 + 45 * j + (i' + 1)) tv2 ts2 fs2 (upd (upd H3 t (.tup [.str (tp y w).1, .str (tp y w).2])) E5 (.lst (acc2 ++ [.ref t]))) := fun H3 F3 t nt => by
                  have G3 := G2.step A0 F3
                  have acc3 := G2.F.keep F3 nE5H hacc
                  have D3' := G2.F.keep F3 nDH hD2
                  have L3' := G2.F.keep F3 nLH hL2
                  have pa3 := prs_keep G2.F F3 pa fa
                  have G4 := G3.new nt (o := .tup [.str (tp y w).1, .str (tp y w).2])
                  have E53 : E5 ≠ r3 := (ne_of_none Gd'.v3 hE5).symm
                  have E54 : E5 ≠ r4 := (ne_of_none Gd'.v4 hE5).symm
                  have E56 : E5 ≠ r6 := (ne_of_none Gd'.v6 hE5).symm
                  have E5L : E5 ≠ L := (ne_of_none hlD hE5).symm
                  refine ⟨acc, new_same nt _ _ acc3, ?_, acc ++ [.ref t], es' ++ [w], upd_same, ?_, ?_, ?_, ?_, ?_, ?_⟩
                  · rw [pa.1, List.length_map]
                    have := sub'.length_le
                    rw [List.length_take] at this
                    exact small1000 (by omega)
                  · rw [take_snoc ew]
                    exact sub'.append (List.Sublist.refl _)
                  · rw [List.map_append]
                    refine prs_upd (prs_snoc (prs_upd pa3 (fun xs e => by rw [nt] at e; cases e)) upd_same) (fun xs e => ?_)
                    rw [new_same nt _ _ acc3] at e
                    cases e
                  · intro t' ht'
                    rcases List.mem_append.mp ht' with h | h
                    · exact fa t' h
                    · cases List.mem_singleton.mp h
                      exact G3.F.free nt
                  · rw [upd_ne E5D.symm]
                    exact new_same nt _ _ D3'
                  · rw [upd_ne E5L.symm]
                    exact new_same nt _ _ L3'
                  · refine ⟨by rw [upd_ne E53.symm]; exact G4.v3, by rw [upd_ne E54.symm]; exact G4.v4, prs_upd G4.pt (fun xs e => by rw [new_same nt _ _ acc3] at e; cases e), by rw [upd_ne E56.symm]; exact G4.v6, ?_, G4.tok, G4.fr, G4.F.put nE5H⟩
                    intro w' hw'
                    obtain ⟨a', f', e1, h1, h2, h3, h4⟩ := G4.fc w' hw'
                    obtain ⟨a2, f2, e2, g1', _⟩ := Gd'.fc w' hw'
                    have ea : a' = a2 := by
                      rw [e1] at e2
                      injection e2
                    exact ⟨a', f', e1, by rw [upd_ne (by rw [ea]; exact ne_of_none g1' hE5)]; exact h1, h2, h3, h4⟩
                refine ⟨rfl, _, rfl, rfl, _, rfl, ite2 (fun c => iteT ⟨_, rfl, _, rfl, y, w, rfl, fun t nt => put H' ((G2.F.st.fr).mono (by omega)) t nt⟩) (fun c => ?_)⟩
                refine ⟨_, rfl, p, l, _, 3, rfl, G2.F.st, by omega, by decide, by decide, fun r H3 hr3 F3 => ⟨rfl, _, rfl, ite2 (fun _ => ⟨_, rfl, _, rfl, y, w, rfl, fun t nt => put H3 F3 t nt⟩) (fun _ => ?_)⟩⟩
                refine ⟨acc, es', G2.F.keep F3 nE5H hacc, ?_, prs_keep G2.F F3 pa fa, fa, G2.F.keep F3 nDH hD2, G2.F.keep F3 nLH hL2, G2.step A0 F3⟩
                rw [take_snoc ew]
                exact sub'.trans (List.sublist_append_left _ _)
            · rintro HE ⟨acc, es', hacc, sub', pa, fa, hD2, hL2, G2⟩
              rw [List.length_map, List.take_length] at sub'
              have ein' : ∀ e ∈ es', e ∈ pl := fun e h => ein e (sub'.subset h)
              have tok3 : TsOk (pl ++ lot) (ts2 ++ es'.map (tp y)) := G2.tok.fan yin (fun e h => ⟨subl e (ein' e h), fun q => ynpl (q ▸ ein' e h)⟩) (nde.sublist sub') (fun e h hm => by
                rcases tin2 _ hm with ⟨k1, k2⟩ | ⟨u, v, e1, e2⟩ | ⟨v, e1, e2⟩
                · rcases tp_cases y e with q | q <;> rw [q] at k1 k2
                  · exact ynpl k1
                  · exact ynpl k2
                · rcases tp_eq e1 with ⟨h1, _⟩ | ⟨h1, h2⟩
                  · exact ynt (h1 ▸ e2)
                  · exact lno u (List.mem_of_mem_take e2) (h2 ▸ ein' e h)
                · rcases tp_eq e1 with ⟨_, h2⟩ | ⟨h1, h2⟩
                  · exact lno v e2 (h2 ▸ ein' e h)
                  · exact ynpl (h2 ▸ ein' e h))
              have len3 := tok3.len lim44
              refine ⟨r4, E5, tv2, acc, rfl, rfl, G2.v4, hacc, ?_, ?_⟩
              · have := (prs_app G2.pt pa).1
                rw [List.length_append] at this
                have h3 := small1000 (n := (ts2 ++ es'.map (tp y)).length) (by omega)
                omega
              refine ⟨_, _, tv2 ++ acc, ts2 ++ es'.map (tp y), rfl, ((G2.tie A0 (prs_app G2.pt pa) tok3 (fun t ht => by
                rcases List.mem_append.mp ht with h | h
                · exact G2.fr t h
                · exact .inr (fa t h)))).mono ?_, by rw [upd_ne L4]; exact hL2, by rw [upd_ne D4]; exact hD2, fun x hx => ?_⟩
              · rw [List.length_map]
                omega
              · rcases List.mem_append.mp hx with hx | hx
                · rcases tin2 x hx with h | ⟨u, v, e1, e2⟩ | ⟨v, e1, e2⟩
                  · exact .inl h
                  · exact .inr ⟨u, v, e1, by rw [take_snoc ez]; exact List.mem_append_left _ e2⟩
                  · exact .inr ⟨y, v, e1, by rw [take_snoc ez]; exact List.mem_append_right _ (List.mem_singleton.mpr rfl)⟩
                · obtain ⟨e, he', rfl⟩ := List.mem_map.mp hx
                  exact .inr ⟨y, e, rfl, by rw [take_snoc ez]; exact List.mem_append_right _ (List.mem_singleton.mpr rfl)⟩
        · rintro σ H14 ⟨v14, v15, tv, ts, rfl, G, hl', hD', tin⟩
          refine ⟨_, rfl, .inl ⟨rfl, _, SqL.of G.v3⟩, _, rfl, r3, L, _, _, rfl, rfl, G.v3, hl', ?_, ?_⟩
          · rw [List.length_map, List.length_map]
            exact Nat.le_of_lt (small1000 (by omega))
          rw [← List.map_append]
          have Gz := G.place A0 subl
          rw [List.length_map] at Gz
          refine ⟨_, _, _, _, _, _, _, _, pl ++ lot, tv, ts, fs2, rfl, Gz.mono (by omega), lfs.1, lfs.2, ?_, ?_, fun y hy => subl y (sub y hy), ?_⟩
          · exact List.nodup_append.mpr ⟨ndp, ndl, fun x hx y hy e => lno y hy (e ▸ hx)⟩
          · intro y hy
            rcases List.mem_append.mp hy with hy | hy
            · exact pin y hy
            · exact .inr (lotG y hy)
          · rw [List.length_append]
            omega
    · rintro σ H2 ⟨v6, v7, v8, v9, v10, v12, v14, v15, pl, tv, ts, fs, rfl, G, fpos, flen, ndp, pin, sub, lpl⟩
      rw [List.length_map] at G lpl
      refine ⟨_, rfl, _, rfl, r4, tv, ts, rfl, SqL.of G.v4, G.pt, fun aT' ys nT' pyy hy => ?_⟩
      have Gb := G.new nT' (o := .lst ys)
      have q1 := (hN q nq)
      have q2 := (hN aR nR)
      refine ⟨_, rfl, q, _, 2, _, rfl, rfl, SqT.of (Gb.F.but _ _ g1 q1.1 q1.2), rfl, aR, _, rfl, .inl (SqL.of (Gb.F.but _ _ g5 q2.1 q2.2)), fun aR' nR' => ?_⟩
      have Gc := Gb.new nR' (o := .lst (rm.map V.str))
      refine ⟨by show 3 ≤ sizeLine; decide, fun r nr => ?_⟩
      have Gd := Gc.new nr (o := .tup [.ref r3, .ref aT', .ref aR'])
      refine k r pl (sortPr ts) _ (Gd.F.mono (by omega)) ⟨r3, aT', aR', ys, upd_same, Gd.v3, new_same nr _ _ (new_same nR' _ _ upd_same), prs_upd (prs_upd (prs_upd hy (fun xs e => by rw [nT'] at e; cases e)) (fun xs e => by rw [nR'] at e; cases e)) (fun xs e => by rw [nr] at e; cases e), new_same nr _ _ upd_same, .inr (Gc.F.free nr), .inr n3, .inr (G.F.free nT'), .inr (Gb.F.free nR'), fun t ht => G.fr t (pyy.mem_iff.mp ht)⟩
        ⟨ndp, fun y hy => ?_, by omega, G.tok.perm (sortPr_perm ts), rnd, fun y hy => sub y (rin y hy), (G.tok.perm (sortPr_perm ts)).len (by omega)⟩ (fun y hy => ?_) lpl
      · rcases pin y hy with h | h
        · exact List.mem_append_left _ (nmn y h)
        · exact List.mem_append_right _ (List.mem_append_right _ h)
      · rcases pin y hy with h | h
        · exact .inl (nmn y h)
        · exact .inr h
end
end E1

set_option Elab.async false
set_option linter.all false
set_option maxRecDepth 100000
set_option maxHeartbeats 8000000
/-! Raw boards: flat ones with pieces, crossed ones, any of these. -/
namespace E1
open PySem PySem.Spec PyProof.Rows L2 G0
abbrev N_a_flat : List Str := ["_law_stream", "_law_many", "_law_pins", "_law_pieces", "_law_flat", "_law_k"]
theorem sc_a_flat : FnScope N_a_flat ["_law_stream", "_law_many", "_law_pins", "_law_pieces"] (defScope (topS 40)) := ⟨rfl, rfl, rfl, by decide +kernel, rfl, by decide +kernel, by decide +kernel⟩
theorem FlatAt.frame {N : Addr → Prop} {H H' : Hp} {r : Addr} {ns : List Str} {ts : List Pr} {rm : List Str} {fs : List V} (b : FlatAt N H r ns ts rm fs) (S : ∀ c o, N c → H c = some o → H' c = some o) : FlatAt N H' r ns ts rm fs := by
  obtain ⟨aP, aT, aR, aF, tv, h1, h2, h3, h4, h5, h6, h7, n1, n2, n3, n4, n5, n6⟩ := b
  exact ⟨aP, aT, aR, aF, tv, S _ _ n1 h1, S _ _ n2 h2, S _ _ n3 h3, prs_frame h4 n6 S, S _ _ n4 h5, S _ _ n5 h6, h7.frame S, n1, n2, n3, n4, n5, n6⟩
theorem fc_dp {K : PySem.W.Frag} {N : Addr → Prop} {H : Hp} {ok : Str → Prop} (hk : ∀ z, ok z → PyData.strOk z = true) : ∀ {fs : List V}, FcAt N H fs ok → ∃ ds, DpAll K H fs ds ∧ PyData.canLayAll0 ds = true ∧ PyData.depthAll ds ≤ 2
  | [], _ => ⟨[], .nil, rfl, Nat.zero_le _⟩
  | v :: fs, h => by
    obtain ⟨ds, h1, h2, h3⟩ := fc_dp (K := K) hk (fs := fs) (h.sub fun v hv => List.mem_cons_of_mem _ hv)
    obtain ⟨a, f, rfl, ha, nd, fin, na⟩ := h v List.mem_cons_self
    have hs := shS (ss := f) fun z hz => hk z (fin z hz)
    have hl : (strD f).canLay0 = true := by
      have : ((strD f).canLay0 && decide ((strD f).depth ≤ 64)) = true := hs
      rw [Bool.and_eq_true] at this
      exact this.1
    have hd : (strD f).depth ≤ 2 := by
      have := (lays f fun z hz => hk z (fin z hz)).2
      simp only [strD, PyData.depth]
      omega
    refine ⟨strD f :: ds, .cons (dp_strs ha) h1, ?_, ?_⟩
    · show ((strD f).canLay0 && PyData.canLayAll0 ds) = true
      rw [hl, h2]
      rfl
    · show max (strD f).depth (PyData.depthAll ds) ≤ 2
      omega
def spFlat : Sp := fun vs H Q _ => ∃ (p l : Addr) (n m pins pieces : Nat), vs = [.ref p, .int (m : Int), .int (pins : Int), .int (pieces : Int)] ∧ Stm H p l n ∧ n < 38000000 ∧ m ≤ 35 ∧ pieces ≤ 3 ∧
  ∀ r pl ts rm H', Fr H p l (n + 31100) H' → RawAt (fun c => H c = none) H' r pl ts rm → RawOk pl ts rm → (∀ y ∈ pl, y ∈ baseN ∨ y ∈ gN) → pl.length ≤ m + 3 * pieces → rm.length = min pins m → Q (.ref r) H'
section
variable {P : Program} {w : World} {K : PySem.W.Frag} {mg : Str → Option Value} {base : Heap}
theorem bFlat (Z : LawD K mg) : Binds K (Z.d 40) ["_law_stream", "_law_many", "_law_pins", "_law_pieces"] [] := (Z.F 40 (by decide)).binds fun _ _ _ _ _ _ us hl => match us, hl with | [_, _, _, _], _ => rfl
theorem ok_a_flat (Z : LawD K mg) : FnOk P w K mg base CX0 4 (Z.f 40) (Z.d 40) ["_law_stream", "_law_many", "_law_pins", "_law_pieces"] spFlat := by
  have GG : FnOk P w K mg base CX0 3 (Z.f 38) (Z.d 38) ["_law_stream", "_law_names", "_law_pins"] spGrown := ok_a_grown Z
  have GN : FnOk P w K mg base CX0 3 (Z.f 33) (Z.d 33) ["_law_stream", "_law_many"] spNames := ok_a_names Z
  have GD : FnOk P w K mg base CX0 1 Z.s.fD Z.s.dD ["_law_stream", "_law_many"] spDr := ok_dr Z.s
  have GP : FnOk P w K mg base CX0 3 (Z.f 39) (Z.d 39) ["_law_stream", "_law_flat", "_law_sizes"] spPut := ok_a_put Z
  refine Fun.ok (Z.F 40 (by decide)) sc_a_flat (fun vs H Q E h => ?_) (fun cdv A outer s H vs Q E hr h => ⟨_, pss_cons (ps_set (i := 4) sc_a_flat.nd rfl (Or.inl rfl) (pe_call GG hr (by rfl) (Z.g 38 (by decide)) (Z.F 38 (by decide)).kp (bGrown Z) .nil pass0 (pa_cons (pv 0) (pa_cons (pe_call GN hr (by rfl) (Z.g 33 (by decide)) (Z.F 33 (by decide)).kp (bNames Z) .nil pass0 (pa_cons (pv 0) (pa_cons (pv 1) pa_nil))) (pa_cons (pe_callB (call_min2 rfl) (by rfl) (Z.free "min" (by decide)) boot_min (pa_cons (pv 2) (pa_cons (pv 1) pa_nil))) pa_nil)))))
  (pss_one (ps_ret (pe_call GP hr (by rfl) (Z.g 39 (by decide)) (Z.F 39 (by decide)).kp (bPut Z) .nil pass0 (pa_cons (pv 0) (pa_cons (pv 4) (pa_cons (pe_ifExp (pt_cmpR (op_neD hr.units) (pe_ix ix_tup (pv 4) pe_int (fun _ _ => rfl)) (pe_lst (pa_cons (pe_lst pa_nil) pa_nil)) (nomark _)) (pe_lc (own := [("_law_k", 5)]) (tt := tYes) rfl sc_a_flat.nd (pi_range1 (by rfl) (Z.free "range" (by decide)) (pa_cons (pv 3) pa_nil)) (blkOk_by (own := [("_law_k", 5)]) (N := N_a_flat) (sc := defScope (topS 40)) (by decide +kernel)) (fun _ _ _ _ _ => (pg_name (i := 5) sc_a_flat.nd rfl (Or.inl rfl))) (fun _ _ _ _ _ => pts_nil) (fun _ _ _ _ _ => (pe_op op_add pe_int (pe_call GD (hr.mono (by decide)) (by rfl) Z.s.gD Z.s.FD.kp (bDr Z.s) .nil pass0 (pa_cons (pv 0) (pa_cons pe_int pa_nil)))))) (pe_lst pa_nil)) pa_nil)))))), ?_⟩)
  · obtain ⟨p, l, n, m, pins, pieces, rfl, _⟩ := h
    rfl
  · obtain ⟨p, l, n, m, pins, pieces, rfl, S, hn, hm, hpc, k⟩ := h
    have emin : (if (m : Int) < (pins : Int) then (m : Int) else (pins : Int)) = ((min pins m : Nat) : Int) := by
      split <;> omega
    refine ⟨_, rfl, _, rfl, _, rfl, p, l, n, m, rfl, S, by omega, by omega, fun q ns H1 F1 nq hq lns ndn inb => ⟨_, rfl, _, rfl, pins, m, rfl, ?_⟩⟩
    rw [emin]
    have nq' := F1.ne nq
    refine ⟨p, l, q, n + 17, min pins m, ns, rfl, F1.st, by omega, hq, nq'.1, nq'.2, ndn, fun z hz => List.all_eq_true.mp baseN_ok z (inb z hz), by omega, by omega, fun r ts fs H2 F2 fl tok fpos flen => ?_⟩
    have F02 := F1.trans F2
    have fl0 : FlatAt (fun c => H c = none) H2 r ns ts (ns.take (min pins m)) fs := by
      obtain ⟨aP, aT, aR, aF, tv, h1, h2, h3, h4, h5, h6, h7, n1, n2, n3, n4, n5, n6⟩ := fl
      exact ⟨aP, aT, aR, aF, tv, h1, h2, h3, h4, h5, h6, h7.weak (fun c h => F1.free h) (fun _ h => h), F1.free n1, F1.free n2, F1.free n3, F1.free n4, F1.free n5, fun t ht => F1.free (n6 t ht)⟩
    obtain ⟨aP, aT, aR, aF, tv, h1, h2, h3, h4, h5, h6, h7, n1, n2, n3, n4, n5, n6⟩ := id fl0
    refine ⟨_, rfl, _, rfl, _, rfl, r, _, 3, _, rfl, rfl, SqT.of h1, rfl, Nat.zero_le _, fun a1 na1 => ⟨by show 1 ≤ sizeLine; decide, fun a2 na2 => ?_⟩⟩
    have F03 := F02.put (F02.free na1) (o := .lst [])
    have F04 := F03.put (F03.free na2) (o := .lst [.ref a1])
    obtain ⟨ds, dd, dl, dp⟩ := fc_dp (K := K) (fun z (hz : z ∈ ns) => name_ok (List.all_eq_true.mp baseN_ok z (inb z hz))) h7
    have SS := (new_same (o := .lst []) na1).trans (new_same (o := .lst [V.ref a1]) na2)
    obtain ⟨ds2, dd2, dl2, dp2⟩ := fc_dp (K := K) (fun z (hz : z ∈ ns) => name_ok (List.all_eq_true.mp baseN_ok z (inb z hz))) (h7.frame fun c o _ e => SS c o e)
    refine ⟨.list ds2, .list [.list []], .lst (SqL.of (SS _ _ h6)) dd2, .lst (SqL.of upd_same) (.cons (.lst (SqL.of (new_same na2 _ _ upd_same)) .nil) .nil), ?_, rfl, _, rfl, ?_⟩
    · show ((PyData.list ds2).canLay0 && decide ((PyData.list ds2).depth ≤ 64)) = true
      rw [Bool.and_eq_true]
      refine ⟨by simp only [PyData.canLay0]; exact dl2, decide_eq_true ?_⟩
      simp only [PyData.depth]
      omega
    refine ite_share (fun y H' => ∃ (zz : Addr) (ks : List Nat), y = .ref zz ∧ H' zz = some (.lst (ks.map fun (k : Nat) => V.int (k : Int))) ∧ ks.length ≤ pieces ∧ (∀ k ∈ ks, k ≤ 3) ∧ H zz = none ∧ Fr (upd (upd H2 a1 (.lst [])) a2 (.lst [.ref a1])) p l (n + 17 + 30000 + 3) H') (fun c Q' kQ => ?_) (fun c Q' kQ => ?_) ?_
    · refine ⟨_, rfl, (pieces : Int), rfl, by omega, by omega, fun D hD => ?_⟩
      rw [Int.toNat_natCast]
      have nDH := F04.free hD
      refine lc_range (n := pieces) (fun i H' => ∃ ks : List Nat, H' D = some (.lst (ks.map fun (k : Nat) => V.int (k : Int))) ∧ ks.length = i ∧ (∀ k ∈ ks, k ≤ 3) ∧ Fr (upd (upd H2 a1 (.lst [])) a2 (.lst [.ref a1])) p l (n + 17 + 30000 + i) H') ⟨[], upd_same, rfl, by simp, (F04.st.fr.put hD)⟩ ?_ ?_
      · rintro i H' hi ⟨ks, hks, lks, kk, F'⟩
        refine ⟨rfl, yes_of ⟨_, rfl, p, l, _, 3, rfl, F'.st, by omega, by decide, by decide, fun d H6 hd F6 => ⟨_, _, rfl, rfl, _, F'.keep F6 hD hks, ?_, ks ++ [1 + d], ?_, ?_, ?_, ?_⟩⟩⟩
        · rw [List.length_map, lks]
          exact small1000 (by omega)
        · rw [upd_same, List.map_append]
          rfl
        · rw [List.length_append, lks]; rfl
        · intro k' hk'
          rcases List.mem_append.mp hk' with h | h
          · exact kk k' h
          · rw [List.mem_singleton.mp h]
            omega
        · exact (F'.trans F6).put hD
      · rintro H' ⟨ks, hks, lks, kk, F'⟩
        exact kQ _ _ ⟨D, ks, rfl, hks, by omega, kk, nDH, F'.mono (by omega)⟩
    · refine ⟨Nat.zero_le _, fun zz nz => kQ _ _ ⟨zz, [], rfl, upd_same, Nat.zero_le _, by simp, F04.free nz, (F04.st.fr.put nz).mono (by omega)⟩⟩
    rintro y H5 ⟨zz, ks, rfl, hzz, lks, kk, nzz, F5⟩
    have F05 := F04.trans F5
    have nez := F05.ne nzz
    have fl5 := fl0.frame (H' := H5) fun c o hc e => F04.keep F5 hc (SS _ _ e)
    have lrm : (ns.take (min pins m)).length = min pins m := by
      rw [List.length_take]
      omega
    refine ⟨p, l, r, zz, _, (fun c => H c = none), ns, ts, ns.take (min pins m), fs, ks, rfl, F05.st, by omega, fl5, fun c hc => F05.ne hc, tok, fpos, flen, ndn, inb, by omega, fun z hz => List.mem_of_mem_take hz, ndn.sublist (List.take_sublist _ _), hzz, nez.1, nez.2, by omega, kk, fun r2 pl2 ts2 H6 F6 raw ok nm len => ?_⟩
    refine k r2 pl2 ts2 _ H6 ((F05.trans F6).mono (by omega)) (raw.weak fun c hc => hc.elim id fun h => F05.free h) ok nm ?_ lrm
    have : 3 * ks.length ≤ 3 * pieces := Nat.mul_le_mul_left 3 lks
    omega
end
abbrev N_a_crossed : List Str := ["_law_stream", "_law_raw", "_law_places", "_law_ties", "_law_rim", "_law_ends", "_law_at", "_law_name"]
theorem sc_a_crossed : FnScope N_a_crossed ["_law_stream", "_law_raw"] (defScope (topS 41)) := ⟨rfl, rfl, rfl, by decide +kernel, rfl, by decide +kernel, by decide +kernel⟩
def crS : List Str := ["cr0ss", "cr1ss"]
theorem crS_no : crS.all (fun z => decide (z ∉ baseN ++ gN)) = true := by decide +kernel
theorem crS_in : crS.all (fun z => decide (z ∈ allN)) = true := by decide +kernel
def spCrossed : Sp := fun vs H Q _ => ∃ (p l q : Addr) (n : Nat) (N : Addr → Prop) (pl : List Str) (ts : List Pr) (rm : List Str), vs = [.ref p, .ref q] ∧ Stm H p l n ∧ n < 80000000 ∧ RawAt N H q pl ts rm ∧ (∀ c, N c → c ≠ p ∧ c ≠ l) ∧ RawOk pl ts rm ∧ (∀ y ∈ pl, y ∈ baseN ∨ y ∈ gN) ∧ pl.length ≤ 42 ∧ 4 ≤ rm.length ∧
  ∀ r pl2 ts2 rm2 H', Fr H p l (n + 50) H' → RawAt (fun c => N c ∨ H c = none) H' r pl2 ts2 rm2 → RawOk pl2 ts2 rm2 → pl2.length = pl.length + 2 → (∀ z ∈ pl2, z ∈ drawnN) → Q (.ref r) H'
section
variable {P : Program} {w : World} {K : PySem.W.Frag} {mg : Str → Option Value} {base : Heap}
theorem bCrossed (Z : LawD K mg) : Binds K (Z.d 41) ["_law_stream", "_law_raw"] [] := (Z.F 41 (by decide)).binds fun _ _ _ _ _ _ us hl => match us, hl with | [_, _], _ => rfl
theorem ok_a_crossed (Z : LawD K mg) : FnOk P w K mg base CX0 3 (Z.f 41) (Z.d 41) ["_law_stream", "_law_raw"] spCrossed := by
  have GM : FnOk P w K mg base CX0 2 Z.s.fM Z.s.dM ["_law_stream", "_law_some"] (spMx K) := ok_mx Z.s
  have GT : FnOk P w K mg base CX0 1 (Z.f 34) (Z.d 34) N_a_tie spTie := ok_a_tie Z
  refine Fun.ok (Z.F 41 (by decide)) sc_a_crossed (fun vs H Q E h => ?_) (fun cdv A outer s H vs Q E hr h => ⟨_, pss_cons (ps_par3 (i := 2) (j := 3) (l := 4) rfl sc_a_crossed.nd rfl rfl rfl (by decide) (by decide) (by decide) rfl rfl rfl (pa_cons (pe_callTy call_list_of (by rfl) Z.t.list PyProof.Rows.boot_list (pa_cons (pe_ix ix_tup (pv 1) pe_int (fun _ _ => rfl)) pa_nil)) (pa_cons (pe_callTy call_list_of (by rfl) Z.t.list PyProof.Rows.boot_list (pa_cons (pe_ix ix_tup (pv 1) pe_int (fun _ _ => rfl)) pa_nil)) (pa_cons (pe_callTy call_list_of (by rfl) Z.t.list PyProof.Rows.boot_list (pa_cons (pe_ix ix_tup (pv 1) pe_int (fun _ _ => rfl)) pa_nil)) pa_nil))) (by rfl))
  (pss_cons (ps_set (i := 5) sc_a_crossed.nd rfl (Or.inl rfl) (pe_callB cr_sortedI (by rfl) Z.t.sorted boot_sorted (pa_cons (pe_slice sl_list (pe_call GM hr (by rfl) Z.s.gM Z.s.FM.kp (bMx Z.s) .nil pass0 (pa_cons (pv 0) (pa_cons (pe_listRg rfl (by rfl) Z.t.list (prg_1 (by rfl) (Z.free "range" (by decide)) (pe_callB call_len_seq (by rfl) Z.t.len PySem.boot_len (pa_cons (pv 4) pa_nil)))) pa_nil))) po_none (po_some pe_int)) pa_nil)))
  (pss_cons (ps_for PassesOwn.never rfl (pi_tup (pe_tup (pa_cons (pe_tup (pa_cons pe_int (pa_cons pe_str pa_nil))) (pa_cons (pe_tup (pa_cons pe_int (pa_cons pe_str pa_nil))) pa_nil)))) (by exact (pg_tup rfl (pgs_cons (pg_name (i := 6) sc_a_crossed.nd rfl (Or.inl rfl)) (pgs_cons (pg_name (i := 7) sc_a_crossed.nd rfl (Or.inl rfl)) pgs_nil))))
    (pss_one (ps_expr (pe_bm PySem.F.plainAttrs_list PySem.F.slot_list_extend PySem.F.type_list_extend mt_extend (pv 3) (pa_cons (pe_lst (pa_cons (pe_call GT (hr.mono (by decide)) (by rfl) (Z.g 34 (by decide)) (Z.F 34 (by decide)).kp (bTie Z) .nil pass0 (pa_cons (pe_ix ix_list (pv 4) (pe_ix ix_list (pv 5) (pv 6) (fun _ _ => rfl)) (fun _ _ => rfl)) (pa_cons (pv 7) pa_nil))) (pa_cons (pe_call GT (hr.mono (by decide)) (by rfl) (Z.g 34 (by decide)) (Z.F 34 (by decide)).kp (bTie Z) .nil pass0 (pa_cons (pe_ix ix_list (pv 4) (pe_ix ix_list (pv 5) (pe_op op_add (pv 6) pe_int) (fun _ _ => rfl)) (fun _ _ => rfl)) (pa_cons (pv 7) pa_nil))) pa_nil))) pa_nil)))))
  (pss_one (ps_ret (pe_tup (pa_cons (pe_op op_cat (pv 2) (pe_lst (pa_cons pe_str (pa_cons pe_str pa_nil)))) (pa_cons (pe_callB cr_sortP (by rfl) Z.t.sorted boot_sorted (pa_cons (pv 3) pa_nil)) (pa_cons (pv 4) pa_nil)))))))), ?_⟩)
  · obtain ⟨p, l, q, n, N, pl, ts, rm, rfl, _⟩ := h
    rfl
  · obtain ⟨p, l, q, n, N, pl, ts, rm, rfl, S, hn, ⟨aP, aT, aR, tv, g1, g2, g3, g4, g5, nq, nP, nT, nR, nt⟩, hN, ok, nm, lpl, lrm, k⟩ := h
    refine ⟨_, rfl, q, _, 0, _, rfl, rfl, SqT.of g1, rfl, aP, _, rfl, .inl (SqL.of g2), fun r2 n2 => ?_⟩
    have S1 := new_same (o := .lst (pl.map V.str)) n2
    refine ⟨_, rfl, q, _, 1, _, rfl, rfl, SqT.of (S1 _ _ g1), rfl, aT, _, rfl, .inl (SqL.of (S1 _ _ g3)), fun r3 n3' => ?_⟩
    have S2 := S1.trans (new_same (o := .lst tv) n3')
    have n3 := S1.free n3'
    refine ⟨_, rfl, q, _, 2, _, rfl, rfl, SqT.of (S2 _ _ g1), rfl, aR, _, rfl, .inl (SqL.of (S2 _ _ g5)), fun r4 n4' => ⟨_, _, _, rfl, ?_⟩⟩
    have S3 := S2.trans (new_same (o := .lst (rm.map V.str)) n4')
    have n4 := S2.free n4'
    have h2 : (upd (upd (upd H r2 (.lst (pl.map V.str))) r3 (.lst tv)) r4 (.lst (rm.map V.str))) r2 = some (.lst (pl.map V.str)) := new_same n4' _ _ (new_same n3' _ _ upd_same)
    have h3 : (upd (upd (upd H r2 (.lst (pl.map V.str))) r3 (.lst tv)) r4 (.lst (rm.map V.str))) r3 = some (.lst tv) := new_same n4' _ _ upd_same
    have h4 : (upd (upd (upd H r2 (.lst (pl.map V.str))) r3 (.lst tv)) r4 (.lst (rm.map V.str))) r4 = some (.lst (rm.map V.str)) := upd_same
    have F3 : Fr H p l n _ := S.fr.same S3
    have e32 : r3 ≠ r2 := (ne_of_none upd_same n3').symm
    have e34 : r3 ≠ r4 := ne_of_none upd_same n4'
    have lr44 : rm.length ≤ 44 := by
      have := ok.rnd.length_le_of_subset (l₂ := pl) ok.rin
      omega
    generalize hH3 : upd (upd (upd H r2 (.lst (pl.map V.str))) r3 (.lst tv)) r4 (.lst (rm.map V.str)) = H3 at *
    refine ⟨_, rfl, _, rfl, r4, _, rfl, .inl (SqL.of h4), _, rfl, RgOk.of_le (by omega) (by rw [List.length_map]; omega) (by omega) (by omega), fun q5 nq5 => ?_⟩
    have F4 := F3.put (F3.free nq5) (o := .lst (rgV 0 ((rm.map V.str).length : Nat)))
    have erg : rgV 0 (((rm.map V.str).length : Nat) : Int) = ((List.range rm.length).map fun (i : Nat) => (i : Int)).map V.int := by
      unfold rgV
      rw [List.map_map, List.length_map]
      have : (((rm.length : Nat) : Int) - 0).toNat = rm.length := by omega
      rw [this]
      exact List.map_congr_left fun i _ => by
        show V.int (0 + (i : Int)) = V.int (i : Int)
        rw [Int.zero_add]
    refine ⟨p, l, q5, _, _, rfl, F4.st, by omega, SqL.of upd_same, by rw [rgV_length, List.length_map]; omega, fun q6 ys H5 hperm F5 nq6 hq6 => ?_⟩
    have lrg : (rgV 0 (((rm.map V.str).length : Nat) : Int)).length ≤ 44 := by
      rw [rgV_length, List.length_map]
      omega
    rw [erg] at hperm
    obtain ⟨ks, rfl, kperm⟩ := ints_perm hperm
    have F05 := F4.trans F5
    have keep5 : ∀ {c : Addr} {o : HO}, H c = none → H3 c = some o → H5 c = some o := fun hc e => F4.keep F5 hc (new_same nq5 _ _ e)
    refine ⟨_, rfl, q6, _, rfl, SqL.of hq6, fun q7 nq7 => ?_⟩
    have ec : cutV (ks.map V.int) none (some 4) = (ks.take 4).map V.int := by
      rw [show ((4 : Int)) = ((4 : Nat) : Int) from rfl, cut_to, List.map_take]
    rw [ec]
    have F7 := F05.put (F05.free nq7) (o := .lst ((ks.take 4).map V.int))
    refine ⟨q7, ks.take 4, rfl, SqL.of upd_same, fun es q8 eperm epw nq8 => ?_⟩
    have n8 := F7.free nq8
    have F8 := F7.put n8 (o := .lst (es.map V.int))
    have lk : ks.length = rm.length := by
      rw [kperm.length_eq, List.length_map, List.length_range]
    have elen : es.length = 4 := by
      rw [eperm.length_eq, List.length_take]
      omega
    have ndk : ks.Nodup := kperm.nodup_iff.mpr (nodup_map (fun x y _ _ h => by omega) List.nodup_range)
    have nde : es.Nodup := eperm.nodup_iff.mpr (ndk.sublist (List.take_sublist _ _))
    have ein : ∀ e ∈ es, ∃ t : Nat, e = (t : Int) ∧ t < rm.length := fun e he => by
      have h1 := kperm.mem_iff.mp (List.mem_of_mem_take (eperm.mem_iff.mp he))
      obtain ⟨t, ht, rfl⟩ := List.mem_map.mp h1
      exact ⟨t, rfl, List.mem_range.mp ht⟩
    generalize hH7 : upd (upd H5 q7 (.lst ((ks.take 4).map V.int))) q8 (.lst (es.map V.int)) = H7 at *
    have h87 : H7 q8 = some (.lst (es.map V.int)) := by rw [← hH7]; exact upd_same
    have keep7 : ∀ {c : Addr} {o : HO}, H c = none → H3 c = some o → H7 c = some o := fun hc e => by
      rw [← hH7]
      exact new_same nq8 _ _ (new_same nq7 _ _ (keep5 hc e))
    have h27 := keep7 n2 h2
    have h37 := keep7 n3 h3
    have h47 := keep7 n4 h4
    refine ⟨by show 2 ≤ sizeLine; decide, fun t1 nt1 => ⟨by show 2 ≤ sizeLine; decide, fun t2 nt2 => ⟨by show 2 ≤ sizeLine; decide, fun t nt' => ⟨t, rfl, ⟨_, SqT.of upd_same⟩, ?_⟩⟩⟩⟩
    have SS := ((new_same (o := .tup [.int 0, .str "cr0ss"]) nt1).trans (new_same (o := .tup [.int 1, .str "cr1ss"]) nt2)).trans (new_same (o := .tup [.ref t1, .ref t2]) nt')
    have ht1 := new_same nt' (o := .tup [.ref t1, .ref t2]) _ _ (new_same nt2 (o := .tup [.int 1, .str "cr1ss"]) _ _ (upd_same (a := t1) (o := .tup [.int 0, .str "cr0ss"]) (H := H7)))
    have ht2 := new_same nt' (o := .tup [.ref t1, .ref t2]) _ _ (upd_same (a := t2) (o := .tup [.int 1, .str "cr1ss"]) (H := upd H7 t1 (.tup [.int 0, .str "cr0ss"])))
    have ht : (upd (upd (upd H7 t1 (.tup [.int 0, .str "cr0ss"])) t2 (.tup [.int 1, .str "cr1ss"])) t (.tup [.ref t1, .ref t2])) t = some (.tup [.ref t1, .ref t2]) := upd_same
    generalize hHs : upd (upd (upd H7 t1 (.tup [.int 0, .str "cr0ss"])) t2 (.tup [.int 1, .str "cr1ss"])) t (.tup [.ref t1, .ref t2]) = Hs at *
    have h2s := SS _ _ h27
    have h3s := SS _ _ h37
    have h4s := SS _ _ h47
    have h8s := SS _ _ h87
    have Fs := F8.same SS
    have ts' := ne_of_none h37 nt1
    have n31 : t1 ≠ r3 := (ne_of_none h37 nt1).symm
    have n32 : t2 ≠ r3 := (ne_of_none (new_same nt1 _ _ h37) nt2).symm
    have n33 : t ≠ r3 := (ne_of_none (new_same nt2 _ _ (new_same nt1 _ _ h37)) nt').symm
    have n38 : q8 ≠ r3 := (ne_of_none (new_same nq7 _ _ (keep5 n3 h3)) nq8).symm
    have pts : PrsAt Hs tv ts := ⟨g4.1, fun i v q' e1 e2 => by
      obtain ⟨c, rfl, hc⟩ := g4.2 i v q' e1 e2
      have nc := hN c (nt c (List.mem_of_getElem? e1))
      exact ⟨c, rfl, Fs.but _ _ hc nc.1 nc.2⟩⟩
    have okN : ∀ z ∈ crS, z ∉ pl := fun z hz hm => by
      have h := of_decide_eq_true (List.all_eq_true.mp crS_no z hz)
      rcases nm z hm with h2 | h2
      · exact h (List.mem_append_left _ h2)
      · exact h (List.mem_append_right _ h2)
    refine for_tup (xs := [.ref t1, .ref t2]) (fun i σ H' => ∃ v6 v7 tv' ts', σ = [some (.ref p), some (.ref q), some (.ref r2), some (.ref r3), some (.ref r4), some (.ref q8), v6, v7] ∧ H' r3 = some (.lst tv') ∧ PrsAt H' tv' ts' ∧ TsOk (pl ++ crS.take i) ts' ∧ (∀ t, V.ref t ∈ tv' → N t ∨ H t = none) ∧
      (∀ c o, c ≠ r3 → Hs c = some o → H' c = some o) ∧ Fr H p l (n + 50) H') ⟨none, none, tv, ts, rfl, h3s, pts, by rw [List.take_zero, List.append_nil]; exact ok.ts, fun t ht => .inl (nt t ht), fun c o _ e => e, Fs.mono (by simp only [List.length_map, List.length_range] at *; omega)⟩ (fun i σ H' _ ⟨_, _, _, _, _, _, _, _, _, kp, _⟩ => SqT.of (kp t _ n33 ht)) ?_ ?_
    · rintro i x σ H' hx ⟨v6, v7, tv', ts', rfl, h3', pt', tok', fr', kp, F'⟩
      obtain ⟨ti, nm', rfl, hti, hnm, i2⟩ : ∃ ti nm, x = .ref ti ∧ H' ti = some (.tup [.int (i : Int), .str nm]) ∧ crS[i]? = some nm ∧ i < 2 := by
        match i, hx with
        | 0, hx =>
          cases hx
          exact ⟨t1, "cr0ss", rfl, kp _ _ n31 ht1, rfl, by decide⟩
        | 1, hx =>
          cases hx
          exact ⟨t2, "cr1ss", rfl, kp _ _ n32 ht2, rfl, by decide⟩
        | i + 2, hx => simp at hx
      have e1 : es[i]? = some (es[i]'(by omega)) := List.getElem?_eq_getElem _
      have e2 : es[i + 2]? = some (es[i + 2]'(by omega)) := List.getElem?_eq_getElem _
      obtain ⟨a, ea, la⟩ := ein _ (List.mem_of_getElem? e1)
      obtain ⟨b, eb, lb⟩ := ein _ (List.mem_of_getElem? e2)
      rw [ea] at e1
      rw [eb] at e2
      have ab : a ≠ b := fun h => by
        rw [← h] at e2
        have := (List.getElem?_inj (by omega) nde).mp (e1.trans e2.symm)
        omega
      have x1 : rm[a]? = some rm[a] := List.getElem?_eq_getElem la
      have y1 : rm[b]? = some rm[b] := List.getElem?_eq_getElem lb
      have xy : rm[a] ≠ rm[b] := fun h => ab ((List.getElem?_inj la ok.rnd).mp (by rw [x1, y1, h]))
      have xin := ok.rin _ (List.mem_of_getElem? x1)
      have yin := ok.rin _ (List.mem_of_getElem? y1)
      generalize rm[a] = xa at *
      generalize rm[b] = yb at *
      have h4' := kp _ _ e34.symm h4s
      have h8' := kp _ _ n38 h8s
      have ncr : nm' ∈ crS := List.mem_of_getElem? hnm
      have nnp := okN nm' ncr
      have cnd : crS.Nodup := by decide
      have nnt : nm' ∉ crS.take i := take_mem cnd hnm
      have lim1 : pl ++ crS.take (i + 1) = (pl ++ crS.take i) ++ [nm'] := by rw [take_snoc hnm, List.append_assoc]
      have nnl : nm' ∉ pl ++ crS.take i := fun h => by
        rcases List.mem_append.mp h with h | h
        · exact nnp h
        · exact nnt h
      have tok2 : TsOk (pl ++ crS.take (i + 1)) (ts' ++ [xa, yb].map (tp nm')) := (tok'.mono fun z hz => by rw [lim1]; exact List.mem_append_left _ hz).fan (by rw [lim1]; exact List.mem_append_right _ (List.mem_singleton.mpr rfl)) (fun e he => by
          have hp : e ∈ pl := by
            rcases List.mem_cons.mp he with rfl | he
            · exact xin
            · rw [List.mem_singleton.mp he]
              exact yin
          exact ⟨List.mem_append_left _ hp, fun q => nnp (q ▸ hp)⟩) (by simp [xy]) (fun e he hm => by
          obtain ⟨k1, k2, _⟩ := tok'.ok _ hm
          rcases tp_cases nm' e with q | q <;> rw [q] at k1 k2
          · exact nnl k1
          · exact nnl k2)
      have tok3 : TsOk (pl ++ crS.take (i + 1)) (ts' ++ ([tp xa nm'] ++ [tp yb nm'])) := by
        have h := tok2
        rw [show [xa, yb].map (tp nm') = [tp xa nm'] ++ [tp yb nm'] from by simp only [List.map_cons, List.map_nil, tp_swap nm']; rfl] at h
        exact h
      have len2 := tok2.len (by
        rw [List.length_append, List.length_take]
        have : crS.length = 2 := rfl
        omega)
      refine ⟨ti, _, rfl, SqT.of hti, rfl, _, _, rfl, _, _, rfl, rfl, ?_⟩
      refine ⟨_, rfl, .inl ⟨rfl, _, SqL.of h3'⟩, _, rfl, _, rfl, _, rfl, q8, _, (i : Int), _, rfl, rfl, SqL.of h8', atI_nat (by rw [List.getElem?_map, e1]; rfl), r4, _, (a : Int), .str xa, rfl, rfl, SqL.of h4', atI_nat (by rw [List.getElem?_map, x1]; rfl), _, rfl, xa, nm', rfl, fun u nu => ?_⟩
      have nuH := F'.free nu
      have hu : (upd H' u (.tup [.str (tp xa nm').1, .str (tp xa nm').2])) u = some (.tup [.str (tp xa nm').1, .str (tp xa nm').2]) := upd_same
      refine ⟨_, rfl, _, rfl, _, rfl, _, _, rfl, rfl, q8, _, ((i + 2 : Nat) : Int), _, rfl, rfl, SqL.of (new_same nu _ _ h8'), atI_nat (by rw [List.getElem?_map, e2]; rfl), r4, _, (b : Int), .str yb, rfl, rfl, SqL.of (new_same nu _ _ h4'), atI_nat (by rw [List.getElem?_map, y1]; rfl), _, rfl, yb, nm', rfl, fun v nv => ⟨by show 2 ≤ sizeLine; decide, fun w nw => ?_⟩⟩
      have S' := (new_same (o := .tup [.str (tp xa nm').1, .str (tp xa nm').2]) nu).trans ((new_same (o := .tup [.str (tp yb nm').1, .str (tp yb nm').2]) nv).trans (new_same (o := .lst [.ref u, .ref v]) nw))
      have hu3 := new_same nw (o := .lst [.ref u, .ref v]) _ _ (new_same nv (o := .tup [.str (tp yb nm').1, .str (tp yb nm').2]) _ _ hu)
      have hv3 := new_same nw (o := .lst [.ref u, .ref v]) _ _ (upd_same (a := v) (o := .tup [.str (tp yb nm').1, .str (tp yb nm').2]) (H := upd H' u (.tup [.str (tp xa nm').1, .str (tp xa nm').2])))
      have nvH := F'.free ((new_same nu).free nv)
      have h33 := S' _ _ h3'
      have n3w : r3 ≠ w := ne_of_none (new_same nv _ _ (new_same nu _ _ h3')) nw
      refine ⟨r3, w, tv', _, rfl, rfl, h33, upd_same, ?_, ?_⟩
      · have h1 := pt'.1
        rw [List.length_append] at len2
        have h3 : 5000 < sizeLine := by decide
        show tv'.length + 2 ≤ sizeLine
        omega
      · have pt2 : PrsAt _ tv' ts' := pt'.mono fun t xs e => S' _ _ e
        have pt3 := prs_snoc (prs_snoc pt2 hu3) hv3
        rw [List.append_assoc, List.append_assoc] at pt3
        refine ⟨_, _, _, _, rfl, upd_same, prs_upd pt3 (fun xs e => by rw [h33] at e; cases e), tok3, ?_, ?_, ?_⟩
        · intro t' ht'
          rcases List.mem_append.mp ht' with h | h
          · exact fr' t' h
          · rcases List.mem_cons.mp h with h | h
            · cases h
              exact .inr nuH
            · cases List.mem_singleton.mp h
              exact .inr nvH
        · intro c o hc e
          rw [upd_ne hc]
          exact S' _ _ (kp c o hc e)
        · exact (F'.same S').put n3
    · rintro σ H' ⟨v6, v7, tv', ts', rfl, h3', pt', tok', fr', kp, F'⟩
      have h2' := kp _ _ e32.symm h2s
      have h4' := kp _ _ e34.symm h4s
      refine ⟨_, rfl, by show 2 ≤ sizeLine; decide, fun a na => ⟨r2, a, _, _, rfl, rfl, new_same na _ _ h2', upd_same, ?_, fun b nb => ?_⟩⟩
      · rw [List.length_map]
        exact Nat.le_of_lt (small1000 (by show pl.length + 2 ≤ 1000; omega))
      · have Sb := (new_same (o := .lst [.str "cr0ss", .str "cr1ss"]) na).trans (new_same (o := .lst (pl.map V.str ++ [.str "cr0ss", .str "cr1ss"])) nb)
        have nbH := F'.free ((new_same na).free nb)
        refine ⟨_, rfl, r3, tv', ts', rfl, SqL.of (Sb _ _ h3'), pt'.mono fun t xs e => Sb _ _ e, fun aT' ys nT' pyy hy => ⟨_, rfl, by show 3 ≤ sizeLine; decide, fun r nr => ?_⟩⟩
        have Fb := F'.same Sb
        have FT := Fb.put (Fb.free nT') (o := .lst ys)
        have e2 : (pl.map V.str ++ [.str "cr0ss", .str "cr1ss"]) = ((pl ++ crS).map V.str) := by rw [List.map_append]; rfl
        have etk : crS.take ([V.ref t1, V.ref t2].length) = crS := rfl
        rw [etk] at tok'
        refine k r (pl ++ crS) (sortPr ts') rm _ (FT.put (FT.free nr)) ⟨b, aT', r4, ys, upd_same, ?_, new_same nr _ _ upd_same, prs_upd (prs_upd (hy) (fun xs e => by rw [nT'] at e; cases e)) (fun xs e => by rw [nr] at e; cases e), new_same nr _ _ (new_same nT' _ _ (Sb _ _ h4')), .inr (FT.free nr), .inr nbH, .inr (Fb.free nT'), .inr n4, fun t ht => fr' t (pyy.mem_iff.mp ht)⟩ ⟨?_, ?_, ?_, tok'.perm (sortPr_perm ts'), ok.rnd, fun z hz => List.mem_append_left _ (ok.rin z hz), (tok'.perm (sortPr_perm ts')).len (by rw [List.length_append]; show pl.length + 2 ≤ 44; omega)⟩ (List.length_append ..) (fun z hz => (List.mem_append.mp hz).elim (fun h => (nm z h).elim (fun h => List.mem_append_left _ h) fun h => List.mem_append_right _ (List.mem_append_right _ h)) fun h => List.mem_append_right _ (List.mem_append_left _ h))
        · rw [← e2]
          exact new_same nr _ _ (new_same nT' _ _ upd_same)
        · exact List.nodup_append.mpr ⟨ok.nd, by decide, fun x hx y hy e => okN y hy (e ▸ hx)⟩
        · intro z hz
          rcases List.mem_append.mp hz with hz | hz
          · exact ok.nm z hz
          · exact of_decide_eq_true (List.all_eq_true.mp crS_in z hz)
        · rw [List.length_append]
          show pl.length + 2 ≤ 44
          omega
end
end E1

set_option Elab.async false
set_option linter.all false
set_option maxRecDepth 100000
set_option maxHeartbeats 8000000
/-! Raw boards: any of these. -/
namespace E1
open PySem PySem.Spec PyProof.Rows L2 G0
abbrev N_a_board : List Str := ["_law_stream", "_law_many", "_law_way", "_law_size"]
theorem sc_a_board : FnScope N_a_board ["_law_stream", "_law_many"] (defScope (topS 42)) := ⟨rfl, rfl, rfl, by decide +kernel, rfl, by decide +kernel, by decide +kernel⟩
def spABoard : Sp := fun vs H Q _ => ∃ (p l : Addr) (n m : Nat), vs = [.ref p, .int (m : Int)] ∧ Stm H p l n ∧ n < 35000000 ∧ m ≤ 30 ∧
  ∀ (r : Addr) (pl : List Str) (ts : List Pr) (rm : List Str) (H' : Hp), Fr H p l (n + 31300) H' → RawAt (fun c => H c = none) H' r pl ts rm → RawOk pl ts rm → pl.length ≤ m + 3 → (∀ z ∈ pl, z ∈ drawnN) → Q (.ref r) H'
section
variable {P : Program} {w : World} {K : PySem.W.Frag} {mg : Str → Option Value} {base : Heap}
theorem bABoard (Z : LawD K mg) : Binds K (Z.d 42) ["_law_stream", "_law_many"] [] := (Z.F 42 (by decide)).binds fun _ _ _ _ _ _ us hl => match us, hl with | [_, _], _ => rfl
theorem ok_a_board (Z : LawD K mg) : FnOk P w K mg base CX0 5 (Z.f 42) (Z.d 42) ["_law_stream", "_law_many"] spABoard := by
  have GD : FnOk P w K mg base CX0 1 Z.s.fD Z.s.dD ["_law_stream", "_law_many"] spDr := ok_dr Z.s
  have GA : FnOk P w K mg base CX0 4 (Z.f 36) (Z.d 36) ["_law_stream", "_law_many", "_law_pins", "_law_share"] spAny := ok_a_any Z
  have GF : FnOk P w K mg base CX0 4 (Z.f 40) (Z.d 40) ["_law_stream", "_law_many", "_law_pins", "_law_pieces"] spFlat := ok_a_flat Z
  have GC : FnOk P w K mg base CX0 3 (Z.f 41) (Z.d 41) ["_law_stream", "_law_raw"] spCrossed := ok_a_crossed Z
  refine Fun.ok (Z.F 42 (by decide)) sc_a_board (fun vs H Q E h => ?_) (fun cdv A outer s H vs Q E hr h => ⟨_, pss_cons (ps_par (i := 2) (j := 3) rfl sc_a_board.nd rfl rfl (by decide) rfl rfl (pa_cons (pe_call GD (hr.mono (by decide)) (by rfl) Z.s.gD Z.s.FD.kp (bDr Z.s) .nil pass0 (pa_cons (pv 0) (pa_cons pe_int pa_nil))) (pa_cons (pe_call GD (hr.mono (by decide)) (by rfl) Z.s.gD Z.s.FD.kp (bDr Z.s) .nil pass0 (pa_cons (pv 0) (pa_cons (pe_op op_add (pv 1) pe_int) pa_nil))) pa_nil)) (by rfl))
  (pss_cons (ps_if (PW.pt (pw_or (pt_cmpR op_eq (pv 2) pe_int (nomark _)) (pw_or1 (pt_cmpR op_lt (pv 3) pe_int (nomark _))))) (pss_one (ps_ret (pe_call GA (hr.mono (by decide)) (by rfl) (Z.g 36 (by decide)) (Z.F 36 (by decide)).kp (bAny Z) .nil pass0 (pa_cons (pv 0) (pa_cons (pv 3) (pa_cons (pe_call GD (hr.mono (by decide)) (by rfl) Z.s.gD Z.s.FD.kp (bDr Z.s) .nil pass0 (pa_cons (pv 0) (pa_cons (pe_op op_add (pv 3) pe_int) pa_nil))) (pa_cons (pe_op op_add pe_int (pe_call GD (hr.mono (by decide)) (by rfl) Z.s.gD Z.s.FD.kp (bDr Z.s) .nil pass0 (pa_cons (pv 0) (pa_cons pe_int pa_nil)))) pa_nil))))))) pss_nil)
  (pss_cons (ps_if (pt_cmpR op_lt (pv 2) pe_int (nomark _)) (pss_one (ps_ret (pe_call GF (hr.mono (by decide)) (by rfl) (Z.g 40 (by decide)) (Z.F 40 (by decide)).kp (bFlat Z) .nil pass0 (pa_cons (pv 0) (pa_cons (pv 3) (pa_cons (pe_op op_add pe_int (pe_call GD (hr.mono (by decide)) (by rfl) Z.s.gD Z.s.FD.kp (bDr Z.s) .nil pass0 (pa_cons (pv 0) (pa_cons (pe_op op_sub (pv 3) pe_int) pa_nil)))) (pa_cons (pe_call GD (hr.mono (by decide)) (by rfl) Z.s.gD Z.s.FD.kp (bDr Z.s) .nil pass0 (pa_cons (pv 0) (pa_cons pe_int pa_nil))) pa_nil))))))) pss_nil)
  (pss_one (ps_ret (pe_call GC (hr.mono (by decide)) (by rfl) (Z.g 41 (by decide)) (Z.F 41 (by decide)).kp (bCrossed Z) .nil pass0 (pa_cons (pv 0) (pa_cons (pe_call GF (hr.mono (by decide)) (by rfl) (Z.g 40 (by decide)) (Z.F 40 (by decide)).kp (bFlat Z) .nil pass0 (pa_cons (pv 0) (pa_cons (pv 3) (pa_cons (pe_op op_add pe_int (pe_call GD (hr.mono (by decide)) (by rfl) Z.s.gD Z.s.FD.kp (bDr Z.s) .nil pass0 (pa_cons (pv 0) (pa_cons (pe_op op_sub (pv 3) pe_int) pa_nil)))) (pa_cons pe_int pa_nil))))) pa_nil))))))), ?_⟩)
  · obtain ⟨p, l, n, m, rfl, _⟩ := h
    rfl
  · obtain ⟨p, l, n, m, rfl, S, hn, hm, k⟩ := h
    refine ⟨_, rfl, p, l, n, 4, rfl, S, by omega, by decide, by decide, fun wy H1 hw F1 => ⟨_, rfl, _, rfl, _, _, rfl, rfl, p, l, n + 1, m + 1, rfl, F1.st, by omega, by omega, by omega, fun sz H2 hs F2 => ⟨_, _, rfl, ?_⟩⟩⟩
    have F02 := F1.trans F2
    refine ⟨_, rfl, rfl, _, rfl, ite2 (fun c => iteT ?a1) (fun c => ⟨_, rfl, _, _, rfl, rfl, _, rfl, ite2 (fun c2 => ?a2) (fun c2 => ?rest)⟩)⟩
    case rest =>
      have s4 : 4 ≤ sz := by
        have := of_decide_eq_false (by simpa using c2 : decide ((sz : Int) < 4) = false)
        omega
      have e2 : ((sz : Int) - 2) = ((sz - 2 : Nat) : Int) := by omega
      have e3 : ((sz : Int) - 3) = ((sz - 3 : Nat) : Int) := by omega
      refine ⟨_, rfl, _, _, rfl, rfl, _, rfl, ite2 (fun c3 => ?_) (fun c3 => ?_)⟩
      · refine ⟨_, rfl, _, rfl, _, rfl, _, rfl, _, _, rfl, rfl, ?_⟩
        refine ⟨p, l, _, sz - 2, (by show [V.ref p, V.int ((sz : Int) - 2)] = _; rw [e2]), F02.st, by omega, by omega, by omega, fun d H3 hd F3 => ⟨_, _, rfl, rfl, _, rfl, p, l, _, 2, rfl, F3.st, by omega, by decide, by decide, fun pc H4 hp F4 => ?_⟩⟩
        have F04 := (F02.trans F3).trans F4
        exact ⟨p, l, _, sz, 3 + d, pc, rfl, F04.st, by omega, by omega, by omega, fun r pl ts rm H5 F5 raw ok nm ll _ => k r pl ts rm H5 ((F04.trans F5).mono (by omega)) (raw.weak fun c h => F04.free h) ok (by omega) (fun z hz => (nm z hz).elim (fun h => List.mem_append_left _ h) fun h => List.mem_append_right _ (List.mem_append_right _ h))⟩
      · refine ⟨_, rfl, _, rfl, _, rfl, _, rfl, _, rfl, _, _, rfl, rfl, ?_⟩
        refine ⟨p, l, _, sz - 3, (by show [V.ref p, V.int ((sz : Int) - 3)] = _; rw [e3]), F02.st, by omega, by omega, by omega, fun d H3 hd F3 => ⟨_, _, rfl, rfl, ?_⟩⟩
        have F03 := F02.trans F3
        refine ⟨p, l, _, sz, 4 + d, 0, rfl, F03.st, by omega, by omega, by omega, fun r pl ts rm H5 F5 raw ok nm ll lr => ?_⟩
        have F05 := F03.trans F5
        exact ⟨p, l, r, _, _, pl, ts, rm, rfl, F05.st, by omega, raw.weak (fun c h => F03.free h), fun c h => F05.ne h, ok, nm, by omega, by omega, fun r2 pl2 ts2 rm2 H6 F6 raw2 ok2 ll2 nm2 => k r2 pl2 ts2 rm2 H6 ((F05.trans F6).mono (by omega)) (raw2.weak fun c h => h.elim id fun h => F05.free h) ok2 (by omega) nm2⟩
    all_goals
      refine ⟨_, rfl, _, rfl, _, rfl, _, rfl, _, _, rfl, rfl, p, l, _, sz + 1, rfl, F02.st, by omega, by omega, by omega, fun d H3 hd F3 => ⟨_, rfl, p, l, _, 5, rfl, F3.st, by omega, by decide, by decide, fun sh H4 hsh F4 => ⟨_, _, rfl, rfl, ?_⟩⟩⟩
      have F04 := (F02.trans F3).trans F4
      exact ⟨p, l, _, sz, d, _, rfl, F04.st, by omega, by omega, fun r pl ts rm H5 F5 raw ok ll nm => k r pl ts rm H5 ((F04.trans F5).mono (by omega)) (raw.weak fun c h => F04.free h) ok (by omega) nm⟩
end
end E1

set_option Elab.async false
set_option linter.all false
set_option maxRecDepth 100000
set_option maxHeartbeats 8000000
/-! _law_inner: a board whose pins are a place's neighbours. -/
namespace E1
open PySem PySem.Spec PyProof.Rows L2 G0
abbrev rCatW : R2 := fun x y H Q => ∃ i j, x = .str i ∧ y = .str j ∧ i.length + j.length ≤ sizeLine ∧ Q (.str (i ++ j)) H
abbrev rStrI : List V → Hp → VK → Prop := fun xs H Q => ∃ i, xs = [.int i] ∧ i.natAbs.log2 < 1920 ∧ Q (.str (toString i)) H
def iK (k : Nat) : Str := ("in" : Str) ++ (toString (k : Int) : String)
def rK (k : Nat) : Str := ("r" : Str) ++ (toString (k : Int) : String)
def inN (m : Nat) : List Str := (List.range m).map iK
theorem iK_len : (List.range 7).all (fun k => decide (((k : Int).natAbs.log2 < 1920) ∧ (("in" : Str).length + (Str.ofString (toString (k : Int))).length ≤ sizeLine) ∧ (("r" : Str).length + (Str.ofString (toString (k : Int))).length ≤ sizeLine))) = true := by decide +kernel
theorem range_sub {a b : Nat} (h : a ≤ b) : (List.range a).Sublist (List.range b) := by
  rw [show b = a + (b - a) by omega, List.range_add]
  exact List.sublist_append_left _ _
theorem inN_sub {a b : Nat} (h : a ≤ b) : (inN a).Sublist (inN b) := (range_sub h).map iK
theorem inN_nd : (inN 3).Nodup := by decide +kernel
theorem inN_all : (inN 3).all (fun z => decide (z ∈ allN ∧ z ∉ drawnN)) = true := by decide +kernel
theorem inN_in {k : Nat} (h : k ≤ 3) {z : Str} (hz : z ∈ inN k) : z ∈ allN ∧ z ∉ drawnN := of_decide_eq_true (List.all_eq_true.mp inN_all z ((inN_sub h).subset hz))
theorem drawn_all : drawnN.all (fun z => decide (z ∈ allN)) = true := by decide +kernel
theorem drawn_in {z : Str} (h : z ∈ drawnN) : z ∈ allN := of_decide_eq_true (List.all_eq_true.mp drawn_all z h)
theorem RawOk.rlen {pl : List Str} {ts : List Pr} {rm : List Str} (r : RawOk pl ts rm) : rm.length ≤ 44 := Nat.le_trans (r.rnd.length_le_of_subset r.rin) r.len
theorem RawOk.strP {pl : List Str} {ts : List Pr} {rm : List Str} (r : RawOk pl ts rm) : ∀ z ∈ pl, PyData.strOk z = true := fun z hz => name_ok (r.name hz)
theorem RawOk.strR {pl : List Str} {ts : List Pr} {rm : List Str} (r : RawOk pl ts rm) : ∀ z ∈ rm, PyData.strOk z = true := fun z hz => r.strP z (r.rin z hz)
theorem RawOk.tlen {pl : List Str} {ts : List Pr} {rm : List Str} (r : RawOk pl ts rm) : ts.length ≤ 968 := r.ts.len r.len
theorem ltS_no (x : Str) : ltS x x = false := ltS_irr x
theorem nb_in {ts : List Pr} {x y : Str} : y ∈ nb ts x ↔ (x, y) ∈ ts ∨ (y, x) ∈ ts := by
  unfold nb
  rw [List.mem_flatMap]
  constructor
  · rintro ⟨p, hp, h⟩
    obtain ⟨a, b⟩ := p
    rcases List.mem_append.mp h with h | h
    · split at h
      · rename_i e
        dsimp only at e
        rw [List.mem_singleton.mp h, ← e]
        exact .inl hp
      · cases h
    · split at h
      · rename_i e
        dsimp only at e
        rw [List.mem_singleton.mp h, ← e]
        exact .inr hp
      · cases h
  · rintro (h | h)
    · exact ⟨_, h, List.mem_append_left _ (by rw [if_pos rfl]; exact List.mem_singleton.mpr rfl)⟩
    · exact ⟨_, h, List.mem_append_right _ (by rw [if_pos rfl]; exact List.mem_singleton.mpr rfl)⟩
theorem nb_nd {pl : List Str} {ts : List Pr} (t : TsOk pl ts) (x : Str) : (nb ts x).Nodup := by
  obtain ⟨nd, ok⟩ := t
  induction ts with
  | nil => exact List.nodup_nil
  | cons p ts ih =>
    rw [List.nodup_cons] at nd
    have r := ih nd.2 fun q hq => ok q (List.mem_cons_of_mem _ hq)
    have lt := (ok p List.mem_cons_self).2.2
    have ok2 : ∀ q ∈ ts, ltS q.1 q.2 = true := fun q hq => (ok q (List.mem_cons_of_mem _ hq)).2.2
    obtain ⟨u, v⟩ := p
    have no : ∀ {a b : Str}, ltS a b = true → (b, a) ∈ ts → False := fun h m => by
      have := ltS_asym (ok2 _ m)
      rw [h] at this
      cases this
    unfold nb at r ⊢
    rw [List.flatMap_cons]
    by_cases e1 : u = x
    · have e2 : v ≠ x := fun e2 => by
        dsimp only at lt
        rw [e1, e2, ltS_no] at lt
        cases lt
      rw [if_pos e1, if_neg e2]
      refine List.nodup_cons.mpr ⟨fun m => ?_, r⟩
      rcases nb_in.mp m with m | m
      · exact nd.1 (e1 ▸ m)
      · exact no (show ltS x v = true from e1 ▸ lt) m
    · rw [if_neg e1]
      by_cases e2 : v = x
      · rw [if_pos e2]
        refine List.nodup_cons.mpr ⟨fun m => ?_, r⟩
        rcases nb_in.mp m with m | m
        · exact no (show ltS u x = true from e2 ▸ lt) m
        · exact nd.1 (e2 ▸ m)
      · rw [if_neg e2]
        exact r
/-- a place's neighbours, ascending -/
abbrev nbS (ts : List Pr) (z : Str) : List Str := sortS (nb ts z)
theorem nbS_in {pl : List Str} {ts : List Pr} (t : TsOk pl ts) {z y : Str} (h : y ∈ nbS ts z) : y ∈ pl ∧ y ≠ z := by
  rcases nb_in.mp (sortS_mem.mp h) with q | q
  · have o := t.ok _ q
    refine ⟨o.2.1, fun e => ?_⟩
    rw [e] at o
    have := o.2.2
    dsimp only at this
    rw [ltS_no] at this
    cases this
  · have o := t.ok _ q
    refine ⟨o.1, fun e => ?_⟩
    rw [e] at o
    have := o.2.2
    dsimp only at this
    rw [ltS_no] at this
    cases this
theorem nbS_nd {pl : List Str} {ts : List Pr} (t : TsOk pl ts) (z : Str) : (nbS ts z).Nodup := (sortS_perm _).nodup_iff.mpr (nb_nd t z)
theorem nbS_len {pl : List Str} {ts : List Pr} (t : TsOk pl ts) (z : Str) : (nbS ts z).length ≤ pl.length := (nbS_nd t z).length_le_of_subset fun y hy => (nbS_in t hy).1
abbrev N_inner : List Str := ["_law_stream", "_law_raw", "_law_place", "_law_near", "_law_names", "_law_k", "_law_places", "_law_ties", "_law_share", "_law_at", "_law_one", "_law_other"]
theorem sc_inner : FnScope N_inner ["_law_stream", "_law_raw", "_law_place"] (defScope (topS 59)) := ⟨rfl, rfl, rfl, by decide +kernel, rfl, by decide +kernel, by decide +kernel⟩
def spInner : Sp := fun vs H Q _ => ∃ (p l r0 : Addr) (n : Nat) (z0 : Str) (N : Addr → Prop) (pl0 : List Str) (ts0 : List Pr) (rm0 : List Str), vs = [.ref p, .ref r0, .str z0] ∧ Stm H p l n ∧ n < 60000000 ∧ RawAt N H r0 pl0 ts0 rm0 ∧ (∀ c, N c → c ≠ p ∧ c ≠ l) ∧ RawOk pl0 ts0 rm0 ∧ z0 ∈ pl0 ∧ pl0.length ≤ 8 ∧ (∀ y ∈ pl0, y ∈ drawnN) ∧
  ∀ (r : Addr) (m : Nat) (ts : List Pr) (rm : List Str) (H' : Hp), Fr H p l (n + 900) H' → RawAt (fun c => H c = none) H' r (nbS ts0 z0 ++ inN m) ts rm → RawOk (nbS ts0 z0 ++ inN m) ts rm → rm.Perm (nbS ts0 z0) → m ≤ 3 → Q (.ref r) H'
section
variable {P : Program} {w : World} {K : PySem.W.Frag} {mg : Str → Option Value} {base : Heap}
theorem bInner (Z : LawD K mg) : Binds K (Z.d 59) ["_law_stream", "_law_raw", "_law_place"] [] := (Z.F 59 (by decide)).binds fun _ _ _ _ _ _ us hl => match us, hl with | [_, _, _], _ => rfl
theorem ok_inner (Z : LawD K mg) : FnOk P w K mg base CX0 4 (Z.f 59) (Z.d 59) ["_law_stream", "_law_raw", "_law_place"] spInner := by
  have GD : FnOk P w K mg base CX0 1 Z.s.fD Z.s.dD ["_law_stream", "_law_many"] spDr := ok_dr Z.s
  have GM : FnOk P w K mg base CX0 2 Z.s.fM Z.s.dM ["_law_stream", "_law_some"] (spMx K) := ok_mx Z.s
  have GT : FnOk P w K mg base CX0 1 (Z.f 34) (Z.d 34) N_a_tie spTie := ok_a_tie Z
  have GNR : FnOk P w K mg base CX0 1 (Z.f 35) (Z.d 35) ["_law_raw"] spANear := ok_a_near Z
  refine Fun.ok (Z.F 59 (by decide)) sc_inner (fun vs H Q E h => ?_) (fun cdv A outer s H vs Q E hr h => ⟨_, pss_cons (ps_set (i := 3) sc_inner.nd rfl (Or.inl rfl) (pe_dget (hu_of hr) (pe_call GNR (hr.mono (by decide)) (by rfl) (Z.g 35 (by decide)) (Z.F 35 (by decide)).kp (bANear Z) .nil pass0 (pa_cons (pv 1) pa_nil)) (pv 2) (fun _ _ => rfl)))
  (pss_cons (ps_setLc (i := 4) (own := [("_law_k", 5)]) (tt := tYes) (te := tOp rCatW (tC (.str "in")) (tCB rStrI (tCons (tVar 5) tNil))) rfl sc_inner.nd rfl rfl (by rfl) (pi_range1 (by rfl) (Z.free "range" (by decide)) (pa_cons (pe_call GD (hr.mono (by decide)) (by rfl) Z.s.gD Z.s.FD.kp (bDr Z.s) .nil pass0 (pa_cons (pv 0) (pa_cons pe_int pa_nil))) pa_nil)) (blkOk_by (own := [("_law_k", 5)]) (N := N_inner) (sc := defScope (topS 59)) (by decide +kernel)) (fun _ _ _ _ _ => (pg_name (i := 5) sc_inner.nd rfl (Or.inl rfl))) (fun _ _ _ _ _ => pts_nil) (fun _ _ _ _ _ => by exact (pe_op op_add_str pe_str (pe_callTy call_str_int (by rfl) Z.t.str boot_str (pa_cons (pv 5) pa_nil)))))
  (pss_cons (ps_asg (pe_tup (pa_cons (pe_op op_cat (pv 3) (pv 4)) (pa_cons (pe_lst pa_nil) (pa_cons (pe_op op_add pe_int (pe_call GD (hr.mono (by decide)) (by rfl) Z.s.gD Z.s.FD.kp (bDr Z.s) .nil pass0 (pa_cons (pv 0) (pa_cons pe_int pa_nil)))) pa_nil)))) (pg_tup rfl (pgs_cons (pg_name (i := 6) sc_inner.nd rfl (Or.inl rfl)) (pgs_cons (pg_name (i := 7) sc_inner.nd rfl (Or.inl rfl)) (pgs_cons (pg_name (i := 8) sc_inner.nd rfl (Or.inr rfl)) pgs_nil)))))
  (pss_cons (ps_for PassesOwn.never rfl (pi_enumQ (by rfl) Z.t.enumerate (pa_cons (pv 6) pa_nil)) (pg_tup rfl (pgs_cons (pg_name (i := 9) sc_inner.nd rfl (Or.inl rfl)) (pgs_cons (pg_name (i := 10) sc_inner.nd rfl (Or.inr rfl)) pgs_nil)))
    (pss_one (ps_expr (pe_bm PySem.F.plainAttrs_list PySem.F.slot_list_extend PySem.F.type_list_extend mt_extend (pv 7) (pa_cons (pe_lc (own := [("_law_other", 11)]) (tt := _) rfl sc_inner.nd (pi_list (pe_slice sl_list (pv 6) (po_some (pe_op op_add (pv 9) pe_int)) po_none)) (blkOk_by (own := [("_law_other", 11)]) (N := N_inner) (sc := defScope (topS 59)) (by decide +kernel)) (fun _ _ _ _ _ => (pg_name (i := 11) sc_inner.nd rfl (Or.inl rfl))) (fun _ _ _ _ _ => (pts_one (pt_cmpR op_lt (pe_call GD (hr.mono (by decide)) (by rfl) Z.s.gD Z.s.FD.kp (bDr Z.s) .nil pass0 (pa_cons (pv 0) (pa_cons pe_int pa_nil))) (pv 8) (nomark _)))) (fun _ _ _ _ _ => (pe_call GT (hr.mono (by decide)) (by rfl) (Z.g 34 (by decide)) (Z.F 34 (by decide)).kp (bTie Z) .nil pass0 (pa_cons (pv 10) (pa_cons (pv 11) pa_nil))))) pa_nil)))))
  (pss_one (ps_ret (pe_tup (pa_cons (pv 6) (pa_cons (pv 7) (pa_cons (pe_call GM (hr.mono (by decide)) (by rfl) Z.s.gM Z.s.FM.kp (bMx Z.s) .nil pass0 (pa_cons (pv 0) (pa_cons (pv 3) pa_nil))) pa_nil))))))))), ?_⟩)
  · obtain ⟨p, l, r0, n, z0, N, pl0, ts0, rm0, rfl, _⟩ := h
    rfl
  obtain ⟨p, l, r0, n, z0, N, pl0, ts0, rm0, rfl, S, hn, R0, hN, ok0, hz0, l0, dr0, k⟩ := h
  have sz : 5000 < sizeLine := by decide
  have tl0 := ok0.tlen
  refine ⟨_, rfl, r0, pl0, ts0, rm0, rfl, R0.weak fun _ _ => trivial, ok0.nd, by omega, by omega, fun q hq => ⟨(ok0.ts.ok q hq).1, (ok0.ts.ok q hq).2.1⟩, fun qd ld Ha Na nqd nld Sa => ⟨_, rfl, qd, _, rfl, by have := DGet.k (k := Sum.inr z0) Na.d; rw [map_val _ (sortS_mem.mpr hz0)] at this; exact this, ?_⟩⟩
  have ha3 := Na.at_ z0 (sortS_mem.mpr hz0)
  have na3 := nld z0 (sortS_mem.mpr hz0)
  generalize ld z0 = a3 at ha3 na3 ⊢
  have Fa : Fr H p l n Ha := S.fr.same Sa
  have nm0 : ∀ y ∈ nbS ts0 z0, y ∈ drawnN := fun y hy => dr0 y (nbS_in ok0.ts hy).1
  have nd3 : (nbS ts0 z0).Nodup := nbS_nd ok0.ts z0
  have l3 : (nbS ts0 z0).length ≤ 8 := Nat.le_trans (nbS_len ok0.ts z0) l0
  have ha3 : Ha a3 = some (.lst ((nbS ts0 z0).map V.str)) := ha3
  refine ⟨_, rfl, p, l, n, 4, rfl, Fa.st, by omega, by decide, by decide, fun m Hb hm Fb => ⟨_, rfl, by omega, by omega, fun a4 na4 => ?_⟩⟩
  have Fab := Fa.trans Fb
  have na4H := Fab.free na4
  have hb3 := Fa.keep Fb na3 ha3
  rw [show ((m : Int)).toNat = m from by omega]
  refine lc_range (n := m) (fun i H' => H' a4 = some (.lst (((List.range i).map iK).map V.str)) ∧ Same Hb H') ⟨upd_same, new_same na4⟩ ?_ ?_
  · rintro i H' hi ⟨hq, S6⟩
    obtain ⟨a1, a2, a3⟩ := of_decide_eq_true (List.all_eq_true.mp iK_len i (List.mem_range.mpr (by omega)))
    rw [Int.zero_add]
    refine ⟨rfl, yes_of ⟨_, rfl, i, rfl, a1, _, _, rfl, rfl, a2, _, hq, ?_, ?_, fun b u e => by rw [upd_ne (ne_of_none e na4)]; exact S6 b u e⟩⟩
    · rw [List.length_map, List.length_map, List.length_range]
      omega
    · rw [upd_same, List.range_succ, List.map_append, List.map_append]
      rfl
  rintro Hc ⟨hc4, Sc⟩
  have hc4 : Hc a4 = some (.lst ((inN m).map V.str)) := hc4
  have Fc := Fab.same Sc
  have hc3 := Sc _ _ hb3
  have lin : (inN m).length = m := by unfold inN; rw [List.length_map, List.length_range]
  refine ⟨_, rfl, _, rfl, a3, a4, _, _, rfl, rfl, hc3, hc4, by rw [List.length_map, List.length_map]; omega, fun q nq0 => ?_⟩
  rw [← List.map_append]
  have ndp : (nbS ts0 z0 ++ inN m).Nodup := List.nodup_append.mpr ⟨nd3, inN_nd.sublist (inN_sub (by omega)), fun u hu v hv e => (inN_in (by omega) hv).2 (e ▸ nm0 u hu)⟩
  have inb : ∀ z ∈ nbS ts0 z0 ++ inN m, z ∈ allN := fun z hz => (List.mem_append.mp hz).elim (fun h => drawn_in (nm0 z h)) fun h => (inN_in (by omega) h).1
  have lpl : (nbS ts0 z0 ++ inN m).length ≤ 11 := by rw [List.length_append]; omega
  generalize hpl : nbS ts0 z0 ++ inN m = pl at ndp inb lpl k ⊢
  have nq : H q = none := Fc.free nq0
  have F0 : Fr H p l (n + 1) (upd Hc q (.lst (pl.map V.str))) := Fc.put nq
  have q0 : (upd Hc q (.lst (pl.map V.str))) q = some (.lst (pl.map V.str)) := upd_same
  have h30 := new_same (o := .lst (pl.map V.str)) nq0 _ _ hc3
  generalize upd Hc q (.lst (pl.map V.str)) = H0' at F0 q0 h30 ⊢
  refine ⟨Nat.zero_le _, fun b nb => ?_⟩
  have nbH := F0.free nb
  have bq : b ≠ q := (ne_of_none q0 nb).symm
  have F1 : Fr H p l (n + 1) (upd H0' b (.lst [])) := F0.put nbH
  have q1' : (upd H0' b (.lst [])) q = some (.lst (pl.map V.str)) := by rw [upd_ne bq.symm]; exact q0
  have h31 := new_same (o := .lst []) nb _ _ h30
  have ba : a3 ≠ b := ne_of_none h30 nb
  have b1' : (upd H0' b (.lst [])) b = some (.lst []) := upd_same
  generalize upd H0' b (.lst []) = H1 at F1 q1' b1' h31 ⊢
  refine ⟨_, rfl, p, l, _, 4, rfl, F1.st, by omega, by decide, by decide, fun sh H2 hsh G2 => ⟨_, _, rfl, rfl, by show 3 ≤ sizeLine; decide, fun T nT => ⟨T, _, rfl, SqT.of upd_same, rfl, _, _, rfl, _, _, rfl, _, _, rfl, rfl, ?_⟩⟩⟩
  have q2' := F1.keep G2 nq q1'
  have b2' := F1.keep G2 nbH b1'
  have h32 := F1.keep G2 na3 h31
  have F2' := F1.trans G2
  have nTH := F2'.free nT
  have F2 : Fr H p l (n + 3 + 40 * 0) (upd H2 T (.tup [.ref q, .ref b, .int (1 + (sh : Int))])) := (F2'.put nTH).mono (by omega)
  have hq2 : (upd H2 T (.tup [.ref q, .ref b, .int (1 + (sh : Int))])) q = some (.lst (pl.map V.str)) := by rw [upd_ne (ne_of_none q2' nT)]; exact q2'
  have hb2 : (upd H2 T (.tup [.ref q, .ref b, .int (1 + (sh : Int))])) b = some (.lst []) := by rw [upd_ne (ne_of_none b2' nT)]; exact b2'
  have h33 := new_same (o := .tup [.ref q, .ref b, .int (1 + (sh : Int))]) nT _ _ h32
  generalize upd H2 T (.tup [.ref q, .ref b, .int (1 + (sh : Int))]) = H3 at F2 hq2 hb2 h33 ⊢
  obtain ⟨share, hsh'⟩ : ∃ s : Int, s = 1 + (sh : Int) := ⟨_, rfl⟩
  refine ⟨_, rfl, q, pl.map V.str, rfl, for_enQ (.inl (SqL.of hq2)) (fun i σ H' => ∃ v5 v7 v8 v9 tv ts, σ = [some (.ref p), some (.ref r0), some (.str z0), some (.ref a3), some (.ref a4), v5, some (.ref q), some (.ref b), some (.int share), v7, v8, v9] ∧ H' q = some (.lst (pl.map V.str)) ∧ H' a3 = some (.lst ((nbS ts0 z0).map V.str)) ∧ H' b = some (.lst tv) ∧ PrsAt H' tv ts ∧
      TsOk pl ts ∧ (∀ x ∈ ts, ∃ a c, x = tp a c ∧ a ∈ pl.take i) ∧ (∀ t, V.ref t ∈ tv → H t = none) ∧ Fr H p l (n + 3 + 40 * i) H')
      ⟨_, none, none, none, [], [], by rw [hsh']; rfl, hq2, h33, hb2, PrsAt.nil, TsOk.nil, by simp, (fun t ht => by cases ht), F2⟩ ?_ ?_ ?_⟩
  · rintro i σ H' hi ⟨v5, v7, v8, v9, tv, ts, rfl, hq', _⟩
    exact lt_at hq2 hq'
  · rintro i x σ H' T hx ⟨v5, v7, v8, v9, tv, ts, rfl, hq', ha', hb', pt, tok, tin, fr, F'⟩ nT
    rw [List.getElem?_map] at hx
    cases ez : pl[i]? with
    | none => rw [ez] at hx; cases hx
    | some z =>
      rw [ez] at hx
      cases hx
      have hil : i < pl.length := (List.getElem?_eq_some_iff.mp ez).1
      have zpl : z ∈ pl := List.mem_of_getElem? ez
      have znt : z ∉ pl.take i := take_mem ndp ez
      have nTH := F'.free nT
      have FT : Fr H p l (n + 3 + 40 * i) (upd H' T (.tup [.int (i : Nat), .str z])) := F'.put nTH
      have qT : q ≠ T := ne_of_none hq' nT
      have bT : b ≠ T := ne_of_none hb' nT
      have aT : a3 ≠ T := ne_of_none ha' nT
      refine ⟨T, _, rfl, SqT.of upd_same, rfl, _, _, rfl, _, _, rfl, rfl, ?_⟩
      refine ⟨_, rfl, .inl ⟨rfl, _, SqL.of (by rw [upd_ne bT]; exact hb')⟩, _, rfl, _, rfl, _, _, rfl, rfl, _, rfl, q, _, rfl, SqL.of (by rw [upd_ne qT]; exact hq'), fun s ns => ⟨s, rfl, ⟨_, SqL.of upd_same⟩, fun D hD => ?_⟩⟩
      have ei : cutV (pl.map V.str) (some ((i : Int) + 1)) none = (pl.drop (i + 1)).map V.str := by
        rw [show ((i : Int) + 1) = ((i + 1 : Nat) : Int) from rfl, cut_from, List.map_drop]
      rw [ei] at hD ⊢
      have nsH := FT.free ns
      have Fs : Fr H p l (n + 3 + 40 * i) (upd (upd H' T (.tup [.int (i : Nat), .str z])) s (.lst ((pl.drop (i + 1)).map V.str))) := FT.put nsH
      have nDH := Fs.free hD
      have sD : s ≠ D := ne_of_none upd_same hD
      have qs : q ≠ s := ne_of_none (show (upd H' T _) q = _ from by rw [upd_ne qT]; exact hq') ns
      have as_ : a3 ≠ s := ne_of_none (show (upd H' T _) a3 = _ from by rw [upd_ne aT]; exact ha') ns
      have bs : b ≠ s := ne_of_none (show (upd H' T _) b = _ from by rw [upd_ne bT]; exact hb') ns
      have q1 : (upd (upd H' T (.tup [.int (i : Nat), .str z])) s (.lst ((pl.drop (i + 1)).map V.str))) q = some (.lst (pl.map V.str)) := by rw [upd_ne qs, upd_ne qT]; exact hq'
      have b1 : (upd (upd H' T (.tup [.int (i : Nat), .str z])) s (.lst ((pl.drop (i + 1)).map V.str))) b = some (.lst tv) := by rw [upd_ne bs, upd_ne bT]; exact hb'
      have a1' : (upd (upd H' T (.tup [.int (i : Nat), .str z])) s (.lst ((pl.drop (i + 1)).map V.str))) a3 = some (.lst ((nbS ts0 z0).map V.str)) := by rw [upd_ne as_, upd_ne aT]; exact ha'
      have qD : q ≠ D := ne_of_none q1 hD
      have aD : a3 ≠ D := ne_of_none a1' hD
      have bD : b ≠ D := ne_of_none b1 hD
      have pt1 : PrsAt (upd (upd H' T (.tup [.int (i : Nat), .str z])) s (.lst ((pl.drop (i + 1)).map V.str))) tv ts := prs_upd (prs_upd pt (fun xs e => by rw [nT] at e; cases e)) (fun xs e => by rw [ns] at e; cases e)
      refine lc_list (xs := (pl.drop (i + 1)).map V.str) (fun j H2 => ∃ acc es, H2 D = some (.lst acc) ∧ es.Sublist ((pl.drop (i + 1)).take j) ∧ PrsAt H2 acc (es.map (tp z)) ∧ (∀ t, V.ref t ∈ acc → H t = none) ∧ H2 s = some (.lst ((pl.drop (i + 1)).map V.str)) ∧ H2 q = some (.lst (pl.map V.str)) ∧ H2 a3 = some (.lst ((nbS ts0 z0).map V.str)) ∧
          H2 b = some (.lst tv) ∧ PrsAt H2 tv ts ∧ Fr H p l (n + 3 + 40 * i + j) H2) ⟨[], [], upd_same, List.nil_sublist _, PrsAt.nil, (fun t ht => by cases ht), by rw [upd_ne sD]; exact upd_same, by rw [upd_ne qD]; exact q1, by rw [upd_ne aD]; exact a1', by rw [upd_ne bD]; exact b1, prs_upd pt1 (fun xs e => by rw [hD] at e; cases e), Fs.put nDH⟩ ?_ ?_ ?_
      · rintro j H2 hj ⟨acc, es, _, _, _, _, hs, _⟩
        exact SqL.of hs
      · rintro j x H2 hx ⟨acc, es, hacc, sub, pa, fa, hs2, hq2, ha2, hb2, pt2, F2⟩
        rw [List.getElem?_map] at hx
        cases ey : (pl.drop (i + 1))[j]? with
        | none => rw [ey] at hx; cases hx
        | some y =>
          rw [ey] at hx
          cases hx
          have jl : j < (pl.drop (i + 1)).length := (List.getElem?_eq_some_iff.mp ey).1
          rw [List.length_drop] at jl
          refine ⟨rfl, _, rfl, p, l, n + 3 + 40 * i + j, 6, rfl, F2.st, by omega, by decide, by decide, fun r H3 hr3 F3 => ⟨_, rfl, _, _, rfl, rfl, _, rfl, ?_⟩⟩
          have F23 := F2.trans F3
          have acc3 := F2.keep F3 nDH hacc
          have pa3 := prs_keep F2 F3 pa fa
          have keep : ∀ {c : Addr} {o : HO}, H c = none → H2 c = some o → H3 c = some o := fun h e => F2.keep F3 h e
          refine ite2 (fun _ => ?_) (fun _ => ?_)
          · refine ⟨_, rfl, _, rfl, z, y, rfl, fun t nt => ⟨acc, by rw [upd_ne (ne_of_none acc3 nt)]; exact acc3, ?_, acc ++ [.ref t], es ++ [y], upd_same, ?_, ?_, ?_, ?_, ?_, ?_, ?_, ?_, ?_⟩⟩
            · rw [pa.1, List.length_map]
              have := sub.length_le
              rw [List.length_take] at this
              exact small1000 (by omega)
            · rw [take_snoc ey]
              exact sub.append (List.Sublist.refl _)
            · rw [List.map_append]
              refine prs_upd (prs_snoc (prs_upd pa3 (fun xs e => by rw [nt] at e; cases e)) upd_same) (fun xs e => ?_)
              rw [upd_ne (ne_of_none acc3 nt), acc3] at e
              cases e
            · intro t' ht'
              rcases List.mem_append.mp ht' with h | h
              · exact fa t' h
              · cases List.mem_singleton.mp h
                exact F23.free nt
            · have h3 := keep nsH hs2
              rw [upd_ne sD, upd_ne (ne_of_none h3 nt)]
              exact h3
            · have h3 := keep nq hq2
              rw [upd_ne qD, upd_ne (ne_of_none h3 nt)]
              exact h3
            · have h3 := keep na3 ha2
              rw [upd_ne aD, upd_ne (ne_of_none h3 nt)]
              exact h3
            · have h3 := keep nbH hb2
              rw [upd_ne bD, upd_ne (ne_of_none h3 nt)]
              exact h3
            · refine prs_upd (prs_upd (prs_keep F2 F3 pt2 fr) (fun xs e => by rw [nt] at e; cases e)) (fun xs e => ?_)
              rw [upd_ne (ne_of_none acc3 nt), acc3] at e
              cases e
            · exact (F23.put (F23.free nt)).put nDH
          · refine ⟨acc, es, acc3, ?_, pa3, fa, keep nsH hs2, keep nq hq2, keep na3 ha2, keep nbH hb2, prs_keep F2 F3 pt2 fr, F23⟩
            rw [take_snoc ey]
            exact sub.trans (List.sublist_append_left _ _)
      · rintro H2 ⟨acc, es, hacc, sub, pa, fa, hs2, hq2, ha2, hb2, pt2, F2⟩
        rw [List.length_map, List.take_length] at sub
        have subm : ∀ e ∈ es, e ∈ pl.drop (i + 1) := fun e he => sub.subset he
        have zdrop : z ∉ pl.drop (i + 1) := fun hm => by
          have e := List.take_append_drop (i + 1) pl
          rw [take_snoc ez] at e
          rw [← e] at ndp
          exact (List.nodup_append.mp ndp).2.2 z (List.mem_append_right _ (List.mem_singleton.mpr rfl)) z hm rfl
        have tnd : ∀ {x y : Str}, x ∈ pl.take i → y ∈ pl.drop (i + 1) → x ≠ y := fun {x y} hx hy e => by
          have e2 := List.take_append_drop (i + 1) pl
          rw [take_snoc ez] at e2
          rw [← e2] at ndp
          exact (List.nodup_append.mp ndp).2.2 x (List.mem_append_left _ hx) y hy e
        have tok2 : TsOk pl (ts ++ es.map (tp z)) := by
          refine tok.fan zpl (fun e he => ⟨List.mem_of_mem_drop (subm e he), fun q => zdrop (q ▸ subm e he)⟩) ((ndp.sublist (List.drop_sublist _ _)).sublist sub) fun e he hm => ?_
          obtain ⟨a, c, e1, e2⟩ := tin _ hm
          rcases tp_eq e1 with ⟨h1, _⟩ | ⟨_, h2⟩
          · exact znt (h1 ▸ e2)
          · exact tnd e2 (subm e he) h2.symm
        have len2 := tok2.len (by omega)
        refine ⟨b, D, tv, acc, rfl, rfl, hb2, hacc, ?_, ?_⟩
        · have := (prs_app pt2 pa).1
          rw [List.length_append] at this
          have h3 := small1000 (n := (ts ++ es.map (tp z)).length) (by omega)
          omega
        · refine ⟨_, _, _, _, tv ++ acc, ts ++ es.map (tp z), rfl, ?_, ?_, upd_same, ?_, tok2, ?_, ?_, ?_⟩
          · rw [upd_ne bq.symm]
            exact hq2
          · rw [upd_ne ba]
            exact ha2
          · exact prs_upd (prs_app pt2 pa) (fun xs e => by rw [hb2] at e; cases e)
          · intro x hx
            rcases List.mem_append.mp hx with hx | hx
            · obtain ⟨a, c, e1, e2⟩ := tin x hx
              refine ⟨a, c, e1, ?_⟩
              rw [take_snoc ez]
              exact List.mem_append_left _ e2
            · obtain ⟨e, he, rfl⟩ := List.mem_map.mp hx
              refine ⟨z, e, rfl, ?_⟩
              rw [take_snoc ez]
              exact List.mem_append_right _ (List.mem_singleton.mpr rfl)
          · intro t ht
            rcases List.mem_append.mp ht with h | h
            · exact fr t h
            · exact fa t h
          · refine (F2.put nbH).mono ?_
            rw [List.length_map, List.length_drop]
            omega
  · rintro σ H' ⟨v5, v7, v8, v9, tv, ts, rfl, hq', ha', hb', pt, tok, tin, fr, F'⟩
    rw [List.length_map] at F'
    refine ⟨_, rfl, _, rfl, _, rfl, _, rfl, p, l, a3, _, _, rfl, F'.st, by omega, SqL.of ha', by rw [List.length_map]; omega, fun y ys H5 pm F5 ny hy => ⟨by show 3 ≤ sizeLine; decide, fun R nR => ?_⟩⟩
    obtain ⟨rs, rfl, rperm⟩ := strs_perm pm
    rw [List.length_map] at F5
    have F35 := F'.trans F5
    have nRH := F35.free nR
    have nyH := F'.free ny
    have q5 := F'.keep F5 nq hq'
    have b5 := F'.keep F5 nbH hb'
    have p5 := prs_keep F' F5 pt fr
    have SR := new_same (o := .tup [.ref q, .ref b, .ref y]) nR
    subst hpl
    refine k R m ts rs _ ((F35.put nRH).mono (by omega)) ⟨q, b, y, tv, upd_same, SR _ _ q5, SR _ _ b5, p5.mono fun t xs h => SR _ _ h, SR _ _ hy, nRH, nq, nbH, nyH, fr⟩ ⟨ndp, inb, by omega, tok, rperm.nodup_iff.mpr nd3, fun z hz => ?_, tok.len (by omega)⟩ rperm (by omega)
    exact List.mem_append_left _ (rperm.mem_iff.mp hz)
end
end E1

set_option Elab.async false
set_option linter.all false
set_option maxRecDepth 100000
set_option maxHeartbeats 16000000
/-! within.py: a board in a place's stead. -/
namespace E1
open PySem PySem.Spec PyProof.Rows L2 G0
/-- may it stand there -/
def WOk (pl : List Str) (ts : List Pr) (z : Str) (pl' rm' : List Str) : Prop := (pl'.filter fun o => decide (o ∈ pl)) = sortS (nb ts z) ∧ sortS rm' = sortS (nb ts z)
instance (pl : List Str) (ts : List Pr) (z : Str) (pl' rm' : List Str) : Decidable (WOk pl ts z pl' rm') := inferInstanceAs (Decidable (_ ∧ _))
/-- places, ties, of the two -/
def wiP (pl : List Str) (z : Str) (pl' : List Str) : List Str := (pl.filter fun o => !decide (o = z) && !decide (o ∈ pl'.filter fun o => decide (o ∈ pl))) ++ pl'
def wiT (ts : List Pr) (z : Str) : List Pr := ts.filter fun t => !(decide (z = t.1) || decide (z = t.2))
def spWithin {K : PySem.W.Frag} {mg : Str → Option Value} (M : MetD K mg) (CB : Addr) : Sp := fun vs H Q E => ∃ v u w, vs = [v, u, w] ∧ Kn CB H v ∧ ((kdOf H v ≠ "" ∧ Raised H (M.C 0) "thing" v E) ∨ ∃ x pl ts rm, v = .ref x ∧ BoardAt (fun _ => True) CB H x pl ts rm ∧ pl.length ≤ 44 ∧ Few pl ts rm ∧ Kn CB H u ∧
  ((inB pl u = false ∧ Raised H (M.C 1) "thing" u E) ∨ ∃ z, u = .str z ∧ z ∈ pl ∧ ((z ∈ rm ∧ Raised H (M.C 2) "place" u E) ∨ (z ∉ rm ∧ Kn CB H w ∧ ((kdOf H w ≠ "" ∧ Raised H (M.C 0) "thing" w E) ∨ ∃ y pl' ts' rm', w = .ref y ∧ BoardAt (fun _ => True) CB H y pl' ts' rm' ∧ pl'.length ≤ 44 ∧ Few pl' ts' rm' ∧
    (¬ WOk pl ts z pl' rm' → ∀ d H', Same H H' → E (.ref (M.C 5)) d H') ∧
    (WOk pl ts z pl' rm' → (wiT ts z ++ ts').length < 77 ∧ (∀ t ∈ wiT ts z ++ ts', ltS t.1 t.2 = true) ∧ (∀ t ∈ wiT ts z ++ ts', t.1 ∈ wiP pl z pl' ∧ t.2 ∈ wiP pl z pl') ∧ (wiP pl z pl').Nodup ∧ (∀ r ∈ rm, r ∈ wiP pl z pl') ∧
      ∀ b qs H', Same H H' → qs.Nodup → (∀ t, t ∈ qs ↔ t ∈ wiT ts z ++ ts') → BoardAt (fun c => H c = none) CB H' b (sortS (wiP pl z pl')) (sortPr qs) rm → Q (.ref b) H'))))))
section
variable {mg : Str → Option Value} {K : PySem.W.Frag} {D : BoardD K mg} {H1 : Hp}
/-- a board is made -/
theorem init_mk {N N2 N3 : Addr → Prop} {xb dx : Addr} {vp vt vr : V} {ps : List Str} {qs : List Pr} {rs : List Str} {R : VK} {E : XK} (hp : HP N H1 vp ps) (ht : HT N2 H1 vt qs) (hr : HP N3 H1 vr rs)
    (nd : ps.Nodup) (nm : ∀ z ∈ ps, nameB z = true) (lp : ps.length ≤ 1000) (tok : TsOk ps qs) (lq : qs.length ≤ 1000) (rnd : rs.Nodup) (rin : ∀ z ∈ rs, z ∈ ps) (nx : H1 xb = none) (ndx : H1 dx = none) (ne : dx ≠ xb)
    (q : ∀ Hm, BoardAt (fun c => H1 c = none) D.C Hm xb (sortS ps) (sortPr qs) rs → Same H1 Hm → R .non Hm) : spInit K D (.ref xb :: ([vp, vt, vr] ++ [])) (upd (upd H1 dx (.own xb)) xb (.ins D.C dx [])) R E := by
  have Sx : Same H1 (upd (upd H1 dx (.own xb)) xb (.ins D.C dx [])) := (new_same ndx).trans (new_same (by rw [upd_ne ne.symm]; exact nx))
  refine ⟨xb, dx, vp, vt, vr, rfl, upd_same, made_ok (hp.frame fun c o _ e => Sx _ _ e) (ht.frame fun c o _ e => Sx _ _ e) (hr.frame fun c o _ e => Sx _ _ e) nd nm lp tok lq rnd rin fun Hm hB hk => q Hm (hB.weak fun c hc => ?_) (Same.of fun b o e => hk b o (fun q' => by rw [q', nx] at e; cases e) (Sx _ _ e))⟩
  rcases hc with rfl | hc
  · exact nx
  · exact Sx.free hc
end
/-- a part of a list of texts -/
theorem fil_step {H : Hp} {D : Addr} {xs : List Str} {i : Nat} {z : Str} (f : Str → Bool) (e : xs[i]? = some z) : (f z = true → ((xs.take (i + 1)).filter f) = (xs.take i).filter f ++ [z]) ∧ (¬ f z = true → ((xs.take (i + 1)).filter f) = (xs.take i).filter f) := by
  rw [take_snoc e, List.filter_append]
  constructor
  · intro c
    rw [List.filter_cons_of_pos c]
    rfl
  · intro c
    rw [List.filter_cons_of_neg c]
    simp
abbrev N_within : List Str := ["board", "place", "other", "around", "common", "one", "places", "ties", "tie"]
theorem sc_within : FnScope N_within ["board", "place", "other"] (defScope (topS 31)) := ⟨rfl, rfl, rfl, by decide +kernel, rfl, by decide +kernel, by decide +kernel⟩
section
variable {P : Program} {w : World} {K : PySem.W.Frag} {mg : Str → Option Value} {base : Heap}
theorem bWithin (Z : LawD K mg) : Binds K (Z.d 31) ["board", "place", "other"] [] := (Z.F 31 (by decide)).binds fun _ _ _ _ _ _ us hl => match us, hl with | [_, _, _], _ => rfl
theorem ok_within (Z : LawD K mg) {M : MetD K mg} (D : PrD K mg M) : FnOk P w K mg base (L2.CX P w) 7 (Z.f 31) (Z.d 31) ["board", "place", "other"] (spWithin M Z.B.C) := by
  have GN : FnOk P w K mg base (L2.CX P w) 3 (Z.f 27) (Z.d 27) ["board"] (spNeed Z.B.C (M.C 0)) := ok_need Z D
  have GIP : FnOk P w K mg base (L2.CX P w) 4 (Z.f 29) (Z.d 29) ["board", "place"] (spNeedI Z.B.C (M.C 1) (M.C 2)) := ok_needI Z D
  have GB2 : FnOk P w K mg base CX0 1 (Z.B.f 2) (Z.B.d 2) ["self"] (spPlaces Z.B.C) := ok_places Z.B Z.t
  have GB3 : FnOk P w K mg base CX0 1 (Z.B.f 3) (Z.B.d 3) ["self"] (spTies Z.B.C) := ok_ties Z.B Z.t
  have GB4 : FnOk P w K mg base CX0 1 (Z.B.f 4) (Z.B.d 4) ["self"] (spRim Z.B.C) := ok_rim Z.B Z.t
  have GB5 : FnOk P w K mg base CX0 1 (Z.B.f 5) (Z.B.d 5) ["self", "thing"] (spHas Z.B.C) := ok_has Z.B Z.t
  have GB6 : FnOk P w K mg base (L2.CX P w) 3 (Z.B.f 6) (Z.B.d 6) ["self", "place"] (spTiesOf Z.B) := ok_ties_of Z.B Z.t
  have GI : FnOk P w K mg base (L2.CX P w) 4 (Z.B.f 0) (Z.B.d 0) ["self", "places", "ties", "rim"] (spInit K Z.B) := ok_init Z.B Z.n Z.t
  refine Fun.okX (Z.F 31 (by decide)) sc_within (fun vs H Q E h => ?_) (fun cdv A outer s H vs Q E hr h => ?_)
  · obtain ⟨v, u, w, rfl, _⟩ := h
    rfl
  have hu := hr.units
  refine ⟨_, pss_cons (ps_expr (pe_call GN (hr.mono (by decide)) (by rfl) (Z.g 27 (by decide)) (Z.F 27 (by decide)).kp (bNeed Z) .nil (passes_call (takes_of rfl rfl rfl rfl) (fun _ _ _ _ h => h)) (pa_cons (pv 0) pa_nil)))
  (pss_cons (ps_expr (pe_call GIP (hr.mono (by decide)) (by rfl) (Z.g 29 (by decide)) (Z.F 29 (by decide)).kp (bNeedI Z) .nil (passes_call (takes_of rfl rfl rfl rfl) (fun _ _ _ _ h => h)) (pa_cons (pv 0) (pa_cons (pv 1) pa_nil))))
  (pss_cons (ps_expr (pe_call GN (hr.mono (by decide)) (by rfl) (Z.g 27 (by decide)) (Z.F 27 (by decide)).kp (bNeed Z) .nil (passes_call (takes_of rfl rfl rfl rfl) (fun _ _ _ _ h => h)) (pa_cons (pv 2) pa_nil)))
  (pss_cons (ps_set (i := 3) sc_within.nd rfl (Or.inl rfl) (pe_meth (pv 0) Z.B.O.cl Z.B.M6 GB6 (hr.mono (by decide)) (b_m6 Z.B) .nil (passes_call (takes_of rfl rfl rfl rfl) (fun _ _ _ _ h => h)) (pa_cons (pv 1) pa_nil)))
  (pss_cons (ps_set (i := 4) sc_within.nd rfl (Or.inr rfl) (pe_lc (own := [("one", 5)]) (tt := tB (tMeth Z.B.C "has_place" (spHas Z.B.C) [] E0 (tVar 0) (tCons (tVar 5) tNil))) (te := tVar 5) rfl sc_within.nd (pi_list (pe_meth0 (pv 2) Z.B.O.cl Z.B.M2 GB2 (hr.mono (by decide)) (b_m2 Z.B) .nil pass0)) (blkOk_by (own := [("one", 5)]) (N := N_within) (sc := defScope (topS 31)) (by decide +kernel)) (fun _ _ _ _ _ => (pg_name (i := 5) sc_within.nd rfl (Or.inl rfl))) (fun _ _ _ _ _ => by exact (pts_one (pt_val (pe_meth (pv 0) Z.B.O.cl Z.B.M5 GB5 (hr.mono (by decide)) (b_m5 Z.B) .nil pass0 (pa_cons (pv 5) pa_nil))))) (fun _ _ _ _ _ => (pv 5))))
  (pss_cons (ps_if (PW.pt (pw_or (pt_cmpR (op_neD hu) (pv 4) (pv 3) (nomark _)) (pw_or1 (pt_cmpR (op_neD hu) (pe_callB cr_sortQ (by rfl) Z.t.sorted boot_sorted (pa_cons (pe_meth0 (pv 2) Z.B.O.cl Z.B.M4 GB4 (hr.mono (by decide)) (b_m4 Z.B) .nil pass0) pa_nil)) (pv 3) (nomark _))))) (pss_one (ps_raise rfl (takes_of rfl rfl rfl rfl) (pmk_bare PySem.F.excBase_ValueError D.bx (show mg ("NotWithin" : Str) = _ from M.g 5) D.kp (raises_own D.sb D.ty) (by rfl)))) pss_nil)
  (pss_cons (ps_setLc (i := 6) (own := [("one", 5)]) (tt := tAnd (tTest (tOp rNe (tVar 5) (tVar 1))) (tTest (tOp (rIn K true) (tVar 5) (tVar 4)))) (te := tVar 5) rfl sc_within.nd rfl rfl (by rfl) (pi_list (pe_meth0 (pv 0) Z.B.O.cl Z.B.M2 GB2 (hr.mono (by decide)) (b_m2 Z.B) .nil pass0)) (blkOk_by (own := [("one", 5)]) (N := N_within) (sc := defScope (topS 31)) (by decide +kernel)) (fun _ _ _ _ _ => (pg_name (i := 5) sc_within.nd rfl (Or.inl rfl))) (fun _ _ _ _ _ => (pts_one (PW.pt (pw_and (pt_cmpR op_ne (pv 5) (pv 1) (nomark _)) (pw_and1 (pt_cmpR op_notIn_seq (pv 5) (pv 4) (by rfl))))))) (fun _ _ _ _ _ => (pv 5)))
  (pss_cons (ps_setLc (i := 7) (own := [("tie", 8)]) (tt := tTest (tOp (rIn K true) (tVar 1) (tVar 8))) (te := tVar 8) rfl sc_within.nd rfl rfl (by rfl) (pi_list (pe_meth0 (pv 0) Z.B.O.cl Z.B.M3 GB3 (hr.mono (by decide)) (b_m3 Z.B) .nil pass0)) (blkOk_by (own := [("tie", 8)]) (N := N_within) (sc := defScope (topS 31)) (by decide +kernel)) (fun _ _ _ _ _ => (pg_name (i := 8) sc_within.nd rfl (Or.inl rfl))) (fun _ _ _ _ _ => (pts_one (pt_cmpR op_notIn_seq (pv 1) (pv 8) (by rfl)))) (fun _ _ _ _ _ => (pv 8)))
  (pss_one (ps_ret (pe_make Z.B.M0 GI (hr.mono (by decide)) (by rfl) Z.B.g (bInit Z.B) .nil passL (pa_cons (pe_op op_cat (pv 6) (pe_meth0 (pv 2) Z.B.O.cl Z.B.M2 GB2 (hr.mono (by decide)) (b_m2 Z.B) .nil pass0)) (pa_cons (G14.pe_sortSet rfl (show (cxOf (L2.CX P w) P w K mg base N_within (tName 31) (defScope (topS 31)) (Z.f 31) cdv A outer s H E).A.units + 4 < cLine from Nat.lt_of_le_of_lt (Nat.add_le_add_left (by decide : 4 ≤ 64) _) hu) (by rfl) Z.t.sorted (by rfl) (Z.free "set" (by decide)) (pe_op op_cat (pv 7) (pe_meth0 (pv 2) Z.B.O.cl Z.B.M3 GB3 (hr.mono (by decide)) (b_m3 Z.B) .nil pass0))) (pa_cons (pe_meth0 (pv 0) Z.B.O.cl Z.B.M4 GB4 (hr.mono (by decide)) (b_m4 Z.B) .nil pass0) pa_nil))))))))))))), ?_⟩
  obtain ⟨v, u, w', rfl, kv, h⟩ := h
  have sz : 5000 < sizeLine := by decide
  rcases h with ⟨nk, hR⟩ | ⟨x, pl, ts, rm, rfl, bx, l1, few, ku, h⟩
  · exact ⟨_, rfl, v, rfl, kv, .inl ⟨nk, hR⟩⟩
  obtain ⟨dx, _, _, _, _, _, _, hx, _⟩ := id bx
  refine ⟨_, rfl, .ref x, rfl, kv, .inr ⟨by simp only [kdOf, hx], ?_⟩⟩
  rcases h with ⟨ni, hR⟩ | ⟨z, rfl, hz, h⟩
  · exact ⟨_, rfl, _, rfl, x, u, pl, ts, rm, rfl, bx, ku, .inl ⟨ni, hR⟩⟩
  rcases h with ⟨zr, hR⟩ | ⟨zr, kw, h⟩
  · exact ⟨_, rfl, _, rfl, x, .str z, pl, ts, rm, rfl, bx, ku, .inr ⟨z, rfl, hz, .inl ⟨zr, hR⟩⟩⟩
  refine ⟨_, rfl, _, rfl, x, .str z, pl, ts, rm, rfl, bx, ku, .inr ⟨z, rfl, hz, .inr ⟨zr, fun H1 S1 => ?_⟩⟩⟩
  rcases h with ⟨nk, hR⟩ | ⟨y, pl', ts', rm', rfl, by_, l2, few', k1, k2⟩
  · exact ⟨_, rfl, w', rfl, (kw.same S1).1, .inl ⟨by rw [(kw.same S1).2]; exact nk, hR.mono S1⟩⟩
  obtain ⟨dy, _, _, _, _, _, _, hy, _⟩ := id by_
  have S1y := S1 _ _ hy
  refine ⟨_, rfl, .ref y, rfl, (kw.same S1).1, .inr ⟨by simp only [kdOf, S1y], ?_⟩⟩
  have bx1 := bx.same S1
  have by1 := by_.same S1
  have hx1 := S1 _ _ hx
  refine ⟨_, rfl, x, dx, _, rfl, hx1, rfl, _, rfl, x, .str z, pl, ts, rm, rfl, bx1, .str z, .inr ⟨z, rfl, hz, fun ar nar => ?_⟩⟩
  have S2 := S1.trans (new_same (o := .lst ((sortS (nb ts z)).map V.str)) nar)
  have har := upd_same (H := H1) (a := ar) (o := .lst ((sortS (nb ts z)).map V.str))
  generalize upd H1 ar (.lst ((sortS (nb ts z)).map V.str)) = H2 at S2 har ⊢
  have bx2 := bx.same S2
  have by2 := by_.same S2
  refine ⟨_, rfl, y, dy, _, rfl, S2 _ _ hy, rfl, y, pl', ts', rm', rfl, by2, fun u2 nu2 => ⟨u2, rfl, ⟨_, SqL.of upd_same⟩, fun D0 hD => ?_⟩⟩
  have S3 := S2.trans (new_same (o := .lst (pl'.map V.str)) nu2)
  have T3 := new_same (o := .lst (pl'.map V.str)) nu2
  have har3 := new_same (o := .lst (pl'.map V.str)) nu2 _ _ har
  have hu2 := upd_same (H := H2) (a := u2) (o := .lst (pl'.map V.str))
  generalize upd H2 u2 (.lst (pl'.map V.str)) = H3 at S3 har3 hu2 hD ⊢
  refine lc_list (xs := pl'.map V.str) (fun i H' => H' D0 = some (.lst (((pl'.take i).filter fun o => decide (o ∈ pl)).map V.str)) ∧ Same H3 H') ⟨upd_same, new_same hD⟩ (fun i H' _ ⟨_, S⟩ => SqL.of (S _ _ hu2)) ?_ ?_
  · rintro i xx H' hxx ⟨acc, S⟩
    rw [List.getElem?_map] at hxx
    cases ez : pl'[i]? with
    | none => rw [ez] at hxx; cases hxx
    | some o =>
    rw [ez] at hxx
    cases hxx
    have S' := S3.trans S
    obtain ⟨f1, f2⟩ := fil_step (H := H') (D := D0) (fun o => decide (o ∈ pl)) ez
    have lf := List.length_filter_le (fun o => decide (o ∈ pl)) (pl'.take i)
    rw [List.length_take] at lf
    refine ⟨rfl, _, rfl, x, dx, _, rfl, S' _ _ hx, rfl, _, rfl, x, .str o, pl, ts, rm, rfl, bx.same S', .str o, _, rfl, ?_⟩
    show ite (decide (o ∈ pl) = true) _ _
    refine ite2 (fun c => ?_) (fun c => ?_)
    · refine ⟨_, rfl, _, acc, ?_, ?_, Same.updN S hD⟩
      · rw [List.length_map]
        omega
      · rw [upd_same, f1 c, List.map_append]
        rfl
    · rw [f2 c]
      exact ⟨acc, S⟩
  rintro H4 ⟨hco, S4⟩
  rw [List.length_map, List.take_length] at hco
  have S04 := S3.trans S4
  have har4 := S4 _ _ har3
  have nmP : ∀ o ∈ pl, PyData.strOk o = true := fun o ho => name_ok (bx.ok.nm o ho)
  have nmP' : ∀ o ∈ pl', PyData.strOk o = true := fun o ho => name_ok (by_.ok.nm o ho)
  have nbin : ∀ o ∈ sortS (nb ts z), o ∈ pl := fun o ho => by
    have ho := sortS_mem.mp ho
    unfold nb at ho
    obtain ⟨q, hq, h⟩ := List.mem_flatMap.mp ho
    have := few.2.2.2.ok q hq
    rcases List.mem_append.mp h with h | h
    · split at h
      · rw [List.mem_singleton.mp h]; exact this.2.1
      · cases h
    · split at h
      · rw [List.mem_singleton.mp h]; exact this.1
      · cases h
  refine ⟨_, rfl, _, rfl, _, _, dp_strs hco, dp_strs har4, shS (fun o ho => nmP' o (List.mem_filter.mp ho).1), shS (fun o ho => nmP o (nbin o ho)), ?_⟩
  rw [eqv_strs]
  by_cases c1 : (pl'.filter fun o => decide (o ∈ pl)) = sortS (nb ts z)
  rotate_left
  · rw [decide_eq_false c1]
    exact ⟨_, rfl, iteT (k1 (fun q => c1 q.1) none H4 S04)⟩
  rw [decide_eq_true c1]
  refine ⟨_, rfl, iteF ⟨_, rfl, y, dy, _, rfl, S04 _ _ hy, rfl, y, pl', ts', rm', rfl, by_.same S04, fun u5 nu5 => ⟨u5, rm', rfl, .inl (SqL.of upd_same), fun u6 nu6 => ⟨_, rfl, _, _, dp_strs upd_same, dp_strs ?_, shS (fun o ho => nmP' o (by_.ok.pin o (sortS_mem.mp ho))), shS (fun o ho => nmP o (nbin o ho)), ?_⟩⟩⟩⟩
  · exact new_same nu6 _ _ (new_same nu5 _ _ har4)
  have S6 := (new_same (o := .lst (rm'.map V.str)) nu5).trans (new_same (o := .lst ((sortS rm').map V.str)) nu6)
  generalize upd (upd H4 u5 (.lst (rm'.map V.str))) u6 (.lst ((sortS rm').map V.str)) = H6 at S6 ⊢
  have S06 := S04.trans S6
  rw [eqv_strs]
  by_cases c2 : sortS rm' = sortS (nb ts z)
  rotate_left
  · rw [decide_eq_false c2]
    exact ⟨_, rfl, iteT (k1 (fun q => c2 q.2) none H6 S06)⟩
  rw [decide_eq_true c2]
  obtain ⟨lt77, ltS', inP, ndP, rinP, k3⟩ := k2 ⟨c1, c2⟩
  refine ⟨_, rfl, iteF ?_⟩
  have hco6 := S6 _ _ hco
  have S46 : Same H4 H6 := S6
  have hD0 : H D0 = none := S3.free hD
  -- the places
  refine ⟨_, rfl, x, dx, _, rfl, S06 _ _ hx, rfl, x, pl, ts, rm, rfl, bx.same S06, fun u7 nu7 => ⟨u7, rfl, ⟨_, SqL.of upd_same⟩, fun D1 hD1 => ?_⟩⟩
  have S7 := S06.trans (new_same (o := .lst (pl.map V.str)) nu7)
  have T7 := new_same (o := .lst (pl.map V.str)) nu7
  have hu7 := upd_same (H := H6) (a := u7) (o := .lst (pl.map V.str))
  have hco7 := T7 _ _ hco6
  generalize upd H6 u7 (.lst (pl.map V.str)) = H7 at S7 T7 hu7 hco7 hD1 ⊢
  refine lc_list (xs := pl.map V.str) (fun i H' => H' D1 = some (.lst (((pl.take i).filter fun o => !decide (o = z) && !decide (o ∈ pl'.filter fun o => decide (o ∈ pl))).map V.str)) ∧ Same H7 H') ⟨upd_same, new_same hD1⟩ (fun i H' _ ⟨_, S⟩ => SqL.of (S _ _ hu7)) ?_ ?_
  · rintro i xx H' hxx ⟨acc, S⟩
    rw [List.getElem?_map] at hxx
    cases ez : pl[i]? with
    | none => rw [ez] at hxx; cases hxx
    | some o =>
    rw [ez] at hxx
    cases hxx
    obtain ⟨f1, f2⟩ := fil_step (H := H') (D := D1) (fun o => !decide (o = z) && !decide (o ∈ pl'.filter fun o => decide (o ∈ pl))) ez
    have lf := List.length_filter_le (fun o => !decide (o = z) && !decide (o ∈ pl'.filter fun o => decide (o ∈ pl))) (pl.take i)
    rw [List.length_take] at lf
    have eo : decide (V.str o = V.str z) = decide (o = z) := decide_eq_decide.mpr ⟨fun q => by injection q, fun q => by rw [q]⟩
    refine ⟨rfl, _, rfl, _, rfl, rfl, _, rfl, ?_⟩
    rw [eo]
    by_cases c1 : o = z
    · refine iteF' (by rw [decide_eq_true c1]; decide) (iteF' (by decide) ?_)
      rw [f2 (by rw [decide_eq_true c1]; simp)]
      exact ⟨acc, S⟩
    · refine iteT' (by rw [decide_eq_false c1]; rfl) ⟨_, rfl, _, rfl, D0, _, rfl, .inl (SqL.of (S _ _ hco7)), rfl, flat_strs _, _, rfl, ?_⟩
      rw [show inV (.str o) ((pl'.filter fun o => decide (o ∈ pl)).map V.str) = decide (o ∈ pl'.filter fun o => decide (o ∈ pl)) from inV_strs o _]
      refine ite2 (fun c => ?_) (fun c => ?_)
      · have c' : (!decide (o ∈ pl'.filter fun o => decide (o ∈ pl))) = true := c
        refine ⟨_, rfl, _, acc, ?_, ?_, Same.updN S hD1⟩
        · rw [List.length_map]
          omega
        · rw [upd_same, f1 (by rw [decide_eq_false c1, c']; rfl), List.map_append]
          rfl
      · have c' : (!decide (o ∈ pl'.filter fun o => decide (o ∈ pl))) = false := Bool.eq_false_iff.mpr c
        rw [f2 (by rw [c']; simp)]
        exact ⟨acc, S⟩
  rintro H8 ⟨hP8, S8⟩
  rw [List.length_map, List.take_length] at hP8
  have S08 := S7.trans S8
  -- the ties
  refine ⟨_, rfl, x, dx, _, rfl, S08 _ _ hx, rfl, x, pl, ts, rm, rfl, bx.same S08, fun u9 tv nu9 pt => ⟨u9, rfl, ⟨_, SqL.of upd_same⟩, fun D2 hD2 => ?_⟩⟩
  have T9 := new_same (o := .lst tv) nu9
  have S9 := S08.trans T9
  have hu9 := upd_same (H := H8) (a := u9) (o := .lst tv)
  have hP9 := T9 _ _ hP8
  have pt9 := pt.mono fun t xs h => T9 _ _ h
  generalize upd H8 u9 (.lst tv) = H9 at T9 S9 hu9 hP9 pt9 hD2 ⊢
  have ltv := pt.1
  refine lc_list (xs := tv) (fun i H' => ∃ acc, H' D2 = some (.lst acc) ∧ PrsAt H' acc ((ts.take i).filter fun t => !(decide (z = t.1) || decide (z = t.2))) ∧ Same H9 H') ⟨[], upd_same, PrsAt.nil, new_same hD2⟩ (fun i H' _ ⟨_, _, _, S⟩ => SqL.of (S _ _ hu9)) ?_ ?_
  · rintro i xx H' hxx ⟨acc, hacc, pa, S⟩
    have il : i < ts.length := by rw [← ltv]; exact (List.getElem?_eq_some_iff.mp hxx).1
    have et : ts[i]? = some ts[i] := List.getElem?_eq_getElem il
    obtain ⟨t, rfl, ht⟩ := pt9.2 i xx _ hxx et
    have lf := List.length_filter_le (fun t : Pr => !(decide (z = t.1) || decide (z = t.2))) (ts.take i)
    rw [List.length_take] at lf
    have l968 := few.1
    refine ⟨rfl, _, rfl, _, rfl, t, _, rfl, .inr (SqT.of (S _ _ ht)), rfl, rfl, _, rfl, ?_⟩
    rw [show inV (.str z) [V.str ts[i].1, .str ts[i].2] = decide (z ∈ [ts[i].1, ts[i].2]) from inV_strs z [ts[i].1, ts[i].2]]
    rw [show decide (z ∈ [ts[i].1, ts[i].2]) = (decide (z = ts[i].1) || decide (z = ts[i].2)) by
      by_cases a : z = ts[i].1 <;> by_cases b : z = ts[i].2 <;> simp [a, b]]
    rw [take_snoc et, List.filter_append]
    refine ite2 (fun c => ?_) (fun c => ?_)
    · have c' : (!(decide (z = ts[i].1) || decide (z = ts[i].2))) = true := c
      rw [List.filter_cons_of_pos (p := fun t : Pr => !(decide (z = t.1) || decide (z = t.2))) c', List.filter_nil]
      refine ⟨_, rfl, _, hacc, ?_, _, upd_same, ?_, Same.updN S hD2⟩
      · rw [pa.1]
        omega
      · refine prs_upd (prs_snoc pa (S _ _ ht)) fun xs e => ?_
        rw [hacc] at e
        cases e
    · have c' : ¬ (!(decide (z = ts[i].1) || decide (z = ts[i].2))) = true := c
      rw [List.filter_cons_of_neg (p := fun t : Pr => !(decide (z = t.1) || decide (z = t.2))) c', List.filter_nil, List.append_nil]
      exact ⟨acc, hacc, pa, S⟩
  rintro H10 ⟨acc, hT10, pa10, S10⟩
  rw [ltv, List.take_length] at pa10
  have S010 := S9.trans S10
  have hP10 := S10 _ _ hP9
  -- the board
  refine ⟨_, rfl, _, rfl, y, dy, _, rfl, S010 _ _ hy, rfl, y, pl', ts', rm', rfl, by_.same S010, fun u11 nu11 => ?_⟩
  have lfp := List.length_filter_le (fun o => !decide (o = z) && !decide (o ∈ pl'.filter fun o => decide (o ∈ pl))) pl
  have T11 := new_same (o := .lst (pl'.map V.str)) nu11
  refine ⟨D1, u11, _, _, rfl, rfl, T11 _ _ hP10, upd_same, by rw [List.length_map, List.length_map]; omega, fun aP naP => ?_⟩
  rw [← List.map_append, show ((pl.filter fun o => !decide (o = z) && !decide (o ∈ pl'.filter fun o => decide (o ∈ pl))) ++ pl') = wiP pl z pl' from rfl]
  have T12 := T11.trans (new_same (o := .lst ((wiP pl z pl').map V.str)) naP)
  have hP12 := upd_same (H := upd H10 u11 (.lst (pl'.map V.str))) (a := aP) (o := .lst ((wiP pl z pl').map V.str))
  have S012 := S010.trans T12
  have hT12 := T12 _ _ hT10
  have pa12 := pa10.mono fun t xs h => T12 _ _ h
  have S1012 : Same H10 (upd (upd H10 u11 (.lst (pl'.map V.str))) aP (.lst ((wiP pl z pl').map V.str))) := T12
  generalize upd (upd H10 u11 (.lst (pl'.map V.str))) aP (.lst ((wiP pl z pl').map V.str)) = H12 at *
  refine ⟨_, rfl, _, rfl, y, dy, _, rfl, S012 _ _ hy, rfl, y, pl', ts', rm', rfl, by_.same S012, fun u13 uv nu13 qt => ?_⟩
  have T13 := new_same (o := .lst uv) nu13
  have lw : (wiT ts z).length + ts'.length < 77 := by rw [← List.length_append]; exact lt77
  have la : acc.length = (wiT ts z).length := pa12.1
  refine ⟨D2, u13, _, _, rfl, rfl, T13 _ _ hT12, upd_same, by rw [la, qt.1]; omega, fun r nr => ?_⟩
  have T14 := T13.trans (new_same (o := .lst (acc ++ uv)) nr)
  have h14 := upd_same (H := upd H12 u13 (.lst uv)) (a := r) (o := .lst (acc ++ uv))
  have hP14 := T14 _ _ hP12
  have S014 := S012.trans T14
  have P14 : PrsAt (upd (upd H12 u13 (.lst uv)) r (.lst (acc ++ uv))) (acc ++ uv) (wiT ts z ++ ts') := prs_app (pa12.mono fun t xs h => T14 _ _ h) (qt.mono fun t xs h => T14 _ _ h)
  generalize upd (upd H12 u13 (.lst uv)) r (.lst (acc ++ uv)) = H14 at *
  refine ⟨r, acc ++ uv, wiT ts z ++ ts', rfl, SqL.of h14, P14, lt77, fun d ys qs nd_ sub nd mem pys => ?_⟩
  have T15 := new_same (o := .lst ys) nd_
  have hd15 := upd_same (H := H14) (a := d) (o := .lst ys)
  have pys15 := pys.mono fun t xs h => T15 _ _ h
  have hP15 := T15 _ _ hP14
  have S015 := S014.trans T15
  generalize upd H14 d (.lst ys) = H15 at *
  refine ⟨_, rfl, x, dx, _, rfl, S015 _ _ hx, rfl, x, pl, ts, rm, rfl, bx.same S015, fun u16 nu16 => ?_⟩
  intro xb dxb nx ndx ne
  have T16 := new_same (o := .lst (rm.map V.str)) nu16
  have S016 := S015.trans T16
  have tok : TsOk (wiP pl z pl') (sortPr qs) := ⟨(sortPr_perm qs).nodup_iff.mpr nd, fun p hp => by
    have hp := (mem p).mp (sortPr_mem.mp hp)
    exact ⟨(inP p hp).1, (inP p hp).2, ltS' p hp⟩⟩
  have nm : ∀ o ∈ wiP pl z pl', nameB o = true := fun o ho => by
    rcases List.mem_append.mp ho with h | h
    · exact bx.ok.nm o (List.mem_filter.mp h).1
    · exact by_.ok.nm o h
  have lq : (sortPr qs).length ≤ 1000 := by
    rw [sortPr_len]
    have := nd.length_le_of_subset fun t ht => (mem t).mp ht
    omega
  refine init_mk (N := fun _ => True) (N2 := fun _ => True) (N3 := fun _ => True) (ps := wiP pl z pl') (qs := sortPr qs) (rs := rm) (HP.lst (T16 _ _ hP15) trivial) (HT.lst (tv := ys) (T16 _ _ hd15) (pys15.mono fun t xs h => T16 _ _ h) (fun q hq => (tok.ok q hq).2.2) trivial (fun _ _ => trivial)) (HP.lst upd_same trivial) ndP nm (by unfold wiP; rw [List.length_append]; omega) tok lq few.2.2.1 rinP nx ndx ne fun Hm Bm Sm => ?_
  rw [sortPr_of_perm (sortPr_perm qs)] at Bm
  exact ⟨rfl, k3 xb qs Hm (S016.trans Sm) nd mem (Bm.weak fun c hc => S016.free hc)⟩
end
end E1

set_option Elab.async false
set_option linter.all false
set_option maxRecDepth 100000
set_option maxHeartbeats 16000000
/-! _law_due: the raw board with another one in a place's stead. -/
namespace E1
open PySem PySem.Spec PyProof.Rows L2 G0
/-- may it stand there, of raw boards -/
def DOk (pl : List Str) (ts : List Pr) (z : Str) (pl' rm' : List Str) : Prop := sortS rm' = nbS ts z ∧ ((sortS pl').filter fun o => decide (o ∈ pl)) = nbS ts z
def duP (pl : List Str) (z : Str) (pl' : List Str) : List Str := (pl.filter fun o => !decide (o = z)) ++ pl'.filter fun o => !decide (o ∈ pl)
def duT (ts : List Pr) (z : Str) (ts' : List Pr) : List Pr := once (wiT ts z ++ ts')
theorem RawOk.strT {pl : List Str} {ts : List Pr} {rm : List Str} (r : RawOk pl ts rm) : ∀ t ∈ ts, PyData.strOk t.1 = true ∧ PyData.strOk t.2 = true := fun t ht => ⟨r.strP _ (r.ts.ok t ht).1, r.strP _ (r.ts.ok t ht).2.1⟩
def spDue : Sp := fun vs H Q _ => ∃ (p q : Addr) (z : Str) (N N2 : Addr → Prop) (pl : List Str) (ts : List Pr) (rm pl' : List Str) (ts' : List Pr) (rm' : List Str), vs = [.ref p, .str z, .ref q] ∧ RawAt N H p pl ts rm ∧ RawAt N2 H q pl' ts' rm' ∧ RawOk pl ts rm ∧ RawOk pl' ts' rm' ∧ z ∈ pl ∧
  (¬ DOk pl ts z pl' rm' → ∀ H', Same H H' → Q .non H') ∧ (DOk pl ts z pl' rm' → ∀ r H', RawAt (fun c => N c ∨ H c = none) H' r (duP pl z pl') (duT ts z ts') rm → Same H H' → Q (.ref r) H')
abbrev N_due : List Str := ["_law_raw", "_law_place", "_law_other", "_law_near", "_law_common", "_law_one", "_law_ties", "_law_tie", "_law_a", "_law_b"]
theorem sc_due : FnScope N_due ["_law_raw", "_law_place", "_law_other"] (defScope (topS 60)) := ⟨rfl, rfl, rfl, by decide +kernel, rfl, by decide +kernel, by decide +kernel⟩
section
variable {P : Program} {w : World} {K : PySem.W.Frag} {mg : Str → Option Value} {base : Heap}
theorem bDue (Z : LawD K mg) : Binds K (Z.d 60) ["_law_raw", "_law_place", "_law_other"] [] := (Z.F 60 (by decide)).binds fun _ _ _ _ _ _ us hl => match us, hl with | [_, _, _], _ => rfl
theorem ok_due (Z : LawD K mg) : FnOk P w K mg base CX0 2 (Z.f 60) (Z.d 60) ["_law_raw", "_law_place", "_law_other"] spDue := by
  have GEP : FnOk P w K mg base CX0 1 (Z.f 57) (Z.d 57) ["_law_things"] (spOnce isP (fun q => PyData.strOk q.1 = true ∧ PyData.strOk q.2 = true)) := ok_onceP Z
  have GT : FnOk P w K mg base CX0 1 (Z.f 34) (Z.d 34) N_a_tie spTie := ok_a_tie Z
  have GNR : FnOk P w K mg base CX0 1 (Z.f 35) (Z.d 35) ["_law_raw"] spANear := ok_a_near Z
  refine Fun.ok (Z.F 60 (by decide)) sc_due (fun vs H Q E h => ?_) (fun cdv A outer s H vs Q E hr h => ?_)
  · obtain ⟨p, q, z, N, N2, pl, ts, rm, pl', ts', rm', rfl, _⟩ := h
    rfl
  have hu := hr.units
  refine ⟨_, pss_cons (ps_par (i := 3) (j := 4) rfl sc_due.nd rfl rfl (by decide) rfl rfl (pa_cons (pe_dget (hu_of hr) (pe_call GNR (hr.mono (by decide)) (by rfl) (Z.g 35 (by decide)) (Z.F 35 (by decide)).kp (bANear Z) .nil pass0 (pa_cons (pv 0) pa_nil)) (pv 1) (fun _ _ => rfl)) (pa_cons (pe_lc (own := [("_law_one", 5)]) (tt := tTest (tOp (rIn K false) (tVar 5) (tOp (rIxT K) (tVar 0) (tC (.int 0))))) (te := tVar 5) rfl sc_due.nd (pi_list (pe_callB cr_sortQ (by rfl) Z.t.sorted boot_sorted (pa_cons (pe_ix ix_tup (pv 2) pe_int (fun _ _ => rfl)) pa_nil))) (blkOk_by (own := [("_law_one", 5)]) (N := N_due) (sc := defScope (topS 60)) (by decide +kernel)) (fun _ _ _ _ _ => (pg_name (i := 5) sc_due.nd rfl (Or.inl rfl))) (fun _ _ _ _ _ => by exact (pts_one (pt_cmpR op_in_seq (pv 5) (pe_ix ix_tup (pv 0) pe_int (fun _ _ => rfl)) (by rfl)))) (fun _ _ _ _ _ => (pv 5))) pa_nil)) (by rfl))
  (pss_cons (ps_if (PW.pt (pw_or (pt_cmpR (op_neD hu) (pe_callB cr_sortQ (by rfl) Z.t.sorted boot_sorted (pa_cons (pe_ix ix_tup (pv 2) pe_int (fun _ _ => rfl)) pa_nil)) (pv 3) (nomark _)) (pw_or1 (pt_cmpR (op_neD hu) (pv 4) (pv 3) (nomark _))))) (pss_one (ps_ret pe_non)) pss_nil)
  (pss_cons (ps_setLc (i := 6) (own := [("_law_tie", 7)]) (tt := tTest (tOp (rIn K true) (tVar 1) (tVar 7))) (te := tVar 7) rfl sc_due.nd rfl rfl (by rfl) (pi_list (pe_ix ix_tup (pv 0) pe_int (fun _ _ => rfl))) (blkOk_by (own := [("_law_tie", 7)]) (N := N_due) (sc := defScope (topS 60)) (by decide +kernel)) (fun _ _ _ _ _ => (pg_name (i := 7) sc_due.nd rfl (Or.inl rfl))) (fun _ _ _ _ _ => by exact (pts_one (pt_cmpR op_notIn_seq (pv 1) (pv 7) (by rfl)))) (fun _ _ _ _ _ => (pv 7)))
  (pss_cons (ps_set (i := 6) sc_due.nd rfl (Or.inl rfl) (pe_call GEP (hr.mono (by decide)) (by rfl) (Z.g 57 (by decide)) (Z.F 57 (by decide)).kp (bOnce Z) .nil pass0 (pa_cons (pe_lc (own := [("_law_a", 8), ("_law_b", 9)]) (g := gTup K 2 (gCons (gName 8) (gCons (gName 9) gNil))) (tt := tYes) (te := tCall spTie [] L2.E0 (tCons (tVar 8) (tCons (tVar 9) tNil))) rfl sc_due.nd (pi_list (pe_op op_cat (pv 6) (pe_callTy call_list_of (by rfl) Z.t.list PyProof.Rows.boot_list (pa_cons (pe_ix ix_tup (pv 2) pe_int (fun _ _ => rfl)) pa_nil)))) (blkOk_by (own := [("_law_a", 8), ("_law_b", 9)]) (N := N_due) (sc := defScope (topS 60)) (by decide +kernel)) (fun _ _ _ _ _ => by exact (pg_tup rfl (pgs_cons (pg_name (i := 8) sc_due.nd rfl (Or.inl rfl)) (pgs_cons (pg_name (i := 9) sc_due.nd rfl (Or.inl rfl)) pgs_nil)))) (fun _ _ _ _ _ => pts_nil) (fun _ _ _ _ _ => (pe_call GT (hr.mono (by decide)) (by rfl) (Z.g 34 (by decide)) (Z.F 34 (by decide)).kp (bTie Z) .nil pass0 (pa_cons (pv 8) (pa_cons (pv 9) pa_nil))))) pa_nil)))
  (pss_one (ps_ret (pe_tup (pa_cons (pe_op op_cat (pe_lc (own := [("_law_one", 5)]) (tt := tTest (tOp rNe (tVar 5) (tVar 1))) (te := tVar 5) rfl sc_due.nd (pi_list (pe_ix ix_tup (pv 0) pe_int (fun _ _ => rfl))) (blkOk_by (own := [("_law_one", 5)]) (N := N_due) (sc := defScope (topS 60)) (by decide +kernel)) (fun _ _ _ _ _ => (pg_name (i := 5) sc_due.nd rfl (Or.inl rfl))) (fun _ _ _ _ _ => by exact (pts_one (pt_cmpR op_ne (pv 5) (pv 1) (nomark _)))) (fun _ _ _ _ _ => (pv 5))) (pe_lc (own := [("_law_one", 5)]) (tt := tTest (tOp (rIn K true) (tVar 5) (tOp (rIxT K) (tVar 0) (tC (.int 0))))) (te := tVar 5) rfl sc_due.nd (pi_list (pe_ix ix_tup (pv 2) pe_int (fun _ _ => rfl))) (blkOk_by (own := [("_law_one", 5)]) (N := N_due) (sc := defScope (topS 60)) (by decide +kernel)) (fun _ _ _ _ _ => (pg_name (i := 5) sc_due.nd rfl (Or.inl rfl))) (fun _ _ _ _ _ => by exact (pts_one (pt_cmpR op_notIn_seq (pv 5) (pe_ix ix_tup (pv 0) pe_int (fun _ _ => rfl)) (by rfl)))) (fun _ _ _ _ _ => (pv 5)))) (pa_cons (pv 6) (pa_cons (pe_ix ix_tup (pv 0) pe_int (fun _ _ => rfl)) pa_nil))))))))), ?_⟩
  obtain ⟨p, q, z, N, N2, pl, ts, rm, pl', ts', rm', rfl, R, R2, ok, ok', hz, k1, k2⟩ := h
  have sz : 5000 < sizeLine := by decide
  obtain ⟨aP, aT, aR, tv, hp, hP, hT, pt, hR, np, nP, nT, nR, nt⟩ := id R
  obtain ⟨bP, bT, bR, uv, hq, gP, gT, qt, gR, _⟩ := id R2
  have l1 := ok.len
  have l2 := ok'.len
  have l3 := ok.rlen
  have l4 := ok'.rlen
  have l5 := ok.tlen
  have l6 := ok'.tlen
  refine ⟨_, rfl, p, pl, ts, rm, rfl, R.weak fun _ _ => trivial, ok.nd, by omega, by omega, fun q hq => ⟨(ok.ts.ok q hq).1, (ok.ts.ok q hq).2.1⟩, fun qd ld H1 N1 nqd nld S1 => ⟨_, rfl, qd, _, rfl, by have := DGet.k (k := Sum.inr z) N1.d; rw [map_val _ (sortS_mem.mpr hz)] at this; exact this, ?_⟩⟩
  have h3 : H1 (ld z) = some (.lst ((nbS ts z).map V.str)) := N1.at_ z (sortS_mem.mpr hz)
  generalize ld z = a3 at h3
  refine ⟨_, rfl, q, _, 0, _, rfl, rfl, SqT.of (S1 _ _ hq), rfl, bP, pl', rfl, .inl (SqL.of (S1 _ _ gP)), fun u nu => ⟨u, rfl, ⟨_, SqL.of upd_same⟩, fun D hD => ?_⟩⟩
  have S2 := S1.trans (new_same (o := .lst ((sortS pl').map V.str)) nu)
  have h32 := new_same (o := .lst ((sortS pl').map V.str)) nu _ _ h3
  have hu2 := upd_same (H := H1) (a := u) (o := .lst ((sortS pl').map V.str))
  generalize upd H1 u (.lst ((sortS pl').map V.str)) = H2 at *
  refine lc_list (xs := (sortS pl').map V.str) (fun i H' => H' D = some (.lst ((((sortS pl').take i).filter fun o => decide (o ∈ pl)).map V.str)) ∧ Same H2 H') ⟨upd_same, new_same hD⟩ (fun i H' _ ⟨_, S⟩ => SqL.of (S _ _ hu2)) ?_ ?_
  · rintro i xx H' hxx ⟨acc, S⟩
    rw [List.getElem?_map] at hxx
    cases ez : (sortS pl')[i]? with
    | none => rw [ez] at hxx; cases hxx
    | some o =>
    rw [ez] at hxx
    cases hxx
    obtain ⟨f1, f2⟩ := fil_step (H := H') (D := D) (fun o => decide (o ∈ pl)) ez
    have lf := List.length_filter_le (fun o => decide (o ∈ pl)) ((sortS pl').take i)
    rw [List.length_take, sortS_len] at lf
    have S' := S2.trans S
    refine ⟨rfl, _, rfl, _, rfl, p, _, 0, _, rfl, rfl, SqT.of (S' _ _ hp), rfl, aP, _, rfl, .inl (SqL.of (S' _ _ hP)), rfl, flat_strs _, _, rfl, ?_⟩
    rw [show inV (.str o) (pl.map V.str) = decide (o ∈ pl) from inV_strs o _]
    refine ite2 (fun c => ?_) (fun c => ?_)
    · have c' : decide (o ∈ pl) = true := c
      refine ⟨_, rfl, _, acc, ?_, ?_, Same.updN S hD⟩
      · rw [List.length_map]
        omega
      · rw [upd_same, f1 c', List.map_append]
        rfl
    · have c' : ¬ decide (o ∈ pl) = true := c
      rw [f2 c']
      exact ⟨acc, S⟩
  rintro H3 ⟨hco, S3⟩
  rw [List.length_map, List.take_length] at hco
  have S03 := S2.trans S3
  have h33 := S3 _ _ h32
  have nmP : ∀ o ∈ nbS ts z, PyData.strOk o = true := fun o ho => ok.strP o (nbS_in ok.ts ho).1
  refine ⟨_, _, rfl, _, rfl, q, _, 2, _, rfl, rfl, SqT.of (S03 _ _ hq), rfl, bR, rm', rfl, .inl (SqL.of (S03 _ _ gR)), fun u4 nu4 => ⟨_, rfl, _, _, dp_strs upd_same, dp_strs (new_same nu4 _ _ h33), shS (fun o ho => ok'.strR o (sortS_mem.mp ho)), shS nmP, ?_⟩⟩
  rw [eqv_strs]
  have S4 := new_same (o := .lst ((sortS rm').map V.str)) nu4
  have S04 := S03.trans S4
  have hco4 := S4 _ _ hco
  have h34 := S4 _ _ h33
  generalize upd H3 u4 (.lst ((sortS rm').map V.str)) = H4 at *
  by_cases c1 : sortS rm' = nbS ts z
  rotate_left
  · rw [decide_eq_false c1]
    exact ⟨_, rfl, iteT (k1 (fun d => c1 d.1) _ S04)⟩
  rw [decide_eq_true c1]
  refine ⟨_, rfl, iteF ⟨_, rfl, _, rfl, _, _, dp_strs hco4, dp_strs h34, shS (fun o ho => ok'.strP o (sortS_mem.mp (List.mem_filter.mp ho).1)), shS nmP, ?_⟩⟩
  rw [eqv_strs]
  by_cases c2 : ((sortS pl').filter fun o => decide (o ∈ pl)) = nbS ts z
  rotate_left
  · rw [decide_eq_false c2]
    exact ⟨_, rfl, iteT (k1 (fun d => c2 d.2) _ S04)⟩
  rw [decide_eq_true c2]
  have k := k2 ⟨c1, c2⟩
  clear k1 k2
  refine ⟨_, rfl, iteF ?_⟩
  refine ⟨_, rfl, p, _, 1, _, rfl, rfl, SqT.of (S04 _ _ hp), rfl, aT, rfl, ⟨_, SqL.of (S04 _ _ hT)⟩, fun D2 hD2 => ?_⟩
  have hT4 := S04 _ _ hT
  have pt4 := pt.mono fun t xs h => S04 _ _ h
  have ltv := pt.1
  refine lc_list (xs := tv) (fun i H' => ∃ acc, H' D2 = some (.lst acc) ∧ PrsAt H' acc ((ts.take i).filter fun t => !(decide (z = t.1) || decide (z = t.2))) ∧ Same H4 H') ⟨[], upd_same, PrsAt.nil, new_same hD2⟩ (fun i H' _ ⟨_, _, _, S⟩ => SqL.of (S _ _ hT4)) ?_ ?_
  · rintro i xx H' hxx ⟨acc, hacc, pa, S⟩
    have il : i < ts.length := by rw [← ltv]; exact (List.getElem?_eq_some_iff.mp hxx).1
    have et : ts[i]? = some ts[i] := List.getElem?_eq_getElem il
    obtain ⟨t, rfl, ht⟩ := pt4.2 i xx _ hxx et
    have lf := List.length_filter_le (fun t : Pr => !(decide (z = t.1) || decide (z = t.2))) (ts.take i)
    rw [List.length_take] at lf
    refine ⟨rfl, _, rfl, _, rfl, t, _, rfl, .inr (SqT.of (S _ _ ht)), rfl, rfl, _, rfl, ?_⟩
    rw [show inV (.str z) [V.str ts[i].1, .str ts[i].2] = decide (z ∈ [ts[i].1, ts[i].2]) from inV_strs z [ts[i].1, ts[i].2]]
    rw [show decide (z ∈ [ts[i].1, ts[i].2]) = (decide (z = ts[i].1) || decide (z = ts[i].2)) by
      by_cases a : z = ts[i].1 <;> by_cases b : z = ts[i].2 <;> simp [a, b]]
    rw [take_snoc et, List.filter_append]
    refine ite2 (fun c => ?_) (fun c => ?_)
    · have c' : (!(decide (z = ts[i].1) || decide (z = ts[i].2))) = true := c
      rw [List.filter_cons_of_pos (p := fun t : Pr => !(decide (z = t.1) || decide (z = t.2))) c', List.filter_nil]
      refine ⟨_, rfl, _, hacc, ?_, _, upd_same, ?_, Same.updN S hD2⟩
      · rw [pa.1]
        omega
      · refine prs_upd (prs_snoc pa (S _ _ ht)) fun xs e => ?_
        rw [hacc] at e
        cases e
    · have c' : ¬ (!(decide (z = ts[i].1) || decide (z = ts[i].2))) = true := c
      rw [List.filter_cons_of_neg (p := fun t : Pr => !(decide (z = t.1) || decide (z = t.2))) c', List.filter_nil, List.append_nil]
      exact ⟨acc, hacc, pa, S⟩
  rintro H5 ⟨acc, hT5, pa5, S5⟩
  rw [ltv, List.take_length] at pa5
  have pa5 : PrsAt H5 acc (wiT ts z) := pa5
  have S05 := S04.trans S5
  have lwi : (wiT ts z).length ≤ ts.length := List.length_filter_le _ _
  have la := pa5.1
  have lu := qt.1
  refine ⟨_, rfl, _, rfl, q, _, 1, _, rfl, rfl, SqT.of (S05 _ _ hq), rfl, bT, uv, rfl, .inl (SqL.of (S05 _ _ gT)), fun s2 o2 => ⟨D2, s2, _, _, rfl, rfl, new_same o2 _ _ hT5, upd_same, by omega, fun s3 o3 => ⟨s3, rfl, ⟨_, SqL.of upd_same⟩, fun D3 hD3 => ?_⟩⟩⟩
  have T6 := (new_same (o := .lst uv) o2).trans (new_same (o := .lst (acc ++ uv)) o3)
  have S06 := S05.trans T6
  have h63 := upd_same (H := upd H5 s2 (.lst uv)) (a := s3) (o := .lst (acc ++ uv))
  have P6 : PrsAt (upd (upd H5 s2 (.lst uv)) s3 (.lst (acc ++ uv))) (acc ++ uv) (wiT ts z ++ ts') := prs_app (pa5.mono fun t xs h => T6 _ _ h) (qt.mono fun t xs h => S06 _ _ h)
  generalize upd (upd H5 s2 (.lst uv)) s3 (.lst (acc ++ uv)) = H6 at *
  have ltq : ∀ t ∈ wiT ts z ++ ts', ltS t.1 t.2 = true := fun t ht => (List.mem_append.mp ht).elim (fun h => (ok.ts.ok _ (List.mem_filter.mp h).1).2.2) fun h => (ok'.ts.ok _ h).2.2
  refine lc_list (xs := acc ++ uv) (fun i H' => ∃ acc2, H' D3 = some (.lst acc2) ∧ PrsAt H' acc2 ((wiT ts z ++ ts').take i) ∧ (∀ t, V.ref t ∈ acc2 → H t = none) ∧ Same H6 H') ⟨[], upd_same, by rw [List.take_zero]; exact PrsAt.nil, (fun t ht => by cases ht), new_same hD3⟩ (fun i H' _ ⟨_, _, _, _, S⟩ => SqL.of (S _ _ h63)) ?_ ?_
  · rintro i v H' hv ⟨acc2, hacc, pa, fa, S⟩
    have il : i < (wiT ts z ++ ts').length := by
      rw [← P6.1]
      exact (List.getElem?_eq_some_iff.mp hv).1
    obtain ⟨t', rfl, ht'⟩ := P6.2 i v _ hv (List.getElem?_eq_getElem il)
    generalize hpr : (wiT ts z ++ ts')[i] = pr at ht'
    have ht2 := S _ _ ht'
    have hlt := ltq pr (hpr ▸ List.getElem_mem il)
    refine ⟨t', _, rfl, SqT.of ht2, rfl, _, _, rfl, _, _, rfl, rfl, rfl, yes_of ⟨_, rfl, _, rfl, pr.1, pr.2, rfl, fun T nT => ?_⟩⟩
    rw [tp_self hlt]
    have ST := new_same (o := .tup [.str pr.1, .str pr.2]) nT
    have aT' := ST _ _ hacc
    have la := pa.1
    rw [List.length_take, List.length_append] at la
    rw [List.length_append] at il
    refine ⟨acc2, aT', by omega, acc2 ++ [.ref T], upd_same, ?_, ?_, ?_⟩
    · rw [take_snoc (show (wiT ts z ++ ts')[i]? = some pr by rw [List.getElem?_eq_getElem (by rw [List.length_append]; exact il), hpr])]
      refine prs_upd (prs_snoc (pa.mono fun t xs h => ST _ _ h) upd_same) (fun xs e => ?_)
      rw [aT'] at e
      cases e
    · intro c hc
      rcases List.mem_append.mp hc with h | h
      · exact fa c h
      · cases List.mem_singleton.mp h
        exact S06.free (S.free nT)
    · exact Same.updN (S.trans ST) hD3
  rintro H7 ⟨acc2, hacc7, pa7, fa7, S7⟩
  rw [P6.1, List.take_length] at pa7
  have S07 := S06.trans S7
  have la7 := pa7.1
  rw [List.length_append] at la7
  refine ⟨D3, acc2, wiT ts z ++ ts', rfl, hacc7, pa7, fun t ht => ?_, by omega, fun r zs H8 nr hr hz8 sub S8 => ?_⟩
  · exact (List.mem_append.mp ht).elim (fun h => ok.strT t (List.mem_filter.mp h).1) (ok'.strT t)
  have S08 := S07.trans S8
  have fz : ∀ t, V.ref t ∈ zs → H t = none := fun t ht => fa7 t (sub _ ht)
  have nr0 := S07.free nr
  have PZ : PrsAt H8 zs (duT ts z ts') := hz8
  refine ⟨_, rfl, p, _, 0, _, rfl, rfl, SqT.of (S08 _ _ hp), rfl, aP, rfl, ⟨_, SqL.of (S08 _ _ hP)⟩, fun D4 hD4 => ?_⟩
  have hP8 := S08 _ _ hP
  refine lc_list (xs := pl.map V.str) (fun i H' => H' D4 = some (.lst (((pl.take i).filter fun o => !decide (o = z)).map V.str)) ∧ Same H8 H') ⟨upd_same, new_same hD4⟩ (fun i H' _ ⟨_, S⟩ => SqL.of (S _ _ hP8)) ?_ ?_
  · rintro i xx H' hxx ⟨acc, S⟩
    rw [List.getElem?_map] at hxx
    cases ez : pl[i]? with
    | none => rw [ez] at hxx; cases hxx
    | some o =>
    rw [ez] at hxx
    cases hxx
    obtain ⟨f1, f2⟩ := fil_step (H := H') (D := D4) (fun o => !decide (o = z)) ez
    have lf := List.length_filter_le (fun o => !decide (o = z)) (pl.take i)
    rw [List.length_take] at lf
    have eo : decide (V.str o = V.str z) = decide (o = z) := decide_eq_decide.mpr ⟨fun q => by injection q, fun q => by rw [q]⟩
    refine ⟨rfl, _, rfl, _, rfl, rfl, _, rfl, ?_⟩
    rw [eo]
    refine ite2 (fun c => ?_) (fun c => ?_)
    · have c' : (!decide (o = z)) = true := c
      refine ⟨_, rfl, _, acc, ?_, ?_, Same.updN S hD4⟩
      · rw [List.length_map]
        omega
      · rw [upd_same, f1 c', List.map_append]
        rfl
    · have c' : ¬ (!decide (o = z)) = true := c
      rw [f2 c']
      exact ⟨acc, S⟩
  rintro H9 ⟨h94, S9⟩
  rw [List.length_map, List.take_length] at h94
  have S09 := S08.trans S9
  refine ⟨_, rfl, q, _, 0, _, rfl, rfl, SqT.of (S09 _ _ hq), rfl, bP, rfl, ⟨_, SqL.of (S09 _ _ gP)⟩, fun D5 hD5 => ?_⟩
  have gP9 := S09 _ _ gP
  refine lc_list (xs := pl'.map V.str) (fun i H' => H' D5 = some (.lst (((pl'.take i).filter fun o => !decide (o ∈ pl)).map V.str)) ∧ Same H9 H') ⟨upd_same, new_same hD5⟩ (fun i H' _ ⟨_, S⟩ => SqL.of (S _ _ gP9)) ?_ ?_
  · rintro i xx H' hxx ⟨acc, S⟩
    rw [List.getElem?_map] at hxx
    cases ez : pl'[i]? with
    | none => rw [ez] at hxx; cases hxx
    | some o =>
    rw [ez] at hxx
    cases hxx
    obtain ⟨f1, f2⟩ := fil_step (H := H') (D := D5) (fun o => !decide (o ∈ pl)) ez
    have lf := List.length_filter_le (fun o => !decide (o ∈ pl)) (pl'.take i)
    rw [List.length_take] at lf
    have S' := S09.trans S
    refine ⟨rfl, _, rfl, _, rfl, p, _, 0, _, rfl, rfl, SqT.of (S' _ _ hp), rfl, aP, _, rfl, .inl (SqL.of (S' _ _ hP)), rfl, flat_strs _, _, rfl, ?_⟩
    rw [show inV (.str o) (pl.map V.str) = decide (o ∈ pl) from inV_strs o _]
    refine ite2 (fun c => ?_) (fun c => ?_)
    · have c' : (!decide (o ∈ pl)) = true := c
      refine ⟨_, rfl, _, acc, ?_, ?_, Same.updN S hD5⟩
      · rw [List.length_map]
        omega
      · rw [upd_same, f1 c', List.map_append]
        rfl
    · have c' : ¬ (!decide (o ∈ pl)) = true := c
      rw [f2 c']
      exact ⟨acc, S⟩
  rintro H10 ⟨h105, S10⟩
  rw [List.length_map, List.take_length] at h105
  have S010 := S09.trans S10
  have fl1 := List.length_filter_le (fun o => !decide (o = z)) pl
  have fl2 := List.length_filter_le (fun o => !decide (o ∈ pl)) pl'
  refine ⟨D4, D5, _, _, rfl, rfl, S10 _ _ h94, h105, by rw [List.length_map, List.length_map]; omega, fun s11 o11 => ⟨_, rfl, _, rfl, p, _, 2, _, rfl, rfl, SqT.of (new_same o11 _ _ (S010 _ _ hp)), rfl, by show 3 ≤ sizeLine; decide, fun T nT => ?_⟩⟩
  rw [← List.map_append] at nT ⊢
  have W1 := new_same (o := .lst (((pl.filter fun o => !decide (o = z)) ++ pl'.filter fun o => !decide (o ∈ pl)).map V.str)) o11
  have W2 := W1.trans (new_same (o := .tup [.ref s11, .ref r, .ref aR]) nT)
  refine k T _ ⟨s11, r, aR, zs, upd_same, new_same nT _ _ upd_same, W2 _ _ (S10 _ _ (S9 _ _ hr)), PZ.mono fun t xs h => W2 _ _ (S10 _ _ (S9 _ _ h)), W2 _ _ (S010 _ _ hR), .inr ((S010.trans W1).free nT), .inr (S010.free o11), .inr nr0, .inl nR, fun t ht => .inr (fz t ht)⟩ (S010.trans W2)
end
end E1

set_option Elab.async false
set_option linter.all false
set_option maxRecDepth 100000
set_option maxHeartbeats 8000000
/-! A wheel, its hub taken by three places that are tied to pins side by side: no four pins are joined apart. -/
namespace E1
open PySem PySem.Spec PyProof.Rows L2 G0 Flow
abbrev hubS : Str := "hub"
def rN (m : Nat) : List Str := (List.range m).map rK
theorem rN_sub {a b : Nat} (h : a ≤ b) : (rN a).Sublist (rN b) := (range_sub h).map rK
theorem rN_nd6 : (rN 6).Nodup := by decide +kernel
theorem rN_nd {m : Nat} (h : m ≤ 6) : (rN m).Nodup := rN_nd6.sublist (rN_sub h)
theorem rN_len (m : Nat) : (rN m).length = m := by unfold rN; rw [List.length_map, List.length_range]
theorem rN_at {m i : Nat} (h : i < m) : (rN m)[i]? = some (rK i) := by
  unfold rN
  rw [List.getElem?_map, List.getElem?_range h]
  rfl
theorem rK_inj6 : ∀ i ∈ List.range 6, ∀ j ∈ List.range 6, rK i = rK j → i = j := by decide +kernel
theorem rK_inj {i j : Nat} (hi : i < 6) (hj : j < 6) (e : rK i = rK j) : i = j := rK_inj6 i (List.mem_range.mpr hi) j (List.mem_range.mpr hj) e
theorem inr_ne : ∀ x ∈ inN 3, x ∉ rN 6 := by decide +kernel
theorem hub_ne : ("hub" : Str) ∉ rN 6 ∧ ("hub" : Str) ∉ inN 3 := by decide +kernel
theorem tp_inr : ∀ x ∈ inN 3, ∀ y ∈ rN 6, tp x y = (x, y) ∧ ltS x y = true := by decide +kernel
theorem tp_hub : ∀ y ∈ rN 6, ltS "hub" y = true := by decide +kernel
theorem r01 : rK 0 ∈ rN 6 ∧ rK 1 ∈ rN 6 := by decide +kernel
theorem all_wh : ∀ x ∈ rN 6 ++ (inN 3 ++ ([hubS] : List Str)), x ∈ allN := by decide +kernel
/-- ties between three places and pins; but the first, all are tied to the first two pins at most -/
structure WT (m : Nat) (es : List Pr) : Prop where
  nd : es.Nodup
  fst : ∀ t ∈ es, t.1 ∈ inN 3
  snd : ∀ t ∈ es, t.2 ∈ rN m
  two : ∀ t ∈ es, t.1 ≠ iK 0 → t.2 = rK 0 ∨ t.2 = rK 1
/-- without the first, only the first two pins hang together -/
theorem wt_reach {m : Nat} {es : List Pr} {f : Str → List Str} (W : WT m es) (hm : m ≤ 6) (hf : ∀ x y, y ∈ f x → (x, y) ∈ es ∨ (y, x) ∈ es) {i : Nat} (hi : i < m) {y : Str} (r : Reach f [iK 0] (rK i) y) :
    y = rK i ∨ (i ≤ 1 ∧ (y = rK 0 ∨ y = rK 1 ∨ (y ∈ inN 3 ∧ y ≠ iK 0))) := by
  have sub : ∀ {z : Str}, z ∈ rN m → z ∈ rN 6 := fun h => (rN_sub hm).subset h
  have ri : ∀ {k : Nat}, k < 6 → rK k ∈ rN 6 := fun h => List.mem_of_getElem? (rN_at h)
  have i6 : i < 6 := by omega
  induction r with
  | refl => exact .inl rfl
  | @step x z _ hz hzn ih =>
    have zn : z ≠ iK 0 := fun e => hzn (List.mem_singleton.mpr e)
    rcases ih with e | ⟨i1, e⟩
    · subst e
      rcases hf _ _ hz with h | h
      · exact absurd (ri i6) (inr_ne _ (W.fst _ h))
      · have two := W.two _ h zn
        have i1 : i ≤ 1 := by
          rcases two with e | e
          · have := rK_inj i6 (by omega) e; omega
          · have := rK_inj i6 (by omega) e; omega
        exact .inr ⟨i1, .inr (.inr ⟨W.fst _ h, zn⟩)⟩
    · refine .inr ⟨i1, ?_⟩
      rcases e with e | e | ⟨e, en⟩
      · subst e
        rcases hf _ _ hz with h | h
        · exact absurd r01.1 (inr_ne _ (W.fst _ h))
        · exact .inr (.inr ⟨W.fst _ h, zn⟩)
      · subst e
        rcases hf _ _ hz with h | h
        · exact absurd r01.2 (inr_ne _ (W.fst _ h))
        · exact .inr (.inr ⟨W.fst _ h, zn⟩)
      · rcases hf _ _ hz with h | h
        · rcases W.two _ h en with q | q
          · exact .inl q
          · exact .inr (.inl q)
        · exact absurd (sub (W.snd _ h)) (inr_ne _ e)
theorem wt_apart {m : Nat} {es : List Pr} {f : Str → List Str} (W : WT m es) (hm : m ≤ 6) (hf : ∀ x y, y ∈ f x → (x, y) ∈ es ∨ (y, x) ∈ es) {i k : Nat} (hi : i + 2 ≤ k) (hk : k < m) : ¬ Reach f [iK 0] (rK i) (rK k) := fun r => by
  rcases wt_reach W hm hf (by omega) r with e | ⟨_, e | e | ⟨e, _⟩⟩
  · have := rK_inj (by omega) (by omega) e; omega
  · have := rK_inj (by omega) (by omega) e; omega
  · have := rK_inj (by omega) (by omega) e; omega
  · exact inr_ne _ e (List.mem_of_getElem? (rN_at (by omega)))
theorem reach_less {f : Str → List Str} {lot lot' : List Str} {s y : Str} (h : ∀ z, z ∈ lot' → z ∈ lot) (r : Reach f lot s y) : Reach f lot' s y := by
  induction r with
  | refl => exact .refl
  | step _ hy hn ih => exact .step ih hy fun m => hn (h _ m)
/-- no four pins of the wheel are joined apart -/
theorem wheel_no {m : Nat} {es : List Pr} {f : Str → List Str} (W : WT m es) (hm : m ≤ 6) (hf : ∀ x y, y ∈ f x → (x, y) ∈ es ∨ (y, x) ∈ es) (q : Quad) : ¬ QOk f (rN m) q := by
  obtain ⟨i, j, k, t⟩ := q
  rintro ⟨h1, h2, h3, a, b, c, d, ha, hb, hc, hd, row, x, r1, r2, r3, r4, r5⟩
  dsimp only at h1 h2 h3 ha hb hc hd
  have tm : t < m := by
    have := (List.getElem?_eq_some_iff.mp hd).1
    rwa [rN_len] at this
  rw [rN_at (by omega)] at ha hb hc hd
  cases ha
  cases hb
  cases hc
  cases hd
  by_cases hin : iK 0 ∈ row
  · refine wt_apart W hm hf (i := j) (k := t) (by omega) tm (reach_less (fun z hz => ?_) r5)
    rw [List.mem_singleton.mp hz]
    exact List.mem_append_left _ hin
  · have no : ∀ z ∈ row, z ∉ [iK 0] := fun z hz e => hin (by rw [← List.mem_singleton.mp e]; exact hz)
    have rx := reach_way r1 r3 r2 no (Reach.refl (f := f) (lot := [iK 0]) (s := rK i))
    have nb : rK k ∉ [iK 0] := fun e => inr_ne (iK 0) (by decide +kernel) (by rw [← List.mem_singleton.mp e]; exact List.mem_of_getElem? (rN_at (by omega)))
    exact wt_apart W hm hf (i := i) (k := k) (by omega) (by omega) (.step rx r4 nb)
/-! ### the wheel, and what takes its hub -/
def whP (m : Nat) : List Str := rN m ++ ([hubS] : List Str)
def whT (m : Nat) : List Pr := (rN m).map fun y => (("hub" : Str), y)
def whO (m : Nat) : List Str := rN m ++ inN 3
theorem wh_raw : ∀ m ∈ [4, 5, 6], (whP m).Nodup ∧ (whT m).Nodup ∧ (∀ t ∈ whT m, t.1 ∈ whP m ∧ t.2 ∈ whP m ∧ ltS t.1 t.2 = true) ∧ (whO m).Nodup ∧ nb (whT m) "hub" = rN m := by decide +kernel
theorem wheel_ok {m : Nat} (h4 : 4 ≤ m) (h6 : m ≤ 6) : RawOk (whP m) (whT m) (rN m) := by
  have mm : m ∈ [4, 5, 6] := by simp; omega
  obtain ⟨a, b, c, _, _⟩ := wh_raw m mm
  have l : (whP m).length ≤ 7 := by unfold whP; rw [List.length_append, rN_len]; show m + 1 ≤ 7; omega
  exact ⟨a, fun z hz => all_wh z ((List.mem_append.mp hz).elim (fun h => List.mem_append_left _ ((rN_sub h6).subset h)) fun h => List.mem_append_right _ (List.mem_append_right _ h)), by omega, ⟨b, c⟩, rN_nd h6, fun z hz => List.mem_append_left _ hz, (TsOk.mk b c).len (by omega)⟩
theorem whO_ok {m : Nat} {es : List Pr} {rm : List Str} (h4 : 4 ≤ m) (h6 : m ≤ 6) (W : WT m es) (p : rm.Perm (rN m)) : RawOk (whO m) es rm := by
  have mm : m ∈ [4, 5, 6] := by simp; omega
  obtain ⟨_, _, _, d, _⟩ := wh_raw m mm
  have l : (whO m).length ≤ 9 := by unfold whO; rw [List.length_append, rN_len]; show m + 3 ≤ 9; omega
  have t : TsOk (whO m) es := ⟨W.nd, fun t ht => ⟨List.mem_append_right _ (W.fst t ht), List.mem_append_left _ (W.snd t ht), (tp_inr _ (W.fst t ht) _ ((rN_sub h6).subset (W.snd t ht))).2⟩⟩
  exact ⟨d, fun z hz => all_wh z ((List.mem_append.mp hz).elim (fun h => List.mem_append_left _ ((rN_sub h6).subset h)) fun h => List.mem_append_right _ (List.mem_append_left _ h)), by omega, t, p.nodup_iff.mpr (rN_nd h6), fun z hz => List.mem_append_left _ (p.mem_iff.mp hz), t.len (by omega)⟩
theorem nb_perm {ts us : List Pr} (p : us.Perm ts) (x : Str) : (nb us x).Perm (nb ts x) := p.flatMap_right _
theorem nbS_sort (ts : List Pr) (z : Str) : nbS (sortPr ts) z = nbS ts z := sortS_of_perm (nb_perm (sortPr_perm ts) z)
/-- asked of boards as they are made, or of raw ones -/
theorem wOk_raw {pl : List Str} {ts : List Pr} {z : Str} {pl' rm' : List Str} : WOk (sortS pl) (sortPr ts) z (sortS pl') rm' ↔ DOk pl ts z pl' rm' := by
  have e : ((sortS pl').filter fun o => decide (o ∈ sortS pl)) = (sortS pl').filter fun o => decide (o ∈ pl) := List.filter_congr fun o _ => by rw [decide_eq_decide]; exact sortS_mem
  unfold WOk DOk
  rw [e]
  have n : sortS (nb (sortPr ts) z) = nbS ts z := nbS_sort ts z
  rw [n]
  exact And.comm
theorem wheel_du {m : Nat} {rm : List Str} (h4 : 4 ≤ m) (h6 : m ≤ 6) (p : rm.Perm (rN m)) : DOk (whP m) (whT m) "hub" (whO m) rm := by
  have mm : m ∈ [4, 5, 6] := by simp; omega
  obtain ⟨_, _, _, d, e⟩ := wh_raw m mm
  have n : nbS (whT m) "hub" = sortS (rN m) := by unfold nbS; rw [e]
  refine ⟨by rw [n]; exact sortS_of_perm p, ?_⟩
  rw [n]
  refine sortS_uniq ((List.perm_ext_iff_of_nodup (((sortS_perm _).nodup_iff.mpr d).sublist List.filter_sublist) (rN_nd h6)).mpr fun z => ?_) ((sortS_pw _).sublist List.filter_sublist)
  rw [List.mem_filter, decide_eq_true_iff, sortS_mem]
  constructor
  · rintro ⟨h, g⟩
    rcases List.mem_append.mp h with h | h
    · exact h
    · rcases List.mem_append.mp g with g | g
      · exact g
      · exact absurd h (List.mem_singleton.mp g ▸ hub_ne.2)
  · exact fun h => ⟨List.mem_append_left _ h, List.mem_append_left _ h⟩
end E1

set_option Elab.async false
set_option linter.all false
set_option maxRecDepth 100000
set_option maxHeartbeats 16000000
/-! _law_flat_right: a wheel, its hub taken. -/
namespace E1
open PySem PySem.Spec PyProof.Rows L2 G0 Flow
/-- as far as the i-th of the three -/
structure WTi (m i : Nat) (es : List Pr) : Prop where
  nd : es.Nodup
  fst : ∀ t ∈ es, t.1 ∈ inN i
  snd : ∀ t ∈ es, t.2 ∈ rN m
  two : ∀ t ∈ es, t.1 ≠ iK 0 → t.2 = rK 0 ∨ t.2 = rK 1
theorem iK_new : ∀ i ∈ List.range 3, iK i ∉ inN i := by decide +kernel
theorem WTi.next {m i : Nat} {es : List Pr} {ys : List Str} (W : WTi m i es) (hi : i < 3) (nd : ys.Nodup) (sub : ∀ y ∈ ys, y ∈ rN m) (two : i ≠ 0 → ∀ y ∈ ys, y = rK 0 ∨ y = rK 1) : WTi m (i + 1) (es ++ ys.map fun y => (iK i, y)) := by
  have e : inN (i + 1) = inN i ++ [iK i] := by unfold inN; rw [List.range_succ, List.map_append]; rfl
  refine ⟨List.nodup_append.mpr ⟨W.nd, nodup_map (fun x y _ _ h => by injection h) nd, fun t ht u hu q => ?_⟩, fun t ht => ?_, fun t ht => ?_, fun t ht n => ?_⟩
  · obtain ⟨y, _, rfl⟩ := List.mem_map.mp hu
    rw [q] at ht
    exact iK_new i (List.mem_range.mpr hi) (W.fst _ ht)
  · rw [e]
    rcases List.mem_append.mp ht with h | h
    · exact List.mem_append_left _ (W.fst t h)
    · obtain ⟨y, _, rfl⟩ := List.mem_map.mp h
      exact List.mem_append_right _ (List.mem_singleton.mpr rfl)
  · rcases List.mem_append.mp ht with h | h
    · exact W.snd t h
    · obtain ⟨y, hy, rfl⟩ := List.mem_map.mp h
      exact sub y hy
  · rcases List.mem_append.mp ht with h | h
    · exact W.two t h n
    · obtain ⟨y, hy, rfl⟩ := List.mem_map.mp h
      exact two (fun z => n (by rw [z])) y hy
theorem wheel_wiP {m : Nat} (h4 : 4 ≤ m) (h6 : m ≤ 6) : wiP (sortS (whP m)) "hub" (sortS (whO m)) = sortS (whO m) := by
  unfold wiP
  rw [List.filter_eq_nil_iff.mpr ?_, List.nil_append]
  intro z hz
  rw [sortS_mem] at hz
  rcases List.mem_append.mp hz with h | h
  · have : z ∈ (sortS (whO m)).filter fun o => decide (o ∈ sortS (whP m)) := List.mem_filter.mpr ⟨sortS_mem.mpr (List.mem_append_left _ h), decide_eq_true (sortS_mem.mpr hz)⟩
    simp [this]
  · have : z = "hub" := List.mem_singleton.mp h
    simp [this]
theorem wheel_wiT {m : Nat} : wiT (sortPr (whT m)) "hub" = [] := by
  unfold wiT
  refine List.filter_eq_nil_iff.mpr fun t ht => ?_
  have := (sortPr_perm _).mem_iff.mp ht
  obtain ⟨y, _, rfl⟩ := List.mem_map.mp this
  simp
theorem iteOr {c : Bool} {A B : Prop} (a : A) (b : B) : if c = true then A else B := by
  cases c with
  | true => exact a
  | false => exact b
theorem qat_dp {K : PySem.W.Frag} {H : Hp} : ∀ {xs : List V} {qs : List Quad}, QAt H xs qs → ∃ ds, DpAll K H xs ds ∧ PyData.canLayAll0 ds = true ∧ PyData.depthAll ds ≤ 8 ∧ ds.length = qs.length
  | [], [], _ => ⟨[], .nil, by simp [PyData.canLayAll0], by simp [PyData.depthAll], rfl⟩
  | [], _ :: _, h => by cases h.1
  | _ :: _, [], h => by cases h.1
  | v :: vs, z :: ws, h => by
    obtain ⟨ds, d1, d2, d3, d4⟩ := qat_dp (K := K) (xs := vs) (qs := ws) ⟨Nat.succ.inj h.1, fun i v z e1 e2 => h.2 (i + 1) v z e1 e2⟩
    obtain ⟨t, rfl, ht⟩ := h.2 0 v z rfl rfl
    refine ⟨.tuple [.int (z.1 : Int), .int (z.2.1 : Int), .int (z.2.2.1 : Int), .int (z.2.2.2 : Int)] :: ds, .cons (.tup (SqT.of ht) (.cons (.int _) (.cons (.int _) (.cons (.int _) (.cons (.int _) .nil))))) d1, by simp [PyData.canLayAll0, PyData.canLay0, d2], ?_, by rw [List.length_cons, d4, List.length_cons]⟩
    simp only [PyData.depthAll, PyData.depth]
    omega
/-- a list of quads, against no quads -/
theorem qat_list {K : PySem.W.Frag} {H : Hp} {r : Addr} {xs : List V} {qs : List Quad} (h : H r = some (.lst xs)) (q : QAt H xs qs) : ∃ d, Dp K H (.ref r) d ∧ SeqAt.shaped d = true ∧ PyData.eqv d (.list []) = decide (qs = []) := by
  obtain ⟨ds, d1, d2, d3, d4⟩ := qat_dp (K := K) q
  refine ⟨.list ds, .lst (SqL.of h) d1, ?_, ?_⟩
  · show ((PyData.list ds).canLay0 && decide ((PyData.list ds).depth ≤ 64)) = true
    rw [Bool.and_eq_true]
    refine ⟨by simp only [PyData.canLay0]; exact d2, decide_eq_true ?_⟩
    simp only [PyData.depth]
    omega
  · cases ds with
    | nil =>
      have : qs = [] := List.length_eq_zero_iff.mp d4.symm
      simp [PyData.eqv, PyData.eqvAll, this]
    | cons d ds =>
      have : qs ≠ [] := fun e => by rw [e] at d4; cases d4
      simp [PyData.eqv, PyData.eqvAll, this]
theorem nil_list {K : PySem.W.Frag} {H : Hp} {r : Addr} (h : H r = some (.lst [])) : Dp K H (.ref r) (.list []) ∧ SeqAt.shaped (.list []) = true := ⟨.lst (SqL.of h) .nil, by decide +kernel⟩
abbrev N_flatR : List Str := ["_law_stream", "_law_many", "_law_rim", "_law_k", "_law_raw", "_law_pin", "_law_names", "_law_places", "_law_ties", "_law_at", "_law_name", "_law_low", "_law_ring", "_law_other", "_law_a", "_law_b", "_law_made", "_law_near"]
theorem sc_flatR : FnScope N_flatR ["_law_stream"] (defScope (topS 64)) := ⟨rfl, rfl, rfl, by decide +kernel, rfl, by decide +kernel, by decide +kernel⟩
def spFlatR : Sp := fun vs H Q _ => ∃ (p l : Addr) (n : Nat), vs = [.ref p] ∧ Stm H p l n ∧ n < 40000000 ∧ ∀ H', Q (.bl true) H'
@[irreducible] def spWI {K : PySem.W.Frag} {mg : Str → Option Value} (M : MetD K mg) (CB : Addr) : Sp := spWithin M CB
theorem spWI_eq {K : PySem.W.Frag} {mg : Str → Option Value} (M : MetD K mg) (CB : Addr) : spWI M CB = spWithin M CB := by unfold spWI; rfl
section
variable {P : Program} {w : World} {K : PySem.W.Frag} {mg : Str → Option Value} {base : Heap}
theorem bFlatR (Z : LawD K mg) : Binds K (Z.d 64) ["_law_stream"] [] := (Z.F 64 (by decide)).binds fun _ _ _ _ _ _ us hl => match us, hl with | [_], _ => rfl
theorem ok_flatR (Z : LawD K mg) {M : MetD K mg} (D : PrD K mg M) : FnOk P w K mg base CX0 9 (Z.f 64) (Z.d 64) ["_law_stream"] spFlatR := by
  have GD : FnOk P w K mg base CX0 1 Z.s.fD Z.s.dD ["_law_stream", "_law_many"] spDr := ok_dr Z.s
  have GT : FnOk P w K mg base CX0 1 (Z.f 34) (Z.d 34) N_a_tie spTie := ok_a_tie Z
  have GNR : FnOk P w K mg base CX0 1 (Z.f 35) (Z.d 35) ["_law_raw"] spANear := ok_a_near Z
  have GTU : FnOk P w K mg base CX0 2 (Z.f 50) (Z.d 50) ["_law_stream", "_law_rim"] spTurn := ok_turn Z
  have GW : FnOk P w K mg base (L2.CX P w) 6 (Z.f 43) (Z.d 43) ["_law_stream", "_law_raw"] (spMade Z.B.C) := ok_a_made Z
  have GWI : FnOk P w K mg base (L2.CX P w) 7 (Z.f 31) (Z.d 31) ["board", "place", "other"] (spWI M Z.B.C) := by rw [spWI_eq]; exact ok_within Z D
  have GC4 : FnOk P w K mg base CX0 4 (Z.f 48) (Z.d 48) ["_law_near", "_law_rim"] spTwos := ok_twos Z
  have GB2 : FnOk P w K mg base CX0 1 (Z.B.f 2) (Z.B.d 2) ["self"] (spPlaces Z.B.C) := ok_places Z.B Z.t
  have GB3 : FnOk P w K mg base CX0 1 (Z.B.f 3) (Z.B.d 3) ["self"] (spTies Z.B.C) := ok_ties Z.B Z.t
  have GB4 : FnOk P w K mg base CX0 1 (Z.B.f 4) (Z.B.d 4) ["self"] (spRim Z.B.C) := ok_rim Z.B Z.t
  refine Fun.ok (Z.F 64 (by decide)) sc_flatR (fun vs H Q E h => ?_) (fun cdv A outer s H vs Q E hr h => ?_)
  · obtain ⟨p, l, n, rfl, _⟩ := h
    rfl
  have hu := hr.units
  refine ⟨_, PSs.nox (pss_cons (ps_set (i := 1) sc_flatR.nd rfl (Or.inl rfl) (pe_op op_add pe_int (pe_call GD (hr.mono (by decide)) (by rfl) Z.s.gD Z.s.FD.kp (bDr Z.s) .nil pass0 (pa_cons (pv 0) (pa_cons pe_int pa_nil)))))
  (pss_cons (ps_setLc (i := 2) (own := [("_law_k", 3)]) (tt := tYes) (te := tOp rCatW (tC (.str "r")) (tCB rStrI (tCons (tVar 3) tNil))) rfl sc_flatR.nd rfl rfl (by rfl) (pi_range1 (by rfl) (Z.free "range" (by decide)) (pa_cons (pv 1) pa_nil)) (blkOk_by (own := [("_law_k", 3)]) (N := N_flatR) (sc := defScope (topS 64)) (by decide +kernel)) (fun _ _ _ _ _ => (pg_name (i := 3) sc_flatR.nd rfl (Or.inl rfl))) (fun _ _ _ _ _ => pts_nil) (fun _ _ _ _ _ => by exact (pe_op op_add_str pe_str (pe_callTy call_str_int (by rfl) Z.t.str boot_str (pa_cons (pv 3) pa_nil)))))
  (pss_cons (ps_set (i := 4) sc_flatR.nd rfl (Or.inl rfl) (pe_tup (pa_cons (pe_op op_cat (pv 2) (pe_lst (pa_cons pe_str pa_nil))) (pa_cons (pe_lc (own := [("_law_pin", 5)]) (tt := tYes) (te := tTup (tCons (tC (.str "hub")) (tCons (tVar 5) tNil))) rfl sc_flatR.nd (pi_list (pv 2)) (blkOk_by (own := [("_law_pin", 5)]) (N := N_flatR) (sc := defScope (topS 64)) (by decide +kernel)) (fun _ _ _ _ _ => (pg_name (i := 5) sc_flatR.nd rfl (Or.inl rfl))) (fun _ _ _ _ _ => pts_nil) (fun _ _ _ _ _ => by exact (pe_tup (pa_cons pe_str (pa_cons (pv 5) pa_nil))))) (pa_cons (pv 2) pa_nil)))))
  (pss_cons (ps_par3 (i := 6) (j := 7) (l := 8) rfl sc_flatR.nd rfl rfl rfl (by decide) (by decide) (by decide) rfl rfl rfl (pa_cons (pe_lc (own := [("_law_k", 3)]) (tt := tYes) (te := tOp rCatW (tC (.str "in")) (tCB rStrI (tCons (tVar 3) tNil))) rfl sc_flatR.nd (pi_range1 (by rfl) (Z.free "range" (by decide)) (pa_cons pe_int pa_nil)) (blkOk_by (own := [("_law_k", 3)]) (N := N_flatR) (sc := defScope (topS 64)) (by decide +kernel)) (fun _ _ _ _ _ => (pg_name (i := 3) sc_flatR.nd rfl (Or.inl rfl))) (fun _ _ _ _ _ => pts_nil) (fun _ _ _ _ _ => by exact (pe_op op_add_str pe_str (pe_callTy call_str_int (by rfl) Z.t.str boot_str (pa_cons (pv 3) pa_nil))))) (pa_cons (pe_callTy call_list_of (by rfl) Z.t.list PyProof.Rows.boot_list (pa_cons (pv 2) pa_nil)) (pa_cons (pe_lst pa_nil) pa_nil))) rfl)
  (pss_cons (ps_for PassesOwn.never rfl (pi_enumQ (by rfl) Z.t.enumerate (pa_cons (pv 6) pa_nil)) (pg_tup rfl (pgs_cons (pg_name (i := 9) sc_flatR.nd rfl (Or.inl rfl)) (pgs_cons (pg_name (i := 10) sc_flatR.nd rfl (Or.inr rfl)) pgs_nil)))
    (pss_cons (ps_set (i := 11) sc_flatR.nd rfl (Or.inl rfl) (pe_call GD (hr.mono (by decide)) (by rfl) Z.s.gD Z.s.FD.kp (bDr Z.s) .nil pass0 (pa_cons (pv 0) (pa_cons (pe_op op_sub (pv 1) pe_int) pa_nil))))
  (pss_cons (ps_expr (pe_bm PySem.F.plainAttrs_list PySem.F.slot_list_extend PySem.F.type_list_extend mt_extend (pv 8) (pa_cons (pe_ifExp (pt_cmpR op_lt (pv 9) pe_int (nomark _)) (pe_lc (own := [("_law_pin", 5)]) (tt := tYes) (te := tTup (tCons (tVar 10) (tCons (tVar 5) tNil))) rfl sc_flatR.nd (pi_list (pe_slice sl_list (pv 2) (po_some (pv 11)) (po_some (pe_op op_add (pe_op op_add (pv 11) pe_int) (pe_call GD (hr.mono (by decide)) (by rfl) Z.s.gD Z.s.FD.kp (bDr Z.s) .nil pass0 (pa_cons (pv 0) (pa_cons pe_int pa_nil))))))) (blkOk_by (own := [("_law_pin", 5)]) (N := N_flatR) (sc := defScope (topS 64)) (by decide +kernel)) (fun _ _ _ _ _ => (pg_name (i := 5) sc_flatR.nd rfl (Or.inl rfl))) (fun _ _ _ _ _ => pts_nil) (fun _ _ _ _ _ => by exact (pe_tup (pa_cons (pv 10) (pa_cons (pv 5) pa_nil))))) (pe_lst pa_nil)) pa_nil)))
  (pss_one (ps_expr (pe_bm PySem.F.plainAttrs_list PySem.F.slot_list_extend PySem.F.type_list_extend mt_extend (pv 8) (pa_cons (pe_ifExp (pt_cmpR op_gt (pv 9) pe_int (nomark _)) (pe_lc (own := [("_law_pin", 5)]) (tt := tYes) (te := tTup (tCons (tVar 10) (tCons (tVar 5) tNil))) rfl sc_flatR.nd (pi_list (pe_slice sl_list (pv 2) po_none (po_some pe_int))) (blkOk_by (own := [("_law_pin", 5)]) (N := N_flatR) (sc := defScope (topS 64)) (by decide +kernel)) (fun _ _ _ _ _ => (pg_name (i := 5) sc_flatR.nd rfl (Or.inl rfl))) (fun _ _ _ _ _ => pts_nil) (fun _ _ _ _ _ => by exact (pe_tup (pa_cons (pv 10) (pa_cons (pv 5) pa_nil))))) (pe_lst pa_nil)) pa_nil)))))))
  (pss_cons (ps_set (i := 12) sc_flatR.nd rfl (Or.inl rfl) (pe_call GTU (hr.mono (by decide)) (by rfl) (Z.g 50 (by decide)) (Z.F 50 (by decide)).kp (bTurn Z) .nil pass0 (pa_cons (pv 0) (pa_cons (pv 2) pa_nil))))
  (pss_cons (ps_set (i := 13) sc_flatR.nd rfl (Or.inl rfl) (pe_tup (pa_cons (pe_op op_cat (pv 7) (pv 6)) (pa_cons (pe_lc (own := [("_law_a", 14), ("_law_b", 15)]) (g := gTup K 2 (gCons (gName 14) (gCons (gName 15) gNil))) (tt := tYes) (te := tCall spTie [] L2.E0 (tCons (tVar 14) (tCons (tVar 15) tNil))) rfl sc_flatR.nd (pi_list (pv 8)) (blkOk_by (own := [("_law_a", 14), ("_law_b", 15)]) (N := N_flatR) (sc := defScope (topS 64)) (by decide +kernel)) (fun _ _ _ _ _ => by exact (pg_tup rfl (pgs_cons (pg_name (i := 14) sc_flatR.nd rfl (Or.inl rfl)) (pgs_cons (pg_name (i := 15) sc_flatR.nd rfl (Or.inl rfl)) pgs_nil)))) (fun _ _ _ _ _ => pts_nil) (fun _ _ _ _ _ => (pe_call GT (hr.mono (by decide)) (by rfl) (Z.g 34 (by decide)) (Z.F 34 (by decide)).kp (bTie Z) .nil pass0 (pa_cons (pv 14) (pa_cons (pv 15) pa_nil))))) (pa_cons (pe_ifExp (pt_cmpR op_eq (pe_call GD (hr.mono (by decide)) (by rfl) Z.s.gD Z.s.FD.kp (bDr Z.s) .nil pass0 (pa_cons (pv 0) (pa_cons pe_int pa_nil))) pe_int (nomark _)) (pe_revL (pv 12)) (pv 12)) pa_nil)))))
  (pss_cons (ps_set (i := 16) sc_flatR.nd rfl (Or.inl rfl) (pe_call GWI (hr.mono (by decide)) (by rfl) (Z.g 31 (by decide)) (Z.F 31 (by decide)).kp (bWithin Z) .nil passL (pa_cons (pe_call GW (hr.mono (by decide)) (by rfl) (Z.g 43 (by decide)) (Z.F 43 (by decide)).kp (bMade Z) .nil passL (pa_cons (pv 0) (pa_cons (pv 4) pa_nil))) (pa_cons pe_str (pa_cons (pe_call GW (hr.mono (by decide)) (by rfl) (Z.g 43 (by decide)) (Z.F 43 (by decide)).kp (bMade Z) .nil passL (pa_cons (pv 0) (pa_cons (pv 13) pa_nil))) pa_nil)))))
  (pss_cons (ps_set (i := 17) sc_flatR.nd rfl (Or.inl rfl) (pe_call GNR (hr.mono (by decide)) (by rfl) (Z.g 35 (by decide)) (Z.F 35 (by decide)).kp (bANear Z) .nil pass0 (pa_cons (pe_tup (pa_cons (pe_meth0 (pv 16) Z.B.O.cl Z.B.M2 GB2 (hr.mono (by decide)) (b_m2 Z.B) .nil pass0) (pa_cons (pe_meth0 (pv 16) Z.B.O.cl Z.B.M3 GB3 (hr.mono (by decide)) (b_m3 Z.B) .nil pass0) (pa_cons (pe_meth0 (pv 16) Z.B.O.cl Z.B.M4 GB4 (hr.mono (by decide)) (b_m4 Z.B) .nil pass0) pa_nil)))) pa_nil)))
  (pss_one (ps_ret (pe_or (pe_cmpR (op_neD hu) (pe_call GC4 (hr.mono (by decide)) (by rfl) (Z.g 48 (by decide)) (Z.F 48 (by decide)).kp (bTwos Z) .nil pass0 (pa_cons (pe_call GNR (hr.mono (by decide)) (by rfl) (Z.g 35 (by decide)) (Z.F 35 (by decide)).kp (bANear Z) .nil pass0 (pa_cons (pv 13) pa_nil)) (pa_cons (pe_ix ix_tup (pv 13) pe_int (fun _ _ => rfl)) pa_nil))) (pe_lst pa_nil) (nomark _)) (pe_one (pe_cmpR (op_eqD hu) (pe_call GC4 (hr.mono (by decide)) (by rfl) (Z.g 48 (by decide)) (Z.F 48 (by decide)).kp (bTwos Z) .nil pass0 (pa_cons (pv 17) (pa_cons (pv 2) pa_nil))) (pe_lst pa_nil) (nomark _))))))))))))))), ?_⟩
  obtain ⟨p, l, n, rfl, S, hn, k⟩ := h
  have sz : 5000 < sizeLine := by decide
  have one : 1 ≤ sizeLine := by decide
  have two : 2 ≤ sizeLine := by decide
  have three : 3 ≤ sizeLine := by decide
  refine ⟨_, rfl, p, l, n, 3, rfl, S, by omega, by decide, by decide, fun r0 H1 h0 F1 => ⟨_, _, rfl, rfl, ?_⟩⟩
  obtain ⟨m, em⟩ : ∃ k, k = 4 + r0 := ⟨_, rfl⟩
  have im : 4 + (r0 : Int) = (m : Int) := by omega
  simp only [im]
  have m4 : 4 ≤ m := by omega
  have m6 : m ≤ 6 := by omega
  refine ⟨_, rfl, _, rfl, by omega, by omega, fun aR naR => ?_⟩
  rw [show ((m : Int)).toNat = m from by omega]
  refine lc_range (n := m) (fun i H' => H' aR = some (.lst (((List.range i).map rK).map V.str)) ∧ Same H1 H') ⟨upd_same, new_same naR⟩ ?_ ?_
  · rintro i H' hi ⟨hq, S6⟩
    obtain ⟨a1, a2, a3⟩ := of_decide_eq_true (List.all_eq_true.mp iK_len i (List.mem_range.mpr (by omega)))
    rw [Int.zero_add]
    refine ⟨rfl, yes_of ⟨_, rfl, i, rfl, a1, _, _, rfl, rfl, a3, _, hq, ?_, ?_, Same.updN S6 naR⟩⟩
    · rw [List.length_map, List.length_map, List.length_range]
      omega
    · rw [upd_same, List.range_succ, List.map_append, List.map_append]
      rfl
  rintro H2 ⟨hR2, S2⟩
  have hR2 : H2 aR = some (.lst ((rN m).map V.str)) := hR2
  have F2 := F1.same S2
  have naRH := F1.free naR
  have lrm := rN_len m
  -- the wheel
  refine ⟨_, rfl, one, fun e1 n1 => ⟨aR, e1, _, _, rfl, rfl, new_same n1 _ _ hR2, upd_same, by rw [List.length_map]; show _ + 1 ≤ _; omega, fun aP naP => ?_⟩⟩
  have S23 := (new_same (o := .lst [V.str hubS]) n1).trans (new_same (o := .lst ((rN m).map V.str ++ [V.str hubS])) naP)
  have hP3 : (upd (upd H2 e1 (.lst [V.str hubS])) aP (.lst ((rN m).map V.str ++ [V.str hubS]))) aP = some (.lst ((whP m).map V.str)) := by rw [upd_same]; unfold whP; rw [List.map_append]; rfl
  have hR3 := S23 _ _ hR2
  have naPH : H aP = none := F2.free ((new_same (o := .lst [V.str hubS]) n1).free naP)
  have F3 := F2.same S23
  generalize upd (upd H2 e1 (.lst [V.str hubS])) aP (.lst ((rN m).map V.str ++ [V.str hubS])) = H3 at S23 hP3 hR3 F3 ⊢
  refine ⟨_, rfl, aR, rfl, ⟨_, SqL.of hR3⟩, fun D nD => lc_list (xs := (rN m).map V.str) (fun i H' => ∃ acc, H' D = some (.lst acc) ∧ PrsAt H' acc (((rN m).take i).map fun y => (hubS, y)) ∧ (∀ t, V.ref t ∈ acc → H t = none) ∧ Same H3 H') ⟨[], upd_same, PrsAt.nil, (fun t ht => by cases ht), new_same nD⟩ (fun i H' _ ⟨_, _, _, _, S⟩ => SqL.of (S _ _ hR3)) ?_ ?_⟩
  · rintro i v H' hv ⟨acc, hacc, pa, fa, S⟩
    rw [List.getElem?_map] at hv
    cases ey : (rN m)[i]? with
    | none => rw [ey] at hv; cases hv
    | some y =>
    rw [ey] at hv
    cases hv
    have il := (List.getElem?_eq_some_iff.mp ey).1
    refine ⟨rfl, yes_of ⟨_, rfl, two, fun t nt => ⟨acc, new_same nt _ _ hacc, by rw [pa.1, List.length_map, List.length_take]; omega, acc ++ [.ref t], upd_same, ?_, ?_, Same.updN (S.trans (new_same nt)) nD⟩⟩⟩
    · rw [take_snoc ey, List.map_append]
      have St : Same H' (upd H' t (.tup [V.str hubS, .str y])) := new_same nt
      refine prs_upd (prs_snoc (pa.mono fun t xs h => St _ _ h) upd_same) (fun xs e => ?_)
      have e : (upd H' t (.tup [V.str hubS, .str y])) D = some (.tup xs) := e
      rw [St _ _ hacc] at e
      cases e
    · intro c hc
      rcases List.mem_append.mp hc with h | h
      · exact fa c h
      · cases List.mem_singleton.mp h
        exact F3.free (S.free nt)
  rintro H4 ⟨tvW, hTW, paW, faW, S34⟩
  rw [List.length_map, List.take_length] at paW
  have paW : PrsAt H4 tvW (whT m) := paW
  have F4 := F3.same S34
  have nDH := F3.free nD
  refine ⟨_, rfl, three, fun rw_ nrw => ?_⟩
  have S45 := new_same (o := .tup [V.ref aP, .ref D, .ref aR]) nrw
  have hrw5 := upd_same (H := H4) (a := rw_) (o := .tup [V.ref aP, .ref D, .ref aR])
  have nrwH := F4.free nrw
  have F5 := F4.same S45
  have hR5 := S45 _ _ (S34 _ _ hR3)
  have nn : ∀ {c : Addr}, H c = none → c ≠ p ∧ c ≠ l := fun h => F1.ne h
  have RW5 : RawAt (fun c => c ≠ p ∧ c ≠ l) (upd H4 rw_ (.tup [V.ref aP, .ref D, .ref aR])) rw_ (whP m) (whT m) (rN m) := ⟨aP, D, aR, tvW, hrw5, S45 _ _ (S34 _ _ hP3), S45 _ _ hTW, paW.mono fun t xs h => S45 _ _ h, hR5, nn nrwH, nn naPH, nn nDH, nn naRH, fun t ht => nn (faW t ht)⟩
  generalize upd H4 rw_ (.tup [V.ref aP, .ref D, .ref aR]) = H5 at *
  -- the three names, a copy of the rim, no ties
  refine ⟨_, rfl, by decide, by decide, fun nm nnm => ?_⟩
  refine lc_range (n := 3) (fun i H' => H' nm = some (.lst (((List.range i).map iK).map V.str)) ∧ Same H5 H') ⟨upd_same, new_same nnm⟩ ?_ ?_
  · rintro i H' hi ⟨hq, S6⟩
    obtain ⟨a1, a2, a3⟩ := of_decide_eq_true (List.all_eq_true.mp iK_len i (List.mem_range.mpr (by omega)))
    rw [Int.zero_add]
    refine ⟨rfl, yes_of ⟨_, rfl, i, rfl, a1, _, _, rfl, rfl, a2, _, hq, ?_, ?_, Same.updN S6 nnm⟩⟩
    · rw [List.length_map, List.length_map, List.length_range]
      omega
    · rw [upd_same, List.range_succ, List.map_append, List.map_append]
      rfl
  rintro H6 ⟨hnm6, S56⟩
  have hnm6 : H6 nm = some (.lst ((inN 3).map V.str)) := hnm6
  have F6 := F5.same S56
  have nnmH := F5.free nnm
  refine ⟨_, rfl, aR, _, rfl, .inl (SqL.of (S56 _ _ hR5)), fun pc npc => ⟨Nat.zero_le _, fun tl ntl => ⟨_, _, _, rfl, ?_⟩⟩⟩
  have S67 := (new_same (o := .lst ((rN m).map V.str)) npc).trans (new_same (o := .lst []) ntl)
  have hpc7 := new_same (o := .lst []) ntl _ _ (upd_same (H := H6) (a := pc) (o := .lst ((rN m).map V.str)))
  have htl7 := upd_same (H := upd H6 pc (.lst ((rN m).map V.str))) (a := tl) (o := .lst [])
  have npcH := F6.free npc
  have ntlH := F6.free ((new_same (o := .lst ((rN m).map V.str)) npc).free ntl)
  have F7 := F6.same S67
  have hnm7 := S67 _ _ hnm6
  have hR7 := S67 _ _ (S56 _ _ hR5)
  have nmtl : nm ≠ tl := ne_of_none (new_same (o := .lst ((rN m).map V.str)) npc _ _ hnm6) ntl
  have pctl : pc ≠ tl := ne_of_none upd_same ntl
  have aRtl : aR ≠ tl := ne_of_none (new_same (o := .lst ((rN m).map V.str)) npc _ _ (S56 _ _ hR5)) ntl
  have RW7 : RawAt (fun c => c ≠ p ∧ c ≠ l ∧ c ≠ tl) (upd (upd H6 pc (.lst ((rN m).map V.str))) tl (.lst [])) rw_ (whP m) (whT m) (rN m) := by
    obtain ⟨b1, b2, b3, tv, h1, h2, h3, h4, h5, q1, q2, q3, q4, q5⟩ := RW5
    have hmm : ∀ {c : Addr} {o : HO}, H5 c = some o → c ≠ tl := fun h => ne_of_none (new_same (o := .lst ((rN m).map V.str)) npc _ _ (S56 _ _ h)) ntl
    refine ⟨b1, b2, b3, tv, S67 _ _ (S56 _ _ h1), S67 _ _ (S56 _ _ h2), S67 _ _ (S56 _ _ h3), h4.mono fun t xs h => S67 _ _ (S56 _ _ h), S67 _ _ (S56 _ _ h5), ⟨q1.1, q1.2, hmm h1⟩, ⟨q2.1, q2.2, hmm h2⟩, ⟨q3.1, q3.2, hmm h3⟩, ⟨q4.1, q4.2, hmm h5⟩, fun t ht => ?_⟩
    obtain ⟨i, hi⟩ := List.getElem?_of_mem ht
    have il : i < (whT m).length := by rw [← h4.1]; exact (List.getElem?_eq_some_iff.mp hi).1
    obtain ⟨t', e, ht'⟩ := h4.2 i _ _ hi (List.getElem?_eq_getElem il)
    cases e
    exact ⟨(q5 t ht).1, (q5 t ht).2, hmm ht'⟩
  generalize upd (upd H6 pc (.lst ((rN m).map V.str))) tl (.lst []) = H7 at *
  clear RW5 paW hTW hP3 hrw5
  have lin3 : (inN 3).length = 3 := by decide +kernel
  refine ⟨_, rfl, nm, (inN 3).map V.str, rfl, for_enQ (.inl (SqL.of hnm7)) (fun i σ H' => ∃ v3 v5 v9 v10 v11 tv es, σ = [some (.ref p), some (.int (m : Int)), some (.ref aR), v3, some (.ref rw_), v5, some (.ref nm), some (.ref pc), some (.ref tl), v9, v10, v11, none, none, none, none, none, none] ∧ H' tl = some (.lst tv) ∧ PrsAt H' tv es ∧ (∀ t, V.ref t ∈ tv → H t = none) ∧ WTi m i es ∧ tv.length ≤ 3 * i ∧ Fr H p l (n + 1 + 2 * i) H' ∧ ∀ c o, H7 c = some o → c ≠ p → c ≠ l → c ≠ tl → H' c = some o)
    ⟨none, none, none, none, none, [], [], rfl, htl7, PrsAt.nil, (fun t ht => by cases ht), ⟨List.nodup_nil, by simp, by simp, by simp⟩, Nat.le_refl _, F7, fun c o h _ _ _ => h⟩ ?_ ?_ ?_⟩
  · rintro i σ H' hi ⟨v3, v5, v9, v10, v11, tv, es, rfl, _, _, _, _, _, _, B⟩
    exact lt_at hnm7 (B _ _ hnm7 (nn nnmH).1 (nn nnmH).2 nmtl)
  · rintro i x σ H' T hx ⟨v3, v5, v9, v10, v11, tv, es, rfl, htl, pt, fr, W, ltv, F', B⟩ nT
    rw [List.getElem?_map] at hx
    cases ez : (inN 3)[i]? with
    | none => rw [ez] at hx; cases hx
    | some z =>
    rw [ez] at hx
    cases hx
    have i3 : i < 3 := by rw [← lin3]; exact (List.getElem?_eq_some_iff.mp ez).1
    have ezi : z = iK i := by
      unfold inN at ez
      rw [List.getElem?_map, List.getElem?_range i3] at ez
      exact (Option.some.inj ez).symm
    subst ezi
    refine ⟨T, _, rfl, SqT.of upd_same, rfl, _, _, rfl, _, _, rfl, rfl, ?_⟩
    have ST : Same H' (upd H' T (.tup [.int (i : Nat), .str (iK i)])) := new_same nT
    have F8 := F'.same ST
    have htl8 := ST _ _ htl
    have pt8 := pt.mono fun t xs h => ST _ _ h
    have B8 : ∀ c o, H7 c = some o → c ≠ p → c ≠ l → c ≠ tl → (upd H' T (.tup [.int (i : Nat), .str (iK i)])) c = some o := fun c o h a b d => ST _ _ (B c o h a b d)
    generalize upd H' T (.tup [.int (i : Nat), .str (iK i)]) = H8 at F8 htl8 pt8 B8 ⊢
    refine ⟨_, rfl, _, rfl, _, _, rfl, rfl, p, l, _, m - 2, congrArg (fun z => [V.ref p, V.int z]) (by omega), F8.st, by omega, by omega, by omega, fun low H9 hlow F89 => ?_⟩
    have F9 := F8.trans F89
    have htl9 := F8.keep F89 ntlH htl8
    have pt9 := prs_keep F8 F89 pt8 fr
    have B9 : ∀ c o, H7 c = some o → c ≠ p → c ≠ l → c ≠ tl → H9 c = some o := fun c o h a b d => F89.but _ _ (B8 c o h a b d) a b
    have hR9 := B9 _ _ hR7 (nn naRH).1 (nn naRH).2 aRtl
    by_cases hi0 : i = 0
    · have c0 : decide ((i : Int) < 1) = true := decide_eq_true (by omega)
      have c1 : decide ((i : Int) > 0) = false := decide_eq_false (by omega)
      refine ⟨_, rfl, .inl ⟨rfl, _, SqL.of htl9⟩, _, rfl, _, _, rfl, rfl, _, rfl, iteT' c0 ⟨_, rfl, _, rfl, _, rfl, _, rfl, _, _, rfl, rfl, _, rfl, p, l, _, 2, rfl, F9.st, by omega, by decide, by decide, fun dr HA hdr FA => ⟨_, _, rfl, rfl, _, rfl, aR, _, rfl, SqL.of (F9.keep FA naRH hR9), fun s ns => ?_⟩⟩⟩
      have F10 := F9.trans FA
      have htlA := F9.keep FA ntlH htl9
      have ptA := prs_keep F9 FA pt9 fr
      rw [show ((low : Int) + 2 + (dr : Int)) = ((low + 2 + dr : Nat) : Int) from by omega, cut_mid, List.length_map, lrm, show min (low + 2 + dr) m - low = low + 2 + dr - low from by omega, ← List.map_drop, ← List.map_take]
      have Ss := new_same (o := .lst ((((rN m).drop low).take (low + 2 + dr - low)).map V.str)) ns
      have hs := upd_same (H := HA) (a := s) (o := .lst ((((rN m).drop low).take (low + 2 + dr - low)).map V.str))
      have FB := F10.same Ss
      have htlB := Ss _ _ htlA
      have ptB := ptA.mono fun t xs h => Ss _ _ h
      have BB : ∀ c o, H7 c = some o → c ≠ p → c ≠ l → c ≠ tl → (upd HA s (.lst ((((rN m).drop low).take (low + 2 + dr - low)).map V.str))) c = some o := fun c o h a b d => Ss _ _ (FA.but _ _ (B9 c o h a b d) a b)
      have lys : (((rN m).drop low).take (low + 2 + dr - low)).length ≤ 3 := by rw [List.length_take]; omega
      have ysub : ∀ y ∈ ((rN m).drop low).take (low + 2 + dr - low), y ∈ rN m := fun y hy => List.mem_of_mem_drop (List.mem_of_mem_take hy)
      have ynd : (((rN m).drop low).take (low + 2 + dr - low)).Nodup := ((rN_nd m6).sublist (List.drop_sublist _ _)).sublist (List.take_sublist _ _)
      generalize ((rN m).drop low).take (low + 2 + dr - low) = ys at *
      generalize upd HA s (.lst (ys.map V.str)) = HB at *
      refine ⟨s, rfl, ⟨_, SqL.of hs⟩, fun D nD => lc_list (xs := ys.map V.str) (fun j H2 => ∃ acc, H2 D = some (.lst acc) ∧ PrsAt H2 acc ((ys.take j).map fun y => (iK i, y)) ∧ (∀ t, V.ref t ∈ acc → H t = none) ∧ Same HB H2) ⟨[], upd_same, PrsAt.nil, (fun t ht => by cases ht), new_same nD⟩ (fun j H2 _ ⟨_, _, _, _, S⟩ => SqL.of (S _ _ hs)) ?_ ?_⟩
      · rintro j v H2 hv ⟨acc, hacc, pa, fa, S⟩
        rw [List.getElem?_map] at hv
        cases ey : ys[j]? with
        | none => rw [ey] at hv; cases hv
        | some y =>
        rw [ey] at hv
        cases hv
        have jl := (List.getElem?_eq_some_iff.mp ey).1
        refine ⟨rfl, yes_of ⟨_, rfl, _, rfl, two, fun t nt => ⟨acc, new_same nt _ _ hacc, by rw [pa.1, List.length_map, List.length_take]; omega, acc ++ [.ref t], upd_same, ?_, ?_, Same.updN (S.trans (new_same nt)) nD⟩⟩⟩
        · rw [take_snoc ey, List.map_append]
          have St : Same H2 (upd H2 t (.tup [V.str (iK i), .str y])) := new_same nt
          refine prs_upd (prs_snoc (pa.mono fun t xs h => St _ _ h) upd_same) (fun xs e => ?_)
          have e : (upd H2 t (.tup [V.str (iK i), .str y])) D = some (.tup xs) := e
          rw [St _ _ hacc] at e
          cases e
        · intro c hc
          rcases List.mem_append.mp hc with h | h
          · exact fa c h
          · cases List.mem_singleton.mp h
            exact FB.free (S.free nt)
      rintro HC ⟨acc, hacc, pa, fa, SC⟩
      rw [List.length_map, List.take_length] at pa
      have htlC := SC _ _ htlB
      have FC := FB.same SC
      have lacc := pa.1
      rw [List.length_map] at lacc
      have W1 := W.next i3 ynd ysub (fun h => absurd hi0 h)
      have pC := prs_app (ptB.mono fun t xs h => SC _ _ h) pa
      refine ⟨tl, D, tv, acc, rfl, rfl, htlC, hacc, by omega, ?_⟩
      have FD : Fr H p l (n + 1 + 2 * i + 1 + 1) (upd HC tl (.lst (tv ++ acc))) := FC.put ntlH
      have pD : PrsAt (upd HC tl (.lst (tv ++ acc))) (tv ++ acc) (es ++ ys.map fun y => (iK i, y)) := prs_upd pC fun xs e => by rw [htlC] at e; cases e
      have htlD := upd_same (H := HC) (a := tl) (o := .lst (tv ++ acc))
      have BD : ∀ c o, H7 c = some o → c ≠ p → c ≠ l → c ≠ tl → (upd HC tl (.lst (tv ++ acc))) c = some o := fun c o h a b d => by rw [upd_ne d]; exact SC _ _ (BB c o h a b d)
      have frD : ∀ t, V.ref t ∈ tv ++ acc → H t = none := fun t ht => (List.mem_append.mp ht).elim (fr t) (fa t)
      generalize upd HC tl (.lst (tv ++ acc)) = HD at *
      refine ⟨_, rfl, .inl ⟨rfl, _, SqL.of htlD⟩, _, rfl, _, _, rfl, rfl, _, rfl, iteF' (by rw [show decide ((i : Int) > 0) = false from c1]; exact Bool.false_ne_true) ⟨Nat.zero_le _, fun e ne => ⟨tl, e, tv ++ acc, [], rfl, rfl, new_same ne _ _ htlD, upd_same, by rw [List.length_append, List.length_nil]; omega, ?_⟩⟩⟩
      have Se := new_same (o := .lst []) ne
      rw [List.append_nil]
      exact ⟨_, _, _, _, _, tv ++ acc, _, rfl, upd_same, prs_upd (pD.mono fun t xs h => Se _ _ h) (fun xs e => by rw [Se _ _ htlD] at e; cases e), frD, W1, by rw [List.length_append]; omega, ((FD.same Se).put ntlH).mono (by omega), fun c o h a b d => by rw [upd_ne d]; exact Se _ _ (BD c o h a b d)⟩
    · have c0 : ¬ decide ((i : Int) < 1) = true := fun h => hi0 (by have := of_decide_eq_true h; omega)
      have c1 : decide ((i : Int) > 0) = true := decide_eq_true (by omega)
      refine ⟨_, rfl, .inl ⟨rfl, _, SqL.of htl9⟩, _, rfl, _, _, rfl, rfl, _, rfl, iteF' c0 ⟨Nat.zero_le _, fun e ne => ⟨tl, e, tv, [], rfl, rfl, new_same ne _ _ htl9, upd_same, by rw [List.length_nil]; omega, ?_⟩⟩⟩
      have Se := new_same (o := .lst []) ne
      have F10 : Fr H p l (n + 1 + 2 * i + 1) (upd (upd H9 e (.lst [])) tl (.lst (tv ++ []))) := (F9.same Se).put ntlH
      have htlA := upd_same (H := upd H9 e (.lst [])) (a := tl) (o := .lst (tv ++ []))
      have ptA : PrsAt (upd (upd H9 e (.lst [])) tl (.lst (tv ++ []))) tv es := prs_upd (pt9.mono fun t xs h => Se _ _ h) fun xs e' => by rw [Se _ _ htl9] at e'; cases e'
      have BA : ∀ c o, H7 c = some o → c ≠ p → c ≠ l → c ≠ tl → (upd (upd H9 e (.lst [])) tl (.lst (tv ++ []))) c = some o := fun c o h a b d => by rw [upd_ne d]; exact Se _ _ (B9 c o h a b d)
      rw [List.append_nil] at F10 htlA ptA BA ⊢
      have hRA := BA _ _ hR7 (nn naRH).1 (nn naRH).2 aRtl
      generalize upd (upd H9 e (.lst [])) tl (.lst tv) = HA at *
      refine ⟨_, rfl, .inl ⟨rfl, _, SqL.of htlA⟩, _, rfl, _, _, rfl, rfl, _, rfl, iteT' c1 ⟨_, rfl, (2 : Int), rfl, aR, _, rfl, SqL.of hRA, fun s ns => ?_⟩⟩
      have ecut : cutV ((rN m).map V.str) none (some (2 : Int)) = ((rN m).take 2).map V.str := by
        rw [show (2 : Int) = ((2 : Nat) : Int) from rfl, cut_to, List.map_take]
      rw [ecut]
      have Ss := new_same (o := .lst (((rN m).take 2).map V.str)) ns
      have hs := upd_same (H := HA) (a := s) (o := .lst (((rN m).take 2).map V.str))
      have FB := F10.same Ss
      have htlB := Ss _ _ htlA
      have ptB := ptA.mono fun t xs h => Ss _ _ h
      have BB : ∀ c o, H7 c = some o → c ≠ p → c ≠ l → c ≠ tl → (upd HA s (.lst (((rN m).take 2).map V.str))) c = some o := fun c o h a b d => Ss _ _ (BA c o h a b d)
      have e2 : (rN m).take 2 = [rK 0, rK 1] := (by decide +kernel : ∀ m ∈ [4, 5, 6], (rN m).take 2 = [rK 0, rK 1]) m (by simp; omega)
      have lys : ((rN m).take 2).length ≤ 3 := by rw [e2]; decide
      have ysub : ∀ y ∈ (rN m).take 2, y ∈ rN m := fun y hy => List.mem_of_mem_take hy
      have ynd : ((rN m).take 2).Nodup := (rN_nd m6).sublist (List.take_sublist _ _)
      have ytwo : ∀ y ∈ (rN m).take 2, y = rK 0 ∨ y = rK 1 := fun y hy => by rw [e2] at hy; simpa using hy
      clear e2 ecut
      generalize (rN m).take 2 = ys at *
      generalize upd HA s (.lst (ys.map V.str)) = HB at *
      refine ⟨s, rfl, ⟨_, SqL.of hs⟩, fun D nD => lc_list (xs := ys.map V.str) (fun j H2 => ∃ acc, H2 D = some (.lst acc) ∧ PrsAt H2 acc ((ys.take j).map fun y => (iK i, y)) ∧ (∀ t, V.ref t ∈ acc → H t = none) ∧ Same HB H2) ⟨[], upd_same, PrsAt.nil, (fun t ht => by cases ht), new_same nD⟩ (fun j H2 _ ⟨_, _, _, _, S⟩ => SqL.of (S _ _ hs)) ?_ ?_⟩
      · rintro j v H2 hv ⟨acc, hacc, pa, fa, S⟩
        rw [List.getElem?_map] at hv
        cases ey : ys[j]? with
        | none => rw [ey] at hv; cases hv
        | some y =>
        rw [ey] at hv
        cases hv
        have jl := (List.getElem?_eq_some_iff.mp ey).1
        refine ⟨rfl, yes_of ⟨_, rfl, _, rfl, two, fun t nt => ⟨acc, new_same nt _ _ hacc, by rw [pa.1, List.length_map, List.length_take]; omega, acc ++ [.ref t], upd_same, ?_, ?_, Same.updN (S.trans (new_same nt)) nD⟩⟩⟩
        · rw [take_snoc ey, List.map_append]
          have St : Same H2 (upd H2 t (.tup [V.str (iK i), .str y])) := new_same nt
          refine prs_upd (prs_snoc (pa.mono fun t xs h => St _ _ h) upd_same) (fun xs e => ?_)
          have e : (upd H2 t (.tup [V.str (iK i), .str y])) D = some (.tup xs) := e
          rw [St _ _ hacc] at e
          cases e
        · intro c hc
          rcases List.mem_append.mp hc with h | h
          · exact fa c h
          · cases List.mem_singleton.mp h
            exact FB.free (S.free nt)
      rintro HC ⟨acc, hacc, pa, fa, SC⟩
      rw [List.length_map, List.take_length] at pa
      have htlC := SC _ _ htlB
      have FC := FB.same SC
      have lacc := pa.1
      rw [List.length_map] at lacc
      have W1 := W.next i3 ynd ysub (fun _ => ytwo)
      have pC := prs_app (ptB.mono fun t xs h => SC _ _ h) pa
      refine ⟨tl, D, tv, acc, rfl, rfl, htlC, hacc, by omega, ?_⟩
      exact ⟨_, _, _, _, _, tv ++ acc, _, rfl, upd_same, prs_upd pC (fun xs e => by rw [htlC] at e; cases e), (fun t ht => (List.mem_append.mp ht).elim (fr t) (fa t)), W1, by rw [List.length_append]; omega, (FC.put ntlH).mono (by omega), fun c o h a b d => by rw [upd_ne d]; exact SC _ _ (BB c o h a b d)⟩
  rintro σ H8 ⟨v3, v5, v9, v10, v11, tv, es, rfl, htl, pt, fr, W, ltv, F8, B⟩
  rw [List.length_map, lin3] at W F8 ltv
  have WW : WT m es := ⟨W.nd, W.fst, W.snd, W.two⟩
  have hR8 := B _ _ hR7 (nn naRH).1 (nn naRH).2 aRtl
  have hpc8 := B _ _ hpc7 (nn npcH).1 (nn npcH).2 pctl
  have hnm8 := B _ _ hnm7 (nn nnmH).1 (nn nnmH).2 nmtl
  have RW8 := RW7.frame (H' := H8) fun c o h e => B c o e h.1 h.2.1 h.2.2
  have les := pt.1
  refine ⟨_, rfl, _, rfl, p, l, aR, _, rN m, rfl, F8.st, by omega, hR8, (nn naRH).1, (nn naRH).2, by omega, fun ring i H9 F9 nring hring => ?_⟩
  refine ⟨_, rfl, _, rfl, pc, nm, _, _, rfl, rfl, F9.but _ _ hpc8 (nn npcH).1 (nn npcH).2, F9.but _ _ hnm8 (nn nnmH).1 (nn nnmH).2, by simp only [List.length_map]; omega, fun aO naO => ?_⟩
  have SO := new_same (o := .lst ((rN m).map V.str ++ (inN 3).map V.str)) naO
  have hO9 := upd_same (H := H9) (a := aO) (o := .lst ((rN m).map V.str ++ (inN 3).map V.str))
  rw [← List.map_append] at SO hO9 ⊢
  rw [show rN m ++ inN 3 = whO m from rfl] at SO hO9 ⊢
  have naOH := F8.free (F9.free naO)
  have FA := (F8.trans F9).same SO
  have htlA := SO _ _ (F9.but _ _ htl (nn ntlH).1 (nn ntlH).2)
  have ptA : PrsAt (upd H9 aO (.lst ((whO m).map V.str))) tv es := (prs_frame pt (fun t ht => nn (fr t ht)) fun c o e h => F9.but c o h e.1 e.2).mono fun t xs h => SO _ _ h
  have hringA := SO _ _ hring
  have nringH := F8.free nring
  have hRA := SO _ _ (F9.but _ _ hR8 (nn naRH).1 (nn naRH).2)
  have RWA : RawAt (fun c => c ≠ p ∧ c ≠ l ∧ c ≠ tl) (upd H9 aO (.lst ((whO m).map V.str))) rw_ (whP m) (whT m) (rN m) := RW8.frame fun c o e h => SO _ _ (F9.but c o h e.1 e.2.1)
  generalize upd H9 aO (.lst ((whO m).map V.str)) = HA at *
  have ltq : ∀ t ∈ es, ltS t.1 t.2 = true := fun t ht => (tp_inr _ (W.fst t ht) _ ((rN_sub m6).subset (W.snd t ht))).2
  refine ⟨_, rfl, tl, rfl, ⟨_, SqL.of htlA⟩, fun D3 hD3 => ?_⟩
  refine lc_list (xs := tv) (fun i H' => ∃ acc2, H' D3 = some (.lst acc2) ∧ PrsAt H' acc2 (es.take i) ∧ (∀ t, V.ref t ∈ acc2 → H t = none) ∧ Same HA H') ⟨[], upd_same, by rw [List.take_zero]; exact PrsAt.nil, (fun t ht => by cases ht), new_same hD3⟩ (fun i H' _ ⟨_, _, _, _, S⟩ => SqL.of (S _ _ htlA)) ?_ ?_
  · rintro i v H' hv ⟨acc2, hacc, pa, fa, S⟩
    have il : i < es.length := by
      rw [← les]
      exact (List.getElem?_eq_some_iff.mp hv).1
    obtain ⟨t', rfl, ht'⟩ := ptA.2 i v _ hv (List.getElem?_eq_getElem il)
    generalize hpr : es[i] = pr at ht'
    have ht2 := S _ _ ht'
    have hlt := ltq pr (hpr ▸ List.getElem_mem il)
    refine ⟨t', _, rfl, SqT.of ht2, rfl, _, _, rfl, _, _, rfl, rfl, rfl, yes_of ⟨_, rfl, _, rfl, pr.1, pr.2, rfl, fun T nT => ?_⟩⟩
    rw [tp_self hlt]
    have ST := new_same (o := .tup [.str pr.1, .str pr.2]) nT
    have aT' := ST _ _ hacc
    have la := pa.1
    rw [List.length_take] at la
    refine ⟨acc2, aT', by omega, acc2 ++ [.ref T], upd_same, ?_, ?_, ?_⟩
    · rw [take_snoc (show es[i]? = some pr by rw [List.getElem?_eq_getElem il, hpr])]
      refine prs_upd (prs_snoc (pa.mono fun t xs h => ST _ _ h) upd_same) (fun xs e => ?_)
      rw [aT'] at e
      cases e
    · intro c hc
      rcases List.mem_append.mp hc with h | h
      · exact fa c h
      · cases List.mem_singleton.mp h
        exact FA.free (S.free nT)
    · exact Same.updN (S.trans ST) hD3
  rintro HB ⟨tw, htw, ptB, frB, SAB⟩
  rw [les, List.take_length] at ptB
  have FB := FA.same SAB
  have nD3H := FA.free hD3
  have hringB := SAB _ _ hringA
  refine ⟨_, rfl, p, l, _, 2, rfl, FB.st, by omega, by decide, by decide, fun r1 HC h1 FC => ?_⟩
  have hringC := FC.but _ _ hringB (nn nringH).1 (nn nringH).2
  refine ⟨rfl, _, rfl, ite_share (fun y H' => ∃ (b : Addr) (rm' : List Str), y = V.ref b ∧ H' b = some (.lst (rm'.map V.str)) ∧ rm'.Perm (rN m) ∧ H b = none ∧ Same HC H') (fun _ Q' q => ?_) (fun _ Q' q => ?_) ?_⟩
  · exact ⟨_, rfl, ring, _, rfl, SqL.of hringC, fun b nb_ => q _ _ ⟨b, (rot (rN m) i).reverse, rfl, by rw [upd_same, List.map_reverse], (List.reverse_perm _).trans (rot_perm _ _), (FB.trans FC).free nb_, new_same nb_⟩⟩
  · exact ⟨_, rfl, q _ _ ⟨ring, rot (rN m) i, rfl, hringC, rot_perm _ _, nringH, fun _ _ h => h⟩⟩
  rintro y HD ⟨rimO, rm', rfl, hrmD, prm, nrmH, SCD⟩
  refine ⟨three, fun ow now => ?_⟩
  have SDE := new_same (o := .tup [V.ref aO, .ref D3, .ref rimO]) now
  have FD := (FB.trans FC).same SCD
  have nowH := FD.free now
  have FE := FD.same SDE
  have SAE : ∀ c o, c ≠ p → c ≠ l → HA c = some o → (upd HD ow (.tup [V.ref aO, .ref D3, .ref rimO])) c = some o := fun c o h1 h2 e => SDE _ _ (SCD _ _ (FC.but _ _ (SAB _ _ e) h1 h2))
  have RWE : RawAt (fun c => c ≠ p ∧ c ≠ l) (upd HD ow (.tup [V.ref aO, .ref D3, .ref rimO])) rw_ (whP m) (whT m) (rN m) := (RWA.frame fun c o h e => SAE c o h.1 h.2.1 e).weak fun c h => ⟨h.1, h.2.1⟩
  have ROE : RawAt (fun c => c ≠ p ∧ c ≠ l) (upd HD ow (.tup [V.ref aO, .ref D3, .ref rimO])) ow (whO m) es rm' :=
    ⟨aO, D3, rimO, tw, upd_same, SAE _ _ (nn naOH).1 (nn naOH).2 hO9, SDE _ _ (SCD _ _ (FC.but _ _ htw (nn nD3H).1 (nn nD3H).2)), (prs_frame ptB (fun t ht => nn (frB t ht)) fun c o e h => FC.but c o h e.1 e.2).mono fun t xs h => SDE _ _ (SCD _ _ h), SDE _ _ hrmD, nn nowH, nn naOH, nn nD3H, nn nrmH, fun t ht => nn (frB t ht)⟩
  have hRE := SAE _ _ (nn naRH).1 (nn naRH).2 hRA
  have hrmE := SDE _ _ hrmD
  have hOwE := upd_same (H := HD) (a := ow) (o := .tup [V.ref aO, .ref D3, .ref rimO])
  generalize upd HD ow (.tup [V.ref aO, .ref D3, .ref rimO]) = HE at *
  have WR := wheel_ok m4 m6
  have WO := whO_ok m4 m6 WW prm
  refine ⟨_, rfl, _, rfl, p, l, rw_, _, _, whP m, whT m, rN m, rfl, FE.st, by omega, RWE, fun c h => h, WR, fun x1 HF B1 FF => ?_⟩
  refine ⟨_, rfl, _, rfl, p, l, ow, _, _, whO m, es, rm', rfl, FF.st, by omega, ROE.frame (fun c o h e => FF.but c o e h.1 h.2), fun c h => h, WO, fun x2 HG B2 FG => ?_⟩
  have lP : (whP m).length ≤ 44 := by unfold whP; rw [List.length_append, lrm]; show m + 1 ≤ 44; omega
  have lO : (whO m).length ≤ 44 := by unfold whO; rw [List.length_append, lrm, lin3]; omega
  have B1G : BoardAt (fun _ => True) Z.B.C HG x1 (sortS (whP m)) (sortPr (whT m)) (rN m) := (B1.frame fun c o h e => FG.but c o e (FF.ne (h)).1 (FF.ne h).2).weak fun _ _ => trivial
  have B2G : BoardAt (fun _ => True) Z.B.C HG x2 (sortS (whO m)) (sortPr es) rm' := B2.weak fun _ _ => trivial
  have hh : hubS ∉ rN m := fun h => hub_ne.1 ((rN_sub m6).subset h)
  have eW := wheel_wiP m4 m6
  show spWI M Z.B.C _ _ _ _
  rw [spWI_eq]
  refine ⟨_, _, _, rfl, B1G.kn, .inr ⟨x1, _, _, _, rfl, B1G, by rw [sortS_len]; exact lP, WR.fewS, .str _, .inr ⟨hubS, rfl, sortS_mem.mpr (List.mem_append_right _ (List.mem_singleton.mpr rfl)), .inr ⟨hh, B2G.kn, .inr ⟨x2, _, _, _, rfl, B2G, by rw [sortS_len]; exact lO, WO.fewS, fun no => absurd (wOk_raw.mpr (wheel_du m4 m6 prm)) no, fun _ => ?_⟩⟩⟩⟩⟩
  rw [wheel_wiT, eW, List.nil_append]
  have les9 : es.length ≤ 9 := by omega
  refine ⟨by rw [(sortPr_perm es).length_eq]; omega, fun t ht => ltq t ((sortPr_perm es).mem_iff.mp ht), fun t ht => (WO.ts.sorted.ok t ht).imp id fun h => h.1, (sortS_perm _).nodup_iff.mpr WO.nd, fun r hr => sortS_mem.mpr (List.mem_append_left _ hr), fun b qs HI SI qnd qmem BI => ?_⟩
  have qp : qs.Perm es := (List.perm_ext_iff_of_nodup qnd W.nd).mpr fun t => (qmem t).trans (sortPr_perm es).mem_iff
  have SII : Same HG HI := SI
  have B3 : BoardAt (fun _ => True) Z.B.C HI b (sortS (sortS (whO m))) (sortPr qs) (rN m) := BI.weak fun _ _ => trivial
  have FI := ((FE.trans FF).trans FG).same SI
  have nB : ∀ c, HG c = none → H c = none := fun c h => ((FE.trans FF).trans FG).free h
  obtain ⟨dx, _, _, _, _, _, _, hb, _⟩ := id B3
  refine ⟨_, rfl, b, dx, _, rfl, hb, rfl, b, _, _, _, rfl, B3, fun l1 n1 => ?_⟩
  have T1 := new_same (o := .lst ((sortS (sortS (whO m))).map V.str)) n1
  have g1 := upd_same (H := HI) (a := l1) (o := .lst ((sortS (sortS (whO m))).map V.str))
  generalize upd HI l1 (.lst ((sortS (sortS (whO m))).map V.str)) = HJ at *
  refine ⟨_, rfl, b, dx, _, rfl, T1 _ _ hb, rfl, b, _, _, _, rfl, B3.same T1, fun l2 tz n2 ptz => ?_⟩
  have T2 := new_same (o := .lst tz) n2
  have g2 := upd_same (H := HJ) (a := l2) (o := .lst tz)
  have pt2 := ptz.mono fun t xs h => T2 _ _ h
  have g1' := T2 _ _ g1
  have S2' := T1.trans T2
  generalize upd HJ l2 (.lst tz) = HK at *
  refine ⟨_, rfl, b, dx, _, rfl, S2' _ _ hb, rfl, b, _, _, _, rfl, B3.same S2', fun l3 n3 => ⟨three, fun rt nrt => ?_⟩⟩
  have T3 := new_same (o := .lst ((rN m).map V.str)) n3
  have g3 := upd_same (H := HK) (a := l3) (o := .lst ((rN m).map V.str))
  have T4 := new_same (o := .tup [V.ref l1, .ref l2, .ref l3]) nrt
  have g4 := upd_same (H := upd HK l3 (.lst ((rN m).map V.str))) (a := rt) (o := .tup [V.ref l1, .ref l2, .ref l3])
  have T5 := T3.trans T4
  have RM : RawAt (fun _ => True) (upd (upd HK l3 (.lst ((rN m).map V.str))) rt (.tup [V.ref l1, .ref l2, .ref l3])) rt (sortS (sortS (whO m))) (sortPr qs) (rN m) := ⟨l1, l2, l3, tz, g4, T5 _ _ g1', T5 _ _ g2, pt2.mono fun t xs h => T5 _ _ h, T4 _ _ g3, trivial, trivial, trivial, trivial, fun _ _ => trivial⟩
  have SIL := S2'.trans T5
  clear g1 g2 g3 g4 g1' pt2
  generalize upd (upd HK l3 (.lst ((rN m).map V.str))) rt (.tup [V.ref l1, .ref l2, .ref l3]) = HL at *
  have ndP : (sortS (sortS (whO m))).Nodup := (sortS_perm _).nodup_iff.mpr ((sortS_perm _).nodup_iff.mpr WO.nd)
  have inP : ∀ z, z ∈ sortS (sortS (whO m)) ↔ z ∈ whO m := fun z => sortS_mem.trans sortS_mem
  have lenP : (sortS (sortS (whO m))).length ≤ 44 := by rw [sortS_len, sortS_len]; exact lO
  have qin : ∀ t ∈ sortPr qs, t.1 ∈ whO m ∧ t.2 ∈ whO m := fun t ht => (WO.ts.ok t (qp.mem_iff.mp ((sortPr_perm qs).mem_iff.mp ht))).imp id fun h => h.1
  have lqs : (sortPr qs).length ≤ 9 := by rw [(sortPr_perm qs).length_eq, qp.length_eq]; exact les9
  refine ⟨rt, _, _, _, rfl, RM, ndP, by omega, by omega, fun t ht => ⟨(inP _).mpr (qin t ht).1, (inP _).mpr (qin t ht).2⟩, fun nq la HM NM nnq nla SM => ?_⟩
  have nx : ∀ {c : Addr}, H c = none → c ≠ p ∧ c ≠ l := nn
  have SGM := (SI.trans SIL).trans SM
  have toM : ∀ c o, HE c = some o → c ≠ p → c ≠ l → HM c = some o := fun c o e h1 h2 => SGM _ _ (FG.but c o (FF.but c o e h1 h2) h1 h2)
  have ROM : RawAt (fun _ => True) HM ow (whO m) es rm' := (ROE.frame fun c o h e => toM c o e h.1 h.2).weak fun _ _ => trivial
  have hrmM := toM _ _ hrmE (nn nrmH).1 (nn nrmH).2
  have hRM := toM _ _ hRE (nn naRH).1 (nn naRH).2
  refine ⟨_, rfl, ow, whO m, es, rm', rfl, ROM, WO.nd, by omega, by omega, fun t ht => ⟨(WO.ts.ok t ht).1, (WO.ts.ok t ht).2.1⟩, fun nq2 la2 HN NN nnq2 nla2 SN => ?_⟩
  have how := toM _ _ hOwE (nn nowH).1 (nn nowH).2
  refine ⟨_, rfl, ow, _, 2, _, rfl, rfl, SqT.of (SN _ _ how), rfl, nq2, _, sortS (whO m), _, la2, rm', rfl, NN, fun x hx => ⟨nbS_nd WO.ts x, fun y hy => sortS_mem.mpr (nbS_in WO.ts hy).1⟩, SN _ _ hrmM, fun z hz => sortS_mem.mpr (WO.rin z hz), by rw [prm.length_eq, lrm]; exact m6, by rw [sortS_len]; unfold whO; rw [List.length_append, lrm, lin3]; omega, fun z hz => WO.strP z (sortS_mem.mp hz), fun r xs zs HO nr hr hq _ lq SO => ?_⟩
  have tq : TsOk (whO m) (sortPr qs) := WO.ts.perm ((sortPr_perm qs).trans qp)
  refine ⟨Nat.zero_le _, fun e ne => ?_⟩
  have Se := new_same (o := .lst []) ne
  obtain ⟨d, hd, sd, eqd⟩ := qat_list (K := K) (Se _ _ hr) (hq.same Se)
  obtain ⟨nd0, sn0⟩ := nil_list (K := K) (upd_same (H := HO) (a := e) (o := .lst []))
  have SMP := (SN.trans SO).trans Se
  clear hr hq
  generalize upd HO e (.lst []) = HP' at *
  refine ⟨d, .list [], hd, nd0, sd, sn0, _, rfl, iteOr (k _) ?_⟩
  refine ⟨_, rfl, _, rfl, nq, aR, sortS (sortS (sortS (whO m))), _, la, rN m, rfl, NM.mono SMP, fun x hx => ⟨nbS_nd tq x, fun y hy => sortS_mem.mpr ((inP _).mpr (nbS_in tq hy).1)⟩, SMP _ _ hRM, fun z hz => sortS_mem.mpr ((inP _).mpr (List.mem_append_left _ hz)), by rw [lrm]; exact m6, by rw [sortS_len, sortS_len, sortS_len]; unfold whO; rw [List.length_append, lrm, lin3]; omega, fun z hz => WO.strP z ((inP _).mp (sortS_mem.mp hz)), fun r2 xs2 zs2 HQ nr2 hr2 hq2 ok2 lq2 SQ => ⟨Nat.zero_le _, fun e2 ne2 => ?_⟩⟩
  have Se2 := new_same (o := .lst []) ne2
  obtain ⟨d2, hd2, sd2, eqd2⟩ := qat_list (K := K) (Se2 _ _ hr2) (hq2.same Se2)
  obtain ⟨nd2, sn2⟩ := nil_list (K := K) (upd_same (H := HQ) (a := e2) (o := .lst []))
  have zs0 : zs2 = [] := List.eq_nil_iff_forall_not_mem.mpr fun z hz => wheel_no WW m6 (fun x y hy => by
    have := nb_in.mp (sortS_mem.mp hy)
    rcases this with h | h
    · exact .inl (qp.mem_iff.mp ((sortPr_perm qs).mem_iff.mp h))
    · exact .inr (qp.mem_iff.mp ((sortPr_perm qs).mem_iff.mp h))) z (ok2 z hz)
  refine ⟨d2, .list [], hd2, nd2, sd2, sn2, ?_⟩
  rw [eqd2, zs0]
  exact k _
end
end E1

set_option Elab.async false
set_option linter.all false
set_option maxRecDepth 100000
set_option maxHeartbeats 16000000
/-! _law_otherwise: boards that stand inside, and boards that don't. -/
namespace E1
open PySem PySem.Spec PyProof.Rows L2 G0 Flow
abbrev N_other : List Str := ["_law_stream", "_law_raw", "_law_place", "_law_other", "_law_far", "_law_one", "_law_found"]
theorem sc_other : FnScope N_other ["_law_stream", "_law_raw", "_law_place", "_law_other"] (defScope (topS 61)) := ⟨rfl, rfl, rfl, by decide +kernel, rfl, by decide +kernel, by decide +kernel⟩
/-- a raw board of few places -/
def RawE (N : Addr → Prop) (H : Hp) (v : V) : Prop := ∃ r pl ts rm, v = .ref r ∧ RawAt N H r pl ts rm ∧ RawOk pl ts rm ∧ pl.length ≤ 20 ∧ ts.length ≤ 50
theorem RawE.frame {N : Addr → Prop} {H H' : Hp} {v : V} (h : RawE N H v) (S : ∀ c o, N c → H c = some o → H' c = some o) : RawE N H' v :=
  let ⟨r, pl, ts, rm, e, A, k⟩ := h; ⟨r, pl, ts, rm, e, A.frame S, k⟩
theorem RawE.weak {N N' : Addr → Prop} {H : Hp} {v : V} (h : RawE N H v) (k : ∀ c, N c → N' c) : RawE N' H v :=
  let ⟨r, pl, ts, rm, e, A, g⟩ := h; ⟨r, pl, ts, rm, e, A.weak k, g⟩
/-- what is there is not what is free -/
theorem RawAt.off {N : Addr → Prop} {H : Hp} {r b : Addr} {pl : List Str} {ts : List Pr} {rm : List Str} (A : RawAt N H r pl ts rm) (nb_ : H b = none) : RawAt (fun c => N c ∧ c ≠ b) H r pl ts rm := by
  obtain ⟨b1, b2, b3, tv, h1, h2, h3, h4, h5, q1, q2, q3, q4, q5⟩ := A
  have hmm : ∀ {c : Addr} {o : HO}, H c = some o → c ≠ b := fun h => ne_of_none h nb_
  refine ⟨b1, b2, b3, tv, h1, h2, h3, h4, h5, ⟨q1, hmm h1⟩, ⟨q2, hmm h2⟩, ⟨q3, hmm h3⟩, ⟨q4, hmm h5⟩, fun t ht => ?_⟩
  obtain ⟨i, hi⟩ := List.getElem?_of_mem ht
  have il : i < ts.length := by rw [← h4.1]; exact (List.getElem?_eq_some_iff.mp hi).1
  obtain ⟨t', e, ht'⟩ := h4.2 i _ _ hi (List.getElem?_eq_getElem il)
  cases e
  exact ⟨q5 t ht, hmm ht'⟩
theorem RawE.off {N : Addr → Prop} {H : Hp} {v : V} {b : Addr} (h : RawE N H v) (nb_ : H b = none) : RawE (fun c => N c ∧ c ≠ b) H v :=
  let ⟨r, pl, ts, rm, e, A, g⟩ := h; ⟨r, pl, ts, rm, e, A.off nb_, g⟩
abbrev farS : Str := "far0"
theorem nd_one {ys : List Str} (h : ys.length ≤ 1) : ys.Nodup := by
  match ys, h with
  | [], _ => exact List.nodup_nil
  | [_], _ => simp
theorem RawOk.add {pl : List Str} {ts : List Pr} {rm ys : List Str} (k : RawOk pl ts rm) (h : pl.length ≤ 10) (l : ys.length ≤ 1) (hy : ∀ y ∈ ys, y ∈ allN ∧ y ∉ pl) : RawOk (pl ++ ys) ts rm ∧ RawOk (pl ++ ys) ts (rm ++ ys) ∧ (pl ++ ys).length ≤ 20 := by
  have nd : (pl ++ ys).Nodup := List.nodup_append.mpr ⟨k.nd, nd_one l, fun a ha b hb e => (hy b hb).2 (e ▸ ha)⟩
  have nm : ∀ z ∈ pl ++ ys, z ∈ allN := fun z hz => (List.mem_append.mp hz).elim (k.nm z) fun h => (hy z h).1
  have ln : (pl ++ ys).length ≤ 20 := by rw [List.length_append]; omega
  have tk : TsOk (pl ++ ys) ts := k.ts.mono fun z hz => List.mem_append_left _ hz
  exact ⟨⟨nd, nm, by omega, tk, k.rnd, fun z hz => List.mem_append_left _ (k.rin z hz), k.few⟩,
    ⟨nd, nm, by omega, tk, List.nodup_append.mpr ⟨k.rnd, nd_one l, fun a ha b hb e => (hy b hb).2 (e ▸ k.rin a ha)⟩, fun z hz => (List.mem_append.mp hz).elim (fun h => List.mem_append_left _ (k.rin z h)) (List.mem_append_right _), k.few⟩, ln⟩
theorem okNone : RawOk [] [] [] := ⟨List.nodup_nil, (by simp), by decide, TsOk.nil, List.nodup_nil, by simp, by decide⟩
def spOther : Sp := fun vs H Q _ => ∃ (p r1 r2 : Addr) (z : Str) (N : Addr → Prop) (pl1 : List Str) (ts1 : List Pr) (rm1 pl2 : List Str) (ts2 : List Pr) (rm2 : List Str), vs = [.ref p, .ref r1, .str z, .ref r2] ∧ RawAt N H r1 pl1 ts1 rm1 ∧ RawAt N H r2 pl2 ts2 rm2 ∧
  RawOk pl1 ts1 rm1 ∧ RawOk pl2 ts2 rm2 ∧ pl1.length ≤ 8 ∧ pl2.length ≤ 10 ∧ z ∈ allN ∧ z ∉ pl2 ∧ ("far0" : Str) ∉ pl2 ∧
  ∀ b xs H', H b = none → H' b = some (.lst xs) → xs.length = 9 → (∀ v ∈ xs, RawE (fun c => (N c ∨ H c = none) ∧ c ≠ b) H' v) → Same H H' → Q (.ref b) H'
section
variable {P : Program} {w : World} {K : PySem.W.Frag} {mg : Str → Option Value} {base : Heap}
theorem bOther (Z : LawD K mg) : Binds K (Z.d 61) ["_law_stream", "_law_raw", "_law_place", "_law_other"] [] := (Z.F 61 (by decide)).binds fun _ _ _ _ _ _ us hl => match us, hl with | [_, _, _, _], _ => rfl
theorem ok_other (Z : LawD K mg) : FnOk P w K mg base CX0 1 (Z.f 61) (Z.d 61) ["_law_stream", "_law_raw", "_law_place", "_law_other"] spOther := by
  refine Fun.ok (Z.F 61 (by decide)) sc_other (fun vs H Q E h => ?_) (fun cdv A outer s H vs Q E hr h => ?_)
  · obtain ⟨p, r1, r2, z, N, pl1, ts1, rm1, pl2, ts2, rm2, rfl, _⟩ := h
    rfl
  refine ⟨_, PSs.nox (pss_cons (ps_set (i := 4) sc_other.nd rfl (Or.inl rfl) (pe_slice sl_list (pe_lc (own := [("_law_one", 5)]) (tt := tTest (tOp (rIn K true) (tVar 5) (tOp rCat (tOp (rIxT K) (tVar 3) (tC (.int 0))) (tLst (tCons (tVar 2) tNil))))) rfl sc_other.nd (pi_list (pe_ix ix_tup (pv 1) pe_int (fun _ _ => rfl))) (blkOk_by (own := [("_law_one", 5)]) (N := N_other) (sc := defScope (topS 61)) (by decide +kernel)) (fun _ _ _ _ _ => (pg_name (i := 5) sc_other.nd rfl (Or.inl rfl))) (fun _ _ _ _ _ => (pts_one (pt_cmpR op_notIn_seq (pv 5) (pe_op op_cat (pe_ix ix_tup (pv 3) pe_int (fun _ _ => rfl)) (pe_lst (pa_cons (pv 2) pa_nil))) (by rfl)))) (fun _ _ _ _ _ => (pv 5))) po_none (po_some pe_int)))
  (pss_cons (ps_set (i := 6) sc_other.nd rfl (Or.inl rfl) (pe_lst (pa_cons (pv 3) (pa_cons (pe_tup (pa_cons (pe_ix ix_tup (pv 3) pe_int (fun _ _ => rfl)) (pa_cons (pe_ix ix_tup (pv 3) pe_int (fun _ _ => rfl)) (pa_cons (pe_slice sl_list (pe_ix ix_tup (pv 3) pe_int (fun _ _ => rfl)) (po_some pe_int) po_none) pa_nil)))) (pa_cons (pe_tup (pa_cons (pe_op op_cat (pe_ix ix_tup (pv 3) pe_int (fun _ _ => rfl)) (pe_lst (pa_cons pe_str pa_nil))) (pa_cons (pe_ix ix_tup (pv 3) pe_int (fun _ _ => rfl)) (pa_cons (pe_op op_cat (pe_ix ix_tup (pv 3) pe_int (fun _ _ => rfl)) (pe_lst (pa_cons pe_str pa_nil))) pa_nil)))) pa_nil)))))
  (pss_cons (ps_expr (pe_bm PySem.F.plainAttrs_list PySem.F.slot_list_extend PySem.F.type_list_extend mt_extend (pv 6) (pa_cons (pe_lst (pa_cons (pe_tup (pa_cons (pe_op op_cat (pe_ix ix_tup (pv 3) pe_int (fun _ _ => rfl)) (pv 4)) (pa_cons (pe_ix ix_tup (pv 3) pe_int (fun _ _ => rfl)) (pa_cons (pe_ix ix_tup (pv 3) pe_int (fun _ _ => rfl)) pa_nil)))) (pa_cons (pe_tup (pa_cons (pe_op op_cat (pe_ix ix_tup (pv 3) pe_int (fun _ _ => rfl)) (pv 4)) (pa_cons (pe_ix ix_tup (pv 3) pe_int (fun _ _ => rfl)) (pa_cons (pe_op op_cat (pe_ix ix_tup (pv 3) pe_int (fun _ _ => rfl)) (pv 4)) pa_nil)))) pa_nil))) pa_nil)))
  (pss_cons (ps_expr (pe_bm PySem.F.plainAttrs_list PySem.F.slot_list_extend PySem.F.type_list_extend mt_extend (pv 6) (pa_cons (pe_lst (pa_cons (pe_tup (pa_cons (pe_op op_cat (pe_ix ix_tup (pv 3) pe_int (fun _ _ => rfl)) (pe_lst (pa_cons (pv 2) pa_nil))) (pa_cons (pe_ix ix_tup (pv 3) pe_int (fun _ _ => rfl)) (pa_cons (pe_ix ix_tup (pv 3) pe_int (fun _ _ => rfl)) pa_nil)))) (pa_cons (pe_tup (pa_cons (pe_lst pa_nil) (pa_cons (pe_lst pa_nil) (pa_cons (pe_lst pa_nil) pa_nil)))) (pa_cons (pe_tup (pa_cons (pe_ix ix_tup (pv 3) pe_int (fun _ _ => rfl)) (pa_cons (pe_lst pa_nil) (pa_cons (pe_revL (pe_ix ix_tup (pv 3) pe_int (fun _ _ => rfl))) pa_nil)))) (pa_cons (pv 1) pa_nil))))) pa_nil)))
  (pss_one (ps_ret (pv 6))))))), ?_⟩
  obtain ⟨p, r1, r2, z, N, pl1, ts1, rm1, pl2, ts2, rm2, rfl, A1, A2, k1, k2, l1, l2, hz, nz, nf, k⟩ := h
  have sz : 5000 < sizeLine := by decide
  have one : 1 ≤ sizeLine := by decide
  have two : 2 ≤ sizeLine := by decide
  have three : 3 ≤ sizeLine := by decide
  obtain ⟨aP, aT, aR, av, a0, a1, a2, a3, a4, na0, na1, na2, na3, na4⟩ := id A1
  obtain ⟨bP, bT, bR, bv, b0, b1, b2, b3, b4, nb0, nb1, nb2, nb3, nb4⟩ := id A2
  refine ⟨_, rfl, r1, _, 0, _, rfl, rfl, SqT.of a0, rfl, aP, rfl, ⟨_, SqL.of a1⟩, fun D hD => lc_list (xs := pl1.map V.str) (fun i H' => H' D = some (.lst (((pl1.take i).filter fun o => !decide (o ∈ pl2 ++ [z])).map V.str)) ∧ Same H H') ⟨upd_same, new_same hD⟩ (fun i H' _ ⟨_, S⟩ => SqL.of (S _ _ a1)) ?_ ?_⟩
  · rintro i xx H' hxx ⟨acc, S⟩
    rw [List.getElem?_map] at hxx
    cases ez : pl1[i]? with
    | none => rw [ez] at hxx; cases hxx
    | some o =>
    rw [ez] at hxx
    cases hxx
    have lf := List.length_filter_le (fun o => !decide (o ∈ pl2 ++ [z])) (pl1.take i)
    rw [List.length_take] at lf
    refine ⟨rfl, _, rfl, _, rfl, r2, _, 0, _, rfl, rfl, SqT.of (S _ _ b0), rfl, _, rfl, one, fun e1 n1 => ⟨bP, e1, _, _, rfl, rfl, new_same n1 _ _ (S _ _ b1), upd_same, by rw [List.length_map]; show pl2.length + 1 ≤ sizeLine; omega, fun e2 n2 => ?_⟩⟩
    have T := (new_same (o := .lst [V.str z]) n1).trans (new_same (o := .lst (pl2.map V.str ++ [V.str z])) n2)
    have g2 := upd_same (H := upd H' e1 (.lst [V.str z])) (a := e2) (o := .lst (pl2.map V.str ++ [V.str z]))
    rw [show pl2.map V.str ++ [V.str z] = (pl2 ++ [z]).map V.str by rw [List.map_append]; rfl] at T g2 ⊢
    have accT := T _ _ acc
    have ST := S.trans T
    generalize upd (upd H' e1 (.lst [V.str z])) e2 (.lst ((pl2 ++ [z]).map V.str)) = H2 at *
    refine ⟨e2, _, rfl, .inl (SqL.of g2), rfl, flat_strs _, _, rfl, ?_⟩
    rw [show inV (.str o) ((pl2 ++ [z]).map V.str) = decide (o ∈ pl2 ++ [z]) from inV_strs o _]
    obtain ⟨f1, f2⟩ := fil_step (H := H2) (D := D) (fun o => !decide (o ∈ pl2 ++ [z])) ez
    refine ite2 (fun c => ?_) (fun c => ?_)
    · have c' : (!decide (o ∈ pl2 ++ [z])) = true := c
      refine ⟨_, rfl, _, accT, ?_, ?_, Same.updN ST hD⟩
      · rw [List.length_map]
        omega
      · rw [upd_same, f1 c', List.map_append]
        rfl
    · have c' : ¬ (!decide (o ∈ pl2 ++ [z])) = true := c
      exact ⟨by rw [f2 c']; exact accT, ST⟩
  rintro H1 ⟨hD1, S1⟩
  rw [List.length_map, List.take_length] at hD1
  refine ⟨(1 : Int), rfl, D, _, rfl, SqL.of hD1, fun F nF => ?_⟩
  rw [show (1 : Int) = ((1 : Nat) : Int) from rfl, cut_to, ← List.map_take]
  obtain ⟨far, efar⟩ : ∃ y, y = (pl1.filter fun o => !decide (o ∈ pl2 ++ [z])).take 1 := ⟨_, rfl⟩
  have far1 : far.length ≤ 1 := by rw [efar, List.length_take]; omega
  have farI : ∀ y ∈ far, y ∈ pl1 ∧ y ∉ pl2 := fun y hy => by
    have := List.mem_filter.mp (List.mem_of_mem_take (efar ▸ hy))
    refine ⟨this.1, fun h => ?_⟩
    have g := this.2
    simp [h] at g
  rw [← efar]
  have S2 := S1.trans (new_same (o := .lst (far.map V.str)) nF)
  have hF := upd_same (H := H1) (a := F) (o := .lst (far.map V.str))
  generalize upd H1 F (.lst (far.map V.str)) = H2 at *
  have NF : N F ∨ H F = none := .inr (S1.free nF)
  clear hD1 efar hD S1 nF
  have l3 := k2.ts.len2
  have l4 : ts2.length ≤ 50 := by
    have := Nat.mul_le_mul l2 l2
    omega
  have l5 := k2.rlen
  obtain ⟨NX, eNX⟩ : ∃ NX : Addr → Prop, NX = fun c => N c ∨ H c = none := ⟨_, rfl⟩
  have nx : ∀ {c : Addr}, H c = none → NX c := fun h => by rw [eNX]; exact .inr h
  have nN : ∀ {c : Addr}, N c → NX c := fun h => by rw [eNX]; exact .inl h
  have NF : NX F := by rw [eNX]; exact NF
  have mk : ∀ {G : Hp} {t a c : Addr} {pl rm : List Str}, Same H G → G t = some (.tup [.ref a, .ref bT, .ref c]) → G a = some (.lst (pl.map V.str)) → G c = some (.lst (rm.map V.str)) → H t = none → NX a → NX c → RawOk pl ts2 rm → pl.length ≤ 20 → RawE NX G (.ref t) :=
    fun S h1 h2 h3 n1 n2 n3 ok ln => ⟨_, _, _, _, rfl, ⟨_, _, _, bv, h1, h2, S _ _ b2, b3.mono fun t xs h => S _ _ h, h3, nx n1, n2, nN nb2, n3, fun t ht => nN (nb4 t ht)⟩, ok, ln, l4⟩
  have E1 : RawE NX H2 (.ref r2) := ⟨r2, pl2, ts2, rm2, rfl, (A2.frame fun c o _ e => S2 _ _ e).weak fun c => nN, k2, by omega, l4⟩
  have l6 := k1.ts.len2
  have l7 : ts1.length ≤ 50 := by
    have := Nat.mul_le_mul l1 l1
    omega
  have E9 : RawE NX H2 (.ref r1) := ⟨r1, pl1, ts1, rm1, rfl, (A1.frame fun c o _ e => S2 _ _ e).weak fun c => nN, k1, by omega, l7⟩
  have fr : ∀ {G G' : Hp} {v : V}, RawE NX G v → Same G G' → RawE NX G' v := fun h S => h.frame fun c o _ e => S _ _ e
  have k_drop : RawOk pl2 ts2 (rm2.drop 1) := ⟨k2.nd, k2.nm, k2.len, k2.ts, k2.rnd.sublist (List.drop_sublist _ _), fun z hz => k2.rin z (List.mem_of_mem_drop hz), k2.few⟩
  have k_far := k2.add l2 far1 fun y hy => ⟨k1.nm y (farI y hy).1, (farI y hy).2⟩
  have k_z := k2.add (ys := [z]) l2 (Nat.le_refl _) fun y hy => by rw [List.mem_singleton.mp hy]; exact ⟨hz, nz⟩
  have k_0 := k2.add (ys := [farS]) l2 (Nat.le_refl _) fun y hy => by rw [List.mem_singleton.mp hy]; exact ⟨by decide +kernel, nf⟩
  have k_rev : RawOk pl2 [] rm2.reverse := ⟨k2.nd, k2.nm, k2.len, TsOk.nil, (List.reverse_perm _).nodup_iff.mpr k2.rnd, fun z hz => k2.rin z (List.mem_reverse.mp hz), Nat.zero_le _⟩
  have sz9 : 100 < sizeLine := by decide
  refine ⟨_, rfl, _, rfl, r2, _, 0, _, rfl, rfl, SqT.of (S2 _ _ b0), rfl, _, rfl, r2, _, 1, _, rfl, rfl, SqT.of (S2 _ _ b0), rfl, _, rfl, r2, _, 2, _, rfl, rfl, SqT.of (S2 _ _ b0), rfl, (1 : Int), rfl, bR, _, rfl, SqL.of (S2 _ _ b4), fun u nu => ⟨three, fun t2 nt2 => ?_⟩⟩
  rw [show (1 : Int) = ((1 : Nat) : Int) from rfl, cut_from, ← List.map_drop] at nt2 ⊢
  have S3 := S2.trans (new_same (o := .lst ((rm2.drop 1).map V.str)) nu)
  have hu := upd_same (H := H2) (a := u) (o := .lst ((rm2.drop 1).map V.str))
  have S34 := new_same (o := .tup [V.ref bP, .ref bT, .ref u]) nt2
  have E2 := mk (S3.trans S34) upd_same (S34 _ _ (S3 _ _ b1)) (S34 _ _ hu) (S3.free nt2) (nN nb1) (nx (S2.free nu)) k_drop (by omega)
  have S4 := S3.trans S34
  have S24 := (new_same (o := .lst ((rm2.drop 1).map V.str)) nu).trans S34
  have E1 := fr E1 S24
  have E9 := fr E9 S24
  generalize upd (upd H2 u (.lst ((rm2.drop 1).map V.str))) t2 (.tup [V.ref bP, .ref bT, .ref u]) = H4 at *
  refine ⟨_, rfl, r2, _, 0, _, rfl, rfl, SqT.of (S4 _ _ b0), rfl, one, fun e1 n1 => ⟨bP, e1, _, _, rfl, rfl, new_same n1 _ _ (S4 _ _ b1), upd_same, by rw [List.length_map]; show pl2.length + 1 ≤ sizeLine; omega, fun v nv => ?_⟩⟩
  have Sv := (new_same (o := .lst [V.str farS]) n1).trans (new_same (o := .lst (pl2.map V.str ++ [V.str farS])) nv)
  have hv := upd_same (H := upd H4 e1 (.lst [V.str farS])) (a := v) (o := .lst (pl2.map V.str ++ [V.str farS]))
  have fv := S4.free ((new_same (o := .lst [V.str farS]) n1).free nv)
  rw [show pl2.map V.str ++ [V.str farS] = (pl2 ++ [farS]).map V.str by rw [List.map_append]; rfl] at Sv hv ⊢
  have S5 := S4.trans Sv
  generalize upd (upd H4 e1 (.lst [V.str farS])) v (.lst ((pl2 ++ [farS]).map V.str)) = H5 at *
  refine ⟨_, rfl, r2, _, 1, _, rfl, rfl, SqT.of (S5 _ _ b0), rfl, _, rfl, r2, _, 2, _, rfl, rfl, SqT.of (S5 _ _ b0), rfl, one, fun e2 n2 => ⟨bR, e2, _, _, rfl, rfl, new_same n2 _ _ (S5 _ _ b4), upd_same, by rw [List.length_map]; show rm2.length + 1 ≤ sizeLine; omega, fun w nw => ?_⟩⟩
  have Sw := (new_same (o := .lst [V.str farS]) n2).trans (new_same (o := .lst (rm2.map V.str ++ [V.str farS])) nw)
  have hw := upd_same (H := upd H5 e2 (.lst [V.str farS])) (a := w) (o := .lst (rm2.map V.str ++ [V.str farS]))
  have fw := S5.free ((new_same (o := .lst [V.str farS]) n2).free nw)
  rw [show rm2.map V.str ++ [V.str farS] = (rm2 ++ [farS]).map V.str by rw [List.map_append]; rfl] at Sw hw ⊢
  have S6 := S5.trans Sw
  have hv := Sw _ _ hv
  generalize upd (upd H5 e2 (.lst [V.str farS])) w (.lst ((rm2 ++ [farS]).map V.str)) = H6 at *
  refine ⟨three, fun t3 nt3 => ?_⟩
  have St := new_same (o := .tup [V.ref v, .ref bT, .ref w]) nt3
  have E3 := mk (S6.trans St) upd_same (St _ _ hv) (St _ _ hw) (S6.free nt3) (nx fv) (nx fw) k_0.2.1 k_0.2.2
  have S7 := S6.trans St
  have S47 := (Sv.trans Sw).trans St
  have E1 := fr E1 S47
  have E2 := fr E2 S47
  have E9 := fr E9 S47
  have hF := S47 _ _ (S24 _ _ hF)
  generalize upd H6 t3 (.tup [V.ref v, .ref bT, .ref w]) = H7 at *
  clear Sv Sw St hv hw S47 S24
  refine ⟨three, fun b nb_ => ?_⟩
  have Sb := new_same (o := .lst [V.ref r2, .ref t2, .ref t3]) nb_
  have fb := S7.free nb_
  have E1 := (E1.off nb_).frame fun c o _ e => Sb _ _ e
  have E2 := (E2.off nb_).frame fun c o _ e => Sb _ _ e
  have E3 := (E3.off nb_).frame fun c o _ e => Sb _ _ e
  have E9 := (E9.off nb_).frame fun c o _ e => Sb _ _ e
  have hb := upd_same (H := H7) (a := b) (o := .lst [V.ref r2, .ref t2, .ref t3])
  have S8 := S7.trans Sb
  have hF := Sb _ _ hF
  have nb' : ∀ {c : Addr} {o : HO}, H7 c = some o → c ≠ b := fun h => ne_of_none h nb_
  have bb1 := nb' (S7 _ _ b1)
  have bb2 := nb' (S7 _ _ b2)
  have bb4 := nb' (S7 _ _ b4)
  generalize upd H7 b (.lst [V.ref r2, .ref t2, .ref t3]) = H8 at *
  have q5 : ∀ t, V.ref t ∈ bv → t ≠ b := fun t ht => by
    obtain ⟨i, hi⟩ := List.getElem?_of_mem ht
    have il : i < ts2.length := by rw [← b3.1]; exact (List.getElem?_eq_some_iff.mp hi).1
    obtain ⟨t', e, ht'⟩ := b3.2 i _ _ hi (List.getElem?_eq_getElem il)
    cases e
    exact nb' (S7 _ _ ht')
  have mkb : ∀ {G : Hp} {t a c : Addr} {pl rm : List Str}, Same H G → G t = some (.tup [.ref a, .ref bT, .ref c]) → G a = some (.lst (pl.map V.str)) → G c = some (.lst (rm.map V.str)) → NX t ∧ t ≠ b → NX a ∧ a ≠ b → NX c ∧ c ≠ b → RawOk pl ts2 rm → pl.length ≤ 20 → RawE (fun c => NX c ∧ c ≠ b) G (.ref t) :=
    fun S h1 h2 h3 n1 n2 n3 ok ln => ⟨_, _, _, _, rfl, ⟨_, _, _, bv, h1, h2, S _ _ b2, b3.mono fun t xs h => S _ _ h, h3, n1, n2, ⟨nN nb2, bb2⟩, n3, fun t ht => ⟨nN (nb4 t ht), q5 t ht⟩⟩, ok, ln, l4⟩
  have frb : ∀ {G G' : Hp} {v : V}, RawE (fun c => NX c ∧ c ≠ b) G v → (∀ c o, c ≠ b → G c = some o → G' c = some o) → RawE (fun c => NX c ∧ c ≠ b) G' v := fun h S => h.frame fun c o n e => S _ _ n.2 e
  clear mk fr
  have nP : NX bP ∧ bP ≠ b := ⟨nN nb1, bb1⟩
  have nR : NX bR ∧ bR ≠ b := ⟨nN nb3, bb4⟩
  -- those with what is far
  refine ⟨_, rfl, .inl ⟨rfl, _, SqL.of hb⟩, _, rfl, r2, _, 0, _, rfl, rfl, SqT.of (S8 _ _ b0), rfl, _, rfl, bP, F, _, _, rfl, rfl, S8 _ _ b1, hF, by rw [List.length_map, List.length_map]; omega, fun v4 n4 => ?_⟩
  rw [← List.map_append]
  have Sv := new_same (o := .lst ((pl2 ++ far).map V.str)) n4
  have h4 := upd_same (H := H8) (a := v4) (o := .lst ((pl2 ++ far).map V.str))
  have nv4 : NX v4 ∧ v4 ≠ b := ⟨nx (S8.free n4), (ne_of_none hb n4).symm⟩
  have S9 := S8.trans Sv
  have hb9 := Sv _ _ hb
  have hF9 := Sv _ _ hF
  generalize upd H8 v4 (.lst ((pl2 ++ far).map V.str)) = H9 at *
  refine ⟨_, rfl, r2, _, 1, _, rfl, rfl, SqT.of (S9 _ _ b0), rfl, _, rfl, r2, _, 2, _, rfl, rfl, SqT.of (S9 _ _ b0), rfl, three, fun t4 nt4 => ?_⟩
  have St := new_same (o := .tup [V.ref v4, .ref bT, .ref bR]) nt4
  have nT4 : NX t4 ∧ t4 ≠ b := ⟨nx (S9.free nt4), (ne_of_none hb9 nt4).symm⟩
  have S10 := S9.trans St
  have E4 := mkb S10 upd_same (St _ _ h4) (S10 _ _ b4) nT4 nv4 nR k_far.1 k_far.2.2
  have hb10 := St _ _ hb9
  have hF10 := St _ _ hF9
  have S810 := Sv.trans St
  generalize upd H9 t4 (.tup [V.ref v4, .ref bT, .ref bR]) = H10 at *
  refine ⟨_, rfl, r2, _, 0, _, rfl, rfl, SqT.of (S10 _ _ b0), rfl, _, rfl, bP, F, _, _, rfl, rfl, S10 _ _ b1, hF10, by rw [List.length_map, List.length_map]; omega, fun v5 n5 => ?_⟩
  rw [← List.map_append]
  have Sv := new_same (o := .lst ((pl2 ++ far).map V.str)) n5
  have h5 := upd_same (H := H10) (a := v5) (o := .lst ((pl2 ++ far).map V.str))
  have nv5 : NX v5 ∧ v5 ≠ b := ⟨nx (S10.free n5), (ne_of_none hb10 n5).symm⟩
  have S11 := S10.trans Sv
  have hb11 := Sv _ _ hb10
  have hF11 := Sv _ _ hF10
  generalize upd H10 v5 (.lst ((pl2 ++ far).map V.str)) = H11 at *
  refine ⟨_, rfl, r2, _, 1, _, rfl, rfl, SqT.of (S11 _ _ b0), rfl, _, rfl, r2, _, 2, _, rfl, rfl, SqT.of (S11 _ _ b0), rfl, _, rfl, bR, F, _, _, rfl, rfl, S11 _ _ b4, hF11, by rw [List.length_map, List.length_map]; omega, fun w5 m5 => ⟨three, fun t5 nt5 => ⟨two, fun d1 nd1 => ?_⟩⟩⟩
  rw [← List.map_append] at nt5 nd1 ⊢
  have Sw := new_same (o := .lst ((rm2 ++ far).map V.str)) m5
  have g5 := upd_same (H := H11) (a := w5) (o := .lst ((rm2 ++ far).map V.str))
  have nw5 : NX w5 ∧ w5 ≠ b := ⟨nx (S11.free m5), (ne_of_none hb11 m5).symm⟩
  have S12 := S11.trans Sw
  have hb12 := Sw _ _ hb11
  generalize upd H11 w5 (.lst ((rm2 ++ far).map V.str)) = H12 at *
  have St := new_same (o := .tup [V.ref v5, .ref bT, .ref w5]) nt5
  have nT5 : NX t5 ∧ t5 ≠ b := ⟨nx (S12.free nt5), (ne_of_none hb12 nt5).symm⟩
  have S13 := S12.trans St
  have E5 := mkb S13 upd_same (St _ _ (Sw _ _ h5)) (St _ _ g5) nT5 nv5 nw5 k_far.2.1 k_far.2.2
  have hb13 := St _ _ hb12
  have S1013 := (Sv.trans Sw).trans St
  generalize upd H12 t5 (.tup [V.ref v5, .ref bT, .ref w5]) = H13 at *
  have Sd := new_same (o := .lst [V.ref t4, .ref t5]) nd1
  have hd1 := upd_same (H := H13) (a := d1) (o := .lst [V.ref t4, .ref t5])
  have hb14 := Sd _ _ hb13
  have S14 := S13.trans Sd
  have S1014 := S1013.trans Sd
  have S814 := S810.trans S1014
  have E5 := frb E5 fun c o _ e => Sd _ _ e
  have E4 := frb E4 fun c o _ e => S1014 _ _ e
  have E1 := frb E1 fun c o _ e => S814 _ _ e
  have E2 := frb E2 fun c o _ e => S814 _ _ e
  have E3 := frb E3 fun c o _ e => S814 _ _ e
  have E9 := frb E9 fun c o _ e => S814 _ _ e
  generalize upd H13 d1 (.lst [V.ref t4, .ref t5]) = H14 at *
  refine ⟨b, d1, _, _, rfl, rfl, hb14, hd1, by show 3 + 2 ≤ sizeLine; omega, ?_⟩
  have T : ∀ c o, c ≠ b → H14 c = some o → (upd H14 b (.lst ([V.ref r2, .ref t2, .ref t3] ++ [V.ref t4, .ref t5]))) c = some o := fun c o n e => by rw [upd_ne n]; exact e
  have hb15 := upd_same (H := H14) (a := b) (o := .lst ([V.ref r2, .ref t2, .ref t3] ++ [V.ref t4, .ref t5]))
  have S15 : Same H _ := Same.updN (o := .lst ([V.ref r2, .ref t2, .ref t3] ++ [V.ref t4, .ref t5])) S14 fb
  have E1 := frb E1 T
  have E2 := frb E2 T
  have E3 := frb E3 T
  have E4 := frb E4 T
  have E5 := frb E5 T
  have E9 := frb E9 T
  generalize upd H14 b (.lst ([V.ref r2, .ref t2, .ref t3] ++ [V.ref t4, .ref t5])) = H15 at *
  clear T S814 S1014 S1013 S810 Sd St Sv Sw hF9 hF10 hF11
  refine ⟨_, rfl, .inl ⟨rfl, _, SqL.of hb15⟩, _, rfl, r2, _, 0, _, rfl, rfl, SqT.of (S15 _ _ b0), rfl, _, rfl, one, fun e6 n1 => ⟨bP, e6, _, _, rfl, rfl, new_same n1 _ _ (S15 _ _ b1), upd_same, by rw [List.length_map]; show pl2.length + 1 ≤ sizeLine; omega, fun v6 n6 => ?_⟩⟩
  have Sv := (new_same (o := .lst [V.str z]) n1).trans (new_same (o := .lst (pl2.map V.str ++ [V.str z])) n6)
  have h6 := upd_same (H := upd H15 e6 (.lst [V.str z])) (a := v6) (o := .lst (pl2.map V.str ++ [V.str z]))
  have nv6 : NX v6 ∧ v6 ≠ b := ⟨nx (S15.free ((new_same (o := .lst [V.str z]) n1).free n6)), (ne_of_none (new_same (o := .lst [V.str z]) n1 _ _ hb15) n6).symm⟩
  rw [show pl2.map V.str ++ [V.str z] = (pl2 ++ [z]).map V.str by rw [List.map_append]; rfl] at Sv h6 ⊢
  have S16 := S15.trans Sv
  have hb16 := Sv _ _ hb15
  generalize upd (upd H15 e6 (.lst [V.str z])) v6 (.lst ((pl2 ++ [z]).map V.str)) = H16 at *
  refine ⟨_, rfl, r2, _, 1, _, rfl, rfl, SqT.of (S16 _ _ b0), rfl, _, rfl, r2, _, 2, _, rfl, rfl, SqT.of (S16 _ _ b0), rfl, three, fun t6 nt6 => ?_⟩
  have St := new_same (o := .tup [V.ref v6, .ref bT, .ref bR]) nt6
  have nT6 : NX t6 ∧ t6 ≠ b := ⟨nx (S16.free nt6), (ne_of_none hb16 nt6).symm⟩
  have S17 := S16.trans St
  have E6 := mkb S17 upd_same (St _ _ h6) (S17 _ _ b4) nT6 nv6 nR k_z.1 k_z.2.2
  have hb17 := St _ _ hb16
  have S1517 := Sv.trans St
  generalize upd H16 t6 (.tup [V.ref v6, .ref bT, .ref bR]) = H17 at *
  -- nothing at all
  refine ⟨Nat.zero_le _, fun x1 m1 => ⟨Nat.zero_le _, fun x2 m2 => ⟨Nat.zero_le _, fun x3 m3 => ⟨three, fun t7 m4 => ?_⟩⟩⟩⟩
  have U1 := new_same (o := .lst []) m1
  have U2 := U1.trans (new_same (o := .lst []) m2)
  have U3 := U2.trans (new_same (o := .lst []) m3)
  have U4 := U3.trans (new_same (o := .tup [V.ref x1, .ref x2, .ref x3]) m4)
  have y1 := new_same (o := .tup [V.ref x1, .ref x2, .ref x3]) m4 _ _ (new_same (o := .lst []) m3 _ _ (new_same (o := .lst []) m2 _ _ (upd_same (H := H17) (a := x1) (o := .lst []))))
  have y2 := new_same (o := .tup [V.ref x1, .ref x2, .ref x3]) m4 _ _ (new_same (o := .lst []) m3 _ _ (upd_same (H := upd H17 x1 (.lst [])) (a := x2) (o := .lst [])))
  have y3 := new_same (o := .tup [V.ref x1, .ref x2, .ref x3]) m4 _ _ (upd_same (H := upd (upd H17 x1 (.lst [])) x2 (.lst [])) (a := x3) (o := .lst []))
  have w1 : NX x1 ∧ x1 ≠ b := ⟨nx (S17.free m1), (ne_of_none hb17 m1).symm⟩
  have w2 : NX x2 ∧ x2 ≠ b := ⟨nx (S17.free (U1.free m2)), (ne_of_none (U1 _ _ hb17) m2).symm⟩
  have w3 : NX x3 ∧ x3 ≠ b := ⟨nx (S17.free (U2.free m3)), (ne_of_none (U2 _ _ hb17) m3).symm⟩
  have w4 : NX t7 ∧ t7 ≠ b := ⟨nx (S17.free (U3.free m4)), (ne_of_none (U3 _ _ hb17) m4).symm⟩
  have E7 : RawE (fun c => NX c ∧ c ≠ b) _ (.ref t7) := ⟨t7, [], [], [], rfl, ⟨x1, x2, x3, [], upd_same (H := upd (upd (upd H17 x1 (.lst [])) x2 (.lst [])) x3 (.lst [])) (o := .tup [V.ref x1, .ref x2, .ref x3]), y1, y2, PrsAt.nil, y3, w4, w1, w2, w3, fun t ht => by cases ht⟩, okNone, Nat.zero_le _, Nat.zero_le _⟩
  have S18 := S17.trans U4
  have hb18 := U4 _ _ hb17
  have E6 := frb E6 fun c o _ e => U4 _ _ e
  have S1518 := S1517.trans U4
  generalize upd (upd (upd (upd H17 x1 (.lst [])) x2 (.lst [])) x3 (.lst [])) t7 (.tup [V.ref x1, .ref x2, .ref x3]) = H18 at *
  clear U1 U2 U3 U4 y1 y2 y3 w1 w2 w3 w4
  -- no ties, the rim turned round
  refine ⟨_, rfl, r2, _, 0, _, rfl, rfl, SqT.of (S18 _ _ b0), rfl, Nat.zero_le _, fun x4 m5 => ?_⟩
  have U1 := new_same (o := .lst []) m5
  have S19 := S18.trans U1
  refine ⟨_, rfl, r2, _, 2, _, rfl, rfl, SqT.of (S19 _ _ b0), rfl, bR, _, rfl, SqL.of (S19 _ _ b4), fun x5 m6 => ⟨three, fun t8 m7 => ⟨_, rfl, by show 4 ≤ sizeLine; omega, fun d2 m8 => ?_⟩⟩⟩
  rw [← List.map_reverse] at m7 m8 ⊢
  have U2 := U1.trans (new_same (o := .lst (rm2.reverse.map V.str)) m6)
  have U3 := U2.trans (new_same (o := .tup [V.ref bP, .ref x4, .ref x5]) m7)
  have U4 := U3.trans (new_same (o := .lst [V.ref t6, .ref t7, .ref t8, .ref r1]) m8)
  have S7' := new_same (o := .tup [V.ref bP, .ref x4, .ref x5]) m7
  have y1 := S7' _ _ (new_same (o := .lst (rm2.reverse.map V.str)) m6 _ _ (upd_same (H := H18) (a := x4) (o := .lst [])))
  have y2 := S7' _ _ (upd_same (H := upd H18 x4 (.lst [])) (a := x5) (o := .lst (rm2.reverse.map V.str)))
  have w1 : NX x4 ∧ x4 ≠ b := ⟨nx (S18.free m5), (ne_of_none hb18 m5).symm⟩
  have w2 : NX x5 ∧ x5 ≠ b := ⟨nx (S18.free (U1.free m6)), (ne_of_none (U1 _ _ hb18) m6).symm⟩
  have w3 : NX t8 ∧ t8 ≠ b := ⟨nx (S18.free (U2.free m7)), (ne_of_none (U2 _ _ hb18) m7).symm⟩
  have E8 : RawE (fun c => NX c ∧ c ≠ b) _ (.ref t8) := ⟨t8, pl2, [], rm2.reverse, rfl, ⟨bP, x4, x5, [], upd_same (H := upd (upd H18 x4 (.lst [])) x5 (.lst (rm2.reverse.map V.str))) (o := .tup [V.ref bP, .ref x4, .ref x5]), (S18.trans U3) _ _ b1, y1, PrsAt.nil, y2, w3, nP, w1, w2, fun t ht => by cases ht⟩, k_rev, by omega, Nat.zero_le _⟩
  have hd2 := upd_same (H := upd (upd (upd H18 x4 (.lst [])) x5 (.lst (rm2.reverse.map V.str))) t8 (.tup [V.ref bP, .ref x4, .ref x5])) (a := d2) (o := .lst [V.ref t6, .ref t7, .ref t8, .ref r1])
  have E8 := frb E8 fun c o _ e => new_same (o := .lst [V.ref t6, .ref t7, .ref t8, .ref r1]) m8 _ _ e
  have S20 := S18.trans U4
  have hb20 := U4 _ _ hb18
  have E7 := frb E7 fun c o _ e => U4 _ _ e
  have E6 := frb E6 fun c o _ e => U4 _ _ e
  have S1520 := S1518.trans U4
  generalize upd (upd (upd (upd H18 x4 (.lst [])) x5 (.lst (rm2.reverse.map V.str))) t8 (.tup [V.ref bP, .ref x4, .ref x5])) d2 (.lst [V.ref t6, .ref t7, .ref t8, .ref r1]) = H20 at *
  clear U1 U2 U3 U4 y1 y2 w1 w2 w3
  have T : ∀ c o, c ≠ b → H20 c = some o → (upd H20 b (.lst (([V.ref r2, .ref t2, .ref t3] ++ [V.ref t4, .ref t5]) ++ [V.ref t6, .ref t7, .ref t8, .ref r1]))) c = some o := fun c o n e => by rw [upd_ne n]; exact e
  have T15 : ∀ c o, c ≠ b → H15 c = some o → (upd H20 b (.lst (([V.ref r2, .ref t2, .ref t3] ++ [V.ref t4, .ref t5]) ++ [V.ref t6, .ref t7, .ref t8, .ref r1]))) c = some o := fun c o n e => T c o n (S1520 _ _ e)
  refine ⟨b, d2, _, _, rfl, rfl, hb20, hd2, by show 5 + 4 ≤ sizeLine; omega, ?_⟩
  refine ⟨_, rfl, k b _ _ fb upd_same rfl (fun v hv => ?_) (Same.updN S20 fb)⟩
  have E1 := frb E1 T15
  have E2 := frb E2 T15
  have E3 := frb E3 T15
  have E4 := frb E4 T15
  have E5 := frb E5 T15
  have E9 := frb E9 T15
  have E6 := frb E6 T
  have E7 := frb E7 T
  have E8 := frb E8 T
  rw [eNX] at E1 E2 E3 E4 E5 E6 E7 E8 E9
  simp only [List.mem_append, List.mem_cons, List.not_mem_nil, or_false] at hv
  rcases hv with ((h | h | h) | h | h) | h | h | h | h <;> subst h <;> assumption
end
end E1

set_option Elab.async false
set_option linter.all false
set_option maxRecDepth 100000
set_option maxHeartbeats 8000000
/-! A board that is as a raw one says, as the law looks. -/
namespace E1
open PySem PySem.Spec PyProof.Rows L2 G0
def upTs (f : Str → List Str) (P : List Str) : List Pr := P.flatMap fun s => ((f s).filter fun o => ltS s o).map fun o => ((s, o) : Pr)
theorem upTs_snoc (f : Str → List Str) (P : List Str) (s : Str) : upTs f (P ++ [s]) = upTs f P ++ ((f s).filter fun o => ltS s o).map fun o => ((s, o) : Pr) := by
  unfold upTs
  rw [List.flatMap_append]
  simp
theorem upTs_len (f : Str → List Str) (P : List Str) (i : Nat) : (upTs f (P.take i)).length ≤ (upTs f P).length := by
  conv => rhs; rw [← List.take_append_drop i P]
  unfold upTs
  rw [List.flatMap_append, List.length_append]
  omega
theorem sm_str {C : Addr} {n : Nat} {z : Str} {H : Hp} : SmN C (n + 1) (.str z) (.str z) H := .inl ⟨rfl, rfl⟩
theorem sm_strs {C : Addr} {n : Nat} {H : Hp} {a b : Addr} {ss : List Str} (ha : H a = some (.lst (ss.map V.str))) (hb : H b = some (.lst (ss.map V.str))) (l : ss.length ≤ 2000) : SmN C (n + 2) (.ref a) (.ref b) H :=
  .inr (.inr (.inl ⟨a, b, _, _, rfl, rfl, .inl ⟨ha, hb⟩, rfl, by rw [List.length_map]; exact l, fun i x y h1 h2 => by
    rw [h1] at h2
    cases h2
    obtain ⟨z, _, rfl⟩ := List.mem_map.mp (List.mem_of_getElem? h1)
    exact sm_str⟩))
theorem sm_prs {C : Addr} {n : Nat} {H : Hp} {a b : Addr} {xs ys : List V} {ps : List Pr} (ha : H a = some (.lst xs)) (hb : H b = some (.lst ys)) (px : PrsAt H xs ps) (py : PrsAt H ys ps) (l : ps.length ≤ 2000) : SmN C (n + 3) (.ref a) (.ref b) H :=
  .inr (.inr (.inl ⟨a, b, _, _, rfl, rfl, .inl ⟨ha, hb⟩, px.1.trans py.1.symm, by rw [px.1]; exact l, fun i x y h1 h2 => by
    have il : i < ps.length := by
      rw [← px.1]
      exact (List.getElem?_eq_some_iff.mp h1).1
    obtain ⟨t, rfl, ht⟩ := px.2 i x _ h1 (List.getElem?_eq_getElem il)
    obtain ⟨u, rfl, hu⟩ := py.2 i y _ h2 (List.getElem?_eq_getElem il)
    exact .inr (.inr (.inl ⟨t, u, _, _, rfl, rfl, .inr ⟨ht, hu⟩, rfl, by show 2 ≤ 2000; decide, fun j x y h1 h2 => by
      rw [h1] at h2
      cases h2
      match j, h1 with
      | 0, h1 => cases h1; exact sm_str
      | 1, h1 => cases h1; exact sm_str⟩))⟩))
abbrev N_isB : List Str := ["_law_board", "_law_near", "_law_rim", "_law_ties", "_law_one", "_law_other"]
theorem sc_isB : FnScope N_isB ["_law_board", "_law_near", "_law_rim"] (defScope (topS 45)) := ⟨rfl, rfl, rfl, by decide +kernel, rfl, by decide +kernel, by decide +kernel⟩
def spIsB (C : Addr) : Sp := fun vs H Q _ => ∃ (x q a : Addr) (N : Addr → Prop) (pl : List Str) (ts : List Pr) (rm : List Str) (f : Str → List Str) (l : Str → Addr), vs = [.ref x, .ref q, .ref a] ∧ BoardAt N C H x pl ts rm ∧ NearAt H q pl f l ∧ H a = some (.lst (rm.map V.str)) ∧ ts = upTs f pl ∧
  pl.length ≤ 1000 ∧ ts.length ≤ 1000 ∧ rm.length ≤ 1000 ∧ (∀ s ∈ pl, (f s).length ≤ 1000) ∧ ∀ H', Same H H' → Q (.bl true) H'
section
variable {P : Program} {w : World} {K : PySem.W.Frag} {mg : Str → Option Value} {base : Heap}
theorem bIsB (Z : LawD K mg) : Binds K (Z.d 45) ["_law_board", "_law_near", "_law_rim"] [] := (Z.F 45 (by decide)).binds fun _ _ _ _ _ _ us hl => match us, hl with | [_, _, _], _ => rfl
theorem ok_isB (Z : LawD K mg) : FnOk P w K mg base CX0 5 (Z.f 45) (Z.d 45) ["_law_board", "_law_near", "_law_rim"] (spIsB Z.B.C) := by
  have GS : FnOk P w K mg base CX0 4 (Z.f 56) (Z.d 56) ["_law_found", "_law_due_here"] (spSame (SmN Z.B.C 3)) := ok_same Z 3
  have GB2 : FnOk P w K mg base CX0 1 (Z.B.f 2) (Z.B.d 2) ["self"] (spPlaces Z.B.C) := ok_places Z.B Z.t
  have GB3 : FnOk P w K mg base CX0 1 (Z.B.f 3) (Z.B.d 3) ["self"] (spTies Z.B.C) := ok_ties Z.B Z.t
  have GB4 : FnOk P w K mg base CX0 1 (Z.B.f 4) (Z.B.d 4) ["self"] (spRim Z.B.C) := ok_rim Z.B Z.t
  refine Fun.ok (Z.F 45 (by decide)) sc_isB (fun vs H Q E h => ?_) (fun cdv A outer s H vs Q E hr h => ⟨_, pss_cons (ps_if (PW.pt (pw_or (pt_not (pt_val (pe_callB call_isi (by rfl) Z.t.isinstance (by decide +kernel) (pa_cons (pv 0) (pa_cons (pe_glob (by rfl) Z.B.g (v := .ref Z.B.C) rfl) pa_nil))))) (pw_or1 (pt_not (pt_val (pe_call GS (hr.mono (by decide)) (by rfl) (Z.g 56 (by decide)) (Z.F 56 (by decide)).kp (bSame Z) .nil pass0 (pa_cons (pe_lst (pa_cons (pe_meth0 (pv 0) Z.B.O.cl Z.B.M2 GB2 (hr.mono (by decide)) (b_m2 Z.B) .nil pass0) (pa_cons (pe_meth0 (pv 0) Z.B.O.cl Z.B.M4 GB4 (hr.mono (by decide)) (b_m4 Z.B) .nil pass0) pa_nil))) (pa_cons (pe_lst (pa_cons (pe_callTy (call_listD rfl) (by rfl) Z.t.list PyProof.Rows.boot_list (pa_cons (pv 1) pa_nil)) (pa_cons (pe_callTy call_list_of (by rfl) Z.t.list PyProof.Rows.boot_list (pa_cons (pv 2) pa_nil)) pa_nil))) pa_nil)))))))) (pss_one (ps_ret pe_bl)) pss_nil)
  (pss_cons (ps_set (i := 3) sc_isB.nd rfl (Or.inl rfl) (pe_lst pa_nil))
  (pss_cons (ps_lock (ps_for PassesOwn.never rfl (pi_keys (pv 1)) (pg_name (i := 4) sc_isB.nd rfl (Or.inr rfl))
    (pss_one (ps_expr (pe_bm PySem.F.plainAttrs_list PySem.F.slot_list_extend PySem.F.type_list_extend mt_extend (pv 3) (pa_cons (pe_lc (own := [("_law_other", 5)]) (tt := _) rfl sc_isB.nd (pi_list (pe_dget (hu_of hr) (pv 1) (pv 4) (fun _ _ => rfl))) (blkOk_by (own := [("_law_other", 5)]) (N := N_isB) (sc := defScope (topS 45)) (by decide +kernel)) (fun _ _ _ _ _ => (pg_name (i := 5) sc_isB.nd rfl (Or.inl rfl))) (fun _ _ _ _ _ => (pts_one (pt_cmpR op_lt_str (pv 4) (pv 5) (nomark _)))) (fun _ _ _ _ _ => (pe_tup (pa_cons (pv 4) (pa_cons (pv 5) pa_nil))))) pa_nil))))))
  (pss_one (ps_ret (pe_call GS (hr.mono (by decide)) (by rfl) (Z.g 56 (by decide)) (Z.F 56 (by decide)).kp (bSame Z) .nil pass0 (pa_cons (pe_meth0 (pv 0) Z.B.O.cl Z.B.M3 GB3 (hr.mono (by decide)) (b_m3 Z.B) .nil pass0) (pa_cons (pv 3) pa_nil))))))), ?_⟩)
  · obtain ⟨x, q, a, N, pl, ts, rm, f, l, rfl, _⟩ := h
    rfl
  obtain ⟨x, q, a, N, pl, ts, rm, f, l, rfl, B0, N0, ha, ets, l1, l2, l3, l4, k⟩ := h
  have sz : 5000 < sizeLine := by decide
  have B : BoardAt (fun _ => True) Z.B.C H x pl ts rm := B0.weak fun _ _ => trivial
  obtain ⟨dx, aP, aT, aR, aN, tv, l0, h1, _⟩ := id B
  refine ⟨_, rfl, .ref x, _, _, _, true, rfl, .own _, .base (.ins h1 Z.B.O.cl Z.B.O.ha Z.B.O.hn Z.B.O.htk Z.B.O.hm), by unfold PySem.W.kitOne; simp, _, rfl, iteF ?_⟩
  refine ⟨_, rfl, x, dx, _, rfl, h1, rfl, x, pl, ts, rm, rfl, B, fun p1 n1 => ?_⟩
  have T1 := new_same (o := .lst (pl.map V.str)) n1
  refine ⟨_, rfl, x, dx, _, rfl, T1 _ _ h1, rfl, x, pl, ts, rm, rfl, B.same T1, fun p2 n2 => ?_⟩
  have T2 := T1.trans (new_same (o := .lst (rm.map V.str)) n2)
  have e1 := new_same (o := .lst (rm.map V.str)) n2 _ _ (upd_same (H := H) (a := p1) (o := .lst (pl.map V.str)))
  have e2 := upd_same (H := upd H p1 (.lst (pl.map V.str))) (a := p2) (o := .lst (rm.map V.str))
  generalize upd (upd H p1 (.lst (pl.map V.str))) p2 (.lst (rm.map V.str)) = H2 at T2 e1 e2 ⊢
  refine ⟨by show 2 ≤ sizeLine; decide, fun p3 n3 => ?_⟩
  have S3 := new_same (o := .lst [.ref p1, .ref p2]) n3
  have T3 := T2.trans S3
  refine ⟨_, rfl, q, _, rfl, .inl (T3 _ _ N0.d), fun p4 n4 => ?_⟩
  rw [show ((pl.map fun s => ((Sum.inr s : Key), V.ref (l s))).map fun kv => kV kv.1) = pl.map V.str by rw [List.map_map]; rfl]
  have S4 := S3.trans (new_same (o := .lst (pl.map V.str)) n4)
  have T4 := T2.trans S4
  refine ⟨_, rfl, a, _, rfl, .inl (SqL.of (T4 _ _ ha)), fun p5 n5 => ?_⟩
  have S5 := S4.trans (new_same (o := .lst (rm.map V.str)) n5)
  refine ⟨by show 2 ≤ sizeLine; decide, fun p6 n6 => ?_⟩
  have S6 := S5.trans (new_same (o := .lst [.ref p4, .ref p5]) n6)
  have T6 := T2.trans S6
  have g1 := S6 _ _ e1
  have g2 := S6 _ _ e2
  have g3 := new_same n6 (o := .lst [.ref p4, .ref p5]) _ _ (new_same n5 (o := .lst (rm.map V.str)) _ _ (new_same n4 (o := .lst (pl.map V.str)) _ _ (upd_same (H := H2) (a := p3) (o := .lst [.ref p1, .ref p2]))))
  have g4 := new_same n6 (o := .lst [.ref p4, .ref p5]) _ _ (new_same n5 (o := .lst (rm.map V.str)) _ _ (upd_same (H := upd H2 p3 (.lst [.ref p1, .ref p2])) (a := p4) (o := .lst (pl.map V.str))))
  have g5 := new_same n6 (o := .lst [.ref p4, .ref p5]) _ _ (upd_same (H := upd (upd H2 p3 (.lst [.ref p1, .ref p2])) p4 (.lst (pl.map V.str))) (a := p5) (o := .lst (rm.map V.str)))
  have g6 := upd_same (H := upd (upd (upd H2 p3 (.lst [.ref p1, .ref p2])) p4 (.lst (pl.map V.str))) p5 (.lst (rm.map V.str))) (a := p6) (o := .lst [.ref p4, .ref p5])
  generalize upd (upd (upd (upd H2 p3 (.lst [.ref p1, .ref p2])) p4 (.lst (pl.map V.str))) p5 (.lst (rm.map V.str))) p6 (.lst [.ref p4, .ref p5]) = H6 at S6 T6 g1 g2 g3 g4 g5 g6 ⊢
  refine ⟨.ref p3, .ref p6, rfl, .inr (.inr (.inl ⟨p3, p6, _, _, rfl, rfl, .inl ⟨g3, g6⟩, rfl, by show 2 ≤ 2000; decide, fun i x y h1 h2 => ?_⟩)), fun H7 S7 => ⟨_, rfl, iteF ⟨Nat.zero_le _, fun b nb => ?_⟩⟩⟩
  · match i, h1, h2 with
    | 0, h1, h2 => cases h1; cases h2; exact sm_strs g1 g4 (by omega)
    | 1, h1, h2 => cases h1; cases h2; exact sm_strs g2 g5 (by omega)
  have T7 := T6.trans S7
  have T8 := T7.trans (new_same (o := .lst []) nb)
  have b8 := upd_same (H := H7) (a := b) (o := .lst [])
  have nbH := T7.free nb
  generalize upd H7 b (.lst []) = H8 at T8 b8 ⊢
  have N8 := N0.mono T8
  have qb : q ≠ b := ne_of_none N0.d nbH
  refine ⟨q, _, N8.d, trivial, fun od => ⟨_, rfl, q, od, rfl, .inl ⟨_, upd_same, for_it walk_keys (fun i σ H' => ∃ v4 v5 tv, σ = [some (.ref x), some (.ref q), some (.ref a), some (.ref b), v4, v5] ∧ H' b = some (.lst tv) ∧ PrsAt H' tv (upTs f (pl.take i)) ∧ (∀ t, V.ref t ∈ tv → t ≠ q) ∧ H' q = some (.frz od (.dK (pl.map fun s => (Sum.inr s, V.ref (l s))))) ∧ (∀ c o, H c = some o → c ≠ q → H' c = some o)) ⟨none, none, [], rfl, by rw [upd_ne qb.symm]; exact b8, PrsAt.nil, (fun t ht => by cases ht), upd_same, fun c o e n => by rw [upd_ne n]; exact T8 _ _ e⟩ ?_ ?_ ?_⟩⟩⟩
  · rintro i σ H' hi ⟨v4, v5, tv, rfl, _, _, _, hq, _⟩
    exact hq
  · rintro i y σ H' H3 hi ⟨v4, v5, tv, rfl, hb, pt, nt, hq, B'⟩ ⟨rfl, kk, vv, hkv, rfl⟩
    rw [List.getElem?_map] at hkv
    cases es : pl[i]? with
    | none => rw [es] at hkv; cases hkv
    | some s =>
    rw [es] at hkv
    cases hkv
    have hs : s ∈ pl := List.mem_of_getElem? es
    have lq : l s ≠ q := N0.ne hs
    have dg : DGet H3 q (.str s) (some (V.ref (l s))) := .inl ⟨_, Sum.inr s, .inr ⟨od, hq⟩, rfl, (map_val (fun s => V.ref (l s)) hs).symm⟩
    have hl := B' _ _ (N0.at_ s hs) lq
    refine ⟨_, rfl, .inl ⟨rfl, _, SqL.of hb⟩, _, rfl, _, rfl, q, _, rfl, dg, l s, rfl, ⟨_, SqL.of hl⟩, fun D hD => ?_⟩
    have bD : b ≠ D := ne_of_none hb hD
    have qD : q ≠ D := ne_of_none hq hD
    have SD := new_same (o := .lst []) hD
    refine lc_list (xs := (f s).map V.str) (fun j H' => ∃ acc, H' D = some (.lst acc) ∧ PrsAt H' acc ((((f s).take j).filter fun o => ltS s o).map fun o => ((s, o) : Pr)) ∧ (∀ t, V.ref t ∈ acc → H3 t = none) ∧ (∀ c o, H3 c = some o → H' c = some o)) ⟨[], upd_same, by rw [List.take_zero]; exact PrsAt.nil, (fun t ht => by cases ht), SD⟩ (fun j H' _ ⟨_, _, _, _, S⟩ => SqL.of (S _ _ hl)) ?_ ?_
    · rintro j y H' hy ⟨acc, hacc, pa, fa, S⟩
      rw [List.getElem?_map] at hy
      cases eo : (f s)[j]? with
      | none => rw [eo] at hy; cases hy
      | some o =>
      rw [eo] at hy
      cases hy
      have jl := (List.getElem?_eq_some_iff.mp eo).1
      have la := pa.1
      rw [List.length_map] at la
      have lf := List.length_filter_le (fun o => ltS s o) ((f s).take j)
      rw [List.length_take] at lf
      have ls := l4 s hs
      refine ⟨rfl, _, rfl, _, rfl, s, o, rfl, rfl, _, rfl, ?_⟩
      rw [take_snoc eo, List.filter_append]
      refine ite2 (fun c => ?_) (fun c => ?_)
      · have c' : ltS s o = true := c
        refine ⟨_, rfl, _, rfl, by show 2 ≤ sizeLine; decide, fun T nT => ?_⟩
        have ST := new_same (o := .tup [.str s, .str o]) nT
        have aT := ST _ _ hacc
        refine ⟨acc, aT, by omega, acc ++ [.ref T], upd_same, ?_, ?_, ?_⟩
        · rw [show List.filter (fun o => ltS s o) [o] = [o] from List.filter_cons_of_pos (p := fun o => ltS s o) (l := []) c', List.map_append]
          refine prs_upd (prs_snoc (pa.mono fun t xs h => ST _ _ h) upd_same) (fun xs e => ?_)
          exact absurd (aT.symm.trans (show (upd H' T (.tup [.str s, .str o])) D = some (.tup xs) from e)) (by intro z; cases z)
        · intro t ht
          rcases List.mem_append.mp ht with h | h
          · exact fa t h
          · cases List.mem_singleton.mp h
            exact Same.free S nT
        · exact fun c u e => by
            rw [upd_ne (ne_of_none e hD)]
            exact ST _ _ (S _ _ e)
      · have c' : ¬ ltS s o = true := c
        rw [show List.filter (fun o => ltS s o) [o] = [] from List.filter_cons_of_neg (p := fun o => ltS s o) (l := []) c', List.append_nil]
        exact ⟨acc, hacc, pa, fa, S⟩
    rintro H4 ⟨acc, hacc, pa, fa, S⟩
    rw [List.length_map, List.take_length] at pa
    have hb4 := S _ _ hb
    have hq4 := S _ _ hq
    have pp := prs_app (pt.mono fun t xs h => S _ _ h) pa
    rw [← upTs_snoc, ← take_snoc es] at pp
    have lu := upTs_len f pl (i + 1)
    have lp := pp.1
    rw [List.length_append] at lp
    rw [← ets] at lu
    refine ⟨b, D, tv, acc, rfl, rfl, hb4, hacc, by omega, _, _, tv ++ acc, rfl, upd_same, ?_, ?_, ?_, ?_⟩
    · exact prs_upd pp (fun xs e => by rw [hb4] at e; cases e)
    · intro t ht
      rcases List.mem_append.mp ht with h | h
      · exact nt t h
      · exact (ne_of_none hq (fa t h)).symm
    · rw [upd_ne qb]
      exact hq4
    · exact fun c o e n => by
        rw [upd_ne (ne_of_none e nbH)]
        exact S _ _ (B' c o e n)
  · rintro σ H' ⟨v4, v5, tv, rfl, hb, pt, nt, hq, B'⟩
    rw [List.length_map, List.take_length, ← ets] at pt
    have SF : Same H (upd H' q (.dK (pl.map fun s => ((Sum.inr s : Key), V.ref (l s))))) := fun c o e => by
      by_cases z : c = q
      · rw [z] at e ⊢
        rw [N0.d] at e
        cases e
        exact upd_same
      · rw [upd_ne z]
        exact B' c o e z
    have hbF : (upd H' q (.dK (pl.map fun s => ((Sum.inr s : Key), V.ref (l s))))) b = some (.lst tv) := by
      rw [upd_ne qb.symm]
      exact hb
    have ptF : PrsAt (upd H' q (.dK (pl.map fun s => ((Sum.inr s : Key), V.ref (l s))))) tv ts := pt.mono fun t xs h => by
      rw [upd_ne (fun z => by rw [z, hq] at h; cases h)]
      exact h
    refine ⟨hq, _, rfl, x, dx, _, rfl, SF _ _ h1, rfl, x, pl, ts, rm, rfl, B.same SF, fun p7 tv7 n7 pt7 => ⟨_, rfl, .ref p7, .ref b, rfl, ?_, fun H9 S9 => k H9 ((SF.trans (new_same n7)).trans S9)⟩⟩
    have S7 := new_same (o := .lst tv7) n7
    exact sm_prs upd_same (S7 _ _ hbF) (pt7.mono fun t xs h => S7 _ _ h) (ptF.mono fun t xs h => S7 _ _ h) (by omega)
end
end E1

set_option Elab.async false
set_option linter.all false
set_option maxRecDepth 100000
set_option maxHeartbeats 4000000
/-! A dict is no text: !=. -/
namespace PySem.SeqAt
open AutoSeq1 (wpAny_loadPart')
open MeetsSeq MeetsSeq2 MeetsSeq3 PyProof.Rows PySem.Spec
theorem str_ne_declines_dict (b : Str) (u : Tok) (l : Addr) (c : Value) (items : Array DictEntry) (n : Nat) (dd : Option Addr) (sl : Array (Option Value)) :
    Meets (Builtin.«str.__ne__» ⟨[.str b u, .ref l], []⟩) (fun _ R s => s.heap.get? l = some { cls := c, dict := dd, data := .dict items n, slots := sl } ∧ R (.ok (.ret .notImplemented)) s) :=
  .of_wp fun prog w A R s h => by obtain ⟨hp, g, d, tk, os⟩ := s; obtain ⟨hl, h⟩ := h; wp_walk using wpAny_loadPart' hl, wpAny_load hl; exact ⟨_, rfl, h⟩
section
variable {prog : Program} {w : World} {K : Type} [DecidableEq K] {knd : KeyKind prog w K} {A : Around} {E : Value → Shared → Prop} {s : Shared}
theorem ne_dict_str {a : Addr} {ka : List (K × Value)} {b : Str} {u : Tok} {Q : Value → Shared → Prop} (da : s.heap.DictOf knd a ka) (hu : A.units < cLine) (h : Q (.bool true) s) :
    wpAny (model prog w) A (compareOp .NotEq (.ref a) (.str b u)) Q E s := by
  show wpAny _ A (richCompare .NotEq _ _) Q E s
  refine rc_ne_decline_or (k := false) da.typeIs (typeIs_str s b u) (by decide) F.sub_str_dict F.slot_dict_ne F.slot_str_ne_refl (fun Q' hq => ?_) (fun Q' hq => ?_)
    (fun _ hq => wpAny_of_eq (rfl : isSame (.ref a) (.str b u) = pure false) hq) (.inr hu) h
  · refine wpAny_call_entry F.slot_dict_ne da.typeIs F.entry_dict_ne ?_ (F.args_dict_ne_2 _ _)
    show wpAny _ _ (Builtin.Dict.dictSlotArgs "__ne__" ⟨[.ref a, .str b u], []⟩ >>= _) _ _ s
    refine wpAny_bind ?_
    unfold Builtin.Dict.dictSlotArgs
    refine wpAny_bind (wpAny_notOrdered_dict da.typeIs ?_)
    show wpAny _ _ (pure (Value.ref a, Value.str b u)) _ _ s
    refine wpAny_pure ?_
    refine wpAny_bind (wpAny_isInstance (T := "str") (typeIs_str s b u) F.sub_str_dict ?_)
    simp only [Bool.not_false, if_true]
    refine wpAny_bind (wpAny_rule ?_)
    exact wpAny_pure ⟨_, rfl, hq⟩
  · obtain ⟨⟨cls, dd, data, sl⟩, es, ep, ho, hc, hd, _⟩ := id da
    simp only at hd
    subst hd
    exact call_meets F.slot_str_ne_refl (typeIs_str s b u) F.entry_str_ne (F.args_str_ne_2 _ _) (str_ne_declines_dict b u a cls es ep dd sl) ⟨ho, hq⟩
end
end PySem.SeqAt
namespace L2
open PySem PyProof.Rows
/-- x != a text, x a scalar, a list, a tuple or a dict -/
def rNeO (K : PySem.W.Frag) : R2 := fun x y H Q => rNe x y H Q ∨ rNeD K x y H Q ∨ ∃ a z ks, x = .ref a ∧ y = .str z ∧ H a = some (.dK ks) ∧ Q (.bl true) H
theorem op_neO {X : Cx} (hu : X.A.units + 64 < cLine) : OpR X (compareOp .NotEq) (rNeO X.K) := by
  intro pins s σ H x y v u Q I rx ry h
  rcases h with h | h | ⟨a, z, ks, rfl, rfl, ha, q⟩
  · exact op_ne pins s σ H x y v u Q I rx ry h
  · exact op_neD hu pins s σ H x y v u Q I rx ry h
  · obtain rfl : v = Value.ref a := rx
    obtain ⟨t, rfl⟩ := ry
    obtain ⟨_, _, va, _, da⟩ := (show ObjOk X.prog X.w H s.heap a (.dK ks) from I.hok a _ ha)
    exact PySem.SeqAt.ne_dict_str (knd := mixKind X.prog X.w) da (by omega) ⟨.bl true, H, I, rfl, q⟩
end L2

set_option Elab.async false
set_option linter.all false
set_option maxRecDepth 100000
set_option maxHeartbeats 16000000
/-! What is no board, no place, or a pin, is refused. -/
namespace E1
open PySem PySem.Spec PyProof.Rows L2 G0 LamX
abbrev N_ref : List Str := ["_law_board", "_law_rim", "_law_held", "_law_odd", "_law_pin", "_law_found"]
theorem sc_ref : FnScope N_ref ["_law_board", "_law_rim"] (defScope (topS 63)) := ⟨rfl, rfl, rfl, by decide +kernel, rfl, by decide +kernel, by decide +kernel⟩
def qRef : Str := "_law_refused_right.<locals>.<lambda>"
abbrev noS : Str := "nobody"
def spRef (T : List (Addr × Str)) (C : Addr) : Sp := fun vs H Q _ => ∃ (p l x a : Addr) (n : Nat) (pl : List Str) (ts : List Pr) (rm : List Str), vs = [.ref x, .ref a] ∧ Stm H p l n ∧ Tabs T H ∧ BoardAt (fun c => c ≠ p ∧ c ≠ l) C H x pl ts rm ∧ H a = some (.lst (rm.map V.str)) ∧ a ≠ p ∧ a ≠ l ∧ pl.length ≤ 44 ∧ Few pl ts rm ∧ (∀ z ∈ rm, z ∈ pl) ∧ noS ∉ pl ∧
  ∀ H', Kx T p l n H H' → Q (.bl true) H'
section
variable {P : Program} {w : World} {K : PySem.W.Frag} {mg : Str → Option Value} {base : Heap}
theorem bRefused (Z : LawD K mg) : Binds K (Z.d 63) ["_law_board", "_law_rim"] [] := (Z.F 63 (by decide)).binds fun _ _ _ _ _ _ us hl => match us, hl with | [_, _], _ => rfl
theorem ok_ref (Z : LawD K mg) {M : MetD K mg} (D : PrD K mg M)
    {T : List (Addr × Str)} {Pt : Addr} (hmT : (Pt, qRef) ∈ T) (huT : ∀ q ∈ T, q.1 = Pt → q.2 = qRef) (hTB : ∀ (oc : Value) (od : Option Addr) (kV doc pm : Value) (an : Option Addr) (cc : Addr) (ct : Value) (osl : Array (Option Value)), K.lookup (Z.f 63) = some ⟨oc, od, .func (PySem.W.fnOf (tName 63) (tName 63) (defArgs (topS 63)) (defBody (topS 63)) (defScope (topS 63)) .none kV doc pm an (.ref cc) ct), osl⟩ → TabB base mg cc Pt) :
    FnOk P w K mg base CX0 10 (Z.f 63) (Z.d 63) ["_law_board", "_law_rim"] (spRef T Z.B.C) := by
  have GS : FnOk P w K mg base CX0 8 (Z.f 56) (Z.d 56) ["_law_found", "_law_due_here"] (spSame (SmN Z.B.C 7)) := ok_same Z 7
  have GWI : FnOk P w K mg base (L2.CX P w) 7 (Z.f 31) (Z.d 31) ["board", "place", "other"] (spWithin M Z.B.C) := ok_within Z D
  obtain ⟨oc, od, kV, doc, pm, an, cdv, ct, osl, e, lk, hcd⟩ := (Z.F 63 (by decide)).ex
  obtain ⟨cc, rfl⟩ := He.codeIn_ref hcd
  rw [e] at lk ⊢
  have TB := hTB _ _ _ _ _ _ _ _ _ lk
  refine fn_of lk hcd sc_ref (fun vs H Q E h => ?_) (fun A outer s H vs Q E hr h => ⟨_, PSs.nox (pss_cons (ps_set (i := 2) sc_ref.nd rfl (Or.inr rfl) (pe_lst (pa_cons pe_str pa_nil)))
  (pss_cons (ps_for PassesOwn.never rfl (pi_tup (pe_tup (pa_cons pe_non (pa_cons pe_int (pa_cons pe_str (pa_cons (pe_lst pa_nil) (pa_cons pe_dnewK (pa_cons pe_bl (pa_cons (pv 2) pa_nil))))))))) (pg_name (i := 3) sc_ref.nd rfl (Or.inr rfl))
    (pss_cons (ps_if (pt_not (pt_val (pe_call GS (hr.mono (by decide)) (by rfl) (Z.g 56 (by decide)) (Z.F 56 (by decide)).kp (bSame Z) .nil pass0 (pa_cons (pe_met Z M (T := T) (c := cc) (P := Pt) (t := fun E => tCall (spWithin M Z.B.C) [] E (tCons (tVar 0) (tCons (tVar 3) (tCons (tC .non) tNil)))) (by rfl) TB rfl hmT huT hr (lamS_by (sc := defScope (topS 63)) (by decide +kernel)) rfl (fun _ _ _ _ _ => rfl) (fun A outer s H E f c' hr2 => pe_call GWI (hr2.mono (by decide)) (by rfl) (Z.g 31 (by decide)) (Z.F 31 (by decide)).kp (bWithin Z) .nil (passes_call (takes_of rfl rfl rfl rfl) (fun _ _ _ _ h => h)) (pa_cons (pv 0) (pa_cons (pv 3) (pa_cons pe_non pa_nil))))) (pa_cons (pe_tup (pa_cons pe_str (pa_cons (pv 3) pa_nil))) pa_nil))))) (pss_one (ps_ret pe_bl)) pss_nil)
  (pss_one (ps_if (PW.pt (pw_and (pt_cmpR (op_neO hr.units) (pv 3) pe_str (nomark _)) (pw_and1 (pt_not (pt_val (pe_call GS (hr.mono (by decide)) (by rfl) (Z.g 56 (by decide)) (Z.F 56 (by decide)).kp (bSame Z) .nil pass0 (pa_cons (pe_met Z M (T := T) (c := cc) (P := Pt) (t := fun E => tCall (spWithin M Z.B.C) [] E (tCons (tVar 3) (tCons (tC .non) (tCons (tC .non) tNil)))) (by rfl) TB rfl hmT huT hr (lamS_by (sc := defScope (topS 63)) (by decide +kernel)) rfl (fun _ _ _ _ _ => rfl) (fun A outer s H E f c' hr2 => pe_call GWI (hr2.mono (by decide)) (by rfl) (Z.g 31 (by decide)) (Z.F 31 (by decide)).kp (bWithin Z) .nil (passes_call (takes_of rfl rfl rfl rfl) (fun _ _ _ _ h => h)) (pa_cons (pv 3) (pa_cons pe_non (pa_cons pe_non pa_nil))))) (pa_cons (pe_tup (pa_cons pe_str (pa_cons (pv 3) pa_nil))) pa_nil)))))))) (pss_one (ps_ret pe_bl)) pss_nil))))
  (pss_cons (ps_for PassesOwn.never rfl (pi_list (pe_slice sl_list (pv 1) po_none (po_some pe_int))) (pg_name (i := 4) sc_ref.nd rfl (Or.inr rfl))
    (pss_one (ps_if (pt_not (pt_val (pe_call GS (hr.mono (by decide)) (by rfl) (Z.g 56 (by decide)) (Z.F 56 (by decide)).kp (bSame Z) .nil pass0 (pa_cons (pe_met Z M (T := T) (c := cc) (P := Pt) (t := fun E => tCall (spWithin M Z.B.C) [] E (tCons (tVar 0) (tCons (tVar 4) (tCons (tC .non) tNil)))) (by rfl) TB rfl hmT huT hr (lamS_by (sc := defScope (topS 63)) (by decide +kernel)) rfl (fun _ _ _ _ _ => rfl) (fun A outer s H E f c' hr2 => pe_call GWI (hr2.mono (by decide)) (by rfl) (Z.g 31 (by decide)) (Z.F 31 (by decide)).kp (bWithin Z) .nil (passes_call (takes_of rfl rfl rfl rfl) (fun _ _ _ _ h => h)) (pa_cons (pv 0) (pa_cons (pv 4) (pa_cons pe_non pa_nil))))) (pa_cons (pe_tup (pa_cons pe_str (pa_cons (pv 4) pa_nil))) pa_nil))))) (pss_one (ps_ret pe_bl)) pss_nil)))
  (pss_cons (ps_set (i := 5) sc_ref.nd rfl (Or.inl rfl) (pe_met Z M (T := T) (c := cc) (P := Pt) (t := fun E => tCall (spWithin M Z.B.C) [] E (tCons (tVar 2) (tCons (tC .non) (tCons (tC .non) tNil)))) (by rfl) TB rfl hmT huT hr (lamS_by (sc := defScope (topS 63)) (by decide +kernel)) rfl (fun _ _ _ _ _ => rfl) (fun A outer s H E f c' hr2 => pe_call GWI (hr2.mono (by decide)) (by rfl) (Z.g 31 (by decide)) (Z.F 31 (by decide)).kp (bWithin Z) .nil (passes_call (takes_of rfl rfl rfl rfl) (fun _ _ _ _ h => h)) (pa_cons (pv 2) (pa_cons pe_non (pa_cons pe_non pa_nil))))))
  (pss_cons (ps_expr (pe_bm PySem.F.plainAttrs_list PySem.F.slot_list_append PySem.F.type_list_append mt_append (pv 2) (pa_cons pe_str pa_nil)))
  (pss_one (ps_ret (pe_call GS (hr.mono (by decide)) (by rfl) (Z.g 56 (by decide)) (Z.F 56 (by decide)).kp (bSame Z) .nil pass0 (pa_cons (pv 5) (pa_cons (pe_tup (pa_cons pe_str (pa_cons (pv 2) pa_nil))) pa_nil)))))))))), ?_⟩)
  · obtain ⟨p, l, x, a, n, pl, ts, rm, rfl, _⟩ := h
    rfl
  obtain ⟨p, l, x, a, n, pl, ts, rm, rfl, S, hT, hB, ha, ap, al, lpl, lts, rin, nno, k⟩ := h
  have sz : 5000 < sizeLine := by decide
  have one : 1 ≤ sizeLine := by decide
  have two : 2 ≤ sizeLine := by decide
  refine ⟨one, fun hd nhd => ?_⟩
  have K1 := (Kx.start S hT).put nhd (o := .lst [.str "x"])
  have kh := (Kx.start S hT).ne nhd
  have hnew := (Kx.start S hT).new nhd
  have h1 := upd_same (H := H) (a := hd) (o := .lst [.str "x"])
  have hB1 := hB.same (new_same (o := .lst [.str "x"]) nhd)
  have ha1 := new_same (o := .lst [.str "x"]) nhd _ _ ha
  have ahd : a ≠ hd := ne_of_none ha nhd
  generalize upd H hd (.lst [.str "x"]) = H1 at K1 h1 hB1 ha1 ⊢
  refine ⟨Nat.zero_le _, fun l0 n0 => fun d0 nd0 => ⟨_, rfl, by show 7 ≤ sizeLine; decide, fun t nt => ⟨t, rfl, ⟨_, SqT.of upd_same⟩, ?_⟩⟩⟩
  have k0 := K1.ne n0
  have K2 := K1.put n0 (o := .lst [])
  have kd := K2.ne nd0
  have K3 := K2.put nd0 (o := .dK [])
  have kt := K3.ne nt
  have K8 := K3.put nt (o := .tup [.non, .int 5, .str noS, .ref l0, .ref d0, .bl true, .ref hd])
  have s7 := new_same nt (o := .tup [.non, .int 5, .str noS, .ref l0, .ref d0, .bl true, .ref hd])
  have s2 := (new_same nd0 (o := .dK [])).trans s7
  have s1 := (new_same n0 (o := .lst [])).trans s2
  have f0 := s2 _ _ (upd_same (a := l0) (o := .lst []) (H := H1))
  have fd := s7 d0 _ upd_same
  have fh := s1 _ _ h1
  have hB8 := hB1.same s1
  have ha8 := s1 _ _ ha1
  have ft : (upd (upd (upd H1 l0 (.lst [])) d0 (.dK [])) t (.tup [.non, .int 5, .str noS, .ref l0, .ref d0, .bl true, .ref hd])) t = some (.tup [.non, .int 5, .str noS, .ref l0, .ref d0, .bl true, .ref hd]) := upd_same
  clear s1 s2 s7 K1 K2 K3
  generalize upd (upd (upd H1 l0 (.lst [])) d0 (.dK [])) t (.tup [.non, .int 5, .str noS, .ref l0, .ref d0, .bl true, .ref hd]) = H8 at *
  have eqE : ∀ {n : Nat} {a b : Addr} {H9 : Hp}, H9 a = some (.lst []) → H9 b = some (.lst []) → SmN Z.B.C (n + 1) (.ref a) (.ref b) H9 := fun {n a b _} ha hb => .inr (.inr (.inl ⟨a, b, [], [], rfl, rfl, .inl ⟨ha, hb⟩, rfl, by decide, fun i y y2 e1 => by simp at e1⟩))
  have oddA : ∀ y ∈ [V.non, .int 5, .str noS, .ref l0, .ref d0, .bl true, .ref hd], inB pl y = false ∧ ∀ (n' : Nat) (H9 : Hp), Kx T p l n' H8 H9 → Kn Z.B.C H9 y ∧ kdOf H9 y ≠ "" ∧ SmN Z.B.C 6 y y H9 ∧ ∃ b, ∀ Q : VK, Q (.bl b) H9 → rNeO K y (.str noS) H9 Q := fun y hy => by
    simp only [List.mem_cons, List.not_mem_nil, or_false] at hy
    have dp : ∀ {a : Addr} {xs : List V} {ds : List PyData} {H9 : Hp}, H9 a = some (.lst xs) → DpAll K H9 xs ds → SeqAt.shaped (.list ds) = true → ∃ b, ∀ Q : VK, Q (.bl b) H9 → rNeO K (.ref a) (.str noS) H9 Q := fun h hd hs => ⟨true, fun Q q => .inr (.inl ⟨_, _, .lst (SqL.of h) hd, .str _, hs, by decide +kernel, q⟩)⟩
    rcases hy with rfl | rfl | rfl | rfl | rfl | rfl | rfl
    · exact ⟨rfl, fun _ _ F => ⟨.non, by simp only [kdOf]; decide, sm_sc rfl, true, fun Q q => .inl ⟨rfl, q⟩⟩⟩
    · exact ⟨rfl, fun _ _ F => ⟨.int 5, by simp only [kdOf]; decide, sm_sc rfl, true, fun Q q => .inl ⟨rfl, q⟩⟩⟩
    · exact ⟨decide_eq_false nno, fun _ _ F => ⟨.str _, by simp only [kdOf]; decide, sm_sc rfl, false, fun Q q => .inl ⟨rfl, by rw [decide_eq_true rfl]; exact q⟩⟩⟩
    · exact ⟨rfl, fun _ _ F => ⟨.lst (F.lst f0 k0), by simp only [kdOf, F.lst f0 k0]; decide, eqE (F.lst f0 k0) (F.lst f0 k0), dp (F.lst f0 k0) .nil (by decide +kernel)⟩⟩
    · exact ⟨rfl, fun _ _ F => ⟨.dic (F.but _ _ fd kd.1 kd.2 (fun ps z => by cases z)), by simp only [kdOf, F.but _ _ fd kd.1 kd.2 (fun ps z => by cases z)]; decide, .inr (.inr (.inr ⟨d0, rfl, rfl, F.but _ _ fd kd.1 kd.2 (fun ps z => by cases z), fun H9 b c hb hc => eqE hb hc⟩)), true, fun Q q => .inr (.inr ⟨d0, _, _, rfl, rfl, F.but _ _ fd kd.1 kd.2 (fun ps z => by cases z), q⟩)⟩⟩
    · exact ⟨rfl, fun _ _ F => ⟨.bl _, by simp only [kdOf]; decide, sm_sc rfl, true, fun Q q => .inl ⟨rfl, q⟩⟩⟩
    · exact ⟨rfl, fun _ _ F => ⟨.lst (F.lst fh kh), by simp only [kdOf, F.lst fh kh]; decide, sm_strs (n := 4) (ss := ["x"]) (F.lst fh kh) (F.lst fh kh) (by decide), dp (F.lst fh kh) (.cons (.str _) .nil) (by decide +kernel)⟩⟩
  have brd : ∀ {n' : Nat} {H9 : Hp}, Kx T p l n' H8 H9 → BoardAt (fun _ => True) Z.B.C H9 x pl ts rm := fun F => hB8.kx (fun c h => h) F
  have kb : ∀ {n' : Nat} {H9 : Hp}, Kx T p l n' H8 H9 → Kn Z.B.C H9 (.ref x) := fun F => (brd F).kn
  refine for_tup (xs := [.non, .int 5, .str noS, .ref l0, .ref d0, .bl true, .ref hd]) (fun i σ H' => ∃ v3 v4 v5, σ = [some (.ref x), some (.ref a), some (.ref hd), v3, v4, v5] ∧ Kx T p l n H8 H') ⟨none, none, none, rfl, Kx.start K8.st K8.tb⟩ (fun i σ H' _ ⟨_, _, _, _, K'⟩ => SqT.of (K'.tup ft kt)) ?_ ?_
  · rintro i y σ H' hy ⟨v3, v4, v5, rfl, K'⟩
    obtain ⟨oin, od⟩ := oddA y (List.mem_of_getElem? hy)
    refine ⟨K'.tb, fun G1 e1 T1 => ⟨_, rfl, _, rfl, .ref x, y, .non, rfl, kb (K'.ext e1 T1), .inr ⟨x, pl, ts, rm, rfl, brd (K'.ext e1 T1), lpl, lts, (od _ _ (K'.ext e1 T1)).1, .inl ⟨oin, fun d G2 nd hd2 S2 => .inr (.inl ⟨y, d, rfl, rfl, hd2, fun u nu => ?_⟩)⟩⟩⟩⟩
    have Kb := ((K'.ext e1 T1).same S2).put nu (o := .tup [.str "place", y])
    have hu := upd_same (H := G2) (a := u) (o := .tup [.str "place", y])
    generalize upd G2 u (.tup [.str "place", y]) = G3 at *
    refine ⟨_, rfl, two, fun c1 nc1 => ⟨.ref u, .ref c1, rfl, sm_tup (n := 5) (new_same nc1 _ _ hu) upd_same ((od _ _ (Kb.put nc1)).2.2.1), fun H14 S14 => ⟨_, rfl, iteF ?_⟩⟩⟩
    have Kc := (Kb.put (o := .tup [.str "place", y]) nc1).same S14
    obtain ⟨b, ob⟩ := (od _ _ Kc).2.2.2
    refine ⟨_, rfl, ob _ ⟨_, rfl, ?_⟩⟩
    cases b with
    | false => exact ⟨_, _, _, rfl, Kc⟩
    | true =>
    refine ⟨Kc.tb, fun G4 e4 T4 => ⟨_, rfl, y, .non, .non, rfl, (od _ _ (Kc.ext e4 T4)).1, .inl ⟨(od _ _ (Kc.ext e4 T4)).2.1, fun d2 G5 nd5 hd5 S5 => .inl ⟨y, d2, rfl, rfl, hd5, fun u2 nu2 => ?_⟩⟩⟩⟩
    have Kd := ((Kc.ext e4 T4).same S5).put nu2 (o := .tup [.str "board", y])
    have hu2 := upd_same (H := G5) (a := u2) (o := .tup [.str "board", y])
    generalize upd G5 u2 (.tup [.str "board", y]) = G6 at *
    exact ⟨_, rfl, two, fun c2 nc2 => ⟨.ref u2, .ref c2, rfl, sm_tup (n := 5) (new_same nc2 _ _ hu2) upd_same (od _ _ (Kd.put nc2)).2.2.1, fun H15 S15 => ⟨_, rfl, iteF ⟨_, _, _, rfl, (Kd.put nc2).same S15⟩⟩⟩⟩
  rintro σ G1 ⟨v3, v4, v5, rfl, K'⟩
  refine ⟨_, rfl, (2 : Int), rfl, a, _, rfl, SqL.of (K'.lst ha8 ⟨ap, al⟩), fun s2 ns2 => ⟨s2, rfl, ⟨_, SqL.of upd_same⟩, ?_⟩⟩
  rw [show (2 : Int) = ((2 : Nat) : Int) from rfl, cut_to, ← List.map_take]
  have ks := K'.ne ns2
  have KS := K'.put ns2 (o := .lst ((rm.take 2).map V.str))
  have hs := upd_same (H := G1) (a := s2) (o := .lst ((rm.take 2).map V.str))
  generalize upd G1 s2 (.lst ((rm.take 2).map V.str)) = G2 at *
  refine for_list (xs := (rm.take 2).map V.str) (fun i σ H' => ∃ v3 v4 v5, σ = [some (.ref x), some (.ref a), some (.ref hd), v3, v4, v5] ∧ Kx T p l n G2 H') ⟨_, _, _, rfl, Kx.start KS.st KS.tb⟩ (fun i σ H' _ ⟨_, _, _, _, K'⟩ => SqL.of (K'.lst hs ks)) ?_ ?_
  · rintro i v σ H' hv ⟨v3, v4, v5, rfl, KJ⟩
    rw [List.getElem?_map] at hv
    cases ey : (rm.take 2)[i]? with
    | none => rw [ey] at hv; cases hv
    | some z =>
    rw [ey] at hv
    cases hv
    have zr : z ∈ rm := List.mem_of_mem_take (List.mem_of_getElem? ey)
    have KJ8 := KS.trans KJ
    refine ⟨KJ.tb, fun G3 e3 T3 => ⟨_, rfl, _, rfl, .ref x, .str z, .non, rfl, kb (KJ8.ext e3 T3), .inr ⟨x, pl, ts, rm, rfl, brd (KJ8.ext e3 T3), lpl, lts, .str z, .inr ⟨z, rfl, rin z zr, .inl ⟨zr, fun d G4 nd hd4 S4 => .inr (.inr (.inl ⟨.str z, d, rfl, rfl, hd4, fun u nu => ?_⟩))⟩⟩⟩⟩⟩
    have Kd := ((KJ.ext e3 T3).same S4).put nu (o := .tup [.str "pin", .str z])
    have hu := upd_same (H := G4) (a := u) (o := .tup [.str "pin", .str z])
    generalize upd G4 u (.tup [.str "pin", .str z]) = G5 at *
    exact ⟨_, rfl, two, fun c2 nc2 => ⟨.ref u, .ref c2, rfl, sm_tup (n := 5) (new_same nc2 _ _ hu) upd_same (sm_sc rfl), fun H15 S15 => ⟨_, rfl, iteF ⟨_, _, _, rfl, (Kd.put nc2).same S15⟩⟩⟩⟩
  rintro σ G3 ⟨v3, v4, v5, rfl, KJ⟩
  have KJ8 := KS.trans KJ
  have oh := (oddA (.ref hd) (by simp)).2
  refine ⟨KJ.tb, fun G4 e4 T4 => ⟨_, rfl, .ref hd, .non, .non, rfl, (oh _ _ (KJ8.ext e4 T4)).1, .inl ⟨(oh _ _ (KJ8.ext e4 T4)).2.1, fun d3 G8 _ hd8 S8 => .inl ⟨.ref hd, d3, rfl, rfl, hd8, fun u nu => ?_⟩⟩⟩⟩
  have K9 := ((KJ8.ext e4 T4).same S8).put nu (o := .tup [.str "board", .ref hd])
  have hu := upd_same (H := G8) (a := u) (o := .tup [.str "board", .ref hd])
  generalize upd G8 u (.tup [.str "board", .ref hd]) = G9 at K9 hu ⊢
  have hh9 := K9.lst fh kh
  refine ⟨_, rfl, .inl ⟨rfl, _, SqL.of hh9⟩, hd, _, _, rfl, rfl, hh9, by show 1 < sizeLine; decide, ?_⟩
  have KF := (K8.trans K9).own (ys := [.str "x"] ++ [.str "late"]) hnew hh9 kh
  have hh10 := upd_same (H := G9) (a := hd) (o := .lst ([V.str "x"] ++ [.str "late"]))
  have hu10 : (upd G9 hd (.lst ([V.str "x"] ++ [.str "late"]))) u = some (.tup [.str "board", .ref hd]) := by
    rw [upd_ne (ne_of hu hh9 (fun z => by cases z))]
    exact hu
  generalize upd G9 hd (.lst ([V.str "x"] ++ [.str "late"])) = G10 at KF hh10 hu10 ⊢
  refine ⟨_, rfl, _, rfl, two, fun c1 nc1 => ⟨.ref u, .ref c1, rfl, ?_, fun H14 S14 => k H14 ((KF.put nc1).same S14)⟩⟩
  have Sc := new_same (o := .tup [.str "board", .ref hd]) nc1
  exact sm_tup (n := 5) (Sc _ _ hu10) upd_same (sm_strs (n := 4) (ss := ["x", "late"]) (Sc _ _ hh10) (Sc _ _ hh10) (by decide))
end
end E1

set_option Elab.async false
set_option linter.all false
set_option maxRecDepth 100000
set_option maxHeartbeats 8000000
/-! Ties by their lower ends. -/
namespace E1
open PySem PySem.Spec PyProof.Rows L2 G0
theorem fm_perm {α β : Type} {f g : α → List β} : ∀ {l : List α}, (∀ a ∈ l, (f a).Perm (g a)) → (l.flatMap f).Perm (l.flatMap g)
  | [], _ => List.Perm.refl _
  | a :: l, h => by
    rw [List.flatMap_cons, List.flatMap_cons]
    exact (h a List.mem_cons_self).append (fm_perm fun b hb => h b (List.mem_cons_of_mem _ hb))
theorem nb_up {s : Str} : ∀ {ts : List Pr}, (∀ p ∈ ts, ltS p.1 p.2 = true) → (nb ts s).filter (fun o => ltS s o) = (ts.filter fun p => decide (p.1 = s)).map Prod.snd
  | [], _ => rfl
  | p :: ts, h => by
    have hp := h p List.mem_cons_self
    have ih := nb_up (s := s) (ts := ts) fun q hq => h q (List.mem_cons_of_mem _ hq)
    have e : nb (p :: ts) s = ((if p.1 = s then [p.2] else []) ++ (if p.2 = s then [p.1] else [])) ++ nb ts s := rfl
    rw [e, List.filter_append, ih, List.filter_append]
    have e2 : (if p.2 = s then [p.1] else ([] : List Str)).filter (fun o => ltS s o) = [] := by
      by_cases c : p.2 = s
      · rw [if_pos c, ← c]
        exact List.filter_cons_of_neg (p := fun o => ltS p.2 o) (l := []) (by rw [ltS_asym hp]; decide)
      · rw [if_neg c]
        rfl
    rw [e2, List.append_nil]
    by_cases c : p.1 = s
    · rw [if_pos c, List.filter_cons_of_pos (p := fun p : Pr => decide (p.1 = s)) (a := p) (decide_eq_true c), List.map_cons]
      rw [show List.filter (fun o => ltS s o) [p.2] = [p.2] from List.filter_cons_of_pos (p := fun o => ltS s o) (l := []) (by rw [← c]; exact hp)]
      rfl
    · rw [if_neg c, List.filter_cons_of_neg (p := fun p : Pr => decide (p.1 = s)) (a := p) (by rw [decide_eq_false c]; decide)]
      rfl
theorem key_map {s : Str} : ∀ {ts : List Pr}, ((ts.filter fun p => decide (p.1 = s)).map Prod.snd).map (fun o => ((s, o) : Pr)) = ts.filter fun p => decide (p.1 = s)
  | [] => rfl
  | p :: ts => by
    by_cases c : p.1 = s
    · rw [List.filter_cons_of_pos (p := fun p : Pr => decide (p.1 = s)) (a := p) (decide_eq_true c), List.map_cons, List.map_cons, key_map (ts := ts), ← c]
    · rw [List.filter_cons_of_neg (p := fun p : Pr => decide (p.1 = s)) (a := p) (by rw [decide_eq_false c]; decide), key_map (ts := ts)]
theorem upTs_sort {pl : List Str} {ts : List Pr} (nd : pl.Nodup) (tok : TsOk pl ts) : upTs (fun s => sortS (nb ts s)) (sortS pl) = sortPr ts := by
  have ndS : (sortS pl).Nodup := (sortS_perm pl).nodup_iff.mpr nd
  have pw := (sortS_pw pl).and ndS
  refine sortPr_uniq ?_ ?_
  · refine (fm_perm (g := fun s => ts.filter fun p => decide (p.1 = s)) fun s _ => ?_).trans ?_
    · have h := ((sortS_perm (nb ts s)).filter fun o => ltS s o).map fun o => ((s, o) : Pr)
      rw [nb_up fun p hp => (tok.ok p hp).2.2, key_map] at h
      exact h
    · refine (List.perm_ext_iff_of_nodup ?_ tok.nd).mpr fun p => ?_
      · refine List.pairwise_flatMap.mpr ⟨fun s _ => tok.nd.sublist List.filter_sublist, pw.imp ?_⟩
        rintro a b ⟨_, hne⟩ x hx y hy rfl
        exact hne ((of_decide_eq_true (List.mem_filter.mp hx).2).symm.trans (of_decide_eq_true (List.mem_filter.mp hy).2))
      · rw [List.mem_flatMap]
        constructor
        · rintro ⟨s, _, h⟩
          exact (List.mem_filter.mp h).1
        · intro h
          exact ⟨p.1, sortS_mem.mpr (tok.ok p h).1, List.mem_filter.mpr ⟨h, decide_eq_true rfl⟩⟩
  · refine List.pairwise_flatMap.mpr ⟨fun s _ => ?_, pw.imp ?_⟩
    · refine List.pairwise_map.mpr (((sortS_pw (nb ts s)).sublist List.filter_sublist).imp ?_)
      intro a b h
      unfold lePr ltPr
      rw [if_pos rfl]
      exact h
    · rintro a b ⟨h, hne⟩ x hx y hy
      obtain ⟨u, _, rfl⟩ := List.mem_map.mp hx
      obtain ⟨v, _, rfl⟩ := List.mem_map.mp hy
      unfold lePr ltPr
      rw [if_neg (fun z => hne z.symm)]
      exact h
end E1

set_option Elab.async false
set_option linter.all false
set_option maxRecDepth 100000
set_option maxHeartbeats 4000000
/-! What the program puts inside is what is due. -/
namespace E1
open PySem PySem.Spec PyProof.Rows L2 G0
section
variable {pl1 : List Str} {ts1 : List Pr} {rm1 pl' : List Str} {ts' : List Pr} {rm' : List Str} {z : Str}
theorem dk_in (d : DOk pl1 ts1 z pl' rm') (k1 : RawOk pl1 ts1 rm1) {x : Str} (h1 : x ∈ pl1) (h2 : x ∈ pl') : x ≠ z := by
  have : x ∈ (sortS pl').filter fun o => decide (o ∈ pl1) := List.mem_filter.mpr ⟨sortS_mem.mpr h2, decide_eq_true h1⟩
  rw [d.2] at this
  exact (nbS_in k1.ts this).2
theorem wi_mem {x : Str} : x ∈ wiP (sortS pl1) z (sortS pl') ↔ (x ∈ pl1 ∧ x ≠ z ∧ x ∉ pl') ∨ x ∈ pl' := by
  unfold wiP
  rw [List.mem_append, List.mem_filter, sortS_mem, sortS_mem]
  refine or_congr (and_congr_right fun h => ?_) Iff.rfl
  have e : x ∈ ((sortS pl').filter fun o => decide (o ∈ sortS pl1)) ↔ x ∈ pl' := by
    rw [List.mem_filter, sortS_mem]
    exact ⟨fun g => g.1, fun g => ⟨g, decide_eq_true (sortS_mem.mpr h)⟩⟩
  by_cases a : x = z <;> by_cases b : x ∈ pl' <;> simp [a, b, e, h]
  all_goals first | exact e.mpr b | (intro g; exact absurd (e.mp g) b) | skip
theorem du_mem {x : Str} : x ∈ duP pl1 z pl' ↔ (x ∈ pl1 ∧ x ≠ z) ∨ (x ∈ pl' ∧ x ∉ pl1) := by
  unfold duP
  rw [List.mem_append, List.mem_filter, List.mem_filter]
  simp
theorem wi_nd (k1 : RawOk pl1 ts1 rm1) (k2 : RawOk pl' ts' rm') : (wiP (sortS pl1) z (sortS pl')).Nodup := by
  refine List.nodup_append.mpr ⟨((sortS_perm pl1).nodup_iff.mpr k1.nd).sublist List.filter_sublist, (sortS_perm pl').nodup_iff.mpr k2.nd, fun a ha b hb e => ?_⟩
  subst e
  have h := List.mem_filter.mp ha
  have c : a ∈ (sortS pl').filter fun o => decide (o ∈ sortS pl1) := List.mem_filter.mpr ⟨hb, decide_eq_true h.1⟩
  have g := h.2
  simp only [Bool.and_eq_true, Bool.not_eq_true', decide_eq_false_iff_not] at g
  exact g.2 c
theorem du_nd (k1 : RawOk pl1 ts1 rm1) (k2 : RawOk pl' ts' rm') : (duP pl1 z pl').Nodup := by
  refine List.nodup_append.mpr ⟨k1.nd.sublist List.filter_sublist, k2.nd.sublist List.filter_sublist, fun a ha b hb e => ?_⟩
  subst e
  have g := (List.mem_filter.mp hb).2
  simp only [Bool.not_eq_true', decide_eq_false_iff_not] at g
  exact g (List.mem_filter.mp ha).1
theorem wi_du (d : DOk pl1 ts1 z pl' rm') (k1 : RawOk pl1 ts1 rm1) (k2 : RawOk pl' ts' rm') : sortS (wiP (sortS pl1) z (sortS pl')) = sortS (duP pl1 z pl') := by
  refine sortS_of_perm ((List.perm_ext_iff_of_nodup (wi_nd k1 k2) (du_nd k1 k2)).mpr fun x => ?_)
  rw [wi_mem, du_mem]
  by_cases a : x ∈ pl1 <;> by_cases b : x ∈ pl'
  · have := dk_in d k1 a b
    simp [a, b, this]
  · simp [a, b]
  · simp [a, b]
  · simp [a, b]
theorem wiT_ok (k1 : RawOk pl1 ts1 rm1) : TsOk (pl1.filter fun o => !decide (o = z)) (wiT (sortPr ts1) z) := by
  refine ⟨((sortPr_perm ts1).nodup_iff.mpr k1.ts.nd).sublist List.filter_sublist, fun t ht => ?_⟩
  have h := List.mem_filter.mp ht
  have g := h.2
  simp only [Bool.not_eq_true', Bool.or_eq_false_iff, decide_eq_false_iff_not] at g
  have o := k1.ts.ok t ((sortPr_perm ts1).mem_iff.mp h.1)
  exact ⟨List.mem_filter.mpr ⟨o.1, by simp; exact fun e => g.1 e.symm⟩, List.mem_filter.mpr ⟨o.2.1, by simp; exact fun e => g.2 e.symm⟩, o.2.2⟩
theorem wi_facts (d : DOk pl1 ts1 z pl' rm') (k1 : RawOk pl1 ts1 rm1) (k2 : RawOk pl' ts' rm') (hz : z ∈ pl1) (hr : z ∉ rm1) (l1 : pl1.length ≤ 8) (l2 : ts'.length ≤ 50) :
    (wiT (sortPr ts1) z ++ sortPr ts').length < 77 ∧ (∀ t ∈ wiT (sortPr ts1) z ++ sortPr ts', ltS t.1 t.2 = true) ∧ (∀ t ∈ wiT (sortPr ts1) z ++ sortPr ts', t.1 ∈ wiP (sortS pl1) z (sortS pl') ∧ t.2 ∈ wiP (sortS pl1) z (sortS pl')) ∧ (wiP (sortS pl1) z (sortS pl')).Nodup ∧ ∀ r ∈ rm1, r ∈ wiP (sortS pl1) z (sortS pl') := by
  have W := wiT_ok (z := z) k1
  have le : (pl1.filter fun o => !decide (o = z)).length < pl1.length := List.length_filter_lt_length_iff_exists.mpr ⟨z, hz, by simp⟩
  have lW : (wiT (sortPr ts1) z).length ≤ 24 := by
    have := W.len2
    have h7 : (pl1.filter fun o => !decide (o = z)).length ≤ 7 := by omega
    have := Nat.mul_le_mul h7 h7
    omega
  have ok2 : ∀ t ∈ sortPr ts', t.1 ∈ pl' ∧ t.2 ∈ pl' ∧ ltS t.1 t.2 = true := fun t ht => k2.ts.ok t ((sortPr_perm ts').mem_iff.mp ht)
  have inl : ∀ x, x ∈ pl1.filter (fun o => !decide (o = z)) → x ∈ wiP (sortS pl1) z (sortS pl') := fun x hx => by
    have h := List.mem_filter.mp hx
    have n : x ≠ z := by simpa using h.2
    by_cases b : x ∈ pl'
    · exact wi_mem.mpr (.inr b)
    · exact wi_mem.mpr (.inl ⟨h.1, n, b⟩)
  refine ⟨by rw [List.length_append, (sortPr_perm ts').length_eq]; omega, fun t ht => (List.mem_append.mp ht).elim (fun h => (W.ok t h).2.2) fun h => (ok2 t h).2.2,
    fun t ht => (List.mem_append.mp ht).elim (fun h => ⟨inl _ (W.ok t h).1, inl _ (W.ok t h).2.1⟩) fun h => ⟨wi_mem.mpr (.inr (ok2 t h).1), wi_mem.mpr (.inr (ok2 t h).2.1)⟩, wi_nd k1 k2, fun r h => inl r (List.mem_filter.mpr ⟨k1.rin r h, ?_⟩)⟩
  have : r ≠ z := fun e => hr (e ▸ h)
  simp [this]
theorem du_ts (d : DOk pl1 ts1 z pl' rm') (k1 : RawOk pl1 ts1 rm1) (k2 : RawOk pl' ts' rm') : TsOk (duP pl1 z pl') (duT ts1 z ts') := by
  refine ⟨once_nd _, fun t ht => ?_⟩
  rcases List.mem_append.mp (once_mem.mp ht) with h | h
  · have h := List.mem_filter.mp h
    have g := h.2
    simp only [Bool.not_eq_true', Bool.or_eq_false_iff, decide_eq_false_iff_not] at g
    have o := k1.ts.ok t h.1
    exact ⟨du_mem.mpr (.inl ⟨o.1, fun e => g.1 e.symm⟩), du_mem.mpr (.inl ⟨o.2.1, fun e => g.2 e.symm⟩), o.2.2⟩
  · have o := k2.ts.ok t h
    have key : ∀ x ∈ pl', x ∈ duP pl1 z pl' := fun x hx => by
      by_cases a : x ∈ pl1
      · exact du_mem.mpr (.inl ⟨a, dk_in d k1 a hx⟩)
      · exact du_mem.mpr (.inr ⟨hx, a⟩)
    exact ⟨key _ o.1, key _ o.2.1, o.2.2⟩
theorem wi_ts (qs : List Pr) (nd : qs.Nodup) (h : ∀ t, t ∈ qs ↔ t ∈ wiT (sortPr ts1) z ++ sortPr ts') : sortPr qs = sortPr (duT ts1 z ts') := by
  refine sortPr_uniq ((sortPr_perm qs).trans ((List.perm_ext_iff_of_nodup nd (once_nd _)).mpr fun t => ?_)) (sortPr_pw qs)
  rw [h t, once_mem, List.mem_append, List.mem_append, (sortPr_perm ts').mem_iff]
  refine or_congr ?_ Iff.rfl
  unfold wiT
  rw [List.mem_filter, List.mem_filter, (sortPr_perm ts1).mem_iff]
theorem du_len (l1 : pl1.length ≤ 8) (l2 : pl'.length ≤ 20) : (duP pl1 z pl').length ≤ 28 := by
  unfold duP
  rw [List.length_append]
  have := List.length_filter_le (fun o => !decide (o = z)) pl1
  have := List.length_filter_le (fun o => !decide (o ∈ pl1)) pl'
  omega
end
end E1

set_option Elab.async false
set_option linter.all false
set_option maxRecDepth 100000
set_option maxHeartbeats 16000000
/-! A small board, its places taken by others. -/
namespace E1
open PySem PySem.Spec PyProof.Rows L2 G0 LamX
theorem RawAt.kx {T : List (Addr × Str)} {p l : Addr} {n : Nat} {N : Addr → Prop} {H H' : Hp} {r : Addr} {pl : List Str} {ts : List Pr} {rm : List Str} (h : RawAt N H r pl ts rm) (hN : ∀ c, N c → c ≠ p ∧ c ≠ l) (F : Kx T p l n H H') : RawAt N H' r pl ts rm := by
  obtain ⟨aP, aT, aR, tv, h1, h2, h3, h4, h5, n1, n2, n3, n4, n5⟩ := h
  exact ⟨aP, aT, aR, tv, F.tup h1 (hN _ n1), F.lst h2 (hN _ n2), F.lst h3 (hN _ n3), F.prs h4 fun t ht => hN _ (n5 t ht), F.lst h5 (hN _ n4), n1, n2, n3, n4, n5⟩
theorem RawE.kx {T : List (Addr × Str)} {p l : Addr} {n : Nat} {N : Addr → Prop} {H H' : Hp} {v : V} (h : RawE N H v) (hN : ∀ c, N c → c ≠ p ∧ c ≠ l) (F : Kx T p l n H H') : RawE N H' v :=
  let ⟨r, pl, ts, rm, e, A, g⟩ := h; ⟨r, pl, ts, rm, e, A.kx hN F, g⟩
abbrev N_right : List Str := ["_law_stream", "_law_raw", "_law_near", "_law_board", "_law_place", "_law_one", "_law_inner_here", "_law_other", "_law_made", "_law_due_here", "_law_told", "_law_odd"]
theorem sc_right : FnScope N_right ["_law_stream", "_law_raw"] (defScope (topS 62)) := ⟨rfl, rfl, rfl, by decide +kernel, rfl, by decide +kernel, by decide +kernel⟩
def qRight : Str := "_law_right.<locals>.<lambda>"
def spRight (T : List (Addr × Str)) : Sp := fun vs H Q _ => ∃ (p l r1 : Addr) (n : Nat) (N : Addr → Prop) (pl1 : List Str) (ts1 : List Pr) (rm1 : List Str), vs = [.ref p, .ref r1] ∧ Stm H p l n ∧ n < 30000000 ∧ Tabs T H ∧ (∀ c, N c → c ≠ p ∧ c ≠ l) ∧ RawAt N H r1 pl1 ts1 rm1 ∧
  RawOk pl1 ts1 rm1 ∧ pl1.length ≤ 8 ∧ (∀ z ∈ pl1, z ∈ drawnN) ∧ ∀ H', Kx T p l (n + 300000) H H' → Q (.bl true) H'
theorem no_drawn : noS ∉ drawnN ∧ farS ∉ drawnN ∧ farS ∉ inN 3 := by decide +kernel
section
variable {P : Program} {w : World} {K : PySem.W.Frag} {mg : Str → Option Value} {base : Heap}
theorem bRight (Z : LawD K mg) : Binds K (Z.d 62) ["_law_stream", "_law_raw"] [] := (Z.F 62 (by decide)).binds fun _ _ _ _ _ _ us hl => match us, hl with | [_, _], _ => rfl
theorem ok_right (Z : LawD K mg) {M : MetD K mg} (D : PrD K mg M)
    {T : List (Addr × Str)} {Pt : Addr} (GX : FnOk P w K mg base CX0 10 (Z.f 63) (Z.d 63) ["_law_board", "_law_rim"] (spRef T Z.B.C)) (hmT : (Pt, qRight) ∈ T) (huT : ∀ q ∈ T, q.1 = Pt → q.2 = qRight) (hTB : ∀ (oc : Value) (od : Option Addr) (kV doc pm : Value) (an : Option Addr) (cc : Addr) (ct : Value) (osl : Array (Option Value)), K.lookup (Z.f 62) = some ⟨oc, od, .func (PySem.W.fnOf (tName 62) (tName 62) (defArgs (topS 62)) (defBody (topS 62)) (defScope (topS 62)) .none kV doc pm an (.ref cc) ct), osl⟩ → TabB base mg cc Pt) :
    FnOk P w K mg base CX0 11 (Z.f 62) (Z.d 62) ["_law_stream", "_law_raw"] (spRight T) := by
  have GS : FnOk P w K mg base CX0 8 (Z.f 56) (Z.d 56) ["_law_found", "_law_due_here"] (spSame (SmN Z.B.C 7)) := ok_same Z 7
  have GM : FnOk P w K mg base CX0 2 Z.s.fM Z.s.dM ["_law_stream", "_law_some"] (spMx K) := ok_mx Z.s
  have GNR : FnOk P w K mg base CX0 1 (Z.f 35) (Z.d 35) ["_law_raw"] spANear := ok_a_near Z
  have GW : FnOk P w K mg base (L2.CX P w) 6 (Z.f 43) (Z.d 43) ["_law_stream", "_law_raw"] (spMade Z.B.C) := ok_a_made Z
  have GWI : FnOk P w K mg base (L2.CX P w) 7 (Z.f 31) (Z.d 31) ["board", "place", "other"] (spWithin M Z.B.C) := ok_within Z D
  have GIN : FnOk P w K mg base CX0 4 (Z.f 59) (Z.d 59) ["_law_stream", "_law_raw", "_law_place"] spInner := ok_inner Z
  have GOW : FnOk P w K mg base CX0 1 (Z.f 61) (Z.d 61) ["_law_stream", "_law_raw", "_law_place", "_law_other"] spOther := ok_other Z
  have GDU : FnOk P w K mg base CX0 2 (Z.f 60) (Z.d 60) ["_law_raw", "_law_place", "_law_other"] spDue := ok_due Z
  have GIB : FnOk P w K mg base CX0 5 (Z.f 45) (Z.d 45) ["_law_board", "_law_near", "_law_rim"] (spIsB Z.B.C) := ok_isB Z
  obtain ⟨oc, od, kV, doc, pm, an, cdv, ct, osl, e, lk, hcd⟩ := (Z.F 62 (by decide)).ex
  obtain ⟨cc, rfl⟩ := He.codeIn_ref hcd
  rw [e] at lk ⊢
  have TB := hTB _ _ _ _ _ _ _ _ _ lk
  refine fn_of lk hcd sc_right (fun vs H Q E h => ?_) (fun A outer s H vs Q E hr h => ⟨_, PSs.nox (pss_cons (ps_asg (pe_tup (pa_cons (pe_call GNR (hr.mono (by decide)) (by rfl) (Z.g 35 (by decide)) (Z.F 35 (by decide)).kp (bANear Z) .nil pass0 (pa_cons (pv 1) pa_nil)) (pa_cons (pe_call GW (hr.mono (by decide)) (by rfl) (Z.g 43 (by decide)) (Z.F 43 (by decide)).kp (bMade Z) .nil passL (pa_cons (pv 0) (pa_cons (pv 1) pa_nil))) pa_nil))) (pg_tup rfl (pgs_cons (pg_name (i := 2) sc_right.nd rfl (Or.inl rfl)) (pgs_cons (pg_name (i := 3) sc_right.nd rfl (Or.inr rfl)) pgs_nil))))
  (pss_cons (ps_for PassesOwn.never rfl (pi_list (pe_slice sl_list (pe_call GM (hr.mono (by decide)) (by rfl) Z.s.gM Z.s.FM.kp (bMx Z.s) .nil pass0 (pa_cons (pv 0) (pa_cons (pe_lock (pe_lc (own := [("_law_one", 5)]) (tt := tTest (tOp (rIn K true) (tVar 5) (tOp (rIxT K) (tVar 1) (tC (.int 2))))) rfl sc_right.nd (pi_keys (pv 2)) (blkOk_by (own := [("_law_one", 5)]) (N := N_right) (sc := defScope (topS 62)) (by decide +kernel)) (fun _ _ _ _ _ => (pg_name (i := 5) sc_right.nd rfl (Or.inl rfl))) (fun _ _ _ _ _ => (pts_one (pt_cmpR op_notIn_seq (pv 5) (pe_ix ix_tup (pv 1) pe_int (fun _ _ => rfl)) (by rfl)))) (fun _ _ _ _ _ => (pv 5)))) pa_nil))) po_none (po_some pe_int))) (pg_name (i := 4) sc_right.nd rfl (Or.inr rfl))
    (pss_cons (ps_set (i := 6) sc_right.nd rfl (Or.inl rfl) (pe_call GIN (hr.mono (by decide)) (by rfl) (Z.g 59 (by decide)) (Z.F 59 (by decide)).kp (bInner Z) .nil pass0 (pa_cons (pv 0) (pa_cons (pv 1) (pa_cons (pv 4) pa_nil)))))
  (pss_cons (ps_for PassesOwn.never rfl (pi_list (pe_op op_cat (pe_call GOW (hr.mono (by decide)) (by rfl) (Z.g 61 (by decide)) (Z.F 61 (by decide)).kp (bOther Z) .nil pass0 (pa_cons (pv 0) (pa_cons (pv 1) (pa_cons (pv 4) (pa_cons (pv 6) pa_nil))))) (pe_lst (pa_cons (pv 6) pa_nil)))) (pg_name (i := 7) sc_right.nd rfl (Or.inl rfl))
    (pss_cons (ps_set (i := 8) sc_right.nd rfl (Or.inr rfl) (pe_call GW (hr.mono (by decide)) (by rfl) (Z.g 43 (by decide)) (Z.F 43 (by decide)).kp (bMade Z) .nil passL (pa_cons (pv 0) (pa_cons (pv 7) pa_nil))))
  (pss_cons (ps_par (i := 9) (j := 10) rfl sc_right.nd rfl rfl (by decide) rfl rfl (pa_cons (pe_call GDU (hr.mono (by decide)) (by rfl) (Z.g 60 (by decide)) (Z.F 60 (by decide)).kp (bDue Z) .nil pass0 (pa_cons (pv 1) (pa_cons (pv 4) (pa_cons (pv 7) pa_nil)))) (pa_cons (pe_met Z M (T := T) (c := cc) (P := Pt) (t := fun E => tCall (spWithin M Z.B.C) [] E (tCons (tVar 3) (tCons (tVar 4) (tCons (tVar 8) tNil)))) (by rfl) TB rfl hmT huT hr (lamS_by (sc := defScope (topS 62)) (by decide +kernel)) rfl (fun _ _ _ _ _ => rfl) (fun A outer s H E f c' hr2 => pe_call GWI (hr2.mono (by decide)) (by rfl) (Z.g 31 (by decide)) (Z.F 31 (by decide)).kp (bWithin Z) .nil (passes_call (takes_of rfl rfl rfl rfl) (fun _ _ _ _ h => h)) (pa_cons (pv 3) (pa_cons (pv 4) (pa_cons (pv 8) pa_nil))))) pa_nil)) (by rfl))
  (pss_cons (ps_if (PW.pt (pw_and (pt_cmpR op_isN (pv 9) pe_non (nomark _)) (pw_and1 (pt_cmpR (op_neD hr.units) (pv 10) (pe_tup (pa_cons pe_str pa_nil)) (nomark _))))) (pss_one (ps_ret pe_bl)) pss_nil)
  (pss_cons (ps_if (pt_cmpR op_notN (pv 9) pe_non (nomark _)) (pss_one (ps_if (PW.pt (pw_or (pt_cmpR op_ne (pe_ix ix_tup (pv 10) pe_int (fun _ _ => rfl)) pe_str (nomark _)) (pw_or1 (pt_not (pt_val (pe_call GIB (hr.mono (by decide)) (by rfl) (Z.g 45 (by decide)) (Z.F 45 (by decide)).kp (bIsB Z) .nil pass0 (pa_cons (pe_ix ix_tup (pv 10) pe_int (fun _ _ => rfl)) (pa_cons (pe_call GNR (hr.mono (by decide)) (by rfl) (Z.g 35 (by decide)) (Z.F 35 (by decide)).kp (bANear Z) .nil pass0 (pa_cons (pv 9) pa_nil)) (pa_cons (pe_ix ix_tup (pv 9) pe_int (fun _ _ => rfl)) pa_nil))))))))) (pss_one (ps_ret pe_bl)) pss_nil)) pss_nil)
  (pss_one (ps_if (PW.pt (pw_or (pt_not (pt_val (pe_call GIB (hr.mono (by decide)) (by rfl) (Z.g 45 (by decide)) (Z.F 45 (by decide)).kp (bIsB Z) .nil pass0 (pa_cons (pv 3) (pa_cons (pv 2) (pa_cons (pe_ix ix_tup (pv 1) pe_int (fun _ _ => rfl)) pa_nil)))))) (pw_or1 (pt_not (pt_val (pe_call GIB (hr.mono (by decide)) (by rfl) (Z.g 45 (by decide)) (Z.F 45 (by decide)).kp (bIsB Z) .nil pass0 (pa_cons (pv 8) (pa_cons (pe_call GNR (hr.mono (by decide)) (by rfl) (Z.g 35 (by decide)) (Z.F 35 (by decide)).kp (bANear Z) .nil pass0 (pa_cons (pv 7) pa_nil)) (pa_cons (pe_ix ix_tup (pv 7) pe_int (fun _ _ => rfl)) pa_nil))))))))) (pss_one (ps_ret pe_bl)) pss_nil)))))))
  (pss_one (ps_for PassesOwn.never rfl (pi_tup (pe_tup (pa_cons pe_non (pa_cons pe_int (pa_cons pe_str (pa_cons (pe_lst pa_nil) (pa_cons pe_dnewK (pa_cons pe_bl pa_nil)))))))) (pg_name (i := 11) sc_right.nd rfl (Or.inr rfl))
    (pss_one (ps_if (pt_not (pt_val (pe_call GS (hr.mono (by decide)) (by rfl) (Z.g 56 (by decide)) (Z.F 56 (by decide)).kp (bSame Z) .nil pass0 (pa_cons (pe_met Z M (T := T) (c := cc) (P := Pt) (t := fun E => tCall (spWithin M Z.B.C) [] E (tCons (tVar 3) (tCons (tVar 4) (tCons (tVar 11) tNil)))) (by rfl) TB rfl hmT huT hr (lamS_by (sc := defScope (topS 62)) (by decide +kernel)) rfl (fun _ _ _ _ _ => rfl) (fun A outer s H E f c' hr2 => pe_call GWI (hr2.mono (by decide)) (by rfl) (Z.g 31 (by decide)) (Z.F 31 (by decide)).kp (bWithin Z) .nil (passes_call (takes_of rfl rfl rfl rfl) (fun _ _ _ _ h => h)) (pa_cons (pv 3) (pa_cons (pv 4) (pa_cons (pv 11) pa_nil))))) (pa_cons (pe_tup (pa_cons pe_str (pa_cons (pv 11) pa_nil))) pa_nil))))) (pss_one (ps_ret pe_bl)) pss_nil)))))))
  (pss_one (ps_ret (pe_call GX (hr.mono (by decide)) (by rfl) (Z.g 63 (by decide)) (Z.F 63 (by decide)).kp (bRefused Z) .nil pass0 (pa_cons (pv 3) (pa_cons (pe_ix ix_tup (pv 1) pe_int (fun _ _ => rfl)) pa_nil))))))), ?_⟩)
  · obtain ⟨p, l, r1, n, N, pl1, ts1, rm1, rfl, _⟩ := h
    rfl
  obtain ⟨p, l, r1, n, N, pl1, ts1, rm1, rfl, S, hn, hT, hN, A1, k1, q1, dr, k⟩ := h
  have sz : 5000 < sizeLine := by decide
  have one : 1 ≤ sizeLine := by decide
  have two : 2 ≤ sizeLine := by decide
  obtain ⟨aP, aT, aR, av, a0, a1, a2, a3, a4, na0, na1, na2, na3, na4⟩ := id A1
  have lts1 : ts1.length ≤ 32 := by
    have := k1.ts.len2
    have := Nat.mul_le_mul q1 q1
    omega
  have K0 := Kx.start S hT
  refine ⟨_, rfl, r1, pl1, ts1, rm1, rfl, A1.weak fun _ _ => trivial, k1.nd, by omega, by omega, fun t ht => ⟨(k1.ts.ok t ht).1, (k1.ts.ok t ht).2.1⟩, fun q la H1 N1 nq nla S1 => ?_⟩
  have K1 := K0.same S1
  refine ⟨_, rfl, _, rfl, p, l, r1, n, N, pl1, ts1, rm1, rfl, K1.st, by omega, A1.frame fun c o _ e => S1 _ _ e, hN, k1, fun x0 H2 B2 F2 => ⟨two, fun tt ntt => ⟨tt, _, rfl, SqT.of upd_same, rfl, _, _, rfl, _, _, rfl, rfl, ?_⟩⟩⟩
  have K2 := K1.fr F2
  have qn := K0.ne nq
  have lan : ∀ s ∈ sortS pl1, la s ≠ p ∧ la s ≠ l := fun s hs => K0.ne (nla s hs)
  have N2 : NearAt H2 q (sortS pl1) (fun s => sortS (nb ts1 s)) la := ⟨F2.but _ _ N1.d qn.1 qn.2, fun s hs => F2.but _ _ (N1.at_ s hs) (lan s hs).1 (lan s hs).2, N1.inj⟩
  have B2' : BoardAt (fun c => c ≠ p ∧ c ≠ l) Z.B.C H2 x0 (sortS pl1) (sortPr ts1) rm1 := B2.weak fun c hc => K1.ne hc
  have St := new_same (o := .tup [V.ref q, .ref x0]) ntt
  have K3 := K2.same St
  have N3 := N2.mono St
  have B3 := B2'.same St
  have A3 := A1.kx hN K3
  generalize upd H2 tt (.tup [V.ref q, .ref x0]) = H3 at *
  have r3 := K3.tup a0 (hN _ na0)
  have R3 := K3.lst a4 (hN _ na3)
  have hka := N3.d
  generalize eKV : ((sortS pl1).map fun s => ((Sum.inr s : Key), V.ref (la s))) = KV at hka
  have kvl : KV.length = pl1.length := by rw [← eKV, List.length_map, sortS_len]
  have kv_at : ∀ {i : Nat} {k : Key} {v : V}, KV[i]? = some (k, v) → ∃ p, (sortS pl1)[i]? = some p ∧ k = Sum.inr p := fun {i k v} h => by
    rw [← eKV, List.getElem?_map] at h
    cases ep : (sortS pl1)[i]? with
    | none => rw [ep] at h; cases h
    | some p => rw [ep] at h; cases h; exact ⟨p, rfl, rfl⟩
  refine ⟨_, rfl, q, _, hka, trivial, fun od => ⟨_, rfl, q, od, rfl, .inl ⟨KV, upd_same, fun D2 nD => ?_⟩⟩⟩
  have aD : q ≠ D2 := ne_of_none upd_same nD
  have nD2 : H3 D2 = none := by
    rw [upd_ne aD.symm] at nD
    exact nD
  have r1q : r1 ≠ q := ne_of r3 hka (fun z => by cases z)
  have aRq : aR ≠ q := ne_of R3 hka (fun z => by cases z)
  refine lc_it walk_keys (fun i H' => H' D2 = some (.lst ((((sortS pl1).take i).filter fun o => !decide (o ∈ rm1)).map V.str)) ∧ H' q = some (.frz od (.dK KV)) ∧ ∀ c o, H3 c = some o → c ≠ q → H' c = some o)
    ⟨upd_same, by rw [upd_ne aD]; exact upd_same, fun c o hc ca => by rw [upd_ne (ne_of_none hc nD2), upd_ne ca]; exact hc⟩ (fun i H' _ ⟨_, h, _⟩ => h) ?_ ?_
  · rintro i x H' H4 hi ⟨hD, hk, Bt⟩ ⟨rfl, kk, vv, hkv, rfl⟩
    obtain ⟨z, ez, rfl⟩ := kv_at hkv
    obtain ⟨f1, f2⟩ := fil_step (H := H4) (D := D2) (fun o => !decide (o ∈ rm1)) ez
    have lf := List.length_filter_le (fun o => !decide (o ∈ rm1)) ((sortS pl1).take i)
    rw [List.length_take, sortS_len] at lf
    refine ⟨rfl, _, rfl, _, rfl, r1, _, 2, _, rfl, rfl, SqT.of (Bt _ _ r3 r1q), rfl, aR, _, rfl, .inl (SqL.of (Bt _ _ R3 aRq)), rfl, flat_strs _, _, rfl, ?_⟩
    rw [show inV (L2.kV (Sum.inr z)) (rm1.map V.str) = decide (z ∈ rm1) from inV_strs z _]
    refine ite2 (fun c => ?_) (fun c => ?_)
    · have c' : (!decide (z ∈ rm1)) = true := c
      refine ⟨_, rfl, _, hD, ?_, ?_, ?_, ?_⟩
      · rw [List.length_map]
        omega
      · rw [upd_same, f1 c', List.map_append]
        rfl
      · rw [upd_ne aD]
        exact hk
      · exact fun c o hc ca => by rw [upd_ne (ne_of_none hc nD2)]; exact Bt c o hc ca
    · have c' : ¬ (!decide (z ∈ rm1)) = true := c
      exact ⟨by rw [f2 c']; exact hD, hk, Bt⟩
  rintro H4 ⟨hD, hk, Bt⟩
  refine ⟨hk, ?_⟩
  rw [kvl, ← sortS_len pl1, List.take_length] at hD
  have S34 : Same H3 (upd H4 q (.dK KV)) := fun c o hc => by
    by_cases ca : c = q
    · rw [ca] at hc ⊢
      rw [hka] at hc
      cases hc
      exact upd_same
    · rw [upd_ne ca]
      exact Bt c o hc ca
  have hD5 : (upd H4 q (.dK KV)) D2 = some (.lst (((sortS pl1).filter fun o => !decide (o ∈ rm1)).map V.str)) := by rw [upd_ne aD.symm]; exact hD
  generalize upd H4 q (.dK KV) = H5 at *
  obtain ⟨F0, eF0⟩ : ∃ F0, F0 = (sortS pl1).filter fun o => !decide (o ∈ rm1) := ⟨_, rfl⟩
  have F0in : ∀ z ∈ F0, z ∈ pl1 ∧ z ∉ rm1 := fun z hz => by
    have h := List.mem_filter.mp (eF0 ▸ hz)
    exact ⟨sortS_mem.mp h.1, by simpa using h.2⟩
  have F0l : F0.length ≤ 8 := by
    rw [eF0]
    have := List.length_filter_le (fun o => !decide (o ∈ rm1)) (sortS pl1)
    rw [sortS_len] at this
    omega
  rw [← eF0] at hD5
  have K5 := K3.same S34
  clear hD hk Bt eF0 hka
  refine ⟨p, l, D2, n + 4000, F0.map V.str, rfl, K5.st, by omega, SqL.of hD5, by rw [List.length_map]; omega, fun mq ys H6 perm F6 nmq hmq => ?_⟩
  obtain ⟨rs, rfl, rperm⟩ := strs_perm perm
  rw [List.length_map] at F6
  refine ⟨(3 : Int), rfl, mq, _, rfl, SqL.of hmq, fun s3 ns3 => ⟨s3, rfl, ⟨_, SqL.of upd_same⟩, ?_⟩⟩
  rw [show (3 : Int) = ((3 : Nat) : Int) from rfl, cut_to, ← List.map_take]
  have K6 := (K5.fr F6).mono (m := n + 4010) (by omega)
  have s3n := K6.ne ns3
  have Ss := new_same (o := .lst ((rs.take 3).map V.str)) ns3
  have K7 := K6.same Ss
  have hs3 := upd_same (H := H6) (a := s3) (o := .lst ((rs.take 3).map V.str))
  have N7 : NearAt (upd H6 s3 (.lst ((rs.take 3).map V.str))) q (sortS pl1) (fun s => sortS (nb ts1 s)) la := ⟨Ss _ _ (F6.but _ _ (S34 _ _ N3.d) qn.1 qn.2), fun s hs => Ss _ _ (F6.but _ _ (S34 _ _ (N3.at_ s hs)) (lan s hs).1 (lan s hs).2), N3.inj⟩
  have B7 : BoardAt (fun c => c ≠ p ∧ c ≠ l) Z.B.C (upd H6 s3 (.lst ((rs.take 3).map V.str))) x0 (sortS pl1) (sortPr ts1) rm1 := ((B3.same S34).frame fun c o hc e => F6.but c o e hc.1 hc.2).same Ss
  generalize upd H6 s3 (.lst ((rs.take 3).map V.str)) = H7 at *
  clear N3 B3 A3 hmq hD5 perm F6 S34 Ss St F2 B2' B2 N2 N1 K2 K3 K5 K6 r3 R3
  have nrK : ∀ {m : Nat} {H9 : Hp}, Kx T p l m H7 H9 → NearAt H9 q (sortS pl1) (fun s => sortS (nb ts1 s)) la := fun F => ⟨F.but _ _ N7.d qn.1 qn.2 (fun ps z => by cases z), fun s hs => F.lst (N7.at_ s hs) (lan s hs), N7.inj⟩
  have bdK : ∀ {m : Nat} {H9 : Hp}, Kx T p l m H7 H9 → BoardAt (fun c => c ≠ p ∧ c ≠ l) Z.B.C H9 x0 (sortS pl1) (sortPr ts1) rm1 := fun F => B7.kxN (fun c h => h) F
  have rwK : ∀ {m : Nat} {H9 : Hp}, Kx T p l m H7 H9 → RawAt N H9 r1 pl1 ts1 rm1 := fun F => A1.kx hN (K7.trans F)
  have nn : ∀ c, (c ≠ p ∧ c ≠ l) → c ≠ p ∧ c ≠ l := fun c h => h
  refine for_list (xs := (rs.take 3).map V.str) (fun i σ H' => ∃ v4 v5 v6 v7 v8 v9 v10 v11, σ = [some (.ref p), some (.ref r1), some (.ref q), some (.ref x0), v4, v5, v6, v7, v8, v9, v10, v11] ∧ Kx T p l (n + 5000 + 60000 * i) H7 H') ⟨none, none, none, none, none, none, none, none, rfl, (Kx.start K7.st K7.tb).mono (by omega)⟩ (fun i σ H' _ ⟨_, _, _, _, _, _, _, _, _, K'⟩ => SqL.of (K'.lst hs3 s3n)) ?_ ?_
  · rintro i v σ H' hv ⟨v4, v5, v6, v7, v8, v9, v10, v11, rfl, K'⟩
    rw [List.getElem?_map] at hv
    cases ez : (rs.take 3)[i]? with
    | none => rw [ez] at hv; cases hv
    | some z =>
    rw [ez] at hv
    cases hv
    have il := (List.getElem?_eq_some_iff.mp ez).1
    rw [List.length_take] at il
    have i3 : i < 3 := by omega
    obtain ⟨zin, zr⟩ := F0in z (rperm.mem_iff.mp (List.mem_of_mem_take (List.mem_of_getElem? ez)))
    refine ⟨_, rfl, _, rfl, _, rfl, p, l, r1, _, z, N, pl1, ts1, rm1, rfl, K'.st, by omega, rwK K', hN, k1, zin, q1, dr, fun r0 m ts rm H8 F8 R8 ok8 pm m3 => ?_⟩
    have K8 := K'.fr F8
    have R8 : RawAt (fun c => c ≠ p ∧ c ≠ l) H8 r0 (nbS ts1 z ++ inN m) ts rm := R8.weak fun c h => K'.ne h
    have lin : (inN m).length ≤ 3 := by
      have := (inN_sub m3).length_le
      exact Nat.le_trans this (by decide +kernel)
    have lnb : (nbS ts1 z).length ≤ 7 := by
      have le : (pl1.filter fun o => !decide (o = z)).length < pl1.length := List.length_filter_lt_length_iff_exists.mpr ⟨z, zin, by simp⟩
      have := (nbS_nd k1.ts z).length_le_of_subset (l₂ := pl1.filter fun o => !decide (o = z)) fun y hy => List.mem_filter.mpr ⟨(nbS_in k1.ts hy).1, by simp; exact (nbS_in k1.ts hy).2⟩
      omega
    have l10 : (nbS ts1 z ++ inN m).length ≤ 10 := by rw [List.length_append]; omega
    have lts : ts.length ≤ 50 := by
      have := ok8.ts.len2
      have := Nat.mul_le_mul l10 l10
      omega
    have zno : z ∉ nbS ts1 z ++ inN m := fun h => (List.mem_append.mp h).elim (fun h => (nbS_in k1.ts h).2 rfl) fun h => (inN_in m3 h).2 (dr z zin)
    have fno : ("far0" : Str) ∉ nbS ts1 z ++ inN m := fun h => (List.mem_append.mp h).elim (fun h => no_drawn.2.1 (dr _ (nbS_in k1.ts h).1)) fun h => no_drawn.2.2 ((inN_sub m3).subset h)
    have A8 := rwK K8
    refine ⟨_, rfl, _, rfl, _, rfl, _, rfl, p, r1, r0, z, fun c => c ≠ p ∧ c ≠ l, pl1, ts1, rm1, nbS ts1 z ++ inN m, ts, rm, rfl, A8.weak hN, R8, k1, ok8, q1, l10, drawn_in (dr z zin), zno, fno, fun b xs H9 nb_ hb lxs ents S9 => ?_⟩
    refine ⟨_, rfl, one, fun e1 ne1 => ⟨b, e1, _, _, rfl, rfl, new_same ne1 _ _ hb, upd_same, by rw [lxs]; show 9 + 1 ≤ sizeLine; omega, fun cL ncL => ⟨cL, rfl, ⟨_, SqL.of upd_same⟩, ?_⟩⟩⟩
    have bn := K8.ne nb_
    have Sv := (new_same (o := .lst [V.ref r0]) ne1).trans (new_same (o := .lst (xs ++ [V.ref r0])) ncL)
    have K9 := (K8.same S9).same Sv
    have cLn := K8.ne (S9.free ((new_same (o := .lst [V.ref r0]) ne1).free ncL))
    have hc := upd_same (H := upd H9 e1 (.lst [V.ref r0])) (a := cL) (o := .lst (xs ++ [V.ref r0]))
    have entA : ∀ v ∈ xs ++ [V.ref r0], RawE (fun c => c ≠ p ∧ c ≠ l) (upd (upd H9 e1 (.lst [V.ref r0])) cL (.lst (xs ++ [V.ref r0]))) v := fun v hv => by
      rcases List.mem_append.mp hv with h | h
      · exact ((ents v h).weak fun c hc => hc.1.elim id fun e => K8.ne e).frame fun c o _ e => Sv _ _ e
      · rw [List.mem_singleton.mp h]
        exact ⟨r0, _, _, _, rfl, R8.frame fun c o _ e => Sv _ _ (S9 _ _ e), ok8, by omega, lts⟩
    have lxs : (xs ++ [V.ref r0]).length = 10 := by rw [List.length_append, lxs]; rfl
    generalize upd (upd H9 e1 (.lst [V.ref r0])) cL (.lst (xs ++ [V.ref r0])) = HA at *
    generalize xs ++ [V.ref r0] = xs at *
    clear Sv ents hb S9
    refine for_list (xs := xs) (fun j σ H' => ∃ v5 v7 v8 v9 v10 v11, σ = [some (.ref p), some (.ref r1), some (.ref q), some (.ref x0), some (.str z), v5, some (.ref r0), v7, v8, v9, v10, v11] ∧ Kx T p l (n + 5000 + 60000 * i + 1000 + 4000 * j) HA H') ⟨_, _, _, _, _, _, rfl, (Kx.start K9.st K9.tb).mono (by omega)⟩ (fun j σ H' _ ⟨_, _, _, _, _, _, _, K'⟩ => SqL.of (K'.lst hc cLn)) ?_ ?_
    · rintro j v σ HB hv ⟨v5, v7, v8, v9, v10, v11, rfl, KB⟩
      have jl := (List.getElem?_eq_some_iff.mp hv).1
      obtain ⟨o, pl', ts', rm', rfl, Ro, oko, lo, lto⟩ := entA v (List.mem_of_getElem? hv)
      obtain ⟨oP, oT, oR, ov, o0, _, _, _, o4, no0, _, _, no3, _⟩ := id Ro
      have m4 := oko.rlen
      have K9B := K9.trans KB
      refine ⟨_, rfl, _, rfl, p, l, o, _, _, pl', ts', rm', rfl, KB.st, by omega, Ro.kx nn KB, nn, oko, fun y HC By FC => ?_⟩
      have KC := KB.fr FC
      have K9C := K9.trans KC
      have By : BoardAt (fun c => c ≠ p ∧ c ≠ l) Z.B.C HC y (sortS pl') (sortPr ts') rm' := By.weak fun c h => KB.ne h
      have kbx : ∀ {m : Nat} {H' : Hp}, Kx T p l m HA H' → Kn Z.B.C H' (.ref x0) := fun F => ((bdK (K9.trans F)).weak fun _ _ => trivial).kn
      have ko : ∀ {N : Addr → Prop} {H' : Hp} {y : Addr} {pl : List Str} {ts : List Pr} {rm : List Str}, BoardAt N Z.B.C H' y pl ts rm → Kn Z.B.C H' (.ref y) := fun B => (B.weak fun _ _ => trivial).kn
      have bx44 : (sortS pl1).length ≤ 44 := by rw [sortS_len]; omega
      have by44 : (sortS pl').length ≤ 44 := by rw [sortS_len]; omega
      refine ⟨_, rfl, _, rfl, _, rfl, r1, o, z, N, (fun c => c ≠ p ∧ c ≠ l), pl1, ts1, rm1, pl', ts', rm', rfl, rwK K9C, Ro.kx nn KC, k1, oko, zin, fun no HD SD => ?_, fun yes rd HD Rd SD => ?_⟩
      · have KD := KC.same SD
        have ByD := By.same SD
        refine ⟨KD.tb, fun HE eE TE => ?_⟩
        have KE := KD.ext eE TE
        have ByE := ByD.ext eE
        refine ⟨_, rfl, _, rfl, _, rfl, .ref x0, .str z, .ref y, rfl, kbx KE, .inr ⟨x0, _, _, _, rfl, (bdK (K9.trans KE)).weak fun _ _ => trivial, bx44, k1.fewS, .str z, .inr ⟨z, rfl, sortS_mem.mpr zin, .inr ⟨zr, ko ByE, .inr ⟨y, _, _, _, rfl, ByE.weak fun _ _ => trivial, by44, oko.fewS, fun _ d HF SF => .inr (.inr (.inr ⟨rfl, fun t nt => ?_⟩)), fun yes => absurd (wOk_raw.mp yes) no⟩⟩⟩⟩⟩
        have KF := (KE.same SF).put nt (o := .tup [.str "within"])
        have ByF := (ByE.same SF).same (new_same (o := .tup [.str "within"]) nt)
        have t9 := upd_same (H := HF) (a := t) (o := .tup [.str "within"])
        generalize upd HF t (.tup [.str "within"]) = HG at *
        refine ⟨_, _, rfl, _, rfl, rfl, ?_⟩
        refine ⟨_, rfl, iteT ⟨_, rfl, one, fun t2 nt2 => ?_⟩⟩
        have Sn := new_same (o := .tup [.str "within"]) nt2
        refine ⟨_, _, .tup (SqT.of (Sn _ _ t9)) (.cons (.str _) .nil), .tup (SqT.of upd_same) (.cons (.str _) .nil), by decide +kernel, by decide +kernel, _, rfl, ite2 (fun c => absurd c (by decide +kernel)) (fun _ => ?_)⟩
        have KH := KF.same Sn
        have ByH := ByF.same Sn
        generalize upd HG t2 (.tup [.str "within"]) = HH at *
        refine ⟨_, rfl, rfl, _, rfl, iteF ?_⟩
        refine ⟨_, rfl, _, rfl, _, rfl, r1, _, 2, _, rfl, rfl, SqT.of ((K7.trans (K9.trans KH)).tup a0 (hN _ na0)), rfl, x0, q, aR, _, sortS pl1, sortPr ts1, rm1, _, la, rfl, bdK (K9.trans KH), nrK (K9.trans KH), (K7.trans (K9.trans KH)).lst a4 (hN _ na3), (upTs_sort k1.nd k1.ts).symm, by rw [sortS_len]; omega, by rw [(sortPr_perm ts1).length_eq]; omega, by have := k1.rlen; omega, fun s hs => ?_, fun HX SX => ⟨_, rfl, iteF ?_⟩⟩
        · rw [sortS_len]
          have := nb_len ts1 s
          omega
        have KX := KH.same SX
        refine ⟨_, rfl, _, rfl, o, pl', ts', rm', rfl, (Ro.kx nn KX).weak fun _ _ => trivial, oko.nd, by omega, by omega, fun t ht => ⟨(oko.ts.ok t ht).1, (oko.ts.ok t ht).2.1⟩, fun q2 l2 HY NY _ _ SY => ?_⟩
        have KY := KX.same SY
        refine ⟨_, rfl, o, _, 2, _, rfl, rfl, SqT.of (KY.tup o0 no0), rfl, y, q2, oR, _, sortS pl', sortPr ts', rm', _, l2, rfl, ByH.same (SX.trans SY), NY, KY.lst o4 no3, (upTs_sort oko.nd oko.ts).symm, by omega, by rw [(sortPr_perm ts').length_eq]; omega, by omega, fun s hs => ?_, fun HW SW => ⟨_, rfl, iteF ?_⟩⟩
        · rw [sortS_len]
          have := nb_len ts' s
          omega
        exact ⟨_, _, _, _, _, _, rfl, (KY.same SW).mono (by omega)⟩
      · have KD := KC.same SD
        have ByD := By.same SD
        have Rd : RawAt (fun c => c ≠ p ∧ c ≠ l) HD rd (duP pl1 z pl') (duT ts1 z ts') rm1 := Rd.weak fun c hc => hc.elim (hN c) fun e => KC.ne e
        refine ⟨KD.tb, fun HE eE TE => ?_⟩
        have KE := KD.ext eE TE
        have ByE := ByD.ext eE
        refine ⟨_, rfl, _, rfl, _, rfl, .ref x0, .str z, .ref y, rfl, kbx KE, .inr ⟨x0, _, _, _, rfl, (bdK (K9.trans KE)).weak fun _ _ => trivial, bx44, k1.fewS, .str z, .inr ⟨z, rfl, sortS_mem.mpr zin, .inr ⟨zr, ko ByE, .inr ⟨y, _, _, _, rfl, ByE.weak fun _ _ => trivial, by44, oko.fewS, fun no => absurd (wOk_raw.mpr yes) no, fun _ => ?_⟩⟩⟩⟩⟩
        obtain ⟨w1, w2, w3, w4, w5⟩ := wi_facts yes k1 oko zin zr q1 lto
        refine ⟨w1, w2, w3, w4, w5, fun bb qs HF SF qnd qmem BB => ⟨two, fun t nt => ?_⟩⟩
        rw [wi_du yes k1 oko, wi_ts qs qnd qmem] at BB
        have Sn := new_same (o := .tup [.str "told", .ref bb]) nt
        have KF := (KE.same SF).same Sn
        have ByF := (ByE.same SF).same Sn
        have BBF := (BB.weak (N' := fun c => c ≠ p ∧ c ≠ l) fun c h => KE.ne h).same Sn
        have t9 := upd_same (H := HF) (a := t) (o := .tup [.str "told", .ref bb])
        have RdF := (Rd.kx nn ((Kx.start KD.st KD.tb).ext eE TE)).frame fun c o _ e => Sn _ _ (SF _ _ e)
        generalize upd HF t (.tup [.str "told", .ref bb]) = HG at *
        have du1 := du_nd (z := z) k1 oko
        have du2 := du_ts yes k1 oko
        have du3 := du_len (z := z) (pl' := pl') q1 lo
        have du4 : (duT ts1 z ts').length ≤ 90 := by
          have h1 := (once_sub (wiT ts1 z ++ ts')).length_le
          have h2 := List.length_filter_le (fun t : Pr => !(decide (z = t.1) || decide (z = t.2))) ts1
          rw [List.length_append] at h1
          have h3 : (wiT ts1 z).length ≤ ts1.length := h2
          have h4 : (duT ts1 z ts').length ≤ (wiT ts1 z).length + ts'.length := h1
          omega
        obtain ⟨dP, dT, dR, dv, d0, _, _, _, d4, _⟩ := id RdF
        refine ⟨_, _, rfl, _, rfl, rfl, ?_⟩
        refine ⟨_, rfl, ite2 (fun c => absurd (of_decide_eq_true c) (by intro z; cases z)) (fun _ => ?_)⟩
        refine ⟨_, rfl, rfl, _, rfl, ite2 (fun _ => ?_) (fun c => absurd (show (!decide (V.ref rd = V.non)) = true by rw [decide_eq_false (by intro z; cases z)]; rfl) c)⟩
        refine ⟨_, rfl, t, _, 0, _, rfl, rfl, SqT.of t9, rfl, rfl, _, rfl, ite2 (fun c => absurd c (by decide)) (fun _ => ?_)⟩
        refine ⟨_, rfl, t, _, 1, _, rfl, rfl, SqT.of t9, rfl, _, rfl, rd, _, _, _, rfl, RdF.weak fun _ _ => trivial, du1, by omega, by omega, fun t ht => ⟨(du2.ok t ht).1, (du2.ok t ht).2.1⟩, fun q3 l3 HI N3 _ _ SI => ?_⟩
        refine ⟨_, rfl, rd, _, 2, _, rfl, rfl, SqT.of (SI _ _ d0), rfl, bb, q3, dR, _, sortS (duP pl1 z pl'), sortPr (duT ts1 z ts'), rm1, _, l3, rfl, BBF.same SI, N3, SI _ _ d4, (upTs_sort du1 du2).symm, by rw [sortS_len]; omega, by rw [(sortPr_perm (duT ts1 z ts')).length_eq]; omega, by have := k1.rlen; omega, fun s hs => ?_, fun HJ SJ => ⟨_, rfl, iteF ?_⟩⟩
        · rw [sortS_len]
          have := nb_len (duT ts1 z ts') s
          omega
        have KJ := (KF.same SI).same SJ
        have ByJ := (ByF.same SI).same SJ
        refine ⟨_, rfl, _, rfl, _, rfl, r1, _, 2, _, rfl, rfl, SqT.of ((K7.trans (K9.trans KJ)).tup a0 (hN _ na0)), rfl, x0, q, aR, _, sortS pl1, sortPr ts1, rm1, _, la, rfl, bdK (K9.trans KJ), nrK (K9.trans KJ), (K7.trans (K9.trans KJ)).lst a4 (hN _ na3), (upTs_sort k1.nd k1.ts).symm, by rw [sortS_len]; omega, by rw [(sortPr_perm ts1).length_eq]; omega, by have := k1.rlen; omega, fun s hs => ?_, fun HX SX => ⟨_, rfl, iteF ?_⟩⟩
        · rw [sortS_len]
          have := nb_len ts1 s
          omega
        have KX := KJ.same SX
        refine ⟨_, rfl, _, rfl, o, pl', ts', rm', rfl, (Ro.kx nn KX).weak fun _ _ => trivial, oko.nd, by omega, by omega, fun t ht => ⟨(oko.ts.ok t ht).1, (oko.ts.ok t ht).2.1⟩, fun q2 l2 HY NY _ _ SY => ?_⟩
        have KY := KX.same SY
        refine ⟨_, rfl, o, _, 2, _, rfl, rfl, SqT.of (KY.tup o0 no0), rfl, y, q2, oR, _, sortS pl', sortPr ts', rm', _, l2, rfl, ByJ.same (SX.trans SY), NY, KY.lst o4 no3, (upTs_sort oko.nd oko.ts).symm, by omega, by rw [(sortPr_perm ts').length_eq]; omega, by omega, fun s hs => ?_, fun HW SW => ⟨_, rfl, iteF ?_⟩⟩
        · rw [sortS_len]
          have := nb_len ts' s
          omega
        exact ⟨_, _, _, _, _, _, rfl, (KY.same SW).mono (by omega)⟩
    · rintro σ HB ⟨v5, v7, v8, v9, v10, v11, rfl, KB⟩
      have KB7 := K9.trans KB
      refine ⟨Nat.zero_le _, fun l0 n0 => fun d0 nd0 => ⟨by show 6 ≤ sizeLine; omega, fun t nt => ⟨t, rfl, ⟨_, SqT.of upd_same⟩, ?_⟩⟩⟩
      have k0 := KB7.ne n0
      have L2' := KB7.put n0 (o := .lst [])
      have kd := L2'.ne nd0
      have L3' := L2'.put nd0 (o := .dK [])
      have kt := L3'.ne nt
      have K8' := L3'.put nt (o := .tup [.non, .int 5, .str "a", .ref l0, .ref d0, .bl true])
      have s7 := new_same nt (o := .tup [.non, .int 5, .str "a", .ref l0, .ref d0, .bl true])
      have s2 := (new_same nd0 (o := .dK [])).trans s7
      have f0 := s2 _ _ (upd_same (a := l0) (o := .lst []) (H := HB))
      have fd := s7 d0 _ upd_same
      have ft : (upd (upd (upd HB l0 (.lst [])) d0 (.dK [])) t (.tup [.non, .int 5, .str "a", .ref l0, .ref d0, .bl true])) t = some (.tup [.non, .int 5, .str "a", .ref l0, .ref d0, .bl true]) := upd_same
      clear s2 s7 L2' L3'
      generalize upd (upd (upd HB l0 (.lst [])) d0 (.dK [])) t (.tup [.non, .int 5, .str "a", .ref l0, .ref d0, .bl true]) = HC at *
      have eqE : ∀ {n : Nat} {a b : Addr} {H9 : Hp}, H9 a = some (.lst []) → H9 b = some (.lst []) → SmN Z.B.C (n + 1) (.ref a) (.ref b) H9 := fun {n a b _} ha hb => .inr (.inr (.inl ⟨a, b, [], [], rfl, rfl, .inl ⟨ha, hb⟩, rfl, by decide, fun i y y2 e1 => by simp at e1⟩))
      have oddA : ∀ y ∈ [V.non, .int 5, .str "a", .ref l0, .ref d0, .bl true], ∀ (n' : Nat) (H9 : Hp), Kx T p l n' HC H9 → Kn Z.B.C H9 y ∧ kdOf H9 y ≠ "" ∧ SmN Z.B.C 6 y y H9 := fun y hy => by
        simp only [List.mem_cons, List.not_mem_nil, or_false] at hy
        rcases hy with rfl | rfl | rfl | rfl | rfl | rfl
        · exact fun _ _ F => ⟨.non, by simp only [kdOf]; decide, sm_sc rfl⟩
        · exact fun _ _ F => ⟨.int 5, by simp only [kdOf]; decide, sm_sc rfl⟩
        · exact fun _ _ F => ⟨.str _, by simp only [kdOf]; decide, sm_sc rfl⟩
        · exact fun _ _ F => ⟨.lst (F.lst f0 k0), by simp only [kdOf, F.lst f0 k0]; decide, eqE (F.lst f0 k0) (F.lst f0 k0)⟩
        · exact fun _ _ F => ⟨.dic (F.but _ _ fd kd.1 kd.2 (fun ps z => by cases z)), by simp only [kdOf, F.but _ _ fd kd.1 kd.2 (fun ps z => by cases z)]; decide, .inr (.inr (.inr ⟨d0, rfl, rfl, F.but _ _ fd kd.1 kd.2 (fun ps z => by cases z), fun H9 b c hb hc => eqE hb hc⟩))⟩
        · exact fun _ _ F => ⟨.bl _, by simp only [kdOf]; decide, sm_sc rfl⟩
      have bx44 : (sortS pl1).length ≤ 44 := by rw [sortS_len]; omega
      refine for_tup (xs := [.non, .int 5, .str "a", .ref l0, .ref d0, .bl true]) (fun j σ H' => ∃ v5 v7 v8 v9 v10 v11, σ = [some (.ref p), some (.ref r1), some (.ref q), some (.ref x0), some (.str z), v5, some (.ref r0), v7, v8, v9, v10, v11] ∧ Kx T p l (n + 5000 + 60000 * i + 1000 + 4000 * xs.length) HC H') ⟨_, _, _, _, _, _, rfl, Kx.start K8'.st K8'.tb⟩ (fun j σ H' _ ⟨_, _, _, _, _, _, _, K'⟩ => SqT.of (K'.tup ft kt)) ?_ ?_
      · rintro j y σ HD hy ⟨v5, v7, v8, v9, v10, v11, rfl, KD⟩
        have od := oddA y (List.mem_of_getElem? hy)
        refine ⟨KD.tb, fun G1 e1 T1 => ?_⟩
        have KG := KD.ext e1 T1
        have K7G := K8'.trans KG
        refine ⟨_, rfl, _, rfl, _, rfl, .ref x0, .str z, y, rfl, ((bdK K7G).weak fun _ _ => trivial).kn, .inr ⟨x0, _, _, _, rfl, (bdK K7G).weak fun _ _ => trivial, bx44, k1.fewS, .str z, .inr ⟨z, rfl, sortS_mem.mpr zin, .inr ⟨zr, (od _ _ KG).1, .inl ⟨(od _ _ KG).2.1, fun d G2 nd hd2 S2 => .inl ⟨y, d, rfl, rfl, hd2, fun u nu => ?_⟩⟩⟩⟩⟩⟩
        have Kd := (KG.same S2).put nu (o := .tup [.str "board", y])
        have hu := upd_same (H := G2) (a := u) (o := .tup [.str "board", y])
        generalize upd G2 u (.tup [.str "board", y]) = G3 at *
        exact ⟨_, rfl, two, fun c2 nc2 => ⟨.ref u, .ref c2, rfl, sm_tup (n := 5) (new_same nc2 _ _ hu) upd_same (od _ _ (Kd.put nc2)).2.2, fun H15 S15 => ⟨_, rfl, iteF ⟨_, _, _, _, _, _, rfl, (Kd.put nc2).same S15⟩⟩⟩⟩
      · rintro σ HD ⟨v5, v7, v8, v9, v10, v11, rfl, KD⟩
        exact ⟨_, _, _, _, _, _, _, _, rfl, (K8'.trans KD).mono (by rw [lxs]; omega)⟩
  rintro σ H8 ⟨v4, v5, v6, v7, v8, v9, v10, v11, rfl, K'⟩
  have K08 := K7.trans K'
  have l3 : ((rs.take 3).map V.str).length ≤ 3 := by rw [List.length_map, List.length_take]; omega
  refine ⟨_, rfl, _, rfl, r1, _, 2, _, rfl, rfl, SqT.of (K08.tup a0 (hN _ na0)), rfl, p, l, x0, aR, _, sortS pl1, sortPr ts1, rm1, rfl, K'.st, K'.tb, bdK K', K08.lst a4 (hN _ na3), (hN _ na3).1, (hN _ na3).2, by rw [sortS_len]; omega, k1.fewS, fun z hz => sortS_mem.mpr (k1.rin z hz), fun h => no_drawn.1 (dr _ (sortS_mem.mp h)), fun H9 K9 => k H9 ((K08.trans K9).mono (by omega))⟩

end
end E1

set_option Elab.async false
set_option linter.all false
set_option maxRecDepth 100000
set_option maxHeartbeats 8000000
/-! _law_c_small: a small board. -/
namespace E1
open PySem PySem.Spec PyProof.Rows L2 G0
abbrev N_small : List Str := ["_law_stream", "_law_size"]
theorem sc_small : FnScope N_small ["_law_stream"] (defScope (topS 49)) := ⟨rfl, rfl, rfl, by decide +kernel, rfl, by decide +kernel, by decide +kernel⟩
def spCSmall : Sp := fun vs H Q _ => ∃ (p l : Addr) (n : Nat), vs = [.ref p] ∧ Stm H p l n ∧ n < 30000000 ∧
  ∀ (r : Addr) (pl : List Str) (ts : List Pr) (rm : List Str) (H' : Hp), Fr H p l (n + 32000) H' → RawAt (fun c => H c = none) H' r pl ts rm → RawOk pl ts rm → pl.length ≤ 8 → (∀ z ∈ pl, z ∈ drawnN) → Q (.ref r) H'
section
variable {P : Program} {w : World} {K : PySem.W.Frag} {mg : Str → Option Value} {base : Heap}
theorem bSmall (Z : LawD K mg) : Binds K (Z.d 49) ["_law_stream"] [] := (Z.F 49 (by decide)).binds fun _ _ _ _ _ _ us hl => match us, hl with | [_], _ => rfl
theorem ok_small (Z : LawD K mg) : FnOk P w K mg base CX0 6 (Z.f 49) (Z.d 49) ["_law_stream"] spCSmall := by
  have GD : FnOk P w K mg base CX0 1 Z.s.fD Z.s.dD ["_law_stream", "_law_many"] spDr := ok_dr Z.s
  have GA : FnOk P w K mg base CX0 4 (Z.f 36) (Z.d 36) ["_law_stream", "_law_many", "_law_pins", "_law_share"] spAny := ok_a_any Z
  have GAB : FnOk P w K mg base CX0 5 (Z.f 42) (Z.d 42) ["_law_stream", "_law_many"] spABoard := ok_a_board Z
  have GPK : FnOk P w K mg base CX0 2 (Z.f 54) (Z.d 54) ["_law_stream", "_law_some"] (spPick K) := ok_pick Z
  refine Fun.ok (Z.F 49 (by decide)) sc_small (fun vs H Q E h => ?_) (fun cdv A outer s H vs Q E hr h => ⟨_, pss_cons (ps_if (pt_cmpR op_eq (pe_call GD (hr.mono (by decide)) (by rfl) Z.s.gD Z.s.FD.kp (bDr Z.s) .nil pass0 (pa_cons (pv 0) (pa_cons pe_int pa_nil))) pe_int (nomark _)) (pss_cons (ps_set (i := 1) sc_small.nd rfl (Or.inl rfl) (pe_op op_add pe_int (pe_call GD (hr.mono (by decide)) (by rfl) Z.s.gD Z.s.FD.kp (bDr Z.s) .nil pass0 (pa_cons (pv 0) (pa_cons pe_int pa_nil)))))
  (pss_one (ps_ret (pe_call GA (hr.mono (by decide)) (by rfl) (Z.g 36 (by decide)) (Z.F 36 (by decide)).kp (bAny Z) .nil pass0 (pa_cons (pv 0) (pa_cons (pv 1) (pa_cons (pe_callB (call_min2 rfl) (by rfl) (Z.free "min" (by decide)) boot_min (pa_cons (pv 1) (pa_cons (pe_call GPK (hr.mono (by decide)) (by rfl) (Z.g 54 (by decide)) (Z.F 54 (by decide)).kp (bPick Z) .nil pass0 (pa_cons (pv 0) (pa_cons (pe_lst (pa_cons pe_int (pa_cons pe_int (pa_cons pe_int (pa_cons pe_int (pa_cons pe_int (pa_cons pe_int pa_nil))))))) pa_nil))) pa_nil))) (pa_cons (pe_op op_add pe_int (pe_call GD (hr.mono (by decide)) (by rfl) Z.s.gD Z.s.FD.kp (bDr Z.s) .nil pass0 (pa_cons (pv 0) (pa_cons pe_int pa_nil)))) pa_nil)))))))) pss_nil)
  (pss_one (ps_ret (pe_call GAB (hr.mono (by decide)) (by rfl) (Z.g 42 (by decide)) (Z.F 42 (by decide)).kp (bABoard Z) .nil pass0 (pa_cons (pv 0) (pa_cons pe_int pa_nil))))), ?_⟩)
  · obtain ⟨p, l, n, rfl, _⟩ := h
    rfl
  obtain ⟨p, l, n, rfl, S, hn, k⟩ := h
  have sz : 5000 < sizeLine := by decide
  refine ⟨_, rfl, p, l, n, 2, rfl, S, by omega, by decide, by decide, fun d H1 hd F1 => ⟨rfl, _, rfl, ite2 (fun c => ?_) (fun c => ?_)⟩⟩
  · refine ⟨_, rfl, p, l, _, 8, rfl, F1.st, by omega, by decide, by decide, fun d2 H2 h2 F2 => ⟨_, _, rfl, rfl, ?_⟩⟩
    refine ⟨_, rfl, _, rfl, _, rfl, _, rfl, by show 6 ≤ sizeLine; decide, fun a na => ?_⟩
    have F02 := F1.trans F2
    have naH := F02.free na
    have F3 := F02.put naH (o := .lst [.int 0, .int 2, .int 3, .int 4, .int 4, .int 5])
    have ha := upd_same (H := H2) (a := a) (o := .lst [.int 0, .int 2, .int 3, .int 4, .int 4, .int 5])
    generalize upd H2 a (.lst [.int 0, .int 2, .int 3, .int 4, .int 4, .int 5]) = H3 at F3 ha ⊢
    refine ⟨p, l, a, _, _, rfl, F3.st, by omega, ha, (F02.ne naH).1, (F02.ne naH).2, by decide, by decide, fun i y H4 hy F4 => ?_⟩
    obtain ⟨m, rfl⟩ : ∃ m : Nat, y = .int (m : Int) := by
      have hm := List.mem_of_getElem? hy
      simp only [List.mem_cons, List.not_mem_nil, or_false] at hm
      rcases hm with rfl | rfl | rfl | rfl | rfl | rfl
      · exact ⟨0, rfl⟩
      · exact ⟨2, rfl⟩
      · exact ⟨3, rfl⟩
      · exact ⟨4, rfl⟩
      · exact ⟨4, rfl⟩
      · exact ⟨5, rfl⟩
    have F04 := F3.trans F4
    refine ⟨_, _, rfl, _, rfl, p, l, _, 4, rfl, F04.st, by omega, by decide, by decide, fun d5 H5 h5 F5 => ⟨_, _, rfl, rfl, ?_⟩⟩
    have F05 := F04.trans F5
    refine ⟨p, l, _, 1 + d2, min (1 + d2) m, 1 + (d5 : Int), ?_, F05.st, by omega, by omega, fun r pl ts rm H6 F6 raw ok ll nm => k r pl ts rm H6 ((F05.trans F6).mono (by omega)) (raw.weak fun c h => F05.free h) ok (by omega) nm⟩
    · have e1 : (1 : Int) + (d2 : Int) = ((1 + d2 : Nat) : Int) := by omega
      have e2 : (if (m : Int) < 1 + (d2 : Int) then (m : Int) else 1 + (d2 : Int)) = ((min (1 + d2) m : Nat) : Int) := by split <;> omega
      show [V.ref p, V.int (1 + (d2 : Int)), V.int (if (m : Int) < 1 + (d2 : Int) then (m : Int) else 1 + (d2 : Int)), V.int (1 + (d5 : Int))] = _
      rw [e2, e1]
  · refine ⟨_, rfl, p, l, _, 5, rfl, F1.st, by omega, by omega, fun r pl ts rm H6 F6 raw ok ll nm => k r pl ts rm H6 ((F1.trans F6).mono (by omega)) (raw.weak fun c h => F1.free h) ok (by omega) nm⟩
end
end E1

set_option Elab.async false
set_option linter.all false
set_option maxRecDepth 100000
set_option maxHeartbeats 16000000
/-! The law of boards within one another. -/
namespace E1
open PySem PySem.Spec PyProof.Rows L2 G0 LamX
abbrev N_lw : List Str := ["_law_script", "_law_stream", "_law_turn"]
theorem sc_lw : FnScope N_lw ["_law_script"] (defScope (topS 65)) := ⟨rfl, rfl, rfl, by decide +kernel, rfl, by decide +kernel, by decide +kernel⟩
def spLw (K : PySem.W.Frag) (T : List (Addr × Str)) : Sp := fun vs H Q _ => ∃ (a : Addr) (ns : List Int), vs = [.ref a] ∧ SqL K H a (ns.map V.int) ∧ Tabs T H ∧ ∀ H', Q (.bl true) H'
theorem huR {Pt Pl : Addr} (hne : Pt ≠ Pl) : ∀ q ∈ [(Pt, qRight), (Pl, qRef)], q.1 = Pt → q.2 = qRight := fun q hq e => by
  simp only [List.mem_cons, List.not_mem_nil, or_false] at hq
  rcases hq with rfl | rfl
  · rfl
  · exact absurd e.symm hne
theorem huL {Pt Pl : Addr} (hne : Pt ≠ Pl) : ∀ q ∈ [(Pt, qRight), (Pl, qRef)], q.1 = Pl → q.2 = qRef := fun q hq e => by
  simp only [List.mem_cons, List.not_mem_nil, or_false] at hq
  rcases hq with rfl | rfl
  · exact absurd e hne
  · rfl
section
variable {P : Program} {w : World} {K : PySem.W.Frag} {mg : Str → Option Value} {base : Heap}
theorem ok_lw (Z : LawD K mg) {M : MetD K mg} (D : PrD K mg M) {T : List (Addr × Str)} (GRI : FnOk P w K mg base CX0 11 (Z.f 62) (Z.d 62) ["_law_stream", "_law_raw"] (spRight T)) : FnOk P w K mg base CX0 12 (Z.f 65) (Z.d 65) ["_law_script"] (spLw K T) := by
  have G0 : FnOk P w K mg base CX0 1 Z.s.fS Z.s.dS ["_law_script"] (spSt K) := ok_st Z.s
  have GSM : FnOk P w K mg base CX0 6 (Z.f 49) (Z.d 49) ["_law_stream"] spCSmall := ok_small Z
  have GFL : FnOk P w K mg base CX0 9 (Z.f 64) (Z.d 64) ["_law_stream"] spFlatR := ok_flatR Z D
  refine Fun.ok (Z.F 65 (by decide)) sc_lw (fun vs H Q E h => ?_) (fun cdv A outer s H vs Q E hr h => ⟨_, PSs.nox (pss_cons (ps_set (i := 1) sc_lw.nd rfl (Or.inl rfl) (pe_call G0 (hr.mono (by decide)) (by rfl) Z.s.gS Z.s.FS.kp (bSt Z.s) .nil pass0 (pa_cons (pv 0) pa_nil)))
  (pss_cons (ps_for PassesOwn.never rfl (pi_range1 (by rfl) (Z.free "range" (by decide)) (pa_cons pe_int pa_nil)) (pg_name (i := 2) sc_lw.nd rfl (Or.inl rfl))
    (pss_one (ps_if (pt_not (pt_val (pe_call GRI (hr.mono (by decide)) (by rfl) (Z.g 62 (by decide)) (Z.F 62 (by decide)).kp (bRight Z) .nil pass0 (pa_cons (pv 1) (pa_cons (pe_call GSM (hr.mono (by decide)) (by rfl) (Z.g 49 (by decide)) (Z.F 49 (by decide)).kp (bSmall Z) .nil pass0 (pa_cons (pv 1) pa_nil)) pa_nil))))) (pss_one (ps_ret pe_bl)) pss_nil)))
  (pss_one (ps_ret (pe_call GFL (hr.mono (by decide)) (by rfl) (Z.g 64 (by decide)) (Z.F 64 (by decide)).kp (bFlatR Z) .nil pass0 (pa_cons (pv 1) pa_nil)))))), ?_⟩)
  · obtain ⟨a, ns, rfl, _⟩ := h
    rfl
  obtain ⟨a, ns, rfl, hS, tb0, k⟩ := h
  refine ⟨_, rfl, a, ns, rfl, hS, fun p l H1 S1 np nl Sm => ?_⟩
  have tb1 : Tabs T H1 := fun q hq => (tb0 q hq).ext fun b o e => Sm _ _ e
  refine ⟨8, rfl, by decide, by decide, for_it walk_range (fun i σ H' => ∃ v2, σ = [some (.ref a), some (.ref p), v2] ∧ Stm H' p l (340000 * i) ∧ Tabs T H') ⟨none, rfl, S1, tb1⟩ (fun i σ H' _ _ => trivial) ?_ ?_⟩
  · rintro i x σ H0 H2 hi ⟨v2, rfl, S2, tb2⟩ ⟨rfl, ex⟩
    have hi3 : i < 8 := hi
    refine ⟨_, rfl, _, rfl, p, l, _, rfl, S2, by omega, fun r pl ts rm H3 F3 R3 k3 q3 d3 => ?_⟩
    have tb3 := tabs_fr S2 tb2 F3
    exact ⟨p, l, r, _, _, pl, ts, rm, rfl, F3.st, by omega, tb3, (fun c hc => S2.fr.ne hc), R3, k3, q3, d3, fun H4 K4 => ⟨true, rfl, iteF ⟨_, rfl, K4.st.mono (by omega), K4.tb⟩⟩⟩
  · rintro σ H2 ⟨v2, rfl, S2, tb2⟩
    exact ⟨_, rfl, p, l, _, rfl, S2, by decide, fun H' => k H'⟩
end
end E1

set_option Elab.async false
set_option linter.all false
set_option maxRecDepth 100000
set_option maxHeartbeats 8000000
/-! The head: what is looked at behind the top. -/
namespace E1
open PySem PySem.Spec PyProof.Rows L2 G0 LamX
def errN : List (Str × Str) := [("BadPlaces", "index"), ("BadTies", "index"), ("BadRim", "index"), ("BadBoard", "thing"), ("NoPlace", "thing"), ("IsPin", "place")]
def errIx : List Nat := [4, 6, 5, 2, 8, 7]
def clN : List Str := ["BadBoard", "NoPlace", "IsPin", "BadCross", "NotBeside", "NotWithin"]
def flN : List Str := ["thing", "thing", "place", "thing"]
def eA (K : PySem.W.Frag) (i : Nat) : Addr := He.ga K (errN.getD i ("", "")).1
def bdC (K : PySem.W.Frag) : Addr := He.ga K "Board"
def cA (K : PySem.W.Frag) (i : Nat) : Addr := He.ga K (clN.getD i "")
def mNms : List Str := ["__init__", "__eq__", "places", "ties", "rim", "has_place", "ties_of"]
def mNm (j : Nat) : Str := mNms.getD j ""
def tops : List Nat := [16, 17, 18, 19, 20, 21, 23, 24, 27, 28, 29, 31, 33, 34, 35, 36, 37, 38, 39, 40, 41, 42, 43, 44, 45, 46, 47, 48, 49, 50, 51, 52, 53, 54, 55, 56, 57, 58, 59, 60, 61, 62, 63, 64, 65]
/-! ### the classes' objects -/
def oexB (K : PySem.W.Frag) (C : Addr) : Bool := match K.lookup C with
  | some ⟨.type t, _, .cls cd, sl⟩ => decide (t = "type") && ((match cd.mro with
    | .ref c :: bm => decide (c = C) && PySem.HandSPX.refsVE bm
    | _ => false) && (cd.hasDict && (!cd.hasDel && (match sl.toList with
    | [_, _, _, _, some (.builtin n), _] => decide (n = "ValueError.__new__")
    | _ => false))))
  | _ => false
theorem oexB_ok {K : PySem.W.Frag} {C : Addr} (h : oexB K C = true) : ∃ nm q N bs bm sn sub ab col dd k0 k1 k2 k3 k5, K.lookup C = some (excClassObj nm q C N bs bm true sn sub ab col dd k0 k1 k2 k3 k5 "ValueError.__new__") ∧ PySem.HandSPX.refsVE bm = true := by
  unfold oexB at h
  cases q : K.lookup C with
  | none =>
    rw [q] at h
    cases h
  | some o =>
    obtain ⟨oc, od, dt, sl⟩ := o
    rw [q] at h
    cases oc with
    | type t =>
      cases dt with
      | cls cd =>
        obtain ⟨nm, bs, mro, ns, qn, hd, sn, sub, ab, col, del⟩ := cd
        obtain ⟨sl⟩ := sl
        dsimp only at h
        obtain ⟨b1, h1⟩ := He.ba h
        obtain ⟨b2, h2⟩ := He.ba h1
        obtain ⟨b3, h3⟩ := He.ba h2
        obtain ⟨b4, b5⟩ := He.ba h3
        clear h3 h2 h1 h
        have e1 : t = "type" := of_decide_eq_true b1
        have e4 : del = false := by
          cases del with
          | false => rfl
          | true => cases b4
        subst e1 e4
        cases mro with
        | nil => cases b2
        | cons v bm =>
          cases v with
          | ref c =>
            replace b2 : (decide (c = C) && PySem.HandSPX.refsVE bm) = true := b2
            obtain ⟨c1, c2⟩ := He.ba b2
            have e5 : c = C := of_decide_eq_true c1
            subst e5
            have e3 : hd = true := b3
            subst e3
            split at b5
            · rename_i _ k0 k1 k2 k3 n k5
              have e6 : n = "ValueError.__new__" := of_decide_eq_true b5
              subst e6
              exact ⟨nm, qn, ns, bs, bm, sn, sub, ab, col, od, k0, k1, k2, k3, k5, rfl, c2⟩
            · cases b5
          | _ => cases b2
      | _ => cases h
    | _ => cases dt <;> cases h
def plnB (K : PySem.W.Frag) (C f : Addr) : Bool := match K.lookup C with
  | some ⟨.type t, _, .cls cd, sl⟩ => decide (t = "type") && (decide (cd.mro = [.ref C, .type "object"]) && (!cd.hasDel && ((match sl.toList with
    | [_, _, _, _, some (.builtin _), _] => true
    | _ => false) && (PySem.W.nsOkIn K cd.ns && (He.eqO (PySem.W.nsIn K cd.ns "__eq__") (some (some (.ref f))) && He.eqO (PySem.W.nsIn K cd.ns "__ne__") (some none))))))
  | _ => false
theorem ns_of {K : PySem.W.Frag} {h : Heap} {N : Addr} {mg : Str → Option Value} {n : Str} {v : Value} (X : K.In h) (G : h.Ns N mg) (e : PySem.W.nsIn K N n = some (some v)) : mg n = some v := by
  obtain ⟨o, es, ep, ho, hd, _, hf⟩ := G
  unfold PySem.W.nsIn at e
  split at e
  · rename_i c d es' n' sl q
    have z := X _ _ q
    rw [ho] at z
    cases z
    cases hd
    split at e
    · rename_i en hen
      cases e
      rw [← hf]
      unfold nsFind findBy
      rw [← Array.find?_toList, hen]
      rfl
    · split at e <;> cases e
  · cases e
theorem eq_obj : typeLookup (.type "object") ("__eq__" : Str) = pure (some (.builtin "object.__eq__")) := by
  rw [typeLookup_type, builtinLookup_eq_fast]
  kernel_rfl
theorem plnB_ok {K : PySem.W.Frag} {C f : Addr} (h : plnB K C f = true) (tf : PySem.W.typeIn K (.ref f) = some (.type "function")) (hp : Heap) (x : Addr) (o : Obj) (X : K.In hp) (hx : hp.get? x = some o) (ho : o.cls = .ref C) : hp.OwnEqNoNe x C f "object" [.type "object"] := by
  have tf2 : (K.lookup f).map (·.cls) = some (.type "function") := tf
  obtain ⟨fo, hf, hfc⟩ := Option.map_eq_some_iff.mp tf2
  unfold plnB at h
  cases q : K.lookup C with
  | none =>
    rw [q] at h
    cases h
  | some ob =>
    obtain ⟨oc, od, dt, sl⟩ := ob
    rw [q] at h
    cases oc with
    | type t =>
      cases dt with
      | cls cd =>
        obtain ⟨nm, bs, mro, ns, qn, hd, sn, sub, ab, col, del⟩ := cd
        obtain ⟨sl⟩ := sl
        dsimp only at h
        obtain ⟨b1, h1⟩ := He.ba h
        obtain ⟨b2, h2⟩ := He.ba h1
        obtain ⟨b3, h3⟩ := He.ba h2
        obtain ⟨b4, h4⟩ := He.ba h3
        obtain ⟨b5, h5⟩ := He.ba h4
        obtain ⟨b6, b7⟩ := He.ba h5
        clear h5 h4 h3 h2 h1 h
        have e1 : t = "type" := of_decide_eq_true b1
        have e2 : mro = [.ref C, .type "object"] := of_decide_eq_true b2
        have e4 : del = false := by
          cases del with
          | false => rfl
          | true => cases b3
        subst e1 e2 e4
        split at b4
        · rename_i _ k0 k1 k2 k3 n k5
          have N0 := Heap.Ns.of_isNs (PySem.W.isNs_of_in X b5)
          exact ⟨o, fo, nm, qn, ns, bs, hd, sn, sub, ab, col, od, k0, k1, k2, k3, k5, n, _, _, hx, ho, X _ _ q, N0, ns_of X N0 (He.eqO_ok b6), X _ _ hf, hfc, PySem.F.mro_object, eq_obj, PySem.W.nsMap_none_of_in X b5 (He.eqO_ok b7)⟩
        · cases b4
      | _ => cases h
    | _ => cases dt <;> cases h
/-! ### what is asked of them -/
def oneE (K : PySem.W.Frag) (p : Str × Str) : Bool := oexB K (He.ga K p.1) && (He.eqO (PySem.W.findIn K (.ref (He.ga K p.1)) "__setattr__") (some (some (.builtin "object.__setattr__"))) && (decide (PySem.W.subIn K (.ref (He.ga K p.1)) (.type "BaseException") = some true) && (decide (PySem.W.typeIn K (.ref (He.ga K p.1)) = some (.type "type")) &&
  (PySem.W.keepIn K (.ref (He.ga K p.1)) && (He.eqO (PySem.W.findIn K (.ref (He.ga K p.1)) p.2) (some none) && (He.eqO (PySem.W.findIn K (.ref (He.ga K p.1)) "__init__") (some (some (.ref (He.ma K (He.ga K p.1) "__init__")))) && (decide (PySem.W.typeIn K (.ref (He.ma K (He.ga K p.1) "__init__")) = some (.type "function")) && xfB K (He.ga K p.1))))))))
def exmB (K : PySem.W.Frag) : Bool := (List.range 6).all fun j => (decide (PySem.W.exmOne K (.ref (cA K 0)) (.ref (cA K j)) = some (decide (0 = j))) && decide (PySem.W.exmOne K (.ref (cA K 1)) (.ref (cA K j)) = some (decide (1 = j)))) && (decide (PySem.W.exmOne K (.ref (cA K 2)) (.ref (cA K j)) = some (decide (2 = j))) && decide (PySem.W.exmOne K (.ref (cA K 5)) (.ref (cA K j)) = some (decide (5 = j))))
def xflB (K : PySem.W.Frag) : Bool := (List.range 4).all fun j => xfB K (cA K j) && He.eqO (PySem.W.findIn K (.ref (cA K j)) (flN.getD j "")) (some none)
def knT : List String := ["str", "list", "tuple", "dict", "int", "bool"]
def clsB (K : PySem.W.Frag) (C : Addr) : Bool := He.eqO (PySem.W.findIn K (.ref C) "__class__") (some (some (.builtin "object.__class__"))) && (decide (PySem.W.mroIn K C (.type "object") = some true) && (knT.all (fun T => decide (PySem.W.kitOne K (.ref C) (.type T) = some false)) &&
  ((knT ++ ["NoneType"]).all (fun T => decide (PySem.W.kitOne K (.type T) (.ref C) = some false)) && (He.eqO (PySem.W.findIn K (.ref C) "__eq__") (some (some (.ref (He.ma K C "__eq__")))) && (decide (PySem.W.typeIn K (.ref (He.ma K C "__eq__")) = some (.type "function")) && (plnB K C (He.ma K C "__eq__") &&
  (["NoneType", "bool", "int", "str", "list", "tuple", "dict"].all fun T => PySem.W.notFirst K C (.type T))))))))
def lamT : List He.Defn := [("_law_right", none), ("_law_refused_right", none)]
def twoT (K : PySem.W.Frag) : Bool := decide ((He.cT K ("_law_right", none)).2 ≠ (He.cT K ("_law_refused_right", none)).2)
/-- an own error without an __init__ -/
def nbB (K : PySem.W.Frag) : Bool := PySem.W.excIn K (cA K 5) [.type "ValueError", .type "Exception", .type "BaseException", .type "object"] "ValueError.__new__" && (PySem.W.keepIn K (.ref (cA K 5)) &&
  (decide (PySem.W.subIn K (.ref (cA K 5)) (.type "BaseException") = some true) && decide (PySem.W.typeIn K (.ref (cA K 5)) = some (.type "type"))))
def exB (K : PySem.W.Frag) : Bool := ((K.lookup sysModules).isSome && nbB K) && (errN.all (oneE K) && (exmB K && (clsB K (bdC K) && (xflB K && (twoT K && He.tupB K "WORDS" (wordsL.map He.Dv.str))))))
/-! ### the head's data -/
def topD (i : Nat) : He.DefD := ⟨(tName i, none), tName i, tName i, defArgs (topS i), defBody (topS i), defScope (topS i), [], []⟩
def errD (k : Nat) : He.DefD := ⟨((errN.getD k ("", "")).1, some "__init__"), "__init__", (errN.getD k ("", "")).1 ++ ".__init__", defArgs (inClass (topS (errIx.getD k 0)) 0), defBody (inClass (topS (errIx.getD k 0)) 0), defScope (inClass (topS (errIx.getD k 0)) 0), [], []⟩
def brdD (j : Nat) : He.DefD := ⟨("Board", some (mNm j)), mNm j, "Board." ++ mNm j, defArgs (mS j), defBody (mS j), defScope (mS j), [], []⟩
def fn : List He.DefD := tops.map topD ++ ((List.range 6).map errD ++ (List.range 7).map brdD)
def frees : List Str := ["int", "list", "len", "range", "isinstance", "str", "tuple", "all", "enumerate", "sorted", "dict", "min", "max", "zip", "any", "repr", "bool", "set"]
def fa : List He.Fa := tops.map (fun i => He.Fa.glo (tName i)) ++ (errN.map (fun p => He.Fa.glo p.1) ++ (frees.map He.Fa.free ++ (clN.map He.Fa.glo ++ [.glo "Board", .glo "WORDS", .str "LETTERS" lettersS, .str "NAME_SIGNS" signsS, .int "LONGEST_NAME" 8, .cls "Board", .noat "Board" "_places", .noat "Board" "_ties", .noat "Board" "_rim", .noat "Board" "_near", .mkr "Board", .meth "Board" "places", .meth "Board" "ties", .meth "Board" "rim", .meth "Board" "has_place", .meth "Board" "ties_of"])))
def tf : List He.Defn := lamT
/-! ### the Hook: a part of the heap, laid out once -/
def refsG (g : Addr → Option Obj) (a : Addr) : List Addr := match g a with
  | some ⟨_, _, .dict es _, _⟩ => es.toList.flatMap fun e => He.refV e.val
  | _ => []
def codeG (g : Addr → Option Obj) (a : Addr) : List Addr := match g a with
  | some ⟨_, _, .func fd, _⟩ => He.refV fd.code
  | _ => []
def asY (g : Addr → Option Obj) : List Addr := sysModules :: mainGlobals :: (refsG g mainGlobals).flatMap fun a => a :: (match g a with
  | some ⟨_, _, .cls cd, _⟩ => cd.ns :: (refsG g cd.ns).flatMap fun f => f :: codeG g f
  | some ⟨_, _, .func fd, _⟩ => He.refV fd.code
  | _ => [])
def forceK {β : Type} : List (Addr × Obj) → (List (Addr × Obj) → β) → β
  | [], k => k []
  | p :: r, k => match p with
    | (a, o) => HandSHeadRun.frNat a fun a => forceK r fun K => k ((a, o) :: K)
theorem forceK_eq {β : Type} : ∀ (l : List (Addr × Obj)) (k : List (Addr × Obj) → β), forceK l k = k l
  | [], k => rfl
  | (a, o) :: r, k => by
    show HandSHeadRun.frNat a (fun a => forceK r fun K => k ((a, o) :: K)) = _
    rw [HandSHeadRun.frNat_eq, forceK_eq r]
abbrev AlY : Type := He.AlD × Bool
/-- what is told -/
structure SaysY (h : Heap) (K : PySem.W.Frag) : Prop where
  d : He.SaysD fa fn K
  more : exB K = true
  hd : ∀ p ∈ tf, PySem.W.codeHdIn K (He.cT K p).1 (He.cT K p).2 = true
  out : ∀ p ∈ tf, K.lookup (He.cT K p).2 = none
  empty : ∀ p ∈ tf, h.get? (He.cT K p).2 = some { cls := .none, data := .fields #[] }
def tabY (g : Addr → Option Obj) (K : PySem.W.Frag) : Bool := tf.all fun p => PySem.W.codeHdIn K (He.cT K p).1 (He.cT K p).2 && ((match g (He.cT K p).2 with
  | some o => He.emptyTab o
  | none => false) && (K.lookup (He.cT K p).2).isNone)
def obsY (g : Addr → Option Obj) : AlY := forceK (He.frG g (asY g)) fun K => (He.obsD fa fn K, exB K && tabY g K)
def valY : AlY := (He.valD fn, true)
theorem saysY_of {h : Heap} (e : obsY h.get? = valY) : SaysY h (He.frG h.get? (asY h.get?)) := by
  unfold obsY at e
  rw [forceK_eq] at e
  have e1 := congrArg (fun z : AlY => z.1) e
  have e2 : (exB (He.frG h.get? (asY h.get?)) && tabY h.get? (He.frG h.get? (asY h.get?))) = true := congrArg (fun z : AlY => z.2) e
  obtain ⟨h1, h2⟩ := He.ba e2
  have key : ∀ p ∈ tf, PySem.W.codeHdIn (He.frG h.get? (asY h.get?)) (He.cT (He.frG h.get? (asY h.get?)) p).1 (He.cT (He.frG h.get? (asY h.get?)) p).2 = true ∧
      (He.frG h.get? (asY h.get?)).lookup (He.cT (He.frG h.get? (asY h.get?)) p).2 = none ∧ h.get? (He.cT (He.frG h.get? (asY h.get?)) p).2 = some { cls := .none, data := .fields #[] } := fun p hp => by
    obtain ⟨h3, h4⟩ := He.ba (List.all_eq_true.mp h2 p hp)
    obtain ⟨h5, h6⟩ := He.ba h4
    refine ⟨h3, Option.isNone_iff_eq_none.mp h6, ?_⟩
    cases q : h.get? (He.cT (He.frG h.get? (asY h.get?)) p).2 with
    | none =>
      rw [q] at h5
      cases h5
    | some o =>
      rw [q] at h5
      rw [He.emptyTab_eq h5]
  exact ⟨e1, h1, fun p hp => (key p hp).1, fun p hp => (key p hp).2.1, fun p hp => (key p hp).2.2⟩
def hookY : PySem.W.Hook where
  α := AlY
  obs := fun s => obsY s.heap.get?
  val := fun _ => valY
  says := fun _ h => ∃ K : PySem.W.Frag, K.In h ∧ SaysY h K
  of := fun _ _ e => ⟨_, He.frG_in, saysY_of e⟩
  keeps := fun _ _ _ ⟨K, hK, c⟩ k => ⟨K, PySem.W.Frag.In.keeps hK k, ⟨c.d, c.more, c.hd, c.out, fun p hp => k _ _ (c.empty p hp)⟩⟩
theorem obsY_eq {g : Addr → Option Obj} {s : Shared} (h : ∀ a, g a = s.heap.get? a) : obsY g = hookY.obs s := by
  have e : g = s.heap.get? := funext h
  rw [e] <;> rfl
end E1

set_option Elab.async false
set_option linter.all false
set_option maxRecDepth 100000
set_option maxHeartbeats 4000000
/-! What the head tells, as the rules ask it. -/
namespace E1
open PySem PySem.Spec PyProof.Rows L2 G0 LamX
def fdOf (z : FuncData) (K : PySem.W.Frag) (f : Addr) : FuncData := match K.lookup f with
  | some ⟨_, _, .func fd, _⟩ => fd
  | _ => z
section
variable {K : PySem.W.Frag} {x q : Str} {ar : Arguments} {bo : List Stmt} {sc : Scope} {f : Addr} {st : Stmt}
theorem funD_of {z : FuncData} (h : ∃ fd, FunD K x q ar bo sc [] [] f fd) : FunD K x q ar bo sc [] [] f (fdOf z K f) := by
  obtain ⟨fd, F⟩ := h
  obtain ⟨oc, od, dV, kV, doc, pm, an, cdv, ct, osl, e, lk, hcd, hD, hK⟩ := F.ex
  have ef : fdOf z K f = fd := by
    unfold fdOf
    rw [lk]
  rw [ef]
  exact F
theorem fun_of {z : FuncData} (h : ∃ fd, FunD K x q (defArgs st) (defBody st) (defScope st) [] [] f fd) : Fun K x q st f (fdOf z K f) := by
  have F := funD_of (z := z) h
  obtain ⟨oc, od, dV, kV, doc, pm, an, cdv, ct, osl, e, lk, hcd, hD, hK⟩ := F.ex
  rcases hD with ⟨_, rfl⟩ | ⟨n, _⟩
  · exact ⟨⟨oc, od, kV, doc, pm, an, cdv, ct, osl, e, lk, hcd⟩, F.kp⟩
  · exact absurd rfl n
end
theorem sp_get (K : PySem.W.Frag) : PySem.W.specialIn K (.builtin "object.__class__") "__get__" = some (some (.builtin "getset_descriptor.__get__")) := by
  show PySem.W.specialIn [] (.builtin "object.__class__") "__get__" = _
  decide +kernel
theorem sp_tak (K : PySem.W.Frag) : PySem.W.takesIn K (.builtin "object.__class__") = some true := by
  show PySem.W.takesIn [] (.builtin "object.__class__") = _
  decide +kernel
section
variable {K : PySem.W.Frag} {h : Heap} {mg : Str → Option Value}
theorem glo_of (X : K.In h) (G : h.Ns mainGlobals mg) (Y : SaysY h K) {x : Str} (m : He.Fa.glo x ∈ fa) : mg x = some (.ref (He.ga K x)) := He.glo_ok X G (Y.d.facts m)
theorem top_mem {i : Nat} (m : i ∈ tops) : He.Fa.glo (tName i) ∈ fa := List.mem_append_left _ (List.mem_map.mpr ⟨i, m, rfl⟩)
theorem frees_mem {x : Str} (m : x ∈ frees) : He.Fa.free x ∈ fa := List.mem_append_right _ (List.mem_append_right _ (List.mem_append_left _ (List.mem_map.mpr ⟨x, m, rfl⟩)))
theorem topD_mem {i : Nat} (m : i ∈ tops) : topD i ∈ fn := List.mem_append_left _ (List.mem_map.mpr ⟨i, m, rfl⟩)
theorem errD_mem {i : Nat} (m : i < 6) : errD i ∈ fn := List.mem_append_right _ (List.mem_append_left _ (List.mem_map.mpr ⟨i, List.mem_range.mpr m, rfl⟩))
theorem brdD_mem {i : Nat} (m : i < 7) : brdD i ∈ fn := List.mem_append_right _ (List.mem_append_right _ (List.mem_map.mpr ⟨i, List.mem_range.mpr m, rfl⟩))
theorem clN_mem {x : Str} (m : x ∈ clN) : He.Fa.glo x ∈ fa := List.mem_append_right _ (List.mem_append_right _ (List.mem_append_right _ (List.mem_append_left _ (List.mem_map.mpr ⟨x, m, rfl⟩))))
/-- the last facts -/
theorem last_fact (Y : SaysY h K) (i : Nat) {f : He.Fa} (e : fa[75 + i]? = some f) : f.ok K = true := Y.d.facts (List.mem_of_getElem? e)
theorem fn_of_top (Y : SaysY h K) {z : FuncData} {i : Nat} (m : i ∈ tops) : FnS K i (He.ga K (tName i)) (fdOf z K (He.ga K (tName i))) := fun_of (Y.d.defs (topD_mem m))
theorem err_of (X : K.In h) (G : h.Ns mainGlobals mg) (Y : SaysY h K) : ∀ p ∈ errN, oneE K p = true := fun p hp => by
  obtain ⟨_, h1⟩ := He.ba Y.more
  exact List.all_eq_true.mp (He.ba h1).1 p hp
theorem oexC_of {C : Addr} (h1 : oexB K C = true) (h2 : PySem.W.findIn K (.ref C) "__setattr__" = some (some (.builtin "object.__setattr__"))) (h3 : PySem.W.subIn K (.ref C) (.type "BaseException") = some true) (h4 : PySem.W.typeIn K (.ref C) = some (.type "type")) (h5 : PySem.W.keepIn K (.ref C) = true) : OexC K C := ⟨oexB_ok h1, h2, h3, h4, h5⟩
end
/-- one error's class, as the law's rules ask it -/
noncomputable def errOf {K : PySem.W.Frag} {h : Heap} {mg : Str → Option Value} (z : FuncData) (X : K.In h) (G : h.Ns mainGlobals mg) (Y : SaysY h K) (i : Nat) (nm fl : Str) (k : Nat) (hk : k < 6) (e : errN[k]? = some (nm, fl)) (ei : errIx.getD k 0 = i) : ErrD K mg i nm fl :=
  have hp : (nm, fl) ∈ errN := List.mem_of_getElem? e
  have en : errN.getD k ("", "") = (nm, fl) := by rw [List.getD_eq_getElem?_getD, e]; rfl
  have one := err_of X G Y _ hp
  have b1 := He.ba one
  have b2 := He.ba b1.2
  have b3 := He.ba b2.2
  have b4 := He.ba b3.2
  have b5 := He.ba b4.2
  have b6 := He.ba b5.2
  have b7 := He.ba b6.2
  have b8 := He.ba b7.2
  have FD : ∃ fd, FunD K "__init__" (nm ++ ".__init__") (defArgs (inClass (topS i) 0)) (defBody (inClass (topS i) 0)) (defScope (inClass (topS i) 0)) [] [] (He.ma K (He.ga K nm) "__init__") fd := by
    have z := Y.d.defs (errD_mem hk)
    unfold errD at z
    rw [en, ei] at z
    exact z
  { C := He.ga K nm
    f := He.ma K (He.ga K nm) "__init__"
    fd := fdOf z K (He.ma K (He.ga K nm) "__init__")
    F := funD_of FD
    T := oexC_of b1.1 (He.eqO_ok b2.1) (of_decide_eq_true b3.1) (of_decide_eq_true b4.1) b5.1
    no := He.eqO_ok b6.1
    iC := He.eqO_ok b7.1
    tI := of_decide_eq_true b8.1
    g := glo_of X G Y (List.mem_append_right _ (List.mem_append_left _ (List.mem_map.mpr ⟨(nm, fl), hp, rfl⟩))) }
end E1

set_option Elab.async false
set_option linter.all false
set_option maxRecDepth 100000
set_option maxHeartbeats 4000000
/-! repr of data looks at what is being shown around it: defs whose promise holds where nothing is. -/
namespace G0
open PySem PySem.Spec PyProof.Rows L2
structure FnOkG (P : Program) (w : World) (K : PySem.W.Frag) (mg : Str → Option Value) (base : Heap) (k : Nat) (f : Addr) (fd : FuncData) (ps : List Str) (sp : Sp) : Prop where
  len : ∀ vs H Q E, sp vs H Q E → vs.length = ps.length
  go : ∀ (A : Around) (outer : List Env) (s : Shared) (H : Hp) (args : Args) (us : List Value) (vs : List V) (Q : VK) (E : XK), A.guards = some [] → Room k A → Env0 P w K mg base A outer s H → BindsTo s fd args (ps.zip us) → Vals vs us → sp vs H Q E →
    codeAny (model P w) A (.call (.ref f) args) (CR CX0 outer P w H s Q E) s
theorem deeper_g {A : Around} {env : Env} (h : A.guards = some []) : (A.deeper env).guards = some [] := by
  obtain ⟨hd, d, fr, gs, u⟩ := A
  exact h
section
variable {P : Program} {w : World} {K : PySem.W.Frag} {mg : Str → Option Value} {base : Heap} {k : Nat} {f : Addr} {name qual : Str} {params : Arguments} {body : List Stmt} {scope : Scope} {dV kV doc pm cdv ct oc : Value} {an od : Option Addr} {osl : Array (Option Value)} {N ps : List Str} {sp : Sp}
theorem fnG_of (lk : K.lookup f = some ⟨oc, od, .func (PySem.W.fnOf name qual params body scope dV kV doc pm an cdv ct), osl⟩) (hcd : PySem.W.codeIn K cdv qual = true) (S : FnScope N ps scope) (len : ∀ vs H Q E, sp vs H Q E → vs.length = ps.length)
    (hb : ∀ (A : Around) (outer : List Env) (s : Shared) (H : Hp) (vs : List V) (Q : VK) (E : XK), A.guards = some [] → Room k (A.deeper (envOfC qual scope s.heap.objs.size f cdv)) → sp vs H Q E →
      ∃ t, PSs (cxOf CX0 P w K mg base N qual scope f cdv A outer s H E) body t ∧ t { nx := fun _ H' => Q .non H', rt := Q } (start N vs) H) :
    FnOkG P w K mg base (k + 1) f (PySem.W.fnOf name qual params body scope dV kV doc pm an cdv ct) ps sp where
  len := len
  go := fun A outer s H args us vs Q E hg hr e0 bt r hsp => by
    have inK : K.In s.heap := e0.mod.kin.keeps fun b o e => (e0.bs b o e).1
    have kinds : ∀ y ∈ ps.zip us, scope.names.lookup y.1 = some .local ∨ (scope.names.lookup y.1 = some .cell ∧ ((cellsFrom (s.heap.objs.size + 1) scope.names []).lookup y.1).isSome = true) := by
      rintro ⟨n, v⟩ hy
      exact (S.par n (List.of_mem_zip hy).1).imp id fun c => ⟨c, PySem.W.cellsFrom_some _ _ _ (.inl c)⟩
    refine codeAny_call_function hr.depth (inK _ _ lk) rfl S.co S.gen rfl (PySem.W.codeRec_of inK hcd) (bt _ _ _ _ (wpAny_newFunctionEnv_cells S.kind kinds ?_))
    rintro env rfl s1 x
    obtain ⟨t, ht, hq⟩ := hb A outer s H vs Q E hg (hr.deeper _) hsp
    have I : Inv (cxOf CX0 P w K mg base N qual scope f cdv A outer s H E) [] (start N vs) H s1 := inv_start S hr.hd e0 (len _ _ _ _ hsp) r x
    refine ⟨(e0.mod.nolimit.keeps fun b o e => (e0.bs b o e).1).keeps x.toInCall.keep, codeAny_func (wpAny_mono (ht.run [] s1 (start N vs) H _ I hq) (fun fl s' hs => ?_) fun _ _ hs => hs)⟩
    rcases fl with _ | _ | _ | u
    all_goals first
      | (obtain ⟨v, σ', H', J, rv, q⟩ := hs; exact ⟨v, H', J.os, J.bare, J.base, J.hok, rv, q⟩)
      | (obtain ⟨σ', H', J, q⟩ := hs; exact ⟨.non, H', J.os, J.bare, J.base, J.hok, rfl, q⟩)
      | (obtain ⟨_, _, _, q⟩ := hs; exact False.elim q)
end
section
variable {X : Cx} {k : Nat} {f : Addr} {fd : FuncData} {ps : List Str} {sp : Sp} {x : Str} {p pos : Pos} {e : Expr} {es : List Expr} {t : TA}
theorem pe_callG (F : FnOkG X.prog X.w X.K X.mg X.base k f fd ps sp) (hgd : X.A.guards = some []) (hr : Room k X.A) (hg : Gl X x) (hm : X.mg x = some (.ref f)) (hk : PySem.W.keepIn X.K (.ref f) = true) (hb : Binds X.K fd ps [])
    (ha : PA X (e :: es) t) (hdb : (x == ("__debug__" : Str)) = false := by decide) (he : starEach (e :: es) X.env = (false, eval e X.env) :: starEach es X.env := by rfl) (hpl : (backTo pos (starEach es X.env)).any (·.1) = false := by rfl) :
    PE X (.Call (.Name x p) (e :: es) [] pos) (tCall sp [] (fun _ _ _ => False) t) := by
  refine ⟨fun pins s σ H Q I h => wpAny_Call_Name_kw (ld_glob I hg hm (PySem.W.callWith_K (h₀ := X.base) I.ok.mod.kin hk (thn (ha.run pos pins s σ H _ I h) fun us s1 ⟨vs, H1, I1, r, q⟩ => ⟨I1.kIn, ?_⟩) he hpl) hdb)⟩
  have q : sp (vs ++ []) H1 Q (fun _ _ _ => False) := q
  rw [List.append_nil] at q
  have hl : us.length = ps.length := by rw [← r.length]; exact F.len _ _ _ _ q
  have b := hb s1 us I1.kIn (by rw [List.append_nil]; exact hl)
  rw [List.append_nil] at b
  refine wpAny_call (codeAny_mono (F.go X.A X.stack s1 H1 ⟨us, []⟩ us vs Q _ hgd hr I1.env0 b r q) fun r s' hq => ?_)
  rcases r with e | (_ | _ | _ | u)
  all_goals first
    | exact I1.after hq
    | exact False.elim hq
end
/-! ### data, as it is shown -/
def vD : V → PyData
  | .int i => .int i
  | .str x => .str x
  | .bl b => .bool b
  | _ => .none
def flatV : V → Bool
  | .int _ | .str _ | .bl _ | .non => true
  | _ => false
def kD : Key → PyData
  | .inl i => .int i
  | .inr x => .str x
mutual
inductive Dx (H : Hp) : V → PyData → Prop
  | flat (v : V) : flatV v = true → Dx H v (vD v)
  | lst {a : Addr} {xs : List V} {ds : List PyData} : H a = some (.lst xs) → DxAll H xs ds → Dx H (.ref a) (.list ds)
  | tup {a : Addr} {xs : List V} {ds : List PyData} : H a = some (.tup xs) → DxAll H xs ds → Dx H (.ref a) (.tuple ds)
  | dic {a : Addr} {kvs : List (Key × V)} : H a = some (.dK kvs) → (∀ p ∈ kvs, flatV p.2 = true) → Dx H (.ref a) (.dict (kvs.map fun p => (kD p.1, vD p.2)))
inductive DxAll (H : Hp) : List V → List PyData → Prop
  | nil : DxAll H [] []
  | cons {v : V} {vs : List V} {d : PyData} {ds : List PyData} : Dx H v d → DxAll H vs ds → DxAll H (v :: vs) (d :: ds)
end
theorem flat_reads {h : Heap} {v : V} {u : Value} (hf : flatV v = true) (r : RelV v u) : Reads h u (vD v) [] := by
  cases v with
  | int i => obtain ⟨t, rfl⟩ := r; exact .int i t
  | str x => obtain ⟨t, rfl⟩ := r; exact .str x t
  | bl b => cases r; exact .bool b
  | non => cases r; exact .none
  | _ => cases hf
theorem key_reads {h : Heap} {k : Key} {u : Value} (r : keyIs k u = true) : Reads h u (kD k) [] := by
  rcases keyIs_shape r with ⟨i, t, rfl, rfl⟩ | ⟨x, t, rfl, rfl⟩
  · exact .int i t
  · exact .str x t
theorem pairs_reads {P : Program} {w : World} {h : Heap} : ∀ {es : List DictEntry} {vs : List (Key × Value)} {kvs : List (Key × V)}, PySem.Pairs (mixKind P w) es vs → KV kvs vs → (∀ p ∈ kvs, flatV p.2 = true) →
    ReadsAll h (es.map (·.key)) ((kvs.map fun p => (kD p.1, vD p.2)).map (·.1)) [] ∧ ReadsAll h (es.map (·.val)) ((kvs.map fun p => (kD p.1, vD p.2)).map (·.2)) []
  | _, _, _, .nil, .nil, _ => ⟨.nil, .nil⟩
  | e :: es, _, _, .cons hk hv ps, .cons ⟨h1, h2⟩ r, hf => by
    obtain ⟨i1, i2⟩ := pairs_reads ps r fun p hp => hf p (List.mem_cons_of_mem _ hp)
    refine ⟨.cons (as := []) (key_reads ?_) i1, .cons (as := []) ?_ i2⟩
    · rw [h1]
      exact hk
    · show Reads h e.val (vD _) []
      rw [hv]
      exact flat_reads (hf _ List.mem_cons_self) h2
section
variable {X : Cx} {pins : List (Addr × Obj)} {σ : L2.St} {H : Hp} {s : Shared}
mutual
theorem Dx.reads (I : Inv X pins σ H s) (hs : H sysModules = none) : ∀ {v : V} {d : PyData} {u : Value}, Dx H v d → RelV v u → ∃ as, Reads s.heap u d as ∧ sysModules ∉ as
  | _, _, _, .flat v hf, r => ⟨[], flat_reads hf r, by simp⟩
  | _, _, _, .lst (a := a) ha hx, r => by
    cases r
    obtain ⟨z, its, n, rv, e⟩ := I.hok a _ ha
    obtain ⟨as, ra, na⟩ := DxAll.reads I hs hx rv
    exact ⟨a :: as, .list e rfl rfl ra, fun q => (List.mem_cons.mp q).elim (fun q => by rw [← q, hs] at ha; cases ha) na⟩
  | _, _, _, .tup (a := a) ha hx, r => by
    cases r
    obtain ⟨z, its, rv, o, e, hc, n, hd⟩ := I.hok a _ ha
    obtain ⟨as, ra, na⟩ := DxAll.reads I hs hx rv
    exact ⟨as, .tuple e hc hd ra, na⟩
  | _, _, _, .dic (a := a) (kvs := kvs) ha hf, r => by
    cases r
    obtain ⟨hz, hS, vs, rr, o, es, ep, e, hc, hd, _, ps, _⟩ := I.hok a _ ha
    obtain ⟨r1, r2⟩ := pairs_reads (h := s.heap) ps rr hf
    refine ⟨a :: [] ++ [], .dict e hc.1 hd r1 r2, fun q => ?_⟩
    have q : sysModules = a := by simpa using q
    rw [← q, hs] at ha
    cases ha
theorem DxAll.reads (I : Inv X pins σ H s) (hs : H sysModules = none) : ∀ {vs : List V} {ds : List PyData} {us : List Value}, DxAll H vs ds → Vals vs us → ∃ as, ReadsAll s.heap us ds as ∧ sysModules ∉ as
  | _, _, _, .nil, .nil => ⟨[], .nil, by simp⟩
  | _, _, _, .cons h1 h2, .cons r1 r2 => by
    obtain ⟨as, q1, n1⟩ := Dx.reads I hs h1 r1
    obtain ⟨bs, q2, n2⟩ := DxAll.reads I hs h2 r2
    exact ⟨as ++ bs, .cons q1 q2, fun q => (List.mem_append.mp q).elim n1 n2⟩
end
/-- repr(xs), xs a list -/
def rRep : List V → Hp → VK → Prop := fun xs H Q => ∃ (a : Addr) (ys : List V) (ds : List PyData), xs = [.ref a] ∧ H a = some (.lst ys) ∧ DxAll H ys ds ∧ (PyData.list ds).showable = true ∧ (PyData.list ds).shown.length ≤ sizeLine ∧ (PyData.list ds).depth ≤ 60 ∧ Q (.str (PyData.list ds).shown) H
theorem call_rep {o : Obj} (hk : X.K.lookup sysModules = some o) (hg : X.A.guards = some []) (hu : X.A.units + 64 < cLine) : CallR X (.builtin "repr") rRep := by
  intro pins s σ H xs us Q I r h
  obtain ⟨a, ys, ds, rfl, ha, hx, hs, hz, hd, q⟩ := h
  cases r with
  | cons rx rr =>
    cases rr
    have hn : H sysModules = none := (I.bs _ _ (I.ok.mod.kin _ _ hk)).2
    obtain ⟨as, rd, na⟩ := Dx.reads I hn (Dx.lst ha hx) rx
    cases rx
    exact repr_of_reads' rd hs (fun _ => na) hg (by omega) (fun _ _ e => e) (fun h' u tk kk => ⟨.str _, H, I.kept (t' := tk) kk, ⟨u, rfl⟩, q⟩) hz
end
end G0

set_option Elab.async false
set_option linter.all false
set_option maxRecDepth 100000
set_option maxHeartbeats 4000000
/-! The end of a law whose def wants that nothing is being shown around it. -/
namespace G0
open PySem PySem.Spec PyProof.Rows L2 LamX
/-- what is tracked as the law is called: the script, if the written part lacks it; the tables of code objects -/
def H00 (K : PySem.W.Frag) (ts : List Addr) (a : Addr) (o : Obj) (xs : List V) : Hp := fun b =>
  if b = a ∧ K.lookup a = none then some (.frz o (.lst xs)) else if b ∈ ts then some (.tbl #[]) else none
section
variable {K : PySem.W.Frag} {ts : List Addr} {a : Addr} {o : Obj} {xs : List V}
theorem H00.tab {t : Addr} (h : t ∈ ts) (n : t ≠ a) : H00 K ts a o xs t = some (.tbl #[]) := by
  unfold H00
  rw [if_neg (fun z => n z.1), if_pos h]
theorem H00.scr (h : K.lookup a = none) : H00 K ts a o xs a = some (.frz o (.lst xs)) := by
  unfold H00
  rw [if_pos ⟨rfl, h⟩]
theorem H00.inv {b : Addr} {u : HO} (h : H00 K ts a o xs b = some u) : (b = a ∧ K.lookup a = none ∧ u = .frz o (.lst xs)) ∨ (b ∈ ts ∧ u = .tbl #[]) := by
  unfold H00 at h
  by_cases h1 : b = a ∧ K.lookup a = none
  · rw [if_pos h1] at h
    exact .inl ⟨h1.1, h1.2, (Option.some.inj h).symm⟩
  · rw [if_neg h1] at h
    by_cases h2 : b ∈ ts
    · rw [if_pos h2] at h
      exact .inr ⟨h2, (Option.some.inj h).symm⟩
    · rw [if_neg h2] at h
      cases h
end
abbrev tab0 : Obj := { cls := .none, data := .fields #[] }
abbrev scr0 (vs : List Value) : Obj := { cls := .type "list", data := .seq vs.toArray }
/-- the base: what is not tracked -/
theorem H00.none {K : PySem.W.Frag} {ts : List Addr} {a : Addr} {vs : List Value} {xs : List V} {h : Heap} (ha : h.get? a = some (scr0 vs)) (hT : ∀ t ∈ ts, h.get? t = some tab0) {b : Addr} {u : Obj} (e : h.get? b = some u) (n1 : u ≠ scr0 vs) (n2 : u ≠ tab0) : H00 K ts a (scr0 vs) xs b = none := by
  cases q : H00 K ts a (scr0 vs) xs b with
  | none => rfl
  | some z =>
    rcases H00.inv q with ⟨rfl, _, _⟩ | ⟨m, _⟩
    · rw [ha] at e
      exact absurd (Option.some.inj e).symm n1
    · rw [hT b m] at e
      exact absurd (Option.some.inj e).symm n2
theorem law_callG {P : Program} {w : World} {K : PySem.W.Frag} {mg mb : Str → Option Value} {k : Nat} {fa a : Addr} {cs : List (Addr × Addr)} {fd : FuncData} {x : Str} {sp : Sp} {s1 : Shared} {vs : List Value} {ns : List Int}
    (inK : K.In s1.heap) (hG : s1.heap.Ns mainGlobals mg) (hB : s1.heap.Ns builtinsNs mb) (hBB : ∀ x : Str, x ≠ "__name__" → mb x = bootBuiltins x) (hL : s1.heap.NoLimit) (gens : s1.gens = #[])
    (tabs : ∀ p ∈ cs, s1.heap.get? p.2 = some tab0) (outK : ∀ p ∈ cs, K.lookup p.2 = none) (codes : ∀ p ∈ cs, PySem.W.CodeHd s1.heap p.1 p.2)
    (bmod : ∃ (bm : Addr) (ob : Obj), mg "__builtins__" = some (.ref bm) ∧ bm ≠ builtinsNs ∧ s1.heap.get? bm = some ob ∧ ob.cls = .type "module" ∧ ob.dict = some builtinsNs ∧ ob.data = .plain)
    (scr : s1.heap.get? a = some (scr0 vs)) (isInts : IntsAre vs ns) (size : ns.length ≤ sizeLine) (room : Room k callerA)
    (G : ∀ base : Heap, K.In base → base.Ns mainGlobals mg → (∀ p ∈ cs, TabB base mg p.1 p.2) → FnOkG P w K mg base k fa fd [x] sp) (bind : ∀ (s : Shared) (u : Value), BindsTo s fd ⟨[u], []⟩ [(x, u)])
    (hsp : ∀ H : Hp, (∀ p ∈ cs, H p.2 = some (.tbl #[])) → SqL K H a (ns.map V.int) → sp [.ref a] H (fun v _ => v = .bl true) fun _ _ _ => False) :
    codeAny (model P w) callerA (.call (.ref fa) ⟨[.ref a], []⟩) (fun r s' => r = .ok (.ret (.bool true)) ∧ OldK s1.heap s'.heap ∧ s'.os = s1.os ∧ AllBare s'.gens) s1 := by
  have rel := vals_ints isInts
  have lv := isInts.length
  let ts := cs.map Prod.snd
  let H : Hp := H00 K ts a (scr0 vs) (ns.map V.int)
  have tabs' : ∀ t ∈ ts, s1.heap.get? t = some tab0 := fun t ht => by
    obtain ⟨p, hp, rfl⟩ := List.mem_map.mp ht
    exact tabs p hp
  have inTs : ∀ p ∈ cs, p.2 ∈ ts := fun p hp => List.mem_map.mpr ⟨p, hp, rfl⟩
  have tNa : ∀ t ∈ ts, t ≠ a := fun t ht z => by
    have e := tabs' t ht
    rw [z, scr] at e
    cases e
  have hTab : ∀ p ∈ cs, H p.2 = some (.tbl #[]) := fun p hp => H00.tab (inTs p hp) (tNa _ (inTs p hp))
  have hScr : SqL K H a (ns.map V.int) := by
    cases q : K.lookup a with
    | none => exact .inl (.inr ⟨_, H00.scr q⟩)
    | some o =>
      have e := inK a o q
      rw [scr] at e
      cases e
      exact .inr ⟨_, vs.toArray, _, q, rfl, rfl, rfl, by rw [List.size_toArray, lv]; exact size, by simpa using rel⟩
  have hok : HOk P w H s1.heap := fun b u e => by
    rcases H00.inv e with ⟨rfl, _, rfl⟩ | ⟨m, rfl⟩
    · exact ⟨scr, by rw [List.length_map]; exact size, vs, _, rel, scr⟩
    · exact tabs' b m
  -- what is not tracked
  have off : ∀ {b : Addr} {u : Obj}, s1.heap.get? b = some u → (∀ z n, u.data ≠ .seq z n) → u.data ≠ .fields #[] → H b = none := fun {b u} e n1 n2 =>
    H00.none scr tabs' e (fun z => n1 _ _ (congrArg Obj.data z)) (fun z => n2 (congrArg Obj.data z))
  have low : ∀ {b : Addr} {u : Obj}, s1.heap.get? b = some u → (∀ z n, u.data ≠ .seq z n) → u.data ≠ .fields #[] → (hidT s1.heap H).get? b = some u := fun e n1 n2 => hidT_get e (off e n1 n2)
  have lowNs : ∀ {b : Addr} {m : Str → Option Value}, s1.heap.Ns b m → (hidT s1.heap H).Ns b m := fun {b m} q => by
    obtain ⟨o, es, n, e, d, r⟩ := q
    exact ⟨o, es, n, low e (fun z k y => by rw [d] at y; cases y) (fun y => by rw [d] at y; cases y), d, r⟩
  have lowK : K.In (hidT s1.heap H) := fun b u e => by
    refine hidT_get (inK b u e) ?_
    cases q : H b with
    | none => rfl
    | some z =>
      rcases H00.inv q with ⟨rfl, y, _⟩ | ⟨m, _⟩
      · rw [y] at e
        cases e
      · obtain ⟨p, hp, ep⟩ := List.mem_map.mp m
        have y := outK p hp
        rw [ep, e] at y
        cases y
  have hTB : ∀ p ∈ cs, TabB (hidT s1.heap H) mg p.1 p.2 := fun p hp => by
    have tp := tabs p hp
    have nG : mainGlobals ≠ p.2 := fun z => by
      obtain ⟨o, es, n, e, d, _⟩ := hG
      rw [z, tp] at e
      cases e
      cases d
    refine ⟨?_, ?_, nG⟩
    · obtain ⟨o, us, c1, c2, c3, c4, c5, c6, c7, e, y1, y2, y3, y⟩ := codes p hp
      refine ⟨o, us, c1, c2, c3, c4, c5, c6, c7, low e (fun z k q => by rw [y2] at q; cases q) (fun q => ?_), y1, y2, y3, y⟩
      rw [y2] at q
      injection q with q
      rw [q] at y3
      simp at y3
    · obtain ⟨bm, ob, q1, q2, q3, q4, q5, q6⟩ := bmod
      have f1 : bm ≠ mainGlobals := fun z => by
        obtain ⟨o, es, n, e, d, _⟩ := hG
        rw [z, e] at q3
        cases q3
        rw [d] at q6
        cases q6
      have f2 : bm ≠ p.2 := fun z => by
        rw [z, tp] at q3
        cases q3
        cases q6
      exact ⟨bm, ob, q1, q2, f1, f2, low q3 (fun z k q => by rw [q6] at q; cases q) (fun q => by rw [q6] at q; cases q), q4, q5, q6⟩
  have lim : (hidT s1.heap H).NoLimit := by
    obtain ⟨mc, l1, l2⟩ := hL
    exact ⟨mc, lowNs l1, l2⟩
  have e0 : Env0 P w K mg (hidT s1.heap H) callerA [] s1 H := ⟨rfl, ⟨lowK, lowNs hG, ⟨mb, lowNs hB, hBB⟩, lim⟩, fun b o e => of_hidT e, Nat.le_of_eq (hidT_size _ _), trivial, fun b hb => (nomatch (show b ∈ ([] : List Addr) from hb)), hok, .of_eq gens⟩
  refine codeAny_mono ((G _ lowK (lowNs hG) hTB).go callerA [] s1 H ⟨[.ref a], []⟩ [.ref a] [.ref a] _ _ rfl room e0 (bind s1 (.ref a)) (.cons rfl .nil) (hsp H hTab hScr)) fun r s' q => ?_
  match r, q with
  | .ok (.ret u), q =>
    obtain ⟨v, H', os, bare, un, hok', ru, qv⟩ := q
    have qv : v = .bl true := qv
    subst qv
    have eu : u = Value.bool true := ru
    subst eu
    have tab' : ∀ t ∈ ts, ∃ more : Array Value, s'.heap.get? t = some { cls := .none, data := .fields more } := fun t ht => by
      obtain ⟨more, z⟩ := un.tbls t #[] (H00.tab ht (tNa t ht))
      exact ⟨_, hok' t _ z⟩
    have stay : ∀ b o, b ∉ ts → s1.heap.get? b = some o → s'.heap.get? b = some o := fun b o nb e => by
      cases y : H b with
      | none => exact un.keep b o e y (fun z => (nomatch (show b ∈ ([] : List Addr) from z))) (by simp)
      | some z =>
        rcases H00.inv y with ⟨rfl, _, rfl⟩ | ⟨m, _⟩
        · have y2 := (hok' b _ (un.frzs b _ _ y)).1
          rw [scr] at e
          cases e
          exact y2
        · exact absurd m nb
    refine ⟨rfl, ⟨fun b o e => ?_, fun b o e => ?_⟩, os, bare⟩
    · by_cases m : b ∈ ts
      · obtain ⟨p, hp, rfl⟩ := List.mem_map.mp m
        obtain ⟨more, y⟩ := tab' _ m
        rw [tabs p hp] at e
        cases e
        exact .inr (.inl ⟨((codes p hp).tab (tabs p hp)).isCodeTable, rfl, #[], more, rfl, by rw [Array.empty_append]; exact y⟩)
      · exact .inl (stay b o m e)
    · by_cases m : b ∈ ts
      · obtain ⟨more, y⟩ := tab' _ m
        exact ⟨_, y⟩
      · exact ⟨o, stay b o m e⟩
  | .ok .next, q => exact False.elim q
  | .ok .brk, q => exact False.elim q
  | .ok .cont, q => exact False.elim q
  | .error e, q => exact False.elim q
end G0

set_option Elab.async false
set_option linter.all false
set_option maxRecDepth 100000
set_option maxHeartbeats 8000000
namespace E1
open PySem PySem.Spec PyProof.Rows L2 G0 LamX
section
variable {K : PySem.W.Frag} {h : Heap} {mg : Str → Option Value}
theorem glo_top (X : K.In h) (G : h.Ns mainGlobals mg) (Y : SaysY h K) {i : Nat} (m : i ∈ tops) : mg (tName i) = some (.ref (He.ga K (tName i))) := glo_of X G Y (top_mem m)
theorem fre (X : K.In h) (G : h.Ns mainGlobals mg) (Y : SaysY h K) {x : Str} (m : x ∈ frees) : mg x = none := He.free_ok X G (Y.d.facts (frees_mem m))
theorem brd_fd (Y : SaysY h K) (z : FuncData) {j : Nat} (hj : j < 7) : FunD K (mNm j) ("Board." ++ mNm j) (defArgs (mS j)) (defBody (mS j)) (defScope (mS j)) [] [] (He.ma K (bdC K) (mNm j)) (fdOf z K (He.ma K (bdC K) (mNm j))) := funD_of (Y.d.defs (brdD_mem hj))
theorem more_of (Y : SaysY h K) : exmB K = true ∧ clsB K (bdC K) = true ∧ xflB K = true ∧ twoT K = true ∧ He.tupB K "WORDS" (wordsL.map He.Dv.str) = true := by
  obtain ⟨_, h1⟩ := He.ba Y.more
  obtain ⟨_, h2⟩ := He.ba h1
  obtain ⟨h3, h4⟩ := He.ba h2
  obtain ⟨h5, h6⟩ := He.ba h4
  obtain ⟨h7, h8⟩ := He.ba h6
  obtain ⟨h9, h10⟩ := He.ba h8
  exact ⟨h3, h5, h7, h9, h10⟩
theorem ownC_of {C : Addr} (hc : Cls K C) (hb : clsB K C = true) : OwnC K C := by
  obtain ⟨h1, b⟩ := He.ba hb
  obtain ⟨h2, b⟩ := He.ba b
  obtain ⟨h3, b⟩ := He.ba b
  obtain ⟨h4, b⟩ := He.ba b
  exact ⟨hc, He.eqO_ok h1, sp_get K, sp_tak K, of_decide_eq_true h2, fun T hT => of_decide_eq_true (List.all_eq_true.mp h3 T hT), fun T hT => of_decide_eq_true (List.all_eq_true.mp h4 T hT)⟩
noncomputable def namesD (z : FuncData) (X : K.In h) (G : h.Ns mainGlobals mg) (Y : SaysY h K) : NamesD K mg :=
  { fN := _, dN := _, FN := fn_of_top (z := z) Y (i := 16) (by decide), gN := glo_top X G Y (i := 16) (by decide)
    fL := _, dL := _, FL := fn_of_top (z := z) Y (i := 17) (by decide), gL := glo_top X G Y (i := 17) (by decide)
    fP := _, dP := _, FP := fn_of_top (z := z) Y (i := 18) (by decide), gP := glo_top X G Y (i := 18) (by decide)
    fT := _, dT := _, FT := fn_of_top (z := z) Y (i := 19) (by decide), gT := glo_top X G Y (i := 19) (by decide)
    fW := _, dW := _, FW := fn_of_top (z := z) Y (i := 20) (by decide), gW := glo_top X G Y (i := 20) (by decide)
    fU := _, dU := _, FU := fn_of_top (z := z) Y (i := 21) (by decide), gU := glo_top X G Y (i := 21) (by decide)
    fX := _, dX := _, FX := fn_of_top (z := z) Y (i := 23) (by decide), gX := glo_top X G Y (i := 23) (by decide) }
theorem txtN_of (X : K.In h) (G : h.Ns mainGlobals mg) (Y : SaysY h K) : TxtN K mg :=
  ⟨fre X G Y (by decide), fre X G Y (by decide), fre X G Y (by decide), fre X G Y (by decide), fre X G Y (by decide), fre X G Y (by decide), fre X G Y (by decide), fre X G Y (by decide), He.str_ok X G (last_fact Y 2 rfl), He.str_ok X G (last_fact Y 3 rfl), He.int_ok X G (last_fact Y 4 rfl),
    ⟨_, He.glo_ok X G (last_fact Y 1 rfl), fun H => by
      have q := He.tupB_ok (more_of Y).2.2.2.2 H
      rw [List.map_map] at q
      exact q⟩⟩
noncomputable def boardD (z : FuncData) (X : K.In h) (G : h.Ns mainGlobals mg) (Y : SaysY h K) : BoardD K mg :=
  have b1 := He.ba (more_of Y).2.1
  have b2 := He.ba b1.2
  have b3 := He.ba b2.2
  have b4 := He.ba b3.2
  have b5 := He.ba b4.2
  have b6 := He.ba b5.2
  have b7 := He.ba b6.2
  have tf : PySem.W.typeIn K (.ref (He.ma K (bdC K) "__eq__")) = some (.type "function") := of_decide_eq_true b6.1
  { C := bdC K
    g := He.glo_ok X G (last_fact Y 0 rfl)
    O := ownC_of (He.cls_ok (last_fact Y 5 rfl)) (more_of Y).2.1
    noP := He.noat_ok (last_fact Y 6 rfl)
    noT := He.noat_ok (last_fact Y 7 rfl)
    noR := He.noat_ok (last_fact Y 8 rfl)
    noN := He.noat_ok (last_fact Y 9 rfl)
    f := fun j => He.ma K (bdC K) (mNm j)
    d := fun j => fdOf z K (He.ma K (bdC K) (mNm j))
    F0 := brd_fd Y z (j := 0) (by decide)
    F1 := brd_fd Y z (j := 1) (by decide)
    F2 := brd_fd Y z (j := 2) (by decide)
    F3 := brd_fd Y z (j := 3) (by decide)
    F4 := brd_fd Y z (j := 4) (by decide)
    F5 := brd_fd Y z (j := 5) (by decide)
    F6 := brd_fd Y z (j := 6) (by decide)
    M0 := He.mkr_ok (last_fact Y 10 rfl)
    M2 := He.meth_ok (last_fact Y 11 rfl)
    M3 := He.meth_ok (last_fact Y 12 rfl)
    M4 := He.meth_ok (last_fact Y 13 rfl)
    M5 := He.meth_ok (last_fact Y 14 rfl)
    M6 := He.meth_ok (last_fact Y 15 rfl)
    eqA := He.eqO_ok b5.1
    eqF := by
      show (PySem.W.typeIn K (.ref (He.ma K (bdC K) "__eq__")) == some (.type "function")) = true
      rw [tf]
      decide
    ne := fun hp x o X' hx ho => plnB_ok b7.1 tf hp x o X' hx ho
    P := errOf z X G Y 4 "BadPlaces" "index" 0 (by decide) rfl rfl
    T := errOf z X G Y 6 "BadTies" "index" 1 (by decide) rfl rfl
    R := errOf z X G Y 5 "BadRim" "index" 2 (by decide) rfl rfl
    N := errOf z X G Y 8 "NoPlace" "thing" 4 (by decide) rfl rfl
    nf := fun T hT => List.all_eq_true.mp b7.2 T hT
    fNb := _
    dNb := _
    FNb := fn_of_top (z := z) Y (i := 24) (by decide)
    gNb := glo_top X G Y (i := 24) (by decide) }
noncomputable def drawD (z : FuncData) (X : K.In h) (G : h.Ns mainGlobals mg) (Y : SaysY h K) : DrawD K mg :=
  { t := ⟨fre X G Y (by decide), fre X G Y (by decide), fre X G Y (by decide), fre X G Y (by decide)⟩
    fS := _, dS := _, FS := fn_of_top (z := z) Y (i := 52) (by decide), gS := glo_top X G Y (i := 52) (by decide)
    fD := _, dD := _, FD := fn_of_top (z := z) Y (i := 53) (by decide), gD := glo_top X G Y (i := 53) (by decide)
    fM := _, dM := _, FM := fn_of_top (z := z) Y (i := 55) (by decide), gM := glo_top X G Y (i := 55) (by decide) }
theorem law_tops : ∀ i ∈ lawIx, i ∈ tops := by decide
theorem free_frees : ∀ x ∈ freeN, x ∈ frees := by decide
noncomputable def lawD (z : FuncData) (X : K.In h) (G : h.Ns mainGlobals mg) (Y : SaysY h K) : LawD K mg :=
  { n := namesD z X G Y
    t := txtN_of X G Y
    B := boardD z X G Y
    s := drawD z X G Y
    f := fun i => He.ga K (tName i)
    d := fun i => fdOf z K (He.ga K (tName i))
    F := fun i m => fn_of_top Y (law_tops i m)
    g := fun i m => glo_top X G Y (law_tops i m)
    free := fun x m => fre X G Y (free_frees x m) }
theorem metD_one (X : K.In h) (G : h.Ns mainGlobals mg) (Y : SaysY h K) (j : Nat) (hj : j < 6) : (PySem.W.exmOne K (.ref (cA K 0)) (.ref (cA K j)) = some (decide (0 = j)) ∧ PySem.W.exmOne K (.ref (cA K 1)) (.ref (cA K j)) = some (decide (1 = j))) ∧ PySem.W.exmOne K (.ref (cA K 2)) (.ref (cA K j)) = some (decide (2 = j)) ∧ PySem.W.exmOne K (.ref (cA K 5)) (.ref (cA K j)) = some (decide (5 = j)) := by
  obtain ⟨ab, cd⟩ := He.ba (List.all_eq_true.mp (more_of Y).1 j (List.mem_range.mpr hj))
  obtain ⟨a, b⟩ := He.ba ab
  obtain ⟨c, d⟩ := He.ba cd
  exact ⟨⟨of_decide_eq_true a, of_decide_eq_true b⟩, of_decide_eq_true c, of_decide_eq_true d⟩
theorem metD_x (X : K.In h) (G : h.Ns mainGlobals mg) (Y : SaysY h K) (j : Nat) (hj : j < 4) : XfC K (cA K j) ∧ PySem.W.findIn K (.ref (cA K j)) (flN.getD j "") = some none := by
  obtain ⟨a, b⟩ := He.ba (List.all_eq_true.mp (more_of Y).2.2.1 j (List.mem_range.mpr hj))
  exact ⟨xfB_ok a, He.eqO_ok b⟩
theorem clE_eq (i : Fin 6) : clE i = clN.getD i.1 "" := by
  match i with
  | 0 => rfl
  | 1 => rfl
  | 2 => rfl
  | 3 => rfl
  | 4 => rfl
  | 5 => rfl
theorem flE_eq (i : Fin 4) : flE i = flN.getD i.1 "" := by
  match i with
  | 0 => rfl
  | 1 => rfl
  | 2 => rfl
  | 3 => rfl
def metD (X : K.In h) (G : h.Ns mainGlobals mg) (Y : SaysY h K) : MetD K mg :=
  { C := fun i => cA K i.1
    g := fun i => by
      rw [clE_eq]
      refine glo_of X G Y (clN_mem ?_)
      rw [List.getD_eq_getElem?_getD, List.getElem?_eq_getElem (show i.1 < clN.length from i.2)]
      exact List.getElem_mem _
    x := fun i => (metD_x X G Y i.1 i.2).1
    no := fun i => by
      rw [flE_eq]
      exact (metD_x X G Y i.1 i.2).2
    is0 := fun j => ((metD_one X G Y j.1 j.2).1.1).trans (congrArg some (decide_eq_decide.mpr ⟨fun q => Fin.ext q, fun q => by rw [← q]; rfl⟩))
    is1 := fun j => ((metD_one X G Y j.1 j.2).1.2).trans (congrArg some (decide_eq_decide.mpr ⟨fun q => Fin.ext q, fun q => by rw [← q]; rfl⟩))
    is2 := fun j => ((metD_one X G Y j.1 j.2).2.1).trans (congrArg some (decide_eq_decide.mpr ⟨fun q => Fin.ext q, fun q => by rw [← q]; rfl⟩))
    is5 := fun j => ((metD_one X G Y j.1 j.2).2.2).trans (congrArg some (decide_eq_decide.mpr ⟨fun q => Fin.ext q, fun q => by rw [← q]; rfl⟩)) }
theorem nb_of (Y : SaysY h K) : nbB K = true := (He.ba (He.ba Y.more).1).2
noncomputable def prD (z : FuncData) (X : K.In h) (G : h.Ns mainGlobals mg) (Y : SaysY h K) : PrD K mg (metD X G Y) :=
  have b1 := He.ba (nb_of Y)
  have b2 := He.ba b1.2
  have b3 := He.ba b2.2
  { XB := errOf z X G Y 2 "BadBoard" "thing" 3 (by decide) rfl rfl
    eB := rfl
    XN := errOf z X G Y 8 "NoPlace" "thing" 4 (by decide) rfl rfl
    eN := rfl
    XI := errOf z X G Y 7 "IsPin" "place" 5 (by decide) rfl rfl
    eI := rfl
    bx := b1.1
    kp := b2.1
    sb := of_decide_eq_true b3.1
    ty := of_decide_eq_true b3.2 }
end
end E1

set_option Elab.async false
set_option linter.all false
set_option maxRecDepth 100000
set_option maxHeartbeats 8000000
/-! The law's call from the head, given what is asked of the program. -/
namespace E1
open PySem PySem.Spec PyProof.Rows L2 G0 LamX
/-- the law's call, from the head -/
theorem walk_law {q : Program} {loose : List Str} {XP : (Str → Option Value) → Heap → Prop} {d : DefRec} (hdf : d.params.defaults = []) (hnm : d.name = ("law" : Str)) :
    PySem.W.WalkO q loose XP hookY.says (PySem.Challenge.rw_mustcross_k64_whole_boards_within).row.toRowW d [] (fun f vs => PySem.call f vs) := by
  refine Att.attach_callB (n := 63) rfl hdf fun w s0 s1 mg mb fa o pm cd doc a vs ns G Y ho hd hcd hmg hobj hints hlen hbits hg => ?_
  obtain ⟨K, KX, Y⟩ := Y
  rw [hnm] at hmg
  have tl : tName 65 = ("law" : Str) := rfl
  obtain ⟨fd, F0⟩ := Y.d.defs (topD_mem (i := 65) (by decide))
  have F1 : FunD K (tName 65) (tName 65) (defArgs (topS 65)) (defBody (topS 65)) (defScope (topS 65)) [] [] (He.ga K (tName 65)) (fdOf fd K (He.ga K (tName 65))) := funD_of ⟨fd, F0⟩
  have ef : fa = He.ga K (tName 65) := by
    have e := hmg.symm.trans (glo_top KX G.T.g Y (i := 65) (by decide))
    cases e
    rfl
  subst ef
  let cs : List (Addr × Addr) := tf.map (He.cT K)
  have onTf : ∀ {φ : Addr × Addr → Prop}, (∀ p ∈ tf, φ (He.cT K p)) → ∀ p ∈ cs, φ p := fun {φ} h p hp => by
    obtain ⟨t, ht, rfl⟩ := List.mem_map.mp hp
    exact h t ht
  have mem1 : (("_law_right", none) : He.Defn) ∈ tf := List.mem_cons_self
  have mem2 : (("_law_refused_right", none) : He.Defn) ∈ tf := List.mem_cons_of_mem _ List.mem_cons_self
  have hne : (He.cT K ("_law_right", none)).2 ≠ (He.cT K ("_law_refused_right", none)).2 := of_decide_eq_true (more_of Y).2.2.2.1
  refine law_callTs (CX := CX0) (cs := cs) (fd := fdOf fd K (He.ga K (tName 65))) (x := "_law_script") (sp := spLw K [((He.cT K ("_law_right", none)).2, qRight), ((He.cT K ("_law_refused_right", none)).2, qRef)]) (k := 12) KX G.T.g G.T.b G.T.builtins G.T.nolimit hg (onTf Y.empty) (onTf Y.out) (onTf fun p hp => PySem.W.codeHd_of_K KX (Y.hd p hp)) G.T.bmain hobj hints (Nat.le_trans hlen (by decide)) ⟨rfl, by decide, by decide⟩ ?_ ?_ ?_ (fun _ _ _ h => h)
  · intro base hb hB hT
    have tb1 := hT (He.cT K ("_law_right", none)) (List.mem_map.mpr ⟨_, mem1, rfl⟩)
    have tb2 := hT (He.cT K ("_law_refused_right", none)) (List.mem_map.mpr ⟨_, mem2, rfl⟩)
    have GX := ok_ref (P := (PySem.Challenge.rw_mustcross_k64_whole_boards_within).prog) (w := w) (base := base) (lawD fd KX G.T.g Y) (prD fd KX G.T.g Y) (T := [((He.cT K ("_law_right", none)).2, qRight), ((He.cT K ("_law_refused_right", none)).2, qRef)]) (Pt := (He.cT K ("_law_refused_right", none)).2) (List.mem_cons_of_mem _ List.mem_cons_self) (huL hne) (fun oc od kV doc pm an cc ct osl lk => by
      have e : He.codeOf K ("_law_refused_right", none) = cc := He.codeOf_eq (p := ("_law_refused_right", none)) lk rfl
      have tb3 : TabB base mg (He.codeOf K ("_law_refused_right", none)) (He.cT K ("_law_refused_right", none)).2 := tb2
      rw [e] at tb3
      exact tb3)
    have GR := ok_right (P := (PySem.Challenge.rw_mustcross_k64_whole_boards_within).prog) (w := w) (base := base) (lawD fd KX G.T.g Y) (prD fd KX G.T.g Y) GX (Pt := (He.cT K ("_law_right", none)).2) List.mem_cons_self (huR hne) (fun oc od kV doc pm an cc ct osl lk => by
      have e : He.codeOf K ("_law_right", none) = cc := He.codeOf_eq (p := ("_law_right", none)) lk rfl
      have tb3 : TabB base mg (He.codeOf K ("_law_right", none)) (He.cT K ("_law_right", none)).2 := tb1
      rw [e] at tb3
      exact tb3)
    exact (ok_lw (lawD fd KX G.T.g Y) (prD fd KX G.T.g Y) GR)
  · exact fun s v => FunD.bindsA (ps := ["_law_script"]) F1 (fun _ _ _ _ _ _ us hl => match us, hl with | [_], _ => rfl) s [v] rfl
  · intro H hH hS
    refine ⟨a, ns, rfl, hS, fun p hp => ?_, fun _ => rfl⟩
    simp only [List.mem_cons, List.not_mem_nil, or_false] at hp
    rcases hp with rfl | rfl
    · exact TabS.nil (hH _ (List.mem_map.mpr ⟨_, mem1, rfl⟩))
    · exact TabS.nil (hH _ (List.mem_map.mpr ⟨_, mem2, rfl⟩))
end E1

set_option Elab.async false
set_option linter.all false
set_option maxRecDepth 100000
set_option maxHeartbeats 0
namespace E1
open PySem PySem.Spec PyProof.Rows L2
abbrev R : PySem.W.OpenRow := PySem.W.OpenLaw.row PySem.Challenge.rw_mustcross_k64_whole_boards_within
def ob (s : PySem.W.SharedT) : AlY := obsY (HandSHeadRun.getT s)
theorem ob_eq (s : PySem.W.SharedT) : ob s = hookY.obs s.abs := obsY_eq (HandSHeadRun.getT_eq s)
def loose : List Str := (["CrossError", "BadBoard", "BadCross", "BadPlaces", "BadRim", "BadTies", "IsPin", "NoPlace", "NotBeside", "NotWithin", "LETTERS", "NAME_SIGNS", "LONGEST_NAME", "WORDS", "is_name", "is_list", "is_pair", "told_pair", "first_wrong_name", "first_unknown", "first_wrong_tie", "neighbours", "Board", "need_board", "need_place", "need_inner_place", "within"] : List Str) ++ ((List.range 33).map fun i => tName (i + 33))
theorem run (w : World) : HandSHeadRun.RunEq R (PySem.W.view R.prog [65]) hookY ob 30000 loose w := by
  intro os
  kernel_rfl
end E1

set_option Elab.async false
set_option linter.all false
set_option maxRecDepth 100000
set_option maxHeartbeats 8000000
open PySem PySem.W PySem.Calls PyProof.Rows
theorem PySem.Challenge.cw_mustcross_k64_whole_boards_within_holds : PySem.Challenge.rw_mustcross_k64_whole_boards_within.Holds := by
  w_on; o_law
  refine HandSHeadRun.head_any (r := OpenLaw.row PySem.Challenge.rw_mustcross_k64_whole_boards_within) (q := view (OpenLaw.row PySem.Challenge.rw_mustcross_k64_whole_boards_within).prog [65]) (H := E1.hookY) (ob := E1.ob) (M := 30000) (loose := E1.loose)
    (d := HandSHeadRun.topDef (OpenLaw.row PySem.Challenge.rw_mustcross_k64_whole_boards_within).prog 65) (kwd := []) E1.ob_eq
    (by kernel_rfl) (fun s => by kernel_rfl) E1.run (by kernel_rfl) (by kernel_rfl) (by kernel_rfl) (by rfl) (by first | assumption | decide +kernel) (by decide +kernel) ⟨rfl, rfl, rfl, rfl, rfl, by decide +kernel⟩ ?hw ?hc
  case hw => w_witness2
  case hc => exact E1.walk_law (by kernel_rfl) (by kernel_rfl)

