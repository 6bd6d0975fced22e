import PyProof.Rows.All
import Wide.All
import OpenK.AllK
import Wide.FinOn
import KE.KStateDown
import HandS.ForMost
import HandS.ForExc
import HandS.SortOrd
import HandS.SortRule
import KE.KExcIs
import HandS.Wide
import HandS.ExcInit
import HandS.ExcField
import HandS.ExcIs
import HandS.Conv
import HandS.More
import HandS.Defaults
import HandS.MakeKw
import HandS.Lambda
import HandS.IsInst
import HandS.NoneIn
import HandS.Text
import HandS.DictComp
import HandS.TryMany
import HandS.EndTab
import HandS.HeadWalk
import HandS.Head0
import HandS.Head1
import HandS.Head2
import HandS.HeadEnd
import HandS.HeadHook1
import HandS.HeadHook2
import HandS.HeadHook3
import HandS.HeadHook4
import PySem.Challenge.RW_mustcross_k02_whole_notices
import KE.GoesMore
import HandS.Iter
import HandS.Comp
import HandS.WordsExc
import PyProof.InstNe
import HandS.SlotsOwn
import PyProof.WalkInts
import PyProof.FString5
import HandS.Call
import HandS.Strs
import HandS.List
import KE.KeyNested
import PyProof.DictRoadsH
import HandS.Dict
import HandS.Walk
import HandS.SortInts
import HandS.Deep
import HandS.Style
import KE.DataMinMax
import HandS.Exc
import HandS.Zip
import HandS.ListItems
import HandS.Codes
import PyProof.ReprRoads
import PyProof.Rows.RegFStrParts
import HandS.TryOnly
set_option Elab.async false
set_option linter.all false
set_option maxRecDepth 100000
set_option maxHeartbeats 4000000
/-! Sorting of names, and of pairs of names, lists and tuples, any number of them. -/
namespace G0
open PySem PySem.Spec PyProof.Rows L2
/-! ### the order of texts -/
def ltS (x y : Str) : Bool := decide (x.cps.toList < y.cps.toList)
def leS (x y : Str) : Bool := !ltS y x
theorem ltS_asym {x y : Str} (h : ltS x y = true) : ltS y x = false := decide_eq_false (List.lt_asymm (of_decide_eq_true h))
theorem ltS_tr {x y z : Str} (h1 : ltS y x = false) (h2 : ltS z y = false) : ltS z x = false := decide_eq_false (List.le_trans (of_decide_eq_false h1) (of_decide_eq_false h2))
theorem ltS_eq {x y : Str} (h1 : ltS x y = false) (h2 : ltS y x = false) : x = y := ext_toList (List.le_antisymm (of_decide_eq_false h2) (of_decide_eq_false h1))
theorem ltS_irr (x : Str) : ltS x x = false := decide_eq_false (List.lt_irrefl _)
theorem ltS_ne {x y : Str} (h : ltS x y = true) : x ≠ y := fun e => by rw [e, ltS_irr] at h; cases h
theorem leS_trans (a b c : Str) (h1 : leS a b = true) (h2 : leS b c = true) : leS a c = true := by
  unfold leS at *
  simp only [Bool.not_eq_true'] at *
  exact ltS_tr h1 h2
theorem leS_total (a b : Str) : (leS a b || leS b a) = true := by
  unfold leS
  cases h : ltS b a with
  | false => rfl
  | true => rw [ltS_asym h]; rfl
def sortS (xs : List Str) : List Str := xs.mergeSort leS
theorem sortS_perm (xs : List Str) : (sortS xs).Perm xs := List.mergeSort_perm xs leS
theorem sortS_pw (xs : List Str) : (sortS xs).Pairwise (fun a b => leS a b = true) := List.pairwise_mergeSort leS_trans leS_total xs
theorem sortS_uniq {xs ys : List Str} (p : ys.Perm xs) (h : ys.Pairwise (fun a b => leS a b = true)) : ys = sortS xs :=
  List.Perm.eq_of_pairwise (fun a b _ _ h1 h2 => by
    unfold leS at h1 h2
    simp only [Bool.not_eq_true'] at h1 h2
    exact ltS_eq h2 h1) h (sortS_pw xs) (p.trans (sortS_perm xs).symm)
theorem sortS_of_perm {xs ys : List Str} (p : ys.Perm xs) : sortS ys = sortS xs := sortS_uniq ((sortS_perm ys).trans p) (sortS_pw ys)
theorem sortS_idem (xs : List Str) : sortS (sortS xs) = sortS xs := sortS_of_perm (sortS_perm xs)
theorem sortS_len (xs : List Str) : (sortS xs).length = xs.length := (sortS_perm xs).length_eq
theorem sortS_mem {x : Str} {xs : List Str} : x ∈ sortS xs ↔ x ∈ xs := (sortS_perm xs).mem_iff
/-! ### the order of pairs -/
abbrev Pr : Type := Str × Str
def ltPr (p q : Pr) : Bool := if p.1 = q.1 then ltS p.2 q.2 else ltS p.1 q.1
def lePr (p q : Pr) : Bool := !ltPr q p
theorem ltPr_no {p q : Pr} : ltPr p q = false ↔ ltS p.1 q.1 = false ∧ (p.1 = q.1 → ltS p.2 q.2 = false) := by
  unfold ltPr
  by_cases e : p.1 = q.1
  · rw [if_pos e, e, ltS_irr]
    simp
  · rw [if_neg e]
    simp [e]
theorem ltPr_asym {p q : Pr} (h : ltPr p q = true) : ltPr q p = false := by
  refine ltPr_no.mpr ?_
  unfold ltPr at h
  by_cases e : p.1 = q.1
  · rw [if_pos e] at h
    exact ⟨by rw [e]; exact ltS_irr _, fun _ => ltS_asym h⟩
  · rw [if_neg e] at h
    exact ⟨ltS_asym h, fun z => absurd z.symm e⟩
theorem ltPr_tr {x y z : Pr} (h1 : ltPr y x = false) (h2 : ltPr z y = false) : ltPr z x = false := by
  obtain ⟨a1, a2⟩ := ltPr_no.mp h1
  obtain ⟨b1, b2⟩ := ltPr_no.mp h2
  refine ltPr_no.mpr ⟨ltS_tr a1 b1, fun e => ?_⟩
  have e1 : z.1 = y.1 := by
    refine ltS_eq b1 ?_
    rw [← e] at a1
    exact a1
  exact ltS_tr (a2 (e1.symm.trans e)) (b2 e1)
theorem ltPr_eq {p q : Pr} (h1 : ltPr p q = false) (h2 : ltPr q p = false) : p = q := by
  obtain ⟨a1, a2⟩ := ltPr_no.mp h1
  obtain ⟨b1, b2⟩ := ltPr_no.mp h2
  have e := ltS_eq a1 b1
  exact Prod.ext e (ltS_eq (a2 e) (b2 e.symm))
theorem lePr_trans (a b c : Pr) (h1 : lePr a b = true) (h2 : lePr b c = true) : lePr a c = true := by
  unfold lePr at *
  simp only [Bool.not_eq_true'] at *
  exact ltPr_tr h1 h2
theorem lePr_total (a b : Pr) : (lePr a b || lePr b a) = true := by
  unfold lePr
  cases h : ltPr b a with
  | false => rfl
  | true => rw [ltPr_asym h]; rfl
def sortPr (xs : List Pr) : List Pr := xs.mergeSort lePr
theorem sortPr_perm (xs : List Pr) : (sortPr xs).Perm xs := List.mergeSort_perm xs lePr
theorem sortPr_pw (xs : List Pr) : (sortPr xs).Pairwise (fun a b => lePr a b = true) := List.pairwise_mergeSort lePr_trans lePr_total xs
theorem sortPr_uniq {xs ys : List Pr} (p : ys.Perm xs) (h : ys.Pairwise (fun a b => lePr a b = true)) : ys = sortPr xs :=
  List.Perm.eq_of_pairwise (fun a b _ _ h1 h2 => by
    unfold lePr at h1 h2
    simp only [Bool.not_eq_true'] at h1 h2
    exact ltPr_eq h2 h1) h (sortPr_pw xs) (p.trans (sortPr_perm xs).symm)
theorem sortPr_of_perm {xs ys : List Pr} (p : ys.Perm xs) : sortPr ys = sortPr xs := sortPr_uniq ((sortPr_perm ys).trans p) (sortPr_pw ys)
theorem sortPr_len (xs : List Pr) : (sortPr xs).length = xs.length := (sortPr_perm xs).length_eq
theorem sortPr_mem {x : Pr} {xs : List Pr} : x ∈ sortPr xs ↔ x ∈ xs := (sortPr_perm xs).mem_iff
/-! ### values that are texts -/
def vStr : Value → Str
  | .str x _ => x
  | _ => default
def ltVS (u v : Value) : Bool := ltS (vStr u) (vStr v)
theorem ltVS_swo : SrtO.Swo ltVS := ⟨fun _ _ h => ltS_asym h, fun _ _ _ h1 h2 => ltS_tr h1 h2⟩
theorem strs_vStr : ∀ {vs : List Value} {xs : List Str}, StrsAre vs xs → vs.map vStr = xs ∧ ∀ v ∈ vs, ∃ x t, v = .str x t
  | _, _, .nil => ⟨rfl, by simp⟩
  | _, _, .cons x t h => by
    obtain ⟨a, b⟩ := strs_vStr h
    refine ⟨by rw [List.map_cons, a]; rfl, fun v hv => ?_⟩
    rcases List.mem_cons.mp hv with rfl | hv
    · exact ⟨x, t, rfl⟩
    · exact b v hv
theorem strs_of : ∀ {vs : List Value}, (∀ v ∈ vs, ∃ x t, v = .str x t) → StrsAre vs (vs.map vStr)
  | [], _ => .nil
  | v :: vs, h => by
    obtain ⟨x, t, rfl⟩ := h v (by simp)
    exact .cons x t (strs_of fun u hu => h u (by simp [hu]))
section
variable {prog : Program} {w : World} {A : Around} {E : Value → Shared → Prop} {s : Shared}
theorem str_cmp {vs : List Value} (hv : ∀ v ∈ vs, ∃ x t, v = .str x t) : SrtO.Cmp prog w A s oneType' (fun p => p.1 ∈ vs) (SrtO.lt2 ltVS) := by
  intro p q hp hq
  obtain ⟨x, t, e1⟩ := hv _ hp
  obtain ⟨y, u, e2⟩ := hv _ hq
  show wpAny (model prog w) A (keyLt' oneType' p.1 q.1) (fun r s' => s' = s ∧ r = ltVS p.1 q.1) (fun _ _ => False) s
  rw [e1, e2, keyLt'_oneType]
  exact oneLt_str ⟨rfl, rfl⟩
theorem strs_sortable {a : Addr} {vs : List Value} (hv : ∀ v ∈ vs, ∃ x t, v = .str x t) (h2 : 2 ≤ vs.length) : SrtO.SortableO prog w A s a vs ltVS := by
  intro h' _
  refine ⟨oneType', fun Q E hq => ?_, str_cmp hv⟩
  match vs, hv, h2 with
  | v1 :: v2 :: r, hv, _ =>
    rw [keyKind_strs (strs_of hv)]
    exact wpAny_pure hq
/-- what is in a list or a tuple -/
theorem collect_seq {l : Addr} {vs : List Value} {o : Obj} {n : Nat} {Q : List Value → Shared → Prop} (ho : s.heap.get? l = some o) (hc : o.cls = .type "list" ∨ o.cls = .type "tuple") (hd : o.data = .seq vs.toArray n) (hz : vs.length ≤ sizeLine)
    (h : Q vs { s with heap := (s.heap.push (seqObj "list" #[] 0)).update s.heap.objs.size (Obj.mapSeq (· ++ vs.toArray)) }) : wpAny (model prog w) A (collect (.ref l)) Q E s := by
  unfold collect
  refine wpAny_bind (wpAny_runValue (codeAny_builtin entry_proto_collect' (show wpAny _ _ (do again (.builtin "list.__iadd__" ⟨[← newList [], .ref l], []⟩)) _ _ s from wpAny_bind (wpAny_newList (wpAny_pure ⟨Code.quiet_builtin _ (by decide +kernel), codeAny_builtin entry_list_iadd' ?_⟩)))))
  have h1 : (s.heap.push (seqObj "list" #[] 0)).get? l = some o := Heap.get?_push_of_some _ ho
  have h2 : (s.heap.push (seqObj "list" #[] 0)).get? s.heap.objs.size = some (seqObj "list" #[] 0) := Heap.get?_push_size _ rfl
  show wpAny _ _ (Builtin.List.listExtendWith (.ref s.heap.objs.size) (.ref l) (.ref s.heap.objs.size)) _ _ { s with heap := s.heap.push (seqObj "list" #[] 0) }
  unfold Builtin.List.listExtendWith
  have e : ∃ T : String, o.cls = .type T ∧ ((Value.type T == Value.type "list") || (Value.type T == Value.type "tuple")) = true := by
    rcases hc with z | z
    · exact ⟨_, z, by rfl⟩
    · exact ⟨_, z, by rfl⟩
  obtain ⟨T, eT, eb⟩ := e
  refine wpAny_bind (wpAny_typeOf (T := T) ⟨o, h1, eT⟩ ?_)
  rw [if_pos (by rw [Bool.or_assoc, eb, Bool.or_true])]
  refine wpAny_bind (listItems_at h1 hd (wpAny_bind (listItems_at (xs := #[]) (n := 0) h2 rfl ?_)))
  rw [if_neg (by simp)]
  refine wpAny_bind (listUpdate_at (xs := #[]) (n := 0) h2 rfl ?_ (Nat.zero_le _) (by show (#[] ++ vs.toArray).size ≤ sizeLine + 1; simp; omega))
  refine wpAny_pure (show wpAny (model prog w) A (do
      let o ← load s.heap.objs.size
      match o.data with
      | .seq xs _ => pure xs.toList
      | _ => unsupported "internal:collect") Q E { s with heap := (s.heap.push (seqObj "list" #[] 0)).update s.heap.objs.size (Obj.mapSeq (· ++ vs.toArray)) } from wpAny_bind (wpAny_load (get?_update_seq h2 _) ?_))
  have ea : ((#[] : Array Value) ++ vs.toArray).toList = vs := by simp
  show wpAny _ _ (pure ((#[] : Array Value) ++ vs.toArray).toList) Q E _
  rw [ea]
  exact wpAny_pure h
end
end G0

set_option Elab.async false
set_option linter.all false
set_option maxRecDepth 100000
set_option maxHeartbeats 4000000
/-! sorted(..) of names and of pairs of names, as rules. -/
namespace G0
open PySem PySem.Spec PyProof.Rows L2
section
variable {prog : Program} {w : World} {A : Around} {E : Value → Shared → Prop} {s : Shared}
/-- sorted(l), l a list or a tuple, whatever the order -/
theorem sorted_seq {l : Addr} {vs : List Value} {o : Obj} {n : Nat} {ltv : Value → Value → Bool} {Q : Value → Shared → Prop} (O : SrtO.Swo ltv) (ho : s.heap.get? l = some o) (hc : o.cls = .type "list" ∨ o.cls = .type "tuple") (hd : o.data = .seq vs.toArray n) (hz : vs.length ≤ sizeLine)
    (hS : 2 ≤ vs.length → ∀ (h₁ : Heap) (a : Addr), h₁.get? a = some (seqObj "list" vs.toArray 0) → (∀ b o, s.heap.get? b = some o → b ≠ a ∧ h₁.get? b = some o) → SrtO.SortableO prog w A.in1.in1 { s with heap := h₁ } a vs ltv)
    (h : ∀ (h' : Heap) (d : Addr) (out : List Value), SrtO.Srtd ltv out → SrtO.Stb ltv out vs → (∀ b o, s.heap.get? b = some o → h'.get? b = some o) → s.heap.objs.size ≤ d → (∃ n, h'.get? d = some (seqObj "list" out.toArray n)) → Q (.ref d) { s with heap := h' }) :
    wpAny (model prog w) A (call (.builtin "sorted") [.ref l]) Q E s := by
  refine Calls.call_function_entry kind_sorted plain_sorted entry_sorted (args_sorted1 _) ?_
  unfold Builtin.«sorted»
  refine wpAny_bind (m := checkCount "sorted" 1 1 _) (wpAny_pure (wpAny_bind (collect_seq ho hc hd hz (wpAny_bind (wpAny_newList ?_ hz)))))
  have e1 : ((s.heap.push (seqObj "list" #[] 0)).update s.heap.objs.size (Obj.mapSeq (· ++ vs.toArray))).objs.size = s.heap.objs.size + 1 := (Heap.size_update ..).trans (size_push' ..)
  have e2 : (((s.heap.push (seqObj "list" #[] 0)).update s.heap.objs.size (Obj.mapSeq (· ++ vs.toArray))).push (seqObj "list" vs.toArray 0)).get? (s.heap.objs.size + 1) = some (seqObj "list" vs.toArray 0) := by
    have z := Heap.get?_push_size ((s.heap.push (seqObj "list" #[] 0)).update s.heap.objs.size (Obj.mapSeq (· ++ vs.toArray))) (o := seqObj "list" vs.toArray 0) rfl
    rw [e1] at z
    exact z
  have kk : ∀ b o, s.heap.get? b = some o → b ≠ s.heap.objs.size + 1 ∧ (((s.heap.push (seqObj "list" #[] 0)).update s.heap.objs.size (Obj.mapSeq (· ++ vs.toArray))).push (seqObj "list" vs.toArray 0)).get? b = some o := fun b o q => by
    have lt : b < s.heap.objs.size := Heap.lt_size q
    exact ⟨Nat.ne_of_lt (Nat.lt_succ_of_lt lt), Heap.get?_push_of_some _ ((Heap.get?_update_ne _ _ _ _ (Nat.ne_of_lt lt)).trans (Heap.get?_push_of_some _ q))⟩
  show wpAny _ _ _ _ _ { s with heap := ((s.heap.push (seqObj "list" #[] 0)).update s.heap.objs.size (Obj.mapSeq (· ++ vs.toArray))).push (seqObj "list" vs.toArray 0) }
  rw [e1]
  refine wpAny_bind (wpAny_holding (wpAny_call_entry slot_list_sort ⟨_, e2, rfl⟩ entry_list_sort (SrtO.list_sort_ord O e2 hz (fun h2 => hS h2 _ _ e2 kk) fun out hs hb => ⟨_, rfl, ?_⟩) (args_list_sort _)))
  exact wpAny_pure ⟨_, rfl, h _ _ out hs hb (fun b o q => sortedAll_old (vs := vs) (out := out.toArray) q) (Nat.le_succ _) (sortedAll_at s.heap vs out.toArray)⟩
end
/-! ### pairs of texts -/
def IsPrS (h : Heap) (v : Value) (x y : Str) : Prop := ∃ a o t u n, v = .ref a ∧ h.get? a = some o ∧ o.cls = .type "tuple" ∧ o.data = .seq #[.str x t, .str y u] n
theorem IsPrS.keeps {h h' : Heap} {v : Value} {x y : Str} (p : IsPrS h v x y) (k : ∀ b o, h.get? b = some o → o.cls = .type "tuple" → h'.get? b = some o) : IsPrS h' v x y := by
  obtain ⟨a, o, t, u, n, e, ho, hc, hd⟩ := p
  exact ⟨a, o, t, u, n, e, k a o ho hc, hc, hd⟩
section
variable {prog : Program} {w : World} {A : Around} {E : Value → Shared → Prop} {s : Shared}
theorem prs_cmp {vs : List Value} {k : Value → Pr} (hp : ∀ v ∈ vs, IsPrS s.heap v (k v).1 (k v).2) : SrtO.Cmp prog w A s (tuples' true) (fun p => p.1 ∈ vs) (SrtO.lt2 fun v u => ltPr (k v) (k u)) := by
  intro p q hm hm'
  obtain ⟨a, o, t, u, n, e, ho, hc, hd⟩ := hp _ hm
  obtain ⟨a', o', t', u', n', e', ho', hc', hd'⟩ := hp _ hm'
  show wpAny (model prog w) A (keyLt' (tuples' true) p.1 q.1) (fun r s' => s' = s ∧ r = ltPr (k p.1) (k q.1)) (fun _ _ => False) s
  generalize k p.1 = P at hd ⊢
  generalize k q.1 = P' at hd' ⊢
  obtain ⟨x, y⟩ := P
  obtain ⟨x', y'⟩ := P'
  rw [e, e']
  have yes : x = x' → ltPr (x, y) (x', y') = ltS y y' := fun z => if_pos z
  have no : x ≠ x' → ltPr (x, y) (x', y') = ltS x x' := fun z => if_neg z
  refine PySem.W.kat_lt ho hd ho' hd' (show PySem.W.KatLex prog w A true (decide (2 < 2)) _ [(.str x t, .str x' t'), (.str y u, .str y' u')] 0 s from PySem.W.kat_cons (SeqAt.EqAt.str_str x t x' t' prog w _ _ (PySem.W.kat_go (fun e1 => ?_) fun e1 => ?_)))
  · have ex : x = x' := by simpa using e1
    refine PySem.W.kat_yes (PySem.W.kat_cons (SeqAt.EqAt.str_str y u y' u' prog w _ _ (PySem.W.kat_go (fun e2 => ?_) fun e2 => ?_)))
    · have ey : y = y' := by simpa using e2
      refine PySem.W.kat_yes (PySem.W.kat_nil ⟨rfl, ?_⟩)
      rw [yes ex, ey, ltS_irr]
      rfl
    · exact PySem.W.kat_no (PySem.W.kat_one _ _ (PyProof.Rows.lt_str (show s = s ∧ decide (y.cps.toList < y'.cps.toList) = ltPr (x, y) (x', y') from ⟨rfl, (yes ex).symm⟩)))
  · have ex : x ≠ x' := by simpa using e1
    exact PySem.W.kat_no (oneLt_str ⟨rfl, (no ex).symm⟩)
theorem prs_firsts {h : Heap} : ∀ {vs : List Value}, (∀ v ∈ vs, ∃ x y, IsPrS h v x y) → ∃ fs : List Value, PySem.W.KatTups h vs fs ∧ fs.length = vs.length ∧ ∀ f ∈ fs, ∃ x t, f = Value.str x t
  | [], _ => ⟨[], trivial, rfl, by simp⟩
  | v :: vs, hv => by
    obtain ⟨fs, h1, h2, h3⟩ := prs_firsts (vs := vs) fun u hu => hv u (by simp [hu])
    obtain ⟨x, y, a, o, t, u, n, rfl, ho, hc, hd⟩ := hv v (by simp)
    refine ⟨.str x t :: fs, ?_, by rw [List.length_cons, List.length_cons, h2], fun f hf => ?_⟩
    · exact PySem.W.KatTups.cons ho hc hd rfl h1
    · rcases List.mem_cons.mp hf with rfl | hf
      · exact ⟨x, t, rfl⟩
      · exact h3 f hf
theorem swo_prs (k : Value → Pr) : SrtO.Swo fun v u => ltPr (k v) (k u) := ⟨fun _ _ h => ltPr_asym h, fun _ _ _ h1 h2 => ltPr_tr h1 h2⟩
theorem prs_sortable {a : Addr} {vs : List Value} {k : Value → Pr} (h0 : 0 < vs.length) (hp : ∀ v ∈ vs, IsPrS s.heap v (k v).1 (k v).2) (ha : ∀ o, s.heap.get? a = some o → o.cls ≠ .type "tuple") : SrtO.SortableO prog w A s a vs fun v u => ltPr (k v) (k u) := by
  intro h' keep
  have hp' : ∀ v ∈ vs, IsPrS h' v (k v).1 (k v).2 := fun v hm => (hp v hm).keeps fun b o e c => keep b o (fun z => by subst z; exact ha o e c) e
  obtain ⟨fs, h1, h2, h3⟩ := prs_firsts fun v hm => ⟨_, _, hp' v hm⟩
  refine ⟨tuples' true, fun Q E hq => PySem.W.kat_kind (T := .type "str") h1 (by omega) (fun f hm => ?_) (by rfl) ?_, prs_cmp hp'⟩
  · obtain ⟨x, t, rfl⟩ := h3 f hm
    exact PySem.W.Looks.now
  · have e : (Value.type "str" != Value.type "tuple") = true := by first | decide +kernel | rfl | decide
    rw [e]
    exact hq
end
/-! ### the rules -/
/-- sorted(x), x a list or a tuple of texts -/
def rSortQ (K : PySem.W.Frag) : List V → Hp → VK → Prop := fun vs H Q => ∃ (a : Addr) (xs : List Str), vs = [V.ref a] ∧ (SqL K H a (xs.map V.str) ∨ SqT K H a (xs.map V.str)) ∧ ∀ p, H p = none → Q (.ref p) (upd H p (.lst ((sortS xs).map V.str)))
/-- these stand for pairs of texts -/
def PrsAt (H : Hp) (vs : List V) (ps : List Pr) : Prop := vs.length = ps.length ∧ ∀ (i : Nat) (v : V) (q : Pr), vs[i]? = some v → ps[i]? = some q → ∃ t, v = .ref t ∧ H t = some (.tup [.str q.1, .str q.2])
/-- sorted(x), x a list of pairs of texts -/
def rSortP (K : PySem.W.Frag) : List V → Hp → VK → Prop := fun vs H Q => ∃ (a : Addr) (xs : List V) (ps : List Pr), vs = [V.ref a] ∧ SqL K H a xs ∧ PrsAt H xs ps ∧ ∀ p ys, H p = none → ys.Perm xs → PrsAt H ys (sortPr ps) → Q (.ref p) (upd H p (.lst ys))
def prOf (H : Hp) : V → Pr
  | .ref t => match H t with
    | some (.tup [.str x, .str y]) => (x, y)
    | _ => default
  | _ => default
theorem prOf_at {H : Hp} {t : Addr} {x y : Str} (h : H t = some (.tup [.str x, .str y])) : prOf H (.ref t) = (x, y) := by
  show (match H t with
    | some (.tup [.str x, .str y]) => (x, y)
    | _ => default) = _
  rw [h]
theorem PrsAt.nil {H : Hp} : PrsAt H [] [] := ⟨rfl, fun i v q h => by simp at h⟩
theorem PrsAt.cons {H : Hp} {t : Addr} {q : Pr} {vs : List V} {ps : List Pr} (h : H t = some (.tup [.str q.1, .str q.2])) (r : PrsAt H vs ps) : PrsAt H (.ref t :: vs) (q :: ps) := by
  refine ⟨congrArg Nat.succ r.1, fun i v u h1 h2 => ?_⟩
  cases i with
  | zero =>
    cases h1
    cases h2
    exact ⟨t, rfl, h⟩
  | succ i => exact r.2 i v u h1 h2
theorem PrsAt.inv {H : Hp} {v : V} {q : Pr} {vs : List V} {ps : List Pr} (h : PrsAt H (v :: vs) (q :: ps)) : (∃ t, v = .ref t ∧ H t = some (.tup [.str q.1, .str q.2])) ∧ PrsAt H vs ps :=
  ⟨h.2 0 v q rfl rfl, Nat.succ.inj h.1, fun i v u h1 h2 => h.2 (i + 1) v u h1 h2⟩
theorem PrsAt.map : ∀ {H : Hp} {vs : List V} {ps : List Pr}, PrsAt H vs ps → vs.map (prOf H) = ps ∧ ∀ v ∈ vs, ∃ t, v = .ref t ∧ H t = some (.tup [.str (prOf H v).1, .str (prOf H v).2])
  | _, [], [], _ => ⟨rfl, by simp⟩
  | _, [], _ :: _, h => by cases h.1
  | _, _ :: _, [], h => by cases h.1
  | H, v :: vs, q :: ps, h => by
    obtain ⟨⟨t, rfl, ht⟩, r⟩ := h.inv
    obtain ⟨a, b⟩ := PrsAt.map r
    have e := prOf_at ht
    refine ⟨by rw [List.map_cons, a, e], fun u hu => ?_⟩
    rcases List.mem_cons.mp hu with rfl | hu
    · rw [e]
      exact ⟨t, rfl, ht⟩
    · exact b u hu
theorem PrsAt.of : ∀ {H : Hp} {vs : List V}, (∀ v ∈ vs, ∃ t, v = .ref t ∧ H t = some (.tup [.str (prOf H v).1, .str (prOf H v).2])) → PrsAt H vs (vs.map (prOf H))
  | _, [], _ => .nil
  | H, v :: vs, h => by
    obtain ⟨t, rfl, ht⟩ := h v (by simp)
    exact .cons ht (PrsAt.of fun u hu => h u (by simp [hu]))
theorem PrsAt.mono {H H' : Hp} {vs : List V} {ps : List Pr} (h : PrsAt H vs ps) (k : ∀ t xs, H t = some (.tup xs) → H' t = some (.tup xs)) : PrsAt H' vs ps := ⟨h.1, fun i v q h1 h2 => by
  obtain ⟨t, e, ht⟩ := h.2 i v q h1 h2
  exact ⟨t, e, k _ _ ht⟩⟩
theorem srtd_sortS {vs : List Value} {xs : List Str} {out : List Value} (hS : StrsAre vs xs) (h1 : SrtO.Srtd ltVS out) (h2 : out.Perm vs) : StrsAre out (sortS xs) := by
  obtain ⟨e, all⟩ := strs_vStr hS
  have so := strs_of (vs := out) fun v hv => all v (h2.mem_iff.mp hv)
  have : out.map vStr = sortS xs := by
    refine sortS_uniq ?_ (List.pairwise_map.mpr ?_)
    · rw [← e]
      exact h2.map vStr
    · refine List.Pairwise.imp ?_ h1
      intro a b hab
      unfold leS
      rw [show ltS (vStr b) (vStr a) = false from hab]
      rfl
  rw [← this]
  exact so
section
variable {X : Cx}
theorem cr_sortQ : CallR X (.builtin "sorted") (rSortQ X.K) := by
  intro pins s σ H vs us Q I r h
  obtain ⟨a, xs, rfl, hs, q⟩ := h
  have key : ∀ (its : List Value) (o : Obj) (n : Nat), Vals (xs.map V.str) its → s.heap.get? a = some o → (o.cls = .type "list" ∨ o.cls = .type "tuple") → o.data = .seq its.toArray n → (xs.map V.str).length ≤ sizeLine → wpAny (model X.prog X.w) X.A (call (.builtin "sorted") [.ref a]) (EP X pins σ Q) X.xe s := by
    intro its o n rv ho hc hd hz
    have hS := rv.strs
    obtain ⟨_, all⟩ := strs_vStr hS
    refine sorted_seq ltVS_swo ho hc hd (by rw [← rv.length]; exact hz) (fun h2 _ _ _ _ => strs_sortable all h2) fun h' d out s1 s2 kp hd' ⟨m, hm⟩ => ?_
    have so := srtd_sortS hS s1 s2.perm
    exact ⟨.ref d, upd H d (.lst ((sortS xs).map V.str)), I.laid (t' := s.toks) kp hd' ⟨by rw [List.length_map, sortS_len]; rw [List.length_map] at hz; exact hz, out, m, vals_of_strs so, hm⟩, rfl, q d (I.hok.fresh hd')⟩
  rw [Vals.ref1 r]
  rcases hs with hs | hs
  · obtain ⟨its, rv, hl, hz⟩ := I.list hs
    obtain ⟨o, ho, hc, n, hd⟩ := hl.isList
    exact key its o n rv ho (.inl hc) hd hz
  · obtain ⟨its, rv, ⟨o, ho, hc, n, hd⟩, hz⟩ := I.tuple hs
    exact key its o n rv ho (.inr hc) hd hz
theorem cr_sortP : CallR X (.builtin "sorted") (rSortP X.K) := by
  intro pins s σ H vs us Q I r h
  obtain ⟨a, xs, ps, rfl, hs, hp, q⟩ := h
  obtain ⟨its, rv, hl, hz⟩ := I.list hs
  obtain ⟨em, al⟩ := hp.map
  obtain ⟨e1, e2⟩ := refs_back rv fun x m => by
    obtain ⟨t, e, _⟩ := al x m
    exact ⟨t, e⟩
  obtain ⟨o, ho, hc, n, hd⟩ := hl.isList
  have pr : ∀ v ∈ its, IsPrS s.heap v (prOf H (backV v)).1 (prOf H (backV v)).2 := fun v hv => by
    obtain ⟨t, rfl⟩ := e2 v hv
    obtain ⟨t', e, ht⟩ := al (backV (.ref t)) (by rw [e1]; exact List.mem_map.mpr ⟨_, hv, rfl⟩)
    cases e
    obtain ⟨_, its2, r2, o2, ho2, hc2, n2, hd2⟩ := I.hok _ _ ht
    obtain ⟨u1, u2, rfl, ri, rj⟩ := vals2 r2
    obtain ⟨t1, rfl⟩ := ri
    obtain ⟨t2, rfl⟩ := rj
    exact ⟨t, o2, t1, t2, n2, rfl, ho2, hc2, hd2⟩
  rw [Vals.ref1 r]
  refine sorted_seq (swo_prs fun u => prOf H (backV u)) ho (.inl hc) hd (by rw [← rv.length]; exact hz) (fun h2 h₁ b hb kk => ?_) fun h' d out s1 s2 kp hd' ⟨m, hm⟩ => ?_
  · refine prs_sortable (s := { s with heap := h₁ }) (by omega) (fun v hm => (pr v hm).keeps fun b o e _ => (kk b o e).2) fun o e => ?_
    have e' := Option.some.inj (e.symm.trans hb)
    rw [e']
    intro c
    exact absurd (Value.type.inj c) (by decide)
  · have h3 : ∀ u ∈ out, ∃ a, u = Value.ref a := fun u hu => e2 u (s2.perm.mem_iff.mp hu)
    have pm : (out.map backV).Perm xs := by
      rw [e1]
      exact s2.perm.map backV
    have pa : PrsAt H (out.map backV) (sortPr ps) := by
      have z := PrsAt.of (H := H) (vs := out.map backV) fun v hv => al v (pm.mem_iff.mp hv)
      have e3 : (out.map backV).map (prOf H) = sortPr ps := by
        refine sortPr_uniq ?_ ?_
        · rw [← em]
          exact pm.map (prOf H)
        · rw [List.map_map]
          refine List.pairwise_map.mpr (List.Pairwise.imp ?_ s1)
          intro x y hxy
          unfold lePr
          rw [show ltPr ((prOf H ∘ backV) y) ((prOf H ∘ backV) x) = false from hxy]
          rfl
      rw [← e3]
      exact z
    have lz : (out.map backV).length ≤ sizeLine := by
      rw [pm.length_eq]
      exact hz
    exact ⟨.ref d, upd H d (.lst (out.map backV)), I.laid (t' := s.toks) kp hd' ⟨lz, out, m, vals_back h3, hm⟩, rfl, q d _ (I.hok.fresh hd') pm pa⟩
end
end G0

set_option Elab.async false
set_option linter.all false
set_option maxRecDepth 100000
set_option maxHeartbeats 4000000
/-! The text by places; kinds of values. -/
namespace E1
open PySem PySem.Spec PyProof.Rows L2 G0
def topS (i : Nat) : Stmt := PySem.Challenge.pw_mustcross_k02_whole_notices.main.body.getD i (.Pass ⟨0, 0, 0, 0⟩)
def tName (i : Nat) : Str := match topS i with
  | .FunctionDef n _ _ _ _ _ _ _ _ _ => n
  | _ => default
abbrev FnS (K : PySem.W.Frag) (i : Nat) (f : Addr) (fd : FuncData) : Prop := Fun K (tName i) (tName i) (topS i) f fd
/-- the class of boards, as isinstance asks it -/
structure OwnC (K : PySem.W.Frag) (C : Addr) : Prop where
  cl : Cls K C
  ha : PySem.W.findIn K (.ref C) "__class__" = some (some (.builtin "object.__class__"))
  hn : PySem.W.specialIn K (.builtin "object.__class__") "__get__" = some (some (.builtin "getset_descriptor.__get__"))
  htk : PySem.W.takesIn K (.builtin "object.__class__") = some true
  hm : PySem.W.mroIn K C (.type "object") = some true
  no : ∀ T, T ∈ ["str", "list", "tuple", "dict", "int", "bool"] → PySem.W.kitOne K (.ref C) (.type T) = some false
  ty : ∀ T, T ∈ ["str", "list", "tuple", "dict", "int", "bool", "NoneType"] → PySem.W.kitOne K (.type T) (.ref C) = some false
/-- a value whose kind is known -/
inductive Kn (C : Addr) (H : Hp) : V → Prop
  | non : Kn C H .non
  | bl (b : Bool) : Kn C H (.bl b)
  | int (i : Int) : Kn C H (.int i)
  | str (x : Str) : Kn C H (.str x)
  | lst {a : Addr} {xs : List V} (e : H a = some (.lst xs)) : Kn C H (.ref a)
  | tup {a : Addr} {xs : List V} (e : H a = some (.tup xs)) : Kn C H (.ref a)
  | dic {a : Addr} {kvs : List (Key × V)} (e : H a = some (.dK kvs)) : Kn C H (.ref a)
  | own {a dx : Addr} {fs : List (Str × V)} (e : H a = some (.ins C dx fs)) : Kn C H (.ref a)
/-- its kind's name; the empty one for a board -/
def kdOf (H : Hp) : V → String
  | .non => "NoneType"
  | .bl _ => "bool"
  | .int _ => "int"
  | .str _ => "str"
  | .ref a => match H a with
    | some (.lst _) => "list"
    | some (.tup _) => "tuple"
    | some (.dK _) => "dict"
    | _ => ""
  | _ => ""
def isSeq (H : Hp) (v : V) : Bool := kdOf H v == "list" || kdOf H v == "tuple"
theorem Kn.same {C : Addr} {H H' : Hp} {v : V} (k : Kn C H v) (S : Same H H') : Kn C H' v ∧ kdOf H' v = kdOf H v := by
  cases k with
  | non => exact ⟨.non, rfl⟩
  | bl b => exact ⟨.bl b, rfl⟩
  | int i => exact ⟨.int i, rfl⟩
  | str x => exact ⟨.str x, rfl⟩
  | lst e => exact ⟨.lst (S _ _ e), by simp only [kdOf, e, S _ _ e]⟩
  | tup e => exact ⟨.tup (S _ _ e), by simp only [kdOf, e, S _ _ e]⟩
  | dic e => exact ⟨.dic (S _ _ e), by simp only [kdOf, e, S _ _ e]⟩
  | own e => exact ⟨.own (S _ _ e), by simp only [kdOf, e, S _ _ e]⟩
/-- isinstance(v, T) -/
theorem kn_isi {K : PySem.W.Frag} {C : Addr} {H : Hp} {v : V} (O : OwnC K C) (k : Kn C H v) : ∃ t, TyX K H v t ∧ ∀ T, T ∈ ["str", "list", "tuple", "dict", "int"] → PySem.W.kitOne K t (.type T) = some (kdOf H v == T || (kdOf H v == "bool" && T == "int")) := by
  have all := (by decide +kernel : ∀ T ∈ ["str", "list", "tuple", "dict", "int"], ∀ a ∈ ["NoneType", "bool", "int", "str", "list", "tuple", "dict"], kitB a T = some (a == T || (a == "bool" && T == "int")))
  have tk : ∀ a, a ∈ ["NoneType", "bool", "int", "str", "list", "tuple", "dict"] → ∀ T, T ∈ ["str", "list", "tuple", "dict", "int"] → PySem.W.kitOne K (.type a) (.type T) = some (a == T || (a == "bool" && T == "int")) := fun a ha T hT => kit_ty (all T hT a ha)
  cases k with
  | non => exact ⟨_, .base .non, tk _ (by decide)⟩
  | bl b => exact ⟨_, .base (.bl b), tk _ (by decide)⟩
  | int i => exact ⟨_, .base (.int i), tk _ (by decide)⟩
  | str x => exact ⟨_, .base (.str x), tk _ (by decide)⟩
  | lst e => exact ⟨_, .base (.lst e), by simp only [kdOf, e]; exact tk _ (by decide)⟩
  | tup e => exact ⟨_, .base (.tup e), by simp only [kdOf, e]; exact tk _ (by decide)⟩
  | dic e => exact ⟨_, .base (.dK e), by simp only [kdOf, e]; exact tk _ (by decide)⟩
  | own e =>
    refine ⟨_, .base (.ins e O.cl O.ha O.hn O.htk O.hm), fun T hT => ?_⟩
    simp only [kdOf, e]
    have h1 : T ∈ ["str", "list", "tuple", "dict", "int", "bool"] := by
      simp only [List.mem_cons, List.not_mem_nil, or_false] at hT ⊢
      rcases hT with rfl | rfl | rfl | rfl | rfl <;> simp
    rw [O.no T h1]
    simp only [List.mem_cons, List.not_mem_nil, or_false] at hT
    rcases hT with rfl | rfl | rfl | rfl | rfl <;> decide
/-- isinstance(v, (list, tuple)) -/
theorem kn_seq {K : PySem.W.Frag} {C : Addr} {H : Hp} {v : V} (O : OwnC K C) (k : Kn C H v) : ∃ t, TyX K H v t ∧ PySem.W.kitAny K t [.type "list", .type "tuple"] = some (isSeq H v) := by
  obtain ⟨t, h1, h2⟩ := kn_isi O k
  have a := h2 "list" (by decide)
  have b := h2 "tuple" (by decide)
  simp only [show (("list" : String) == "int") = false from by decide, show (("tuple" : String) == "int") = false from by decide, Bool.and_false, Bool.or_false] at a b
  refine ⟨t, h1, kitAny_cons a (fun z => kitAny_cons b (fun y => ?_) fun y => ?_) fun z => ?_⟩
  · unfold isSeq
    rw [z, y]
    rfl
  · unfold isSeq
    rw [y, Bool.or_true]
  · unfold isSeq
    rw [z, Bool.true_or]
def isStrV : V → Bool
  | .str _ => true
  | _ => false
theorem kd_str {C : Addr} {H : Hp} {v : V} (k : Kn C H v) : (kdOf H v == "str") = isStrV v := by
  cases k with
  | non => rfl
  | bl b => rfl
  | int i => rfl
  | str x => rfl
  | lst e => simp only [kdOf, e]; rfl
  | tup e => simp only [kdOf, e]; rfl
  | dic e => simp only [kdOf, e]; rfl
  | own e => simp only [kdOf, e]; rfl
theorem kn_str {K : PySem.W.Frag} {C : Addr} {H : Hp} {v : V} (O : OwnC K C) (k : Kn C H v) : ∃ t, TyX K H v t ∧ PySem.W.kitOne K t (.type "str") = some (isStrV v) := by
  obtain ⟨t, h1, h2⟩ := kn_isi O k
  have a := h2 "str" (by decide)
  rw [show (("str" : String) == "int") = false from by decide, Bool.and_false, Bool.or_false, kd_str k] at a
  exact ⟨t, h1, a⟩
end E1

set_option Elab.async false
set_option linter.all false
set_option maxRecDepth 100000
set_option maxHeartbeats 4000000
/-! names.py -/
namespace E1
open PySem PySem.Spec PyProof.Rows L2 G0
/-! ### a comprehension over a text -/
theorem lc_str {z : Str} {g : TG} {tt : TT} {te : TE} {vs : List Nat} {σ : L2.St} {H1 : Hp} {D : Addr} {Qd : Hp → Prop} (Pv : Nat → Hp → Prop) (h0 : Pv 0 (upd H1 D (.lst [])))
    (hs : ∀ i c H, z.cps[i]? = some c → Pv i H → g (.str ⟨#[c]⟩) (wipe σ vs) H fun σ2 H2 => wipe σ2 vs = wipe σ vs ∧ tt σ2 H2 fun b H3 =>
      if b = true then te σ2 H3 fun y H4 => ∃ acc, H4 D = some (.lst acc) ∧ acc.length < sizeLine ∧ Pv (i + 1) (upd H4 D (.lst (acc ++ [y]))) else Pv (i + 1) H3) (hd : ∀ H, Pv z.cps.size H → Qd H) :
    ∃ W : Nat → Nat → Hp → Prop, (∃ m, W 0 m (upd H1 D (.lst []))) ∧ ∀ i m H, W i m H →
      ((Its z).stop i H ∧ Qd H) ∨ ((Its z).go i H ∧ ∃ Nx : Hp → Prop, (∀ H', Nx H' → ∃ m', m' < m ∧ W (i + 1) m' H') ∧ ∀ x H', (Its z).yld i H x H' → g x (wipe σ vs) H' fun σ2 H2 => wipe σ2 vs = wipe σ vs ∧ tt σ2 H2 fun b H3 =>
        if b = true then te σ2 H3 fun y H4 => ∃ acc, H4 D = some (.lst acc) ∧ acc.length < sizeLine ∧ Nx (upd H4 D (.lst (acc ++ [y]))) else Nx H3) := by
  refine ⟨fun i m H => m = z.cps.size - i ∧ i ≤ z.cps.size ∧ Pv i H, ⟨z.cps.size, by simp, Nat.zero_le _, h0⟩, fun i m H ⟨em, hi, p⟩ => ?_⟩
  subst em
  rcases Nat.lt_or_ge i z.cps.size with lt | ge
  · refine .inr ⟨lt, Pv (i + 1), fun H' p' => ⟨z.cps.size - (i + 1), by omega, rfl, lt, p'⟩, fun x H' y => ?_⟩
    obtain ⟨rfl, c, hc, rfl⟩ := y
    exact hs i c _ hc p
  · have e : i = z.cps.size := by omega
    exact .inl ⟨ge, hd H (by rw [← e]; exact p)⟩
theorem yes_of {σ : L2.St} {H : Hp} {f g : Hp → Prop} (h : f H) : tYes σ H (fun b H3 => if b = true then f H3 else g H3) := by
  show (if true = true then f H else g H)
  exact iteT h
theorem new_same {H : Hp} {a : Addr} {o : HO} (n : H a = none) : Same H (upd H a o) := fun b u e => by
  rw [upd_ne (ne_of_none e n)]
  exact e
theorem same_upd {H H' : Hp} {a : Addr} {o : HO} (S : Same H H') (n : H a = none) : Same H (upd H' a o) := fun b u e => by
  rw [upd_ne (ne_of_none e n)]
  exact S _ _ e
/-! ### the texts of names -/
def lettersS : Str := "abcdefghijklmnopqrstuvwxyz"
def signsS : Str := "abcdefghijklmnopqrstuvwxyz0123456789"
def wordsL : List Str := ["place", "tie", "rim", "pair", "way", "fold", "behind", "at", "cross", "none", "apart", "not", "watch", "hold"]
def nameB (z : Str) : Bool := (decide (0 < z.length) && decide (z.length ≤ 8)) && ((match z.cps[0]? with
  | some c => decide (c ∈ lettersS.cps.toList)
  | none => false) && (!decide (z ∈ wordsL) && z.cps.toList.all fun c => decide (c ∈ signsS.cps.toList)))
def nameV : V → Bool
  | .str z => nameB z
  | _ => false
structure TxtN (K : PySem.W.Frag) (mg : Str → Option Value) : Prop where
  isinstance : mg "isinstance" = none
  str : mg "str" = none
  list : mg "list" = none
  tuple : mg "tuple" = none
  len : mg "len" = none
  all : mg "all" = none
  enumerate : mg "enumerate" = none
  sorted : mg "sorted" = none
  letters : ∃ t, mg "LETTERS" = some (.str lettersS t)
  signs : ∃ t, mg "NAME_SIGNS" = some (.str signsS t)
  longest : ∃ t, mg "LONGEST_NAME" = some (.int 8 t)
  words : ∃ a, mg "WORDS" = some (.ref a) ∧ ∀ H, SqT K H a (wordsL.map V.str)
theorem boot_tuple : bootBuiltins "tuple" = some (.type "tuple") := by decide +kernel
theorem boot_str : bootBuiltins "str" = some (.type "str") := by decide +kernel
theorem inV_strs (z : Str) : ∀ l : List Str, inV (.str z) (l.map V.str) = decide (z ∈ l)
  | [] => rfl
  | x :: l => by
    show (eqV (.str x) (.str z) || inV (.str z) (l.map V.str)) = decide (z ∈ x :: l)
    rw [inV_strs z l]
    by_cases e : z = x
    · subst e
      have : eqV (.str z) (.str z) = true := by simp [eqV]
      rw [this]
      simp
    · have : eqV (.str x) (.str z) = false := by simp [eqV, Ne.symm e]
      rw [this]
      simp [e]
theorem flat_strs : ∀ l : List Str, (l.map V.str).all flatV = true
  | [] => rfl
  | x :: l => by rw [List.map_cons, List.all_cons, flat_strs l]; rfl
abbrev s_is_name : Stmt := topS 13
abbrev N_is_name : List Str := ["thing", "sign"]
theorem sc_is_name : FnScope N_is_name ["thing"] (defScope s_is_name) := ⟨rfl, rfl, rfl, by decide +kernel, rfl, by decide +kernel, by decide +kernel⟩
def spIsName (C : Addr) : Sp := fun vs H Q _ => ∃ v, vs = [v] ∧ Kn C H v ∧ (∀ z, v = .str z → z.length ≤ 1000) ∧ ∀ H', Same H H' → Q (.bl (nameV v)) H'
section
variable {P : Program} {w : World} {K : PySem.W.Frag} {mg : Str → Option Value} {base : Heap} {C f : Addr} {fd : FuncData}
theorem ok_is_name (F : FnS K 13 f fd) (T : TxtN K mg) (O : OwnC K C) : FnOk P w K mg base CX0 1 f fd ["thing"] (spIsName C) := by
  obtain ⟨tL, gL⟩ := T.letters
  obtain ⟨tS, gS⟩ := T.signs
  obtain ⟨t8, g8⟩ := T.longest
  obtain ⟨aW, gW, hW⟩ := T.words
  refine Fun.ok F sc_is_name (fun vs H Q E h => ?_) (fun cdv A outer s H vs Q E hr h => ⟨_, pss_cons (ps_if (PW.pt (pw_or (pt_not (pt_val (pe_callB call_isi (by rfl) T.isinstance (by decide +kernel) (pa_cons (pv 0) (pa_cons (pe_bltn (by rfl) T.str boot_str (v := .ty "str") rfl) pa_nil))))) (pw_or1 (pt_not (pt_chain op_lt op_le pe_int (pe_callB call_len_str (by rfl) T.len PySem.boot_len (pa_cons (pv 0) pa_nil)) (pe_glob (by rfl) g8 (v := .int 8) ⟨_, rfl⟩)))))) (pss_one (ps_ret pe_bl)) pss_nil)
    (pss_cons (ps_if (PW.pt (pw_or (pt_cmpR op_notIn_sign (pe_ix ix_str (pv 0) pe_int (fun _ _ => rfl)) (pe_glob (by rfl) gL (v := .str lettersS) ⟨_, rfl⟩) (by rfl)) (pw_or1 (pt_cmpR op_in_seq (pv 0) (pe_glob (by rfl) gW (v := .ref aW) rfl) (by rfl))))) (pss_one (ps_ret pe_bl)) pss_nil)
    (pss_one (ps_ret (pe_callB (cr_all rfl) (by rfl) T.all (by decide +kernel) (pa_cons (pe_lc (own := [("sign", 1)]) (tt := tYes) rfl sc_is_name.nd (pi_str (pv 0)) (blkOk_by (own := [("sign", 1)]) (N := N_is_name) (sc := defScope s_is_name) (by decide +kernel)) (fun _ _ _ _ _ => (pg_name (i := 1) sc_is_name.nd rfl (Or.inl rfl))) (fun _ _ _ _ _ => pts_nil) (fun _ _ _ _ _ => (pe_cmpR op_in_sign (pv 1) (pe_glob (by rfl) gS (v := .str signsS) ⟨_, rfl⟩) (by rfl)))) pa_nil))))), ?_⟩)
  · obtain ⟨v, rfl, _⟩ := h
    rfl
  · obtain ⟨v, rfl, hk, hl, k⟩ := h
    obtain ⟨t, ty, ki⟩ := kn_str O hk
    refine ⟨_, rfl, v, _, t, _, isStrV v, rfl, .ty _, ty, ki, _, rfl, ?_⟩
    have no : nameV v = false → Q (.bl false) H := fun e => by
      have := k H (Same.refl H)
      rw [e] at this
      exact this
    cases v with
    | str z =>
      have hz := hl z rfl
      have hzl : z.length ≤ sizeLine := Nat.le_of_lt (small1000 hz)
      have e0 : nameB z = ((decide (0 < z.length) && decide (z.length ≤ 8)) && ((match z.cps[0]? with
        | some c => decide (c ∈ lettersS.cps.toList)
        | none => false) && (!decide (z ∈ wordsL) && z.cps.toList.all fun c => decide (c ∈ signsS.cps.toList)))) := rfl
      refine iteF ⟨_, rfl, z, rfl, hzl, 0, (z.length : Int), rfl, rfl, _, rfl, ?_⟩
      refine ite2 (fun h0 => ?_) (fun h0 => ?_)
      · have h0' : 0 < z.length := by
          have := of_decide_eq_true h0
          omega
        refine ⟨(z.length : Int), 8, rfl, rfl, _, rfl, ?_⟩
        cases h8 : decide ((z.length : Int) ≤ 8) with
        | false =>
          refine iteT (no ?_)
          have : decide (z.length ≤ 8) = false := decide_eq_false fun q => of_decide_eq_false h8 (by omega)
          show nameB z = false
          rw [e0, this, Bool.and_false, Bool.false_and]
        | true =>
          refine iteF ?_
          have h8' : z.length ≤ 8 := by
            have := of_decide_eq_true h8
            omega
          have hs : z.cps.size = z.length := rfl
          obtain ⟨c0, hc0⟩ : ∃ c, z.cps[0]? = some c := ⟨z.cps[0]'(by omega), Array.getElem?_eq_getElem _⟩
          have hc0' : z.cps.toList[0]? = some c0 := by rw [Array.getElem?_toList]; exact hc0
          rw [decide_eq_true h0', decide_eq_true h8', hc0] at e0
          refine ⟨_, rfl, _, 0, c0, rfl, rfl, hzl, atI_nat hc0', c0, lettersS, rfl, rfl, _, rfl, ?_⟩
          cases hL : decide (c0 ∈ lettersS.cps.toList) with
          | false =>
            refine iteT (iteT (no ?_))
            show nameB z = false
            rw [e0]
            simp only [hL]
            rfl
          | true =>
            refine iteF ⟨_, rfl, aW, _, rfl, .inr (hW _), rfl, flat_strs _, _, rfl, ?_⟩
            rw [inV_strs]
            cases hW : decide (z ∈ wordsL) with
            | true =>
              refine iteT (no ?_)
              show nameB z = false
              rw [e0]
              simp only [hL, hW]
              rfl
            | false =>
              refine iteF ⟨_, rfl, z, rfl, fun D hD => lc_str (fun i H' => H' D = some (.lst ((z.cps.toList.take i).map fun c => V.bl (decide (c ∈ signsS.cps.toList)))) ∧ Same H H') ⟨by rw [upd_same]; rfl, new_same hD⟩ ?_ ?_⟩
              · rintro i c H' hc ⟨h, S⟩
                have hi : i < z.cps.toList.length := by
                  have := (Array.getElem?_eq_some_iff.mp hc).1
                  rw [Array.length_toList]
                  exact this
                have et : z.cps.toList.take (i + 1) = z.cps.toList.take i ++ [c] := by
                  rw [List.take_succ, Array.getElem?_toList, hc]
                  rfl
                refine ⟨rfl, yes_of ⟨_, rfl, c, signsS, rfl, rfl, _, h, ?_, ?_, same_upd S hD⟩⟩
                · rw [List.length_map, List.length_take]
                  refine small1000 (Nat.le_trans (Nat.min_le_right _ _) ?_)
                  rw [Array.length_toList]
                  exact Nat.le_trans (Nat.le_of_eq hs) (by omega)
                · rw [upd_same, et, List.map_append]
                  rfl
              · rintro H' ⟨h, S⟩
                have ea : z.cps.toList.take z.cps.size = z.cps.toList := List.take_of_length_le (by rw [Array.length_toList]; exact Nat.le_refl _)
                rw [ea] at h
                refine ⟨D, z.cps.toList.map fun c => decide (c ∈ signsS.cps.toList), rfl, SqL.of (by rw [h, List.map_map]; rfl), ?_⟩
                have := k H' S
                have en : nameV (.str z) = (z.cps.toList.map fun c => decide (c ∈ signsS.cps.toList)).all id := by
                  show nameB z = _
                  rw [e0, List.all_map]
                  simp only [hL, hW]
                  rfl
                rw [en] at this
                exact this
      · refine ⟨false, rfl, iteT (no ?_)⟩
        have : decide (0 < z.length) = false := decide_eq_false fun q => h0 (decide_eq_true (by omega))
        show nameB z = false
        rw [e0, this, Bool.false_and, Bool.false_and]
    | _ => exact iteT (no rfl)
end
end E1

set_option Elab.async false
set_option linter.all false
set_option maxRecDepth 100000
set_option maxHeartbeats 4000000
/-! Walks over what may be a list or a tuple; enumerate of a tuple. -/
namespace PySem
open Sem (wp)
open AutoSeq1 (wpAny_loadPart')
set_option maxRecDepth 100000
theorem meets_enumT (l : Addr) (items : Array Value) (n : Nat) (dct : Option Addr) (sl : Array (Option Value)) :
    Meets (Builtin.«enumerate.__new__» ⟨[.type "enumerate", .ref l], []⟩) (fun _ R s => s.heap.get? l = some { cls := .type "tuple", dict := dct, data := .seq items n, slots := sl } ∧
      R (.ok (.ret (.ref (s.heap.push { cls := .type "tuple_iterator", data := .fields #[.ref l, .int 0 0] }).objs.size)))
        { s with heap := (s.heap.push { cls := .type "tuple_iterator", data := .fields #[.ref l, .int 0 0] }).push { cls := .type "enumerate", data := .fields #[.none, .bool false, .ref s.heap.objs.size, rawInt 0, .none, .none] } }) :=
  .of_wp fun prog w A R s h => by
    obtain ⟨hp, g, d, tk, os⟩ := s
    obtain ⟨hl, h⟩ := h
    have hsub := sub_enumerate
    have hL : Heap.IsTuple (Shared.heap ⟨hp, g, d, tk, os⟩) l items := ⟨_, hl, rfl, n, rfl⟩
    wp_walk using wpAny_loadPart' hl
    refine wpAny_stack_any fun st => wpAny_pure ?_
    split
    · rename_i c _ _ _ _ _
      cases (c == Value.type "enumerate")
      all_goals (wp_walk using wpAny_loadPart' hl, wpAny_pyIter_tuple hL; exact ⟨_, rfl, h⟩)
    · wp_walk using wpAny_loadPart' hl, wpAny_pyIter_tuple hL
      exact ⟨_, rfl, h⟩
section
variable {prog : Program} {w : World} {A : Around} {E : Value → Shared → Prop} {s : Shared}
theorem call_enumT {l : Addr} {items : Array Value} {Q : Value → Shared → Prop} (hL : s.heap.IsTuple l items)
    (h : ∀ h', IsEnum h' (s.heap.objs.size + 1) s.heap.objs.size 0 .none → h'.IsTupleIter s.heap.objs.size l 0 → h'.objs.size = s.heap.objs.size + 2 → (∀ b o, s.heap.get? b = some o → h'.get? b = some o) → Q (.ref (s.heap.objs.size + 1)) { s with heap := h' }) :
    wpAny (model prog w) A (call (.type "enumerate") [.ref l]) Q E s := by
  obtain ⟨⟨c, dct, dt, sl⟩, hl, hc, n, hd⟩ := hL
  have hc : c = .type "tuple" := hc
  have hd : dt = .seq items n := hd
  subst hc hd
  have hz : (s.heap.push { cls := .type "tuple_iterator", data := .fields #[.ref l, .int 0 0] }).objs.size = s.heap.objs.size + 1 := Heap.size_push ..
  have he : IsEnum ((s.heap.push { cls := .type "tuple_iterator", data := .fields #[.ref l, .int 0 0] }).push { cls := .type "enumerate", data := .fields #[.none, .bool false, .ref s.heap.objs.size, rawInt 0, .none, .none] }) (s.heap.objs.size + 1) s.heap.objs.size 0 .none := by
    have q := Heap.get?_push_size (s.heap.push { cls := .type "tuple_iterator", data := .fields #[.ref l, .int 0 0] }) (o := { cls := .type "enumerate", data := .fields #[.none, .bool false, .ref s.heap.objs.size, rawInt 0, .none, .none] }) rfl
    rw [hz] at q
    exact q
  refine callType_new F.called_enumerate (by decide) (F.typeCall_enumerate_1 _) (F.newCall_enumerate_1 _) (fun obj => F.args_object_init_2 obj _) F.entry_enumerate_new (meets_enumT l items n dct sl) ⟨hl, ?_⟩
  show _ ∧ _
  rw [hz]
  exact ⟨⟨_, he, rfl⟩, h _ he ⟨_, Heap.get?_push_of_some _ (Heap.get?_push_size _ rfl), rfl, rfl⟩ (by rw [Heap.size_push, hz]) fun b o x => Heap.get?_push_of_some _ (Heap.get?_push_of_some _ x)⟩
end
end PySem
namespace G0
open PySem PySem.Spec PyProof.Rows L2
/-- a list or a tuple, by its items -/
def SqQ (K : PySem.W.Frag) (H : Hp) (a : Addr) (xs : List V) : Prop := SqL K H a xs ∨ SqT K H a xs
def IteT (K : PySem.W.Frag) (a : Addr) : It :=
  ⟨fun i H => ∃ (xs : List V) (x : V), SqT K H a xs ∧ xs[i]? = some x, fun i H v H' => ∃ T x, v = .ref T ∧ H T = none ∧ H' = upd H T (.tup [.int (i : Nat), x]) ∧ ∀ xs, SqT K H a xs → xs[i]? = some x, fun i H => ∃ xs : List V, SqT K H a xs ∧ xs.length = i⟩
theorem turn_enumT {P : Program} {w : World} {K : PySem.W.Frag} {elts : List Expr} {kk : Nat} {tpos : Pos} (a e it : Addr) (hat : a ≠ it) (hae : e ≠ a) :
    Turn P w K (.Tuple elts kk tpos) (IteT K a) [e, it] e (fun i h => (∃ old, IsEnum h e it ((i : Nat) : Int) old) ∧ h.IsTupleIter it a i ∧ e ≠ it) where
  mem := by simp
  obj := fun i h st b hb => by
    obtain ⟨⟨old, he⟩, ⟨o, ho, hc, hd⟩, _⟩ := st
    rcases (show b = e ∨ b = it by simpa using hb) with rfl | rfl
    · exact ⟨_, he, fun v q => nomatch q⟩
    · exact ⟨o, ho, fun v q => by rw [hd] at q; cases q⟩
  keep := fun i h h' st k => by
    obtain ⟨⟨old, he⟩, hi, hne⟩ := st
    exact ⟨⟨old, k e (by simp) _ he⟩, hi.at fun o q => k it (by simp) o q, hne⟩
  item := by
    intro X hP hw hK hc i pins s σ H E I hf st hg
    subst hP hw hK
    obtain ⟨⟨old, he⟩, hit, hne⟩ := st
    obtain ⟨xs, x, hq, hx⟩ := hg
    obtain ⟨its, rv, p, hz⟩ := I.tuple hq
    obtain ⟨u, hu, ru⟩ := rv.get hx
    have p' : s.heap.IsTuple a its.toArray := p
    have hel : e < s.heap.objs.size := Heap.lt_size he
    have hil : it < s.heap.objs.size := by
      obtain ⟨_, q, _⟩ := hit
      exact Heap.lt_size q
    have hin : i < its.toArray.size := by
      have := (List.getElem?_eq_some_iff.mp hu).1
      simpa using this
    refine wpAny_pyNext_enum_itemD (Draws.tuple (A := X.A.in1) (I.ok.hd hc) it a hat its.toArray) he ⟨hit, p'⟩ hin hne (by simp [hne, hae]) fun y h' tk hy ho hst' hT hsz hk => ?_
    have ey : y = u := by
      have hy : its.toArray[i]? = some y := hy
      have hu' : its.toArray[i]? = some u := by simpa using hu
      exact Option.some.inj (hy.symm.trans hu')
    subst ey
    refine ⟨_, rfl, wpAny_letOwnedTupleGo_enum (s := { s with heap := h', toks := tk + 1 }) ho fun h'' he' sb => ?_⟩
    have hT2 : h''.get? s.heap.objs.size = some { cls := .type "tuple", data := .seq #[.int i tk, y] } := (sb.2 _ (Nat.ne_of_gt hel)).trans hT
    have new : ObjOk X.prog X.w (upd H s.heap.objs.size (.tup [.int (i : Nat), x])) h'' s.heap.objs.size (.tup [.int (i : Nat), x]) := ⟨by show 2 ≤ sizeLine; decide, [.int i tk, y], .cons ⟨_, rfl⟩ (.cons ru .nil), ⟨_, hT2, rfl, _, rfl⟩⟩
    have I1 : Inv X pins σ (upd H s.heap.objs.size (.tup [.int (i : Nat), x])) { s with heap := h'', toks := tk + 1 } :=
      I.turnedNew (ch := [e, it]) (fun b ob hb q => (sb.2 b (fun z => hb (by simp [z]))).trans (hk b ob (fun z => hb (by simp [z])) (fun z => hb (by simp [z])) q)) hf (Nat.le_refl _) new
    refine ⟨.ref s.heap.objs.size, _, I1, rfl, ⟨_, x, rfl, I.hok.fresh (Nat.le_refl _), rfl, fun ys hy => by rw [I.tuple_inj hy hq]; exact hx⟩, ⟨⟨y, ?_⟩, hst'.1.at fun o q => (sb.2 it (Ne.symm hne)).trans q, hne⟩, fun b hb => ?_⟩
    · rw [show ((i + 1 : Nat) : Int) = (i : Int) + 1 by omega]
      exact he'
    · have hb' : b < s.heap.objs.size := by
        rcases (show b = e ∨ b = it by simpa using hb) with rfl | rfl
        · exact hel
        · exact hil
      rw [upd_ne (Nat.ne_of_lt hb')]
      exact (hf b hb).1
  done := by
    intro X hP hw hK hc i pins s σ H E I hf st hg
    subst hP hw hK
    obtain ⟨⟨old, he⟩, hit, hne⟩ := st
    obtain ⟨xs, hq, hx⟩ := hg
    obtain ⟨its, rv, p, hz⟩ := I.tuple hq
    have p' : s.heap.IsTuple a its.toArray := p
    obtain ⟨f0, f1, f2, f3, f4, f5⟩ := hf it (by simp)
    have ei : i = its.toArray.size := by
      have := rv.length
      simp
      omega
    subst ei
    exact wpAny_pyNext_enum_endD (Draws.tuple (A := X.A.in1) (I.ok.hd hc) it a hat its.toArray) he ⟨hit, p'⟩ fun h' eb => ⟨rfl, I.turned (t' := s.toks) (fun b o hb q => eb b o hb q) f0 f1 f3 f4 f5⟩
  self := fun A i s Q E st h => let ⟨⟨_, he⟩, _⟩ := st; wpAny_pyIter_enum he h
/-- enumerate(x), x a list or a tuple -/
def iEnumQ (K : PySem.W.Frag) (ta : TA) : TI := fun σ H R => ta σ H fun vs H1 => ∃ a xs, vs = [.ref a] ∧ ((SqL K H1 a xs ∧ R (Ite K a) H1) ∨ (SqT K H1 a xs ∧ R (IteT K a) H1))
theorem pi_enumQ {X : Cx} {e : Expr} {ta : TA} {p pos tpos : Pos} {elts : List Expr} {kk : Nat} (hg : Gl X "enumerate") (hm : X.mg "enumerate" = none) (ha : PA X [e] ta) (hs : starEach [e] X.env = [(false, eval e X.env)] := by rfl) :
    PI X (.Tuple elts kk tpos) (.Call (.Name "enumerate" p) [e] [] pos) (iEnumQ X.K ta) := by
  refine ⟨fun pins s σ H R I h => Call_ (ld_blt I hg hm boot_enumerate (PyProof.Rows.callWith_type1 (thn (ha.run pos pins s σ H _ I h) fun us s1 ⟨vs, H1, I1, r1, q1⟩ => ?_) hs rfl))⟩
  obtain ⟨a, xs, rfl, q⟩ := q1
  cases r1 with
  | cons r rr =>
    cases rr
    cases r
    have two : ∀ b ∈ [s1.heap.objs.size + 1, s1.heap.objs.size], s1.heap.objs.size ≤ b := fun b hb => by
      rcases (show b = s1.heap.objs.size + 1 ∨ b = s1.heap.objs.size by simpa using hb) with rfl | rfl
      · exact Nat.le_succ _
      · exact Nat.le_refl _
    rcases q with ⟨hq, q⟩ | ⟨hq, q⟩
    · obtain ⟨its, rv, p', hz⟩ := I1.list hq
      exact call_enumerate_list p'.isList fun h' he hit hsz hk => wpAny_pyIter_enum he ⟨s1.heap.objs.size + 1, [s1.heap.objs.size + 1, s1.heap.objs.size], _, _, H1, rfl, I1.kept (t' := s1.toks) hk, turn_enum a (s1.heap.objs.size + 1) s1.heap.objs.size, ⟨⟨.none, he⟩, hit, Nat.succ_ne_self _⟩, fun b hb => I1.fpOk (two b hb) (I1.hok.fresh (two b hb)), q⟩
    · obtain ⟨its, rv, p', hz⟩ := I1.tuple hq
      have p2 : s1.heap.IsTuple a its.toArray := p'
      have lt : a < s1.heap.objs.size := by
        obtain ⟨o, ho, _⟩ := p'
        exact Heap.lt_size ho
      exact call_enumT p2 fun h' he hit hsz hk => wpAny_pyIter_enum he ⟨s1.heap.objs.size + 1, [s1.heap.objs.size + 1, s1.heap.objs.size], _, _, H1, rfl, I1.kept (t' := s1.toks) hk, turn_enumT a (s1.heap.objs.size + 1) s1.heap.objs.size (Nat.ne_of_lt lt) (Nat.ne_of_gt (Nat.lt_succ_of_lt lt)), ⟨⟨.none, he⟩, hit, Nat.succ_ne_self _⟩, fun b hb => I1.fpOk (two b hb) (I1.hok.fresh (two b hb)), q⟩
/-- x, a list or a tuple -/
def iSeqQ (K : PySem.W.Frag) (te : TE) : TI := fun σ H R => te σ H fun x H1 => ∃ a xs, x = .ref a ∧ ((SqL K H1 a xs ∧ R (Itl K a) H1) ∨ (SqT K H1 a xs ∧ R (Itt K a) H1))
theorem pi_seqQ {X : Cx} {tg l : Expr} {tl : TE} (hl : PE X l tl) : PI X tg l (iSeqQ X.K tl) := by
  refine ⟨fun pins s σ H R I h => thn (hl.run pins s σ H _ I h) fun v s1 ⟨x, H1, I1, r1, q1⟩ => ?_⟩
  obtain ⟨a, xs, rfl, q⟩ := q1
  cases r1
  have one : ∀ b ∈ [s1.heap.objs.size], FpOk X pins H1 b := fun b hb => by
    obtain rfl : b = s1.heap.objs.size := by simpa using hb
    exact I1.fpOk (Nat.le_refl _) (I1.hok.fresh (Nat.le_refl _))
  rcases q with ⟨hq, q⟩ | ⟨hq, q⟩
  · obtain ⟨its, rv, p, hz⟩ := I1.list hq
    exact wpAny_pyIter_list p.isList ⟨s1.heap.objs.size, [s1.heap.objs.size], _, _, H1, rfl, I1.kept (t' := s1.toks) fun b o e => Heap.get?_push_of_some _ e, turn_list a _, ⟨_, Heap.get?_push_size _ rfl, rfl, rfl⟩, one, q⟩
  · obtain ⟨its, rv, p, hz⟩ := I1.tuple hq
    exact wpAny_pyIter_tuple (show s1.heap.IsTuple a its.toArray from p) ⟨s1.heap.objs.size, [s1.heap.objs.size], _, _, H1, rfl, I1.kept (t' := s1.toks) fun b o e => Heap.get?_push_of_some _ e, turn_tuple a _, ⟨_, Heap.get?_push_size _ rfl, rfl, rfl⟩, one, q⟩
/-! ### loops over them -/
abbrev ForW (J : It) (g : TG) (tb : TS) (D : Ends) (σ : L2.St) (H : Hp) : Prop := ∃ W : Nat → Nat → L2.St → Hp → Prop, (∃ m, W 0 m σ H) ∧ ∀ i m σ H, W i m σ H →
  (J.stop i H ∧ D.nx σ H) ∨ (J.go i H ∧ ∃ N : L2.St → Hp → Prop, (∀ σ' H', N σ' H' → ∃ m', m' < m ∧ W (i + 1) m' σ' H') ∧ ∀ x H', J.yld i H x H' → g x σ H' fun σ2 H2 => tb { D with nx := N, ct := N, bk := D.nx } σ2 H2)
theorem for_any {J : It} {g : TG} {tb : TS} {D : Ends} {σ : L2.St} {H : Hp} (n : Nat) (Pv : Nat → L2.St → Hp → Prop) (h0 : Pv 0 σ H) (hg : ∀ i σ H, i < n → Pv i σ H → J.go i H) (hst : ∀ σ H, Pv n σ H → J.stop n H)
    (hs : ∀ i σ H x H', i < n → Pv i σ H → J.yld i H x H' → g x σ H' fun σ2 H2 => tb { D with nx := Pv (i + 1), ct := Pv (i + 1), bk := D.nx } σ2 H2) (hd : ∀ σ H, Pv n σ H → D.nx σ H) : ForW J g tb D σ H := by
  refine ⟨fun i m σ H => m = n - i ∧ i ≤ n ∧ Pv i σ H, ⟨n, by simp, Nat.zero_le _, h0⟩, fun i m σ H ⟨em, hi, p⟩ => ?_⟩
  subst em
  rcases Nat.lt_or_ge i n with lt | ge
  · exact .inr ⟨hg i σ H lt p, Pv (i + 1), fun σ' H' p' => ⟨n - (i + 1), by omega, rfl, lt, p'⟩, fun x H' y => hs i σ H x H' lt p y⟩
  · have e : i = n := by omega
    rw [e] at p ⊢
    exact .inl ⟨hst σ H p, hd σ H p⟩
/-- over enumerate(x): the items come in new pairs -/
theorem for_enQ {K : PySem.W.Frag} {a : Addr} {xs : List V} {g : TG} {tb : TS} {D : Ends} {σ : L2.St} {H : Hp} (hq : SqQ K H a xs) (Pv : Nat → L2.St → Hp → Prop) (h0 : Pv 0 σ H) (hl : ∀ i σ H', i ≤ xs.length → Pv i σ H' → (∀ ys, SqL K H a ys → SqL K H' a ys) ∧ ∀ ys, SqT K H a ys → SqT K H' a ys)
    (hs : ∀ i x σ H T, xs[i]? = some x → Pv i σ H → H T = none → g (.ref T) σ (upd H T (.tup [.int (i : Nat), x])) fun σ2 H2 => tb { D with nx := Pv (i + 1), ct := Pv (i + 1), bk := D.nx } σ2 H2) (hd : ∀ σ H, Pv xs.length σ H → D.nx σ H) :
    (SqL K H a xs ∧ ForW (Ite K a) g tb D σ H) ∨ (SqT K H a xs ∧ ForW (IteT K a) g tb D σ H) := by
  rcases hq with hq | hq
  · refine .inl ⟨hq, for_any xs.length Pv h0 (fun i σ H' lt p => ⟨xs, xs[i], (hl i σ H' (Nat.le_of_lt lt) p).1 _ hq, by simp [lt]⟩) (fun σ H' p => ⟨xs, (hl _ σ H' (Nat.le_refl _) p).1 _ hq, Nat.le_refl _⟩) (fun i σ H' v H2 lt p y => ?_) hd⟩
    obtain ⟨T, z, rfl, nT, rfl, hz⟩ := y
    exact hs i z σ H' T (hz xs ((hl i σ H' (Nat.le_of_lt lt) p).1 _ hq)) p nT
  · refine .inr ⟨hq, for_any xs.length Pv h0 (fun i σ H' lt p => ⟨xs, xs[i], (hl i σ H' (Nat.le_of_lt lt) p).2 _ hq, by simp [lt]⟩) (fun σ H' p => ⟨xs, (hl _ σ H' (Nat.le_refl _) p).2 _ hq, rfl⟩) (fun i σ H' v H2 lt p y => ?_) hd⟩
    obtain ⟨T, z, rfl, nT, rfl, hz⟩ := y
    exact hs i z σ H' T (hz xs ((hl i σ H' (Nat.le_of_lt lt) p).2 _ hq)) p nT
/-- over x itself -/
theorem for_seqQ {K : PySem.W.Frag} {a : Addr} {xs : List V} {g : TG} {tb : TS} {D : Ends} {σ : L2.St} {H : Hp} (hq : SqQ K H a xs) (Pv : Nat → L2.St → Hp → Prop) (h0 : Pv 0 σ H) (hl : ∀ i σ H', i ≤ xs.length → Pv i σ H' → (∀ ys, SqL K H a ys → SqL K H' a ys) ∧ ∀ ys, SqT K H a ys → SqT K H' a ys)
    (hs : ∀ i x σ H, xs[i]? = some x → Pv i σ H → g x σ H fun σ2 H2 => tb { D with nx := Pv (i + 1), ct := Pv (i + 1), bk := D.nx } σ2 H2) (hd : ∀ σ H, Pv xs.length σ H → D.nx σ H) :
    (SqL K H a xs ∧ ForW (Itl K a) g tb D σ H) ∨ (SqT K H a xs ∧ ForW (Itt K a) g tb D σ H) := by
  rcases hq with hq | hq
  · refine .inl ⟨hq, for_any xs.length Pv h0 (fun i σ H' lt p => ⟨xs, xs[i], (hl i σ H' (Nat.le_of_lt lt) p).1 _ hq, by simp [lt]⟩) (fun σ H' p => ⟨xs, (hl _ σ H' (Nat.le_refl _) p).1 _ hq, Nat.le_refl _⟩) (fun i σ H' v H2 lt p y => ?_) hd⟩
    obtain ⟨rfl, hz⟩ := y
    exact hs i v σ H2 (hz xs ((hl i σ H2 (Nat.le_of_lt lt) p).1 _ hq)) p
  · refine .inr ⟨hq, for_any xs.length Pv h0 (fun i σ H' lt p => ⟨xs, xs[i], (hl i σ H' (Nat.le_of_lt lt) p).2 _ hq, by simp [lt]⟩) (fun σ H' p => ⟨xs, (hl _ σ H' (Nat.le_refl _) p).2 _ hq, Nat.le_refl _⟩) (fun i σ H' v H2 lt p y => ?_) hd⟩
    obtain ⟨rfl, hz⟩ := y
    exact hs i v σ H2 (hz xs ((hl i σ H2 (Nat.le_of_lt lt) p).2 _ hq)) p
end G0

set_option Elab.async false
set_option linter.all false
set_option maxRecDepth 100000
set_option maxHeartbeats 4000000
/-! Comprehensions over what may be a list or a tuple. -/
namespace G0
open PySem PySem.Spec PyProof.Rows L2
abbrev LcW (J : It) (g : TG) (tt : TT) (te : TE) (vs : List Nat) (σ : L2.St) (H1 : Hp) (D : Addr) (Qd : Hp → Prop) : Prop := ∃ W : Nat → Nat → Hp → Prop, (∃ m, W 0 m (upd H1 D (.lst []))) ∧ ∀ i m H, W i m H →
  (J.stop i H ∧ Qd H) ∨ (J.go i H ∧ ∃ Nx : Hp → Prop, (∀ H', Nx H' → ∃ m', m' < m ∧ W (i + 1) m' H') ∧ ∀ x H', J.yld i H x H' → g x (wipe σ vs) H' fun σ2 H2 => wipe σ2 vs = wipe σ vs ∧ tt σ2 H2 fun b H3 =>
    if b = true then te σ2 H3 fun y H4 => ∃ acc, H4 D = some (.lst acc) ∧ acc.length < sizeLine ∧ Nx (upd H4 D (.lst (acc ++ [y]))) else Nx H3)
theorem lc_any {J : It} {g : TG} {tt : TT} {te : TE} {vs : List Nat} {σ : L2.St} {H1 : Hp} {D : Addr} {Qd : Hp → Prop} (n : Nat) (Pv : Nat → Hp → Prop) (h0 : Pv 0 (upd H1 D (.lst []))) (hg : ∀ i H, i < n → Pv i H → J.go i H) (hst : ∀ H, Pv n H → J.stop n H)
    (hs : ∀ i H x H', i < n → Pv i H → J.yld i H x H' → g x (wipe σ vs) H' fun σ2 H2 => wipe σ2 vs = wipe σ vs ∧ tt σ2 H2 fun b H3 =>
      if b = true then te σ2 H3 fun y H4 => ∃ acc, H4 D = some (.lst acc) ∧ acc.length < sizeLine ∧ Pv (i + 1) (upd H4 D (.lst (acc ++ [y]))) else Pv (i + 1) H3) (hd : ∀ H, Pv n H → Qd H) : LcW J g tt te vs σ H1 D Qd := by
  refine ⟨fun i m H => m = n - i ∧ i ≤ n ∧ Pv i H, ⟨n, by simp, Nat.zero_le _, h0⟩, fun i m H ⟨em, hi, p⟩ => ?_⟩
  subst em
  rcases Nat.lt_or_ge i n with lt | ge
  · exact .inr ⟨hg i H lt p, Pv (i + 1), fun H' p' => ⟨n - (i + 1), by omega, rfl, lt, p'⟩, fun x H' y => hs i H x H' lt p y⟩
  · have e : i = n := by omega
    rw [e] at p ⊢
    exact .inl ⟨hst H p, hd H p⟩
theorem lc_seqQ {K : PySem.W.Frag} {a : Addr} {xs : List V} {g : TG} {tt : TT} {te : TE} {vs : List Nat} {σ : L2.St} {H1 : Hp} {D : Addr} {Qd : Hp → Prop} (hq : SqQ K H1 a xs) (Pv : Nat → Hp → Prop) (h0 : Pv 0 (upd H1 D (.lst [])))
    (hl : ∀ i H', i ≤ xs.length → Pv i H' → (∀ ys, SqL K H1 a ys → SqL K H' a ys) ∧ ∀ ys, SqT K H1 a ys → SqT K H' a ys)
    (hs : ∀ i x H, xs[i]? = some x → Pv i H → g x (wipe σ vs) H fun σ2 H2 => wipe σ2 vs = wipe σ vs ∧ tt σ2 H2 fun b H3 =>
      if b = true then te σ2 H3 fun y H4 => ∃ acc, H4 D = some (.lst acc) ∧ acc.length < sizeLine ∧ Pv (i + 1) (upd H4 D (.lst (acc ++ [y]))) else Pv (i + 1) H3) (hd : ∀ H, Pv xs.length H → Qd H) :
    (SqL K H1 a xs ∧ LcW (Itl K a) g tt te vs σ H1 D Qd) ∨ (SqT K H1 a xs ∧ LcW (Itt K a) g tt te vs σ H1 D Qd) := by
  rcases hq with hq | hq
  · refine .inl ⟨hq, lc_any xs.length Pv h0 (fun i H' lt p => ⟨xs, xs[i], (hl i H' (Nat.le_of_lt lt) p).1 _ hq, by simp [lt]⟩) (fun H' p => ⟨xs, (hl _ H' (Nat.le_refl _) p).1 _ hq, Nat.le_refl _⟩) (fun i H' v H2 lt p y => ?_) hd⟩
    obtain ⟨rfl, hz⟩ := y
    exact hs i v H2 (hz xs ((hl i H2 (Nat.le_of_lt lt) p).1 _ hq)) p
  · refine .inr ⟨hq, lc_any xs.length Pv h0 (fun i H' lt p => ⟨xs, xs[i], (hl i H' (Nat.le_of_lt lt) p).2 _ hq, by simp [lt]⟩) (fun H' p => ⟨xs, (hl _ H' (Nat.le_refl _) p).2 _ hq, Nat.le_refl _⟩) (fun i H' v H2 lt p y => ?_) hd⟩
    obtain ⟨rfl, hz⟩ := y
    exact hs i v H2 (hz xs ((hl i H2 (Nat.le_of_lt lt) p).2 _ hq)) p
end G0

set_option Elab.async false
set_option linter.all false
set_option maxRecDepth 100000
set_option maxHeartbeats 4000000
/-! names.py: lists of names. -/
namespace E1
open PySem PySem.Spec PyProof.Rows L2 G0
theorem same_T {K : PySem.W.Frag} {H H' : Hp} (S : Same H H') {a : Addr} {xs : List V} (h : SqT K H a xs) : SqT K H' a xs := by
  rcases h with (h | ⟨o, h⟩) | h
  · exact .inl (.inl (S _ _ h))
  · exact .inl (.inr ⟨o, S _ _ h⟩)
  · exact .inr h
theorem same_Q {K : PySem.W.Frag} {H H' : Hp} (S : Same H H') {a : Addr} {xs : List V} (h : SqQ K H a xs) : SqQ K H' a xs := h.elim (fun h => .inl (S.seq h)) fun h => .inr (same_T S h)
theorem same_LT {K : PySem.W.Frag} {H H' : Hp} (S : Same H H') {a : Addr} : (∀ ys, SqL K H a ys → SqL K H' a ys) ∧ ∀ ys, SqT K H a ys → SqT K H' a ys := ⟨fun _ h => S.seq h, fun _ h => same_T S h⟩
/-- the items of a list or a tuple that is tracked -/
def itemsOf (H : Hp) : V → Option (List V)
  | .ref a => match H a with
    | some (.lst xs) => some xs
    | some (.tup xs) => some xs
    | _ => none
  | _ => none
theorem items_at {H : Hp} {a : Addr} {xs : List V} : itemsOf H (.ref a) = some xs ↔ H a = some (.lst xs) ∨ H a = some (.tup xs) := by
  show (match H a with
    | some (.lst xs) => some xs
    | some (.tup xs) => some xs
    | _ => none) = some xs ↔ _
  constructor
  · intro h
    split at h
    · next e =>
      cases h
      exact .inl e
    · next e =>
      cases h
      exact .inr e
    · cases h
  · rintro (h | h) <;> rw [h]
theorem items_ref {H : Hp} {v : V} {xs : List V} (h : itemsOf H v = some xs) : ∃ a, v = .ref a ∧ (H a = some (.lst xs) ∨ H a = some (.tup xs)) := by
  cases v with
  | ref a => exact ⟨a, rfl, items_at.mp h⟩
  | _ => cases h
theorem items_Q {K : PySem.W.Frag} {H : Hp} {a : Addr} {xs : List V} (h : itemsOf H (.ref a) = some xs) : SqQ K H a xs := (items_at.mp h).elim (fun h => .inl (SqL.of h)) fun h => .inr (SqT.of h)
theorem items_same {H H' : Hp} (S : Same H H') {v : V} {xs : List V} (h : itemsOf H v = some xs) : itemsOf H' v = some xs := by
  obtain ⟨a, rfl, h2⟩ := items_ref h
  exact items_at.mpr (h2.elim (fun h => .inl (S _ _ h)) fun h => .inr (S _ _ h))
theorem kn_items {C : Addr} {H : Hp} {v : V} (k : Kn C H v) : isSeq H v = (itemsOf H v).isSome := by
  unfold isSeq
  cases k with
  | non => rfl
  | bl b => rfl
  | int i => rfl
  | str x => rfl
  | lst e => simp only [kdOf, itemsOf, e]; rfl
  | tup e => simp only [kdOf, itemsOf, e]; rfl
  | dic e => simp only [kdOf, itemsOf, e]; rfl
  | own e => simp only [kdOf, itemsOf, e]; rfl
/-! ### is_list, is_pair, told_pair -/
def pairB (H : Hp) (v : V) : Bool := match itemsOf H v with
  | some xs => decide (xs.length = 2)
  | none => false
def tp (x y : Str) : Pr := if ltS y x then (y, x) else (x, y)
theorem sort_two (x y : Str) : sortS [x, y] = [(tp x y).1, (tp x y).2] := by
  symm
  unfold tp
  cases h : ltS y x with
  | true =>
    refine sortS_uniq (List.Perm.swap x y []) (.cons (fun z hz => ?_) (.cons (fun _ h => by cases h) .nil))
    have hz : z = x := List.mem_singleton.mp hz
    subst hz
    show (!ltS z y) = true
    rw [ltS_asym h]
    rfl
  | false =>
    refine sortS_uniq (List.Perm.refl [x, y]) (.cons (fun z hz => ?_) (.cons (fun _ h => by cases h) .nil))
    have hz : z = y := List.mem_singleton.mp hz
    subst hz
    show (!ltS z x) = true
    rw [h]
    rfl
def spIsList (C : Addr) : Sp := fun vs H Q _ => ∃ v, vs = [v] ∧ Kn C H v ∧ ∀ H', Same H H' → Q (.bl (itemsOf H v).isSome) H'
def spIsPair (C : Addr) : Sp := fun vs H Q _ => ∃ v, vs = [v] ∧ Kn C H v ∧ ∀ H', Same H H' → Q (.bl (pairB H v)) H'
def spTold : Sp := fun vs H Q _ => ∃ v x y, vs = [v] ∧ itemsOf H v = some [.str x, .str y] ∧ ∀ t H', H t = none → H' t = some (.tup [.str (tp x y).1, .str (tp x y).2]) → Same H H' → Q (.ref t) H'
/-- where the defs of names.py stand -/
structure NamesD (K : PySem.W.Frag) (mg : Str → Option Value) where
  fN : Addr
  dN : FuncData
  FN : FnS K 13 fN dN
  gN : mg "is_name" = some (.ref fN)
  fL : Addr
  dL : FuncData
  FL : FnS K 14 fL dL
  gL : mg "is_list" = some (.ref fL)
  fP : Addr
  dP : FuncData
  FP : FnS K 15 fP dP
  gP : mg "is_pair" = some (.ref fP)
  fT : Addr
  dT : FuncData
  FT : FnS K 16 fT dT
  gT : mg "told_pair" = some (.ref fT)
  fW : Addr
  dW : FuncData
  FW : FnS K 17 fW dW
  gW : mg "first_wrong_name" = some (.ref fW)
  fU : Addr
  dU : FuncData
  FU : FnS K 18 fU dU
  gU : mg "first_unknown" = some (.ref fU)
  fX : Addr
  dX : FuncData
  FX : FnS K 20 fX dX
  gX : mg "first_wrong_tie" = some (.ref fX)
section
variable {P : Program} {w : World} {K : PySem.W.Frag} {mg : Str → Option Value} {base : Heap} {C : Addr}
theorem sc_is_list : FnScope ["thing"] ["thing"] (defScope (topS 14)) := ⟨rfl, rfl, rfl, by decide +kernel, rfl, by decide +kernel, by decide +kernel⟩
theorem ok_is_list (D : NamesD K mg) (T : TxtN K mg) (O : OwnC K C) : FnOk P w K mg base CX0 1 D.fL D.dL ["thing"] (spIsList C) := by
  refine Fun.ok D.FL sc_is_list (fun vs H Q E h => ?_) (fun cdv A outer s H vs Q E hr h => ⟨_, pss_one (ps_ret (pe_callB call_isiT (by rfl) T.isinstance (by decide +kernel) (pa_cons (pv 0) (pa_cons (pe_tup (pa_cons (pe_bltn (by rfl) T.list PyProof.Rows.boot_list (v := .ty "list") rfl) (pa_cons (pe_bltn (by rfl) T.tuple boot_tuple (v := .ty "tuple") rfl) pa_nil))) pa_nil)))), ?_⟩)
  · obtain ⟨v, rfl, _⟩ := h
    rfl
  · obtain ⟨v, rfl, hk, k⟩ := h
    refine ⟨_, rfl, by show 2 ≤ sizeLine; decide, fun t nt => ?_⟩
    have S := new_same (o := .tup [.ty "list", .ty "tuple"]) nt
    obtain ⟨k1, k2⟩ := hk.same S
    obtain ⟨ty, h1, h2⟩ := kn_seq O k1
    refine ⟨v, t, _, ty, _, _, rfl, upd_same, .cons (.ty _) (.cons (.ty _) .nil), h1, h2, ?_⟩
    have e : isSeq (upd H t (.tup [.ty "list", .ty "tuple"])) v = (itemsOf H v).isSome := by
      unfold isSeq
      rw [k2]
      exact kn_items hk
    rw [e]
    exact k _ S
theorem bL (D : NamesD K mg) : Binds K D.dL ["thing"] [] := D.FL.binds fun _ _ _ _ _ _ us hl => match us, hl with | [_], _ => rfl
theorem bN (D : NamesD K mg) : Binds K D.dN ["thing"] [] := D.FN.binds fun _ _ _ _ _ _ us hl => match us, hl with | [_], _ => rfl
theorem bP (D : NamesD K mg) : Binds K D.dP ["thing"] [] := D.FP.binds fun _ _ _ _ _ _ us hl => match us, hl with | [_], _ => rfl
theorem bT (D : NamesD K mg) : Binds K D.dT ["pair"] [] := D.FT.binds fun _ _ _ _ _ _ us hl => match us, hl with | [_], _ => rfl
theorem bW (D : NamesD K mg) : Binds K D.dW ["things"] [] := D.FW.binds fun _ _ _ _ _ _ us hl => match us, hl with | [_], _ => rfl
theorem bU (D : NamesD K mg) : Binds K D.dU ["things", "known"] [] := D.FU.binds fun _ _ _ _ _ _ us hl => match us, hl with | [_, _], _ => rfl
theorem bX (D : NamesD K mg) : Binds K D.dX ["things", "known"] [] := D.FX.binds fun _ _ _ _ _ _ us hl => match us, hl with | [_, _], _ => rfl
theorem sc_is_pair : FnScope ["thing"] ["thing"] (defScope (topS 15)) := ⟨rfl, rfl, rfl, by decide +kernel, rfl, by decide +kernel, by decide +kernel⟩
theorem ok_is_pair (D : NamesD K mg) (T : TxtN K mg) (O : OwnC K C) : FnOk P w K mg base CX0 2 D.fP D.dP ["thing"] (spIsPair C) := by
  have G : FnOk P w K mg base CX0 1 D.fL D.dL ["thing"] (spIsList C) := ok_is_list D T O
  refine Fun.ok D.FP sc_is_pair (fun vs H Q E h => ?_) (fun cdv A outer s H vs Q E hr h => ⟨_, pss_one (ps_ret (pe_and (pe_call G hr (by rfl) D.gL D.FL.kp (bL D) .nil pass0 (pa_cons (pv 0) pa_nil)) (pe_one (pe_cmpR op_eq (pe_callB call_len_seq (by rfl) T.len PySem.boot_len (pa_cons (pv 0) pa_nil)) pe_int (nomark _))))), ?_⟩)
  · obtain ⟨v, rfl, _⟩ := h
    rfl
  · obtain ⟨v, rfl, hk, k⟩ := h
    refine ⟨_, rfl, v, rfl, hk, fun H1 S1 => ⟨_, rfl, ?_⟩⟩
    cases e : itemsOf H v with
    | none =>
      refine iteF ?_
      have := k H1 S1
      unfold pairB at this
      rw [e] at this
      exact this
    | some xs =>
      refine iteT ?_
      obtain ⟨a, rfl, _⟩ := items_ref e
      refine ⟨_, rfl, a, xs, rfl, items_Q (K := K) (items_same S1 e), rfl, ?_⟩
      have := k H1 S1
      unfold pairB at this
      rw [e] at this
      have e2 : decide (V.int (xs.length : Int) = V.int 2) = decide (xs.length = 2) := by
        by_cases z : xs.length = 2
        · rw [decide_eq_true z, z]
          rfl
        · rw [decide_eq_false z]
          exact decide_eq_false fun q => by
            injection q with q
            omega
      rw [e2]
      exact this
theorem sc_told : FnScope ["pair"] ["pair"] (defScope (topS 16)) := ⟨rfl, rfl, rfl, by decide +kernel, rfl, by decide +kernel, by decide +kernel⟩
theorem ok_told (D : NamesD K mg) (T : TxtN K mg) : FnOk P w K mg base CX0 1 D.fT D.dT ["pair"] spTold := by
  refine Fun.ok D.FT sc_told (fun vs H Q E h => ?_) (fun cdv A outer s H vs Q E hr h => ⟨_, pss_one (ps_ret (pe_callTy call_tuple_of (by rfl) T.tuple boot_tuple (pa_cons (pe_callB cr_sortQ (by rfl) T.sorted (by decide +kernel) (pa_cons (pv 0) pa_nil)) pa_nil))), ?_⟩)
  · obtain ⟨v, x, y, rfl, _⟩ := h
    rfl
  · obtain ⟨v, x, y, rfl, hi, k⟩ := h
    obtain ⟨a, rfl, _⟩ := items_ref hi
    refine ⟨_, rfl, a, [x, y], rfl, items_Q (K := K) hi, fun p np => ⟨p, _, rfl, .inl ⟨SqL.of upd_same, fun l nl => ?_⟩⟩⟩
    have hpl : p ≠ l := ne_of_none upd_same nl
    have nl0 : H l = none := by
      rw [upd_ne hpl.symm] at nl
      exact nl
    refine k l _ nl0 ?_ ((new_same np).trans (new_same nl))
    rw [upd_same, sort_two]
    rfl
end
end E1

set_option Elab.async false
set_option linter.all false
set_option maxRecDepth 100000
set_option maxHeartbeats 4000000
/-! names.py: the first wrong thing of a list. -/
namespace E1
open PySem PySem.Spec PyProof.Rows L2 G0
/-- a good begin: unlike texts that are let -/
structure Good (ok : Str → Prop) (ss : List Str) : Prop where
  nd : ss.Nodup
  all : ∀ z ∈ ss, ok z
theorem Good.nil {ok : Str → Prop} : Good ok [] := ⟨List.nodup_nil, by simp⟩
theorem Good.snoc {ok : Str → Prop} {ss : List Str} {z : Str} (g : Good ok ss) (h1 : ok z) (h2 : z ∉ ss) : Good ok (ss ++ [z]) := by
  refine ⟨List.nodup_append.mpr ⟨g.nd, by simp, fun a ha b hb => ?_⟩, fun y hy => ?_⟩
  · rw [List.mem_singleton.mp hb]
    exact fun e => h2 (e ▸ ha)
  · rcases List.mem_append.mp hy with hy | hy
    · exact g.all y hy
    · rw [List.mem_singleton.mp hy]
      exact h1
/-- what is told of a list: none, or the first wrong one's index -/
def ScanR (ok : Str → Prop) (xs : List V) : Option Nat → Prop
  | none => ∃ ss, xs = ss.map V.str ∧ Good ok ss
  | some i => ∃ ss y, xs[i]? = some y ∧ xs.take i = ss.map V.str ∧ Good ok ss ∧ ∀ z, y = .str z → ok z → z ∈ ss
def optV : Option Nat → V
  | none => .non
  | some i => .int (i : Nat)
def seenK {κ : Type} (ks : List κ) : List (κ × V) := ks.map fun k => (k, .bl true)
theorem seen_val {κ : Type} [DecidableEq κ] : ∀ (ks : List κ) (k : κ), (valV (seenK ks) k).isSome = decide (k ∈ ks)
  | [], k => rfl
  | x :: ks, k => by
    have ih := seen_val ks k
    unfold valV seenK at ih ⊢
    rw [List.map_cons, List.find?_cons]
    by_cases e : x = k
    · subst e
      simp
    · simp only [e, decide_false]
      rw [ih]
      simp [Ne.symm e]
theorem seen_yes {κ : Type} [DecidableEq κ] {ks : List κ} {k : κ} (h : k ∈ ks) : (valV (seenK ks) k).isSome = true := by rw [seen_val, decide_eq_true h]
theorem seen_no {κ : Type} [DecidableEq κ] {ks : List κ} {k : κ} (h : k ∉ ks) : (valV (seenK ks) k).isSome = false := by rw [seen_val, decide_eq_false h]
theorem seen_put {κ : Type} [DecidableEq κ] (ks : List κ) (k : κ) (h : k ∉ ks) : putK (seenK ks) k (.bl true) = seenK (ks ++ [k]) := by
  unfold putK
  have e : ((seenK ks).any fun kv => decide (kv.1 = k)) = false := by
    unfold seenK
    rw [List.any_map, List.any_eq_false]
    intro x hx
    simp only [Function.comp]
    exact fun z => h ((of_decide_eq_true z) ▸ hx)
  rw [e, if_neg (by simp)]
  unfold seenK
  rw [List.map_append]
  rfl
/-- the kinds of the items are known -/
def KnAll (C : Addr) (H : Hp) (xs : List V) : Prop := ∀ x ∈ xs, Kn C H x ∧ ∀ z, x = .str z → z.length ≤ 1000
theorem KnAll.same {C : Addr} {H H' : Hp} {xs : List V} (k : KnAll C H xs) (S : Same H H') : KnAll C H' xs := fun x hx => ⟨((k x hx).1.same S).1, (k x hx).2⟩
theorem but_LT {K : PySem.W.Frag} {H H' : Hp} {a d : Addr} (B : ∀ b o, b ≠ d → H b = some o → H' b = some o) (n : a ≠ d) : (∀ ys, SqL K H a ys → SqL K H' a ys) ∧ ∀ ys, SqT K H a ys → SqT K H' a ys := by
  refine ⟨fun ys h => ?_, fun ys h => ?_⟩
  · rcases h with (h | ⟨o, h⟩) | h
    · exact .inl (.inl (B _ _ n h))
    · exact .inl (.inr ⟨o, B _ _ n h⟩)
    · exact .inr h
  · rcases h with (h | ⟨o, h⟩) | h
    · exact .inl (.inl (B _ _ n h))
    · exact .inl (.inr ⟨o, B _ _ n h⟩)
    · exact .inr h
theorem items_ne {H : Hp} {a d : Addr} {xs : List V} (e : itemsOf H (.ref a) = some xs) (n : H d = none) : a ≠ d := by
  rcases items_at.mp e with h | h
  · exact ne_of_none h n
  · exact ne_of_none h n
theorem take_snoc {α : Type} {xs : List α} {i : Nat} {x : α} (h : xs[i]? = some x) : xs.take (i + 1) = xs.take i ++ [x] := by
  rw [List.take_succ, h]
  rfl
theorem map_len {xs : List V} {ss : List Str} {i : Nat} (h : xs.take i = ss.map V.str) : ss.length ≤ xs.length := by
  have := congrArg List.length h
  rw [List.length_take, List.length_map] at this
  omega
abbrev ScanW (ok : Str → Prop) (C : Addr) (H : Hp) (v : V) (Q : VK) : Prop := (itemsOf H v = none ∧ ∀ H', Same H H' → Q (.int 0) H') ∨ ∃ xs, itemsOf H v = some xs ∧ xs.length ≤ 1000 ∧ KnAll C H xs ∧ ∀ r H', ScanR ok xs r → Same H H' → Q (optV r) H'
def spFwn (C : Addr) : Sp := fun vs H Q _ => ∃ v, vs = [v] ∧ Kn C H v ∧ ScanW (fun z => nameB z = true) C H v Q
section
variable {P : Program} {w : World} {K : PySem.W.Frag} {mg : Str → Option Value} {base : Heap} {C : Addr}
theorem sc_fwn : FnScope ["things", "seen", "index", "thing"] ["things"] (defScope (topS 17)) := ⟨rfl, rfl, rfl, by decide +kernel, rfl, by decide +kernel, by decide +kernel⟩
theorem ok_fwn (D : NamesD K mg) (T : TxtN K mg) (O : OwnC K C) : FnOk P w K mg base CX0 2 D.fW D.dW ["things"] (spFwn C) := by
  have GL : FnOk P w K mg base CX0 1 D.fL D.dL ["thing"] (spIsList C) := ok_is_list D T O
  have GN : FnOk P w K mg base CX0 1 D.fN D.dN ["thing"] (spIsName C) := ok_is_name D.FN T O
  refine Fun.ok D.FW sc_fwn (fun vs H Q E h => ?_) (fun cdv A outer s H vs Q E hr h => ⟨_, pss_cons (ps_if (pt_not (pt_val (pe_call GL hr (by rfl) D.gL D.FL.kp (bL D) .nil pass0 (pa_cons (pv 0) pa_nil)))) (pss_one (ps_ret pe_int)) pss_nil)
    (pss_cons (ps_set (i := 1) sc_fwn.nd rfl (Or.inl rfl) pe_dnewK)
    (pss_cons (ps_for PassesOwn.never rfl (pi_enumQ (by rfl) T.enumerate (pa_cons (pv 0) pa_nil)) (pg_tup rfl (pgs_cons (pg_name (i := 2) sc_fwn.nd rfl (Or.inl rfl)) (pgs_cons (pg_name (i := 3) sc_fwn.nd rfl (Or.inl rfl)) pgs_nil)))
      (pss_cons (ps_if (PW.pt (pw_or (pt_not (pt_val (pe_call GN hr (by rfl) D.gN D.FN.kp (bN D) .nil pass0 (pa_cons (pv 3) pa_nil)))) (pw_or1 (pt_cmp (pc_din (hu_of hr) (pv 3) (pv 1)))))) (pss_one (ps_ret (pv 2))) pss_nil)
      (pss_one (ps_dput (hu_of hr) (pv 1) (pv 3) pe_bl rfl))))
    (pss_one (ps_ret pe_non)))), ?_⟩)
  · obtain ⟨v, rfl, _⟩ := h
    rfl
  · obtain ⟨v, rfl, hk, h⟩ := h
    refine ⟨_, rfl, v, rfl, hk, fun H1 S1 => ⟨_, rfl, ?_⟩⟩
    rcases h with ⟨e, k⟩ | ⟨xs, e, hl, hK, k⟩
    · rw [e]
      exact iteT (k H1 S1)
    · rw [e]
      refine iteF ?_
      obtain ⟨a, rfl, _⟩ := items_ref e
      intro d nd
      have S2 := S1.trans (new_same (o := .dK []) nd)
      have nd0 : H d = none := S1.free nd
      refine ⟨_, rfl, a, xs, rfl, for_enQ (items_Q (K := K) (items_same S2 e)) (fun i σ H' => ∃ v2 v3 ss, σ = [some (.ref a), some (.ref d), v2, v3] ∧ H' d = some (.dK (seenK (ss.map Sum.inr))) ∧ xs.take i = ss.map V.str ∧ Good (fun z => nameB z = true) ss ∧ Same H H' ∧ (∀ b o, b ≠ d → (upd H1 d (.dK [])) b = some o → H' b = some o))
        ⟨none, none, [], rfl, upd_same, rfl, .nil, S2, fun _ _ _ e => e⟩ ?_ ?_ ?_⟩
      · rintro i σ H' hi ⟨v2, v3, ss, _, _, _, _, _, B⟩
        exact but_LT B (items_ne (items_same S1 e) nd)
      · rintro i x σ H' T hx ⟨v2, v3, ss, rfl, hd, ht, g, S, B⟩ nT
        have ST := new_same (o := .tup [.int (i : Nat), x]) nT
        obtain ⟨kx, lx⟩ := hK x (List.mem_of_getElem? hx)
        refine ⟨T, _, rfl, SqT.of upd_same, rfl, _, _, rfl, _, _, rfl, rfl, ?_⟩
        refine ⟨_, rfl, x, rfl, (kx.same (S.trans ST)).1, lx, fun H2 S2' => ⟨_, rfl, ?_⟩⟩
        have S3 := (S.trans ST).trans S2'
        have hd3 : H2 d = some (.dK (seenK (ss.map Sum.inr))) := S2' _ _ (ST _ _ hd)
        cases en : nameV x with
        | false =>
          refine iteT (iteT ⟨_, rfl, ?_⟩)
          refine k (some i) H2 ⟨ss, x, hx, ht, g, fun z ez oz => ?_⟩ S3
          rw [ez] at en
          rw [show nameV (.str z) = nameB z from rfl, oz] at en
          cases en
        | true =>
          cases x with
          | str z =>
            refine iteF ⟨_, rfl, _, rfl, d, _, rfl, DGet.k (k := Sum.inr z) hd3, _, rfl, ?_⟩
            by_cases hz : z ∈ ss
            · rw [seen_yes (List.mem_map.mpr ⟨z, hz, rfl⟩)]
              exact iteT ⟨_, rfl, k (some i) H2 ⟨ss, _, hx, ht, g, fun y ey _ => by cases ey; exact hz⟩ S3⟩
            · have nz : (Sum.inr z : Key) ∉ ss.map Sum.inr := fun q => by
                obtain ⟨y, hy, ey⟩ := List.mem_map.mp q
                cases ey
                exact hz hy
              rw [seen_no nz]
              refine iteF ⟨_, rfl, _, rfl, d, _, rfl, DPut.k (k := Sum.inr z) hd3 ?_, ?_⟩
              · unfold seenK
                rw [List.length_map, List.length_map]
                exact small1000 (Nat.le_trans (map_len ht) hl)
              · have nd2 : H d = none := nd0
                refine ⟨_, _, ss ++ [z], rfl, ?_, ?_, g.snoc (by exact en) hz, ?_, ?_⟩
                · rw [upd_same, seen_put _ _ nz, List.map_append]
                  rfl
                · rw [take_snoc hx, ht, List.map_append]
                  rfl
                · exact fun b o q => by
                    rw [upd_ne (ne_of_none q nd0)]
                    exact S3 b o q
                · exact fun b o nb q => by
                    rw [upd_ne nb]
                    exact S2' _ _ (ST _ _ (B b o nb q))
          | _ => cases en
      · rintro σ H' ⟨v2, v3, ss, rfl, hd, ht, g, S, B⟩
        rw [List.take_length] at ht
        exact k none H' ⟨ss, ht, g⟩ S
end
end E1

set_option Elab.async false
set_option linter.all false
set_option maxRecDepth 100000
set_option maxHeartbeats 4000000
/-! first_unknown, first_wrong_tie. -/
namespace E1
open PySem PySem.Spec PyProof.Rows L2 G0
def spFwu (K : PySem.W.Frag) (C : Addr) : Sp := fun vs H Q _ => ∃ (v : V) (b : Addr) (ks : List Str), vs = [v, .ref b] ∧ Kn C H v ∧ SqQ K H b (ks.map V.str) ∧ ScanW (fun z => z ∈ ks) C H v Q
/-- x is a pair of unlike places of ks, p as it is told -/
def TieOk (ks : List Str) (H : Hp) (x : V) (p : Pr) : Prop := ∃ a b, itemsOf H x = some [.str a, .str b] ∧ a ≠ b ∧ a ∈ ks ∧ b ∈ ks ∧ tp a b = p
structure TiesTo (ks : List Str) (H : Hp) (xs : List V) (ps : List Pr) : Prop where
  nd : ps.Nodup
  len : ps.length ≤ xs.length
  ok : ∀ (j : Nat) (x : V) (p : Pr), xs[j]? = some x → ps[j]? = some p → TieOk ks H x p
def TieR (ks : List Str) (H : Hp) (xs : List V) : Option Nat → Prop
  | none => ∃ ps, ps.length = xs.length ∧ TiesTo ks H xs ps
  | some i => ∃ ps y, xs[i]? = some y ∧ ps.length = i ∧ TiesTo ks H xs ps ∧ ∀ p, TieOk ks H y p → p ∈ ps
def KnTies (C : Addr) (H : Hp) (xs : List V) : Prop := ∀ x ∈ xs, Kn C H x ∧ ∀ ys, itemsOf H x = some ys → ys.length ≤ 1000 ∧ KnAll C H ys
abbrev TieW (ks : List Str) (C : Addr) (H : Hp) (v : V) (Q : VK) : Prop := (itemsOf H v = none ∧ ∀ H', Same H H' → Q (.int 0) H') ∨ ∃ xs, itemsOf H v = some xs ∧ xs.length ≤ 1000 ∧ KnTies C H xs ∧ ∀ r H', TieR ks H xs r → Same H H' → Q (optV r) H'
def spFwt (K : PySem.W.Frag) (C : Addr) : Sp := fun vs H Q _ => ∃ (v : V) (b : Addr) (ks : List Str), vs = [v, .ref b] ∧ Kn C H v ∧ SqQ K H b (ks.map V.str) ∧ TieW ks C H v Q
section
variable {P : Program} {w : World} {K : PySem.W.Frag} {mg : Str → Option Value} {base : Heap} {C : Addr}
theorem sc_fwu : FnScope ["things", "known", "seen", "index", "thing"] ["things", "known"] (defScope (topS 18)) := ⟨rfl, rfl, rfl, by decide +kernel, rfl, by decide +kernel, by decide +kernel⟩
theorem ok_fwu (D : NamesD K mg) (T : TxtN K mg) (O : OwnC K C) : FnOk P w K mg base CX0 2 D.fU D.dU ["things", "known"] (spFwu K C) := by
  have GL : FnOk P w K mg base CX0 1 D.fL D.dL ["thing"] (spIsList C) := ok_is_list D T O
  refine Fun.ok D.FU sc_fwu (fun vs H Q E h => ?_) (fun cdv A outer s H vs Q E hr h => ⟨_, pss_cons (ps_if (pt_not (pt_val (pe_call GL hr (by rfl) D.gL D.FL.kp (bL D) .nil pass0 (pa_cons (pv 0) pa_nil)))) (pss_one (ps_ret pe_int)) pss_nil)
    (pss_cons (ps_set (i := 2) sc_fwu.nd rfl (Or.inl rfl) pe_dnewK)
    (pss_cons (ps_for PassesOwn.never rfl (pi_enumQ (by rfl) T.enumerate (pa_cons (pv 0) pa_nil)) (pg_tup rfl (pgs_cons (pg_name (i := 3) sc_fwu.nd rfl (Or.inl rfl)) (pgs_cons (pg_name (i := 4) sc_fwu.nd rfl (Or.inl rfl)) pgs_nil)))
      (pss_cons (ps_if (PW.pt (pw_or (pt_not (pt_val (pe_callB call_isi (by rfl) T.isinstance (by decide +kernel) (pa_cons (pv 4) (pa_cons (pe_bltn (by rfl) T.str boot_str (v := .ty "str") rfl) pa_nil))))) (pw_or (pt_cmpR op_notIn_seq (pv 4) (pv 1) (by rfl)) (pw_or1 (pt_cmp (pc_din (hu_of hr) (pv 4) (pv 2))))))) (pss_one (ps_ret (pv 3))) pss_nil)
      (pss_one (ps_dput (hu_of hr) (pv 2) (pv 4) pe_bl rfl))))
    (pss_one (ps_ret pe_non)))), ?_⟩)
  · obtain ⟨v, b, ks, rfl, _⟩ := h
    rfl
  · obtain ⟨v, b, ks, rfl, hk, hb, h⟩ := h
    refine ⟨_, rfl, v, rfl, hk, fun H1 S1 => ⟨_, rfl, ?_⟩⟩
    rcases h with ⟨e, k⟩ | ⟨xs, e, hl, hK, k⟩
    · rw [e]
      exact iteT (k H1 S1)
    · rw [e]
      refine iteF ?_
      obtain ⟨a, rfl, _⟩ := items_ref e
      intro d nd
      have S2 := S1.trans (new_same (o := .dK []) nd)
      have nd0 : H d = none := S1.free nd
      refine ⟨_, rfl, a, xs, rfl, for_enQ (items_Q (K := K) (items_same S2 e)) (fun i σ H' => ∃ v2 v3 ss, σ = [some (.ref a), some (.ref b), some (.ref d), v2, v3] ∧ H' d = some (.dK (seenK (ss.map Sum.inr))) ∧ xs.take i = ss.map V.str ∧ Good (fun z => z ∈ ks) ss ∧ Same H H' ∧ (∀ b o, b ≠ d → (upd H1 d (.dK [])) b = some o → H' b = some o))
        ⟨none, none, [], rfl, upd_same, rfl, .nil, S2, fun _ _ _ e => e⟩ ?_ ?_ ?_⟩
      · rintro i σ H' hi ⟨v2, v3, ss, _, _, _, _, _, B⟩
        exact but_LT B (items_ne (items_same S1 e) nd)
      · rintro i x σ H' T hx ⟨v2, v3, ss, rfl, hd, ht, g, S, B⟩ nT
        have ST := new_same (o := .tup [.int (i : Nat), x]) nT
        obtain ⟨kx, lx⟩ := hK x (List.mem_of_getElem? hx)
        obtain ⟨t, ty, ki⟩ := kn_str O (kx.same (S.trans ST)).1
        refine ⟨T, _, rfl, SqT.of upd_same, rfl, _, _, rfl, _, _, rfl, rfl, ?_⟩
        refine ⟨_, rfl, x, _, t, _, isStrV x, rfl, .ty _, ty, ki, _, rfl, ?_⟩
        have S3 := S.trans ST
        have hd3 := ST _ _ hd
        cases x with
        | str z =>
          refine iteF ⟨_, rfl, _, rfl, b, _, rfl, same_Q S3 hb, rfl, flat_strs _, _, rfl, ?_⟩
          rw [if_pos rfl, inV_strs]
          by_cases hzk : z ∈ ks
          · rw [decide_eq_true hzk]
            refine iteF ⟨_, rfl, _, rfl, d, _, rfl, DGet.k (k := Sum.inr z) hd3, _, rfl, ?_⟩
            by_cases hz : z ∈ ss
            · rw [seen_yes (List.mem_map.mpr ⟨z, hz, rfl⟩)]
              exact iteT ⟨_, rfl, k (some i) _ ⟨ss, _, hx, ht, g, fun y ey _ => by cases ey; exact hz⟩ S3⟩
            · have nz : (Sum.inr z : Key) ∉ ss.map Sum.inr := fun q => by
                obtain ⟨y, hy, ey⟩ := List.mem_map.mp q
                cases ey
                exact hz hy
              rw [seen_no nz]
              refine iteF ⟨_, rfl, _, rfl, d, _, rfl, DPut.k (k := Sum.inr z) hd3 ?_, ?_⟩
              · unfold seenK
                rw [List.length_map, List.length_map]
                exact small1000 (Nat.le_trans (map_len ht) hl)
              · refine ⟨_, _, ss ++ [z], rfl, ?_, ?_, g.snoc hzk hz, ?_, ?_⟩
                · rw [upd_same, seen_put _ _ nz, List.map_append]
                  rfl
                · rw [take_snoc hx, ht, List.map_append]
                  rfl
                · exact fun b o q => by
                    rw [upd_ne (ne_of_none q nd0)]
                    exact S3 b o q
                · exact fun b o nb q => by
                    rw [upd_ne nb]
                    exact ST _ _ (B b o nb q)
          · rw [decide_eq_false hzk]
            exact iteT (iteT ⟨_, rfl, k (some i) _ ⟨ss, _, hx, ht, g, fun y ey oy => by cases ey; exact absurd oy hzk⟩ S3⟩)
        | _ => exact iteT (iteT ⟨_, rfl, k (some i) _ ⟨ss, _, hx, ht, g, fun y ey => by cases ey⟩ S3⟩)
      · rintro σ H' ⟨v2, v3, ss, rfl, hd, ht, g, S, B⟩
        rw [List.take_length] at ht
        exact k none H' ⟨ss, ht, g⟩ S
theorem tie_same {ks : List Str} {H H' : Hp} {x : V} {p : Pr} (S : Same H H') (h : TieOk ks H x p) : TieOk ks H' x p := by
  obtain ⟨a, b, h1, h2⟩ := h
  exact ⟨a, b, items_same S h1, h2⟩
def keyP (p : Pr) : List Key := [.inr p.1, .inr p.2]
theorem keyP_inj {p q : Pr} (h : keyP p = keyP q) : p = q := by
  unfold keyP at h
  injection h with h1 h2
  injection h2 with h2 _
  injection h1 with h1
  injection h2 with h2
  exact Prod.ext h1 h2
theorem keyP_mem {ps : List Pr} {p : Pr} : keyP p ∈ ps.map keyP ↔ p ∈ ps := by
  constructor
  · intro h
    obtain ⟨q, hq, e⟩ := List.mem_map.mp h
    rw [← keyP_inj e]
    exact hq
  · exact fun h => List.mem_map.mpr ⟨p, h, rfl⟩
theorem pair_iff {H : Hp} {v : V} : pairB H v = true ↔ ∃ x y, itemsOf H v = some [x, y] := by
  unfold pairB
  cases e : itemsOf H v with
  | none => simp
  | some xs =>
    constructor
    · intro h
      match xs, of_decide_eq_true h with
      | [x, y], _ => exact ⟨x, y, rfl⟩
    · rintro ⟨x, y, h⟩
      cases h
      rfl
theorem sc_fwt : FnScope ["things", "known", "seen", "index", "thing", "tie"] ["things", "known"] (defScope (topS 20)) := ⟨rfl, rfl, rfl, by decide +kernel, rfl, by decide +kernel, by decide +kernel⟩
theorem ok_fwt (D : NamesD K mg) (T : TxtN K mg) (O : OwnC K C) : FnOk P w K mg base CX0 3 D.fX D.dX ["things", "known"] (spFwt K C) := by
  have GL : FnOk P w K mg base CX0 1 D.fL D.dL ["thing"] (spIsList C) := ok_is_list D T O
  have GP : FnOk P w K mg base CX0 2 D.fP D.dP ["thing"] (spIsPair C) := ok_is_pair D T O
  have GU : FnOk P w K mg base CX0 2 D.fU D.dU ["things", "known"] (spFwu K C) := ok_fwu D T O
  have GT : FnOk P w K mg base CX0 1 D.fT D.dT ["pair"] spTold := ok_told D T
  refine Fun.ok D.FX sc_fwt (fun vs H Q E h => ?_) (fun cdv A outer s H vs Q E hr h => ⟨_, pss_cons (ps_if (pt_not (pt_val (pe_call GL (hr.mono (by decide)) (by rfl) D.gL D.FL.kp (bL D) .nil pass0 (pa_cons (pv 0) pa_nil)))) (pss_one (ps_ret pe_int)) pss_nil)
    (pss_cons (ps_set (i := 2) sc_fwt.nd rfl (Or.inl rfl) pe_dnewT)
    (pss_cons (ps_for PassesOwn.never rfl (pi_enumQ (by rfl) T.enumerate (pa_cons (pv 0) pa_nil)) (pg_tup rfl (pgs_cons (pg_name (i := 3) sc_fwt.nd rfl (Or.inl rfl)) (pgs_cons (pg_name (i := 4) sc_fwt.nd rfl (Or.inl rfl)) pgs_nil)))
      (pss_cons (ps_if (PW.pt (pw_or (pt_not (pt_val (pe_call GP hr (by rfl) D.gP D.FP.kp (bP D) .nil pass0 (pa_cons (pv 4) pa_nil)))) (pw_or1 (pt_cmpR op_notN (pe_call GU hr (by rfl) D.gU D.FU.kp (bU D) .nil pass0 (pa_cons (pv 4) (pa_cons (pv 1) pa_nil))) pe_non (nomark _))))) (pss_one (ps_ret (pv 3))) pss_nil)
      (pss_cons (ps_set (i := 5) sc_fwt.nd rfl (Or.inl rfl) (pe_call GT (hr.mono (by decide)) (by rfl) D.gT D.FT.kp (bT D) .nil pass0 (pa_cons (pv 4) pa_nil)))
      (pss_cons (ps_if (pt_cmp (pc_din (hu_of hr) (pv 5) (pv 2))) (pss_one (ps_ret (pv 3))) pss_nil)
      (pss_one (ps_dput (hu_of hr) (pv 2) (pv 5) pe_bl rfl))))))
    (pss_one (ps_ret pe_non)))), ?_⟩)
  · obtain ⟨v, b, ks, rfl, _⟩ := h
    rfl
  · obtain ⟨v, b, ks, rfl, hk, hb, h⟩ := h
    refine ⟨_, rfl, v, rfl, hk, fun H1 S1 => ⟨_, rfl, ?_⟩⟩
    rcases h with ⟨e, k⟩ | ⟨xs, e, hl, hK, k⟩
    · rw [e]
      exact iteT (k H1 S1)
    · rw [e]
      refine iteF ?_
      obtain ⟨a, rfl, _⟩ := items_ref e
      intro d nd
      have S2 := S1.trans (new_same (o := .dT []) nd)
      have nd0 : H d = none := S1.free nd
      refine ⟨_, rfl, a, xs, rfl, for_enQ (items_Q (K := K) (items_same S2 e)) (fun i σ H' => ∃ v2 v3 v4 ps, σ = [some (.ref a), some (.ref b), some (.ref d), v2, v3, v4] ∧ H' d = some (.dT (seenK (ps.map keyP))) ∧ ps.length = i ∧ TiesTo ks H xs ps ∧ Same H H' ∧ (∀ b o, b ≠ d → (upd H1 d (.dT [])) b = some o → H' b = some o))
        ⟨none, none, none, [], rfl, upd_same, rfl, ⟨List.nodup_nil, Nat.zero_le _, fun j x p _ h => by simp at h⟩, S2, fun _ _ _ e => e⟩ ?_ ?_ ?_⟩
      · rintro i σ H' hi ⟨v2, v3, v4, ps, _, _, _, _, _, B⟩
        exact but_LT B (items_ne (items_same S1 e) nd)
      · rintro i x σ H' T hx ⟨v2, v3, v4, ps, rfl, hd, hlen, g, S, B⟩ nT
        have ST := new_same (o := .tup [.int (i : Nat), x]) nT
        obtain ⟨kx, kys⟩ := hK x (List.mem_of_getElem? hx)
        refine ⟨T, _, rfl, SqT.of upd_same, rfl, _, _, rfl, _, _, rfl, rfl, ?_⟩
        have S3 := S.trans ST
        have bad : ∀ H', Same H H' → (∀ p, TieOk ks H x p → p ∈ ps) → Q (.int (i : Nat)) H' := fun H' S' hbad => k (some i) H' ⟨ps, x, hx, hlen, g, hbad⟩ S'
        refine ⟨_, rfl, x, rfl, (kx.same S3).1, fun H4 S4 => ⟨_, rfl, ?_⟩⟩
        have S5 := S3.trans S4
        cases ep : pairB (upd H' T (.tup [.int (i : Nat), x])) x with
        | false =>
          refine iteT (iteT ⟨_, rfl, bad _ S5 fun p hp => ?_⟩)
          obtain ⟨a1, b1, h1, _⟩ := hp
          rw [pair_iff.mpr ⟨_, _, items_same S3 h1⟩] at ep
          cases ep
        | true =>
          refine iteF ?_
          have hit : ∃ ys, itemsOf H x = some ys ∧ ys.length = 2 := by
            obtain ⟨x1, y1, h1⟩ := pair_iff.mp ep
            have kq : isSeq H x = (itemsOf H x).isSome := kn_items kx
            have kq2 : isSeq (upd H' T (.tup [.int (i : Nat), x])) x = (itemsOf (upd H' T (.tup [.int (i : Nat), x])) x).isSome := kn_items (kx.same S3).1
            have kk := (kx.same S3).2
            unfold isSeq at kq kq2
            rw [kk, kq, h1] at kq2
            cases eq : itemsOf H x with
            | none =>
              rw [eq] at kq2
              cases kq2
            | some ys =>
              have := items_same S3 eq
              rw [h1] at this
              cases this
              exact ⟨_, rfl, rfl⟩
          obtain ⟨ys, hys, hy2⟩ := hit
          obtain ⟨_, kyall⟩ := kys ys hys
          refine ⟨_, rfl, _, rfl, x, b, ks, rfl, (kx.same S5).1, same_Q S5 hb, .inr ⟨ys, items_same S5 hys, by omega, kyall.same S5, fun r H6 hR S6 => ?_⟩⟩
          have S7 := S5.trans S6
          cases r with
          | some j =>
            refine ⟨rfl, _, rfl, ?_⟩
            rw [show decide (optV (some j) = V.non) = false from decide_eq_false (by intro z; cases z)]
            refine iteT ⟨_, rfl, bad _ S7 fun p hp => ?_⟩
            obtain ⟨a1, b1, h1, hne, ha, hb1, _⟩ := hp
            rw [hys] at h1
            cases h1
            obtain ⟨ss, y, hy, ht, gg, hbad⟩ := hR
            exfalso
            match j, hy, ht with
            | 0, hy, ht =>
              cases hy
              have : ss = [] := by
                have := congrArg List.length ht
                simpa using this.symm
              have := hbad a1 rfl ha
              simp_all
            | 1, hy, ht =>
              cases hy
              have es : ss = [a1] := by
                match ss, ht with
                | [s0], ht =>
                  simp at ht
                  rw [ht]
                | [], ht => simp at ht
                | _ :: _ :: _, ht => simp at ht
              have := hbad b1 rfl hb1
              rw [es] at this
              exact hne (List.mem_singleton.mp this).symm
            | n + 2, hy, ht => simp at hy
          | none =>
            refine ⟨rfl, _, rfl, ?_⟩
            rw [show decide (optV none = V.non) = true from decide_eq_true rfl]
            refine iteF ?_
            obtain ⟨ss, e1, gg⟩ := hR
            match ss, e1, gg with
            | [a1, b1], e1, gg =>
              subst e1
              have hne : a1 ≠ b1 := by
                have := gg.nd
                simp at this
                exact this
              have ok1 : TieOk ks H x (tp a1 b1) := ⟨a1, b1, hys, hne, gg.all a1 (by simp), gg.all b1 (by simp), rfl⟩
              refine ⟨_, rfl, x, a1, b1, rfl, items_same S7 hys, fun t H8 nt ht S8 => ?_⟩
              have hd8 : H8 d = some (.dT (seenK (ps.map keyP))) := S8 _ _ (S6 _ _ (S4 _ _ (ST _ _ hd)))
              have S9 := S7.trans S8
              refine ⟨_, rfl, _, rfl, d, _, rfl, DGet.t (k := keyP (tp a1 b1)) hd8 ht, _, rfl, ?_⟩
              by_cases hm : tp a1 b1 ∈ ps
              · rw [seen_yes (keyP_mem.mpr hm)]
                refine iteT ⟨_, rfl, bad _ S9 fun p hp => ?_⟩
                obtain ⟨a2, b2, h2, _, _, _, ep2⟩ := hp
                rw [hys] at h2
                cases h2
                rw [← ep2]
                exact hm
              · have nz : keyP (tp a1 b1) ∉ ps.map keyP := fun z => hm (keyP_mem.mp z)
                rw [seen_no nz]
                refine iteF ⟨_, rfl, _, rfl, d, _, rfl, DPut.t (k := keyP (tp a1 b1)) hd8 ht ?_, ?_⟩
                · unfold seenK
                  rw [List.length_map, List.length_map]
                  exact small1000 (Nat.le_trans g.len hl)
                · refine ⟨_, _, _, ps ++ [tp a1 b1], rfl, ?_, by rw [List.length_append, hlen]; rfl, ⟨?_, ?_, ?_⟩, ?_, ?_⟩
                  · rw [upd_same, seen_put _ _ nz, List.map_append]
                    rfl
                  · refine List.nodup_append.mpr ⟨g.nd, by simp, fun q hq q' hq' => ?_⟩
                    rw [List.mem_singleton.mp hq']
                    exact fun z => hm (z ▸ hq)
                  · have := (List.getElem?_eq_some_iff.mp hx).1
                    rw [List.length_append]
                    show ps.length + 1 ≤ xs.length
                    omega
                  · intro j u q hu hq
                    by_cases hj : j < ps.length
                    · rw [List.getElem?_append_left hj] at hq
                      exact g.ok j u q hu hq
                    · rw [List.getElem?_append_right (Nat.le_of_not_lt hj)] at hq
                      have ej : j - ps.length = 0 := by
                        have := (List.getElem?_eq_some_iff.mp hq).1
                        simp at this
                        omega
                      rw [ej] at hq
                      have ej2 : j = i := by omega
                      subst ej2
                      rw [hx] at hu
                      cases hu
                      cases hq
                      exact ok1
                  · exact fun b o q => by
                      rw [upd_ne (ne_of_none q nd0)]
                      exact S9 b o q
                  · exact fun b o nb q => by
                      rw [upd_ne nb]
                      exact S8 _ _ (S6 _ _ (S4 _ _ (ST _ _ (B b o nb q))))
            | [], e1, gg => subst e1; simp at hy2
            | [_], e1, gg => subst e1; simp at hy2
            | _ :: _ :: _ :: _, e1, gg => subst e1; simp at hy2
      · rintro σ H' ⟨v2, v3, v4, ps, rfl, hd, hlen, g, S, B⟩
        exact k none H' ⟨ps, hlen, g⟩ S
end
end E1

set_option Elab.async false
set_option linter.all false
set_option maxRecDepth 100000
set_option maxHeartbeats 4000000
/-! neighbours -/
namespace E1
open PySem PySem.Spec PyProof.Rows L2 G0
theorem dc_list {K : PySem.W.Frag} {a : Addr} {xs : List V} {g : TG} {tt : TT} {tk tv : TE} {vs : List Nat} {σ : L2.St} {H1 : Hp} {D : Addr} {Qd : Hp → Prop} (Pv : Nat → Hp → Prop) (h0 : Pv 0 (upd H1 D (.dK []))) (hl : ∀ i H, i ≤ xs.length → Pv i H → SqL K H a xs)
    (hs : ∀ i x H, xs[i]? = some x → Pv i H → g x (wipe σ vs) H fun σ2 H2 => wipe σ2 vs = wipe σ vs ∧ tt σ2 H2 fun b H3 =>
      if b = true then tk σ2 H3 fun y H4 => tv σ2 H4 fun z H5 => ∃ kvs k, y = kV k ∧ H5 D = some (.dK kvs) ∧ kvs.length < sizeLine ∧ Pv (i + 1) (upd H5 D (.dK (putK kvs k z))) else Pv (i + 1) H3) (hd : ∀ H, Pv xs.length H → Qd H) :
    ∃ W : Nat → Nat → Hp → Prop, (∃ m, W 0 m (upd H1 D (.dK []))) ∧ ∀ i m H, W i m H →
      ((Itl K a).stop i H ∧ Qd H) ∨ ((Itl K a).go i H ∧ ∃ Nx : Hp → Prop, (∀ H', Nx H' → ∃ m', m' < m ∧ W (i + 1) m' H') ∧ ∀ x H', (Itl K a).yld i H x H' → g x (wipe σ vs) H' fun σ2 H2 => wipe σ2 vs = wipe σ vs ∧ tt σ2 H2 fun b H3 =>
        if b = true then tk σ2 H3 fun y H4 => tv σ2 H4 fun z H5 => ∃ kvs k, y = kV k ∧ H5 D = some (.dK kvs) ∧ kvs.length < sizeLine ∧ Nx (upd H5 D (.dK (putK kvs k z))) else Nx H3) := by
  refine ⟨fun i m H => m = xs.length - i ∧ i ≤ xs.length ∧ Pv i H, ⟨xs.length, by simp, Nat.zero_le _, h0⟩, fun i m H ⟨em, hi, p⟩ => ?_⟩
  subst em
  have q := hl i H hi p
  rcases Nat.lt_or_ge i xs.length with lt | ge
  · refine .inr ⟨⟨xs, xs[i], q, by simp [lt]⟩, Pv (i + 1), fun H' p' => ⟨xs.length - (i + 1), by omega, rfl, lt, p'⟩, fun x H' y => ?_⟩
    obtain ⟨rfl, hz⟩ := y
    exact hs i x H' (hz xs q) p
  · have e : i = xs.length := by omega
    exact .inl ⟨⟨xs, q, ge⟩, hd H (by rw [← e]; exact p)⟩
/-- the other end of each tie of a place -/
def nb (ps : List Pr) (s : Str) : List Str := ps.flatMap fun p => (if p.1 = s then [p.2] else []) ++ (if p.2 = s then [p.1] else [])
theorem nb_snoc (ps : List Pr) (p : Pr) (s : Str) : nb (ps ++ [p]) s = nb ps s ++ ((if p.1 = s then [p.2] else []) ++ (if p.2 = s then [p.1] else [])) := by
  unfold nb
  rw [List.flatMap_append]
  simp
theorem nb_len (ps : List Pr) (s : Str) : (nb ps s).length ≤ 2 * ps.length := by
  induction ps with
  | nil => exact Nat.zero_le _
  | cons p r ih =>
    have e : nb (p :: r) s = ((if p.1 = s then [p.2] else []) ++ (if p.2 = s then [p.1] else [])) ++ nb r s := by simp [nb]
    rw [e, List.length_append, List.length_append, List.length_cons]
    split <;> split <;> simp <;> omega
/-- a dict from these places to lists of places -/
structure NearAt (H : Hp) (q : Addr) (ss : List Str) (f : Str → List Str) (l : Str → Addr) : Prop where
  d : H q = some (.dK (ss.map fun s => (Sum.inr s, V.ref (l s))))
  at_ : ∀ s ∈ ss, H (l s) = some (.lst ((f s).map V.str))
  inj : ∀ s ∈ ss, ∀ t ∈ ss, l s = l t → s = t
theorem NearAt.ne {H : Hp} {q : Addr} {ss : List Str} {f : Str → List Str} {l : Str → Addr} (N : NearAt H q ss f l) {s : Str} (h : s ∈ ss) : l s ≠ q := ne_of (N.at_ s h) N.d (fun z => by cases z)
theorem NearAt.mono {H H' : Hp} {q : Addr} {ss : List Str} {f : Str → List Str} {l : Str → Addr} (N : NearAt H q ss f l) (S : Same H H') : NearAt H' q ss f l := ⟨S _ _ N.d, fun s h => S _ _ (N.at_ s h), N.inj⟩
theorem map_val {ss : List Str} (l : Str → V) : ∀ {s : Str}, s ∈ ss → valV (ss.map fun s => ((Sum.inr s : Key), l s)) (Sum.inr s) = some (l s) := by
  induction ss with
  | nil => intro s h; cases h
  | cons x r ih =>
    intro s h
    unfold valV
    rw [List.map_cons, List.find?_cons]
    by_cases e : x = s
    · subst e
      simp
    · have e2 : decide ((Sum.inr x : Key) = Sum.inr s) = false := decide_eq_false fun z => e (by injection z)
      rw [e2]
      have h2 : s ∈ r := (List.mem_cons.mp h).resolve_left (Ne.symm e)
      have := ih h2
      unfold valV at this
      exact this
theorem put_new {κ : Type} [DecidableEq κ] {kvs : List (κ × V)} {k : κ} {v : V} (h : ∀ kv ∈ kvs, kv.1 ≠ k) : putK kvs k v = kvs ++ [(k, v)] := by
  unfold putK
  have e : (kvs.any fun kv => decide (kv.1 = k)) = false := by
    rw [List.any_eq_false]
    intro x hx
    simp only [decide_eq_true_eq]
    exact h x hx
  rw [e, if_neg (by simp)]
/-- one list grows -/
theorem NearAt.put {H : Hp} {q : Addr} {ss : List Str} {f : Str → List Str} {l : Str → Addr} (N : NearAt H q ss f l) {s : Str} (hs : s ∈ ss) (x : Str) : NearAt (upd H (l s) (.lst ((f s ++ [x]).map V.str))) q ss (fun t => if t = s then f s ++ [x] else f t) l := by
  refine ⟨by rw [upd_ne (N.ne hs).symm]; exact N.d, fun t ht => ?_, N.inj⟩
  by_cases e : t = s
  · subst e
    rw [upd_same, if_pos rfl]
  · rw [upd_ne (fun z => e (N.inj t ht s hs z)), if_neg e]
    exact N.at_ t ht
theorem NearAt.congr {H : Hp} {q : Addr} {ss : List Str} {f g : Str → List Str} {l : Str → Addr} (N : NearAt H q ss f l) (h : ∀ s ∈ ss, f s = g s) : NearAt H q ss g l := ⟨N.d, fun s hs => by rw [← h s hs]; exact N.at_ s hs, N.inj⟩
/-- one more place -/
theorem NearAt.more {H : Hp} {q p : Addr} {ss : List Str} {f : Str → List Str} {l : Str → Addr} (N : NearAt H q ss f l) {s : Str} (hs : s ∉ ss) (hp : H p = some (.lst ((f s).map V.str))) (np : ∀ t ∈ ss, l t ≠ p) (npq : p ≠ q) :
    NearAt (upd H q (.dK (putK (ss.map fun s => ((Sum.inr s : Key), V.ref (l s))) (Sum.inr s) (.ref p)))) q (ss ++ [s]) f (fun t => if t = s then p else l t) := by
  have ls : ∀ t ∈ ss, (if t = s then p else l t) = l t := fun t ht => if_neg (show t ≠ s from fun z => hs (z ▸ ht))
  refine ⟨?_, fun t ht => ?_, fun t ht u hu e => ?_⟩
  · rw [upd_same, put_new (fun kv hkv => ?_), List.map_append]
    · have e1 : (ss.map fun t => ((Sum.inr t : Key), V.ref (if t = s then p else l t))) = ss.map fun t => ((Sum.inr t : Key), V.ref (l t)) := List.map_congr_left fun t ht => by rw [ls t ht]
      rw [e1]
      simp
    · obtain ⟨t, ht, rfl⟩ := List.mem_map.mp hkv
      intro z
      cases z
      exact hs ht
  · rcases List.mem_append.mp ht with ht | ht
    · show upd H q _ (if t = s then p else l t) = _
      rw [ls t ht, upd_ne (N.ne ht)]
      exact N.at_ t ht
    · rw [List.mem_singleton.mp ht]
      show upd H q _ (if s = s then p else l s) = _
      rw [if_pos rfl, upd_ne npq]
      exact hp
  · have e : (if t = s then p else l t) = if u = s then p else l u := e
    rcases List.mem_append.mp ht with ht | ht
    · rw [ls t ht] at e
      rcases List.mem_append.mp hu with hu | hu
      · rw [ls u hu] at e
        exact N.inj t ht u hu e
      · rw [List.mem_singleton.mp hu, if_pos rfl] at e
        exact absurd e (np t ht)
    · rw [List.mem_singleton.mp ht] at e ⊢
      rw [if_pos rfl] at e
      rcases List.mem_append.mp hu with hu | hu
      · rw [ls u hu] at e
        exact absurd e.symm (np u hu)
      · exact (List.mem_singleton.mp hu).symm
abbrev s_nb : Stmt := topS 21
abbrev N_nb : List Str := ["places", "ties", "near", "place", "one", "other"]
theorem sc_nb : FnScope N_nb ["places", "ties"] (defScope s_nb) := ⟨rfl, rfl, rfl, by decide +kernel, rfl, by decide +kernel, by decide +kernel⟩
def spNb : Sp := fun vs H Q _ => ∃ (a b : Addr) (ss : List Str) (ts : List V) (ps : List Pr), vs = [.ref a, .ref b] ∧ H a = some (.lst (ss.map V.str)) ∧ H b = some (.lst ts) ∧ PrsAt H ts ps ∧ ss.Nodup ∧ ss.length ≤ 1000 ∧ ps.length ≤ 1000 ∧ (∀ p ∈ ps, p.1 ∈ ss ∧ p.2 ∈ ss) ∧
  ∀ q l H', NearAt H' q ss (fun s => sortS (nb ps s)) l → H q = none → (∀ s ∈ ss, H (l s) = none) → Same H H' → Q (.ref q) H'
section
variable {P : Program} {w : World} {K : PySem.W.Frag} {mg : Str → Option Value} {base : Heap} {C f : Addr} {fd : FuncData}
theorem take_mem {α : Type} {xs : List α} (nd : xs.Nodup) {i : Nat} {x : α} (h : xs[i]? = some x) : x ∉ xs.take i := by
  intro hm
  have e := List.take_append_drop i xs
  rw [← e] at nd
  have hx : x ∈ xs.drop i := by
    refine List.mem_of_getElem? (i := 0) ?_
    rw [List.getElem?_drop]
    exact h
  exact (List.nodup_append.mp nd).2.2 x hm x hx rfl
theorem boot_sorted : bootBuiltins "sorted" = some (.builtin "sorted") := by decide +kernel
theorem ok_nb (F : FnS K 21 f fd) (T : TxtN K mg) : FnOk P w K mg base CX0 1 f fd ["places", "ties"] spNb := by
  refine Fun.ok F sc_nb (fun vs H Q E h => ?_) (fun cdv A outer s H vs Q E hr h => ⟨_, pss_cons (ps_set (i := 2) sc_nb.nd rfl (Or.inr rfl) (pe_dc (own := [("place", 3)]) (tt := tYes) rfl sc_nb.nd (pi_list (pv 0)) (blkOk_by (own := [("place", 3)]) (N := N_nb) (sc := defScope s_nb) (by decide +kernel)) (fun _ _ _ _ _ => pg_name (i := 3) sc_nb.nd rfl (Or.inl rfl)) (fun _ _ _ _ _ => pts_nil) (fun _ _ _ _ _ => pv 3) (fun _ _ _ _ _ => pe_lst pa_nil)))
    (pss_cons (ps_for PassesOwn.never rfl (pi_list (pv 1)) (pg_tup rfl (pgs_cons (pg_name (i := 4) sc_nb.nd rfl (Or.inl rfl)) (pgs_cons (pg_name (i := 5) sc_nb.nd rfl (Or.inl rfl)) pgs_nil)))
      (pss_cons (ps_expr (pe_bm PySem.F.plainAttrs_list PySem.F.slot_list_append PySem.F.type_list_append mt_append (pe_dget (hu_of hr) (pv 2) (pv 4) (fun _ _ => rfl)) (pa_cons (pv 5) pa_nil)))
      (pss_one (ps_expr (pe_bm PySem.F.plainAttrs_list PySem.F.slot_list_append PySem.F.type_list_append mt_append (pe_dget (hu_of hr) (pv 2) (pv 5) (fun _ _ => rfl)) (pa_cons (pv 4) pa_nil))))))
    (pss_one (ps_ret (pe_dc (tv := tCB (rSortQ K) (tCons (tDGet (tVar 2) (tVar 3)) tNil)) (own := [("place", 3)]) (tt := tYes) rfl sc_nb.nd (pi_list (pv 0)) (blkOk_by (own := [("place", 3)]) (N := N_nb) (sc := defScope s_nb) (by decide +kernel)) (fun _ _ _ _ _ => pg_name (i := 3) sc_nb.nd rfl (Or.inl rfl)) (fun _ _ _ _ _ => pts_nil) (fun _ _ _ _ _ => pv 3) (fun _ _ _ _ _ => pe_callB cr_sortQ (by rfl) T.sorted boot_sorted (pa_cons (pe_dget (hu_of hr) (pv 2) (pv 3) (fun _ _ => rfl)) pa_nil)))))), ?_⟩)
  · obtain ⟨a, b, ss, ts, ps, rfl, _⟩ := h
    rfl
  · obtain ⟨a, b, ss, ts, ps, rfl, ha, hb, hp, nd, hl, hpl, hin, k⟩ := h
    refine ⟨_, rfl, a, rfl, ⟨_, SqL.of ha⟩, fun q nq => dc_list (xs := ss.map V.str) (fun i H' => ∃ l, NearAt H' q (ss.take i) (fun _ => []) l ∧ (∀ s ∈ ss.take i, H (l s) = none) ∧ Same H H') ⟨fun _ => q, ⟨upd_same, by simp, by simp⟩, by simp, new_same nq⟩ (fun i H' _ ⟨_, _, _, S⟩ => SqL.of (S _ _ ha)) ?_ ?_⟩
    · rintro i x H' hx ⟨l, N, fr, S⟩
      rw [List.getElem?_map] at hx
      cases es : ss[i]? with
      | none => rw [es] at hx; cases hx
      | some s =>
        rw [es] at hx
        cases hx
        have ns := take_mem nd es
        refine ⟨rfl, yes_of ⟨_, rfl, Nat.zero_le _, fun p np => ⟨_, Sum.inr s, rfl, by rw [upd_ne (ne_of_none N.d np)]; exact N.d, ?_, fun t => if t = s then p else l t, ?_, ?_, ?_⟩⟩⟩
        · rw [List.length_map, List.length_take]
          exact small1000 (by omega)
        · rw [take_snoc es]
          have N2 : NearAt (upd H' p (.lst [])) q (ss.take i) (fun _ => []) l := N.mono (new_same np)
          exact N2.more (p := p) ns upd_same (fun t ht => ne_of_none (N.at_ t ht) np) (ne_of_none N.d np).symm
        · intro t ht
          have npH : H p = none := S.free np
          rw [take_snoc es] at ht
          by_cases e : t = s
          · show H (if t = s then p else l t) = none
            rw [if_pos e]
            exact npH
          · show H (if t = s then p else l t) = none
            rw [if_neg e]
            rcases List.mem_append.mp ht with ht | ht
            · exact fr t ht
            · exact absurd (List.mem_singleton.mp ht) e
        · exact fun b o e => by
            have npH : H p = none := S.free np
            rw [upd_ne (ne_of_none e nq), upd_ne (ne_of_none e npH)]
            exact S b o e
    · rintro H1 ⟨l, N, fr, S⟩
      rw [List.length_map, List.take_length] at N fr
      have key : ∀ (H2 : Hp) (p : Pr) (i : Nat), NearAt H2 q ss (nb (ps.take i)) l → p ∈ ps → NearAt (upd (upd H2 (l p.1) (.lst ((nb (ps.take i) p.1 ++ [p.2]).map V.str))) (l p.2) (.lst (((if p.2 = p.1 then nb (ps.take i) p.1 ++ [p.2] else nb (ps.take i) p.2) ++ [p.1]).map V.str))) q ss (fun s => if s = p.2 then (if p.2 = p.1 then nb (ps.take i) p.1 ++ [p.2] else nb (ps.take i) p.2) ++ [p.1] else if s = p.1 then nb (ps.take i) p.1 ++ [p.2] else nb (ps.take i) s) l := fun H2 p i N2 hp =>
        ((N2.put (hin p hp).1 p.2).put (hin p hp).2 p.1)
      refine ⟨_, rfl, b, rfl, ⟨_, SqL.of (S _ _ hb)⟩, for_list (xs := ts) (fun i σ H' => ∃ v3 v4 v5, σ = [some (.ref a), some (.ref b), some (.ref q), v3, v4, v5] ∧ NearAt H' q ss (nb (ps.take i)) l ∧ Same H H') ⟨none, none, none, rfl, N.congr fun s _ => by simp [nb], S⟩ (fun i σ H' _ ⟨_, _, _, _, _, S⟩ => SqL.of (S _ _ hb)) ?_ ?_⟩
      · rintro i x σ H' hx ⟨v3, v4, v5, rfl, N, S⟩
        have hi : i < ps.length := by
          rw [← hp.1]
          exact (List.getElem?_eq_some_iff.mp hx).1
        obtain ⟨p, hpi⟩ : ∃ p, ps[i]? = some p := ⟨ps[i], List.getElem?_eq_getElem hi⟩
        have hpm : p ∈ ps := List.mem_of_getElem? hpi
        obtain ⟨t, rfl, ht⟩ := hp.2 i x p hx hpi
        obtain ⟨h1, h2⟩ := hin p hpm
        refine ⟨t, _, rfl, SqT.of (S _ _ ht), rfl, _, _, rfl, _, _, rfl, rfl, ?_⟩
        have small : ∀ s, (nb (ps.take i) s).length + 5 < sizeLine := fun s => by
          have := nb_len (ps.take i) s
          rw [List.length_take] at this
          exact Nat.lt_of_le_of_lt (Nat.add_le_add_right (Nat.le_trans this (show 2 * min i ps.length ≤ 2000 by omega)) 5) (by decide)
        have e1 := DGet.k (k := Sum.inr p.1) N.d
        rw [map_val (fun s => V.ref (l s)) h1] at e1
        refine ⟨_, rfl, _, rfl, q, _, rfl, e1, .inl ⟨rfl, _, SqL.of (N.at_ _ h1)⟩, _, rfl, l p.1, _, _, rfl, rfl, N.at_ _ h1, ?_, ?_⟩
        · rw [List.length_map]
          have := small p.1
          omega
        have N2 := N.put h1 p.2
        rw [List.map_append] at N2
        have e2 := DGet.k (k := Sum.inr p.2) N2.d
        rw [map_val (fun s => V.ref (l s)) h2] at e2
        refine ⟨_, rfl, _, rfl, q, _, rfl, e2, .inl ⟨rfl, _, SqL.of (N2.at_ _ h2)⟩, _, rfl, l p.2, _, _, rfl, rfl, N2.at_ _ h2, ?_, ?_⟩
        · rw [List.length_map]
          have a1 := small p.1
          have a2 := small p.2
          split
          · rw [List.length_append]
            simp
            omega
          · omega
        have N3 := N2.put h2 p.1
        rw [List.map_append] at N3
        refine ⟨_, _, _, rfl, N3.congr fun s hs => ?_, ?_⟩
        · rw [take_snoc hpi, nb_snoc]
          show (if s = p.2 then (if p.2 = p.1 then nb (ps.take i) p.1 ++ [p.2] else nb (ps.take i) p.2) ++ [p.1] else if s = p.1 then nb (ps.take i) p.1 ++ [p.2] else nb (ps.take i) s) = _
          by_cases c2 : s = p.2
          · subst c2
            rw [if_pos rfl, if_pos rfl]
            by_cases c1 : p.2 = p.1
            · rw [if_pos c1, if_pos c1.symm, c1, List.append_assoc]
            · rw [if_neg c1, if_neg (fun z => c1 z.symm), List.nil_append]
          · rw [if_neg c2, show (if p.2 = s then [p.1] else ([] : List Str)) = [] from if_neg (fun z => c2 z.symm), List.append_nil]
            by_cases c1 : s = p.1
            · subst c1
              rw [if_pos rfl, if_pos rfl]
            · rw [if_neg c1, show (if p.1 = s then [p.2] else ([] : List Str)) = [] from if_neg (fun z => c1 z.symm), List.append_nil]
        · exact fun b o e => by
            rw [upd_ne (ne_of_none e (fr _ h2)), upd_ne (ne_of_none e (fr _ h1))]
            exact S b o e
      · rintro σ H2 ⟨v3, v4, v5, rfl, N, S⟩
        rw [hp.1, List.take_length] at N
        have N0 := N
        refine ⟨_, rfl, a, rfl, ⟨_, SqL.of (S _ _ ha)⟩, fun q2 nq2 => dc_list (xs := ss.map V.str) (fun i H' => ∃ l2, NearAt H' q2 (ss.take i) (fun s => sortS (nb ps s)) l2 ∧ NearAt H' q ss (nb ps) l ∧ (∀ s ∈ ss.take i, H (l2 s) = none) ∧ Same H H') ⟨fun _ => q2, ⟨upd_same, by simp, by simp⟩, N.mono (new_same nq2), by simp, S.trans (new_same nq2)⟩ (fun i H' _ ⟨_, _, _, _, S⟩ => SqL.of (S _ _ ha)) ?_ ?_⟩
        · rintro i x H' hx ⟨l2, N2, N, fr2, S'⟩
          rw [List.getElem?_map] at hx
          cases es : ss[i]? with
          | none => rw [es] at hx; cases hx
          | some s =>
            rw [es] at hx
            cases hx
            have ns := take_mem nd es
            have hs : s ∈ ss := List.mem_of_getElem? es
            have e1 := DGet.k (k := Sum.inr s) N.d
            rw [map_val (fun s => V.ref (l s)) hs] at e1
            refine ⟨rfl, yes_of ⟨_, rfl, _, rfl, _, rfl, q, _, rfl, e1, l s, nb ps s, rfl, .inl (SqL.of (N.at_ s hs)), fun p np => ⟨_, Sum.inr s, rfl, by rw [upd_ne (ne_of_none N2.d np)]; exact N2.d, ?_, fun t => if t = s then p else l2 t, ?_, ?_, ?_, ?_⟩⟩⟩
            · rw [List.length_map, List.length_take]
              exact small1000 (by omega)
            · rw [take_snoc es]
              have N3 : NearAt (upd H' p (.lst ((sortS (nb ps s)).map V.str))) q2 (ss.take i) (fun s => sortS (nb ps s)) l2 := N2.mono (new_same np)
              exact N3.more (p := p) ns upd_same (fun t ht => ne_of_none (N2.at_ t ht) np) (ne_of_none N2.d np).symm
            · have nq2' : q2 ≠ q := (ne_of_none N0.d nq2).symm
              have N4 : NearAt (upd H' p (.lst ((sortS (nb ps s)).map V.str))) q ss (nb ps) l := N.mono (new_same np)
              have hq2 : (upd H' p (.lst ((sortS (nb ps s)).map V.str))) q2 = _ := (new_same np) _ _ N2.d
              exact ⟨by rw [upd_ne nq2'.symm]; exact N4.d, fun t ht => by rw [upd_ne (ne_of (N4.at_ t ht) hq2 (fun z => by cases z))]; exact N4.at_ t ht, N4.inj⟩
            · intro t ht
              have npH : H p = none := S'.free np
              rw [take_snoc es] at ht
              by_cases e : t = s
              · show H (if t = s then p else l2 t) = none
                rw [if_pos e]
                exact npH
              · show H (if t = s then p else l2 t) = none
                rw [if_neg e]
                rcases List.mem_append.mp ht with ht | ht
                · exact fr2 t ht
                · exact absurd (List.mem_singleton.mp ht) e
            · exact fun b o e => by
                have npH : H p = none := S'.free np
                have nqH : H q2 = none := S.free nq2
                rw [upd_ne (ne_of_none e nqH), upd_ne (ne_of_none e npH)]
                exact S' b o e
        · rintro H3 ⟨l2, N2, N, fr2, S'⟩
          rw [List.length_map, List.take_length] at N2 fr2
          exact k q2 l2 H3 N2 (S.free nq2) fr2 S'
end
end E1

set_option Elab.async false
set_option linter.all false
set_option maxRecDepth 100000
set_option maxHeartbeats 4000000
/-! What is told of a list is told once. -/
namespace E1
open PySem PySem.Spec PyProof.Rows L2 G0
theorem scan_no {ok : Str → Prop} {xs : List V} {ss ss' : List Str} {i j : Nat} {y : V} (g : Good ok ss) (ht : xs.take j = ss.map V.str) (hij : i < j) (hy : xs[i]? = some y) (ht' : xs.take i = ss'.map V.str) (hb : ∀ z, y = .str z → ok z → z ∈ ss') : False := by
  have e1 : (xs.take j)[i]? = some y := by
    rw [List.getElem?_take, if_pos hij]
    exact hy
  rw [ht, List.getElem?_map] at e1
  cases ez : ss[i]? with
  | none => rw [ez] at e1; cases e1
  | some z =>
    rw [ez] at e1
    injection e1 with e1
    have hm := hb z e1.symm (g.all z (List.mem_of_getElem? ez))
    have e2 : (ss.take i).map V.str = ss'.map V.str := by
      rw [List.map_take, ← ht, List.take_take, Nat.min_eq_left (Nat.le_of_lt hij), ht']
    have e3 : ss.take i = ss' := (List.map_inj_right (fun a b h => by injection h)).mp e2
    rw [← e3] at hm
    exact take_mem g.nd ez hm
theorem scan_uniq {ok : Str → Prop} {xs : List V} {r q : Option Nat} (h1 : ScanR ok xs r) (h2 : ScanR ok xs q) : r = q := by
  cases r with
  | none =>
    obtain ⟨ss, e, g⟩ := h1
    cases q with
    | none => rfl
    | some i =>
      obtain ⟨ss', y, hy, ht, _, hb⟩ := h2
      exact (scan_no (j := xs.length) g (by rw [List.take_length]; exact e) (List.getElem?_eq_some_iff.mp hy).1 hy ht hb).elim
  | some i =>
    obtain ⟨ss, y, hy, ht, g, hb⟩ := h1
    cases q with
    | none =>
      obtain ⟨ss', e, g'⟩ := h2
      exact (scan_no (j := xs.length) g' (by rw [List.take_length]; exact e) (List.getElem?_eq_some_iff.mp hy).1 hy ht hb).elim
    | some j =>
      obtain ⟨ss', y', hy', ht', g', hb'⟩ := h2
      rcases Nat.lt_trichotomy i j with l | l | l
      · exact (scan_no g' ht' l hy ht hb).elim
      · rw [l]
      · exact (scan_no g ht l hy' ht' hb').elim
theorem tie_fun {ks : List Str} {H : Hp} {x : V} {p q : Pr} (h1 : TieOk ks H x p) (h2 : TieOk ks H x q) : p = q := by
  obtain ⟨a, b, e, _, _, _, rfl⟩ := h1
  obtain ⟨a', b', e', _, _, _, rfl⟩ := h2
  rw [e] at e'
  cases e'
  rfl
theorem tie_no {ks : List Str} {H : Hp} {xs : List V} {ps qs : List Pr} {i : Nat} {y : V} (g : TiesTo ks H xs ps) (hi : i < ps.length) (hy : xs[i]? = some y) (g' : TiesTo ks H xs qs) (hq : qs.length = i) (hb : ∀ p, TieOk ks H y p → p ∈ qs) : False := by
  have ep : ps[i]? = some ps[i] := List.getElem?_eq_getElem hi
  have hm := hb _ (g.ok i y _ hy ep)
  obtain ⟨k, hk⟩ := List.getElem?_of_mem hm
  have hk' : k < i := by
    rw [← hq]
    exact (List.getElem?_eq_some_iff.mp hk).1
  have hkl : k < xs.length := Nat.lt_trans hk' (Nat.lt_of_lt_of_le hi g.len)
  have ex : xs[k]? = some xs[k] := List.getElem?_eq_getElem hkl
  have ek : ps[k]? = some ps[k] := List.getElem?_eq_getElem (Nat.lt_trans hk' hi)
  have e1 := tie_fun (g.ok k _ _ ex ek) (g'.ok k _ _ ex hk)
  have := (List.getElem?_inj (Nat.lt_trans hk' hi) g.nd).mp (show ps[k]? = ps[i]? from by rw [ek, ep, e1])
  omega
theorem tie_uniq {ks : List Str} {H : Hp} {xs : List V} {r q : Option Nat} (h1 : TieR ks H xs r) (h2 : TieR ks H xs q) : r = q := by
  cases r with
  | none =>
    obtain ⟨ps, e, g⟩ := h1
    cases q with
    | none => rfl
    | some i =>
      obtain ⟨qs, y, hy, hl, g', hb⟩ := h2
      exact (tie_no g (by rw [e]; exact (List.getElem?_eq_some_iff.mp hy).1) hy g' hl hb).elim
  | some i =>
    obtain ⟨ps, y, hy, hl, g, hb⟩ := h1
    cases q with
    | none =>
      obtain ⟨qs, e, g'⟩ := h2
      exact (tie_no g' (by rw [e]; exact (List.getElem?_eq_some_iff.mp hy).1) hy g hl hb).elim
    | some j =>
      obtain ⟨qs, y', hy', hl', g', hb'⟩ := h2
      rcases Nat.lt_trichotomy i j with l | l | l
      · exact (tie_no g' (by omega) hy g hl hb).elim
      · rw [l]
      · exact (tie_no g (by omega) hy' g' hl' hb').elim
end E1

set_option Elab.async false
set_option linter.all false
set_option maxRecDepth 100000
set_option maxHeartbeats 4000000
/-! Own errors with one field: the __init__, and the raising. -/
namespace G0
open PySem PySem.Spec PyProof.Rows L2
/-- at e stands an error of the class at C, with these fields -/
def ExcAt (H : Hp) (e C : Addr) (fs : List (Str × V)) : Prop := ∃ d, H e = some (exo e C (some d)) ∧ H d = some (exd d fs) ∧ d ≠ e
def spI1 (C : Addr) (n : Str) : Sp := fun vs H Q _ => ∃ (a : Addr) (v : V), vs = [.ref a, v] ∧ H a = some (exo a C none) ∧
  ∀ H' d, H d = none → d ≠ a → H' a = some (exo a C (some d)) → H' d = some (exd d [(n, v)]) → (∀ b o, b ≠ a → H b = some o → H' b = some o) → Q .non H'
theorem visP {N ps : List Str} {sc : Scope} (S : FnScope N ps sc) {x : Str} (h : x ∈ ps) : Vis sc x := by
  rcases S.par x h with k | k
  · exact .inl k
  · exact .inr (.inl k)
section
variable {P : Program} {w : World} {K : PySem.W.Frag} {mg : Str → Option Value} {base : Heap} {q x : Str} {params : Arguments} {body : List Stmt} {scope : Scope} {C f : Addr} {fd : FuncData}
theorem ok_init1 {p1 p2 p3 p4 : Pos} (F : FunD K "__init__" q params body scope [] [] f fd) (hb : body = [.Assign [.Attribute (.Name "self" p1) x p2] (.Name x p3) p4]) (S : FnScope ["self", x] ["self", x] scope)
    (T : OexC K C) (no : PySem.W.findIn K (.ref C) x = some none) (hd : (x == ("__debug__" : Str)) = false) (hc : (x == ("__classdict__" : Str)) = false) : FnOk P w K mg base CX0 1 f fd ["self", x] (spI1 C x) := by
  subst hb
  refine F.ok S (fun vs H Q E h => ?_) (fun cdv A outer s H vs Q E hr h => ?_)
  · obtain ⟨a, v, rfl, _⟩ := h
    rfl
  · obtain ⟨a, v, rfl, ha, k⟩ := h
    refine ⟨_, PSs.nox (pss_one (ps_ost (pe_var (i := 0) rfl (visP S (by simp)) (by decide) (by decide)) (pe_var (i := 1) rfl (visP S (by simp)) hd hc))), ?_⟩
    refine ⟨v, rfl, .ref a, rfl, a, C, rfl, T, no, .inl ⟨ha, fun dx n ne => k _ dx n ne upd_same ?_ fun b o hb e => ?_⟩⟩
    · rw [upd_ne ne]
      exact upd_same
    · rw [upd_ne hb, upd_ne (ne_of_none e n)]
      exact e
end
/-- what is wanted of an error of the class at C with this field -/
def Raised (H : Hp) (C : Addr) (n : Str) (v : V) (E : XK) : Prop := ∀ d H', H d = none → H' d = some (.xd [(n, v)]) → (∀ b o, H b = some o → H' b = some o) → E (.ref C) (some d) H'
theorem Raised.of {H : Hp} {C : Addr} {n : Str} {v : V} {E : XK} {a : Addr} (h : Raised H C n v E) (na : H a = none) : spI1 C n [.ref a, v] (upd H a (exo a C none))
    (fun v H2 => v = .non ∧ ∃ (d : Addr) (fs : List (Str × V)), H2 a = some (exo a C (some d)) ∧ H2 d = some (exd d fs) ∧ H d = none ∧ E (.ref C) (some d) (upd (del H2 a) d (.xd fs))) (fun _ _ _ => False) := by
  refine ⟨a, v, rfl, upd_same, fun H' d nd ne ha hd k => ⟨rfl, d, _, ha, hd, ?_, ?_⟩⟩
  · rw [upd_ne ne] at nd
    exact nd
  · rw [upd_ne ne] at nd
    refine h d _ nd upd_same fun b o e => ?_
    have nb : b ≠ a := ne_of_none e na
    rw [upd_ne (ne_of_none e nd), del_ne nb]
    exact k b o nb (by rw [upd_ne nb]; exact e)
theorem Raised.mono {H H1 : Hp} {C : Addr} {n : Str} {v : V} {E : XK} (h : Raised H C n v E) (k : ∀ b o, H b = some o → H1 b = some o) : Raised H1 C n v E := fun d H' nd hd kk => h d H' (by
  cases e : H d with
  | none => rfl
  | some o =>
    rw [k d o e] at nd
    cases nd) hd fun b o e => kk b o (k b o e)
end G0

set_option Elab.async false
set_option linter.all false
set_option maxRecDepth 100000
set_option maxHeartbeats 4000000
/-! boards.py: class Board. -/
namespace E1
open PySem PySem.Spec PyProof.Rows L2 G0
abbrev mS (j : Nat) : Stmt := inClass (topS 22) j
/-- an error with one field: where it stands -/
structure ErrD (K : PySem.W.Frag) (mg : Str → Option Value) (i : Nat) (nm fl : Str) where
  C : Addr
  f : Addr
  fd : FuncData
  F : FunD K "__init__" (nm ++ ".__init__") (defArgs (inClass (topS i) 0)) (defBody (inClass (topS i) 0)) (defScope (inClass (topS i) 0)) [] [] f fd
  T : OexC K C
  no : PySem.W.findIn K (.ref C) fl = some none
  iC : PySem.W.findIn K (.ref C) "__init__" = some (some (.ref f))
  tI : PySem.W.typeIn K (.ref f) = some (.type "function")
  g : mg nm = some (.ref C)
/-- where the class Board stands -/
structure BoardD (K : PySem.W.Frag) (mg : Str → Option Value) where
  C : Addr
  g : mg "Board" = some (.ref C)
  O : OwnC K C
  noP : NoAttr K C "_places"
  noT : NoAttr K C "_ties"
  noR : NoAttr K C "_rim"
  noN : NoAttr K C "_near"
  f : Nat → Addr
  d : Nat → FuncData
  F0 : FunD K "__init__" "Board.__init__" (defArgs (mS 0)) (defBody (mS 0)) (defScope (mS 0)) [] [] (f 0) (d 0)
  F1 : FunD K "__eq__" "Board.__eq__" (defArgs (mS 1)) (defBody (mS 1)) (defScope (mS 1)) [] [] (f 1) (d 1)
  F2 : FunD K "places" "Board.places" (defArgs (mS 2)) (defBody (mS 2)) (defScope (mS 2)) [] [] (f 2) (d 2)
  F3 : FunD K "ties" "Board.ties" (defArgs (mS 3)) (defBody (mS 3)) (defScope (mS 3)) [] [] (f 3) (d 3)
  F4 : FunD K "rim" "Board.rim" (defArgs (mS 4)) (defBody (mS 4)) (defScope (mS 4)) [] [] (f 4) (d 4)
  F5 : FunD K "has_place" "Board.has_place" (defArgs (mS 5)) (defBody (mS 5)) (defScope (mS 5)) [] [] (f 5) (d 5)
  M0 : Mk K C (f 0)
  M2 : Meth K C "places" (f 2)
  M3 : Meth K C "ties" (f 3)
  M4 : Meth K C "rim" (f 4)
  M5 : Meth K C "has_place" (f 5)
  eqA : PySem.W.findIn K (.ref C) "__eq__" = some (some (.ref (f 1)))
  eqF : PySem.W.isFn K (.ref (f 1)) = true
  ne : ∀ (h : Heap) (x : Addr) (o : Obj), K.In h → h.get? x = some o → o.cls = .ref C → h.OwnEqNoNe x C (f 1) "object" [.type "object"]
  P : ErrD K mg 4 "BadPlaces" "index"
  T : ErrD K mg 6 "BadTies" "index"
  R : ErrD K mg 5 "BadRim" "index"
  nf : ∀ T ∈ ["NoneType", "bool", "int", "str", "list", "tuple", "dict"], PySem.W.notFirst K C (.type T) = true
  fNb : Addr
  dNb : FuncData
  FNb : FnS K 21 fNb dNb
  gNb : mg "neighbours" = some (.ref fNb)
/-- names, ties between them, pins among them -/
structure BdOk (pl : List Str) (ts : List Pr) (rm : List Str) : Prop where
  nm : ∀ z ∈ pl, nameB z = true
  tie : ∀ p ∈ ts, p.1 ∈ pl ∧ p.2 ∈ pl
  pin : ∀ z ∈ rm, z ∈ pl
/-- a board: its places, ties and rim; N: where it may lie -/
def BoardAt (N : Addr → Prop) (C : Addr) (H : Hp) (a : Addr) (pl : List Str) (ts : List Pr) (rm : List Str) : Prop :=
  ∃ (dx aP aT aR aN : Addr) (tv : List V) (l : Str → Addr), H a = some (.ins C dx [("_places", .ref aP), ("_ties", .ref aT), ("_rim", .ref aR), ("_near", .ref aN)]) ∧ H aP = some (.lst (pl.map V.str)) ∧ H aT = some (.lst tv) ∧ PrsAt H tv ts ∧
    H aR = some (.lst (rm.map V.str)) ∧ NearAt H aN pl (fun s => sortS (nb ts s)) l ∧ BdOk pl ts rm ∧ (N a ∧ N aP ∧ N aT ∧ N aR ∧ N aN ∧ (∀ s ∈ pl, N (l s)) ∧ ∀ t, V.ref t ∈ tv → N t)
theorem BoardAt.frame {N : Addr → Prop} {C : Addr} {H H' : Hp} {a : Addr} {pl : List Str} {ts : List Pr} {rm : List Str} (b : BoardAt N C H a pl ts rm) (S : ∀ c o, N c → H c = some o → H' c = some o) : BoardAt N C H' a pl ts rm := by
  obtain ⟨dx, aP, aT, aR, aN, tv, l, h1, h2, h3, h4, h5, h6, h7, n1, n2, n3, n4, n5, n6, n7⟩ := b
  refine ⟨dx, aP, aT, aR, aN, tv, l, S _ _ n1 h1, S _ _ n2 h2, S _ _ n3 h3, ⟨h4.1, fun i v q e1 e2 => ?_⟩, S _ _ n4 h5, ⟨S _ _ n5 h6.d, fun s hs => S _ _ (n6 s hs) (h6.at_ s hs), h6.inj⟩, h7, n1, n2, n3, n4, n5, n6, n7⟩
  obtain ⟨t, rfl, ht⟩ := h4.2 i v q e1 e2
  exact ⟨t, rfl, S _ _ (n7 t (List.mem_of_getElem? e1)) ht⟩
theorem BoardAt.same {N : Addr → Prop} {C : Addr} {H H' : Hp} {a : Addr} {pl : List Str} {ts : List Pr} {rm : List Str} (b : BoardAt N C H a pl ts rm) (S : Same H H') : BoardAt N C H' a pl ts rm := b.frame fun c o _ e => S c o e
theorem BoardAt.weak {N N' : Addr → Prop} {C : Addr} {H : Hp} {a : Addr} {pl : List Str} {ts : List Pr} {rm : List Str} (b : BoardAt N C H a pl ts rm) (k : ∀ c, N c → N' c) : BoardAt N' C H a pl ts rm := by
  obtain ⟨dx, aP, aT, aR, aN, tv, l, h1, h2, h3, h4, h5, h6, h7, n1, n2, n3, n4, n5, n6, n7⟩ := b
  exact ⟨dx, aP, aT, aR, aN, tv, l, h1, h2, h3, h4, h5, h6, h7, k _ n1, k _ n2, k _ n3, k _ n4, k _ n5, fun s hs => k _ (n6 s hs), fun t ht => k _ (n7 t ht)⟩
/-- where it is known to lie -/
theorem BoardAt.there {N : Addr → Prop} {C : Addr} {H : Hp} {a : Addr} {pl : List Str} {ts : List Pr} {rm : List Str} (b : BoardAt N C H a pl ts rm) : BoardAt (fun c => N c ∧ ∃ o, H c = some o) C H a pl ts rm := by
  obtain ⟨dx, aP, aT, aR, aN, tv, l, h1, h2, h3, h4, h5, h6, h7, n1, n2, n3, n4, n5, n6, n7⟩ := b
  refine ⟨dx, aP, aT, aR, aN, tv, l, h1, h2, h3, h4, h5, h6, h7, ⟨n1, _, h1⟩, ⟨n2, _, h2⟩, ⟨n3, _, h3⟩, ⟨n4, _, h5⟩, ⟨n5, _, h6.d⟩, fun s hs => ⟨n6 s hs, _, h6.at_ s hs⟩, fun t ht => ⟨n7 t ht, ?_⟩⟩
  obtain ⟨i, hi⟩ := List.getElem?_of_mem ht
  have hl : i < ts.length := by
    rw [← h4.1]
    exact (List.getElem?_eq_some_iff.mp hi).1
  obtain ⟨t', e, ht'⟩ := h4.2 i _ _ hi (List.getElem?_eq_getElem hl)
  cases e
  exact ⟨_, ht'⟩
/-- what Board(p, t, r) does -/
def MadeR {mg : Str → Option Value} (K : PySem.W.Frag) (D : BoardD K mg) (H : Hp) (p t r : V) (nx : List Str → List Pr → List Str → Prop) (E : XK) : Prop :=
  Kn D.C H p ∧ (
    (∃ i : Nat, ((itemsOf H p = none ∧ i = 0) ∨ ∃ xs, itemsOf H p = some xs ∧ xs.length ≤ 1000 ∧ KnAll D.C H xs ∧ ScanR (fun z => nameB z = true) xs (some i)) ∧ Raised H D.P.C "index" (.int i) E) ∨
    ∃ ps : List Str, itemsOf H p = some (ps.map V.str) ∧ ps.length ≤ 1000 ∧ (∀ z ∈ ps, z.length ≤ 1000) ∧ Good (fun z => nameB z = true) ps ∧ Kn D.C H t ∧ (
      (∃ i : Nat, ((itemsOf H t = none ∧ i = 0) ∨ ∃ xs, itemsOf H t = some xs ∧ xs.length ≤ 1000 ∧ KnTies D.C H xs ∧ TieR ps H xs (some i)) ∧ Raised H D.T.C "index" (.int i) E) ∨
      ∃ xs qs, itemsOf H t = some xs ∧ xs.length ≤ 1000 ∧ KnTies D.C H xs ∧ qs.length = xs.length ∧ TiesTo ps H xs qs ∧ Kn D.C H r ∧ (
        (∃ i : Nat, ((itemsOf H r = none ∧ i = 0) ∨ ∃ ys, itemsOf H r = some ys ∧ ys.length ≤ 1000 ∧ KnAll D.C H ys ∧ ScanR (fun z => z ∈ ps) ys (some i)) ∧ Raised H D.R.C "index" (.int i) E) ∨
        ∃ rs : List Str, itemsOf H r = some (rs.map V.str) ∧ rs.length ≤ 1000 ∧ (∀ z ∈ rs, z.length ≤ 1000) ∧ Good (fun z => z ∈ ps) rs ∧ nx ps qs rs)))
def spInit {mg : Str → Option Value} (K : PySem.W.Frag) (D : BoardD K mg) : Sp := fun vs H Q E => ∃ (x dx : Addr) (p t r : V), vs = [.ref x, p, t, r] ∧ H x = some (.ins D.C dx []) ∧
  MadeR K D H p t r (fun ps qs rs => ∀ H', BoardAt (fun b => b = x ∨ H b = none) D.C H' x (sortS ps) (sortPr qs) rs → (∀ b o, b ≠ x → H b = some o → H' b = some o) → Q .non H') E
theorem good_len {ok : Str → Prop} {rs : List Str} (g : Good ok rs) : True := trivial
theorem kn_strs {C : Addr} {H : Hp} {ss : List Str} (h : ∀ z ∈ ss, z.length ≤ 1000) : KnAll C H (ss.map V.str) := fun x hx => by
  obtain ⟨z, hz, rfl⟩ := List.mem_map.mp hx
  exact ⟨.str z, fun y e => by cases e; exact h z hz⟩
theorem scan_none {ok : Str → Prop} {ss : List Str} (g : Good ok ss) : ScanR ok (ss.map V.str) none := ⟨ss, rfl, g⟩
theorem Same.of {H H' : Hp} (h : ∀ b o, H b = some o → H' b = some o) : Same H H' := h
theorem lc_seqQ2 {K : PySem.W.Frag} {a : Addr} {xs : List V} {g : TG} {tt : TT} {te : TE} {vs : List Nat} {σ : L2.St} {H1 : Hp} {Qd : Addr → Hp → Prop} (hq : SqQ K H1 a xs)
    (h : ∀ D, H1 D = none → ∃ Pv : Nat → Hp → Prop, Pv 0 (upd H1 D (.lst [])) ∧ (∀ i H', i ≤ xs.length → Pv i H' → (∀ ys, SqL K H1 a ys → SqL K H' a ys) ∧ ∀ ys, SqT K H1 a ys → SqT K H' a ys) ∧
      (∀ i x H, xs[i]? = some x → Pv i H → g x (wipe σ vs) H fun σ2 H2 => wipe σ2 vs = wipe σ vs ∧ tt σ2 H2 fun b H3 =>
        if b = true then te σ2 H3 fun y H4 => ∃ acc, H4 D = some (.lst acc) ∧ acc.length < sizeLine ∧ Pv (i + 1) (upd H4 D (.lst (acc ++ [y]))) else Pv (i + 1) H3) ∧ ∀ H, Pv xs.length H → Qd D H) :
    (SqL K H1 a xs ∧ ∀ D, H1 D = none → LcW (Itl K a) g tt te vs σ H1 D (Qd D)) ∨ (SqT K H1 a xs ∧ ∀ D, H1 D = none → LcW (Itt K a) g tt te vs σ H1 D (Qd D)) := by
  rcases hq with hq | hq
  · refine .inl ⟨hq, fun D hD => ?_⟩
    obtain ⟨Pv, h0, hl, hs, hd⟩ := h D hD
    exact lc_any xs.length Pv h0 (fun i H' lt p => ⟨xs, xs[i], (hl i H' (Nat.le_of_lt lt) p).1 _ hq, by simp [lt]⟩) (fun H' p => ⟨xs, (hl _ H' (Nat.le_refl _) p).1 _ hq, Nat.le_refl _⟩) (fun i H' v H2 lt p y => by
      obtain ⟨rfl, hz⟩ := y
      exact hs i v H2 (hz xs ((hl i H2 (Nat.le_of_lt lt) p).1 _ hq)) p) hd
  · refine .inr ⟨hq, fun D hD => ?_⟩
    obtain ⟨Pv, h0, hl, hs, hd⟩ := h D hD
    exact lc_any xs.length Pv h0 (fun i H' lt p => ⟨xs, xs[i], (hl i H' (Nat.le_of_lt lt) p).2 _ hq, by simp [lt]⟩) (fun H' p => ⟨xs, (hl _ H' (Nat.le_refl _) p).2 _ hq, Nat.le_refl _⟩) (fun i H' v H2 lt p y => by
      obtain ⟨rfl, hz⟩ := y
      exact hs i v H2 (hz xs ((hl i H2 (Nat.le_of_lt lt) p).2 _ hq)) p) hd
theorem prs_snoc {H : Hp} {vs : List V} {ps : List Pr} {t : Addr} {q : Pr} (h : PrsAt H vs ps) (ht : H t = some (.tup [.str q.1, .str q.2])) : PrsAt H (vs ++ [.ref t]) (ps ++ [q]) := by
  refine ⟨by rw [List.length_append, List.length_append, h.1]; rfl, fun i v p h1 h2 => ?_⟩
  rcases Nat.lt_or_ge i vs.length with l | l
  · rw [List.getElem?_append_left l] at h1
    rw [List.getElem?_append_left (by rw [← h.1]; exact l)] at h2
    exact h.2 i v p h1 h2
  · rw [List.getElem?_append_right l] at h1
    rw [List.getElem?_append_right (by rw [← h.1]; exact l)] at h2
    rw [← h.1] at h2
    cases e : i - vs.length with
    | zero =>
      rw [e] at h1 h2
      cases h1
      cases h2
      exact ⟨t, rfl, ht⟩
    | succ n =>
      rw [e] at h1
      simp at h1
/-- all but x stays -/
def Bx (x : Addr) (H H' : Hp) : Prop := ∀ b o, b ≠ x → H b = some o → H' b = some o
theorem Bx.trans {x : Addr} {H H1 H2 : Hp} (a : Bx x H H1) (b : Bx x H1 H2) : Bx x H H2 := fun c o n e => b c o n (a c o n e)
theorem Bx.same {x : Addr} {H H1 : Hp} (S : Same H H1) : Bx x H H1 := fun c o _ e => S c o e
theorem Bx.free {x : Addr} {H H1 : Hp} {o : HO} (b : Bx x H H1) (hx : H1 x = some o) {c : Addr} (n : H1 c = none) : H c = none := by
  cases e : H c with
  | none => rfl
  | some u =>
    have ne : c ≠ x := fun z => by rw [z, hx] at n; cases n
    rw [b c u ne e] at n
    cases n
theorem Bx.at_ {x : Addr} {H : Hp} {o : HO} : Bx x H (upd H x o) := fun c u n e => by
  rw [upd_ne n]
  exact e
theorem Bx.new {x a : Addr} {H : Hp} {o : HO} (n : H a = none) : Bx x H (upd H a o) := .same (new_same n)
theorem Bx.items {x : Addr} {H H' : Hp} {v : V} {xs : List V} (b : Bx x H H') (hx : itemsOf H (.ref x) = none) (e : itemsOf H v = some xs) : itemsOf H' v = some xs := by
  obtain ⟨a, rfl, h⟩ := items_ref e
  have ne : a ≠ x := fun z => by rw [z, hx] at e; cases e
  exact items_at.mpr (h.elim (fun h => .inl (b _ _ ne h)) fun h => .inr (b _ _ ne h))
theorem Bx.prs {x : Addr} {H H' : Hp} {vs : List V} {ps : List Pr} (b : Bx x H H') (hx : ∀ xs, H x ≠ some (.tup xs)) (h : PrsAt H vs ps) : PrsAt H' vs ps := h.mono fun t xs e => b _ _ (fun z => hx xs (z ▸ e)) e
theorem items_ins {H : Hp} {x C dx : Addr} {fs : List (Str × V)} (h : H x = some (.ins C dx fs)) : itemsOf H (.ref x) = none := by
  show (match H x with
    | some (.lst xs) => some xs
    | some (.tup xs) => some xs
    | _ => none) = none
  rw [h]
abbrev ScanAt (ok : Str → Prop) (C : Addr) (H : Hp) (p : V) (i : Nat) : Prop := (itemsOf H p = none ∧ i = 0) ∨ ∃ xs, itemsOf H p = some xs ∧ xs.length ≤ 1000 ∧ KnAll C H xs ∧ ScanR ok xs (some i)
abbrev TieAt (ks : List Str) (C : Addr) (H : Hp) (p : V) (i : Nat) : Prop := (itemsOf H p = none ∧ i = 0) ∨ ∃ xs, itemsOf H p = some xs ∧ xs.length ≤ 1000 ∧ KnTies C H xs ∧ TieR ks H xs (some i)
theorem fwn_use {ok : Str → Prop} {C : Addr} {H : Hp} {p : V} {i : Nat} {Q : VK} (hc : ScanAt ok C H p i) (k : ∀ H', Same H H' → Q (.int (i : Nat)) H') : ScanW ok C H p Q := by
  rcases hc with ⟨e, rfl⟩ | ⟨xs, e, hl, hK, hs⟩
  · exact .inl ⟨e, k⟩
  · exact .inr ⟨xs, e, hl, hK, fun r H' hr S => by cases scan_uniq hr hs; exact k H' S⟩
theorem fwt_use {C : Addr} {H : Hp} {p : V} {ks : List Str} {i : Nat} {Q : VK} (hc : TieAt ks C H p i) (k : ∀ H', Same H H' → Q (.int (i : Nat)) H') : TieW ks C H p Q := by
  rcases hc with ⟨e, rfl⟩ | ⟨xs, e, hl, hK, hs⟩
  · exact .inl ⟨e, k⟩
  · exact .inr ⟨xs, e, hl, hK, fun r H' hr S => by cases tie_uniq hr hs; exact k H' S⟩
theorem scan_good {C : Addr} {H : Hp} {p : V} {ok : Str → Prop} {ss : List Str} {Q : VK} (e : itemsOf H p = some (ss.map V.str)) (hl : ss.length ≤ 1000) (hz : ∀ z ∈ ss, z.length ≤ 1000) (g : Good ok ss) (k : ∀ H', Same H H' → Q .non H') : ScanW ok C H p Q :=
  .inr ⟨_, e, by rw [List.length_map]; exact hl, kn_strs hz, fun r H' hr S => by cases scan_uniq hr (scan_none g); exact k H' S⟩
theorem tie_good {C : Addr} {H : Hp} {p : V} {ks : List Str} {xs : List V} {qs : List Pr} {Q : VK} (e : itemsOf H p = some xs) (hl : xs.length ≤ 1000) (hK : KnTies C H xs) (lq : qs.length = xs.length) (g : TiesTo ks H xs qs) (k : ∀ H', Same H H' → Q .non H') : TieW ks C H p Q :=
  .inr ⟨_, e, hl, hK, fun r H' hr S => by cases tie_uniq hr (show TieR ks H xs none from ⟨qs, lq, g⟩); exact k H' S⟩
theorem KnTies.same {C : Addr} {H H' : Hp} {xs : List V} (k : KnTies C H xs) (S : Same H H') : KnTies C H' xs := fun x hx => by
  obtain ⟨h1, h2⟩ := k x hx
  refine ⟨(h1.same S).1, fun ys e => ?_⟩
  have q1 := kn_items h1
  have q2 := kn_items (h1.same S).1
  have q3 := (h1.same S).2
  unfold isSeq at q1 q2
  rw [q3, q1, e] at q2
  cases ez : itemsOf H x with
  | none => rw [ez] at q2; cases q2
  | some zs =>
    have := items_same S ez
    rw [e] at this
    cases this
    exact ⟨(h2 _ ez).1, (h2 _ ez).2.same S⟩
theorem tie_back {C : Addr} {ks : List Str} {H H' : Hp} {x : V} {p : Pr} (k : Kn C H x) (S : Same H H') (h : TieOk ks H' x p) : TieOk ks H x p := by
  obtain ⟨a, b, e, h2⟩ := h
  refine ⟨a, b, ?_, h2⟩
  have q1 := kn_items k
  have q2 := kn_items (k.same S).1
  have q3 := (k.same S).2
  unfold isSeq at q1 q2
  rw [q3, q1, e] at q2
  cases ez : itemsOf H x with
  | none => rw [ez] at q2; cases q2
  | some zs =>
    have := items_same S ez
    rw [e] at this
    cases this
    rfl
theorem ties_same {ks : List Str} {H H' : Hp} {xs : List V} {ps : List Pr} (h : TiesTo ks H xs ps) (S : Same H H') : TiesTo ks H' xs ps := ⟨h.nd, h.len, fun j x p h1 h2 => tie_same S (h.ok j x p h1 h2)⟩
theorem none_same {C : Addr} {H H' : Hp} {v : V} (k : Kn C H v) (S : Same H H') (e : itemsOf H v = none) : itemsOf H' v = none := by
  have q1 := kn_items k
  have q2 := kn_items (k.same S).1
  have q3 := (k.same S).2
  unfold isSeq at q1 q2
  rw [q3, q1, e] at q2
  cases ez : itemsOf H' v with
  | none => rfl
  | some zs => rw [ez] at q2; cases q2
theorem tieR_same {C : Addr} {ks : List Str} {H H' : Hp} {xs : List V} {r : Option Nat} (k : KnTies C H xs) (S : Same H H') (h : TieR ks H xs r) : TieR ks H' xs r := by
  cases r with
  | none =>
    obtain ⟨ps, e, g⟩ := h
    exact ⟨ps, e, ties_same g S⟩
  | some i =>
    obtain ⟨ps, y, hy, hl, g, hb⟩ := h
    exact ⟨ps, y, hy, hl, ties_same g S, fun p hp => hb p (tie_back (k y (List.mem_of_getElem? hy)).1 S hp)⟩
section
variable {P : Program} {w : World} {K : PySem.W.Frag} {mg : Str → Option Value} {base : Heap} {C f : Addr} {fd : FuncData}
abbrev N_init : List Str := ["self", "places", "ties", "rim", "index", "tie"]
theorem sc_init : FnScope N_init ["self", "places", "ties", "rim"] (defScope (mS 0)) := ⟨rfl, rfl, rfl, by decide +kernel, rfl, by decide +kernel, by decide +kernel⟩
theorem sc_err2 : FnScope ["self", "index"] ["self", "index"] (defScope (inClass (topS 4) 0)) := ⟨rfl, rfl, rfl, by decide +kernel, rfl, by decide +kernel, by decide +kernel⟩
theorem sc_err3 : FnScope ["self", "index"] ["self", "index"] (defScope (inClass (topS 5) 0)) := ⟨rfl, rfl, rfl, by decide +kernel, rfl, by decide +kernel, by decide +kernel⟩
theorem sc_err4 : FnScope ["self", "index"] ["self", "index"] (defScope (inClass (topS 6) 0)) := ⟨rfl, rfl, rfl, by decide +kernel, rfl, by decide +kernel, by decide +kernel⟩
theorem ok_err2 (D : ErrD K mg 4 "BadPlaces" "index") : FnOk P w K mg base CX0 1 D.f D.fd ["self", "index"] (spI1 D.C "index") := ok_init1 D.F rfl sc_err2 D.T D.no (by decide) (by decide)
theorem ok_err3 (D : ErrD K mg 5 "BadRim" "index") : FnOk P w K mg base CX0 1 D.f D.fd ["self", "index"] (spI1 D.C "index") := ok_init1 D.F rfl sc_err3 D.T D.no (by decide) (by decide)
theorem ok_err4 (D : ErrD K mg 6 "BadTies" "index") : FnOk P w K mg base CX0 1 D.f D.fd ["self", "index"] (spI1 D.C "index") := ok_init1 D.F rfl sc_err4 D.T D.no (by decide) (by decide)
theorem bindsD {x q : Str} {params : Arguments} {body : List Stmt} {scope : Scope} {ps : List Str} (F : FunD K x q params body scope [] [] f fd)
    (h : ∀ (kV doc pm : Value) (an : Option Addr) (cdv ct : Value) (us : List Value), us.length = ps.length → bindArgs (PySem.W.fnOf x q params body scope .none kV doc pm an cdv ct) ⟨us, []⟩ = pure (ps.zip us)) : Binds K fd ps [] := by
  obtain ⟨oc, od, dV, kV, doc, pm, an, cdv, ct, osl, rfl, lk, hcd, hD, hK⟩ := F.ex
  rcases hD with ⟨_, rfl⟩ | ⟨e, _⟩
  · exact Binds.all fun us hl => h kV doc pm an cdv ct us hl
  · exact absurd rfl e
theorem bE2 (D : ErrD K mg 4 "BadPlaces" "index") : Binds K D.fd ["self", "index"] [] := bindsD D.F fun _ _ _ _ _ _ us hl => match us, hl with | [_, _], _ => rfl
theorem bE3 (D : ErrD K mg 5 "BadRim" "index") : Binds K D.fd ["self", "index"] [] := bindsD D.F fun _ _ _ _ _ _ us hl => match us, hl with | [_, _], _ => rfl
theorem bE4 (D : ErrD K mg 6 "BadTies" "index") : Binds K D.fd ["self", "index"] [] := bindsD D.F fun _ _ _ _ _ _ us hl => match us, hl with | [_, _], _ => rfl
theorem bNb (D : BoardD K mg) : Binds K D.dNb ["places", "ties"] [] := D.FNb.binds fun _ _ _ _ _ _ us hl => match us, hl with | [_, _], _ => rfl
theorem ok_init (B : BoardD K mg) (D : NamesD K mg) (T : TxtN K mg) : FnOk P w K mg base (L2.CX P w) 4 (B.f 0) (B.d 0) ["self", "places", "ties", "rim"] (spInit K B) := by
  have GW : FnOk P w K mg base CX0 2 D.fW D.dW ["things"] (spFwn B.C) := ok_fwn D T B.O
  have GU : FnOk P w K mg base CX0 2 D.fU D.dU ["things", "known"] (spFwu K B.C) := ok_fwu D T B.O
  have GX : FnOk P w K mg base CX0 3 D.fX D.dX ["things", "known"] (spFwt K B.C) := ok_fwt D T B.O
  have GT : FnOk P w K mg base CX0 1 D.fT D.dT ["pair"] spTold := ok_told D T
  have GN : FnOk P w K mg base CX0 1 B.fNb B.dNb ["places", "ties"] spNb := ok_nb B.FNb T
  refine B.F0.ok sc_init (fun vs H Q E h => ?_) (fun cdv A outer s H vs Q E hr h => ⟨_, pss_cons (ps_set (i := 4) sc_init.nd rfl (Or.inl rfl) (pe_call GW (hr.mono (by decide)) (by rfl) D.gW D.FW.kp (bW D) .nil pass0 (pa_cons (pv 1) pa_nil)))
    (pss_cons (ps_if (pt_cmpR op_notN (pv 4) pe_non (nomark _)) (pss_one (ps_raise rfl (takes_of rfl rfl rfl rfl) (pmk_oex B.P.T B.P.iC B.P.tI (ok_err2 B.P) (hr.mono (by decide)) (bE2 B.P) .nil pass0 (by rfl) B.P.g (by exact pa_cons (pv 4) pa_nil)))) pss_nil)
    (pss_cons (ps_set (i := 4) sc_init.nd rfl (Or.inl rfl) (pe_call GX hr (by rfl) D.gX D.FX.kp (bX D) .nil pass0 (pa_cons (pv 2) (pa_cons (pv 1) pa_nil))))
    (pss_cons (ps_if (pt_cmpR op_notN (pv 4) pe_non (nomark _)) (pss_one (ps_raise rfl (takes_of rfl rfl rfl rfl) (pmk_oex B.T.T B.T.iC B.T.tI (ok_err4 B.T) (hr.mono (by decide)) (bE4 B.T) .nil pass0 (by rfl) B.T.g (by exact pa_cons (pv 4) pa_nil)))) pss_nil)
    (pss_cons (ps_set (i := 4) sc_init.nd rfl (Or.inl rfl) (pe_call GU (hr.mono (by decide)) (by rfl) D.gU D.FU.kp (bU D) .nil pass0 (pa_cons (pv 3) (pa_cons (pv 1) pa_nil))))
    (pss_cons (ps_if (pt_cmpR op_notN (pv 4) pe_non (nomark _)) (pss_one (ps_raise rfl (takes_of rfl rfl rfl rfl) (pmk_oex B.R.T B.R.iC B.R.tI (ok_err3 B.R) (hr.mono (by decide)) (bE3 B.R) .nil pass0 (by rfl) B.R.g (by exact pa_cons (pv 4) pa_nil)))) pss_nil)
    (pss_cons (ps_fld (pv 0) (pe_callB cr_sortQ (by rfl) T.sorted boot_sorted (pa_cons (pv 1) pa_nil)) (by rfl))
    (pss_cons (ps_fld (pv 0) (pe_callB cr_sortP (by rfl) T.sorted boot_sorted (pa_cons (pe_lc (own := [("tie", 5)]) (tt := tYes) rfl sc_init.nd (pi_seqQ (pv 2)) (blkOk_by (own := [("tie", 5)]) (N := N_init) (sc := defScope (mS 0)) (by decide +kernel)) (fun _ _ _ _ _ => pg_name (i := 5) sc_init.nd rfl (Or.inl rfl)) (fun _ _ _ _ _ => pts_nil) (fun _ _ _ _ _ => pe_call GT (hr.mono (by decide)) (by rfl) D.gT D.FT.kp (bT D) .nil pass0 (pa_cons (pv 5) pa_nil))) pa_nil)) (by rfl))
    (pss_cons (ps_fld (pv 0) (pe_callTy call_list_of (by rfl) T.list PyProof.Rows.boot_list (pa_cons (pv 3) pa_nil)) (by rfl))
    (pss_one (ps_fld (pv 0) (pe_call GN (hr.mono (by decide)) (by rfl) B.gNb B.FNb.kp (bNb B) .nil pass0 (pa_cons (pe_fld (pv 0) rfl) (pa_cons (pe_fld (pv 0) rfl) pa_nil))) (by rfl)))))))))))
    , ?_⟩)
  · obtain ⟨x, dx, p, t, r, rfl, _⟩ := h
    rfl
  · obtain ⟨x, dx, p, t, r, rfl, hx, hkp, h⟩ := h
    refine ⟨_, rfl, p, rfl, hkp, ?_⟩
    rcases h with ⟨i, hc, hR⟩ | ⟨ps, ep, lp, sp, gp, hkt, h⟩
    · refine fwn_use hc fun H1 S1 => ⟨_, rfl, rfl, _, rfl, ?_⟩
      rw [show (!decide (V.int (i : Nat) = V.non)) = true from by rw [decide_eq_false (by intro z; cases z)]; rfl]
      refine iteT ⟨_, rfl, by show 1 ≤ 1000; decide, fun a na => ?_⟩
      exact (hR.mono S1).of na
    refine scan_good ep lp sp gp fun H1 S1 => ⟨_, rfl, rfl, _, rfl, ?_⟩
    refine iteF ?_
    obtain ⟨ap, rfl, _⟩ := items_ref ep
    refine ⟨_, rfl, _, rfl, t, ap, ps, rfl, (hkt.same S1).1, items_Q (items_same S1 ep), ?_⟩
    rcases h with ⟨i, hc, hR⟩ | ⟨xs, qs, et, lt, kt, lq, tq, hkr, h⟩
    · have hc1 : TieAt ps B.C H1 t i := by
        rcases hc with ⟨e, h0⟩ | ⟨xs, e, hl, hK, hs⟩
        · exact .inl ⟨none_same hkt S1 e, h0⟩
        · exact .inr ⟨xs, items_same S1 e, hl, hK.same S1, tieR_same hK S1 hs⟩
      refine fwt_use hc1 fun H2 S2 => ⟨_, rfl, rfl, _, rfl, ?_⟩
      rw [show (!decide (V.int (i : Nat) = V.non)) = true from by rw [decide_eq_false (by intro z; cases z)]; rfl]
      refine iteT ⟨_, rfl, by show 1 ≤ 1000; decide, fun a na => ?_⟩
      exact (hR.mono (S1.trans S2)).of na
    refine tie_good (items_same S1 et) lt (kt.same S1) lq (ties_same tq S1) fun H2 S2 => ⟨_, rfl, rfl, _, rfl, iteF ?_⟩
    have S12 := S1.trans S2
    refine ⟨_, rfl, _, rfl, r, ap, ps, rfl, (hkr.same S12).1, items_Q (items_same S12 ep), ?_⟩
    rcases h with ⟨i, hc, hR⟩ | ⟨rs, er, lr, sr, gr, k⟩
    · have hc1 : ScanAt (fun z => z ∈ ps) B.C H2 r i := by
        rcases hc with ⟨e, h0⟩ | ⟨ys, e, hl, hK, hs⟩
        · exact .inl ⟨none_same hkr S12 e, h0⟩
        · exact .inr ⟨ys, items_same S12 e, hl, hK.same S12, hs⟩
      refine fwn_use hc1 fun H3 S3 => ⟨_, rfl, rfl, _, rfl, ?_⟩
      rw [show (!decide (V.int (i : Nat) = V.non)) = true from by rw [decide_eq_false (by intro z; cases z)]; rfl]
      refine iteT ⟨_, rfl, by show 1 ≤ 1000; decide, fun a na => ?_⟩
      exact (hR.mono (S12.trans S3)).of na
    refine scan_good (items_same S12 er) lr sr gr fun H3 S3 => ⟨_, rfl, rfl, _, rfl, iteF ?_⟩
    have S := S12.trans S3
    refine ⟨_, rfl, ap, ps, rfl, items_Q (K := K) (items_same S ep), fun q1 n1 => ⟨_, rfl, x, B.C, dx, [], rfl, ?_, B.O.cl, B.noP, by show 0 < 1000; decide, ?_⟩⟩
    · rw [upd_ne (ne_of_none (S _ _ hx) n1)]
      exact S _ _ hx
    have ix : itemsOf H (.ref x) = none := items_ins hx
    have x3 : x ≠ q1 := ne_of_none (S _ _ hx) n1
    have B1 : Bx x H (upd (upd H3 q1 (.lst ((sortS ps).map V.str))) x (.ins B.C dx [("_places", .ref q1)])) := ((Bx.same S).trans (Bx.new n1)).trans Bx.at_
    obtain ⟨at_, rfl, _⟩ := items_ref et
    refine ⟨_, rfl, at_, xs, rfl, lc_seqQ2 (items_Q (K := K) (B1.items ix et)) fun D hD => ⟨fun i H' => ∃ acc, H' D = some (.lst acc) ∧ acc.length = i ∧ PrsAt H' acc (qs.take i) ∧ (∀ t, V.ref t ∈ acc → H t = none) ∧ Same (upd (upd H3 q1 (.lst ((sortS ps).map V.str))) x (.ins B.C dx [("_places", .ref q1)])) H',
      ⟨[], upd_same, rfl, PrsAt.nil, fun t ht => (by cases ht), new_same hD⟩, fun i H' _ ⟨_, _, _, _, _, S'⟩ => same_LT S', ?_, ?_⟩⟩
    · rintro i y H' hy ⟨acc, hacc, la, pa, fa, S'⟩
      have hiq : i < qs.length := by
        rw [lq]
        exact (List.getElem?_eq_some_iff.mp hy).1
      have eq : qs[i]? = some qs[i] := List.getElem?_eq_getElem hiq
      obtain ⟨a1, b1, e1, _, _, _, e2⟩ := tq.ok i y _ hy eq
      refine ⟨rfl, yes_of ⟨_, rfl, y, a1, b1, rfl, items_same S' (B1.items ix e1), fun t2 H4 nt2 ht2 S4 => ⟨acc, S4 _ _ hacc, ?_, acc ++ [.ref t2], upd_same, ?_, ?_, ?_, ?_⟩⟩⟩
      · exact small1000 (by omega)
      · rw [List.length_append, la]; rfl
      · rw [take_snoc eq]
        rw [e2] at ht2
        refine (prs_snoc (pa.mono fun t xs e => S4 _ _ e) ht2).mono fun t xs e => ?_
        rw [upd_ne (ne_of e (S4 _ _ hacc) (fun z => by cases z))]
        exact e
      · intro t ht
        rcases List.mem_append.mp ht with ht | ht
        · exact fa t ht
        · cases List.mem_singleton.mp ht
          exact B1.free (o := .ins B.C dx [("_places", .ref q1)]) upd_same (S'.free nt2)
      · exact fun b o e => by
          rw [upd_ne (ne_of_none e hD)]
          exact S4 _ _ (S' _ _ e)
    · rintro H4 ⟨acc, hacc, la, pa, fa, S4⟩
      rw [← lq, List.take_length] at pa
      refine ⟨D, acc, qs, rfl, SqL.of hacc, pa, fun q2 ys n2 pyy hy => ⟨_, rfl, x, B.C, dx, [("_places", .ref q1)], rfl, ?_, B.O.cl, B.noT, by show 1 < 1000; decide, ?_⟩⟩
      · exact new_same n2 _ _ (S4 _ _ upd_same)
      have e1 : putF "_ties" (.ref q2) [("_places", .ref q1)] = [(("_places" : Str), V.ref q1), ("_ties", .ref q2)] := rfl
      have e2 : ∀ q3, putF "_rim" (.ref q3) [("_places", .ref q1), ("_ties", .ref q2)] = [(("_places" : Str), V.ref q1), ("_ties", .ref q2), ("_rim", .ref q3)] := fun _ => rfl
      have e3 : ∀ q3 q4, putF "_near" (.ref q4) [("_places", .ref q1), ("_ties", .ref q2), ("_rim", .ref q3)] = [(("_places" : Str), V.ref q1), ("_ties", .ref q2), ("_rim", .ref q3), ("_near", .ref q4)] := fun _ _ => rfl
      obtain ⟨ar, rfl, _⟩ := items_ref er
      have x4 : H4 x = some (.ins B.C dx [("_places", .ref q1)]) := S4 _ _ upd_same
      have xq2 : x ≠ q2 := ne_of_none x4 n2
      have B5 : Bx x H (upd (upd H4 q2 (.lst ys)) x (.ins B.C dx (putF "_ties" (.ref q2) [("_places", .ref q1)]))) := ((B1.trans (Bx.same S4)).trans (Bx.new n2)).trans Bx.at_
      rw [e1] at B5 ⊢
      refine ⟨_, rfl, ar, _, rfl, items_Q (K := K) (B5.items ix er), fun q3 n3 => ⟨_, rfl, x, B.C, dx, _, rfl, new_same n3 _ _ upd_same, B.O.cl, B.noR, by show 2 < 1000; decide, ?_⟩⟩
      rw [e2]
      have xq3 : x ≠ q3 := ne_of_none upd_same n3
      have h1 : ∀ (H' : Hp), Bx x (upd (upd H3 q1 (.lst ((sortS ps).map V.str))) x (.ins B.C dx [("_places", .ref q1)])) H' → H' q1 = some (.lst ((sortS ps).map V.str)) := fun H' b => b _ _ x3.symm (by rw [upd_ne x3.symm]; exact upd_same)
      have B45 : Bx x (upd (upd H3 q1 (.lst ((sortS ps).map V.str))) x (.ins B.C dx [("_places", .ref q1)])) (upd (upd H4 q2 (.lst ys)) x (.ins B.C dx [("_places", .ref q1), ("_ties", .ref q2)])) := ((Bx.same S4).trans (Bx.new n2)).trans Bx.at_
      have B56 : Bx x (upd (upd H4 q2 (.lst ys)) x (.ins B.C dx [("_places", .ref q1), ("_ties", .ref q2)])) (upd (upd (upd (upd H4 q2 (.lst ys)) x (.ins B.C dx [("_places", .ref q1), ("_ties", .ref q2)])) q3 (.lst (rs.map V.str))) x (.ins B.C dx [("_places", .ref q1), ("_ties", .ref q2), ("_rim", .ref q3)])) := (Bx.new n3).trans Bx.at_
      have hq1 := h1 _ (B45.trans B56)
      have hq2 := B56 q2 _ xq2.symm (show (upd (upd H4 q2 (.lst ys)) x (.ins B.C dx [("_places", .ref q1), ("_ties", .ref q2)])) q2 = some (.lst ys) from by rw [upd_ne xq2.symm]; exact upd_same)
      have nx4 : ∀ ws, H4 x ≠ some (.tup ws) := fun ws z => by rw [x4] at z; cases z
      have py6 : PrsAt _ ys (sortPr qs) := Bx.prs (((Bx.new n2).trans Bx.at_).trans B56) nx4 hy
      have hq3 : (upd (upd (upd (upd H4 q2 (.lst ys)) x (.ins B.C dx [("_places", .ref q1), ("_ties", .ref q2)])) q3 (.lst (rs.map V.str))) x (.ins B.C dx [("_places", .ref q1), ("_ties", .ref q2), ("_rim", .ref q3)])) q3 = some (.lst (rs.map V.str)) := by
        rw [upd_ne xq3.symm]
        exact upd_same
      have inp : ∀ p ∈ sortPr qs, p.1 ∈ sortS ps ∧ p.2 ∈ sortS ps := fun p hp => by
        obtain ⟨j, hj⟩ := List.getElem?_of_mem (sortPr_mem.mp hp)
        have hjx : j < xs.length := by
          rw [← lq]
          exact (List.getElem?_eq_some_iff.mp hj).1
        obtain ⟨a1, b1, _, _, m1, m2, rfl⟩ := tq.ok j _ p (List.getElem?_eq_getElem hjx) hj
        unfold tp
        split
        · exact ⟨sortS_mem.mpr m2, sortS_mem.mpr m1⟩
        · exact ⟨sortS_mem.mpr m1, sortS_mem.mpr m2⟩
      refine ⟨_, rfl, x, B.C, dx, _, _, rfl, upd_same, B.O.cl, B.noP, rfl, _, rfl, x, B.C, dx, _, _, rfl, upd_same, B.O.cl, B.noT, rfl, ?_⟩
      refine ⟨q1, q2, sortS ps, ys, sortPr qs, rfl, hq1, hq2, py6, (sortS_perm ps).nodup_iff.mpr gp.nd, by rw [sortS_len]; exact lp, by rw [sortPr_len]; omega, inp, fun q4 l H7 N7 n4 nl S7 => ?_⟩
      refine ⟨_, rfl, x, B.C, dx, _, rfl, S7 _ _ upd_same, B.O.cl, B.noN, by show 3 < 1000; decide, ?_⟩
      rw [e3]
      have B7 : Bx x H (upd H7 x (.ins B.C dx [("_places", .ref q1), ("_ties", .ref q2), ("_rim", .ref q3), ("_near", .ref q4)])) := ((B5.trans B56).trans (Bx.same S7)).trans Bx.at_
      have K7 : Bx x H7 (upd H7 x (.ins B.C dx [("_places", .ref q1), ("_ties", .ref q2), ("_rim", .ref q3), ("_near", .ref q4)])) := Bx.at_
      have x7 : H7 x = some (.ins B.C dx [("_places", .ref q1), ("_ties", .ref q2), ("_rim", .ref q3)]) := S7 _ _ upd_same
      refine k _ ⟨dx, q1, q2, q3, q4, ys, l, upd_same, K7 _ _ x3.symm (S7 _ _ hq1), K7 _ _ xq2.symm (S7 _ _ hq2), Bx.prs K7 (fun ws z => by rw [x7] at z; cases z) (py6.mono fun t ws e => S7 _ _ e), K7 _ _ xq3.symm (S7 _ _ hq3), ?_, ⟨fun z hz => gp.all z (sortS_mem.mp hz), inp, fun z hz => sortS_mem.mpr (gr.all z hz)⟩, .inl rfl, .inr (S.free n1), .inr ((B1.trans (Bx.same S4)).free x4 n2), .inr (B5.free upd_same n3), .inr ((B5.trans B56).free upd_same n4), fun s hs => .inr ((B5.trans B56).free upd_same (nl s hs)), fun t ht => .inr (fa t (pyy.mem_iff.mp ht))⟩ B7
      have nel : ∀ {b : Addr} {o : HO}, H7 b = some o → (∀ f, o ≠ .ins B.C dx f) → b ≠ x := fun e f z => by
        rw [z, x7] at e
        cases e
        exact f _ rfl
      exact ⟨K7 _ _ (nel N7.d (fun f z => by cases z)) N7.d, fun s hs => K7 _ _ (nel (N7.at_ s hs) (fun f z => by cases z)) (N7.at_ s hs), N7.inj⟩
end
end E1

set_option Elab.async false
set_option linter.all false
set_option maxRecDepth 100000
set_option maxHeartbeats 4000000
/-! == and != where the left one has an __eq__ of its own; making and asking by keywords alone. -/
namespace E1
open PySem PySem.Spec PyProof.Rows L2 G0
def knTys : List String := ["NoneType", "bool", "int", "str", "list", "tuple", "dict"]
section
variable {X : Cx} {pins : List (Addr × Obj)} {σ : L2.St} {H : Hp} {s : Shared} {C : Addr}
theorem ty_at {M : Model} {h : Heap} {a : Addr} {o : Obj} (e : h.get? a = some o) : PySem.W.Looks M h (typeOf (.ref a)) o.cls := (PySem.W.Looks.ld e).andThen .now
theorem kn_type {M : Model} {v : V} {u : Value} (I : Inv X pins σ H s) (k : Kn C H v) (r : RelV v u) (nf : ∀ T ∈ knTys, PySem.W.notFirst X.K C (.type T) = true) : ∃ tb, PySem.W.Looks M s.heap (typeOf u) tb ∧ PySem.W.notFirst X.K C tb = true := by
  cases k with
  | non => cases (show u = Value.none from r); exact ⟨_, .of_pure rfl, nf "NoneType" (by decide)⟩
  | bl b => cases (show u = Value.bool b from r); exact ⟨_, .of_pure rfl, nf "bool" (by decide)⟩
  | int i => obtain ⟨t, e⟩ := (show ∃ t, u = Value.int i t from r); cases e; exact ⟨_, .of_pure rfl, nf "int" (by decide)⟩
  | str x => obtain ⟨t, e⟩ := (show ∃ t, u = Value.str x t from r); cases e; exact ⟨_, .of_pure rfl, nf "str" (by decide)⟩
  | @lst a xs e =>
    cases (show u = Value.ref a from r)
    obtain ⟨_, _, n, _, h1⟩ := (show ObjOk X.prog X.w H s.heap a (.lst xs) from I.hok a _ e)
    exact ⟨_, ty_at h1, nf "list" (by decide)⟩
  | @tup a xs e =>
    cases (show u = Value.ref a from r)
    obtain ⟨_, _, _, p⟩ := (show ObjOk X.prog X.w H s.heap a (.tup xs) from I.hok a _ e)
    obtain ⟨o, h1, h2, _⟩ := p
    exact ⟨_, ty_at h1, by rw [h2]; exact nf "tuple" (by decide)⟩
  | @dic a kvs e =>
    cases (show u = Value.ref a from r)
    obtain ⟨_, _, vs, _, p⟩ := (show ObjOk X.prog X.w H s.heap a (.dK kvs) from I.hok a _ e)
    obtain ⟨o, es, ep, h1, h2, _⟩ := p
    exact ⟨_, ty_at h1, by rw [h2.1]; exact nf "dict" (by decide)⟩
  | @own a dx fs e =>
    cases (show u = Value.ref a from r)
    obtain ⟨mA, J, _⟩ := ins_get I.hok e
    obtain ⟨od, J, _⟩ := J.look
    exact ⟨_, J.type, by simp [PySem.W.notFirst]⟩
end
section
variable {X : Cx} {CX : CXT} {n : Nat} {C f : Addr} {fd : FuncData} {ps : List Str} {sp : Sp} {E : XK}
/-- x == y, x of the class at C -/
def rBEq (C : Addr) (sp : Sp) (E : XK) : R2 := fun x y H Q => ∃ a dx fs, x = .ref a ∧ H a = some (.ins C dx fs) ∧ Kn C H y ∧ sp [x, y] H Q E
theorem op_beq (F : FnOk X.prog X.w X.K X.mg X.base CX n f fd ps sp) (hr : Room n X.A) (hs : PySem.W.findIn X.K (.ref C) "__eq__" = some (some (.ref f))) (hf : PySem.W.isFn X.K (.ref f) = true) (hb : Binds X.K fd ps []) (hx : Passes CX X E)
    (nf : ∀ T ∈ knTys, PySem.W.notFirst X.K C (.type T) = true) : OpR X (compareOp .Eq) (rBEq C sp E) := by
  intro pins s σ H x y v u Q I rx ry h
  obtain ⟨a, dx, fs, rfl, ha, kn, q⟩ := h
  cases (show v = Value.ref a from rx)
  obtain ⟨mA, J, _⟩ := ins_get I.hok ha
  obtain ⟨od, J, _⟩ := J.look
  obtain ⟨tb, L, hn⟩ := kn_type (M := model X.prog X.w) I kn ry nf
  obtain ⟨m, hF⟩ := I.fr
  show wpAny _ _ (richCompare .Eq (.ref a) u) _ _ _
  refine PySem.W.cmp_K (op := .Eq) (tb := tb) hr.units0 hF I.ok.mod.kin J L hn hs hf ?_
  refine wpAny_mono (run_fn (us := [.ref a, u]) (vs := [.ref a, y]) (ds := []) (dvs := []) F hr hb .nil hx I (.cons rfl (.cons ry .nil)) q) (fun w s' z => ?_) fun _ _ x => x
  obtain ⟨z', H', I', rz, qz⟩ := z
  exact SlX.cmpback rz ⟨z', H', I', rz, qz⟩
/-- x != y, x of the class at C, which has no __ne__ of its own -/
def rBNe (C : Addr) (sp : Sp) (E : XK) : R2 := fun x y H Q => ∃ a dx fs b, x = .ref a ∧ y = .ref b ∧ H a = some (.ins C dx fs) ∧ Kn C H y ∧ sp [x, y] H (fun z H' => ∃ r, z = .bl r ∧ Q (.bl (!r)) H') E
theorem op_bne (F : FnOk X.prog X.w X.K X.mg X.base CX n f fd ps sp) (hr : Room (n + 1) X.A) (hb : Binds X.K fd ps []) (hx : Passes CX X E)
    (hne : ∀ (h : Heap) (x : Addr) (o : Obj), X.K.In h → h.get? x = some o → o.cls = .ref C → h.OwnEqNoNe x C f "object" [.type "object"])
    (nf : ∀ T ∈ knTys, PySem.W.notFirst X.K C (.type T) = true) : OpR X (compareOp .NotEq) (rBNe C sp E) := by
  intro pins s σ H x y v u Q I rx ry h
  obtain ⟨a, dx, fs, b, rfl, rfl, ha, kn, q⟩ := h
  cases (show v = Value.ref a from rx)
  cases (show u = Value.ref b from ry)
  obtain ⟨mA, J0, _⟩ := ins_get I.hok ha
  obtain ⟨od, J, _⟩ := J0.look
  obtain ⟨tb, L, hn⟩ := kn_type (M := model X.prog X.w) I kn ry nf
  obtain ⟨m, hF⟩ := I.fr
  have XE := hne s.heap a _ I.kIn J0.obj rfl
  have hu : X.A.units < cLine := hr.units0
  have hu1 : X.A.units + 1 < cLine := by
    have := (show Room n X.A.in1 from hr.in1).units0
    exact this
  have one : wpAny (model X.prog X.w) X.A (tryCompare (.ref a) "__ne__" (.ref b)) (fun r s' => ∃ w, r = some w ∧ EP X pins σ Q w s') X.xe s := by
    refine tryCompare_ne_ownEq PySem.F.cmp_object XE hu1 ?_
    have hl := F.len _ _ _ _ q
    refine wpAny_call (codeAny_mono (F.run X.A.in1 X.stack s H ⟨[.ref a, .ref b], []⟩ [.ref a, .ref b] [.ref a, .ref b] _ E hr.in1 I.env0.in1 (by
      have := hb s [.ref a, .ref b] I.kIn (by simpa using hl)
      simpa using this) (.cons rfl (.cons rfl .nil)) q) fun r s' hq => ?_)
    cases r with
    | error e => exact hx pins σ H s e s' I hq
    | ok fl =>
      cases fl with
      | ret w =>
        obtain ⟨z, H', I', rz, r, ez, qz⟩ := I.after hq
        subst ez
        cases (show w = Value.bool r from rz)
        exact ⟨r, rfl, _, rfl, .bl (!r), H', I', rfl, qz⟩
      | next => exact False.elim hq
      | brk => exact False.elim hq
      | cont => exact False.elim hq
  show wpAny _ _ (richCompare .NotEq (.ref a) (.ref b)) _ _ _
  unfold richCompare
  simp only [oneThing_ref]
  refine wpAny_holding (wpAny_bind (wpAny_cRoomFor hu ?_))
  refine wpAny_bind (J.type.here (wpAny_bind (L.here ?_)))
  split
  · rename_i q'
    have e : PySem.W.subIn X.K tb (.ref C) = some false := by
      rcases Bool.or_eq_true_iff.mp hn with e | e
      · rw [beq_iff_eq.mp e] at q'; simp at q'
      · exact beq_iff_eq.mp e
    refine wpAny_bind ((PySem.W.looks_subIn I.kIn e).here ?_)
    simp only [Bool.false_eq_true, if_false]
    refine wpAny_bind (wpAny_mono one (fun r s' z => ?_) fun _ _ e => e)
    obtain ⟨v, rfl, hq⟩ := z
    exact wpAny_pure hq
  · refine wpAny_bind (wpAny_pure ?_)
    simp only [Bool.false_eq_true, if_false]
    refine wpAny_bind (wpAny_mono one (fun r s' z => ?_) fun _ _ e => e)
    obtain ⟨v, rfl, hq⟩ := z
    exact wpAny_pure hq
end
section
variable {X : Cx} {CX : CXT} {k n : Nat} {f C : Addr} {fd : FuncData} {ps ks : List Str} {sp : Sp} {E : XK} {x m : Str} {p pos apos : Pos} {o : Expr} {kws : List Keyword} {ta : TE} {tk : TA} {g : List Value → List Value → List Value} {gV : List V → List V → List V}
/-- C(k = v, ..) -/
theorem pe_make0K (M : Mk X.K C f) (F : FnOk X.prog X.w X.K X.mg X.base CX k f fd ps sp) (hr : Room (k + 1) X.A) (hg : Gl X x) (hm : X.mg x = some (.ref C)) (hb : KBn X.K fd ps 1 ks g gV) (hx : Passes CX X E)
    (hkw : PK X kws tk) (hall : (backToKw pos (keywordEach kws X.env)).all (·.1.isSome) = true := by rfl) (hks : (backToKw pos (keywordEach kws X.env)).filterMap (·.1) = ks := by rfl)
    (hdb : (x == ("__debug__" : Str)) = false := by decide)
    (hpl : ((backTo pos (starEach [] X.env)).any (·.1) || (backToKw pos (keywordEach kws X.env)).any (·.1.isNone)) = false := by rfl) :
    PE X (.Call (.Name x p) [] kws pos) (tMakeN C 0 ks.length sp gV E tNil tk) := by
  refine ⟨fun pins s σ H Q I h => ?_⟩
  refine wpAny_Call_Name_kw (ld_glob I hg hm ?_ hdb)
  refine PySem.W.callWith_KW0 (h₀ := X.base) I.ok.mod.kin M.kp hall ?_ hpl
  refine thn (hkw.run pos pins s σ H _ I h) fun ws s2 ⟨zs, H2, I2, rz, l1, l2, q2⟩ => ⟨I2.kIn, ?_⟩
  rw [hks]
  exact run_makeN (n := 0) (us := []) (vs := []) M F hr hb hx I2 .nil rz rfl l2 q2
/-- o.m(k = v, ..) of an instance of the class at C -/
def tMethK (C : Addr) (m : Str) (sp : Sp) (gV : List V → List V → List V) (E : XK) (ta : TE) (tk : TA) : TE := fun σ H Q => ta σ H fun x H1 => ∃ a dx fs, x = .ref a ∧ H1 a = some (.ins C dx fs) ∧ fs.lookup m = none ∧
  tk σ H1 fun zs H2 => sp (gV [x] zs) H2 Q E
theorem pe_methK0 {pl : Sem Bool} (he : PE X o ta) (c : Cls X.K C) (hm : Meth X.K C m f) (F : FnOk X.prog X.w X.K X.mg X.base CX k f fd ps sp) (hr : Room k X.A) (hb : KBinds X.K fd ps ks g gV) (hx : Passes CX X E)
    (hkw : PK X kws tk) (hall : (backToKw pos (keywordEach kws X.env)).all (·.1.isSome) = true := by rfl) (hks : (backToKw pos (keywordEach kws X.env)).filterMap (·.1) = ks := by rfl)
    (hpl : ((backTo pos (starEach [] X.env)).any (·.1) || (backToKw pos (keywordEach kws X.env)).any (·.1.isNone)) = false := by rfl)
    (ht : eval (.Call (.Attribute o m apos) [] kws pos) X.env = (do
      let ov ← eval o X.env
      standAt apos.atName
      let (f, first) ← holding [ov] (getMethod ov m pl)
      callWith pos f first (backTo pos (starEach [] X.env)) (backToKw pos (keywordEach kws X.env))) := by rfl) :
    PE X (.Call (.Attribute o m apos) [] kws pos) (tMethK C m sp gV E ta tk) := by
  refine ⟨fun pins s σ H Q I h => ?_⟩
  refine PySem.W.methodCall_KW (pl := pl) (thn (he.run pins s σ H _ I h) fun u s1 ⟨x, H1, I1, rx, a, dx, fs, ex, ea, l, q⟩ => ?_) ht
  subst ex
  obtain rfl : u = Value.ref a := rx
  refine getmeth_ok I1 ea c hm l ?_
  refine PySem.W.callWith_KW0 (first := [.ref a]) (h₀ := X.base) I1.ok.mod.kin hm.kp hall ?_ hpl
  refine thn (hkw.run pos pins s1 σ H1 _ I1 q) fun ws s2 ⟨zs, H2, I2, rz, q2⟩ => ⟨I2.kIn, ?_⟩
  rw [hks]
  exact run_fnk (us := [.ref a]) (vs := [.ref a]) F hr hb hx I2 (.cons rfl .nil) rz q2
end
end E1

set_option Elab.async false
set_option linter.all false
set_option maxRecDepth 100000
set_option maxHeartbeats 4000000
/-! boards.py: what a board tells. -/
namespace E1
open PySem PySem.Spec PyProof.Rows L2 G0
/-! ### lists of names, lists of ties, as data -/
def strD (ss : List Str) : PyData := .list (ss.map PyData.str)
def prD1 (p : Pr) : PyData := .tuple [.str p.1, .str p.2]
def prsD (ps : List Pr) : PyData := .list (ps.map prD1)
theorem dpS {K : PySem.W.Frag} {H : Hp} : ∀ ss : List Str, DpAll K H (ss.map V.str) (ss.map PyData.str)
  | [] => .nil
  | s :: ss => .cons (.str s) (dpS ss)
theorem dp_strs {K : PySem.W.Frag} {H : Hp} {a : Addr} {ss : List Str} (h : H a = some (.lst (ss.map V.str))) : Dp K H (.ref a) (strD ss) := .lst (SqL.of h) (dpS ss)
theorem dpP {K : PySem.W.Frag} {H : Hp} : ∀ {vs : List V} {ps : List Pr}, PrsAt H vs ps → DpAll K H vs (ps.map prD1)
  | [], [], _ => .nil
  | [], _ :: _, h => by cases h.1
  | _ :: _, [], h => by cases h.1
  | v :: vs, p :: ps, h => by
    obtain ⟨⟨t, rfl, ht⟩, r⟩ := h.inv
    exact .cons (.tup (SqT.of ht) (.cons (.str _) (.cons (.str _) .nil))) (dpP r)
theorem dp_prs {K : PySem.W.Frag} {H : Hp} {a : Addr} {vs : List V} {ps : List Pr} (h : H a = some (.lst vs)) (hp : PrsAt H vs ps) : Dp K H (.ref a) (prsD ps) := .lst (SqL.of h) (dpP hp)
theorem signs_ok : ∀ c ∈ signsS.cps.toList, c < 1114112 := by decide +kernel
theorem name_ok {z : Str} (h : nameB z = true) : PyData.strOk z = true := by
  unfold nameB at h
  simp only [Bool.and_eq_true] at h
  have h2 := h.2.2.2
  show z.cps.all (· < 0x110000) = true
  rw [← Array.all_toList, List.all_eq_true]
  intro c hc
  exact decide_eq_true (signs_ok c (of_decide_eq_true (List.all_eq_true.mp h2 c hc)))
theorem lays : ∀ ss : List Str, (∀ z ∈ ss, PyData.strOk z = true) → PyData.canLayAll0 (ss.map PyData.str) = true ∧ PyData.depthAll (ss.map PyData.str) ≤ 1
  | [], _ => ⟨by simp [PyData.canLayAll0], by simp [PyData.depthAll]⟩
  | s :: ss, h => ⟨by simp [PyData.canLayAll0, PyData.canLay0, (lays ss fun z hz => h z (List.mem_cons_of_mem _ hz)).1, h s List.mem_cons_self], by
    have := (lays ss fun z hz => h z (List.mem_cons_of_mem _ hz)).2
    simp only [List.map_cons, PyData.depthAll, PyData.depth]
    omega⟩
theorem layp : ∀ ps : List Pr, (∀ p ∈ ps, PyData.strOk p.1 = true ∧ PyData.strOk p.2 = true) → PyData.canLayAll0 (ps.map prD1) = true ∧ PyData.depthAll (ps.map prD1) ≤ 2
  | [], _ => ⟨by simp [PyData.canLayAll0], by simp [PyData.depthAll]⟩
  | p :: ps, h => ⟨by simp [prD1, PyData.canLayAll0, PyData.canLay0, (layp ps fun z hz => h z (List.mem_cons_of_mem _ hz)).1, (h p List.mem_cons_self).1, (h p List.mem_cons_self).2], by
    have := (layp ps fun z hz => h z (List.mem_cons_of_mem _ hz)).2
    simp only [List.map_cons, prD1, PyData.depthAll, PyData.depth] at this ⊢
    omega⟩
theorem shS {ss : List Str} (hs : ∀ z ∈ ss, PyData.strOk z = true) : SeqAt.shaped (strD ss) = true := by
  have h := lays ss hs
  show ((strD ss).canLay0 && decide ((strD ss).depth ≤ 64)) = true
  rw [Bool.and_eq_true]
  refine ⟨by simp only [strD, PyData.canLay0]; exact h.1, decide_eq_true ?_⟩
  simp only [strD, PyData.depth]
  omega
theorem shP {ps : List Pr} (hs : ∀ p ∈ ps, PyData.strOk p.1 = true ∧ PyData.strOk p.2 = true) : SeqAt.shaped (prsD ps) = true := by
  have h := layp ps hs
  show ((prsD ps).canLay0 && decide ((prsD ps).depth ≤ 64)) = true
  rw [Bool.and_eq_true]
  refine ⟨by simp only [prsD, PyData.canLay0]; exact h.1, decide_eq_true ?_⟩
  simp only [prsD, PyData.depth]
  omega
theorem BdOk.shP {pl : List Str} {ts : List Pr} {rm : List Str} (b : BdOk pl ts rm) : SeqAt.shaped (strD pl) = true := shS fun z hz => name_ok (b.nm z hz)
theorem BdOk.shR {pl : List Str} {ts : List Pr} {rm : List Str} (b : BdOk pl ts rm) : SeqAt.shaped (strD rm) = true := shS fun z hz => name_ok (b.nm z (b.pin z hz))
theorem BdOk.shT {pl : List Str} {ts : List Pr} {rm : List Str} (b : BdOk pl ts rm) : SeqAt.shaped (prsD ts) = true := E1.shP fun p hp => ⟨name_ok (b.nm _ (b.tie p hp).1), name_ok (b.nm _ (b.tie p hp).2)⟩
theorem strBeq (x y : Str) : (x == y) = decide (x = y) := by
  by_cases h : x = y
  · rw [h, decide_eq_true rfl, beq_self_eq_true]
  · rw [decide_eq_false h]
    exact beq_eq_false_iff_ne.mpr h
theorem dec_cons {α : Type} [DecidableEq α] (x y : α) (xs ys : List α) : (decide (x = y) && decide (xs = ys)) = decide (x :: xs = y :: ys) := by
  by_cases h : x = y
  · by_cases h2 : xs = ys
    · simp [h, h2]
    · simp [h, h2]
  · simp [h]
theorem eqvS : ∀ xs ys : List Str, PyData.eqvAll (xs.map PyData.str) (ys.map PyData.str) = decide (xs = ys)
  | [], [] => by simp [PyData.eqvAll]
  | [], _ :: _ => by simp [PyData.eqvAll]
  | _ :: _, [] => by simp [PyData.eqvAll]
  | x :: xs, y :: ys => by
    simp only [List.map_cons, PyData.eqvAll, PyData.eqv]
    rw [eqvS xs ys, strBeq, dec_cons]
theorem eqv_strs (xs ys : List Str) : PyData.eqv (strD xs) (strD ys) = decide (xs = ys) := by
  simp only [strD, PyData.eqv]
  exact eqvS xs ys
theorem eqv_pr (p q : Pr) : PyData.eqv (prD1 p) (prD1 q) = decide (p = q) := by
  simp only [prD1, PyData.eqv, PyData.eqvAll, strBeq, Bool.and_true]
  obtain ⟨a, b⟩ := p
  obtain ⟨c, d⟩ := q
  by_cases h : a = c
  · by_cases h2 : b = d
    · simp [h, h2]
    · simp [h, h2]
  · simp [h]
theorem eqvP : ∀ xs ys : List Pr, PyData.eqvAll (xs.map prD1) (ys.map prD1) = decide (xs = ys)
  | [], [] => by simp [PyData.eqvAll]
  | [], _ :: _ => by simp [PyData.eqvAll]
  | _ :: _, [] => by simp [PyData.eqvAll]
  | x :: xs, y :: ys => by
    simp only [List.map_cons, PyData.eqvAll]
    rw [eqvP xs ys, eqv_pr, dec_cons]
theorem eqv_prs (xs ys : List Pr) : PyData.eqv (prsD xs) (prsD ys) = decide (xs = ys) := by
  simp only [prsD, PyData.eqv]
  exact eqvP xs ys
/-! ### the methods -/
def spPlaces (C : Addr) : Sp := fun vs H Q _ => ∃ x pl ts rm, vs = [.ref x] ∧ BoardAt (fun _ => True) C H x pl ts rm ∧ ∀ l, H l = none → Q (.ref l) (upd H l (.lst (pl.map V.str)))
def spTies (C : Addr) : Sp := fun vs H Q _ => ∃ x pl ts rm, vs = [.ref x] ∧ BoardAt (fun _ => True) C H x pl ts rm ∧ ∀ l tv, H l = none → PrsAt H tv ts → Q (.ref l) (upd H l (.lst tv))
def spRim (C : Addr) : Sp := fun vs H Q _ => ∃ x pl ts rm, vs = [.ref x] ∧ BoardAt (fun _ => True) C H x pl ts rm ∧ ∀ l, H l = none → Q (.ref l) (upd H l (.lst (rm.map V.str)))
/-- a text of the list -/
def inB (pl : List Str) : V → Bool
  | .str z => decide (z ∈ pl)
  | _ => false
def spHas (C : Addr) : Sp := fun vs H Q _ => ∃ x v pl ts rm, vs = [.ref x, v] ∧ BoardAt (fun _ => True) C H x pl ts rm ∧ Kn C H v ∧ Q (.bl (inB pl v)) H
def spBEq (C : Addr) : Sp := fun vs H Q _ => ∃ x v pl ts rm, vs = [.ref x, v] ∧ BoardAt (fun _ => True) C H x pl ts rm ∧ ((Kn C H v ∧ kdOf H v ≠ "" ∧ Q (.bl false) H) ∨
  ∃ y pl' ts' rm', v = .ref y ∧ BoardAt (fun _ => True) C H y pl' ts' rm' ∧ Q (.bl (decide (pl = pl') && (decide (ts = ts') && decide (rm = rm')))) H)
section
variable {P : Program} {w : World} {K : PySem.W.Frag} {mg : Str → Option Value} {base : Heap} {C f : Addr} {fd : FuncData}
theorem sc_m2 : FnScope ["self"] ["self"] (defScope (mS 2)) := ⟨rfl, rfl, rfl, by decide +kernel, rfl, by decide +kernel, by decide +kernel⟩
theorem sc_m3 : FnScope ["self"] ["self"] (defScope (mS 3)) := ⟨rfl, rfl, rfl, by decide +kernel, rfl, by decide +kernel, by decide +kernel⟩
theorem sc_m4 : FnScope ["self"] ["self"] (defScope (mS 4)) := ⟨rfl, rfl, rfl, by decide +kernel, rfl, by decide +kernel, by decide +kernel⟩
theorem sc_m5 : FnScope ["self", "thing"] ["self", "thing"] (defScope (mS 5)) := ⟨rfl, rfl, rfl, by decide +kernel, rfl, by decide +kernel, by decide +kernel⟩
theorem sc_m1 : FnScope ["self", "other"] ["self", "other"] (defScope (mS 1)) := ⟨rfl, rfl, rfl, by decide +kernel, rfl, by decide +kernel, by decide +kernel⟩
theorem b_m1 (B : BoardD K mg) : Binds K (B.d 1) ["self", "other"] [] := bindsD B.F1 fun _ _ _ _ _ _ us hl => match us, hl with | [_, _], _ => rfl
theorem b_m2 (B : BoardD K mg) : Binds K (B.d 2) ["self"] [] := bindsD B.F2 fun _ _ _ _ _ _ us hl => match us, hl with | [_], _ => rfl
theorem b_m3 (B : BoardD K mg) : Binds K (B.d 3) ["self"] [] := bindsD B.F3 fun _ _ _ _ _ _ us hl => match us, hl with | [_], _ => rfl
theorem b_m4 (B : BoardD K mg) : Binds K (B.d 4) ["self"] [] := bindsD B.F4 fun _ _ _ _ _ _ us hl => match us, hl with | [_], _ => rfl
theorem b_m5 (B : BoardD K mg) : Binds K (B.d 5) ["self", "thing"] [] := bindsD B.F5 fun _ _ _ _ _ _ us hl => match us, hl with | [_, _], _ => rfl
theorem ok_places (B : BoardD K mg) (T : TxtN K mg) : FnOk P w K mg base CX0 1 (B.f 2) (B.d 2) ["self"] (spPlaces B.C) := by
  refine B.F2.ok sc_m2 (fun vs H Q E h => ?_) (fun cdv A outer s H vs Q E hr h => ⟨_, pss_one (ps_ret (pe_callTy call_list_of (by rfl) T.list PyProof.Rows.boot_list (pa_cons (pe_fld (pv 0) rfl) pa_nil))), ?_⟩)
  · obtain ⟨x, pl, ts, rm, rfl, _⟩ := h
    rfl
  · obtain ⟨x, pl, ts, rm, rfl, ⟨dx, aP, aT, aR, aN, tv, l, h1, h2, h3, h4, h5, h6, h7, h8⟩, k⟩ := h
    exact ⟨_, rfl, x, B.C, dx, _, _, rfl, h1, B.O.cl, B.noP, rfl, aP, _, rfl, .inl (SqL.of h2), fun l nl => k l nl⟩
theorem ok_ties (B : BoardD K mg) (T : TxtN K mg) : FnOk P w K mg base CX0 1 (B.f 3) (B.d 3) ["self"] (spTies B.C) := by
  refine B.F3.ok sc_m3 (fun vs H Q E h => ?_) (fun cdv A outer s H vs Q E hr h => ⟨_, pss_one (ps_ret (pe_callTy call_list_of (by rfl) T.list PyProof.Rows.boot_list (pa_cons (pe_fld (pv 0) rfl) pa_nil))), ?_⟩)
  · obtain ⟨x, pl, ts, rm, rfl, _⟩ := h
    rfl
  · obtain ⟨x, pl, ts, rm, rfl, ⟨dx, aP, aT, aR, aN, tv, l, h1, h2, h3, h4, h5, h6, h7, h8⟩, k⟩ := h
    exact ⟨_, rfl, x, B.C, dx, _, _, rfl, h1, B.O.cl, B.noT, rfl, aT, _, rfl, .inl (SqL.of h3), fun l nl => k l tv nl h4⟩
theorem ok_rim (B : BoardD K mg) (T : TxtN K mg) : FnOk P w K mg base CX0 1 (B.f 4) (B.d 4) ["self"] (spRim B.C) := by
  refine B.F4.ok sc_m4 (fun vs H Q E h => ?_) (fun cdv A outer s H vs Q E hr h => ⟨_, pss_one (ps_ret (pe_callTy call_list_of (by rfl) T.list PyProof.Rows.boot_list (pa_cons (pe_fld (pv 0) rfl) pa_nil))), ?_⟩)
  · obtain ⟨x, pl, ts, rm, rfl, _⟩ := h
    rfl
  · obtain ⟨x, pl, ts, rm, rfl, ⟨dx, aP, aT, aR, aN, tv, l, h1, h2, h3, h4, h5, h6, h7, h8⟩, k⟩ := h
    exact ⟨_, rfl, x, B.C, dx, _, _, rfl, h1, B.O.cl, B.noR, rfl, aR, _, rfl, .inl (SqL.of h5), fun l nl => k l nl⟩
theorem near_has {ss : List Str} (l : Str → V) (z : Str) : (valV (ss.map fun s => ((Sum.inr s : Key), l s)) (Sum.inr z)).isSome = decide (z ∈ ss) := by
  by_cases h : z ∈ ss
  · rw [map_val l h, decide_eq_true h]
    rfl
  · rw [decide_eq_false h]
    unfold valV
    have : (ss.map fun s => ((Sum.inr s : Key), l s)).find? (fun kv => decide (kv.1 = (Sum.inr z : Key))) = none := by
      rw [List.find?_eq_none]
      intro kv hkv
      obtain ⟨s, hs, rfl⟩ := List.mem_map.mp hkv
      simp only [decide_eq_true_eq]
      intro e
      cases e
      exact h hs
    rw [this]
    rfl
theorem ok_has (B : BoardD K mg) (T : TxtN K mg) : FnOk P w K mg base CX0 1 (B.f 5) (B.d 5) ["self", "thing"] (spHas B.C) := by
  refine B.F5.ok sc_m5 (fun vs H Q E h => ?_) (fun cdv A outer s H vs Q E hr h => ⟨_, pss_one (ps_ret (pe_and (pe_callB call_isi (by rfl) T.isinstance (by decide +kernel) (pa_cons (pv 1) (pa_cons (pe_bltn (by rfl) T.str boot_str (v := .ty "str") rfl) pa_nil))) (pe_one (pe_cmp (pc_din (hu_of hr) (pv 1) (pe_fld (pv 0) rfl)))))), ?_⟩)
  · obtain ⟨x, v, pl, ts, rm, rfl, _⟩ := h
    rfl
  · obtain ⟨x, v, pl, ts, rm, rfl, ⟨dx, aP, aT, aR, aN, tv, l, h1, h2, h3, h4, h5, h6, h7, h8⟩, kn, q⟩ := h
    obtain ⟨t, ty, ki⟩ := kn_str B.O kn
    refine ⟨_, rfl, v, _, t, _, isStrV v, rfl, .ty _, ty, ki, _, rfl, ?_⟩
    cases v with
    | str z =>
      refine iteT ⟨_, rfl, _, rfl, x, B.C, dx, _, _, rfl, h1, B.O.cl, B.noN, rfl, aN, _, rfl, DGet.k (k := Sum.inr z) h6.d, ?_⟩
      rw [near_has (fun s => V.ref (l s)) z]
      exact q
    | _ => exact iteF q
theorem ok_beq (B : BoardD K mg) (T : TxtN K mg) : FnOk P w K mg base CX0 1 (B.f 1) (B.d 1) ["self", "other"] (spBEq B.C) := by
  refine B.F1.ok sc_m1 (fun vs H Q E h => ?_) (fun cdv A outer s H vs Q E hr h => ⟨_, pss_one (ps_ret (pe_and (pe_callB call_isi (by rfl) T.isinstance (by decide +kernel) (pa_cons (pv 1) (pa_cons (pe_glob (by rfl) B.g (v := .ref B.C) rfl) pa_nil)))
    (pe_and (pe_cmpR (op_eqD hr.units) (pe_fld (pv 0) rfl) (pe_fld (pv 1) rfl) (nomark _)) (pe_and (pe_cmpR (op_eqD hr.units) (pe_fld (pv 0) rfl) (pe_fld (pv 1) rfl) (nomark _)) (pe_one (pe_cmpR (op_eqD hr.units) (pe_fld (pv 0) rfl) (pe_fld (pv 1) rfl) (nomark _))))))), ?_⟩)
  · obtain ⟨x, v, pl, ts, rm, rfl, _⟩ := h
    rfl
  · obtain ⟨x, v, pl, ts, rm, rfl, hB, h⟩ := h
    obtain ⟨dx, aP, aT, aR, aN, tv, l, h1, h2, h3, h4, h5, h6, h7, h8⟩ := hB
    rcases h with ⟨kn, nk, q⟩ | ⟨y, pl', ts', rm', rfl, ⟨dx', aP', aT', aR', aN', tv', l', g1, g2, g3, g4, g5, g6, g7, g8⟩, q⟩
    · have key : ∃ t, TyX K H v t ∧ PySem.W.kitOne K t (.ref B.C) = some false := by
        cases kn with
        | non => exact ⟨_, .base .non, B.O.ty "NoneType" (by decide)⟩
        | bl b => exact ⟨_, .base (.bl b), B.O.ty "bool" (by decide)⟩
        | int i => exact ⟨_, .base (.int i), B.O.ty "int" (by decide)⟩
        | str x => exact ⟨_, .base (.str x), B.O.ty "str" (by decide)⟩
        | lst e => exact ⟨_, .base (.lst e), B.O.ty "list" (by decide)⟩
        | tup e => exact ⟨_, .base (.tup e), B.O.ty "tuple" (by decide)⟩
        | dic e => exact ⟨_, .base (.dK e), B.O.ty "dict" (by decide)⟩
        | own e => exact absurd (by simp only [kdOf, e]) nk
      obtain ⟨t, ty, ki⟩ := key
      exact ⟨_, rfl, v, _, t, _, false, rfl, .own _, ty, ki, _, rfl, iteF q⟩
    · refine ⟨_, rfl, .ref y, _, _, _, true, rfl, .own _, .base (.ins g1 B.O.cl B.O.ha B.O.hn B.O.htk B.O.hm), by unfold PySem.W.kitOne; simp, _, rfl, iteT ?_⟩
      refine ⟨_, rfl, x, B.C, dx, _, _, rfl, h1, B.O.cl, B.noP, rfl, _, rfl, y, B.C, dx', _, _, rfl, g1, B.O.cl, B.noP, rfl, strD pl, strD pl', dp_strs h2, dp_strs g2, h7.shP, g7.shP, _, rfl, ?_⟩
      rw [eqv_strs]
      cases e1 : decide (pl = pl') with
      | false =>
        rw [e1] at q
        exact iteF q
      | true =>
        rw [e1] at q
        refine iteT ⟨_, rfl, x, B.C, dx, _, _, rfl, h1, B.O.cl, B.noT, rfl, _, rfl, y, B.C, dx', _, _, rfl, g1, B.O.cl, B.noT, rfl, prsD ts, prsD ts', dp_prs h3 h4, dp_prs g3 g4, h7.shT, g7.shT, _, rfl, ?_⟩
        rw [eqv_prs]
        cases e2 : decide (ts = ts') with
        | false =>
          rw [e2] at q
          exact iteF q
        | true =>
          rw [e2] at q
          refine iteT ⟨_, rfl, x, B.C, dx, _, _, rfl, h1, B.O.cl, B.noR, rfl, _, rfl, y, B.C, dx', _, _, rfl, g1, B.O.cl, B.noR, rfl, strD rm, strD rm', dp_strs h5, dp_strs g5, h7.shR, g7.shR, ?_⟩
          rw [eqv_strs]
          exact q
end
end E1

set_option Elab.async false
set_option linter.all false
set_option maxRecDepth 100000
set_option maxHeartbeats 4000000
namespace E1
open PySem PySem.Spec PyProof.Rows L2 G0
abbrev sStart : Stmt := topS 45
abbrev sDraw : Stmt := topS 46
abbrev sMixed : Stmt := topS 48
/-! ### the stream -/
structure StmAt (H : Hp) (p l : Addr) (c : Int) : Prop where
  ex : ∃ (ns : List Int) (b d : Int), H p = some (.lst [.ref l, .int b, .int c, .int d]) ∧ H l = some (.lst (ns.map V.int)) ∧ 0 ≤ b ∧ 0 ≤ d ∧ d < 2147483647
  ne : p ≠ l
/-- all but what stands at p and l stands as it stood -/
def But2 (H H' : Hp) (p l : Addr) : Prop := ∀ b o, H b = some o → b ≠ p → b ≠ l → H' b = some o
theorem But2.rfl {H : Hp} {p l : Addr} : But2 H H p l := fun _ _ e _ _ => e
theorem But2.trans {H H1 H2 : Hp} {p l : Addr} (a : But2 H H1 p l) (b : But2 H1 H2 p l) : But2 H H2 p l := fun x o e h1 h2 => b x o (a x o e h1 h2) h1 h2
theorem But2.updP {H : Hp} {p l : Addr} {o : HO} : But2 H (upd H p o) p l := fun x u e h1 _ => by rw [upd_ne h1]; exact e
theorem But2.updL {H : Hp} {p l : Addr} {o : HO} : But2 H (upd H l o) p l := fun x u e _ h2 => by rw [upd_ne h2]; exact e
theorem But2.new {H : Hp} {p l q : Addr} {o : HO} (h : H q = none) : But2 H (upd H q o) p l := fun x u e _ _ => by rw [upd_ne (ne_of_none e h)]; exact e
theorem dpInts {K : PySem.W.Frag} {H : Hp} : ∀ ns : List Int, DpAll K H (ns.map V.int) (ns.map PyData.int)
  | [] => .nil
  | n :: r => .cons (.int n) (dpInts r)
theorem laidInts : ∀ ns : List Int, PyData.canLayAll0 (ns.map PyData.int) = true
  | [] => rfl
  | n :: r => by
    show (PyData.canLay0 (.int n) && PyData.canLayAll0 (r.map PyData.int)) = true
    rw [laidInts r]
    rfl
theorem depthInts : ∀ ns : List Int, PyData.depthAll (ns.map PyData.int) = 0
  | [] => rfl
  | n :: r => by
    show max (PyData.depth (.int n)) (PyData.depthAll (r.map PyData.int)) = 0
    rw [depthInts r]
    rfl
theorem shapedInts (ns : List Int) : SeqAt.shaped (.list (ns.map PyData.int)) = true := by
  show (PyData.canLayAll0 (ns.map PyData.int) && decide (PyData.depthAll (ns.map PyData.int) + 1 ≤ 64)) = true
  rw [laidInts, depthInts]
  rfl
theorem eqvNil : ∀ ns : List Int, PyData.eqv (.list (ns.map PyData.int)) (.list []) = decide (ns = [])
  | [] => rfl
  | _ :: _ => rfl
theorem seq0 (n : Nat) : seqIndex? 0 (n + 1) = some 0 := by
  unfold seqIndex?
  simp
def spDraw : Sp := fun vs H Q _ => ∃ (p l : Addr) (c m : Int), vs = [.ref p, .int m] ∧ StmAt H p l c ∧ 0 ≤ c ∧ c < 1000000000 ∧ 0 < m ∧ m < 1000000 ∧
  ∀ (r : Int) (H' : Hp), 0 ≤ r → r < m → StmAt H' p l (c + 1) → But2 H H' p l → Q (.int r) H'
structure TxtD (mg : Str → Option Value) : Prop where
  int : mg "int" = none
  list : mg "list" = none
  len : mg "len" = none
  range : mg "range" = none
section
variable {P : Program} {w : World} {K : PySem.W.Frag} {mg : Str → Option Value} {base : Heap}
theorem scD : FnScope ["_law_stream", "_law_many", "_law_cell", "_law_digit", "_law_mixed_here"] ["_law_stream", "_law_many"] (defScope sDraw) := ⟨rfl, rfl, rfl, by decide +kernel, rfl, by decide +kernel, by decide +kernel⟩
theorem ok_draw {f : Addr} {fd : FuncData} (F : Fun K "_law_draw" "_law_draw" sDraw f fd) (T : TxtD mg) : FnOk P w K mg base CX0 1 f fd ["_law_stream", "_law_many"] spDraw := by
  refine F.ok scD (fun vs H Q E h => ?_) (fun cdv A outer s H vs Q E hr h => ?_)
  · obtain ⟨p, l, c, m, rfl, _⟩ := h
    rfl
  · obtain ⟨p, l, c, m, rfl, S, c0, c1, m0, m1, k⟩ := h
    have hu := hr.units
    refine ⟨_, pss_cons (ps_asg (pe_op op_add (pe_ix ix_list (pv 0) pe_int (fun _ _ => rfl)) pe_int) (pg_sub (pv 0) pe_int set_list))
      (pss_cons (ps_while PassesOwn.never
         (PW.pt (pw_and (pt_cmpR op_eq (pe_ix ix_list (pv 0) pe_int (fun _ _ => rfl)) pe_int (nomark _))
            (pw_and1 (pt_cmpR (op_neD hu) (pe_ix ix_list (pv 0) pe_int (fun _ _ => rfl)) (pe_lst pa_nil) (nomark _)))))
         (pss_cons (ps_set (i := 2) scD.nd rfl (Or.inl rfl) (pe_bm PySem.F.plainAttrs_list PySem.F.slot_list_pop PySem.F.type_list_pop mt_popAt (pe_ix ix_list (pv 0) pe_int (fun _ _ => rfl)) (pa_cons pe_int pa_nil)))
         (pss_cons (ps_asg (pe_op op_mod (pe_callTy call_int1 (by rfl) T.int PyProof.Rows.boot_int (pa_cons (pe_op op_add (pe_op op_add (pe_op op_mul (pe_ix ix_list (pv 0) pe_int (fun _ _ => rfl)) pe_int) (pv 2)) pe_int) pa_nil)) pe_int) (pg_sub (pv 0) pe_int set_list))
         (pss_one (ps_asg (pe_ifExp (pt_cmpR op_ge (pv 2) (pe_op op_pow pe_int pe_int) (nomark _)) (pv 2) pe_int) (pg_sub (pv 0) pe_int set_list))))))
      (pss_cons (ps_if (pt_cmpR op_gt (pe_ix ix_list (pv 0) pe_int (fun _ _ => rfl)) pe_int (nomark _))
         (pss_cons (ps_set (i := 3) scD.nd rfl (Or.inl rfl) (pe_op op_mod (pe_callTy call_int1 (by rfl) T.int PyProof.Rows.boot_int (pa_cons (pe_ix ix_list (pv 0) pe_int (fun _ _ => rfl)) pa_nil)) (pv 1)))
         (pss_cons (ps_asg (pe_op op_fdiv (pe_ix ix_list (pv 0) pe_int (fun _ _ => rfl)) (pv 1)) (pg_sub (pv 0) pe_int set_list))
         (pss_one (ps_ret (pv 3))))) pss_nil)
      (pss_cons (ps_set (i := 4) scD.nd rfl (Or.inl rfl) (pe_op op_mod (pe_callTy call_int1 (by rfl) T.int PyProof.Rows.boot_int (pa_cons (pe_op op_pow (pe_op op_add (pe_op op_add (pe_ix ix_list (pv 0) pe_int (fun _ _ => rfl)) (pe_op op_mul pe_int (pe_ix ix_list (pv 0) pe_int (fun _ _ => rfl)))) pe_int) pe_int) pa_nil)) pe_int))
      (pss_one (ps_ret (pe_op op_mod (pe_op op_mod (pe_callTy call_int1 (by rfl) T.int PyProof.Rows.boot_int (pa_cons (pe_op op_pow (pe_op op_add (pe_op op_add (pe_op op_mul (pv 4) pe_int) (pe_op op_mul pe_int (pe_ix ix_list (pv 0) pe_int (fun _ _ => rfl)))) pe_int) pe_int) pa_nil)) pe_int) (pv 1))))))), ?_⟩
    obtain ⟨⟨ns, b, d, hp, hl, b0, d0, d1⟩, hne⟩ := S
    -- stream[2] = stream[2] + 1
    refine ⟨_, rfl, p, _, 2, _, rfl, rfl, SqL.of hp, rfl, _, _, rfl, rfl, _, rfl, p, _, 2, 2, rfl, rfl, hp, rfl, ?_⟩
    -- while
    have e1 : (upd H p (.lst [.ref l, .int b, .int (c + 1), .int d])) l = some (.lst (ns.map V.int)) := by rw [upd_ne (Ne.symm hne)]; exact hl
    refine ⟨fun n σ H' => ∃ (v : Option V) (ns : List Int) (b d : Int), n = ns.length ∧ σ = [some (.ref p), some (.int m), v, none, none] ∧ H' p = some (.lst [.ref l, .int b, .int (c + 1), .int d]) ∧ H' l = some (.lst (ns.map V.int)) ∧ 0 ≤ b ∧ 0 ≤ d ∧ d < 2147483647 ∧ But2 H H' p l,
      ⟨ns.length, none, ns, b, d, rfl, rfl, upd_same, e1, b0, d0, d1, But2.updP⟩, ?_⟩
    rintro n σ H' ⟨v, ns, b, d, rfl, rfl, hp, hl, b0, d0, d1, s1⟩
    -- stream[1] == 0 and stream[0] != []
    refine ⟨_, rfl, p, _, 1, _, rfl, rfl, SqL.of hp, rfl, rfl, _, rfl, ?_⟩
    refine ite2 (fun hb => ?_) (fun hb => ?_)
    · refine ⟨_, rfl, p, _, 0, _, rfl, rfl, SqL.of hp, rfl, Nat.zero_le _, fun q hq => ?_⟩
      have hpq : p ≠ q := ne_of_none hp hq
      have hlq : l ≠ q := ne_of_none hl hq
      have hp1 : (upd H' q (.lst [])) p = some (.lst [.ref l, .int b, .int (c + 1), .int d]) := by rw [upd_ne hpq]; exact hp
      have hl1 : (upd H' q (.lst [])) l = some (.lst (ns.map V.int)) := by rw [upd_ne hlq]; exact hl
      have s2 : But2 H (upd H' q (.lst [])) p l := s1.trans (But2.new hq)
      refine ⟨_, _, Dp.lst (SqL.of hl1) (dpInts ns), Dp.lst (SqL.of upd_same) .nil, shapedInts ns, rfl, _, rfl, ?_⟩
      rw [eqvNil]
      refine ite2 (fun hn => ?_) (fun hn => ?_)
      · -- the body
        cases ns with
        | nil => cases hn
        | cons z r =>
          refine ⟨fun σ' H'' => ∃ (v : Option V) (b d : Int), σ' = [some (.ref p), some (.int m), v, none, none] ∧ H'' p = some (.lst [.ref l, .int b, .int (c + 1), .int d]) ∧ H'' l = some (.lst (r.map V.int)) ∧ 0 ≤ b ∧ 0 ≤ d ∧ d < 2147483647 ∧ But2 H H'' p l, ?_, ?_⟩
          · rintro σ' H'' ⟨v, b, d, rfl, h1, h2, h3, h4, h5, h6⟩
            exact ⟨r.length, Nat.lt_succ_self _, v, r, b, d, rfl, rfl, h1, h2, h3, h4, h5, h6⟩
          · refine ⟨_, rfl, p, _, 0, _, rfl, rfl, SqL.of hp1, rfl, .inl ⟨rfl, _, SqL.of hl1⟩, l, _, 0, 0, _, rfl, rfl, hl1, by decide, by decide, seq0 _, rfl, ?_⟩
            have hp2 : (upd (upd H' q (.lst [])) l (.lst (((z :: r).map V.int).eraseIdx 0))) p = some (.lst [.ref l, .int b, .int (c + 1), .int d]) := by rw [upd_ne hne]; exact hp1
            refine ⟨_, rfl, p, _, 3, _, rfl, rfl, SqL.of hp2, rfl, _, _, rfl, rfl, .inr ⟨by decide, by decide⟩, _, rfl, _, _, rfl, rfl, _, _, rfl, rfl, .inl ⟨_, rfl, _, _, rfl, rfl, (by decide : (0 : Int) < 2147483647), _, rfl, p, _, 3, 3, rfl, rfl, hp2, rfl, ?_⟩⟩
            refine ⟨_, rfl, _, _, rfl, rfl, ⟨by decide, by decide, by decide⟩, _, _, rfl, rfl, _, rfl, ?_⟩
            have d2 := Int.emod_nonneg (d * 8191 + z + 3) (by decide : (2147483647 : Int) ≠ 0)
            have d3 := Int.emod_lt_of_pos (d * 8191 + z + 3) (by decide : (0 : Int) < 2147483647)
            refine ite2 (fun hz => ?_) (fun hz => ?_)
            · have z0 : (0 : Int) ≤ z := Int.le_trans (by decide : (0 : Int) ≤ 10 ^ (18 : Int).toNat) (of_decide_eq_true hz)
              refine ⟨_, rfl, _, rfl, p, _, 1, 1, rfl, rfl, upd_same, rfl, some (.int z), z, _, rfl, upd_same, ?_, z0, d2, d3, s2.trans (But2.updL.trans (But2.updP.trans But2.updP))⟩
              rw [upd_ne (Ne.symm hne), upd_ne (Ne.symm hne), upd_same]
              rfl
            · refine ⟨_, rfl, p, _, 1, 1, rfl, rfl, upd_same, rfl, some (.int z), 0, _, rfl, upd_same, ?_, Int.le_refl _, d2, d3, s2.trans (But2.updL.trans (But2.updP.trans But2.updP))⟩
              rw [upd_ne (Ne.symm hne), upd_ne (Ne.symm hne), upd_same]
              rfl
      · refine ⟨_, rfl, p, _, 1, _, rfl, rfl, SqL.of hp1, rfl, _, _, rfl, rfl, _, rfl, ite2 (fun hg => ?_) (fun hg => ?_)⟩
        · have q0 := Int.emod_nonneg b (Int.ne_of_gt m0)
          have q1 := Int.emod_lt_of_pos b m0
          refine ⟨_, rfl, p, _, 1, _, rfl, rfl, SqL.of hp1, rfl, .inl ⟨_, rfl, _, rfl, _, _, rfl, rfl, m0, ?_⟩⟩
          refine ⟨_, rfl, p, _, 1, _, rfl, rfl, SqL.of hp1, rfl, _, rfl, _, _, rfl, rfl, ⟨m0, Int.lt_trans m1 (by decide)⟩, _, rfl, p, _, 1, 1, rfl, rfl, hp1, rfl, _, rfl, ?_⟩
          exact k _ _ q0 q1 ⟨⟨ns, b / m, d, upd_same, by rw [upd_ne (Ne.symm hne)]; exact hl1, Int.ediv_nonneg b0 (Int.le_of_lt m0), d0, d1⟩, hne⟩ (s2.trans But2.updP)
        · refine ⟨_, rfl, p, _, 3, _, rfl, rfl, SqL.of hp1, rfl, _, rfl, p, _, 2, _, rfl, rfl, SqL.of hp1, rfl, _, _, rfl, rfl, .inl ⟨by decide, by decide⟩, _, _, rfl, rfl, _, _, rfl, rfl, _, _, rfl, rfl, ⟨by decide, by decide, (by omega)⟩, .inl ⟨_, rfl, _, _, rfl, rfl, (by decide : (0 : Int) < 2147483629), ?_⟩⟩
          have g0 := Int.emod_nonneg ((d + 7919 * (c + 1) + 104729) ^ (5 : Int).toNat) (by decide : (2147483629 : Int) ≠ 0)
          have g1 := Int.emod_lt_of_pos ((d + 7919 * (c + 1) + 104729) ^ (5 : Int).toNat) (by decide : (0 : Int) < 2147483629)
          generalize hx : ((d + 7919 * (c + 1) + 104729) ^ (5 : Int).toNat) % 2147483629 = x at *
          refine ⟨_, rfl, _, _, rfl, rfl, .inr ⟨by decide, by decide⟩, _, rfl, p, _, 2, _, rfl, rfl, SqL.of hp1, rfl, _, _, rfl, rfl, .inl ⟨by decide, by decide⟩, _, _, rfl, rfl, _, _, rfl, rfl, _, _, rfl, rfl, ⟨by decide, by decide, (by omega)⟩, .inl ⟨_, rfl, _, _, rfl, rfl, (by decide : (0 : Int) < 1000000007), _, rfl, _, _, rfl, rfl, m0, ?_⟩⟩
          exact k _ _ (Int.emod_nonneg _ (Int.ne_of_gt m0)) (Int.emod_lt_of_pos _ m0) ⟨⟨ns, b, d, hp1, hl1, b0, d0, d1⟩, hne⟩ s2
    · refine ⟨_, rfl, p, _, 1, _, rfl, rfl, SqL.of hp, rfl, _, _, rfl, rfl, _, rfl, ite2 (fun hg => ?_) (fun hg => ?_)⟩
      · have q0 := Int.emod_nonneg b (Int.ne_of_gt m0)
        have q1 := Int.emod_lt_of_pos b m0
        refine ⟨_, rfl, p, _, 1, _, rfl, rfl, SqL.of hp, rfl, .inl ⟨_, rfl, _, rfl, _, _, rfl, rfl, m0, ?_⟩⟩
        refine ⟨_, rfl, p, _, 1, _, rfl, rfl, SqL.of hp, rfl, _, rfl, _, _, rfl, rfl, ⟨m0, Int.lt_trans m1 (by decide)⟩, _, rfl, p, _, 1, 1, rfl, rfl, hp, rfl, _, rfl, ?_⟩
        exact k _ _ q0 q1 ⟨⟨ns, b / m, d, upd_same, by rw [upd_ne (Ne.symm hne)]; exact hl, Int.ediv_nonneg b0 (Int.le_of_lt m0), d0, d1⟩, hne⟩ (s1.trans But2.updP)
      · refine ⟨_, rfl, p, _, 3, _, rfl, rfl, SqL.of hp, rfl, _, rfl, p, _, 2, _, rfl, rfl, SqL.of hp, rfl, _, _, rfl, rfl, .inl ⟨by decide, by decide⟩, _, _, rfl, rfl, _, _, rfl, rfl, _, _, rfl, rfl, ⟨by decide, by decide, (by omega)⟩, .inl ⟨_, rfl, _, _, rfl, rfl, (by decide : (0 : Int) < 2147483629), ?_⟩⟩
        have g0 := Int.emod_nonneg ((d + 7919 * (c + 1) + 104729) ^ (5 : Int).toNat) (by decide : (2147483629 : Int) ≠ 0)
        have g1 := Int.emod_lt_of_pos ((d + 7919 * (c + 1) + 104729) ^ (5 : Int).toNat) (by decide : (0 : Int) < 2147483629)
        generalize hx : ((d + 7919 * (c + 1) + 104729) ^ (5 : Int).toNat) % 2147483629 = x at *
        refine ⟨_, rfl, _, _, rfl, rfl, .inr ⟨by decide, by decide⟩, _, rfl, p, _, 2, _, rfl, rfl, SqL.of hp, rfl, _, _, rfl, rfl, .inl ⟨by decide, by decide⟩, _, _, rfl, rfl, _, _, rfl, rfl, _, _, rfl, rfl, ⟨by decide, by decide, (by omega)⟩, .inl ⟨_, rfl, _, _, rfl, rfl, (by decide : (0 : Int) < 1000000007), _, rfl, _, _, rfl, rfl, m0, ?_⟩⟩
        exact k _ _ (Int.emod_nonneg _ (Int.ne_of_gt m0)) (Int.emod_lt_of_pos _ m0) ⟨⟨ns, b, d, hp, hl, b0, d0, d1⟩, hne⟩ s1
end
theorem StmAt.upd {H : Hp} {p l q : Addr} {c : Int} {o : HO} (S : StmAt H p l c) (h1 : p ≠ q) (h2 : l ≠ q) : StmAt (upd H q o) p l c := by
  obtain ⟨⟨ns, b, d, hp, hl, r⟩, hne⟩ := S
  exact ⟨⟨ns, b, d, by rw [upd_ne h1]; exact hp, by rw [upd_ne h2]; exact hl, r⟩, hne⟩
theorem StmAt.at (S : StmAt H p l c) : (∃ xs, H p = some (.lst xs)) ∧ ∃ xs, H l = some (.lst xs) := by
  obtain ⟨⟨ns, b, d, hp, hl, r⟩, hne⟩ := S
  exact ⟨⟨_, hp⟩, _, hl⟩
def spMixed (K : PySem.W.Frag) : Sp := fun vs H Q _ => ∃ (p l a : Addr) (c : Int) (xs : List V), vs = [.ref p, .ref a] ∧ StmAt H p l c ∧ 0 ≤ c ∧ c < 1000000 ∧ SqL K H a xs ∧ xs.length < 1000 ∧
  ∀ (q : Addr) (ys : List V) (H' : Hp), ys.Perm xs → StmAt H' p l (c + xs.length) → H q = none → H' q = some (.lst ys) → But2 H H' p l → Q (.ref q) H'
structure TxtM (K : PySem.W.Frag) (mg : Str → Option Value) (fD : Addr) : Prop where
  d : TxtD mg
  gD : mg "_law_draw" = some (.ref fD)
  kD : PySem.W.keepIn K (.ref fD) = true
theorem erase_perm {α : Type} : ∀ (l : List α) (k : Nat) (y : α), l[k]? = some y → (y :: l.eraseIdx k).Perm l
  | [], k, y, h => by simp at h
  | x :: r, 0, y, h => by
    have e : x = y := Option.some.inj h
    subst e
    exact .refl _
  | x :: r, k + 1, y, h => by
    have ih := erase_perm r k y h
    exact (List.Perm.swap x _ _).trans (ih.cons x)
theorem seqNat {r : Int} {n : Nat} (h0 : 0 ≤ r) (h1 : r < (n : Int)) : seqIndex? r n = some r.toNat := by
  unfold seqIndex?
  have e : (if r < 0 then r + (n : Int) else r) = r := if_neg (by omega)
  simp only [e]
  have e2 : (decide (0 ≤ r) && decide (r < (n : Int))) = true := by simp [h0, h1]
  rw [if_pos e2]
/-- left.pop(draw(stream, len(left))) -/
def tMixE (K : PySem.W.Frag) : TE := tBM K "list" rPopAt (tVar 2) (tCons (tCall spDraw [] L2.E0 (tCons (tVar 0) (tCons (tCB (fun xs H Q => ∃ p ys, xs = [.ref p] ∧ (SqL K H p ys ∨ SqT K H p ys) ∧ Q (.int ys.length) H) (tCons (tVar 2) tNil)) tNil))) tNil)
section
variable {P : Program} {w : World} {K : PySem.W.Frag} {mg : Str → Option Value} {base : Heap}
theorem scM : FnScope ["_law_stream", "_law_some", "_law_left", "_law_k"] ["_law_stream", "_law_some"] (defScope sMixed) := ⟨rfl, rfl, rfl, by decide +kernel, rfl, by decide +kernel, by decide +kernel⟩
theorem ok_mixed {f fD : Addr} {fd fdD : FuncData} (F : Fun K "_law_mixed" "_law_mixed" sMixed f fd) (T : TxtM K mg fD) (FD : Fun K "_law_draw" "_law_draw" sDraw fD fdD) (bD : Binds K fdD ["_law_stream", "_law_many"] []) : FnOk P w K mg base CX0 2 f fd ["_law_stream", "_law_some"] (spMixed K) := by
  have GD : FnOk P w K mg base CX0 1 fD fdD ["_law_stream", "_law_many"] spDraw := ok_draw FD T.d
  refine F.ok scM (fun vs H Q E h => ?_) (fun cdv A outer s H vs Q E hr h => ?_)
  · obtain ⟨p, l, a, c, xs, rfl, _⟩ := h
    rfl
  · obtain ⟨p, l, a, c, xs, rfl, S, c0, c1, hS, hlen, k⟩ := h
    refine ⟨_, pss_cons (ps_set (i := 2) scM.nd rfl (Or.inr rfl) (pe_callTy call_list_of (by rfl) T.d.list PyProof.Rows.boot_list (pa_cons (pv 1) pa_nil)))
      (pss_one (ps_ret (pe_lc (te := tMixE K) (own := [("_law_k", 3)]) (g := gName 3) (tt := tYes) rfl scM.nd (pi_range1 (by rfl) T.d.range (pa_cons (pe_callB call_len_seq (by rfl) T.d.len PySem.boot_len (pa_cons (pv 2) pa_nil)) pa_nil))
        (blkOk_by (own := [("_law_k", 3)]) (N := ["_law_stream", "_law_some", "_law_left", "_law_k"]) (sc := defScope sMixed) (by decide +kernel)) (fun _ _ _ _ _ => pg_name (i := 3) scM.nd rfl (Or.inl rfl)) (fun _ _ _ _ _ => pts_nil)
        ?he))), ?_⟩
    case he =>
      intro s1 H1 C1 cl1 fp1
      exact pe_bm PySem.F.plainAttrs_list PySem.F.slot_list_pop PySem.F.type_list_pop mt_popAt (pv 2) (pa_cons (pe_call GD hr (by rfl) T.gD T.kD bD .nil pass0 (pa_cons (pv 0) (pa_cons (pe_callB call_len_seq (by rfl) T.d.len PySem.boot_len (pa_cons (pv 2) pa_nil)) pa_nil))) pa_nil)
    obtain ⟨⟨_, hp⟩, _, hl⟩ := S.at
    refine ⟨_, rfl, a, xs, rfl, .inl hS, fun q hq => ?_⟩
    have hpq : p ≠ q := ne_of_none hp hq
    have hlq : l ≠ q := ne_of_none hl hq
    refine ⟨_, rfl, q, xs, rfl, .inl (SqL.of upd_same), _, rfl, by omega, by omega, fun D hD => ?_⟩
    have hDq : q ≠ D := ne_of_none upd_same hD
    have hpD : p ≠ D := ne_of_none (o := .lst _) (by rw [upd_ne hpq]; exact hp) hD
    have hlD : l ≠ D := ne_of_none (o := .lst _) (by rw [upd_ne hlq]; exact hl) hD
    have hDn : H D = none := by rw [upd_ne (Ne.symm hDq)] at hD; exact hD
    refine lc_range (fun i H' => ∃ acc left : List V, H' D = some (.lst acc) ∧ H' q = some (.lst left) ∧ (acc ++ left).Perm xs ∧ acc.length = i ∧ StmAt H' p l (c + i) ∧ But2 H H' p l) ⟨[], xs, upd_same, by rw [upd_ne hDq]; exact upd_same, .refl _, rfl, ?_, ?_⟩ ?_ ?_
    · have e : c + ((0 : Nat) : Int) = c := by omega
      rw [e]
      exact (S.upd hpq hlq).upd hpD hlD
    · exact (But2.new hq).trans (But2.new hD)
    · rintro i H' hi ⟨acc, left, eD, eq, hperm, hacc, S', B⟩
      have hlf : acc.length + left.length = xs.length := by rw [← List.length_append]; exact hperm.length_eq
      refine ⟨rfl, yes_of ?_⟩
      refine ⟨_, rfl, .inl ⟨rfl, _, SqL.of eq⟩, _, rfl, _, rfl, q, left, rfl, .inl (SqL.of eq), p, l, c + i, (left.length : Int), rfl, S', by omega, by omega, by omega, by omega, fun r H2 r0 r1 S2 B2 => ?_⟩
      have eq2 : H2 q = some (.lst left) := B2 q _ eq (Ne.symm hpq) (Ne.symm hlq)
      have eD2 : H2 D = some (.lst acc) := B2 D _ eD (Ne.symm hpD) (Ne.symm hlD)
      obtain ⟨y, hy⟩ : ∃ y, left[r.toNat]? = some y := ⟨left[r.toNat]'(by omega), List.getElem?_eq_getElem _⟩
      refine ⟨q, left, r, r.toNat, y, rfl, rfl, eq2, by omega, by omega, seqNat r0 r1, hy, acc, ?_, small1000 (by omega), acc ++ [y], left.eraseIdx r.toNat, upd_same, ?_, ?_, ?_, ?_, ?_⟩
      · rw [upd_ne (Ne.symm hDq)]; exact eD2
      · rw [upd_ne hDq]; exact upd_same
      · rw [List.append_assoc]
        exact ((erase_perm left _ y hy).append_left acc).trans hperm
      · rw [List.length_append, hacc]; rfl
      · have e : c + ((i + 1 : Nat) : Int) = c + i + 1 := by omega
        rw [e]
        exact (S2.upd hpq hlq).upd hpD hlD
      · exact fun b o e h1 h2 => by
          rw [upd_ne (ne_of_none e hDn), upd_ne (ne_of_none e hq)]
          exact B2 b o (B b o e h1 h2) h1 h2
    · rintro H' ⟨acc, left, eD, eq, hperm, hacc, S', B⟩
      have hlf : acc.length + left.length = xs.length := by rw [← List.length_append]; exact hperm.length_eq
      have hl0 : left = [] := List.eq_nil_of_length_eq_zero (by omega)
      subst hl0
      rw [List.append_nil] at hperm
      have e : c + (((xs.length : Int).toNat : Nat) : Int) = c + xs.length := by omega
      rw [e] at S'
      exact k D acc H' hperm S' hDn eD B
theorem scS : FnScope ["_law_script"] ["_law_script"] (defScope sStart) := ⟨rfl, rfl, rfl, by decide +kernel, rfl, by decide +kernel, by decide +kernel⟩
def spStart (K : PySem.W.Frag) : Sp := fun vs H Q _ => ∃ (a : Addr) (ns : List Int), vs = [.ref a] ∧ SqL K H a (ns.map V.int) ∧ ∀ (p l : Addr) (H' : Hp), StmAt H' p l 0 → H p = none → H l = none → Same H H' → Q (.ref p) H'
theorem ok_start {f : Addr} {fd : FuncData} (F : Fun K "_law_start" "_law_start" sStart f fd) (T : TxtD mg) : FnOk P w K mg base CX0 1 f fd ["_law_script"] (spStart K) := by
  refine F.ok scS (fun vs H Q E h => ?_) (fun cdv A outer s H vs Q E hr h => ?_)
  · obtain ⟨a, ns, rfl, _⟩ := h
    rfl
  · obtain ⟨a, ns, rfl, hS, k⟩ := h
    refine ⟨_, pss_one (ps_ret (pe_lst (pa_cons (pe_callTy call_list_of (by rfl) T.list PyProof.Rows.boot_list (pa_cons (pv 0) pa_nil)) (pa_cons pe_int (pa_cons pe_int (pa_cons pe_int pa_nil)))))), ?_⟩
    refine ⟨_, rfl, a, _, rfl, .inl hS, fun l hl => ⟨by show 4 ≤ sizeLine; decide, fun p hp => ?_⟩⟩
    have hlp : l ≠ p := ne_of_none upd_same hp
    have hpn : H p = none := by rw [upd_ne (Ne.symm hlp)] at hp; exact hp
    refine k p l _ ⟨⟨ns, 0, 11, upd_same, by rw [upd_ne hlp]; exact upd_same, by decide, by decide, by decide⟩, Ne.symm hlp⟩ hpn hl fun b o e => ?_
    rw [upd_ne (ne_of_none e hpn), upd_ne (ne_of_none e hl)]
    exact e
end



/-! ### with a budget -/
def Stm (H : Hp) (p l : Addr) (n : Nat) : Prop := ∃ c : Int, StmAt H p l c ∧ 0 ≤ c ∧ c ≤ (n : Int)
theorem Stm.mono {H : Hp} {p l : Addr} {n m : Nat} (s : Stm H p l n) (h : n ≤ m) : Stm H p l m := by
  obtain ⟨c, S, c0, c1⟩ := s
  exact ⟨c, S, c0, by omega⟩
theorem Stm.at_ {H : Hp} {p l : Addr} {n : Nat} (s : Stm H p l n) : (∃ xs, H p = some (.lst xs)) ∧ ∃ xs, H l = some (.lst xs) := by
  obtain ⟨c, S, _⟩ := s
  exact S.at
theorem Stm.upd {H : Hp} {p l q : Addr} {n : Nat} {o : HO} (s : Stm H p l n) (h1 : p ≠ q) (h2 : l ≠ q) : Stm (upd H q o) p l n := by
  obtain ⟨c, S, c0, c1⟩ := s
  exact ⟨c, S.upd h1 h2, c0, c1⟩
theorem Stm.same {H H' : Hp} {p l : Addr} {n : Nat} (s : Stm H p l n) (S : Same H H') : Stm H' p l n := by
  obtain ⟨c, ⟨⟨ns, b, d, hp, hl, r⟩, hne⟩, c0, c1⟩ := s
  exact ⟨c, ⟨⟨ns, b, d, S _ _ hp, S _ _ hl, r⟩, hne⟩, c0, c1⟩
/-- all but the stream stays -/
theorem But2.same {H H' : Hp} {p l : Addr} (S : Same H H') : But2 H H' p l := fun b o e _ _ => S b o e
theorem But2.free {H H' : Hp} {p l : Addr} {n : Nat} (B : But2 H H' p l) (S : Stm H' p l n) {c : Addr} (h : H' c = none) : H c = none := by
  cases e : H c with
  | none => rfl
  | some o =>
    obtain ⟨⟨xs, h1⟩, ⟨ys, h2⟩⟩ := S.at_
    have n1 : c ≠ p := fun z => by rw [z, h1] at h; cases h
    have n2 : c ≠ l := fun z => by rw [z, h2] at h; cases h
    rw [B c o e n1 n2] at h
    cases h
/-- since H all but the stream stays, and what is new -/
structure Fr (H : Hp) (p l : Addr) (n : Nat) (H' : Hp) : Prop where
  hp : H p ≠ none
  hl : H l ≠ none
  st : Stm H' p l n
  but : But2 H H' p l
theorem Stm.fr {H : Hp} {p l : Addr} {n : Nat} (s : Stm H p l n) : Fr H p l n H := by
  obtain ⟨⟨xs, h1⟩, ys, h2⟩ := s.at_
  exact ⟨(by rw [h1]; intro z; cases z), (by rw [h2]; intro z; cases z), s, But2.rfl⟩
theorem Fr.of {H H' : Hp} {p l : Addr} {n m : Nat} (s : Stm H p l n) (s' : Stm H' p l m) (B : But2 H H' p l) : Fr H p l m H' := ⟨s.fr.hp, s.fr.hl, s', B⟩
section
variable {H H1 H2 : Hp} {p l q c : Addr} {n m : Nat} {o : HO}
theorem Fr.mono (F : Fr H p l n H1) (h : n ≤ m) : Fr H p l m H1 := ⟨F.hp, F.hl, F.st.mono h, F.but⟩
theorem Fr.ne (F : Fr H p l n H1) (h : H c = none) : c ≠ p ∧ c ≠ l := ⟨fun z => F.hp (z ▸ h), fun z => F.hl (z ▸ h)⟩
theorem Fr.put (F : Fr H p l n H1) (h : H q = none) : Fr H p l n (upd H1 q o) := ⟨F.hp, F.hl, F.st.upd (F.ne h).1.symm (F.ne h).2.symm, fun b u e h1 h2 => by
  rw [upd_ne (ne_of_none e h)]
  exact F.but b u e h1 h2⟩
theorem Fr.free (F : Fr H p l n H1) (h : H1 c = none) : H c = none := F.but.free F.st h
theorem Fr.trans (F : Fr H p l n H1) (G : Fr H1 p l m H2) : Fr H p l m H2 := ⟨F.hp, F.hl, G.st, F.but.trans G.but⟩
theorem Fr.same (F : Fr H p l n H1) (S : Same H1 H2) : Fr H p l n H2 := ⟨F.hp, F.hl, F.st.same S, F.but.trans (But2.same S)⟩
/-- what came since H stays -/
theorem Fr.keep (F : Fr H p l n H1) (G : Fr H1 p l m H2) (h : H c = none) (e : H1 c = some o) : H2 c = some o := G.but c o e (F.ne h).1 (F.ne h).2
end
def spDr : Sp := fun vs H Q _ => ∃ (p l : Addr) (n m : Nat), vs = [.ref p, .int (m : Int)] ∧ Stm H p l n ∧ n < 100000000 ∧ 0 < m ∧ m < 1000000 ∧ ∀ (r : Nat) (H' : Hp), r < m → Fr H p l (n + 1) H' → Q (.int (r : Int)) H'
def spMx (K : PySem.W.Frag) : Sp := fun vs H Q _ => ∃ (p l a : Addr) (n : Nat) (xs : List V), vs = [.ref p, .ref a] ∧ Stm H p l n ∧ n < 900000 ∧ SqL K H a xs ∧ xs.length < 1000 ∧
  ∀ (q : Addr) (ys : List V) (H' : Hp), ys.Perm xs → Fr H p l (n + xs.length) H' → H q = none → H' q = some (.lst ys) → Q (.ref q) H'
theorem spDr_of {vs : List V} {H : Hp} {Q : VK} {E : XK} (h : spDr vs H Q E) : spDraw vs H Q E := by
  obtain ⟨p, l, n, m, rfl, S0, hn, m0, m1, k⟩ := h
  obtain ⟨c, S, c0, c1⟩ := id S0
  refine ⟨p, l, c, m, rfl, S, c0, by omega, by omega, by omega, fun r H' r0 r1 S' B => ?_⟩
  obtain ⟨k0, rfl⟩ := Int.eq_ofNat_of_zero_le r0
  exact k k0 H' (by omega) (.of S0 ⟨c + 1, S', by omega, by omega⟩ B)
theorem spMx_of {K : PySem.W.Frag} {vs : List V} {H : Hp} {Q : VK} {E : XK} (h : spMx K vs H Q E) : spMixed K vs H Q E := by
  obtain ⟨p, l, a, n, xs, rfl, S0, hn, hq, hx, k⟩ := h
  obtain ⟨c, S, c0, c1⟩ := id S0
  exact ⟨p, l, a, c, xs, rfl, S, c0, by omega, hq, hx, fun q ys H' hp S' nq hq' B => k q ys H' hp (.of S0 ⟨_, S', by omega, by omega⟩ B) nq hq'⟩
def spSt (K : PySem.W.Frag) : Sp := fun vs H Q _ => ∃ (a : Addr) (ns : List Int), vs = [.ref a] ∧ SqL K H a (ns.map V.int) ∧ ∀ (p l : Addr) (H' : Hp), Stm H' p l 0 → H p = none → H l = none → Same H H' → Q (.ref p) H'
theorem spSt_of {K : PySem.W.Frag} {vs : List V} {H : Hp} {Q : VK} {E : XK} (h : spSt K vs H Q E) : spStart K vs H Q E := by
  obtain ⟨a, ns, rfl, hq, k⟩ := h
  exact ⟨a, ns, rfl, hq, fun p l H' S n1 n2 S' => k p l H' ⟨0, S, Int.le_refl _, Int.le_refl _⟩ n1 n2 S'⟩
/-- where the law's defs for the stream stand -/
structure DrawD (K : PySem.W.Frag) (mg : Str → Option Value) where
  t : TxtD mg
  fS : Addr
  dS : FuncData
  FS : FnS K 45 fS dS
  gS : mg "_law_start" = some (.ref fS)
  fD : Addr
  dD : FuncData
  FD : FnS K 46 fD dD
  gD : mg "_law_draw" = some (.ref fD)
  fM : Addr
  dM : FuncData
  FM : FnS K 48 fM dM
  gM : mg "_law_mixed" = some (.ref fM)
section
variable {P : Program} {w : World} {K : PySem.W.Frag} {mg : Str → Option Value} {base : Heap}
theorem bDr (D : DrawD K mg) : Binds K D.dD ["_law_stream", "_law_many"] [] := D.FD.binds fun _ _ _ _ _ _ us hl => match us, hl with | [_, _], _ => rfl
theorem bMx (D : DrawD K mg) : Binds K D.dM ["_law_stream", "_law_some"] [] := D.FM.binds fun _ _ _ _ _ _ us hl => match us, hl with | [_, _], _ => rfl
theorem bSt (D : DrawD K mg) : Binds K D.dS ["_law_script"] [] := D.FS.binds fun _ _ _ _ _ _ us hl => match us, hl with | [_], _ => rfl
theorem ok_dr (D : DrawD K mg) : FnOk P w K mg base CX0 1 D.fD D.dD ["_law_stream", "_law_many"] spDr := (ok_draw D.FD D.t).imp fun _ _ _ _ h => spDr_of h
theorem ok_mx (D : DrawD K mg) : FnOk P w K mg base CX0 2 D.fM D.dM ["_law_stream", "_law_some"] (spMx K) := (ok_mixed D.FM ⟨D.t, D.gD, D.FD.kp⟩ D.FD (bDr D)).imp fun _ _ _ _ h => spMx_of h
theorem ok_st (D : DrawD K mg) : FnOk P w K mg base CX0 1 D.fS D.dS ["_law_script"] (spSt K) := (ok_start D.FS D.t).imp fun _ _ _ _ h => spSt_of h
end
end E1

set_option Elab.async false
set_option linter.all false
set_option maxRecDepth 100000
set_option maxHeartbeats 4000000
/-! min and max of two texts. -/
namespace G0
open PySem PySem.Spec PyProof.Rows L2
section
variable {prog : Program} {w : World} {A : Around} {E : Value → Shared → Prop} {s : Shared}
theorem rc_lt_str {x y : Str} {t u : Tok} {Q : Value → Shared → Prop} (h : Q (.bool (ltS x y)) s) : wpAny (model prog w) A (richCompare .Lt (.str x t) (.str y u)) Q E s := lt_str h
theorem rc_gt_str {x y : Str} {t u : Tok} {Q : Value → Shared → Prop} (h : Q (.bool (ltS y x)) s) : wpAny (model prog w) A (richCompare .Gt (.str x t) (.str y u)) Q E s := PySem.P.gt_str h
def strAt (x y : Str) (i : Nat) : Str := if i = 0 then x else y
theorem two_at {x y : Str} {t u : Tok} {i : Nat} {v : Value} (h : (#[Value.str x t, Value.str y u] : Array Value)[i]? = some v) : ∃ k, v = .str (strAt x y i) k := by
  match i, h with
  | 0, h => exact ⟨t, by simpa [strAt] using h.symm⟩
  | 1, h => exact ⟨u, by simpa [strAt] using h.symm⟩
  | n + 2, h => simp at h
theorem max_two_strs {x y : Str} {t u : Tok} {Q : Value → Shared → Prop} (hh : A.handled = none)
    (h : ∀ h' tk, (∀ c o, s.heap.get? c = some o → h'.get? c = some o) → Q (if ltS x y = true then .str y u else .str x t) { s with heap := h', toks := tk }) :
    wpAny (model prog w) A (call (.builtin "max") [.str x t, .str y u]) Q E s := by
  have hT : (s.heap.push { cls := .type "tuple", data := .seq #[.str x t, .str y u] }).IsTuple s.heap.objs.size #[.str x t, .str y u] := ⟨_, Heap.get?_push_size _ rfl, rfl, 0, by simp⟩
  refine call_max_two (wpAny_pyIter_tuple hT ?_)
  have hsz : (s.heap.push { cls := .type "tuple", data := .seq #[.str x t, .str y u] }).objs.size = s.heap.objs.size + 1 := Heap.size_push ..
  refine ⟨_, [_, s.heap.objs.size], [_], _, _, _, (fun i j => ltS (strAt x y j) (strAt x y i)), rfl, Walks.tuple (A := A.in1) hh _ s.heap.objs.size (by rw [hsz]; exact Nat.ne_of_lt (Nat.lt_succ_self _)) #[.str x t, .str y u],
    ⟨⟨_, Heap.get?_push_size _ rfl, rfl, rfl⟩, hT.push _⟩, fun c hc => ?_, by simp, (fun i j vi vj s Q E hi hj hQ => ?_), fun v h' tk hP hk => ?_⟩
  · show c < ((s.heap.push _).push _).objs.size
    rw [Heap.size_push, hsz]
    rcases List.mem_cons.mp hc with rfl | hc
    · rw [hsz]; exact Nat.lt_succ_self _
    · rcases List.mem_cons.mp hc with rfl | hc
      · exact Nat.lt_succ_of_lt (Nat.lt_succ_self _)
      · cases hc
  · obtain ⟨k1, rfl⟩ := two_at hi
    obtain ⟨k2, rfl⟩ := two_at hj
    exact rc_gt_str hQ
  · have hold : ∀ c o, s.heap.get? c = some o → h'.get? c = some o := fun c o e => by
      refine hk c o (fun hm => ?_) (Heap.get?_push_of_some _ (Heap.get?_push_of_some _ e))
      rcases List.mem_cons.mp hm with e1 | hm
      · have := Heap.lt_size e; rw [e1, hsz] at this; exact Nat.lt_irrefl _ (Nat.lt_of_succ_lt this)
      · cases hm
    have := h h' tk hold
    have hv : v = if ltS x y = true then Value.str y u else Value.str x t := by
      have hP' : (#[Value.str x t, Value.str y u] : Array Value)[argBest (fun i j => ltS (strAt x y j) (strAt x y i)) 1]? = some v := hP
      by_cases hba : ltS x y = true
      · have e : argBest (fun i j => ltS (strAt x y j) (strAt x y i)) 1 = 1 := by simp [argBest, strAt, hba]
        rw [e] at hP'
        simpa [hba] using hP'.symm
      · have e : argBest (fun i j => ltS (strAt x y j) (strAt x y i)) 1 = 0 := by simp [argBest, strAt, hba]
        rw [e] at hP'
        simpa [hba] using hP'.symm
    rw [hv]; exact this
theorem min_two_strs {x y : Str} {t u : Tok} {Q : Value → Shared → Prop} (hh : A.handled = none)
    (h : ∀ h' tk, (∀ c o, s.heap.get? c = some o → h'.get? c = some o) → Q (if ltS y x = true then .str y u else .str x t) { s with heap := h', toks := tk }) :
    wpAny (model prog w) A (call (.builtin "min") [.str x t, .str y u]) Q E s := by
  have hT : (s.heap.push { cls := .type "tuple", data := .seq #[.str x t, .str y u] }).IsTuple s.heap.objs.size #[.str x t, .str y u] := ⟨_, Heap.get?_push_size _ rfl, rfl, 0, by simp⟩
  refine call_min_two (wpAny_pyIter_tuple hT ?_)
  have hsz : (s.heap.push { cls := .type "tuple", data := .seq #[.str x t, .str y u] }).objs.size = s.heap.objs.size + 1 := Heap.size_push ..
  refine ⟨_, [_, s.heap.objs.size], [_], _, _, _, (fun i j => ltS (strAt x y i) (strAt x y j)), rfl, Walks.tuple (A := A.in1) hh _ s.heap.objs.size (by rw [hsz]; exact Nat.ne_of_lt (Nat.lt_succ_self _)) #[.str x t, .str y u],
    ⟨⟨_, Heap.get?_push_size _ rfl, rfl, rfl⟩, hT.push _⟩, fun c hc => ?_, by simp, (fun i j vi vj s Q E hi hj hQ => ?_), fun v h' tk hP hk => ?_⟩
  · show c < ((s.heap.push _).push _).objs.size
    rw [Heap.size_push, hsz]
    rcases List.mem_cons.mp hc with rfl | hc
    · rw [hsz]; exact Nat.lt_succ_self _
    · rcases List.mem_cons.mp hc with rfl | hc
      · exact Nat.lt_succ_of_lt (Nat.lt_succ_self _)
      · cases hc
  · obtain ⟨k1, rfl⟩ := two_at hi
    obtain ⟨k2, rfl⟩ := two_at hj
    exact rc_lt_str hQ
  · have hold : ∀ c o, s.heap.get? c = some o → h'.get? c = some o := fun c o e => by
      refine hk c o (fun hm => ?_) (Heap.get?_push_of_some _ (Heap.get?_push_of_some _ e))
      rcases List.mem_cons.mp hm with e1 | hm
      · have := Heap.lt_size e; rw [e1, hsz] at this; exact Nat.lt_irrefl _ (Nat.lt_of_succ_lt this)
      · cases hm
    have := h h' tk hold
    have hv : v = if ltS y x = true then Value.str y u else Value.str x t := by
      have hP' : (#[Value.str x t, Value.str y u] : Array Value)[argBest (fun i j => ltS (strAt x y i) (strAt x y j)) 1]? = some v := hP
      by_cases hba : ltS y x = true
      · have e : argBest (fun i j => ltS (strAt x y i) (strAt x y j)) 1 = 1 := by simp [argBest, strAt, hba]
        rw [e] at hP'
        simpa [hba] using hP'.symm
      · have e : argBest (fun i j => ltS (strAt x y i) (strAt x y j)) 1 = 0 := by simp [argBest, strAt, hba]
        rw [e] at hP'
        simpa [hba] using hP'.symm
    rw [hv]; exact this
end
section
variable {X : Cx}
theorem cr_minT (hc : X.calm = true) : CallR X (.builtin "min") (fun xs H Q => ∃ i j, xs = [.str i, .str j] ∧ Q (.str (if ltS j i = true then j else i)) H) := by
  intro pins s σ H xs us Q I r h
  obtain ⟨i, j, rfl, q⟩ := h
  obtain ⟨u, w', rfl, ⟨t, rfl⟩, ⟨t', rfl⟩⟩ := vals2 r
  refine min_two_strs (I.ok.hd hc) fun h' tk k => ⟨_, H, I.kept k, ?_, q⟩
  by_cases hj : ltS j i = true
  · rw [if_pos hj, if_pos hj]; exact ⟨_, rfl⟩
  · rw [if_neg hj, if_neg hj]; exact ⟨_, rfl⟩
theorem cr_maxT (hc : X.calm = true) : CallR X (.builtin "max") (fun xs H Q => ∃ i j, xs = [.str i, .str j] ∧ Q (.str (if ltS i j = true then j else i)) H) := by
  intro pins s σ H xs us Q I r h
  obtain ⟨i, j, rfl, q⟩ := h
  obtain ⟨u, w', rfl, ⟨t, rfl⟩, ⟨t', rfl⟩⟩ := vals2 r
  refine max_two_strs (I.ok.hd hc) fun h' tk k => ⟨_, H, I.kept k, ?_, q⟩
  by_cases hj : ltS i j = true
  · rw [if_pos hj, if_pos hj]; exact ⟨_, rfl⟩
  · rw [if_neg hj, if_neg hj]; exact ⟨_, rfl⟩
/-- what never runs -/
theorem pe_dead {e : Expr} : PE X e (fun _ _ _ => False) := ⟨fun _ _ _ _ _ _ h => h.elim⟩
end
end G0

set_option Elab.async false
set_option linter.all false
set_option maxRecDepth 100000
set_option maxHeartbeats 4000000
/-! The law's own defs: where they stand; picking, names, ties. -/
namespace E1
open PySem PySem.Spec PyProof.Rows L2 G0
def lawIx : List Nat := [24, 26, 27, 28, 31, 32, 33, 34, 35, 36, 37, 38, 39, 40, 41, 42, 43, 44, 47, 49, 50, 51, 52, 53, 54]
def freeN : List Str := ["dict", "min", "max", "zip", "any", "repr", "range", "int", "bool", "set"]
structure LawD (K : PySem.W.Frag) (mg : Str → Option Value) where
  n : NamesD K mg
  t : TxtN K mg
  B : BoardD K mg
  s : DrawD K mg
  f : Nat → Addr
  d : Nat → FuncData
  F : ∀ i ∈ lawIx, FnS K i (f i) (d i)
  g : ∀ i ∈ lawIx, mg (tName i) = some (.ref (f i))
  free : ∀ x ∈ freeN, mg x = none
/-- fewer than 1000 -/
theorem But2.upd {H H' : Hp} {p l q : Addr} {o : HO} (B : But2 H H' p l) (h : H q = none) : But2 H (upd H' q o) p l := fun x u e h1 h2 => by
  rw [upd_ne (ne_of_none e h)]
  exact B x u e h1 h2
section
variable {P : Program} {w : World} {K : PySem.W.Frag} {mg : Str → Option Value} {base : Heap}
/-! ### _law_pick -/
abbrev N_pick : List Str := ["_law_stream", "_law_some"]
theorem sc_pick : FnScope N_pick ["_law_stream", "_law_some"] (defScope (topS 47)) := ⟨rfl, rfl, rfl, by decide +kernel, rfl, by decide +kernel, by decide +kernel⟩
def spPick (K : PySem.W.Frag) : Sp := fun vs H Q _ => ∃ (p l a : Addr) (n : Nat) (xs : List V), vs = [.ref p, .ref a] ∧ Stm H p l n ∧ n < 900000 ∧ H a = some (.lst xs) ∧ a ≠ p ∧ a ≠ l ∧ 0 < xs.length ∧ xs.length < 100000 ∧
  ∀ (i : Nat) (y : V) (H' : Hp), xs[i]? = some y → Fr H p l (n + 1) H' → Q y H'
theorem ok_pick (Z : LawD K mg) : FnOk P w K mg base CX0 2 (Z.f 47) (Z.d 47) ["_law_stream", "_law_some"] (spPick K) := by
  have GD : FnOk P w K mg base CX0 1 Z.s.fD Z.s.dD ["_law_stream", "_law_many"] spDr := ok_dr Z.s
  refine Fun.ok (Z.F 47 (by decide)) sc_pick (fun vs H Q E h => ?_) (fun cdv A outer s H vs Q E hr h => ⟨_, pss_one (ps_ret (pe_ix ix_list (pv 1) (pe_call GD hr (by rfl) Z.s.gD Z.s.FD.kp (bDr Z.s) .nil pass0 (pa_cons (pv 0) (pa_cons (pe_callB call_len_seq (by rfl) Z.t.len PySem.boot_len (pa_cons (pv 1) pa_nil)) pa_nil))) (fun _ _ => rfl))), ?_⟩)
  · obtain ⟨p, l, a, n, xs, rfl, _⟩ := h
    rfl
  · obtain ⟨p, l, a, n, xs, rfl, S, hn, ha, n1, n2, h0, hl, k⟩ := h
    refine ⟨_, rfl, _, rfl, _, rfl, a, xs, rfl, .inl (SqL.of ha), p, l, n, xs.length, rfl, S, by omega, h0, by omega, fun r H' hr' F => ?_⟩
    have hy : xs[r]? = some xs[r] := List.getElem?_eq_getElem hr'
    exact ⟨a, xs, r, xs[r], rfl, rfl, SqL.of (F.but _ _ ha n1 n2), atI_nat hy, k r _ H' hy F⟩
theorem bPick (Z : LawD K mg) : Binds K (Z.d 47) ["_law_stream", "_law_some"] [] := (Z.F 47 (by decide)).binds fun _ _ _ _ _ _ us hl => match us, hl with | [_, _], _ => rfl
/-! ### _law_a_tie -/
abbrev N_a_tie : List Str := ["_law_one", "_law_other"]
theorem sc_a_tie : FnScope N_a_tie N_a_tie (defScope (topS 32)) := ⟨rfl, rfl, rfl, by decide +kernel, rfl, by decide +kernel, by decide +kernel⟩
def spTie : Sp := fun vs H Q _ => ∃ (x y : Str), vs = [.str x, .str y] ∧ ∀ t, H t = none → Q (.ref t) (upd H t (.tup [.str (tp x y).1, .str (tp x y).2]))
theorem boot_min : bootBuiltins "min" = some (.builtin "min") := by decide +kernel
theorem boot_max : bootBuiltins "max" = some (.builtin "max") := by decide +kernel
theorem tp_max (x y : Str) : (if ltS x y = true then y else x) = (tp x y).2 := by
  unfold tp
  cases h1 : ltS y x with
  | true =>
    rw [ltS_asym h1]
    rfl
  | false =>
    cases h2 : ltS x y with
    | true => rfl
    | false => exact ltS_eq h2 h1
theorem tp_min (x y : Str) : (if ltS y x = true then y else x) = (tp x y).1 := by
  unfold tp
  cases h1 : ltS y x with
  | true => rfl
  | false => rfl
theorem ok_a_tie (Z : LawD K mg) : FnOk P w K mg base CX0 1 (Z.f 32) (Z.d 32) N_a_tie spTie := by
  refine Fun.ok (Z.F 32 (by decide)) sc_a_tie (fun vs H Q E h => ?_) (fun cdv A outer s H vs Q E hr h => ⟨_, pss_one (ps_ret (pe_tup (pa_cons (pe_callB (cr_minT rfl) (by rfl) (Z.free "min" (by decide)) boot_min (pa_cons (pv 0) (pa_cons (pv 1) pa_nil))) (pa_cons (pe_callB (cr_maxT rfl) (by rfl) (Z.free "max" (by decide)) boot_max (pa_cons (pv 0) (pa_cons (pv 1) pa_nil))) pa_nil)))), ?_⟩)
  · obtain ⟨x, y, rfl, _⟩ := h
    rfl
  · obtain ⟨x, y, rfl, k⟩ := h
    refine ⟨_, rfl, _, rfl, x, y, rfl, _, rfl, _, rfl, x, y, rfl, by show 2 ≤ sizeLine; decide, fun t nt => ?_⟩
    rw [tp_max, tp_min]
    exact k t nt
theorem bTie (Z : LawD K mg) : Binds K (Z.d 32) N_a_tie [] := (Z.F 32 (by decide)).binds fun _ _ _ _ _ _ us hl => match us, hl with | [_, _], _ => rfl
/-! ### _law_a_names -/
abbrev N_a_names : List Str := ["_law_stream", "_law_many", "_law_some", "_law_found", "_law_number"]
theorem sc_a_names : FnScope N_a_names ["_law_stream", "_law_many"] (defScope (topS 31)) := ⟨rfl, rfl, rfl, by decide +kernel, rfl, by decide +kernel, by decide +kernel⟩
def someN : List Str := ["a", "b", "c", "d", "x", "y", "u", "v", "an", "ann", "p1", "p", "q9", "places", "tied", "eightsgn", "w0"]
def nK (k : Nat) : Str := ("n" : Str) ++ (toString (k : Int) : String)
def nKs : List Str := (List.range 40).map nK
def baseN : List Str := someN ++ nKs
theorem baseN_ok : baseN.all nameB = true := by decide +kernel
theorem baseN_nd : baseN.Nodup := by decide +kernel
theorem nK_len : (List.range 40).all (fun k => decide (((k : Int).natAbs.log2 < 1920) ∧ (("n" : Str).length + (Str.ofString (toString (k : Int))).length ≤ sizeLine))) = true := by decide +kernel
def spNames : Sp := fun vs H Q _ => ∃ (p l : Addr) (n m : Nat), vs = [.ref p, .int (m : Int)] ∧ Stm H p l n ∧ n < 800000 ∧ m ≤ 40 ∧
  ∀ (q : Addr) (ns : List Str) (H' : Hp), Fr H p l (n + 17) H' → H q = none → H' q = some (.lst (ns.map V.str)) → ns.length = m → ns.Nodup → (∀ z ∈ ns, z ∈ baseN) → Q (.ref q) H'
theorem bNames (Z : LawD K mg) : Binds K (Z.d 31) ["_law_stream", "_law_many"] [] := (Z.F 31 (by decide)).binds fun _ _ _ _ _ _ us hl => match us, hl with | [_, _], _ => rfl
theorem strs_perm {ys : List V} {ss : List Str} (h : ys.Perm (ss.map V.str)) : ∃ ts : List Str, ys = ts.map V.str ∧ ts.Perm ss := by
  have hm : ∀ y ∈ ys, ∃ z, y = V.str z := fun y hy => by
    obtain ⟨z, _, rfl⟩ := List.mem_map.mp (h.mem_iff.mp hy)
    exact ⟨z, rfl⟩
  let g : V → Str := fun v => match v with
    | .str z => z
    | _ => default
  have e : ys = (ys.map g).map V.str := by
    rw [List.map_map]
    refine (List.map_id ys).symm.trans (List.map_congr_left fun y hy => ?_)
    obtain ⟨z, rfl⟩ := hm y hy
    rfl
  refine ⟨ys.map g, e, ?_⟩
  have h2 := h.map g
  rw [List.map_map] at h2
  have e2 : (ss.map (g ∘ V.str)) = ss := (List.map_congr_left fun y _ => rfl).trans (List.map_id ss)
  rw [e2] at h2
  exact h2
theorem cut_to {xs : List V} (m : Nat) : cutV xs none (some (m : Int)) = xs.take m := by
  unfold cutV
  rw [HT.sIx_none, HT.sIx_nat, List.drop_zero, Nat.sub_zero]
  rcases Nat.le_total m xs.length with h | h
  · rw [Nat.min_eq_left h]
  · rw [Nat.min_eq_right h, List.take_of_length_le (Nat.le_refl _), List.take_of_length_le h]
theorem ok_a_names (Z : LawD K mg) : FnOk P w K mg base CX0 3 (Z.f 31) (Z.d 31) ["_law_stream", "_law_many"] spNames := by
  have GM : FnOk P w K mg base CX0 2 Z.s.fM Z.s.dM ["_law_stream", "_law_some"] (spMx K) := ok_mx Z.s
  refine Fun.ok (Z.F 31 (by decide)) sc_a_names (fun vs H Q E h => ?_) (fun cdv A outer s H vs Q E hr h => ⟨_, pss_cons (ps_set (i := 2) sc_a_names.nd rfl (Or.inl rfl) (pe_lst (pa_cons pe_str (pa_cons pe_str (pa_cons pe_str (pa_cons pe_str (pa_cons pe_str (pa_cons pe_str (pa_cons pe_str (pa_cons pe_str (pa_cons pe_str (pa_cons pe_str (pa_cons pe_str (pa_cons pe_str (pa_cons pe_str (pa_cons pe_str (pa_cons pe_str (pa_cons pe_str (pa_cons pe_str pa_nil)))))))))))))))))))
  (pss_cons (ps_set (i := 3) sc_a_names.nd rfl (Or.inl rfl) (pe_slice sl_list (pe_call GM hr (by rfl) Z.s.gM Z.s.FM.kp (bMx Z.s) .nil pass0 (pa_cons (pv 0) (pa_cons (pv 2) pa_nil))) po_none (po_some (pv 1))))
  (pss_one (ps_ret (pe_op op_cat (pv 3) (pe_lc (te := tOp (fun x y H Q => ∃ i j, x = .str i ∧ y = .str j ∧ i.length + j.length ≤ sizeLine ∧ Q (.str (i ++ j)) H) (tC (.str "n")) (tCB (fun xs H Q => ∃ i, xs = [.int i] ∧ i.natAbs.log2 < 1920 ∧ Q (.str (toString i)) H) (tCons (tVar 4) tNil))) (own := [("_law_number", 4)]) (tt := tYes) rfl sc_a_names.nd (pi_range1 (by rfl) (Z.free "range" (by decide)) (pa_cons (pe_op op_sub (pv 1) (pe_callB call_len_seq (by rfl) Z.t.len PySem.boot_len (pa_cons (pv 3) pa_nil))) pa_nil)) (blkOk_by (own := [("_law_number", 4)]) (N := N_a_names) (sc := defScope (topS 31)) (by decide +kernel)) (fun _ _ _ _ _ => (pg_name (i := 4) sc_a_names.nd rfl (Or.inl rfl))) (fun _ _ _ _ _ => pts_nil) (fun _ _ _ _ _ => (pe_op op_add_str pe_str (pe_callTy call_str_int (by rfl) Z.t.str boot_str (pa_cons (pv 4) pa_nil)))))))))
  , ?_⟩)
  · obtain ⟨p, l, n, m, rfl, _⟩ := h
    rfl
  · obtain ⟨p, l, n, m, rfl, S, hn, hm, k⟩ := h
    refine ⟨by show 17 ≤ sizeLine; decide, fun a na => ?_⟩
    have F0 : Fr H p l n (upd H a (.lst (someN.map V.str))) := S.fr.put na
    refine ⟨_, rfl, _, rfl, p, l, a, n, someN.map V.str, rfl, F0.st, by omega, SqL.of upd_same, by show 17 < 1000; decide, fun q ys H1 hperm F1 nq hq => ?_⟩
    obtain ⟨ts, rfl, tperm⟩ := strs_perm hperm
    have tl : ts.length = 17 := tperm.length_eq
    have F2 := F0.trans F1
    refine ⟨_, rfl, (m : Int), rfl, q, _, rfl, SqL.of hq, fun q2 n2 => ?_⟩
    rw [cut_to, ← List.map_take]
    have hq2l : (ts.take m).length = min m 17 := by rw [List.length_take, tl]
    have n2H := F2.free n2
    refine ⟨_, rfl, _, rfl, _, rfl, q2, _, rfl, .inl (SqL.of upd_same), _, _, rfl, rfl, _, rfl, ?_, ?_, fun D hD => ?_⟩
    · rw [List.length_map, hq2l]; omega
    · rw [List.length_map, hq2l]; omega
    have F3 : Fr H p l (n + 17) (upd H1 q2 (.lst ((ts.take m).map V.str))) := F2.put n2H
    have hDq : q2 ≠ D := ne_of_none upd_same hD
    have nD := F3.free hD
    have eN : ((m : Int) - (((ts.take m).map V.str).length : Nat) : Int).toNat = m - 17 := by rw [List.length_map, hq2l]; omega
    rw [eN]
    refine lc_range (n := m - 17) (fun i H' => H' D = some (.lst (((List.range i).map nK).map V.str)) ∧ H' q2 = some (.lst ((ts.take m).map V.str)) ∧ Fr H p l (n + 17) H') ⟨upd_same, by rw [upd_ne hDq]; exact upd_same, F3.put nD⟩ ?_ ?_
    · rintro i H' hi ⟨hD', hq', F'⟩
      have hk := List.all_eq_true.mp nK_len i (List.mem_range.mpr (by omega))
      obtain ⟨k1, k2⟩ := of_decide_eq_true hk
      have ei : (0 : Int) + (i : Int) = (i : Int) := Int.zero_add _
      rw [ei]
      refine ⟨rfl, yes_of ⟨_, rfl, i, rfl, k1, _, _, rfl, rfl, k2, _, hD', ?_, ?_, ?_, F'.put nD⟩⟩
      · rw [List.length_map, List.length_map, List.length_range]
        exact small1000 (by omega)
      · rw [upd_same, List.range_succ, List.map_append, List.map_append]
        rfl
      · rw [upd_ne hDq]
        exact hq'
    · rintro H' ⟨hD', hq', F'⟩
      refine ⟨q2, D, _, _, rfl, rfl, hq', hD', ?_, fun r nr => ?_⟩
      · rw [List.length_map, List.length_map, List.length_map, List.length_range, hq2l]
        exact Nat.le_of_lt (small1000 (by omega))
      · have nrH := F'.free nr
        rw [← List.map_append]
        have sub : ∀ z ∈ (List.range (m - 17)).map nK, z ∈ nKs := fun z hz => by
          obtain ⟨j, hj, rfl⟩ := List.mem_map.mp hz
          exact List.mem_map.mpr ⟨j, List.mem_range.mpr (by have := List.mem_range.mp hj; omega), rfl⟩
        have subT : ∀ z ∈ ts.take m, z ∈ someN := fun z hz => tperm.mem_iff.mp (List.mem_of_mem_take hz)
        have nd := List.nodup_append.mp baseN_nd
        refine k r _ _ (F'.put nrH) nrH upd_same ?_ ?_ ?_
        · rw [List.length_append, List.length_map, List.length_range, hq2l]
          omega
        · refine List.nodup_append.mpr ⟨?_, ?_, fun x hx y hy e => nd.2.2 x (subT x hx) y (sub y hy) e⟩
          · exact (tperm.nodup_iff.mpr nd.1).sublist (List.take_sublist _ _)
          · have e : (List.range (m - 17)).map nK = nKs.take (m - 17) := by
              unfold nKs
              rw [← List.map_take, List.take_range, Nat.min_eq_left (by omega)]
            rw [e]
            exact nd.2.1.sublist (List.take_sublist _ _)
        · intro z hz
          rcases List.mem_append.mp hz with hz | hz
          · exact List.mem_append_left _ (subT z hz)
          · exact List.mem_append_right _ (sub z hz)
end
end E1

set_option Elab.async false
set_option linter.all false
set_option maxRecDepth 100000
set_option maxHeartbeats 4000000
/-! A walk, whatever is done in a turn. -/
namespace E1
open PySem PySem.Spec PyProof.Rows L2 G0
abbrev Wk (J : It) (B : V → Hp → (Hp → Prop) → Prop) (H0 : Hp) (Fin : Hp → Prop) : Prop := ∃ W : Nat → Nat → Hp → Prop, (∃ m, W 0 m H0) ∧ ∀ i m H, W i m H →
  (J.stop i H ∧ Fin H) ∨ (J.go i H ∧ ∃ Nx : Hp → Prop, (∀ H', Nx H' → ∃ m', m' < m ∧ W (i + 1) m' H') ∧ ∀ x H', J.yld i H x H' → B x H' Nx)
theorem wk_any {J : It} {B : V → Hp → (Hp → Prop) → Prop} {H0 : Hp} {Fin : Hp → Prop} (n : Nat) (Pv : Nat → Hp → Prop) (h0 : Pv 0 H0) (hg : ∀ i H, i < n → Pv i H → J.go i H) (hst : ∀ H, Pv n H → J.stop n H)
    (hs : ∀ i H x H', i < n → Pv i H → J.yld i H x H' → B x H' (Pv (i + 1))) (hd : ∀ H, Pv n H → Fin H) : Wk J B H0 Fin := by
  refine ⟨fun i m H => i + m = n ∧ Pv i H, ⟨n, by omega, h0⟩, fun i m H ⟨em, p⟩ => ?_⟩
  cases m with
  | zero =>
    have e : i = n := by omega
    rw [e] at p ⊢
    exact .inl ⟨hst H p, hd H p⟩
  | succ m =>
    have lt : i < n := by omega
    exact .inr ⟨hg i H lt p, Pv (i + 1), fun H' p' => ⟨m, Nat.lt_succ_self _, by omega, p'⟩, fun x H' y => hs i H x H' lt p y⟩
theorem wk_items {K : PySem.W.Frag} {H H0 H00 : Hp} {b : Addr} {ys : List V} {B : V → Hp → (Hp → Prop) → Prop} {Fin : Hp → Prop} (e : itemsOf H (.ref b) = some ys) (S0 : Same H H0) (Pv : Nat → Hp → Prop) (h0 : Pv 0 H00)
    (hl : ∀ i H', i ≤ ys.length → Pv i H' → Same H H') (hs : ∀ i x H, ys[i]? = some x → Pv i H → B x H (Pv (i + 1))) (hd : ∀ H, Pv ys.length H → Fin H) :
    (SqL K H0 b ys ∧ Wk (Itl K b) B H00 Fin) ∨ (SqT K H0 b ys ∧ Wk (Itt K b) B H00 Fin) := by
  rcases items_at.mp e with h | h
  · refine .inl ⟨SqL.of (S0 _ _ h), wk_any ys.length Pv h0 (fun i H' lt p => ⟨ys, ys[i], SqL.of (hl i H' (Nat.le_of_lt lt) p _ _ h), by simp [lt]⟩) (fun H' p => ⟨ys, SqL.of (hl _ H' (Nat.le_refl _) p _ _ h), Nat.le_refl _⟩) (fun i H' v H2 lt p y => ?_) hd⟩
    obtain ⟨rfl, hz⟩ := y
    exact hs i v H2 (hz ys (SqL.of (hl i H2 (Nat.le_of_lt lt) p _ _ h))) p
  · refine .inr ⟨SqT.of (S0 _ _ h), wk_any ys.length Pv h0 (fun i H' lt p => ⟨ys, ys[i], SqT.of (hl i H' (Nat.le_of_lt lt) p _ _ h), by simp [lt]⟩) (fun H' p => ⟨ys, SqT.of (hl _ H' (Nat.le_refl _) p _ _ h), Nat.le_refl _⟩) (fun i H' v H2 lt p y => ?_) hd⟩
    obtain ⟨rfl, hz⟩ := y
    exact hs i v H2 (hz ys (SqT.of (hl i H2 (Nat.le_of_lt lt) p _ _ h))) p
theorem wk_items2 {K : PySem.W.Frag} {H H0 : Hp} {b : Addr} {ys : List V} {B : Addr → V → Hp → (Hp → Prop) → Prop} {Fin : Addr → Hp → Prop} (e : itemsOf H (.ref b) = some ys) (S0 : Same H H0)
    (h : ∀ D, H0 D = none → ∃ Pv : Nat → Hp → Prop, Pv 0 (upd H0 D (.lst [])) ∧ (∀ i H', i ≤ ys.length → Pv i H' → Same H H') ∧ (∀ i x H, ys[i]? = some x → Pv i H → B D x H (Pv (i + 1))) ∧ ∀ H, Pv ys.length H → Fin D H) :
    (SqL K H0 b ys ∧ ∀ D, H0 D = none → Wk (Itl K b) (B D) (upd H0 D (.lst [])) (Fin D)) ∨ (SqT K H0 b ys ∧ ∀ D, H0 D = none → Wk (Itt K b) (B D) (upd H0 D (.lst [])) (Fin D)) := by
  have one : ∀ D, H0 D = none → (SqL K H0 b ys ∧ Wk (Itl K b) (B D) (upd H0 D (.lst [])) (Fin D)) ∨ (SqT K H0 b ys ∧ Wk (Itt K b) (B D) (upd H0 D (.lst [])) (Fin D)) := fun D hD => by
    obtain ⟨Pv, h1, h2, h3, h4⟩ := h D hD
    exact wk_items e S0 Pv h1 h2 h3 h4
  rcases items_at.mp e with q | q
  · refine .inl ⟨SqL.of (S0 _ _ q), fun D hD => ?_⟩
    obtain ⟨Pv, h1, h2, h3, h4⟩ := h D hD
    refine wk_any ys.length Pv h1 (fun i H' lt p => ⟨ys, ys[i], SqL.of (h2 i H' (Nat.le_of_lt lt) p _ _ q), by simp [lt]⟩) (fun H' p => ⟨ys, SqL.of (h2 _ H' (Nat.le_refl _) p _ _ q), Nat.le_refl _⟩) (fun i H' v H2 lt p y => ?_) h4
    obtain ⟨rfl, hz⟩ := y
    exact h3 i v H2 (hz ys (SqL.of (h2 i H2 (Nat.le_of_lt lt) p _ _ q))) p
  · refine .inr ⟨SqT.of (S0 _ _ q), fun D hD => ?_⟩
    obtain ⟨Pv, h1, h2, h3, h4⟩ := h D hD
    refine wk_any ys.length Pv h1 (fun i H' lt p => ⟨ys, ys[i], SqT.of (h2 i H' (Nat.le_of_lt lt) p _ _ q), by simp [lt]⟩) (fun H' p => ⟨ys, SqT.of (h2 _ H' (Nat.le_refl _) p _ _ q), Nat.le_refl _⟩) (fun i H' v H2 lt p y => ?_) h4
    obtain ⟨rfl, hz⟩ := y
    exact h3 i v H2 (hz ys (SqT.of (h2 i H2 (Nat.le_of_lt lt) p _ _ q))) p
end E1

set_option Elab.async false
set_option linter.all false
set_option maxRecDepth 100000
set_option maxHeartbeats 4000000
/-! A set of texts, made of a list of them: how many it has. -/
namespace G0
open PySem PySem.Spec PyProof.Rows L2 SS
/-- of the first i texts each once -/
def seenS (xs : List Str) : Nat → List Str
  | 0 => []
  | i + 1 => if xs.getD i Str.empty ∈ seenS xs i then seenS xs i else seenS xs i ++ [xs.getD i Str.empty]
theorem seenS_len (xs : List Str) : ∀ i, (seenS xs i).length ≤ i
  | 0 => Nat.le_refl _
  | i + 1 => by
    have ih := seenS_len xs i
    unfold seenS
    split
    · omega
    · rw [List.length_append, List.length_singleton]
      omega
theorem seenS_mem (xs : List Str) : ∀ i, i ≤ xs.length → ∀ k, k ∈ seenS xs i ↔ k ∈ xs.take i
  | 0, _, k => by simp [seenS]
  | i + 1, h, k => by
    have ih := seenS_mem xs i (by omega)
    have e : xs[i]? = some (xs.getD i Str.empty) := by
      rw [List.getD_eq_getElem?_getD, List.getElem?_eq_getElem (by omega)]
      rfl
    have t : xs.take (i + 1) = xs.take i ++ [xs.getD i Str.empty] := by
      rw [List.take_succ, e]
      rfl
    rw [t]
    unfold seenS
    split
    · rename_i hm
      constructor
      · intro z
        exact List.mem_append_left _ ((ih k).mp z)
      · intro z
        rcases List.mem_append.mp z with z | z
        · exact (ih k).mpr z
        · rw [List.mem_singleton.mp z]
          exact hm
    · constructor
      · intro z
        rcases List.mem_append.mp z with z | z
        · exact List.mem_append_left _ ((ih k).mp z)
        · exact List.mem_append_right _ z
      · intro z
        rcases List.mem_append.mp z with z | z
        · exact List.mem_append_left _ ((ih k).mpr z)
        · exact List.mem_append_right _ z
/-- as many as there are just if no two are alike -/
theorem seenS_nodup (xs : List Str) : ∀ i, i ≤ xs.length → ((seenS xs i).length = i ↔ (xs.take i).Nodup)
  | 0, _ => by simp [seenS]
  | i + 1, h => by
    have ih := seenS_nodup xs i (by omega)
    have e : xs[i]? = some (xs.getD i Str.empty) := by
      rw [List.getD_eq_getElem?_getD, List.getElem?_eq_getElem (by omega)]
      rfl
    have t : xs.take (i + 1) = xs.take i ++ [xs.getD i Str.empty] := by
      rw [List.take_succ, e]
      rfl
    have m := seenS_mem xs i (by omega) (xs.getD i Str.empty)
    have l := seenS_len xs i
    rw [t, List.nodup_append]
    unfold seenS
    split
    · rename_i hm
      constructor
      · intro z
        omega
      · intro z
        exact absurd rfl (z.2.2 _ (m.mp hm) _ (List.mem_singleton.mpr rfl))
    · rename_i hm
      rw [List.length_append, List.length_singleton]
      constructor
      · intro z
        exact ⟨ih.mp (by omega), by simp, fun a ha b hb q => hm (m.mpr (by rw [← List.mem_singleton.mp hb, ← q]; exact ha))⟩
      · intro z
        rw [ih.mpr z.1]
def lenSet (xs : List Str) : Nat := (seenS xs xs.length).length
theorem lenSet_eq (xs : List Str) : (lenSet xs = xs.length) ↔ xs.Nodup := by
  have := seenS_nodup xs xs.length (Nat.le_refl _)
  rw [List.take_length] at this
  exact this
section
variable {P : Program} {w : World}
abbrev SetHas (P : Program) (w : World) (h : Heap) (S : Addr) (D : List Str) : Prop := h.SetOf (PySem.strKind P w) S (fun k => decide (k ∈ D)) D.length
theorem SetHas.move {h h' : Heap} {S : Addr} {D : List Str} (H : SetHas P w h S D) (k : ∀ o, h.get? S = some o → h'.get? S = some o) : SetHas P w h' S D :=
  let ⟨o, es, ep, t, ho, r⟩ := H
  ⟨o, es, ep, t, k o ho, r⟩
theorem SetHas.one {h : Heap} {S : Addr} {D : List Str} {x : Str} (H : h.SetOf (PySem.strKind P w) S (fun k => decide (k ∈ D) || decide (k = x)) (if decide (x ∈ D) = true then D.length else D.length + 1)) : SetHas P w h S (if x ∈ D then D else D ++ [x]) := by
  refine SetOf_congr H (fun k => ?_) ?_
  · split
    · rename_i hx
      by_cases e : k = x
      · rw [e, decide_eq_true hx]
        rfl
      · rw [decide_eq_false e, Bool.or_false]
    · rw [Bool.eq_iff_iff]
      simp
  · split
    · rename_i hx
      rw [if_pos (of_decide_eq_true hx)]
    · rename_i hx
      rw [if_neg (fun z => hx (decide_eq_true z)), List.length_append, List.length_singleton]
variable {A : Around} {R : Result → Shared → Prop} {I S : Addr} {fp wr : List Addr} {G : Array GenState → Array GenState → Prop} {n : Nat} {Pv : Nat → Value → Prop} {St : Nat → Shared → Prop}
/-- what comes of the rest of the walk -/
theorem loop_set (W : WalksS P w A.in1 I fp wr G n Pv St) (out : S ∉ fp) (xs : List Str) (texts : ∀ i v, Pv i v → ∃ t, v = .str (xs.getD i Str.empty) t) (few : n + 1 < scanBound) :
    ∀ (left at_ : Nat), at_ + left = n → ∀ s : Shared, St at_ s → SetHas P w s.heap S (seenS xs at_) →
      (∀ s', Moved (S :: wr) G s s' → SetHas P w s'.heap S (seenS xs n) → R (.ok (.ret .none)) s') → codeAny (model P w) A (.builtin "set.update.loop" ⟨[.ref S, .ref I], []⟩) R s
  | 0, at_, sum, s, st, has, fin => by
    obtain rfl : at_ = n := by omega
    refine codeAny_builtin F.entry_set_update_loop ?_
    rw [Around.under_plainId F.plain_set_update_loop _]
    refine (show wpAny (model P w) A.in1 (pyNext (.ref I) >>= _) _ _ s from wpAny_bind (W.done s _ _ st fun s' mv => ?_))
    refine (show wpAny (model P w) A.in1 (ret Value.none) _ _ s' from wpAny_pure ?_)
    exact fin s' (mv.mono fun b hb => List.mem_cons_of_mem _ hb) (has.move fun o e => mv.heap S o (fun q => out (W.sub _ q)) e)
  | left + 1, at_, sum, s, st, has, fin => by
    have lt : at_ < n := by omega
    refine codeAny_builtin F.entry_set_update_loop ?_
    rw [Around.under_plainId F.plain_set_update_loop _]
    refine (show wpAny (model P w) A.in1 (pyNext (.ref I) >>= _) _ _ s from wpAny_bind (W.item at_ s _ _ lt st fun v s1 hv st1 mv => ?_))
    obtain ⟨tk, rfl⟩ := texts at_ v hv
    have has1 := has.move fun o e => mv.heap S o (fun q => out (W.sub _ q)) e
    have len := seenS_len xs at_
    refine (show wpAny (model P w) A.in1 (holding [Value.str (xs.getD at_ Str.empty) tk] (setAdd S (.str (xs.getD at_ Str.empty) tk)) >>= _) _ _ s1 from wpAny_bind (wpAny_holding ?_))
    unfold setAdd
    refine wpAny_holding (wpAny_bind ((PySem.strKind P w).pyHash (k := xs.getD at_ Str.empty) (strKind_is _ _ _ _) ?_))
    refine wpAny_setAddHashed_of (knd := PySem.strKind P w) (s := { s1 with toks := s1.toks + 1 }) (strKind_is _ _ _ _) rfl has1 (by omega) fun h2 but grown => ?_
    have has2 : SetHas P w h2 S (seenS xs (at_ + 1)) := SetHas.one grown
    have still : ∀ b, b ≠ S → ∀ o, s1.heap.get? b = some o → h2.get? b = some o := fun b ne o e => (but.2 b ne).trans e
    refine wpAny_pure ⟨plainId_quiet F.plain_set_update_loop _, loop_set W out xs texts few left (at_ + 1) (by omega) _ (W.frame _ s1 _ _ st1 (Nat.le_succ _) fun b hb o e => still b (fun q => out (q ▸ hb)) o e) has2 fun s3 mv3 has3 => ?_⟩
    have mv1 := mv.mono (wr' := S :: wr) fun b hb => List.mem_cons_of_mem _ hb
    exact fin s3 (Moved.trans W.gtrans (mv1.then_heap (Nat.le_succ _) fun b o nb e => still b (fun q => nb (q ▸ List.mem_cons_self)) o e) mv3) has3
end
section
variable {P : Program} {w : World} {A : Around} {E : Value → Shared → Prop} {s : Shared}
abbrev bare (led : Bool) : Obj := { cls := .type "set", dict := none, data := .set #[] 0 (.fresh 0 0 led) }
/-- the set, just made, takes them in -/
theorem init_texts {led : Bool} {l : Addr} {its : Array Value} {xs : List Str} (calm : A.handled = none) (isl : s.heap.IsList l its) (are : StrsAre its.toList xs) (few : its.size + 1 < scanBound) :
    codeAny (model P w) A (.call (.builtin "set.__init__") ⟨[.ref s.heap.objs.size, .ref l], []⟩)
      (wants (fun r s2 => r = .none ∧ ∃ (h' : Heap) (tk : Nat), s2 = { s with heap := h', toks := tk } ∧ SetHas P w h' s.heap.objs.size (seenS xs its.size) ∧ ∀ b o, b < s.heap.objs.size → s.heap.get? b = some o → h'.get? b = some o) E) { s with heap := s.heap.push (bare led) } := by
  have at_ : (s.heap.push (bare led)).get? s.heap.objs.size = some (bare led) := Heap.get?_push_size _ rfl
  have isSet : Shared.TypeIs { s with heap := s.heap.push (bare led) } (.ref s.heap.objs.size) "set" := ⟨_, at_, rfl⟩
  have isl1 : (s.heap.push (bare led)).IsList l its := isl.push _
  have below : l < s.heap.objs.size := by
    obtain ⟨o, e, _⟩ := isl
    exact Heap.lt_size e
  have size1 : (s.heap.push (bare led)).objs.size = s.heap.objs.size + 1 := Heap.size_push _ _
  refine codeAny_call_builtin PySem.F.called_set.init.plain PySem.F.entry_set_init (check_set_init_1 isSet ?_)
  obtain ⟨⟨lc, ld, ldt, ls⟩, ho, hc, n0, hd⟩ := isl1
  dsimp only at hc hd
  subst hc hd
  have noSet := PySem.F.sub_list_set
  have noFro := PySem.F.sub_list_frozenset
  have noDict : (Value.type "list" == Value.type "dict") = false := by decide
  unfold Builtin.«set.__init__» noKeywords Builtin.Frozenset.updateFrom
  generalize it : pyIter = PI
  wp_walk
  subst it
  have isl2 : (s.heap.push (bare led)).IsList l its := isl.push _
  refine wpAny_pyIter_list isl2 (wpAny_bind (wpAny_runValue ?_))
  have none3 : A.in1.in1.handled = none := by simp [calm]
  have apart : l ≠ (s.heap.push (bare led)).objs.size := by
    rw [size1]
    exact Nat.ne_of_lt (Nat.lt_succ_of_lt below)
  have out : s.heap.objs.size ∉ [(s.heap.push (bare led)).objs.size, l] := fun h => by
    rw [size1] at h
    rcases List.mem_cons.mp h with h | h
    · exact absurd h (Nat.ne_of_lt (Nat.lt_succ_self _))
    · exact absurd (List.mem_singleton.mp h) (Nat.ne_of_gt below)
  have texts : ∀ (i : Nat) (v : Value), its[i]? = some v → ∃ t, v = .str (xs.getD i Str.empty) t := fun i v e => strs_at are i v (by rw [Array.getElem?_toList]; exact e)
  have fresh : ((s.heap.push (bare led)).push { cls := .type "list_iterator", data := .fields #[.ref l, .int 0 0] }).get? s.heap.objs.size = some (bare led) := Heap.get?_push_of_some _ at_
  have has0 : SetHas P w ((s.heap.push (bare led)).push { cls := .type "list_iterator", data := .fields #[.ref l, .int 0 0] }) s.heap.objs.size (seenS xs 0) :=
    SetOf_congr ((setObjOf_fresh (knd := PySem.strKind P w) led).setOf fresh (by unfold scanBound; omega)) (fun _ => rfl) rfl
  refine loop_set (Walks.list none3 _ l apart its).toS out xs texts few its.size 0 (Nat.zero_add _) _ ⟨⟨_, Heap.get?_push_size _ rfl, rfl, rfl⟩, isl2.push _⟩ has0 fun s' mv has' => ?_
  obtain ⟨h', g', d', tk', os'⟩ := s'
  obtain rfl : g' = s.gens := mv.gens
  obtain rfl : d' = s.drawn := mv.drawn
  obtain rfl : os' = s.os := mv.os
  refine (show wpAny _ _ (pure ()) _ _ _ from wpAny_pure (show wpAny _ _ (ret Value.none) _ _ _ from wpAny_pure ⟨rfl, h', tk', rfl, has', fun b o hb e => mv.heap b o (fun hm => ?_) (Heap.get?_push_of_some _ (Heap.get?_push_of_some _ e))⟩))
  rcases List.mem_cons.mp hm with q | q
  · exact absurd q (Nat.ne_of_lt hb)
  · rw [size1] at q
    exact absurd (List.mem_singleton.mp q) (Nat.ne_of_lt (Nat.lt_succ_of_lt hb))
/-- set(l), l a list of texts -/
theorem call_set_texts {l : Addr} {its : Array Value} {xs : List Str} {Q : Value → Shared → Prop} (calm : A.handled = none) (isl : s.heap.IsList l its) (are : StrsAre its.toList xs) (few : its.size + 1 < scanBound)
    (q : ∀ (h' : Heap) (tk : Nat), SetHas P w h' s.heap.objs.size (seenS xs its.size) → (∀ b o, b < s.heap.objs.size → s.heap.get? b = some o → h'.get? b = some o) → Q (.ref s.heap.objs.size) { s with heap := h', toks := tk }) :
    wpAny (model P w) A (call (.type "set") [.ref l]) Q E s := by
  obtain ⟨cc, tl, mro⟩ := PySem.F.called_set.mro
  have made := PySem.F.called_set.made
  have sub := PySem.F.called_set.sub
  have can := PySem.F.called_set.canCreate
  have noType := PySem.F.called_set.notType
  have checked := PySem.F.typeCall_set_1 (.ref l)
  refine wpAny_call (codeAny_of_tree (show wpAny _ _ (callAny (.type "set") _) _ _ _ from wpAny_pure ⟨Code.quiet_builtin _ (by decide +kernel), codeAny_builtin PySem.F.entry_type_call ?_⟩))
  rw [Around.under_plain (weight_type_call_type "set" [.ref l] []) rfl]
  repeat any_goals first | assumption | wp_step
  refine codeAny_mono (code_set_new_1 (.ref l) (E := E) (Q₁ := fun ob s1 => ∃ led, ob = .ref s.heap.objs.size ∧ s1 = { s with heap := s.heap.push (bare led) }) fun led => ⟨led, rfl, rfl⟩) fun r s1 hr => ?_
  match r, hr with
  | .error e, hr => exact hr
  | .ok (.ret ob), ⟨led, eo, es⟩ =>
    subst eo es
    have at_ : (s.heap.push (bare led)).get? s.heap.objs.size = some (bare led) := Heap.get?_push_size _ rfl
    have isSet : Shared.TypeIs { s with heap := s.heap.push (bare led) } (.ref s.heap.objs.size) "set" := ⟨_, at_, rfl⟩
    have look := PySem.F.called_set.init.lookup
    have bound := PySem.F.called_set.init.bind (.ref s.heap.objs.size)
    repeat any_goals first | assumption | wp_step
    refine codeAny_mono (init_texts (E := E) calm isl are few) fun r2 s2 hr2 => ?_
    match r2, hr2 with
    | .error e, hr2 => exact hr2
    | .ok (.ret v), ⟨ev, h', tk, es, has, keep⟩ =>
      subst ev es
      repeat any_goals first | assumption | wp_step
      exact q _ _ has keep
    | .ok .next, hr2 => exact hr2.elim
    | .ok .brk, hr2 => exact hr2.elim
    | .ok .cont, hr2 => exact hr2.elim
  | .ok .next, hr => exact hr.elim
  | .ok .brk, hr => exact hr.elim
  | .ok .cont, hr => exact hr.elim
end
section
variable {X : Cx}
/-- len(set(xs)), xs a list of texts -/
def tLenTx (K : PySem.W.Frag) (ta : TE) : TE := fun σ H Q => ta σ H fun x H1 => ∃ (l : Addr) (xs : List Str), x = .ref l ∧ SqL K H1 l (xs.map V.str) ∧ xs.length < 100 ∧ Q (.int (lenSet xs)) H1
theorem strs_of_vals : ∀ {ys : List Str} {us : List Value}, Vals (ys.map V.str) us → StrsAre us ys
  | [], _, .nil => .nil
  | y :: ys, _, .cons ⟨k, e⟩ more => by
    subst e
    exact .cons y k (strs_of_vals more)
theorem pe_lenTx {a : Expr} {ta : TE} {p1 p2 p3 pos : Pos} (calm : X.calm = true) (g1 : Gl X "len") (m1 : X.mg "len" = none) (g2 : Gl X "set") (m2 : X.mg "set" = none) (pa : PE X a ta)
    (one : starEach [a] X.env = (false, eval a X.env) :: starEach [] X.env := by rfl) : PE X (.Call (.Name "len" p1) [.Call (.Name "set" p2) [a] [] p3] [] pos) (tLenTx X.K ta) := by
  refine ⟨fun pins s σ H Q inv h => Call_ (ld_blt inv g1 m1 boot_len (PyProof.Rows.callWith_builtin1 (PyProof.Rows.args_cons (Call_ (ld_blt inv g2 m2 boot_set (PyProof.Rows.callWith_type1 (PyProof.Rows.args_cons (thn (pa.run pins s σ H _ inv h) fun v s1 ⟨x, H1, I1, r1, q1⟩ => PyProof.Rows.args_nil ?_) one) one rfl))) rfl) rfl rfl))⟩
  obtain ⟨l, xs, rfl, hq, few, q1⟩ := q1
  cases r1
  obtain ⟨its, rv, lay, _⟩ := I1.list hq
  have size : its.toArray.size = xs.length := by rw [List.size_toArray, ← rv.length, List.length_map]
  refine call_set_texts (I1.ok.hd calm) lay.isList (by simpa using strs_of_vals rv) (by rw [size]; unfold scanBound; omega) fun h' tk has keep => PyProof.Rows.args_nil ?_
  rw [size] at has
  obtain ⟨o, es, ep, t, ho, ex, hd, _, _, _, hf, hn⟩ := has
  have I2 : Inv X pins σ H1 { s1 with heap := h', toks := tk } := I1.kept fun b o e => keep b o (Heap.lt_size e) e
  have small := seenS_len xs xs.length
  exact call_len_set ho ex hd hf (by rw [hn]; omega) ⟨.int (lenSet xs), H1, I2.tok _, ⟨_, by rw [hn]; rfl⟩, q1⟩
end
end G0

set_option Elab.async false
set_option linter.all false
set_option maxRecDepth 100000
set_option maxHeartbeats 4000000
/-! A dict whose keys are pairs of pairs of texts: asked, stored. -/
namespace G0
open PySem PySem.Spec PyProof.Rows L2
abbrev Wi : Type := Pr × Pr
def nkP (p : Pr) : NestedKey := .tup [.text p.1, .text p.2]
def nk (z : Wi) : NestedKey := .tup [nkP z.1, nkP z.2]
theorem nkP_inj {p q : Pr} (h : nkP p = nkP q) : p = q := by
  obtain ⟨a, b⟩ := p
  obtain ⟨c, d⟩ := q
  unfold nkP at h
  injection h with h
  injection h with h1 h
  injection h with h2 _
  injection h1 with h1
  injection h2 with h2
  have h1 : a = c := h1
  have h2 : b = d := h2
  rw [h1, h2]
theorem nk_inj {x y : Wi} (h : nk x = nk y) : x = y := by
  obtain ⟨a, b⟩ := x
  obtain ⟨c, d⟩ := y
  unfold nk at h
  injection h with h
  injection h with h1 h
  injection h with h2 _
  rw [show a = c from nkP_inj h1, show b = d from nkP_inj h2]
theorem nk_depth (z : Wi) : (nk z).depth ≤ 8 := by
  simp [nk, nkP, NestedKey.depth, NestedKey.depthAll]
/-- such a pair of pairs -/
def WiAt (H : Hp) (t : Addr) (z : Wi) : Prop := ∃ u1 u2 : Addr, H t = some (.tup [.ref u1, .ref u2]) ∧ H u1 = some (.tup [.str z.1.1, .str z.1.2]) ∧ H u2 = some (.tup [.str z.2.1, .str z.2.2])
def rowsN (rs : List (Wi × Addr)) : List (NestedKey × Addr × Value) := rs.map fun q => (nk q.1, q.2, Value.bool true)
def RawN (P : Program) (w : World) (a : Addr) (rs : List (Wi × Addr)) (h : Heap) : Prop :=
  ∃ o es ep, h.get? a = some o ∧ o.ExactDict ∧ o.data = .dict es ep ∧ es.toList = (rowsN rs).map (entryOfKey (nestedKind P w)) ∧ (a == sysModules) = false
/-- such a dict, each key's value True -/
def NDi (P : Program) (w : World) (a : Addr) (rs : List (Wi × Addr)) : HO := .ext (RawN P w a rs)
def IsN (P : Program) (w : World) (H : Hp) (a : Addr) (rs : List (Wi × Addr)) : Prop := H a = some (NDi P w a rs) ∨ (rs = [] ∧ H a = some (.dK []))
theorem raw_move {P : Program} {w : World} {a : Addr} {rs : List (Wi × Addr)} {h h' : Heap} (r : RawN P w a rs h) (k : ∀ o, h.get? a = some o → h'.get? a = some o) : RawN P w a rs h' :=
  let ⟨o, es, ep, ho, q⟩ := r
  ⟨o, es, ep, k o ho, q⟩
theorem raw_ok {P : Program} {w : World} {H : Hp} {a : Addr} {rs : List (Wi × Addr)} {h : Heap} (r : RawN P w a rs h) : ObjOk P w H h a (NDi P w a rs) := by
  obtain ⟨o, _, _, ho, _⟩ := id r
  exact ⟨r, ⟨o, ho⟩, fun h1 h2 p k => raw_move p k⟩
section
variable {X : Cx} {pins : List (Addr × Obj)} {σ : L2.St} {H : Hp} {s : Shared} {a t : Addr} {z : Wi} {rs : List (Wi × Addr)}
theorem IsN.raw (I : Inv X pins σ H s) (n : IsN X.prog X.w H a rs) : RawN X.prog X.w a rs s.heap := by
  rcases n with n | ⟨rfl, n⟩
  · exact (I.hok a _ n).1
  · obtain ⟨_, hs, vs, kv, o, es, ep, ho, ex, hd, _, hp, _⟩ := dk_of I.hok n
    cases kv
    refine ⟨o, es, ep, ho, ex, hd, ?_, hs⟩
    show es.toList = []
    revert hp
    generalize es.toList = l
    intro hp
    cases hp
    rfl
theorem pair_is (I : Inv X pins σ H s) {u : Addr} {p : Pr} (h : H u = some (.tup [.str p.1, .str p.2])) : NestedIs s.heap (nkP p) (.ref u) := by
  obtain ⟨its, rv, ⟨o, e, c, n, d⟩, _⟩ := I.tuple (SqT.of h)
  cases rv with
  | cons r1 rv =>
    cases rv with
    | cons r2 rv =>
      cases rv
      obtain ⟨k1, rfl⟩ := r1
      obtain ⟨k2, rfl⟩ := r2
      exact .tup e c d (.cons (.text _ _) (.cons (.text _ _) .nil))
theorem WiAt.is (I : Inv X pins σ H s) (h : WiAt H t z) : (nestedKind X.prog X.w).is s.heap (nk z) t := by
  obtain ⟨u1, u2, h0, h1, h2⟩ := h
  refine ⟨?_, nk_depth z⟩
  obtain ⟨its, rv, ⟨o, e, c, n, d⟩, _⟩ := I.tuple (SqT.of h0)
  cases rv with
  | cons r1 rv =>
    cases rv with
    | cons r2 rv =>
      cases rv
      cases r1
      cases r2
      exact .tup e c d (.cons (pair_is I h1) (.cons (pair_is I h2) .nil))
theorem rows_nodup (nd : (rs.map Prod.fst).Nodup) : ((rowsN rs).map (·.1)).Nodup := by
  have e : (rowsN rs).map (·.1) = (rs.map Prod.fst).map nk := by
    unfold rowsN
    rw [List.map_map, List.map_map]
    rfl
  rw [e]
  exact nd.map nk fun x y h e => h (nk_inj e)
theorem at_rows : ∀ rs : List (Wi × Addr), (atKey (rowsN rs) (nk z)).isSome = decide (z ∈ rs.map Prod.fst)
  | [] => rfl
  | q :: rs => by
    have ih := at_rows rs
    unfold atKey rowsN at ih ⊢
    rw [List.map_cons, List.find?_cons]
    by_cases e : q.1 = z
    · rw [show decide (nk q.1 = nk z) = true from decide_eq_true (by rw [e])]
      rw [decide_eq_true (show z ∈ (q :: rs).map Prod.fst by rw [List.map_cons, e]; exact List.mem_cons_self)]
      rfl
    · rw [show decide (nk q.1 = nk z) = false from decide_eq_false fun h => e (nk_inj h)]
      show (Option.map (·.2) (List.find? (fun x => decide (x.1 = nk z)) (List.map (fun q => (nk q.1, q.2, Value.bool true)) rs))).isSome = _
      rw [ih, List.map_cons]
      rw [Bool.eq_iff_iff, decide_eq_true_eq, decide_eq_true_eq, List.mem_cons]
      exact ⟨.inr, fun h => h.resolve_left fun h => e h.symm⟩
theorem raw_dict (I : Inv X pins σ H s) (n : IsN X.prog X.w H a rs) (all : ∀ q ∈ rs, WiAt H q.2 q.1) (nd : (rs.map Prod.fst).Nodup) : s.heap.DictOfH (nestedKind X.prog X.w) a (rowsN rs) ∧ (a == sysModules) = false := by
  obtain ⟨o, es, ep, ho, ex, hd, he, hs⟩ := n.raw I
  refine ⟨⟨o, es, ep, ho, ex, hd, he, fun x hx => ?_, rows_nodup nd⟩, hs⟩
  obtain ⟨q, hq, rfl⟩ := List.mem_map.mp hx
  exact (all q hq).is I
end
section
variable {X : Cx}
/-- z in d -/
def rInN (P : Program) (w : World) : R2 := fun x y H Q => ∃ (t a : Addr) (z : Wi) (rs : List (Wi × Addr)), x = .ref t ∧ y = .ref a ∧ WiAt H t z ∧ IsN P w H a rs ∧ (∀ q ∈ rs, WiAt H q.2 q.1) ∧ (rs.map Prod.fst).Nodup ∧ Q (.bl (decide (z ∈ rs.map Prod.fst))) H
theorem op_inN (room : X.A.units + 9 < cLine) : OpR X (compareOp .In) (rInN X.prog X.w) := by
  intro pins s σ H x y v u Q I rx ry h
  obtain ⟨t, a, z, rs, rfl, rfl, wi, n, all, nd, q⟩ := h
  cases (show v = Value.ref t from rx)
  cases (show u = Value.ref a from ry)
  obtain ⟨dict, hs⟩ := raw_dict I n all nd
  refine wpAny_in_heap (show X.A.units + 1 + 8 < cLine by omega) (wi.is I) hs dict ⟨.bl _, H, I.tok _, ?_, q⟩
  rw [at_rows]
  rfl
/-- d[z] = True, z not yet in it -/
def rSetN (P : Program) (w : World) : V → V → V → Hp → (Hp → Prop) → Prop := fun o i v H Q => ∃ (a t : Addr) (z : Wi) (rs : List (Wi × Addr)), o = .ref a ∧ i = .ref t ∧ v = .bl true ∧ WiAt H t z ∧ IsN P w H a rs ∧ (∀ q ∈ rs, WiAt H q.2 q.1) ∧ (rs.map Prod.fst).Nodup ∧ z ∉ rs.map Prod.fst ∧ rs.length < 1000 ∧
  Q (upd H a (NDi P w a (rs ++ [(z, t)])))
theorem set_nest (room : X.A.units + 9 < cLine) : PSet X (rSetN X.prog X.w) := by
  intro pins s σ H o i v ov iv u Q I ro ri rv h
  obtain ⟨a, t, z, rs, rfl, rfl, rfl, wi, n, all, nd, new, few, q⟩ := h
  cases (show ov = Value.ref a from ro)
  cases (show iv = Value.ref t from ri)
  cases (show u = Value.bool true from rv)
  obtain ⟨dict, hs⟩ := raw_dict I n all nd
  have out : atKey (rowsN rs) (nk z) = none := by
    have e := at_rows (z := z) rs
    rw [decide_eq_false new] at e
    exact Option.not_isSome_iff_eq_none.mp (by rw [e]; exact Bool.false_ne_true)
  have sz : 5000 < sizeLine := by decide
  refine wpAny_setItem_heap (show X.A.units + 1 + 8 < cLine by omega) (wi.is I) dict (fun h' dict' but => ?_) (by unfold rowsN; rw [List.length_map]; omega)
  rw [storedH_new out] at dict'
  have e : rowsN rs ++ [(nk z, t, Value.bool true)] = rowsN (rs ++ [(z, t)]) := by
    unfold rowsN
    rw [List.map_append]
    rfl
  rw [e] at dict'
  obtain ⟨o', es, ep, ho, ex, hd, he, _, _⟩ := dict'
  refine ⟨upd H a (NDi X.prog X.w a (rs ++ [(z, t)])), I.write (e := a) (t' := s.toks + (nk z).draws) ?_ (.inl rfl) (fun b w' nb e => (but.2 b nb).trans e) ⟨o', ho⟩ (raw_ok ⟨o', es, ep, ho, ex, hd, he, hs⟩), q⟩
  rcases n with n | ⟨_, n⟩
  · rw [n]
    trivial
  · rw [n]
    trivial
end
end G0

set_option Elab.async false
set_option linter.all false
set_option maxRecDepth 100000
set_option maxHeartbeats 4000000
/-! == and != of boards. -/
namespace E1
open PySem PySem.Spec PyProof.Rows L2 G0
theorem BoardAt.kn {N : Addr → Prop} {C : Addr} {H : Hp} {a : Addr} {pl : List Str} {ts : List Pr} {rm : List Str} (b : BoardAt N C H a pl ts rm) : ∃ dx fs, H a = some (.ins C dx fs) := by
  obtain ⟨dx, aP, aT, aR, aN, tv, l, h1, _⟩ := b
  exact ⟨dx, _, h1⟩
section
variable {N N' : Addr → Prop} {C : Addr} {H : Hp} {x y : Addr} {pl pl' : List Str} {ts ts' : List Pr} {rm rm' : List Str} {E : XK} {Q : VK}
theorem rbeq_same (b : BoardAt N C H x pl ts rm) (b' : BoardAt N' C H y pl ts rm) (q : Q (.bl true) H) : rBEq C (spBEq C) E (.ref x) (.ref y) H Q := by
  obtain ⟨dx, fs, h⟩ := b.kn
  obtain ⟨dy, gs, h'⟩ := b'.kn
  refine ⟨x, dx, fs, rfl, h, .own h', x, .ref y, pl, ts, rm, rfl, b.weak fun _ _ => trivial, .inr ⟨y, pl, ts, rm, rfl, b'.weak fun _ _ => trivial, ?_⟩⟩
  simp only [decide_true, Bool.and_self]
  exact q
theorem rbeq_dif (b : BoardAt N C H x pl ts rm) (b' : BoardAt N' C H y pl' ts' rm') (ne : ¬ (pl = pl' ∧ ts = ts' ∧ rm = rm')) (q : Q (.bl false) H) : rBEq C (spBEq C) E (.ref x) (.ref y) H Q := by
  obtain ⟨dx, fs, h⟩ := b.kn
  obtain ⟨dy, gs, h'⟩ := b'.kn
  have e : (decide (pl = pl') && (decide (ts = ts') && decide (rm = rm'))) = false := by
    rw [Bool.eq_false_iff]
    intro z
    simp only [Bool.and_eq_true, decide_eq_true_eq] at z
    exact ne z
  refine ⟨x, dx, fs, rfl, h, .own h', x, .ref y, pl, ts, rm, rfl, b.weak fun _ _ => trivial, .inr ⟨y, pl', ts', rm', rfl, b'.weak fun _ _ => trivial, ?_⟩⟩
  rw [e]
  exact q
theorem rbeq_oth {v : V} (b : BoardAt N C H x pl ts rm) (k : Kn C H v) (o : kdOf H v ≠ "") (q : Q (.bl false) H) : rBEq C (spBEq C) E (.ref x) v H Q := by
  obtain ⟨dx, fs, h⟩ := b.kn
  exact ⟨x, dx, fs, rfl, h, k, x, v, pl, ts, rm, rfl, b.weak fun _ _ => trivial, .inl ⟨k, o, q⟩⟩
theorem rbne_same (b : BoardAt N C H x pl ts rm) (b' : BoardAt N' C H y pl ts rm) (q : Q (.bl false) H) : rBNe C (spBEq C) E (.ref x) (.ref y) H Q := by
  obtain ⟨dx, fs, h⟩ := b.kn
  obtain ⟨dy, gs, h'⟩ := b'.kn
  refine ⟨x, dx, fs, y, rfl, rfl, h, .own h', x, .ref y, pl, ts, rm, rfl, b.weak fun _ _ => trivial, .inr ⟨y, pl, ts, rm, rfl, b'.weak fun _ _ => trivial, _, rfl, ?_⟩⟩
  simp only [decide_true, Bool.and_self]
  exact q
theorem rbne_dif (b : BoardAt N C H x pl ts rm) (b' : BoardAt N' C H y pl' ts' rm') (ne : ¬ (pl = pl' ∧ ts = ts' ∧ rm = rm')) (q : Q (.bl true) H) : rBNe C (spBEq C) E (.ref x) (.ref y) H Q := by
  obtain ⟨dx, fs, h⟩ := b.kn
  obtain ⟨dy, gs, h'⟩ := b'.kn
  have e : (decide (pl = pl') && (decide (ts = ts') && decide (rm = rm'))) = false := by
    rw [Bool.eq_false_iff]
    intro z
    simp only [Bool.and_eq_true, decide_eq_true_eq] at z
    exact ne z
  refine ⟨x, dx, fs, y, rfl, rfl, h, .own h', x, .ref y, pl, ts, rm, rfl, b.weak fun _ _ => trivial, .inr ⟨y, pl', ts', rm', rfl, b'.weak fun _ _ => trivial, _, rfl, ?_⟩⟩
  rw [e]
  exact q
theorem rbne_oth {a : Addr} (b : BoardAt N C H x pl ts rm) (k : Kn C H (.ref a)) (o : kdOf H (.ref a) ≠ "") (q : Q (.bl true) H) : rBNe C (spBEq C) E (.ref x) (.ref a) H Q := by
  obtain ⟨dx, fs, h⟩ := b.kn
  exact ⟨x, dx, fs, a, rfl, rfl, h, k, x, .ref a, pl, ts, rm, rfl, b.weak fun _ _ => trivial, .inl ⟨k, o, _, rfl, q⟩⟩
end
end E1

set_option Elab.async false
set_option linter.all false
set_option maxRecDepth 100000
set_option maxHeartbeats 8000000
/-! notices.py: wishes. -/
namespace E1
open PySem PySem.Spec PyProof.Rows L2 G0
/-- the four places of a wish -/
def four (z : Wi) : List Str := [z.1.1, z.1.2, z.2.1, z.2.2]
/-- v is a wish of these places -/
def WishIs (H : Hp) (pl : List Str) (v : V) (z : Wi) : Prop := ∃ p1 p2, itemsOf H v = some [p1, p2] ∧ itemsOf H p1 = some [.str z.1.1, .str z.1.2] ∧ itemsOf H p2 = some [.str z.2.1, .str z.2.2] ∧ (∀ s ∈ four z, s ∈ pl) ∧ (four z).Nodup
/-- its kinds are known as deep as is looked -/
def WKn (C : Addr) (H : Hp) (v : V) : Prop := Kn C H v ∧ ∀ xs, itemsOf H v = some xs → xs.length ≤ 1000 ∧ ∀ x ∈ xs, Kn C H x ∧ ∀ ys, itemsOf H x = some ys → ys.length ≤ 1000 ∧ ∀ y ∈ ys, Kn C H y
theorem kn_keeps {C : Addr} {H H' : Hp} {v : V} (k : Kn C H v) (S : Same H H') : itemsOf H' v = itemsOf H v := by
  cases e : itemsOf H v with
  | some xs => exact items_same S e
  | none =>
    have a := kn_items k
    obtain ⟨k', d⟩ := k.same S
    have b := kn_items k'
    have c : isSeq H' v = isSeq H v := by
      unfold isSeq
      rw [d]
    rw [c, a, e] at b
    exact Option.isSome_eq_false_iff.mp b.symm |> Option.isNone_iff_eq_none.mp
theorem pair_keeps {C : Addr} {H H' : Hp} {v : V} (k : Kn C H v) (S : Same H H') : pairB H' v = pairB H v := by
  unfold pairB
  rw [kn_keeps k S]
def spIsWish (C : Addr) : Sp := fun vs H Q _ => ∃ (x : Addr) (v : V) (pl : List Str) (ts : List Pr) (rm : List Str) (r : Bool), vs = [.ref x, v] ∧ BoardAt (fun _ => True) C H x pl ts rm ∧ WKn C H v ∧ (r = true ↔ ∃ z, WishIs H pl v z) ∧ ∀ H', Same H H' → Q (.bl r) H'
abbrev N_wish : List Str := ["board", "thing", "pair", "places", "place"]
theorem sc_wish : FnScope N_wish ["board", "thing"] (defScope (topS 26)) := ⟨rfl, rfl, rfl, by decide +kernel, rfl, by decide +kernel, by decide +kernel⟩
section
variable {P : Program} {w : World} {K : PySem.W.Frag} {mg : Str → Option Value} {base : Heap}
theorem bWish (Z : LawD K mg) : Binds K (Z.d 26) ["board", "thing"] [] := (Z.F 26 (by decide)).binds fun _ _ _ _ _ _ us hl => match us, hl with | [_, _], _ => rfl
theorem ok_wish (Z : LawD K mg) : FnOk P w K mg base CX0 3 (Z.f 26) (Z.d 26) ["board", "thing"] (spIsWish Z.B.C) := by
  have GP : FnOk P w K mg base CX0 2 Z.n.fP Z.n.dP ["thing"] (spIsPair Z.B.C) := ok_is_pair Z.n Z.t Z.B.O
  have GH : FnOk P w K mg base CX0 1 (Z.B.f 5) (Z.B.d 5) ["self", "thing"] (spHas Z.B.C) := ok_has Z.B Z.t
  refine Fun.ok (Z.F 26 (by decide)) sc_wish (fun vs H Q E h => ?_) (fun cdv A outer s H vs Q E hr h => ⟨_, pss_cons (ps_if (PW.pt (pw_or (pt_not (pt_val (pe_call GP (hr.mono (by decide)) (by rfl) Z.n.gP Z.n.FP.kp (bP Z.n) .nil pass0 (pa_cons (pv 1) pa_nil)))) (pw_or1 (pt_not (pt_val (pe_callB (cr_all rfl) (by rfl) Z.t.all (by decide +kernel) (pa_cons (pe_lc (own := [("pair", 2)]) (tt := tYes) (te := tCall (spIsPair Z.B.C) [] L2.E0 (tCons (tVar 2) tNil)) rfl sc_wish.nd (pi_seqQ (pv 1)) (blkOk_by (own := [("pair", 2)]) (N := N_wish) (sc := defScope (topS 26)) (by decide +kernel)) (fun _ _ _ _ _ => (pg_name (i := 2) sc_wish.nd rfl (Or.inl rfl))) (fun _ _ _ _ _ => pts_nil) (fun _ _ _ _ _ => (pe_call GP (hr.mono (by decide)) (by rfl) Z.n.gP Z.n.FP.kp (bP Z.n) .nil pass0 (pa_cons (pv 2) pa_nil)))) pa_nil))))))) (pss_one (ps_ret pe_bl)) pss_nil)
  (pss_cons (ps_setLc2 (i := 3) (own := [("pair", 2), ("place", 4)]) (vs1 := [4]) (wi1 := iSeqQ K (tVar 2)) (tt := tYes) (tt1 := tYes) (te := tVar 4) rfl sc_wish.nd rfl rfl (by rfl) (pi_seqQ (pv 1)) (blkOk_by (own := [("pair", 2), ("place", 4)]) (N := N_wish) (sc := defScope (topS 26)) (by decide +kernel)) (by decide) (fun _ _ _ _ _ => (pg_name (i := 2) sc_wish.nd rfl (Or.inl rfl))) (fun _ _ _ _ _ => pts_nil) (fun _ _ _ _ _ => (pi_seqQ (pv 2))) (fun _ _ _ _ _ => (pg_name (i := 4) sc_wish.nd rfl (Or.inl rfl))) (fun _ _ _ _ _ => pts_nil) (fun _ _ _ _ _ => (pv 4)))
  (pss_cons (ps_if (pt_not (pt_val (pe_callB (cr_all rfl) (by rfl) Z.t.all (by decide +kernel) (pa_cons (pe_lc (own := [("place", 4)]) (tt := tYes) (te := tMeth Z.B.C "has_place" (spHas Z.B.C) [] L2.E0 (tVar 0) (tCons (tVar 4) tNil)) rfl sc_wish.nd (pi_list (pv 3)) (blkOk_by (own := [("place", 4)]) (N := N_wish) (sc := defScope (topS 26)) (by decide +kernel)) (fun _ _ _ _ _ => (pg_name (i := 4) sc_wish.nd rfl (Or.inl rfl))) (fun _ _ _ _ _ => pts_nil) (fun _ _ _ _ _ => (pe_meth (pv 0) Z.B.O.cl Z.B.M5 GH (hr.mono (by decide)) (b_m5 Z.B) .nil pass0 (pa_cons (pv 4) pa_nil)))) pa_nil)))) (pss_one (ps_ret pe_bl)) pss_nil)
  (pss_one (ps_ret (pe_cmpR op_eq (pe_lenTx rfl (by rfl) Z.t.len (by rfl) (Z.free "set" (by decide)) (pv 3)) (pe_callB call_len_seq (by rfl) Z.t.len PySem.boot_len (pa_cons (pv 3) pa_nil)) (nomark _)))))), ?_⟩)
  · obtain ⟨x, v, pl, ts, rm, r, rfl, _⟩ := h
    rfl
  · obtain ⟨x, v, pl, ts, rm, r, rfl, hB, kn, hr', k⟩ := h
    refine ⟨_, rfl, v, rfl, kn.1, fun H1 S1 => ⟨_, rfl, ?_⟩⟩
    have no : (¬ ∃ z, WishIs H pl v z) → r = false := fun n => by
      cases r with
      | false => rfl
      | true => exact absurd (hr'.mp rfl) n
    cases ep : pairB H v with
    | false =>
      refine iteT (iteT ?_)
      have : r = false := no fun ⟨z, p1, p2, e, _⟩ => by
        unfold pairB at ep
        rw [e] at ep
        cases ep
      rw [this] at k
      exact k _ S1
    | true =>
    obtain ⟨a, p1, p2, rfl, eit⟩ : ∃ a p1 p2, v = .ref a ∧ itemsOf H v = some [p1, p2] := by
      unfold pairB at ep
      cases e : itemsOf H v with
      | none => rw [e] at ep; cases ep
      | some xs =>
        rw [e] at ep
        obtain ⟨a, rfl, _⟩ := items_ref e
        match xs, ep with
        | [p1, p2], _ => exact ⟨a, p1, p2, rfl, rfl⟩
        | [], ep => simp at ep
        | [_], ep => simp at ep
        | _ :: _ :: _ :: _, ep => simp at ep
    obtain ⟨_, kx⟩ := kn.2 _ eit
    obtain ⟨kn1, ky1⟩ := kx p1 (by simp)
    obtain ⟨kn2, ky2⟩ := kx p2 (by simp)
    refine iteF ?_
    -- are both pairs
    refine ⟨_, rfl, a, [p1, p2], rfl, lc_seqQ2 (items_Q (K := K) (items_same S1 eit)) fun D hD => ⟨fun j H' => H' D = some (.lst (([p1, p2].take j).map fun y => .bl (pairB H y))) ∧ Same H1 H', ⟨upd_same, new_same hD⟩, fun j H' _ ⟨_, S'⟩ => same_LT S', ?_, ?_⟩⟩
    · rintro j y H' hy ⟨hacc, S'⟩
      have kny : Kn Z.B.C H y := by
        have := List.mem_of_getElem? hy
        simp only [List.mem_cons, List.not_mem_nil, or_false] at this
        rcases this with rfl | rfl
        · exact kn1
        · exact kn2
      have jl := (List.getElem?_eq_some_iff.mp hy).1
      refine ⟨rfl, yes_of ⟨_, rfl, y, rfl, (kny.same (S1.trans S')).1, fun H2 S2 => ⟨_, S2 _ _ hacc, ?_, ?_, ?_⟩⟩⟩
      · rw [List.length_map, List.length_take]
        have : 5000 < sizeLine := by decide
        omega
      · rw [upd_same, take_snoc hy, List.map_append, pair_keeps kny (S1.trans S')]
        rfl
      · exact fun b o e => by
          rw [upd_ne (ne_of_none e hD)]
          exact S2 _ _ (S' _ _ e)
    rintro H2 ⟨hacc, S2⟩
    have hacc : H2 D = some (.lst ([pairB H p1, pairB H p2].map V.bl)) := hacc
    refine ⟨D, [pairB H p1, pairB H p2], rfl, SqL.of hacc, _, rfl, ?_⟩
    have S02 := S1.trans S2
    -- one of them is none
    cases eb : pairB H p1 && pairB H p2 with
    | false =>
      have e1 : [pairB H p1, pairB H p2].all id = false := by
        simp only [List.all_cons, List.all_nil, Bool.and_true, id]
        exact eb
      rw [e1]
      refine iteT ?_
      have : r = false := no fun ⟨z, q1, q2, e, h1, h2, _⟩ => by
        rw [eit] at e
        cases e
        unfold pairB at eb
        rw [h1, h2] at eb
        cases eb
      rw [this] at k
      exact k _ S02
    | true =>
    have e1 : [pairB H p1, pairB H p2].all id = true := by
      simp only [List.all_cons, List.all_nil, Bool.and_true, id]
      exact eb
    rw [e1]
    refine iteF ?_
    obtain ⟨ea, ec⟩ := Bool.and_eq_true_iff.mp eb
    have two : ∀ {q : V}, pairB H q = true → ∃ b y1 y2, q = .ref b ∧ itemsOf H q = some [y1, y2] := fun {q} e => by
      unfold pairB at e
      cases ei : itemsOf H q with
      | none => rw [ei] at e; cases e
      | some xs =>
        rw [ei] at e
        obtain ⟨b, rfl, _⟩ := items_ref ei
        match xs, e with
        | [y1, y2], _ => exact ⟨b, y1, y2, rfl, rfl⟩
        | [], e => simp at e
        | [_], e => simp at e
        | _ :: _ :: _ :: _, e => simp at e
    obtain ⟨b1, y1, y2, rfl, i1⟩ := two ea
    obtain ⟨b2, y3, y4, rfl, i2⟩ := two ec
    -- all four
    refine ⟨_, rfl, a, [.ref b1, .ref b2], rfl, wk_items2 (H := H) eit S02 fun D2 hD2 => ⟨fun j H' => H' D2 = some (.lst ([y1, y2, y3, y4].take (2 * j))) ∧ Same H2 H', ⟨upd_same, new_same hD2⟩, fun j H' _ ⟨_, S'⟩ => S02.trans S', ?_, ?_⟩⟩
    · rintro j q H' hq ⟨hacc2, S'⟩
      obtain ⟨b, z1, z2, rfl, iz, tk⟩ : ∃ b z1 z2, q = .ref b ∧ itemsOf H q = some [z1, z2] ∧ [y1, y2, y3, y4].take (2 * (j + 1)) = [y1, y2, y3, y4].take (2 * j) ++ [z1, z2] := by
        match j, hq with
        | 0, hq =>
          cases hq
          exact ⟨b1, y1, y2, rfl, i1, rfl⟩
        | 1, hq =>
          cases hq
          exact ⟨b2, y3, y4, rfl, i2, rfl⟩
        | n + 2, hq => simp at hq
      refine ⟨rfl, yes_of ⟨_, rfl, b, [z1, z2], rfl, wk_items (H := H) iz (S02.trans S') (fun i H3 => H3 D2 = some (.lst ([y1, y2, y3, y4].take (2 * j) ++ [z1, z2].take i)) ∧ Same H2 H3) ⟨by rw [List.take_zero, List.append_nil]; exact hacc2, S'⟩ (fun i H3 _ ⟨_, S3⟩ => S02.trans S3) ?_ ?_⟩⟩
      · rintro i y H3 hy ⟨hacc3, S3⟩
        refine ⟨rfl, yes_of ⟨_, rfl, _, hacc3, ?_, ?_, ?_⟩⟩
        · have : 5000 < sizeLine := by decide
          rw [List.length_append, List.length_take, List.length_take]
          show min (2 * j) 4 + min i 2 < sizeLine
          omega
        · rw [upd_same, take_snoc hy, List.append_assoc]
        · exact fun b o e => by
            rw [upd_ne (ne_of_none e hD2)]
            exact S3 _ _ e
      · rintro H3 ⟨hacc3, S3⟩
        exact ⟨by rw [tk]; exact hacc3, S3⟩
    rintro H3 ⟨hacc3, S3⟩
    have hacc3 : H3 D2 = some (.lst [y1, y2, y3, y4]) := hacc3
    have S03 := S02.trans S3
    have kz : ∀ y ∈ [y1, y2, y3, y4], Kn Z.B.C H y := fun y hy => by
      have c1 := (ky1 _ i1).2
      have c2 := (ky2 _ i2).2
      simp only [List.mem_cons, List.not_mem_nil, or_false] at hy
      rcases hy with rfl | rfl | rfl | rfl
      · exact c1 _ (by simp)
      · exact c1 _ (by simp)
      · exact c2 _ (by simp)
      · exact c2 _ (by simp)
    obtain ⟨dx, fs, hx⟩ := hB.kn
    -- each is a place of the board
    refine ⟨_, rfl, D2, rfl, ⟨_, SqL.of hacc3⟩, fun D3 hD3 => lc_list (xs := [y1, y2, y3, y4]) (fun j H' => H' D3 = some (.lst (([y1, y2, y3, y4].take j).map fun y => .bl (inB pl y))) ∧ Same H3 H') ⟨upd_same, new_same hD3⟩ (fun j H' _ ⟨_, S'⟩ => SqL.of (S' _ _ hacc3)) ?_ ?_⟩
    · rintro j y H' hy ⟨hacc4, S'⟩
      have jl := (List.getElem?_eq_some_iff.mp hy).1
      have kny := kz y (List.mem_of_getElem? hy)
      have S04 := S03.trans S'
      obtain ⟨dx, aP, aT, aR, aN, tv, l, h1, _⟩ := id hB
      refine ⟨rfl, yes_of ⟨_, rfl, x, dx, _, rfl, S04 _ _ h1, rfl, _, rfl, x, y, pl, ts, rm, rfl, hB.same S04, (kny.same S04).1, _, hacc4, ?_, ?_, ?_⟩⟩
      · have : 5000 < sizeLine := by decide
        rw [List.length_map, List.length_take]
        show min j 4 < sizeLine
        omega
      · rw [upd_same, take_snoc hy, List.map_append]
        rfl
      · exact fun b o e => by
          rw [upd_ne (ne_of_none e hD3)]
          exact S' _ _ e
    rintro H4 ⟨hacc4, S4⟩
    have hacc4 : H4 D3 = some (.lst (([y1, y2, y3, y4].map (inB pl)).map V.bl)) := hacc4
    have S04 := S03.trans S4
    refine ⟨D3, [y1, y2, y3, y4].map (inB pl), rfl, SqL.of hacc4, _, rfl, ?_⟩
    cases ed : ([y1, y2, y3, y4].map (inB pl)).all id with
    | false =>
      refine iteT ?_
      have : r = false := no fun ⟨z, q1, q2, e, h1, h2, h3, _⟩ => by
        rw [eit] at e
        cases e
        rw [i1] at h1
        rw [i2] at h2
        cases h1
        cases h2
        have t : ([V.str z.1.1, .str z.1.2, .str z.2.1, .str z.2.2].map (inB pl)).all id = true := by
          simp only [List.map_cons, List.map_nil, List.all_cons, List.all_nil, id, inB]
          rw [decide_eq_true (h3 _ (by simp [four])), decide_eq_true (h3 _ (by simp [four])), decide_eq_true (h3 _ (by simp [four])), decide_eq_true (h3 _ (by simp [four]))]
          rfl
        rw [t] at ed
        cases ed
      rw [this] at k
      exact k _ S04
    | true =>
    have st : ∀ y ∈ [y1, y2, y3, y4], ∃ s, y = .str s ∧ s ∈ pl := fun y hy => by
      have := List.all_eq_true.mp ed (inB pl y) (List.mem_map.mpr ⟨y, hy, rfl⟩)
      cases y with
      | str s => exact ⟨s, rfl, of_decide_eq_true this⟩
      | _ => cases this
    obtain ⟨s1, rfl, m1⟩ := st y1 (by simp)
    obtain ⟨s2, rfl, m2⟩ := st y2 (by simp)
    obtain ⟨s3, rfl, m3⟩ := st y3 (by simp)
    obtain ⟨s4, rfl, m4⟩ := st y4 (by simp)
    refine iteF ⟨_, rfl, D2, [s1, s2, s3, s4], rfl, SqL.of (S4 _ _ hacc3), (by show 4 < 100; decide), _, rfl, D2, _, rfl, .inl (SqL.of (S4 _ _ hacc3)), ?_⟩
    have e4 : decide (V.int (lenSet [s1, s2, s3, s4] : Nat) = V.int ([V.str s1, .str s2, .str s3, .str s4].length : Nat)) = r := by
      rw [Bool.eq_iff_iff, hr', decide_eq_true_eq]
      have e5 : (V.int (lenSet [s1, s2, s3, s4] : Nat) = V.int ([V.str s1, .str s2, .str s3, .str s4].length : Nat)) ↔ lenSet [s1, s2, s3, s4] = [s1, s2, s3, s4].length := by
        constructor
        · intro h
          injection h with h
          exact Int.ofNat.inj h
        · intro h
          rw [h]
          rfl
      rw [e5, lenSet_eq]
      constructor
      · intro nd
        exact ⟨((s1, s2), (s3, s4)), _, _, eit, i1, i2, fun s hs => by
          simp only [four, List.mem_cons, List.not_mem_nil, or_false] at hs
          rcases hs with rfl | rfl | rfl | rfl <;> assumption, nd⟩
      · rintro ⟨z, q1, q2, e, h1, h2, _, nd⟩
        rw [eit] at e
        cases e
        rw [i1] at h1
        rw [i2] at h2
        cases h1
        cases h2
        exact nd
    refine ⟨rfl, ?_⟩
    rw [e4]
    exact k _ S04
end
end E1

set_option Elab.async false
set_option linter.all false
set_option maxRecDepth 100000
set_option maxHeartbeats 4000000
/-! Raw boards: any ties. -/
namespace E1
open PySem PySem.Spec PyProof.Rows L2 G0
theorem tp_cases (a b : Str) : tp a b = (a, b) ∨ tp a b = (b, a) := by
  unfold tp
  split
  · exact .inr rfl
  · exact .inl rfl
theorem tp_eq {a b c d : Str} (h : tp a b = tp c d) : (a = c ∧ b = d) ∨ (a = d ∧ b = c) := by
  rcases tp_cases a b with e | e <;> rcases tp_cases c d with f | f <;> rw [e, f] at h <;> injection h with h1 h2
  · exact .inl ⟨h1, h2⟩
  · exact .inr ⟨h1, h2⟩
  · exact .inr ⟨h2, h1⟩
  · exact .inl ⟨h2, h1⟩
theorem tp_inj {a b c : Str} (h : tp a b = tp a c) : b = c := by
  rcases tp_eq h with ⟨_, h⟩ | ⟨h1, h2⟩
  · exact h
  · rw [h2, h1]
theorem tp_lt {a b : Str} (h : a ≠ b) : ltS (tp a b).1 (tp a b).2 = true := by
  unfold tp
  cases e : ltS b a with
  | true => exact e
  | false =>
    cases e2 : ltS a b with
    | true => exact e2
    | false => exact absurd (ltS_eq e2 e) h
theorem tp_mem {a b : Str} {pl : List Str} (h1 : a ∈ pl) (h2 : b ∈ pl) : (tp a b).1 ∈ pl ∧ (tp a b).2 ∈ pl := by
  rcases tp_cases a b with e | e <;> rw [e]
  · exact ⟨h1, h2⟩
  · exact ⟨h2, h1⟩
theorem tp_self {p : Pr} (h : ltS p.1 p.2 = true) : tp p.1 p.2 = p := by
  unfold tp
  rw [ltS_asym h]
  rfl
theorem tp_swap (a b : Str) : tp a b = tp b a := by
  unfold tp
  cases h1 : ltS b a with
  | true =>
    rw [ltS_asym h1]
    rfl
  | false =>
    cases h2 : ltS a b with
    | true => rfl
    | false =>
      have := ltS_eq h2 h1
      rw [this]
theorem nodup_map {α β : Type} {f : α → β} {xs : List α} (hf : ∀ x y, x ∈ xs → y ∈ xs → f x = f y → x = y) (h : xs.Nodup) : (xs.map f).Nodup := by
  induction xs with
  | nil => exact List.nodup_nil
  | cons x xs ih =>
    have hc := List.nodup_cons.mp h
    refine List.nodup_cons.mpr ⟨fun hm => ?_, ih (fun a b ha hb => hf a b (List.mem_cons_of_mem _ ha) (List.mem_cons_of_mem _ hb)) hc.2⟩
    obtain ⟨y, hy, e⟩ := List.mem_map.mp hm
    exact hc.1 (hf y x (List.mem_cons_of_mem _ hy) List.mem_cons_self e ▸ hy)
/-- pairs of unlike ones, put as they are told, each once -/
structure TsOk (pl : List Str) (ts : List Pr) : Prop where
  nd : ts.Nodup
  ok : ∀ p ∈ ts, p.1 ∈ pl ∧ p.2 ∈ pl ∧ ltS p.1 p.2 = true
theorem TsOk.nil {pl : List Str} : TsOk pl [] := ⟨List.nodup_nil, by simp⟩
theorem TsOk.mono {pl pl' : List Str} {ts : List Pr} (t : TsOk pl ts) (h : ∀ z ∈ pl, z ∈ pl') : TsOk pl' ts := ⟨t.nd, fun p hp => ⟨h _ (t.ok p hp).1, h _ (t.ok p hp).2.1, (t.ok p hp).2.2⟩⟩
theorem TsOk.perm {pl : List Str} {ts us : List Pr} (t : TsOk pl ts) (h : us.Perm ts) : TsOk pl us := ⟨h.nodup_iff.mpr t.nd, fun p hp => t.ok p (h.mem_iff.mp hp)⟩
/-- ties from a new end to unlike others -/
theorem TsOk.fan {pl : List Str} {ts : List Pr} (t : TsOk pl ts) {a : Str} {es : List Str} (ha : a ∈ pl) (he : ∀ e ∈ es, e ∈ pl ∧ e ≠ a) (hn : es.Nodup) (hf : ∀ e ∈ es, tp a e ∉ ts) : TsOk pl (ts ++ es.map (tp a)) := by
  refine ⟨List.nodup_append.mpr ⟨t.nd, ?_, ?_⟩, fun p hp => ?_⟩
  · exact nodup_map (fun x y _ _ h => tp_inj h) hn
  · intro x hx y hy e
    obtain ⟨z, hz, rfl⟩ := List.mem_map.mp hy
    exact hf z hz (e ▸ hx)
  · rcases List.mem_append.mp hp with hp | hp
    · exact t.ok p hp
    · obtain ⟨z, hz, rfl⟩ := List.mem_map.mp hp
      exact ⟨(tp_mem ha (he z hz).1).1, (tp_mem ha (he z hz).1).2, tp_lt (he z hz).2.symm⟩
theorem prod_len (xs ys : List Str) : (xs.flatMap fun x => ys.map fun y => ((x, y) : Pr)).length = xs.length * ys.length := by
  induction xs with
  | nil => simp
  | cons x xs ih => rw [List.flatMap_cons, List.length_append, ih, List.length_map, List.length_cons, Nat.succ_mul, Nat.add_comm]
theorem TsOk.len {pl : List Str} {ts : List Pr} (t : TsOk pl ts) (h : pl.length ≤ 44) : ts.length ≤ 968 := by
  have nd : (ts ++ ts.map fun p => ((p.2, p.1) : Pr)).Nodup := by
    refine List.nodup_append.mpr ⟨t.nd, nodup_map (fun x y _ _ e => by
      obtain ⟨a, b⟩ := x
      obtain ⟨c, d⟩ := y
      injection e with e1 e2
      have e1' : b = d := e1
      have e2' : a = c := e2
      rw [e1', e2']) t.nd, fun x hx y hy e => ?_⟩
    obtain ⟨z, hz, rfl⟩ := List.mem_map.mp hy
    have l1 := (t.ok x hx).2.2
    have l2 := (t.ok z hz).2.2
    rw [e] at l1
    rw [ltS_asym l1] at l2
    cases l2
  have sub : (ts ++ ts.map fun p => ((p.2, p.1) : Pr)) ⊆ pl.flatMap fun x => pl.map fun y => ((x, y) : Pr) := fun p hp => by
    have key : p.1 ∈ pl ∧ p.2 ∈ pl := by
      rcases List.mem_append.mp hp with hp | hp
      · exact ⟨(t.ok p hp).1, (t.ok p hp).2.1⟩
      · obtain ⟨z, hz, rfl⟩ := List.mem_map.mp hp
        exact ⟨(t.ok z hz).2.1, (t.ok z hz).1⟩
    exact List.mem_flatMap.mpr ⟨p.1, key.1, List.mem_map.mpr ⟨p.2, key.2, rfl⟩⟩
  have := nd.length_le_of_subset sub
  rw [prod_len, List.length_append, List.length_map] at this
  have := Nat.mul_le_mul h h
  omega
/-- a raw board: places, ties, rim; N: where it lies -/
def RawAt (N : Addr → Prop) (H : Hp) (r : Addr) (pl : List Str) (ts : List Pr) (rm : List Str) : Prop :=
  ∃ (aP aT aR : Addr) (tv : List V), H r = some (.tup [.ref aP, .ref aT, .ref aR]) ∧ H aP = some (.lst (pl.map V.str)) ∧ H aT = some (.lst tv) ∧ PrsAt H tv ts ∧ H aR = some (.lst (rm.map V.str)) ∧ N r ∧ N aP ∧ N aT ∧ N aR ∧ ∀ t, V.ref t ∈ tv → N t
theorem prs_frame {N : Addr → Prop} {H H' : Hp} {vs : List V} {ps : List Pr} (h : PrsAt H vs ps) (n : ∀ t, V.ref t ∈ vs → N t) (S : ∀ c o, N c → H c = some o → H' c = some o) : PrsAt H' vs ps := ⟨h.1, fun i v q e1 e2 => by
  obtain ⟨t, rfl, ht⟩ := h.2 i v q e1 e2
  exact ⟨t, rfl, S _ _ (n t (List.mem_of_getElem? e1)) ht⟩⟩
theorem RawAt.frame {N : Addr → Prop} {H H' : Hp} {r : Addr} {pl : List Str} {ts : List Pr} {rm : List Str} (b : RawAt N H r pl ts rm) (S : ∀ c o, N c → H c = some o → H' c = some o) : RawAt N H' r pl ts rm := by
  obtain ⟨aP, aT, aR, tv, h1, h2, h3, h4, h5, n1, n2, n3, n4, n5⟩ := b
  exact ⟨aP, aT, aR, tv, S _ _ n1 h1, S _ _ n2 h2, S _ _ n3 h3, prs_frame h4 n5 S, S _ _ n4 h5, n1, n2, n3, n4, n5⟩
theorem RawAt.weak {N N' : Addr → Prop} {H : Hp} {r : Addr} {pl : List Str} {ts : List Pr} {rm : List Str} (b : RawAt N H r pl ts rm) (k : ∀ c, N c → N' c) : RawAt N' H r pl ts rm := by
  obtain ⟨aP, aT, aR, tv, h1, h2, h3, h4, h5, n1, n2, n3, n4, n5⟩ := b
  exact ⟨aP, aT, aR, tv, h1, h2, h3, h4, h5, k _ n1, k _ n2, k _ n3, k _ n4, fun t ht => k _ (n5 t ht)⟩
/-- names that the law takes for places -/
def sK (k : Nat) : Str := Str.ofString (toString (k : Int))
def gK (a b : Nat) : Str := ((("g" : Str) ++ sK a) ++ "k") ++ sK b
def gN : List Str := (List.range 4).flatMap fun a => (List.range 4).map fun b => gK a b
def allN : List Str := baseN ++ ((["cr0ss", "cr1ss"] : List Str) ++ gN)
theorem allN_ok : allN.all nameB = true := by decide +kernel
structure RawOk (pl : List Str) (ts : List Pr) (rm : List Str) : Prop where
  nd : pl.Nodup
  nm : ∀ z ∈ pl, z ∈ allN
  len : pl.length ≤ 44
  ts : TsOk pl ts
  rnd : rm.Nodup
  rin : ∀ z ∈ rm, z ∈ pl
theorem RawOk.name {pl : List Str} {ts : List Pr} {rm : List Str} (r : RawOk pl ts rm) {z : Str} (h : z ∈ pl) : nameB z = true := List.all_eq_true.mp allN_ok z (r.nm z h)
end E1

set_option Elab.async false
set_option linter.all false
set_option maxRecDepth 100000
set_option maxHeartbeats 4000000
namespace E1
open PySem PySem.Spec PyProof.Rows L2 G0
abbrev N_a_any : List Str := ["_law_stream", "_law_many", "_law_pins", "_law_share", "_law_places", "_law_ties", "_law_at", "_law_one", "_law_other"]
theorem sc_a_any : FnScope N_a_any ["_law_stream", "_law_many", "_law_pins", "_law_share"] (defScope (topS 33)) := ⟨rfl, rfl, rfl, by decide +kernel, rfl, by decide +kernel, by decide +kernel⟩
def spAny : Sp := fun vs H Q _ => ∃ (p l : Addr) (n m pins : Nat) (share : Int), vs = [.ref p, .int (m : Int), .int (pins : Int), .int share] ∧ Stm H p l n ∧ n < 700000 ∧ m ≤ 40 ∧
  ∀ (r : Addr) (pl : List Str) (ts : List Pr) (rm : List Str) (H' : Hp), Fr H p l (n + 3000) H' → RawAt (fun c => H c = none) H' r pl ts rm → RawOk pl ts rm → pl.length = m → Q (.ref r) H'
theorem lt_at {K : PySem.W.Frag} {H H' : Hp} {a : Addr} {xs : List V} (e0 : H a = some (.lst xs)) (e1 : H' a = some (.lst xs)) : (∀ ys, SqL K H a ys → SqL K H' a ys) ∧ ∀ ys, SqT K H a ys → SqT K H' a ys := by
  refine ⟨fun ys h => ?_, fun ys h => ?_⟩
  · rcases h with (h | ⟨o, h⟩) | h
    · rw [e0] at h
      cases h
      exact .inl (.inl e1)
    · rw [e0] at h
      cases h
    · exact .inr h
  · rcases h with (h | ⟨o, h⟩) | h
    · rw [e0] at h
      cases h
    · rw [e0] at h
      cases h
    · exact .inr h
theorem cut_from {xs : List V} (m : Nat) : cutV xs (some (m : Int)) none = xs.drop m := by
  unfold cutV
  rw [HT.sIx_none, HT.sIx_nat]
  rcases Nat.le_total m xs.length with h | h
  · rw [Nat.min_eq_left h, List.take_of_length_le (by rw [List.length_drop]; exact Nat.le_refl _)]
  · rw [Nat.min_eq_right h, Nat.sub_self, List.take_zero, List.drop_of_length_le h]
theorem prs_keep {H H1 H2 : Hp} {p l : Addr} {n m : Nat} {vs : List V} {ps : List Pr} (F : Fr H p l n H1) (G : Fr H1 p l m H2) (h : PrsAt H1 vs ps) (fr : ∀ t, V.ref t ∈ vs → H t = none) : PrsAt H2 vs ps := prs_frame h fr fun c o e1 e2 => F.keep G e1 e2
theorem prs_upd {H : Hp} {q : Addr} {o : HO} {vs : List V} {ps : List Pr} (h : PrsAt H vs ps) (e : ∀ xs, H q ≠ some (.tup xs)) : PrsAt (upd H q o) vs ps := h.mono fun t xs h2 => by
  rw [upd_ne (fun z => e xs (by rw [← z]; exact h2))]
  exact h2
theorem prs_app {H : Hp} {vs ws : List V} {ps qs : List Pr} (h : PrsAt H vs ps) (g : PrsAt H ws qs) : PrsAt H (vs ++ ws) (ps ++ qs) := by
  refine ⟨by rw [List.length_append, List.length_append, h.1, g.1], fun i v p h1 h2 => ?_⟩
  rcases Nat.lt_or_ge i vs.length with l | l
  · rw [List.getElem?_append_left l] at h1
    rw [List.getElem?_append_left (by rw [← h.1]; exact l)] at h2
    exact h.2 i v p h1 h2
  · rw [List.getElem?_append_right l] at h1
    rw [List.getElem?_append_right (by rw [← h.1]; exact l), ← h.1] at h2
    exact g.2 _ v p h1 h2
section
variable {P : Program} {w : World} {K : PySem.W.Frag} {mg : Str → Option Value} {base : Heap}
theorem bAny (Z : LawD K mg) : Binds K (Z.d 33) ["_law_stream", "_law_many", "_law_pins", "_law_share"] [] := (Z.F 33 (by decide)).binds fun _ _ _ _ _ _ us hl => match us, hl with | [_, _, _, _], _ => rfl
theorem ok_a_any (Z : LawD K mg) : FnOk P w K mg base CX0 4 (Z.f 33) (Z.d 33) ["_law_stream", "_law_many", "_law_pins", "_law_share"] spAny := by
  have GA : FnOk P w K mg base CX0 3 (Z.f 31) (Z.d 31) ["_law_stream", "_law_many"] spNames := ok_a_names Z
  have GM : FnOk P w K mg base CX0 2 Z.s.fM Z.s.dM ["_law_stream", "_law_some"] (spMx K) := ok_mx Z.s
  have GD : FnOk P w K mg base CX0 1 Z.s.fD Z.s.dD ["_law_stream", "_law_many"] spDr := ok_dr Z.s
  have GT : FnOk P w K mg base CX0 1 (Z.f 32) (Z.d 32) N_a_tie spTie := ok_a_tie Z
  refine Fun.ok (Z.F 33 (by decide)) sc_a_any (fun vs H Q E h => ?_) (fun cdv A outer s H vs Q E hr h => ⟨_, pss_cons (ps_par (i := 4) (j := 5) rfl sc_a_any.nd rfl rfl (by decide) rfl rfl (pa_cons (pe_call GA hr (by rfl) (Z.g 31 (by decide)) (Z.F 31 (by decide)).kp (bNames Z) .nil pass0 (pa_cons (pv 0) (pa_cons (pv 1) pa_nil))) (pa_cons (pe_lst pa_nil) pa_nil)) (by rfl))
  (pss_cons (ps_for PassesOwn.never rfl (pi_enumQ (by rfl) Z.t.enumerate (pa_cons (pv 4) pa_nil)) (pg_tup rfl (pgs_cons (pg_name (i := 6) sc_a_any.nd rfl (Or.inl rfl)) (pgs_cons (pg_name (i := 7) sc_a_any.nd rfl (Or.inr rfl)) pgs_nil)))
    (pss_one (ps_expr (pe_bm PySem.F.plainAttrs_list PySem.F.slot_list_extend PySem.F.type_list_extend mt_extend (pv 5) (pa_cons (pe_lc (own := [("_law_other", 8)]) (tt := _) rfl sc_a_any.nd (pi_list (pe_slice sl_list (pv 4) (po_some (pe_op op_add (pv 6) pe_int)) po_none)) (blkOk_by (own := [("_law_other", 8)]) (N := N_a_any) (sc := defScope (topS 33)) (by decide +kernel)) (fun _ _ _ _ _ => (pg_name (i := 8) sc_a_any.nd rfl (Or.inl rfl))) (fun _ _ _ _ _ => (pts_one (pt_cmpR op_lt (pe_call GD (hr.mono (by decide)) (by rfl) Z.s.gD Z.s.FD.kp (bDr Z.s) .nil pass0 (pa_cons (pv 0) (pa_cons pe_int pa_nil))) (pv 3) (nomark _)))) (fun _ _ _ _ _ => (pe_call GT (hr.mono (by decide)) (by rfl) (Z.g 32 (by decide)) (Z.F 32 (by decide)).kp (bTie Z) .nil pass0 (pa_cons (pv 7) (pa_cons (pv 8) pa_nil))))) pa_nil)))))
  (pss_one (ps_ret (pe_tup (pa_cons (pv 4) (pa_cons (pe_callB cr_sortP (by rfl) Z.t.sorted boot_sorted (pa_cons (pv 5) pa_nil)) (pa_cons (pe_slice sl_list (pe_call GM (hr.mono (by decide)) (by rfl) Z.s.gM Z.s.FM.kp (bMx Z.s) .nil pass0 (pa_cons (pv 0) (pa_cons (pv 4) pa_nil))) po_none (po_some (pv 2))) pa_nil))))))), ?_⟩)
  · obtain ⟨p, l, n, m, pins, share, rfl, _⟩ := h
    rfl
  · obtain ⟨p, l, n, m, pins, share, rfl, S, hn, hm, k⟩ := h
    refine ⟨_, rfl, _, rfl, p, l, n, m, rfl, S, by omega, hm, fun q pl H1 F1 nq hq lpl ndp inb => ⟨Nat.zero_le _, fun b nb => ⟨_, _, rfl, ?_⟩⟩⟩
    have nbH := F1.free nb
    have bq : b ≠ q := (ne_of_none hq nb).symm
    have F2 : Fr H p l (n + 17) (upd H1 b (.lst [])) := F1.put nbH
    refine ⟨_, rfl, q, pl.map V.str, rfl, for_enQ (.inl (SqL.of (by rw [upd_ne bq.symm]; exact hq))) (fun i σ H' => ∃ v6 v7 v8 tv ts, σ = [some (.ref p), some (.int (m : Int)), some (.int (pins : Int)), some (.int share), some (.ref q), some (.ref b), v6, v7, v8] ∧ H' q = some (.lst (pl.map V.str)) ∧ H' b = some (.lst tv) ∧ PrsAt H' tv ts ∧
      TsOk pl ts ∧ (∀ x ∈ ts, ∃ a c, x = tp a c ∧ a ∈ pl.take i) ∧ (∀ t, V.ref t ∈ tv → H t = none) ∧ Fr H p l (n + 17 + 40 * i) H')
      ⟨none, none, none, [], [], rfl, by rw [upd_ne bq.symm]; exact hq, upd_same, PrsAt.nil, TsOk.nil, by simp, (fun t ht => by cases ht), F2⟩ ?_ ?_ ?_⟩
    · rintro i σ H' hi ⟨v6, v7, v8, tv, ts, rfl, hq', _⟩
      exact lt_at (by rw [upd_ne bq.symm]; exact hq) hq'
    · rintro i x σ H' T hx ⟨v6, v7, v8, tv, ts, rfl, hq', hb', pt, tok, tin, fr, F'⟩ nT
      rw [List.getElem?_map] at hx
      cases ez : pl[i]? with
      | none => rw [ez] at hx; cases hx
      | some z =>
        rw [ez] at hx
        cases hx
        have hil : i < pl.length := (List.getElem?_eq_some_iff.mp ez).1
        have zpl : z ∈ pl := List.mem_of_getElem? ez
        have znt : z ∉ pl.take i := take_mem ndp ez
        have nTH := F'.free nT
        have FT : Fr H p l (n + 17 + 40 * i) (upd H' T (.tup [.int (i : Nat), .str z])) := F'.put nTH
        have qT : q ≠ T := ne_of_none hq' nT
        have bT : b ≠ T := ne_of_none hb' nT
        refine ⟨T, _, rfl, SqT.of upd_same, rfl, _, _, rfl, _, _, rfl, rfl, ?_⟩
        refine ⟨_, rfl, .inl ⟨rfl, _, SqL.of (by rw [upd_ne bT]; exact hb')⟩, _, rfl, _, rfl, _, _, rfl, rfl, _, rfl, q, _, rfl, SqL.of (by rw [upd_ne qT]; exact hq'), fun s ns => ⟨s, rfl, ⟨_, SqL.of upd_same⟩, fun D hD => ?_⟩⟩
        have ei : cutV (pl.map V.str) (some ((i : Int) + 1)) none = (pl.drop (i + 1)).map V.str := by
          rw [show ((i : Int) + 1) = ((i + 1 : Nat) : Int) from rfl, cut_from, List.map_drop]
        rw [ei] at hD ⊢
        have nsH := FT.free ns
        have Fs : Fr H p l (n + 17 + 40 * i) (upd (upd H' T (.tup [.int (i : Nat), .str z])) s (.lst ((pl.drop (i + 1)).map V.str))) := FT.put nsH
        have nDH := Fs.free hD
        have sD : s ≠ D := ne_of_none upd_same hD
        have qs : q ≠ s := ne_of_none (show (upd H' T _) q = _ from by rw [upd_ne qT]; exact hq') ns
        have bs : b ≠ s := ne_of_none (show (upd H' T _) b = _ from by rw [upd_ne bT]; exact hb') ns
        have q1 : (upd (upd H' T (.tup [.int (i : Nat), .str z])) s (.lst ((pl.drop (i + 1)).map V.str))) q = some (.lst (pl.map V.str)) := by rw [upd_ne qs, upd_ne qT]; exact hq'
        have b1 : (upd (upd H' T (.tup [.int (i : Nat), .str z])) s (.lst ((pl.drop (i + 1)).map V.str))) b = some (.lst tv) := by rw [upd_ne bs, upd_ne bT]; exact hb'
        have qD : q ≠ D := ne_of_none q1 hD
        have bD : b ≠ D := ne_of_none b1 hD
        have pt1 : PrsAt (upd (upd H' T (.tup [.int (i : Nat), .str z])) s (.lst ((pl.drop (i + 1)).map V.str))) tv ts := prs_upd (prs_upd pt (fun xs e => by rw [nT] at e; cases e)) (fun xs e => by rw [ns] at e; cases e)
        refine lc_list (xs := (pl.drop (i + 1)).map V.str) (fun j H2 => ∃ acc es, H2 D = some (.lst acc) ∧ es.Sublist ((pl.drop (i + 1)).take j) ∧ PrsAt H2 acc (es.map (tp z)) ∧ (∀ t, V.ref t ∈ acc → H t = none) ∧ H2 s = some (.lst ((pl.drop (i + 1)).map V.str)) ∧ H2 q = some (.lst (pl.map V.str)) ∧
            H2 b = some (.lst tv) ∧ PrsAt H2 tv ts ∧ Fr H p l (n + 17 + 40 * i + j) H2) ⟨[], [], upd_same, List.nil_sublist _, PrsAt.nil, (fun t ht => by cases ht), by rw [upd_ne sD]; exact upd_same, by rw [upd_ne qD]; exact q1, by rw [upd_ne bD]; exact b1, prs_upd pt1 (fun xs e => by rw [hD] at e; cases e), Fs.put nDH⟩ ?_ ?_ ?_
        · rintro j H2 hj ⟨acc, es, _, _, _, _, hs, _⟩
          exact SqL.of hs
        · rintro j x H2 hx ⟨acc, es, hacc, sub, pa, fa, hs2, hq2, hb2, pt2, F2⟩
          rw [List.getElem?_map] at hx
          cases ey : (pl.drop (i + 1))[j]? with
          | none => rw [ey] at hx; cases hx
          | some y =>
            rw [ey] at hx
            cases hx
            have jl : j < (pl.drop (i + 1)).length := (List.getElem?_eq_some_iff.mp ey).1
            rw [List.length_drop] at jl
            refine ⟨rfl, _, rfl, p, l, n + 17 + 40 * i + j, 6, rfl, F2.st, by omega, by decide, by decide, fun r H3 hr3 F3 => ⟨_, rfl, _, _, rfl, rfl, _, rfl, ?_⟩⟩
            have F23 := F2.trans F3
            have acc3 := F2.keep F3 nDH hacc
            have pa3 := prs_keep F2 F3 pa fa
            have keep : ∀ {c : Addr} {o : HO}, H c = none → H2 c = some o → H3 c = some o := fun h e => F2.keep F3 h e
            refine ite2 (fun _ => ?_) (fun _ => ?_)
            · refine ⟨_, rfl, _, rfl, z, y, rfl, fun t nt => ⟨acc, by rw [upd_ne (ne_of_none acc3 nt)]; exact acc3, ?_, acc ++ [.ref t], es ++ [y], upd_same, ?_, ?_, ?_, ?_, ?_, ?_, ?_, ?_⟩⟩
              · rw [pa.1, List.length_map]
                have := sub.length_le
                rw [List.length_take] at this
                exact small1000 (by omega)
              · rw [take_snoc ey]
                exact sub.append (List.Sublist.refl _)
              · rw [List.map_append]
                refine prs_upd (prs_snoc (prs_upd pa3 (fun xs e => by rw [nt] at e; cases e)) upd_same) (fun xs e => ?_)
                rw [upd_ne (ne_of_none acc3 nt), acc3] at e
                cases e
              · intro t' ht'
                rcases List.mem_append.mp ht' with h | h
                · exact fa t' h
                · cases List.mem_singleton.mp h
                  exact F23.free nt
              · have h3 := keep nsH hs2
                rw [upd_ne sD, upd_ne (ne_of_none h3 nt)]
                exact h3
              · have h3 := keep nq hq2
                rw [upd_ne qD, upd_ne (ne_of_none h3 nt)]
                exact h3
              · have h3 := keep nbH hb2
                rw [upd_ne bD, upd_ne (ne_of_none h3 nt)]
                exact h3
              · refine prs_upd (prs_upd (prs_keep F2 F3 pt2 fr) (fun xs e => by rw [nt] at e; cases e)) (fun xs e => ?_)
                rw [upd_ne (ne_of_none acc3 nt), acc3] at e
                cases e
              · exact (F23.put (F23.free nt)).put nDH
            · refine ⟨acc, es, acc3, ?_, pa3, fa, keep nsH hs2, keep nq hq2, keep nbH hb2, prs_keep F2 F3 pt2 fr, F23⟩
              rw [take_snoc ey]
              exact sub.trans (List.sublist_append_left _ _)
        · rintro H2 ⟨acc, es, hacc, sub, pa, fa, hs2, hq2, hb2, pt2, F2⟩
          rw [List.length_map, List.take_length] at sub
          have subm : ∀ e ∈ es, e ∈ pl.drop (i + 1) := fun e he => sub.subset he
          have zdrop : z ∉ pl.drop (i + 1) := fun hm => by
            have e := List.take_append_drop (i + 1) pl
            rw [take_snoc ez] at e
            rw [← e] at ndp
            exact (List.nodup_append.mp ndp).2.2 z (List.mem_append_right _ (List.mem_singleton.mpr rfl)) z hm rfl
          have tnd : ∀ {x y : Str}, x ∈ pl.take i → y ∈ pl.drop (i + 1) → x ≠ y := fun {x y} hx hy e => by
            have e2 := List.take_append_drop (i + 1) pl
            rw [take_snoc ez] at e2
            rw [← e2] at ndp
            exact (List.nodup_append.mp ndp).2.2 x (List.mem_append_left _ hx) y hy e
          have tok2 : TsOk pl (ts ++ es.map (tp z)) := by
            refine tok.fan zpl (fun e he => ⟨List.mem_of_mem_drop (subm e he), fun q => zdrop (q ▸ subm e he)⟩) ((ndp.sublist (List.drop_sublist _ _)).sublist sub) fun e he hm => ?_
            obtain ⟨a, c, e1, e2⟩ := tin _ hm
            rcases tp_eq e1 with ⟨h1, _⟩ | ⟨_, h2⟩
            · exact znt (h1 ▸ e2)
            · exact tnd e2 (subm e he) h2.symm
          have len2 := tok2.len (by omega)
          refine ⟨b, D, tv, acc, rfl, rfl, hb2, hacc, ?_, ?_⟩
          · have := (prs_app pt2 pa).1
            rw [List.length_append] at this
            have h3 := small1000 (n := (ts ++ es.map (tp z)).length) (by omega)
            omega
          · refine ⟨_, _, _, tv ++ acc, ts ++ es.map (tp z), rfl, ?_, upd_same, ?_, tok2, ?_, ?_, ?_⟩
            · rw [upd_ne bq.symm]
              exact hq2
            · exact prs_upd (prs_app pt2 pa) (fun xs e => by rw [hb2] at e; cases e)
            · intro x hx
              rcases List.mem_append.mp hx with hx | hx
              · obtain ⟨a, c, e1, e2⟩ := tin x hx
                refine ⟨a, c, e1, ?_⟩
                rw [take_snoc ez]
                exact List.mem_append_left _ e2
              · obtain ⟨e, he, rfl⟩ := List.mem_map.mp hx
                refine ⟨z, e, rfl, ?_⟩
                rw [take_snoc ez]
                exact List.mem_append_right _ (List.mem_singleton.mpr rfl)
            · intro t ht
              rcases List.mem_append.mp ht with h | h
              · exact fr t h
              · exact fa t h
            · refine (F2.put nbH).mono ?_
              rw [List.length_map, List.length_drop]
              omega
    · rintro σ H' ⟨v6, v7, v8, tv, ts, rfl, hq', hb', pt, tok, tin, fr, F'⟩
      have len2 := tok.len (by omega)
      refine ⟨_, rfl, _, rfl, b, tv, ts, rfl, SqL.of hb', pt, fun s ys ns pyy hy => ?_⟩
      have nsH := F'.free ns
      have F2 : Fr H p l (n + 17 + 40 * (pl.map V.str).length) (upd H' s (.lst ys)) := F'.put nsH
      have qs : q ≠ s := ne_of_none hq' ns
      refine ⟨_, rfl, _, rfl, p, l, q, _, pl.map V.str, rfl, F2.st, by rw [List.length_map]; omega, SqL.of (by rw [upd_ne qs]; exact hq'), by rw [List.length_map]; omega, fun u zs H3 hp3 F3 nu hu => ?_⟩
      have F23 := F2.trans F3
      obtain ⟨rs, rfl, rperm⟩ := strs_perm hp3
      refine ⟨_, rfl, pins, rfl, u, _, rfl, SqL.of hu, fun v nv => ?_⟩
      rw [cut_to, ← List.map_take]
      have nvH := F23.free nv
      refine ⟨by show 3 ≤ sizeLine; decide, fun r nr => ?_⟩
      have F4 : Fr H p l _ (upd H3 v (.lst ((rs.take pins).map V.str))) := F23.put nvH
      have nrH := F4.free nr
      have q3 : H3 q = some (.lst (pl.map V.str)) := F2.keep F3 nq (by rw [upd_ne qs]; exact hq')
      have s3 : H3 s = some (.lst ys) := F2.keep F3 nsH upd_same
      have qv : q ≠ v := ne_of_none q3 nv
      have sv : s ≠ v := ne_of_none s3 nv
      have rq : q ≠ r := ne_of_none (show (upd H3 v _) q = _ from by rw [upd_ne qv]; exact q3) nr
      have rs' : s ≠ r := ne_of_none (show (upd H3 v _) s = _ from by rw [upd_ne sv]; exact s3) nr
      have rv : v ≠ r := ne_of_none upd_same nr
      refine k r pl (sortPr ts) (rs.take pins) _ ((F4.put nrH).mono (by simp only [List.length_map]; omega)) ⟨q, s, v, ys, upd_same, ?_, ?_, ?_, ?_, nrH, nq, nsH, nvH, fun t ht => fr t (pyy.mem_iff.mp ht)⟩ ⟨ndp, fun z hz => List.mem_append_left _ (inb z hz), by omega, tok.perm (sortPr_perm ts), (rperm.nodup_iff.mpr ndp).sublist (List.take_sublist _ _), fun z hz => rperm.mem_iff.mp (List.mem_of_mem_take hz)⟩ lpl
      · rw [upd_ne rq, upd_ne qv]; exact q3
      · rw [upd_ne rs', upd_ne sv]; exact s3
      · refine prs_upd (prs_upd (prs_keep F2 F3 (prs_upd hy (fun xs e => by rw [ns] at e; cases e)) fun t ht => fr t (pyy.mem_iff.mp ht)) (fun xs e => by rw [nv] at e; cases e)) (fun xs e => by rw [nr] at e; cases e)
      · rw [upd_ne rv]; exact upd_same
end
end E1

set_option Elab.async false
set_option linter.all false
set_option maxRecDepth 100000
set_option maxHeartbeats 8000000
/-! notices.py: wishes, as they are told; the first wrong one. -/
namespace E1
open PySem PySem.Spec PyProof.Rows L2 G0
/-- as it is told -/
def tw (z : Wi) : Wi := if ltPr (tp z.2.1 z.2.2) (tp z.1.1 z.1.2) = true then (tp z.2.1 z.2.2, tp z.1.1 z.1.2) else (tp z.1.1 z.1.2, tp z.2.1 z.2.2)
/-- such a pair of pairs, where it lies -/
def WiN (N : Addr → Prop) (H : Hp) (t : Addr) (z : Wi) : Prop := ∃ u1 u2 : Addr, H t = some (.tup [.ref u1, .ref u2]) ∧ H u1 = some (.tup [.str z.1.1, .str z.1.2]) ∧ H u2 = some (.tup [.str z.2.1, .str z.2.2]) ∧ N t ∧ N u1 ∧ N u2
theorem WiN.at {N : Addr → Prop} {H : Hp} {t : Addr} {z : Wi} (h : WiN N H t z) : WiAt H t z := let ⟨u1, u2, a, b, c, _⟩ := h
  ⟨u1, u2, a, b, c⟩
theorem WiN.frame {N : Addr → Prop} {H H' : Hp} {t : Addr} {z : Wi} (h : WiN N H t z) (S : ∀ c o, N c → H c = some o → H' c = some o) : WiN N H' t z := let ⟨u1, u2, a, b, c, n1, n2, n3⟩ := h
  ⟨u1, u2, S _ _ n1 a, S _ _ n2 b, S _ _ n3 c, n1, n2, n3⟩
theorem WiN.weak {N N' : Addr → Prop} {H : Hp} {t : Addr} {z : Wi} (h : WiN N H t z) (k : ∀ c, N c → N' c) : WiN N' H t z := let ⟨u1, u2, a, b, c, n1, n2, n3⟩ := h
  ⟨u1, u2, a, b, c, k _ n1, k _ n2, k _ n3⟩
theorem WiAt.same {H H' : Hp} {t : Addr} {z : Wi} (h : WiAt H t z) (S : Same H H') : WiAt H' t z := let ⟨u1, u2, a, b, c⟩ := h
  ⟨u1, u2, S _ _ a, S _ _ b, S _ _ c⟩
theorem sort_prs2 (p q : Pr) : sortPr [p, q] = if ltPr q p = true then [q, p] else [p, q] := by
  symm
  split
  · rename_i h
    refine sortPr_uniq (List.Perm.swap p q []) (.cons (fun z hz => ?_) (.cons (fun _ h => by cases h) .nil))
    rw [List.mem_singleton.mp hz]
    show (!ltPr p q) = true
    rw [ltPr_asym h]
    rfl
  · rename_i h
    refine sortPr_uniq (List.Perm.refl [p, q]) (.cons (fun z hz => ?_) (.cons (fun _ h => by cases h) .nil))
    rw [List.mem_singleton.mp hz]
    show (!ltPr q p) = true
    rw [Bool.eq_false_iff.mpr h]
    rfl
theorem sort_tw (z : Wi) : sortPr [tp z.1.1 z.1.2, tp z.2.1 z.2.2] = [(tw z).1, (tw z).2] := by
  rw [sort_prs2]
  unfold tw
  split <;> rfl
/-- the pairs of a wish -/
def Four (H : Hp) (v : V) (z : Wi) : Prop := ∃ p1 p2, itemsOf H v = some [p1, p2] ∧ itemsOf H p1 = some [.str z.1.1, .str z.1.2] ∧ itemsOf H p2 = some [.str z.2.1, .str z.2.2]
def spToldW : Sp := fun vs H Q _ => ∃ (v : V) (z : Wi), vs = [v] ∧ Four H v z ∧ ∀ t H', WiN (fun c => H c = none) H' t (tw z) → Same H H' → Q (.ref t) H'
abbrev N_tw : List Str := ["wish", "pair"]
theorem sc_tw : FnScope N_tw ["wish"] (defScope (topS 27)) := ⟨rfl, rfl, rfl, by decide +kernel, rfl, by decide +kernel, by decide +kernel⟩
section
variable {P : Program} {w : World} {K : PySem.W.Frag} {mg : Str → Option Value} {base : Heap}
theorem bTw (Z : LawD K mg) : Binds K (Z.d 27) ["wish"] [] := (Z.F 27 (by decide)).binds fun _ _ _ _ _ _ us hl => match us, hl with | [_], _ => rfl
theorem ok_tw (Z : LawD K mg) : FnOk P w K mg base CX0 2 (Z.f 27) (Z.d 27) ["wish"] spToldW := by
  have GT : FnOk P w K mg base CX0 1 Z.n.fT Z.n.dT ["pair"] spTold := ok_told Z.n Z.t
  refine Fun.ok (Z.F 27 (by decide)) sc_tw (fun vs H Q E h => ?_) (fun cdv A outer s H vs Q E hr h => ⟨_, pss_one (ps_ret (pe_callTy call_tuple_of (by rfl) Z.t.tuple boot_tuple (pa_cons (pe_callB cr_sortP (by rfl) Z.t.sorted boot_sorted (pa_cons (pe_lc (own := [("pair", 1)]) (tt := tYes) (te := tCall spTold [] L2.E0 (tCons (tVar 1) tNil)) rfl sc_tw.nd (pi_seqQ (pv 0)) (blkOk_by (own := [("pair", 1)]) (N := N_tw) (sc := defScope (topS 27)) (by decide +kernel)) (fun _ _ _ _ _ => (pg_name (i := 1) sc_tw.nd rfl (Or.inl rfl))) (fun _ _ _ _ _ => pts_nil) (fun _ _ _ _ _ => (pe_call GT (hr.mono (by decide)) (by rfl) Z.n.gT Z.n.FT.kp (bT Z.n) .nil pass0 (pa_cons (pv 1) pa_nil)))) pa_nil)) pa_nil))), ?_⟩)
  · obtain ⟨v, z, rfl, _⟩ := h
    rfl
  · obtain ⟨v, z, rfl, ⟨p1, p2, e, e1, e2⟩, k⟩ := h
    obtain ⟨a, rfl, _⟩ := items_ref e
    have two : ∀ (j : Nat) (q : V), ([p1, p2] : List V)[j]? = some q → ∃ s1 s2, itemsOf H q = some [.str s1, .str s2] ∧ [tp z.1.1 z.1.2, tp z.2.1 z.2.2][j]? = some (tp s1 s2) := fun j q h => by
      match j, h with
      | 0, h =>
        cases h
        exact ⟨_, _, e1, rfl⟩
      | 1, h =>
        cases h
        exact ⟨_, _, e2, rfl⟩
      | n + 2, h => simp at h
    refine ⟨_, rfl, a, [p1, p2], rfl, wk_items2 (H := H) e (fun _ _ h => h) fun D hD => ⟨fun j H' => ∃ acc, H' D = some (.lst acc) ∧ acc.length = j ∧ PrsAt H' acc ([tp z.1.1 z.1.2, tp z.2.1 z.2.2].take j) ∧ (∀ t, V.ref t ∈ acc → H t = none) ∧ Same H H', ⟨[], upd_same, rfl, PrsAt.nil, (fun t h => by cases h), new_same hD⟩, fun j H' _ ⟨_, _, _, _, _, S'⟩ => S', ?_, ?_⟩⟩
    · rintro j q H' hq ⟨acc, hacc, lac, pa, fa, S'⟩
      obtain ⟨s1, s2, i1, i2⟩ := two j q hq
      have jl := (List.getElem?_eq_some_iff.mp hq).1
      refine ⟨rfl, yes_of ⟨_, rfl, q, s1, s2, rfl, items_same S' i1, fun t H2 nt ht S2 => ⟨acc, S2 _ _ hacc, ?_, acc ++ [.ref t], upd_same, ?_, ?_, ?_, ?_⟩⟩⟩
      · have : 5000 < sizeLine := by decide
        rw [lac]
        have : j < 2 := jl
        omega
      · rw [List.length_append, lac]
        rfl
      · rw [take_snoc i2]
        refine prs_upd (prs_snoc (pa.mono fun t xs e => S2 _ _ e) ht) fun xs e => ?_
        rw [S2 _ _ hacc] at e
        cases e
      · intro t' ht'
        rcases List.mem_append.mp ht' with h | h
        · exact fa t' h
        · cases List.mem_singleton.mp h
          exact S'.free nt
      · exact fun b o e => by
          rw [upd_ne (ne_of_none e hD)]
          exact S2 _ _ (S' _ _ e)
    rintro H1 ⟨acc, hacc, lac, pa, fa, S1⟩
    have pa : PrsAt H1 acc [tp z.1.1 z.1.2, tp z.2.1 z.2.2] := pa
    refine ⟨D, acc, _, rfl, SqL.of hacc, pa, fun l ys nl perm pys => ⟨l, _, rfl, .inl ⟨SqL.of upd_same, fun t nt => ?_⟩⟩⟩
    rw [sort_tw] at pys
    obtain ⟨v1, v2, rfl⟩ : ∃ v1 v2, ys = [v1, v2] := by
      have := pys.1
      match ys, this with
      | [v1, v2], _ => exact ⟨v1, v2, rfl⟩
    obtain ⟨u1, rfl, h1⟩ := pys.2 0 _ _ rfl rfl
    obtain ⟨u2, rfl, h2⟩ := pys.2 1 _ _ rfl rfl
    have S2 := S1.trans ((new_same nl).trans (new_same (o := .tup [.ref u1, .ref u2]) nt))
    have S12 := (new_same (o := .lst [.ref u1, .ref u2]) nl).trans (new_same (o := .tup [.ref u1, .ref u2]) nt)
    exact k t _ ⟨u1, u2, upd_same, S12 _ _ h1, S12 _ _ h2, S1.free ((new_same nl).free nt), fa u1 (perm.mem_iff.mp (by simp)), fa u2 (perm.mem_iff.mp (by simp))⟩ S2
end
end E1

set_option Elab.async false
set_option linter.all false
set_option maxRecDepth 100000
set_option maxHeartbeats 4000000
/-! Raw boards: neighbours by the law. -/
namespace E1
open PySem PySem.Spec PyProof.Rows L2 G0
/-- pairs of a place and a list of places, not yet a dict -/
structure PL (K : PySem.W.Frag) (H : Hp) (ps : List Addr) (ss : List Str) (f : Str → List Str) (l : Str → Addr) : Prop where
  pr : Paired (fun (p : Addr) (kv : Key × V) => SqT K H p [kV kv.1, kv.2]) ps (ss.map fun s => ((Sum.inr s : Key), V.ref (l s)))
  at_ : ∀ s ∈ ss, H (l s) = some (.lst ((f s).map V.str))
  inj : ∀ s ∈ ss, ∀ t ∈ ss, l s = l t → s = t
theorem PL.same {K : PySem.W.Frag} {H H' : Hp} {ps : List Addr} {ss : List Str} {f : Str → List Str} {l : Str → Addr} (h : PL K H ps ss f l) (S : Same H H') : PL K H' ps ss f l := ⟨h.pr.mono fun _ _ e => same_T S e, fun s hs => S _ _ (h.at_ s hs), h.inj⟩
theorem sqT_upd {K : PySem.W.Frag} {H : Hp} {a D : Addr} {xs : List V} {o : HO} (h : SqT K H a xs) (n1 : ∀ ys, H D ≠ some (.tup ys)) (n2 : ∀ u ys, H D ≠ some (.frz u (.tup ys))) : SqT K (upd H D o) a xs := by
  rcases h with (h | ⟨u, h⟩) | h
  · refine .inl (.inl ?_)
    rw [upd_ne (fun z => n1 xs (by rw [← z]; exact h))]
    exact h
  · refine .inl (.inr ⟨u, ?_⟩)
    rw [upd_ne (fun z => n2 u xs (by rw [← z]; exact h))]
    exact h
  · exact .inr h
theorem PL.wr {K : PySem.W.Frag} {H : Hp} {D : Addr} {o : HO} {ps : List Addr} {ss : List Str} {f : Str → List Str} {l : Str → Addr} (h : PL K H ps ss f l) (n1 : ∀ ys, H D ≠ some (.tup ys)) (n2 : ∀ u ys, H D ≠ some (.frz u (.tup ys))) (n3 : ∀ s ∈ ss, l s ≠ D) : PL K (upd H D o) ps ss f l :=
  ⟨h.pr.mono fun _ _ e => sqT_upd e n1 n2, fun s hs => by rw [upd_ne (n3 s hs)]; exact h.at_ s hs, h.inj⟩
theorem PL.nil {K : PySem.W.Frag} {H : Hp} {f : Str → List Str} {l : Str → Addr} : PL K H [] [] f l := ⟨.nil, by simp, by simp⟩
theorem PL.more {K : PySem.W.Frag} {H : Hp} {ps : List Addr} {ss : List Str} {f : Str → List Str} {l : Str → Addr} {s : Str} {p T : Addr} (h : PL K H ps ss f l) (hs : s ∉ ss) (np : H p = none) (nT : (upd H p (.lst ((f s).map V.str))) T = none) :
    PL K (upd (upd H p (.lst ((f s).map V.str))) T (.tup [.str s, .ref p])) (ps ++ [T]) (ss ++ [s]) f (fun t => if t = s then p else l t) := by
  have ls : ∀ t ∈ ss, (if t = s then p else l t) = l t := fun t ht => if_neg (show t ≠ s from fun z => hs (z ▸ ht))
  have S : Same H (upd (upd H p (.lst ((f s).map V.str))) T (.tup [.str s, .ref p])) := (new_same np).trans (new_same nT)
  have h' := h.same S
  have pT : p ≠ T := ne_of_none upd_same nT
  have lp : ∀ t ∈ ss, l t ≠ p := fun t ht => ne_of_none (h.at_ t ht) np
  refine ⟨?_, fun t ht => ?_, fun t ht u hu e => ?_⟩
  · have e1 : (ss.map fun t => ((Sum.inr t : Key), V.ref (if t = s then p else l t))) = ss.map fun t => ((Sum.inr t : Key), V.ref (l t)) := List.map_congr_left fun t ht => by rw [ls t ht]
    rw [List.map_append]
    show Paired _ _ ((ss.map fun t => ((Sum.inr t : Key), V.ref (if t = s then p else l t))) ++ [((Sum.inr s : Key), V.ref (if s = s then p else l s))])
    rw [e1, if_pos rfl]
    exact h'.pr.snoc (SqT.of upd_same)
  · rcases List.mem_append.mp ht with ht | ht
    · show (upd (upd H p _) T _) (if t = s then p else l t) = _
      rw [ls t ht]
      exact h'.at_ t ht
    · rw [List.mem_singleton.mp ht]
      show (upd (upd H p _) T _) (if s = s then p else l s) = _
      rw [if_pos rfl, upd_ne pT, upd_same]
  · have e : (if t = s then p else l t) = if u = s then p else l u := e
    rcases List.mem_append.mp ht with ht | ht
    · rw [ls t ht] at e
      rcases List.mem_append.mp hu with hu | hu
      · rw [ls u hu] at e
        exact h.inj t ht u hu e
      · rw [List.mem_singleton.mp hu, if_pos rfl] at e
        exact absurd e (lp t ht)
    · rw [List.mem_singleton.mp ht] at e ⊢
      rw [if_pos rfl] at e
      rcases List.mem_append.mp hu with hu | hu
      · rw [ls u hu] at e
        exact absurd e.symm (lp u hu)
      · exact (List.mem_singleton.mp hu).symm
theorem merge_new : ∀ (kvs acc : List (Key × V)), ((acc ++ kvs).map Prod.fst).Nodup → mergeK acc kvs = acc ++ kvs
  | [], acc, _ => by unfold mergeK; simp
  | kv :: kvs, acc, h => by
    have e : mergeK acc (kv :: kvs) = mergeK (putK acc kv.1 kv.2) kvs := rfl
    have hk : ∀ x ∈ acc, x.1 ≠ kv.1 := fun x hx e => by
      rw [List.map_append] at h
      exact (List.nodup_append.mp h).2.2 x.1 (List.mem_map.mpr ⟨x, hx, rfl⟩) kv.1 (List.mem_map.mpr ⟨kv, List.mem_cons_self, rfl⟩) e
    rw [e, put_new hk, merge_new kvs (acc ++ [kv]) (by rw [List.append_assoc]; exact h), List.append_assoc]
    rfl
theorem merge_strs {ss : List Str} (nd : ss.Nodup) (l : Str → V) : mergeK [] (ss.map fun s => ((Sum.inr s : Key), l s)) = ss.map fun s => ((Sum.inr s : Key), l s) := by
  have := merge_new (ss.map fun s => ((Sum.inr s : Key), l s)) [] (by
    rw [List.nil_append, List.map_map]
    exact nodup_map (fun x y _ _ e => by
      have : (Sum.inr x : Key) = Sum.inr y := e
      injection this) nd)
  rw [List.nil_append] at this
  exact this
/-- both ends get the other -/
theorem near_step {H : Hp} {q : Addr} {ss : List Str} {l : Str → Addr} {ps : List Pr} {i : Nat} {p : Pr} (N : NearAt H q ss (nb (ps.take i)) l) (hpi : ps[i]? = some p) (h1 : p.1 ∈ ss) (h2 : p.2 ∈ ss) :
    NearAt (upd (upd H (l p.1) (.lst ((nb (ps.take i) p.1 ++ [p.2]).map V.str))) (l p.2) (.lst (((if p.2 = p.1 then nb (ps.take i) p.1 ++ [p.2] else nb (ps.take i) p.2) ++ [p.1]).map V.str))) q ss (nb (ps.take (i + 1))) l := by
  refine ((N.put h1 p.2).put h2 p.1).congr fun s hs => ?_
  rw [take_snoc hpi, nb_snoc]
  show (if s = p.2 then (if p.2 = p.1 then nb (ps.take i) p.1 ++ [p.2] else nb (ps.take i) p.2) ++ [p.1] else if s = p.1 then nb (ps.take i) p.1 ++ [p.2] else nb (ps.take i) s) = _
  by_cases c2 : s = p.2
  · subst c2
    rw [if_pos rfl, if_pos rfl]
    by_cases c1 : p.2 = p.1
    · rw [if_pos c1, if_pos c1.symm, c1, List.append_assoc]
    · rw [if_neg c1, if_neg (fun z => c1 z.symm), List.nil_append]
  · rw [if_neg c2, show (if p.2 = s then [p.1] else ([] : List Str)) = [] from if_neg (fun z => c2 z.symm), List.append_nil]
    by_cases c1 : s = p.1
    · subst c1
      rw [if_pos rfl, if_pos rfl]
    · rw [if_neg c1, show (if p.1 = s then [p.2] else ([] : List Str)) = [] from if_neg (fun z => c1 z.symm), List.append_nil]
theorem boot_dict : bootBuiltins "dict" = some (.type "dict") := by decide +kernel
end E1

set_option Elab.async false
set_option linter.all false
set_option maxRecDepth 100000
set_option maxHeartbeats 4000000
/-! Raw boards: a face split. -/
namespace E1
open PySem PySem.Spec PyProof.Rows L2 G0
/-- lists of unlike places -/
def FcAt (N : Addr → Prop) (H : Hp) (vs : List V) (ok : Str → Prop) : Prop := ∀ v ∈ vs, ∃ (a : Addr) (f : List Str), v = .ref a ∧ H a = some (.lst (f.map V.str)) ∧ f.Nodup ∧ (∀ z ∈ f, ok z) ∧ N a
theorem FcAt.frame {N : Addr → Prop} {H H' : Hp} {vs : List V} {ok : Str → Prop} (h : FcAt N H vs ok) (S : ∀ c o, N c → H c = some o → H' c = some o) : FcAt N H' vs ok := fun v hv => by
  obtain ⟨a, f, e, h1, h2, h3, h4⟩ := h v hv
  exact ⟨a, f, e, S _ _ h4 h1, h2, h3, h4⟩
theorem FcAt.weak {N N' : Addr → Prop} {H : Hp} {vs : List V} {ok ok' : Str → Prop} (h : FcAt N H vs ok) (k : ∀ c, N c → N' c) (k2 : ∀ z, ok z → ok' z) : FcAt N' H vs ok' := fun v hv => by
  obtain ⟨a, f, e, h1, h2, h3, h4⟩ := h v hv
  exact ⟨a, f, e, h1, h2, fun z hz => k2 z (h3 z hz), k _ h4⟩
theorem FcAt.nil {N : Addr → Prop} {H : Hp} {ok : Str → Prop} : FcAt N H [] ok := fun v hv => by cases hv
theorem FcAt.app {N : Addr → Prop} {H : Hp} {vs ws : List V} {ok : Str → Prop} (h : FcAt N H vs ok) (g : FcAt N H ws ok) : FcAt N H (vs ++ ws) ok := fun v hv => by
  rcases List.mem_append.mp hv with hv | hv
  · exact h v hv
  · exact g v hv
theorem FcAt.sub {N : Addr → Prop} {H : Hp} {vs ws : List V} {ok : Str → Prop} (h : FcAt N H vs ok) (g : ∀ v ∈ ws, v ∈ vs) : FcAt N H ws ok := fun v hv => h v (g v hv)
theorem FcAt.one {N : Addr → Prop} {H : Hp} {a : Addr} {f : List Str} {ok : Str → Prop} (h : H a = some (.lst (f.map V.str))) (nd : f.Nodup) (hf : ∀ z ∈ f, ok z) (n : N a) : FcAt N H [.ref a] ok := fun v hv => ⟨a, f, List.mem_singleton.mp hv, h, nd, hf, n⟩
/-- a list at q, not one of them, may be written -/
theorem FcAt.put {N : Addr → Prop} {H : Hp} {vs : List V} {ok : Str → Prop} {q : Addr} {o : HO} (h : FcAt N H vs ok) (n : ¬ N q) : FcAt N (upd H q o) vs ok := h.frame fun c u hc e => by
  rw [upd_ne (fun z => n (by rw [← z]; exact hc))]
  exact e
abbrev N_a_split : List Str := ["_law_face", "_law_ends", "_law_found", "_law_at", "_law_end", "_law_low", "_law_high"]
theorem sc_a_split : FnScope N_a_split ["_law_face", "_law_ends"] (defScope (topS 34)) := ⟨rfl, rfl, rfl, by decide +kernel, rfl, by decide +kernel, by decide +kernel⟩
def spSplit : Sp := fun vs H Q _ => ∃ (a b : Addr) (f es : List Str), vs = [.ref a, .ref b] ∧ H a = some (.lst (f.map V.str)) ∧ H b = some (.lst (es.map V.str)) ∧ f.Nodup ∧ es.Nodup ∧ 2 ≤ es.length ∧ f.length ≤ 1000 ∧ (∀ z ∈ es, z ∈ f) ∧
  ∀ q fs H', H q = none → H' q = some (.lst fs) → fs.length = es.length → FcAt (fun c => H c = none ∧ c ≠ q) H' fs (fun z => z ∈ f) → Same H H' → Q (.ref q) H'
theorem eqV_str (x y : Str) : eqV (.str x) (.str y) = decide (x = y) := by
  by_cases h : x = y
  · subst h
    simp [eqV]
  · simp [eqV, h]
theorem idx_at {f : List Str} (nd : f.Nodup) {z : Str} (h : z ∈ f) : ∃ j, f[j]? = some z ∧ ∀ (m : Nat) (z' : V), m < j → (f.map V.str)[m]? = some z' → eqV z' (.str z) = false := by
  obtain ⟨j, hj⟩ := List.getElem?_of_mem h
  refine ⟨j, hj, fun m z' hm e => ?_⟩
  rw [List.getElem?_map] at e
  cases em : f[m]? with
  | none => rw [em] at e; cases e
  | some y =>
    rw [em] at e
    cases e
    rw [eqV_str]
    refine decide_eq_false fun q => ?_
    subst q
    have := (List.getElem?_inj (List.getElem?_eq_some_iff.mp em).1 nd).mp (em.trans hj.symm)
    omega
theorem cut_mid {xs : List V} (i j : Nat) : cutV xs (some (i : Int)) (some (j : Int)) = (xs.drop i).take (min j xs.length - i) := by
  unfold cutV
  rw [HT.sIx_nat, HT.sIx_nat]
  rcases Nat.le_total i xs.length with h | h
  · rw [Nat.min_eq_left h]
  · rw [Nat.min_eq_right h, List.drop_of_length_le (Nat.le_refl _), List.drop_of_length_le h, List.take_nil, List.take_nil]
section
variable {P : Program} {w : World} {K : PySem.W.Frag} {mg : Str → Option Value} {base : Heap}
theorem bSplit (Z : LawD K mg) : Binds K (Z.d 34) ["_law_face", "_law_ends"] [] := (Z.F 34 (by decide)).binds fun _ _ _ _ _ _ us hl => match us, hl with | [_, _], _ => rfl
theorem ok_a_split (Z : LawD K mg) : FnOk P w K mg base CX0 1 (Z.f 34) (Z.d 34) ["_law_face", "_law_ends"] spSplit := by
  refine Fun.ok (Z.F 34 (by decide)) sc_a_split (fun vs H Q E h => ?_) (fun cdv A outer s H vs Q E hr h => ⟨_, pss_cons (ps_set (i := 2) sc_a_split.nd rfl (Or.inl rfl) (pe_lst pa_nil))
  (pss_cons (ps_for PassesOwn.never rfl (pi_enumQ (by rfl) Z.t.enumerate (pa_cons (pv 1) pa_nil)) (pg_tup rfl (pgs_cons (pg_name (i := 3) sc_a_split.nd rfl (Or.inl rfl)) (pgs_cons (pg_name (i := 4) sc_a_split.nd rfl (Or.inl rfl)) pgs_nil)))
    (pss_cons (ps_par (i := 5) (j := 6) rfl sc_a_split.nd rfl rfl (by decide) rfl rfl (pa_cons (pe_bm PySem.F.plainAttrs_list PySem.F.slot_list_index PySem.F.type_list_index mt_index (pv 0) (pa_cons (pv 4) pa_nil)) (pa_cons (pe_bm PySem.F.plainAttrs_list PySem.F.slot_list_index PySem.F.type_list_index mt_index (pv 0) (pa_cons (pe_ix ix_list (pv 1) (pe_ifExp (pt_cmpR op_lt (pe_op op_add (pv 3) pe_int) (pe_callB call_len_seq (by rfl) Z.t.len PySem.boot_len (pa_cons (pv 1) pa_nil)) (nomark _)) (pe_op op_add (pv 3) pe_int) pe_int) (fun _ _ => rfl)) pa_nil)) pa_nil)) (by rfl))
  (pss_one (ps_expr (pe_bm PySem.F.plainAttrs_list PySem.F.slot_list_append PySem.F.type_list_append mt_append (pv 2) (pa_cons (pe_ifExp (pt_cmpR op_lt (pv 5) (pv 6) (nomark _)) (pe_slice sl_list (pv 0) (po_some (pv 5)) (po_some (pe_op op_add (pv 6) pe_int))) (pe_op op_cat (pe_slice sl_list (pv 0) (po_some (pv 5)) po_none) (pe_slice sl_list (pv 0) po_none (po_some (pe_op op_add (pv 6) pe_int))))) pa_nil))))))
  (pss_one (ps_ret (pv 2)))), ?_⟩)
  · obtain ⟨a, b, f, es, rfl, _⟩ := h
    rfl
  · obtain ⟨a, b, f, es, rfl, ha, hb, ndf, nde, l2, lf, sub, k⟩ := h
    refine ⟨Nat.zero_le _, fun q nq => ?_⟩
    have aq : a ≠ q := ne_of_none ha nq
    have bq : b ≠ q := ne_of_none hb nq
    have flat : (f.map V.str).all flatV = true := flat_strs f
    refine ⟨_, rfl, b, es.map V.str, rfl, for_enQ (.inl (SqL.of (by rw [upd_ne bq]; exact hb))) (fun i σ H' => ∃ v3 v4 v5 v6 fs, σ = [some (.ref a), some (.ref b), some (.ref q), v3, v4, v5, v6] ∧ H' q = some (.lst fs) ∧ fs.length = i ∧ FcAt (fun c => H c = none ∧ c ≠ q) H' fs (fun z => z ∈ f) ∧ Same H H')
      ⟨none, none, none, none, [], rfl, upd_same, rfl, .nil, new_same nq⟩ ?_ ?_ ?_⟩
    · rintro i σ H' hi ⟨v3, v4, v5, v6, fs, rfl, _, _, _, S⟩
      exact lt_at (by rw [upd_ne bq]; exact hb) (S _ _ hb)
    · rintro i x σ H' T hx ⟨v3, v4, v5, v6, fs, rfl, hq, lfs, fc, S⟩ nT
      rw [List.getElem?_map] at hx
      cases ez : es[i]? with
      | none => rw [ez] at hx; cases hx
      | some z =>
        rw [ez] at hx
        cases hx
        have hil : i < es.length := (List.getElem?_eq_some_iff.mp ez).1
        have ST : Same H (upd H' T (.tup [.int (i : Nat), .str z])) := S.trans (new_same nT)
        have qT : q ≠ T := ne_of_none hq nT
        obtain ⟨lo, hlo, lo1⟩ := idx_at ndf (sub z (List.mem_of_getElem? ez))
        refine ⟨T, _, rfl, SqT.of upd_same, rfl, _, _, rfl, _, _, rfl, rfl, ?_⟩
        refine ⟨_, rfl, .inl ⟨rfl, _, SqL.of (ST _ _ ha)⟩, _, rfl, a, _, _, lo, .str z, rfl, rfl, SqL.of (ST _ _ ha), rfl, flat, by rw [List.getElem?_map, hlo]; rfl, by rw [eqV_str]; exact decide_eq_true rfl, lo1, ?_⟩
        have hb1 := ST _ _ hb
        have ndz : ∀ (j : Nat) (y : Str), es[j]? = some y → j ≠ i → y ≠ z := fun j y e hji q => hji ((List.getElem?_inj (List.getElem?_eq_some_iff.mp e).1 nde).mp (e.trans (by rw [q, ez])))
        have rest : ∀ (y : Str), y ∈ es → y ≠ z → ∃ hi, (f.map V.str)[hi]? = some (V.str y) ∧ (∀ (m : Nat) (z' : V), m < hi → (f.map V.str)[m]? = some z' → eqV z' (.str y) = false) ∧ f[hi]? = some y ∧ hi ≠ lo := fun y hy hyz => by
          obtain ⟨hi, hhi, hi1⟩ := idx_at ndf (sub _ hy)
          refine ⟨hi, by rw [List.getElem?_map, hhi]; rfl, hi1, hhi, fun e => hyz ?_⟩
          rw [e, hlo] at hhi
          injection hhi with e
          exact e.symm
        refine ⟨_, rfl, .inl ⟨rfl, _, SqL.of (ST _ _ ha)⟩, _, rfl, _, rfl, _, _, rfl, rfl, _, rfl, b, _, rfl, .inl (SqL.of hb1), _, _, rfl, rfl, _, rfl, ?_⟩
        refine ite2 (fun c => ?b1) (fun c => ?b2)
        case' b1 =>
          have hj : i + 1 < es.length := by
            have := of_decide_eq_true c
            rw [List.length_map] at this
            omega
          obtain ⟨y, ey⟩ : ∃ y, es[i + 1]? = some y := ⟨es[i + 1], List.getElem?_eq_getElem hj⟩
          obtain ⟨hi, g1, g2, g3, g4⟩ := rest y (List.mem_of_getElem? ey) (ndz _ y ey (by omega))
          refine ⟨_, rfl, _, _, rfl, rfl, b, _, ((i + 1 : Nat) : Int), .str y, rfl, rfl, SqL.of hb1, atI_nat (by rw [List.getElem?_map, ey]; rfl), a, _, _, hi, .str y, rfl, rfl, SqL.of (ST _ _ ha), rfl, flat, g1, by rw [eqV_str]; exact decide_eq_true rfl, g2, _, _, rfl, ?_⟩
        case' b2 =>
          have hc : ¬ i + 1 < es.length := fun z => c (decide_eq_true (by rw [List.length_map]; omega))
          obtain ⟨y, ey⟩ : ∃ y, es[0]? = some y := ⟨es[0], List.getElem?_eq_getElem (by omega)⟩
          obtain ⟨hi, g1, g2, g3, g4⟩ := rest y (List.mem_of_getElem? ey) (ndz _ y ey (by omega))
          refine ⟨b, _, ((0 : Nat) : Int), .str y, rfl, rfl, SqL.of hb1, atI_nat (by rw [List.getElem?_map, ey]; rfl), a, _, _, hi, .str y, rfl, rfl, SqL.of (ST _ _ ha), rfl, flat, g1, by rw [eqV_str]; exact decide_eq_true rfl, g2, _, _, rfl, ?_⟩
        all_goals
          have hq1 : (upd H' T (.tup [.int (i : Nat), .str z])) q = some (.lst fs) := by rw [upd_ne qT]; exact hq
          have fcT : FcAt (fun c => H c = none ∧ c ≠ q) (upd H' T (.tup [.int (i : Nat), .str z])) fs (fun z => z ∈ f) := fc.frame fun c u _ e => new_same nT _ _ e
          have fin : ∀ (r : Addr) (g : List Str) (H2 : Hp), Same (upd H' T (.tup [.int (i : Nat), .str z])) H2 → H2 r = some (.lst (g.map V.str)) → H r = none → r ≠ q → g.Nodup → (∀ z ∈ g, z ∈ f) → FcAt (fun c => H c = none ∧ c ≠ q) (upd H2 q (.lst (fs ++ [.ref r]))) (fs ++ [.ref r]) (fun z => z ∈ f) ∧ Same H (upd H2 q (.lst (fs ++ [.ref r]))) := fun r g H2 S2 hr2 nr rq gnd gin => by
            refine ⟨FcAt.put (((fcT.frame fun c u _ e => S2 _ _ e)).app (FcAt.one hr2 gnd gin ⟨nr, rq⟩)) (fun z => z.2 rfl), fun b o e => ?_⟩
            rw [upd_ne (ne_of_none e nq)]
            exact S2 _ _ (ST _ _ e)
          have lfs' : fs.length < sizeLine := small1000 (by
            have := nde.length_le_of_subset sub
            omega)
          refine ⟨_, rfl, .inl ⟨rfl, _, SqL.of hq1⟩, _, rfl, _, rfl, _, _, rfl, rfl, _, rfl, ite2 (fun c2 => ?_) (fun c2 => ?_)⟩
          · refine ⟨_, rfl, _, rfl, _, rfl, _, rfl, _, _, rfl, rfl, _, rfl, a, _, rfl, SqL.of (ST _ _ ha), fun r nr => ?_⟩
            have rq : r ≠ q := (ne_of_none hq1 nr).symm
            have e : cutV (f.map V.str) (some (lo : Int)) (some ((hi : Int) + 1)) = ((f.drop lo).take (min (hi + 1) f.length - lo)).map V.str := by
              rw [show ((hi : Int) + 1) = ((hi + 1 : Nat) : Int) from rfl, cut_mid, List.length_map, List.map_take, List.map_drop]
            rw [e]
            obtain ⟨f1, f2⟩ := fin r _ _ (new_same nr) upd_same (ST.free nr) rq ((ndf.sublist (List.drop_sublist _ _)).sublist (List.take_sublist _ _)) (fun z hz => List.mem_of_mem_drop (List.mem_of_mem_take hz))
            exact ⟨q, fs, _, rfl, rfl, by rw [upd_ne rq.symm]; exact hq1, lfs', _, _, _, _, _, rfl, upd_same, by rw [List.length_append, lfs]; rfl, f1, f2⟩
          · refine ⟨_, rfl, _, rfl, _, rfl, a, _, rfl, SqL.of (ST _ _ ha), fun r1 nr1 => ⟨_, rfl, _, rfl, _, _, rfl, rfl, _, rfl, a, _, rfl, SqL.of (new_same nr1 _ _ (ST _ _ ha)), fun r2 nr2 => ?_⟩⟩
            have hlt : hi < lo := by
              have : ¬ ((lo : Int) < (hi : Int)) := fun z => c2 (decide_eq_true z)
              omega
            have e1 : cutV (f.map V.str) (some (lo : Int)) none = (f.drop lo).map V.str := by rw [cut_from, List.map_drop]
            have e2 : cutV (f.map V.str) none (some ((hi : Int) + 1)) = (f.take (hi + 1)).map V.str := by
              rw [show ((hi : Int) + 1) = ((hi + 1 : Nat) : Int) from rfl, cut_to, List.map_take]
            rw [e1, e2]
            rw [e1] at nr2
            refine ⟨r1, r2, _, _, rfl, rfl, by rw [upd_ne (ne_of_none upd_same nr2)]; exact upd_same, upd_same, ?_, fun r nr => ?_⟩
            · rw [List.length_map, List.length_map, List.length_drop, List.length_take]
              exact Nat.le_of_lt (small1000 (by omega))
            · have S2 := ((new_same (o := .lst ((f.drop lo).map V.str)) nr1).trans (new_same (o := .lst ((f.take (hi + 1)).map V.str)) nr2))
              have S3 := S2.trans (new_same (o := .lst (((f.drop lo).map V.str) ++ (f.take (hi + 1)).map V.str)) nr)
              have hq3 := S3 _ _ hq1
              have rq : r ≠ q := (ne_of_none (S2 _ _ hq1) nr).symm
              have nd2 : (f.drop lo ++ f.take (hi + 1)).Nodup := by
                refine List.nodup_append.mpr ⟨ndf.sublist (List.drop_sublist _ _), ndf.sublist (List.take_sublist _ _), fun x hx y hy e => ?_⟩
                have e4 := List.take_append_drop lo f
                have nd3 := ndf
                rw [← e4] at nd3
                have hy2 : y ∈ f.take lo := by
                  have : f.take (hi + 1) = (f.take lo).take (hi + 1) := by rw [List.take_take, Nat.min_eq_left (by omega)]
                  rw [this] at hy
                  exact List.mem_of_mem_take hy
                exact (List.nodup_append.mp nd3).2.2 y hy2 x hx e.symm
              obtain ⟨f1, f2⟩ := fin r (f.drop lo ++ f.take (hi + 1)) _ S3 (by rw [upd_same, List.map_append]) (ST.free (S2.free nr)) rq nd2 (fun z hz => by
                rcases List.mem_append.mp hz with h | h
                · exact List.mem_of_mem_drop h
                · exact List.mem_of_mem_take h)
              exact ⟨q, fs, _, rfl, rfl, hq3, lfs', _, _, _, _, _, rfl, upd_same, by rw [List.length_append, lfs]; rfl, f1, f2⟩
    · rintro σ H' ⟨v3, v4, v5, v6, fs, rfl, hq, lfs, fc, S⟩
      rw [List.length_map] at lfs
      exact ⟨_, rfl, k q fs H' nq hq lfs fc S⟩
end
end E1

set_option Elab.async false
set_option linter.all false
set_option maxRecDepth 100000
set_option maxHeartbeats 8000000
/-! Raw boards: flat ones. -/
namespace E1
open PySem PySem.Spec PyProof.Rows L2 G0
theorem hu65 {k : Nat} {A : Around} (r : Room k A) : A.units + 65 < cLine := by
  have := r.un
  omega
abbrev N_a_grown : List Str := ["_law_stream", "_law_names", "_law_pins", "_law_rim", "_law_ties", "_law_at", "_law_faces", "_law_new", "_law_face", "_law_some", "_law_ends", "_law_place", "_law_end", "_law_row", "_law_k", "_law_two"]
theorem sc_a_grown : FnScope N_a_grown ["_law_stream", "_law_names", "_law_pins"] (defScope (topS 35)) := ⟨rfl, rfl, rfl, by decide +kernel, rfl, by decide +kernel, by decide +kernel⟩
/-- a flat raw board, with its faces -/
def FlatAt (N : Addr → Prop) (H : Hp) (r : Addr) (ns : List Str) (ts : List Pr) (rm : List Str) (fs : List V) : Prop :=
  ∃ (aP aT aR aF : Addr) (tv : List V), H r = some (.tup [.ref aP, .ref aT, .ref aR, .ref aF]) ∧ H aP = some (.lst (ns.map V.str)) ∧ H aT = some (.lst tv) ∧ PrsAt H tv ts ∧ H aR = some (.lst (rm.map V.str)) ∧ H aF = some (.lst fs) ∧
    FcAt N H fs (fun z => z ∈ ns) ∧ N r ∧ N aP ∧ N aT ∧ N aR ∧ N aF ∧ ∀ t, V.ref t ∈ tv → N t
def Nf (H : Hp) (r4 r6 : Addr) : Addr → Prop := fun c => H c = none ∧ c ≠ r4 ∧ c ≠ r6
/-- what holds while a flat board grows -/
structure GI (H : Hp) (p l q r3 r4 r6 : Addr) (ns rim lim : List Str) (m : Nat) (tv : List V) (ts : List Pr) (fs : List V) (H' : Hp) : Prop where
  vq : H' q = some (.lst (ns.map V.str))
  v3 : H' r3 = some (.lst (rim.map V.str))
  v4 : H' r4 = some (.lst tv)
  pt : PrsAt H' tv ts
  v6 : H' r6 = some (.lst fs)
  fc : FcAt (Nf H r4 r6) H' fs (fun z => z ∈ lim)
  tok : TsOk lim ts
  fr : ∀ t, V.ref t ∈ tv → H t = none
  F : Fr H p l m H'
/-- where its lists lie -/
structure GA (H : Hp) (p l q r3 r4 r6 : Addr) : Prop where
  n3 : H r3 = none
  n4 : H r4 = none
  n6 : H r6 = none
  e34 : r3 ≠ r4
  e36 : r3 ≠ r6
  e46 : r4 ≠ r6
  qp : q ≠ p
  ql : q ≠ l
  q4 : q ≠ r4
  q6 : q ≠ r6
section
variable {H H' H2 : Hp} {p l q r3 r4 r6 c : Addr} {ns rim lim : List Str} {m m2 : Nat} {tv : List V} {ts : List Pr} {fs : List V} {o : HO}
theorem GI.step (G : GI H p l q r3 r4 r6 ns rim lim m tv ts fs H') (A : GA H p l q r3 r4 r6) (F2 : Fr H' p l m2 H2) : GI H p l q r3 r4 r6 ns rim lim m2 tv ts fs H2 :=
  ⟨F2.but _ _ G.vq A.qp A.ql, G.F.keep F2 A.n3 G.v3, G.F.keep F2 A.n4 G.v4, prs_keep G.F F2 G.pt G.fr, G.F.keep F2 A.n6 G.v6, G.fc.frame fun c o hc e => G.F.keep F2 hc.1 e, G.tok, G.fr, G.F.trans F2⟩
theorem GI.new (G : GI H p l q r3 r4 r6 ns rim lim m tv ts fs H') (n : H' c = none) : GI H p l q r3 r4 r6 ns rim lim m tv ts fs (upd H' c o) :=
  ⟨by rw [upd_ne (ne_of_none G.vq n)]; exact G.vq, by rw [upd_ne (ne_of_none G.v3 n)]; exact G.v3, by rw [upd_ne (ne_of_none G.v4 n)]; exact G.v4, prs_upd G.pt (fun xs e => by rw [n] at e; cases e), by rw [upd_ne (ne_of_none G.v6 n)]; exact G.v6,
    G.fc.frame (fun d u _ e => by rw [upd_ne (ne_of_none e n)]; exact e), G.tok, G.fr, G.F.put (G.F.free n)⟩
theorem GI.same (G : GI H p l q r3 r4 r6 ns rim lim m tv ts fs H') (S : Same H' H2) : GI H p l q r3 r4 r6 ns rim lim m tv ts fs H2 :=
  ⟨S _ _ G.vq, S _ _ G.v3, S _ _ G.v4, G.pt.mono fun t xs e => S _ _ e, S _ _ G.v6, G.fc.frame fun d u _ e => S _ _ e, G.tok, G.fr, G.F.same S⟩
/-- a list of its own, not one of these, is written -/
theorem GI.put (G : GI H p l q r3 r4 r6 ns rim lim m tv ts fs H') (n : H c = none) (hc : H q ≠ none) (h3 : c ≠ r3) (h4 : c ≠ r4) (h6 : c ≠ r6) (ht : ∀ xs, H' c ≠ some (.tup xs)) (hf : ∀ v ∈ fs, v ≠ .ref c) : GI H p l q r3 r4 r6 ns rim lim m tv ts fs (upd H' c o) :=
  ⟨by rw [upd_ne (fun z => hc (by rw [z]; exact n))]; exact G.vq, by rw [upd_ne h3.symm]; exact G.v3, by rw [upd_ne h4.symm]; exact G.v4, prs_upd G.pt ht, by rw [upd_ne h6.symm]; exact G.v6, fun v hv => by
    obtain ⟨a, f, e, h1, h2⟩ := G.fc v hv
    refine ⟨a, f, e, ?_, h2⟩
    rw [upd_ne (fun z => hf v hv (by rw [e, z]))]
    exact h1, G.tok, G.fr, G.F.put n⟩
theorem GI.tie {tv2 : List V} {ts2 : List Pr} {lim2 : List Str} (G : GI H p l q r3 r4 r6 ns rim lim m tv ts fs H') (A : GA H p l q r3 r4 r6) (pt2 : PrsAt H' tv2 ts2) (tok2 : TsOk lim2 ts2) (fr2 : ∀ t, V.ref t ∈ tv2 → H t = none) (sub : ∀ z ∈ lim, z ∈ lim2) :
    GI H p l q r3 r4 r6 ns rim lim2 m tv2 ts2 fs (upd H' r4 (.lst tv2)) :=
  ⟨by rw [upd_ne A.q4]; exact G.vq, by rw [upd_ne A.e34]; exact G.v3, upd_same, prs_upd pt2 (fun xs e => by rw [G.v4] at e; cases e), by rw [upd_ne A.e46.symm]; exact G.v6, (G.fc.put (fun z => z.2.1 rfl)).weak (fun _ h => h) sub, tok2, fr2, G.F.put A.n4⟩
theorem GI.face {fs2 : List V} (G : GI H p l q r3 r4 r6 ns rim lim m tv ts fs H') (A : GA H p l q r3 r4 r6) (fc2 : FcAt (Nf H r4 r6) H' fs2 (fun z => z ∈ lim)) : GI H p l q r3 r4 r6 ns rim lim m tv ts fs2 (upd H' r6 (.lst fs2)) :=
  ⟨by rw [upd_ne A.q6]; exact G.vq, by rw [upd_ne A.e36]; exact G.v3, by rw [upd_ne A.e46]; exact G.v4, prs_upd G.pt (fun xs e => by rw [G.v6] at e; cases e), upd_same, fc2.put (fun z => z.2.2 rfl), G.tok, G.fr, G.F.put A.n6⟩
theorem GI.mono (G : GI H p l q r3 r4 r6 ns rim lim m tv ts fs H') (h : m ≤ m2) : GI H p l q r3 r4 r6 ns rim lim m2 tv ts fs H' := ⟨G.vq, G.v3, G.v4, G.pt, G.v6, G.fc, G.tok, G.fr, G.F.mono h⟩
end
theorem atI_pred {α : Type} {xs : List α} {i : Nat} (h : i < xs.length) : ∃ v, atI xs ((i : Int) - 1) = some v ∧ xs[if i = 0 then xs.length - 1 else i - 1]? = some v := by
  cases i with
  | zero =>
    have ne : xs ≠ [] := fun e => by rw [e] at h; exact absurd h (Nat.lt_irrefl 0)
    refine ⟨xs.getLast ne, ?_, ?_⟩
    · have := atI_last xs.dropLast (xs.getLast ne)
      rw [List.dropLast_concat_getLast ne] at this
      exact this
    · rw [if_pos rfl, List.getLast_eq_getElem]
      exact List.getElem?_eq_getElem _
  | succ j =>
    have hj : j < xs.length := Nat.lt_of_succ_lt h
    refine ⟨xs[j], ?_, by rw [if_neg (Nat.succ_ne_zero j)]; exact List.getElem?_eq_getElem hj⟩
    rw [show ((j + 1 : Nat) : Int) - 1 = (j : Int) by omega]
    exact atI_nat (List.getElem?_eq_getElem hj)
def spGrown : Sp := fun vs H Q _ => ∃ (p l q : Addr) (n pins : Nat) (ns : List Str), vs = [.ref p, .ref q, .int (pins : Int)] ∧ Stm H p l n ∧ n < 400000 ∧ H q = some (.lst (ns.map V.str)) ∧ q ≠ p ∧ q ≠ l ∧ ns.Nodup ∧ (∀ z ∈ ns, nameB z = true) ∧ ns.length ≤ 40 ∧ pins ≤ ns.length ∧
  ∀ r ts fs H', Fr H p l (n + 30000) H' → FlatAt (fun c => H c = none) H' r ns ts (ns.take pins) fs → TsOk ns ts → 0 < fs.length → fs.length ≤ 3000 → Q (.ref r) H'
theorem shp1 {q : Pr} (h : PyData.strOk q.1 = true ∧ PyData.strOk q.2 = true) : SeqAt.shaped (prD1 q) = true := by
  show ((prD1 q).canLay0 && decide ((prD1 q).depth ≤ 64)) = true
  rw [Bool.and_eq_true]
  exact ⟨by simp [prD1, PyData.canLay0, PyData.canLayAll0, h.1, h.2], decide_eq_true (by simp [prD1, PyData.depth, PyData.depthAll])⟩
theorem not_any {ts : List Pr} {q : Pr} (h : (!(ts.map prD1).any fun z => PyData.eqv z (prD1 q)) = true) : q ∉ ts := fun hm => by
  have : ((ts.map prD1).any fun z => PyData.eqv z (prD1 q)) = true := by
    rw [List.any_eq_true]
    exact ⟨prD1 q, List.mem_map.mpr ⟨q, hm, rfl⟩, by rw [eqv_pr]; exact decide_eq_true rfl⟩
  rw [this] at h
  cases h
theorem ints_perm {ys : List V} {js : List Int} (h : ys.Perm (js.map V.int)) : ∃ ks : List Int, ys = ks.map V.int ∧ ks.Perm js := by
  have hm : ∀ y ∈ ys, ∃ z, y = V.int z := fun y hy => by
    obtain ⟨z, _, rfl⟩ := List.mem_map.mp (h.mem_iff.mp hy)
    exact ⟨z, rfl⟩
  let g : V → Int := fun v => match v with
    | .int z => z
    | _ => 0
  have e : ys = (ys.map g).map V.int := by
    rw [List.map_map]
    refine (List.map_id ys).symm.trans (List.map_congr_left fun y hy => ?_)
    obtain ⟨z, rfl⟩ := hm y hy
    rfl
  refine ⟨ys.map g, e, ?_⟩
  have h2 := h.map g
  rw [List.map_map] at h2
  have e2 : (js.map (g ∘ V.int)) = js := (List.map_congr_left fun y _ => rfl).trans (List.map_id js)
  rw [e2] at h2
  exact h2
section
variable {P : Program} {w : World} {K : PySem.W.Frag} {mg : Str → Option Value} {base : Heap}
theorem bGrown (Z : LawD K mg) : Binds K (Z.d 35) ["_law_stream", "_law_names", "_law_pins"] [] := (Z.F 35 (by decide)).binds fun _ _ _ _ _ _ us hl => match us, hl with | [_, _, _], _ => rfl
theorem ok_a_grown (Z : LawD K mg) : FnOk P w K mg base CX0 3 (Z.f 35) (Z.d 35) ["_law_stream", "_law_names", "_law_pins"] spGrown := by
  have GM : FnOk P w K mg base CX0 2 Z.s.fM Z.s.dM ["_law_stream", "_law_some"] (spMx K) := ok_mx Z.s
  have GD : FnOk P w K mg base CX0 1 Z.s.fD Z.s.dD ["_law_stream", "_law_many"] spDr := ok_dr Z.s
  have GT : FnOk P w K mg base CX0 1 (Z.f 32) (Z.d 32) N_a_tie spTie := ok_a_tie Z
  have GS : FnOk P w K mg base CX0 1 (Z.f 34) (Z.d 34) ["_law_face", "_law_ends"] spSplit := ok_a_split Z
  refine Fun.ok (Z.F 35 (by decide)) sc_a_grown (fun vs H Q E h => ?_) (fun cdv A outer s H vs Q E hr h => ⟨_, pss_cons (ps_par (i := 3) (j := 4) rfl sc_a_grown.nd rfl rfl (by decide) rfl rfl (pa_cons (pe_slice sl_list (pv 1) po_none (po_some (pv 2))) (pa_cons (pe_lst pa_nil) pa_nil)) (by rfl))
  (pss_cons (ps_for PassesOwn.never rfl (pi_range1 (by rfl) (Z.free "range" (by decide)) (pa_cons (pv 2) pa_nil)) (pg_name (i := 5) sc_a_grown.nd rfl (Or.inr rfl))
    (pss_one (ps_if (PW.pt (pw_and (pt_cmpR op_gt (pv 2) pe_int (nomark _)) (pw_and1 (pt_cmpR op_eq (pe_call GD (hr.mono (by decide)) (by rfl) Z.s.gD Z.s.FD.kp (bDr Z.s) .nil pass0 (pa_cons (pv 0) (pa_cons pe_int pa_nil))) pe_int (nomark _))))) (pss_one (ps_expr (pe_bm PySem.F.plainAttrs_list PySem.F.slot_list_append PySem.F.type_list_append mt_append (pv 4) (pa_cons (pe_call GT (hr.mono (by decide)) (by rfl) (Z.g 32 (by decide)) (Z.F 32 (by decide)).kp (bTie Z) .nil pass0 (pa_cons (pe_ix ix_list (pv 3) (pv 5) (fun _ _ => rfl)) (pa_cons (pe_ix ix_list (pv 3) (pe_op op_sub (pv 5) pe_int) (fun _ _ => rfl)) pa_nil))) pa_nil)))) pss_nil)))
  (pss_cons (ps_set (i := 6) sc_a_grown.nd rfl (Or.inr rfl) (pe_lst (pa_cons (pe_callTy call_list_of (by rfl) Z.t.list PyProof.Rows.boot_list (pa_cons (pv 3) pa_nil)) pa_nil)))
  (pss_cons (ps_for PassesOwn.never rfl (pi_list (pe_slice sl_list (pv 1) (po_some (pv 2)) po_none)) (pg_name (i := 7) sc_a_grown.nd rfl (Or.inr rfl))
    (pss_cons (ps_set (i := 8) sc_a_grown.nd rfl (Or.inl rfl) (pe_bm PySem.F.plainAttrs_list PySem.F.slot_list_pop PySem.F.type_list_pop mt_popAt (pv 6) (pa_cons (pe_call GD (hr.mono (by decide)) (by rfl) Z.s.gD Z.s.FD.kp (bDr Z.s) .nil pass0 (pa_cons (pv 0) (pa_cons (pe_callB call_len_seq (by rfl) Z.t.len PySem.boot_len (pa_cons (pv 6) pa_nil)) pa_nil))) pa_nil)))
  (pss_cons (ps_set (i := 9) sc_a_grown.nd rfl (Or.inr rfl) (pe_slice sl_list (pe_call GM hr (by rfl) Z.s.gM Z.s.FM.kp (bMx Z.s) .nil pass0 (pa_cons (pv 0) (pa_cons (pv 8) pa_nil))) po_none (po_some (pe_op op_add pe_int (pe_call GD (hr.mono (by decide)) (by rfl) Z.s.gD Z.s.FD.kp (bDr Z.s) .nil pass0 (pa_cons (pv 0) (pa_cons pe_int pa_nil)))))))
  (pss_cons (ps_setLc (i := 10) (own := [("_law_place", 11)]) (tt := tTest (tOp (rIn K false) (tVar 11) (tVar 9))) rfl sc_a_grown.nd rfl rfl (by rfl) (pi_list (pv 8)) (blkOk_by (own := [("_law_place", 11)]) (N := N_a_grown) (sc := defScope (topS 35)) (by decide +kernel)) (fun _ _ _ _ _ => (pg_name (i := 11) sc_a_grown.nd rfl (Or.inl rfl))) (fun _ _ _ _ _ => (pts_one (pt_cmpR op_in_seq (pv 11) (pv 9) (by rfl)))) (fun _ _ _ _ _ => (pv 11)))
  (pss_cons (ps_expr (pe_bm PySem.F.plainAttrs_list PySem.F.slot_list_extend PySem.F.type_list_extend mt_extend (pv 4) (pa_cons (pe_lc (own := [("_law_end", 12)]) (tt := tYes) rfl sc_a_grown.nd (pi_list (pv 10)) (blkOk_by (own := [("_law_end", 12)]) (N := N_a_grown) (sc := defScope (topS 35)) (by decide +kernel)) (fun _ _ _ _ _ => (pg_name (i := 12) sc_a_grown.nd rfl (Or.inl rfl))) (fun _ _ _ _ _ => pts_nil) (fun _ _ _ _ _ => (pe_call GT (hr.mono (by decide)) (by rfl) (Z.g 32 (by decide)) (Z.F 32 (by decide)).kp (bTie Z) .nil pass0 (pa_cons (pv 7) (pa_cons (pv 12) pa_nil))))) pa_nil)))
  (pss_one (ps_expr (pe_bm PySem.F.plainAttrs_list PySem.F.slot_list_extend PySem.F.type_list_extend mt_extend (pv 6) (pa_cons (pe_ifExp (pt_cmpR op_gt (pe_callB call_len_seq (by rfl) Z.t.len PySem.boot_len (pa_cons (pv 10) pa_nil)) pe_int (nomark _)) (pe_lc (own := [("_law_row", 13)]) (tt := tYes) rfl sc_a_grown.nd (pi_list (pe_call GS (hr.mono (by decide)) (by rfl) (Z.g 34 (by decide)) (Z.F 34 (by decide)).kp (bSplit Z) .nil pass0 (pa_cons (pv 8) (pa_cons (pv 10) pa_nil)))) (blkOk_by (own := [("_law_row", 13)]) (N := N_a_grown) (sc := defScope (topS 35)) (by decide +kernel)) (fun _ _ _ _ _ => (pg_name (i := 13) sc_a_grown.nd rfl (Or.inl rfl))) (fun _ _ _ _ _ => pts_nil) (fun _ _ _ _ _ => (pe_op op_cat (pe_lst (pa_cons (pv 7) pa_nil)) (pv 13)))) (pe_lst (pa_cons (pv 8) pa_nil))) pa_nil)))))))))
  (pss_cons (ps_for PassesOwn.never rfl (pi_range1 (by rfl) (Z.free "range" (by decide)) (pa_cons (pe_callB call_len_seq (by rfl) Z.t.len PySem.boot_len (pa_cons (pv 1) pa_nil)) pa_nil)) (pg_name (i := 14) sc_a_grown.nd rfl (Or.inl rfl))
    (pss_cons (ps_set (i := 5) sc_a_grown.nd rfl (Or.inr rfl) (pe_call GD (hr.mono (by decide)) (by rfl) Z.s.gD Z.s.FD.kp (bDr Z.s) .nil pass0 (pa_cons (pv 0) (pa_cons (pe_callB call_len_seq (by rfl) Z.t.len PySem.boot_len (pa_cons (pv 6) pa_nil)) pa_nil))))
  (pss_cons (ps_set (i := 10) sc_a_grown.nd rfl (Or.inl rfl) (pe_callB cr_sortedI (by rfl) Z.t.sorted boot_sorted (pa_cons (pe_slice sl_list (pe_call GM hr (by rfl) Z.s.gM Z.s.FM.kp (bMx Z.s) .nil pass0 (pa_cons (pv 0) (pa_cons (pe_listRg rfl (by rfl) Z.t.list (prg_1 (by rfl) (Z.free "range" (by decide)) (pe_callB call_len_seq (by rfl) Z.t.len PySem.boot_len (pa_cons (pe_ix ix_list (pv 6) (pv 5) (fun _ _ => rfl)) pa_nil)))) pa_nil))) po_none (po_some pe_int)) pa_nil)))
  (pss_cons (ps_setLc (i := 15) (own := [("_law_end", 12)]) (tt := tYes) (te := tOp (rIxL K) (tOp (rIxL K) (tVar 6) (tVar 5)) (tVar 12)) rfl sc_a_grown.nd rfl rfl (by rfl) (pi_list (pv 10)) (blkOk_by (own := [("_law_end", 12)]) (N := N_a_grown) (sc := defScope (topS 35)) (by decide +kernel)) (fun _ _ _ _ _ => (pg_name (i := 12) sc_a_grown.nd rfl (Or.inl rfl))) (fun _ _ _ _ _ => pts_nil) (fun _ _ _ _ _ => (pe_ix ix_list (pe_ix ix_list (pv 6) (pv 5) (fun _ _ => rfl)) (pv 12) (fun _ _ => rfl))))
  (pss_one (ps_if (PW.pt (pw_and (pt_cmpR op_eq (pe_callB call_len_seq (by rfl) Z.t.len PySem.boot_len (pa_cons (pv 15) pa_nil)) pe_int (nomark _)) (pw_and (pt_chain op_lt op_lt pe_int (pe_op op_sub (pe_ix ix_list (pv 10) pe_int (fun _ _ => rfl)) (pe_ix ix_list (pv 10) pe_int (fun _ _ => rfl))) (pe_op op_sub (pe_callB call_len_seq (by rfl) Z.t.len PySem.boot_len (pa_cons (pe_ix ix_list (pv 6) (pv 5) (fun _ _ => rfl)) pa_nil)) pe_int)) (pw_and1 (pt_cmpR (op_notInD (hu65 hr)) (pe_call GT (hr.mono (by decide)) (by rfl) (Z.g 32 (by decide)) (Z.F 32 (by decide)).kp (bTie Z) .nil pass0 (pa_cons (pe_ix ix_list (pv 15) pe_int (fun _ _ => rfl)) (pa_cons (pe_ix ix_list (pv 15) pe_int (fun _ _ => rfl)) pa_nil))) (pv 4) (by rfl)))))) (pss_cons (ps_set (i := 8) sc_a_grown.nd rfl (Or.inl rfl) (pe_bm PySem.F.plainAttrs_list PySem.F.slot_list_pop PySem.F.type_list_pop mt_popAt (pv 6) (pa_cons (pv 5) pa_nil)))
  (pss_cons (ps_expr (pe_bm PySem.F.plainAttrs_list PySem.F.slot_list_append PySem.F.type_list_append mt_append (pv 4) (pa_cons (pe_call GT (hr.mono (by decide)) (by rfl) (Z.g 32 (by decide)) (Z.F 32 (by decide)).kp (bTie Z) .nil pass0 (pa_cons (pe_ix ix_list (pv 15) pe_int (fun _ _ => rfl)) (pa_cons (pe_ix ix_list (pv 15) pe_int (fun _ _ => rfl)) pa_nil))) pa_nil)))
  (pss_one (ps_expr (pe_bm PySem.F.plainAttrs_list PySem.F.slot_list_extend PySem.F.type_list_extend mt_extend (pv 6) (pa_cons (pe_call GS (hr.mono (by decide)) (by rfl) (Z.g 34 (by decide)) (Z.F 34 (by decide)).kp (bSplit Z) .nil pass0 (pa_cons (pv 8) (pa_cons (pv 15) pa_nil))) pa_nil)))))) pss_nil))))))
  (pss_one (ps_ret (pe_tup (pa_cons (pe_callTy call_list_of (by rfl) Z.t.list PyProof.Rows.boot_list (pa_cons (pv 1) pa_nil)) (pa_cons (pe_callB cr_sortP (by rfl) Z.t.sorted boot_sorted (pa_cons (pv 4) pa_nil)) (pa_cons (pe_callTy call_list_of (by rfl) Z.t.list PyProof.Rows.boot_list (pa_cons (pv 3) pa_nil)) (pa_cons (pv 6) pa_nil)))))))))))
  , ?_⟩)
  · obtain ⟨p, l, q, n, pins, ns, rfl, _⟩ := h
    rfl
  · obtain ⟨p, l, q, n, pins, ns, rfl, S, hn, hq, qp, ql, ndn, nmn, ln, lp, k⟩ := h
    have hqn : H q ≠ none := by rw [hq]; intro z; cases z
    refine ⟨_, rfl, _, rfl, pins, rfl, q, _, rfl, SqL.of hq, fun r3 n3 => ⟨Nat.zero_le _, fun r4 n4' => ⟨_, _, rfl, ?_⟩⟩⟩
    rw [cut_to, ← List.map_take] at n4' ⊢
    have F3 : Fr H p l n (upd H r3 (.lst ((ns.take pins).map V.str))) := S.fr.put n3
    have n4 := F3.free n4'
    have e34 : r3 ≠ r4 := ne_of_none upd_same n4'
    have q3 : q ≠ r3 := ne_of_none hq n3
    have q4 : q ≠ r4 := ne_of_none hq n4
    have lrim : (ns.take pins).length = pins := by rw [List.length_take]; omega
    have ndr : (ns.take pins).Nodup := ndn.sublist (List.take_sublist _ _)
    generalize hrim : ns.take pins = rim at *
    refine ⟨_, rfl, pins, rfl, by omega, by omega, for_it walk_range (fun i σ H' => ∃ v5 tv ts, σ = [some (.ref p), some (.ref q), some (.int (pins : Int)), some (.ref r3), some (.ref r4), v5, none, none, none, none, none, none, none, none, none, none] ∧ H' q = some (.lst (ns.map V.str)) ∧ H' r3 = some (.lst (rim.map V.str)) ∧
        H' r4 = some (.lst tv) ∧ PrsAt H' tv ts ∧ TsOk rim ts ∧ (∀ x ∈ ts, ∃ j a b, j < i ∧ x = tp a b ∧ rim[j]? = some a ∧ rim[if j = 0 then rim.length - 1 else j - 1]? = some b) ∧ (∀ t, V.ref t ∈ tv → H t = none) ∧ Fr H p l (n + i) H')
      ⟨none, [], [], rfl, by rw [upd_ne q4, upd_ne q3]; exact hq, by rw [upd_ne e34]; exact upd_same, upd_same, PrsAt.nil, TsOk.nil, by simp, (fun t ht => by cases ht), F3.put n4⟩ (fun _ _ _ _ _ => True.intro) ?_ ?_⟩
    · rintro i x σ H' H'' hi ⟨v5, tv, ts, rfl, hq', h3', h4', pt, tok, tin, fr, F'⟩ ⟨rfl, ex⟩
      obtain rfl : x = .int (i : Int) := ex.trans (congrArg V.int (Int.zero_add _))
      have hi' : i < rim.length := by omega
      have skip : ∀ H2, Fr H'' p l (n + i + 1) H2 → ∃ v5 tv ts, [some (V.ref p), some (.ref q), some (.int (pins : Int)), some (.ref r3), some (.ref r4), some (.int (i : Int)), none, none, none, none, none, none, none, none, none, none] = [some (.ref p), some (.ref q), some (.int (pins : Int)), some (.ref r3), some (.ref r4), v5, none, none, none, none, none, none, none, none, none, none] ∧ H2 q = some (.lst (ns.map V.str)) ∧ H2 r3 = some (.lst (rim.map V.str)) ∧
        H2 r4 = some (.lst tv) ∧ PrsAt H2 tv ts ∧ TsOk rim ts ∧ (∀ x ∈ ts, ∃ j a b, j < i + 1 ∧ x = tp a b ∧ rim[j]? = some a ∧ rim[if j = 0 then rim.length - 1 else j - 1]? = some b) ∧ (∀ t, V.ref t ∈ tv → H t = none) ∧ Fr H p l (n + (i + 1)) H2 := fun H2 F2 =>
        ⟨_, tv, ts, rfl, F2.but _ _ hq' qp ql, F'.keep F2 n3 h3', F'.keep F2 n4 h4', prs_keep F' F2 pt fr, tok, fun x hx => let ⟨j, a, b, h1, h2⟩ := tin x hx; ⟨j, a, b, by omega, h2⟩, fr, F'.trans F2⟩
      refine ⟨_, rfl, _, _, rfl, rfl, _, rfl, ?_⟩
      refine ite2 (fun c => ?_) (fun c => ?_)
      · refine ⟨_, rfl, p, l, n + i, 2, rfl, F'.st, by omega, by decide, by decide, fun r H2 hr2 F2 => ⟨rfl, _, rfl, ?_⟩⟩
        refine ite2 (fun c2 => ?_) (fun c2 => ?_)
        · have hL : 2 < rim.length := by
            have := of_decide_eq_true c
            omega
          have h42 := F'.keep F2 n4 h4'
          have h32 := F'.keep F2 n3 h3'
          have F12 := F'.trans F2
          have ea : rim[i]? = some rim[i] := List.getElem?_eq_getElem hi'
          obtain ⟨b, eb0, eb⟩ := atI_pred (xs := rim.map V.str) (i := i) (by rw [List.length_map]; exact hi')
          rw [List.length_map, List.getElem?_map] at eb
          obtain ⟨b', ebr, rfl⟩ : ∃ b', rim[if i = 0 then rim.length - 1 else i - 1]? = some b' ∧ b = V.str b' := by
            cases e : rim[if i = 0 then rim.length - 1 else i - 1]? with
            | none => rw [e] at eb; cases eb
            | some b' => rw [e] at eb; exact ⟨b', rfl, by injection eb with eb; exact eb.symm⟩
          have idx : ∀ {i1 i2 : Nat} {x : Str}, rim[i1]? = some x → rim[i2]? = some x → i1 = i2 := fun {i1 i2 x} h1 h2 => (List.getElem?_inj (List.getElem?_eq_some_iff.mp h1).1 ndr).mp (h1.trans h2.symm)
          have nab : b' ≠ rim[i] := fun e => by
            have := idx (e ▸ ebr) ea
            split at this <;> omega
          have nin : tp rim[i] b' ∉ ts := fun hm => by
            obtain ⟨j, a1, b1, hj, e1, e2, e3⟩ := tin _ hm
            rcases tp_eq e1 with ⟨h1, _⟩ | ⟨h1, h2⟩
            · have := idx ea (h1 ▸ e2)
              omega
            · have k1 := idx ea (h1 ▸ e3)
              have k2 := idx ebr (h2 ▸ e2)
              split at k1 <;> split at k2 <;> omega
          have tok2 : TsOk rim (ts ++ [tp rim[i] b']) := tok.fan (es := [b']) (List.mem_of_getElem? ea) (fun e he => by rw [List.mem_singleton.mp he]; exact ⟨List.mem_of_getElem? ebr, nab⟩) (by simp) (fun e he => by rw [List.mem_singleton.mp he]; exact nin)
          refine ⟨_, rfl, .inl ⟨rfl, _, SqL.of h42⟩, _, rfl, _, rfl, r3, _, _, _, rfl, rfl, SqL.of h32, atI_nat (by rw [List.getElem?_map, ea]; rfl), _, rfl, _, rfl, _, _, rfl, rfl, r3, _, _, _, rfl, rfl, SqL.of h32, eb0, _, _, rfl, fun t nt => ?_⟩
          have pt2 := prs_keep F' F2 pt fr
          have t4 : r4 ≠ t := ne_of_none h42 nt
          have F3 := F12.put (F12.free nt) (o := .tup [.str (tp rim[i] b').1, .str (tp rim[i] b').2])
          refine ⟨r4, tv, .ref t, rfl, rfl, by rw [upd_ne t4]; exact h42, ?_, _, tv ++ [.ref t], ts ++ [tp rim[i] b'], rfl, ?_, ?_, upd_same, ?_, tok2, ?_, ?_, ?_⟩
          · have := tok.len (by omega)
            rw [pt.1]
            exact small1000 (by omega)
          · have h := F2.but _ _ hq' qp ql
            rw [upd_ne q4, upd_ne (ne_of_none h nt)]
            exact h
          · rw [upd_ne e34, upd_ne (ne_of_none h32 nt)]
            exact h32
          · refine prs_upd (prs_snoc (prs_upd pt2 (fun xs e => by rw [nt] at e; cases e)) upd_same) (fun xs e => ?_)
            rw [upd_ne t4, h42] at e
            cases e
          · intro x hx
            rcases List.mem_append.mp hx with hx | hx
            · obtain ⟨j, a1, b1, h1, h2⟩ := tin x hx
              exact ⟨j, a1, b1, by omega, h2⟩
            · rw [List.mem_singleton.mp hx]
              exact ⟨i, _, _, by omega, rfl, ea, ebr⟩
          · intro t' ht'
            rcases List.mem_append.mp ht' with h | h
            · exact fr t' h
            · cases List.mem_singleton.mp h
              exact F12.free nt
          · exact F3.put n4
        · exact skip H2 F2
      · exact skip H'' (F'.st.fr.mono (by omega))
    · rintro σ H1 ⟨v5, tv, ts, rfl, hq1, h31, h41, pt, tok, _, fr, F1⟩
      refine ⟨_, rfl, r3, _, rfl, .inl (SqL.of h31), fun f0 nf0 => ⟨by show 1 ≤ sizeLine; decide, fun r6 nr6 => ?_⟩⟩
      have nf0H := F1.free nf0
      have Fa : Fr H p l _ (upd H1 f0 (.lst (rim.map V.str))) := F1.put nf0H
      have n6 := Fa.free nr6
      have f06 : f0 ≠ r6 := ne_of_none upd_same nr6
      have f04 : f0 ≠ r4 := (ne_of_none h41 nf0).symm
      have a3 : (upd H1 f0 (.lst (rim.map V.str))) r3 = some (.lst (rim.map V.str)) := new_same nf0 _ _ h31
      have a4 : (upd H1 f0 (.lst (rim.map V.str))) r4 = some (.lst tv) := new_same nf0 _ _ h41
      have aq : (upd H1 f0 (.lst (rim.map V.str))) q = some (.lst (ns.map V.str)) := new_same nf0 _ _ hq1
      have e36 : r3 ≠ r6 := ne_of_none a3 nr6
      have e46 : r4 ≠ r6 := ne_of_none a4 nr6
      have q6 : q ≠ r6 := ne_of_none hq n6
      have GA0 : GA H p l q r3 r4 r6 := ⟨n3, n4, n6, e34, e36, e46, qp, ql, q4, q6⟩
      have G0 : GI H p l q r3 r4 r6 ns rim (ns.take (pins + 0)) (n + 40 + 100 * 0) tv ts [.ref f0] (upd (upd H1 f0 (.lst (rim.map V.str))) r6 (.lst [.ref f0])) := by
        rw [Nat.add_zero, hrim]
        refine ⟨new_same nr6 _ _ aq, new_same nr6 _ _ a3, new_same nr6 _ _ a4, prs_upd (prs_upd pt (fun xs e => by rw [nf0] at e; cases e)) (fun xs e => by rw [nr6] at e; cases e), upd_same, FcAt.one (f := rim) (by rw [upd_ne f06]; exact upd_same) ndr (fun z hz => hz) ⟨nf0H, f04, f06⟩, tok, fr, (Fa.put n6).mono (by omega)⟩
      refine ⟨_, rfl, _, rfl, pins, rfl, q, _, rfl, SqL.of G0.vq, fun s2 ns2 => ⟨s2, rfl, ⟨_, SqL.of upd_same⟩, ?_⟩⟩
      rw [cut_from, ← List.map_drop] at *
      have ns2H := G0.F.free ns2
      have G1 := G0.new ns2 (o := .lst ((ns.drop pins).map V.str))
      refine for_list (xs := (ns.drop pins).map V.str) (fun j σ H' => ∃ v5 v7 v8 v9 v10 tv ts fs, σ = [some (.ref p), some (.ref q), some (.int (pins : Int)), some (.ref r3), some (.ref r4), v5, some (.ref r6), v7, v8, v9, v10, none, none, none, none, none] ∧ H' s2 = some (.lst ((ns.drop pins).map V.str)) ∧
          GI H p l q r3 r4 r6 ns rim (ns.take (pins + j)) (n + 40 + 100 * j) tv ts fs H' ∧ 0 < fs.length ∧ fs.length ≤ 1 + 45 * j) ⟨_, _, _, _, _, tv, ts, [.ref f0], rfl, upd_same, G1, Nat.one_pos, Nat.le_refl _⟩ (fun j σ H' _ ⟨_, _, _, _, _, _, _, _, _, h, _⟩ => SqL.of h) ?_ ?_
      · rintro j x σ H2 hx ⟨v5, v7, v8, v9, v10, tv, ts, fs, rfl, hs2, G, fpos, flen⟩
        rw [List.getElem?_map] at hx
        cases ez : (ns.drop pins)[j]? with
        | none => rw [ez] at hx; cases hx
        | some z =>
          rw [ez] at hx
          cases hx
          have ezn : ns[pins + j]? = some z := by rw [List.getElem?_drop] at ez; exact ez
          have jl : pins + j < ns.length := (List.getElem?_eq_some_iff.mp ezn).1
          have znt : z ∉ ns.take (pins + j) := take_mem ndn ezn
          have lim1 : ns.take (pins + (j + 1)) = ns.take (pins + j) ++ [z] := take_snoc ezn
          have subl : ∀ y ∈ ns.take (pins + j), y ∈ ns.take (pins + (j + 1)) := fun y hy => by rw [lim1]; exact List.mem_append_left _ hy
          have zin : z ∈ ns.take (pins + (j + 1)) := by rw [lim1]; exact List.mem_append_right _ (List.mem_singleton.mpr rfl)
          -- a face is taken
          refine ⟨_, rfl, .inl ⟨rfl, _, SqL.of G.v6⟩, _, rfl, _, rfl, r6, fs, rfl, .inl (SqL.of G.v6), p, l, _, fs.length, rfl, G.F.st, by omega, fpos, by omega, fun kk H3 hk F3 => ?_⟩
          have Ga := G.step GA0 F3
          have s23 := G.F.keep F3 ns2H hs2
          have ev : fs[kk]? = some fs[kk] := List.getElem?_eq_getElem hk
          obtain ⟨a, f, eva, ha, ndf, fin, na⟩ := Ga.fc _ (List.mem_of_getElem? ev)
          rw [eva] at ev
          refine ⟨r6, fs, (kk : Nat), kk, .ref a, rfl, rfl, Ga.v6, by omega, by omega, seqNat (by omega) (by omega), ev, ?_⟩
          have Gb := Ga.face GA0 (fs2 := fs.eraseIdx kk) (Ga.fc.sub fun v hv => List.mem_of_mem_eraseIdx hv)
          have s26 : s2 ≠ r6 := fun e => by
            have h1 := Ga.v6
            rw [← e, s23] at h1
            injection h1 with h1
            injection h1 with h1
            have := List.mem_of_getElem? ev
            rw [← h1] at this
            obtain ⟨y, _, e⟩ := List.mem_map.mp this
            cases e
          have s24 : (upd H3 r6 (.lst (fs.eraseIdx kk))) s2 = some (.lst ((ns.drop pins).map V.str)) := by rw [upd_ne s26]; exact s23
          have ha4 : (upd H3 r6 (.lst (fs.eraseIdx kk))) a = some (.lst (f.map V.str)) := by rw [upd_ne na.2.2]; exact ha
          have lf : f.length ≤ 40 := by
            have := ndf.length_le_of_subset (l₂ := ns) (fun y hy => List.mem_of_mem_take (fin y hy))
            omega
          -- some of it
          refine ⟨_, rfl, _, rfl, p, l, a, _, f.map V.str, rfl, Gb.F.st, by omega, SqL.of ha4, by rw [List.length_map]; omega, fun s9 ys H5 hperm F5 ns9 hs9 => ?_⟩
          obtain ⟨gs, rfl, gperm⟩ := strs_perm hperm
          have Gc := Gb.step GA0 F5
          have s25 := Gb.F.keep F5 ns2H s24
          have ha5 := Gb.F.keep F5 na.1 ha4
          refine ⟨_, rfl, p, l, _, 3, rfl, Gc.F.st, by rw [List.length_map]; omega, by decide, by decide, fun d H6 hd F6 => ?_⟩
          have Gd := Gc.step GA0 F6
          have s2f := Gc.F.keep F6 ns2H s25
          have ha6 := Gc.F.keep F6 na.1 ha5
          have ns9H := Gb.F.free ns9
          have hs96 := Gc.F.keep F6 ns9H hs9
          refine ⟨_, _, rfl, rfl, _, rfl, s9, _, rfl, SqL.of hs96, fun s10 ns10 => ?_⟩
          rw [show ((2 : Int) + (d : Int)) = ((2 + d : Nat) : Int) from rfl, cut_to, ← List.map_take] at *
          generalize hgt : gs.take (2 + d) = g2 at *
          have Ge := Gd.new ns10 (o := .lst (g2.map V.str))
          have s2g := new_same ns10 (o := .lst (g2.map V.str)) _ _ s2f
          have ha7 := new_same ns10 (o := .lst (g2.map V.str)) _ _ ha6
          -- the ends
          refine ⟨_, rfl, a, rfl, ⟨_, SqL.of ha7⟩, fun D hD => ?_⟩
          have nDH := Ge.F.free hD
          refine lc_list (xs := f.map V.str) (fun i H' => ∃ es : List Str, H' D = some (.lst (es.map V.str)) ∧ es.Sublist (f.take i) ∧ Same (upd H6 s10 (.lst (g2.map V.str))) H') ⟨[], upd_same, List.nil_sublist _, new_same hD⟩ (fun i H' _ ⟨_, _, _, S'⟩ => SqL.of (S' _ _ ha7)) ?_ ?_
          · rintro i x H' hx ⟨es, he, sub, S'⟩
            rw [List.getElem?_map] at hx
            cases ey : f[i]? with
            | none => rw [ey] at hx; cases hx
            | some y =>
              rw [ey] at hx
              cases hx
              refine ⟨rfl, _, rfl, _, rfl, s10, _, rfl, .inl (SqL.of (S' _ _ upd_same)), rfl, flat_strs _, _, rfl, ?_⟩
              refine ite2 (fun _ => ⟨_, rfl, es.map V.str, he, ?_, es ++ [y], ?_, ?_, ?_⟩) (fun _ => ⟨es, he, ?_, S'⟩)
              · rw [List.length_map]
                have := sub.length_le
                rw [List.length_take] at this
                exact small1000 (by omega)
              · rw [upd_same, List.map_append]
                rfl
              · rw [take_snoc ey]
                exact sub.append (List.Sublist.refl _)
              · exact fun b o e => by
                  rw [upd_ne (ne_of_none e hD)]
                  exact S' _ _ e
              · rw [take_snoc ey]
                exact sub.trans (List.sublist_append_left _ _)
          rintro H7 ⟨es, he, sub, S7⟩
          rw [List.length_map, List.take_length] at sub
          have Gf := Ge.same S7
          have s2h := S7 _ _ s2g
          have ha8 := S7 _ _ ha7
          have nde : es.Nodup := ndf.sublist sub
          have ein : ∀ e ∈ es, e ∈ ns.take (pins + j) := fun e h => fin e (sub.subset h)
          have le : es.length ≤ 40 := Nat.le_trans sub.length_le lf
          -- their ties
          refine ⟨_, rfl, .inl ⟨rfl, _, SqL.of Gf.v4⟩, _, rfl, D, rfl, ⟨_, SqL.of he⟩, fun D2 hD2 => ?_⟩
          have nD2H := Gf.F.free hD2
          refine lc_list (xs := es.map V.str) (fun i H' => ∃ acc, H' D2 = some (.lst acc) ∧ PrsAt H' acc ((es.take i).map (tp z)) ∧ (∀ t, V.ref t ∈ acc → H t = none) ∧ Same H7 H') ⟨[], upd_same, PrsAt.nil, (fun t ht => by cases ht), new_same hD2⟩ (fun i H' _ ⟨_, _, _, _, S'⟩ => SqL.of (S' _ _ he)) ?_ ?_
          · rintro i x H' hx ⟨acc, hacc, pa, fa, S'⟩
            rw [List.getElem?_map] at hx
            cases ey : es[i]? with
            | none => rw [ey] at hx; cases hx
            | some y =>
              rw [ey] at hx
              cases hx
              have il := (List.getElem?_eq_some_iff.mp ey).1
              refine ⟨rfl, yes_of ⟨_, rfl, _, rfl, z, y, rfl, fun t nt => ⟨acc, by rw [upd_ne (ne_of_none hacc nt)]; exact hacc, ?_, acc ++ [.ref t], upd_same, ?_, ?_, ?_⟩⟩⟩
              · rw [pa.1, List.length_map, List.length_take]
                exact small1000 (by omega)
              · rw [take_snoc ey, List.map_append]
                refine prs_upd (prs_snoc (prs_upd pa (fun xs e => by rw [nt] at e; cases e)) upd_same) (fun xs e => ?_)
                rw [upd_ne (ne_of_none hacc nt), hacc] at e
                cases e
              · intro t' ht'
                rcases List.mem_append.mp ht' with h | h
                · exact fa t' h
                · cases List.mem_singleton.mp h
                  exact (Gf.F.same S').free nt
              · exact fun b o e => by
                  rw [upd_ne (ne_of_none e hD2), upd_ne (ne_of_none (S' _ _ e) nt)]
                  exact S' _ _ e
          rintro H8 ⟨acc, hacc, pa, fa, S8⟩
          rw [List.length_map, List.take_length] at pa
          have Gg := Gf.same S8
          have tok2 : TsOk (ns.take (pins + (j + 1))) (ts ++ es.map (tp z)) := (Gg.tok.mono subl).fan zin (fun e h => ⟨subl _ (ein e h), fun q => znt (q ▸ ein e h)⟩) nde (fun e h hm => by
            obtain ⟨k1, k2, _⟩ := Gg.tok.ok _ hm
            rcases tp_cases z e with q | q <;> rw [q] at k1 k2
            · exact znt k1
            · exact znt k2)
          have lim44 : (ns.take (pins + (j + 1))).length ≤ 44 := by rw [List.length_take]; omega
          have len2 := tok2.len lim44
          refine ⟨r4, D2, tv, acc, rfl, rfl, Gg.v4, hacc, ?_, ?_⟩
          · have := (prs_app Gg.pt pa).1
            rw [List.length_append] at this
            have h3 := small1000 (n := (ts ++ es.map (tp z)).length) (by omega)
            omega
          have Gh := Gg.tie GA0 (prs_app Gg.pt pa) tok2 (fun t ht => by
            rcases List.mem_append.mp ht with h | h
            · exact Gg.fr t h
            · exact fa t h) subl
          have ha9 : (upd H8 r4 (.lst (tv ++ acc))) a = some (.lst (f.map V.str)) := by rw [upd_ne na.2.1]; exact S8 _ _ ha8
          have D4 : D ≠ r4 := (ne_of_none Ge.v4 hD).symm
          have he9 : (upd H8 r4 (.lst (tv ++ acc))) D = some (.lst (es.map V.str)) := by rw [upd_ne D4]; exact S8 _ _ he
          have s2r4 : s2 ≠ r4 := (ne_of_none G0.v4 ns2).symm
          have s29 : (upd H8 r4 (.lst (tv ++ acc))) s2 = some (.lst ((ns.drop pins).map V.str)) := by rw [upd_ne s2r4]; exact S8 _ _ s2h
          have lfe : (fs.eraseIdx kk).length = fs.length - 1 := List.length_eraseIdx_of_lt hk
          -- what comes of the face
          have done : ∀ (D3 : Addr) (acc2 : List V) (H10 : Hp) (m10 : Nat), m10 ≤ 40 → acc2.length = m10 → 0 < m10 → Same (upd H8 r4 (.lst (tv ++ acc))) H10 → H10 D3 = some (.lst acc2) → FcAt (Nf H r4 r6) H10 acc2 (fun y => y ∈ ns.take (pins + (j + 1))) →
              ∃ v5' v7' v8' v9' v10' tv' ts' fs', [some (V.ref p), some (.ref q), some (.int (pins : Int)), some (.ref r3), some (.ref r4), v5, some (.ref r6), some (.str z), some (.ref a), some (.ref s10), some (.ref D), none, none, none, none, none] = [some (.ref p), some (.ref q), some (.int (pins : Int)), some (.ref r3), some (.ref r4), v5', some (.ref r6), v7', v8', v9', v10', none, none, none, none, none] ∧ (upd H10 r6 (.lst (fs.eraseIdx kk ++ acc2))) s2 = some (.lst ((ns.drop pins).map V.str)) ∧
          GI H p l q r3 r4 r6 ns rim (ns.take (pins + (j + 1))) (n + 40 + 100 * (j + 1)) tv' ts' fs' (upd H10 r6 (.lst (fs.eraseIdx kk ++ acc2))) ∧ 0 < fs'.length ∧ fs'.length ≤ 1 + 45 * (j + 1) := fun D3 acc2 H10 m10 hm lac pos S10 hD3 fc2 => by
            have Gi := Gh.same S10
            have Gj := Gi.face GA0 (fs2 := fs.eraseIdx kk ++ acc2) (Gi.fc.app fc2)
            refine ⟨_, _, _, _, _, _, _, _, rfl, by rw [upd_ne s26]; exact S10 _ _ s29, Gj.mono (by rw [List.length_map]; omega), ?_, ?_⟩
            · rw [List.length_append]; omega
            · rw [List.length_append]; omega
          refine ⟨_, rfl, .inl ⟨rfl, _, SqL.of Gh.v6⟩, _, rfl, D, _, rfl, .inl (SqL.of he9), _, _, rfl, rfl, _, rfl, ite2 (fun c => ?_) (fun c => ?_)⟩
          · have l2 : 2 ≤ es.length := by
              have := of_decide_eq_true c
              rw [List.length_map] at this
              omega
            refine ⟨_, rfl, _, rfl, a, D, f, es, rfl, ha9, he9, ndf, nde, l2, by omega, (fun y hy => sub.subset hy), fun qq rows H10 nqq hqq lrows fcr S10 => ⟨qq, rfl, ⟨_, SqL.of hqq⟩, fun D3 hD3 => ?_⟩⟩
            have Gi := Gh.same S10
            have nD3H := Gi.F.free hD3
            have D34 : D3 ≠ r4 := (ne_of_none Gi.v4 hD3).symm
            have D36 : D3 ≠ r6 := (ne_of_none Gi.v6 hD3).symm
            refine lc_list (xs := rows) (fun i H' => ∃ acc2, H' D3 = some (.lst acc2) ∧ acc2.length = i ∧ FcAt (fun c => Nf H r4 r6 c ∧ c ≠ D3) H' acc2 (fun y => y ∈ ns.take (pins + (j + 1))) ∧ Same H10 H') ⟨[], upd_same, rfl, .nil, new_same hD3⟩ (fun i H' _ ⟨_, _, _, _, S'⟩ => SqL.of (S' _ _ hqq)) ?_ ?_
            · rintro i x H' hx ⟨acc2, hacc2, lac2, fc2, S'⟩
              obtain ⟨b, g, rfl, hb, ndg, gin, nb⟩ := fcr x (List.mem_of_getElem? hx)
              have il := (List.getElem?_eq_some_iff.mp hx).1
              have hb' := S' _ _ hb
              refine ⟨rfl, yes_of ⟨_, rfl, by show 1 ≤ sizeLine; decide, fun u nu => ⟨_, rfl, u, b, [V.str z], g.map V.str, rfl, rfl, upd_same, by rw [upd_ne (ne_of_none hb' nu)]; exact hb', ?_, fun v nv => ?_⟩⟩⟩
              · rw [List.length_map]
                have := ndg.length_le_of_subset (l₂ := f) gin
                exact Nat.le_of_lt (small1000 (by simp; omega))
              · have SS := S'.trans ((new_same (o := .lst [V.str z]) nu).trans (new_same (o := .lst ([V.str z] ++ g.map V.str)) nv))
                have acc3 : (upd (upd H' u (.lst [V.str z])) v (.lst ([V.str z] ++ g.map V.str))) D3 = some (.lst acc2) := new_same nv _ _ (new_same nu _ _ hacc2)
                have vn : H v = none := (Gi.F.same S').free (show H' v = none from (new_same nu).free nv)
                have v4' : v ≠ r4 := (ne_of_none (new_same nu _ _ (S' _ _ Gi.v4)) nv).symm
                have v6' : v ≠ r6 := (ne_of_none (new_same nu _ _ (S' _ _ Gi.v6)) nv).symm
                have vD : v ≠ D3 := (ne_of_none (new_same nu _ _ hacc2) nv).symm
                refine ⟨acc2, acc3, ?_, acc2 ++ [.ref v], upd_same, ?_, ?_, ?_⟩
                · rw [lac2]
                  exact small1000 (by omega)
                · rw [List.length_append, lac2]; rfl
                · refine FcAt.put (((fc2.frame fun c o _ e => new_same nv _ _ (new_same nu _ _ e))).app (FcAt.one (f := z :: g) (by rw [upd_same]; rfl) ?_ ?_ ⟨⟨vn, v4', v6'⟩, vD⟩)) (fun z => z.2 rfl)
                  · exact List.nodup_cons.mpr ⟨fun h => znt (fin _ (gin _ h)), ndg⟩
                  · intro y hy
                    rcases List.mem_cons.mp hy with rfl | hy
                    · exact zin
                    · exact subl _ (fin _ (gin _ hy))
                · exact fun b o e => by
                    rw [upd_ne (ne_of_none e hD3)]
                    exact SS _ _ e
            · rintro H11 ⟨acc2, hacc2, lac2, fc2, S'⟩
              have Gk := Gi.same S'
              refine ⟨r6, D3, _, acc2, rfl, rfl, Gk.v6, hacc2, ?_, ?_⟩
              · have h3 : 5000 < sizeLine := by decide
                omega
              · exact done D3 acc2 H11 _ (by omega) rfl (by omega) (S10.trans S') hacc2 (fc2.weak (fun c h => h.1) fun _ h => h)
          · refine ⟨_, rfl, by show 1 ≤ sizeLine; decide, fun D3 nD3 => ⟨r6, D3, _, _, rfl, rfl, new_same nD3 _ _ Gh.v6, upd_same, ?_, ?_⟩⟩
            · have h3 : 5000 < sizeLine := by decide
              show (fs.eraseIdx kk).length + 1 ≤ sizeLine
              omega
            · exact done D3 [.ref a] _ 1 (by omega) rfl (by omega) (new_same nD3) upd_same (FcAt.one (new_same nD3 _ _ ha9) ndf (fun y hy => subl _ (fin y hy)) na)
      · rintro σ H2 ⟨v5, v7, v8, v9, v10, tv, ts, fs, rfl, hs2, G, fpos, flen⟩
        have elim : ns.take (pins + ((ns.drop pins).map V.str).length) = ns := by
          rw [List.length_map, List.length_drop]
          exact List.take_of_length_le (by omega)
        rw [elim] at G
        have l0 : ((ns.drop pins).map V.str).length ≤ 40 := by rw [List.length_map, List.length_drop]; omega
        refine ⟨_, rfl, q, _, rfl, .inl (SqL.of G.vq), _, rfl, by omega, by rw [List.length_map]; omega, for_it walk_range (fun i σ H' => ∃ v5 v7 v8 v9 v10 v14 v15 tv ts fs, σ = [some (.ref p), some (.ref q), some (.int (pins : Int)), some (.ref r3), some (.ref r4), v5, some (.ref r6), v7, v8, v9, v10, none, none, none, v14, v15] ∧
          GI H p l q r3 r4 r6 ns rim ns (n + 5000 + 100 * i) tv ts fs H' ∧ 0 < fs.length ∧ fs.length ≤ 2000 + 2 * i) ⟨v5, v7, v8, v9, v10, none, none, tv, ts, fs, rfl, G.mono (by omega), fpos, by omega⟩ (fun _ _ _ _ _ => True.intro) ?_ ?_⟩
        · rintro i x σ H' H3 hi ⟨v5, v7, v8, v9, v10, v14, v15, tv, ts, fs, rfl, G, fpos, flen⟩ ⟨rfl, ex⟩
          have hi40 : i < 40 := by
            rw [List.length_map] at hi
            omega
          have skip : ∀ (v5 v8 v10 v15 : Option V) (fs : List V) (tv : List V) (ts : List Pr) (m9 : Nat) (H9 : Hp), GI H p l q r3 r4 r6 ns rim ns m9 tv ts fs H9 → m9 ≤ n + 5000 + 100 * (i + 1) → 0 < fs.length → fs.length ≤ 2000 + 2 * (i + 1) → ∃ w5 w7 w8 w9 w10 w14 w15 tv ts fs', [some (V.ref p), some (.ref q), some (.int (pins : Int)), some (.ref r3), some (.ref r4), v5, some (.ref r6), v7, v8, v9, v10, none, none, none, some x, v15] = [some (.ref p), some (.ref q), some (.int (pins : Int)), some (.ref r3), some (.ref r4), w5, some (.ref r6), w7, w8, w9, w10, none, none, none, w14, w15] ∧
              GI H p l q r3 r4 r6 ns rim ns (n + 5000 + 100 * (i + 1)) tv ts fs' H9 ∧ 0 < fs'.length ∧ fs'.length ≤ 2000 + 2 * (i + 1) := fun v5 v8 v10 v15 fs tv ts m9 H9 G9 hm h1 h2 => ⟨v5, v7, v8, v9, v10, some x, v15, tv, ts, fs, rfl, G9.mono hm, h1, h2⟩
          refine ⟨_, rfl, _, rfl, r6, fs, rfl, .inl (SqL.of G.v6), p, l, _, fs.length, rfl, G.F.st, by omega, fpos, by omega, fun kk H4 hk F4 => ?_⟩
          have Ga := G.step GA0 F4
          have ev : fs[kk]? = some fs[kk] := List.getElem?_eq_getElem hk
          obtain ⟨a, f, eva, ha, ndf, fin, na⟩ := Ga.fc _ (List.mem_of_getElem? ev)
          rw [eva] at ev
          have lf : f.length ≤ 40 := by
            have := ndf.length_le_of_subset (l₂ := ns) fin
            omega
          refine ⟨_, rfl, _, rfl, _, rfl, r6, fs, _, _, rfl, rfl, SqL.of Ga.v6, atI_nat ev, a, _, rfl, .inl (SqL.of ha), _, rfl, RgOk.of_le (by omega) (by rw [List.length_map]; omega) (by omega) (by omega), fun q5 nq5 => ?_⟩
          have Gb := Ga.new nq5 (o := .lst (rgV 0 ((f.map V.str).length : Nat)))
          have ha5 := new_same nq5 (o := .lst (rgV 0 ((f.map V.str).length : Nat))) _ _ ha
          have erg : rgV 0 (((f.map V.str).length : Nat) : Int) = ((List.range f.length).map fun (i : Nat) => (i : Int)).map V.int := by
            unfold rgV
            rw [List.map_map, List.length_map]
            have : (((f.length : Nat) : Int) - 0).toNat = f.length := by omega
            rw [this]
            exact List.map_congr_left fun i _ => by
              show V.int (0 + (i : Int)) = V.int (i : Int)
              rw [Int.zero_add]
          refine ⟨p, l, q5, _, _, rfl, Gb.F.st, by omega, SqL.of upd_same, by rw [rgV_length, List.length_map]; omega, fun q6' ys H5 hperm F5 nq6 hq6 => ?_⟩
          rw [erg] at hperm
          obtain ⟨ks, rfl, kperm⟩ := ints_perm hperm
          have Gc := Gb.step GA0 F5
          have ha6 := Gb.F.keep F5 na.1 ha5
          refine ⟨_, rfl, q6', _, rfl, SqL.of hq6, fun q7 nq7 => ?_⟩
          have ec : cutV (ks.map V.int) none (some 2) = (ks.take 2).map V.int := by
            rw [show ((2 : Int)) = ((2 : Nat) : Int) from rfl, cut_to, List.map_take]
          rw [ec]
          have Gd := Gc.new nq7 (o := .lst ((ks.take 2).map V.int))
          have ha7 := new_same nq7 (o := .lst ((ks.take 2).map V.int)) _ _ ha6
          refine ⟨q7, ks.take 2, rfl, SqL.of upd_same, fun es q8 eperm epw nq8 => ?_⟩
          have Ge := Gd.new nq8 (o := .lst (es.map V.int))
          have ha8 := new_same nq8 (o := .lst (es.map V.int)) _ _ ha7
          have elen : es.length ≤ 2 := by
            rw [eperm.length_eq, List.length_take]
            omega
          have ndk : ks.Nodup := kperm.nodup_iff.mpr (nodup_map (fun x y _ _ h => by omega) List.nodup_range)
          have nde : es.Nodup := eperm.nodup_iff.mpr (ndk.sublist (List.take_sublist _ _))
          have ein : ∀ e ∈ es, ∃ t : Nat, e = (t : Int) ∧ t < f.length := fun e he => by
            have h1 := kperm.mem_iff.mp (List.mem_of_mem_take (eperm.mem_iff.mp he))
            obtain ⟨t, ht, rfl⟩ := List.mem_map.mp h1
            exact ⟨t, rfl, List.mem_range.mp ht⟩
          refine ⟨_, rfl, q8, rfl, ⟨_, SqL.of upd_same⟩, fun D hD => ?_⟩
          have nDH := Ge.F.free hD
          refine lc_list (xs := es.map V.int) (fun i H' => ∃ tw : List Str, H' D = some (.lst (tw.map V.str)) ∧ tw.length = i ∧ (∀ (j : Nat) (e : Int) (y : Str), es[j]? = some e → tw[j]? = some y → f[e.toNat]? = some y) ∧ Same (upd (upd H5 q7 (.lst ((ks.take 2).map V.int))) q8 (.lst (es.map V.int))) H') ⟨[], upd_same, rfl, (fun j e y _ h => by simp at h), new_same hD⟩ (fun i H' _ ⟨_, _, _, _, S'⟩ => SqL.of (S' _ _ upd_same)) ?_ ?_
          · rintro i x' H' hx ⟨tw, htw, ltw, ftw, S'⟩
            rw [List.getElem?_map] at hx
            cases ey : es[i]? with
            | none => rw [ey] at hx; cases hx
            | some e =>
              rw [ey] at hx
              cases hx
              obtain ⟨t, rfl, ht⟩ := ein e (List.mem_of_getElem? ey)
              have ef : f[t]? = some f[t] := List.getElem?_eq_getElem ht
              have Gx := Ge.same S'
              refine ⟨rfl, yes_of ⟨_, rfl, _, rfl, r6, fs, _, _, rfl, rfl, SqL.of Gx.v6, atI_nat ev, _, rfl, a, _, _, .str f[t], rfl, rfl, SqL.of (S' _ _ ha8), atI_nat (by rw [List.getElem?_map, ef]; rfl), _, htw, ?_, tw ++ [f[t]], ?_, ?_, ?_, ?_⟩⟩
              · rw [List.length_map, ltw]
                have := (List.getElem?_eq_some_iff.mp ey).1
                exact small1000 (by omega)
              · rw [upd_same, List.map_append]
                rfl
              · rw [List.length_append, ltw]; rfl
              · intro j e' y h1 h2
                rcases Nat.lt_trichotomy j tw.length with l | l | l
                · rw [List.getElem?_append_left l] at h2
                  exact ftw j e' y h1 h2
                · rw [l, ltw, ey] at h1
                  cases h1
                  rw [List.getElem?_append_right (by omega), l, Nat.sub_self] at h2
                  cases h2
                  exact ef
                · rw [List.getElem?_eq_none (by rw [List.length_append]; simp; omega)] at h2
                  cases h2
              · exact fun b o e => by
                  rw [upd_ne (ne_of_none e hD)]
                  exact S' _ _ e
          rintro H6 ⟨tw, htw, ltw, ftw, S6⟩
          rw [List.length_map] at ltw
          have lrg : (rgV 0 (((f.map V.str).length : Nat) : Int)).length ≤ 40 := by
            rw [rgV_length, List.length_map]
            omega
          have Gf := Ge.same S6
          have ha9 := S6 _ _ ha8
          have hq9 := S6 _ _ upd_same
          refine ⟨_, rfl, D, _, rfl, .inl (SqL.of htw), rfl, _, rfl, ite2 (fun c => ?_) (fun c => ?_)⟩
          · have ltw2 : tw.length = 2 := by
              have h1 : ((tw.map V.str).length : Int) = 2 := by
                have := of_decide_eq_true c
                injection this
              rw [List.length_map] at h1
              omega
            match tw, es, ltw2, (ltw.symm.trans ltw2 : es.length = 2) with
            | [x0, y0], [k0, k1], _, _ =>
              obtain ⟨t0, rfl, h0⟩ := ein k0 (by simp)
              obtain ⟨t1, rfl, h1⟩ := ein k1 (by simp)
              have f0 : f[t0]? = some x0 := ftw 0 _ x0 rfl rfl
              have f1 : f[t1]? = some y0 := ftw 1 _ y0 rfl rfl
              have tne : t0 ≠ t1 := fun e => by
                rw [e] at nde
                simp at nde
              have xy : x0 ≠ y0 := fun e => tne ((List.getElem?_inj h0 ndf).mp (by rw [f0, f1, e]))
              have xin : x0 ∈ f := List.mem_of_getElem? f0
              have yin : y0 ∈ f := List.mem_of_getElem? f1
              have dx : ∀ (S' : Same H6 H6), True := fun _ => trivial
              have gx0 : atI (([x0, y0] : List Str).map V.str) 0 = some (.str x0) := atI_nat (j := 0) rfl
              have gx1 : atI (([x0, y0] : List Str).map V.str) 1 = some (.str y0) := atI_nat (j := 1) rfl
              have ge0 : atI (([(t0 : Int), (t1 : Int)] : List Int).map V.int) 0 = some (.int t0) := atI_nat (j := 0) rfl
              have ge1 : atI (([(t0 : Int), (t1 : Int)] : List Int).map V.int) 1 = some (.int t1) := atI_nat (j := 1) rfl
              refine ⟨_, rfl, q8, _, 1, _, rfl, rfl, SqL.of hq9, ge1, _, rfl, q8, _, 0, _, rfl, rfl, SqL.of hq9, ge0, _, _, rfl, rfl, _, _, rfl, rfl, _, rfl, ?_⟩
              refine ite2 (fun c1 => ?_) (fun c1 => ?_)
              · refine ⟨_, rfl, _, rfl, r6, fs, _, _, rfl, rfl, SqL.of Gf.v6, atI_nat ev, a, _, rfl, .inl (SqL.of ha9), _, _, rfl, rfl, _, _, rfl, rfl, _, rfl, ?_⟩
                refine ite2 (fun c2 => ?_) (fun c2 => skip _ _ _ _ fs tv ts _ _ Gf (by omega) fpos (by omega))
                refine ⟨_, rfl, D, _, 0, _, rfl, rfl, SqL.of htw, gx0, _, rfl, D, _, 1, _, rfl, rfl, SqL.of htw, gx1, x0, y0, rfl, fun t nt => ?_⟩
                have Gg := Gf.new nt (o := .tup [.str (tp x0 y0).1, .str (tp x0 y0).2])
                have htw2 := new_same nt (o := .tup [.str (tp x0 y0).1, .str (tp x0 y0).2]) _ _ htw
                have ha10 := new_same nt (o := .tup [.str (tp x0 y0).1, .str (tp x0 y0).2]) _ _ ha9
                have okp : ∀ q : Pr, q.1 ∈ ns ∧ q.2 ∈ ns → PyData.strOk q.1 = true ∧ PyData.strOk q.2 = true := fun q h => ⟨name_ok (nmn _ h.1), name_ok (nmn _ h.2)⟩
                have tpin := tp_mem (fin _ xin) (fin _ yin)
                refine ⟨_, rfl, prD1 (tp x0 y0), ts.map prD1, .tup (SqT.of upd_same) (.cons (.str _) (.cons (.str _) .nil)), dp_prs Gg.v4 Gg.pt, ?_, shP fun q hq => okp q ⟨(G.tok.ok q hq).1, (G.tok.ok q hq).2.1⟩, _, rfl, ?_⟩
                · exact shp1 (okp _ tpin)
                · refine ite2 (fun c3 => ?_) (fun c3 => skip _ _ _ _ fs tv ts _ _ Gg (by omega) fpos (by omega))
                  have nin := not_any c3
                  refine ⟨_, rfl, .inl ⟨rfl, _, SqL.of Gg.v6⟩, _, rfl, r6, fs, (kk : Nat), kk, .ref a, rfl, rfl, Gg.v6, by omega, by omega, seqNat (by omega) (by omega), ev, ?_⟩
                  have Gh := Gg.face GA0 (fs2 := fs.eraseIdx kk) (Gg.fc.sub fun v hv => List.mem_of_mem_eraseIdx hv)
                  have D6 : D ≠ r6 := (ne_of_none Ge.v6 hD).symm
                  have D4 : D ≠ r4 := (ne_of_none Ge.v4 hD).symm
                  have htw3 : (upd (upd H6 t (.tup [.str (tp x0 y0).1, .str (tp x0 y0).2])) r6 (.lst (fs.eraseIdx kk))) D = some (.lst ([x0, y0].map V.str)) := by rw [upd_ne D6]; exact htw2
                  have ha11 : (upd (upd H6 t (.tup [.str (tp x0 y0).1, .str (tp x0 y0).2])) r6 (.lst (fs.eraseIdx kk))) a = some (.lst (f.map V.str)) := by rw [upd_ne na.2.2]; exact ha10
                  refine ⟨_, rfl, .inl ⟨rfl, _, SqL.of Gh.v4⟩, _, rfl, D, _, 0, _, rfl, rfl, SqL.of htw3, gx0, _, rfl, D, _, 1, _, rfl, rfl, SqL.of htw3, gx1, x0, y0, rfl, fun t2 nt2 => ?_⟩
                  have Gi := Gh.new nt2 (o := .tup [.str (tp x0 y0).1, .str (tp x0 y0).2])
                  have tok2 : TsOk ns (ts ++ [tp x0 y0]) := G.tok.fan (es := [y0]) (fin _ xin) (fun e he => by rw [List.mem_singleton.mp he]; exact ⟨fin _ yin, xy.symm⟩) (by simp) (fun e he => by rw [List.mem_singleton.mp he]; exact nin)
                  have pt2 := prs_snoc Gi.pt (show (upd (upd (upd H6 t (.tup [.str (tp x0 y0).1, .str (tp x0 y0).2])) r6 (.lst (fs.eraseIdx kk))) t2 (.tup [.str (tp x0 y0).1, .str (tp x0 y0).2])) t2 = some (.tup [.str (tp x0 y0).1, .str (tp x0 y0).2]) from upd_same)
                  have Gj := Gi.tie GA0 pt2 tok2 (fun t' ht' => by
                    rcases List.mem_append.mp ht' with h | h
                    · exact Gi.fr t' h
                    · cases List.mem_singleton.mp h
                      exact Gh.F.free nt2) (fun _ h => h)
                  refine ⟨r4, tv, .ref t2, rfl, rfl, Gi.v4, ?_, ?_⟩
                  · have := G.tok.len (by omega)
                    rw [Gi.pt.1]
                    exact small1000 (by omega)
                  have htw4 : (upd (upd (upd (upd H6 t (.tup [.str (tp x0 y0).1, .str (tp x0 y0).2])) r6 (.lst (fs.eraseIdx kk))) t2 (.tup [.str (tp x0 y0).1, .str (tp x0 y0).2])) r4 (.lst (tv ++ [.ref t2]))) D = some (.lst ([x0, y0].map V.str)) := by rw [upd_ne D4]; exact new_same nt2 _ _ htw3
                  have ha12 : (upd (upd (upd (upd H6 t (.tup [.str (tp x0 y0).1, .str (tp x0 y0).2])) r6 (.lst (fs.eraseIdx kk))) t2 (.tup [.str (tp x0 y0).1, .str (tp x0 y0).2])) r4 (.lst (tv ++ [.ref t2]))) a = some (.lst (f.map V.str)) := by rw [upd_ne na.2.1]; exact new_same nt2 _ _ ha11
                  refine ⟨_, rfl, .inl ⟨rfl, _, SqL.of Gj.v6⟩, _, rfl, _, rfl, a, D, f, [x0, y0], rfl, ha12, htw4, ndf, by simp [xy], by simp, by omega, (fun y hy => by
                    rcases List.mem_cons.mp hy with rfl | hy
                    · exact xin
                    · rw [List.mem_singleton.mp hy]; exact yin), fun qq rows H10 nqq hqq lrows fcr S10 => ?_⟩
                  have Gk := Gj.same S10
                  have lfe : (fs.eraseIdx kk).length = fs.length - 1 := List.length_eraseIdx_of_lt hk
                  have fcr2 : FcAt (Nf H r4 r6) H10 rows (fun y => y ∈ ns) := fun v hv => by
                    obtain ⟨b, g, e, hb, ndg, gin, nb⟩ := fcr v hv
                    have b4 : b ≠ r4 := (ne_of_none Gj.v4 nb.1).symm
                    have b6 : b ≠ r6 := (ne_of_none Gj.v6 nb.1).symm
                    exact ⟨b, g, e, hb, ndg, fun y hy => fin _ (gin y hy), Gj.F.free nb.1, b4, b6⟩
                  have hrl : rows.length = 2 := lrows
                  refine ⟨r6, qq, _, rows, rfl, rfl, Gk.v6, hqq, ?_, ?_⟩
                  · have h3 : 5000 < sizeLine := by decide
                    omega
                  · exact skip _ _ _ _ _ _ _ _ _ (Gk.face GA0 (Gk.fc.app fcr2)) (by omega) (by rw [List.length_append]; omega) (by rw [List.length_append]; omega)
              · exact ⟨_, rfl, iteF (skip _ _ _ _ fs tv ts _ _ Gf (by omega) fpos (by omega))⟩
          · exact skip _ _ _ _ fs tv ts _ _ Gf (by omega) fpos (by omega)
        · rintro σ H3 ⟨v5, v7, v8, v9, v10, v14, v15, tv, ts, fs, rfl, G, fpos, flen⟩
          have l40 : (ns.map V.str).length ≤ 40 := by rw [List.length_map]; exact ln
          refine ⟨_, rfl, q, _, rfl, .inl (SqL.of G.vq), fun aP nP => ?_⟩
          have Ga := G.new nP (o := .lst (ns.map V.str))
          refine ⟨_, rfl, r4, tv, ts, rfl, SqL.of Ga.v4, Ga.pt, fun aT ys nT pyy hy => ?_⟩
          have Gb := Ga.new nT (o := .lst ys)
          refine ⟨_, rfl, r3, _, rfl, .inl (SqL.of Gb.v3), fun aR nR => ?_⟩
          have Gc := Gb.new nR (o := .lst (rim.map V.str))
          refine ⟨_, rfl, by show 4 ≤ sizeLine; decide, fun r nr => ?_⟩
          have Gd := Gc.new nr (o := .tup [.ref aP, .ref aT, .ref aR, .ref r6])
          have hP : (upd (upd (upd (upd H3 aP (.lst (ns.map V.str))) aT (.lst ys)) aR (.lst (rim.map V.str))) r (.tup [.ref aP, .ref aT, .ref aR, .ref r6])) aP = some (.lst (ns.map V.str)) := new_same nr _ _ (new_same nR _ _ (new_same nT _ _ upd_same))
          have hT : (upd (upd (upd (upd H3 aP (.lst (ns.map V.str))) aT (.lst ys)) aR (.lst (rim.map V.str))) r (.tup [.ref aP, .ref aT, .ref aR, .ref r6])) aT = some (.lst ys) := new_same nr _ _ (new_same nR _ _ upd_same)
          have hR : (upd (upd (upd (upd H3 aP (.lst (ns.map V.str))) aT (.lst ys)) aR (.lst (rim.map V.str))) r (.tup [.ref aP, .ref aT, .ref aR, .ref r6])) aR = some (.lst (rim.map V.str)) := new_same nr _ _ upd_same
          have hyy : PrsAt (upd (upd (upd (upd H3 aP (.lst (ns.map V.str))) aT (.lst ys)) aR (.lst (rim.map V.str))) r (.tup [.ref aP, .ref aT, .ref aR, .ref r6])) ys (sortPr ts) := prs_upd (prs_upd (prs_upd hy (fun xs e => by rw [nT] at e; cases e)) (fun xs e => by rw [nR] at e; cases e)) (fun xs e => by rw [nr] at e; cases e)
          refine k r (sortPr ts) fs _ (Gd.F.mono (by omega)) ⟨aP, aT, aR, r6, ys, upd_same, hP, hT, hyy, hR, Gd.v6, Gd.fc.weak (fun c h => h.1) (fun _ h => h), Gc.F.free nr, G.F.free nP, Ga.F.free nT, Gb.F.free nR, n6, fun t ht => G.fr t (pyy.mem_iff.mp ht)⟩ (G.tok.perm (sortPr_perm ts)) fpos (by omega)
end
end E1

set_option Elab.async false
set_option linter.all false
set_option maxRecDepth 100000
set_option maxHeartbeats 8000000
/-! notices.py: the first wrong wish. -/
namespace E1
open PySem PySem.Spec PyProof.Rows L2 G0
theorem un9 {k : Nat} {A : Around} (r : Room k A) : A.units + 9 < cLine := by
  have := hu65 r
  omega
theorem WiAt.put {H : Hp} {d t : Addr} {o : HO} {z : Wi} (h : WiAt H t z) (n : ∀ xs, H d ≠ some (.tup xs)) : WiAt (upd H d o) t z := by
  obtain ⟨u1, u2, a, b, c⟩ := h
  have ne : ∀ {x : Addr} {xs : List V}, H x = some (.tup xs) → x ≠ d := fun {x xs} e q => n xs (by rw [← q]; exact e)
  exact ⟨u1, u2, by rw [upd_ne (ne a)]; exact a, by rw [upd_ne (ne b)]; exact b, by rw [upd_ne (ne c)]; exact c⟩
theorem WKn.same {C : Addr} {H H' : Hp} {v : V} (k : WKn C H v) (S : Same H H') : WKn C H' v := by
  refine ⟨(k.1.same S).1, fun xs e => ?_⟩
  rw [kn_keeps k.1 S] at e
  obtain ⟨l, q⟩ := k.2 xs e
  refine ⟨l, fun x hx => ⟨((q x hx).1.same S).1, fun ys e2 => ?_⟩⟩
  rw [kn_keeps (q x hx).1 S] at e2
  obtain ⟨l2, q2⟩ := (q x hx).2 ys e2
  exact ⟨l2, fun y hy => ((q2 y hy).same S).1⟩
theorem wish_keeps {C : Addr} {H H' : Hp} {v : V} {pl : List Str} {z : Wi} (k : WKn C H v) (S : Same H H') : WishIs H' pl v z ↔ WishIs H pl v z := by
  constructor
  · rintro ⟨p1, p2, e, e1, e2, h⟩
    rw [kn_keeps k.1 S] at e
    obtain ⟨_, q⟩ := k.2 _ e
    rw [kn_keeps (q p1 (by simp)).1 S] at e1
    rw [kn_keeps (q p2 (by simp)).1 S] at e2
    exact ⟨p1, p2, e, e1, e2, h⟩
  · rintro ⟨p1, p2, e, e1, e2, h⟩
    exact ⟨p1, p2, items_same S e, items_same S e1, items_same S e2, h⟩
theorem WishIs.four {H : Hp} {pl : List Str} {v : V} {z : Wi} (h : WishIs H pl v z) : Four H v z := let ⟨p1, p2, e, e1, e2, _⟩ := h
  ⟨p1, p2, e, e1, e2⟩
theorem four_uniq {H : Hp} {v : V} {z z' : Wi} (h : Four H v z) (h' : Four H v z') : z = z' := by
  obtain ⟨p1, p2, e, e1, e2⟩ := h
  obtain ⟨q1, q2, f, f1, f2⟩ := h'
  rw [e] at f
  cases f
  rw [e1] at f1
  rw [e2] at f2
  obtain ⟨⟨a, b⟩, ⟨c, d⟩⟩ := z
  obtain ⟨⟨a', b'⟩, ⟨c', d'⟩⟩ := z'
  cases f1
  cases f2
  rfl
/-- these wishes are told for the first of the things -/
structure WsTo (pl : List Str) (H : Hp) (xs : List V) (zs : List Wi) : Prop where
  nd : zs.Nodup
  len : zs.length ≤ xs.length
  ok : ∀ (j : Nat) (x : V) (z : Wi), xs[j]? = some x → zs[j]? = some z → ∃ z0, WishIs H pl x z0 ∧ tw z0 = z
def WsR (pl : List Str) (H : Hp) (xs : List V) : Option Nat → Prop
  | none => ∃ zs, zs.length = xs.length ∧ WsTo pl H xs zs
  | some i => ∃ zs y, xs[i]? = some y ∧ zs.length = i ∧ WsTo pl H xs zs ∧ ∀ z0, WishIs H pl y z0 → tw z0 ∈ zs
def spFww (C : Addr) : Sp := fun vs H Q _ => ∃ (x : Addr) (v : V) (pl : List Str) (ts : List Pr) (rm : List Str), vs = [.ref x, v] ∧ BoardAt (fun _ => True) C H x pl ts rm ∧ Kn C H v ∧
  ((itemsOf H v = none ∧ ∀ H', Same H H' → Q (.int 0) H') ∨ ∃ xs, itemsOf H v = some xs ∧ xs.length ≤ 900 ∧ (∀ x ∈ xs, WKn C H x) ∧ ∀ r H', WsR pl H xs r → Same H H' → Q (optV r) H')
abbrev N_fww : List Str := ["board", "things", "seen", "index", "thing", "wish"]
theorem sc_fww : FnScope N_fww ["board", "things"] (defScope (topS 28)) := ⟨rfl, rfl, rfl, by decide +kernel, rfl, by decide +kernel, by decide +kernel⟩
section
variable {P : Program} {w : World} {K : PySem.W.Frag} {mg : Str → Option Value} {base : Heap}
theorem bFww (Z : LawD K mg) : Binds K (Z.d 28) ["board", "things"] [] := (Z.F 28 (by decide)).binds fun _ _ _ _ _ _ us hl => match us, hl with | [_, _], _ => rfl
theorem ok_fww (Z : LawD K mg) : FnOk P w K mg base CX0 4 (Z.f 28) (Z.d 28) ["board", "things"] (spFww Z.B.C) := by
  have GL : FnOk P w K mg base CX0 1 Z.n.fL Z.n.dL ["thing"] (spIsList Z.B.C) := ok_is_list Z.n Z.t Z.B.O
  have GW : FnOk P w K mg base CX0 3 (Z.f 26) (Z.d 26) ["board", "thing"] (spIsWish Z.B.C) := ok_wish Z
  have GT : FnOk P w K mg base CX0 2 (Z.f 27) (Z.d 27) ["wish"] spToldW := ok_tw Z
  refine Fun.ok (Z.F 28 (by decide)) sc_fww (fun vs H Q E h => ?_) (fun cdv A outer s H vs Q E hr h => ⟨_, pss_cons (ps_if (pt_not (pt_val (pe_call GL (hr.mono (by decide)) (by rfl) Z.n.gL Z.n.FL.kp (bL Z.n) .nil pass0 (pa_cons (pv 1) pa_nil)))) (pss_one (ps_ret pe_int)) pss_nil)
  (pss_cons (ps_set (i := 2) sc_fww.nd rfl (Or.inl rfl) pe_dnewK)
  (pss_cons (ps_for PassesOwn.never rfl (pi_enumQ (by rfl) Z.t.enumerate (pa_cons (pv 1) pa_nil)) (pg_tup rfl (pgs_cons (pg_name (i := 3) sc_fww.nd rfl (Or.inl rfl)) (pgs_cons (pg_name (i := 4) sc_fww.nd rfl (Or.inl rfl)) pgs_nil)))
    (pss_cons (ps_if (pt_not (pt_val (pe_call GW (hr.mono (by decide)) (by rfl) (Z.g 26 (by decide)) (Z.F 26 (by decide)).kp (bWish Z) .nil pass0 (pa_cons (pv 0) (pa_cons (pv 4) pa_nil))))) (pss_one (ps_ret (pv 3))) pss_nil)
  (pss_cons (ps_set (i := 5) sc_fww.nd rfl (Or.inl rfl) (pe_call GT (hr.mono (by decide)) (by rfl) (Z.g 27 (by decide)) (Z.F 27 (by decide)).kp (bTw Z) .nil pass0 (pa_cons (pv 4) pa_nil)))
  (pss_cons (ps_if (pt_cmpR (op_inN (un9 hr)) (pv 5) (pv 2) (by rfl)) (pss_one (ps_ret (pv 3))) pss_nil)
  (pss_one (ps_asg pe_bl (pg_sub (pv 2) (pv 5) (set_nest (un9 hr)))))))))
  (pss_one (ps_ret pe_non)))), ?_⟩)
  · obtain ⟨x, v, pl, ts, rm, rfl, _⟩ := h
    rfl
  · obtain ⟨x, v, pl, ts, rm, rfl, hB, hk, h⟩ := h
    refine ⟨_, rfl, v, rfl, hk, fun H1 S1 => ⟨_, rfl, ?_⟩⟩
    rcases h with ⟨e, k⟩ | ⟨xs, e, hl, hK, k⟩
    · rw [e]
      exact iteT (k H1 S1)
    rw [e]
    refine iteF ?_
    obtain ⟨a, rfl, _⟩ := items_ref e
    intro d nd
    have S2 := S1.trans (new_same (o := .dK []) nd)
    have nd0 : H d = none := S1.free nd
    refine ⟨_, rfl, a, xs, rfl, for_enQ (items_Q (K := K) (items_same S2 e)) (fun i σ H' => ∃ v3 v4 v5 rs, σ = [some (.ref x), some (.ref a), some (.ref d), v3, v4, v5] ∧ IsN P w H' d rs ∧ rs.length = i ∧ (∀ q ∈ rs, WiAt H' q.2 q.1) ∧ WsTo pl H xs (rs.map Prod.fst) ∧ Same H H' ∧ (∀ b o, b ≠ d → (upd H1 d (.dK [])) b = some o → H' b = some o))
      ⟨none, none, none, [], rfl, .inr ⟨rfl, upd_same⟩, rfl, (fun q hq => by cases hq), ⟨List.nodup_nil, Nat.zero_le _, fun j x p _ h => by simp at h⟩, S2, fun _ _ _ e => e⟩ ?_ ?_ ?_⟩
    · rintro i σ H' hi ⟨v3, v4, v5, rs, _, _, _, _, _, _, B⟩
      exact but_LT B (items_ne (items_same S1 e) nd)
    · rintro i y σ H' T hy ⟨v3, v4, v5, rs, rfl, hn, hlen, hwi, g, S, B⟩ nT
      have ST := new_same (o := .tup [.int (i : Nat), y]) nT
      have ky := hK y (List.mem_of_getElem? hy)
      have il := (List.getElem?_eq_some_iff.mp hy).1
      refine ⟨T, _, rfl, SqT.of upd_same, rfl, _, _, rfl, _, _, rfl, rfl, ?_⟩
      have S3 := S.trans ST
      have bad : ∀ H', Same H H' → (∀ z0, WishIs H pl y z0 → tw z0 ∈ rs.map Prod.fst) → Q (.int (i : Nat)) H' := fun H' S' hbad => k (some i) H' ⟨_, y, hy, by rw [List.length_map]; exact hlen, g, hbad⟩ S'
      by_cases hw : ∃ z, WishIs H pl y z
      · refine ⟨_, rfl, _, rfl, x, y, pl, ts, rm, true, rfl, hB.same S3, ky.same S3, ⟨fun _ => ?_, fun _ => rfl⟩, fun H4 S4 => ⟨_, rfl, iteF ?_⟩⟩
        · obtain ⟨z, hz⟩ := hw
          exact ⟨z, (wish_keeps ky S3).mpr hz⟩
        obtain ⟨z, hz⟩ := hw
        have S5 := S3.trans S4
        have fz : Four (upd H' T (.tup [.int (i : Nat), y])) y z := ((wish_keeps ky S3).mpr hz).four
        obtain ⟨p1, p2, f0, f1, f2⟩ := fz
        refine ⟨_, rfl, y, z, rfl, ⟨p1, p2, items_same S4 f0, items_same S4 f1, items_same S4 f2⟩, fun t H6 wt S6 => ?_⟩
        have S46 := (ST.trans S4).trans S6
        have S7 := S.trans S46
        have hwi6 : ∀ q ∈ rs, WiAt H6 q.2 q.1 := fun q hq => WiAt.same (hwi q hq) S46
        have hn6 : IsN P w H6 d rs := hn.imp (S46 _ _) fun q => ⟨q.1, S46 _ _ q.2⟩
        refine ⟨_, rfl, _, rfl, t, d, tw z, rs, rfl, rfl, wt.at, hn6, hwi6, g.nd, _, rfl, ?_⟩
        by_cases hm : tw z ∈ rs.map Prod.fst
        · rw [decide_eq_true hm]
          exact iteT ⟨_, rfl, bad _ S7 fun z0 h0 => by
            rw [four_uniq h0.four hz.four]
            exact hm⟩
        · rw [decide_eq_false hm]
          refine iteF ?_
          have notup : ∀ ys, H6 d ≠ some (.tup ys) := fun ys q => by
            rcases hn6 with q2 | ⟨_, q2⟩
            · rw [q2] at q
              cases q
            · rw [q2] at q
              cases q
          refine ⟨_, rfl, _, rfl, d, t, tw z, rs, rfl, rfl, rfl, wt.at, hn6, hwi6, g.nd, hm, by omega, ?_⟩
          refine ⟨_, _, _, rs ++ [(tw z, t)], rfl, .inl upd_same, by rw [List.length_append, hlen]; rfl, fun q hq => ?_, ?_, ?_, ?_⟩
          · rcases List.mem_append.mp hq with hq | hq
            · exact WiAt.put (hwi6 q hq) notup
            · rw [List.mem_singleton.mp hq]
              exact WiAt.put wt.at notup
          · rw [List.map_append]
            refine ⟨List.nodup_append.mpr ⟨g.nd, by simp, fun b hb c hc q => hm (by rw [← show c = tw z from List.mem_singleton.mp hc, ← q]; exact hb)⟩, ?_, fun j x1 z1 e1 e2 => ?_⟩
            · rw [List.length_append, List.length_map, hlen]
              show i + 1 ≤ xs.length
              omega
            · rcases Nat.lt_trichotomy j (rs.map Prod.fst).length with h | h | h
              · rw [List.getElem?_append_left h] at e2
                exact g.ok j x1 z1 e1 e2
              · rw [List.getElem?_append_right (by omega), h, Nat.sub_self] at e2
                cases e2
                rw [h, List.length_map, hlen, hy] at e1
                cases e1
                exact ⟨z, hz, rfl⟩
              · rw [List.getElem?_eq_none (by rw [List.length_append]; show _ ≤ j; simp at h ⊢; omega)] at e2
                cases e2
          · exact fun b o q => by
              rw [upd_ne (ne_of_none q nd0)]
              exact S7 _ _ q
          · exact fun b o nb q => by
              rw [upd_ne nb]
              exact S46 _ _ (B b o nb q)
      · exact ⟨_, rfl, _, rfl, x, y, pl, ts, rm, false, rfl, hB.same S3, ky.same S3, ⟨fun q => (by cases q), fun ⟨z, hz⟩ => absurd ⟨z, (wish_keeps ky S3).mp hz⟩ hw⟩, fun H4 S4 => ⟨_, rfl, iteT ⟨_, rfl, bad _ (S3.trans S4) fun z0 h0 => absurd ⟨z0, h0⟩ hw⟩⟩⟩
    · rintro σ H' ⟨v3, v4, v5, rs, rfl, hn, hlen, hwi, g, S, B⟩
      exact k none H' ⟨_, by rw [List.length_map]; exact hlen, g⟩ S
end
end E1

set_option Elab.async false
set_option linter.all false
set_option maxRecDepth 100000
set_option maxHeartbeats 8000000
/-! Raw boards: pieces put into a flat one. -/
namespace E1
open PySem PySem.Spec PyProof.Rows L2 G0
abbrev N_a_put : List Str := ["_law_stream", "_law_flat", "_law_sizes", "_law_places", "_law_ties", "_law_faces", "_law_face", "_law_at", "_law_size", "_law_some", "_law_feet", "_law_place", "_law_lot", "_law_name", "_law_number", "_law_one", "_law_other", "_law_foot"]
theorem sc_a_put : FnScope N_a_put ["_law_stream", "_law_flat", "_law_sizes"] (defScope (topS 36)) := ⟨rfl, rfl, rfl, by decide +kernel, rfl, by decide +kernel, by decide +kernel⟩
theorem prs_but {H H2 : Hp} {p l : Addr} {m : Nat} {tv : List V} {ts : List Pr} (F2 : Fr H p l m H2) (pt : PrsAt H tv ts) (fr : ∀ t, V.ref t ∈ tv → t ≠ p ∧ t ≠ l) : PrsAt H2 tv ts := ⟨pt.1, fun i v q e1 e2 => by
  obtain ⟨t, rfl, ht⟩ := pt.2 i v q e1 e2
  have h := fr t (List.mem_of_getElem? e1)
  exact ⟨t, rfl, F2.but _ _ ht h.1 h.2⟩⟩
def Np (H : Hp) (r3 r4 r6 : Addr) : Addr → Prop := fun c => H c = none ∧ c ≠ r3 ∧ c ≠ r4 ∧ c ≠ r6
/-- what holds while pieces are put in -/
structure PI (N : Addr → Prop) (H : Hp) (p l r3 r4 r6 : Addr) (pl lim : List Str) (m : Nat) (tv : List V) (ts : List Pr) (fs : List V) (H' : Hp) : Prop where
  v3 : H' r3 = some (.lst (pl.map V.str))
  v4 : H' r4 = some (.lst tv)
  pt : PrsAt H' tv ts
  v6 : H' r6 = some (.lst fs)
  fc : FcAt (Np H r3 r4 r6) H' fs (fun z => z ∈ pl)
  tok : TsOk lim ts
  fr : ∀ t, V.ref t ∈ tv → N t ∨ H t = none
  F : Fr H p l m H'
structure PA (N : Addr → Prop) (H : Hp) (p l r3 r4 r6 : Addr) : Prop where
  n3 : H r3 = none
  n4 : H r4 = none
  n6 : H r6 = none
  e34 : r3 ≠ r4
  e36 : r3 ≠ r6
  e46 : r4 ≠ r6
  hN : ∀ c, N c → c ≠ p ∧ c ≠ l
section
variable {N : Addr → Prop} {H H' H2 : Hp} {p l r3 r4 r6 c : Addr} {pl lim : List Str} {m m2 : Nat} {tv : List V} {ts : List Pr} {fs : List V} {o : HO}
theorem PI.ne (G : PI N H p l r3 r4 r6 pl lim m tv ts fs H') (A : PA N H p l r3 r4 r6) : ∀ t, V.ref t ∈ tv → t ≠ p ∧ t ≠ l := fun t ht => by
  rcases G.fr t ht with h | h
  · exact A.hN t h
  · exact G.F.ne h
theorem PI.step (G : PI N H p l r3 r4 r6 pl lim m tv ts fs H') (A : PA N H p l r3 r4 r6) (F2 : Fr H' p l m2 H2) : PI N H p l r3 r4 r6 pl lim m2 tv ts fs H2 :=
  ⟨G.F.keep F2 A.n3 G.v3, G.F.keep F2 A.n4 G.v4, prs_but F2 G.pt (G.ne A), G.F.keep F2 A.n6 G.v6, G.fc.frame fun c o hc e => G.F.keep F2 hc.1 e, G.tok, G.fr, G.F.trans F2⟩
theorem PI.new (G : PI N H p l r3 r4 r6 pl lim m tv ts fs H') (n : H' c = none) : PI N H p l r3 r4 r6 pl lim m tv ts fs (upd H' c o) :=
  ⟨new_same n _ _ G.v3, new_same n _ _ G.v4, prs_upd G.pt (fun xs e => by rw [n] at e; cases e), new_same n _ _ G.v6, G.fc.frame (fun d u _ e => new_same n _ _ e), G.tok, G.fr, G.F.put (G.F.free n)⟩
theorem PI.same (G : PI N H p l r3 r4 r6 pl lim m tv ts fs H') (S : Same H' H2) : PI N H p l r3 r4 r6 pl lim m tv ts fs H2 :=
  ⟨S _ _ G.v3, S _ _ G.v4, G.pt.mono fun t xs e => S _ _ e, S _ _ G.v6, G.fc.frame fun d u _ e => S _ _ e, G.tok, G.fr, G.F.same S⟩
theorem PI.tie {tv2 : List V} {ts2 : List Pr} {lim2 : List Str} (G : PI N H p l r3 r4 r6 pl lim m tv ts fs H') (A : PA N H p l r3 r4 r6) (pt2 : PrsAt H' tv2 ts2) (tok2 : TsOk lim2 ts2) (fr2 : ∀ t, V.ref t ∈ tv2 → N t ∨ H t = none) :
    PI N H p l r3 r4 r6 pl lim2 m tv2 ts2 fs (upd H' r4 (.lst tv2)) :=
  ⟨by rw [upd_ne A.e34]; exact G.v3, upd_same, prs_upd pt2 (fun xs e => by rw [G.v4] at e; cases e), by rw [upd_ne A.e46.symm]; exact G.v6, G.fc.put (fun z => z.2.2.1 rfl), tok2, fr2, G.F.put A.n4⟩
theorem PI.face {fs2 : List V} (G : PI N H p l r3 r4 r6 pl lim m tv ts fs H') (A : PA N H p l r3 r4 r6) (fc2 : FcAt (Np H r3 r4 r6) H' fs2 (fun z => z ∈ pl)) : PI N H p l r3 r4 r6 pl lim m tv ts fs2 (upd H' r6 (.lst fs2)) :=
  ⟨by rw [upd_ne A.e36]; exact G.v3, by rw [upd_ne A.e46]; exact G.v4, prs_upd G.pt (fun xs e => by rw [G.v6] at e; cases e), upd_same, fc2.put (fun z => z.2.2.2 rfl), G.tok, G.fr, G.F.put A.n6⟩
theorem PI.place {pl2 : List Str} (G : PI N H p l r3 r4 r6 pl lim m tv ts fs H') (A : PA N H p l r3 r4 r6) (sub : ∀ z ∈ pl, z ∈ pl2) : PI N H p l r3 r4 r6 pl2 lim m tv ts fs (upd H' r3 (.lst (pl2.map V.str))) :=
  ⟨upd_same, by rw [upd_ne A.e34.symm]; exact G.v4, prs_upd G.pt (fun xs e => by rw [G.v3] at e; cases e), by rw [upd_ne A.e36.symm]; exact G.v6, (G.fc.put (fun z => z.2.1 rfl)).weak (fun _ h => h) sub, G.tok, G.fr, G.F.put A.n3⟩
theorem PI.mono (G : PI N H p l r3 r4 r6 pl lim m tv ts fs H') (h : m ≤ m2) : PI N H p l r3 r4 r6 pl lim m2 tv ts fs H' := ⟨G.v3, G.v4, G.pt, G.v6, G.fc, G.tok, G.fr, G.F.mono h⟩
theorem PI.limTo {lim2 : List Str} (G : PI N H p l r3 r4 r6 pl lim m tv ts fs H') (h : TsOk lim2 ts) : PI N H p l r3 r4 r6 pl lim2 m tv ts fs H' := ⟨G.v3, G.v4, G.pt, G.v6, G.fc, h, G.fr, G.F⟩
end
def spPut : Sp := fun vs H Q _ => ∃ (p l q z : Addr) (n : Nat) (N : Addr → Prop) (ns : List Str) (ts : List Pr) (rm : List Str) (fs : List V) (ks : List Nat), vs = [.ref p, .ref q, .ref z] ∧ Stm H p l n ∧ n < 500000 ∧ FlatAt N H q ns ts rm fs ∧ (∀ c, N c → c ≠ p ∧ c ≠ l) ∧ TsOk ns ts ∧ 0 < fs.length ∧ fs.length ≤ 3000 ∧
  ns.Nodup ∧ (∀ z ∈ ns, z ∈ baseN) ∧ ns.length ≤ 35 ∧ (∀ z ∈ rm, z ∈ ns) ∧ rm.Nodup ∧ H z = some (.lst (ks.map fun (k : Nat) => V.int (k : Int))) ∧ z ≠ p ∧ z ≠ l ∧ ks.length ≤ 3 ∧ (∀ k ∈ ks, k ≤ 3) ∧
  ∀ r pl2 ts2 H', Fr H p l (n + 1000) H' → RawAt (fun c => N c ∨ H c = none) H' r pl2 ts2 rm → RawOk pl2 ts2 rm → (∀ y ∈ pl2, y ∈ baseN ∨ y ∈ gN) → pl2.length ≤ ns.length + 3 * ks.length → Q (.ref r) H'
abbrev rLo (K : PySem.W.Frag) : List V → Hp → VK → Prop := fun xs H Q => ∃ p ys, xs = [.ref p] ∧ (SqL K H p ys ∨ SqT K H p ys) ∧ ∀ l, H l = none → Q (.ref l) (upd H l (.lst ys))
abbrev rAS : R2 := fun x y H Q => ∃ i j, x = .str i ∧ y = .str j ∧ i.length + j.length ≤ sizeLine ∧ Q (.str (i ++ j)) H
abbrev rSI : List V → Hp → VK → Prop := fun xs H Q => ∃ i, xs = [.int i] ∧ i.natAbs.log2 < 1920 ∧ Q (.str (toString i)) H
theorem ite_share {b : Bool} {t1 t2 : TE} {σ : L2.St} {H : Hp} {Q : VK} (mid : V → Hp → Prop) (h1 : b = true → ∀ Q' : VK, (∀ y H', mid y H' → Q' y H') → t1 σ H Q') (h2 : b = false → ∀ Q' : VK, (∀ y H', mid y H' → Q' y H') → t2 σ H Q') (k : ∀ y H', mid y H' → Q y H') : if b = true then t1 σ H Q else t2 σ H Q := by
  cases b with
  | true => exact h1 rfl Q k
  | false => exact h2 rfl Q k
theorem gN_nd : gN.Nodup := by decide +kernel
theorem gK_in {a b : Nat} (ha : a < 4) (hb : b < 4) : gK a b ∈ gN := List.mem_flatMap.mpr ⟨a, List.mem_range.mpr ha, List.mem_map.mpr ⟨b, List.mem_range.mpr hb, rfl⟩⟩
theorem gK_nd : (List.range 4).all (fun a => decide (((List.range 3).map (gK a)).Nodup)) = true := by decide +kernel
theorem gK_l1 : (List.range 4).all (fun a => decide (((a : Int).natAbs.log2 < 1920) ∧ ("g" : Str).length + (sK a).length ≤ sizeLine ∧ (("g" : Str) ++ sK a).length + ("k" : Str).length ≤ sizeLine)) = true := by decide +kernel
theorem gK_l2 : (List.range 4).all (fun a => (List.range 4).all (fun b => decide (((("g" : Str) ++ sK a) ++ "k").length + (sK b).length ≤ sizeLine))) = true := by decide +kernel
theorem range_nd {a k : Nat} (ha : a < 4) (hk : k ≤ 3) : ((List.range k).map (gK a)).Nodup := by
  have h := of_decide_eq_true (List.all_eq_true.mp gK_nd a (List.mem_range.mpr ha))
  have e : (List.range k).map (gK a) = ((List.range 3).map (gK a)).take k := by
    rw [← List.map_take, List.take_range, Nat.min_eq_left hk]
  rw [e]
  exact h.sublist (List.take_sublist _ _)
section
variable {P : Program} {w : World} {K : PySem.W.Frag} {mg : Str → Option Value} {base : Heap}
theorem bPut (Z : LawD K mg) : Binds K (Z.d 36) ["_law_stream", "_law_flat", "_law_sizes"] [] := (Z.F 36 (by decide)).binds fun _ _ _ _ _ _ us hl => match us, hl with | [_, _, _], _ => rfl
theorem ok_a_put (Z : LawD K mg) : FnOk P w K mg base CX0 3 (Z.f 36) (Z.d 36) ["_law_stream", "_law_flat", "_law_sizes"] spPut := by
  have GM : FnOk P w K mg base CX0 2 Z.s.fM Z.s.dM ["_law_stream", "_law_some"] (spMx K) := ok_mx Z.s
  have GD : FnOk P w K mg base CX0 1 Z.s.fD Z.s.dD ["_law_stream", "_law_many"] spDr := ok_dr Z.s
  have GP : FnOk P w K mg base CX0 2 (Z.f 47) (Z.d 47) ["_law_stream", "_law_some"] (spPick K) := ok_pick Z
  have GT : FnOk P w K mg base CX0 1 (Z.f 32) (Z.d 32) N_a_tie spTie := ok_a_tie Z
  have GS : FnOk P w K mg base CX0 1 (Z.f 34) (Z.d 34) ["_law_face", "_law_ends"] spSplit := ok_a_split Z
  refine Fun.ok (Z.F 36 (by decide)) sc_a_put (fun vs H Q E h => ?_) (fun cdv A outer s H vs Q E hr h => ⟨_, pss_cons (ps_asg (pe_tup (pa_cons (pe_callTy call_list_of (by rfl) Z.t.list PyProof.Rows.boot_list (pa_cons (pe_ix ix_tup (pv 1) pe_int (fun _ _ => rfl)) pa_nil)) (pa_cons (pe_callTy call_list_of (by rfl) Z.t.list PyProof.Rows.boot_list (pa_cons (pe_ix ix_tup (pv 1) pe_int (fun _ _ => rfl)) pa_nil)) (pa_cons (pe_lc (own := [("_law_face", 6)]) (tt := tYes) (te := tCB (rLo K) (tCons (tVar 6) tNil)) rfl sc_a_put.nd (pi_list (pe_ix ix_tup (pv 1) pe_int (fun _ _ => rfl))) (blkOk_by (own := [("_law_face", 6)]) (N := N_a_put) (sc := defScope (topS 36)) (by decide +kernel)) (fun _ _ _ _ _ => (pg_name (i := 6) sc_a_put.nd rfl (Or.inl rfl))) (fun _ _ _ _ _ => pts_nil) (fun _ _ _ _ _ => (pe_callTy call_list_of (by rfl) Z.t.list PyProof.Rows.boot_list (pa_cons (pv 6) pa_nil)))) pa_nil)))) (by exact (pg_tup rfl (pgs_cons (pg_name (i := 3) sc_a_put.nd rfl (Or.inr rfl)) (pgs_cons (pg_name (i := 4) sc_a_put.nd rfl (Or.inl rfl)) (pgs_cons (pg_name (i := 5) sc_a_put.nd rfl (Or.inl rfl)) pgs_nil))))))
  (pss_cons (ps_for PassesOwn.never rfl (pi_enumQ (by rfl) Z.t.enumerate (pa_cons (pv 2) pa_nil)) (by exact (pg_tup rfl (pgs_cons (pg_name (i := 7) sc_a_put.nd rfl (Or.inr rfl)) (pgs_cons (pg_name (i := 8) sc_a_put.nd rfl (Or.inl rfl)) pgs_nil))))
    (pss_cons (ps_set (i := 6) sc_a_put.nd rfl (Or.inl rfl) (pe_bm PySem.F.plainAttrs_list PySem.F.slot_list_pop PySem.F.type_list_pop mt_popAt (pv 5) (pa_cons (pe_call GD (hr.mono (by decide)) (by rfl) Z.s.gD Z.s.FD.kp (bDr Z.s) .nil pass0 (pa_cons (pv 0) (pa_cons (pe_callB call_len_seq (by rfl) Z.t.len PySem.boot_len (pa_cons (pv 5) pa_nil)) pa_nil))) pa_nil)))
  (pss_cons (ps_set (i := 9) sc_a_put.nd rfl (Or.inr rfl) (pe_slice sl_list (pe_call GM (hr.mono (by decide)) (by rfl) Z.s.gM Z.s.FM.kp (bMx Z.s) .nil pass0 (pa_cons (pv 0) (pa_cons (pv 6) pa_nil))) po_none (po_some (pe_call GP (hr.mono (by decide)) (by rfl) (Z.g 47 (by decide)) (Z.F 47 (by decide)).kp (bPick Z) .nil pass0 (pa_cons (pv 0) (pa_cons (pe_lst (pa_cons pe_int (pa_cons pe_int (pa_cons pe_int (pa_cons pe_int (pa_cons pe_int (pa_cons pe_int pa_nil))))))) pa_nil))))))
  (pss_cons (ps_setLc (i := 10) (own := [("_law_place", 11)]) (tt := tTest (tOp (rIn K false) (tVar 11) (tVar 9))) rfl sc_a_put.nd rfl rfl (by rfl) (pi_list (pv 6)) (blkOk_by (own := [("_law_place", 11)]) (N := N_a_put) (sc := defScope (topS 36)) (by decide +kernel)) (fun _ _ _ _ _ => (pg_name (i := 11) sc_a_put.nd rfl (Or.inl rfl))) (fun _ _ _ _ _ => (pts_one (pt_cmpR op_in_seq (pv 11) (pv 9) (by rfl)))) (fun _ _ _ _ _ => (pv 11)))
  (pss_cons (ps_expr (pe_bm PySem.F.plainAttrs_list PySem.F.slot_list_extend PySem.F.type_list_extend mt_extend (pv 5) (pa_cons (pe_ifExp (pt_cmpR op_gt (pe_callB call_len_seq (by rfl) Z.t.len PySem.boot_len (pa_cons (pv 10) pa_nil)) pe_int (nomark _)) (pe_op op_cat (pe_call GS (hr.mono (by decide)) (by rfl) (Z.g 34 (by decide)) (Z.F 34 (by decide)).kp (bSplit Z) .nil pass0 (pa_cons (pv 6) (pa_cons (pv 10) pa_nil))) (pe_lst (pa_cons (pv 10) pa_nil))) (pe_lst (pa_cons (pv 6) pa_nil))) pa_nil)))
  (pss_cons (ps_setLc (i := 12) (own := [("_law_name", 13)]) (tt := tTest (tOp (rIn K true) (tVar 13) (tVar 3))) rfl sc_a_put.nd rfl rfl (by rfl) (pi_list (pe_lc (own := [("_law_number", 14)]) (tt := tYes) (te := tOp rAS (tOp rAS (tOp rAS (tC (.str "g")) (tCB rSI (tCons (tVar 7) tNil))) (tC (.str "k"))) (tCB rSI (tCons (tVar 14) tNil))) rfl sc_a_put.nd (pi_range1 (by rfl) (Z.free "range" (by decide)) (pa_cons (pv 8) pa_nil)) (blkOk_by (own := [("_law_number", 14)]) (N := N_a_put) (sc := defScope (topS 36)) (by decide +kernel)) (fun _ _ _ _ _ => (pg_name (i := 14) sc_a_put.nd rfl (Or.inl rfl))) (fun _ _ _ _ _ => pts_nil) (fun _ _ _ _ _ => (pe_op op_add_str (pe_op op_add_str (pe_op op_add_str pe_str (pe_callTy call_str_int (by rfl) Z.t.str boot_str (pa_cons (pv 7) pa_nil))) pe_str) (pe_callTy call_str_int (by rfl) Z.t.str boot_str (pa_cons (pv 14) pa_nil)))))) (blkOk_by (own := [("_law_name", 13)]) (N := N_a_put) (sc := defScope (topS 36)) (by decide +kernel)) (fun _ _ _ _ _ => (pg_name (i := 13) sc_a_put.nd rfl (Or.inl rfl))) (fun _ _ _ _ _ => (pts_one (pt_cmpR op_notIn_seq (pv 13) (pv 3) (by rfl)))) (fun _ _ _ _ _ => (pv 13)))
  (pss_cons (ps_for PassesOwn.never rfl (pi_enumQ (by rfl) Z.t.enumerate (pa_cons (pv 12) pa_nil)) (by exact (pg_tup rfl (pgs_cons (pg_name (i := 14) sc_a_put.nd rfl (Or.inr rfl)) (pgs_cons (pg_name (i := 15) sc_a_put.nd rfl (Or.inr rfl)) pgs_nil))))
    (pss_cons (ps_expr (pe_bm PySem.F.plainAttrs_list PySem.F.slot_list_extend PySem.F.type_list_extend mt_extend (pv 4) (pa_cons (pe_lc (own := [("_law_other", 16)]) (tt := tYes) rfl sc_a_put.nd (pi_list (pe_slice sl_list (pv 12) (po_some (pe_op op_add (pv 14) pe_int)) po_none)) (blkOk_by (own := [("_law_other", 16)]) (N := N_a_put) (sc := defScope (topS 36)) (by decide +kernel)) (fun _ _ _ _ _ => (pg_name (i := 16) sc_a_put.nd rfl (Or.inl rfl))) (fun _ _ _ _ _ => pts_nil) (fun _ _ _ _ _ => (pe_call GT (hr.mono (by decide)) (by rfl) (Z.g 32 (by decide)) (Z.F 32 (by decide)).kp (bTie Z) .nil pass0 (pa_cons (pv 15) (pa_cons (pv 16) pa_nil))))) pa_nil)))
  (pss_one (ps_expr (pe_bm PySem.F.plainAttrs_list PySem.F.slot_list_extend PySem.F.type_list_extend mt_extend (pv 4) (pa_cons (pe_lc (own := [("_law_foot", 17)]) (tt := _) rfl sc_a_put.nd (pi_list (pv 10)) (blkOk_by (own := [("_law_foot", 17)]) (N := N_a_put) (sc := defScope (topS 36)) (by decide +kernel)) (fun _ _ _ _ _ => (pg_name (i := 17) sc_a_put.nd rfl (Or.inl rfl))) (fun _ _ _ _ _ => (pts_one (PW.pt (pw_or (pt_cmpR op_eq (pv 14) pe_int (nomark _)) (pw_or1 (pt_cmpR op_eq (pe_call GD (hr.mono (by decide)) (by rfl) Z.s.gD Z.s.FD.kp (bDr Z.s) .nil pass0 (pa_cons (pv 0) (pa_cons pe_int pa_nil))) pe_int (nomark _))))))) (fun _ _ _ _ _ => (pe_call GT (hr.mono (by decide)) (by rfl) (Z.g 32 (by decide)) (Z.F 32 (by decide)).kp (bTie Z) .nil pass0 (pa_cons (pv 15) (pa_cons (pv 17) pa_nil))))) pa_nil))))))
  (pss_one (ps_expr (pe_bm PySem.F.plainAttrs_list PySem.F.slot_list_extend PySem.F.type_list_extend mt_extend (pv 3) (pa_cons (pv 12) pa_nil)))))))))))
  (pss_one (ps_ret (pe_tup (pa_cons (pv 3) (pa_cons (pe_callB cr_sortP (by rfl) Z.t.sorted boot_sorted (pa_cons (pv 4) pa_nil)) (pa_cons (pe_callTy call_list_of (by rfl) Z.t.list PyProof.Rows.boot_list (pa_cons (pe_ix ix_tup (pv 1) pe_int (fun _ _ => rfl)) pa_nil)) pa_nil))))))), ?_⟩)
  · obtain ⟨p, l, q, z, n, N, ns, ts, rm, fs, ks, rfl, _⟩ := h
    rfl
  · obtain ⟨p, l, q, z, n, N, ns, ts, rm, fs, ks, rfl, S, hn, hFl, hN, tok, fpos, flen, ndn, nmn, ln, rin, rnd, hz, zp, zl, lk, kk, k⟩ := h
    obtain ⟨aP, aT, aR, aF, tv, g1, g2, g3, g4, g5, g6, g7, nq, nP, nT, nR, nF, nt⟩ := hFl
    refine ⟨_, rfl, q, _, 0, _, rfl, rfl, SqT.of g1, rfl, aP, _, rfl, .inl (SqL.of g2), fun r3 n3 => ?_⟩
    have S1 := new_same (o := .lst (ns.map V.str)) n3
    refine ⟨_, rfl, q, _, 1, _, rfl, rfl, SqT.of (S1 _ _ g1), rfl, aT, _, rfl, .inl (SqL.of (S1 _ _ g3)), fun r4 n4' => ?_⟩
    have S2 := S1.trans (new_same (o := .lst tv) n4')
    have n4 := S1.free n4'
    refine ⟨_, rfl, q, _, 3, _, rfl, rfl, SqT.of (S2 _ _ g1), rfl, aF, rfl, ⟨_, SqL.of (S2 _ _ g6)⟩, fun r6 n6' => ?_⟩
    have n6 := S2.free n6'
    have e34 : r3 ≠ r4 := ne_of_none upd_same n4'
    have e36 : r3 ≠ r6 := ne_of_none (new_same (o := .lst tv) n4' _ _ upd_same) n6'
    have e46 : r4 ≠ r6 := ne_of_none upd_same n6'
    have A0 : PA N H p l r3 r4 r6 := ⟨n3, n4, n6, e34, e36, e46, hN⟩
    refine lc_list (xs := fs) (fun i H' => ∃ acc, H' r6 = some (.lst acc) ∧ acc.length = i ∧ FcAt (Np H r3 r4 r6) H' acc (fun z => z ∈ ns) ∧ Same (upd (upd H r3 (.lst (ns.map V.str))) r4 (.lst tv)) H') ⟨[], upd_same, rfl, .nil, new_same n6'⟩ (fun i H' _ ⟨_, _, _, _, S'⟩ => SqL.of (S' _ _ (S2 _ _ g6))) ?_ ?_
    · rintro i x H' hx ⟨acc, hacc, lac, fc, S'⟩
      obtain ⟨a, f, rfl, ha, ndf, fin, na⟩ := g7 x (List.mem_of_getElem? hx)
      have il := (List.getElem?_eq_some_iff.mp hx).1
      refine ⟨rfl, yes_of ⟨_, rfl, a, _, rfl, .inl (SqL.of (S' _ _ (S2 _ _ ha))), fun u nu => ⟨acc, new_same nu _ _ hacc, ?_, acc ++ [.ref u], upd_same, ?_, ?_, ?_⟩⟩⟩
      · have h3 : 5000 < sizeLine := by decide
        omega
      · rw [List.length_append, lac]; rfl
      · have nuH : H u = none := S2.free (S'.free nu)
        have u3 : u ≠ r3 := (ne_of_none (S' _ _ (new_same n4' _ _ upd_same)) nu).symm
        have u4 : u ≠ r4 := (ne_of_none (S' _ _ upd_same) nu).symm
        have u6 : u ≠ r6 := (ne_of_none hacc nu).symm
        exact FcAt.put ((fc.frame fun c o _ e => new_same nu _ _ e).app (FcAt.one (f := f) upd_same ndf fin ⟨nuH, u3, u4, u6⟩)) (fun z => z.2.2.2 rfl)
      · exact fun b o e => by
          rw [upd_ne (ne_of_none e n6')]
          exact new_same nu _ _ (S' _ _ e)
    rintro H1 ⟨fs1, h6, lf1, fc1, S1'⟩
    have S3 := S2.trans S1'
    refine ⟨by show 3 ≤ sizeLine; decide, fun T nT => ⟨T, _, rfl, SqT.of upd_same, rfl, _, _, rfl, _, _, rfl, _, _, rfl, rfl, ?_⟩⟩
    have G0 : PI N H p l r3 r4 r6 ns ns (n + 200 * 0) tv ts fs1 H1 := ⟨S1' _ _ (new_same n4' _ _ upd_same), S1' _ _ upd_same, g4.mono fun t xs e => S3 _ _ e, h6, fc1, tok, fun t ht => .inl (nt t ht), (S.fr.same S3).mono (by omega)⟩
    have G1 := G0.new nT (o := .tup [.ref r3, .ref r4, .ref r6])
    refine ⟨_, rfl, z, _, rfl, for_enQ (.inl (SqL.of (G1.F.but _ _ hz zp zl))) (fun i σ H' => ∃ v6 v7 v8 v9 v10 v12 v14 v15 pl tv ts fs, σ = [some (.ref p), some (.ref q), some (.ref z), some (.ref r3), some (.ref r4), some (.ref r6), v6, v7, v8, v9, v10, none, v12, none, v14, v15, none, none] ∧
      PI N H p l r3 r4 r6 pl pl (n + 200 * i) tv ts fs H' ∧ 0 < fs.length ∧ fs.length ≤ 3000 + 50 * i ∧ pl.Nodup ∧ (∀ y ∈ pl, y ∈ ns ∨ y ∈ gN) ∧ (∀ y ∈ ns, y ∈ pl) ∧ pl.length ≤ ns.length + 3 * i) ⟨none, none, none, none, none, none, none, none, ns, tv, ts, fs1, rfl, G1, by omega, by omega, ndn, fun y h => .inl h, fun y h => h, by omega⟩ ?_ ?_ ?_⟩
    · rintro i σ H' hi ⟨v6, v7, v8, v9, v10, v12, v14, v15, pl, tv, ts, fs, rfl, G, _⟩
      exact lt_at (G1.F.but _ _ hz zp zl) (G.F.but _ _ hz zp zl)
    · rintro i x σ H' T hx ⟨v6, v7, v8, v9, v10, v12, v14, v15, pl, tv, ts, fs, rfl, G, fpos, flen, ndp, pin, sub, lpl⟩ nT
      rw [List.getElem?_map] at hx
      cases ek : ks[i]? with
      | none => rw [ek] at hx; cases hx
      | some kz =>
        rw [ek] at hx
        cases hx
        have il : i < ks.length := (List.getElem?_eq_some_iff.mp ek).1
        have kz3 : kz ≤ 3 := kk kz (List.mem_of_getElem? ek)
        have Gt := G.new nT (o := .tup [.int (i : Nat), .int (kz : Int)])
        refine ⟨T, _, rfl, SqT.of upd_same, rfl, _, _, rfl, _, _, rfl, rfl, ?_⟩
        -- a face is taken
        refine ⟨_, rfl, .inl ⟨rfl, _, SqL.of Gt.v6⟩, _, rfl, _, rfl, r6, fs, rfl, .inl (SqL.of Gt.v6), p, l, _, fs.length, rfl, Gt.F.st, by omega, fpos, by omega, fun kk H3 hk F3 => ?_⟩
        have Ga := Gt.step A0 F3
        have ev : fs[kk]? = some fs[kk] := List.getElem?_eq_getElem hk
        obtain ⟨a, f, eva, ha, ndf, fin, na⟩ := Ga.fc _ (List.mem_of_getElem? ev)
        rw [eva] at ev
        refine ⟨r6, fs, (kk : Nat), kk, .ref a, rfl, rfl, Ga.v6, by omega, by omega, seqNat (by omega) (by omega), ev, ?_⟩
        have Gb := Ga.face A0 (fs2 := fs.eraseIdx kk) (Ga.fc.sub fun v hv => List.mem_of_mem_eraseIdx hv)
        have lfe : (fs.eraseIdx kk).length = fs.length - 1 := List.length_eraseIdx_of_lt hk
        have ha4 : (upd H3 r6 (.lst (fs.eraseIdx kk))) a = some (.lst (f.map V.str)) := by rw [upd_ne na.2.2.2]; exact ha
        have lf : f.length ≤ 44 := by
          have := ndf.length_le_of_subset (l₂ := pl) fin
          omega
        -- some of it
        refine ⟨_, rfl, _, rfl, p, l, a, _, f.map V.str, rfl, Gb.F.st, by omega, SqL.of ha4, by rw [List.length_map]; omega, fun s9 ys H5 hperm F5 ns9 hs9 => ?_⟩
        obtain ⟨gs, rfl, gperm⟩ := strs_perm hperm
        have Gc := Gb.step A0 F5
        have ha5 := Gb.F.keep F5 na.1 ha4
        have ns9H := Gb.F.free ns9
        refine ⟨_, rfl, by show 6 ≤ sizeLine; decide, fun b nb => ?_⟩
        have Gd := Gc.new nb (o := .lst [.int 3, .int 3, .int 3, .int 2, .int 1, .int 0])
        have nbH := Gc.F.free nb
        refine ⟨p, l, b, _, _, rfl, Gd.F.st, by rw [List.length_map]; omega, upd_same, (Gc.F.ne nbH).1, (Gc.F.ne nbH).2, by decide, by decide, fun j y H6 hy F6 => ?_⟩
        obtain ⟨d, rfl, hd⟩ : ∃ d : Nat, y = .int (d : Int) ∧ d ≤ 3 := by
          have hm := List.mem_of_getElem? hy
          simp only [List.mem_cons, List.not_mem_nil, or_false] at hm
          rcases hm with rfl | rfl | rfl | rfl | rfl | rfl
          · exact ⟨3, rfl, by decide⟩
          · exact ⟨3, rfl, by decide⟩
          · exact ⟨3, rfl, by decide⟩
          · exact ⟨2, rfl, by decide⟩
          · exact ⟨1, rfl, by decide⟩
          · exact ⟨0, rfl, by decide⟩
        have Ge := Gd.step A0 F6
        have ha6 := Gd.F.keep F6 na.1 (new_same nb _ _ ha5)
        have hs96 := Gd.F.keep F6 ns9H (new_same nb _ _ hs9)
        refine ⟨(d : Int), rfl, s9, _, rfl, SqL.of hs96, fun s10 ns10 => ?_⟩
        rw [cut_to, ← List.map_take] at *
        generalize hgt : gs.take d = g2 at *
        have Gf := Ge.new ns10 (o := .lst (g2.map V.str))
        have ha7 := new_same ns10 (o := .lst (g2.map V.str)) _ _ ha6
        -- the feet
        refine ⟨_, rfl, a, rfl, ⟨_, SqL.of ha7⟩, fun D hD => ?_⟩
        have nDH := Gf.F.free hD
        refine lc_list (xs := f.map V.str) (fun i H' => ∃ es : List Str, H' D = some (.lst (es.map V.str)) ∧ es.Sublist (f.take i) ∧ Same (upd H6 s10 (.lst (g2.map V.str))) H') ⟨[], upd_same, List.nil_sublist _, new_same hD⟩ (fun i H' _ ⟨_, _, _, S'⟩ => SqL.of (S' _ _ ha7)) ?_ ?_
        · rintro i x H' hx ⟨es, he, sub, S'⟩
          rw [List.getElem?_map] at hx
          cases ey : f[i]? with
          | none => rw [ey] at hx; cases hx
          | some y =>
            rw [ey] at hx
            cases hx
            refine ⟨rfl, _, rfl, _, rfl, s10, _, rfl, .inl (SqL.of (S' _ _ upd_same)), rfl, flat_strs _, _, rfl, ?_⟩
            refine ite2 (fun _ => ⟨_, rfl, es.map V.str, he, ?_, es ++ [y], ?_, ?_, ?_⟩) (fun _ => ⟨es, he, ?_, S'⟩)
            · rw [List.length_map]
              have := sub.length_le
              rw [List.length_take] at this
              exact small1000 (by omega)
            · rw [upd_same, List.map_append]
              rfl
            · rw [take_snoc ey]
              exact sub.append (List.Sublist.refl _)
            · exact fun b o e => by
                rw [upd_ne (ne_of_none e hD)]
                exact S' _ _ e
            · rw [take_snoc ey]
              exact sub.trans (List.sublist_append_left _ _)
        rintro H7 ⟨es, he, esub, S7⟩
        rw [List.length_map, List.take_length] at esub
        have Gg := Gf.same S7
        have ha8 := S7 _ _ ha7
        have nde : es.Nodup := ndf.sublist esub
        have ein : ∀ e ∈ es, e ∈ pl := fun e h => fin e (esub.subset h)
        have le : es.length ≤ 44 := Nat.le_trans esub.length_le lf
        have D3 : D ≠ r3 := (ne_of_none Gf.v3 hD).symm
        have D4 : D ≠ r4 := (ne_of_none Gf.v4 hD).symm
        have D6 : D ≠ r6 := (ne_of_none Gf.v6 hD).symm
        -- what comes of the face
        refine ⟨_, rfl, .inl ⟨rfl, _, SqL.of Gg.v6⟩, _, rfl, D, _, rfl, .inl (SqL.of he), _, _, rfl, rfl, _, rfl, ?_⟩
        refine ite_share (fun y H' => ∃ (q2 : Addr) (acc2 : List V), y = .ref q2 ∧ H' q2 = some (.lst acc2) ∧ Same H7 H' ∧ 0 < acc2.length ∧ acc2.length ≤ 45 ∧ FcAt (Np H r3 r4 r6) H' acc2 (fun y => y ∈ pl)) (fun c Q' kQ => ?_) (fun c Q' kQ => ?_) ?_
        · have l2 : 2 ≤ es.length := by
            have := of_decide_eq_true c
            rw [List.length_map] at this
            omega
          refine ⟨_, rfl, _, rfl, a, D, f, es, rfl, ha8, he, ndf, nde, l2, by omega, (fun y hy => esub.subset hy), fun qq rows H10 nqq hqq lrows fcr S10 => ⟨_, rfl, by show 1 ≤ sizeLine; decide, fun u nu => ⟨qq, u, rows, _, rfl, rfl, new_same nu _ _ hqq, upd_same, ?_, fun v nv => ?_⟩⟩⟩
          · have h3 : 5000 < sizeLine := by decide
            show rows.length + 1 ≤ sizeLine
            omega
          · have Gi := Gg.same S10
            have SS := S10.trans ((new_same (o := .lst [V.ref D]) nu).trans (new_same (o := .lst (rows ++ [V.ref D])) nv))
            have nD : Np H r3 r4 r6 D := ⟨nDH, D3, D4, D6⟩
            refine kQ _ _ ⟨v, rows ++ [.ref D], rfl, upd_same, SS, by rw [List.length_append]; show 0 < rows.length + 1; omega, by rw [List.length_append]; show rows.length + 1 ≤ 45; omega, ?_⟩
            refine FcAt.app ?_ (FcAt.one (SS _ _ he) nde ein nD)
            intro w hw
            obtain ⟨b', g, e, hb, ndg, gin, nb'⟩ := fcr w hw
            have b3 : b' ≠ r3 := (ne_of_none Gg.v3 nb'.1).symm
            have b4 : b' ≠ r4 := (ne_of_none Gg.v4 nb'.1).symm
            have b6 : b' ≠ r6 := (ne_of_none Gg.v6 nb'.1).symm
            exact ⟨b', g, e, new_same nv _ _ (new_same nu _ _ hb), ndg, fun y hy => fin _ (gin y hy), Gg.F.free nb'.1, b3, b4, b6⟩
        · refine ⟨_, rfl, by show 1 ≤ sizeLine; decide, fun u nu => kQ _ _ ⟨u, [.ref a], rfl, upd_same, new_same nu, Nat.one_pos, (by show 1 ≤ 45; decide), FcAt.one (new_same nu _ _ ha8) ndf fin na⟩⟩
        rintro y H10 ⟨q2, acc2, rfl, hq2, S10, la1, la2, fc2⟩
        have Gh := Gg.same S10
        refine ⟨r6, q2, _, acc2, rfl, rfl, Gh.v6, hq2, ?_, ?_⟩
        · have h3 : 5000 < sizeLine := by decide
          omega
        have Gi := Gh.face A0 (fs2 := fs.eraseIdx kk ++ acc2) (Gh.fc.app fc2)
        have he10 : (upd H10 r6 (.lst (fs.eraseIdx kk ++ acc2))) D = some (.lst (es.map V.str)) := by rw [upd_ne D6]; exact S10 _ _ he
        have lfs : 0 < (fs.eraseIdx kk ++ acc2).length ∧ (fs.eraseIdx kk ++ acc2).length ≤ 3000 + 50 * (i + 1) := by
          rw [List.length_append]
          omega
        generalize hfs2 : fs.eraseIdx kk ++ acc2 = fs2 at *
        generalize hH11 : upd H10 r6 (.lst fs2) = H11 at *
        -- names of a lot
        have i4 : i < 4 := by omega
        obtain ⟨q1, q2', q3⟩ := of_decide_eq_true (List.all_eq_true.mp gK_l1 i (List.mem_range.mpr i4))
        refine ⟨_, rfl, (kz : Int), rfl, by omega, by omega, fun E2 nE2 => ?_⟩
        rw [Int.toNat_natCast]
        refine lc_range (n := kz) (fun j H' => H' E2 = some (.lst (((List.range j).map (gK i)).map V.str)) ∧ Same H11 H') ⟨upd_same, new_same nE2⟩ ?_ ?_
        · rintro j H' hj ⟨hD', S'⟩
          have j4 : j < 4 := by omega
          obtain ⟨p1, _, _⟩ := of_decide_eq_true (List.all_eq_true.mp gK_l1 j (List.mem_range.mpr j4))
          have p2 := of_decide_eq_true (List.all_eq_true.mp (List.all_eq_true.mp gK_l2 i (List.mem_range.mpr i4)) j (List.mem_range.mpr j4))
          have ei : (0 : Int) + (j : Int) = (j : Int) := Int.zero_add _
          rw [ei]
          refine ⟨rfl, yes_of ⟨_, rfl, (i : Int), rfl, q1, _, _, rfl, rfl, q2', _, _, rfl, rfl, q3, _, rfl, (j : Int), rfl, p1, _, _, rfl, rfl, p2, _, hD', ?_, ?_, ?_⟩⟩
          · rw [List.length_map, List.length_map, List.length_range]
            exact small1000 (by omega)
          · rw [upd_same, List.range_succ, List.map_append, List.map_append]
            rfl
          · exact fun b o e => by
              rw [upd_ne (ne_of_none e nE2)]
              exact S' _ _ e
        rintro H12 ⟨hE2, S12⟩
        have Gj := Gi.same S12
        have he12 := S12 _ _ he10
        have lotnd := range_nd i4 kz3
        generalize hrow : (List.range kz).map (gK i) = row at *
        have lrow : row.length = kz := by rw [← hrow, List.length_map, List.length_range]
        have rowG : ∀ y ∈ row, y ∈ gN := fun y hy => by
          rw [← hrow] at hy
          obtain ⟨b', hb', rfl⟩ := List.mem_map.mp hy
          exact gK_in i4 (by have := List.mem_range.mp hb'; omega)
        refine ⟨E2, rfl, ⟨_, SqL.of hE2⟩, fun L hL => ?_⟩
        have nLH := Gj.F.free hL
        refine lc_list (xs := row.map V.str) (fun j H' => ∃ lot : List Str, H' L = some (.lst (lot.map V.str)) ∧ lot.Sublist (row.take j) ∧ (∀ y ∈ lot, y ∉ pl) ∧ Same H12 H') ⟨[], upd_same, List.nil_sublist _, by simp, new_same hL⟩ (fun j H' _ ⟨_, _, _, _, S'⟩ => SqL.of (S' _ _ hE2)) ?_ ?_
        · rintro j x H' hx ⟨lot, hlot, lsub, lno, S'⟩
          rw [List.getElem?_map] at hx
          cases ey : row[j]? with
          | none => rw [ey] at hx; cases hx
          | some y =>
            rw [ey] at hx
            cases hx
            refine ⟨rfl, _, rfl, _, rfl, r3, _, rfl, .inl (SqL.of (S' _ _ Gj.v3)), rfl, flat_strs _, _, rfl, ?_⟩
            refine ite2 (fun c => ⟨_, rfl, lot.map V.str, hlot, ?_, lot ++ [y], ?_, ?_, ?_, ?_⟩) (fun _ => ⟨lot, hlot, ?_, lno, S'⟩)
            · rw [List.length_map]
              have := lsub.length_le
              rw [List.length_take] at this
              exact small1000 (by omega)
            · rw [upd_same, List.map_append]
              rfl
            · rw [take_snoc ey]
              exact lsub.append (List.Sublist.refl _)
            · intro w hw
              rcases List.mem_append.mp hw with hw | hw
              · exact lno w hw
              · rw [List.mem_singleton.mp hw]
                have c' : (!inV (.str y) (pl.map V.str)) = true := c
                rw [inV_strs] at c'
                intro hm
                rw [decide_eq_true hm] at c'
                cases c'
            · exact fun b o e => by
                rw [upd_ne (ne_of_none e hL)]
                exact S' _ _ e
            · rw [take_snoc ey]
              exact lsub.trans (List.sublist_append_left _ _)
        rintro H13 ⟨lot, hlot, lsub, lno, S13⟩
        rw [List.length_map, List.take_length] at lsub
        have Gk := Gj.same S13
        have he13 := S13 _ _ he12
        have ndl : lot.Nodup := lotnd.sublist lsub
        have lotG : ∀ y ∈ lot, y ∈ gN := fun y hy => rowG y (lsub.subset hy)
        have llot : lot.length ≤ 3 := by
          have := lsub.length_le
          omega
        have subl : ∀ y ∈ pl, y ∈ pl ++ lot := fun y hy => List.mem_append_left _ hy
        have lim44 : (pl ++ lot).length ≤ 44 := by
          rw [List.length_append]
          omega
        have Gl := Gk.limTo (Gk.tok.mono subl)
        have L3 : L ≠ r3 := (ne_of_none Gj.v3 hL).symm
        have L4 : L ≠ r4 := (ne_of_none Gj.v4 hL).symm
        have L6 : L ≠ r6 := (ne_of_none Gj.v6 hL).symm
        have LD : L ≠ D := (ne_of_none he12 hL).symm
        -- their ties
        refine ⟨_, rfl, L, lot.map V.str, rfl, for_enQ (.inl (SqL.of hlot)) (fun j σ H' => ∃ v14 v15 tv ts, σ = [some (.ref p), some (.ref q), some (.ref z), some (.ref r3), some (.ref r4), some (.ref r6), some (.ref a), some (.int (i : Nat)), some (.int (kz : Int)), some (.ref s10), some (.ref D), none, some (.ref L), none, v14, v15, none, none] ∧
          PI N H p l r3 r4 r6 pl (pl ++ lot) (n + 200 * i + 60 + 45 * j) tv ts fs2 H' ∧ H' L = some (.lst (lot.map V.str)) ∧ H' D = some (.lst (es.map V.str)) ∧ (∀ x ∈ ts, (x.1 ∈ pl ∧ x.2 ∈ pl) ∨ ∃ u v, x = tp u v ∧ u ∈ lot.take j)) ⟨v14, v15, tv, ts, rfl, Gl.mono (by rw [List.length_map]; omega), hlot, he13, fun x hx => .inl ⟨(Gk.tok.ok x hx).1, (Gk.tok.ok x hx).2.1⟩⟩ ?_ ?_ ?_⟩
        · rintro j σ H' hj ⟨_, _, _, _, rfl, G, hl', _⟩
          exact lt_at hlot hl'
        · rintro j x σ H' T2 hx ⟨v14, v15, tv, ts, rfl, G, hl', hD', tin⟩ nT2
          rw [List.getElem?_map] at hx
          cases ez : lot[j]? with
          | none => rw [ez] at hx; cases hx
          | some y =>
            rw [ez] at hx
            cases hx
            have jl : j < lot.length := (List.getElem?_eq_some_iff.mp ez).1
            have ylot : y ∈ lot := List.mem_of_getElem? ez
            have ynpl : y ∉ pl := lno y ylot
            have ynt : y ∉ lot.take j := take_mem ndl ez
            have yin : y ∈ pl ++ lot := List.mem_append_right _ ylot
            have Ga' := G.new nT2 (o := .tup [.int (j : Nat), .str y])
            have hlA := new_same nT2 (o := .tup [.int (j : Nat), .str y]) _ _ hl'
            have hDA := new_same nT2 (o := .tup [.int (j : Nat), .str y]) _ _ hD'
            refine ⟨T2, _, rfl, SqT.of upd_same, rfl, _, _, rfl, _, _, rfl, rfl, ?_⟩
            refine ⟨_, rfl, .inl ⟨rfl, _, SqL.of Ga'.v4⟩, _, rfl, _, rfl, _, _, rfl, rfl, _, rfl, L, _, rfl, SqL.of hlA, fun s ns' => ⟨s, rfl, ⟨_, SqL.of upd_same⟩, fun E hE => ?_⟩⟩
            have ei : cutV (lot.map V.str) (some ((j : Int) + 1)) none = (lot.drop (j + 1)).map V.str := by
              rw [show ((j : Int) + 1) = ((j + 1 : Nat) : Int) from rfl, cut_from, List.map_drop]
            rw [ei] at hE ⊢
            have Gb' := Ga'.new ns' (o := .lst ((lot.drop (j + 1)).map V.str))
            have hlB := new_same ns' (o := .lst ((lot.drop (j + 1)).map V.str)) _ _ hlA
            have hDB := new_same ns' (o := .lst ((lot.drop (j + 1)).map V.str)) _ _ hDA
            generalize hHB : upd (upd H' T2 (.tup [.int (j : Nat), .str y])) s (.lst ((lot.drop (j + 1)).map V.str)) = HB at *
            have hs : HB s = some (.lst ((lot.drop (j + 1)).map V.str)) := by rw [← hHB]; exact upd_same
            refine lc_list (xs := (lot.drop (j + 1)).map V.str) (fun i H' => ∃ acc, H' E = some (.lst acc) ∧ PrsAt H' acc (((lot.drop (j + 1)).take i).map (tp y)) ∧ (∀ t, V.ref t ∈ acc → H t = none) ∧ Same HB H') ⟨[], upd_same, PrsAt.nil, (fun t ht => by cases ht), new_same hE⟩ (fun i H' _ ⟨_, _, _, _, S'⟩ => SqL.of (S' _ _ hs)) ?_ ?_
            · rintro i x H' hx ⟨acc, hacc, pa, fa, S'⟩
              rw [List.getElem?_map] at hx
              cases ew : (lot.drop (j + 1))[i]? with
              | none => rw [ew] at hx; cases hx
              | some w =>
                rw [ew] at hx
                cases hx
                have il := (List.getElem?_eq_some_iff.mp ew).1
                rw [List.length_drop] at il
                refine ⟨rfl, yes_of ⟨_, rfl, _, rfl, y, w, rfl, fun t nt => ⟨acc, new_same nt _ _ hacc, ?_, acc ++ [.ref t], upd_same, ?_, ?_, ?_⟩⟩⟩
                · rw [pa.1, List.length_map, List.length_take, List.length_drop]
                  exact small1000 (by omega)
                · rw [take_snoc ew, List.map_append]
                  refine prs_upd (prs_snoc (prs_upd pa (fun xs e => by rw [nt] at e; cases e)) upd_same) (fun xs e => ?_)
                  rw [upd_ne (ne_of_none hacc nt), hacc] at e
                  cases e
                · intro t' ht'
                  rcases List.mem_append.mp ht' with h | h
                  · exact fa t' h
                  · cases List.mem_singleton.mp h
                    exact (Gb'.F.same S').free nt
                · exact fun b o e => by
                    rw [upd_ne (ne_of_none e hE)]
                    exact new_same nt _ _ (S' _ _ e)
            rintro HC ⟨acc, hacc, pa, fa, SC⟩
            rw [List.length_map, List.take_length] at pa
            have Gc' := Gb'.same SC
            have dropin : ∀ e ∈ lot.drop (j + 1), e ∈ lot := fun e h => List.mem_of_mem_drop h
            have split : lot = lot.take j ++ [y] ++ lot.drop (j + 1) := by
              rw [← take_snoc ez, List.take_append_drop]
            have ndl2 := ndl
            rw [split] at ndl2
            have dne : ∀ e ∈ lot.drop (j + 1), e ∉ lot.take j ++ [y] := fun e h h2 => (List.nodup_append.mp ndl2).2.2 e h2 e h rfl
            have nd2 : (lot.drop (j + 1)).Nodup := ndl.sublist (List.drop_sublist _ _)
            have tok2 : TsOk (pl ++ lot) (ts ++ (lot.drop (j + 1)).map (tp y)) := Gc'.tok.fan yin (fun e h => ⟨List.mem_append_right _ (dropin e h), fun q => dne e h (List.mem_append_right _ (List.mem_singleton.mpr q))⟩) nd2 (fun e h hm => by
              rcases tin _ hm with ⟨k1, k2⟩ | ⟨u, v, e1, e2⟩
              · rcases tp_cases y e with q | q <;> rw [q] at k1 k2
                · exact ynpl k1
                · exact ynpl k2
              · rcases tp_eq e1 with ⟨h1, _⟩ | ⟨h1, h2⟩
                · exact ynt (h1 ▸ e2)
                · exact dne e h (List.mem_append_left _ (h2 ▸ e2)))
            have len2 := tok2.len lim44
            refine ⟨r4, E, tv, acc, rfl, rfl, Gc'.v4, hacc, ?_, ?_⟩
            · have := (prs_app Gc'.pt pa).1
              rw [List.length_append] at this
              have h3 := small1000 (n := (ts ++ (lot.drop (j + 1)).map (tp y)).length) (by omega)
              omega
            have Gd' := Gc'.tie A0 (prs_app Gc'.pt pa) tok2 (fun t ht => by
              rcases List.mem_append.mp ht with h | h
              · exact Gc'.fr t h
              · exact .inr (fa t h))
            have hlD : (upd HC r4 (.lst (tv ++ acc))) L = some (.lst (lot.map V.str)) := by rw [upd_ne L4]; exact SC _ _ hlB
            have hDD : (upd HC r4 (.lst (tv ++ acc))) D = some (.lst (es.map V.str)) := by rw [upd_ne D4]; exact SC _ _ hDB
            have tin2 : ∀ x ∈ ts ++ (lot.drop (j + 1)).map (tp y), (x.1 ∈ pl ∧ x.2 ∈ pl) ∨ (∃ u v, x = tp u v ∧ u ∈ lot.take j) ∨ ∃ v, x = tp y v ∧ v ∈ lot := fun x hx => by
              rcases List.mem_append.mp hx with hx | hx
              · rcases tin x hx with h | h
                · exact .inl h
                · exact .inr (.inl h)
              · obtain ⟨e, he', rfl⟩ := List.mem_map.mp hx
                exact .inr (.inr ⟨e, rfl, dropin e he'⟩)
            generalize hts2 : ts ++ (lot.drop (j + 1)).map (tp y) = ts2 at *
            generalize htv2 : tv ++ acc = tv2 at *
            generalize hHD : upd HC r4 (.lst tv2) = HD at *
            -- ties to the feet
            refine ⟨_, rfl, .inl ⟨rfl, _, SqL.of Gd'.v4⟩, _, rfl, D, rfl, ⟨_, SqL.of hDD⟩, fun E5 hE5 => ?_⟩
            have nE5H := Gd'.F.free hE5
            have E5D : E5 ≠ D := (ne_of_none hDD hE5).symm
            refine lc_list (xs := es.map V.str) (fun i' H' => ∃ (acc : List V) (es' : List Str), H' E5 = some (.lst acc) ∧ es'.Sublist (es.take i') ∧ PrsAt H' acc (es'.map (tp y)) ∧ (∀ t, V.ref t ∈ acc → H t = none) ∧ H' D = some (.lst (es.map V.str)) ∧ H' L = some (.lst (lot.map V.str)) ∧
              PI N H p l r3 r4 r6 pl (pl ++ lot) (n + 200 * i + 60 + 45 * j + i') tv2 ts2 fs2 H') ⟨[], [], upd_same, List.nil_sublist _, PrsAt.nil, (fun t ht => by cases ht), new_same hE5 _ _ hDD, new_same hE5 _ _ hlD, (Gd'.new hE5).mono (by omega)⟩ (fun i H' _ ⟨_, _, _, _, _, _, h, _⟩ => SqL.of h) ?_ ?_
            · rintro i' x H' hx ⟨acc, es', hacc, sub', pa, fa, hD2, hL2, G2⟩
              rw [List.getElem?_map] at hx
              cases ew : es[i']? with
              | none => rw [ew] at hx; cases hx
              | some w =>
                rw [ew] at hx
                cases hx
                have il := (List.getElem?_eq_some_iff.mp ew).1
                have put : ∀ H3 : Hp, Fr H' p l (n + 200 * i + 60 + 45 * j + (i' + 1)) H3 → ∀ t, H3 t = none → ∃ acc2 : List V, (upd H3 t (.tup [.str (tp y w).1, .str (tp y w).2])) E5 = some (.lst acc2) ∧ acc2.length < sizeLine ∧ ∃ (acc : List V) (es' : List Str), (upd (upd H3 t (.tup [.str (tp y w).1, .str (tp y w).2])) E5 (.lst (acc2 ++ [.ref t]))) E5 = some (.lst acc) ∧ es'.Sublist (es.take (i' + 1)) ∧ PrsAt (upd (upd H3 t (.tup [.str (tp y w).1, .str (tp y w).2])) E5 (.lst (acc2 ++ [.ref t]))) acc (es'.map (tp y)) ∧ (∀ t, V.ref t ∈ acc → H t = none) ∧
                    (upd (upd H3 t (.tup [.str (tp y w).1, .str (tp y w).2])) E5 (.lst (acc2 ++ [.ref t]))) D = some (.lst (es.map V.str)) ∧ (upd (upd H3 t (.tup [.str (tp y w).1, .str (tp y w).2])) E5 (.lst (acc2 ++ [.ref t]))) L = some (.lst (lot.map V.str)) ∧
                    PI N H p l r3 r4 r6 pl (pl ++ lot) (n + 200 * i + 60 + 45 * j + (i' + 1)) tv2 ts2 fs2 (upd (upd H3 t (.tup [.str (tp y w).1, .str (tp y w).2])) E5 (.lst (acc2 ++ [.ref t]))) := fun H3 F3 t nt => by
                  have G3 := G2.step A0 F3
                  have acc3 := G2.F.keep F3 nE5H hacc
                  have D3' := G2.F.keep F3 nDH hD2
                  have L3' := G2.F.keep F3 nLH hL2
                  have pa3 := prs_keep G2.F F3 pa fa
                  have G4 := G3.new nt (o := .tup [.str (tp y w).1, .str (tp y w).2])
                  have E53 : E5 ≠ r3 := (ne_of_none Gd'.v3 hE5).symm
                  have E54 : E5 ≠ r4 := (ne_of_none Gd'.v4 hE5).symm
                  have E56 : E5 ≠ r6 := (ne_of_none Gd'.v6 hE5).symm
                  have E5L : E5 ≠ L := (ne_of_none hlD hE5).symm
                  refine ⟨acc, new_same nt _ _ acc3, ?_, acc ++ [.ref t], es' ++ [w], upd_same, ?_, ?_, ?_, ?_, ?_, ?_⟩
                  · rw [pa.1, List.length_map]
                    have := sub'.length_le
                    rw [List.length_take] at this
                    exact small1000 (by omega)
                  · rw [take_snoc ew]
                    exact sub'.append (List.Sublist.refl _)
                  · rw [List.map_append]
                    refine prs_upd (prs_snoc (prs_upd pa3 (fun xs e => by rw [nt] at e; cases e)) upd_same) (fun xs e => ?_)
                    rw [new_same nt _ _ acc3] at e
                    cases e
                  · intro t' ht'
                    rcases List.mem_append.mp ht' with h | h
                    · exact fa t' h
                    · cases List.mem_singleton.mp h
                      exact G3.F.free nt
                  · rw [upd_ne E5D.symm]
                    exact new_same nt _ _ D3'
                  · rw [upd_ne E5L.symm]
                    exact new_same nt _ _ L3'
                  · refine ⟨by rw [upd_ne E53.symm]; exact G4.v3, by rw [upd_ne E54.symm]; exact G4.v4, prs_upd G4.pt (fun xs e => by rw [new_same nt _ _ acc3] at e; cases e), by rw [upd_ne E56.symm]; exact G4.v6, ?_, G4.tok, G4.fr, G4.F.put nE5H⟩
                    intro w' hw'
                    obtain ⟨a', f', e1, h1, h2, h3, h4⟩ := G4.fc w' hw'
                    obtain ⟨a2, f2, e2, g1', _⟩ := Gd'.fc w' hw'
                    have ea : a' = a2 := by
                      rw [e1] at e2
                      injection e2
                    exact ⟨a', f', e1, by rw [upd_ne (by rw [ea]; exact ne_of_none g1' hE5)]; exact h1, h2, h3, h4⟩
                refine ⟨rfl, _, rfl, rfl, _, rfl, ite2 (fun c => iteT ⟨_, rfl, _, rfl, y, w, rfl, fun t nt => put H' ((G2.F.st.fr).mono (by omega)) t nt⟩) (fun c => ?_)⟩
                refine ⟨_, rfl, p, l, _, 3, rfl, G2.F.st, by omega, by decide, by decide, fun r H3 hr3 F3 => ⟨rfl, _, rfl, ite2 (fun _ => ⟨_, rfl, _, rfl, y, w, rfl, fun t nt => put H3 F3 t nt⟩) (fun _ => ?_)⟩⟩
                refine ⟨acc, es', G2.F.keep F3 nE5H hacc, ?_, prs_keep G2.F F3 pa fa, fa, G2.F.keep F3 nDH hD2, G2.F.keep F3 nLH hL2, G2.step A0 F3⟩
                rw [take_snoc ew]
                exact sub'.trans (List.sublist_append_left _ _)
            · rintro HE ⟨acc, es', hacc, sub', pa, fa, hD2, hL2, G2⟩
              rw [List.length_map, List.take_length] at sub'
              have ein' : ∀ e ∈ es', e ∈ pl := fun e h => ein e (sub'.subset h)
              have tok3 : TsOk (pl ++ lot) (ts2 ++ es'.map (tp y)) := G2.tok.fan yin (fun e h => ⟨subl e (ein' e h), fun q => ynpl (q ▸ ein' e h)⟩) (nde.sublist sub') (fun e h hm => by
                rcases tin2 _ hm with ⟨k1, k2⟩ | ⟨u, v, e1, e2⟩ | ⟨v, e1, e2⟩
                · rcases tp_cases y e with q | q <;> rw [q] at k1 k2
                  · exact ynpl k1
                  · exact ynpl k2
                · rcases tp_eq e1 with ⟨h1, _⟩ | ⟨h1, h2⟩
                  · exact ynt (h1 ▸ e2)
                  · exact lno u (List.mem_of_mem_take e2) (h2 ▸ ein' e h)
                · rcases tp_eq e1 with ⟨_, h2⟩ | ⟨h1, h2⟩
                  · exact lno v e2 (h2 ▸ ein' e h)
                  · exact ynpl (h2 ▸ ein' e h))
              have len3 := tok3.len lim44
              refine ⟨r4, E5, tv2, acc, rfl, rfl, G2.v4, hacc, ?_, ?_⟩
              · have := (prs_app G2.pt pa).1
                rw [List.length_append] at this
                have h3 := small1000 (n := (ts2 ++ es'.map (tp y)).length) (by omega)
                omega
              refine ⟨_, _, tv2 ++ acc, ts2 ++ es'.map (tp y), rfl, ((G2.tie A0 (prs_app G2.pt pa) tok3 (fun t ht => by
                rcases List.mem_append.mp ht with h | h
                · exact G2.fr t h
                · exact .inr (fa t h)))).mono ?_, by rw [upd_ne L4]; exact hL2, by rw [upd_ne D4]; exact hD2, fun x hx => ?_⟩
              · rw [List.length_map]
                omega
              · rcases List.mem_append.mp hx with hx | hx
                · rcases tin2 x hx with h | ⟨u, v, e1, e2⟩ | ⟨v, e1, e2⟩
                  · exact .inl h
                  · exact .inr ⟨u, v, e1, by rw [take_snoc ez]; exact List.mem_append_left _ e2⟩
                  · exact .inr ⟨y, v, e1, by rw [take_snoc ez]; exact List.mem_append_right _ (List.mem_singleton.mpr rfl)⟩
                · obtain ⟨e, he', rfl⟩ := List.mem_map.mp hx
                  exact .inr ⟨y, e, rfl, by rw [take_snoc ez]; exact List.mem_append_right _ (List.mem_singleton.mpr rfl)⟩
        · rintro σ H14 ⟨v14, v15, tv, ts, rfl, G, hl', hD', tin⟩
          refine ⟨_, rfl, .inl ⟨rfl, _, SqL.of G.v3⟩, _, rfl, r3, L, _, _, rfl, rfl, G.v3, hl', ?_, ?_⟩
          · rw [List.length_map, List.length_map]
            exact Nat.le_of_lt (small1000 (by omega))
          rw [← List.map_append]
          have Gz := G.place A0 subl
          rw [List.length_map] at Gz
          refine ⟨_, _, _, _, _, _, _, _, pl ++ lot, tv, ts, fs2, rfl, Gz.mono (by omega), lfs.1, lfs.2, ?_, ?_, fun y hy => subl y (sub y hy), ?_⟩
          · exact List.nodup_append.mpr ⟨ndp, ndl, fun x hx y hy e => lno y hy (e ▸ hx)⟩
          · intro y hy
            rcases List.mem_append.mp hy with hy | hy
            · exact pin y hy
            · exact .inr (lotG y hy)
          · rw [List.length_append]
            omega
    · rintro σ H2 ⟨v6, v7, v8, v9, v10, v12, v14, v15, pl, tv, ts, fs, rfl, G, fpos, flen, ndp, pin, sub, lpl⟩
      rw [List.length_map] at G lpl
      refine ⟨_, rfl, _, rfl, r4, tv, ts, rfl, SqL.of G.v4, G.pt, fun aT' ys nT' pyy hy => ?_⟩
      have Gb := G.new nT' (o := .lst ys)
      have q1 := (hN q nq)
      have q2 := (hN aR nR)
      refine ⟨_, rfl, q, _, 2, _, rfl, rfl, SqT.of (Gb.F.but _ _ g1 q1.1 q1.2), rfl, aR, _, rfl, .inl (SqL.of (Gb.F.but _ _ g5 q2.1 q2.2)), fun aR' nR' => ?_⟩
      have Gc := Gb.new nR' (o := .lst (rm.map V.str))
      refine ⟨by show 3 ≤ sizeLine; decide, fun r nr => ?_⟩
      have Gd := Gc.new nr (o := .tup [.ref r3, .ref aT', .ref aR'])
      refine k r pl (sortPr ts) _ (Gd.F.mono (by omega)) ⟨r3, aT', aR', ys, upd_same, Gd.v3, new_same nr _ _ (new_same nR' _ _ upd_same), prs_upd (prs_upd (prs_upd hy (fun xs e => by rw [nT'] at e; cases e)) (fun xs e => by rw [nR'] at e; cases e)) (fun xs e => by rw [nr] at e; cases e), new_same nr _ _ upd_same, .inr (Gc.F.free nr), .inr n3, .inr (G.F.free nT'), .inr (Gb.F.free nR'), fun t ht => G.fr t (pyy.mem_iff.mp ht)⟩
        ⟨ndp, fun y hy => ?_, by omega, G.tok.perm (sortPr_perm ts), rnd, fun y hy => sub y (rin y hy)⟩ (fun y hy => ?_) lpl
      · rcases pin y hy with h | h
        · exact List.mem_append_left _ (nmn y h)
        · exact List.mem_append_right _ (List.mem_append_right _ h)
      · rcases pin y hy with h | h
        · exact .inl (nmn y h)
        · exact .inr h
end
end E1

set_option Elab.async false
set_option linter.all false
set_option maxRecDepth 100000
set_option maxHeartbeats 8000000
/-! Raw boards: flat ones with pieces, crossed ones, any of these. -/
namespace E1
open PySem PySem.Spec PyProof.Rows L2 G0
abbrev N_a_flat : List Str := ["_law_stream", "_law_many", "_law_pins", "_law_pieces", "_law_flat", "_law_k"]
theorem sc_a_flat : FnScope N_a_flat ["_law_stream", "_law_many", "_law_pins", "_law_pieces"] (defScope (topS 37)) := ⟨rfl, rfl, rfl, by decide +kernel, rfl, by decide +kernel, by decide +kernel⟩
theorem FlatAt.frame {N : Addr → Prop} {H H' : Hp} {r : Addr} {ns : List Str} {ts : List Pr} {rm : List Str} {fs : List V} (b : FlatAt N H r ns ts rm fs) (S : ∀ c o, N c → H c = some o → H' c = some o) : FlatAt N H' r ns ts rm fs := by
  obtain ⟨aP, aT, aR, aF, tv, h1, h2, h3, h4, h5, h6, h7, n1, n2, n3, n4, n5, n6⟩ := b
  exact ⟨aP, aT, aR, aF, tv, S _ _ n1 h1, S _ _ n2 h2, S _ _ n3 h3, prs_frame h4 n6 S, S _ _ n4 h5, S _ _ n5 h6, h7.frame S, n1, n2, n3, n4, n5, n6⟩
theorem fc_dp {K : PySem.W.Frag} {N : Addr → Prop} {H : Hp} {ok : Str → Prop} (hk : ∀ z, ok z → PyData.strOk z = true) : ∀ {fs : List V}, FcAt N H fs ok → ∃ ds, DpAll K H fs ds ∧ PyData.canLayAll0 ds = true ∧ PyData.depthAll ds ≤ 2
  | [], _ => ⟨[], .nil, rfl, Nat.zero_le _⟩
  | v :: fs, h => by
    obtain ⟨ds, h1, h2, h3⟩ := fc_dp (K := K) hk (fs := fs) (h.sub fun v hv => List.mem_cons_of_mem _ hv)
    obtain ⟨a, f, rfl, ha, nd, fin, na⟩ := h v List.mem_cons_self
    have hs := shS (ss := f) fun z hz => hk z (fin z hz)
    have hl : (strD f).canLay0 = true := by
      have : ((strD f).canLay0 && decide ((strD f).depth ≤ 64)) = true := hs
      rw [Bool.and_eq_true] at this
      exact this.1
    have hd : (strD f).depth ≤ 2 := by
      have := (lays f fun z hz => hk z (fin z hz)).2
      simp only [strD, PyData.depth]
      omega
    refine ⟨strD f :: ds, .cons (dp_strs ha) h1, ?_, ?_⟩
    · show ((strD f).canLay0 && PyData.canLayAll0 ds) = true
      rw [hl, h2]
      rfl
    · show max (strD f).depth (PyData.depthAll ds) ≤ 2
      omega
def spFlat : Sp := fun vs H Q _ => ∃ (p l : Addr) (n m pins pieces : Nat), vs = [.ref p, .int (m : Int), .int (pins : Int), .int (pieces : Int)] ∧ Stm H p l n ∧ n < 380000 ∧ m ≤ 35 ∧ pieces ≤ 3 ∧
  ∀ r pl ts rm H', Fr H p l (n + 31100) H' → RawAt (fun c => H c = none) H' r pl ts rm → RawOk pl ts rm → (∀ y ∈ pl, y ∈ baseN ∨ y ∈ gN) → pl.length ≤ m + 3 * pieces → rm.length = min pins m → Q (.ref r) H'
section
variable {P : Program} {w : World} {K : PySem.W.Frag} {mg : Str → Option Value} {base : Heap}
theorem bFlat (Z : LawD K mg) : Binds K (Z.d 37) ["_law_stream", "_law_many", "_law_pins", "_law_pieces"] [] := (Z.F 37 (by decide)).binds fun _ _ _ _ _ _ us hl => match us, hl with | [_, _, _, _], _ => rfl
theorem ok_a_flat (Z : LawD K mg) : FnOk P w K mg base CX0 4 (Z.f 37) (Z.d 37) ["_law_stream", "_law_many", "_law_pins", "_law_pieces"] spFlat := by
  have GG : FnOk P w K mg base CX0 3 (Z.f 35) (Z.d 35) ["_law_stream", "_law_names", "_law_pins"] spGrown := ok_a_grown Z
  have GN : FnOk P w K mg base CX0 3 (Z.f 31) (Z.d 31) ["_law_stream", "_law_many"] spNames := ok_a_names Z
  have GD : FnOk P w K mg base CX0 1 Z.s.fD Z.s.dD ["_law_stream", "_law_many"] spDr := ok_dr Z.s
  have GP : FnOk P w K mg base CX0 3 (Z.f 36) (Z.d 36) ["_law_stream", "_law_flat", "_law_sizes"] spPut := ok_a_put Z
  refine Fun.ok (Z.F 37 (by decide)) sc_a_flat (fun vs H Q E h => ?_) (fun cdv A outer s H vs Q E hr h => ⟨_, pss_cons (ps_set (i := 4) sc_a_flat.nd rfl (Or.inl rfl) (pe_call GG hr (by rfl) (Z.g 35 (by decide)) (Z.F 35 (by decide)).kp (bGrown Z) .nil pass0 (pa_cons (pv 0) (pa_cons (pe_call GN hr (by rfl) (Z.g 31 (by decide)) (Z.F 31 (by decide)).kp (bNames Z) .nil pass0 (pa_cons (pv 0) (pa_cons (pv 1) pa_nil))) (pa_cons (pe_callB (call_min2 rfl) (by rfl) (Z.free "min" (by decide)) boot_min (pa_cons (pv 2) (pa_cons (pv 1) pa_nil))) pa_nil)))))
  (pss_one (ps_ret (pe_call GP hr (by rfl) (Z.g 36 (by decide)) (Z.F 36 (by decide)).kp (bPut Z) .nil pass0 (pa_cons (pv 0) (pa_cons (pv 4) (pa_cons (pe_ifExp (pt_cmpR (op_neD hr.units) (pe_ix ix_tup (pv 4) pe_int (fun _ _ => rfl)) (pe_lst (pa_cons (pe_lst pa_nil) pa_nil)) (nomark _)) (pe_lc (own := [("_law_k", 5)]) (tt := tYes) rfl sc_a_flat.nd (pi_range1 (by rfl) (Z.free "range" (by decide)) (pa_cons (pv 3) pa_nil)) (blkOk_by (own := [("_law_k", 5)]) (N := N_a_flat) (sc := defScope (topS 37)) (by decide +kernel)) (fun _ _ _ _ _ => (pg_name (i := 5) sc_a_flat.nd rfl (Or.inl rfl))) (fun _ _ _ _ _ => pts_nil) (fun _ _ _ _ _ => (pe_op op_add pe_int (pe_call GD (hr.mono (by decide)) (by rfl) Z.s.gD Z.s.FD.kp (bDr Z.s) .nil pass0 (pa_cons (pv 0) (pa_cons pe_int pa_nil)))))) (pe_lst pa_nil)) pa_nil)))))), ?_⟩)
  · obtain ⟨p, l, n, m, pins, pieces, rfl, _⟩ := h
    rfl
  · obtain ⟨p, l, n, m, pins, pieces, rfl, S, hn, hm, hpc, k⟩ := h
    have emin : (if (m : Int) < (pins : Int) then (m : Int) else (pins : Int)) = ((min pins m : Nat) : Int) := by
      split <;> omega
    refine ⟨_, rfl, _, rfl, _, rfl, p, l, n, m, rfl, S, by omega, by omega, fun q ns H1 F1 nq hq lns ndn inb => ⟨_, rfl, _, rfl, pins, m, rfl, ?_⟩⟩
    rw [emin]
    have nq' := F1.ne nq
    refine ⟨p, l, q, n + 17, min pins m, ns, rfl, F1.st, by omega, hq, nq'.1, nq'.2, ndn, fun z hz => List.all_eq_true.mp baseN_ok z (inb z hz), by omega, by omega, fun r ts fs H2 F2 fl tok fpos flen => ?_⟩
    have F02 := F1.trans F2
    have fl0 : FlatAt (fun c => H c = none) H2 r ns ts (ns.take (min pins m)) fs := by
      obtain ⟨aP, aT, aR, aF, tv, h1, h2, h3, h4, h5, h6, h7, n1, n2, n3, n4, n5, n6⟩ := fl
      exact ⟨aP, aT, aR, aF, tv, h1, h2, h3, h4, h5, h6, h7.weak (fun c h => F1.free h) (fun _ h => h), F1.free n1, F1.free n2, F1.free n3, F1.free n4, F1.free n5, fun t ht => F1.free (n6 t ht)⟩
    obtain ⟨aP, aT, aR, aF, tv, h1, h2, h3, h4, h5, h6, h7, n1, n2, n3, n4, n5, n6⟩ := id fl0
    refine ⟨_, rfl, _, rfl, _, rfl, r, _, 3, _, rfl, rfl, SqT.of h1, rfl, Nat.zero_le _, fun a1 na1 => ⟨by show 1 ≤ sizeLine; decide, fun a2 na2 => ?_⟩⟩
    have F03 := F02.put (F02.free na1) (o := .lst [])
    have F04 := F03.put (F03.free na2) (o := .lst [.ref a1])
    obtain ⟨ds, dd, dl, dp⟩ := fc_dp (K := K) (fun z (hz : z ∈ ns) => name_ok (List.all_eq_true.mp baseN_ok z (inb z hz))) h7
    have SS := (new_same (o := .lst []) na1).trans (new_same (o := .lst [V.ref a1]) na2)
    obtain ⟨ds2, dd2, dl2, dp2⟩ := fc_dp (K := K) (fun z (hz : z ∈ ns) => name_ok (List.all_eq_true.mp baseN_ok z (inb z hz))) (h7.frame fun c o _ e => SS c o e)
    refine ⟨.list ds2, .list [.list []], .lst (SqL.of (SS _ _ h6)) dd2, .lst (SqL.of upd_same) (.cons (.lst (SqL.of (new_same na2 _ _ upd_same)) .nil) .nil), ?_, rfl, _, rfl, ?_⟩
    · show ((PyData.list ds2).canLay0 && decide ((PyData.list ds2).depth ≤ 64)) = true
      rw [Bool.and_eq_true]
      refine ⟨by simp only [PyData.canLay0]; exact dl2, decide_eq_true ?_⟩
      simp only [PyData.depth]
      omega
    refine ite_share (fun y H' => ∃ (zz : Addr) (ks : List Nat), y = .ref zz ∧ H' zz = some (.lst (ks.map fun (k : Nat) => V.int (k : Int))) ∧ ks.length ≤ pieces ∧ (∀ k ∈ ks, k ≤ 3) ∧ H zz = none ∧ Fr (upd (upd H2 a1 (.lst [])) a2 (.lst [.ref a1])) p l (n + 17 + 30000 + 3) H') (fun c Q' kQ => ?_) (fun c Q' kQ => ?_) ?_
    · refine ⟨_, rfl, (pieces : Int), rfl, by omega, by omega, fun D hD => ?_⟩
      rw [Int.toNat_natCast]
      have nDH := F04.free hD
      refine lc_range (n := pieces) (fun i H' => ∃ ks : List Nat, H' D = some (.lst (ks.map fun (k : Nat) => V.int (k : Int))) ∧ ks.length = i ∧ (∀ k ∈ ks, k ≤ 3) ∧ Fr (upd (upd H2 a1 (.lst [])) a2 (.lst [.ref a1])) p l (n + 17 + 30000 + i) H') ⟨[], upd_same, rfl, by simp, (F04.st.fr.put hD)⟩ ?_ ?_
      · rintro i H' hi ⟨ks, hks, lks, kk, F'⟩
        refine ⟨rfl, yes_of ⟨_, rfl, p, l, _, 3, rfl, F'.st, by omega, by decide, by decide, fun d H6 hd F6 => ⟨_, _, rfl, rfl, _, F'.keep F6 hD hks, ?_, ks ++ [1 + d], ?_, ?_, ?_, ?_⟩⟩⟩
        · rw [List.length_map, lks]
          exact small1000 (by omega)
        · rw [upd_same, List.map_append]
          rfl
        · rw [List.length_append, lks]; rfl
        · intro k' hk'
          rcases List.mem_append.mp hk' with h | h
          · exact kk k' h
          · rw [List.mem_singleton.mp h]
            omega
        · exact (F'.trans F6).put hD
      · rintro H' ⟨ks, hks, lks, kk, F'⟩
        exact kQ _ _ ⟨D, ks, rfl, hks, by omega, kk, nDH, F'.mono (by omega)⟩
    · refine ⟨Nat.zero_le _, fun zz nz => kQ _ _ ⟨zz, [], rfl, upd_same, Nat.zero_le _, by simp, F04.free nz, (F04.st.fr.put nz).mono (by omega)⟩⟩
    rintro y H5 ⟨zz, ks, rfl, hzz, lks, kk, nzz, F5⟩
    have F05 := F04.trans F5
    have nez := F05.ne nzz
    have fl5 := fl0.frame (H' := H5) fun c o hc e => F04.keep F5 hc (SS _ _ e)
    have lrm : (ns.take (min pins m)).length = min pins m := by
      rw [List.length_take]
      omega
    refine ⟨p, l, r, zz, _, (fun c => H c = none), ns, ts, ns.take (min pins m), fs, ks, rfl, F05.st, by omega, fl5, fun c hc => F05.ne hc, tok, fpos, flen, ndn, inb, by omega, fun z hz => List.mem_of_mem_take hz, ndn.sublist (List.take_sublist _ _), hzz, nez.1, nez.2, by omega, kk, fun r2 pl2 ts2 H6 F6 raw ok nm len => ?_⟩
    refine k r2 pl2 ts2 _ H6 ((F05.trans F6).mono (by omega)) (raw.weak fun c hc => hc.elim id fun h => F05.free h) ok nm ?_ lrm
    have : 3 * ks.length ≤ 3 * pieces := Nat.mul_le_mul_left 3 lks
    omega
end
abbrev N_a_crossed : List Str := ["_law_stream", "_law_raw", "_law_places", "_law_ties", "_law_rim", "_law_ends", "_law_at", "_law_name"]
theorem sc_a_crossed : FnScope N_a_crossed ["_law_stream", "_law_raw"] (defScope (topS 38)) := ⟨rfl, rfl, rfl, by decide +kernel, rfl, by decide +kernel, by decide +kernel⟩
def crS : List Str := ["cr0ss", "cr1ss"]
theorem crS_no : crS.all (fun z => decide (z ∉ baseN ++ gN)) = true := by decide +kernel
theorem crS_in : crS.all (fun z => decide (z ∈ allN)) = true := by decide +kernel
def spCrossed : Sp := fun vs H Q _ => ∃ (p l q : Addr) (n : Nat) (N : Addr → Prop) (pl : List Str) (ts : List Pr) (rm : List Str), vs = [.ref p, .ref q] ∧ Stm H p l n ∧ n < 800000 ∧ RawAt N H q pl ts rm ∧ (∀ c, N c → c ≠ p ∧ c ≠ l) ∧ RawOk pl ts rm ∧ (∀ y ∈ pl, y ∈ baseN ∨ y ∈ gN) ∧ pl.length ≤ 42 ∧ 4 ≤ rm.length ∧
  ∀ r pl2 ts2 rm2 H', Fr H p l (n + 50) H' → RawAt (fun c => N c ∨ H c = none) H' r pl2 ts2 rm2 → RawOk pl2 ts2 rm2 → Q (.ref r) H'
section
variable {P : Program} {w : World} {K : PySem.W.Frag} {mg : Str → Option Value} {base : Heap}
theorem bCrossed (Z : LawD K mg) : Binds K (Z.d 38) ["_law_stream", "_law_raw"] [] := (Z.F 38 (by decide)).binds fun _ _ _ _ _ _ us hl => match us, hl with | [_, _], _ => rfl
theorem ok_a_crossed (Z : LawD K mg) : FnOk P w K mg base CX0 3 (Z.f 38) (Z.d 38) ["_law_stream", "_law_raw"] spCrossed := by
  have GM : FnOk P w K mg base CX0 2 Z.s.fM Z.s.dM ["_law_stream", "_law_some"] (spMx K) := ok_mx Z.s
  have GT : FnOk P w K mg base CX0 1 (Z.f 32) (Z.d 32) N_a_tie spTie := ok_a_tie Z
  refine Fun.ok (Z.F 38 (by decide)) sc_a_crossed (fun vs H Q E h => ?_) (fun cdv A outer s H vs Q E hr h => ⟨_, pss_cons (ps_par3 (i := 2) (j := 3) (l := 4) rfl sc_a_crossed.nd rfl rfl rfl (by decide) (by decide) (by decide) rfl rfl rfl (pa_cons (pe_callTy call_list_of (by rfl) Z.t.list PyProof.Rows.boot_list (pa_cons (pe_ix ix_tup (pv 1) pe_int (fun _ _ => rfl)) pa_nil)) (pa_cons (pe_callTy call_list_of (by rfl) Z.t.list PyProof.Rows.boot_list (pa_cons (pe_ix ix_tup (pv 1) pe_int (fun _ _ => rfl)) pa_nil)) (pa_cons (pe_callTy call_list_of (by rfl) Z.t.list PyProof.Rows.boot_list (pa_cons (pe_ix ix_tup (pv 1) pe_int (fun _ _ => rfl)) pa_nil)) pa_nil))) (by rfl))
  (pss_cons (ps_set (i := 5) sc_a_crossed.nd rfl (Or.inl rfl) (pe_callB cr_sortedI (by rfl) Z.t.sorted boot_sorted (pa_cons (pe_slice sl_list (pe_call GM hr (by rfl) Z.s.gM Z.s.FM.kp (bMx Z.s) .nil pass0 (pa_cons (pv 0) (pa_cons (pe_listRg rfl (by rfl) Z.t.list (prg_1 (by rfl) (Z.free "range" (by decide)) (pe_callB call_len_seq (by rfl) Z.t.len PySem.boot_len (pa_cons (pv 4) pa_nil)))) pa_nil))) po_none (po_some pe_int)) pa_nil)))
  (pss_cons (ps_for PassesOwn.never rfl (pi_tup (pe_tup (pa_cons (pe_tup (pa_cons pe_int (pa_cons pe_str pa_nil))) (pa_cons (pe_tup (pa_cons pe_int (pa_cons pe_str pa_nil))) pa_nil)))) (by exact (pg_tup rfl (pgs_cons (pg_name (i := 6) sc_a_crossed.nd rfl (Or.inl rfl)) (pgs_cons (pg_name (i := 7) sc_a_crossed.nd rfl (Or.inl rfl)) pgs_nil))))
    (pss_one (ps_expr (pe_bm PySem.F.plainAttrs_list PySem.F.slot_list_extend PySem.F.type_list_extend mt_extend (pv 3) (pa_cons (pe_lst (pa_cons (pe_call GT (hr.mono (by decide)) (by rfl) (Z.g 32 (by decide)) (Z.F 32 (by decide)).kp (bTie Z) .nil pass0 (pa_cons (pe_ix ix_list (pv 4) (pe_ix ix_list (pv 5) (pv 6) (fun _ _ => rfl)) (fun _ _ => rfl)) (pa_cons (pv 7) pa_nil))) (pa_cons (pe_call GT (hr.mono (by decide)) (by rfl) (Z.g 32 (by decide)) (Z.F 32 (by decide)).kp (bTie Z) .nil pass0 (pa_cons (pe_ix ix_list (pv 4) (pe_ix ix_list (pv 5) (pe_op op_add (pv 6) pe_int) (fun _ _ => rfl)) (fun _ _ => rfl)) (pa_cons (pv 7) pa_nil))) pa_nil))) pa_nil)))))
  (pss_one (ps_ret (pe_tup (pa_cons (pe_op op_cat (pv 2) (pe_lst (pa_cons pe_str (pa_cons pe_str pa_nil)))) (pa_cons (pe_callB cr_sortP (by rfl) Z.t.sorted boot_sorted (pa_cons (pv 3) pa_nil)) (pa_cons (pv 4) pa_nil)))))))), ?_⟩)
  · obtain ⟨p, l, q, n, N, pl, ts, rm, rfl, _⟩ := h
    rfl
  · obtain ⟨p, l, q, n, N, pl, ts, rm, rfl, S, hn, ⟨aP, aT, aR, tv, g1, g2, g3, g4, g5, nq, nP, nT, nR, nt⟩, hN, ok, nm, lpl, lrm, k⟩ := h
    refine ⟨_, rfl, q, _, 0, _, rfl, rfl, SqT.of g1, rfl, aP, _, rfl, .inl (SqL.of g2), fun r2 n2 => ?_⟩
    have S1 := new_same (o := .lst (pl.map V.str)) n2
    refine ⟨_, rfl, q, _, 1, _, rfl, rfl, SqT.of (S1 _ _ g1), rfl, aT, _, rfl, .inl (SqL.of (S1 _ _ g3)), fun r3 n3' => ?_⟩
    have S2 := S1.trans (new_same (o := .lst tv) n3')
    have n3 := S1.free n3'
    refine ⟨_, rfl, q, _, 2, _, rfl, rfl, SqT.of (S2 _ _ g1), rfl, aR, _, rfl, .inl (SqL.of (S2 _ _ g5)), fun r4 n4' => ⟨_, _, _, rfl, ?_⟩⟩
    have S3 := S2.trans (new_same (o := .lst (rm.map V.str)) n4')
    have n4 := S2.free n4'
    have h2 : (upd (upd (upd H r2 (.lst (pl.map V.str))) r3 (.lst tv)) r4 (.lst (rm.map V.str))) r2 = some (.lst (pl.map V.str)) := new_same n4' _ _ (new_same n3' _ _ upd_same)
    have h3 : (upd (upd (upd H r2 (.lst (pl.map V.str))) r3 (.lst tv)) r4 (.lst (rm.map V.str))) r3 = some (.lst tv) := new_same n4' _ _ upd_same
    have h4 : (upd (upd (upd H r2 (.lst (pl.map V.str))) r3 (.lst tv)) r4 (.lst (rm.map V.str))) r4 = some (.lst (rm.map V.str)) := upd_same
    have F3 : Fr H p l n _ := S.fr.same S3
    have e32 : r3 ≠ r2 := (ne_of_none upd_same n3').symm
    have e34 : r3 ≠ r4 := ne_of_none upd_same n4'
    have lr44 : rm.length ≤ 44 := by
      have := ok.rnd.length_le_of_subset (l₂ := pl) ok.rin
      omega
    generalize hH3 : upd (upd (upd H r2 (.lst (pl.map V.str))) r3 (.lst tv)) r4 (.lst (rm.map V.str)) = H3 at *
    refine ⟨_, rfl, _, rfl, r4, _, rfl, .inl (SqL.of h4), _, rfl, RgOk.of_le (by omega) (by rw [List.length_map]; omega) (by omega) (by omega), fun q5 nq5 => ?_⟩
    have F4 := F3.put (F3.free nq5) (o := .lst (rgV 0 ((rm.map V.str).length : Nat)))
    have erg : rgV 0 (((rm.map V.str).length : Nat) : Int) = ((List.range rm.length).map fun (i : Nat) => (i : Int)).map V.int := by
      unfold rgV
      rw [List.map_map, List.length_map]
      have : (((rm.length : Nat) : Int) - 0).toNat = rm.length := by omega
      rw [this]
      exact List.map_congr_left fun i _ => by
        show V.int (0 + (i : Int)) = V.int (i : Int)
        rw [Int.zero_add]
    refine ⟨p, l, q5, _, _, rfl, F4.st, by omega, SqL.of upd_same, by rw [rgV_length, List.length_map]; omega, fun q6 ys H5 hperm F5 nq6 hq6 => ?_⟩
    have lrg : (rgV 0 (((rm.map V.str).length : Nat) : Int)).length ≤ 44 := by
      rw [rgV_length, List.length_map]
      omega
    rw [erg] at hperm
    obtain ⟨ks, rfl, kperm⟩ := ints_perm hperm
    have F05 := F4.trans F5
    have keep5 : ∀ {c : Addr} {o : HO}, H c = none → H3 c = some o → H5 c = some o := fun hc e => F4.keep F5 hc (new_same nq5 _ _ e)
    refine ⟨_, rfl, q6, _, rfl, SqL.of hq6, fun q7 nq7 => ?_⟩
    have ec : cutV (ks.map V.int) none (some 4) = (ks.take 4).map V.int := by
      rw [show ((4 : Int)) = ((4 : Nat) : Int) from rfl, cut_to, List.map_take]
    rw [ec]
    have F7 := F05.put (F05.free nq7) (o := .lst ((ks.take 4).map V.int))
    refine ⟨q7, ks.take 4, rfl, SqL.of upd_same, fun es q8 eperm epw nq8 => ?_⟩
    have n8 := F7.free nq8
    have F8 := F7.put n8 (o := .lst (es.map V.int))
    have lk : ks.length = rm.length := by
      rw [kperm.length_eq, List.length_map, List.length_range]
    have elen : es.length = 4 := by
      rw [eperm.length_eq, List.length_take]
      omega
    have ndk : ks.Nodup := kperm.nodup_iff.mpr (nodup_map (fun x y _ _ h => by omega) List.nodup_range)
    have nde : es.Nodup := eperm.nodup_iff.mpr (ndk.sublist (List.take_sublist _ _))
    have ein : ∀ e ∈ es, ∃ t : Nat, e = (t : Int) ∧ t < rm.length := fun e he => by
      have h1 := kperm.mem_iff.mp (List.mem_of_mem_take (eperm.mem_iff.mp he))
      obtain ⟨t, ht, rfl⟩ := List.mem_map.mp h1
      exact ⟨t, rfl, List.mem_range.mp ht⟩
    generalize hH7 : upd (upd H5 q7 (.lst ((ks.take 4).map V.int))) q8 (.lst (es.map V.int)) = H7 at *
    have h87 : H7 q8 = some (.lst (es.map V.int)) := by rw [← hH7]; exact upd_same
    have keep7 : ∀ {c : Addr} {o : HO}, H c = none → H3 c = some o → H7 c = some o := fun hc e => by
      rw [← hH7]
      exact new_same nq8 _ _ (new_same nq7 _ _ (keep5 hc e))
    have h27 := keep7 n2 h2
    have h37 := keep7 n3 h3
    have h47 := keep7 n4 h4
    refine ⟨by show 2 ≤ sizeLine; decide, fun t1 nt1 => ⟨by show 2 ≤ sizeLine; decide, fun t2 nt2 => ⟨by show 2 ≤ sizeLine; decide, fun t nt' => ⟨t, rfl, ⟨_, SqT.of upd_same⟩, ?_⟩⟩⟩⟩
    have SS := ((new_same (o := .tup [.int 0, .str "cr0ss"]) nt1).trans (new_same (o := .tup [.int 1, .str "cr1ss"]) nt2)).trans (new_same (o := .tup [.ref t1, .ref t2]) nt')
    have ht1 := new_same nt' (o := .tup [.ref t1, .ref t2]) _ _ (new_same nt2 (o := .tup [.int 1, .str "cr1ss"]) _ _ (upd_same (a := t1) (o := .tup [.int 0, .str "cr0ss"]) (H := H7)))
    have ht2 := new_same nt' (o := .tup [.ref t1, .ref t2]) _ _ (upd_same (a := t2) (o := .tup [.int 1, .str "cr1ss"]) (H := upd H7 t1 (.tup [.int 0, .str "cr0ss"])))
    have ht : (upd (upd (upd H7 t1 (.tup [.int 0, .str "cr0ss"])) t2 (.tup [.int 1, .str "cr1ss"])) t (.tup [.ref t1, .ref t2])) t = some (.tup [.ref t1, .ref t2]) := upd_same
    generalize hHs : upd (upd (upd H7 t1 (.tup [.int 0, .str "cr0ss"])) t2 (.tup [.int 1, .str "cr1ss"])) t (.tup [.ref t1, .ref t2]) = Hs at *
    have h2s := SS _ _ h27
    have h3s := SS _ _ h37
    have h4s := SS _ _ h47
    have h8s := SS _ _ h87
    have Fs := F8.same SS
    have ts' := ne_of_none h37 nt1
    have n31 : t1 ≠ r3 := (ne_of_none h37 nt1).symm
    have n32 : t2 ≠ r3 := (ne_of_none (new_same nt1 _ _ h37) nt2).symm
    have n33 : t ≠ r3 := (ne_of_none (new_same nt2 _ _ (new_same nt1 _ _ h37)) nt').symm
    have n38 : q8 ≠ r3 := (ne_of_none (new_same nq7 _ _ (keep5 n3 h3)) nq8).symm
    have pts : PrsAt Hs tv ts := ⟨g4.1, fun i v q' e1 e2 => by
      obtain ⟨c, rfl, hc⟩ := g4.2 i v q' e1 e2
      have nc := hN c (nt c (List.mem_of_getElem? e1))
      exact ⟨c, rfl, Fs.but _ _ hc nc.1 nc.2⟩⟩
    have okN : ∀ z ∈ crS, z ∉ pl := fun z hz hm => by
      have h := of_decide_eq_true (List.all_eq_true.mp crS_no z hz)
      rcases nm z hm with h2 | h2
      · exact h (List.mem_append_left _ h2)
      · exact h (List.mem_append_right _ h2)
    refine for_tup (xs := [.ref t1, .ref t2]) (fun i σ H' => ∃ v6 v7 tv' ts', σ = [some (.ref p), some (.ref q), some (.ref r2), some (.ref r3), some (.ref r4), some (.ref q8), v6, v7] ∧ H' r3 = some (.lst tv') ∧ PrsAt H' tv' ts' ∧ TsOk (pl ++ crS.take i) ts' ∧ (∀ t, V.ref t ∈ tv' → N t ∨ H t = none) ∧
      (∀ c o, c ≠ r3 → Hs c = some o → H' c = some o) ∧ Fr H p l (n + 50) H') ⟨none, none, tv, ts, rfl, h3s, pts, by rw [List.take_zero, List.append_nil]; exact ok.ts, fun t ht => .inl (nt t ht), fun c o _ e => e, Fs.mono (by simp only [List.length_map, List.length_range] at *; omega)⟩ (fun i σ H' _ ⟨_, _, _, _, _, _, _, _, _, kp, _⟩ => SqT.of (kp t _ n33 ht)) ?_ ?_
    · rintro i x σ H' hx ⟨v6, v7, tv', ts', rfl, h3', pt', tok', fr', kp, F'⟩
      obtain ⟨ti, nm', rfl, hti, hnm, i2⟩ : ∃ ti nm, x = .ref ti ∧ H' ti = some (.tup [.int (i : Int), .str nm]) ∧ crS[i]? = some nm ∧ i < 2 := by
        match i, hx with
        | 0, hx =>
          cases hx
          exact ⟨t1, "cr0ss", rfl, kp _ _ n31 ht1, rfl, by decide⟩
        | 1, hx =>
          cases hx
          exact ⟨t2, "cr1ss", rfl, kp _ _ n32 ht2, rfl, by decide⟩
        | i + 2, hx => simp at hx
      have e1 : es[i]? = some (es[i]'(by omega)) := List.getElem?_eq_getElem _
      have e2 : es[i + 2]? = some (es[i + 2]'(by omega)) := List.getElem?_eq_getElem _
      obtain ⟨a, ea, la⟩ := ein _ (List.mem_of_getElem? e1)
      obtain ⟨b, eb, lb⟩ := ein _ (List.mem_of_getElem? e2)
      rw [ea] at e1
      rw [eb] at e2
      have ab : a ≠ b := fun h => by
        rw [← h] at e2
        have := (List.getElem?_inj (by omega) nde).mp (e1.trans e2.symm)
        omega
      have x1 : rm[a]? = some rm[a] := List.getElem?_eq_getElem la
      have y1 : rm[b]? = some rm[b] := List.getElem?_eq_getElem lb
      have xy : rm[a] ≠ rm[b] := fun h => ab ((List.getElem?_inj la ok.rnd).mp (by rw [x1, y1, h]))
      have xin := ok.rin _ (List.mem_of_getElem? x1)
      have yin := ok.rin _ (List.mem_of_getElem? y1)
      generalize rm[a] = xa at *
      generalize rm[b] = yb at *
      have h4' := kp _ _ e34.symm h4s
      have h8' := kp _ _ n38 h8s
      have ncr : nm' ∈ crS := List.mem_of_getElem? hnm
      have nnp := okN nm' ncr
      have cnd : crS.Nodup := by decide
      have nnt : nm' ∉ crS.take i := take_mem cnd hnm
      have lim1 : pl ++ crS.take (i + 1) = (pl ++ crS.take i) ++ [nm'] := by rw [take_snoc hnm, List.append_assoc]
      have nnl : nm' ∉ pl ++ crS.take i := fun h => by
        rcases List.mem_append.mp h with h | h
        · exact nnp h
        · exact nnt h
      have tok2 : TsOk (pl ++ crS.take (i + 1)) (ts' ++ [xa, yb].map (tp nm')) := (tok'.mono fun z hz => by rw [lim1]; exact List.mem_append_left _ hz).fan (by rw [lim1]; exact List.mem_append_right _ (List.mem_singleton.mpr rfl)) (fun e he => by
          have hp : e ∈ pl := by
            rcases List.mem_cons.mp he with rfl | he
            · exact xin
            · rw [List.mem_singleton.mp he]
              exact yin
          exact ⟨List.mem_append_left _ hp, fun q => nnp (q ▸ hp)⟩) (by simp [xy]) (fun e he hm => by
          obtain ⟨k1, k2, _⟩ := tok'.ok _ hm
          rcases tp_cases nm' e with q | q <;> rw [q] at k1 k2
          · exact nnl k1
          · exact nnl k2)
      have tok3 : TsOk (pl ++ crS.take (i + 1)) (ts' ++ ([tp xa nm'] ++ [tp yb nm'])) := by
        have h := tok2
        rw [show [xa, yb].map (tp nm') = [tp xa nm'] ++ [tp yb nm'] from by simp only [List.map_cons, List.map_nil, tp_swap nm']; rfl] at h
        exact h
      have len2 := tok2.len (by
        rw [List.length_append, List.length_take]
        have : crS.length = 2 := rfl
        omega)
      refine ⟨ti, _, rfl, SqT.of hti, rfl, _, _, rfl, _, _, rfl, rfl, ?_⟩
      refine ⟨_, rfl, .inl ⟨rfl, _, SqL.of h3'⟩, _, rfl, _, rfl, _, rfl, q8, _, (i : Int), _, rfl, rfl, SqL.of h8', atI_nat (by rw [List.getElem?_map, e1]; rfl), r4, _, (a : Int), .str xa, rfl, rfl, SqL.of h4', atI_nat (by rw [List.getElem?_map, x1]; rfl), _, rfl, xa, nm', rfl, fun u nu => ?_⟩
      have nuH := F'.free nu
      have hu : (upd H' u (.tup [.str (tp xa nm').1, .str (tp xa nm').2])) u = some (.tup [.str (tp xa nm').1, .str (tp xa nm').2]) := upd_same
      refine ⟨_, rfl, _, rfl, _, rfl, _, _, rfl, rfl, q8, _, ((i + 2 : Nat) : Int), _, rfl, rfl, SqL.of (new_same nu _ _ h8'), atI_nat (by rw [List.getElem?_map, e2]; rfl), r4, _, (b : Int), .str yb, rfl, rfl, SqL.of (new_same nu _ _ h4'), atI_nat (by rw [List.getElem?_map, y1]; rfl), _, rfl, yb, nm', rfl, fun v nv => ⟨by show 2 ≤ sizeLine; decide, fun w nw => ?_⟩⟩
      have S' := (new_same (o := .tup [.str (tp xa nm').1, .str (tp xa nm').2]) nu).trans ((new_same (o := .tup [.str (tp yb nm').1, .str (tp yb nm').2]) nv).trans (new_same (o := .lst [.ref u, .ref v]) nw))
      have hu3 := new_same nw (o := .lst [.ref u, .ref v]) _ _ (new_same nv (o := .tup [.str (tp yb nm').1, .str (tp yb nm').2]) _ _ hu)
      have hv3 := new_same nw (o := .lst [.ref u, .ref v]) _ _ (upd_same (a := v) (o := .tup [.str (tp yb nm').1, .str (tp yb nm').2]) (H := upd H' u (.tup [.str (tp xa nm').1, .str (tp xa nm').2])))
      have nvH := F'.free ((new_same nu).free nv)
      have h33 := S' _ _ h3'
      have n3w : r3 ≠ w := ne_of_none (new_same nv _ _ (new_same nu _ _ h3')) nw
      refine ⟨r3, w, tv', _, rfl, rfl, h33, upd_same, ?_, ?_⟩
      · have h1 := pt'.1
        rw [List.length_append] at len2
        have h3 : 5000 < sizeLine := by decide
        show tv'.length + 2 ≤ sizeLine
        omega
      · have pt2 : PrsAt _ tv' ts' := pt'.mono fun t xs e => S' _ _ e
        have pt3 := prs_snoc (prs_snoc pt2 hu3) hv3
        rw [List.append_assoc, List.append_assoc] at pt3
        refine ⟨_, _, _, _, rfl, upd_same, prs_upd pt3 (fun xs e => by rw [h33] at e; cases e), tok3, ?_, ?_, ?_⟩
        · intro t' ht'
          rcases List.mem_append.mp ht' with h | h
          · exact fr' t' h
          · rcases List.mem_cons.mp h with h | h
            · cases h
              exact .inr nuH
            · cases List.mem_singleton.mp h
              exact .inr nvH
        · intro c o hc e
          rw [upd_ne hc]
          exact S' _ _ (kp c o hc e)
        · exact (F'.same S').put n3
    · rintro σ H' ⟨v6, v7, tv', ts', rfl, h3', pt', tok', fr', kp, F'⟩
      have h2' := kp _ _ e32.symm h2s
      have h4' := kp _ _ e34.symm h4s
      refine ⟨_, rfl, by show 2 ≤ sizeLine; decide, fun a na => ⟨r2, a, _, _, rfl, rfl, new_same na _ _ h2', upd_same, ?_, fun b nb => ?_⟩⟩
      · rw [List.length_map]
        exact Nat.le_of_lt (small1000 (by show pl.length + 2 ≤ 1000; omega))
      · have Sb := (new_same (o := .lst [.str "cr0ss", .str "cr1ss"]) na).trans (new_same (o := .lst (pl.map V.str ++ [.str "cr0ss", .str "cr1ss"])) nb)
        have nbH := F'.free ((new_same na).free nb)
        refine ⟨_, rfl, r3, tv', ts', rfl, SqL.of (Sb _ _ h3'), pt'.mono fun t xs e => Sb _ _ e, fun aT' ys nT' pyy hy => ⟨_, rfl, by show 3 ≤ sizeLine; decide, fun r nr => ?_⟩⟩
        have Fb := F'.same Sb
        have FT := Fb.put (Fb.free nT') (o := .lst ys)
        have e2 : (pl.map V.str ++ [.str "cr0ss", .str "cr1ss"]) = ((pl ++ crS).map V.str) := by rw [List.map_append]; rfl
        have etk : crS.take ([V.ref t1, V.ref t2].length) = crS := rfl
        rw [etk] at tok'
        refine k r (pl ++ crS) (sortPr ts') rm _ (FT.put (FT.free nr)) ⟨b, aT', r4, ys, upd_same, ?_, new_same nr _ _ upd_same, prs_upd (prs_upd (hy) (fun xs e => by rw [nT'] at e; cases e)) (fun xs e => by rw [nr] at e; cases e), new_same nr _ _ (new_same nT' _ _ (Sb _ _ h4')), .inr (FT.free nr), .inr nbH, .inr (Fb.free nT'), .inr n4, fun t ht => fr' t (pyy.mem_iff.mp ht)⟩ ⟨?_, ?_, ?_, tok'.perm (sortPr_perm ts'), ok.rnd, fun z hz => List.mem_append_left _ (ok.rin z hz)⟩
        · rw [← e2]
          exact new_same nr _ _ (new_same nT' _ _ upd_same)
        · exact List.nodup_append.mpr ⟨ok.nd, by decide, fun x hx y hy e => okN y hy (e ▸ hx)⟩
        · intro z hz
          rcases List.mem_append.mp hz with hz | hz
          · exact ok.nm z hz
          · exact of_decide_eq_true (List.all_eq_true.mp crS_in z hz)
        · rw [List.length_append]
          show pl.length + 2 ≤ 44
          omega
end
end E1

set_option Elab.async false
set_option linter.all false
set_option maxRecDepth 100000
set_option maxHeartbeats 8000000
/-! Raw boards: any of these. -/
namespace E1
open PySem PySem.Spec PyProof.Rows L2 G0
abbrev N_a_board : List Str := ["_law_stream", "_law_many", "_law_way", "_law_size"]
theorem sc_a_board : FnScope N_a_board ["_law_stream", "_law_many"] (defScope (topS 39)) := ⟨rfl, rfl, rfl, by decide +kernel, rfl, by decide +kernel, by decide +kernel⟩
def spABoard : Sp := fun vs H Q _ => ∃ (p l : Addr) (n m : Nat), vs = [.ref p, .int (m : Int)] ∧ Stm H p l n ∧ n < 350000 ∧ m ≤ 30 ∧
  ∀ (r : Addr) (pl : List Str) (ts : List Pr) (rm : List Str) (H' : Hp), Fr H p l (n + 31300) H' → RawAt (fun c => H c = none) H' r pl ts rm → RawOk pl ts rm → Q (.ref r) H'
section
variable {P : Program} {w : World} {K : PySem.W.Frag} {mg : Str → Option Value} {base : Heap}
theorem bABoard (Z : LawD K mg) : Binds K (Z.d 39) ["_law_stream", "_law_many"] [] := (Z.F 39 (by decide)).binds fun _ _ _ _ _ _ us hl => match us, hl with | [_, _], _ => rfl
theorem ok_a_board (Z : LawD K mg) : FnOk P w K mg base CX0 5 (Z.f 39) (Z.d 39) ["_law_stream", "_law_many"] spABoard := by
  have GD : FnOk P w K mg base CX0 1 Z.s.fD Z.s.dD ["_law_stream", "_law_many"] spDr := ok_dr Z.s
  have GA : FnOk P w K mg base CX0 4 (Z.f 33) (Z.d 33) ["_law_stream", "_law_many", "_law_pins", "_law_share"] spAny := ok_a_any Z
  have GF : FnOk P w K mg base CX0 4 (Z.f 37) (Z.d 37) ["_law_stream", "_law_many", "_law_pins", "_law_pieces"] spFlat := ok_a_flat Z
  have GC : FnOk P w K mg base CX0 3 (Z.f 38) (Z.d 38) ["_law_stream", "_law_raw"] spCrossed := ok_a_crossed Z
  refine Fun.ok (Z.F 39 (by decide)) sc_a_board (fun vs H Q E h => ?_) (fun cdv A outer s H vs Q E hr h => ⟨_, pss_cons (ps_par (i := 2) (j := 3) rfl sc_a_board.nd rfl rfl (by decide) rfl rfl (pa_cons (pe_call GD (hr.mono (by decide)) (by rfl) Z.s.gD Z.s.FD.kp (bDr Z.s) .nil pass0 (pa_cons (pv 0) (pa_cons pe_int pa_nil))) (pa_cons (pe_call GD (hr.mono (by decide)) (by rfl) Z.s.gD Z.s.FD.kp (bDr Z.s) .nil pass0 (pa_cons (pv 0) (pa_cons (pe_op op_add (pv 1) pe_int) pa_nil))) pa_nil)) (by rfl))
  (pss_cons (ps_if (PW.pt (pw_or (pt_cmpR op_eq (pv 2) pe_int (nomark _)) (pw_or1 (pt_cmpR op_lt (pv 3) pe_int (nomark _))))) (pss_one (ps_ret (pe_call GA (hr.mono (by decide)) (by rfl) (Z.g 33 (by decide)) (Z.F 33 (by decide)).kp (bAny Z) .nil pass0 (pa_cons (pv 0) (pa_cons (pv 3) (pa_cons (pe_call GD (hr.mono (by decide)) (by rfl) Z.s.gD Z.s.FD.kp (bDr Z.s) .nil pass0 (pa_cons (pv 0) (pa_cons (pe_op op_add (pv 3) pe_int) pa_nil))) (pa_cons (pe_op op_add pe_int (pe_call GD (hr.mono (by decide)) (by rfl) Z.s.gD Z.s.FD.kp (bDr Z.s) .nil pass0 (pa_cons (pv 0) (pa_cons pe_int pa_nil)))) pa_nil))))))) pss_nil)
  (pss_cons (ps_if (pt_cmpR op_lt (pv 2) pe_int (nomark _)) (pss_one (ps_ret (pe_call GF (hr.mono (by decide)) (by rfl) (Z.g 37 (by decide)) (Z.F 37 (by decide)).kp (bFlat Z) .nil pass0 (pa_cons (pv 0) (pa_cons (pv 3) (pa_cons (pe_op op_add pe_int (pe_call GD (hr.mono (by decide)) (by rfl) Z.s.gD Z.s.FD.kp (bDr Z.s) .nil pass0 (pa_cons (pv 0) (pa_cons (pe_op op_sub (pv 3) pe_int) pa_nil)))) (pa_cons (pe_call GD (hr.mono (by decide)) (by rfl) Z.s.gD Z.s.FD.kp (bDr Z.s) .nil pass0 (pa_cons (pv 0) (pa_cons pe_int pa_nil))) pa_nil))))))) pss_nil)
  (pss_one (ps_ret (pe_call GC (hr.mono (by decide)) (by rfl) (Z.g 38 (by decide)) (Z.F 38 (by decide)).kp (bCrossed Z) .nil pass0 (pa_cons (pv 0) (pa_cons (pe_call GF (hr.mono (by decide)) (by rfl) (Z.g 37 (by decide)) (Z.F 37 (by decide)).kp (bFlat Z) .nil pass0 (pa_cons (pv 0) (pa_cons (pv 3) (pa_cons (pe_op op_add pe_int (pe_call GD (hr.mono (by decide)) (by rfl) Z.s.gD Z.s.FD.kp (bDr Z.s) .nil pass0 (pa_cons (pv 0) (pa_cons (pe_op op_sub (pv 3) pe_int) pa_nil)))) (pa_cons pe_int pa_nil))))) pa_nil))))))), ?_⟩)
  · obtain ⟨p, l, n, m, rfl, _⟩ := h
    rfl
  · obtain ⟨p, l, n, m, rfl, S, hn, hm, k⟩ := h
    refine ⟨_, rfl, p, l, n, 4, rfl, S, by omega, by decide, by decide, fun wy H1 hw F1 => ⟨_, rfl, _, rfl, _, _, rfl, rfl, p, l, n + 1, m + 1, rfl, F1.st, by omega, by omega, by omega, fun sz H2 hs F2 => ⟨_, _, rfl, ?_⟩⟩⟩
    have F02 := F1.trans F2
    refine ⟨_, rfl, rfl, _, rfl, ite2 (fun c => iteT ?a1) (fun c => ⟨_, rfl, _, _, rfl, rfl, _, rfl, ite2 (fun c2 => ?a2) (fun c2 => ?rest)⟩)⟩
    case rest =>
      have s4 : 4 ≤ sz := by
        have := of_decide_eq_false (by simpa using c2 : decide ((sz : Int) < 4) = false)
        omega
      have e2 : ((sz : Int) - 2) = ((sz - 2 : Nat) : Int) := by omega
      have e3 : ((sz : Int) - 3) = ((sz - 3 : Nat) : Int) := by omega
      refine ⟨_, rfl, _, _, rfl, rfl, _, rfl, ite2 (fun c3 => ?_) (fun c3 => ?_)⟩
      · refine ⟨_, rfl, _, rfl, _, rfl, _, rfl, _, _, rfl, rfl, ?_⟩
        refine ⟨p, l, _, sz - 2, (by show [V.ref p, V.int ((sz : Int) - 2)] = _; rw [e2]), F02.st, by omega, by omega, by omega, fun d H3 hd F3 => ⟨_, _, rfl, rfl, _, rfl, p, l, _, 2, rfl, F3.st, by omega, by decide, by decide, fun pc H4 hp F4 => ?_⟩⟩
        have F04 := (F02.trans F3).trans F4
        exact ⟨p, l, _, sz, 3 + d, pc, rfl, F04.st, by omega, by omega, by omega, fun r pl ts rm H5 F5 raw ok _ _ _ => k r pl ts rm H5 ((F04.trans F5).mono (by omega)) (raw.weak fun c h => F04.free h) ok⟩
      · refine ⟨_, rfl, _, rfl, _, rfl, _, rfl, _, rfl, _, _, rfl, rfl, ?_⟩
        refine ⟨p, l, _, sz - 3, (by show [V.ref p, V.int ((sz : Int) - 3)] = _; rw [e3]), F02.st, by omega, by omega, by omega, fun d H3 hd F3 => ⟨_, _, rfl, rfl, ?_⟩⟩
        have F03 := F02.trans F3
        refine ⟨p, l, _, sz, 4 + d, 0, rfl, F03.st, by omega, by omega, by omega, fun r pl ts rm H5 F5 raw ok nm ll lr => ?_⟩
        have F05 := F03.trans F5
        exact ⟨p, l, r, _, _, pl, ts, rm, rfl, F05.st, by omega, raw.weak (fun c h => F03.free h), fun c h => F05.ne h, ok, nm, by omega, by omega, fun r2 pl2 ts2 rm2 H6 F6 raw2 ok2 => k r2 pl2 ts2 rm2 H6 ((F05.trans F6).mono (by omega)) (raw2.weak fun c h => h.elim id fun h => F05.free h) ok2⟩
    all_goals
      refine ⟨_, rfl, _, rfl, _, rfl, _, rfl, _, _, rfl, rfl, p, l, _, sz + 1, rfl, F02.st, by omega, by omega, by omega, fun d H3 hd F3 => ⟨_, rfl, p, l, _, 5, rfl, F3.st, by omega, by decide, by decide, fun sh H4 hsh F4 => ⟨_, _, rfl, rfl, ?_⟩⟩⟩
      have F04 := (F02.trans F3).trans F4
      exact ⟨p, l, _, sz, d, _, rfl, F04.st, by omega, by omega, fun r pl ts rm H5 F5 raw ok _ => k r pl ts rm H5 ((F04.trans F5).mono (by omega)) (raw.weak fun c h => F04.free h) ok⟩
end
end E1

set_option Elab.async false
set_option linter.all false
set_option maxRecDepth 100000
set_option maxHeartbeats 4000000
/-! A loose copy: lists and tuples at will. -/
namespace E1
open PySem PySem.Spec PyProof.Rows L2 G0
/-- what may be copied, nested no deeper than n, by no more than k draws -/
def Lq (C p l : Addr) (H : Hp) : Nat → V → Nat → Prop
  | 0 => fun v _ => Kn C H v ∧ itemsOf H v = none
  | n + 1 => fun v k => (Kn C H v ∧ itemsOf H v = none) ∨ ∃ a xs c, v = .ref a ∧ itemsOf H v = some xs ∧ a ≠ p ∧ a ≠ l ∧ xs.length ≤ 2000 ∧ (∀ x ∈ xs, Lq C p l H n x c) ∧ 1 + xs.length * c ≤ k
/-- w, in the heap H', is a loose copy of v in the heap H; N: where its lists and tuples lie -/
def Lz (C : Addr) (N : Addr → Prop) (H H' : Hp) (n : Nat) (v w : V) : Prop := match n with
  | 0 => w = v ∧ Kn C H v ∧ itemsOf H v = none
  | n + 1 => (w = v ∧ Kn C H v ∧ itemsOf H v = none) ∨ ∃ xs ys a, itemsOf H v = some xs ∧ w = .ref a ∧ (H' a = some (.lst ys) ∨ H' a = some (.tup ys)) ∧ N a ∧ xs.length = ys.length ∧ ∀ (i : Nat) (x y : V), xs[i]? = some x → ys[i]? = some y → Lz C (fun c => N c ∧ c ≠ a) H H' n x y
theorem Lz.frame {C : Addr} {H H' H2 : Hp} : ∀ {n : Nat} {N : Addr → Prop} {v w : V}, (∀ c o, N c → H' c = some o → H2 c = some o) → Lz C N H H' n v w → Lz C N H H2 n v w
  | 0, _, _, _, _, h => h
  | n + 1, _, _, _, S, h => by
    rcases h with h | ⟨xs, ys, a, h1, h2, h3, h4, h5, h6⟩
    · exact .inl h
    · exact .inr ⟨xs, ys, a, h1, h2, h3.elim (fun e => .inl (S _ _ h4 e)) (fun e => .inr (S _ _ h4 e)), h4, h5, fun i x y e1 e2 => Lz.frame (fun c o hc e => S c o hc.1 e) (h6 i x y e1 e2)⟩
/-- its addresses are there -/
theorem Lz.weak {C : Addr} {H H' : Hp} : ∀ {n : Nat} {N N' : Addr → Prop} {v w : V}, (∀ c, N c → (∃ o, H' c = some o) → N' c) → Lz C N H H' n v w → Lz C N' H H' n v w
  | 0, _, _, _, _, _, h => h
  | n + 1, _, _, _, _, S, h => by
    rcases h with h | ⟨xs, ys, a, h1, h2, h3, h4, h5, h6⟩
    · exact .inl h
    · exact .inr ⟨xs, ys, a, h1, h2, h3, S _ h4 (h3.elim (fun e => ⟨_, e⟩) fun e => ⟨_, e⟩), h5, fun i x y e1 e2 => Lz.weak (fun c hc ho => ⟨S c hc.1 ho, hc.2⟩) (h6 i x y e1 e2)⟩
theorem kn_but {C p l : Addr} {H H1 : Hp} {v : V} {n : Nat} (k : Kn C H v) (e : itemsOf H v = none) (S : Stm H p l n) (B : But2 H H1 p l) : Kn C H1 v ∧ itemsOf H1 v = none := by
  obtain ⟨⟨xs, hp⟩, ys, hl⟩ := S.at_
  cases k with
  | non => exact ⟨.non, rfl⟩
  | bl b => exact ⟨.bl b, rfl⟩
  | int i => exact ⟨.int i, rfl⟩
  | str x => exact ⟨.str x, rfl⟩
  | lst h => rw [items_at.mpr (.inl h)] at e; cases e
  | tup h => rw [items_at.mpr (.inr h)] at e; cases e
  | @dic a kvs h =>
    have h1 := B _ _ h (ne_of h hp (fun z => by cases z)) (ne_of h hl (fun z => by cases z))
    exact ⟨.dic h1, by simp only [itemsOf, h1]⟩
  | @own a dx fs h =>
    have h1 := B _ _ h (ne_of h hp (fun z => by cases z)) (ne_of h hl (fun z => by cases z))
    exact ⟨.own h1, by simp only [itemsOf, h1]⟩
theorem items_but {p l a : Addr} {H H1 : Hp} {xs : List V} (e : itemsOf H (.ref a) = some xs) (B : But2 H H1 p l) (h1 : a ≠ p) (h2 : a ≠ l) : itemsOf H1 (.ref a) = some xs :=
  items_at.mpr ((items_at.mp e).elim (fun h => .inl (B _ _ h h1 h2)) fun h => .inr (B _ _ h h1 h2))
theorem Lq.but {C p l : Addr} {H H1 : Hp} {m : Nat} (S : Stm H p l m) (B : But2 H H1 p l) : ∀ {n : Nat} {v : V} {k : Nat}, Lq C p l H n v k → Lq C p l H1 n v k
  | 0, _, _, h => kn_but h.1 h.2 S B
  | n + 1, _, _, h => by
    rcases h with h | ⟨a, xs, c, rfl, h1, h2, h3, h4, h5, h6⟩
    · exact .inl (kn_but h.1 h.2 S B)
    · exact .inr ⟨a, xs, c, rfl, items_but h1 B h2 h3, h2, h3, h4, fun x hx => Lq.but S B (h5 x hx), h6⟩
theorem Lz.old {C p l : Addr} {H H1 H' : Hp} {m : Nat} (S : Stm H p l m) (B : But2 H H1 p l) : ∀ {n : Nat} {N : Addr → Prop} {v w : V} {k : Nat}, Lq C p l H n v k → Lz C N H1 H' n v w → Lz C N H H' n v w
  | 0, _, _, _, _, h, g => ⟨g.1, h⟩
  | n + 1, _, _, _, _, h, g => by
    rcases h with h | ⟨a, xs, c, rfl, h1, h2, h3, h4, h5, h6⟩
    · rcases g with g | ⟨xs, ys, a, g1, _⟩
      · exact .inl ⟨g.1, h⟩
      · rw [(kn_but h.1 h.2 S B).2] at g1
        cases g1
    · rcases g with g | ⟨xs', ys, b, g1, g2, g3, g4, g5, g6⟩
      · rw [items_but h1 B h2 h3] at g
        cases g.2.2
      · rw [items_but h1 B h2 h3] at g1
        cases g1
        exact .inr ⟨xs, ys, b, h1, g2, g3, g4, g5, fun i x y e1 e2 => Lz.old S B (h5 x (List.mem_of_getElem? e1)) (g6 i x y e1 e2)⟩
theorem seq_test {K : PySem.W.Frag} {C : Addr} {H H' : Hp} {v : V} (O : OwnC K C) (k : Kn C H v) (S : Same H H') : ∃ t, TyX K H' v t ∧ PySem.W.kitAny K t [.type "list", .type "tuple"] = some (itemsOf H v).isSome := by
  obtain ⟨k1, k2⟩ := k.same S
  obtain ⟨ty, h1, h2⟩ := kn_seq O k1
  refine ⟨ty, h1, ?_⟩
  rw [h2]
  unfold isSeq
  rw [k2]
  exact congrArg some (kn_items k)
theorem items_kn {C : Addr} {H : Hp} {a : Addr} {xs : List V} (e : itemsOf H (.ref a) = some xs) : Kn C H (.ref a) := (items_at.mp e).elim (fun h => .lst h) fun h => .tup h
theorem small1000' {n : Nat} (h : n ≤ 2000) : n < sizeLine := Nat.lt_of_le_of_lt h (by decide)
abbrev N_loose : List Str := ["_law_stream", "_law_thing", "_law_found", "_law_part"]
theorem sc_loose : FnScope N_loose ["_law_stream", "_law_thing"] (defScope (topS 50)) := ⟨rfl, rfl, rfl, by decide +kernel, rfl, by decide +kernel, by decide +kernel⟩
def spLoose (C : Addr) (n : Nat) : Sp := fun vs H Q _ => ∃ (p l : Addr) (m k : Nat) (v : V), vs = [.ref p, v] ∧ Stm H p l m ∧ m + k < 800000 ∧ Lq C p l H n v k ∧ ∀ w H', Lz C (fun c => H c = none) H H' n v w → Fr H p l (m + k) H' → Q w H'
section
variable {P : Program} {w : World} {K : PySem.W.Frag} {mg : Str → Option Value} {base : Heap}
theorem bLoose (Z : LawD K mg) : Binds K (Z.d 50) ["_law_stream", "_law_thing"] [] := (Z.F 50 (by decide)).binds fun _ _ _ _ _ _ us hl => match us, hl with | [_, _], _ => rfl
theorem ok_loose (Z : LawD K mg) : ∀ n, FnOk P w K mg base CX0 (n + 2) (Z.f 50) (Z.d 50) ["_law_stream", "_law_thing"] (spLoose Z.B.C n)
  | 0 => by
    have GD : FnOk P w K mg base CX0 1 Z.s.fD Z.s.dD ["_law_stream", "_law_many"] spDr := ok_dr Z.s
    refine Fun.ok (Z.F 50 (by decide)) sc_loose (fun vs H Q E h => ?_) (fun cdv A outer s H vs Q E hr h => ⟨_, pss_cons (ps_if (pt_not (pt_val (pe_callB call_isiT (by rfl) Z.t.isinstance (by decide +kernel) (pa_cons (pv 1) (pa_cons (pe_tup (pa_cons (pe_bltn (by rfl) Z.t.list PyProof.Rows.boot_list (v := .ty "list") rfl) (pa_cons (pe_bltn (by rfl) Z.t.tuple boot_tuple (v := .ty "tuple") rfl) pa_nil))) pa_nil))))) (pss_one (ps_ret (pv 1))) pss_nil)
      (pss_cons (ps_setLc (i := 2) (own := [("_law_part", 3)]) (tt := tYes) rfl sc_loose.nd rfl rfl (by rfl) (pi_seqQ (pv 1)) (blkOk_by (own := [("_law_part", 3)]) (N := N_loose) (sc := defScope (topS 50)) (by decide +kernel)) (fun _ _ _ _ _ => (pg_name (i := 3) sc_loose.nd rfl (Or.inl rfl))) (fun _ _ _ _ _ => pts_nil) (fun _ _ _ _ _ => pe_dead))
      (pss_one (ps_ret (pe_ifExp (pt_cmpR op_eq (pe_call GD hr (by rfl) Z.s.gD Z.s.FD.kp (bDr Z.s) .nil pass0 (pa_cons (pv 0) (pa_cons pe_int pa_nil))) pe_int (nomark _)) (pv 2) (pe_callTy call_tuple_of (by rfl) Z.t.tuple boot_tuple (pa_cons (pv 2) pa_nil)))))), ?_⟩)
    · obtain ⟨p, l, m, k, v, rfl, _⟩ := h
      rfl
    · obtain ⟨p, l, m, k, v, rfl, S, hm, hv, kk⟩ := h
      refine ⟨_, rfl, by show 2 ≤ sizeLine; decide, fun t nt => ?_⟩
      obtain ⟨ty, h1, h2⟩ := seq_test Z.B.O hv.1 (new_same (o := .tup [.ty "list", .ty "tuple"]) nt)
      rw [hv.2] at h2
      refine ⟨v, t, _, ty, _, _, rfl, upd_same, .cons (.ty _) (.cons (.ty _) .nil), h1, h2, _, rfl, iteT ⟨_, rfl, ?_⟩⟩
      exact kk v _ ⟨rfl, hv⟩ ((S.fr.put nt).mono (by omega))
  | n + 1 => by
    have GD : FnOk P w K mg base CX0 1 Z.s.fD Z.s.dD ["_law_stream", "_law_many"] spDr := ok_dr Z.s
    have GL : FnOk P w K mg base CX0 (n + 2) (Z.f 50) (Z.d 50) ["_law_stream", "_law_thing"] (spLoose Z.B.C n) := ok_loose Z n
    refine Fun.ok (Z.F 50 (by decide)) sc_loose (fun vs H Q E h => ?_) (fun cdv A outer s H vs Q E hr h => ⟨_, pss_cons (ps_if (pt_not (pt_val (pe_callB call_isiT (by rfl) Z.t.isinstance (by decide +kernel) (pa_cons (pv 1) (pa_cons (pe_tup (pa_cons (pe_bltn (by rfl) Z.t.list PyProof.Rows.boot_list (v := .ty "list") rfl) (pa_cons (pe_bltn (by rfl) Z.t.tuple boot_tuple (v := .ty "tuple") rfl) pa_nil))) pa_nil))))) (pss_one (ps_ret (pv 1))) pss_nil)
      (pss_cons (ps_setLc (i := 2) (own := [("_law_part", 3)]) (tt := tYes) rfl sc_loose.nd rfl rfl (by rfl) (pi_seqQ (pv 1)) (blkOk_by (own := [("_law_part", 3)]) (N := N_loose) (sc := defScope (topS 50)) (by decide +kernel)) (fun _ _ _ _ _ => (pg_name (i := 3) sc_loose.nd rfl (Or.inl rfl))) (fun _ _ _ _ _ => pts_nil) (fun _ _ _ _ _ => (pe_call GL hr (by rfl) (Z.g 50 (by decide)) (Z.F 50 (by decide)).kp (bLoose Z) .nil pass0 (pa_cons (pv 0) (pa_cons (pv 3) pa_nil)))))
      (pss_one (ps_ret (pe_ifExp (pt_cmpR op_eq (pe_call GD (hr.mono (by omega)) (by rfl) Z.s.gD Z.s.FD.kp (bDr Z.s) .nil pass0 (pa_cons (pv 0) (pa_cons pe_int pa_nil))) pe_int (nomark _)) (pv 2) (pe_callTy call_tuple_of (by rfl) Z.t.tuple boot_tuple (pa_cons (pv 2) pa_nil)))))), ?_⟩)
    · obtain ⟨p, l, m, k, v, rfl, _⟩ := h
      rfl
    · obtain ⟨p, l, m, k, v, rfl, S, hm, hv, kk⟩ := h
      refine ⟨_, rfl, by show 2 ≤ sizeLine; decide, fun t nt => ?_⟩
      have ST := new_same (o := .tup [.ty "list", .ty "tuple"]) nt
      have FT : Fr H p l m (upd H t (.tup [.ty "list", .ty "tuple"])) := S.fr.put nt
      rcases hv with hv | ⟨a, xs, c, rfl, e1, ap, al, lx, hx, hc⟩
      · obtain ⟨ty, h1, h2⟩ := seq_test Z.B.O hv.1 ST
        rw [hv.2] at h2
        refine ⟨v, t, _, ty, _, _, rfl, upd_same, .cons (.ty _) (.cons (.ty _) .nil), h1, h2, _, rfl, iteT ⟨_, rfl, ?_⟩⟩
        exact kk v _ (.inl ⟨rfl, hv⟩) (FT.mono (by omega))
      obtain ⟨ty, h1, h2⟩ := seq_test Z.B.O (items_kn (C := Z.B.C) e1) ST
      rw [e1] at h2
      refine ⟨.ref a, t, _, ty, _, _, rfl, upd_same, .cons (.ty _) (.cons (.ty _) .nil), h1, h2, _, rfl, iteF ?_⟩
      refine ⟨_, rfl, a, xs, rfl, lc_seqQ2 (items_Q (K := K) (items_same ST e1)) fun D hD => ?_⟩
      have nD := FT.free hD
      refine ⟨fun i H' => ∃ ys, H' D = some (.lst ys) ∧ ys.length = i ∧ (∀ (j : Nat) (x y : V), xs[j]? = some x → ys[j]? = some y → Lz Z.B.C (fun c => H c = none ∧ c ≠ D) H H' n x y) ∧ Fr H p l (m + i * c) H', ⟨[], upd_same, rfl, (fun j x y _ h => by simp at h), (FT.put nD).mono (by omega)⟩, ?_, ?_, ?_⟩
      · rintro i H' _ ⟨ys, _, _, _, F'⟩
        have key := items_but e1 F'.but ap al
        have keyT := items_same ST e1
        have hh : (upd H t (.tup [.ty "list", .ty "tuple"])) a = H' a := by
          rcases items_at.mp e1 with h | h
          · rw [ST _ _ h, F'.but _ _ h ap al]
          · rw [ST _ _ h, F'.but _ _ h ap al]
        refine ⟨fun zs h => ?_, fun zs h => ?_⟩
        · rcases h with (h | ⟨o, h⟩) | h
          · exact .inl (.inl (hh ▸ h))
          · exact .inl (.inr ⟨o, hh ▸ h⟩)
          · exact .inr h
        · rcases h with (h | ⟨o, h⟩) | h
          · exact .inl (.inl (hh ▸ h))
          · exact .inl (.inr ⟨o, hh ▸ h⟩)
          · exact .inr h
      · rintro i x H' hxi ⟨ys, hys, ly, hz, F'⟩
        have il := (List.getElem?_eq_some_iff.mp hxi).1
        have hx' := hx x (List.mem_of_getElem? hxi)
        have hm1 : (i + 1) * c ≤ xs.length * c := Nat.mul_le_mul_right c il
        rw [Nat.succ_mul] at hm1
        refine ⟨rfl, yes_of ⟨_, rfl, _, rfl, p, l, m + i * c, c, x, rfl, F'.st, by omega, hx'.but S F'.but, fun w H2 hw F2 => ?_⟩⟩
        have hys2 := F'.keep F2 nD hys
        refine ⟨ys, hys2, small1000' (by omega), ys ++ [w], upd_same, by rw [List.length_append, ly]; rfl, ?_, ?_⟩
        · intro j x' y h1 h2
          refine Lz.frame (H' := H2) (fun c' o hc' e => by rw [upd_ne hc'.2]; exact e) ?_
          rcases Nat.lt_trichotomy j ys.length with l | l | l
          · rw [List.getElem?_append_left l] at h2
            exact (hz j x' y h1 h2).frame fun c' o hc' e => F'.keep F2 hc'.1 e
          · rw [l, ly, hxi] at h1
            cases h1
            rw [List.getElem?_append_right (by omega), l, Nat.sub_self] at h2
            cases h2
            exact (Lz.old S F'.but hx' hw).weak fun c' hc' _ => ⟨F'.free hc', fun z => by rw [z, hys] at hc'; cases hc'⟩
          · rw [List.getElem?_eq_none (by rw [List.length_append]; simp; omega)] at h2
            cases h2
        · refine ((F'.trans F2).put nD).mono ?_
          rw [Nat.succ_mul]
          omega
      · rintro H' ⟨ys, hys, ly, hz, F'⟩
        refine ⟨_, rfl, p, l, _, 3, rfl, F'.st, by omega, by decide, by decide, fun r H3 hr3 F3 => ⟨rfl, _, rfl, ?_⟩⟩
        have hys3 := F'.keep F3 nD hys
        have F13 := F'.trans F3
        have hz3 : ∀ (j : Nat) (x y : V), xs[j]? = some x → ys[j]? = some y → Lz Z.B.C (fun c => H c = none ∧ c ≠ D) H H3 n x y := fun j x y h1 h2 => (hz j x y h1 h2).frame fun c' o hc' e => F'.keep F3 hc'.1 e
        refine ite2 (fun _ => ⟨_, rfl, ?_⟩) (fun _ => ⟨_, rfl, D, ys, rfl, .inl ⟨SqL.of hys3, fun t2 nt2 => ?_⟩⟩)
        · exact kk (.ref D) H3 (.inr ⟨xs, ys, D, e1, rfl, .inl hys3, nD, ly.symm, hz3⟩) (F13.mono (by omega))
        · have n2 := F13.free nt2
          refine kk (.ref t2) _ (.inr ⟨xs, ys, t2, e1, rfl, .inr upd_same, n2, ly.symm, fun j x y h1 h2 => ?_⟩) ((F13.put n2).mono (by omega))
          exact ((hz3 j x y h1 h2).weak (N' := fun c => H c = none ∧ c ≠ t2) fun c hc ho => ⟨hc.1, fun z => by
            obtain ⟨o, ho⟩ := ho
            rw [z, nt2] at ho
            cases ho⟩).frame fun c' o _ e => new_same nt2 _ _ e
end
end E1


set_option Elab.async false
set_option linter.all false
set_option maxRecDepth 100000
set_option maxHeartbeats 8000000
/-! A board made of a raw one. -/
namespace E1
open PySem PySem.Spec PyProof.Rows L2 G0
/-- a list or a tuple of texts; N: where it lies -/
def HP (N : Addr → Prop) (H : Hp) (v : V) (ss : List Str) : Prop := ∃ a, v = .ref a ∧ itemsOf H v = some (ss.map V.str) ∧ N a
/-- a list or a tuple of pairs, either way about -/
def HT (N : Addr → Prop) (H : Hp) (v : V) (ps : List Pr) : Prop := ∃ a xs, v = .ref a ∧ itemsOf H v = some xs ∧ xs.length = ps.length ∧ N a ∧
  ∀ (j : Nat) (x : V) (q : Pr), xs[j]? = some x → ps[j]? = some q → ∃ u y z, x = .ref u ∧ itemsOf H x = some [.str y, .str z] ∧ tp y z = q ∧ N u
theorem itemsF {N : Addr → Prop} {H H' : Hp} {a : Addr} {xs : List V} (e : itemsOf H (.ref a) = some xs) (n : N a) (S : ∀ c o, N c → H c = some o → H' c = some o) : itemsOf H' (.ref a) = some xs :=
  items_at.mpr ((items_at.mp e).elim (fun h => .inl (S _ _ n h)) fun h => .inr (S _ _ n h))
theorem HP.frame {N : Addr → Prop} {H H' : Hp} {v : V} {ss : List Str} (h : HP N H v ss) (S : ∀ c o, N c → H c = some o → H' c = some o) : HP N H' v ss := by
  obtain ⟨a, rfl, e, n⟩ := h
  exact ⟨a, rfl, itemsF e n S, n⟩
theorem HT.frame {N : Addr → Prop} {H H' : Hp} {v : V} {ps : List Pr} (h : HT N H v ps) (S : ∀ c o, N c → H c = some o → H' c = some o) : HT N H' v ps := by
  obtain ⟨a, xs, rfl, e, l, n, k⟩ := h
  exact ⟨a, xs, rfl, itemsF e n S, l, n, fun j x q e1 e2 => by
    obtain ⟨u, y, z, rfl, e4, e5, e6⟩ := k j x q e1 e2
    exact ⟨u, y, z, rfl, itemsF e4 e6 S, e5, e6⟩⟩
theorem HP.weak {N N' : Addr → Prop} {H : Hp} {v : V} {ss : List Str} (h : HP N H v ss) (k : ∀ c, N c → N' c) : HP N' H v ss := by
  obtain ⟨a, rfl, e, n⟩ := h
  exact ⟨a, rfl, e, k _ n⟩
theorem HT.weak {N N' : Addr → Prop} {H : Hp} {v : V} {ps : List Pr} (h : HT N H v ps) (k : ∀ c, N c → N' c) : HT N' H v ps := by
  obtain ⟨a, xs, rfl, e, l, n, kk⟩ := h
  exact ⟨a, xs, rfl, e, l, k _ n, fun j x q e1 e2 => by
    obtain ⟨u, y, z, rfl, e4, e5, e6⟩ := kk j x q e1 e2
    exact ⟨u, y, z, rfl, e4, e5, k _ e6⟩⟩
theorem HP.lst {N : Addr → Prop} {H : Hp} {a : Addr} {ss : List Str} (h : H a = some (.lst (ss.map V.str))) (n : N a) : HP N H (.ref a) ss := ⟨a, rfl, items_at.mpr (.inl h), n⟩
theorem HT.lst {N : Addr → Prop} {H : Hp} {a : Addr} {tv : List V} {ps : List Pr} (h : H a = some (.lst tv)) (pt : PrsAt H tv ps) (lt : ∀ q ∈ ps, ltS q.1 q.2 = true) (n : N a) (n2 : ∀ t, V.ref t ∈ tv → N t) : HT N H (.ref a) ps := ⟨a, tv, rfl, items_at.mpr (.inl h), pt.1, n, fun j x q e1 e2 => by
  obtain ⟨t, rfl, ht⟩ := pt.2 j x q e1 e2
  exact ⟨t, q.1, q.2, rfl, items_at.mpr (.inr ht), tp_self (lt q (List.mem_of_getElem? e2)), n2 t (List.mem_of_getElem? e1)⟩⟩
theorem prs_perm {H : Hp} {vs ws : List V} {ps : List Pr} (h : PrsAt H vs ps) (p : ws.Perm vs) : ∃ qs : List Pr, qs.Perm ps ∧ PrsAt H ws qs := by
  let f : V → Pr := fun v => match v with
    | .ref t => match H t with
      | some (.tup [.str a, .str b]) => (a, b)
      | _ => default
    | _ => default
  have hf : ∀ (i : Nat) (v : V) (q : Pr), vs[i]? = some v → ps[i]? = some q → f v = q := fun i v q e1 e2 => by
    obtain ⟨t, rfl, ht⟩ := h.2 i v q e1 e2
    simp only [f, ht]
  have e : ps = vs.map f := by
    refine List.ext_getElem? fun i => ?_
    rw [List.getElem?_map]
    rcases Nat.lt_or_ge i vs.length with l | l
    · have l2 : i < ps.length := by rw [← h.1]; exact l
      rw [List.getElem?_eq_getElem l, List.getElem?_eq_getElem l2]
      exact congrArg some (hf i _ _ (List.getElem?_eq_getElem l) (List.getElem?_eq_getElem l2)).symm
    · rw [List.getElem?_eq_none l, List.getElem?_eq_none (by rw [← h.1]; exact l)]
      rfl
  refine ⟨ws.map f, by rw [e]; exact p.map f, by rw [List.length_map], fun i v q e1 e2 => ?_⟩
  rw [List.getElem?_map, e1] at e2
  have e2' : f v = q := by injection e2
  obtain ⟨j, hj⟩ := List.getElem?_of_mem (p.mem_iff.mp (List.mem_of_getElem? e1))
  have l2 : j < ps.length := by rw [← h.1]; exact (List.getElem?_eq_some_iff.mp hj).1
  obtain ⟨t, et, ht⟩ := h.2 j v _ hj (List.getElem?_eq_getElem l2)
  have := hf j v _ hj (List.getElem?_eq_getElem l2)
  rw [← e2', this]
  exact ⟨t, et, ht⟩
theorem nameB_len {z : Str} (h : nameB z = true) : z.length ≤ 1000 := by
  unfold nameB at h
  simp only [Bool.and_eq_true, decide_eq_true_eq] at h
  omega
theorem HP.kn {N : Addr → Prop} {C : Addr} {H : Hp} {v : V} {ss : List Str} (h : HP N H v ss) : Kn C H v := by
  obtain ⟨a, rfl, e, _⟩ := h
  exact items_kn e
theorem HT.kn {N : Addr → Prop} {C : Addr} {H : Hp} {v : V} {ps : List Pr} (h : HT N H v ps) : Kn C H v := by
  obtain ⟨a, xs, rfl, e, _⟩ := h
  exact items_kn e
/-- Board(p, t, r) of right things -/
theorem made_ok {N N2 N3 : Addr → Prop} {mg : Str → Option Value} {K : PySem.W.Frag} {D : BoardD K mg} {H : Hp} {p t r : V} {ps : List Str} {qs : List Pr} {rs : List Str} {nx : List Str → List Pr → List Str → Prop} {E : XK} (hp : HP N H p ps) (ht : HT N2 H t qs) (hr : HP N3 H r rs)
    (nd : ps.Nodup) (nm : ∀ z ∈ ps, nameB z = true) (lp : ps.length ≤ 1000) (tok : TsOk ps qs) (lq : qs.length ≤ 1000) (rnd : rs.Nodup) (rin : ∀ z ∈ rs, z ∈ ps) (q : nx ps qs rs) : MadeR K D H p t r nx E := by
  have lr : rs.length ≤ 1000 := Nat.le_trans (rnd.length_le_of_subset rin) lp
  obtain ⟨a, xs, rfl, e1, l1, _, k1⟩ := id ht
  have hx : ∀ x ∈ xs, ∃ u y z q, x = .ref u ∧ itemsOf H x = some [.str y, .str z] ∧ q ∈ qs ∧ tp y z = q := fun x hx => by
    obtain ⟨j, hj⟩ := List.getElem?_of_mem hx
    have hl : j < qs.length := by
      rw [← l1]
      exact (List.getElem?_eq_some_iff.mp hj).1
    obtain ⟨u, y, z, g1, g2, g3, _⟩ := k1 j x _ hj (List.getElem?_eq_getElem hl)
    exact ⟨u, y, z, _, g1, g2, List.getElem_mem hl, g3⟩
  have inP : ∀ y z, tp y z ∈ qs → y ∈ ps ∧ z ∈ ps ∧ y ≠ z := fun y z h => by
    obtain ⟨g1, g2, g3⟩ := tok.ok _ h
    have ne : y ≠ z := fun e => by
      subst e
      rcases tp_cases y y with e | e <;> rw [e] at g3 <;> exact absurd g3 (by rw [ltS_irr]; decide)
    rcases tp_cases y z with e | e <;> rw [e] at g1 g2
    · exact ⟨g1, g2, ne⟩
    · exact ⟨g2, g1, ne⟩
  refine ⟨hp.kn, .inr ⟨ps, ?_, lp, fun z hz => nameB_len (nm z hz), ⟨nd, nm⟩, ht.kn, .inr ⟨xs, qs, e1, by omega, ?_, l1.symm, ⟨tok.nd, by omega, ?_⟩, hr.kn, .inr ⟨rs, ?_, lr, fun z hz => nameB_len (nm z (rin z hz)), ⟨rnd, rin⟩, q⟩⟩⟩⟩
  · obtain ⟨_, _, e, _⟩ := hp
    exact e
  · intro x hm
    obtain ⟨u, y, z, q, rfl, g2, g3, g4⟩ := hx x hm
    refine ⟨items_kn g2, fun ys hys => ?_⟩
    rw [g2] at hys
    cases hys
    have h3 := inP y z (g4 ▸ g3)
    refine ⟨by show 2 ≤ 1000; decide, fun w hw => ?_⟩
    rcases List.mem_cons.mp hw with rfl | hw
    · exact ⟨.str y, fun z' e => by cases e; exact nameB_len (nm y h3.1)⟩
    · rw [List.mem_singleton.mp hw]
      exact ⟨.str z, fun z' e => by cases e; exact nameB_len (nm z h3.2.1)⟩
  · intro j x q e2 e3
    obtain ⟨u, y, z, rfl, g2, g3, _⟩ := k1 j x q e2 e3
    have h3 := inP y z (g3 ▸ List.mem_of_getElem? e3)
    exact ⟨y, z, g2, h3.2.2, h3.1, h3.2.1, g3⟩
  · obtain ⟨_, _, e, _⟩ := hr
    exact e
/-! ### what may be copied loosely -/
theorem lq_strs {C p l : Addr} {N : Addr → Prop} {H : Hp} {v : V} {ss : List Str} {n k : Nat} (h : HP N H v ss) (hN : ∀ c, N c → c ≠ p ∧ c ≠ l) (ls : ss.length ≤ 2000) (hk : 1 ≤ k) : Lq C p l H (n + 1) v k := by
  obtain ⟨a, rfl, e, na⟩ := h
  refine .inr ⟨a, _, 0, rfl, e, (hN a na).1, (hN a na).2, by rw [List.length_map]; exact ls, fun x hx => ?_, by omega⟩
  obtain ⟨z, _, rfl⟩ := List.mem_map.mp hx
  cases n with
  | zero => exact ⟨.str z, rfl⟩
  | succ n => exact .inl ⟨.str z, rfl⟩
theorem lq_prs {C p l : Addr} {N : Addr → Prop} {H : Hp} {v : V} {ps : List Pr} {n k : Nat} (h : HT N H v ps) (hN : ∀ c, N c → c ≠ p ∧ c ≠ l) (ls : ps.length ≤ 2000) (hk : 1 + ps.length ≤ k) : Lq C p l H (n + 2) v k := by
  obtain ⟨a, xs, rfl, e, l1, na, k1⟩ := h
  refine .inr ⟨a, xs, 1, rfl, e, (hN a na).1, (hN a na).2, by omega, fun x hx => ?_, by omega⟩
  obtain ⟨j, hj⟩ := List.getElem?_of_mem hx
  have hl : j < ps.length := by
    rw [← l1]
    exact (List.getElem?_eq_some_iff.mp hj).1
  obtain ⟨u, y, z, rfl, g2, g3, nu⟩ := k1 j x _ hj (List.getElem?_eq_getElem hl)
  exact lq_strs (ss := [y, z]) ⟨u, rfl, g2, nu⟩ hN (by show 2 ≤ 2000; decide) (Nat.le_refl _)
theorem lz_strs {C : Addr} {N N0 : Addr → Prop} {H H' : Hp} {v w : V} {ss : List Str} {n : Nat} (h : HP N0 H v ss) (z : Lz C N H H' (n + 1) v w) : HP N H' w ss := by
  obtain ⟨a, rfl, e, _⟩ := h
  rcases z with ⟨_, _, e2⟩ | ⟨xs, ys, b, e1, rfl, hb, nb, ll, k⟩
  · rw [e] at e2
    cases e2
  · rw [e] at e1
    cases e1
    have ey : ys = ss.map V.str := by
      refine List.ext_getElem? fun i => ?_
      rcases Nat.lt_or_ge i ys.length with h | h
      · have h2 : i < (ss.map V.str).length := by omega
        have e3 := List.getElem?_eq_getElem h
        have e4 := List.getElem?_eq_getElem h2
        have hz := k i _ _ e4 e3
        have key : ys[i] = (ss.map V.str)[i] := by
          obtain ⟨s, _, es⟩ := List.mem_map.mp (List.mem_of_getElem? e4)
          cases n with
          | zero => exact hz.1
          | succ n =>
            rcases hz with h | ⟨xs, ys, a, h1, _⟩
            · exact h.1
            · rw [← es] at h1
              cases h1
        rw [e3, e4, key]
      · rw [List.getElem?_eq_none h, List.getElem?_eq_none (by omega)]
    subst ey
    exact ⟨b, rfl, items_at.mpr hb, nb⟩
theorem lz_prs {C : Addr} {N N0 : Addr → Prop} {H H' : Hp} {v w : V} {ps : List Pr} {n : Nat} (h : HT N0 H v ps) (z : Lz C N H H' (n + 2) v w) : HT N H' w ps := by
  obtain ⟨a, xs, rfl, e, l1, _, k1⟩ := h
  rcases z with ⟨_, _, e2⟩ | ⟨xs', ys, b, e1, rfl, hb, nb, ll, k⟩
  · rw [e] at e2
    cases e2
  · rw [e] at e1
    cases e1
    refine ⟨b, ys, rfl, items_at.mpr hb, by omega, nb, fun j y q e2 e3 => ?_⟩
    have hl : j < xs.length := by
      have := (List.getElem?_eq_some_iff.mp e2).1
      omega
    obtain ⟨u, s, t, g1, g2, g3, g4⟩ := k1 j _ q (List.getElem?_eq_getElem hl) e3
    have hz := k j _ y (List.getElem?_eq_getElem hl) e2
    obtain ⟨b', rfl, g5, g6⟩ := lz_strs (N0 := N0) (ss := [s, t]) ⟨u, g1, g2, g4⟩ hz
    exact ⟨b', s, t, rfl, g5, g3, g6.1⟩
abbrev N_a_made : List Str := ["_law_stream", "_law_raw", "_law_ties", "_law_pair", "_law_places"]
theorem sc_a_made : FnScope N_a_made ["_law_stream", "_law_raw"] (defScope (topS 40)) := ⟨rfl, rfl, rfl, by decide +kernel, rfl, by decide +kernel, by decide +kernel⟩
def spMade (C : Addr) : Sp := fun vs H Q _ => ∃ (p l q : Addr) (n : Nat) (N : Addr → Prop) (pl : List Str) (ts : List Pr) (rm : List Str), vs = [.ref p, .ref q] ∧ Stm H p l n ∧ n < 700000 ∧ RawAt N H q pl ts rm ∧ (∀ c, N c → c ≠ p ∧ c ≠ l) ∧ RawOk pl ts rm ∧
  ∀ x H', BoardAt (fun c => H c = none) C H' x (sortS pl) (sortPr ts) rm → Fr H p l (n + 4000) H' → Q (.ref x) H'
section
variable {P : Program} {w : World} {K : PySem.W.Frag} {mg : Str → Option Value} {base : Heap}
theorem bInit (B : BoardD K mg) : Binds K (B.d 0) ["self", "places", "ties", "rim"] [] := bindsD B.F0 fun _ _ _ _ _ _ us hl => match us, hl with | [_, _, _, _], _ => rfl
theorem bMade (Z : LawD K mg) : Binds K (Z.d 40) ["_law_stream", "_law_raw"] [] := (Z.F 40 (by decide)).binds fun _ _ _ _ _ _ us hl => match us, hl with | [_, _], _ => rfl
theorem ok_a_made (Z : LawD K mg) : FnOk P w K mg base (L2.CX P w) 6 (Z.f 40) (Z.d 40) ["_law_stream", "_law_raw"] (spMade Z.B.C) := by
  have GM : FnOk P w K mg base CX0 2 Z.s.fM Z.s.dM ["_law_stream", "_law_some"] (spMx K) := ok_mx Z.s
  have GD : FnOk P w K mg base CX0 1 Z.s.fD Z.s.dD ["_law_stream", "_law_many"] spDr := ok_dr Z.s
  have GL : FnOk P w K mg base CX0 4 (Z.f 50) (Z.d 50) ["_law_stream", "_law_thing"] (spLoose Z.B.C 2) := ok_loose Z 2
  have GI : FnOk P w K mg base (L2.CX P w) 4 (Z.B.f 0) (Z.B.d 0) ["self", "places", "ties", "rim"] (spInit K Z.B) := ok_init Z.B Z.n Z.t
  refine Fun.okX (Z.F 40 (by decide)) sc_a_made (fun vs H Q E h => ?_) (fun cdv A outer s H vs Q E hr h => ⟨_, pss_cons (ps_setLc (i := 2) (own := [("_law_pair", 3)]) (tt := tYes) (te := tIf (tTest (tOp rEq (tCall spDr [] L2.E0 (tCons (tVar 0) (tCons (tC (.int 2)) tNil))) (tC (.int 0)))) (tVar 3) (tTup (tCons (tOp (rIxT K) (tVar 3) (tC (.int 1))) (tCons (tOp (rIxT K) (tVar 3) (tC (.int 0))) tNil)))) rfl sc_a_made.nd rfl rfl (by rfl) (pi_list (pe_call GM (hr.mono (by decide)) (by rfl) Z.s.gM Z.s.FM.kp (bMx Z.s) .nil pass0 (pa_cons (pv 0) (pa_cons (pe_ix ix_tup (pv 1) pe_int (fun _ _ => rfl)) pa_nil)))) (blkOk_by (own := [("_law_pair", 3)]) (N := N_a_made) (sc := defScope (topS 40)) (by decide +kernel)) (fun _ _ _ _ _ => (pg_name (i := 3) sc_a_made.nd rfl (Or.inl rfl))) (fun _ _ _ _ _ => pts_nil) (fun _ _ _ _ _ => (pe_ifExp (pt_cmpR op_eq (pe_call GD (hr.mono (by decide)) (by rfl) Z.s.gD Z.s.FD.kp (bDr Z.s) .nil pass0 (pa_cons (pv 0) (pa_cons pe_int pa_nil))) pe_int (nomark _)) (pv 3) (pe_tup (pa_cons (pe_ix ix_tup (pv 3) pe_int (fun _ _ => rfl)) (pa_cons (pe_ix ix_tup (pv 3) pe_int (fun _ _ => rfl)) pa_nil))))))
  (pss_cons (ps_set (i := 4) sc_a_made.nd rfl (Or.inl rfl) (pe_call GL (hr.mono (by decide)) (by rfl) (Z.g 50 (by decide)) (Z.F 50 (by decide)).kp (bLoose Z) .nil pass0 (pa_cons (pv 0) (pa_cons (pe_call GM (hr.mono (by decide)) (by rfl) Z.s.gM Z.s.FM.kp (bMx Z.s) .nil pass0 (pa_cons (pv 0) (pa_cons (pe_ix ix_tup (pv 1) pe_int (fun _ _ => rfl)) pa_nil))) pa_nil))))
  (pss_one (ps_ret (pe_make Z.B.M0 GI hr (by rfl) Z.B.g (bInit Z.B) .nil passL (pa_cons (pv 4) (pa_cons (pe_call GL (hr.mono (by decide)) (by rfl) (Z.g 50 (by decide)) (Z.F 50 (by decide)).kp (bLoose Z) .nil pass0 (pa_cons (pv 0) (pa_cons (pv 2) pa_nil))) (pa_cons (pe_call GL (hr.mono (by decide)) (by rfl) (Z.g 50 (by decide)) (Z.F 50 (by decide)).kp (bLoose Z) .nil pass0 (pa_cons (pv 0) (pa_cons (pe_ix ix_tup (pv 1) pe_int (fun _ _ => rfl)) pa_nil))) pa_nil))))))), ?_⟩)
  · obtain ⟨p, l, q, n, N, pl, ts, rm, rfl, _⟩ := h
    rfl
  · obtain ⟨p, l, q, n, N, pl, ts, rm, rfl, S, hn, raw0, hN, ok, k⟩ := h
    obtain ⟨aP, aT, aR, tv, g1, g2, g3, g4, g5, nq, nP, nT, nR, nt⟩ := id raw0
    have lts := ok.ts.len ok.len
    have ltv : tv.length = ts.length := g4.1
    have lpl := ok.len
    refine ⟨_, rfl, _, rfl, q, _, 1, _, rfl, rfl, SqT.of g1, rfl, p, l, aT, n, tv, rfl, S, by omega, SqL.of g3, by omega, fun s ys H1 hperm F1 ns hs => ⟨s, rfl, ⟨_, SqL.of hs⟩, fun D hD => ?_⟩⟩
    have pt1 := prs_but F1 g4 fun t ht => hN t (nt t ht)
    obtain ⟨us, uperm, pty⟩ := prs_perm pt1 hperm
    have toku : TsOk pl us := ok.ts.perm uperm
    have lus : us.length = ts.length := uperm.length_eq
    have nyN : ∀ t, V.ref t ∈ ys → t ≠ p ∧ t ≠ l := fun t ht => hN t (nt t (hperm.mem_iff.mp ht))
    have nD := F1.free hD
    have Ds : s ≠ D := ne_of_none hs hD
    have ly : ys.length = ts.length := by rw [hperm.length_eq, ltv]
    refine lc_list (xs := ys) (fun i H' => ∃ acc, H' D = some (.lst acc) ∧ acc.length = i ∧ (∀ (j : Nat) (x : V) (q : Pr), acc[j]? = some x → us[j]? = some q → ∃ u y z, x = .ref u ∧ H' u = some (.tup [.str y, .str z]) ∧ tp y z = q ∧ u ≠ p ∧ u ≠ l) ∧ H' s = some (.lst ys) ∧ PrsAt H' ys us ∧ Fr H p l (n + ts.length + i) H') ⟨[], upd_same, rfl, (fun j x q h => by simp at h), by rw [upd_ne Ds]; exact hs, prs_upd pty (fun xs e => by rw [hD] at e; cases e), (F1.put nD).mono (by omega)⟩ (fun i H' _ ⟨_, _, _, _, h, _⟩ => SqL.of h) ?_ ?_
    · rintro i x H' hx ⟨acc, hacc, lac, hin, hs', pt', F'⟩
      have il := (List.getElem?_eq_some_iff.mp hx).1
      have eu : us[i]? = some (us[i]'(by omega)) := List.getElem?_eq_getElem _
      obtain ⟨u, rfl, hu⟩ := pt'.2 i x _ hx eu
      have nu := nyN u (List.mem_of_getElem? hx)
      have lti := (toku.ok _ (List.mem_of_getElem? eu)).2.2
      -- what is put behind
      have put : ∀ (H2 : Hp) (t : Addr) (y z : Str), Fr H' p l (n + ts.length + (i + 1)) H2 → H2 t = some (.tup [.str y, .str z]) → tp y z = us[i]'(by omega) → t ≠ p → t ≠ l → ∃ acc2, H2 D = some (.lst acc2) ∧ acc2.length < sizeLine ∧ ∃ acc, (upd H2 D (.lst (acc2 ++ [.ref t]))) D = some (.lst acc) ∧ acc.length = i + 1 ∧ (∀ (j : Nat) (x : V) (q : Pr), acc[j]? = some x → us[j]? = some q → ∃ u y z, x = .ref u ∧ (upd H2 D (.lst (acc2 ++ [.ref t]))) u = some (.tup [.str y, .str z]) ∧ tp y z = q ∧ u ≠ p ∧ u ≠ l) ∧ (upd H2 D (.lst (acc2 ++ [.ref t]))) s = some (.lst ys) ∧ PrsAt (upd H2 D (.lst (acc2 ++ [.ref t]))) ys us ∧ Fr H p l (n + ts.length + (i + 1)) (upd H2 D (.lst (acc2 ++ [.ref t]))) := fun H2 t y z F2 ht et n1 n2 => by
        have acc2 := F'.keep F2 nD hacc
        have tD : t ≠ D := ne_of ht acc2 (fun z => by cases z)
        refine ⟨acc, acc2, ?_, acc ++ [.ref t], upd_same, ?_, ?_, ?_, ?_, (F'.trans F2).put nD⟩
        · rw [lac]
          exact small1000 (by omega)
        · rw [List.length_append, lac]; rfl
        · intro j x q h1 h2
          rcases Nat.lt_trichotomy j acc.length with h | h | h
          · rw [List.getElem?_append_left h] at h1
            obtain ⟨u', y', z', rfl, k1, k2, k3, k4⟩ := hin j x q h1 h2
            have k5 := F2.but _ _ k1 k3 k4
            exact ⟨u', y', z', rfl, by rw [upd_ne (ne_of k5 acc2 (fun z => by cases z))]; exact k5, k2, k3, k4⟩
          · rw [List.getElem?_append_right (by omega), h, Nat.sub_self] at h1
            cases h1
            rw [h, lac, eu] at h2
            cases h2
            exact ⟨t, y, z, rfl, by rw [upd_ne tD]; exact ht, et, n1, n2⟩
          · rw [List.getElem?_eq_none (by rw [List.length_append]; simp; omega)] at h1
            cases h1
        · rw [upd_ne Ds]
          exact F'.keep F2 ns hs'
        · refine prs_upd (prs_but F2 pt' nyN) (fun xs e => ?_)
          rw [acc2] at e
          cases e
      refine ⟨rfl, yes_of ⟨_, rfl, p, l, _, 2, rfl, F'.st, by omega, by decide, by decide, fun r H2 hr2 F2 => ⟨rfl, _, rfl, ite2 (fun c => ⟨_, rfl, put H2 u _ _ F2 (F2.but _ _ hu nu.1 nu.2) (tp_self lti) nu.1 nu.2⟩) (fun c => ?_)⟩⟩⟩
      have hu2 := F2.but _ _ hu nu.1 nu.2
      refine ⟨_, rfl, u, _, 1, _, rfl, rfl, SqT.of hu2, rfl, _, rfl, u, _, 0, _, rfl, rfl, SqT.of hu2, rfl, by show 2 ≤ sizeLine; decide, fun t nt' => ?_⟩
      have ntH := (F'.trans F2).free nt'
      have nt2 := F'.ne ntH
      exact put _ t _ _ (F2.put (F2.free nt')) upd_same (by rw [tp_swap]; exact tp_self lti) nt2.1 nt2.2
    rintro H2 ⟨acc, hacc, lac, hin, hs2, _, F2⟩
    have hN0 : ∀ c, (N c ∨ H c = none) → c ≠ p ∧ c ≠ l := fun c hc => hc.elim (hN c) fun h => F2.ne h
    have ht2 : HT (fun c => c ≠ p ∧ c ≠ l) H2 (.ref D) us := ⟨D, acc, rfl, items_at.mpr (.inl hacc), by omega, F2.ne nD, fun j x q e1 e2 => by
      obtain ⟨u, y, z, h1, h2, h3, h4⟩ := hin j x q e1 e2
      exact ⟨u, y, z, h1, by rw [h1]; exact items_at.mpr (.inr h2), h3, h4⟩⟩
    -- the places
    have q2 := hN q nq
    have P2 := hN aP nP
    have R2 := hN aR nR
    refine ⟨_, rfl, _, rfl, _, rfl, q, _, 0, _, rfl, rfl, SqT.of (F2.but _ _ g1 q2.1 q2.2), rfl, p, l, aP, _, pl.map V.str, rfl, F2.st, by omega, SqL.of (F2.but _ _ g2 P2.1 P2.2), by rw [List.length_map]; omega, fun s2 ys2 H3 hperm2 F3 ns2 hs2 => ?_⟩
    obtain ⟨ps, rfl, pperm⟩ := strs_perm hperm2
    have lps : ps.length = pl.length := pperm.length_eq
    have F03 := F2.trans F3
    rw [List.length_map] at F03
    have ht3 := ht2.frame (H' := H3) fun c o hc e => F3.but _ _ e hc.1 hc.2
    have hp3 : HP (fun c => c ≠ p ∧ c ≠ l) H3 (.ref s2) ps := HP.lst hs2 (F2.ne (F2.free ns2))
    refine ⟨p, l, _, 1, .ref s2, rfl, F03.st, by omega, lq_strs hp3 (fun c h => h) (by omega) (Nat.le_refl _), fun w1 H4 z4 F4 => ?_⟩
    have F04 := F03.trans F4
    have hp4 := (lz_strs hp3 z4).weak (N' := fun c => c ≠ p ∧ c ≠ l) fun c hc => F03.ne (F03.free hc)
    have ht4 := ht3.frame (H' := H4) fun c o hc e => F4.but _ _ e hc.1 hc.2
    refine ⟨_, rfl, _, rfl, _, rfl, p, l, _, 1 + us.length, .ref D, rfl, F04.st, by omega, lq_prs ht4 (fun c h => h) (by omega) (Nat.le_refl _), fun w2 H5 z5 F5 => ?_⟩
    have F05 := F04.trans F5
    have ht5 := (lz_prs ht4 z5).weak (N' := fun c => c ≠ p ∧ c ≠ l) fun c hc => F04.ne (F04.free hc)
    have hp5 := hp4.frame (H' := H5) fun c o hc e => F5.but _ _ e hc.1 hc.2
    have hr5 : HP (fun c => c ≠ p ∧ c ≠ l) H5 (.ref aR) rm := HP.lst (F05.but _ _ g5 R2.1 R2.2) R2
    refine ⟨_, rfl, _, rfl, q, _, 2, _, rfl, rfl, SqT.of (F05.but _ _ g1 q2.1 q2.2), rfl, p, l, _, 1, .ref aR, rfl, F05.st, by omega, lq_strs hr5 (fun c h => h) (by have := ok.rnd.length_le_of_subset ok.rin; omega) (Nat.le_refl _), fun w3 H6 z6 F6 => ?_⟩
    have F06 := F05.trans F6
    have hr6 := (lz_strs hr5 z6).weak (N' := fun c => c ≠ p ∧ c ≠ l) fun c hc => F05.ne (F05.free hc)
    have hp6 := hp5.frame (H' := H6) fun c o hc e => F6.but _ _ e hc.1 hc.2
    have ht6 := ht5.frame (H' := H6) fun c o hc e => F6.but _ _ e hc.1 hc.2
    intro x dx nx ndx ne
    have Sx : Same H6 (upd (upd H6 dx (.own x)) x (.ins Z.B.C dx [])) := (new_same ndx).trans (new_same (by rw [upd_ne ne.symm]; exact nx))
    refine ⟨x, dx, w1, w2, w3, rfl, upd_same, made_ok (hp6.frame fun c o _ e => Sx _ _ e) (ht6.frame fun c o _ e => Sx _ _ e) (hr6.frame fun c o _ e => Sx _ _ e) (pperm.nodup_iff.mpr ok.nd) (fun z hz => ok.name (pperm.mem_iff.mp hz)) (by omega) (toku.mono fun z hz => pperm.mem_iff.mpr hz) (by omega) ok.rnd (fun z hz => pperm.mem_iff.mpr (ok.rin z hz)) fun H' hB hk => ⟨rfl, ?_⟩⟩
    rw [sortS_of_perm pperm, sortPr_of_perm uperm] at hB
    refine k x H' (hB.weak fun c hc => ?_) (((F06.same (Same.of fun b o e => hk b o (fun q => by rw [q, nx] at e; cases e) (Sx _ _ e)))).mono (by omega))
    rcases hc with rfl | hc
    · exact F06.free nx
    · exact F06.free (Sx.free hc)
end
end E1

set_option Elab.async false
set_option linter.all false
set_option maxRecDepth 100000
set_option maxHeartbeats 4000000
/-! Boards that are unlike: what is kept while they are made. -/
namespace E1
open PySem PySem.Spec PyProof.Rows L2 G0
/-- the rest of the code starts anew, from what is known there -/
theorem cut {t u : TS} {D : Ends} {σ : L2.St} {H : Hp} (Inv : L2.St → Hp → Prop) (h : ∀ K : L2.St → Hp → Prop, (∀ σ' H', Inv σ' H' → K σ' H') → t { D with nx := K } σ H) (k : ∀ σ' H', Inv σ' H' → u D σ' H') : tSeq t u D σ H := h _ k
theorem cutN {t u : TS} {D D' : Ends} {σ : L2.St} {H : Hp} (e : D.nx = tSeq t u D') (Inv : L2.St → Hp → Prop) (h : ∀ K : L2.St → Hp → Prop, (∀ σ' H', Inv σ' H' → K σ' H') → t { D' with nx := K } σ H) (k : ∀ σ' H', Inv σ' H' → u D' σ' H') : D.nx σ H := by
  rw [e]
  exact h _ k
theorem prs_drop {H : Hp} {vs : List V} {ps : List Pr} (h : PrsAt H vs ps) (k : Nat) : PrsAt H (vs.drop k) (ps.drop k) := ⟨by rw [List.length_drop, List.length_drop, h.1], fun i v q e1 e2 => by
  rw [List.getElem?_drop] at e1 e2
  exact h.2 _ v q e1 e2⟩
theorem rot_perm (rm : List Str) : (rm.drop 1 ++ rm.take 1).Perm rm := List.perm_append_comm.trans (by rw [List.take_append_drop])
theorem rot_ne {rm : List Str} (nd : rm.Nodup) (h : 1 < rm.length) : rm ≠ rm.drop 1 ++ rm.take 1 := by
  match rm, nd, h with
  | a :: b :: r, nd, _ =>
    intro e
    have e1 : a = b := by
      have := congrArg List.head? e
      injection this
    rw [e1] at nd
    exact (List.nodup_cons.mp nd).1 List.mem_cons_self
theorem rev_ne {rm : List Str} (nd : rm.Nodup) (h : 1 < rm.length) : rm ≠ rm.reverse := by
  match rm, nd, h with
  | a :: b :: r, nd, _ =>
    intro e
    have m : a ∈ (b :: r).reverse := by
      rw [show (a :: b :: r).reverse = (b :: r).reverse ++ [a] from List.reverse_cons] at e
      cases er : (b :: r).reverse with
      | nil => simp at er
      | cons c u =>
        rw [er] at e
        have : a = c := by
          have := congrArg List.head? e
          injection this
        rw [this]
        exact List.mem_cons_self
    exact (List.nodup_cons.mp nd).1 (List.mem_reverse.mp m)
theorem out_of {pl rm : List Str} (nd : pl.Nodup) (h : rm.length < pl.length) : ∃ z r, pl.filter (fun z => decide (z ∉ rm)) = z :: r ∧ z ∈ pl ∧ z ∉ rm := by
  cases e : pl.filter (fun z => decide (z ∉ rm)) with
  | nil =>
    have sub : ∀ z ∈ pl, z ∈ rm := fun z hz => by
      by_cases hm : z ∈ rm
      · exact hm
      · have : z ∈ pl.filter (fun z => decide (z ∉ rm)) := List.mem_filter.mpr ⟨hz, by simpa using hm⟩
        rw [e] at this
        cases this
    exact absurd (nd.length_le_of_subset sub) (by omega)
  | cons z r =>
    have : z ∈ pl.filter (fun z => decide (z ∉ rm)) := by rw [e]; exact List.mem_cons_self
    obtain ⟨h1, h2⟩ := List.mem_filter.mp this
    exact ⟨z, r, rfl, h1, by simpa using h2⟩
def Ne3 (pl : List Str) (ts : List Pr) (rm : List Str) (pl' : List Str) (ts' : List Pr) (rm' : List Str) : Prop := ¬ (pl = pl' ∧ ts = ts' ∧ rm = rm')
/-- a board, and a list O of boards unlike it; W: lists that are written -/
structure UI (C : Addr) (H : Hp) (p l O x : Addr) (W : List Addr) (m : Nat) (pl : List Str) (ts : List Pr) (rm : List Str) (k : Nat) (bs : List Addr) (H' : Hp) : Prop where
  o : H' O = some (.lst (bs.map V.ref))
  len : bs.length ≤ k
  bd : ∀ b ∈ bs, ∃ pl' ts' rm', BoardAt (fun c => H c = none ∧ c ∉ W) C H' b pl' ts' rm' ∧ Ne3 pl ts rm pl' ts' rm'
  me : BoardAt (fun c => H c = none ∧ c ∉ W) C H' x pl ts rm
  F : Fr H p l m H'
  oW : O ∈ W
  fW : ∀ c ∈ W, H c = none
  wW : ∀ c ∈ W, H' c ≠ none
section
variable {C : Addr} {H H1 H2 : Hp} {p l O x : Addr} {W : List Addr} {m m2 : Nat} {pl : List Str} {ts : List Pr} {rm : List Str} {k k2 : Nat} {bs : List Addr}
theorem UI.same (U : UI C H p l O x W m pl ts rm k bs H1) (S : Same H1 H2) : UI C H p l O x W m pl ts rm k bs H2 :=
  ⟨S _ _ U.o, U.len, fun b hb => by
    obtain ⟨pl', ts', rm', h, n⟩ := U.bd b hb
    exact ⟨pl', ts', rm', h.frame fun c o _ e => S _ _ e, n⟩, U.me.frame fun c o _ e => S _ _ e, U.F.same S, U.oW, U.fW, fun c hc e => U.wW c hc (S.free e)⟩
theorem UI.step (U : UI C H p l O x W m pl ts rm k bs H1) (F2 : Fr H1 p l m2 H2) : UI C H p l O x W m2 pl ts rm k bs H2 :=
  ⟨U.F.keep F2 (U.fW _ U.oW) U.o, U.len, fun b hb => by
    obtain ⟨pl', ts', rm', h, n⟩ := U.bd b hb
    exact ⟨pl', ts', rm', h.frame fun c o hc e => U.F.keep F2 hc.1 e, n⟩, U.me.frame fun c o hc e => U.F.keep F2 hc.1 e, U.F.trans F2, U.oW, U.fW, fun c hc e => U.wW c hc (F2.free e)⟩
theorem UI.mono (U : UI C H p l O x W m pl ts rm k bs H1) (h : k ≤ k2) (h2 : m ≤ m2) : UI C H p l O x W m2 pl ts rm k2 bs H1 := ⟨U.o, Nat.le_trans U.len h, U.bd, U.me, U.F.mono h2, U.oW, U.fW, U.wW⟩
/-- one of the lists that are written, another than O -/
theorem UI.put {c : Addr} {o : HO} (U : UI C H p l O x W m pl ts rm k bs H1) (hc : c ∈ W) (n : c ≠ O) : UI C H p l O x W m pl ts rm k bs (upd H1 c o) :=
  ⟨by rw [upd_ne n.symm]; exact U.o, U.len, fun b hb => by
    obtain ⟨pl', ts', rm', h, n⟩ := U.bd b hb
    exact ⟨pl', ts', rm', h.frame fun d o hd e => by
      rw [upd_ne (show d ≠ c from fun z => hd.2 (z ▸ hc))]
      exact e, n⟩, U.me.frame (fun d o hd e => by
      rw [upd_ne (show d ≠ c from fun z => hd.2 (z ▸ hc))]
      exact e), U.F.put (U.fW c hc), U.oW, U.fW, fun d hd e => by
      by_cases z : d = c
      · rw [z, upd_same] at e
        cases e
      · rw [upd_ne z] at e
        exact U.wW d hd e⟩
theorem UI.add {b : Addr} {pl' : List Str} {ts' : List Pr} {rm' : List Str} (U : UI C H p l O x W m pl ts rm k bs H1) (h : BoardAt (fun c => H c = none ∧ c ∉ W) C H1 b pl' ts' rm') (n : Ne3 pl ts rm pl' ts' rm') : UI C H p l O x W m pl ts rm (k + 1) (bs ++ [b]) (upd H1 O (.lst (bs.map V.ref ++ [.ref b]))) := by
  have fr : ∀ {a pl' ts' rm'}, BoardAt (fun c => H c = none ∧ c ∉ W) C H1 a pl' ts' rm' → BoardAt (fun c => H c = none ∧ c ∉ W) C (upd H1 O (.lst (bs.map V.ref ++ [.ref b]))) a pl' ts' rm' := fun h => h.frame fun d o hd e => by
    rw [upd_ne (show d ≠ O from fun z => hd.2 (z ▸ U.oW))]
    exact e
  refine ⟨by rw [upd_same, List.map_append]; rfl, by rw [List.length_append, List.length_singleton]; exact Nat.succ_le_succ U.len, fun a ha => ?_, fr U.me, U.F.put (U.fW _ U.oW), U.oW, U.fW, fun d hd e => ?_⟩
  · rcases List.mem_append.mp ha with ha | ha
    · obtain ⟨q1, q2, q3, h', n'⟩ := U.bd a ha
      exact ⟨q1, q2, q3, fr h', n'⟩
    · rw [List.mem_singleton.mp ha]
      exact ⟨pl', ts', rm', fr h, n⟩
  · by_cases z : d = O
    · rw [z, upd_same] at e
      cases e
    · rw [upd_ne z] at e
      exact U.wW d hd e
theorem UI.ext {cs : List Addr} (U : UI C H p l O x W m pl ts rm k bs H1) (h : ∀ b ∈ cs, ∃ pl' ts' rm', BoardAt (fun c => H c = none ∧ c ∉ W) C H1 b pl' ts' rm' ∧ Ne3 pl ts rm pl' ts' rm') : UI C H p l O x W m pl ts rm (k + cs.length) (bs ++ cs) (upd H1 O (.lst (bs.map V.ref ++ cs.map V.ref))) := by
  have fr : ∀ {a pl' ts' rm'}, BoardAt (fun c => H c = none ∧ c ∉ W) C H1 a pl' ts' rm' → BoardAt (fun c => H c = none ∧ c ∉ W) C (upd H1 O (.lst (bs.map V.ref ++ cs.map V.ref))) a pl' ts' rm' := fun h => h.frame fun d o hd e => by
    rw [upd_ne (show d ≠ O from fun z => hd.2 (z ▸ U.oW))]
    exact e
  refine ⟨by rw [upd_same, List.map_append], by rw [List.length_append]; exact Nat.add_le_add_right U.len _, fun a ha => ?_, fr U.me, U.F.put (U.fW _ U.oW), U.oW, U.fW, fun d hd e => ?_⟩
  · rcases List.mem_append.mp ha with ha | ha
    · obtain ⟨q1, q2, q3, h', n'⟩ := U.bd a ha
      exact ⟨q1, q2, q3, fr h', n'⟩
    · obtain ⟨q1, q2, q3, h', n'⟩ := h a ha
      exact ⟨q1, q2, q3, fr h', n'⟩
  · by_cases z : d = O
    · rw [z, upd_same] at e
      cases e
    · rw [upd_ne z] at e
      exact U.wW d hd e
/-- one more list that will be written -/
theorem UI.more {c : Addr} {o : HO} (U : UI C H p l O x W m pl ts rm k bs H1) (nc : H1 c = none) : UI C H p l O x (c :: W) m pl ts rm k bs (upd H1 c o) := by
  have fr : ∀ {a pl' ts' rm'}, BoardAt (fun c => H c = none ∧ c ∉ W) C H1 a pl' ts' rm' → BoardAt (fun d => H d = none ∧ d ∉ c :: W) C (upd H1 c o) a pl' ts' rm' := fun h => (h.there.frame (H' := upd H1 c o) fun d o hd e => by
      rw [upd_ne (ne_of_none e nc)]
      exact e).weak fun d hd => ⟨hd.1.1, fun hm => by
        rcases List.mem_cons.mp hm with z | z
        · obtain ⟨o', e⟩ := hd.2
          rw [z, nc] at e
          cases e
        · exact hd.1.2 z⟩
  refine ⟨by rw [upd_ne (ne_of_none U.o nc)]; exact U.o, U.len, fun b hb => ?_, fr U.me, U.F.put (U.F.free nc), List.mem_cons_of_mem _ U.oW, fun d hd => ?_, fun d hd e => ?_⟩
  · obtain ⟨q1, q2, q3, h', n'⟩ := U.bd b hb
    exact ⟨q1, q2, q3, fr h', n'⟩
  · rcases List.mem_cons.mp hd with z | z
    · rw [z]
      exact U.F.free nc
    · exact U.fW d z
  · by_cases z : d = c
    · rw [z, upd_same] at e
      cases e
    · rw [upd_ne z] at e
      rcases List.mem_cons.mp hd with z' | z'
      · exact z z'
      · exact U.wW d z' e
theorem UI.new (U : UI C H p l O x W m pl ts rm k bs H1) {c : Addr} (n : H1 c = none) : H c = none ∧ c ∉ W := ⟨U.F.free n, fun h => U.wW c h n⟩
end
section
variable {mg : Str → Option Value} {K : PySem.W.Frag} {D : BoardD K mg} {H1 : Hp}
/-- a board is made -/
theorem init_mk {N N2 N3 : Addr → Prop} {xb dx : Addr} {vp vt vr : V} {ps : List Str} {qs : List Pr} {rs : List Str} {R : VK} {E : XK} (hp : HP N H1 vp ps) (ht : HT N2 H1 vt qs) (hr : HP N3 H1 vr rs)
    (nd : ps.Nodup) (nm : ∀ z ∈ ps, nameB z = true) (lp : ps.length ≤ 1000) (tok : TsOk ps qs) (lq : qs.length ≤ 1000) (rnd : rs.Nodup) (rin : ∀ z ∈ rs, z ∈ ps) (nx : H1 xb = none) (ndx : H1 dx = none) (ne : dx ≠ xb)
    (q : ∀ Hm, BoardAt (fun c => H1 c = none) D.C Hm xb (sortS ps) (sortPr qs) rs → Same H1 Hm → R .non Hm) : spInit K D (.ref xb :: ([vp, vt, vr] ++ [])) (upd (upd H1 dx (.own xb)) xb (.ins D.C dx [])) R E := by
  have Sx : Same H1 (upd (upd H1 dx (.own xb)) xb (.ins D.C dx [])) := (new_same ndx).trans (new_same (by rw [upd_ne ne.symm]; exact nx))
  refine ⟨xb, dx, vp, vt, vr, rfl, upd_same, made_ok (hp.frame fun c o _ e => Sx _ _ e) (ht.frame fun c o _ e => Sx _ _ e) (hr.frame fun c o _ e => Sx _ _ e) nd nm lp tok lq rnd rin fun Hm hB hk => q Hm (hB.weak fun c hc => ?_) (Same.of fun b o e => hk b o (fun q' => by rw [q', nx] at e; cases e) (Sx _ _ e))⟩
  rcases hc with rfl | hc
  · exact nx
  · exact Sx.free hc
end
end E1

set_option Elab.async false
set_option linter.all false
set_option maxRecDepth 100000
set_option maxHeartbeats 8000000
/-! notices.py: notices. -/
namespace E1
open PySem PySem.Spec PyProof.Rows L2 G0
def nS (i : Nat) : Stmt := inClass (topS 29) i
/-- where the class Notice stands -/
structure NoteD (K : PySem.W.Frag) (mg : Str → Option Value) (B : BoardD K mg) where
  C : Addr
  g : mg "Notice" = some (.ref C)
  O : OwnC K C
  noB : NoAttr K C "_board"
  noW : NoAttr K C "_wishes"
  f : Nat → Addr
  d : Nat → FuncData
  F0 : FunD K "__init__" "Notice.__init__" (defArgs (nS 0)) (defBody (nS 0)) (defScope (nS 0)) [] [] (f 0) (d 0)
  F1 : FunD K "__eq__" "Notice.__eq__" (defArgs (nS 1)) (defBody (nS 1)) (defScope (nS 1)) [] [] (f 1) (d 1)
  F2 : FunD K "board" "Notice.board" (defArgs (nS 2)) (defBody (nS 2)) (defScope (nS 2)) [] [] (f 2) (d 2)
  F3 : FunD K "wishes" "Notice.wishes" (defArgs (nS 3)) (defBody (nS 3)) (defScope (nS 3)) [] [] (f 3) (d 3)
  M0 : Mk K C (f 0)
  M2 : Meth K C "board" (f 2)
  M3 : Meth K C "wishes" (f 3)
  eqA : PySem.W.findIn K (.ref C) "__eq__" = some (some (.ref (f 1)))
  eqF : PySem.W.isFn K (.ref (f 1)) = true
  ne : ∀ (h : Heap) (x : Addr) (o : Obj), K.In h → h.get? x = some o → o.cls = .ref C → h.OwnEqNoNe x C (f 1) "object" [.type "object"]
  nf : ∀ T ∈ ["NoneType", "bool", "int", "str", "list", "tuple", "dict"], PySem.W.notFirst K C (.type T) = true
  nfB : PySem.W.notFirst K C (.ref B.C) = true
  xN : PySem.W.kitOne K (.ref B.C) (.ref C) = some false
  XB : ErrD K mg 3 "BadBoard" "thing"
  XW : ErrD K mg 7 "BadWishes" "index"
/-- told wishes -/
def WisAt (N : Addr → Prop) (H : Hp) (vs : List V) (ws : List Wi) : Prop := vs.length = ws.length ∧ ∀ (i : Nat) (v : V) (z : Wi), vs[i]? = some v → ws[i]? = some z → ∃ t, v = .ref t ∧ WiN N H t z
theorem WisAt.frame {N : Addr → Prop} {H H' : Hp} {vs : List V} {ws : List Wi} (h : WisAt N H vs ws) (S : ∀ c o, N c → H c = some o → H' c = some o) : WisAt N H' vs ws := ⟨h.1, fun i v z e1 e2 => let ⟨t, e, w⟩ := h.2 i v z e1 e2
  ⟨t, e, w.frame S⟩⟩
theorem WisAt.weak {N N' : Addr → Prop} {H : Hp} {vs : List V} {ws : List Wi} (h : WisAt N H vs ws) (k : ∀ c, N c → N' c) : WisAt N' H vs ws := ⟨h.1, fun i v z e1 e2 => let ⟨t, e, w⟩ := h.2 i v z e1 e2
  ⟨t, e, w.weak k⟩⟩
/-- a notice at a: its board at x, its wishes -/
def NoteAt (N : Addr → Prop) (C : Addr) (H : Hp) (a x : Addr) (ws : List Wi) : Prop :=
  ∃ (dx aW : Addr) (wv : List V), H a = some (.ins C dx [("_board", .ref x), ("_wishes", .ref aW)]) ∧ H aW = some (.lst wv) ∧ WisAt N H wv ws ∧ N a ∧ N aW
theorem NoteAt.frame {N : Addr → Prop} {C : Addr} {H H' : Hp} {a x : Addr} {ws : List Wi} (h : NoteAt N C H a x ws) (S : ∀ c o, N c → H c = some o → H' c = some o) : NoteAt N C H' a x ws := let ⟨dx, aW, wv, h1, h2, h3, n1, n2⟩ := h
  ⟨dx, aW, wv, S _ _ n1 h1, S _ _ n2 h2, h3.frame S, n1, n2⟩
theorem NoteAt.weak {N N' : Addr → Prop} {C : Addr} {H : Hp} {a x : Addr} {ws : List Wi} (h : NoteAt N C H a x ws) (k : ∀ c, N c → N' c) : NoteAt N' C H a x ws := let ⟨dx, aW, wv, h1, h2, h3, n1, n2⟩ := h
  ⟨dx, aW, wv, h1, h2, h3.weak k, k _ n1, k _ n2⟩
theorem kn_own {C : Addr} {H : Hp} {v : V} (k : Kn C H v) (e : kdOf H v = "") : ∃ a dx fs, v = .ref a ∧ H a = some (.ins C dx fs) := by
  cases k with
  | own h => exact ⟨_, _, _, rfl, h⟩
  | lst h => simp only [kdOf, h] at e; exact absurd e (by decide)
  | tup h => simp only [kdOf, h] at e; exact absurd e (by decide)
  | dic h => simp only [kdOf, h] at e; exact absurd e (by decide)
  | non => simp only [kdOf] at e; exact absurd e (by decide)
  | bl b => simp only [kdOf] at e; exact absurd e (by decide)
  | int i => simp only [kdOf] at e; exact absurd e (by decide)
  | str x => simp only [kdOf] at e; exact absurd e (by decide)
theorem kn_kit {K : PySem.W.Frag} {C D : Addr} {H : Hp} {v : V} (O : OwnC K D) (k : Kn C H v) (nk : kdOf H v ≠ "") : ∃ t, TyX K H v t ∧ PySem.W.kitOne K t (.ref D) = some false := by
  cases k with
  | non => exact ⟨_, .base .non, O.ty "NoneType" (by decide)⟩
  | bl b => exact ⟨_, .base (.bl b), O.ty "bool" (by decide)⟩
  | int i => exact ⟨_, .base (.int i), O.ty "int" (by decide)⟩
  | str x => exact ⟨_, .base (.str x), O.ty "str" (by decide)⟩
  | lst e => exact ⟨_, .base (.lst e), O.ty "list" (by decide)⟩
  | tup e => exact ⟨_, .base (.tup e), O.ty "tuple" (by decide)⟩
  | dic e => exact ⟨_, .base (.dK e), O.ty "dict" (by decide)⟩
  | own e => exact absurd (by simp only [kdOf, e]) nk
section
variable {P : Program} {w : World} {K : PySem.W.Frag} {mg : Str → Option Value} {base : Heap}
theorem sc_errB : FnScope ["self", "thing"] ["self", "thing"] (defScope (inClass (topS 3) 0)) := ⟨rfl, rfl, rfl, by decide +kernel, rfl, by decide +kernel, by decide +kernel⟩
theorem sc_errW : FnScope ["self", "index"] ["self", "index"] (defScope (inClass (topS 7) 0)) := ⟨rfl, rfl, rfl, by decide +kernel, rfl, by decide +kernel, by decide +kernel⟩
theorem ok_errB (D : ErrD K mg 3 "BadBoard" "thing") : FnOk P w K mg base CX0 1 D.f D.fd ["self", "thing"] (spI1 D.C "thing") := ok_init1 D.F rfl sc_errB D.T D.no (by decide) (by decide)
theorem ok_errW (D : ErrD K mg 7 "BadWishes" "index") : FnOk P w K mg base CX0 1 D.f D.fd ["self", "index"] (spI1 D.C "index") := ok_init1 D.F rfl sc_errW D.T D.no (by decide) (by decide)
theorem bEB (D : ErrD K mg 3 "BadBoard" "thing") : Binds K D.fd ["self", "thing"] [] := bindsD D.F fun _ _ _ _ _ _ us hl => match us, hl with | [_, _], _ => rfl
theorem bEW (D : ErrD K mg 7 "BadWishes" "index") : Binds K D.fd ["self", "index"] [] := bindsD D.F fun _ _ _ _ _ _ us hl => match us, hl with | [_, _], _ => rfl
def spNeed (CB CX : Addr) : Sp := fun vs H Q E => ∃ v, vs = [v] ∧ Kn CB H v ∧ ((kdOf H v ≠ "" ∧ Raised H CX "thing" v E) ∨ (kdOf H v = "" ∧ Q .non H))
theorem sc_need : FnScope ["board"] ["board"] (defScope (topS 24)) := ⟨rfl, rfl, rfl, by decide +kernel, rfl, by decide +kernel, by decide +kernel⟩
theorem bNeed (Z : LawD K mg) : Binds K (Z.d 24) ["board"] [] := (Z.F 24 (by decide)).binds fun _ _ _ _ _ _ us hl => match us, hl with | [_], _ => rfl
theorem ok_need (Z : LawD K mg) (D : NoteD K mg Z.B) : FnOk P w K mg base (L2.CX P w) 3 (Z.f 24) (Z.d 24) ["board"] (spNeed Z.B.C D.XB.C) := by
  refine Fun.okX (Z.F 24 (by decide)) sc_need (fun vs H Q E h => ?_) (fun cdv A outer s H vs Q E hr h => ⟨_, pss_one (ps_if (pt_not (pt_val (pe_callB call_isi (by rfl) Z.t.isinstance (by decide +kernel) (pa_cons (pv 0) (pa_cons (pe_glob (by rfl) Z.B.g (v := .ref Z.B.C) rfl) pa_nil))))) (pss_one (ps_raise rfl (takes_of rfl rfl rfl rfl) (pmk_oex D.XB.T D.XB.iC D.XB.tI (ok_errB D.XB) (hr.mono (by decide)) (bEB D.XB) .nil pass0 (by rfl) D.XB.g (by exact pa_cons (pv 0) pa_nil)))) pss_nil), ?_⟩)
  · obtain ⟨v, rfl, _⟩ := h
    rfl
  · obtain ⟨v, rfl, kn, h⟩ := h
    rcases h with ⟨nk, hR⟩ | ⟨e, q⟩
    · obtain ⟨t, ty, ki⟩ := kn_kit Z.B.O kn nk
      refine ⟨_, rfl, v, _, t, _, false, rfl, .own _, ty, ki, _, rfl, iteT ⟨_, rfl, by show 1 ≤ 1000; decide, fun a na => ?_⟩⟩
      exact hR.of na
    · obtain ⟨a, dx, fs, rfl, ha⟩ := kn_own kn e
      exact ⟨_, rfl, .ref a, _, _, _, true, rfl, .own _, .base (.ins ha Z.B.O.cl Z.B.O.ha Z.B.O.hn Z.B.O.htk Z.B.O.hm), by unfold PySem.W.kitOne; simp, _, rfl, iteF q⟩
end
theorem ws_take {pl : List Str} {H : Hp} {xs : List V} {zs zs' : List Wi} (g : WsTo pl H xs zs) (g' : WsTo pl H xs zs') (l : zs.length ≤ zs'.length) : zs = zs'.take zs.length := by
  refine List.ext_getElem? fun j => ?_
  rcases Nat.lt_or_ge j zs.length with h | h
  · rw [List.getElem?_take_of_lt h]
    have hx : j < xs.length := Nat.lt_of_lt_of_le h g.len
    obtain ⟨z0, w, e⟩ := g.ok j _ _ (List.getElem?_eq_getElem hx) (List.getElem?_eq_getElem h)
    obtain ⟨z1, w', e'⟩ := g'.ok j _ _ (List.getElem?_eq_getElem hx) (List.getElem?_eq_getElem (show j < zs'.length by omega))
    rw [List.getElem?_eq_getElem h, List.getElem?_eq_getElem (show j < zs'.length by omega), ← e, ← e', four_uniq w.four w'.four]
  · rw [List.getElem?_eq_none h, List.getElem?_eq_none (by rw [List.length_take]; omega)]
theorem ws_clash {pl : List Str} {H : Hp} {xs : List V} {zs zs' : List Wi} {y : V} (g : WsTo pl H xs zs) (g' : WsTo pl H xs zs') (lt : zs.length < zs'.length) (hy : xs[zs.length]? = some y) (b : ∀ z0, WishIs H pl y z0 → tw z0 ∈ zs) : False := by
  have e := ws_take g g' (by omega)
  obtain ⟨z0, w, ez⟩ := g'.ok _ _ _ hy (List.getElem?_eq_getElem lt)
  have m := b z0 w
  rw [e, ez] at m
  exact take_mem g'.nd (List.getElem?_eq_getElem lt) m
theorem ws_uniq {pl : List Str} {H : Hp} {xs : List V} {r r' : Option Nat} (h : WsR pl H xs r) (h' : WsR pl H xs r') : r = r' := by
  cases r with
  | none =>
    cases r' with
    | none => rfl
    | some i =>
      obtain ⟨zs, l, g⟩ := h
      obtain ⟨zs', y, hy, l', g', b⟩ := h'
      have := (List.getElem?_eq_some_iff.mp hy).1
      exact (ws_clash g' g (by omega) (by rw [l']; exact hy) b).elim
  | some i =>
    obtain ⟨zs, y, hy, l, g, b⟩ := h
    have hi := (List.getElem?_eq_some_iff.mp hy).1
    cases r' with
    | none =>
      obtain ⟨zs', l', g'⟩ := h'
      exact (ws_clash g g' (by omega) (by rw [l]; exact hy) b).elim
    | some i' =>
      obtain ⟨zs', y', hy', l', g', b'⟩ := h'
      rcases Nat.lt_trichotomy i i' with q | q | q
      · exact (ws_clash g g' (by omega) (by rw [l]; exact hy) b).elim
      · rw [q]
      · exact (ws_clash g' g (by omega) (by rw [l']; exact hy') b').elim
/-- what is wrong of wishes -/
def WsBad (C : Addr) (pl : List Str) (H : Hp) (v : V) (i : Nat) : Prop := Kn C H v ∧ ((itemsOf H v = none ∧ i = 0) ∨ ∃ xs, itemsOf H v = some xs ∧ xs.length ≤ 900 ∧ (∀ x ∈ xs, WKn C H x) ∧ WsR pl H xs (some i))
def WsGood (C : Addr) (pl : List Str) (H : Hp) (v : V) (zs : List Wi) : Prop := Kn C H v ∧ ∃ xs, itemsOf H v = some xs ∧ xs.length ≤ 900 ∧ (∀ x ∈ xs, WKn C H x) ∧ zs.length = xs.length ∧ WsTo pl H xs zs
def spNInit {K : PySem.W.Frag} {mg : Str → Option Value} {B : BoardD K mg} (D : NoteD K mg B) : Sp := fun vs H Q E => ∃ (a dx : Addr) (vb vw : V), vs = [.ref a, vb, vw] ∧ H a = some (.ins D.C dx []) ∧
  ((Kn B.C H vb ∧ kdOf H vb ≠ "" ∧ Raised H D.XB.C "thing" vb E) ∨ ∃ (x : Addr) (pl : List Str) (ts : List Pr) (rm : List Str), vb = .ref x ∧ BoardAt (fun _ => True) B.C H x pl ts rm ∧
    ((∃ i : Nat, WsBad B.C pl H vw i ∧ Raised H D.XW.C "index" (.int i) E) ∨
      ∃ zs, WsGood B.C pl H vw zs ∧ ∀ H', NoteAt (fun b => b = a ∨ H b = none) D.C H' a x zs → (∀ b o, b ≠ a → H b = some o → H' b = some o) → Q .non H'))
abbrev N_n0 : List Str := ["self", "board", "wishes", "index", "wish"]
theorem sc_n0 : FnScope N_n0 ["self", "board", "wishes"] (defScope (nS 0)) := ⟨rfl, rfl, rfl, by decide +kernel, rfl, by decide +kernel, by decide +kernel⟩
section
variable {P : Program} {w : World} {K : PySem.W.Frag} {mg : Str → Option Value} {base : Heap}
theorem b_n0 {B : BoardD K mg} (D : NoteD K mg B) : Binds K (D.d 0) ["self", "board", "wishes"] [] := bindsD D.F0 fun _ _ _ _ _ _ us hl => match us, hl with | [_, _, _], _ => rfl
theorem ok_n0 (Z : LawD K mg) (D : NoteD K mg Z.B) : FnOk P w K mg base (L2.CX P w) 5 (D.f 0) (D.d 0) ["self", "board", "wishes"] (spNInit D) := by
  have GN : FnOk P w K mg base (L2.CX P w) 3 (Z.f 24) (Z.d 24) ["board"] (spNeed Z.B.C D.XB.C) := ok_need Z D
  have GF : FnOk P w K mg base CX0 4 (Z.f 28) (Z.d 28) ["board", "things"] (spFww Z.B.C) := ok_fww Z
  have GT : FnOk P w K mg base CX0 2 (Z.f 27) (Z.d 27) ["wish"] spToldW := ok_tw Z
  refine D.F0.ok sc_n0 (fun vs H Q E h => ?_) (fun cdv A outer s H vs Q E hr h => ⟨_, pss_cons (ps_expr (pe_call GN (hr.mono (by decide)) (by rfl) (Z.g 24 (by decide)) (Z.F 24 (by decide)).kp (bNeed Z) .nil (passes_call (takes_of rfl rfl rfl rfl) (fun _ _ _ _ h => h)) (pa_cons (pv 1) pa_nil)))
  (pss_cons (ps_set (i := 3) sc_n0.nd rfl (Or.inl rfl) (pe_call GF (hr.mono (by decide)) (by rfl) (Z.g 28 (by decide)) (Z.F 28 (by decide)).kp (bFww Z) .nil pass0 (pa_cons (pv 1) (pa_cons (pv 2) pa_nil))))
  (pss_cons (ps_if (pt_cmpR op_notN (pv 3) pe_non (nomark _)) (pss_one (ps_raise rfl (takes_of rfl rfl rfl rfl) (pmk_oex D.XW.T D.XW.iC D.XW.tI (ok_errW D.XW) (hr.mono (by decide)) (bEW D.XW) .nil pass0 (by rfl) D.XW.g (by exact pa_cons (pv 3) pa_nil)))) pss_nil)
  (pss_cons (ps_fld (pv 0) (pv 1) (by rfl))
  (pss_one (ps_fld (pv 0) (pe_lc (own := [("wish", 4)]) (tt := tYes) (te := tCall spToldW [] L2.E0 (tCons (tVar 4) tNil)) rfl sc_n0.nd (pi_seqQ (pv 2)) (blkOk_by (own := [("wish", 4)]) (N := N_n0) (sc := defScope (nS 0)) (by decide +kernel)) (fun _ _ _ _ _ => pg_name (i := 4) sc_n0.nd rfl (Or.inl rfl)) (fun _ _ _ _ _ => pts_nil) (fun _ _ _ _ _ => (pe_call GT (hr.mono (by decide)) (by rfl) (Z.g 27 (by decide)) (Z.F 27 (by decide)).kp (bTw Z) .nil pass0 (pa_cons (pv 4) pa_nil)))) (by rfl)))))), ?_⟩)
  · obtain ⟨a, dx, vb, vw, rfl, _⟩ := h
    rfl
  · obtain ⟨a, dx, vb, vw, rfl, ha, h⟩ := h
    rcases h with ⟨kb, nk, hR⟩ | ⟨x, pl, ts, rm, rfl, hB, h⟩
    · exact ⟨_, rfl, vb, rfl, kb, .inl ⟨nk, hR⟩⟩
    obtain ⟨bx, bfs, hbx⟩ := hB.kn
    have h : (∃ i : Nat, WsBad Z.B.C pl H vw i ∧ Raised H D.XW.C "index" (.int i) E) ∨ ∃ zs, WsGood Z.B.C pl H vw zs ∧ ∀ H', NoteAt (fun b => b = a ∨ H b = none) D.C H' a x zs → (∀ b o, b ≠ a → H b = some o → H' b = some o) → Q .non H' := h
    refine ⟨_, rfl, .ref x, rfl, .own hbx, .inr ⟨by simp only [kdOf, hbx], ?_⟩⟩
    rcases h with ⟨i, ⟨kw, hw⟩, hR⟩ | ⟨zs, ⟨kw, xs, e, lx, kx, lz, g⟩, k⟩
    · have fin : ∀ H1, Same H H1 → ∀ Q' : VK, (∀ H2, Same H H2 → Q' (.int (i : Nat)) H2) → Q' (.int (i : Nat)) H1 := fun H1 S1 Q' q => q H1 S1
      refine ⟨_, rfl, _, rfl, x, vw, pl, ts, rm, rfl, hB, kw, ?_⟩
      rcases hw with ⟨e, rfl⟩ | ⟨xs, e, lx, kx, hr0⟩
      · refine .inl ⟨e, fun H1 S1 => ⟨_, rfl, rfl, _, rfl, ?_⟩⟩
        rw [show (!decide (V.int 0 = V.non)) = true from by rw [decide_eq_false (by intro z; cases z)]; rfl]
        exact iteT ⟨_, rfl, by show 1 ≤ 1000; decide, fun a na => (hR.mono S1).of na⟩
      · refine .inr ⟨xs, e, lx, kx, fun r H1 hr1 S1 => ?_⟩
        cases ws_uniq hr1 hr0
        refine ⟨_, rfl, rfl, _, rfl, ?_⟩
        rw [show (!decide (optV (some i) = V.non)) = true from by rw [decide_eq_false (by intro z; cases z)]; rfl]
        exact iteT ⟨_, rfl, by show 1 ≤ 1000; decide, fun a na => (hR.mono S1).of na⟩
    refine ⟨_, rfl, _, rfl, x, vw, pl, ts, rm, rfl, hB, kw, .inr ⟨xs, e, lx, kx, fun r H1 hr1 S1 => ?_⟩⟩
    cases ws_uniq (r' := none) hr1 ⟨zs, lz, g⟩
    refine ⟨_, rfl, rfl, _, rfl, ?_⟩
    rw [show (!decide (optV none = V.non)) = false from rfl]
    refine iteF ?_
    have ia : itemsOf H (.ref a) = none := items_ins ha
    have ha1 := S1 _ _ ha
    refine ⟨_, rfl, _, rfl, a, D.C, dx, [], rfl, ha1, D.O.cl, D.noB, by show 0 < 1000; decide, ?_⟩
    have e1 : putF "_board" (.ref x) [] = [(("_board" : Str), V.ref x)] := rfl
    have e2 : ∀ q, putF "_wishes" (.ref q) [("_board", .ref x)] = [(("_board" : Str), V.ref x), ("_wishes", .ref q)] := fun _ => rfl
    rw [e1]
    have B1 : Bx a H (upd H1 a (.ins D.C dx [("_board", .ref x)])) := (Bx.same S1).trans Bx.at_
    have ha2 : (upd H1 a (.ins D.C dx [("_board", .ref x)])) a = some (.ins D.C dx [("_board", .ref x)]) := upd_same
    generalize hH2 : upd H1 a (.ins D.C dx [("_board", .ref x)]) = H2 at *
    obtain ⟨b, rfl, _⟩ := items_ref e
    have eb := B1.items ia e
    have fours : ∀ (j : Nat) (y : V), xs[j]? = some y → ∃ z0, Four H2 y z0 ∧ zs[j]? = some (tw z0) := fun j y hy => by
      have jl := (List.getElem?_eq_some_iff.mp hy).1
      have hz : zs[j]? = some (zs[j]'(by omega)) := List.getElem?_eq_getElem _
      obtain ⟨z0, w, q⟩ := g.ok j y _ hy hz
      obtain ⟨p1, p2, f0, f1, f2⟩ := w.four
      exact ⟨z0, ⟨p1, p2, B1.items ia f0, B1.items ia f1, B1.items ia f2⟩, by rw [hz, q]⟩
    have nb : ∀ {c : Addr}, H2 c = none → H c = none := fun n => B1.free ha2 n
    refine ⟨_, rfl, b, xs, rfl, wk_items2 (H := H2) eb (fun _ _ h => h) fun L hL => ⟨fun j H' => ∃ acc, H' L = some (.lst acc) ∧ acc.length = j ∧ WisAt (fun c => H2 c = none) H' acc (zs.take j) ∧ Same H2 H', ⟨[], upd_same, rfl, ⟨rfl, fun i v z h => by simp at h⟩, new_same hL⟩, fun j H' _ ⟨_, _, _, _, S'⟩ => S', ?_, ?_⟩⟩
    · rintro j y H' hy ⟨acc, hacc, lac, wa, S'⟩
      obtain ⟨z0, ⟨p1, p2, f0, f1, f2⟩, ez⟩ := fours j y hy
      have jl := (List.getElem?_eq_some_iff.mp hy).1
      refine ⟨rfl, yes_of ⟨_, rfl, y, z0, rfl, ⟨p1, p2, items_same S' f0, items_same S' f1, items_same S' f2⟩, fun t H3 wt S3 => ⟨acc, S3 _ _ hacc, by rw [lac]; exact small1000 (by omega), acc ++ [.ref t], upd_same, by rw [List.length_append, lac]; rfl, ?_, ?_⟩⟩⟩
      · have notL : ∀ {c : Addr} {o : HO}, H2 c = none ∧ c ≠ L → H3 c = some o → (upd H3 L (.lst (acc ++ [V.ref t]))) c = some o := fun h q => by
          rw [upd_ne h.2]
          exact q
        have tupL : ∀ {c : Addr} {ys : List V} {Hx : Hp}, Hx c = some (.tup ys) → Hx L = some (.lst acc) → c ≠ L := fun h1 h2 q => by
          rw [q, h2] at h1
          cases h1
        rw [take_snoc ez]
        refine ⟨by rw [List.length_append, List.length_append, lac, List.length_take]; show j + 1 = min j zs.length + 1; omega, fun i v z h1 h2 => ?_⟩
        have put : ∀ {t' : Addr} {z' : Wi}, WiN (fun c => H2 c = none) H3 t' z' → WiN (fun c => H2 c = none) (upd H3 L (.lst (acc ++ [V.ref t]))) t' z' := fun {t' z'} ⟨u1, u2, a1, a2, a3, n1, n2, n3⟩ => ⟨u1, u2, notL ⟨n1, tupL a1 (S3 _ _ hacc)⟩ a1, notL ⟨n2, tupL a2 (S3 _ _ hacc)⟩ a2, notL ⟨n3, tupL a3 (S3 _ _ hacc)⟩ a3, n1, n2, n3⟩
        have lt' : (zs.take j).length = j := by rw [List.length_take]; omega
        rcases Nat.lt_trichotomy i j with q | q | q
        · rw [List.getElem?_append_left (by omega)] at h1 h2
          obtain ⟨t', rfl, w'⟩ := wa.2 i v z h1 h2
          exact ⟨t', rfl, put (w'.frame fun c o _ e => S3 _ _ e)⟩
        · rw [List.getElem?_append_right (by omega), q, lac, Nat.sub_self] at h1
          rw [List.getElem?_append_right (by omega), q, lt', Nat.sub_self] at h2
          cases h1
          cases h2
          exact ⟨t, rfl, put (wt.weak fun c hc => S'.free hc)⟩
        · rw [List.getElem?_eq_none (by rw [List.length_append, lac]; show j + 1 ≤ i; omega)] at h1
          cases h1
      · exact fun c o q => by
          rw [upd_ne (ne_of_none q hL)]
          exact S3 _ _ (S' _ _ q)
    rintro H3 ⟨acc, hacc, lac, wa, S3⟩
    rw [← lz, List.take_length] at wa
    have ha3 := S3 _ _ ha2
    refine ⟨_, rfl, a, D.C, dx, [("_board", .ref x)], rfl, ha3, D.O.cl, D.noW, by show 1 < 1000; decide, ?_⟩
    rw [e2]
    have aL : a ≠ L := ne_of_none ha2 hL
    refine k _ ⟨dx, L, acc, upd_same, by rw [upd_ne aL.symm]; exact hacc, ?_, .inl rfl, .inr (nb hL)⟩ (fun c o n q => by rw [upd_ne n]; exact S3 _ _ (B1 c o n q))
    refine (wa.frame (H' := upd H3 a (.ins D.C dx [("_board", .ref x), ("_wishes", .ref L)])) fun c o hc q => ?_).weak fun c hc => .inr (nb hc)
    rw [upd_ne (fun z => by rw [z, ha2] at hc; cases hc)]
    exact q
end
end E1

set_option Elab.async false
set_option linter.all false
set_option maxRecDepth 100000
set_option maxHeartbeats 8000000
/-! notices.py: what a notice tells; equal ones. -/
namespace E1
open PySem PySem.Spec PyProof.Rows L2 G0
def wiD (z : Wi) : PyData := .tuple [prD1 z.1, prD1 z.2]
def wsD (ws : List Wi) : PyData := .list (ws.map wiD)
theorem dpWi {K : PySem.W.Frag} {H : Hp} {t : Addr} {z : Wi} (h : WiAt H t z) : Dp K H (.ref t) (wiD z) := by
  obtain ⟨u1, u2, a, b, c⟩ := h
  exact .tup (SqT.of a) (.cons (.tup (SqT.of b) (.cons (.str _) (.cons (.str _) .nil))) (.cons (.tup (SqT.of c) (.cons (.str _) (.cons (.str _) .nil))) .nil))
theorem dpWsA {K : PySem.W.Frag} {H : Hp} {N : Addr → Prop} : ∀ {vs : List V} {ws : List Wi}, WisAt N H vs ws → DpAll K H vs (ws.map wiD)
  | [], [], _ => .nil
  | [], _ :: _, h => by cases h.1
  | _ :: _, [], h => by cases h.1
  | v :: vs, z :: ws, h => by
    obtain ⟨t, e, w⟩ := h.2 0 v z rfl rfl
    rw [e]
    exact .cons (dpWi w.at) (dpWsA ⟨Nat.succ.inj h.1, fun i v z e1 e2 => h.2 (i + 1) v z e1 e2⟩)
theorem dp_ws {K : PySem.W.Frag} {H : Hp} {N : Addr → Prop} {a : Addr} {vs : List V} {ws : List Wi} (h : H a = some (.lst vs)) (w : WisAt N H vs ws) : Dp K H (.ref a) (wsD ws) := .lst (SqL.of h) (dpWsA w)
/-- names that stand -/
def WsNm (ws : List Wi) : Prop := ∀ z ∈ ws, ∀ s ∈ four z, nameB s = true
theorem layw : ∀ ws : List Wi, WsNm ws → PyData.canLayAll0 (ws.map wiD) = true ∧ PyData.depthAll (ws.map wiD) ≤ 3
  | [], _ => ⟨by simp [PyData.canLayAll0], by simp [PyData.depthAll]⟩
  | z :: ws, h => by
    have ih := layw ws fun y hy => h y (List.mem_cons_of_mem _ hy)
    have o := h z List.mem_cons_self
    have o1 := name_ok (o z.1.1 (by simp [four]))
    have o2 := name_ok (o z.1.2 (by simp [four]))
    have o3 := name_ok (o z.2.1 (by simp [four]))
    have o4 := name_ok (o z.2.2 (by simp [four]))
    refine ⟨by simp [wiD, prD1, PyData.canLayAll0, PyData.canLay0, ih.1, o1, o2, o3, o4], ?_⟩
    have := ih.2
    simp only [List.map_cons, wiD, prD1, PyData.depthAll, PyData.depth] at this ⊢
    omega
theorem shW {ws : List Wi} (h : WsNm ws) : SeqAt.shaped (wsD ws) = true := by
  have l := layw ws h
  show ((wsD ws).canLay0 && decide ((wsD ws).depth ≤ 64)) = true
  rw [Bool.and_eq_true]
  refine ⟨by simp only [wsD, PyData.canLay0]; exact l.1, decide_eq_true ?_⟩
  simp only [wsD, PyData.depth]
  omega
theorem eqv_wi (x y : Wi) : PyData.eqv (wiD x) (wiD y) = decide (x = y) := by
  simp only [wiD, PyData.eqv, PyData.eqvAll, Bool.and_true]
  rw [eqv_pr, eqv_pr]
  obtain ⟨a, b⟩ := x
  obtain ⟨c, d⟩ := y
  by_cases h : a = c
  · by_cases h2 : b = d
    · simp [h, h2]
    · simp [h, h2]
  · simp [h]
theorem eqvW : ∀ xs ys : List Wi, PyData.eqvAll (xs.map wiD) (ys.map wiD) = decide (xs = ys)
  | [], [] => by simp [PyData.eqvAll]
  | [], _ :: _ => by simp [PyData.eqvAll]
  | _ :: _, [] => by simp [PyData.eqvAll]
  | x :: xs, y :: ys => by
    simp only [List.map_cons, PyData.eqvAll]
    rw [eqvW xs ys, eqv_wi, dec_cons]
theorem eqv_ws (xs ys : List Wi) : PyData.eqv (wsD xs) (wsD ys) = decide (xs = ys) := by
  simp only [wsD, PyData.eqv]
  exact eqvW xs ys
/-- a notice, its board -/
structure NtAt (N M : Addr → Prop) (CN CB : Addr) (H : Hp) (a x : Addr) (pl : List Str) (ts : List Pr) (rm : List Str) (ws : List Wi) : Prop where
  n : NoteAt N CN H a x ws
  b : BoardAt M CB H x pl ts rm
  nm : WsNm ws
def spNBoard (C : Addr) : Sp := fun vs H Q _ => ∃ a x ws, vs = [.ref a] ∧ NoteAt (fun _ => True) C H a x ws ∧ Q (.ref x) H
def spNWish (C : Addr) : Sp := fun vs H Q _ => ∃ a x ws, vs = [.ref a] ∧ NoteAt (fun _ => True) C H a x ws ∧ ∀ l wv, H l = none → WisAt (fun c => ∃ o, H c = some o) H wv ws → NoteAt (fun _ => True) C H a x ws → (∀ v ∈ wv, v ≠ .ref l) → Q (.ref l) (upd H l (.lst wv))
def spNEq (CN CB : Addr) : Sp := fun vs H Q _ => ∃ a v x pl ts rm ws, vs = [.ref a, v] ∧ NtAt (fun _ => True) (fun _ => True) CN CB H a x pl ts rm ws ∧
  ((Kn CB H v ∧ Q (.bl false) H) ∨ ∃ b y pl' ts' rm' ws', v = .ref b ∧ NtAt (fun _ => True) (fun _ => True) CN CB H b y pl' ts' rm' ws' ∧ Q (.bl ((decide (pl = pl') && (decide (ts = ts') && decide (rm = rm'))) && decide (ws = ws'))) H)
section
variable {P : Program} {w : World} {K : PySem.W.Frag} {mg : Str → Option Value} {base : Heap}
theorem sc_n1 : FnScope ["self", "other"] ["self", "other"] (defScope (nS 1)) := ⟨rfl, rfl, rfl, by decide +kernel, rfl, by decide +kernel, by decide +kernel⟩
theorem sc_n2 : FnScope ["self"] ["self"] (defScope (nS 2)) := ⟨rfl, rfl, rfl, by decide +kernel, rfl, by decide +kernel, by decide +kernel⟩
theorem sc_n3 : FnScope ["self"] ["self"] (defScope (nS 3)) := ⟨rfl, rfl, rfl, by decide +kernel, rfl, by decide +kernel, by decide +kernel⟩
theorem b_n1 {B : BoardD K mg} (D : NoteD K mg B) : Binds K (D.d 1) ["self", "other"] [] := bindsD D.F1 fun _ _ _ _ _ _ us hl => match us, hl with | [_, _], _ => rfl
theorem b_n2 {B : BoardD K mg} (D : NoteD K mg B) : Binds K (D.d 2) ["self"] [] := bindsD D.F2 fun _ _ _ _ _ _ us hl => match us, hl with | [_], _ => rfl
theorem b_n3 {B : BoardD K mg} (D : NoteD K mg B) : Binds K (D.d 3) ["self"] [] := bindsD D.F3 fun _ _ _ _ _ _ us hl => match us, hl with | [_], _ => rfl
theorem ok_n2 {B : BoardD K mg} (D : NoteD K mg B) : FnOk P w K mg base CX0 1 (D.f 2) (D.d 2) ["self"] (spNBoard D.C) := by
  refine D.F2.ok sc_n2 (fun vs H Q E h => ?_) (fun cdv A outer s H vs Q E hr h => ⟨_, pss_one (ps_ret (pe_fld (pv 0) rfl)), ?_⟩)
  · obtain ⟨a, x, ws, rfl, _⟩ := h
    rfl
  · obtain ⟨a, x, ws, rfl, ⟨dx, aW, wv, h1, _⟩, q⟩ := h
    exact ⟨_, rfl, a, D.C, dx, _, _, rfl, h1, D.O.cl, D.noB, rfl, q⟩
theorem ok_n3 (Z : LawD K mg) (D : NoteD K mg Z.B) : FnOk P w K mg base CX0 1 (D.f 3) (D.d 3) ["self"] (spNWish D.C) := by
  refine D.F3.ok sc_n3 (fun vs H Q E h => ?_) (fun cdv A outer s H vs Q E hr h => ⟨_, pss_one (ps_ret (pe_callTy call_list_of (by rfl) Z.t.list PyProof.Rows.boot_list (pa_cons (pe_fld (pv 0) rfl) pa_nil))), ?_⟩)
  · obtain ⟨a, x, ws, rfl, _⟩ := h
    rfl
  · obtain ⟨a, x, ws, rfl, n0, k⟩ := h
    obtain ⟨dx, aW, wv, h1, h2, h3, _⟩ := id n0
    have there : WisAt (fun c => ∃ o, H c = some o) H wv ws := ⟨h3.1, fun i v z e1 e2 => by
      obtain ⟨t, e, u1, u2, q1, q2, q3, _⟩ := h3.2 i v z e1 e2
      exact ⟨t, e, u1, u2, q1, q2, q3, ⟨_, q1⟩, ⟨_, q2⟩, ⟨_, q3⟩⟩⟩
    refine ⟨_, rfl, a, D.C, dx, _, _, rfl, h1, D.O.cl, D.noW, rfl, aW, wv, rfl, .inl (SqL.of h2), fun l nl => k l wv nl there n0 fun v hv e => ?_⟩
    obtain ⟨i, hi⟩ := List.getElem?_of_mem hv
    have il := (List.getElem?_eq_some_iff.mp hi).1
    obtain ⟨t, e2, u1, u2, q1, _⟩ := h3.2 i v _ hi (List.getElem?_eq_getElem (by rw [← h3.1]; exact il))
    rw [e2] at e
    cases e
    rw [nl] at q1
    cases q1
theorem ok_n1 (Z : LawD K mg) (D : NoteD K mg Z.B) : FnOk P w K mg base CX0 2 (D.f 1) (D.d 1) ["self", "other"] (spNEq D.C Z.B.C) := by
  have GB : FnOk P w K mg base CX0 1 (Z.B.f 1) (Z.B.d 1) ["self", "other"] (spBEq Z.B.C) := ok_beq Z.B Z.t
  refine D.F1.ok sc_n1 (fun vs H Q E h => ?_) (fun cdv A outer s H vs Q E hr h => ⟨_, pss_one (ps_ret (pe_and (pe_callB call_isi (by rfl) Z.t.isinstance (by decide +kernel) (pa_cons (pv 1) (pa_cons (pe_glob (by rfl) D.g (v := .ref D.C) rfl) pa_nil)))
    (pe_and (pe_cmpR (op_beq GB (hr.mono (by decide)) Z.B.eqA Z.B.eqF (b_m1 Z.B) pass0 Z.B.nf) (pe_fld (pv 0) rfl) (pe_fld (pv 1) rfl) (nomark _)) (pe_one (pe_cmpR (op_eqD hr.units) (pe_fld (pv 0) rfl) (pe_fld (pv 1) rfl) (nomark _)))))), ?_⟩)
  · obtain ⟨a, v, x, pl, ts, rm, ws, rfl, _⟩ := h
    rfl
  · obtain ⟨a, v, x, pl, ts, rm, ws, rfl, ⟨⟨dx, aW, wv, h1, h2, h3, _⟩, hB, nm⟩, h⟩ := h
    rcases h with ⟨kn, q⟩ | ⟨b, y, pl', ts', rm', ws', rfl, ⟨⟨dx', aW', wv', g1, g2, g3, _⟩, gB, nm'⟩, q⟩
    · by_cases e : kdOf H v = ""
      · obtain ⟨b, dx', fs, rfl, hb⟩ := kn_own kn e
        exact ⟨_, rfl, .ref b, _, _, _, false, rfl, .own _, .base (.ins hb Z.B.O.cl Z.B.O.ha Z.B.O.hn Z.B.O.htk Z.B.O.hm), D.xN, _, rfl, iteF q⟩
      · obtain ⟨t, ty, ki⟩ := kn_kit D.O kn e
        exact ⟨_, rfl, v, _, t, _, false, rfl, .own _, ty, ki, _, rfl, iteF q⟩
    · refine ⟨_, rfl, .ref b, _, _, _, true, rfl, .own _, .base (.ins g1 D.O.cl D.O.ha D.O.hn D.O.htk D.O.hm), by unfold PySem.W.kitOne; simp, _, rfl, iteT ?_⟩
      obtain ⟨bx, bfs, hbx⟩ := hB.kn
      obtain ⟨by_, bfs', hby⟩ := gB.kn
      refine ⟨_, rfl, a, D.C, dx, _, _, rfl, h1, D.O.cl, D.noB, rfl, _, rfl, b, D.C, dx', _, _, rfl, g1, D.O.cl, D.noB, rfl, x, bx, _, rfl, hbx, .own hby, x, .ref y, pl, ts, rm, rfl, hB, .inr ⟨y, pl', ts', rm', rfl, gB, _, rfl, ?_⟩⟩
      cases e : (decide (pl = pl') && (decide (ts = ts') && decide (rm = rm'))) with
      | false =>
        rw [e] at q
        exact iteF q
      | true =>
        rw [e] at q
        refine iteT ⟨_, rfl, a, D.C, dx, _, _, rfl, h1, D.O.cl, D.noW, rfl, _, rfl, b, D.C, dx', _, _, rfl, g1, D.O.cl, D.noW, rfl, wsD ws, wsD ws', dp_ws h2 h3, dp_ws g2 g3, shW nm, shW nm', ?_⟩
        rw [eqv_ws]
        exact q
end
end E1

set_option Elab.async false
set_option linter.all false
set_option maxRecDepth 100000
set_option maxHeartbeats 4000000
/-! min and max of a list of two unlike pairs of texts. -/
namespace G0
open PySem PySem.Spec PyProof.Rows L2 PySem.W
abbrev prT (p : Pr) : PyData := .tuple [.str p.1, .str p.2]
theorem lt_prT (p q : Pr) : dataLt (prT p) (prT q) = ltPr p q := by
  obtain ⟨a, b⟩ := p
  obtain ⟨c, d⟩ := q
  rw [dataLt_tuple]
  have al : ∀ x y : Str, alike (.str x) (.str y) = true := fun _ _ => by simp [alike]
  unfold ltPr
  by_cases e : a = c
  · subst e
    rw [if_pos rfl, dataLt_all_yes (al a a) (by simp [PyData.eqv])]
    by_cases e2 : b = d
    · subst e2
      rw [dataLt_all_yes (al b b) (by simp [PyData.eqv])]
      show _ = ltS b b
      rw [ltS_irr]
      simp [keyToksAll, PyProof.Rows.lexLt, itemOrd]
      rfl
    · rw [dataLt_all_no (al b d) (by simpa [PyData.eqv] using e2), dataLt_str]
      rfl
  · rw [if_neg e, dataLt_all_no (al a c) (by simpa [PyData.eqv] using e), dataLt_str]
    rfl
theorem alike_prT (p q : Pr) : AlikeAll [prT p, prT q] := by
  refine ⟨fun x hx y hy => ?_, fun x hx => ?_⟩
  · simp only [List.mem_cons, List.not_mem_nil, or_false] at hx hy
    rcases hx with rfl | rfl <;> rcases hy with rfl | rfl <;> simp [alike, alikeAll]
  · simp only [List.mem_cons, List.not_mem_nil, or_false] at hx
    rcases hx with rfl | rfl <;> simp
section
variable {X : Cx} {pins : List (Addr × Obj)} {σ : L2.St} {H : Hp} {s : Shared}
theorem two_reads (I : Inv X pins σ H s) {a t1 t2 : Addr} {p q : Pr} (hs : SqL X.K H a [.ref t1, .ref t2]) (h1 : H t1 = some (.tup [.str p.1, .str p.2])) (h2 : H t2 = some (.tup [.str q.1, .str q.2])) :
    s.heap.IsList a #[.ref t1, .ref t2] ∧ (∃ as, Reads s.heap (.ref t1) (prT p) as) ∧ (∃ as, Reads s.heap (.ref t2) (prT q) as) ∧ ∃ as, ReadsAll s.heap [.ref t1, .ref t2] [prT p, prT q] as := by
  obtain ⟨its, rv, lay, _⟩ := I.list hs
  have e : its = [.ref t1, .ref t2] := by
    cases rv with
    | cons r1 rv =>
      cases rv with
      | cons r2 rv =>
        cases rv
        cases r1
        cases r2
        rfl
  subst e
  obtain ⟨as, r1⟩ := Dp.reads I (prT p) (.ref t1) (.ref t1) (.tup (SqT.of h1) (.cons (.str _) (.cons (.str _) .nil))) rfl
  obtain ⟨bs, r2⟩ := Dp.reads I (prT q) (.ref t2) (.ref t2) (.tup (SqT.of h2) (.cons (.str _) (.cons (.str _) .nil))) rfl
  exact ⟨lay.isList, ⟨as, r1⟩, ⟨bs, r2⟩, _, .cons r1 (.cons r2 .nil)⟩
theorem which {h h' : Heap} {t1 t2 : Addr} {p q m : Pr} {i : Nat} {v : Value} {as bs cs : List Addr} (ne : p ≠ q) (r1 : Reads h (.ref t1) (prT p) as) (r2 : Reads h (.ref t2) (prT q) bs) (k : ∀ b o, h.get? b = some o → h'.get? b = some o)
    (e : (#[Value.ref t1, Value.ref t2] : Array Value)[i]? = some v) (r : Reads h' v (prT m) cs) (hm : m = p ∨ m = q) : v = .ref (if m = q then t2 else t1) := by
  have inj : ∀ {x y : Pr}, prT x = prT y → x = y := fun {x y} z => by
    obtain ⟨a, b⟩ := x
    obtain ⟨c, d⟩ := y
    simpa using z
  have at_ : v = .ref t1 ∨ v = .ref t2 := by
    match i, e with
    | 0, e => exact .inl (by simpa using e.symm)
    | 1, e => exact .inr (by simpa using e.symm)
    | n + 2, e => simp at e
  rcases at_ with rfl | rfl
  · have := inj ((Reads.unique (reads_keeps k r1) _ _ r).1)
    rw [if_neg (fun z => ne (this.trans z))]
  · have := inj ((Reads.unique (reads_keeps k r2) _ _ r).1)
    rw [if_pos this.symm]
def rMinP (K : PySem.W.Frag) : List V → Hp → VK → Prop := fun vs H Q => ∃ (a t1 t2 : Addr) (p q : Pr), vs = [V.ref a] ∧ SqL K H a [.ref t1, .ref t2] ∧ H t1 = some (.tup [.str p.1, .str p.2]) ∧ H t2 = some (.tup [.str q.1, .str q.2]) ∧ p ≠ q ∧ Q (.ref (if ltPr q p = true then t2 else t1)) H
def rMaxP (K : PySem.W.Frag) : List V → Hp → VK → Prop := fun vs H Q => ∃ (a t1 t2 : Addr) (p q : Pr), vs = [V.ref a] ∧ SqL K H a [.ref t1, .ref t2] ∧ H t1 = some (.tup [.str p.1, .str p.2]) ∧ H t2 = some (.tup [.str q.1, .str q.2]) ∧ p ≠ q ∧ Q (.ref (if ltPr p q = true then t2 else t1)) H
theorem cr_minP (calm : X.calm = true) (room : X.A.units + 5 < cLine) : CallR X (.builtin "min") (rMinP X.K) := by
  intro pins s σ H vs us Q I r h
  obtain ⟨a, t1, t2, p, q, rfl, hs, h1, h2, ne, qq⟩ := h
  rw [Vals.ref1 r]
  obtain ⟨isl, ⟨as, r1⟩, ⟨bs, r2⟩, cs, rr⟩ := two_reads I hs h1 h2
  refine min_list_data (I.ok.hd calm) isl rr (alike_prT p q) (by simp [PyData.depthAll, PyData.depth]; omega) fun i v h' tk ds hv hr k => ?_
  have e : minD (prT p) [prT q] = prT (if ltPr q p = true then q else p) := by
    show (if dataLt (prT q) (prT p) = true then prT q else prT p) = _
    rw [lt_prT]
    split <;> rfl
  rw [e] at hr
  have w' := which ne r1 r2 k hv hr (by split <;> simp)
  refine ⟨.ref (if ltPr q p = true then t2 else t1), H, I.kept (t' := tk) k, ?_, qq⟩
  show v = _
  rw [w']
  by_cases c : ltPr q p = true
  · rw [if_pos c, if_pos c, if_pos rfl]
  · rw [if_neg c, if_neg c, if_neg ne]
theorem cr_maxP (calm : X.calm = true) (room : X.A.units + 5 < cLine) : CallR X (.builtin "max") (rMaxP X.K) := by
  intro pins s σ H vs us Q I r h
  obtain ⟨a, t1, t2, p, q, rfl, hs, h1, h2, ne, qq⟩ := h
  rw [Vals.ref1 r]
  obtain ⟨isl, ⟨as, r1⟩, ⟨bs, r2⟩, cs, rr⟩ := two_reads I hs h1 h2
  refine max_list_data (I.ok.hd calm) isl rr (alike_prT p q) (by simp [PyData.depthAll, PyData.depth]; omega) fun i v h' tk ds hv hr k => ?_
  have e : maxD (prT p) [prT q] = prT (if ltPr p q = true then q else p) := by
    show (if dataLt (prT p) (prT q) = true then prT q else prT p) = _
    rw [lt_prT]
    split <;> rfl
  rw [e] at hr
  have w' := which ne r1 r2 k hv hr (by split <;> simp)
  refine ⟨.ref (if ltPr p q = true then t2 else t1), H, I.kept (t' := tk) k, ?_, qq⟩
  show v = _
  rw [w']
  by_cases c : ltPr p q = true
  · rw [if_pos c, if_pos c, if_pos rfl]
  · rw [if_neg c, if_neg c, if_neg ne]
end
end G0

set_option Elab.async false
set_option linter.all false
set_option maxRecDepth 100000
set_option maxHeartbeats 4000000
/-! A pair turned about: t[::-1] of a tuple of two. -/
namespace G0
open PySem PySem.Spec PyProof.Rows L2 HT
section
variable {prog : Program} {w : World} {A : Around} {E : Value → Shared → Prop} {s : Shared}
theorem applied2 {sl : Addr} {vk : Value} {R : Int × Int × Nat → Shared → Prop} (hs : s.heap.IsSliceOf sl .none .none vk) (pk : IsPart vk (some (-1))) (h : R (1, -1, 2) s) :
    wpAny (model prog w) A (Builtin.Slice.sliceApplied (.ref sl) (pure ((2 : Nat) : Int))) R E s := by
  obtain ⟨os, k1, k2, k3⟩ := id hs
  unfold Builtin.Slice.sliceApplied Builtin.Slice.sliceFields
  refine wpAny_bind (wpAny_bind (wpAny_field k1 k3 (x := .none) rfl ?_))
  refine wpAny_bind (wpAny_field k1 k3 (x := .none) rfl (wpAny_bind (wpAny_field k1 k3 (x := vk) rfl (wpAny_pure ?_))))
  refine wpAny_bind (slicePart_ pk ?_)
  show wpAny _ _ (if ((-1 : Int) == 0) = true then _ else _) _ _ s
  rw [if_neg (by decide)]
  exact wpAny_bind (slicePart_none (wpAny_bind (slicePart_none (wpAny_bind (wpAny_pure (wpAny_pure h))))))
theorem getItem_pair_rev {t sl : Addr} {a b vk : Value} {R : Value → Shared → Prop} (ht : IsTup s.heap t #[a, b]) (hs : s.heap.IsSliceOf sl .none .none vk) (pk : IsPart vk (some (-1)))
    (h : R (.ref s.heap.objs.size) { s with heap := s.heap.push { cls := .type "tuple", data := .seq #[b, a] } }) : wpAny (model prog w) A (getItem (.ref t) (.ref sl)) R E s := by
  have fit : sizeOk (.seq #[b, a]) := by
    show 2 ≤ sizeLine
    decide
  have isS : s.TypeIs (.ref sl) "slice" := by
    obtain ⟨os, k1, k2, _⟩ := id hs
    exact ⟨os, k1, k2⟩
  unfold getItem
  try with_reducible refine wpAny_holding ?_
  first | refine wpAny_bind (wpAny_pure ?_) | skip
  refine wpAny_bind (wpAny_sequenceKey ht.typeIs (by decide) (wpAny_bind (wpAny_callSpecial?_slot (name := Str.ofString "__getitem__") ht.typeIs slot_tuple_getitem (wpAny_call_entry slot_tuple_getitem ht.typeIs entry_tuple_getitem ?_ (args_tuple_getitem _ _)))))
  show wpAny _ _ (Builtin.Tuple.tupleItemsOf (.ref t) >>= _) _ _ s
  refine wpAny_bind (tupleItemsOf_ ht (wpAny_bind (wpAny_typeOf isS ?_)))
  rw [if_pos (by decide)]
  refine wpAny_bind (applied2 hs pk ?_)
  show wpAny _ _ (if ((1 : Int) == 0 && (-1 : Int) == 1 && (2 : Nat) == 2) = true then _ else _) _ _ s
  rw [if_neg (by decide)]
  have items : ((List.range 2).filterMap fun (k : Nat) => (#[a, b] : Array Value)[((1 : Int) + (k : Int) * -1).toNat]?).toArray = #[b, a] := rfl
  rw [items]
  first
    | exact wpAny_bind (m := Builtin.Tuple.tupleExact _) (wpAny_newObj_type (wpAny_pure ⟨_, rfl, wpAny_pure h⟩) fit)
    | exact wpAny_bind (m := Builtin.Tuple.tupleExact _) (wpAny_newObj_type (wpAny_bind (wpAny_pure (wpAny_pure ⟨_, rfl, wpAny_pure h⟩))) fit)
    | exact wpAny_bind (wpAny_bind (m := Builtin.Tuple.tupleExact _) (wpAny_newObj_type (wpAny_pure (wpAny_pure ⟨_, rfl, wpAny_pure h⟩)) fit))
    | exact wpAny_bind (wpAny_bind (m := Builtin.Tuple.tupleExact _) (wpAny_newObj_type (wpAny_pure ⟨_, rfl, wpAny_pure h⟩) fit))
end
/-- t[::-1], t of two -/
def tRev2 (K : PySem.W.Frag) (te : TE) : TE := fun σ H Q => te σ H fun x H1 => ∃ a y z, x = .ref a ∧ SqT K H1 a [y, z] ∧ ∀ p, H1 p = none → Q (.ref p) (upd H1 p (.tup [z, y]))
section
variable {X : Cx} {e : Expr} {te : TE} {k : Nat} {p1 p2 p3 pos : Pos}
theorem pe_rev2 (he : PE X e te) : PE X (.Subscript e (.Slice none none (some (.UnaryOp .USub (.Constant (.int 1) k p1) p2)) p3) pos) (tRev2 X.K te) := by
  constructor
  intro pins s σ H Q I h
  refine Subscript_ (thn (he.run pins s σ H _ I h) fun v s1 hv => ?_)
  obtain ⟨x, H1, I1, r1, a, y, z, rfl, hx, q⟩ := hv
  cases r1
  have down : PO X (some (.UnaryOp .USub (.Constant (.int 1) k p1) p2)) (tPart (tUn (rU fun i => .int (-i)) (tC (.int 1)))) := po_some (pe_un un_neg pe_int)
  refine wpAny_Slice (thn (po_none.run pins s1 σ H1 (fun o G => o = none ∧ G = H1) I1 ⟨rfl, rfl⟩) fun lo s2 h2 => ?_)
  obtain ⟨_, _, I2, pl, rfl, rfl⟩ := h2
  refine thn (po_none.run pins s2 σ _ (fun o G => o = none ∧ G = _) I2 ⟨rfl, rfl⟩) fun hi s3 h3 => ?_
  obtain ⟨_, _, I3, pu, rfl, rfl⟩ := h3
  refine thn (down.run pins s3 σ _ (fun o G => o = some (-1) ∧ G = _) I3 ⟨1, rfl, -1, rfl, rfl, rfl⟩) fun st s4 h4 => ?_
  obtain ⟨_, _, I4, ps, rfl, rfl⟩ := h4
  cases pl
  cases pu
  have I5 : Inv X pins σ _ { s4 with heap := s4.heap.push { cls := .type "slice", data := .fields #[.none, .none, st] } } := I4.kept (t' := s4.toks) fun b ob q => Heap.get?_push_of_some _ q
  obtain ⟨its, r, ht, _⟩ := I5.tuple hx
  cases r with
  | cons ry r =>
    cases r with
    | cons rz r =>
      cases r
      show wpAny (model X.prog X.w) X.A (subscriptTail e (.Slice none none (some (.UnaryOp .USub (.Constant (.int 1) k p1) p2)) p3) (.ref a) (.ref s4.heap.objs.size)) (EP X pins σ Q) X.xe { s4 with heap := s4.heap.push { cls := .type "slice", data := .fields #[.none, .none, st] } }
      refine tail_any (ops := [.ref a, .ref s4.heap.objs.size]) ht.typeIs slot_tuple_getitem.lookup ?_ (by with_unfolding_all rfl)
      refine getItem_pair_rev ht (Heap.IsSliceOf.new _ .none .none st) ps ?_
      exact ⟨.ref _, _, I5.laid (t' := s4.toks) (o := .tup [z, y]) (fun b ob q => Heap.get?_push_of_some _ q) (Nat.le_refl _) ⟨by show 2 ≤ sizeLine; decide, _, .cons rz (.cons ry .nil), IsTup.new _ _⟩, rfl, q _ (I5.hok.fresh (Nat.le_refl _))⟩
end
end G0

set_option Elab.async false
set_option linter.all false
set_option maxRecDepth 100000
set_option maxHeartbeats 8000000
/-! The law's wishes: drawn, told. -/
namespace E1
open PySem PySem.Spec PyProof.Rows L2 G0
/-- a told wish of these places -/
structure TwOk (pl : List Str) (z : Wi) : Prop where
  a : ltS z.1.1 z.1.2 = true
  b : ltS z.2.1 z.2.2 = true
  c : ltPr z.1 z.2 = true
  nd : (four z).Nodup
  inn : ∀ s ∈ four z, s ∈ pl
theorem tp_perm (a b : Str) : [(tp a b).1, (tp a b).2].Perm [a, b] := by
  rcases tp_cases a b with h | h
  · rw [h]
  · rw [h]
    exact List.Perm.swap a b []
theorem four_tw (z : Wi) : (four (tw z)).Perm (four z) := by
  have h1 := tp_perm z.1.1 z.1.2
  have h2 := tp_perm z.2.1 z.2.2
  have h := h1.append h2
  unfold tw
  split
  · refine List.Perm.trans ?_ h
    show ([(tp z.2.1 z.2.2).1, (tp z.2.1 z.2.2).2] ++ [(tp z.1.1 z.1.2).1, (tp z.1.1 z.1.2).2]).Perm _
    exact List.perm_append_comm
  · exact h
theorem tw_ok {pl : List Str} {z : Wi} (nd : (four z).Nodup) (inn : ∀ s ∈ four z, s ∈ pl) : TwOk pl (tw z) := by
  have p := four_tw z
  have nd' : (four (tw z)).Nodup := p.nodup_iff.mpr nd
  have e1 : z.1.1 ≠ z.1.2 := fun e => by
    simp only [four, List.nodup_cons, List.mem_cons] at nd
    exact nd.1 (.inl e)
  have e2 : z.2.1 ≠ z.2.2 := fun e => by
    simp only [four, List.nodup_cons, List.mem_cons] at nd
    exact nd.2.2.1 (.inl e)
  have l1 := tp_lt e1
  have l2 := tp_lt e2
  have ne : tp z.1.1 z.1.2 ≠ tp z.2.1 z.2.2 := fun e => by
    rcases tp_eq e with ⟨q, _⟩ | ⟨q, _⟩
    · simp only [four, List.nodup_cons, List.mem_cons] at nd
      exact nd.1 (.inr (.inl q))
    · simp only [four, List.nodup_cons, List.mem_cons] at nd
      exact nd.1 (.inr (.inr (.inl q)))
  refine ⟨?_, ?_, ?_, nd', fun s hs => inn s (p.mem_iff.mp hs)⟩
  · unfold tw
    split
    · exact l2
    · exact l1
  · unfold tw
    split
    · exact l1
    · exact l2
  · unfold tw
    split
    · rename_i h
      exact h
    · rename_i h
      cases e : ltPr (tp z.1.1 z.1.2) (tp z.2.1 z.2.2) with
      | true => rfl
      | false => exact absurd (ltPr_eq e (Bool.eq_false_iff.mpr h)) ne
/-- whatever way about the pairs of a told wish stand -/
theorem tw_back {pl : List Str} {z : Wi} (o : TwOk pl z) {z0 : Wi} (h : [tp z0.1.1 z0.1.2, tp z0.2.1 z0.2.2].Perm [z.1, z.2]) : tw z0 = z := by
  have e := sortPr_of_perm h
  rw [sort_tw] at e
  have e2 : sortPr [z.1, z.2] = [z.1, z.2] := by
    rw [sort_prs2, ltPr_asym o.c]
    rfl
  rw [e2] at e
  injection e with h1 e
  injection e with h2 _
  exact Prod.ext h1 h2
theorem four_of {z z0 : Wi} (h : [tp z0.1.1 z0.1.2, tp z0.2.1 z0.2.2].Perm [z.1, z.2]) : (four z0).Perm (four z) := by
  have key : ∀ p q : Pr, [tp z0.1.1 z0.1.2, tp z0.2.1 z0.2.2].Perm [p, q] → (four z0).Perm [p.1, p.2, q.1, q.2] := fun p q h => by
    have h1 := (tp_perm z0.1.1 z0.1.2).symm
    have h2 := (tp_perm z0.2.1 z0.2.2).symm
    have a := h1.append h2
    have m : tp z0.1.1 z0.1.2 = p ∧ tp z0.2.1 z0.2.2 = q ∨ tp z0.1.1 z0.1.2 = q ∧ tp z0.2.1 z0.2.2 = p := by
      have m1 := h.mem_iff.mp (List.mem_cons_self (a := tp z0.1.1 z0.1.2))
      rcases List.mem_cons.mp m1 with e | e
      · rw [e] at h
        have := (List.perm_cons p).mp h
        exact .inl ⟨e, by simpa using this⟩
      · have e := List.mem_singleton.mp e
        rw [e] at h
        have := (List.perm_cons q).mp (h.trans (List.Perm.swap q p []))
        exact .inr ⟨e, by simpa using this⟩
    rcases m with ⟨e1, e2⟩ | ⟨e1, e2⟩
    · rw [e1, e2] at a
      exact a
    · rw [e1, e2] at a
      exact a.trans (List.perm_append_comm (l₁ := [q.1, q.2]) (l₂ := [p.1, p.2]))
  exact key z.1 z.2 h
/-- a loose copy of told wishes -/
def HW (N : Addr → Prop) (H : Hp) (v : V) (ws : List Wi) : Prop := ∃ a xs, v = .ref a ∧ itemsOf H v = some xs ∧ xs.length = ws.length ∧ N a ∧
  ∀ (j : Nat) (x : V) (z : Wi), xs[j]? = some x → ws[j]? = some z → ∃ ps : List Pr, ps.Perm [z.1, z.2] ∧ HT N H x ps
theorem HW.frame {N : Addr → Prop} {H H' : Hp} {v : V} {ws : List Wi} (h : HW N H v ws) (S : ∀ c o, N c → H c = some o → H' c = some o) : HW N H' v ws := by
  obtain ⟨a, xs, rfl, e, l, n, k⟩ := h
  exact ⟨a, xs, rfl, itemsF e n S, l, n, fun j x z e1 e2 => let ⟨ps, p, t⟩ := k j x z e1 e2
    ⟨ps, p, t.frame S⟩⟩
theorem HW.weak {N N' : Addr → Prop} {H : Hp} {v : V} {ws : List Wi} (h : HW N H v ws) (k : ∀ c, N c → N' c) : HW N' H v ws := by
  obtain ⟨a, xs, rfl, e, l, n, q⟩ := h
  exact ⟨a, xs, rfl, e, l, k _ n, fun j x z e1 e2 => let ⟨ps, p, t⟩ := q j x z e1 e2
    ⟨ps, p, t.weak k⟩⟩
theorem lq_wi {C p l : Addr} {N : Addr → Prop} {H : Hp} {v : V} {ws : List Wi} {k : Nat} (h : HW N H v ws) (hN : ∀ c, N c → c ≠ p ∧ c ≠ l) (lw : ws.length ≤ 2000) (hk : 1 + 3 * ws.length ≤ k) : Lq C p l H 3 v k := by
  obtain ⟨a, xs, rfl, e, l1, na, q⟩ := h
  refine .inr ⟨a, xs, 3, rfl, e, (hN a na).1, (hN a na).2, by omega, fun x hx => ?_, by omega⟩
  obtain ⟨j, hj⟩ := List.getElem?_of_mem hx
  have hl : j < ws.length := by
    rw [← l1]
    exact (List.getElem?_eq_some_iff.mp hj).1
  obtain ⟨ps, pm, t⟩ := q j x _ hj (List.getElem?_eq_getElem hl)
  have lp : ps.length = 2 := pm.length_eq
  exact lq_prs t hN (by omega) (by omega)
theorem lz_wi {C : Addr} {N N0 : Addr → Prop} {H H' : Hp} {v w : V} {ws : List Wi} (h : HW N0 H v ws) (z : Lz C N H H' 3 v w) : HW N H' w ws := by
  obtain ⟨a, xs, rfl, e, l1, _, q⟩ := h
  rcases z with ⟨_, _, e2⟩ | ⟨xs', ys, b, e1, rfl, hb, nb, ll, k⟩
  · rw [e] at e2
    cases e2
  · rw [e] at e1
    cases e1
    refine ⟨b, ys, rfl, items_at.mpr hb, by omega, nb, fun j y z e2 e3 => ?_⟩
    have hl : j < xs.length := by
      have := (List.getElem?_eq_some_iff.mp e2).1
      omega
    obtain ⟨ps, pm, t⟩ := q j _ z (List.getElem?_eq_getElem hl) e3
    exact ⟨ps, pm, (lz_prs t (k j _ y (List.getElem?_eq_getElem hl) e2)).weak fun c hc => hc.1⟩
theorem HT.wkn {N : Addr → Prop} {C : Addr} {H : Hp} {v : V} {ps : List Pr} (h : HT N H v ps) (l : ps.length ≤ 1000) : WKn C H v := by
  refine ⟨HT.kn h, fun xs e => ?_⟩
  obtain ⟨a, xs', rfl, e', l', _, k⟩ := h
  rw [e'] at e
  cases e
  refine ⟨by omega, fun x hx => ?_⟩
  obtain ⟨j, hj⟩ := List.getElem?_of_mem hx
  have hl : j < ps.length := by
    rw [← l']
    exact (List.getElem?_eq_some_iff.mp hj).1
  obtain ⟨u, y, z, rfl, e2, _, _⟩ := k j x _ hj (List.getElem?_eq_getElem hl)
  refine ⟨(items_at.mp e2).elim .lst .tup, fun ys e3 => ?_⟩
  rw [e2] at e3
  cases e3
  exact ⟨by show 2 ≤ 1000; decide, fun y' hy' => by
    simp only [List.mem_cons, List.not_mem_nil, or_false] at hy'
    rcases hy' with rfl | rfl
    · exact .str _
    · exact .str _⟩
/-- such a copy is good for a notice -/
theorem HW.good {N : Addr → Prop} {C : Addr} {H : Hp} {v : V} {pl : List Str} {ws : List Wi} (h : HW N H v ws) (l : ws.length ≤ 900) (nd : ws.Nodup) (ok : ∀ z ∈ ws, TwOk pl z) : WsGood C pl H v ws := by
  obtain ⟨a, xs, rfl, e, l1, na, q⟩ := h
  refine ⟨(items_at.mp e).elim .lst .tup, xs, e, by omega, fun x hx => ?_, l1.symm, ⟨nd, by omega, fun j x z e1 e2 => ?_⟩⟩
  · obtain ⟨j, hj⟩ := List.getElem?_of_mem hx
    have hl : j < ws.length := by
      rw [← l1]
      exact (List.getElem?_eq_some_iff.mp hj).1
    obtain ⟨ps, pm, t⟩ := q j x _ hj (List.getElem?_eq_getElem hl)
    have lp : ps.length = 2 := pm.length_eq
    exact t.wkn (by omega)
  · obtain ⟨ps, pm, t⟩ := q j x z e1 e2
    have lp : ps.length = 2 := pm.length_eq
    obtain ⟨q1, q2, rfl⟩ : ∃ q1 q2, ps = [q1, q2] := by
      match ps, lp with
      | [q1, q2], _ => exact ⟨q1, q2, rfl⟩
    obtain ⟨b, ys, rfl, e3, l3, _, k⟩ := t
    obtain ⟨y1, y2, rfl⟩ : ∃ y1 y2, ys = [y1, y2] := by
      match ys, l3 with
      | [y1, y2], _ => exact ⟨y1, y2, rfl⟩
    obtain ⟨u1, s1, s2, rfl, f1, t1, _⟩ := k 0 _ _ rfl rfl
    obtain ⟨u2, s3, s4, rfl, f2, t2, _⟩ := k 1 _ _ rfl rfl
    have o := ok z (List.mem_of_getElem? e2)
    have pm' : [tp s1 s2, tp s3 s4].Perm [z.1, z.2] := by
      rw [t1, t2]
      exact pm
    have pf := four_of (z0 := ((s1, s2), (s3, s4))) pm'
    exact ⟨((s1, s2), (s3, s4)), ⟨_, _, e3, f1, f2, fun s hs => o.inn s (pf.mem_iff.mp hs), pf.nodup_iff.mpr o.nd⟩, tw_back o pm'⟩
end E1

set_option Elab.async false
set_option linter.all false
set_option maxRecDepth 100000
set_option maxHeartbeats 8000000
/-! The law's wishes: told, drawn, passed loosely. -/
namespace E1
open PySem PySem.Spec PyProof.Rows L2 G0
theorem atI_lit {xs : List V} {v : V} (k : Nat) (h : xs[k]? = some v) : atI xs (k : Int) = some v := atI_nat h
theorem un5 {k : Nat} {A : Around} (r : Room k A) : A.units + 5 < cLine := by
  have := r.units
  omega
abbrev N_awish : List Str := ["_law_four", "_law_pairs"]
theorem sc_awish : FnScope N_awish ["_law_four"] (defScope (topS 41)) := ⟨rfl, rfl, rfl, by decide +kernel, rfl, by decide +kernel, by decide +kernel⟩
def spAWish : Sp := fun vs H Q _ => ∃ (a : Addr) (z : Wi), vs = [.ref a] ∧ H a = some (.lst ((four z).map V.str)) ∧ (four z).Nodup ∧ ∀ t H', WiN (fun c => H c = none) H' t (tw z) → Same H H' → Q (.ref t) H'
section
variable {P : Program} {w : World} {K : PySem.W.Frag} {mg : Str → Option Value} {base : Heap}
theorem bAWish (Z : LawD K mg) : Binds K (Z.d 41) ["_law_four"] [] := (Z.F 41 (by decide)).binds fun _ _ _ _ _ _ us hl => match us, hl with | [_], _ => rfl
theorem ok_awish (Z : LawD K mg) : FnOk P w K mg base CX0 2 (Z.f 41) (Z.d 41) ["_law_four"] spAWish := by
  have GT : FnOk P w K mg base CX0 1 (Z.f 32) (Z.d 32) N_a_tie spTie := ok_a_tie Z
  refine Fun.ok (Z.F 41 (by decide)) sc_awish (fun vs H Q E h => ?_) (fun cdv A outer s H vs Q E hr h => ⟨_, pss_cons (ps_set (i := 1) sc_awish.nd rfl (Or.inl rfl) (pe_lst (pa_cons (pe_call GT (hr.mono (by decide)) (by rfl) (Z.g 32 (by decide)) (Z.F 32 (by decide)).kp (bTie Z) .nil pass0 (pa_cons (pe_ix ix_list (pv 0) pe_int (fun _ _ => rfl)) (pa_cons (pe_ix ix_list (pv 0) pe_int (fun _ _ => rfl)) pa_nil))) (pa_cons (pe_call GT (hr.mono (by decide)) (by rfl) (Z.g 32 (by decide)) (Z.F 32 (by decide)).kp (bTie Z) .nil pass0 (pa_cons (pe_ix ix_list (pv 0) pe_int (fun _ _ => rfl)) (pa_cons (pe_ix ix_list (pv 0) pe_int (fun _ _ => rfl)) pa_nil))) pa_nil))))
  (pss_one (ps_ret (pe_tup (pa_cons (pe_callB (cr_minP rfl (un5 hr)) (by rfl) (Z.free "min" (by decide)) boot_min (pa_cons (pv 1) pa_nil)) (pa_cons (pe_callB (cr_maxP rfl (un5 hr)) (by rfl) (Z.free "max" (by decide)) boot_max (pa_cons (pv 1) pa_nil)) pa_nil))))), ?_⟩)
  · obtain ⟨a, z, rfl, _⟩ := h
    rfl
  · obtain ⟨a, z, rfl, ha, nd, k⟩ := h
    refine ⟨_, rfl, a, _, 0, _, rfl, rfl, SqL.of ha, rfl, _, rfl, a, _, 1, _, rfl, rfl, SqL.of ha, rfl, _, _, rfl, fun t1 n1 => ?_⟩
    have ha1 := new_same (o := .tup [.str (tp z.1.1 z.1.2).1, .str (tp z.1.1 z.1.2).2]) n1 _ _ ha
    refine ⟨_, rfl, a, _, 2, _, rfl, rfl, SqL.of ha1, rfl, _, rfl, a, _, 3, _, rfl, rfl, SqL.of ha1, rfl, _, _, rfl, fun t2 n2 => ?_⟩
    refine ⟨by show 2 ≤ sizeLine; decide, fun b nb => ?_⟩
    have S2 := (new_same (o := .tup [.str (tp z.2.1 z.2.2).1, .str (tp z.2.1 z.2.2).2]) n2).trans (new_same (o := .lst [.ref t1, .ref t2]) nb)
    have h1 := S2 _ _ (show (upd H t1 (.tup [.str (tp z.1.1 z.1.2).1, .str (tp z.1.1 z.1.2).2])) t1 = _ from upd_same)
    have h2 := (new_same (o := .lst [.ref t1, .ref t2]) nb) _ _ (show (upd (upd H t1 (.tup [.str (tp z.1.1 z.1.2).1, .str (tp z.1.1 z.1.2).2])) t2 (.tup [.str (tp z.2.1 z.2.2).1, .str (tp z.2.1 z.2.2).2])) t2 = _ from upd_same)
    have S3 := (new_same (o := .tup [.str (tp z.1.1 z.1.2).1, .str (tp z.1.1 z.1.2).2]) n1).trans S2
    have n2H := (new_same (o := .tup [.str (tp z.1.1 z.1.2).1, .str (tp z.1.1 z.1.2).2]) n1).free n2
    have hb : (upd (upd (upd H t1 (.tup [.str (tp z.1.1 z.1.2).1, .str (tp z.1.1 z.1.2).2])) t2 (.tup [.str (tp z.2.1 z.2.2).1, .str (tp z.2.1 z.2.2).2])) b (.lst [.ref t1, .ref t2])) b = some (.lst [.ref t1, .ref t2]) := upd_same
    generalize hH3 : upd (upd (upd H t1 (.tup [.str (tp z.1.1 z.1.2).1, .str (tp z.1.1 z.1.2).2])) t2 (.tup [.str (tp z.2.1 z.2.2).1, .str (tp z.2.1 z.2.2).2])) b (.lst [.ref t1, .ref t2]) = H3 at *
    have ne : tp z.1.1 z.1.2 ≠ tp z.2.1 z.2.2 := fun e => by
      rcases tp_eq e with ⟨q, _⟩ | ⟨q, _⟩
      · simp only [four, List.nodup_cons, List.mem_cons] at nd
        exact nd.1 (.inr (.inl q))
      · simp only [four, List.nodup_cons, List.mem_cons] at nd
        exact nd.1 (.inr (.inr (.inl q)))
    refine ⟨_, rfl, b, t1, t2, tp z.1.1 z.1.2, tp z.2.1 z.2.2, rfl, SqL.of hb, h1, h2, ne, _, rfl, b, t1, t2, tp z.1.1 z.1.2, tp z.2.1 z.2.2, rfl, SqL.of hb, h1, h2, ne, by show 2 ≤ sizeLine; decide, fun t nt => ?_⟩
    have S4 : ∀ o, Same H3 (upd H3 t o) := fun o => new_same nt
    have ntH := S3.free nt
    refine k t _ ?_ (S3.trans (S4 _))
    unfold tw
    cases e : ltPr (tp z.2.1 z.2.2) (tp z.1.1 z.1.2) with
    | true =>
      have e2 := ltPr_asym e
      rw [if_pos rfl, if_pos rfl, if_neg (by rw [e2]; decide)]
      exact ⟨t2, t1, upd_same, S4 _ _ _ h2, S4 _ _ _ h1, ntH, n2H, n1⟩
    | false =>
      have e2 : ltPr (tp z.1.1 z.1.2) (tp z.2.1 z.2.2) = true := by
        cases e3 : ltPr (tp z.1.1 z.1.2) (tp z.2.1 z.2.2) with
        | true => rfl
        | false => exact absurd (ltPr_eq e3 e) ne
      rw [if_neg (by decide), if_pos e2, if_neg (by decide)]
      exact ⟨t1, t2, upd_same, S4 _ _ _ h1, S4 _ _ _ h2, ntH, n1, n2H⟩
end
theorem WisAt.nil {N : Addr → Prop} {H : Hp} : WisAt N H [] [] := ⟨rfl, fun i v z h => by simp at h⟩
theorem WiN.put {N : Addr → Prop} {H : Hp} {d t : Addr} {o : HO} {z : Wi} (h : WiN N H t z) (n : ∀ xs, H d ≠ some (.tup xs)) : WiN N (upd H d o) t z := by
  obtain ⟨u1, u2, a1, a2, a3, n1, n2, n3⟩ := h
  have k : ∀ {c : Addr} {xs : List V}, H c = some (.tup xs) → (upd H d o) c = some (.tup xs) := fun {c xs} e => by
    rw [upd_ne (fun q => n xs (by rw [← q]; exact e))]
    exact e
  exact ⟨u1, u2, k a1, k a2, k a3, n1, n2, n3⟩
theorem WisAt.put {N : Addr → Prop} {H : Hp} {d : Addr} {o : HO} {vs : List V} {ws : List Wi} (h : WisAt N H vs ws) (n : ∀ xs, H d ≠ some (.tup xs)) : WisAt N (upd H d o) vs ws := ⟨h.1, fun i v z e1 e2 => let ⟨t, e, w⟩ := h.2 i v z e1 e2
  ⟨t, e, WiN.put w n⟩⟩
theorem WisAt.snoc {N : Addr → Prop} {H : Hp} {t : Addr} {z : Wi} {vs : List V} {ws : List Wi} (h : WisAt N H vs ws) (w : WiN N H t z) : WisAt N H (vs ++ [.ref t]) (ws ++ [z]) := by
  refine ⟨by rw [List.length_append, List.length_append, h.1]; rfl, fun i v z' h1 h2 => ?_⟩
  rcases Nat.lt_trichotomy i vs.length with q | q | q
  · rw [List.getElem?_append_left q] at h1
    rw [List.getElem?_append_left (by rw [← h.1]; exact q)] at h2
    exact h.2 i v z' h1 h2
  · rw [List.getElem?_append_right (by omega), q, Nat.sub_self] at h1
    rw [List.getElem?_append_right (by rw [← h.1]; omega), q, h.1, Nat.sub_self] at h2
    cases h1
    cases h2
    exact ⟨t, rfl, w⟩
  · rw [List.getElem?_eq_none (by rw [List.length_append]; show vs.length + 1 ≤ i; omega)] at h1
    cases h1
theorem WisAt.app {N : Addr → Prop} {H : Hp} {vs us : List V} {ws zs : List Wi} (h : WisAt N H vs ws) (g : WisAt N H us zs) : WisAt N H (vs ++ us) (ws ++ zs) := by
  refine ⟨by rw [List.length_append, List.length_append, h.1, g.1], fun i v p h1 h2 => ?_⟩
  rcases Nat.lt_or_ge i vs.length with l | l
  · rw [List.getElem?_append_left l] at h1
    rw [List.getElem?_append_left (by rw [← h.1]; exact l)] at h2
    exact h.2 i v p h1 h2
  · rw [List.getElem?_append_right l] at h1
    rw [List.getElem?_append_right (by rw [← h.1]; exact l), ← h.1] at h2
    exact g.2 _ v p h1 h2
theorem wi_keep {H H1 H2 : Hp} {p l : Addr} {n m : Nat} {vs : List V} {ws : List Wi} (F : Fr H p l n H1) (G : Fr H1 p l m H2) (h : WisAt (fun c => H c = none) H1 vs ws) : WisAt (fun c => H c = none) H2 vs ws := h.frame fun c o e1 e2 => F.keep G e1 e2
def spAWishes : Sp := fun vs H Q _ => ∃ (p l q : Addr) (n m : Nat) (pl : List Str), vs = [.ref p, .ref q, .int (m : Int)] ∧ Stm H p l n ∧ n < 700000 ∧ H q = some (.lst (pl.map V.str)) ∧ q ≠ p ∧ q ≠ l ∧ pl.Nodup ∧ pl.length ≤ 44 ∧ (∀ z ∈ pl, nameB z = true) ∧ m ≤ 5 ∧
  ∀ r wv ws H', Fr H p l (n + 300) H' → H r = none → H' r = some (.lst wv) → WisAt (fun c => H c = none) H' wv ws → ws.Nodup → (∀ z ∈ ws, TwOk pl z) → ws.length ≤ 5 → Q (.ref r) H'
abbrev N_awishes : List Str := ["_law_stream", "_law_places", "_law_many", "_law_found", "_law_k", "_law_wish"]
theorem sc_awishes : FnScope N_awishes ["_law_stream", "_law_places", "_law_many"] (defScope (topS 42)) := ⟨rfl, rfl, rfl, by decide +kernel, rfl, by decide +kernel, by decide +kernel⟩
theorem ite_V {c : Bool} {te te' : TE} {σ : L2.St} {H : Hp} {Q : VK} (P : V → Prop) (h1 : c = true → ∀ Q : VK, (∀ v, P v → Q v H) → te σ H Q) (h2 : c = false → ∀ Q : VK, (∀ v, P v → Q v H) → te' σ H Q) (k : ∀ v, P v → Q v H) : if c = true then te σ H Q else te' σ H Q :=
  ite2 (fun e => h1 e Q k) (fun e => h2 (Bool.eq_false_iff.mpr e) Q k)
theorem any_w (y : Wi) : ∀ ws : List Wi, ((ws.map wiD).any fun z => PyData.eqv z (wiD y)) = decide (y ∈ ws)
  | [] => rfl
  | x :: ws => by
    rw [List.map_cons, List.any_cons, any_w y ws, eqv_wi]
    by_cases e : x = y
    · subst e
      simp
    · rw [decide_eq_false e, Bool.false_or]
      by_cases e2 : y ∈ ws
      · simp [e2]
      · simp [e2, Ne.symm e]
theorem first4 {ts : List Str} (h : 3 < ts.length) : ∃ z : Wi, ts.take 4 = four z := by
  match ts, h with
  | a :: b :: c :: d :: r, _ => exact ⟨((a, b), (c, d)), rfl⟩
theorem shp_w1 {z : Wi} (h : ∀ s ∈ four z, nameB s = true) : SeqAt.shaped (wiD z) = true := by
  have l := layw [z] fun q hq => by
    rw [List.mem_singleton.mp hq]
    exact h
  simp only [List.map_cons, List.map_nil, PyData.canLayAll0, PyData.depthAll, Bool.and_true] at l
  show ((wiD z).canLay0 && decide ((wiD z).depth ≤ 64)) = true
  rw [Bool.and_eq_true]
  exact ⟨l.1, decide_eq_true (by omega)⟩
section
variable {P : Program} {w : World} {K : PySem.W.Frag} {mg : Str → Option Value} {base : Heap}
theorem bAWishes (Z : LawD K mg) : Binds K (Z.d 42) ["_law_stream", "_law_places", "_law_many"] [] := (Z.F 42 (by decide)).binds fun _ _ _ _ _ _ us hl => match us, hl with | [_, _, _], _ => rfl
theorem ok_awishes (Z : LawD K mg) : FnOk P w K mg base CX0 3 (Z.f 42) (Z.d 42) ["_law_stream", "_law_places", "_law_many"] spAWishes := by
  have GM : FnOk P w K mg base CX0 2 Z.s.fM Z.s.dM ["_law_stream", "_law_some"] (spMx K) := ok_mx Z.s
  have GA : FnOk P w K mg base CX0 2 (Z.f 41) (Z.d 41) ["_law_four"] spAWish := ok_awish Z
  refine Fun.ok (Z.F 42 (by decide)) sc_awishes (fun vs H Q E h => ?_) (fun cdv A outer s H vs Q E hr h => ⟨_, pss_cons (ps_set (i := 3) sc_awishes.nd rfl (Or.inl rfl) (pe_lst pa_nil))
  (pss_cons (ps_for PassesOwn.never rfl (pi_range1 (by rfl) (Z.free "range" (by decide)) (pa_cons (pe_ifExp (pt_cmpR op_gt (pe_callB call_len_seq (by rfl) Z.t.len PySem.boot_len (pa_cons (pv 1) pa_nil)) pe_int (nomark _)) (pv 2) pe_int) pa_nil)) (pg_name (i := 4) sc_awishes.nd rfl (Or.inl rfl))
    (pss_cons (ps_set (i := 5) sc_awishes.nd rfl (Or.inl rfl) (pe_call GA (hr.mono (by decide)) (by rfl) (Z.g 41 (by decide)) (Z.F 41 (by decide)).kp (bAWish Z) .nil pass0 (pa_cons (pe_slice sl_list (pe_call GM (hr.mono (by decide)) (by rfl) Z.s.gM Z.s.FM.kp (bMx Z.s) .nil pass0 (pa_cons (pv 0) (pa_cons (pv 1) pa_nil))) po_none (po_some pe_int)) pa_nil)))
  (pss_one (ps_expr (pe_bm PySem.F.plainAttrs_list PySem.F.slot_list_extend PySem.F.type_list_extend mt_extend (pv 3) (pa_cons (pe_ifExp (pt_cmpR (op_notInD (hu65 hr)) (pv 5) (pv 3) (by rfl)) (pe_lst (pa_cons (pv 5) pa_nil)) (pe_lst pa_nil)) pa_nil))))))
  (pss_one (ps_ret (pv 3)))), ?_⟩)
  · obtain ⟨p, l, q, n, m, pl, rfl, _⟩ := h
    rfl
  · obtain ⟨p, l, q, n, m, pl, rfl, S, hn, hq, qp, ql, nd, lpl, nm, hm, k⟩ := h
    refine ⟨Nat.zero_le _, fun r nr => ?_⟩
    have qr : q ≠ r := ne_of_none hq nr
    have hq1 := new_same (o := .lst []) nr _ _ hq
    refine ⟨_, rfl, q, _, rfl, .inl (SqL.of hq1), _, _, rfl, rfl, _, rfl, ?_⟩
    refine ite_V (fun v => ∃ m' : Nat, v = V.int (m' : Int) ∧ m' ≤ 5 ∧ (0 < m' → 3 < pl.length)) (fun c Q k => ⟨_, rfl, k _ ⟨m, rfl, hm, fun _ => ?_⟩⟩) (fun c Q k => k _ ⟨0, rfl, by omega, fun h => absurd h (by omega)⟩) (fun v hv => ?_)
    · have := of_decide_eq_true c
      rw [List.length_map] at this
      omega
    obtain ⟨m', rfl, hm', h3⟩ := hv
    have F1 : Fr H p l n (upd H r (.lst [])) := S.fr.put nr
    have nmT : ∀ {zs : List Wi}, (∀ z ∈ zs, TwOk pl z) → WsNm zs := fun h z hz s hs => nm s ((h z hz).inn s hs)
    refine ⟨(m' : Int), rfl, by omega, by omega, for_it walk_range (fun i σ H' => ∃ v4 v5 wv ws, σ = [some (.ref p), some (.ref q), some (.int (m : Int)), some (.ref r), v4, v5] ∧ H' r = some (.lst wv) ∧ WisAt (fun c => H c = none) H' wv ws ∧ ws.Nodup ∧ (∀ z ∈ ws, TwOk pl z) ∧ ws.length ≤ i ∧ Fr H p l (n + 44 * i) H')
      ⟨none, none, [], [], rfl, upd_same, WisAt.nil, List.nodup_nil, by simp, Nat.le_refl _, F1⟩ (fun _ _ _ _ _ => True.intro) ?_ ?_⟩
    · rintro i x σ H' H'' hi ⟨v4, v5, wv, ws, rfl, hr', wa, ndw, okw, lw, F'⟩ ⟨rfl, ex⟩
      have l3 := h3 (by omega)
      refine ⟨_, rfl, _, rfl, p, l, q, _, pl.map V.str, rfl, F'.st, by omega, SqL.of (F'.but _ _ hq qp ql), by rw [List.length_map]; omega, fun s2 ys H2 hperm F2 ns2 hs2 => ?_⟩
      obtain ⟨ts, rfl, tperm⟩ := strs_perm hperm
      rw [List.length_map] at F2
      have F02 := F'.trans F2
      have hr2 := F'.keep F2 nr hr'
      have wa2 := wi_keep F' F2 wa
      refine ⟨_, rfl, s2, _, rfl, SqL.of hs2, fun s3 ns3 => ?_⟩
      rw [show (4 : Int) = ((4 : Nat) : Int) from rfl, cut_to, ← List.map_take] at *
      obtain ⟨z, ez⟩ := first4 (ts := ts) (by rw [tperm.length_eq]; exact l3)
      have nd4 : (four z).Nodup := by
        rw [← ez]
        exact (tperm.nodup_iff.mpr nd).sublist (List.take_sublist _ _)
      have in4 : ∀ s ∈ four z, s ∈ pl := fun s hs => tperm.mem_iff.mp (List.mem_of_mem_take (by rw [ez]; exact hs))
      rw [ez]
      refine ⟨s3, z, rfl, upd_same, nd4, fun t H3 wt S3 => ?_⟩
      have o := tw_ok nd4 in4
      have F03 := (F02.put (F02.free ns3) (o := .lst ((four z).map V.str))).same S3
      have hr3 := S3 _ _ (new_same (o := .lst ((four z).map V.str)) ns3 _ _ hr2)
      have wa3 : WisAt (fun c => H c = none) H3 wv ws := wa2.frame fun c o _ e => S3 _ _ (new_same (o := .lst ((four z).map V.str)) ns3 _ _ e)
      have wt3 : WiN (fun c => H c = none) H3 t (tw z) := wt.weak fun c hc => F02.free ((new_same ns3).free hc)
      refine ⟨_, rfl, .inl ⟨rfl, _, SqL.of hr3⟩, _, rfl, _, rfl, wiD (tw z), ws.map wiD, dpWi wt3.at, dp_ws hr3 wa3, shp_w1 (fun s hs => nm s (o.inn s hs)), shW (nmT okw), _, rfl, ?_⟩
      rw [any_w]
      have tail : ∀ (b : Addr) (H4 : Hp) (zs : List Wi) (zv : List V), Same H3 H4 → H4 b = some (.lst zv) → b ≠ r → WisAt (fun c => H c = none) H4 zv zs → (ws ++ zs).Nodup → (∀ z ∈ zs, TwOk pl z) → zs.length ≤ 1 → rExtend (.ref r) [.ref b] H4 (fun _ H' => ∃ v4 v5 wv ws, [some (V.ref p), some (.ref q), some (.int (m : Int)), some (.ref r), some x, some (.ref t)] = [some (.ref p), some (.ref q), some (.int (m : Int)), some (.ref r), v4, v5] ∧ H' r = some (.lst wv) ∧ WisAt (fun c => H c = none) H' wv ws ∧ ws.Nodup ∧ (∀ z ∈ ws, TwOk pl z) ∧ ws.length ≤ i + 1 ∧ Fr H p l (n + 44 * (i + 1)) H') := fun b H4 zs zv S4 hb br wz nd4 okz lz => by
        have hr4 := S4 _ _ hr3
        have wa4 : WisAt (fun c => H c = none) H4 wv ws := wa3.frame fun c o _ e => S4 _ _ e
        have nT : ∀ xs, H4 r ≠ some (.tup xs) := fun xs e => by
          rw [hr4] at e
          cases e
        refine ⟨r, b, wv, zv, rfl, rfl, hr4, hb, ?_, _, _, wv ++ zv, ws ++ zs, rfl, upd_same, (wa4.app wz).put nT, nd4, ?_, ?_, ?_⟩
        · rw [wa4.1, wz.1]
          have : 5000 < sizeLine := by decide
          omega
        · intro z hz
          exact (List.mem_append.mp hz).elim (okw z) (okz z)
        · rw [List.length_append]
          omega
        · exact ((F03.same S4).put nr).mono (by omega)
      refine ite2 (fun c => ?_) (fun c => ?_)
      · refine ⟨_, rfl, by show 1 ≤ sizeLine; decide, fun b nb => ?_⟩
        have hn : tw z ∉ ws := by
          intro hm
          rw [decide_eq_true hm] at c
          cases c
        exact tail b _ [tw z] [.ref t] (new_same nb) upd_same (ne_of_none hr3 nb).symm (WisAt.snoc (vs := []) (ws := []) WisAt.nil (wt3.frame fun c o _ e => new_same nb _ _ e)) (List.nodup_append.mpr ⟨ndw, by simp, fun a ha b hb e => hn (by rw [← List.mem_singleton.mp hb, ← e]; exact ha)⟩) (fun z' hz => by rw [List.mem_singleton.mp hz]; exact o) (Nat.le_refl _)
      · refine ⟨Nat.zero_le _, fun b nb => ?_⟩
        exact tail b _ [] [] (new_same nb) upd_same (ne_of_none hr3 nb).symm WisAt.nil (by rw [List.append_nil]; exact ndw) (by simp) (Nat.zero_le _)
    · rintro σ H1 ⟨v4, v5, wv, ws, rfl, hr1, wa, ndw, okw, lw, F'⟩
      exact ⟨_, rfl, k r wv ws H1 (F'.mono (by omega)) nr hr1 wa ndw okw (by omega)⟩
end
def spLWish : Sp := fun vs H Q _ => ∃ (p l t : Addr) (n : Nat) (N : Addr → Prop) (z : Wi), vs = [.ref p, .ref t] ∧ Stm H p l n ∧ n < 700000 ∧ WiN N H t z ∧ (∀ c, N c → c ≠ p ∧ c ≠ l) ∧ ltS z.1.1 z.1.2 = true ∧ ltS z.2.1 z.2.2 = true ∧
  ∀ v ps H', HT (fun c => H c = none) H' v ps → ps.Perm [z.1, z.2] → Fr H p l (n + 20) H' → Q v H'
abbrev N_lwish : List Str := ["_law_stream", "_law_wish", "_law_pairs", "_law_pair"]
theorem sc_lwish : FnScope N_lwish ["_law_stream", "_law_wish"] (defScope (topS 43)) := ⟨rfl, rfl, rfl, by decide +kernel, rfl, by decide +kernel, by decide +kernel⟩
section
variable {P : Program} {w : World} {K : PySem.W.Frag} {mg : Str → Option Value} {base : Heap}
theorem bLWish (Z : LawD K mg) : Binds K (Z.d 43) ["_law_stream", "_law_wish"] [] := (Z.F 43 (by decide)).binds fun _ _ _ _ _ _ us hl => match us, hl with | [_, _], _ => rfl
theorem ok_lwish (Z : LawD K mg) : FnOk P w K mg base CX0 5 (Z.f 43) (Z.d 43) ["_law_stream", "_law_wish"] spLWish := by
  have GM : FnOk P w K mg base CX0 2 Z.s.fM Z.s.dM ["_law_stream", "_law_some"] (spMx K) := ok_mx Z.s
  have GD : FnOk P w K mg base CX0 1 Z.s.fD Z.s.dD ["_law_stream", "_law_many"] spDr := ok_dr Z.s
  have GL : FnOk P w K mg base CX0 4 (Z.f 50) (Z.d 50) ["_law_stream", "_law_thing"] (spLoose Z.B.C 2) := ok_loose Z 2
  refine Fun.ok (Z.F 43 (by decide)) sc_lwish (fun vs H Q E h => ?_) (fun cdv A outer s H vs Q E hr h => ⟨_, pss_cons (ps_setLc (i := 2) (own := [("_law_pair", 3)]) (tt := tYes) (te := tIf (tTest (tOp rEq (tCall spDr [] L2.E0 (tCons (tVar 0) (tCons (tC (.int 2)) tNil))) (tC (.int 0)))) (tVar 3) (tRev2 K (tVar 3))) rfl sc_lwish.nd rfl rfl (by rfl) (pi_list (pe_call GM (hr.mono (by decide)) (by rfl) Z.s.gM Z.s.FM.kp (bMx Z.s) .nil pass0 (pa_cons (pv 0) (pa_cons (pe_callTy call_list_of (by rfl) Z.t.list PyProof.Rows.boot_list (pa_cons (pv 1) pa_nil)) pa_nil)))) (blkOk_by (own := [("_law_pair", 3)]) (N := N_lwish) (sc := defScope (topS 43)) (by decide +kernel)) (fun _ _ _ _ _ => (pg_name (i := 3) sc_lwish.nd rfl (Or.inl rfl))) (fun _ _ _ _ _ => pts_nil) (fun _ _ _ _ _ => (pe_ifExp (pt_cmpR op_eq (pe_call GD (hr.mono (by decide)) (by rfl) Z.s.gD Z.s.FD.kp (bDr Z.s) .nil pass0 (pa_cons (pv 0) (pa_cons pe_int pa_nil))) pe_int (nomark _)) (pv 3) (pe_rev2 (pv 3)))))
  (pss_one (ps_ret (pe_call GL (hr.mono (by decide)) (by rfl) (Z.g 50 (by decide)) (Z.F 50 (by decide)).kp (bLoose Z) .nil pass0 (pa_cons (pv 0) (pa_cons (pv 2) pa_nil))))), ?_⟩)
  · obtain ⟨p, l, t, n, N, z, rfl, _⟩ := h
    rfl
  · obtain ⟨p, l, t, n, N, z, rfl, S, hn, ⟨u1, u2, g1, g2, g3, m1, m2, m3⟩, hN, l1, l2, k⟩ := h
    refine ⟨_, rfl, _, rfl, t, [.ref u1, .ref u2], rfl, .inr (SqT.of g1), fun c nc => ?_⟩
    have S0 := new_same (o := .lst [.ref u1, .ref u2]) nc
    have F0 : Fr H p l n (upd H c (.lst [.ref u1, .ref u2])) := S.fr.put nc
    refine ⟨p, l, c, n, [.ref u1, .ref u2], rfl, F0.st, by omega, SqL.of upd_same, by show 2 < 1000; decide, fun s ys H1 hperm F1 ns hs => ⟨s, rfl, ⟨_, SqL.of hs⟩, fun D hD => ?_⟩⟩
    have F01 := F0.trans F1
    have pt0 : PrsAt (upd H c (.lst [.ref u1, .ref u2])) [.ref u1, .ref u2] [z.1, z.2] := by
      refine prs_snoc (vs := [.ref u1]) (ps := [z.1]) (prs_snoc (vs := []) (ps := []) PrsAt.nil (S0 _ _ g2)) (S0 _ _ g3)
    have nu : ∀ t, V.ref t ∈ [V.ref u1, .ref u2] → t ≠ p ∧ t ≠ l := fun t ht => by
      simp only [List.mem_cons, List.not_mem_nil, or_false, V.ref.injEq] at ht
      rcases ht with rfl | rfl
      · exact hN _ m2
      · exact hN _ m3
    have pt1 := prs_but F1 pt0 nu
    obtain ⟨us, uperm, pty⟩ := prs_perm pt1 hperm
    have lus : us.length = 2 := uperm.length_eq
    have ly : ys.length = 2 := hperm.length_eq
    have nyN : ∀ t, V.ref t ∈ ys → t ≠ p ∧ t ≠ l := fun t ht => nu t (hperm.mem_iff.mp ht)
    have ltu : ∀ q ∈ us, ltS q.1 q.2 = true := fun q hq => by
      have := uperm.mem_iff.mp hq
      simp only [List.mem_cons, List.not_mem_nil, or_false] at this
      rcases this with rfl | rfl
      · exact l1
      · exact l2
    have nsH := F0.free ns
    have nD := F01.free hD
    have Ds : s ≠ D := ne_of_none hs hD
    refine lc_list (xs := ys) (fun i H' => ∃ acc, H' D = some (.lst acc) ∧ acc.length = i ∧ (∀ (j : Nat) (x : V) (q : Pr), acc[j]? = some x → us[j]? = some q → ∃ u y z, x = .ref u ∧ H' u = some (.tup [.str y, .str z]) ∧ tp y z = q ∧ u ≠ p ∧ u ≠ l) ∧ H' s = some (.lst ys) ∧ PrsAt H' ys us ∧ Fr H p l (n + 2 + i) H') ⟨[], upd_same, rfl, (fun j x q h => by simp at h), by rw [upd_ne Ds]; exact hs, prs_upd pty (fun xs e => by rw [hD] at e; cases e), (F01.put nD).mono (by show n + 2 ≤ n + 2 + 0; omega)⟩ (fun i H' _ ⟨_, _, _, _, h, _⟩ => SqL.of h) ?_ ?_
    · rintro i x H' hx ⟨acc, hacc, lac, hin, hs', pt', F'⟩
      have il := (List.getElem?_eq_some_iff.mp hx).1
      have eu : us[i]? = some (us[i]'(by omega)) := List.getElem?_eq_getElem _
      obtain ⟨u, rfl, hu⟩ := pt'.2 i x _ hx eu
      have nu := nyN u (List.mem_of_getElem? hx)
      have lti := ltu _ (List.mem_of_getElem? eu)
      -- what is put behind
      have put : ∀ (H2 : Hp) (t : Addr) (y z : Str), Fr H' p l (n + 2 + (i + 1)) H2 → H2 t = some (.tup [.str y, .str z]) → tp y z = us[i]'(by omega) → t ≠ p → t ≠ l → ∃ acc2, H2 D = some (.lst acc2) ∧ acc2.length < sizeLine ∧ ∃ acc, (upd H2 D (.lst (acc2 ++ [.ref t]))) D = some (.lst acc) ∧ acc.length = i + 1 ∧ (∀ (j : Nat) (x : V) (q : Pr), acc[j]? = some x → us[j]? = some q → ∃ u y z, x = .ref u ∧ (upd H2 D (.lst (acc2 ++ [.ref t]))) u = some (.tup [.str y, .str z]) ∧ tp y z = q ∧ u ≠ p ∧ u ≠ l) ∧ (upd H2 D (.lst (acc2 ++ [.ref t]))) s = some (.lst ys) ∧ PrsAt (upd H2 D (.lst (acc2 ++ [.ref t]))) ys us ∧ Fr H p l (n + 2 + (i + 1)) (upd H2 D (.lst (acc2 ++ [.ref t]))) := fun H2 t y z F2 ht et n1 n2 => by
        have acc2 := F'.keep F2 nD hacc
        have tD : t ≠ D := ne_of ht acc2 (fun z => by cases z)
        refine ⟨acc, acc2, ?_, acc ++ [.ref t], upd_same, ?_, ?_, ?_, ?_, (F'.trans F2).put nD⟩
        · rw [lac]
          exact small1000 (by omega)
        · rw [List.length_append, lac]; rfl
        · intro j x q h1 h2
          rcases Nat.lt_trichotomy j acc.length with h | h | h
          · rw [List.getElem?_append_left h] at h1
            obtain ⟨u', y', z', rfl, k1, k2, k3, k4⟩ := hin j x q h1 h2
            have k5 := F2.but _ _ k1 k3 k4
            exact ⟨u', y', z', rfl, by rw [upd_ne (ne_of k5 acc2 (fun z => by cases z))]; exact k5, k2, k3, k4⟩
          · rw [List.getElem?_append_right (by omega), h, Nat.sub_self] at h1
            cases h1
            rw [h, lac, eu] at h2
            cases h2
            exact ⟨t, y, z, rfl, by rw [upd_ne tD]; exact ht, et, n1, n2⟩
          · rw [List.getElem?_eq_none (by rw [List.length_append]; simp; omega)] at h1
            cases h1
        · rw [upd_ne Ds]
          exact F'.keep F2 nsH hs'
        · refine prs_upd (prs_but F2 pt' nyN) (fun xs e => ?_)
          rw [acc2] at e
          cases e
      refine ⟨rfl, yes_of ⟨_, rfl, p, l, _, 2, rfl, F'.st, by omega, by decide, by decide, fun r H2 hr2 F2 => ⟨rfl, _, rfl, ite2 (fun c => ⟨_, rfl, put H2 u _ _ F2 (F2.but _ _ hu nu.1 nu.2) (tp_self lti) nu.1 nu.2⟩) (fun c => ?_)⟩⟩⟩
      have hu2 := F2.but _ _ hu nu.1 nu.2
      refine ⟨_, rfl, u, _, _, rfl, SqT.of hu2, fun t nt' => ?_⟩
      have ntH := (F'.trans F2).free nt'
      have nt2 := F'.ne ntH
      exact put _ t _ _ (F2.put (F2.free nt')) upd_same (by rw [tp_swap]; exact tp_self lti) nt2.1 nt2.2
    rintro H2 ⟨acc, hacc, lac, hin, hs2, _, F2⟩
    rw [ly] at lac F2
    have ht2 : HT (fun c => c ≠ p ∧ c ≠ l) H2 (.ref D) us := ⟨D, acc, rfl, items_at.mpr (.inl hacc), by omega, F2.ne nD, fun j x q e1 e2 => by
      obtain ⟨u, y, z, h1, h2, h3, h4⟩ := hin j x q e1 e2
      exact ⟨u, y, z, h1, by rw [h1]; exact items_at.mpr (.inr h2), h3, h4⟩⟩
    refine ⟨_, rfl, _, rfl, p, l, _, 3, .ref D, rfl, F2.st, by omega, lq_prs ht2 (fun c h => h) (by omega) (by omega), fun v H3 z3 F3 => ?_⟩
    exact k v us H3 ((lz_prs ht2 z3).weak fun c hc => F2.free hc) uperm ((F2.trans F3).mono (by omega))
end
end E1

set_option Elab.async false
set_option linter.all false
set_option maxRecDepth 100000
set_option maxHeartbeats 4000000
/-! Several except clauses, each with its name. -/
namespace G0
open PySem PySem.Spec PyProof.Rows L2
/-- the ends behind a suite whose name, slot i, goes -/
def gone (i : Nat) (D : Ends) : Ends := { nx := fun σ H => D.nx (σ.set i none) H, rt := D.rt, bk := fun σ H => D.bk (σ.set i none) H, ct := fun σ H => D.ct (σ.set i none) H }
abbrev SuiteT : Type := Addr → Value → Option Addr → TS
/-- what clauses with a name each wish of what the body raises, the first that fits -/
def wManyAs (K : PySem.W.Frag) (i : Nat) (Wo : WX) (D : Ends) : List (Value × SuiteT) → WX
  | [] => Wo
  | q :: rest => fun cls d σ H => ∃ fits, PySem.W.exmOne K cls q.1 = some fits ∧ (fits = true → ∀ a, H a = none → q.2 a cls d (gone i D) (σ.set i (some (.ref a))) H) ∧ (fits = false → wManyAs K i Wo D rest cls d σ H)
/-- the clauses, all with the name n -/
inductive HdsAs (X : Cx) (n : Str) : List ExceptHandler → List (Value × SuiteT) → Prop
  | nil : HdsAs X n [] []
  | cons {x : Str} {c : Value} {ts : SuiteT} {st : Stmt} {sts : List Stmt} {pn pc : Pos} {more : List ExceptHandler} {lm : List (Value × SuiteT)} (nm : Names X x c)
      (su : ∀ (z : Addr) (oz : Obj) (cls : Value) (d : Option Addr) (pins : List (Addr × Obj)), Zc cls d oz → (∃ fs, oz.data = .fields fs) → PSs (X.suite z ((z, oz) :: pins)) (st :: sts) (ts z cls d)) (rest : HdsAs X n more lm) :
      HdsAs X n (.ExceptHandler (some (.Name x pn)) (some n) (st :: sts) pc :: more) ((c, ts) :: lm)
section
variable {X : Cx} {n : Str} {i : Nat} {pins : List (Addr × Obj)} {D : Ends} {Wo : WX} {z : Addr} {below : Heap} {cls : Value} {d : Option Addr} {σ : L2.St} {H : Hp} {sI u : Shared} {g : Heap}
/-- what is known as the clauses are asked: the exception at z is caught, in flight over the heap g -/
structure Caught (X : Cx) (pins : List (Addr × Obj)) (σ : L2.St) (H : Hp) (z : Addr) (below : Heap) (cls : Value) (d : Option Addr) (sI u : Shared) (g : Heap) : Prop where
  inv : Inv X pins σ H sI
  low : ∀ b o, sI.heap.get? b = some o → b ∉ frs X.stack → below.get? b = some o
  up : sI.heap.UpToSlots g
  new : H z = none
  os : u.os = sI.os
  bare : AllBare u.gens
  fly : HandSPX.FlyingZ below (X.env :: X.outer) z (Zc cls d) g
  top : X.stack = X.env :: X.outer
  own : X.env.frame = some X.env.locals
/-- the invariant over the heap in which it flies, and its object -/
theorem Caught.here (C : Caught X pins σ H z below cls d sI u g) : Inv X pins σ H { u with heap := g } ∧ ∃ oz fs, g.get? z = some oz ∧ Zc cls d oz ∧ oz.data = .fields fs ∧ z ≠ X.env.locals ∧ z ∉ X.fs := by
  have I2 : Inv X pins σ H { u with heap := g } := C.inv.landed C.low C.fly.1 C.up C.os C.bare
  obtain ⟨oz, fs, k1, k2, k3⟩ := C.fly.there
  have off : z ∉ frs (X.env :: X.outer) := by
    intro hm
    obtain ⟨_, w, k4, k5⟩ := C.fly.2.2.1.mem hm
    cases k1.symm.trans k4
    exact k5 _ k3
  refine ⟨I2, oz, fs, k1, k2, k3, ?_, ?_⟩
  · rintro rfl
    exact off (List.mem_filterMap.mpr ⟨X.env, by simp, C.own⟩)
  · intro hm
    obtain ⟨e, k4, k5⟩ := List.mem_filterMap.mp hm
    exact off (List.mem_filterMap.mpr ⟨e, by simp [k4], k5⟩)
/-- no clause is left: on it flies -/
theorem caught_on (C : Caught X pins σ H z below cls d sI u g) (tk : Takes X Wo) (wish : Wo cls d σ H) : wpAny (model X.prog X.w) X.A (handleBy (.ref z) X.env []) (SP X pins D) X.xe { u with heap := g } := by
  refine wpAny_handleBy_nil ?_
  have flight : wpAny (model X.prog X.w) X.A (setFlight (.ref z) X.env.frame) (fun _ t => wpAny (model X.prog X.w) X.A (throw (.ref z) : Sem Flow) (SP X pins D) X.xe t) X.xe { u with heap := g } := by
    rw [C.own]
    exact HandSPX.setFlight_upZ C.fly fun g2 held more => wpAny_throw (tk _ _ ⟨z, below, sI, pins, σ, H, cls, d, rfl, C.inv, C.low, C.up.trans more, .inr (.inr (by rw [C.top]; exact held)), C.new, C.os, C.bare, wish⟩)
  obtain ⟨_, _, _, ow, fw, Tb, _, _, k1, _, k2, k3, _⟩ := id C.fly
  unfold PySem.passOn
  refine wpAny_bind (wpAny_field k1 k2 k3 ?_)
  have live : ¬ ((Value.ref Tb == Value.none) = true) := by simp
  rw [if_neg live]
  first
    | exact wpAny_bind flight
    | exact wpAny_bind (wpAny_pure (wpAny_bind flight))
/-- the clauses, one behind another -/
theorem caught_by (C : Caught X pins σ H z below cls d sI u g) (hN : X.N.Nodup) (hi : X.N[i]? = some n) (hn : X.env.kindOf n = some .local) (tk : Takes X Wo) {cs : List ExceptHandler} {lm : List (Value × SuiteT)} (k : HdsAs X n cs lm) :
    wManyAs X.K i Wo D lm cls d σ H → wpAny (model X.prog X.w) X.A (handleBy (.ref z) X.env cs) (SP X pins D) X.xe { u with heap := g } := by
  induction k with
  | nil => exact caught_on C tk
  | @cons x c ts st sts pn pc more lm nm su rest ih =>
    rintro ⟨fits, asked, yes, no⟩
    obtain ⟨I2, oz, fs, k1, k2, k3, k4, k5⟩ := C.here
    refine wpAny_handleBy_cons (codeAny_handlers_test ?_) (by intro q; cases q)
    have I3 := I2.suite k1 k3 C.new k4 k5
    have kind : PySem.W.Looks (model X.prog X.w) g (typeOf (.ref z)) cls := fun _ _ _ _ keep q => wpAny_typeOf_ref (keep _ _ k1) (by rw [k2.1]; exact q)
    have said : wpAny (model X.prog X.w) (X.A.mark (some (.ref z))) (eval (.Name x pn) X.env) (fun v t => v = c ∧ t = { u with heap := g }) (fun _ _ => False) { u with heap := g } := by
      rcases nm with ⟨gl, nd, m | ⟨m, bt, nn⟩⟩
      · exact ld_glob (X := X.suite z ((z, oz) :: (X.pn ++ pins))) I3 gl m ⟨rfl, rfl⟩ nd
      · exact ld_blt (X := X.suite z ((z, oz) :: (X.pn ++ pins))) I3 gl m bt ⟨rfl, rfl⟩ nn nd
    refine wpAny_mono said (fun v t e => ?_) (fun _ _ e => e.elim)
    obtain ⟨e1, e2⟩ := e
    subst e1
    subst e2
    refine (PySem.W.exm_one (M := model X.prog X.w) I2.kIn kind asked).here ?_
    cases fits with
    | false => exact ih (no rfl)
    | true =>
      refine codeAny_handlers_suite_as (HandSPX.lands_againZ C.fly fun g2 fly2 up2 => ?_)
      have C2 : Caught X pins σ H z below cls d sI u g2 := ⟨C.inv, C.low, C.up.trans up2, C.new, C.os, C.bare, fly2, C.top, C.own⟩
      obtain ⟨I4, o2, f2, m1, m2, m3, m4, m5⟩ := C2.here
      have I5 := I4.suite m1 m3 C.new m4 m5
      refine store_ok (X := X.suite z ((z, o2) :: (X.pn ++ pins))) (v := .ref z) I5 hN hi (.inl hn) rfl (fun t I6 => ?_) (.inr hn)
      refine wpAny_mono ((su z o2 cls d (X.pn ++ pins) m2 ⟨_, m3⟩).run [] t _ H _ I6 (yes rfl z C.new)) (fun f t2 h => ?_) (fun _ _ q => q.elim)
      have goes : ∀ {σ2 : L2.St} {H2 : Hp} {R : Shared → Prop}, Inv (X.suite z ((z, o2) :: (X.pn ++ pins))) [] σ2 H2 t2 → (∀ t3, Inv X pins (σ2.set i none) H2 t3 → R t3) →
          wpAny (model X.prog X.w) X.A (do bindName X.env n .none; unbindBehindTheSuite X.env n pc) (fun _ t3 => R t3) X.xe t2 := fun {_ _ _} J r => gone_ok (J.unsuite C.inv.ok) hN hi hn r
      cases f with
      | ret w =>
        obtain ⟨v2, σ2, H2, J, rv, q⟩ := h
        exact goes J fun _ J3 => ⟨_, _, _, J3, rv, q⟩
      | next => exact let ⟨_, _, J, q⟩ := h; goes J fun _ J3 => ⟨_, _, J3, q⟩
      | brk => exact let ⟨_, _, J, q⟩ := h; goes J fun _ J3 => ⟨_, _, J3, q⟩
      | cont => exact let ⟨_, _, J, q⟩ := h; goes J fun _ J3 => ⟨_, _, J3, q⟩
end
section
variable {X : Cx} {n : Str} {i : Nat} {body : List Stmt} {c0 : ExceptHandler} {cs : List ExceptHandler} {lm : List (Value × SuiteT)} {pos : Pos} {tb : WX → TS} {Wo : WX}
theorem ps_try_manyAs (top : X.stack = X.env :: X.outer) (own : X.env.frame = some X.env.locals) (hN : X.N.Nodup) (hi : X.N[i]? = some n) (hn : X.env.kindOf n = some .local) (tk : Takes X Wo)
    (tried : ∀ (W : WX) (pn : List (Addr × Obj)) (xe : Value → Shared → Prop), Takes (X.tr pn xe) W → PassesOwn (model X.prog X.w) X.A X.env xe → PSs (X.tr pn xe) body (tb W))
    (k : HdsAs X n (c0 :: cs) lm) : PS X (.Try body (c0 :: cs) [] [] pos) (fun D σ H => tb (fun cls d σ' H' => σ'.length = X.N.length → wManyAs X.K i Wo D lm cls d σ' H') D σ H) := by
  constructor
  intro pins s σ H D I h
  have okX := I.ok
  have frs' : X.A.frames = some (X.env :: X.outer) := okX.frames.trans (by rw [top])
  refine wpAny_Try_except (wpAny_mono ((tried (fun cls d σ' H' => σ'.length = X.N.length → wManyAs X.K i Wo D lm cls d σ' H') (X.pn ++ pins) _ (fun v t x => ?_) PassesOwn.looking).run [] s σ H D (I.toTry _) h) (fun f t hf => ?_) (fun _ _ q => q))
  · obtain ⟨z, below, sI, _, σ2, H2, cls, d, rfl, J, low, up, sky, new, os, bare, wish⟩ := x
    rw [show (X.tr (X.pn ++ pins) _).stack = X.stack from rfl, top] at sky
    exact Sky.land Zc.steady frs' own sky fun g fly more => caught_by ⟨J.ofTry okX, low, up.trans more, new, os, bare, fly, top, own⟩ hN hi hn tk k (wish J.len)
  · cases f with
    | next => exact let ⟨_, _, J, q⟩ := hf; wpAny_execs_nil ⟨_, _, J.ofTry okX, q⟩
    | ret v => exact let ⟨_, _, _, J, r, q⟩ := hf; ⟨_, _, _, J.ofTry okX, r, q⟩
    | brk => exact let ⟨_, _, J, q⟩ := hf; ⟨_, _, J.ofTry okX, q⟩
    | cont => exact let ⟨_, _, J, q⟩ := hf; ⟨_, _, J.ofTry okX, q⟩
end
end G0

set_option Elab.async false
set_option linter.all false
set_option maxRecDepth 100000
set_option maxHeartbeats 8000000
/-! What is met: told, or one of two errors. == with what is of another class. -/
namespace E1
open PySem PySem.Spec PyProof.Rows L2 G0 LamX
abbrev N_met : List Str := ["_law_ask", "e"]
theorem sc_met : FnScope N_met ["_law_ask"] (defScope (topS 51)) := ⟨rfl, rfl, rfl, by decide +kernel, rfl, by decide +kernel, by decide +kernel⟩
section
variable {K : PySem.W.Frag} {mg : Str → Option Value} {B : BoardD K mg}
def eC (D : NoteD K mg B) : Fin 2 → Addr
  | 0 => D.XB.C
  | 1 => D.XW.C
def nmE : Fin 2 → Str
  | 0 => "board"
  | 1 => "wishes"
def flE : Fin 2 → Str
  | 0 => "thing"
  | 1 => "index"
/-- the two errors, as except clauses ask them -/
structure MetD (D : NoteD K mg B) : Prop where
  x : ∀ i, XfC K (eC D i)
  is : ∀ i j, PySem.W.exmOne K (.ref (eC D i)) (.ref (eC D j)) = some (decide (i = j))
/-- an error of these, met -/
def Emet (D : NoteD K mg B) (Q : VK) : XK := fun cls d H => ∃ (i : Fin 2) (v : V) (dd : Addr), cls = .ref (eC D i) ∧ d = some dd ∧ H dd = some (.xd [(flE i, v)]) ∧ ∀ t, H t = none → Q (.ref t) (upd H t (.tup [.str (nmE i), v]))
def TTmet (D : NoteD K mg B) : (XK → Hp → VK → Prop) → Hp → VK → Prop := fun tl H Q =>
  tl (Emet D Q) H (fun v H1 => ([V.str "told", v] : List V).length ≤ sizeLine ∧ ∀ t, H1 t = none → Q (.ref t) (upd H1 t (.tup [.str "told", v])))
end
section
variable {X : Cx}
theorem met_gives (Z : LawD X.K X.mg) (D : NoteD X.K X.mg Z.B) (M : MetD D) {q : Str} {g : Addr} {cdg : Value} : GivesTo X N_met "_law_met" (defScope (topS 51)) g cdg (defBody (topS 51)) "_law_ask" q (TTmet D) := by
  intro f c' s H Q tl act hc h
  refine ⟨_, pss_one (ps_try_manyAs (X := (cxOf C8.CX0 X.prog X.w X.K X.mg X.base N_met "_law_met" (defScope (topS 51)) g cdg X.A X.stack s H C8.E0).nox) (n := "e") (i := 1)
      (tb := fun W D' σ H => ∃ Ech : XK, (∀ cls d σ' H', Ech cls d H' → W cls d σ' H') ∧ σ[0]? = some (some (.ref f)) ∧ H c' = some (CodeO c' q) ∧ tl Ech H (fun v H1 => ([V.str "told", v] : List V).length ≤ sizeLine ∧ ∀ t, H1 t = none → D'.rt (.ref t) (upd H1 t (.tup [.str "told", v]))))
      rfl rfl sc_met.nd rfl rfl L2.takes0 (fun W pn xe tk _ => ?_)
      (.cons ⟨by rfl, by decide, .inl D.XB.g⟩ (fun z oz cls d pn hz hf => pss_one (ps_ret (pe_tup (pa_cons pe_str (pa_cons (pe_xf (M.x 0) D.XB.no hz hf (pv 1)) pa_nil)))))
      (.cons ⟨by rfl, by decide, .inl D.XW.g⟩ (fun z oz cls d pn hz hf => pss_one (ps_ret (pe_tup (pa_cons pe_str (pa_cons (pe_xf (M.x 1) D.XW.no hz hf (pv 1)) pa_nil)))))
      .nil))), ?_⟩
  · refine ⟨fun pins s' σ H' D I h' => ?_⟩
    obtain ⟨Ech, hW, h1, h2, h3⟩ := h'
    refine PSs.run (t := tRet (tTup (tCons (tC (.str "told")) (tCons (fun σZ HZ Q => σZ[0]? = some (some (V.ref f)) ∧ HZ c' = some (CodeO c' q) ∧ tl Ech HZ Q) tNil)))) ?_ pins s' σ H' D I ⟨h1, h2, h3⟩
    exact pss_one (ps_ret (pe_tup (pa_cons pe_str (pa_cons (act W pn xe Ech _ _ tk hW) pa_nil))))
  · refine ⟨Emet D Q, ?_, rfl, hc, h⟩
    rintro cls d σ' H' ⟨i, v, dd, rfl, rfl, hdd, k⟩ hl
    have hl2 : σ'.length = 2 := hl
    have slot : ∀ a : Addr, (σ'.set 1 (some (V.ref a)))[1]? = some (some (V.ref a)) := fun a => List.getElem?_set_self (by omega)
    have s2 : 2 ≤ sizeLine := by decide
    match i, hdd, k with
    | 0, hdd, k => exact ⟨true, M.is 0 0, fun _ a na => ⟨_, slot a, rfl, rfl, dd, _, v, rfl, hdd, rfl, s2, fun t nt => k t nt⟩, fun e => by cases e⟩
    | 1, hdd, k => exact ⟨false, M.is 1 0, (fun e => by cases e), fun _ => ⟨true, M.is 1 1, fun _ a na => ⟨_, slot a, rfl, rfl, dd, _, v, rfl, hdd, rfl, s2, fun t nt => k t nt⟩, fun e => by cases e⟩⟩
/-- _law_met(lambda: ..) -/
theorem pe_met (Z : LawD X.K X.mg) (D : NoteD X.K X.mg Z.B) (M : MetD D) {T : List (Addr × Str)} {c P : Addr} {k : Nat} {params : Arguments} {body : Expr} {scope : Scope} {t : XK → TE} {p lpos pos : Pos} (hg : Gl X "_law_met") (TB : TabB X.base X.mg c P) (hcode : X.env.code = .ref c)
    (hmT : (P, X.env.qual ++ "<lambda>") ∈ T) (hu : ∀ p ∈ T, p.1 = P → p.2 = X.env.qual ++ "<lambda>") (hr : Room (k + 2) X.A) (L : LamS X.env.scope scope) (hdef : defaultsOf params X.env = ([], []))
    (hbind : ∀ (q : Str) (cl : List (Str × Addr)) (pm cv ctv : Value), bindArgs (PySem.W.kla_fn "<lambda>" q params body scope cl pm cv ctv) ⟨[], []⟩ = pure [])
    (hbody : ∀ (A : Around) (outer : List Env) (s : Shared) (H : Hp) (E : XK) (f c' : Addr), Room k (A.deeper (lamEnv X scope s.heap.objs.size f c')) → PE (lamCx X A outer s H E scope f c') body (t E)) :
    PE X (.Call (.Name "_law_met" p) [.Lambda params body scope lpos] [] pos) (tLam T (TTmet D) t) := by
  have F : Fun X.K "_law_met" "_law_met" (topS 51) (Z.f 51) (Z.d 51) := Z.F 51 (by decide)
  have bd : Binds X.K (Z.d 51) ["_law_ask"] [] := F.binds fun _ _ _ _ _ _ us hl => match us, hl with | [_], _ => rfl
  obtain ⟨oc, od, kV, doc, pm, an, cdv, ct, osl, e, lk, hcd⟩ := F.ex
  rw [e] at bd lk
  exact pe_lamcall hg (Z.g 51 (by decide)) F.kp lk hcd bd sc_met rfl (.inl rfl) (met_gives Z D M) TB hcode hmT hu hr L hdef hbind hbody
end
section
variable {X : Cx} {CX : CXT} {n : Nat} {C C2 f : Addr} {fd : FuncData} {ps : List Str} {sp : Sp} {E : XK}
/-- x == y, y of the class at C2, not beneath x's -/
def rBEqO (C C2 : Addr) (sp : Sp) (E : XK) : R2 := fun x y H Q => ∃ a dx fs b dy gs, x = .ref a ∧ y = .ref b ∧ H a = some (.ins C dx fs) ∧ H b = some (.ins C2 dy gs) ∧ sp [x, y] H Q E
theorem op_beqO (F : FnOk X.prog X.w X.K X.mg X.base CX n f fd ps sp) (hr : Room n X.A) (hs : PySem.W.findIn X.K (.ref C) "__eq__" = some (some (.ref f))) (hf : PySem.W.isFn X.K (.ref f) = true) (hb : Binds X.K fd ps []) (hx : Passes CX X E)
    (nf : PySem.W.notFirst X.K C (.ref C2) = true) : OpR X (compareOp .Eq) (rBEqO C C2 sp E) := by
  intro pins s σ H x y v u Q I rx ry h
  obtain ⟨a, dx, fs, b, dy, gs, rfl, rfl, ha, hy, q⟩ := h
  cases (show v = Value.ref a from rx)
  cases (show u = Value.ref b from ry)
  obtain ⟨mA, J, _⟩ := ins_get I.hok ha
  obtain ⟨od, J, _⟩ := J.look
  obtain ⟨mA2, J2, _⟩ := ins_get I.hok hy
  obtain ⟨od2, J2, _⟩ := J2.look
  obtain ⟨m, hF⟩ := I.fr
  show wpAny _ _ (richCompare .Eq (.ref a) (.ref b)) _ _ _
  refine PySem.W.cmp_K (op := .Eq) (tb := .ref C2) hr.units0 hF I.ok.mod.kin J J2.type nf hs hf ?_
  refine wpAny_mono (run_fn (us := [.ref a, .ref b]) (vs := [.ref a, .ref b]) (ds := []) (dvs := []) F hr hb .nil hx I (.cons rfl (.cons rfl .nil)) q) (fun w s' z => ?_) fun _ _ x => x
  obtain ⟨z', H', I', rz, qz⟩ := z
  exact SlX.cmpback rz ⟨z', H', I', rz, qz⟩
end
end E1

set_option Elab.async false
set_option linter.all false
set_option maxRecDepth 100000
set_option maxHeartbeats 4000000
/-! What is spoiled: lists within grow by texts. -/
namespace E1
open PySem PySem.Spec PyProof.Rows L2 G0
/-- a text, or a list or tuple of such, nested no deeper than n; its lists lie in M, none within itself; w: how many times one within is written -/
def Nd (H : Hp) (n : Nat) (M : Addr → Prop) (L : Nat) (v : V) (w : Nat) : Prop := match n with
  | 0 => ∃ z, v = .str z
  | n + 1 => (∃ z, v = .str z) ∨ ∃ (a : Addr) (xs : List V) (ws : List Nat), v = .ref a ∧ ((H a = some (.lst xs) ∧ M a) ∨ H a = some (.tup xs)) ∧ xs.length ≤ L ∧ ws.length = xs.length ∧ (∀ (i : Nat) (x : V) (k : Nat), xs[i]? = some x → ws[i]? = some k → Nd H n (fun c => M c ∧ c ≠ a) L x k) ∧ 1 + ws.sum ≤ w
/-- lists of M grew by texts, no more than g of them each -/
def Ex (M : Addr → Prop) (g : Nat) (H H' : Hp) : Prop := ∀ c o, H c = some o → H' c = some o ∨ (M c ∧ ∃ (xs : List V) (ss : List Str), o = .lst xs ∧ H' c = some (.lst (xs ++ ss.map V.str)) ∧ ss.length ≤ g)
theorem Ex.same {M : Addr → Prop} {g : Nat} {H H' : Hp} (S : Same H H') : Ex M g H H' := fun c o e => .inl (S c o e)
theorem Ex.mono {M M' : Addr → Prop} {g g' : Nat} {H H' : Hp} (x : Ex M g H H') (k : ∀ c, M c → M' c) (h : g ≤ g') : Ex M' g' H H' := fun c o e => (x c o e).elim .inl fun ⟨m, xs, ss, e1, e2, e3⟩ => .inr ⟨k _ m, xs, ss, e1, e2, Nat.le_trans e3 h⟩
theorem Ex.trans {M : Addr → Prop} {g g' : Nat} {H H1 H2 : Hp} (x : Ex M g H H1) (y : Ex M g' H1 H2) : Ex M (g + g') H H2 := fun c o e => by
  rcases x c o e with h | ⟨m, xs, ss, rfl, h, l⟩
  · rcases y c o h with h2 | ⟨m, xs, ss, e1, e2, e3⟩
    · exact .inl h2
    · exact .inr ⟨m, xs, ss, e1, e2, by omega⟩
  · rcases y c _ h with h2 | ⟨_, ys, ts, e1, e2, e3⟩
    · exact .inr ⟨m, xs, ss, rfl, h2, by omega⟩
    · injection e1 with e1
      subst e1
      exact .inr ⟨m, xs, ss ++ ts, rfl, by rw [e2, List.map_append, List.append_assoc], by rw [List.length_append]; omega⟩
theorem Nd.str {H : Hp} {n : Nat} {M : Addr → Prop} {L w : Nat} (z : Str) : Nd H n M L (.str z) w := by
  cases n with
  | zero => exact ⟨z, rfl⟩
  | succ n => exact .inl ⟨z, rfl⟩
theorem Nd.ex {H H' : Hp} {M' : Addr → Prop} {g : Nat} (x : Ex M' g H H') : ∀ {n : Nat} {M : Addr → Prop} {L w : Nat} {v : V}, Nd H n M L v w → Nd H' n M (L + g) v w
  | 0, _, _, _, _, h => h
  | n + 1, M, L, w, _, h => by
    rcases h with h | ⟨a, xs, ws, rfl, h1, h3, h4, h5, h6⟩
    · exact .inl h
    · have plain : ((H' a = some (.lst xs) ∧ M a) ∨ H' a = some (.tup xs)) → Nd H' (n + 1) M (L + g) (.ref a) w := fun e => .inr ⟨a, xs, ws, rfl, e, by omega, h4, fun i y k e1 e2 => Nd.ex x (h5 i y k e1 e2), h6⟩
      rcases h1 with ⟨h1, h2⟩ | h1
      · rcases x a _ h1 with e | ⟨_, ys, ss, e1, e2, e3⟩
        · exact plain (.inl ⟨e, h2⟩)
        · injection e1 with e1
          subst e1
          refine .inr ⟨a, _, ws ++ List.replicate ss.length 0, rfl, .inl ⟨e2, h2⟩, by rw [List.length_append, List.length_map]; omega, by rw [List.length_append, List.length_append, List.length_replicate, List.length_map, h4], fun i y k f1 f2 => ?_, ?_⟩
          · rcases Nat.lt_or_ge i xs.length with l | l
            · rw [List.getElem?_append_left l] at f1
              rw [List.getElem?_append_left (by omega)] at f2
              exact Nd.ex x (h5 i y k f1 f2)
            · rw [List.getElem?_append_right l] at f1
              obtain ⟨z, _, rfl⟩ := List.mem_map.mp (List.mem_of_getElem? f1)
              exact Nd.str z
          · rw [List.sum_append]
            simp
            omega
      · rcases x a _ h1 with e | ⟨_, ys, ss, e1, _⟩
        · exact plain (.inr e)
        · cases e1
abbrev N_spoil : List Str := ["_law_thing", "_law_some", "_law_part"]
theorem sc_spoil : FnScope N_spoil ["_law_thing"] (defScope (topS 44)) := ⟨rfl, rfl, rfl, by decide +kernel, rfl, by decide +kernel, by decide +kernel⟩
def spSpoil (n : Nat) : Sp := fun vs H Q _ => ∃ (v : V) (M : Addr → Prop) (L w : Nat), vs = [v] ∧ Nd H n M L v w ∧ L + w ≤ 1000000 ∧ ∀ H', Ex M w H H' → Q .non H'
theorem boot_dictT : bootBuiltins "dict" = some (.type "dict") := by decide +kernel
theorem ps_dead {X : Cx} {st : Stmt} : PS X st (fun _ _ _ => False) := ⟨fun _ _ _ _ _ _ h => h.elim⟩
theorem sum_take {ws : List Nat} {i k : Nat} (h : ws[i]? = some k) : (ws.take (i + 1)).sum = (ws.take i).sum + k := by
  rw [List.take_succ, h, List.sum_append]
  simp
theorem sum_take_le (ws : List Nat) (i : Nat) : (ws.take i).sum ≤ ws.sum := by
  have := congrArg List.sum (List.take_append_drop i ws)
  rw [List.sum_append] at this
  omega
section
variable {P : Program} {w : World} {K : PySem.W.Frag} {mg : Str → Option Value} {base : Heap}
theorem bSpoil (Z : LawD K mg) : Binds K (Z.d 44) ["_law_thing"] [] := (Z.F 44 (by decide)).binds fun _ _ _ _ _ _ us hl => match us, hl with | [_], _ => rfl
theorem ok_spoil (Z : LawD K mg) : ∀ n, FnOk P w K mg base CX0 (n + 1) (Z.f 44) (Z.d 44) ["_law_thing"] (spSpoil n)
  | 0 => by
    refine Fun.ok (Z.F 44 (by decide)) sc_spoil (fun vs H Q E h => ?_) (fun cdv A outer s H vs Q E hr h => ⟨_, pss_cons (ps_set (i := 1) sc_spoil.nd rfl (Or.inl rfl) (pe_ifExp (pt_val (pe_callB call_isi (by rfl) Z.t.isinstance (by decide +kernel) (pa_cons (pv 0) (pa_cons (pe_bltn (by rfl) (Z.free "dict" (by decide)) boot_dictT (v := .ty "dict") rfl) pa_nil)))) pe_dead (pv 0)))
      (pss_cons (ps_for PassesOwn.never rfl (pi_seqQ (pe_ifExp (pt_val (pe_callB call_isiT (by rfl) Z.t.isinstance (by decide +kernel) (pa_cons (pv 1) (pa_cons (pe_tup (pa_cons (pe_bltn (by rfl) Z.t.list PyProof.Rows.boot_list (v := .ty "list") rfl) (pa_cons (pe_bltn (by rfl) Z.t.tuple boot_tuple (v := .ty "tuple") rfl) pa_nil))) pa_nil)))) (pv 1) (pe_lst pa_nil))) (pg_name (i := 2) sc_spoil.nd rfl (Or.inl rfl)) (pss_one (ps_expr pe_dead)))
      (pss_cons (ps_if (pt_val (pe_callB call_isi (by rfl) Z.t.isinstance (by decide +kernel) (pa_cons (pv 0) (pa_cons (pe_bltn (by rfl) Z.t.list PyProof.Rows.boot_list (v := .ty "list") rfl) pa_nil)))) (pss_one ps_dead) pss_nil)
      (pss_one (ps_if (pt_val (pe_callB call_isi (by rfl) Z.t.isinstance (by decide +kernel) (pa_cons (pv 0) (pa_cons (pe_bltn (by rfl) (Z.free "dict" (by decide)) boot_dictT (v := .ty "dict") rfl) pa_nil)))) (pss_one ps_dead) pss_nil)))), ?_⟩)
    · obtain ⟨v, M, L, w, rfl, _⟩ := h
      rfl
    · obtain ⟨v, M, L, w, rfl, ⟨z, rfl⟩, hl, k⟩ := h
      obtain ⟨t0, ty0, ki0⟩ := kn_isi Z.B.O (Kn.str (C := Z.B.C) (H := H) z)
      refine ⟨_, rfl, _, _, t0, _, _, rfl, .ty _, ty0, ki0 "dict" (by decide), _, rfl, iteF ⟨_, rfl, ?_⟩⟩
      refine ⟨_, rfl, by show 2 ≤ sizeLine; decide, fun t nt => ?_⟩
      have ST := new_same (o := .tup [.ty "list", .ty "tuple"]) nt
      obtain ⟨ty, h1, h2⟩ := seq_test Z.B.O (Kn.str (C := Z.B.C) (H := H) z) ST
      refine ⟨_, t, _, ty, _, _, rfl, upd_same, .cons (.ty _) (.cons (.ty _) .nil), h1, h2, _, rfl, iteF ⟨Nat.zero_le _, fun e ne => ?_⟩⟩
      have SE := ST.trans (new_same (o := .lst []) ne)
      refine ⟨e, [], rfl, for_seqQ (.inl (SqL.of upd_same)) (fun i σ H' => σ = [some (.str z), some (.str z), none] ∧ H' = upd (upd H t (.tup [.ty "list", .ty "tuple"])) e (.lst [])) ⟨rfl, rfl⟩ (fun i σ H' _ ⟨_, e⟩ => by rw [e]; exact ⟨fun _ h => h, fun _ h => h⟩) (fun i x σ H' h _ => by simp at h) ?_⟩
      rintro σ H' ⟨rfl, rfl⟩
      obtain ⟨t1, ty1, ki1⟩ := kn_isi Z.B.O (Kn.str (C := Z.B.C) (H := upd (upd H t (.tup [.ty "list", .ty "tuple"])) e (.lst [])) z)
      refine ⟨_, rfl, _, _, t1, _, _, rfl, .ty _, ty1, ki1 "list" (by decide), _, rfl, iteF ?_⟩
      refine ⟨_, rfl, _, _, t1, _, _, rfl, .ty _, ty1, ki1 "dict" (by decide), _, rfl, iteF ?_⟩
      exact k _ (Ex.same SE)
  | n + 1 => by
    have GS : FnOk P w K mg base CX0 (n + 1) (Z.f 44) (Z.d 44) ["_law_thing"] (spSpoil n) := ok_spoil Z n
    refine Fun.ok (Z.F 44 (by decide)) sc_spoil (fun vs H Q E h => ?_) (fun cdv A outer s H vs Q E hr h => ⟨_, pss_cons (ps_set (i := 1) sc_spoil.nd rfl (Or.inl rfl) (pe_ifExp (pt_val (pe_callB call_isi (by rfl) Z.t.isinstance (by decide +kernel) (pa_cons (pv 0) (pa_cons (pe_bltn (by rfl) (Z.free "dict" (by decide)) boot_dictT (v := .ty "dict") rfl) pa_nil)))) pe_dead (pv 0)))
      (pss_cons (ps_for PassesOwn.never rfl (pi_seqQ (pe_ifExp (pt_val (pe_callB call_isiT (by rfl) Z.t.isinstance (by decide +kernel) (pa_cons (pv 1) (pa_cons (pe_tup (pa_cons (pe_bltn (by rfl) Z.t.list PyProof.Rows.boot_list (v := .ty "list") rfl) (pa_cons (pe_bltn (by rfl) Z.t.tuple boot_tuple (v := .ty "tuple") rfl) pa_nil))) pa_nil)))) (pv 1) (pe_lst pa_nil))) (pg_name (i := 2) sc_spoil.nd rfl (Or.inl rfl)) (pss_one (ps_expr (pe_call GS hr (by rfl) (Z.g 44 (by decide)) (Z.F 44 (by decide)).kp (bSpoil Z) .nil pass0 (pa_cons (pv 2) pa_nil)))))
      (pss_cons (ps_if (pt_val (pe_callB call_isi (by rfl) Z.t.isinstance (by decide +kernel) (pa_cons (pv 0) (pa_cons (pe_bltn (by rfl) Z.t.list PyProof.Rows.boot_list (v := .ty "list") rfl) pa_nil)))) (pss_one (ps_expr (pe_bm PySem.F.plainAttrs_list PySem.F.slot_list_append PySem.F.type_list_append mt_append (pv 0) (pa_cons pe_str pa_nil)))) pss_nil)
      (pss_one (ps_if (pt_val (pe_callB call_isi (by rfl) Z.t.isinstance (by decide +kernel) (pa_cons (pv 0) (pa_cons (pe_bltn (by rfl) (Z.free "dict" (by decide)) boot_dictT (v := .ty "dict") rfl) pa_nil)))) (pss_one ps_dead) pss_nil)))), ?_⟩)
    · obtain ⟨v, M, L, w, rfl, _⟩ := h
      rfl
    · obtain ⟨v, M, L, w, rfl, h, hl, k⟩ := h
      rcases h with ⟨z, rfl⟩ | ⟨a, xs, ws, rfl, e1', lx, lw, hx, hw⟩
      · obtain ⟨t0, ty0, ki0⟩ := kn_isi Z.B.O (Kn.str (C := Z.B.C) (H := H) z)
        refine ⟨_, rfl, _, _, t0, _, _, rfl, .ty _, ty0, ki0 "dict" (by decide), _, rfl, iteF ⟨_, rfl, ?_⟩⟩
        refine ⟨_, rfl, by show 2 ≤ sizeLine; decide, fun t nt => ?_⟩
        have ST := new_same (o := .tup [.ty "list", .ty "tuple"]) nt
        obtain ⟨ty, h1, h2⟩ := seq_test Z.B.O (Kn.str (C := Z.B.C) (H := H) z) ST
        refine ⟨_, t, _, ty, _, _, rfl, upd_same, .cons (.ty _) (.cons (.ty _) .nil), h1, h2, _, rfl, iteF ⟨Nat.zero_le _, fun e ne => ?_⟩⟩
        have SE := ST.trans (new_same (o := .lst []) ne)
        refine ⟨e, [], rfl, for_seqQ (.inl (SqL.of upd_same)) (fun i σ H' => σ = [some (.str z), some (.str z), none] ∧ H' = upd (upd H t (.tup [.ty "list", .ty "tuple"])) e (.lst [])) ⟨rfl, rfl⟩ (fun i σ H' _ ⟨_, e⟩ => by rw [e]; exact ⟨fun _ h => h, fun _ h => h⟩) (fun i x σ H' h _ => by simp at h) ?_⟩
        rintro σ H' ⟨rfl, rfl⟩
        obtain ⟨t1, ty1, ki1⟩ := kn_isi Z.B.O (Kn.str (C := Z.B.C) (H := upd (upd H t (.tup [.ty "list", .ty "tuple"])) e (.lst [])) z)
        refine ⟨_, rfl, _, _, t1, _, _, rfl, .ty _, ty1, ki1 "list" (by decide), _, rfl, iteF ?_⟩
        refine ⟨_, rfl, _, _, t1, _, _, rfl, .ty _, ty1, ki1 "dict" (by decide), _, rfl, iteF ?_⟩
        exact k _ (Ex.same SE)
      have e1 : H a = some (.lst xs) ∨ H a = some (.tup xs) := e1'.elim (fun h => .inl h.1) .inr
      have it1 : itemsOf H (.ref a) = some xs := items_at.mpr e1
      have nd : ∀ {H' : Hp}, (H' a = some (.lst xs) ∨ H' a = some (.tup xs)) → (kdOf H' (.ref a) == "dict" || (kdOf H' (.ref a) == "bool" && ("dict" : String) == "int")) = false ∧ Kn Z.B.C H' (.ref a) := fun {H'} h => by
        rcases h with h | h
        · exact ⟨by simp only [kdOf, h]; rfl, .lst h⟩
        · exact ⟨by simp only [kdOf, h]; rfl, .tup h⟩
      obtain ⟨d0, kn0⟩ := nd e1
      obtain ⟨t0, ty0, ki0⟩ := kn_isi Z.B.O kn0
      refine ⟨_, rfl, _, _, t0, _, _, rfl, .ty _, ty0, ki0 "dict" (by decide), _, rfl, ?_⟩
      rw [d0]
      refine iteF ⟨_, rfl, ?_⟩
      refine ⟨_, rfl, by show 2 ≤ sizeLine; decide, fun t nt => ?_⟩
      have ST := new_same (o := .tup [.ty "list", .ty "tuple"]) nt
      obtain ⟨ty, h1, h2⟩ := seq_test Z.B.O kn0 ST
      rw [it1] at h2
      refine ⟨_, t, _, ty, _, _, rfl, upd_same, .cons (.ty _) (.cons (.ty _) .nil), h1, h2, _, rfl, iteT ⟨_, rfl, a, xs, rfl, for_seqQ (items_Q (K := K) (items_same ST it1)) (fun i σ H' => ∃ v2, σ = [some (.ref a), some (.ref a), v2] ∧ Ex (fun c => M c ∧ c ≠ a) (ws.take i).sum H H') ⟨none, rfl, Ex.same ST⟩ ?_ ?_ ?_⟩⟩
      · rintro i σ H' _ ⟨v2, _, x⟩
        have hh : (upd H t (.tup [.ty "list", .ty "tuple"])) a = H' a := by
          rcases e1 with h | h
          · rcases x a _ h with q | ⟨q, _⟩
            · rw [ST _ _ h, q]
            · exact absurd rfl q.2
          · rcases x a _ h with q | ⟨q, _⟩
            · rw [ST _ _ h, q]
            · exact absurd rfl q.2
        refine ⟨fun zs h => ?_, fun zs h => ?_⟩
        · rcases h with (h | ⟨o, h⟩) | h
          · exact .inl (.inl (hh ▸ h))
          · exact .inl (.inr ⟨o, hh ▸ h⟩)
          · exact .inr h
        · rcases h with (h | ⟨o, h⟩) | h
          · exact .inl (.inl (hh ▸ h))
          · exact .inl (.inr ⟨o, hh ▸ h⟩)
          · exact .inr h
      · rintro i y σ H' hxi ⟨v2, rfl, x⟩
        have il := (List.getElem?_eq_some_iff.mp hxi).1
        obtain ⟨kk, hk⟩ : ∃ kk, ws[i]? = some kk := ⟨ws[i], List.getElem?_eq_getElem (by omega)⟩
        have hs := sum_take hk
        have hs2 := sum_take_le ws (i + 1)
        refine ⟨_, rfl, y, _, _, kk, rfl, Nd.ex x (hx i y kk hxi hk), by omega, fun H2 x2 => ⟨_, rfl, ?_⟩⟩
        rw [hs]
        exact x.trans x2
      · rintro σ H' ⟨v2, rfl, x⟩
        have hs2 := sum_take_le ws xs.length
        have ha' : H' a = some (.lst xs) ∨ H' a = some (.tup xs) := by
          rcases e1 with h | h
          · exact .inl ((x a _ h).elim id fun q => absurd rfl q.1.2)
          · exact .inr ((x a _ h).elim id fun q => absurd rfl q.1.2)
        obtain ⟨d1, kn1⟩ := nd ha'
        obtain ⟨t1, ty1, ki1⟩ := kn_isi Z.B.O kn1
        have x2 : Ex M w H H' := x.mono (fun c h => h.1) (by omega)
        rcases ha' with ha | ha
        · have el : (kdOf H' (.ref a) == "list" || (kdOf H' (.ref a) == "bool" && ("list" : String) == "int")) = true := by simp only [kdOf, ha]; rfl
          refine ⟨_, rfl, _, _, t1, _, _, rfl, .ty _, ty1, ki1 "list" (by decide), _, rfl, ?_⟩
          rw [el]
          refine iteT ⟨_, rfl, .inl ⟨rfl, _, SqL.of ha⟩, a, xs, _, rfl, rfl, ha, ?_, ?_⟩
          · exact Nat.lt_of_le_of_lt (show xs.length ≤ 1000000 by omega) (by decide)
          · have ha2 : (upd H' a (.lst (xs ++ [.str "late"]))) a = some (.lst (xs ++ [.str "late"])) := upd_same
            have kn2 : Kn Z.B.C (upd H' a (.lst (xs ++ [.str "late"]))) (.ref a) := .lst ha2
            have d2 : (kdOf (upd H' a (.lst (xs ++ [.str "late"]))) (.ref a) == "dict" || (kdOf (upd H' a (.lst (xs ++ [.str "late"]))) (.ref a) == "bool" && ("dict" : String) == "int")) = false := by simp only [kdOf, ha2]; rfl
            obtain ⟨t2, ty2, ki2⟩ := kn_isi Z.B.O kn2
            refine ⟨_, rfl, _, _, t2, _, _, rfl, .ty _, ty2, ki2 "dict" (by decide), _, rfl, ?_⟩
            rw [d2]
            refine iteF (k _ fun c o e => ?_)
            by_cases ca : c = a
            · subst ca
              have ho : o = .lst xs := by
                rcases e1 with h | h
                · rw [h] at e; cases e; rfl
                · have := (x c _ h).elim id fun q => absurd rfl q.1.2
                  rw [ha] at this; cases this
              subst ho
              have hM : M c := by
                rcases e1' with h | h
                · exact h.2
                · have := (x c _ h).elim id fun q => absurd rfl q.1.2
                  rw [ha] at this; cases this
              exact .inr ⟨hM, xs, ["late"], rfl, upd_same, by simp; omega⟩
            · rw [upd_ne ca]
              exact x2 c o e
        · have el : (kdOf H' (.ref a) == "list" || (kdOf H' (.ref a) == "bool" && ("list" : String) == "int")) = false := by simp only [kdOf, ha]; rfl
          refine ⟨_, rfl, _, _, t1, _, _, rfl, .ty _, ty1, ki1 "list" (by decide), _, rfl, ?_⟩
          rw [el]
          refine iteF ⟨_, rfl, _, _, t1, _, _, rfl, .ty _, ty1, ki1 "dict" (by decide), _, rfl, ?_⟩
          rw [d1]
          exact iteF (k _ x2)
end
end E1

set_option Elab.async false
set_option linter.all false
set_option maxRecDepth 100000
set_option maxHeartbeats 4000000
/-! The same data. -/
namespace E1
open PySem PySem.Spec PyProof.Rows L2 G0
theorem kn_is6 {K : PySem.W.Frag} {C : Addr} {H : Hp} {v : V} (O : OwnC K C) (k : Kn C H v) : ∃ t, TyX K H v t ∧ ∀ T, T ∈ ["str", "list", "tuple", "dict", "int", "bool"] → PySem.W.kitOne K t (.type T) = some (kdOf H v == T || (kdOf H v == "bool" && T == "int")) := by
  have all := (by decide +kernel : ∀ T ∈ ["str", "list", "tuple", "dict", "int", "bool"], ∀ a ∈ ["NoneType", "bool", "int", "str", "list", "tuple", "dict"], kitB a T = some (a == T || (a == "bool" && T == "int")))
  have tk : ∀ a, a ∈ ["NoneType", "bool", "int", "str", "list", "tuple", "dict"] → ∀ T, T ∈ ["str", "list", "tuple", "dict", "int", "bool"] → PySem.W.kitOne K (.type a) (.type T) = some (a == T || (a == "bool" && T == "int")) := fun a ha T hT => kit_ty (all T hT a ha)
  cases k with
  | non => exact ⟨_, .base .non, tk _ (by decide)⟩
  | bl b => exact ⟨_, .base (.bl b), tk _ (by decide)⟩
  | int i => exact ⟨_, .base (.int i), tk _ (by decide)⟩
  | str x => exact ⟨_, .base (.str x), tk _ (by decide)⟩
  | lst e => exact ⟨_, .base (.lst e), by simp only [kdOf, e]; exact tk _ (by decide)⟩
  | tup e => exact ⟨_, .base (.tup e), by simp only [kdOf, e]; exact tk _ (by decide)⟩
  | dic e => exact ⟨_, .base (.dK e), by simp only [kdOf, e]; exact tk _ (by decide)⟩
  | own e =>
    refine ⟨_, .base (.ins e O.cl O.ha O.hn O.htk O.hm), fun T hT => ?_⟩
    simp only [kdOf, e]
    rw [O.no T (by simpa using hT)]
    simp only [List.mem_cons, List.not_mem_nil, or_false] at hT
    rcases hT with rfl | rfl | rfl | rfl | rfl | rfl <;> decide
/-- isinstance(v, T) where v's kind is known by name -/
theorem kn_one {K : PySem.W.Frag} {C : Addr} {H : Hp} {v : V} {d : String} (O : OwnC K C) (k : Kn C H v) (e : kdOf H v = d) : ∃ t, TyX K H v t ∧ (∀ T, T ∈ ["str", "list", "tuple", "dict", "int", "bool"] → PySem.W.kitOne K t (.type T) = some (d == T || (d == "bool" && T == "int"))) ∧
    PySem.W.kitAny K t [.type "list", .type "tuple"] = some (d == "list" || d == "tuple") := by
  obtain ⟨t, h1, h2⟩ := kn_is6 O k
  rw [e] at h2
  have a := h2 "list" (by decide)
  have b := h2 "tuple" (by decide)
  simp only [show (("list" : String) == "int") = false from by decide, show (("tuple" : String) == "int") = false from by decide, Bool.and_false, Bool.or_false] at a b
  refine ⟨t, h1, h2, kitAny_cons a (fun z => kitAny_cons b (fun y => ?_) fun y => ?_) fun z => ?_⟩
  · rw [z, y]
    rfl
  · rw [y, Bool.or_true]
  · rw [z, Bool.true_or]
def scV : V → Bool
  | .non => true
  | .bl _ => true
  | .int _ => true
  | .str _ => true
  | _ => false
/-- the same data, what is within by R -/
def Sq (C : Addr) (R : V → V → Hp → Prop) : V → V → Hp → Prop := fun v w H => (v = w ∧ scV v = true) ∨ (∃ a pl ts rm, v = .ref a ∧ w = .ref a ∧ BoardAt (fun _ => True) C H a pl ts rm) ∨
  (∃ a b xs ys, v = .ref a ∧ w = .ref b ∧ ((H a = some (.lst xs) ∧ H b = some (.lst ys)) ∨ (H a = some (.tup xs) ∧ H b = some (.tup ys))) ∧ xs.length = ys.length ∧ xs.length ≤ 2000 ∧ ∀ (i : Nat) (x y : V), xs[i]? = some x → ys[i]? = some y → R x y H) ∨
  ∃ a, v = .ref a ∧ w = .ref a ∧ H a = some (.dK []) ∧ ∀ (H' : Hp) (b c : Addr), H' b = some (.lst []) → H' c = some (.lst []) → R (.ref b) (.ref c) H'
def spSame (R : V → V → Hp → Prop) : Sp := fun vs H Q _ => ∃ v w, vs = [v, w] ∧ R v w H ∧ ∀ H', Same H H' → Q (.bl true) H'
def Stb (R : V → V → Hp → Prop) : Prop := ∀ v w H H', Same H H' → R v w H → R v w H'
theorem Sq.stb {C : Addr} {R : V → V → Hp → Prop} (h : Stb R) : Stb (Sq C R) := fun v w H H' S x => by
  rcases x with x | ⟨a, pl, ts, rm, e1, e2, b⟩ | ⟨a, b, xs, ys, e1, e2, e3, e4, e5, e6⟩ | ⟨a, e1, e2, e3, e4⟩
  · exact .inl x
  · exact .inr (.inl ⟨a, pl, ts, rm, e1, e2, b.same S⟩)
  · exact .inr (.inr (.inl ⟨a, b, xs, ys, e1, e2, e3.elim (fun q => .inl ⟨S _ _ q.1, S _ _ q.2⟩) (fun q => .inr ⟨S _ _ q.1, S _ _ q.2⟩), e4, e5, fun i x y h1 h2 => h _ _ _ _ S (e6 i x y h1 h2)⟩))
  · exact .inr (.inr (.inr ⟨a, e1, e2, S _ _ e3, e4⟩))
theorem walk_zipT {K : PySem.W.Frag} {a b : Addr} {xs ys : List V} {n : Nat} (hn : n = min xs.length ys.length) : Walk (RZ.ItzT K a b) n (fun H => SqT K H a xs ∧ SqT K H b ys) (YPair (fun i => xs[i]?) (fun i => ys[i]?)) := by
  subst hn
  refine ⟨fun i _ hi q => ?_, fun _ q => ⟨xs, ys, q.1, q.2, by omega⟩, fun i H v H' _ q y => ?_⟩
  · have h1 : i < xs.length := by omega
    have h2 : i < ys.length := by omega
    exact ⟨xs, ys, xs[i], ys[i], q.1, q.2, by simp [h1], by simp [h2]⟩
  · obtain ⟨T, x, z, h1, h2, h3, h4, h5⟩ := y
    exact ⟨T, x, z, h1, h2, h3, h4 xs q.1, h5 ys q.2⟩
abbrev N_same : List Str := ["_law_found", "_law_due", "_law_x", "_law_y"]
theorem sc_same : FnScope N_same ["_law_found", "_law_due"] (defScope (topS 49)) := ⟨rfl, rfl, rfl, by decide +kernel, rfl, by decide +kernel, by decide +kernel⟩
theorem boot_int' : bootBuiltins "int" = some (.type "int") := by decide +kernel
theorem boot_bool' : bootBuiltins "bool" = some (.type "bool") := by decide +kernel
section
variable {P : Program} {w : World} {K : PySem.W.Frag} {mg : Str → Option Value} {base : Heap}
theorem bSame (Z : LawD K mg) : Binds K (Z.d 49) ["_law_found", "_law_due"] [] := (Z.F 49 (by decide)).binds fun _ _ _ _ _ _ us hl => match us, hl with | [_, _], _ => rfl
theorem ok_same_of (Z : LawD K mg) {k : Nat} {R : V → V → Hp → Prop} (hR : Stb R) (GS : FnOk P w K mg base CX0 (k + 1) (Z.f 49) (Z.d 49) ["_law_found", "_law_due"] (spSame R)) :
    FnOk P w K mg base CX0 (k + 2) (Z.f 49) (Z.d 49) ["_law_found", "_law_due"] (spSame (Sq Z.B.C R)) := by
  have GB : FnOk P w K mg base CX0 1 (Z.B.f 1) (Z.B.d 1) ["self", "other"] (spBEq Z.B.C) := ok_beq Z.B Z.t
  refine Fun.ok (Z.F 49 (by decide)) sc_same (fun vs H Q E h => ?_) (fun cdv A outer s H vs Q E hr h => ⟨_, pss_cons (ps_if (pt_val (pe_callB call_isiT (by rfl) Z.t.isinstance (by decide +kernel) (pa_cons (pv 1) (pa_cons (pe_tup (pa_cons (pe_bltn (by rfl) Z.t.list PyProof.Rows.boot_list (v := .ty "list") rfl) (pa_cons (pe_bltn (by rfl) Z.t.tuple boot_tuple (v := .ty "tuple") rfl) pa_nil))) pa_nil))))
      (pss_cons (ps_if (PW.pt (pw_or (pt_cmpR op_ne (pe_callB call_isi (by rfl) Z.t.isinstance (by decide +kernel) (pa_cons (pv 0) (pa_cons (pe_bltn (by rfl) Z.t.list PyProof.Rows.boot_list (v := .ty "list") rfl) pa_nil))) (pe_callB call_isi (by rfl) Z.t.isinstance (by decide +kernel) (pa_cons (pv 1) (pa_cons (pe_bltn (by rfl) Z.t.list PyProof.Rows.boot_list (v := .ty "list") rfl) pa_nil))) (nomark _))
          (pw_or1 (pt_cmpR op_ne (pe_callB call_isi (by rfl) Z.t.isinstance (by decide +kernel) (pa_cons (pv 0) (pa_cons (pe_bltn (by rfl) Z.t.tuple boot_tuple (v := .ty "tuple") rfl) pa_nil))) (pe_callB call_isi (by rfl) Z.t.isinstance (by decide +kernel) (pa_cons (pv 1) (pa_cons (pe_bltn (by rfl) Z.t.tuple boot_tuple (v := .ty "tuple") rfl) pa_nil))) (nomark _))))) (pss_one (ps_ret pe_bl)) pss_nil)
      (pss_one (ps_ret (pe_and (pe_cmpR op_eq (pe_callB call_len_seq (by rfl) Z.t.len PySem.boot_len (pa_cons (pv 0) pa_nil)) (pe_callB call_len_seq (by rfl) Z.t.len PySem.boot_len (pa_cons (pv 1) pa_nil)) (nomark _)) (pe_one (pe_callB (cr_all rfl) (by rfl) Z.t.all (by decide +kernel) (pa_cons (pe_lc (own := [("_law_x", 2), ("_law_y", 3)]) (tt := tYes) (g := gTup K 2 (gCons (gName 2) (gCons (gName 3) gNil))) rfl sc_same.nd (RZ.pi_zipA (by rfl) (Z.free "zip" (by decide)) (pa_cons (pv 0) (pa_cons (pv 1) pa_nil))) (blkOk_by (own := [("_law_x", 2), ("_law_y", 3)]) (N := N_same) (sc := defScope (topS 49)) (by decide +kernel)) (fun _ _ _ _ _ => by exact (pg_tup rfl (pgs_cons (pg_name (i := 2) sc_same.nd rfl (Or.inl rfl)) (pgs_cons (pg_name (i := 3) sc_same.nd rfl (Or.inl rfl)) pgs_nil)))) (fun _ _ _ _ _ => pts_nil) (fun _ _ _ _ _ => (pe_call GS hr (by rfl) (Z.g 49 (by decide)) (Z.F 49 (by decide)).kp (bSame Z) .nil pass0 (pa_cons (pv 2) (pa_cons (pv 3) pa_nil))))) pa_nil))))))) pss_nil)
    (pss_cons (ps_if (pt_val (pe_callB call_isi (by rfl) Z.t.isinstance (by decide +kernel) (pa_cons (pv 1) (pa_cons (pe_bltn (by rfl) (Z.free "dict" (by decide)) boot_dictT (v := .ty "dict") rfl) pa_nil)))) (pss_one (ps_ret (pe_and (pe_callB call_isi (by rfl) Z.t.isinstance (by decide +kernel) (pa_cons (pv 0) (pa_cons (pe_bltn (by rfl) (Z.free "dict" (by decide)) boot_dictT (v := .ty "dict") rfl) pa_nil))) (pe_one (pe_call GS hr (by rfl) (Z.g 49 (by decide)) (Z.F 49 (by decide)).kp (bSame Z) .nil pass0 (pa_cons (LiI.pe_listItems rfl (pv 0) (by rfl) Z.t.list PyProof.Rows.boot_list) (pa_cons (LiI.pe_listItems rfl (pv 1) (by rfl) Z.t.list PyProof.Rows.boot_list) pa_nil))))))) pss_nil)
    (pss_cons (ps_if (pt_val (pe_callB call_isi (by rfl) Z.t.isinstance (by decide +kernel) (pa_cons (pv 1) (pa_cons (pe_bltn (by rfl) (Z.free "int" (by decide)) boot_int' (v := .ty "int") rfl) pa_nil)))) (pss_one (ps_ret (pe_and (pe_callB call_isi (by rfl) Z.t.isinstance (by decide +kernel) (pa_cons (pv 0) (pa_cons (pe_bltn (by rfl) (Z.free "int" (by decide)) boot_int' (v := .ty "int") rfl) pa_nil))) (pe_and (pe_cmpR op_eq (pe_callB call_isi (by rfl) Z.t.isinstance (by decide +kernel) (pa_cons (pv 0) (pa_cons (pe_bltn (by rfl) (Z.free "bool" (by decide)) boot_bool' (v := .ty "bool") rfl) pa_nil))) (pe_callB call_isi (by rfl) Z.t.isinstance (by decide +kernel) (pa_cons (pv 1) (pa_cons (pe_bltn (by rfl) (Z.free "bool" (by decide)) boot_bool' (v := .ty "bool") rfl) pa_nil))) (nomark _)) (pe_one (pe_cmpR op_eq (pv 0) (pv 1) (nomark _))))))) pss_nil)
    (pss_one (ps_ret (pe_and (pe_not (pe_callB call_isiT (by rfl) Z.t.isinstance (by decide +kernel) (pa_cons (pv 0) (pa_cons (pe_tup (pa_cons (pe_bltn (by rfl) (Z.free "int" (by decide)) boot_int' (v := .ty "int") rfl) (pa_cons (pe_bltn (by rfl) Z.t.list PyProof.Rows.boot_list (v := .ty "list") rfl) (pa_cons (pe_bltn (by rfl) Z.t.tuple boot_tuple (v := .ty "tuple") rfl) (pa_cons (pe_bltn (by rfl) (Z.free "dict" (by decide)) boot_dictT (v := .ty "dict") rfl) pa_nil))))) pa_nil)))) (pe_one (pe_cmpR (OpR.or op_eq (op_beq GB (hr.mono (by omega)) Z.B.eqA Z.B.eqF (b_m1 Z.B) pass0 Z.B.nf)) (pv 0) (pv 1) (nomark _)))))))), ?_⟩)
  · obtain ⟨v, u, rfl, _⟩ := h
    rfl
  · obtain ⟨v, u, rfl, h, k⟩ := h
    have any4 : ∀ {t : Value} {d : String}, (∀ T, T ∈ ["str", "list", "tuple", "dict", "int", "bool"] → PySem.W.kitOne K t (.type T) = some (d == T || (d == "bool" && T == "int"))) → (d ∈ ["NoneType", "str", ""]) → PySem.W.kitAny K t [.type "int", .type "list", .type "tuple", .type "dict"] = some false := fun {t d} g hd => by
      have a := g "int" (by decide)
      have b := g "list" (by decide)
      have c := g "tuple" (by decide)
      have e := g "dict" (by decide)
      simp only [List.mem_cons, List.not_mem_nil, or_false] at hd
      rcases hd with rfl | rfl | rfl <;> exact kitAny_cons a (fun _ => kitAny_cons b (fun _ => kitAny_cons c (fun _ => kitAny_cons e (fun _ => rfl) (fun z => by revert z; decide)) (fun z => by revert z; decide)) (fun z => by revert z; decide)) (fun z => by revert z; decide)
    rcases h with ⟨rfl, hs⟩ | ⟨a, pl, ts, rm, rfl, rfl, hB⟩ | ⟨a, b, xs, ys, rfl, rfl, hab, hl, hL, hx⟩ | ⟨a, rfl, rfl, ha, hE⟩
    · cases v with
      | non =>
        refine ⟨_, rfl, by show 2 ≤ sizeLine; decide, fun t nt => ?_⟩
        have ST := new_same (o := .tup [.ty "list", .ty "tuple"]) nt
        obtain ⟨ty, h1, h2, h3⟩ := kn_one (d := "NoneType") Z.B.O (.non : Kn Z.B.C (upd H t (.tup [.ty "list", .ty "tuple"])) _) rfl
        refine ⟨_, t, _, ty, _, _, rfl, upd_same, .cons (.ty _) (.cons (.ty _) .nil), h1, h3, _, rfl, iteF ?_⟩
        refine ⟨_, rfl, _, _, ty, _, _, rfl, .ty _, h1, h2 "dict" (by decide), _, rfl, iteF ?_⟩
        refine ⟨_, rfl, _, _, ty, _, _, rfl, .ty _, h1, h2 "int" (by decide), _, rfl, iteF ?_⟩
        refine ⟨_, rfl, by show 4 ≤ sizeLine; decide, fun t4 nt4 => ?_⟩
        obtain ⟨ty4, g1, g2, _⟩ := kn_one (d := "NoneType") Z.B.O (.non : Kn Z.B.C (upd (upd H t (.tup [.ty "list", .ty "tuple"])) t4 (.tup [.ty "int", .ty "list", .ty "tuple", .ty "dict"])) _) rfl
        refine ⟨_, t4, _, ty4, _, _, rfl, upd_same, .cons (.ty _) (.cons (.ty _) (.cons (.ty _) (.cons (.ty _) .nil))), g1, any4 g2 (by decide), ?_⟩
        refine ⟨_, rfl, _, rfl, iteT ⟨_, rfl, _, rfl, .inl ⟨rfl, ?_⟩⟩⟩
        exact k _ (ST.trans (new_same nt4))
      | bl x =>
        refine ⟨_, rfl, by show 2 ≤ sizeLine; decide, fun t nt => ?_⟩
        have ST := new_same (o := .tup [.ty "list", .ty "tuple"]) nt
        obtain ⟨ty, h1, h2, h3⟩ := kn_one (d := "bool") Z.B.O (.bl x : Kn Z.B.C (upd H t (.tup [.ty "list", .ty "tuple"])) _) rfl
        refine ⟨_, t, _, ty, _, _, rfl, upd_same, .cons (.ty _) (.cons (.ty _) .nil), h1, h3, _, rfl, iteF ?_⟩
        refine ⟨_, rfl, _, _, ty, _, _, rfl, .ty _, h1, h2 "dict" (by decide), _, rfl, iteF ?_⟩
        refine ⟨_, rfl, _, _, ty, _, _, rfl, .ty _, h1, h2 "int" (by decide), _, rfl, iteT ?_⟩
        refine ⟨_, rfl, _, _, ty, _, _, rfl, .ty _, h1, h2 "int" (by decide), _, rfl, iteT ?_⟩
        refine ⟨_, rfl, _, _, ty, _, _, rfl, .ty _, h1, h2 "bool" (by decide), _, rfl, _, _, ty, _, _, rfl, .ty _, h1, h2 "bool" (by decide), rfl, _, rfl, ?_⟩
        rw [decide_eq_true rfl]
        refine iteT ⟨_, rfl, _, rfl, rfl, ?_⟩
        rw [decide_eq_true rfl]
        exact k _ ST
      | int x =>
        refine ⟨_, rfl, by show 2 ≤ sizeLine; decide, fun t nt => ?_⟩
        have ST := new_same (o := .tup [.ty "list", .ty "tuple"]) nt
        obtain ⟨ty, h1, h2, h3⟩ := kn_one (d := "int") Z.B.O (.int x : Kn Z.B.C (upd H t (.tup [.ty "list", .ty "tuple"])) _) rfl
        refine ⟨_, t, _, ty, _, _, rfl, upd_same, .cons (.ty _) (.cons (.ty _) .nil), h1, h3, _, rfl, iteF ?_⟩
        refine ⟨_, rfl, _, _, ty, _, _, rfl, .ty _, h1, h2 "dict" (by decide), _, rfl, iteF ?_⟩
        refine ⟨_, rfl, _, _, ty, _, _, rfl, .ty _, h1, h2 "int" (by decide), _, rfl, iteT ?_⟩
        refine ⟨_, rfl, _, _, ty, _, _, rfl, .ty _, h1, h2 "int" (by decide), _, rfl, iteT ?_⟩
        refine ⟨_, rfl, _, _, ty, _, _, rfl, .ty _, h1, h2 "bool" (by decide), _, rfl, _, _, ty, _, _, rfl, .ty _, h1, h2 "bool" (by decide), rfl, _, rfl, ?_⟩
        rw [decide_eq_true rfl]
        refine iteT ⟨_, rfl, _, rfl, rfl, ?_⟩
        rw [decide_eq_true rfl]
        exact k _ ST
      | str x =>
        refine ⟨_, rfl, by show 2 ≤ sizeLine; decide, fun t nt => ?_⟩
        have ST := new_same (o := .tup [.ty "list", .ty "tuple"]) nt
        obtain ⟨ty, h1, h2, h3⟩ := kn_one (d := "str") Z.B.O (.str x : Kn Z.B.C (upd H t (.tup [.ty "list", .ty "tuple"])) _) rfl
        refine ⟨_, t, _, ty, _, _, rfl, upd_same, .cons (.ty _) (.cons (.ty _) .nil), h1, h3, _, rfl, iteF ?_⟩
        refine ⟨_, rfl, _, _, ty, _, _, rfl, .ty _, h1, h2 "dict" (by decide), _, rfl, iteF ?_⟩
        refine ⟨_, rfl, _, _, ty, _, _, rfl, .ty _, h1, h2 "int" (by decide), _, rfl, iteF ?_⟩
        refine ⟨_, rfl, by show 4 ≤ sizeLine; decide, fun t4 nt4 => ?_⟩
        obtain ⟨ty4, g1, g2, _⟩ := kn_one (d := "str") Z.B.O (.str x : Kn Z.B.C (upd (upd H t (.tup [.ty "list", .ty "tuple"])) t4 (.tup [.ty "int", .ty "list", .ty "tuple", .ty "dict"])) _) rfl
        refine ⟨_, t4, _, ty4, _, _, rfl, upd_same, .cons (.ty _) (.cons (.ty _) (.cons (.ty _) (.cons (.ty _) .nil))), g1, any4 g2 (by decide), ?_⟩
        refine ⟨_, rfl, _, rfl, iteT ⟨_, rfl, _, rfl, .inl ⟨rfl, ?_⟩⟩⟩
        rw [decide_eq_true rfl]
        exact k _ (ST.trans (new_same nt4))
      | _ => cases hs
    · -- a board
      obtain ⟨dx, aP, aT, aR, aN, tv, l, e1, hB2⟩ := id hB
      refine ⟨_, rfl, by show 2 ≤ sizeLine; decide, fun t nt => ?_⟩
      have ST := new_same (o := .tup [.ty "list", .ty "tuple"]) nt
      have e2 := ST _ _ e1
      obtain ⟨ty, h1, h2, h3⟩ := kn_one (d := "") Z.B.O (Kn.own (C := Z.B.C) e2) (by simp only [kdOf, e2])
      refine ⟨_, t, _, ty, _, _, rfl, upd_same, .cons (.ty _) (.cons (.ty _) .nil), h1, h3, _, rfl, iteF ?_⟩
      refine ⟨_, rfl, _, _, ty, _, _, rfl, .ty _, h1, h2 "dict" (by decide), _, rfl, iteF ?_⟩
      refine ⟨_, rfl, _, _, ty, _, _, rfl, .ty _, h1, h2 "int" (by decide), _, rfl, iteF ?_⟩
      refine ⟨_, rfl, by show 4 ≤ sizeLine; decide, fun t4 nt4 => ?_⟩
      have S4 := ST.trans (new_same (o := .tup [.ty "int", .ty "list", .ty "tuple", .ty "dict"]) nt4)
      have e4 := S4 _ _ e1
      obtain ⟨ty4, g1, g2, _⟩ := kn_one (d := "") Z.B.O (Kn.own (C := Z.B.C) e4) (by simp only [kdOf, e4])
      refine ⟨_, t4, _, ty4, _, _, rfl, upd_same, .cons (.ty _) (.cons (.ty _) (.cons (.ty _) (.cons (.ty _) .nil))), g1, any4 g2 (by decide), ?_⟩
      refine ⟨_, rfl, _, rfl, iteT ⟨_, rfl, _, rfl, .inr ⟨a, dx, _, rfl, e4, .own e4, a, .ref a, pl, ts, rm, rfl, hB.same S4, .inr ⟨a, pl, ts, rm, rfl, hB.same S4, ?_⟩⟩⟩⟩
      rw [decide_eq_true rfl, decide_eq_true rfl, decide_eq_true rfl]
      exact k _ S4
    · rcases hab with ⟨ha, hb⟩ | ⟨ha, hb⟩
      · refine ⟨_, rfl, by show 2 ≤ sizeLine; decide, fun t nt => ?_⟩
        have ST := new_same (o := .tup [.ty "list", .ty "tuple"]) nt
        have ea := ST _ _ ha
        have eb := ST _ _ hb
        obtain ⟨tya, ga1, ga2, ga3⟩ := kn_one (d := "list") Z.B.O (Kn.lst (C := Z.B.C) ea) (by simp only [kdOf, ea])
        obtain ⟨tyb, gb1, gb2, gb3⟩ := kn_one (d := "list") Z.B.O (Kn.lst (C := Z.B.C) eb) (by simp only [kdOf, eb])
        refine ⟨_, t, _, tyb, _, _, rfl, upd_same, .cons (.ty _) (.cons (.ty _) .nil), gb1, gb3, _, rfl, iteT ?_⟩
        refine ⟨_, rfl, _, _, tya, _, _, rfl, .ty _, ga1, ga2 "list" (by decide), _, rfl, _, _, tyb, _, _, rfl, .ty _, gb1, gb2 "list" (by decide), rfl, _, rfl, ?_⟩
        rw [decide_eq_true rfl]
        refine iteF ⟨_, rfl, _, _, tya, _, _, rfl, .ty _, ga1, ga2 "tuple" (by decide), _, rfl, _, _, tyb, _, _, rfl, .ty _, gb1, gb2 "tuple" (by decide), rfl, _, rfl, ?_⟩
        rw [decide_eq_true rfl]
        refine iteF ⟨_, rfl, a, xs, rfl, .inl (SqL.of ea), _, rfl, b, ys, rfl, .inl (SqL.of eb), rfl, _, rfl, ?_⟩
        rw [show decide (V.int (xs.length : Nat) = V.int (ys.length : Nat)) = true from decide_eq_true (by rw [hl])]
        refine iteT ⟨_, rfl, _, rfl, a, b, xs, ys, rfl, .inl ⟨SqL.of ea, SqL.of eb, fun D hD => ?_⟩⟩
        refine lc_it (walk_zip (n := xs.length) (by omega)) (fun i H' => H' D = some (.lst ((List.replicate i true).map V.bl)) ∧ Same (upd H t (.tup [.ty "list", .ty "tuple"])) H') ⟨upd_same, new_same hD⟩ (fun i H' _ ⟨_, S'⟩ => ⟨SqL.of (S' _ _ ea), SqL.of (S' _ _ eb)⟩) ?_ ?_
        · rintro i v H' H'' hi ⟨hacc, S'⟩ ⟨T, x, y, rfl, nT, rfl, hx1, hy1⟩
          have S2 := S'.trans (new_same (o := .tup [x, y]) nT)
          refine ⟨T, _, rfl, SqT.of upd_same, rfl, _, _, rfl, _, _, rfl, rfl, rfl, yes_of ⟨_, rfl, _, rfl, x, y, rfl, hR _ _ _ _ (ST.trans S2) (hx i x y hx1 hy1), fun H3 S3 => ⟨_, S3 _ _ (new_same nT _ _ hacc), ?_, ?_, ?_⟩⟩⟩
          · rw [List.length_map, List.length_replicate]
            exact small1000' (by omega)
          · rw [upd_same, List.replicate_succ', List.map_append]
            rfl
          · exact fun b o e => by
              rw [upd_ne (ne_of_none e hD)]
              exact S3 _ _ (S2 _ _ e)
        · rintro H' ⟨hacc, S'⟩
          refine ⟨D, List.replicate xs.length true, rfl, SqL.of hacc, ?_⟩
          rw [show (List.replicate xs.length true).all id = true from List.all_eq_true.mpr fun z hz => (List.mem_replicate.mp hz).2]
          exact k _ (ST.trans S')
      · refine ⟨_, rfl, by show 2 ≤ sizeLine; decide, fun t nt => ?_⟩
        have ST := new_same (o := .tup [.ty "list", .ty "tuple"]) nt
        have ea := ST _ _ ha
        have eb := ST _ _ hb
        obtain ⟨tya, ga1, ga2, ga3⟩ := kn_one (d := "tuple") Z.B.O (Kn.tup (C := Z.B.C) ea) (by simp only [kdOf, ea])
        obtain ⟨tyb, gb1, gb2, gb3⟩ := kn_one (d := "tuple") Z.B.O (Kn.tup (C := Z.B.C) eb) (by simp only [kdOf, eb])
        refine ⟨_, t, _, tyb, _, _, rfl, upd_same, .cons (.ty _) (.cons (.ty _) .nil), gb1, gb3, _, rfl, iteT ?_⟩
        refine ⟨_, rfl, _, _, tya, _, _, rfl, .ty _, ga1, ga2 "list" (by decide), _, rfl, _, _, tyb, _, _, rfl, .ty _, gb1, gb2 "list" (by decide), rfl, _, rfl, ?_⟩
        rw [decide_eq_true rfl]
        refine iteF ⟨_, rfl, _, _, tya, _, _, rfl, .ty _, ga1, ga2 "tuple" (by decide), _, rfl, _, _, tyb, _, _, rfl, .ty _, gb1, gb2 "tuple" (by decide), rfl, _, rfl, ?_⟩
        rw [decide_eq_true rfl]
        refine iteF ⟨_, rfl, a, xs, rfl, .inr (SqT.of ea), _, rfl, b, ys, rfl, .inr (SqT.of eb), rfl, _, rfl, ?_⟩
        rw [show decide (V.int (xs.length : Nat) = V.int (ys.length : Nat)) = true from decide_eq_true (by rw [hl])]
        refine iteT ⟨_, rfl, _, rfl, a, b, xs, ys, rfl, .inr ⟨SqT.of ea, SqT.of eb, fun D hD => ?_⟩⟩
        refine lc_it (walk_zipT (n := xs.length) (by omega)) (fun i H' => H' D = some (.lst ((List.replicate i true).map V.bl)) ∧ Same (upd H t (.tup [.ty "list", .ty "tuple"])) H') ⟨upd_same, new_same hD⟩ (fun i H' _ ⟨_, S'⟩ => ⟨SqT.of (S' _ _ ea), SqT.of (S' _ _ eb)⟩) ?_ ?_
        · rintro i v H' H'' hi ⟨hacc, S'⟩ ⟨T, x, y, rfl, nT, rfl, hx1, hy1⟩
          have S2 := S'.trans (new_same (o := .tup [x, y]) nT)
          refine ⟨T, _, rfl, SqT.of upd_same, rfl, _, _, rfl, _, _, rfl, rfl, rfl, yes_of ⟨_, rfl, _, rfl, x, y, rfl, hR _ _ _ _ (ST.trans S2) (hx i x y hx1 hy1), fun H3 S3 => ⟨_, S3 _ _ (new_same nT _ _ hacc), ?_, ?_, ?_⟩⟩⟩
          · rw [List.length_map, List.length_replicate]
            exact small1000' (by omega)
          · rw [upd_same, List.replicate_succ', List.map_append]
            rfl
          · exact fun b o e => by
              rw [upd_ne (ne_of_none e hD)]
              exact S3 _ _ (S2 _ _ e)
        · rintro H' ⟨hacc, S'⟩
          refine ⟨D, List.replicate xs.length true, rfl, SqL.of hacc, ?_⟩
          rw [show (List.replicate xs.length true).all id = true from List.all_eq_true.mpr fun z hz => (List.mem_replicate.mp hz).2]
          exact k _ (ST.trans S')
    · -- an empty dict
      refine ⟨_, rfl, by show 2 ≤ sizeLine; decide, fun t nt => ?_⟩
      have ST := new_same (o := .tup [.ty "list", .ty "tuple"]) nt
      have e2 := ST _ _ ha
      obtain ⟨ty, h1, h2, h3⟩ := kn_one (d := "dict") Z.B.O (Kn.dic (C := Z.B.C) e2) (by simp only [kdOf, e2])
      refine ⟨_, t, _, ty, _, _, rfl, upd_same, .cons (.ty _) (.cons (.ty _) .nil), h1, h3, _, rfl, iteF ?_⟩
      refine ⟨_, rfl, _, _, ty, _, _, rfl, .ty _, h1, h2 "dict" (by decide), _, rfl, iteT ?_⟩
      refine ⟨_, rfl, _, _, ty, _, _, rfl, .ty _, h1, h2 "dict" (by decide), _, rfl, iteT ?_⟩
      refine ⟨_, rfl, a, [], rfl, e2, fun H3 p1 ts1 S3 np1 _ _ hp1 pr1 => ⟨_, rfl, a, [], rfl, S3 _ _ e2, fun H4 p2 ts2 S4 np2 _ _ hp2 pr2 => ?_⟩⟩
      cases pr1
      cases pr2
      exact ⟨.ref p1, .ref p2, rfl, hE H4 p1 p2 (S4 _ _ hp1) hp2, fun H5 S5 => k H5 (((ST.trans S3).trans S4).trans S5)⟩
/-- the same data, nested less than n deep -/
def SmN (C : Addr) : Nat → V → V → Hp → Prop
  | 0 => fun _ _ _ => False
  | n + 1 => Sq C (SmN C n)
theorem SmN.stb {C : Addr} : ∀ n, Stb (SmN C n)
  | 0 => fun _ _ _ _ _ h => h.elim
  | n + 1 => Sq.stb (SmN.stb n)
theorem ok_same (Z : LawD K mg) : ∀ n, FnOk P w K mg base CX0 (n + 1) (Z.f 49) (Z.d 49) ["_law_found", "_law_due"] (spSame (SmN Z.B.C n))
  | 0 => ⟨fun _ _ _ _ h => by
      obtain ⟨_, _, _, h, _⟩ := h
      exact h.elim, fun _ _ _ _ _ _ _ _ _ _ _ _ _ h => by
      obtain ⟨_, _, _, h, _⟩ := h
      exact h.elim⟩
  | n + 1 => ok_same_of Z (SmN.stb n) (ok_same Z n)
end
end E1

set_option Elab.async false
set_option linter.all false
set_option maxRecDepth 100000
set_option maxHeartbeats 4000000
/-! repr of data looks at what is being shown around it: defs whose promise holds where nothing is. -/
namespace G0
open PySem PySem.Spec PyProof.Rows L2
structure FnOkG (P : Program) (w : World) (K : PySem.W.Frag) (mg : Str → Option Value) (base : Heap) (k : Nat) (f : Addr) (fd : FuncData) (ps : List Str) (sp : Sp) : Prop where
  len : ∀ vs H Q E, sp vs H Q E → vs.length = ps.length
  go : ∀ (A : Around) (outer : List Env) (s : Shared) (H : Hp) (args : Args) (us : List Value) (vs : List V) (Q : VK) (E : XK), A.guards = some [] → Room k A → Env0 P w K mg base A outer s H → BindsTo s fd args (ps.zip us) → Vals vs us → sp vs H Q E →
    codeAny (model P w) A (.call (.ref f) args) (CR CX0 outer P w H s Q E) s
theorem deeper_g {A : Around} {env : Env} (h : A.guards = some []) : (A.deeper env).guards = some [] := by
  obtain ⟨hd, d, fr, gs, u⟩ := A
  exact h
section
variable {P : Program} {w : World} {K : PySem.W.Frag} {mg : Str → Option Value} {base : Heap} {k : Nat} {f : Addr} {name qual : Str} {params : Arguments} {body : List Stmt} {scope : Scope} {dV kV doc pm cdv ct oc : Value} {an od : Option Addr} {osl : Array (Option Value)} {N ps : List Str} {sp : Sp}
theorem fnG_of (lk : K.lookup f = some ⟨oc, od, .func (PySem.W.fnOf name qual params body scope dV kV doc pm an cdv ct), osl⟩) (hcd : PySem.W.codeIn K cdv qual = true) (S : FnScope N ps scope) (len : ∀ vs H Q E, sp vs H Q E → vs.length = ps.length)
    (hb : ∀ (A : Around) (outer : List Env) (s : Shared) (H : Hp) (vs : List V) (Q : VK) (E : XK), A.guards = some [] → Room k (A.deeper (envOfC qual scope s.heap.objs.size f cdv)) → sp vs H Q E →
      ∃ t, PSs (cxOf CX0 P w K mg base N qual scope f cdv A outer s H E) body t ∧ t { nx := fun _ H' => Q .non H', rt := Q } (start N vs) H) :
    FnOkG P w K mg base (k + 1) f (PySem.W.fnOf name qual params body scope dV kV doc pm an cdv ct) ps sp where
  len := len
  go := fun A outer s H args us vs Q E hg hr e0 bt r hsp => by
    have inK : K.In s.heap := e0.mod.kin.keeps fun b o e => (e0.bs b o e).1
    have kinds : ∀ y ∈ ps.zip us, scope.names.lookup y.1 = some .local ∨ (scope.names.lookup y.1 = some .cell ∧ ((cellsFrom (s.heap.objs.size + 1) scope.names []).lookup y.1).isSome = true) := by
      rintro ⟨n, v⟩ hy
      exact (S.par n (List.of_mem_zip hy).1).imp id fun c => ⟨c, PySem.W.cellsFrom_some _ _ _ (.inl c)⟩
    refine codeAny_call_function hr.depth (inK _ _ lk) rfl S.co S.gen rfl (PySem.W.codeRec_of inK hcd) (bt _ _ _ _ (wpAny_newFunctionEnv_cells S.kind kinds ?_))
    rintro env rfl s1 x
    obtain ⟨t, ht, hq⟩ := hb A outer s H vs Q E hg (hr.deeper _) hsp
    have I : Inv (cxOf CX0 P w K mg base N qual scope f cdv A outer s H E) [] (start N vs) H s1 := inv_start S hr.hd e0 (len _ _ _ _ hsp) r x
    refine ⟨(e0.mod.nolimit.keeps fun b o e => (e0.bs b o e).1).keeps x.toInCall.keep, codeAny_func (wpAny_mono (ht.run [] s1 (start N vs) H _ I hq) (fun fl s' hs => ?_) fun _ _ hs => hs)⟩
    rcases fl with _ | _ | _ | u
    all_goals first
      | (obtain ⟨v, σ', H', J, rv, q⟩ := hs; exact ⟨v, H', J.os, J.bare, J.base, J.hok, rv, q⟩)
      | (obtain ⟨σ', H', J, q⟩ := hs; exact ⟨.non, H', J.os, J.bare, J.base, J.hok, rfl, q⟩)
      | (obtain ⟨_, _, _, q⟩ := hs; exact False.elim q)
end
section
variable {X : Cx} {k : Nat} {f : Addr} {fd : FuncData} {ps : List Str} {sp : Sp} {x : Str} {p pos : Pos} {e : Expr} {es : List Expr} {t : TA}
theorem pe_callG (F : FnOkG X.prog X.w X.K X.mg X.base k f fd ps sp) (hgd : X.A.guards = some []) (hr : Room k X.A) (hg : Gl X x) (hm : X.mg x = some (.ref f)) (hk : PySem.W.keepIn X.K (.ref f) = true) (hb : Binds X.K fd ps [])
    (ha : PA X (e :: es) t) (hdb : (x == ("__debug__" : Str)) = false := by decide) (he : starEach (e :: es) X.env = (false, eval e X.env) :: starEach es X.env := by rfl) (hpl : (backTo pos (starEach es X.env)).any (·.1) = false := by rfl) :
    PE X (.Call (.Name x p) (e :: es) [] pos) (tCall sp [] (fun _ _ _ => False) t) := by
  refine ⟨fun pins s σ H Q I h => wpAny_Call_Name_kw (ld_glob I hg hm (PySem.W.callWith_K (h₀ := X.base) I.ok.mod.kin hk (thn (ha.run pos pins s σ H _ I h) fun us s1 ⟨vs, H1, I1, r, q⟩ => ⟨I1.kIn, ?_⟩) he hpl) hdb)⟩
  have q : sp (vs ++ []) H1 Q (fun _ _ _ => False) := q
  rw [List.append_nil] at q
  have hl : us.length = ps.length := by rw [← r.length]; exact F.len _ _ _ _ q
  have b := hb s1 us I1.kIn (by rw [List.append_nil]; exact hl)
  rw [List.append_nil] at b
  refine wpAny_call (codeAny_mono (F.go X.A X.stack s1 H1 ⟨us, []⟩ us vs Q _ hgd hr I1.env0 b r q) fun r s' hq => ?_)
  rcases r with e | (_ | _ | _ | u)
  all_goals first
    | exact I1.after hq
    | exact False.elim hq
end
/-! ### data, as it is shown -/
def vD : V → PyData
  | .int i => .int i
  | .str x => .str x
  | .bl b => .bool b
  | _ => .none
def flatV : V → Bool
  | .int _ | .str _ | .bl _ | .non => true
  | _ => false
def kD : Key → PyData
  | .inl i => .int i
  | .inr x => .str x
mutual
inductive Dx (H : Hp) : V → PyData → Prop
  | flat (v : V) : flatV v = true → Dx H v (vD v)
  | lst {a : Addr} {xs : List V} {ds : List PyData} : H a = some (.lst xs) → DxAll H xs ds → Dx H (.ref a) (.list ds)
  | tup {a : Addr} {xs : List V} {ds : List PyData} : H a = some (.tup xs) → DxAll H xs ds → Dx H (.ref a) (.tuple ds)
  | dic {a : Addr} {kvs : List (Key × V)} : H a = some (.dK kvs) → (∀ p ∈ kvs, flatV p.2 = true) → Dx H (.ref a) (.dict (kvs.map fun p => (kD p.1, vD p.2)))
inductive DxAll (H : Hp) : List V → List PyData → Prop
  | nil : DxAll H [] []
  | cons {v : V} {vs : List V} {d : PyData} {ds : List PyData} : Dx H v d → DxAll H vs ds → DxAll H (v :: vs) (d :: ds)
end
theorem flat_reads {h : Heap} {v : V} {u : Value} (hf : flatV v = true) (r : RelV v u) : Reads h u (vD v) [] := by
  cases v with
  | int i => obtain ⟨t, rfl⟩ := r; exact .int i t
  | str x => obtain ⟨t, rfl⟩ := r; exact .str x t
  | bl b => cases r; exact .bool b
  | non => cases r; exact .none
  | _ => cases hf
theorem key_reads {h : Heap} {k : Key} {u : Value} (r : keyIs k u = true) : Reads h u (kD k) [] := by
  rcases keyIs_shape r with ⟨i, t, rfl, rfl⟩ | ⟨x, t, rfl, rfl⟩
  · exact .int i t
  · exact .str x t
theorem pairs_reads {P : Program} {w : World} {h : Heap} : ∀ {es : List DictEntry} {vs : List (Key × Value)} {kvs : List (Key × V)}, PySem.Pairs (mixKind P w) es vs → KV kvs vs → (∀ p ∈ kvs, flatV p.2 = true) →
    ReadsAll h (es.map (·.key)) ((kvs.map fun p => (kD p.1, vD p.2)).map (·.1)) [] ∧ ReadsAll h (es.map (·.val)) ((kvs.map fun p => (kD p.1, vD p.2)).map (·.2)) []
  | _, _, _, .nil, .nil, _ => ⟨.nil, .nil⟩
  | e :: es, _, _, .cons hk hv ps, .cons ⟨h1, h2⟩ r, hf => by
    obtain ⟨i1, i2⟩ := pairs_reads ps r fun p hp => hf p (List.mem_cons_of_mem _ hp)
    refine ⟨.cons (as := []) (key_reads ?_) i1, .cons (as := []) ?_ i2⟩
    · rw [h1]
      exact hk
    · show Reads h e.val (vD _) []
      rw [hv]
      exact flat_reads (hf _ List.mem_cons_self) h2
section
variable {X : Cx} {pins : List (Addr × Obj)} {σ : L2.St} {H : Hp} {s : Shared}
mutual
theorem Dx.reads (I : Inv X pins σ H s) (hs : H sysModules = none) : ∀ {v : V} {d : PyData} {u : Value}, Dx H v d → RelV v u → ∃ as, Reads s.heap u d as ∧ sysModules ∉ as
  | _, _, _, .flat v hf, r => ⟨[], flat_reads hf r, by simp⟩
  | _, _, _, .lst (a := a) ha hx, r => by
    cases r
    obtain ⟨z, its, n, rv, e⟩ := I.hok a _ ha
    obtain ⟨as, ra, na⟩ := DxAll.reads I hs hx rv
    exact ⟨a :: as, .list e rfl rfl ra, fun q => (List.mem_cons.mp q).elim (fun q => by rw [← q, hs] at ha; cases ha) na⟩
  | _, _, _, .tup (a := a) ha hx, r => by
    cases r
    obtain ⟨z, its, rv, o, e, hc, n, hd⟩ := I.hok a _ ha
    obtain ⟨as, ra, na⟩ := DxAll.reads I hs hx rv
    exact ⟨as, .tuple e hc hd ra, na⟩
  | _, _, _, .dic (a := a) (kvs := kvs) ha hf, r => by
    cases r
    obtain ⟨hz, hS, vs, rr, o, es, ep, e, hc, hd, _, ps, _⟩ := I.hok a _ ha
    obtain ⟨r1, r2⟩ := pairs_reads (h := s.heap) ps rr hf
    refine ⟨a :: [] ++ [], .dict e hc.1 hd r1 r2, fun q => ?_⟩
    have q : sysModules = a := by simpa using q
    rw [← q, hs] at ha
    cases ha
theorem DxAll.reads (I : Inv X pins σ H s) (hs : H sysModules = none) : ∀ {vs : List V} {ds : List PyData} {us : List Value}, DxAll H vs ds → Vals vs us → ∃ as, ReadsAll s.heap us ds as ∧ sysModules ∉ as
  | _, _, _, .nil, .nil => ⟨[], .nil, by simp⟩
  | _, _, _, .cons h1 h2, .cons r1 r2 => by
    obtain ⟨as, q1, n1⟩ := Dx.reads I hs h1 r1
    obtain ⟨bs, q2, n2⟩ := DxAll.reads I hs h2 r2
    exact ⟨as ++ bs, .cons q1 q2, fun q => (List.mem_append.mp q).elim n1 n2⟩
end
/-- repr(xs), xs a list -/
def rRep : List V → Hp → VK → Prop := fun xs H Q => ∃ (a : Addr) (ys : List V) (ds : List PyData), xs = [.ref a] ∧ H a = some (.lst ys) ∧ DxAll H ys ds ∧ (PyData.list ds).showable = true ∧ (PyData.list ds).shown.length ≤ sizeLine ∧ (PyData.list ds).depth ≤ 60 ∧ Q (.str (PyData.list ds).shown) H
theorem call_rep {o : Obj} (hk : X.K.lookup sysModules = some o) (hg : X.A.guards = some []) (hu : X.A.units + 64 < cLine) : CallR X (.builtin "repr") rRep := by
  intro pins s σ H xs us Q I r h
  obtain ⟨a, ys, ds, rfl, ha, hx, hs, hz, hd, q⟩ := h
  cases r with
  | cons rx rr =>
    cases rr
    have hn : H sysModules = none := (I.bs _ _ (I.ok.mod.kin _ _ hk)).2
    obtain ⟨as, rd, na⟩ := Dx.reads I hn (Dx.lst ha hx) rx
    cases rx
    exact repr_of_reads' rd hs (fun _ => na) hg (by omega) (fun _ _ e => e) (fun h' u tk kk => ⟨.str _, H, I.kept (t' := tk) kk, ⟨u, rfl⟩, q⟩) hz
end
end G0

set_option Elab.async false
set_option linter.all false
set_option maxRecDepth 100000
set_option maxHeartbeats 4000000
/-! Texts and pairs of texts, as data that is shown; spoiled; the same. -/
namespace E1
open PySem PySem.Spec PyProof.Rows L2 G0
/-- data of texts: nested k deep, n its weight -/
structure Ni (d : PyData) (k n : Nat) : Prop where
  lay : d.canLay0 = true
  dep : d.depth ≤ k
  wt : d.weight ≤ n
  iok : d.intsShort 13 = true
  sh : d.showable = true
theorem Ni.str {z : Str} {n : Nat} (h : PyData.strOk z = true) (l : z.length ≤ n) : Ni (.str z) 0 n := ⟨by simp only [PyData.canLay0]; exact h, by simp [PyData.depth], by simp only [PyData.weight]; exact l, by simp [PyData.intsShort], by simp [PyData.showable]⟩
theorem ni_all {k n : Nat} : ∀ {es : List PyData}, (∀ e ∈ es, Ni e k n) → PyData.canLayAll0 es = true ∧ PyData.depthAll es ≤ k ∧ PyData.weightAll es ≤ es.length * (n + 1) ∧ PyData.intsShortAll 13 es = true ∧ PyData.showableAll es = true
  | [], _ => ⟨by simp [PyData.canLayAll0], by simp [PyData.depthAll], by simp [PyData.weightAll], by simp [PyData.intsShortAll], by simp [PyData.showableAll]⟩
  | e :: es, h => by
    obtain ⟨h1, h2, h3, h4, h5⟩ := ni_all (es := es) fun e he => h e (List.mem_cons_of_mem _ he)
    have g := h e List.mem_cons_self
    have gd := g.dep
    have gw := g.wt
    refine ⟨by simp [PyData.canLayAll0, g.lay, h1], ?_, ?_, by simp [PyData.intsShortAll, g.iok, h4], by simp [PyData.showableAll, g.sh, h5]⟩
    · simp only [PyData.depthAll]
      omega
    · simp only [PyData.weightAll, List.length_cons]
      rw [Nat.succ_mul]
      omega
theorem Ni.list {es : List PyData} {k n : Nat} (h : ∀ e ∈ es, Ni e k n) : Ni (.list es) (k + 1) (es.length * (n + 1)) := by
  obtain ⟨h1, h2, h3, h4, h5⟩ := ni_all h
  exact ⟨by simp only [PyData.canLay0]; exact h1, by simp only [PyData.depth]; omega, by simp only [PyData.weight]; exact h3, by simp only [PyData.intsShort]; exact h4, by simp only [PyData.showable]; exact h5⟩
theorem Ni.tuple {es : List PyData} {k n : Nat} (h : ∀ e ∈ es, Ni e k n) : Ni (.tuple es) (k + 1) (es.length * (n + 1)) := by
  obtain ⟨h1, h2, h3, h4, h5⟩ := ni_all h
  exact ⟨by simp only [PyData.canLay0]; exact h1, by simp only [PyData.depth]; omega, by simp only [PyData.weight]; exact h3, by simp only [PyData.intsShort]; exact h4, by simp only [PyData.showable]; exact h5⟩
theorem Ni.mono {d : PyData} {k n k' n' : Nat} (h : Ni d k n) (h1 : k ≤ k') (h2 : n ≤ n') : Ni d k' n' := ⟨h.lay, Nat.le_trans h.dep h1, Nat.le_trans h.wt h2, h.iok, h.sh⟩
theorem Ni.shown {d : PyData} {k n : Nat} (h : Ni d k n) (hk : k ≤ 60) (hn : n ≤ 1048576) : d.showable = true ∧ d.shown.length ≤ sizeLine ∧ d.depth ≤ 60 := by
  have dd := h.dep
  have ww := h.wt
  refine ⟨h.sh, ?_, by omega⟩
  have l : PyData.layable0 d = true := by
    show (PyData.canLay0 d && decide (PyData.depth d ≤ 64) && decide (PyData.weight d ≤ 2 ^ 20)) = true
    have e20 : (2 : Nat) ^ 20 = 1048576 := by decide
    rw [h.lay, decide_eq_true (show PyData.depth d ≤ 64 by omega), decide_eq_true (show PyData.weight d ≤ 2 ^ 20 by omega)]
    rfl
  have := shown_le13 l h.iok
  have h3 : 15728653 ≤ sizeLine := by decide
  omega
theorem dx_strs {H : Hp} : ∀ ss : List Str, G0.DxAll H (ss.map V.str) (ss.map PyData.str)
  | [] => .nil
  | s :: ss => .cons (.flat (.str s) rfl) (dx_strs ss)
theorem hp_dx {N : Addr → Prop} {H : Hp} {v : V} {ss : List Str} (h : HP N H v ss) (ok : ∀ z ∈ ss, nameB z = true) (l : ss.length ≤ 1000) : ∃ d, G0.Dx H v d ∧ Ni d 2 50000 := by
  obtain ⟨a, rfl, e, _⟩ := h
  have key : ∀ e ∈ ss.map PyData.str, Ni e 0 8 := fun e he => by
    obtain ⟨z, hz, rfl⟩ := List.mem_map.mp he
    have h8 : z.length ≤ 8 := by
      have := ok z hz
      unfold nameB at this
      simp only [Bool.and_eq_true, decide_eq_true_eq] at this
      omega
    exact .str (name_ok (ok z hz)) h8
  rcases items_at.mp e with h | h
  · exact ⟨_, .lst h (dx_strs ss), (Ni.list key).mono (by omega) (by rw [List.length_map]; omega)⟩
  · exact ⟨_, .tup h (dx_strs ss), (Ni.tuple key).mono (by omega) (by rw [List.length_map]; omega)⟩
theorem ht_dx {N : Addr → Prop} {H : Hp} {v : V} {ps : List Pr} (h : HT N H v ps) (ok : ∀ q ∈ ps, nameB q.1 = true ∧ nameB q.2 = true) (l : ps.length ≤ 1000) : ∃ d, G0.Dx H v d ∧ Ni d 2 50000 := by
  obtain ⟨a, xs, rfl, e, l1, _, k⟩ := h
  have all : ∀ (ys : List V) (qs : List Pr), ys.length = qs.length → (∀ (j : Nat) (x : V) (q : Pr), ys[j]? = some x → qs[j]? = some q → ∃ u y z, x = .ref u ∧ itemsOf H x = some [.str y, .str z] ∧ tp y z = q ∧ N u) → (∀ q ∈ qs, nameB q.1 = true ∧ nameB q.2 = true) →
      ∃ ds, G0.DxAll H ys ds ∧ ds.length = ys.length ∧ ∀ d ∈ ds, Ni d 1 18 := by
    intro ys
    induction ys with
    | nil => exact fun qs _ _ _ => ⟨[], .nil, rfl, by simp⟩
    | cons y ys ih =>
      intro qs hl hk ho
      match qs, hl with
      | q :: qs, hl =>
        obtain ⟨ds, d1, d2, d3⟩ := ih qs (by simpa using hl) (fun j x q' e1 e2 => hk (j + 1) x q' e1 e2) fun q' hq' => ho q' (List.mem_cons_of_mem _ hq')
        obtain ⟨u, s, t, rfl, g1, g2, _⟩ := hk 0 y q rfl rfl
        have hq := ho q List.mem_cons_self
        have hst : nameB s = true ∧ nameB t = true := by
          rcases tp_cases s t with e | e <;> rw [e] at g2 <;> rw [← g2] at hq
          · exact hq
          · exact ⟨hq.2, hq.1⟩
        have key : ∀ e ∈ [s, t].map PyData.str, Ni e 0 8 := fun e he => by
          obtain ⟨z, hz, rfl⟩ := List.mem_map.mp he
          have hn : nameB z = true := by
            rcases List.mem_cons.mp hz with rfl | hz
            · exact hst.1
            · rw [List.mem_singleton.mp hz]
              exact hst.2
          have h8 : z.length ≤ 8 := by
            have := hn
            unfold nameB at this
            simp only [Bool.and_eq_true, decide_eq_true_eq] at this
            omega
          exact .str (name_ok hn) h8
        rcases items_at.mp g1 with h | h
        · exact ⟨_ :: ds, .cons (.lst h (dx_strs [s, t])) d1, by simp [d2], fun d hd => (List.mem_cons.mp hd).elim (fun e => by rw [e]; exact (Ni.list key).mono (by omega) (by show 2 * 9 ≤ 18; omega)) (d3 d)⟩
        · exact ⟨_ :: ds, .cons (.tup h (dx_strs [s, t])) d1, by simp [d2], fun d hd => (List.mem_cons.mp hd).elim (fun e => by rw [e]; exact (Ni.tuple key).mono (by omega) (by show 2 * 9 ≤ 18; omega)) (d3 d)⟩
  obtain ⟨ds, d1, d2, d3⟩ := all xs ps l1 k ok
  rcases items_at.mp e with h | h
  · exact ⟨_, .lst h d1, (Ni.list d3).mono (by omega) (by omega)⟩
  · exact ⟨_, .tup h d1, (Ni.tuple d3).mono (by omega) (by omega)⟩
/-- three of these in a list: as it is shown -/
theorem three_dx {N N2 N3 : Addr → Prop} {H : Hp} {v0 v1 v2 : V} {ss rs : List Str} {ps : List Pr} (h0 : HP N H v0 ss) (h1 : HT N2 H v1 ps) (h2 : HP N3 H v2 rs) (o0 : ∀ z ∈ ss, nameB z = true) (o1 : ∀ q ∈ ps, nameB q.1 = true ∧ nameB q.2 = true) (o2 : ∀ z ∈ rs, nameB z = true)
    (l0 : ss.length ≤ 1000) (l1 : ps.length ≤ 1000) (l2 : rs.length ≤ 1000) : ∃ ds, G0.DxAll H [v0, v1, v2] ds ∧ (PyData.list ds).showable = true ∧ (PyData.list ds).shown.length ≤ sizeLine ∧ (PyData.list ds).depth ≤ 60 := by
  obtain ⟨d0, a0, n0⟩ := hp_dx h0 o0 l0
  obtain ⟨d1, a1, n1⟩ := ht_dx h1 o1 l1
  obtain ⟨d2, a2, n2⟩ := hp_dx h2 o2 l2
  refine ⟨[d0, d1, d2], .cons a0 (.cons a1 (.cons a2 .nil)), (Ni.list (k := 2) (n := 50000) fun e he => ?_).shown (by omega) (by show 3 * 50001 ≤ 1048576; omega)⟩
  simp only [List.mem_cons, List.not_mem_nil, or_false] at he
  rcases he with rfl | rfl | rfl
  · exact n0
  · exact n1
  · exact n2
mutual
theorem dx_keep {H H' : Hp} (S : Same H H') : ∀ {v : V} {d : PyData}, G0.Dx H v d → G0.Dx H' v d
  | _, _, .flat v h => .flat v h
  | _, _, .lst h k => .lst (S _ _ h) (dx_keepAll S k)
  | _, _, .tup h k => .tup (S _ _ h) (dx_keepAll S k)
  | _, _, .dic h k => .dic (S _ _ h) k
theorem dx_keepAll {H H' : Hp} (S : Same H H') : ∀ {vs : List V} {ds : List PyData}, G0.DxAll H vs ds → G0.DxAll H' vs ds
  | _, _, .nil => .nil
  | _, _, .cons h k => .cons (dx_keep S h) (dx_keepAll S k)
end
/-! ### spoiled -/
theorem nd_strs {N : Addr → Prop} {H : Hp} {v : V} {ss : List Str} {n L : Nat} (h : HP N H v ss) (l : ss.length ≤ L) : Nd H (n + 1) N L v 1 := by
  obtain ⟨a, rfl, e, na⟩ := h
  refine .inr ⟨a, ss.map V.str, List.replicate ss.length 0, rfl, (items_at.mp e).elim (fun h => .inl ⟨h, na⟩) .inr, by rw [List.length_map]; exact l, by rw [List.length_replicate, List.length_map], fun i x k e1 _ => ?_, by simp⟩
  obtain ⟨z, _, rfl⟩ := List.mem_map.mp (List.mem_of_getElem? e1)
  exact Nd.str z
theorem nd_prs {N : Addr → Prop} {H : Hp} {v : V} {ps : List Pr} {n L : Nat} (h : HT N H v ps) (l : ps.length ≤ L) (l2 : 2 ≤ L) : Nd H (n + 2) N L v (1 + ps.length) := by
  obtain ⟨a, xs, rfl, e, l1, na, k⟩ := h
  refine .inr ⟨a, xs, List.replicate xs.length 1, rfl, (items_at.mp e).elim (fun h => .inl ⟨h, na⟩) .inr, by omega, by rw [List.length_replicate], fun i x j e1 e2 => ?_, by simp; omega⟩
  have il := (List.getElem?_eq_some_iff.mp e1).1
  obtain ⟨u, y, z, rfl, g1, _, g3⟩ := k i x _ e1 (List.getElem?_eq_getElem (by omega))
  have ej : j = 1 := by
    have := List.mem_of_getElem? e2
    exact (List.mem_replicate.mp this).2
  subst ej
  have ua : u ≠ a := fun q => by
    subst q
    rw [e] at g1
    have hm := List.mem_of_getElem? e1
    injection g1 with g1
    rw [g1] at hm
    simp at hm
  exact nd_strs (ss := [y, z]) ⟨u, rfl, g1, g3, ua⟩ l2
theorem Ex.keep {M : Addr → Prop} {g : Nat} {H H' : Hp} {c : Addr} {o : HO} (x : Ex M g H H') (n : ¬ M c) (e : H c = some o) : H' c = some o := (x c o e).elim id fun h => absurd h.1 n
theorem Fr.ex {H H1 H2 : Hp} {p l : Addr} {n g : Nat} {M : Addr → Prop} (F : Fr H p l n H1) (x : Ex M g H1 H2) (hM : ∀ c, M c → H c = none) : Fr H p l n H2 := by
  have np : ¬ M p := fun h => F.hp (hM p h)
  have nl : ¬ M l := fun h => F.hl (hM l h)
  obtain ⟨k, ⟨⟨ns, b, d, h1, h2, r⟩, hne⟩, c0, c1⟩ := F.st
  refine ⟨F.hp, F.hl, ⟨k, ⟨⟨ns, b, d, x.keep np h1, x.keep nl h2, r⟩, hne⟩, c0, c1⟩, fun b o e k1 k2 => ?_⟩
  exact x.keep (fun h => by rw [hM b h] at e; cases e) (F.but b o e k1 k2)
theorem Ex.free {M : Addr → Prop} {g : Nat} {H H' : Hp} {c : Addr} (x : Ex M g H H') (h : H' c = none) : H c = none := by
  cases e : H c with
  | none => rfl
  | some o =>
    rcases x c o e with q | ⟨_, xs, ss, _, q, _⟩
    · rw [h] at q; cases q
    · rw [h] at q; cases q
end E1

set_option Elab.async false
set_option linter.all false
set_option maxRecDepth 100000
set_option maxHeartbeats 16000000
/-! Wishes as data: shown, spoiled, the same. -/
namespace E1
open PySem PySem.Spec PyProof.Rows L2 G0
section
variable {X : Cx} {pins : List (Addr × Obj)} {σ : L2.St} {H : Hp} {s : Shared}
/-- repr(x), x a list or a tuple -/
def rRepD : List V → Hp → VK → Prop := fun xs H Q => ∃ (a : Addr) (d : PyData), xs = [.ref a] ∧ G0.Dx H (.ref a) d ∧ d.showable = true ∧ d.shown.length ≤ sizeLine ∧ d.depth ≤ 60 ∧ Q (.str d.shown) H
theorem call_repD {o : Obj} (hk : X.K.lookup sysModules = some o) (hg : X.A.guards = some []) (hu : X.A.units + 64 < cLine) : CallR X (.builtin "repr") rRepD := by
  intro pins s σ H xs us Q I r h
  obtain ⟨a, d, rfl, hx, hs, hz, hd, q⟩ := h
  cases r with
  | cons rx rr =>
    cases rr
    have hn : H sysModules = none := (I.bs _ _ (I.ok.mod.kin _ _ hk)).2
    obtain ⟨as, rd, na⟩ := G0.Dx.reads I hn hx rx
    cases rx
    exact repr_of_reads' rd hs (fun _ => na) hg (by omega) (fun _ _ e => e) (fun h' u tk kk => ⟨.str _, H, I.kept (t' := tk) kk, ⟨u, rfl⟩, q⟩) hz
end
theorem four_nm {z : Wi} {ps : List Pr} (p : ps.Perm [z.1, z.2]) (nm : ∀ s ∈ four z, nameB s = true) : ∀ q ∈ ps, nameB q.1 = true ∧ nameB q.2 = true := fun q hq => by
  have := p.mem_iff.mp hq
  simp only [List.mem_cons, List.not_mem_nil, or_false] at this
  rcases this with rfl | rfl
  · exact ⟨nm _ (by simp [four]), nm _ (by simp [four])⟩
  · exact ⟨nm _ (by simp [four]), nm _ (by simp [four])⟩
theorem hw_dx {N : Addr → Prop} {H : Hp} {v : V} {ws : List Wi} (h : HW N H v ws) (nm : WsNm ws) (l : ws.length ≤ 10) : ∃ a d, v = .ref a ∧ G0.Dx H v d ∧ d.showable = true ∧ d.shown.length ≤ sizeLine ∧ d.depth ≤ 60 := by
  obtain ⟨a, xs, rfl, e, l1, _, k⟩ := h
  have all : ∀ (ys : List V) (zs : List Wi), ys.length = zs.length → (∀ (j : Nat) (x : V) (z : Wi), ys[j]? = some x → zs[j]? = some z → ∃ ps : List Pr, ps.Perm [z.1, z.2] ∧ HT N H x ps) → WsNm zs → ∃ ds, G0.DxAll H ys ds ∧ ds.length = ys.length ∧ ∀ d ∈ ds, Ni d 2 50000 := by
    intro ys
    induction ys with
    | nil => exact fun _ _ _ _ => ⟨[], .nil, rfl, by simp⟩
    | cons y ys ih =>
      intro zs hl hk ho
      match zs, hl with
      | z :: zs, hl =>
        obtain ⟨ds, d1, d2, d3⟩ := ih zs (by simpa using hl) (fun j x z' e1 e2 => hk (j + 1) x z' e1 e2) fun z' hz' => ho z' (List.mem_cons_of_mem _ hz')
        obtain ⟨ps, pm, t⟩ := hk 0 y z rfl rfl
        obtain ⟨d, g1, g2⟩ := ht_dx t (four_nm pm (ho z List.mem_cons_self)) (by rw [pm.length_eq]; show 2 ≤ 1000; decide)
        exact ⟨d :: ds, .cons g1 d1, by simp [d2], fun d' hd => (List.mem_cons.mp hd).elim (fun e => by rw [e]; exact g2) (d3 d')⟩
  obtain ⟨ds, d1, d2, d3⟩ := all xs ws l1 k nm
  have lw : ds.length * (50000 + 1) ≤ 1048576 := by
    rw [d2, l1]
    have := Nat.mul_le_mul_right 50001 l
    omega
  rcases items_at.mp e with h | h
  · obtain ⟨s1, s2, s3⟩ := (Ni.list d3).shown (by omega) lw
    exact ⟨a, _, rfl, .lst h d1, s1, s2, s3⟩
  · obtain ⟨s1, s2, s3⟩ := (Ni.tuple d3).shown (by omega) lw
    exact ⟨a, _, rfl, .tup h d1, s1, s2, s3⟩
theorem sum_rep3 (n : Nat) : (List.replicate n 3).sum = n * 3 := List.sum_replicate_nat ..
theorem ht_not {N : Addr → Prop} {H : Hp} {a : Addr} {xs : List V} {x : V} {ps : List Pr} (e : itemsOf H (.ref a) = some xs) (hx : x ∈ xs) (h : HT N H x ps) : HT (fun c => N c ∧ c ≠ a) H x ps := by
  obtain ⟨u, ys, rfl, e1, l1, nu, k⟩ := h
  have inner : ∀ {b : Addr} {y z : Str}, itemsOf H (.ref b) = some [.str y, .str z] → b ≠ a := fun {b y z} g q => by
    subst q
    rw [e] at g
    injection g with g
    rw [g] at hx
    simp at hx
  refine ⟨u, ys, rfl, e1, l1, ⟨nu, fun q => ?_⟩, fun j y q h1 h2 => ?_⟩
  · subst q
    rw [e] at e1
    injection e1 with e1
    rw [e1] at hx
    obtain ⟨j, hj⟩ := List.getElem?_of_mem hx
    have jl := (List.getElem?_eq_some_iff.mp hj).1
    obtain ⟨u', y, z, q, g, _⟩ := k j _ _ hj (List.getElem?_eq_getElem (by omega))
    cases q
    exact inner g rfl
  · obtain ⟨u', y', z', rfl, g1, g2, g3⟩ := k j y q h1 h2
    exact ⟨u', y', z', rfl, g1, g2, g3, inner g1⟩
theorem nd_hw {N : Addr → Prop} {H : Hp} {v : V} {ws : List Wi} {n L : Nat} (h : HW N H v ws) (l : ws.length ≤ L) (l2 : 2 ≤ L) : Nd H (n + 3) N L v (1 + 3 * ws.length) := by
  obtain ⟨a, xs, rfl, e, l1, na, k⟩ := h
  refine .inr ⟨a, xs, List.replicate xs.length 3, rfl, (items_at.mp e).elim (fun h => .inl ⟨h, na⟩) .inr, by omega, by rw [List.length_replicate], fun i x j e1 e2 => ?_, by rw [sum_rep3]; omega⟩
  have il := (List.getElem?_eq_some_iff.mp e1).1
  have ej : j = 3 := (List.mem_replicate.mp (List.mem_of_getElem? e2)).2
  subst ej
  obtain ⟨ps, pm, t⟩ := k i x _ e1 (List.getElem?_eq_getElem (by omega))
  have lp : ps.length = 2 := pm.length_eq
  have := nd_prs (n := n) (L := L) (ht_not e (List.mem_of_getElem? e1) t) (by omega) l2
  rw [lp] at this
  exact this
/-- told wishes -/
theorem nd_wis {N M : Addr → Prop} {H : Hp} {a : Addr} {vs : List V} {ws : List Wi} {n L : Nat} (ha : H a = some (.lst vs)) (h : WisAt N H vs ws) (na : M a) (l : ws.length ≤ L) (l2 : 2 ≤ L) : Nd H (n + 3) M L (.ref a) (1 + 3 * ws.length) := by
  refine .inr ⟨a, vs, List.replicate vs.length 3, rfl, .inl ⟨ha, na⟩, by rw [h.1]; exact l, by rw [List.length_replicate], fun i x j e1 e2 => ?_, by rw [sum_rep3, h.1]; omega⟩
  have il := (List.getElem?_eq_some_iff.mp e1).1
  have ej : j = 3 := (List.mem_replicate.mp (List.mem_of_getElem? e2)).2
  subst ej
  obtain ⟨t, rfl, u1, u2, g1, g2, g3, _⟩ := h.2 i x _ e1 (List.getElem?_eq_getElem (by rw [← h.1]; exact il))
  have two : ∀ {u : Addr} {y z : Str} {M' : Addr → Prop}, H u = some (.tup [.str y, .str z]) → Nd H (n + 1) M' L (.ref u) 1 := fun {u y z M'} g => .inr ⟨u, _, [0, 0], rfl, .inr g, by show 2 ≤ L; exact l2, rfl, fun i x j e1 e2 => by
    have hm := List.mem_of_getElem? e1
    simp only [List.mem_cons, List.not_mem_nil, or_false] at hm
    rcases hm with rfl | rfl
    · exact Nd.str _
    · exact Nd.str _, by decide⟩
  refine .inr ⟨t, _, [1, 1], rfl, .inr g1, by show 2 ≤ L; exact l2, rfl, fun i x j e1 e2 => ?_, by decide⟩
  match i, e1, e2 with
  | 0, e1, e2 =>
    cases e1
    cases e2
    exact two g2
  | 1, e1, e2 =>
    cases e1
    cases e2
    exact two g3
  | i + 2, e1, e2 => simp at e1
theorem sm_wi {C : Addr} {N N2 : Addr → Prop} {H : Hp} {a b : Addr} {z : Wi} {n : Nat} (h : WiN N H a z) (g : WiN N2 H b z) : SmN C (n + 3) (.ref a) (.ref b) H := by
  obtain ⟨u1, u2, h1, h2, h3, _⟩ := h
  obtain ⟨w1, w2, g1, g2, g3, _⟩ := g
  have two : ∀ {u w : Addr} {y z : Str}, H u = some (.tup [.str y, .str z]) → H w = some (.tup [.str y, .str z]) → SmN C (n + 2) (.ref u) (.ref w) H := fun {u w y z} e1 e2 => .inr (.inr (.inl ⟨u, w, _, _, rfl, rfl, .inr ⟨e1, e2⟩, rfl, by show 2 ≤ 2000; decide, fun i x y q1 q2 => by
    rw [q1] at q2
    cases q2
    have hm := List.mem_of_getElem? q1
    simp only [List.mem_cons, List.not_mem_nil, or_false] at hm
    rcases hm with rfl | rfl
    · exact .inl ⟨rfl, rfl⟩
    · exact .inl ⟨rfl, rfl⟩⟩))
  refine .inr (.inr (.inl ⟨a, b, _, _, rfl, rfl, .inr ⟨h1, g1⟩, rfl, by show 2 ≤ 2000; decide, fun i x y e1 e2 => ?_⟩))
  match i, e1, e2 with
  | 0, e1, e2 =>
    cases e1
    cases e2
    exact two h2 g2
  | 1, e1, e2 =>
    cases e1
    cases e2
    exact two h3 g3
  | i + 2, e1, e2 => simp at e1
theorem sm_wis {C : Addr} {N N2 : Addr → Prop} {H : Hp} {a b : Addr} {vs us : List V} {ws : List Wi} {n : Nat} (ha : H a = some (.lst vs)) (h : WisAt N H vs ws) (hb : H b = some (.lst us)) (g : WisAt N2 H us ws) (l : ws.length ≤ 2000) : SmN C (n + 4) (.ref a) (.ref b) H := by
  refine .inr (.inr (.inl ⟨a, b, _, _, rfl, rfl, .inl ⟨ha, hb⟩, by rw [h.1, g.1], by rw [h.1]; exact l, fun i x y e1 e2 => ?_⟩))
  have il := (List.getElem?_eq_some_iff.mp e1).1
  have ez := List.getElem?_eq_getElem (show i < ws.length by rw [← h.1]; exact il)
  obtain ⟨t, rfl, w1⟩ := h.2 i x _ e1 ez
  obtain ⟨t', rfl, w2⟩ := g.2 i y _ e2 ez
  exact sm_wi w1 w2
theorem sm_strs {C : Addr} {H : Hp} {a b : Addr} {ss : List Str} {n : Nat} (ha : H a = some (.lst (ss.map V.str))) (hb : H b = some (.lst (ss.map V.str))) (l : ss.length ≤ 2000) : SmN C (n + 2) (.ref a) (.ref b) H := by
  refine .inr (.inr (.inl ⟨a, b, _, _, rfl, rfl, .inl ⟨ha, hb⟩, rfl, by rw [List.length_map]; exact l, fun i x y e1 e2 => ?_⟩))
  rw [e1] at e2
  cases e2
  obtain ⟨z, _, rfl⟩ := List.mem_map.mp (List.mem_of_getElem? e1)
  exact .inl ⟨rfl, rfl⟩
end E1

set_option Elab.async false
set_option linter.all false
set_option maxRecDepth 100000
set_option maxHeartbeats 8000000
/-! Notices made, and compared. -/
namespace E1
open PySem PySem.Spec PyProof.Rows L2 G0
section
variable {N M N' M' : Addr → Prop} {CN CB : Addr} {H H1 : Hp} {a b x y : Addr} {pl pl' : List Str} {ts ts' : List Pr} {rm rm' : List Str} {ws ws' : List Wi} {E : XK} {Q : VK}
theorem NtAt.kn (A : NtAt N M CN CB H a x pl ts rm ws) : ∃ dx fs, H a = some (.ins CN dx fs) := by
  obtain ⟨dx, aW, wv, h1, _⟩ := A.n
  exact ⟨dx, _, h1⟩
theorem NtAt.frame (A : NtAt N M CN CB H a x pl ts rm ws) (S : ∀ c o, N c → H c = some o → H1 c = some o) (S' : ∀ c o, M c → H c = some o → H1 c = some o) : NtAt N M CN CB H1 a x pl ts rm ws := ⟨A.n.frame S, A.b.frame S', A.nm⟩
theorem NtAt.same (A : NtAt N M CN CB H a x pl ts rm ws) (S : Same H H1) : NtAt N M CN CB H1 a x pl ts rm ws := A.frame (fun c o _ e => S c o e) (fun c o _ e => S c o e)
theorem NtAt.weak (A : NtAt N M CN CB H a x pl ts rm ws) (k : ∀ c, N c → N' c) (k' : ∀ c, M c → M' c) : NtAt N' M' CN CB H a x pl ts rm ws := ⟨A.n.weak k, A.b.weak k', A.nm⟩
theorem NtAt.all (A : NtAt N M CN CB H a x pl ts rm ws) : NtAt (fun _ => True) (fun _ => True) CN CB H a x pl ts rm ws := A.weak (fun _ _ => trivial) (fun _ _ => trivial)
theorem NoteAt.there (A : NoteAt N CN H a x ws) : NoteAt (fun c => N c ∧ ∃ o, H c = some o) CN H a x ws := by
  obtain ⟨dx, aW, wv, h1, h2, h3, n1, n2⟩ := A
  refine ⟨dx, aW, wv, h1, h2, ⟨h3.1, fun i v z e1 e2 => ?_⟩, ⟨n1, _, h1⟩, ⟨n2, _, h2⟩⟩
  obtain ⟨t, e, u1, u2, q1, q2, q3, m1, m2, m3⟩ := h3.2 i v z e1 e2
  exact ⟨t, e, u1, u2, q1, q2, q3, ⟨m1, _, q1⟩, ⟨m2, _, q2⟩, ⟨m3, _, q3⟩⟩
theorem NtAt.there (A : NtAt N M CN CB H a x pl ts rm ws) : NtAt (fun c => N c ∧ ∃ o, H c = some o) (fun c => M c ∧ ∃ o, H c = some o) CN CB H a x pl ts rm ws := ⟨A.n.there, A.b.there, A.nm⟩
theorem rneq_same (A : NtAt N M CN CB H a x pl ts rm ws) (B : NtAt N' M' CN CB H b y pl ts rm ws) (q : Q (.bl true) H) : rBEq CN (spNEq CN CB) E (.ref a) (.ref b) H Q := by
  obtain ⟨dx, fs, h⟩ := A.kn
  obtain ⟨dy, gs, h'⟩ := B.kn
  refine ⟨a, dx, fs, rfl, h, .own h', a, .ref b, x, pl, ts, rm, ws, rfl, A.all, .inr ⟨b, y, pl, ts, rm, ws, rfl, B.all, ?_⟩⟩
  simp only [decide_true, Bool.and_self]
  exact q
theorem rneq_dif (A : NtAt N M CN CB H a x pl ts rm ws) (B : NtAt N' M' CN CB H b y pl' ts' rm' ws') (ne : ¬ (pl = pl' ∧ ts = ts' ∧ rm = rm' ∧ ws = ws')) (q : Q (.bl false) H) : rBEq CN (spNEq CN CB) E (.ref a) (.ref b) H Q := by
  obtain ⟨dx, fs, h⟩ := A.kn
  obtain ⟨dy, gs, h'⟩ := B.kn
  have e : ((decide (pl = pl') && (decide (ts = ts') && decide (rm = rm'))) && decide (ws = ws')) = false := by
    rw [Bool.eq_false_iff]
    intro z
    simp only [Bool.and_eq_true, decide_eq_true_eq] at z
    exact ne ⟨z.1.1, z.1.2.1, z.1.2.2, z.2⟩
  refine ⟨a, dx, fs, rfl, h, .own h', a, .ref b, x, pl, ts, rm, ws, rfl, A.all, .inr ⟨b, y, pl', ts', rm', ws', rfl, B.all, ?_⟩⟩
  rw [e]
  exact q
theorem rneq_oth {v : V} (A : NtAt N M CN CB H a x pl ts rm ws) (k : Kn CN H v) (k' : Kn CB H v) (q : Q (.bl false) H) : rBEq CN (spNEq CN CB) E (.ref a) v H Q := by
  obtain ⟨dx, fs, h⟩ := A.kn
  exact ⟨a, dx, fs, rfl, h, k, a, v, x, pl, ts, rm, ws, rfl, A.all, .inl ⟨k', q⟩⟩
theorem rneq_board {N2 : Addr → Prop} (A : NtAt N M CN CB H a x pl ts rm ws) (B : BoardAt N2 CB H y pl' ts' rm') (q : Q (.bl false) H) : rBEqO CN CB (spNEq CN CB) E (.ref a) (.ref y) H Q := by
  obtain ⟨dx, fs, h⟩ := A.kn
  obtain ⟨dy, gs, h'⟩ := B.kn
  exact ⟨a, dx, fs, y, dy, gs, rfl, rfl, h, h', a, .ref y, x, pl, ts, rm, ws, rfl, A.all, .inl ⟨.own h', q⟩⟩
theorem rnne_same (A : NtAt N M CN CB H a x pl ts rm ws) (B : NtAt N' M' CN CB H b y pl ts rm ws) (q : Q (.bl false) H) : rBNe CN (spNEq CN CB) E (.ref a) (.ref b) H Q := by
  obtain ⟨dx, fs, h⟩ := A.kn
  obtain ⟨dy, gs, h'⟩ := B.kn
  refine ⟨a, dx, fs, b, rfl, rfl, h, .own h', a, .ref b, x, pl, ts, rm, ws, rfl, A.all, .inr ⟨b, y, pl, ts, rm, ws, rfl, B.all, _, rfl, ?_⟩⟩
  simp only [decide_true, Bool.and_self]
  exact q
theorem rnne_dif (A : NtAt N M CN CB H a x pl ts rm ws) (B : NtAt N' M' CN CB H b y pl' ts' rm' ws') (ne : ¬ (pl = pl' ∧ ts = ts' ∧ rm = rm' ∧ ws = ws')) (q : Q (.bl true) H) : rBNe CN (spNEq CN CB) E (.ref a) (.ref b) H Q := by
  obtain ⟨dx, fs, h⟩ := A.kn
  obtain ⟨dy, gs, h'⟩ := B.kn
  have e : ((decide (pl = pl') && (decide (ts = ts') && decide (rm = rm'))) && decide (ws = ws')) = false := by
    rw [Bool.eq_false_iff]
    intro z
    simp only [Bool.and_eq_true, decide_eq_true_eq] at z
    exact ne ⟨z.1.1, z.1.2.1, z.1.2.2, z.2⟩
  refine ⟨a, dx, fs, b, rfl, rfl, h, .own h', a, .ref b, x, pl, ts, rm, ws, rfl, A.all, .inr ⟨b, y, pl', ts', rm', ws', rfl, B.all, _, rfl, ?_⟩⟩
  rw [e]
  exact q
end
/-- told wishes, as they can be passed -/
theorem wis_hw {N : Addr → Prop} {H : Hp} {d : Addr} {vs : List V} {ws : List Wi} {pl : List Str} (h : H d = some (.lst vs)) (nd : N d) (w : WisAt N H vs ws) (ok : ∀ z ∈ ws, TwOk pl z) : HW N H (.ref d) ws := by
  refine ⟨d, vs, rfl, items_at.mpr (.inl h), w.1, nd, fun j x z e1 e2 => ?_⟩
  obtain ⟨t, rfl, u1, u2, q1, q2, q3, m1, m2, m3⟩ := w.2 j x z e1 e2
  have o := ok z (List.mem_of_getElem? e2)
  refine ⟨[z.1, z.2], .refl _, t, [.ref u1, .ref u2], rfl, items_at.mpr (.inr q1), rfl, m1, fun i y q k1 k2 => ?_⟩
  match i, k1, k2 with
  | 0, k1, k2 =>
    cases k1
    cases k2
    exact ⟨u1, _, _, rfl, items_at.mpr (.inr q2), tp_self o.a, m2⟩
  | 1, k1, k2 =>
    cases k1
    cases k2
    exact ⟨u2, _, _, rfl, items_at.mpr (.inr q3), tp_self o.b, m3⟩
  | i + 2, k1, k2 => simp at k1
theorem WisAt.drop {N : Addr → Prop} {H : Hp} {vs : List V} {ws : List Wi} (h : WisAt N H vs ws) (k : Nat) : WisAt N H (vs.drop k) (ws.drop k) := ⟨by rw [List.length_drop, List.length_drop, h.1], fun i v q e1 e2 => by
  rw [List.getElem?_drop] at e1 e2
  exact h.2 _ v q e1 e2⟩
theorem WisAt.take {N : Addr → Prop} {H : Hp} {vs : List V} {ws : List Wi} (h : WisAt N H vs ws) (k : Nat) : WisAt N H (vs.take k) (ws.take k) := ⟨by rw [List.length_take, List.length_take, h.1], fun i v q e1 e2 => by
  rw [List.getElem?_take] at e1 e2
  split at e1
  · rename_i hk
    rw [if_pos hk] at e2
    exact h.2 _ v q e1 e2
  · cases e1⟩
theorem wrot_ne {ws : List Wi} (nd : ws.Nodup) (h : 1 < ws.length) : ws ≠ ws.drop 1 ++ ws.take 1 := by
  match ws, nd, h with
  | a :: b :: r, nd, _ =>
    intro e
    have e1 : a = b := by
      have := congrArg List.head? e
      injection this
    rw [e1] at nd
    exact (List.nodup_cons.mp nd).1 List.mem_cons_self
theorem wrot_perm (ws : List Wi) : (ws.drop 1 ++ ws.take 1).Perm ws := List.perm_append_comm.trans (by rw [List.take_append_drop])
theorem TwOk.mono {pl pl' : List Str} {z : Wi} (o : TwOk pl z) (k : ∀ s ∈ pl, s ∈ pl') : TwOk pl' z := ⟨o.a, o.b, o.c, o.nd, fun s hs => k s (o.inn s hs)⟩
theorem tw_nm {pl : List Str} {ws : List Wi} (nm : ∀ s ∈ pl, nameB s = true) (ok : ∀ z ∈ ws, TwOk pl z) : WsNm ws := fun z hz s hs => nm s ((ok z hz).inn s hs)
/-- Notice(wishes=w, board=b) -/
def gK2 {α : Type} (us ws : List α) : List α := match us, ws with
  | [u], [w, b] => [u, b, w]
  | _, _ => us ++ ws
section
variable {P : Program} {w : World} {K : PySem.W.Frag} {mg : Str → Option Value} {base : Heap}
theorem kb_n0 {B : BoardD K mg} (D : NoteD K mg B) : KBn K (D.d 0) ["self", "board", "wishes"] 1 ["wishes", "board"] (gK2 (α := Value)) (gK2 (α := V)) := by
  obtain ⟨oc, od, dV, kV, doc, pm, an, cdv, ct, osl, e, lk, hcd, hD, hK⟩ := D.F0.ex
  rw [e]
  refine ⟨fun s us ws _ l1 l2 => ?_, fun {vs us zs ws} r1 r2 => ?_⟩
  · match us, l1, ws, l2 with
    | [u], _, [w, b], _ =>
      rcases hD with ⟨_, rfl⟩ | ⟨e, _⟩
      · exact .of_eq rfl
      · exact absurd rfl e
  · have h := r1.append r2
    unfold gK2
    cases r1 with
    | nil => exact h
    | cons a1 r1 =>
      cases r1 with
      | cons => exact h
      | nil =>
        cases r2 with
        | nil => exact h
        | cons b1 r2 =>
          cases r2 with
          | nil => exact h
          | cons b2 r2 =>
            cases r2 with
            | nil => exact .cons a1 (.cons b2 (.cons b1 .nil))
            | cons => exact h
/-- a notice is made -/
theorem ninit_mk {B : BoardD K mg} {D : NoteD K mg B} {N N2 : Addr → Prop} {H1 : Hp} {a dx x : Addr} {vw : V} {pl : List Str} {ts : List Pr} {rm : List Str} {ws : List Wi} {R : VK} {E : XK} (hB : BoardAt N B.C H1 x pl ts rm) (hw : HW N2 H1 vw ws) (l : ws.length ≤ 900) (nd : ws.Nodup) (ok : ∀ z ∈ ws, TwOk pl z)
    (nx : H1 a = none) (ndx : H1 dx = none) (ne : dx ≠ a) (q : ∀ Hm, NoteAt (fun c => H1 c = none) D.C Hm a x ws → Same H1 Hm → R .non Hm) : spNInit D [.ref a, .ref x, vw] (upd (upd H1 dx (.own a)) a (.ins D.C dx [])) R E := by
  have Sx : Same H1 (upd (upd H1 dx (.own a)) a (.ins D.C dx [])) := (new_same ndx).trans (new_same (by rw [upd_ne ne.symm]; exact nx))
  refine ⟨a, dx, .ref x, vw, rfl, upd_same, .inr ⟨x, pl, ts, rm, rfl, (hB.same Sx).weak fun _ _ => trivial, .inr ⟨ws, (hw.frame fun c o _ e => Sx _ _ e).good l nd ok, fun H' n keep => q H' (n.weak fun c hc => ?_) (Same.of fun b o e => keep b o (fun q' => by rw [q', nx] at e; cases e) (Sx _ _ e))⟩⟩⟩
  rcases hc with rfl | hc
  · exact nx
  · exact Sx.free hc
end
theorem HW.there {N : Addr → Prop} {H : Hp} {v : V} {ws : List Wi} (h : HW N H v ws) : HW (fun c => N c ∧ ∃ o, H c = some o) H v ws := by
  obtain ⟨a, xs, rfl, e, l1, na, k⟩ := h
  refine ⟨a, xs, rfl, e, l1, ⟨na, (items_at.mp e).elim (fun h => ⟨_, h⟩) fun h => ⟨_, h⟩⟩, fun j x z e1 e2 => ?_⟩
  obtain ⟨ps, pm, b, ys, rfl, f, l2, nb, k2⟩ := k j x z e1 e2
  refine ⟨ps, pm, b, ys, rfl, f, l2, ⟨nb, (items_at.mp f).elim (fun h => ⟨_, h⟩) fun h => ⟨_, h⟩⟩, fun i y q e3 e4 => ?_⟩
  obtain ⟨u, s, t, rfl, g1, g2, g3⟩ := k2 i y q e3 e4
  exact ⟨u, s, t, rfl, g1, g2, g3, (items_at.mp g1).elim (fun h => ⟨_, h⟩) fun h => ⟨_, h⟩⟩
theorem eqv_wnil (ws : List Wi) : PyData.eqv (wsD ws) (.list []) = decide (ws = []) := by
  have := eqv_ws ws []
  exact this
/-- a notice, its twin, and a list O of notices unlike it -/
structure UN (CN CB : Addr) (H : Hp) (p l O a x b y : Addr) (m : Nat) (pl : List Str) (ts : List Pr) (rm : List Str) (ws : List Wi) (k : Nat) (bs : List Addr) (H' : Hp) : Prop where
  o : H' O = some (.lst (bs.map V.ref))
  len : bs.length ≤ k
  bd : ∀ c ∈ bs, ∃ y' pl' ts' rm' ws', NtAt (fun d => H d = none ∧ d ≠ O) (fun d => H d = none ∧ d ≠ O) CN CB H' c y' pl' ts' rm' ws' ∧ ¬ (pl = pl' ∧ ts = ts' ∧ rm = rm' ∧ ws = ws')
  me : NtAt (fun d => H d = none ∧ d ≠ O) (fun d => H d = none ∧ d ≠ O) CN CB H' a x pl ts rm ws
  tw : NtAt (fun d => H d = none ∧ d ≠ O) (fun d => H d = none ∧ d ≠ O) CN CB H' b y pl ts rm ws
  F : Fr H p l m H'
  fO : H O = none
section
variable {CN CB : Addr} {H H1 H2 : Hp} {p l O a x b y : Addr} {m : Nat} {pl : List Str} {ts : List Pr} {rm : List Str} {ws : List Wi} {k k2 : Nat} {bs : List Addr}
theorem UN.same (U : UN CN CB H p l O a x b y m pl ts rm ws k bs H1) (S : Same H1 H2) : UN CN CB H p l O a x b y m pl ts rm ws k bs H2 :=
  ⟨S _ _ U.o, U.len, fun c hc => by
    obtain ⟨y', pl', ts', rm', ws', h, n⟩ := U.bd c hc
    exact ⟨y', pl', ts', rm', ws', h.same S, n⟩, U.me.same S, U.tw.same S, U.F.same S, U.fO⟩
theorem UN.mono (U : UN CN CB H p l O a x b y m pl ts rm ws k bs H1) (h : k ≤ k2) : UN CN CB H p l O a x b y m pl ts rm ws k2 bs H1 := ⟨U.o, Nat.le_trans U.len h, U.bd, U.me, U.tw, U.F, U.fO⟩
theorem UN.ext {cs : List Addr} (U : UN CN CB H p l O a x b y m pl ts rm ws k bs H1) (h : ∀ c ∈ cs, ∃ y' pl' ts' rm' ws', NtAt (fun d => H d = none ∧ d ≠ O) (fun d => H d = none ∧ d ≠ O) CN CB H1 c y' pl' ts' rm' ws' ∧ ¬ (pl = pl' ∧ ts = ts' ∧ rm = rm' ∧ ws = ws')) : UN CN CB H p l O a x b y m pl ts rm ws (k + cs.length) (bs ++ cs) (upd H1 O (.lst (bs.map V.ref ++ cs.map V.ref))) := by
  have fr : ∀ {c y' pl' ts' rm' ws'}, NtAt (fun d => H d = none ∧ d ≠ O) (fun d => H d = none ∧ d ≠ O) CN CB H1 c y' pl' ts' rm' ws' → NtAt (fun d => H d = none ∧ d ≠ O) (fun d => H d = none ∧ d ≠ O) CN CB (upd H1 O (.lst (bs.map V.ref ++ cs.map V.ref))) c y' pl' ts' rm' ws' := fun h => h.frame (fun d o hd e => by
    rw [upd_ne hd.2]
    exact e) fun d o hd e => by
    rw [upd_ne hd.2]
    exact e
  refine ⟨by rw [upd_same, List.map_append], by rw [List.length_append]; exact Nat.add_le_add_right U.len _, fun c hc => ?_, fr U.me, fr U.tw, U.F.put U.fO, U.fO⟩
  rcases List.mem_append.mp hc with hc | hc
  · obtain ⟨y', pl', ts', rm', ws', h', n'⟩ := U.bd c hc
    exact ⟨y', pl', ts', rm', ws', fr h', n'⟩
  · obtain ⟨y', pl', ts', rm', ws', h', n'⟩ := h c hc
    exact ⟨y', pl', ts', rm', ws', fr h', n'⟩
theorem UN.new (U : UN CN CB H p l O a x b y m pl ts rm ws k bs H1) {c : Addr} (n : H1 c = none) : H c = none ∧ c ≠ O := ⟨U.F.free n, fun h => by rw [h, U.o] at n; cases n⟩
end
end E1


set_option Elab.async false
set_option linter.all false
set_option maxRecDepth 100000
set_option maxHeartbeats 16000000
/-! What is told is right. -/
namespace E1
open PySem PySem.Spec PyProof.Rows L2 G0
abbrev N_toldR : List Str := ["_law_stream", "_law_raw", "_law_due", "_law_base", "_law_handed", "_law_wish", "_law_was", "_law_made", "_law_twin", "_law_others", "_law_other"]
theorem sc_toldR : FnScope N_toldR ["_law_stream", "_law_raw", "_law_due"] (defScope (topS 52)) := ⟨rfl, rfl, rfl, by decide +kernel, rfl, by decide +kernel, by decide +kernel⟩
def spToldR : Sp := fun vs H Q _ => ∃ (p l q d : Addr) (n : Nat) (N : Addr → Prop) (pl : List Str) (ts : List Pr) (rm : List Str) (wv : List V) (ws : List Wi), vs = [.ref p, .ref q, .ref d] ∧ Stm H p l n ∧ n < 600000 ∧ RawAt N H q pl ts rm ∧ (∀ c, N c → c ≠ p ∧ c ≠ l) ∧ RawOk pl ts rm ∧ H d = some (.lst wv) ∧ N d ∧ WisAt N H wv ws ∧ ws.Nodup ∧ (∀ z ∈ ws, TwOk pl z) ∧ ws.length ≤ 5 ∧
  ∀ H', Fr H p l (n + 9000) H' → Q (.bl true) H'
section
variable {P : Program} {w : World} {K : PySem.W.Frag} {mg : Str → Option Value} {base : Heap}
theorem bToldR (Z : LawD K mg) : Binds K (Z.d 52) ["_law_stream", "_law_raw", "_law_due"] [] := (Z.F 52 (by decide)).binds fun _ _ _ _ _ _ us hl => match us, hl with | [_, _, _], _ => rfl
theorem ok_toldR (Z : LawD K mg) (D : NoteD K mg Z.B) {os : Obj} (hsys : K.lookup sysModules = some os) : FnOkG P w K mg base 8 (Z.f 52) (Z.d 52) ["_law_stream", "_law_raw", "_law_due"] spToldR := by
  have GL : FnOk P w K mg base CX0 5 (Z.f 50) (Z.d 50) ["_law_stream", "_law_thing"] (spLoose Z.B.C 3) := ok_loose Z 3
  have GLW : FnOk P w K mg base CX0 5 (Z.f 43) (Z.d 43) ["_law_stream", "_law_wish"] spLWish := ok_lwish Z
  have GS : FnOk P w K mg base CX0 6 (Z.f 49) (Z.d 49) ["_law_found", "_law_due"] (spSame (SmN Z.B.C 5)) := ok_same Z 5
  have GP : FnOk P w K mg base CX0 5 (Z.f 44) (Z.d 44) ["_law_thing"] (spSpoil 4) := ok_spoil Z 4
  have GW : FnOk P w K mg base (L2.CX P w) 6 (Z.f 40) (Z.d 40) ["_law_stream", "_law_raw"] (spMade Z.B.C) := ok_a_made Z
  have GI : FnOk P w K mg base (L2.CX P w) 4 (Z.B.f 0) (Z.B.d 0) ["self", "places", "ties", "rim"] (spInit K Z.B) := ok_init Z.B Z.n Z.t
  have GN0 : FnOk P w K mg base (L2.CX P w) 5 (D.f 0) (D.d 0) ["self", "board", "wishes"] (spNInit D) := ok_n0 Z D
  have GB : FnOk P w K mg base CX0 1 (Z.B.f 1) (Z.B.d 1) ["self", "other"] (spBEq Z.B.C) := ok_beq Z.B Z.t
  have GB2 : FnOk P w K mg base CX0 1 (Z.B.f 2) (Z.B.d 2) ["self"] (spPlaces Z.B.C) := ok_places Z.B Z.t
  have GB4 : FnOk P w K mg base CX0 1 (Z.B.f 4) (Z.B.d 4) ["self"] (spRim Z.B.C) := ok_rim Z.B Z.t
  have G1 : FnOk P w K mg base CX0 2 (D.f 1) (D.d 1) ["self", "other"] (spNEq D.C Z.B.C) := ok_n1 Z D
  have G2 : FnOk P w K mg base CX0 1 (D.f 2) (D.d 2) ["self"] (spNBoard D.C) := ok_n2 D
  have G3 : FnOk P w K mg base CX0 1 (D.f 3) (D.d 3) ["self"] (spNWish D.C) := ok_n3 Z D
  obtain ⟨oc, od, kV, doc, pm, an, cdv, ct, osl, e, lk, hcd⟩ := (Z.F 52 (by decide)).ex
  rw [e] at lk ⊢
  refine fnG_of lk hcd sc_toldR (fun vs H Q E h => ?_) (fun A outer s H vs Q E hg0 hr h => ⟨_, PSs.nox (pss_cons (ps_par (i := 3) (j := 4) rfl sc_toldR.nd rfl rfl (by decide) rfl rfl (pa_cons (pe_call GW (hr.mono (by decide)) (by rfl) (Z.g 40 (by decide)) (Z.F 40 (by decide)).kp (bMade Z) .nil passL (pa_cons (pv 0) (pa_cons (pv 1) pa_nil))) (pa_cons (pe_call GL (hr.mono (by decide)) (by rfl) (Z.g 50 (by decide)) (Z.F 50 (by decide)).kp (bLoose Z) .nil pass0 (pa_cons (pv 0) (pa_cons (pe_lc (own := [("_law_wish", 5)]) (tt := tYes) (te := tCall spLWish [] L2.E0 (tCons (tVar 0) (tCons (tVar 5) tNil))) rfl sc_toldR.nd (pi_list (pv 2)) (blkOk_by (own := [("_law_wish", 5)]) (N := N_toldR) (sc := defScope (topS 52)) (by decide +kernel)) (fun _ _ _ _ _ => (pg_name (i := 5) sc_toldR.nd rfl (Or.inl rfl))) (fun _ _ _ _ _ => pts_nil) (fun _ _ _ _ _ => (pe_call GLW (hr.mono (by decide)) (by rfl) (Z.g 43 (by decide)) (Z.F 43 (by decide)).kp (bLWish Z) .nil pass0 (pa_cons (pv 0) (pa_cons (pv 5) pa_nil))))) pa_nil))) pa_nil)) (by rfl))
  (pss_cons (ps_asg (pe_tup (pa_cons (pe_callB (call_repD hsys (deeper_g hg0) hr.units) (by rfl) (Z.free "repr" (by decide)) (by decide +kernel) (pa_cons (pv 4) pa_nil)) (pa_cons (pe_make0K D.M0 GN0 (hr.mono (by decide)) (by rfl) D.g (kb_n0 D) passL (pk_cons (pv 4) (pk_cons (pv 3) pk_nil))) pa_nil))) (by exact (pg_tup rfl (pgs_cons (pg_name (i := 6) sc_toldR.nd rfl (Or.inl rfl)) (pgs_cons (pg_name (i := 7) sc_toldR.nd rfl (Or.inr rfl)) pgs_nil)))))
  (pss_cons (ps_if (PW.pt (pw_or (pt_not (pt_val (pe_call GS (hr.mono (by decide)) (by rfl) (Z.g 49 (by decide)) (Z.F 49 (by decide)).kp (bSame Z) .nil pass0 (pa_cons (pe_meth0 (pv 7) D.O.cl D.M3 G3 (hr.mono (by decide)) (b_n3 D) .nil pass0) (pa_cons (pv 2) pa_nil))))) (pw_or (pt_not (pt_cmpR (op_beq GB (hr.mono (by decide)) Z.B.eqA Z.B.eqF (b_m1 Z.B) pass0 Z.B.nf) (pe_meth0 (pv 7) D.O.cl D.M2 G2 (hr.mono (by decide)) (b_n2 D) .nil pass0) (pv 3) (nomark _))) (pw_or1 (pt_cmpR op_ne (pe_callB (call_repD hsys (deeper_g hg0) hr.units) (by rfl) (Z.free "repr" (by decide)) (by decide +kernel) (pa_cons (pv 4) pa_nil)) (pv 6) (nomark _)))))) (pss_one (ps_ret pe_bl)) pss_nil)
  (pss_cons (ps_expr (pe_call GP (hr.mono (by decide)) (by rfl) (Z.g 44 (by decide)) (Z.F 44 (by decide)).kp (bSpoil Z) .nil pass0 (pa_cons (pv 4) pa_nil)))
  (pss_cons (ps_expr (pe_call GP (hr.mono (by decide)) (by rfl) (Z.g 44 (by decide)) (Z.F 44 (by decide)).kp (bSpoil Z) .nil pass0 (pa_cons (pe_lst (pa_cons (pe_meth0 (pv 7) D.O.cl D.M3 G3 (hr.mono (by decide)) (b_n3 D) .nil pass0) (pa_cons (pe_meth0 (pe_meth0 (pv 7) D.O.cl D.M2 G2 (hr.mono (by decide)) (b_n2 D) .nil pass0) Z.B.O.cl Z.B.M2 GB2 (hr.mono (by decide)) (b_m2 Z.B) .nil pass0) (pa_cons (pe_meth0 (pe_meth0 (pv 7) D.O.cl D.M2 G2 (hr.mono (by decide)) (b_n2 D) .nil pass0) Z.B.O.cl Z.B.M4 GB4 (hr.mono (by decide)) (b_m4 Z.B) .nil pass0) pa_nil)))) pa_nil)))
  (pss_cons (ps_if (pt_not (pt_val (pe_call GS (hr.mono (by decide)) (by rfl) (Z.g 49 (by decide)) (Z.F 49 (by decide)).kp (bSame Z) .nil pass0 (pa_cons (pe_lst (pa_cons (pe_meth0 (pv 7) D.O.cl D.M3 G3 (hr.mono (by decide)) (b_n3 D) .nil pass0) (pa_cons (pe_meth0 (pe_meth0 (pv 7) D.O.cl D.M2 G2 (hr.mono (by decide)) (b_n2 D) .nil pass0) Z.B.O.cl Z.B.M2 GB2 (hr.mono (by decide)) (b_m2 Z.B) .nil pass0) pa_nil))) (pa_cons (pe_lst (pa_cons (pv 2) (pa_cons (pe_callB cr_sortQ (by rfl) Z.t.sorted boot_sorted (pa_cons (pe_ix ix_tup (pv 1) pe_int (fun _ _ => rfl)) pa_nil)) pa_nil))) pa_nil))))) (pss_one (ps_ret pe_bl)) pss_nil)
  (pss_cons (ps_set (i := 8) sc_toldR.nd rfl (Or.inl rfl) (pe_make D.M0 GN0 (hr.mono (by decide)) (by rfl) D.g (b_n0 D) .nil passL (pa_cons (pe_call GW (hr.mono (by decide)) (by rfl) (Z.g 40 (by decide)) (Z.F 40 (by decide)).kp (bMade Z) .nil passL (pa_cons (pv 0) (pa_cons (pv 1) pa_nil))) (pa_cons (pv 2) pa_nil))))
  (pss_cons (ps_set (i := 9) sc_toldR.nd rfl (Or.inl rfl) (pe_lst (pa_cons (pe_make D.M0 GN0 (hr.mono (by decide)) (by rfl) D.g (b_n0 D) .nil passL (pa_cons (pe_make Z.B.M0 GI (hr.mono (by decide)) (by rfl) Z.B.g (bInit Z.B) .nil passL (pa_cons (pe_op op_cat (pe_ix ix_tup (pv 1) pe_int (fun _ _ => rfl)) (pe_lst (pa_cons pe_str pa_nil))) (pa_cons (pe_ix ix_tup (pv 1) pe_int (fun _ _ => rfl)) (pa_cons (pe_ix ix_tup (pv 1) pe_int (fun _ _ => rfl)) pa_nil)))) (pa_cons (pv 2) pa_nil))) pa_nil)))
  (pss_cons (ps_expr (pe_bm PySem.F.plainAttrs_list PySem.F.slot_list_extend PySem.F.type_list_extend mt_extend (pv 9) (pa_cons (pe_ifExp (pt_cmpR (op_neD hr.units) (pv 2) (pe_lst pa_nil) (nomark _)) (pe_lst (pa_cons (pe_make D.M0 GN0 (hr.mono (by decide)) (by rfl) D.g (b_n0 D) .nil passL (pa_cons (pv 3) (pa_cons (pe_slice sl_list (pv 2) (po_some pe_int) po_none) pa_nil))) pa_nil)) (pe_lst pa_nil)) pa_nil)))
  (pss_cons (ps_expr (pe_bm PySem.F.plainAttrs_list PySem.F.slot_list_extend PySem.F.type_list_extend mt_extend (pv 9) (pa_cons (pe_ifExp (pt_cmpR op_gt (pe_callB call_len_seq (by rfl) Z.t.len PySem.boot_len (pa_cons (pv 2) pa_nil)) pe_int (nomark _)) (pe_lst (pa_cons (pe_make D.M0 GN0 (hr.mono (by decide)) (by rfl) D.g (b_n0 D) .nil passL (pa_cons (pv 3) (pa_cons (pe_op op_cat (pe_slice sl_list (pv 2) (po_some pe_int) po_none) (pe_slice sl_list (pv 2) po_none (po_some pe_int))) pa_nil))) pa_nil)) (pe_lst pa_nil)) pa_nil)))
  (pss_cons (ps_if (PW.pt (pw_or (pt_not (pt_cmpR (op_beq G1 (hr.mono (by decide)) D.eqA D.eqF (b_n1 D) pass0 D.nf) (pv 7) (pv 8) (nomark _))) (pw_or (pt_cmpR (op_bne G1 (hr.mono (by decide)) (b_n1 D) pass0 D.ne D.nf) (pv 7) (pv 8) (nomark _)) (pw_or (pt_cmpR (op_beqO G1 (hr.mono (by decide)) D.eqA D.eqF (b_n1 D) pass0 D.nfB) (pv 7) (pv 3) (nomark _)) (pw_or1 (pt_cmpR (op_beq G1 (hr.mono (by decide)) D.eqA D.eqF (b_n1 D) pass0 D.nf) (pv 7) (pv 2) (nomark _))))))) (pss_one (ps_ret pe_bl)) pss_nil)
  (pss_one (ps_ret (pe_not (pe_callB (cr_any rfl) (by rfl) (Z.free "any" (by decide)) (by decide +kernel) (pa_cons (pe_lc (own := [("_law_other", 10)]) (tt := tYes) (te := tOrV (tOp (rBEq D.C (spNEq D.C Z.B.C) L2.E0) (tVar 7) (tVar 10)) (tNotV (tOp (rBNe D.C (spNEq D.C Z.B.C) L2.E0) (tVar 7) (tVar 10)))) rfl sc_toldR.nd (pi_list (pv 9)) (blkOk_by (own := [("_law_other", 10)]) (N := N_toldR) (sc := defScope (topS 52)) (by decide +kernel)) (fun _ _ _ _ _ => (pg_name (i := 10) sc_toldR.nd rfl (Or.inl rfl))) (fun _ _ _ _ _ => pts_nil) (fun _ _ _ _ _ => (pe_or (pe_cmpR (op_beq G1 (hr.mono (by decide)) D.eqA D.eqF (b_n1 D) pass0 D.nf) (pv 7) (pv 10) (nomark _)) (pe_one (pe_not (pe_cmpR (op_bne G1 (hr.mono (by decide)) (b_n1 D) pass0 D.ne D.nf) (pv 7) (pv 10) (nomark _))))))) pa_nil)))))))))))))))), ?_⟩)
  · obtain ⟨p, l, q, d, n, N, pl, ts, rm, wv, ws, rfl, _⟩ := h
    rfl
  · obtain ⟨p, l, q, d, n, N, pl, ts, rm, wv, ws, rfl, S, hn, raw0, hN, ok, hd0, nd0, wi0, wnd, wok, wlen, k⟩ := h
    obtain ⟨aP, aT, aR, tv, g1, g2, g3, g4, g5, nq, nP, nT, nR, nt⟩ := id raw0
    have lts := ok.ts.len ok.len
    have lpl := ok.len
    have nmP : ∀ z ∈ pl, nameB z = true := fun z hz => ok.name hz
    have sz : 5000 < sizeLine := by decide
    have wokS : ∀ z ∈ ws, TwOk (sortS pl) z := fun z hz => (wok z hz).mono fun s hs => sortS_mem.mpr hs
    have wnm : WsNm ws := tw_nm nmP wok
    have lwv : wv.length = ws.length := wi0.1
    refine ⟨_, rfl, _, rfl, p, l, q, n, N, pl, ts, rm, rfl, S, by omega, raw0, hN, ok, fun x H1 hB1 F1 => ⟨_, rfl, _, rfl, d, rfl, ⟨_, SqL.of (F1.but _ _ hd0 (hN d nd0).1 (hN d nd0).2)⟩, fun D0 hD => ?_⟩⟩
    have hd1 := F1.but _ _ hd0 (hN d nd0).1 (hN d nd0).2
    have wi1 : WisAt N H1 wv ws := wi0.frame fun c o hc e => F1.but _ _ e (hN c hc).1 (hN c hc).2
    have F1D := F1.st.fr.put hD (o := .lst [])
    refine lc_list (xs := wv) (fun i H' => ∃ acc : List V, H' D0 = some (.lst acc) ∧ acc.length = i ∧ (∀ (j : Nat) (y : V) (z : Wi), acc[j]? = some y → ws[j]? = some z → ∃ ps : List Pr, ps.Perm [z.1, z.2] ∧ HT (fun c => H1 c = none ∧ c ≠ D0) H' y ps) ∧ Fr H1 p l (n + 4000 + 20 * i) H') ⟨[], upd_same, rfl, (fun j y z h => by simp at h), F1D.mono (by omega)⟩ (fun i H' hi ⟨_, _, _, _, F'⟩ => SqL.of (F'.but _ _ hd1 (hN d nd0).1 (hN d nd0).2)) ?_ ?_
    · rintro i y H' hy ⟨acc, hacc, lac, hpt, F'⟩
      have il := (List.getElem?_eq_some_iff.mp hy).1
      have ez : ws[i]? = some (ws[i]'(by omega)) := List.getElem?_eq_getElem _
      obtain ⟨t, rfl, wt⟩ := wi1.2 i y _ hy ez
      have o := wok _ (List.mem_of_getElem? ez)
      refine ⟨rfl, yes_of ⟨_, rfl, _, rfl, p, l, t, _, N, _, rfl, F'.st, by omega, wt.frame (fun c o' hc e => F'.but _ _ e (hN c hc).1 (hN c hc).2), hN, o.a, o.b, fun v ps H2 hv pm F2 => ?_⟩⟩
      have acc2 := F'.keep F2 hD hacc
      have fin : ∀ {y : V} {ps : List Pr}, HT (fun c => H1 c = none ∧ c ≠ D0) H2 y ps → HT (fun c => H1 c = none ∧ c ≠ D0) (upd H2 D0 (.lst (acc ++ [v]))) y ps := fun h => h.frame fun c o hc e => by
        rw [upd_ne hc.2]
        exact e
      refine ⟨acc, acc2, by omega, acc ++ [v], upd_same, by rw [List.length_append, lac]; rfl, fun j y z h1 h2 => ?_, ((F'.trans F2).put hD).mono (by omega)⟩
      rcases Nat.lt_trichotomy j acc.length with h | h | h
      · rw [List.getElem?_append_left h] at h1
        obtain ⟨ps', p1, p2⟩ := hpt j y z h1 h2
        exact ⟨ps', p1, fin (p2.frame fun c o hc e => F'.keep F2 hc.1 e)⟩
      · rw [List.getElem?_append_right (by omega), h, Nat.sub_self] at h1
        cases h1
        rw [h, lac, ez] at h2
        cases h2
        exact ⟨ps, pm, fin (hv.weak fun c hc => ⟨F'.free hc, fun q' => by rw [q', hacc] at hc; cases hc⟩)⟩
      · rw [List.getElem?_eq_none (by rw [List.length_append]; simp; omega)] at h1
        cases h1
    rintro H2 ⟨acc, hacc, lac, hpt, F12⟩
    have F02 := F1.trans F12
    have hw2 : HW (fun c => H1 c = none) H2 (.ref D0) ws := ⟨D0, acc, rfl, items_at.mpr (.inl hacc), by omega, hD, fun j y z h1 h2 => let ⟨ps, p1, p2⟩ := hpt j y z h1 h2; ⟨ps, p1, p2.weak fun c hc => hc.1⟩⟩
    refine ⟨p, l, _, 1 + 3 * ws.length, .ref D0, rfl, F12.st, by omega, lq_wi hw2 (fun c hc => F12.ne hc) (by omega) (Nat.le_refl _), fun v3 H3 z3 F3 => ⟨_, _, rfl, ?_⟩⟩
    have F03 := F02.trans F3
    have hw3 : HW (fun c => H1 c = none) H3 v3 ws := (lz_wi hw2 z3).weak fun c hc => F12.free hc
    have hB3 : BoardAt (fun c => H c = none ∧ H1 c ≠ none) Z.B.C H3 x (sortS pl) (sortPr ts) rm := (hB1.there.frame (H' := H3) fun c o hc e => F1.keep (F12.trans F3) hc.1 e).weak fun c hc => ⟨hc.1, fun z => by obtain ⟨o, e⟩ := hc.2; rw [z] at e; cases e⟩
    -- as it is shown; the notice
    obtain ⟨aw, dd, rfl, dxa, sh1, sh2, sh3⟩ := hw_dx hw3 wnm (by omega)
    refine ⟨_, rfl, aw, dd, rfl, dxa, sh1, sh2, sh3, _, rfl, _, rfl, rfl, rfl, fun a dx na ndx ne => ninit_mk hB3 hw3 (by omega) wnd wokS na ndx ne fun H4 n4 S34 => ⟨rfl, ?_⟩⟩
    have nt4 : NtAt (fun c => H3 c = none) (fun c => H c = none ∧ H1 c ≠ none) D.C Z.B.C H4 a x (sortS pl) (sortPr ts) rm ws := ⟨n4, hB3.same S34, wnm⟩
    refine ⟨by show 2 ≤ sizeLine; decide, fun T nT' => ⟨T, _, rfl, SqT.of upd_same, rfl, _, _, rfl, _, _, rfl, rfl, ?_⟩⟩
    have S35 := S34.trans (new_same (o := .tup [.str dd.shown, .ref a]) nT')
    have nt5 := nt4.same (new_same (o := .tup [.str dd.shown, .ref a]) nT')
    have F05 := F03.same S35
    have hw5 := hw3.frame fun c o _ e => S35 _ _ e
    have dx5 := dx_keep S35 dxa
    generalize hH5 : upd H4 T (.tup [.str dd.shown, .ref a]) = H5 at *
    have dueK : ∀ {H' : Hp} {m : Nat}, Fr H p l m H' → H' d = some (.lst wv) ∧ WisAt N H' wv ws ∧ RawAt N H' q pl ts rm := fun G => ⟨G.but _ _ hd0 (hN d nd0).1 (hN d nd0).2, wi0.frame fun c o hc e => G.but _ _ e (hN c hc).1 (hN c hc).2, raw0.frame fun c o hc e => G.but _ _ e (hN c hc).1 (hN c hc).2⟩
    obtain ⟨dxn, aWn, wvn, hins5, hWn, hwn, _⟩ := id nt5.n
    obtain ⟨dxb, fsb, hxb5⟩ := nt5.b.kn
    have L1 : ws.length ≤ 2000 := by omega
    obtain ⟨hd5, wi5, raw5⟩ := dueK F05
    refine ⟨_, rfl, a, dxn, _, rfl, hins5, rfl, a, x, ws, rfl, nt5.all.n, fun l1 wv1 nl1 wt1 _ _ => ⟨_, rfl, .ref l1, .ref d, rfl, sm_wis upd_same (wt1.frame fun c o hc e => new_same nl1 _ _ e) (new_same nl1 _ _ hd5) (wi5.frame fun c o _ e => new_same nl1 _ _ e) L1, fun H6 S6' => ⟨true, rfl, iteF ?_⟩⟩⟩
    have S56 : Same H5 H6 := (new_same nl1).trans S6'
    have nt6 := nt5.same S56
    have F06 := F05.same S56
    have S36 := S35.trans S56
    have hw6 : HW (fun c => H1 c = none ∧ ∃ o, H3 c = some o) H6 (.ref aw) ws := (hw3.there.frame (H' := H6) fun c o _ e => S36 _ _ e)
    refine ⟨_, rfl, a, dxn, _, rfl, S56 _ _ hins5, rfl, a, x, ws, rfl, nt6.all.n, _, rfl, rbeq_same nt6.b nt6.b ⟨true, rfl, iteF ⟨_, rfl, aw, dd, rfl, dx_keep S56 dx5, sh1, sh2, sh3, _, rfl, rfl, false, by rw [decide_eq_true rfl]; rfl, iteF ?_⟩⟩⟩
    -- what was passed is spoiled
    refine ⟨_, rfl, .ref aw, fun c => H1 c = none ∧ ∃ o, H3 c = some o, 2000, 1 + 3 * ws.length, rfl, nd_hw (n := 1) hw6 L1 (by decide), by omega, fun H7 x7 => ?_⟩
    have F07 := F06.ex x7 fun c h => F1.free h.1
    have nt7 : NtAt (fun c => H c = none) (fun c => H c = none) D.C Z.B.C H7 a x (sortS pl) (sortPr ts) rm ws := (nt6.frame (fun c o hc e => x7.keep (fun ⟨_, o', z⟩ => by rw [hc] at z; cases z) e) (fun c o hc e => x7.keep (fun z => hc.2 z.1) e)).weak (fun c hc => F03.free hc) (fun c hc => hc.1)
    clear nt6 nt5 nt4 hw6 hw5 hw3 hw2 dx5 dxa hB3
    -- what is told is spoiled
    obtain ⟨dxn7, aWn7, wvn7, hins7, hWn7, hwn7, _⟩ := id nt7.n
    obtain ⟨dxb7, bP7, bT7, bR7, bN7, btv7, bl7, hxb7, _⟩ := id nt7.b
    refine ⟨_, rfl, a, dxn7, _, rfl, hins7, rfl, a, x, ws, rfl, nt7.all.n, fun l1 wv1 nl1 wt1 _ _ => ?_⟩
    have T1 := new_same (o := .lst wv1) nl1
    refine ⟨_, rfl, a, dxn7, _, rfl, T1 _ _ hins7, rfl, a, x, ws, rfl, (nt7.same T1).all.n, x, dxb7, _, rfl, T1 _ _ hxb7, rfl, x, _, _, _, rfl, (nt7.same T1).all.b, fun l2 nl2 => ?_⟩
    have T2 := T1.trans (new_same (o := .lst ((sortS pl).map V.str)) nl2)
    refine ⟨_, rfl, a, dxn7, _, rfl, T2 _ _ hins7, rfl, a, x, ws, rfl, (nt7.same T2).all.n, x, dxb7, _, rfl, T2 _ _ hxb7, rfl, x, _, _, _, rfl, (nt7.same T2).all.b, fun l3 nl3 => ⟨by show 3 ≤ sizeLine; decide, fun L nL => ?_⟩⟩
    have T3 := T2.trans (new_same (o := .lst (rm.map V.str)) nl3)
    have T4 := T3.trans (new_same (o := .lst [.ref l1, .ref l2, .ref l3]) nL)
    have h31 := new_same nl3 (o := .lst (rm.map V.str)) _ _ (new_same nl2 (o := .lst ((sortS pl).map V.str)) _ _ (upd_same (a := l1) (o := .lst wv1) (H := H7)))
    have h32 := new_same nl3 (o := .lst (rm.map V.str)) _ _ (upd_same (a := l2) (o := .lst ((sortS pl).map V.str)) (H := upd H7 l1 (.lst wv1)))
    have h33 : (upd (upd (upd H7 l1 (.lst wv1)) l2 (.lst ((sortS pl).map V.str))) l3 (.lst (rm.map V.str))) l3 = some (.lst (rm.map V.str)) := upd_same
    have hl1 := new_same nL (o := .lst [.ref l1, .ref l2, .ref l3]) _ _ h31
    have hl2 := new_same nL (o := .lst [.ref l1, .ref l2, .ref l3]) _ _ h32
    have hl3 := new_same nL (o := .lst [.ref l1, .ref l2, .ref l3]) _ _ h33
    have hL : (upd (upd (upd (upd H7 l1 (.lst wv1)) l2 (.lst ((sortS pl).map V.str))) l3 (.lst (rm.map V.str))) L (.lst [.ref l1, .ref l2, .ref l3])) L = some (.lst [.ref l1, .ref l2, .ref l3]) := upd_same
    have m1 : H7 l1 = none ∧ l1 ≠ L := ⟨nl1, ne_of_none h31 nL⟩
    have m2 : H7 l2 = none ∧ l2 ≠ L := ⟨T1.free nl2, ne_of_none h32 nL⟩
    have m3 : H7 l3 = none ∧ l3 ≠ L := ⟨T2.free nl3, ne_of_none h33 nL⟩
    have mL : H7 L = none := T3.free nL
    have wt8 := wt1.frame fun c o hc e => T4 c o e
    generalize hH8 : upd (upd (upd (upd H7 l1 (.lst wv1)) l2 (.lst ((sortS pl).map V.str))) l3 (.lst (rm.map V.str))) L (.lst [V.ref l1, .ref l2, .ref l3]) = H8 at *
    have lsp : (sortS pl).length ≤ 2000 := by
      rw [sortS_len]
      omega
    have lrm : rm.length ≤ 2000 := Nat.le_trans (ok.rnd.length_le_of_subset ok.rin) (by omega)
    refine ⟨.ref L, fun c => H7 c = none, 2000, 1 + (1 + 3 * ws.length + 2), rfl, .inr ⟨L, _, [1 + 3 * ws.length, 1, 1], rfl, .inl ⟨hL, mL⟩, by show 3 ≤ 2000; decide, rfl, fun i y j e1 e2 => ?_, by show 1 + ((1 + 3 * ws.length) + (1 + (1 + 0))) ≤ 1 + (1 + 3 * ws.length + 2); omega⟩, by omega, fun H9 x9 => ?_⟩
    · match i, e1, e2 with
      | 0, e1, e2 =>
        cases e1
        cases e2
        exact nd_wis hl1 wt8 m1 L1 (by decide)
      | 1, e1, e2 =>
        cases e1
        cases e2
        exact nd_strs (HP.lst hl2 m2) lsp
      | 2, e1, e2 =>
        cases e1
        cases e2
        exact nd_strs (HP.lst hl3 m3) lrm
      | i + 3, e1, e2 => simp at e1
    have F09 := (F07.same T4).ex x9 fun c h => F07.free h
    have nM : ∀ {c : Addr}, (∃ o, H7 c = some o) → ¬ (H7 c = none) := fun ⟨o, e⟩ z => by
      rw [z] at e
      cases e
    have nt9 : NtAt (fun c => H c = none) (fun c => H c = none) D.C Z.B.C H9 a x (sortS pl) (sortPr ts) rm ws := (nt7.there.frame (fun c o hc e => x9.keep (nM hc.2) (T4 _ _ e)) (fun c o hc e => x9.keep (nM hc.2) (T4 _ _ e))).weak (fun c hc => hc.1) (fun c hc => hc.1)
    clear nt7 T1 T2 T3 h31 h32 h33 m1 m2 m3 mL hl1 hl2 hl3 hL wt8 wt1
    -- what is told stands as it stood
    obtain ⟨dxn9, aWn9, wvn9, hins9, hWn9, hwn9, _⟩ := id nt9.n
    obtain ⟨dxb9, bP9, bT9, bR9, bN9, btv9, bl9, hxb9, _⟩ := id nt9.b
    obtain ⟨hd9, wi9, raw9⟩ := dueK F09
    refine ⟨_, rfl, a, dxn9, _, rfl, hins9, rfl, a, x, ws, rfl, nt9.all.n, fun l1 wv1 nl1 wt1 _ _ => ?_⟩
    have T1 := new_same (o := .lst wv1) nl1
    refine ⟨_, rfl, a, dxn9, _, rfl, T1 _ _ hins9, rfl, a, x, ws, rfl, (nt9.same T1).all.n, x, dxb9, _, rfl, T1 _ _ hxb9, rfl, x, _, _, _, rfl, (nt9.same T1).all.b, fun l2 nl2 => ⟨by show 2 ≤ sizeLine; decide, fun LA nLA => ?_⟩⟩
    have T3 := (T1.trans (new_same (o := .lst ((sortS pl).map V.str)) nl2)).trans (new_same (o := .lst [.ref l1, .ref l2]) nLA)
    have hl1 := new_same nLA (o := .lst [.ref l1, .ref l2]) _ _ (new_same nl2 (o := .lst ((sortS pl).map V.str)) _ _ (upd_same (a := l1) (o := .lst wv1) (H := H9)))
    have hl2 := new_same nLA (o := .lst [.ref l1, .ref l2]) _ _ (upd_same (a := l2) (o := .lst ((sortS pl).map V.str)) (H := upd H9 l1 (.lst wv1)))
    have hLA : (upd (upd (upd H9 l1 (.lst wv1)) l2 (.lst ((sortS pl).map V.str))) LA (.lst [.ref l1, .ref l2])) LA = some (.lst [.ref l1, .ref l2]) := upd_same
    have wtA := wt1.frame fun c o hc e => T3 c o e
    have ntA := nt9.same T3
    have FA := F09.same T3
    generalize hHA : upd (upd (upd H9 l1 (.lst wv1)) l2 (.lst ((sortS pl).map V.str))) LA (.lst [V.ref l1, .ref l2]) = HA at *
    obtain ⟨hdA, wiA, rawA⟩ := dueK FA
    have rwA := fun {H' : Hp} {m : Nat} (G : Fr H p l m H') => (show H' q = some (.tup [.ref aP, .ref aT, .ref aR]) ∧ H' aP = some (.lst (pl.map V.str)) ∧ H' aT = some (.lst tv) ∧ PrsAt H' tv ts ∧ H' aR = some (.lst (rm.map V.str)) from
      ⟨G.but _ _ g1 (hN _ nq).1 (hN _ nq).2, G.but _ _ g2 (hN _ nP).1 (hN _ nP).2, G.but _ _ g3 (hN _ nT).1 (hN _ nT).2, prs_frame g4 nt fun c o hc e => G.but _ _ e (hN _ hc).1 (hN _ hc).2, G.but _ _ g5 (hN _ nR).1 (hN _ nR).2⟩)
    obtain ⟨qA, pA, _⟩ := rwA FA
    refine ⟨_, rfl, _, rfl, q, _, 0, _, rfl, rfl, SqT.of qA, rfl, aP, pl, rfl, .inl (SqL.of pA), fun l3 nl3 => ⟨by show 2 ≤ sizeLine; decide, fun LB nLB => ?_⟩⟩
    have T5 := (new_same (o := .lst ((sortS pl).map V.str)) nl3).trans (new_same (o := .lst [.ref d, .ref l3]) nLB)
    have hl3 := new_same nLB (o := .lst [.ref d, .ref l3]) _ _ (upd_same (a := l3) (o := .lst ((sortS pl).map V.str)) (H := HA))
    have hLB : (upd (upd HA l3 (.lst ((sortS pl).map V.str))) LB (.lst [.ref d, .ref l3])) LB = some (.lst [.ref d, .ref l3]) := upd_same
    have ntB := ntA.same T5
    have FB := FA.same T5
    generalize hHB : upd (upd HA l3 (.lst ((sortS pl).map V.str))) LB (.lst [V.ref d, .ref l3]) = HB at *
    refine ⟨.ref LA, .ref LB, rfl, .inr (.inr (.inl ⟨LA, LB, _, _, rfl, rfl, .inl ⟨T5 _ _ hLA, hLB⟩, rfl, by show 2 ≤ 2000; decide, fun i y y' e1 e2 => ?_⟩)), fun H11 S11 => ⟨true, rfl, iteF ?_⟩⟩
    · match i, e1, e2 with
      | 0, e1, e2 =>
        cases e1
        cases e2
        exact sm_wis (n := 0) (T5 _ _ hl1) (wtA.frame fun c o _ e => T5 _ _ e) (T5 _ _ hdA) (wiA.frame fun c o _ e => T5 _ _ e) L1
      | 1, e1, e2 =>
        cases e1
        cases e2
        exact sm_strs (n := 2) (T5 _ _ hl2) hl3 lsp
      | i + 2, e1, e2 => simp at e1
    have nt11 := ntB.same S11
    have F11 := FB.same S11
    clear ntB FB ntA FA nt9 F09 wtA hLA hLB hl1 hl2 hl3 T3 T5 T1 wt1 rawA wiA hdA raw9 wi9 hd9
    obtain ⟨hd11, wi11, raw11⟩ := dueK F11
    -- a twin
    refine ⟨_, rfl, _, rfl, p, l, q, _, N, pl, ts, rm, rfl, F11.st, by omega, raw11, hN, ok, fun y H12 hB12 F12' => ?_⟩
    have F12 := F11.trans F12'
    obtain ⟨hd12, wi12, raw12⟩ := dueK F12
    refine ⟨_, rfl, fun b db nb ndb neb => ninit_mk hB12 (wis_hw hd12 nd0 wi12 wokS) (by omega) wnd wokS nb ndb neb fun H13 n13 S13 => ⟨rfl, ?_⟩⟩
    have F13 := F12.same S13
    have me13 : NtAt (fun c => H c = none) (fun c => H c = none) D.C Z.B.C H13 a x (sortS pl) (sortPr ts) rm ws := (nt11.frame (H1 := H12) (fun c o hc e => F11.keep F12' hc e) (fun c o hc e => F11.keep F12' hc e)).same S13
    have tw13 : NtAt (fun c => H c = none) (fun c => H c = none) D.C Z.B.C H13 b y (sortS pl) (sortPr ts) rm ws := ⟨n13.weak fun c hc => F12.free hc, (hB12.same S13).weak fun c hc => F11.free hc, wnm⟩
    -- with a place more
    have late : Str.ofString "late9" ∉ pl := fun h => absurd (ok.nm _ h) (by decide +kernel)
    have nmL : nameB (Str.ofString "late9") = true := by decide +kernel
    obtain ⟨q13, p13, t13, pt13, r13⟩ := rwA F13
    refine ⟨_, rfl, q, _, 0, _, rfl, rfl, SqT.of q13, rfl, by show 1 ≤ sizeLine; decide, fun cL ncL => ⟨aP, cL, pl.map V.str, [.str (Str.ofString "late9")], rfl, rfl, new_same ncL _ _ p13, upd_same, ?_, fun P2 nP2 => ?_⟩⟩
    · rw [List.length_map]
      show pl.length + 1 ≤ sizeLine
      omega
    have S14 := (new_same (o := .lst [.str (Str.ofString "late9")]) ncL).trans (new_same (o := .lst (pl.map V.str ++ [.str (Str.ofString "late9")])) nP2)
    have hP2 : (upd (upd H13 cL (.lst [.str (Str.ofString "late9")])) P2 (.lst (pl.map V.str ++ [.str (Str.ofString "late9")]))) P2 = some (.lst ((pl ++ [Str.ofString "late9"]).map V.str)) := by
      rw [upd_same, List.map_append]
      rfl
    have F14 := F13.same S14
    generalize hH14 : upd (upd H13 cL (.lst [.str (Str.ofString "late9")])) P2 (.lst (pl.map V.str ++ [.str (Str.ofString "late9")])) = H14 at *
    obtain ⟨q14, p14, t14, pt14, r14⟩ := rwA F14
    have tokL : TsOk (pl ++ [Str.ofString "late9"]) ts := ok.ts.mono fun z hz => List.mem_append_left _ hz
    refine ⟨_, rfl, q, _, 1, _, rfl, rfl, SqT.of q14, rfl, _, rfl, q, _, 2, _, rfl, rfl, SqT.of q14, rfl, fun y2 dy ny ndy ney => init_mk (N := fun _ => True) (HP.lst hP2 trivial) (HT.lst t14 pt14 (fun q hq => (ok.ts.ok q hq).2.2) nT nt) (HP.lst r14 nR) ?_ ?_ ?_ tokL (by omega) ok.rnd (fun z hz => List.mem_append_left _ (ok.rin z hz)) ny ndy ney fun H15 hB15 S15 => ⟨rfl, ?_⟩⟩
    · exact List.nodup_append.mpr ⟨ok.nd, by simp, fun a ha b hb e => late (by rw [← List.mem_singleton.mp hb, ← e]; exact ha)⟩
    · intro z hz
      rcases List.mem_append.mp hz with hz | hz
      · exact nmP z hz
      · rw [List.mem_singleton.mp hz]
        exact nmL
    · rw [List.length_append]
      show pl.length + 1 ≤ 1000
      omega
    have F15 := F14.same S15
    obtain ⟨hd15, wi15, _⟩ := dueK F15
    refine ⟨_, rfl, fun c dc nc ndc nec => ninit_mk hB15 (wis_hw hd15 nd0 wi15 wokS) (by omega) wnd (fun z hz => (wok z hz).mono fun s hs => sortS_mem.mpr (List.mem_append_left _ hs)) nc ndc nec fun H16 n16 S16 => ⟨rfl, by show 1 ≤ sizeLine; decide, fun O nO => ?_⟩⟩
    have S0 := (S14.trans S15).trans S16
    have nW : ∀ {c : Addr}, (∃ o, H16 c = some o) → c ≠ O := fun ⟨o, e⟩ z => by
      rw [z, nO] at e
      cases e
    have SO := new_same (o := .lst [.ref c]) nO
    have F16 := F15.same S16
    have toO : ∀ {N1 M1 : Addr → Prop} {c' y' : Addr} {pl' : List Str} {ts' : List Pr} {rm' : List Str} {ws' : List Wi}, NtAt N1 M1 D.C Z.B.C H16 c' y' pl' ts' rm' ws' → (∀ c, N1 c → H c = none) → (∀ c, M1 c → H c = none) → NtAt (fun d => H d = none ∧ d ≠ O) (fun d => H d = none ∧ d ≠ O) D.C Z.B.C (upd H16 O (.lst [.ref c])) c' y' pl' ts' rm' ws' := fun h k1 k2 => (h.there.weak (fun c hc => ⟨k1 c hc.1, nW hc.2⟩) (fun c hc => ⟨k2 c hc.1, nW hc.2⟩)).same SO
    have U1 : UN D.C Z.B.C H p l O a x b y (n + 8600) (sortS pl) (sortPr ts) rm ws 1 [c] (upd H16 O (.lst [.ref c])) := by
      refine ⟨upd_same, Nat.le_refl _, fun c' hc' => ?_, toO (me13.same S0) (fun _ h => h) (fun _ h => h), toO (tw13.same S0) (fun _ h => h) (fun _ h => h), (F16.same SO).mono (by omega), F16.free nO⟩
      rw [List.mem_singleton.mp hc']
      refine ⟨y2, _, _, _, _, toO ⟨n16, hB15.same S16, wnm⟩ (fun c hc => F15.free hc) (fun c hc => F14.free hc), fun z => ?_⟩
      have := congrArg List.length z.1
      rw [sortS_len, sortS_len, List.length_append] at this
      simp at this
    generalize hHO : upd H16 O (.lst [V.ref c]) = HO1 at *
    -- one wish fewer
    show L2.Ends.nx _ _ _
    dsimp only
    refine cut (fun σ' H' => ∃ bs, σ' = [some (.ref p), some (.ref q), some (.ref d), some (.ref x), some (.ref aw), none, some (.str dd.shown), some (.ref a), some (.ref b), some (.ref O), none] ∧ UN D.C Z.B.C H p l O a x b y (n + 8600) (sortS pl) (sortPr ts) rm ws 2 bs H') (fun K' kK => ?_) ?_
    · obtain ⟨hdU, wiU, _⟩ := dueK U1.F
      refine ⟨_, rfl, .inl ⟨rfl, _, SqL.of U1.o⟩, _, rfl, Nat.zero_le _, fun e0 ne0 => ⟨wsD ws, .list [], dp_ws (new_same ne0 _ _ hdU) (wiU.frame fun c o _ e => new_same ne0 _ _ e), Dp.lst (SqL.of upd_same) .nil, shW wnm, rfl, _, rfl, ?_⟩⟩
      have U2 := U1.same (new_same (o := .lst []) ne0)
      generalize hHe : upd HO1 e0 (.lst []) = He at *
      rw [eqv_wnil]
      refine ite2 (fun cnd => ?_) (fun cnd => ?_)
      · obtain ⟨hd2, wi2, _⟩ := dueK U2.F
        refine ⟨_, rfl, _, rfl, 1, rfl, d, wv, rfl, SqL.of hd2, fun s1 ns1 => ?_⟩
        rw [show cutV wv (some 1) none = wv.drop 1 from cut_from 1] at *
        have U3 := U2.same (new_same (o := .lst (wv.drop 1)) ns1)
        have hs1 : (upd He s1 (.lst (wv.drop 1))) s1 = some (.lst (wv.drop 1)) := upd_same
        have wi3 := (wi2.drop 1).frame (H' := upd He s1 (.lst (wv.drop 1))) fun c o _ e => new_same ns1 _ _ e
        generalize hHs : upd He s1 (.lst (wv.drop 1)) = Hs at *
        refine fun c2 dc2 nc2 ndc2 nec2 => ninit_mk U3.me.b (wis_hw (pl := sortS pl) (N := fun _ => True) hs1 trivial (wi3.weak fun _ _ => trivial) (fun z hz => wokS z (List.mem_of_mem_drop hz))) (by rw [List.length_drop]; omega) (wnd.sublist (List.drop_sublist _ _)) (fun z hz => wokS z (List.mem_of_mem_drop hz)) nc2 ndc2 nec2 fun H17 n17 S17 => ⟨rfl, by show 1 ≤ sizeLine; decide, fun LL nLL => ?_⟩
        have U4 := U3.same (S17.trans (new_same (o := .lst [.ref c2]) nLL))
        refine ⟨O, LL, _, _, rfl, rfl, U4.o, upd_same, ?_, kK _ _ ⟨_, rfl, U4.ext (cs := [c2]) fun c' hc' => ?_⟩⟩
        · rw [List.length_map]
          show 1 + 1 ≤ sizeLine
          decide
        · rw [List.mem_singleton.mp hc']
          refine ⟨x, _, _, _, ws.drop 1, ⟨(n17.weak fun c hc => U3.new hc).frame fun c o _ e => new_same nLL _ _ e, U4.me.b, fun z hz => wnm z (List.mem_of_mem_drop hz)⟩, fun z => ?_⟩
          have := congrArg List.length z.2.2.2
          rw [List.length_drop] at this
          have h0 : ws ≠ [] := by simpa using cnd
          have : ws.length ≠ 0 := fun h => h0 (List.eq_nil_of_length_eq_zero h)
          omega
      · refine ⟨Nat.zero_le _, fun LL nLL => ?_⟩
        have U4 := U2.same (new_same (o := .lst []) nLL)
        refine ⟨O, LL, _, [], rfl, rfl, U4.o, upd_same, ?_, kK _ _ ⟨_, rfl, (U4.ext (cs := []) fun c' hc' => by cases hc').mono (by decide)⟩⟩
        rw [List.length_map]
        show 1 + 0 ≤ sizeLine
        decide
    rintro σ' HU ⟨bs, rfl, U5⟩
    -- turned about
    refine cut (fun σ' H' => ∃ bs, σ' = [some (.ref p), some (.ref q), some (.ref d), some (.ref x), some (.ref aw), none, some (.str dd.shown), some (.ref a), some (.ref b), some (.ref O), none] ∧ UN D.C Z.B.C H p l O a x b y (n + 8600) (sortS pl) (sortPr ts) rm ws 3 bs H') (fun K' kK => ?_) ?_
    · obtain ⟨hdU, wiU, _⟩ := dueK U5.F
      have lbs := U5.len
      refine ⟨_, rfl, .inl ⟨rfl, _, SqL.of U5.o⟩, _, rfl, d, wv, rfl, .inl (SqL.of hdU), _, _, rfl, rfl, _, rfl, ite2 (fun cnd => ?_) (fun cnd => ?_)⟩
      · have h1 : 1 < ws.length := by
          have := of_decide_eq_true cnd
          omega
        refine ⟨_, rfl, _, rfl, 1, rfl, d, wv, rfl, SqL.of hdU, fun s1 ns1 => ?_⟩
        rw [show cutV wv (some 1) none = wv.drop 1 from cut_from 1] at *
        refine ⟨_, rfl, 1, rfl, d, wv, rfl, SqL.of (new_same ns1 _ _ hdU), fun s2 ns2 => ?_⟩
        rw [show cutV wv none (some 1) = wv.take 1 from cut_to 1] at *
        refine ⟨s1, s2, _, _, rfl, rfl, new_same ns2 _ _ upd_same, upd_same, ?_, fun s3 ns3 => ?_⟩
        · rw [List.length_drop, List.length_take]
          omega
        have S3 := ((new_same (o := .lst (wv.drop 1)) ns1).trans (new_same (o := .lst (wv.take 1)) ns2)).trans (new_same (o := .lst (wv.drop 1 ++ wv.take 1)) ns3)
        have U6 := U5.same S3
        have hs3 : (upd (upd (upd HU s1 (.lst (wv.drop 1))) s2 (.lst (wv.take 1))) s3 (.lst (wv.drop 1 ++ wv.take 1))) s3 = some (.lst (wv.drop 1 ++ wv.take 1)) := upd_same
        have wi6 := ((wiU.drop 1).app (wiU.take 1)).frame fun c o _ e => S3 _ _ e
        generalize hHs : upd (upd (upd HU s1 (.lst (wv.drop 1))) s2 (.lst (wv.take 1))) s3 (.lst (wv.drop 1 ++ wv.take 1)) = Hs at *
        have pr := wrot_perm ws
        refine fun c2 dc2 nc2 ndc2 nec2 => ninit_mk U6.me.b (wis_hw (pl := sortS pl) (N := fun _ => True) hs3 trivial (wi6.weak fun _ _ => trivial) (fun z hz => wokS z (pr.mem_iff.mp hz))) (by rw [pr.length_eq]; omega) (pr.nodup_iff.mpr wnd) (fun z hz => wokS z (pr.mem_iff.mp hz)) nc2 ndc2 nec2 fun H17 n17 S17 => ⟨rfl, by show 1 ≤ sizeLine; decide, fun LL nLL => ?_⟩
        have U7 := U6.same (S17.trans (new_same (o := .lst [.ref c2]) nLL))
        refine ⟨O, LL, _, _, rfl, rfl, U7.o, upd_same, ?_, kK _ _ ⟨_, rfl, U7.ext (cs := [c2]) fun c' hc' => ?_⟩⟩
        · rw [List.length_map]
          show bs.length + 1 ≤ sizeLine
          omega
        · rw [List.mem_singleton.mp hc']
          exact ⟨x, _, _, _, ws.drop 1 ++ ws.take 1, ⟨(n17.weak fun c hc => U6.new hc).frame fun c o _ e => new_same nLL _ _ e, U7.me.b, fun z hz => wnm z (pr.mem_iff.mp hz)⟩, fun z => wrot_ne wnd h1 z.2.2.2⟩
      · refine ⟨Nat.zero_le _, fun LL nLL => ?_⟩
        have U7 := U5.same (new_same (o := .lst []) nLL)
        refine ⟨O, LL, _, [], rfl, rfl, U7.o, upd_same, ?_, kK _ _ ⟨_, rfl, (U7.ext (cs := []) fun c' hc' => by cases hc').mono (by decide)⟩⟩
        rw [List.length_map]
        show bs.length + 0 ≤ sizeLine
        omega
    rintro σ' HV ⟨bs, rfl, U8⟩
    -- it is equal to its twin alone
    obtain ⟨hd8, wi8, _⟩ := dueK U8.F
    refine ⟨_, rfl, _, rfl, rneq_same U8.me U8.tw ⟨true, rfl, iteF ⟨_, rfl, _, rfl, rnne_same U8.me U8.tw ⟨false, rfl, iteF ⟨_, rfl, _, rfl, rneq_board U8.me U8.me.b ⟨false, rfl, iteF ⟨_, rfl, _, rfl, rneq_oth U8.me (.lst hd8) (.lst hd8) ⟨false, rfl, iteF ?_⟩⟩⟩⟩⟩⟩⟩⟩
    refine ⟨_, rfl, O, rfl, ⟨_, SqL.of U8.o⟩, fun DD hDD => ?_⟩
    refine lc_list (xs := bs.map V.ref) (fun j H' => H' DD = some (.lst ((List.replicate j false).map V.bl)) ∧ Same HV H') ⟨upd_same, new_same hDD⟩ (fun j H' _ ⟨_, S'⟩ => SqL.of (S' _ _ U8.o)) ?_ ?_
    · rintro j bv H' hb ⟨hacc, S'⟩
      obtain ⟨b', hbm, rfl⟩ := List.mem_map.mp (List.mem_of_getElem? hb)
      have jl := (List.getElem?_eq_some_iff.mp hb).1
      rw [List.length_map] at jl
      have lb := U8.len
      obtain ⟨y', pl', ts', rm', ws', hB, hne⟩ := U8.bd b' hbm
      have hB' := hB.same S'
      have me' := U8.me.same S'
      refine ⟨rfl, yes_of ⟨_, rfl, _, rfl, rneq_dif me' hB' hne ⟨false, rfl, iteF ⟨_, rfl, _, rfl, rnne_dif me' hB' hne ⟨true, rfl, ?_⟩⟩⟩⟩⟩
      refine ⟨_, hacc, ?_, ?_, ?_⟩
      · rw [List.length_map, List.length_replicate]
        omega
      · rw [upd_same, List.replicate_succ', List.map_append]
        rfl
      · exact fun b o e => by
          rw [upd_ne (ne_of_none e hDD)]
          exact S' _ _ e
    rintro H18 ⟨hacc, S18⟩
    refine ⟨DD, _, rfl, SqL.of hacc, _, rfl, ?_⟩
    have hany : ((List.replicate (bs.map V.ref).length false).any id) = false := by simp
    show Q (.bl (!((List.replicate (bs.map V.ref).length false).any id))) H18
    rw [hany]
    exact k _ ((U8.same S18).F.mono (by omega))
end
end E1

set_option Elab.async false
set_option linter.all false
set_option maxRecDepth 100000
set_option maxHeartbeats 8000000
/-! A frame that lets tables of code objects grow; what is refused. -/
namespace E1
open PySem PySem.Spec PyProof.Rows L2 G0 LamX
/-- the stream at hand, the tables right, all but these as it stood -/
structure Kx (T : List (Addr × Str)) (p l : Addr) (n : Nat) (H H' : Hp) : Prop where
  st : Stm H' p l n
  tb : Tabs T H'
  but : ∀ b o, H b = some o → b ≠ p → b ≠ l → (∀ ps, o ≠ .tbl ps) → H' b = some o
theorem codeO_lst {c : Addr} {q : Str} (xs : List V) : CodeO c q ≠ .lst xs := fun z => by
  unfold CodeO at z
  cases z
section
variable {T : List (Addr × Str)} {p l c : Addr} {n m : Nat} {H H1 H2 : Hp} {o : HO}
theorem tabs_fr (S : Stm H p l n) (t : Tabs T H) (F : Fr H p l m H1) : Tabs T H1 := fun q hq => by
  obtain ⟨⟨xs, hp⟩, ys, hl⟩ := S.at_
  obtain ⟨ps, h1, h2, h3⟩ := t q hq
  refine ⟨ps, F.but _ _ h1 (ne_of h1 hp (fun z => by cases z)) (ne_of h1 hl (fun z => by cases z)), h2, fun pos cv hc => ?_⟩
  obtain ⟨c, e1, e2⟩ := h3 pos cv hc
  exact ⟨c, e1, F.but _ _ e2 (ne_of e2 hp (fun z => codeO_lst _ z)) (ne_of e2 hl (fun z => codeO_lst _ z))⟩
theorem Kx.start (S : Stm H p l n) (t : Tabs T H) : Kx T p l n H H := ⟨S, t, fun _ _ e _ _ _ => e⟩
theorem Kx.fr (F : Kx T p l n H H1) (G : Fr H1 p l m H2) : Kx T p l m H H2 := ⟨G.st, tabs_fr F.st F.tb G, fun b o e h1 h2 h3 => G.but _ _ (F.but b o e h1 h2 h3) h1 h2⟩
theorem Kx.same (F : Kx T p l n H H1) (S : Same H1 H2) : Kx T p l n H H2 := ⟨F.st.same S, F.tb.ext S, fun b o e h1 h2 h3 => S _ _ (F.but b o e h1 h2 h3)⟩
theorem Kx.put (F : Kx T p l n H H1) (h : H1 c = none) : Kx T p l n H (upd H1 c o) := F.same (new_same h)
theorem stm_ext (S : Stm H p l n) (e : ExtN H H1) : Stm H1 p l n := by
  obtain ⟨k, ⟨⟨ns, b, d, hp, hl, r⟩, hne⟩, c0, c1⟩ := S
  exact ⟨k, ⟨⟨ns, b, d, e _ _ hp (fun ps z => by cases z), e _ _ hl (fun ps z => by cases z), r⟩, hne⟩, c0, c1⟩
theorem Kx.ext (F : Kx T p l n H H1) (e : ExtN H1 H2) (t : Tabs T H2) : Kx T p l n H H2 := ⟨stm_ext F.st e, t, fun b o e1 h1 h2 h3 => e _ _ (F.but b o e1 h1 h2 h3) h3⟩
theorem Kx.trans (F : Kx T p l n H H1) (G : Kx T p l m H1 H2) : Kx T p l m H H2 := ⟨G.st, G.tb, fun b o e h1 h2 h3 => G.but _ _ (F.but b o e h1 h2 h3) h1 h2 h3⟩
theorem Kx.mono (F : Kx T p l n H H1) (h : n ≤ m) : Kx T p l m H H1 := ⟨F.st.mono h, F.tb, F.but⟩
theorem Kx.ne (F : Kx T p l n H H1) (h : H1 c = none) : c ≠ p ∧ c ≠ l := by
  obtain ⟨⟨xs, hp⟩, ys, hl⟩ := F.st.at_
  exact ⟨(fun z => by rw [z, hp] at h; cases h), (fun z => by rw [z, hl] at h; cases h)⟩
theorem Kx.lst {xs : List V} (F : Kx T p l n H H1) (e : H c = some (.lst xs)) (h : c ≠ p ∧ c ≠ l) : H1 c = some (.lst xs) := F.but _ _ e h.1 h.2 (fun ps z => by cases z)
theorem Kx.tup {xs : List V} (F : Kx T p l n H H1) (e : H c = some (.tup xs)) (h : c ≠ p ∧ c ≠ l) : H1 c = some (.tup xs) := F.but _ _ e h.1 h.2 (fun ps z => by cases z)
theorem Kx.items {a : Addr} {xs : List V} (F : Kx T p l n H H1) (e : itemsOf H (.ref a) = some xs) (h : a ≠ p ∧ a ≠ l) : itemsOf H1 (.ref a) = some xs := items_at.mpr ((items_at.mp e).elim (fun q => .inl (F.lst q h)) fun q => .inr (F.tup q h))
theorem Kx.prs {tv : List V} {ts : List Pr} (F : Kx T p l n H H1) (pt : PrsAt H tv ts) (h : ∀ t, V.ref t ∈ tv → t ≠ p ∧ t ≠ l) : PrsAt H1 tv ts := ⟨pt.1, fun i v q e1 e2 => by
  obtain ⟨t, rfl, ht⟩ := pt.2 i v q e1 e2
  exact ⟨t, rfl, F.tup ht (h t (List.mem_of_getElem? e1))⟩⟩
theorem ext_items {a : Addr} {xs : List V} (e : ExtN H H1) (h : itemsOf H (.ref a) = some xs) : itemsOf H1 (.ref a) = some xs := items_at.mpr ((items_at.mp h).elim (fun q => .inl (e _ _ q fun ps z => by cases z)) fun q => .inr (e _ _ q fun ps z => by cases z))
theorem ext_itemsV {v : V} {xs : List V} (e : ExtN H H1) (h : itemsOf H v = some xs) : itemsOf H1 v = some xs := by
  cases v with
  | ref a => exact ext_items e h
  | _ => cases h
/-- a value's kind, and what is no list, stay -/
theorem kn_ext {C : Addr} {v : V} (k : Kn C H v) (e : ExtN H H1) : Kn C H1 v ∧ kdOf H1 v = kdOf H v ∧ itemsOf H1 v = itemsOf H v := by
  cases k with
  | non => exact ⟨.non, rfl, rfl⟩
  | bl b => exact ⟨.bl b, rfl, rfl⟩
  | int i => exact ⟨.int i, rfl, rfl⟩
  | str x => exact ⟨.str x, rfl, rfl⟩
  | lst h =>
    have h1 := e _ _ h (fun ps z => by cases z)
    exact ⟨.lst h1, by simp only [kdOf, h, h1], by simp only [itemsOf, h, h1]⟩
  | tup h =>
    have h1 := e _ _ h (fun ps z => by cases z)
    exact ⟨.tup h1, by simp only [kdOf, h, h1], by simp only [itemsOf, h, h1]⟩
  | dic h =>
    have h1 := e _ _ h (fun ps z => by cases z)
    exact ⟨.dic h1, by simp only [kdOf, h, h1], by simp only [itemsOf, h, h1]⟩
  | own h =>
    have h1 := e _ _ h (fun ps z => by cases z)
    exact ⟨.own h1, by simp only [kdOf, h, h1], by simp only [itemsOf, h, h1]⟩
theorem kn_kx {C : Addr} {v : V} (k : Kn C H v) (e : itemsOf H v = none) (S : Stm H p l m) (F : Kx T p l n H H1) : Kn C H1 v ∧ itemsOf H1 v = none := by
  obtain ⟨⟨xs, hp⟩, ys, hl⟩ := S.at_
  cases k with
  | non => exact ⟨.non, rfl⟩
  | bl b => exact ⟨.bl b, rfl⟩
  | int i => exact ⟨.int i, rfl⟩
  | str x => exact ⟨.str x, rfl⟩
  | lst h => rw [items_at.mpr (.inl h)] at e; cases e
  | tup h => rw [items_at.mpr (.inr h)] at e; cases e
  | @dic a kvs h =>
    have h1 := F.but _ _ h (ne_of h hp (fun z => by cases z)) (ne_of h hl (fun z => by cases z)) (fun ps z => by cases z)
    exact ⟨.dic h1, by simp only [itemsOf, h1]⟩
  | @own a dx fs h =>
    have h1 := F.but _ _ h (ne_of h hp (fun z => by cases z)) (ne_of h hl (fun z => by cases z)) (fun ps z => by cases z)
    exact ⟨.own h1, by simp only [itemsOf, h1]⟩
theorem Lq.kx {C : Addr} (S : Stm H p l m) (F : Kx T p l n H H1) : ∀ {i : Nat} {v : V} {k : Nat}, Lq C p l H i v k → Lq C p l H1 i v k
  | 0, _, _, h => kn_kx h.1 h.2 S F
  | i + 1, _, _, h => by
    rcases h with h | ⟨a, xs, c, rfl, h1, h2, h3, h4, h5, h6⟩
    · exact .inl (kn_kx h.1 h.2 S F)
    · exact .inr ⟨a, xs, c, rfl, F.items h1 ⟨h2, h3⟩, h2, h3, h4, fun x hx => Lq.kx S F (h5 x hx), h6⟩
end
/-! ### a loose copy, looked at -/
section
variable {C : Addr} {N : Addr → Prop} {H H' : Hp} {n : Nat} {v w : V}
theorem lz_list {xs : List V} (e : itemsOf H v = some xs) (z : Lz C N H H' (n + 1) v w) : ∃ a ys, w = .ref a ∧ itemsOf H' w = some ys ∧ N a ∧ xs.length = ys.length ∧ ∀ (i : Nat) (x y : V), xs[i]? = some x → ys[i]? = some y → Lz C (fun c => N c ∧ c ≠ a) H H' n x y := by
  rcases z with ⟨_, _, e2⟩ | ⟨xs', ys, b, e1, rfl, hb, nb, ll, k⟩
  · rw [e] at e2
    cases e2
  · rw [e] at e1
    cases e1
    exact ⟨b, ys, rfl, items_at.mpr hb, nb, ll, k⟩
theorem lz_str {s : Str} (z : Lz C N H H' n v w) (e : w = .str s) : v = .str s := by
  cases n with
  | zero => exact z.1.symm.trans e
  | succ n =>
    rcases z with h | ⟨xs, ys, a, _, rfl, _⟩
    · exact h.1.symm.trans e
    · cases e
/-- its kind: what is no list stands as it stood -/
theorem lz_kn {p l : Addr} {m m2 : Nat} (S : Stm H p l m) (F : Fr H p l m2 H') (z : Lz C N H H' n v w) : Kn C H' w := by
  cases n with
  | zero =>
    obtain ⟨rfl, h1, h2⟩ := z
    exact (kn_but h1 h2 S F.but).1
  | succ n =>
    rcases z with ⟨rfl, h1, h2⟩ | ⟨xs, ys, a, _, rfl, hb, _⟩
    · exact (kn_but h1 h2 S F.but).1
    · exact items_kn (items_at.mpr hb)
/-- its items, told back -/
theorem lz_back {ys : List V} {p l : Addr} {m m2 : Nat} (S : Stm H p l m) (F : Fr H p l m2 H') (z : Lz C N H H' (n + 1) v w) (e : itemsOf H' w = some ys) : ∃ xs, itemsOf H v = some xs ∧ xs.length = ys.length ∧ ∀ (i : Nat) (x y : V), xs[i]? = some x → ys[i]? = some y → ∃ N', Lz C N' H H' n x y := by
  rcases z with ⟨rfl, h1, h2⟩ | ⟨xs, ys', a, h1, rfl, hb, na, ll, k⟩
  · rw [(kn_but h1 h2 S F.but).2] at e
    cases e
  · rw [items_at.mpr hb] at e
    cases e
    exact ⟨xs, h1, ll, fun i x y e1 e2 => ⟨_, k i x y e1 e2⟩⟩
theorem lz_pair {a b : Str} {p l : Addr} {m m2 : Nat} (S : Stm H p l m) (F : Fr H p l m2 H') (z : Lz C N H H' (n + 1) v w) (e : itemsOf H' w = some [.str a, .str b]) : itemsOf H v = some [.str a, .str b] := by
  obtain ⟨xs, h1, ll, k⟩ := lz_back S F z e
  match xs, ll with
  | [x, y], _ =>
    obtain ⟨_, z1⟩ := k 0 x (.str a) rfl rfl
    obtain ⟨_, z2⟩ := k 1 y (.str b) rfl rfl
    rw [h1, lz_str z1 rfl, lz_str z2 rfl]
end
end E1

set_option Elab.async false
set_option linter.all false
set_option maxRecDepth 100000
set_option maxHeartbeats 8000000
/-! What is refused: wishes with one thing wrong, copied loosely. -/
namespace E1
open PySem PySem.Spec PyProof.Rows L2 G0 LamX
/-- odd things: nested n deep, few in each -/
def Ls (C : Addr) (N : Addr → Prop) (H : Hp) : Nat → V → Prop
  | 0 => fun v => Kn C H v ∧ itemsOf H v = none
  | n + 1 => fun v => (Kn C H v ∧ itemsOf H v = none) ∨ ∃ a xs, v = .ref a ∧ itemsOf H v = some xs ∧ N a ∧ xs.length ≤ 6 ∧ ∀ x ∈ xs, Ls C N H n x
def kks : Nat → Nat
  | 0 => 0
  | n + 1 => 1 + 6 * kks n
/-- what is odd stays -/
structure Fm (C : Addr) (N : Addr → Prop) (H H1 : Hp) : Prop where
  kn : ∀ v, Kn C H v → itemsOf H v = none → Kn C H1 v ∧ itemsOf H1 v = none
  it : ∀ a xs, N a → itemsOf H (.ref a) = some xs → itemsOf H1 (.ref a) = some xs
section
variable {C p l : Addr} {H H1 H2 : Hp} {n m m2 i : Nat} {v w : V} {N N0 : Addr → Prop} {pl : List Str}
theorem Fm.same (S : Same H H1) : Fm C N H H1 := ⟨fun v k e => ⟨(k.same S).1, by rw [kn_keeps k S]; exact e⟩, fun a xs _ e => items_same S e⟩
theorem Fm.kx {T : List (Addr × Str)} (S : Stm H p l m) (F : Kx T p l n H H1) (hN : ∀ c, N c → c ≠ p ∧ c ≠ l) : Fm C N H H1 := ⟨fun v k e => kn_kx k e S F, fun a xs h e => F.items e (hN a h)⟩
theorem Fm.trans (F : Fm C N H H1) (G : Fm C N H1 H2) : Fm C N H H2 := ⟨fun v k e => let ⟨a, b⟩ := F.kn v k e; G.kn v a b, fun a xs h e => G.it a xs h (F.it a xs h e)⟩
/-- a list of one's own is written -/
theorem Fm.own {O : Addr} {xs ys : List V} (e : H O = some (.lst xs)) (n : ∀ c, N c → c ≠ O) : Fm C N H (upd H O (.lst ys)) := by
  refine ⟨fun v k h => ?_, fun a zs ha h => items_at.mpr ?_⟩
  · cases k with
    | non => exact ⟨.non, rfl⟩
    | bl b => exact ⟨.bl b, rfl⟩
    | int i => exact ⟨.int i, rfl⟩
    | str x => exact ⟨.str x, rfl⟩
    | lst q => rw [items_at.mpr (.inl q)] at h; cases h
    | tup q => rw [items_at.mpr (.inr q)] at h; cases h
    | @dic a kvs q =>
      have q1 : (upd H O (.lst ys)) a = some (.dK kvs) := by rw [upd_ne (ne_of q e (fun z => by cases z))]; exact q
      exact ⟨.dic q1, by simp only [itemsOf, q1]⟩
    | @own a dx fs q =>
      have q1 : (upd H O (.lst ys)) a = some (.ins C dx fs) := by rw [upd_ne (ne_of q e (fun z => by cases z))]; exact q
      exact ⟨.own q1, by simp only [itemsOf, q1]⟩
  · rw [upd_ne (n a ha)]
    exact items_at.mp h
theorem Ls.weak (k : ∀ c, N c → N0 c) : ∀ {n : Nat} {v : V}, Ls C N H n v → Ls C N0 H n v
  | 0, _, h => h
  | n + 1, _, h => by
    rcases h with h | ⟨a, xs, rfl, h1, h2, h4, h5⟩
    · exact .inl h
    · exact .inr ⟨a, xs, rfl, h1, k a h2, h4, fun x hx => Ls.weak k (h5 x hx)⟩
theorem Ls.fm (F : Fm C N H H1) : ∀ {n : Nat} {v : V}, Ls C N H n v → Ls C N H1 n v
  | 0, _, h => F.kn _ h.1 h.2
  | n + 1, _, h => by
    rcases h with h | ⟨a, xs, rfl, h1, h2, h4, h5⟩
    · exact .inl (F.kn _ h.1 h.2)
    · exact .inr ⟨a, xs, rfl, F.it a xs h2 h1, h2, h4, fun x hx => Ls.fm F (h5 x hx)⟩
theorem Ls.lq (hN : ∀ c, N c → c ≠ p ∧ c ≠ l) : ∀ {n : Nat} {v : V}, Ls C N H n v → Lq C p l H n v (kks n)
  | 0, _, h => h
  | n + 1, _, h => by
    rcases h with h | ⟨a, xs, rfl, h1, h2, h4, h5⟩
    · exact .inl h
    · refine .inr ⟨a, xs, kks n, rfl, h1, (hN a h2).1, (hN a h2).2, by omega, fun x hx => Ls.lq hN (h5 x hx), ?_⟩
      show 1 + xs.length * kks n ≤ 1 + 6 * kks n
      have := Nat.mul_le_mul_right (kks n) h4
      omega
theorem Ls.items_fm (F : Fm C N H H1) (h : Ls C N H (n + 1) v) : itemsOf H1 v = itemsOf H v := by
  rcases h with h | ⟨a, xs, rfl, h1, h2, h4, h5⟩
  · rw [(F.kn _ h.1 h.2).2, h.2]
  · rw [F.it a xs h2 h1, h1]
theorem four_fm (F : Fm C N H H1) (h : Ls C N H (n + 2) v) {z : Wi} (f : Four H1 v z) : Four H v z := by
  obtain ⟨p1, p2, e, e1, e2⟩ := f
  rw [h.items_fm F] at e
  rcases h with h | ⟨a, xs, rfl, h1, h2, h4, h5⟩
  · rw [h.2] at e
    cases e
  · rw [h1] at e
    cases e
    rw [(h5 p1 (by simp)).items_fm F] at e1
    rw [(h5 p2 (by simp)).items_fm F] at e2
    exact ⟨p1, p2, h1, e1, e2⟩
theorem ls_str {s : Str} : Ls C N H n (.str s) := by
  cases n with
  | zero => exact ⟨.str s, rfl⟩
  | succ n => exact .inl ⟨.str s, rfl⟩
theorem ls_ht {ps : List Pr} (h : HT N H v ps) (lp : ps.length ≤ 6) : Ls C N H (n + 2) v := by
  obtain ⟨a, xs, rfl, e, l1, na, k⟩ := h
  refine .inr ⟨a, xs, rfl, e, na, by omega, fun x hx => ?_⟩
  obtain ⟨j, hj⟩ := List.getElem?_of_mem hx
  have hl : j < ps.length := by
    rw [← l1]
    exact (List.getElem?_eq_some_iff.mp hj).1
  obtain ⟨u, y, z, rfl, g1, g2, g3⟩ := k j x _ hj (List.getElem?_eq_getElem hl)
  refine .inr ⟨u, _, rfl, g1, g3, by show 2 ≤ 6; decide, fun y' hy => ?_⟩
  simp only [List.mem_cons, List.not_mem_nil, or_false] at hy
  rcases hy with rfl | rfl
  · exact ls_str
  · exact ls_str
/-! ### a loose copy of it -/
theorem ls_wkn (S : Stm H p l m) (F : Fr H p l m2 H1) (h : Ls C N0 H (n + 2) v) (z : Lz C N H H1 (n + 2) v w) : WKn C H1 w := by
  refine ⟨lz_kn S F z, fun xs e => ?_⟩
  obtain ⟨us, e1, lu, k⟩ := lz_back S F z e
  rcases h with h | ⟨a, xs', rfl, h1, h2, h4, h5⟩
  · rw [h.2] at e1
    cases e1
  · rw [h1] at e1
    cases e1
    refine ⟨by omega, fun x hx => ?_⟩
    obtain ⟨j, hj⟩ := List.getElem?_of_mem hx
    have jl : j < us.length := by
      rw [lu]
      exact (List.getElem?_eq_some_iff.mp hj).1
    obtain ⟨N', z'⟩ := k j _ x (List.getElem?_eq_getElem jl) hj
    refine ⟨lz_kn S F z', fun ys e2 => ?_⟩
    obtain ⟨us2, e3, lu2, k2⟩ := lz_back S F z' e2
    have h6 := h5 _ (List.getElem_mem jl)
    rcases h6 with h6 | ⟨b, ys', eb, g1, g2, g4, g5⟩
    · rw [h6.2] at e3
      cases e3
    · rw [g1] at e3
      cases e3
      refine ⟨by omega, fun y hy => ?_⟩
      obtain ⟨i, hi⟩ := List.getElem?_of_mem hy
      have il : i < us2.length := by
        rw [lu2]
        exact (List.getElem?_eq_some_iff.mp hi).1
      obtain ⟨N2, z2⟩ := k2 i _ y (List.getElem?_eq_getElem il) hi
      exact lz_kn S F z2
theorem lz_four (S : Stm H p l m) (F : Fr H p l m2 H1) (z : Lz C N H H1 (n + 2) v w) {z0 : Wi} (f : Four H1 w z0) : Four H v z0 := by
  obtain ⟨p1, p2, e, e1, e2⟩ := f
  obtain ⟨us, g1, lu, k⟩ := lz_back S F z e
  match us, lu with
  | [u1, u2], _ =>
    obtain ⟨_, z1⟩ := k 0 u1 p1 rfl rfl
    obtain ⟨_, z2⟩ := k 1 u2 p2 rfl rfl
    exact ⟨u1, u2, g1, lz_pair S F z1 e1, lz_pair S F z2 e2⟩
/-! ### wishes -/
theorem ht_pairs {z : Wi} {ps : List Pr} (h : HT N H v ps) (pm : ps.Perm [z.1, z.2]) : ∃ y1 y2 s1 s2 s3 s4, itemsOf H v = some [y1, y2] ∧ itemsOf H y1 = some [.str s1, .str s2] ∧ itemsOf H y2 = some [.str s3, .str s4] ∧ [tp s1 s2, tp s3 s4].Perm [z.1, z.2] := by
  have lp : ps.length = 2 := pm.length_eq
  obtain ⟨q1, q2, rfl⟩ : ∃ q1 q2, ps = [q1, q2] := by
    match ps, lp with
    | [q1, q2], _ => exact ⟨q1, q2, rfl⟩
  obtain ⟨b, ys, rfl, e3, l3, _, k⟩ := h
  obtain ⟨y1, y2, rfl⟩ : ∃ y1 y2, ys = [y1, y2] := by
    match ys, l3 with
    | [y1, y2], _ => exact ⟨y1, y2, rfl⟩
  obtain ⟨u1, s1, s2, rfl, f1, t1, _⟩ := k 0 _ _ rfl rfl
  obtain ⟨u2, s3, s4, rfl, f2, t2, _⟩ := k 1 _ _ rfl rfl
  exact ⟨_, _, s1, s2, s3, s4, e3, f1, f2, by rw [t1, t2]; exact pm⟩
theorem ht_wish {z : Wi} {ps : List Pr} (h : HT N H v ps) (pm : ps.Perm [z.1, z.2]) (o : TwOk pl z) : ∃ z0, WishIs H pl v z0 ∧ tw z0 = z := by
  obtain ⟨y1, y2, s1, s2, s3, s4, e3, f1, f2, pm'⟩ := ht_pairs h pm
  have pf := four_of (z0 := ((s1, s2), (s3, s4))) pm'
  exact ⟨((s1, s2), (s3, s4)), ⟨_, _, e3, f1, f2, fun s hs => o.inn s (pf.mem_iff.mp hs), pf.nodup_iff.mpr o.nd⟩, tw_back o pm'⟩
theorem ht_four {z z0 : Wi} {ps : List Pr} (h : HT N H v ps) (pm : ps.Perm [z.1, z.2]) (o : TwOk pl z) (f : Four H v z0) : tw z0 = z := by
  obtain ⟨y1, y2, s1, s2, s3, s4, e3, f1, f2, pm'⟩ := ht_pairs h pm
  obtain ⟨p1, p2, e, e1, e2⟩ := f
  rw [e3] at e
  cases e
  rw [f1] at e1
  rw [f2] at e2
  injection e1 with e1
  injection e2 with e2
  injection e1 with a1 e1
  injection e1 with a2 _
  injection e2 with a3 e2
  injection e2 with a4 _
  injection a1 with a1
  injection a2 with a2
  injection a3 with a3
  injection a4 with a4
  have : z0 = ((s1, s2), (s3, s4)) := Prod.ext (Prod.ext a1.symm a2.symm) (Prod.ext a3.symm a4.symm)
  rw [this]
  exact tw_back o pm'
/-- the i-th is the first wrong one -/
theorem wbad_of {xs : List V} {zs : List Wi} {odd : V} (S : Stm H p l m) (F : Fr H p l m2 H1) (e : itemsOf H v = some xs) (z : Lz C N H H1 4 v w) (hl : xs.length ≤ 900) {N1 : Addr → Prop} (hls : ∀ x ∈ xs, Ls C N1 H 3 x) (lq : zs.length = i) (nd : zs.Nodup)
    (good : ∀ (j : Nat) (x : V) (z : Wi), xs[j]? = some x → zs[j]? = some z → ∃ ps : List Pr, ps.Perm [z.1, z.2] ∧ HT N0 H x ps) (ok : ∀ z ∈ zs, TwOk pl z) (ho : xs[i]? = some odd) (no : ∀ z0, Four H odd z0 → (∀ s ∈ four z0, s ∈ pl) → (four z0).Nodup → tw z0 ∈ zs) : WsBad C pl H1 w i := by
  obtain ⟨a, ys, rfl, h1, _, h3, h4⟩ := lz_list e z
  have il : i < xs.length := (List.getElem?_eq_some_iff.mp ho).1
  refine ⟨lz_kn S F z, .inr ⟨ys, h1, by omega, fun y hy => ?_, zs, ys[i]'(by omega), List.getElem?_eq_getElem _, lq, ⟨nd, by omega, fun j y z' e1 e2 => ?_⟩, fun z0 w0 => ?_⟩⟩
  · obtain ⟨j, hj⟩ := List.getElem?_of_mem hy
    have jl : j < xs.length := by
      rw [h3]
      exact (List.getElem?_eq_some_iff.mp hj).1
    exact ls_wkn S F (hls _ (List.getElem_mem jl)) (h4 j _ y (List.getElem?_eq_getElem jl) hj)
  · have jl : j < xs.length := by
      rw [h3]
      exact (List.getElem?_eq_some_iff.mp e1).1
    obtain ⟨ps, pm, t⟩ := good j _ z' (List.getElem?_eq_getElem jl) e2
    exact ht_wish (lz_prs t (h4 j _ y (List.getElem?_eq_getElem jl) e1)) pm (ok z' (List.mem_of_getElem? e2))
  · have hz := h4 i odd _ ho (List.getElem?_eq_getElem (by omega))
    obtain ⟨p1, p2, k1, k2, k3, k4, k5⟩ := w0
    exact no z0 (lz_four S F hz ⟨p1, p2, k1, k2, k3⟩) k4 k5
/-- no wish at all -/
def Od (C : Addr) (N : Addr → Prop) (pl : List Str) (H : Hp) (v : V) : Prop := Ls C N H 3 v ∧ ∀ z0, Four H v z0 → (∀ s ∈ four z0, s ∈ pl) → (four z0).Nodup → False
theorem Od.fm (o : Od C N pl H v) (F : Fm C N H H1) : Od C N pl H1 v := ⟨o.1.fm F, fun z0 f => o.2 z0 (four_fm F o.1 f)⟩
theorem Od.weak (o : Od C N pl H v) (k : ∀ c, N c → N0 c) : Od C N0 pl H v := ⟨o.1.weak k, o.2⟩
theorem od_flat (k : Kn C H v) (e : itemsOf H v = none) : Od C N pl H v := ⟨.inl ⟨k, e⟩, fun z0 ⟨p1, p2, f, _⟩ => by
  rw [e] at f
  cases f⟩
theorem od_len {a : Addr} {xs : List V} (e : itemsOf H (.ref a) = some xs) (na : N a) (l6 : xs.length ≤ 6) (n2 : xs.length ≠ 2) (k : ∀ x ∈ xs, Ls C N H 2 x) : Od C N pl H (.ref a) := ⟨.inr ⟨a, xs, rfl, e, na, l6, k⟩, fun z0 ⟨p1, p2, f, _⟩ => by
  rw [e] at f
  cases f
  exact absurd rfl n2⟩
theorem od_two {a : Addr} {x y : V} (e : itemsOf H (.ref a) = some [x, y]) (na : N a) (kx : Ls C N H 2 x) (ky : Ls C N H 2 y) (no : ∀ s1 s2 s3 s4 : Str, itemsOf H x = some [.str s1, .str s2] → itemsOf H y = some [.str s3, .str s4] → (∀ s ∈ [s1, s2, s3, s4], s ∈ pl) → [s1, s2, s3, s4].Nodup → False) : Od C N pl H (.ref a) :=
  ⟨.inr ⟨a, _, rfl, e, na, by show 2 ≤ 6; decide, fun z hz => by
    simp only [List.mem_cons, List.not_mem_nil, or_false] at hz
    rcases hz with rfl | rfl
    · exact kx
    · exact ky⟩, fun z0 ⟨p1, p2, f, f1, f2⟩ h1 h2 => by
    rw [e] at f
    cases f
    exact no _ _ _ _ f1 f2 h1 h2⟩
/-- a list or a tuple of flat things -/
theorem ls_seq {a : Addr} {xs : List V} (e : itemsOf H (.ref a) = some xs) (na : N a) (l6 : xs.length ≤ 6) (k : ∀ x ∈ xs, Ls C N H n x) : Ls C N H (n + 1) (.ref a) := .inr ⟨a, xs, rfl, e, na, l6, k⟩
theorem ls_flat {x : V} (h : scV x = true) : Ls C N H n x := by
  have k : Kn C H x ∧ itemsOf H x = none := by
    cases x with
    | non => exact ⟨.non, rfl⟩
    | bl b => exact ⟨.bl b, rfl⟩
    | int i => exact ⟨.int i, rfl⟩
    | str s => exact ⟨.str s, rfl⟩
    | _ => cases h
  cases n with
  | zero => exact k
  | succ n => exact .inl k
theorem ls_two {a : Addr} {x y : V} (e : itemsOf H (.ref a) = some [x, y]) (na : N a) (hx : scV x = true) (hy : scV y = true) : Ls C N H (n + 1) (.ref a) := ls_seq e na (by show 2 ≤ 6; decide) fun z hz => by
  simp only [List.mem_cons, List.not_mem_nil, or_false] at hz
  rcases hz with rfl | rfl
  · exact ls_flat hx
  · exact ls_flat hy
/-! ### as the heap grows -/
theorem kn_it {x : V} (k : Kn C H x) (e : ExtN H H1) : itemsOf H1 x = itemsOf H x := (kn_ext k e).2.2
theorem WKn.ext (k : WKn C H v) (e : ExtN H H1) : WKn C H1 v := by
  refine ⟨(kn_ext k.1 e).1, fun xs h => ?_⟩
  rw [kn_it k.1 e] at h
  obtain ⟨l1, k1⟩ := k.2 xs h
  refine ⟨l1, fun x hx => ⟨(kn_ext (k1 x hx).1 e).1, fun ys h2 => ?_⟩⟩
  rw [kn_it (k1 x hx).1 e] at h2
  obtain ⟨l2, k2⟩ := (k1 x hx).2 ys h2
  exact ⟨l2, fun y hy => (kn_ext (k2 y hy) e).1⟩
theorem four_ext {z : Wi} (k : WKn C H v) (e : ExtN H H1) (f : Four H1 v z) : Four H v z := by
  obtain ⟨p1, p2, h, h1, h2⟩ := f
  rw [kn_it k.1 e] at h
  obtain ⟨_, k1⟩ := k.2 _ h
  rw [kn_it (k1 p1 (by simp)).1 e] at h1
  rw [kn_it (k1 p2 (by simp)).1 e] at h2
  exact ⟨p1, p2, h, h1, h2⟩
theorem wish_ext {z : Wi} (e : ExtN H H1) (f : WishIs H pl v z) : WishIs H1 pl v z := by
  obtain ⟨p1, p2, h, h1, h2, h3⟩ := f
  exact ⟨p1, p2, ext_itemsV e h, ext_itemsV e h1, ext_itemsV e h2, h3⟩
theorem WsBad.ext (b : WsBad C pl H v i) (e : ExtN H H1) : WsBad C pl H1 v i := by
  obtain ⟨k, h⟩ := b
  refine ⟨(kn_ext k e).1, ?_⟩
  rcases h with ⟨h, rfl⟩ | ⟨xs, h, l1, wk, zs, y, g1, g2, g3, g4⟩
  · exact .inl ⟨by rw [kn_it k e]; exact h, rfl⟩
  · refine .inr ⟨xs, ext_itemsV e h, l1, fun x hx => (wk x hx).ext e, zs, y, g1, g2, ⟨g3.nd, g3.len, fun j x z e1 e2 => ?_⟩, fun z0 w0 => ?_⟩
    · obtain ⟨z0, w0, q⟩ := g3.ok j x z e1 e2
      exact ⟨z0, wish_ext e w0, q⟩
    · obtain ⟨p1, p2, k1, k2, k3, k4, k5⟩ := w0
      obtain ⟨p1', p2', k1', k2', k3'⟩ := four_ext (wk y (List.mem_of_getElem? g1)) e ⟨p1, p2, k1, k2, k3⟩
      exact g4 z0 ⟨p1', p2', k1', k2', k3', k4, k5⟩
end
section
variable {K : PySem.W.Frag} {mg : Str → Option Value} {B : BoardD K mg} {D : NoteD K mg B} {H3 : Hp} {vb vw : V}
/-- Notice(..) refuses a board, and that is met -/
theorem nbad0 {R Q : VK} (kb : Kn B.C H3 vb) (nk : kdOf H3 vb ≠ "") (k : ∀ (H5 : Hp) (u : Addr), Same H3 H5 → H5 u = none → Q (.ref u) (upd H5 u (.tup [.str (nmE 0), vb]))) (a dx : Addr) (nx : H3 a = none) (ndx : H3 dx = none) (ne : dx ≠ a) :
    spNInit D (.ref a :: ([vb, vw] ++ [])) (upd (upd H3 dx (.own a)) a (.ins D.C dx [])) R (Emet D Q) := by
  have Sx : Same H3 (upd (upd H3 dx (.own a)) a (.ins D.C dx [])) := (new_same ndx).trans (new_same (by rw [upd_ne ne.symm]; exact nx))
  obtain ⟨k1, k2⟩ := kb.same Sx
  exact ⟨a, dx, vb, vw, rfl, upd_same, .inl ⟨k1, by rw [k2]; exact nk, fun d H' nd hd S => ⟨0, vb, d, rfl, rfl, hd, fun u nu => k H' u (Sx.trans S) nu⟩⟩⟩
/-- Notice(..) refuses wishes, and that is met -/
theorem nbad1 {R Q : VK} {N : Addr → Prop} {x : Addr} {pl : List Str} {ts : List Pr} {rm : List Str} {i : Nat} (hB : BoardAt N B.C H3 x pl ts rm) (b : WsBad B.C pl H3 vw i) (k : ∀ (H5 : Hp) (u : Addr), Same H3 H5 → H5 u = none → Q (.ref u) (upd H5 u (.tup [.str (nmE 1), .int i]))) (a dx : Addr) (nx : H3 a = none) (ndx : H3 dx = none) (ne : dx ≠ a) :
    spNInit D (.ref a :: ([.ref x, vw] ++ [])) (upd (upd H3 dx (.own a)) a (.ins D.C dx [])) R (Emet D Q) := by
  have Sx : Same H3 (upd (upd H3 dx (.own a)) a (.ins D.C dx [])) := (new_same ndx).trans (new_same (by rw [upd_ne ne.symm]; exact nx))
  exact ⟨a, dx, .ref x, vw, rfl, upd_same, .inr ⟨x, pl, ts, rm, rfl, (hB.same Sx).weak fun _ _ => trivial, .inl ⟨i, b.ext (ExtN.of Sx), fun d H' nd hd S => ⟨1, .int i, d, rfl, rfl, hd, fun u nu => k H' u (Sx.trans S) nu⟩⟩⟩⟩
end
/-- two pairs of the same -/
theorem sm_tup {C : Addr} {H : Hp} {a b : Addr} {s : Str} {v w : V} {n : Nat} (ha : H a = some (.tup [.str s, v])) (hb : H b = some (.tup [.str s, w])) (h : SmN C (n + 1) v w H) : SmN C (n + 2) (.ref a) (.ref b) H := by
  refine .inr (.inr (.inl ⟨a, b, _, _, rfl, rfl, .inr ⟨ha, hb⟩, rfl, by show 2 ≤ 2000; decide, fun i x y e1 e2 => ?_⟩))
  match i, e1, e2 with
  | 0, e1, e2 =>
    cases e1
    cases e2
    exact .inl ⟨rfl, rfl⟩
  | 1, e1, e2 =>
    cases e1
    cases e2
    exact h
  | i + 2, e1, e2 => simp at e1
theorem sm_sc {C : Addr} {H : Hp} {v : V} {n : Nat} (h : scV v = true) : SmN C (n + 1) v v H := .inl ⟨rfl, h⟩
theorem nobody_no : ("nobody" : Str) ∉ allN := by decide +kernel
end E1

set_option Elab.async false
set_option linter.all false
set_option maxRecDepth 100000
set_option maxHeartbeats 8000000
/-! What is one's own under such a frame. -/
namespace E1
open PySem PySem.Spec PyProof.Rows L2 G0 LamX
/-- nothing stood here but a table, perhaps -/
def New (H : Hp) (f : Addr) : Prop := ∀ o, H f = some o → ∃ ps, o = .tbl ps
section
variable {T : List (Addr × Str)} {p l f : Addr} {n : Nat} {H H1 : Hp} {xs ys : List V}
theorem Kx.new (F : Kx T p l n H H1) (h : H1 f = none) : New H f := fun o e => by
  by_cases ht : ∃ ps, o = .tbl ps
  · exact ht
  · have ne := F.ne h
    have := F.but f o e ne.1 ne.2 fun ps q => ht ⟨ps, q⟩
    rw [h] at this
    cases this
theorem tabs_own (t : Tabs T H1) (h : H1 f = some (.lst xs)) : Tabs T (upd H1 f (.lst ys)) := fun q hq => by
  obtain ⟨ps, h1, h2, h3⟩ := t q hq
  refine ⟨ps, by rw [upd_ne (ne_of h1 h (fun z => by cases z))]; exact h1, h2, fun pos cv hc => ?_⟩
  obtain ⟨c, e1, e2⟩ := h3 pos cv hc
  exact ⟨c, e1, by rw [upd_ne (ne_of e2 h (fun z => codeO_lst _ z))]; exact e2⟩
/-- a list of one's own is written -/
theorem Kx.own (F : Kx T p l n H H1) (nf : New H f) (h : H1 f = some (.lst xs)) (ne : f ≠ p ∧ f ≠ l) : Kx T p l n H (upd H1 f (.lst ys)) :=
  ⟨F.st.upd ne.1.symm ne.2.symm, tabs_own F.tb h, fun b o e h1 h2 h3 => by
    by_cases hb : b = f
    · rw [hb] at e
      obtain ⟨ps, q⟩ := nf o e
      exact absurd q (h3 ps)
    · rw [upd_ne hb]
      exact F.but b o e h1 h2 h3⟩
theorem BoardAt.nt {N : Addr → Prop} {C : Addr} {a : Addr} {pl : List Str} {ts : List Pr} {rm : List Str} (b : BoardAt N C H a pl ts rm) : BoardAt (fun c => N c ∧ ∀ ps, H c ≠ some (.tbl ps)) C H a pl ts rm := by
  obtain ⟨dx, aP, aT, aR, aN, tv, l, h1, h2, h3, h4, h5, h6, h7, n1, n2, n3, n4, n5, n6, n7⟩ := b
  refine ⟨dx, aP, aT, aR, aN, tv, l, h1, h2, h3, h4, h5, h6, h7, ⟨n1, fun ps e => by rw [h1] at e; cases e⟩, ⟨n2, fun ps e => by rw [h2] at e; cases e⟩, ⟨n3, fun ps e => by rw [h3] at e; cases e⟩, ⟨n4, fun ps e => by rw [h5] at e; cases e⟩, ⟨n5, fun ps e => by rw [h6.d] at e; cases e⟩,
    fun s hs => ⟨n6 s hs, fun ps e => by rw [h6.at_ s hs] at e; cases e⟩, fun t ht => ⟨n7 t ht, fun ps e => ?_⟩⟩
  obtain ⟨i, hi⟩ := List.getElem?_of_mem ht
  have hl : i < ts.length := by
    rw [← h4.1]
    exact (List.getElem?_eq_some_iff.mp hi).1
  obtain ⟨t', q, ht'⟩ := h4.2 i _ _ hi (List.getElem?_eq_getElem hl)
  cases q
  rw [ht'] at e
  cases e
theorem BoardAt.kx {N : Addr → Prop} {C : Addr} {a : Addr} {pl : List Str} {ts : List Pr} {rm : List Str} (b : BoardAt N C H a pl ts rm) (hN : ∀ c, N c → c ≠ p ∧ c ≠ l) (F : Kx T p l n H H1) : BoardAt (fun _ => True) C H1 a pl ts rm :=
  ((b.nt).frame (H' := H1) fun c o hc e => F.but c o e (hN c hc.1).1 (hN c hc.1).2 fun ps q => hc.2 ps (by rw [e, q])).weak fun _ _ => trivial
theorem BoardAt.kxN {N : Addr → Prop} {C : Addr} {a : Addr} {pl : List Str} {ts : List Pr} {rm : List Str} (b : BoardAt N C H a pl ts rm) (hN : ∀ c, N c → c ≠ p ∧ c ≠ l) (F : Kx T p l n H H1) : BoardAt N C H1 a pl ts rm :=
  ((b.nt).frame (H' := H1) fun c o hc e => F.but c o e (hN c hc.1).1 (hN c hc.1).2 fun ps q => hc.2 ps (by rw [e, q])).weak fun _ h => h.1
theorem BoardAt.ext {N : Addr → Prop} {C : Addr} {a : Addr} {pl : List Str} {ts : List Pr} {rm : List Str} (b : BoardAt N C H a pl ts rm) (e : ExtN H H1) : BoardAt N C H1 a pl ts rm :=
  ((b.nt).frame (H' := H1) fun c o hc q => e c o q fun ps z => hc.2 ps (by rw [q, z])).weak fun _ h => h.1
end
theorem TsOk.len2 {pl : List Str} {ts : List Pr} (t : TsOk pl ts) : ts.length + ts.length ≤ pl.length * pl.length := by
  have nd : (ts ++ ts.map fun q => ((q.2, q.1) : Pr)).Nodup := by
    refine List.nodup_append.mpr ⟨t.nd, nodup_map (fun x y _ _ e => ?_) t.nd, fun x hx y hy e => ?_⟩
    · obtain ⟨a, b⟩ := x
      obtain ⟨c, d⟩ := y
      injection e with e1 e2
      exact Prod.ext e2 e1
    · obtain ⟨z, hz, rfl⟩ := List.mem_map.mp hy
      have l1 := (t.ok x hx).2.2
      have l2 := (t.ok z hz).2.2
      rw [e] at l1
      rw [ltS_asym l1] at l2
      cases l2
  have sub : (ts ++ ts.map fun q => ((q.2, q.1) : Pr)) ⊆ pl.flatMap fun x => pl.map fun y => ((x, y) : Pr) := fun q hq => by
    have key : q.1 ∈ pl ∧ q.2 ∈ pl := by
      rcases List.mem_append.mp hq with hq | hq
      · exact ⟨(t.ok q hq).1, (t.ok q hq).2.1⟩
      · obtain ⟨z, hz, rfl⟩ := List.mem_map.mp hq
        exact ⟨(t.ok z hz).2.1, (t.ok z hz).1⟩
    exact List.mem_flatMap.mpr ⟨q.1, key.1, List.mem_map.mpr ⟨q.2, key.2, rfl⟩⟩
  have := nd.length_le_of_subset sub
  rw [prod_len, List.length_append, List.length_map] at this
  exact this
theorem empty_no : ("" : Str) ∉ allN := by decide +kernel
end E1

set_option Elab.async false
set_option linter.all false
set_option maxRecDepth 100000
set_option maxHeartbeats 16000000
/-! What is refused. -/
namespace E1
open PySem PySem.Spec PyProof.Rows L2 G0 LamX
abbrev N_ref : List Str := ["_law_stream", "_law_raw", "_law_wishes", "_law_board", "_law_places", "_law_odd", "_law_a", "_law_b", "_law_c", "_law_d", "_law_odds", "_law_at", "_law_wish", "_law_some", "_law_held", "_law_found"]
theorem sc_ref : FnScope N_ref ["_law_stream", "_law_raw", "_law_wishes"] (defScope (topS 53)) := ⟨rfl, rfl, rfl, by decide +kernel, rfl, by decide +kernel, by decide +kernel⟩
def q53 : Str := "_law_refused_right.<locals>.<lambda>"
def spRefused (T : List (Addr × Str)) : Sp := fun vs H Q _ => ∃ (p l q d : Addr) (n : Nat) (N : Addr → Prop) (pl : List Str) (ts : List Pr) (rm : List Str) (wv : List V) (ws : List Wi), vs = [.ref p, .ref q, .ref d] ∧ Stm H p l n ∧ n < 600000 ∧ Tabs T H ∧ RawAt N H q pl ts rm ∧ (∀ c, N c → c ≠ p ∧ c ≠ l) ∧ RawOk pl ts rm ∧ 4 ≤ pl.length ∧ H d = some (.lst wv) ∧ N d ∧ WisAt N H wv ws ∧ ws.Nodup ∧ (∀ z ∈ ws, TwOk pl z) ∧ ws.length ≤ 5 ∧
  ∀ H', Stm H' p l (n + 20000) → Tabs T H' → Q (.bl true) H'
section
variable {K : PySem.W.Frag}
/-- loose(stream, zs[:at] + [odd, None] + zs[at:]) -/
theorem some_run {sp : Sp} {E : XK} {p a : Addr} {at_ : Nat} {odd : V} {zs : List V} {σ : L2.St} {H : Hp} {Q : VK} (h0 : σ[0]? = some (some (.ref p))) (ha : σ[2]? = some (some (.ref a))) (h5 : σ[11]? = some (some (.int (at_ : Int)))) (h6 : σ[5]? = some (some odd))
    (hz : H a = some (.lst zs)) (hl : zs.length ≤ 900) (k : ∀ s5 H6, Same H H6 → H6 s5 = some (.lst (zs.take at_ ++ [odd, .non] ++ zs.drop at_)) → H s5 = none → sp [.ref p, .ref s5] H6 Q E) :
    tCall sp [] E (tCons (tVar 0) (tCons (tOp rCat (tOp rCat (tSl (rSlL K) (tVar 2) tNoPart (tPart (tVar 11))) (tLst (tCons (tVar 5) (tCons (tC .non) tNil)))) (tSl (rSlL K) (tVar 2) (tPart (tVar 11)) tNoPart)) tNil)) σ H Q := by
  have h3 : 5000 < sizeLine := by decide
  refine ⟨_, h0, _, ha, _, h5, (at_ : Int), rfl, a, _, rfl, SqL.of hz, fun s1 n1 => ?_⟩
  rw [cut_to]
  refine ⟨_, h6, by show 2 ≤ sizeLine; decide, fun s2 n2 => ⟨s1, s2, _, _, rfl, rfl, new_same n2 _ _ upd_same, upd_same, ?_, fun s3 n3 => ?_⟩⟩
  · rw [List.length_take]
    show min at_ zs.length + 2 ≤ sizeLine
    omega
  · have S3 := ((new_same (o := .lst (zs.take at_)) n1).trans (new_same (o := .lst [odd, .non]) n2)).trans (new_same (o := .lst (zs.take at_ ++ [odd, .non])) n3)
    refine ⟨_, ha, _, h5, (at_ : Int), rfl, a, _, rfl, SqL.of (S3 _ _ hz), fun s4 n4 => ?_⟩
    rw [cut_from]
    refine ⟨s3, s4, _, _, rfl, rfl, new_same n4 _ _ upd_same, upd_same, ?_, fun s5 n5 => ?_⟩
    · rw [List.length_append, List.length_take, List.length_drop]
      show min at_ zs.length + 2 + (zs.length - at_) ≤ sizeLine
      omega
    · have S5 := (S3.trans (new_same (o := .lst (zs.drop at_)) n4)).trans (new_same (o := .lst (zs.take at_ ++ [odd, .non] ++ zs.drop at_)) n5)
      exact k s5 _ S5 upd_same (S3.free ((new_same n4).free n5))
end
/-- three that are the same -/
theorem sm_three {C : Addr} {H : Hp} {a b c : V} {n : Nat} {v : Addr} (e : itemsOf H (.ref v) = some [a, b, c]) (ha : SmN C n a a H) (hb : SmN C n b b H) (hc : SmN C n c c H) : SmN C (n + 1) (.ref v) (.ref v) H := by
  have key : ∀ (i : Nat) (x y : V), [a, b, c][i]? = some x → [a, b, c][i]? = some y → SmN C n x y H := fun i x y e1 e2 => by
    rw [e1] at e2
    cases e2
    have hm := List.mem_of_getElem? e1
    simp only [List.mem_cons, List.not_mem_nil, or_false] at hm
    rcases hm with rfl | rfl | rfl
    · exact ha
    · exact hb
    · exact hc
  rcases items_at.mp e with h | h
  · exact .inr (.inr (.inl ⟨v, v, _, _, rfl, rfl, .inl ⟨h, h⟩, rfl, by show 3 ≤ 2000; decide, key⟩))
  · exact .inr (.inr (.inl ⟨v, v, _, _, rfl, rfl, .inr ⟨h, h⟩, rfl, by show 3 ≤ 2000; decide, key⟩))
theorem sm_prs {C : Addr} {H : Hp} {a : Addr} {vs : List V} {ps : List Pr} {n : Nat} (h : H a = some (.lst vs)) (pt : PrsAt H vs ps) (l : ps.length ≤ 2000) : SmN C (n + 3) (.ref a) (.ref a) H := by
  refine .inr (.inr (.inl ⟨a, a, _, _, rfl, rfl, .inl ⟨h, h⟩, rfl, by rw [pt.1]; exact l, fun i x y e1 e2 => ?_⟩))
  rw [e1] at e2
  cases e2
  have il := (List.getElem?_eq_some_iff.mp e1).1
  obtain ⟨t, rfl, ht⟩ := pt.2 i x _ e1 (List.getElem?_eq_getElem (by rw [← pt.1]; exact il))
  refine .inr (.inr (.inl ⟨t, t, _, _, rfl, rfl, .inr ⟨ht, ht⟩, rfl, by show 2 ≤ 2000; decide, fun i x y e1 e2 => ?_⟩))
  rw [e1] at e2
  cases e2
  have hm := List.mem_of_getElem? e1
  simp only [List.mem_cons, List.not_mem_nil, or_false] at hm
  rcases hm with rfl | rfl
  · exact .inl ⟨rfl, rfl⟩
  · exact .inl ⟨rfl, rfl⟩
theorem wis_kx {T : List (Addr × Str)} {p l : Addr} {m : Nat} {N : Addr → Prop} {H H1 : Hp} {vs : List V} {ws : List Wi} (h : WisAt N H vs ws) (hN : ∀ c, N c → c ≠ p ∧ c ≠ l) (F : Kx T p l m H H1) : WisAt N H1 vs ws := ⟨h.1, fun i v z e1 e2 => by
  obtain ⟨t, e, u1, u2, q1, q2, q3, m1, m2, m3⟩ := h.2 i v z e1 e2
  exact ⟨t, e, u1, u2, F.tup q1 (hN _ m1), F.tup q2 (hN _ m2), F.tup q3 (hN _ m3), m1, m2, m3⟩⟩
section
variable {P : Program} {w : World} {K : PySem.W.Frag} {mg : Str → Option Value} {base : Heap}
theorem bRefused (Z : LawD K mg) : Binds K (Z.d 53) ["_law_stream", "_law_raw", "_law_wishes"] [] := (Z.F 53 (by decide)).binds fun _ _ _ _ _ _ us hl => match us, hl with | [_, _, _], _ => rfl
theorem ok_refused (Z : LawD K mg) (D : NoteD K mg Z.B) (M : MetD D) {T : List (Addr × Str)} {Pt : Addr} (hmT : (Pt, q53) ∈ T) (huT : ∀ q ∈ T, q.1 = Pt → q.2 = q53) (hTB : ∀ (oc : Value) (od : Option Addr) (kV doc pm : Value) (an : Option Addr) (cc : Addr) (ct : Value) (osl : Array (Option Value)), K.lookup (Z.f 53) = some ⟨oc, od, .func (PySem.W.fnOf (tName 53) (tName 53) (defArgs (topS 53)) (defBody (topS 53)) (defScope (topS 53)) .none kV doc pm an (.ref cc) ct), osl⟩ → TabB base mg cc Pt) :
    FnOk P w K mg base CX0 9 (Z.f 53) (Z.d 53) ["_law_stream", "_law_raw", "_law_wishes"] (spRefused T) := by
  have GD : FnOk P w K mg base CX0 1 Z.s.fD Z.s.dD ["_law_stream", "_law_many"] spDr := ok_dr Z.s
  have GL : FnOk P w K mg base CX0 6 (Z.f 50) (Z.d 50) ["_law_stream", "_law_thing"] (spLoose Z.B.C 4) := ok_loose Z 4
  have GLW : FnOk P w K mg base CX0 5 (Z.f 43) (Z.d 43) ["_law_stream", "_law_wish"] spLWish := ok_lwish Z
  have GS : FnOk P w K mg base CX0 7 (Z.f 49) (Z.d 49) ["_law_found", "_law_due"] (spSame (SmN Z.B.C 6)) := ok_same Z 6
  have GI : FnOk P w K mg base (L2.CX P w) 4 (Z.B.f 0) (Z.B.d 0) ["self", "places", "ties", "rim"] (spInit K Z.B) := ok_init Z.B Z.n Z.t
  have GN0 : FnOk P w K mg base (L2.CX P w) 5 (D.f 0) (D.d 0) ["self", "board", "wishes"] (spNInit D) := ok_n0 Z D
  obtain ⟨oc, od, kV, doc, pm, an, cdv, ct, osl, e, lk, hcd⟩ := (Z.F 53 (by decide)).ex
  obtain ⟨cc, rfl⟩ := He.codeIn_ref hcd
  rw [e] at lk ⊢
  have TB := hTB _ _ _ _ _ _ _ _ _ lk
  refine fn_of lk hcd sc_ref (fun vs H Q E h => ?_) (fun A outer s H vs Q E hr h => ⟨_, PSs.nox (pss_cons (ps_asg (pe_tup (pa_cons (pe_make Z.B.M0 GI (hr.mono (by decide)) (by rfl) Z.B.g (bInit Z.B) .nil passL (pa_cons (pe_ix ix_tup (pv 1) pe_int (fun _ _ => rfl)) (pa_cons (pe_ix ix_tup (pv 1) pe_int (fun _ _ => rfl)) (pa_cons (pe_ix ix_tup (pv 1) pe_int (fun _ _ => rfl)) pa_nil)))) (pa_cons (pe_ix ix_tup (pv 1) pe_int (fun _ _ => rfl)) pa_nil))) (by exact (pg_tup rfl (pgs_cons (pg_name (i := 3) sc_ref.nd rfl (Or.inr rfl)) (pgs_cons (pg_name (i := 4) sc_ref.nd rfl (Or.inl rfl)) pgs_nil)))))
  (pss_cons (ps_for PassesOwn.never rfl (pi_tup (pe_tup (pa_cons pe_non (pa_cons pe_int (pa_cons pe_str (pa_cons (pe_lst pa_nil) (pa_cons pe_dnewK (pa_cons pe_bl (pa_cons (pv 1) (pa_cons (pe_callTy call_list_of (by rfl) Z.t.list PyProof.Rows.boot_list (pa_cons (pv 1) pa_nil)) pa_nil)))))))))) (pg_name (i := 5) sc_ref.nd rfl (Or.inr rfl))
    (pss_one (ps_if (pt_not (pt_val (pe_call GS (hr.mono (by decide)) (by rfl) (Z.g 49 (by decide)) (Z.F 49 (by decide)).kp (bSame Z) .nil pass0 (pa_cons (pe_lst (pa_cons (pe_met Z D M (T := T) (c := cc) (P := Pt) (t := fun E => tMake D.C (spNInit D) [] E (tCons (tVar 5) (tCons (tC .non) tNil))) (by rfl) TB rfl hmT huT hr (lamS_by (sc := defScope (topS 53)) (by decide +kernel)) rfl (fun _ _ _ _ _ => rfl) (fun A outer s H E f c' hr2 => pe_make D.M0 GN0 hr2 (by rfl) D.g (b_n0 D) .nil (passes_call (takes_of rfl rfl rfl rfl) (fun _ _ _ _ h => h)) (pa_cons (pv 5) (pa_cons pe_non pa_nil)))) pa_nil)) (pa_cons (pe_lst (pa_cons (pe_tup (pa_cons pe_str (pa_cons (pv 5) pa_nil))) pa_nil)) pa_nil))))) (pss_one (ps_ret pe_bl)) pss_nil)))
  (pss_cons (ps_for PassesOwn.never rfl (pi_tup (pe_tup (pa_cons pe_non (pa_cons pe_int (pa_cons pe_str (pa_cons pe_bl (pa_cons pe_dnewK pa_nil))))))) (pg_name (i := 5) sc_ref.nd rfl (Or.inr rfl))
    (pss_one (ps_if (pt_not (pt_val (pe_call GS (hr.mono (by decide)) (by rfl) (Z.g 49 (by decide)) (Z.F 49 (by decide)).kp (bSame Z) .nil pass0 (pa_cons (pe_met Z D M (T := T) (c := cc) (P := Pt) (t := fun E => tMake D.C (spNInit D) [] E (tCons (tVar 3) (tCons (tVar 5) tNil))) (by rfl) TB rfl hmT huT hr (lamS_by (sc := defScope (topS 53)) (by decide +kernel)) rfl (fun _ _ _ _ _ => rfl) (fun A outer s H E f c' hr2 => pe_make D.M0 GN0 hr2 (by rfl) D.g (b_n0 D) .nil (passes_call (takes_of rfl rfl rfl rfl) (fun _ _ _ _ h => h)) (pa_cons (pv 3) (pa_cons (pv 5) pa_nil)))) (pa_cons (pe_tup (pa_cons pe_str (pa_cons pe_int pa_nil))) pa_nil))))) (pss_one (ps_ret pe_bl)) pss_nil)))
  (pss_cons (ps_asg (pe_slice sl_list (pv 4) po_none (po_some pe_int)) (by exact (pg_lst rfl (pgs_cons (pg_name (i := 6) sc_ref.nd rfl (Or.inl rfl)) (pgs_cons (pg_name (i := 7) sc_ref.nd rfl (Or.inl rfl)) (pgs_cons (pg_name (i := 8) sc_ref.nd rfl (Or.inl rfl)) (pgs_cons (pg_name (i := 9) sc_ref.nd rfl (Or.inl rfl)) pgs_nil)))))))
  (pss_cons (ps_set (i := 10) sc_ref.nd rfl (Or.inl rfl) (pe_lst (pa_cons pe_non (pa_cons pe_int (pa_cons pe_str (pa_cons (pe_lst pa_nil) (pa_cons (pe_lst (pa_cons (pe_tup (pa_cons (pv 6) (pa_cons (pv 7) pa_nil))) pa_nil)) (pa_cons (pe_lst (pa_cons (pe_tup (pa_cons (pv 6) (pa_cons (pv 7) pa_nil))) (pa_cons (pe_tup (pa_cons (pv 8) (pa_cons (pv 9) pa_nil))) (pa_cons (pe_tup (pa_cons (pv 6) (pa_cons (pv 8) pa_nil))) pa_nil)))) (pa_cons (pe_lst (pa_cons (pe_tup (pa_cons (pv 6) (pa_cons (pv 7) pa_nil))) (pa_cons (pe_tup (pa_cons (pv 8) pa_nil)) pa_nil))) (pa_cons (pe_lst (pa_cons (pe_tup (pa_cons (pv 6) (pa_cons (pv 7) pa_nil))) (pa_cons (pe_tup (pa_cons (pv 7) (pa_cons (pv 8) pa_nil))) pa_nil))) pa_nil))))))))))
  (pss_cons (ps_expr (pe_bm PySem.F.plainAttrs_list PySem.F.slot_list_append PySem.F.type_list_append mt_append (pv 10) (pa_cons (pe_lst (pa_cons (pe_tup (pa_cons (pv 6) (pa_cons (pv 6) pa_nil))) (pa_cons (pe_tup (pa_cons (pv 8) (pa_cons (pv 9) pa_nil))) pa_nil))) pa_nil)))
  (pss_cons (ps_expr (pe_bm PySem.F.plainAttrs_list PySem.F.slot_list_extend PySem.F.type_list_extend mt_extend (pv 10) (pa_cons (pe_lst (pa_cons (pe_lst (pa_cons (pe_tup (pa_cons (pv 6) (pa_cons (pv 7) pa_nil))) (pa_cons (pe_tup (pa_cons (pv 8) (pa_cons pe_str pa_nil))) pa_nil))) (pa_cons (pe_lst (pa_cons (pe_tup (pa_cons (pv 6) (pa_cons (pv 7) pa_nil))) (pa_cons (pe_tup (pa_cons (pv 8) (pa_cons pe_non pa_nil))) pa_nil))) (pa_cons (pe_lst (pa_cons (pe_tup (pa_cons (pv 6) (pa_cons (pv 7) pa_nil))) (pa_cons (pe_lst (pa_cons (pv 8) (pa_cons (pe_lst (pa_cons (pv 9) pa_nil)) pa_nil))) pa_nil))) (pa_cons (pe_lst (pa_cons (pv 6) (pa_cons (pv 7) (pa_cons (pv 8) (pa_cons (pv 9) pa_nil))))) (pa_cons (pe_lst (pa_cons (pe_tup (pa_cons (pv 6) (pa_cons (pv 7) pa_nil))) (pa_cons pe_str pa_nil))) (pa_cons pe_dnewK pa_nil))))))) pa_nil)))
  (pss_cons (ps_set (i := 11) sc_ref.nd rfl (Or.inl rfl) (pe_call GD (hr.mono (by decide)) (by rfl) Z.s.gD Z.s.FD.kp (bDr Z.s) .nil pass0 (pa_cons (pv 0) (pa_cons (pe_op op_add (pe_callB call_len_seq (by rfl) Z.t.len PySem.boot_len (pa_cons (pv 2) pa_nil)) pe_int) pa_nil))))
  (pss_cons (ps_for PassesOwn.never rfl (pi_list (pe_op op_cat (pv 10) (pe_lc (own := [("_law_wish", 12)]) (tt := tYes) (te := tCall spLWish [] L2.E0 (tCons (tVar 0) (tCons (tVar 12) tNil))) rfl sc_ref.nd (pi_list (pe_slice sl_list (pv 2) po_none (po_some (pv 11)))) (blkOk_by (own := [("_law_wish", 12)]) (N := N_ref) (sc := defScope (topS 53)) (by decide +kernel)) (fun _ _ _ _ _ => (pg_name (i := 12) sc_ref.nd rfl (Or.inl rfl))) (fun _ _ _ _ _ => pts_nil) (fun _ _ _ _ _ => (pe_call GLW (hr.mono (by decide)) (by rfl) (Z.g 43 (by decide)) (Z.F 43 (by decide)).kp (bLWish Z) .nil pass0 (pa_cons (pv 0) (pa_cons (pv 12) pa_nil))))))) (pg_name (i := 5) sc_ref.nd rfl (Or.inr rfl))
    (pss_cons (ps_set (i := 13) sc_ref.nd rfl (Or.inr rfl) (pe_call GL (hr.mono (by decide)) (by rfl) (Z.g 50 (by decide)) (Z.F 50 (by decide)).kp (bLoose Z) .nil pass0 (pa_cons (pv 0) (pa_cons (pe_op op_cat (pe_op op_cat (pe_slice sl_list (pv 2) po_none (po_some (pv 11))) (pe_lst (pa_cons (pv 5) (pa_cons pe_non pa_nil)))) (pe_slice sl_list (pv 2) (po_some (pv 11)) po_none)) pa_nil))))
  (pss_one (ps_if (pt_not (pt_val (pe_call GS (hr.mono (by decide)) (by rfl) (Z.g 49 (by decide)) (Z.F 49 (by decide)).kp (bSame Z) .nil pass0 (pa_cons (pe_met Z D M (T := T) (c := cc) (P := Pt) (t := fun E => tMake D.C (spNInit D) [] E (tCons (tVar 3) (tCons (tVar 13) tNil))) (by rfl) TB rfl hmT huT hr (lamS_by (sc := defScope (topS 53)) (by decide +kernel)) rfl (fun _ _ _ _ _ => rfl) (fun A outer s H E f c' hr2 => pe_make D.M0 GN0 hr2 (by rfl) D.g (b_n0 D) .nil (passes_call (takes_of rfl rfl rfl rfl) (fun _ _ _ _ h => h)) (pa_cons (pv 3) (pa_cons (pv 13) pa_nil)))) (pa_cons (pe_tup (pa_cons pe_str (pa_cons (pv 11) pa_nil))) pa_nil))))) (pss_one (ps_ret pe_bl)) pss_nil))))
  (pss_cons (ps_set (i := 14) sc_ref.nd rfl (Or.inr rfl) (pe_lst (pa_cons pe_str pa_nil)))
  (pss_cons (ps_set (i := 15) sc_ref.nd rfl (Or.inl rfl) (pe_met Z D M (T := T) (c := cc) (P := Pt) (t := fun E => tMake D.C (spNInit D) [] E (tCons (tVar 14) (tCons (tC .non) tNil))) (by rfl) TB rfl hmT huT hr (lamS_by (sc := defScope (topS 53)) (by decide +kernel)) rfl (fun _ _ _ _ _ => rfl) (fun A outer s H E f c' hr2 => pe_make D.M0 GN0 hr2 (by rfl) D.g (b_n0 D) .nil (passes_call (takes_of rfl rfl rfl rfl) (fun _ _ _ _ h => h)) (pa_cons (pv 14) (pa_cons pe_non pa_nil)))))
  (pss_cons (ps_expr (pe_bm PySem.F.plainAttrs_list PySem.F.slot_list_append PySem.F.type_list_append mt_append (pv 14) (pa_cons pe_str pa_nil)))
  (pss_one (ps_ret (pe_call GS (hr.mono (by decide)) (by rfl) (Z.g 49 (by decide)) (Z.F 49 (by decide)).kp (bSame Z) .nil pass0 (pa_cons (pv 15) (pa_cons (pe_tup (pa_cons pe_str (pa_cons (pv 14) pa_nil))) pa_nil))))))))))))))))), ?_⟩)
  · obtain ⟨p, l, q, d, n, N, pl, ts, rm, wv, ws, rfl, _⟩ := h
    rfl
  · obtain ⟨p, l, q, d, n, N, pl, ts, rm, wv, ws, rfl, S, hn, hT, raw0, hN, ok, l4, hd0, nd0, wi0, wnd, wok, wlen, k⟩ := h
    obtain ⟨aP, aT, aR, tv, g1, g2, g3, g4, g5, nq, nP, nT, nR, nt⟩ := id raw0
    have eP := hN aP nP
    have eT := hN aT nT
    have eR := hN aR nR
    have eq := hN q nq
    have ed := hN d nd0
    have et : ∀ t, V.ref t ∈ tv → t ≠ p ∧ t ≠ l := fun t ht => hN t (nt t ht)
    have lts := ok.ts.len ok.len
    have lpl := ok.len
    have nmP : ∀ z ∈ pl, nameB z = true := fun z hz => ok.name hz
    have lrm : rm.length ≤ 44 := Nat.le_trans (ok.rnd.length_le_of_subset ok.rin) lpl
    have wokS : ∀ z ∈ ws, TwOk (sortS pl) z := fun z hz => (wok z hz).mono fun s hs => sortS_mem.mpr hs
    have lwv : wv.length = ws.length := wi0.1
    have sz : 5000 < sizeLine := by decide
    refine ⟨_, rfl, q, _, 0, _, rfl, rfl, SqT.of g1, rfl, _, rfl, q, _, 1, _, rfl, rfl, SqT.of g1, rfl, _, rfl, q, _, 2, _, rfl, rfl, SqT.of g1, rfl, fun x dx nx ndx ne => init_mk (HP.lst g2 nP) (HT.lst g3 g4 (fun q' hq' => (ok.ts.ok q' hq').2.2) nT nt) (HP.lst g5 nR) ok.nd nmP (by omega) ok.ts (by omega) ok.rnd ok.rin nx ndx ne fun H1 hB1 S1 => ⟨rfl, _, rfl, q, _, 0, _, rfl, rfl, SqT.of (S1 _ _ g1), rfl, by show 2 ≤ sizeLine; decide, fun T1 nT1 => ⟨T1, _, rfl, SqT.of upd_same, rfl, _, _, rfl, _, _, rfl, rfl, ?_⟩⟩⟩
    have K1 := ((Kx.start S hT).same S1).put nT1 (o := .tup [.ref x, .ref aP])
    have hB2 : BoardAt (fun c => c ≠ p ∧ c ≠ l) Z.B.C (upd H1 T1 (.tup [.ref x, .ref aP])) x (sortS pl) (sortPr ts) rm := (hB1.weak fun c hc => (Kx.start S hT).ne hc).same (new_same nT1)
    generalize hH2 : upd H1 T1 (.tup [V.ref x, .ref aP]) = H2 at *
    -- what is no board
    refine ⟨Nat.zero_le _, fun l0 n0 => fun d0 nd0' => ⟨_, rfl, _, rfl, q, _, rfl, .inr (SqT.of (new_same nd0' _ _ (new_same n0 _ _ (K1.tup g1 eq)))), fun L nL => ⟨by show 8 ≤ sizeLine; decide, fun t nt' => ⟨t, rfl, ⟨_, SqT.of upd_same⟩, ?_⟩⟩⟩⟩
    have k0 := K1.ne n0
    have K2 := K1.put n0 (o := .lst [])
    have kd := K2.ne nd0'
    have K3 := K2.put nd0' (o := .dK [])
    have kL := K3.ne nL
    have K4 := K3.put nL (o := .lst [.ref aP, .ref aT, .ref aR])
    have kt := K4.ne nt'
    have K5 := K4.put nt' (o := .tup [.non, .int 5, .str "rim", .ref l0, .ref d0, .bl true, .ref q, .ref L])
    have S25 := (((new_same (o := .lst []) n0).trans (new_same (o := .dK []) nd0')).trans (new_same (o := .lst [.ref aP, .ref aT, .ref aR]) nL)).trans (new_same (o := .tup [.non, .int 5, .str "rim", .ref l0, .ref d0, .bl true, .ref q, .ref L]) nt')
    have f0 := new_same nt' (o := .tup [.non, .int 5, .str "rim", .ref l0, .ref d0, .bl true, .ref q, .ref L]) _ _ (new_same nL (o := .lst [.ref aP, .ref aT, .ref aR]) _ _ (new_same nd0' (o := .dK []) _ _ (upd_same (H := H2) (a := l0) (o := .lst []))))
    have fd := new_same nt' (o := .tup [.non, .int 5, .str "rim", .ref l0, .ref d0, .bl true, .ref q, .ref L]) _ _ (new_same nL (o := .lst [.ref aP, .ref aT, .ref aR]) _ _ (upd_same (H := upd H2 l0 (.lst [])) (a := d0) (o := .dK [])))
    have fL := new_same nt' (o := .tup [.non, .int 5, .str "rim", .ref l0, .ref d0, .bl true, .ref q, .ref L]) _ _ (upd_same (H := upd (upd H2 l0 (.lst [])) d0 (.dK [])) (a := L) (o := .lst [.ref aP, .ref aT, .ref aR]))
    have ft : (upd (upd (upd (upd H2 l0 (.lst [])) d0 (.dK [])) L (.lst [.ref aP, .ref aT, .ref aR])) t (.tup [.non, .int 5, .str "rim", .ref l0, .ref d0, .bl true, .ref q, .ref L])) t = some (.tup [.non, .int 5, .str "rim", .ref l0, .ref d0, .bl true, .ref q, .ref L]) := upd_same
    have hB5 := hB2.same S25
    generalize hH5 : upd (upd (upd (upd H2 l0 (.lst [])) d0 (.dK [])) L (.lst [V.ref aP, .ref aT, .ref aR])) t (.tup [V.non, .int 5, .str "rim", .ref l0, .ref d0, .bl true, .ref q, .ref L]) = H5 at *
    have rawX : ∀ {n' : Nat} {H9 : Hp}, Kx T p l n' H5 H9 → H9 q = some (.tup [.ref aP, .ref aT, .ref aR]) ∧ H9 L = some (.lst [.ref aP, .ref aT, .ref aR]) ∧ SmN Z.B.C 3 (.ref aP) (.ref aP) H9 ∧ SmN Z.B.C 3 (.ref aT) (.ref aT) H9 ∧ SmN Z.B.C 3 (.ref aR) (.ref aR) H9 := fun F =>
      have G := K5.trans F
      ⟨G.tup g1 eq, F.lst fL kL, sm_strs (n := 1) (G.lst g2 eP) (G.lst g2 eP) (by omega), sm_prs (n := 0) (G.lst g3 eT) (G.prs g4 et) (by omega), sm_strs (n := 1) (G.lst g5 eR) (G.lst g5 eR) (by omega)⟩
    have oddA : ∀ y ∈ [V.non, .int 5, .str "rim", .ref l0, .ref d0, .bl true, .ref q, .ref L], ∀ (n' : Nat) (H9 : Hp), Kx T p l n' H5 H9 → Kn Z.B.C H9 y ∧ kdOf H9 y ≠ "" ∧ SmN Z.B.C 4 y y H9 := fun y hy => by
      simp only [List.mem_cons, List.not_mem_nil, or_false] at hy
      rcases hy with rfl | rfl | rfl | rfl | rfl | rfl | rfl | rfl
      · exact fun _ _ F => ⟨.non, by simp only [kdOf]; decide, sm_sc rfl⟩
      · exact fun _ _ F => ⟨.int 5, by simp only [kdOf]; decide, sm_sc rfl⟩
      · exact fun _ _ F => ⟨.str _, by simp only [kdOf]; decide, sm_sc rfl⟩
      · exact fun _ _ F => ⟨.lst (F.lst f0 k0), by simp only [kdOf, F.lst f0 k0]; decide, .inr (.inr (.inl ⟨l0, l0, [], [], rfl, rfl, .inl ⟨F.lst f0 k0, F.lst f0 k0⟩, rfl, by decide, fun i y y2 e1 => by simp at e1⟩))⟩
      · exact fun _ _ F => ⟨.dic (F.but _ _ fd kd.1 kd.2 (fun ps z => by cases z)), by simp only [kdOf, F.but _ _ fd kd.1 kd.2 (fun ps z => by cases z)]; decide, .inr (.inr (.inr ⟨d0, rfl, rfl, F.but _ _ fd kd.1 kd.2 (fun ps z => by cases z), fun H9 b c hb hc => .inr (.inr (.inl ⟨b, c, [], [], rfl, rfl, .inl ⟨hb, hc⟩, rfl, by decide, fun i y y2 e1 => by simp at e1⟩))⟩))⟩
      · exact fun _ _ F => ⟨.bl _, by simp only [kdOf]; decide, sm_sc rfl⟩
      · exact fun _ _ F => have ⟨r1, r2, r3, r4, r5⟩ := rawX F
          ⟨.tup r1, by simp only [kdOf, r1]; decide, sm_three (items_at.mpr (.inr r1)) r3 r4 r5⟩
      · exact fun _ _ F => have ⟨r1, r2, r3, r4, r5⟩ := rawX F
          ⟨.lst r2, by simp only [kdOf, r2]; decide, sm_three (items_at.mpr (.inl r2)) r3 r4 r5⟩
    refine for_tup (xs := [.non, .int 5, .str "rim", .ref l0, .ref d0, .bl true, .ref q, .ref L]) (fun i σ H' => ∃ v5, σ = [some (.ref p), some (.ref q), some (.ref d), some (.ref x), some (.ref aP), v5, none, none, none, none, none, none, none, none, none, none] ∧ Kx T p l n H5 H') ⟨none, rfl, Kx.start K5.st K5.tb⟩ (fun i σ H' _ ⟨_, _, K'⟩ => SqT.of (K'.tup ft kt)) ?_ ?_
    · rintro i y σ H' hy ⟨v5, rfl, K'⟩
      have od := oddA y (List.mem_of_getElem? hy)
      refine ⟨K'.tb, fun H8 e8 T8 => ⟨_, rfl, fun a dxa na ndxa nea => nbad0 (od _ _ (K'.ext e8 T8)).1 (od _ _ (K'.ext e8 T8)).2.1 (fun H10 u S10 nu => ?_) a dxa na ndxa nea⟩⟩
      have K10 := ((K'.ext e8 T8).same S10).put nu (o := .tup [.str (nmE 0), y])
      have hu : (upd H10 u (.tup [.str (nmE 0), y])) u = some (.tup [.str (nmE 0), y]) := upd_same
      generalize hHu : upd H10 u (.tup [.str (nmE 0), y]) = Hu at *
      refine ⟨by show 1 ≤ sizeLine; decide, fun f nf => ⟨_, rfl, by show 2 ≤ sizeLine; decide, fun c1 nc1 => ⟨by show 1 ≤ sizeLine; decide, fun c nc => ?_⟩⟩⟩
      have Sz := ((new_same (o := .lst [.ref u]) nf).trans (new_same (o := .tup [.str "board", y]) nc1)).trans (new_same (o := .lst [.ref c1]) nc)
      have hf := new_same nc (o := .lst [.ref c1]) _ _ (new_same nc1 (o := .tup [.str "board", y]) _ _ (upd_same (a := f) (o := .lst [.ref u]) (H := Hu)))
      have hc1 := new_same nc (o := .lst [.ref c1]) _ _ (upd_same (a := c1) (o := .tup [.str "board", y]) (H := upd Hu f (.lst [.ref u])))
      have Kz := K10.same Sz
      refine ⟨.ref f, .ref c, rfl, .inr (.inr (.inl ⟨f, c, _, _, rfl, rfl, .inl ⟨hf, upd_same⟩, rfl, by show 1 ≤ 2000; decide, fun j y1 y2 e1 e2 => ?_⟩)), fun H14 S14 => ⟨_, rfl, iteF ⟨_, rfl, Kz.same S14⟩⟩⟩
      match j, e1, e2 with
      | 0, e1, e2 =>
        cases e1
        cases e2
        exact sm_tup (n := 3) (Sz _ _ hu) hc1 (od _ _ Kz).2.2
      | j + 1, e1, e2 => simp at e1
    rintro σ H6 ⟨v5, rfl, K6'⟩
    have K6 := K5.trans K6'
    have hB6 := hB5.kx (fun c h => h) K6'
    have hB6' : BoardAt (fun c => c ≠ p ∧ c ≠ l) Z.B.C H6 x (sortS pl) (sortPr ts) rm := hB5.kxN (fun c h => h) K6'
    -- what are no wishes
    refine fun d2 nd2 => ⟨by show 5 ≤ sizeLine; decide, fun t2 nt2 => ⟨t2, rfl, ⟨_, SqT.of upd_same⟩, ?_⟩⟩
    have kd2 := K6.ne nd2
    have K7 := K6.put nd2 (o := .dK [])
    have kt2 := K7.ne nt2
    have K8 := K7.put nt2 (o := .tup [.non, .int 5, .str "ab", .bl true, .ref d2])
    have fd2 := new_same nt2 (o := .tup [.non, .int 5, .str "ab", .bl true, .ref d2]) _ _ (upd_same (H := H6) (a := d2) (o := .dK []))
    have ft2 : (upd (upd H6 d2 (.dK [])) t2 (.tup [.non, .int 5, .str "ab", .bl true, .ref d2])) t2 = some (.tup [.non, .int 5, .str "ab", .bl true, .ref d2]) := upd_same
    have hB8 := hB6'.same ((new_same (o := .dK []) nd2).trans (new_same (o := .tup [.non, .int 5, .str "ab", .bl true, .ref d2]) nt2))
    generalize hH8 : upd (upd H6 d2 (.dK [])) t2 (.tup [V.non, .int 5, .str "ab", .bl true, .ref d2]) = H8 at *
    have oddB : ∀ y ∈ [V.non, .int 5, .str "ab", .bl true, .ref d2], ∀ (n' : Nat) (H9 : Hp), Kx T p l n' H8 H9 → WsBad Z.B.C (sortS pl) H9 y 0 := fun y hy => by
      simp only [List.mem_cons, List.not_mem_nil, or_false] at hy
      rcases hy with rfl | rfl | rfl | rfl | rfl
      · exact fun _ _ F => ⟨.non, .inl ⟨rfl, rfl⟩⟩
      · exact fun _ _ F => ⟨.int 5, .inl ⟨rfl, rfl⟩⟩
      · exact fun _ _ F => ⟨.str _, .inl ⟨rfl, rfl⟩⟩
      · exact fun _ _ F => ⟨.bl _, .inl ⟨rfl, rfl⟩⟩
      · exact fun _ _ F => ⟨.dic (F.but _ _ fd2 kd2.1 kd2.2 (fun ps z => by cases z)), .inl ⟨by simp only [itemsOf, F.but _ _ fd2 kd2.1 kd2.2 (fun ps z => by cases z)], rfl⟩⟩
    refine for_tup (xs := [.non, .int 5, .str "ab", .bl true, .ref d2]) (fun i σ H' => ∃ v5, σ = [some (.ref p), some (.ref q), some (.ref d), some (.ref x), some (.ref aP), v5, none, none, none, none, none, none, none, none, none, none] ∧ Kx T p l n H8 H') ⟨v5, rfl, Kx.start K8.st K8.tb⟩ (fun i σ H' _ ⟨_, _, K'⟩ => SqT.of (K'.tup ft2 kt2)) ?_ ?_
    · rintro i y σ H' hy ⟨v5, rfl, K'⟩
      have od := oddB y (List.mem_of_getElem? hy)
      refine ⟨K'.tb, fun H9 e9 T9 => ⟨_, rfl, _, rfl, fun a dxa na ndxa nea => nbad1 (hB8.kx (fun c h => h) (K'.ext e9 T9)) (od _ _ (K'.ext e9 T9)) (fun H10 u S10 nu => ⟨by show 2 ≤ sizeLine; decide, fun c nc => ⟨.ref u, .ref c, rfl, sm_tup (n := 4) (new_same nc _ _ upd_same) upd_same (sm_sc rfl), fun H11 S11 => ⟨_, rfl, iteF ⟨_, rfl, ?_⟩⟩⟩⟩) a dxa na ndxa nea⟩⟩
      exact ((((K'.ext e9 T9).same S10).put nu).put nc).same S11
    rintro σ H9 ⟨v5, rfl, K9'⟩
    have K9 := K8.trans K9'
    have hB9 : BoardAt (fun c => c ≠ p ∧ c ≠ l) Z.B.C H9 x (sortS pl) (sortPr ts) rm := hB8.kxN (fun c h => h) K9'
    clear oddA oddB rawX K6' K9' K5 K4 K3 K2 K7 K8 hB8 hB6' hB6 hB5
    -- four places
    obtain ⟨x0, x1, x2, x3, rest, hpl⟩ : ∃ x0 x1 x2 x3 rest, pl = x0 :: x1 :: x2 :: x3 :: rest := by
      match pl, l4 with
      | x0 :: x1 :: x2 :: x3 :: rest, _ => exact ⟨x0, x1, x2, x3, rest, rfl⟩
    have tk4 : (pl.map V.str).take 4 = [.str x0, .str x1, .str x2, .str x3] := by
      rw [hpl]
      rfl
    refine ⟨_, rfl, (4 : Int), rfl, aP, _, rfl, SqL.of (K9.lst g2 eP), fun s4 ns4 => ?_⟩
    rw [show cutV (pl.map V.str) none (some 4) = (pl.map V.str).take 4 from cut_to 4, tk4] at *
    refine ⟨s4, _, rfl, SqL.of upd_same, rfl, _, _, rfl, _, _, rfl, _, _, rfl, _, _, rfl, rfl, ?_⟩
    have KG0 := K9.put ns4 (o := .lst [.str x0, .str x1, .str x2, .str x3])
    have hBG0 := hB9.same (new_same (o := .lst [.str x0, .str x1, .str x2, .str x3]) ns4)
    generalize hG0 : upd H9 s4 (.lst [V.str x0, .str x1, .str x2, .str x3]) = G0h at *
    have nob : ("nobody" : Str) ∉ sortS pl := fun h => nobody_no (ok.nm _ (sortS_mem.mp h))
    have C0 := Kx.start KG0.st KG0.tb
    refine ⟨Nat.zero_le _, fun t1 m1 => ?_⟩
    have e1 := C0.ne m1
    have C1 := C0.put m1 (o := .lst [])
    have S1 := new_same m1 (o := .lst [])
    have f1 : (upd G0h t1 (.lst [])) t1 = some (.lst []) := upd_same
    generalize hG1 : upd G0h t1 (.lst []) = G1h at *
    have od1 : Od Z.B.C (fun c => c ≠ p ∧ c ≠ l) (sortS pl) G1h (.ref t1) := od_len (items_at.mpr (.inl f1)) e1 (by show 0 ≤ 6; decide) (by show ¬ 0 = 2; decide) (by simp)
    refine ⟨_, rfl, _, rfl, by show 2 ≤ sizeLine; decide, fun t2 m2 => ?_⟩
    have e2 := C1.ne m2
    have C2 := C1.put m2 (o := .tup [V.str x0, V.str x1])
    have S2 := new_same m2 (o := .tup [V.str x0, V.str x1])
    have f2 : (upd G1h t2 (.tup [V.str x0, V.str x1])) t2 = some (.tup [V.str x0, V.str x1]) := upd_same
    generalize hG2 : upd G1h t2 (.tup [V.str x0, V.str x1]) = G2h at *
    refine ⟨by show 1 ≤ sizeLine; decide, fun t3 m3 => ?_⟩
    have e3 := C2.ne m3
    have C3 := C2.put m3 (o := .lst [V.ref t2])
    have S3 := new_same m3 (o := .lst [V.ref t2])
    have f3 : (upd G2h t3 (.lst [V.ref t2])) t3 = some (.lst [V.ref t2]) := upd_same
    generalize hG3 : upd G2h t3 (.lst [V.ref t2]) = G3h at *
    have od3 : Od Z.B.C (fun c => c ≠ p ∧ c ≠ l) (sortS pl) G3h (.ref t3) := od_len (items_at.mpr (.inl f3)) e3 (by show 1 ≤ 6; decide) (by show ¬ 1 = 2; decide) (fun y hy => by
      simp only [List.mem_cons, List.not_mem_nil, or_false] at hy
      rcases hy with rfl
      · exact (ls_two (n := 1) (items_at.mpr (.inr (S3 _ _ f2))) e2 rfl rfl))
    refine ⟨_, rfl, _, rfl, by show 2 ≤ sizeLine; decide, fun t4 m4 => ?_⟩
    have e4 := C3.ne m4
    have C4 := C3.put m4 (o := .tup [V.str x0, V.str x1])
    have S4 := new_same m4 (o := .tup [V.str x0, V.str x1])
    have f4 : (upd G3h t4 (.tup [V.str x0, V.str x1])) t4 = some (.tup [V.str x0, V.str x1]) := upd_same
    generalize hG4 : upd G3h t4 (.tup [V.str x0, V.str x1]) = G4h at *
    refine ⟨_, rfl, _, rfl, by show 2 ≤ sizeLine; decide, fun t5 m5 => ?_⟩
    have e5 := C4.ne m5
    have C5 := C4.put m5 (o := .tup [V.str x2, V.str x3])
    have S5 := new_same m5 (o := .tup [V.str x2, V.str x3])
    have f5 : (upd G4h t5 (.tup [V.str x2, V.str x3])) t5 = some (.tup [V.str x2, V.str x3]) := upd_same
    generalize hG5 : upd G4h t5 (.tup [V.str x2, V.str x3]) = G5h at *
    refine ⟨_, rfl, _, rfl, by show 2 ≤ sizeLine; decide, fun t6 m6 => ?_⟩
    have e6 := C5.ne m6
    have C6 := C5.put m6 (o := .tup [V.str x0, V.str x2])
    have S6 := new_same m6 (o := .tup [V.str x0, V.str x2])
    have f6 : (upd G5h t6 (.tup [V.str x0, V.str x2])) t6 = some (.tup [V.str x0, V.str x2]) := upd_same
    generalize hG6 : upd G5h t6 (.tup [V.str x0, V.str x2]) = G6h at *
    refine ⟨by show 3 ≤ sizeLine; decide, fun t7 m7 => ?_⟩
    have e7 := C6.ne m7
    have C7 := C6.put m7 (o := .lst [V.ref t4, V.ref t5, V.ref t6])
    have S7 := new_same m7 (o := .lst [V.ref t4, V.ref t5, V.ref t6])
    have f7 : (upd G6h t7 (.lst [V.ref t4, V.ref t5, V.ref t6])) t7 = some (.lst [V.ref t4, V.ref t5, V.ref t6]) := upd_same
    generalize hG7 : upd G6h t7 (.lst [V.ref t4, V.ref t5, V.ref t6]) = G7h at *
    have od7 : Od Z.B.C (fun c => c ≠ p ∧ c ≠ l) (sortS pl) G7h (.ref t7) := od_len (items_at.mpr (.inl f7)) e7 (by show 3 ≤ 6; decide) (by show ¬ 3 = 2; decide) (fun y hy => by
      simp only [List.mem_cons, List.not_mem_nil, or_false] at hy
      rcases hy with rfl | rfl | rfl
      · exact (ls_two (n := 1) (items_at.mpr (.inr (S7 _ _ (S6 _ _ (S5 _ _ f4))))) e4 rfl rfl)
      · exact (ls_two (n := 1) (items_at.mpr (.inr (S7 _ _ (S6 _ _ f5)))) e5 rfl rfl)
      · exact (ls_two (n := 1) (items_at.mpr (.inr (S7 _ _ f6))) e6 rfl rfl))
    refine ⟨_, rfl, _, rfl, by show 2 ≤ sizeLine; decide, fun t8 m8 => ?_⟩
    have e8 := C7.ne m8
    have C8 := C7.put m8 (o := .tup [V.str x0, V.str x1])
    have S8 := new_same m8 (o := .tup [V.str x0, V.str x1])
    have f8 : (upd G7h t8 (.tup [V.str x0, V.str x1])) t8 = some (.tup [V.str x0, V.str x1]) := upd_same
    generalize hG8 : upd G7h t8 (.tup [V.str x0, V.str x1]) = G8h at *
    refine ⟨_, rfl, by show 1 ≤ sizeLine; decide, fun t9 m9 => ?_⟩
    have e9 := C8.ne m9
    have C9 := C8.put m9 (o := .tup [V.str x2])
    have S9 := new_same m9 (o := .tup [V.str x2])
    have f9 : (upd G8h t9 (.tup [V.str x2])) t9 = some (.tup [V.str x2]) := upd_same
    generalize hG9 : upd G8h t9 (.tup [V.str x2]) = G9h at *
    refine ⟨by show 2 ≤ sizeLine; decide, fun t10 m10 => ?_⟩
    have e10 := C9.ne m10
    have C10 := C9.put m10 (o := .lst [V.ref t8, V.ref t9])
    have S10 := new_same m10 (o := .lst [V.ref t8, V.ref t9])
    have f10 : (upd G9h t10 (.lst [V.ref t8, V.ref t9])) t10 = some (.lst [V.ref t8, V.ref t9]) := upd_same
    generalize hG10 : upd G9h t10 (.lst [V.ref t8, V.ref t9]) = G10h at *
    have od10 : Od Z.B.C (fun c => c ≠ p ∧ c ≠ l) (sortS pl) G10h (.ref t10) := od_two (items_at.mpr (.inl f10)) e10 (ls_two (n := 1) (items_at.mpr (.inr (S10 _ _ (S9 _ _ f8)))) e8 rfl rfl) (ls_seq (n := 1) (items_at.mpr (.inr (S10 _ _ f9))) e9 (by show 1 ≤ 6; decide) (fun z hz => by rw [List.mem_singleton.mp hz]; exact ls_flat rfl)) (fun s1 s2 s3 s4 _ h2 => by rw [(items_at.mpr (.inr (S10 _ _ f9)))] at h2; cases h2)
    refine ⟨_, rfl, _, rfl, by show 2 ≤ sizeLine; decide, fun t11 m11 => ?_⟩
    have e11 := C10.ne m11
    have C11 := C10.put m11 (o := .tup [V.str x0, V.str x1])
    have S11 := new_same m11 (o := .tup [V.str x0, V.str x1])
    have f11 : (upd G10h t11 (.tup [V.str x0, V.str x1])) t11 = some (.tup [V.str x0, V.str x1]) := upd_same
    generalize hG11 : upd G10h t11 (.tup [V.str x0, V.str x1]) = G11h at *
    refine ⟨_, rfl, _, rfl, by show 2 ≤ sizeLine; decide, fun t12 m12 => ?_⟩
    have e12 := C11.ne m12
    have C12 := C11.put m12 (o := .tup [V.str x1, V.str x2])
    have S12 := new_same m12 (o := .tup [V.str x1, V.str x2])
    have f12 : (upd G11h t12 (.tup [V.str x1, V.str x2])) t12 = some (.tup [V.str x1, V.str x2]) := upd_same
    generalize hG12 : upd G11h t12 (.tup [V.str x1, V.str x2]) = G12h at *
    refine ⟨by show 2 ≤ sizeLine; decide, fun t13 m13 => ?_⟩
    have e13 := C12.ne m13
    have C13 := C12.put m13 (o := .lst [V.ref t11, V.ref t12])
    have S13 := new_same m13 (o := .lst [V.ref t11, V.ref t12])
    have f13 : (upd G12h t13 (.lst [V.ref t11, V.ref t12])) t13 = some (.lst [V.ref t11, V.ref t12]) := upd_same
    generalize hG13 : upd G12h t13 (.lst [V.ref t11, V.ref t12]) = G13h at *
    have od13 : Od Z.B.C (fun c => c ≠ p ∧ c ≠ l) (sortS pl) G13h (.ref t13) := od_two (items_at.mpr (.inl f13)) e13 (ls_two (n := 1) (items_at.mpr (.inr (S13 _ _ (S12 _ _ f11)))) e11 rfl rfl) (ls_two (n := 1) (items_at.mpr (.inr (S13 _ _ f12))) e12 rfl rfl) (fun s1 s2 s3 s4 h1 h2 _ nd => by rw [(items_at.mpr (.inr (S13 _ _ (S12 _ _ f11))))] at h1; rw [(items_at.mpr (.inr (S13 _ _ f12)))] at h2; cases h1; cases h2; simp at nd)
    have od1 := od1.fm ((((((((((((Fm.same S2).trans (Fm.same S3)).trans (Fm.same S4)).trans (Fm.same S5)).trans (Fm.same S6)).trans (Fm.same S7)).trans (Fm.same S8)).trans (Fm.same S9)).trans (Fm.same S10)).trans (Fm.same S11)).trans (Fm.same S12)).trans (Fm.same S13))
    have od3 := od3.fm ((((((((((Fm.same S4).trans (Fm.same S5)).trans (Fm.same S6)).trans (Fm.same S7)).trans (Fm.same S8)).trans (Fm.same S9)).trans (Fm.same S10)).trans (Fm.same S11)).trans (Fm.same S12)).trans (Fm.same S13))
    have od7 := od7.fm ((((((Fm.same S8).trans (Fm.same S9)).trans (Fm.same S10)).trans (Fm.same S11)).trans (Fm.same S12)).trans (Fm.same S13))
    have od10 := od10.fm (((Fm.same S11).trans (Fm.same S12)).trans (Fm.same S13))
    have B13 := Kx.start C13.st C13.tb
    refine ⟨by show 8 ≤ sizeLine; decide, fun O m14 => ?_⟩
    have e14 := C13.ne m14
    have C14 := C13.put m14 (o := .lst [V.non, V.int 5, V.str "abcd", V.ref t1, V.ref t3, V.ref t7, V.ref t10, V.ref t13])
    have B14 := B13.put m14 (o := .lst [V.non, V.int 5, V.str "abcd", V.ref t1, V.ref t3, V.ref t7, V.ref t10, V.ref t13])
    have S14 := new_same m14 (o := .lst [V.non, V.int 5, V.str "abcd", V.ref t1, V.ref t3, V.ref t7, V.ref t10, V.ref t13])
    have f14 : (upd G13h O (.lst [V.non, V.int 5, V.str "abcd", V.ref t1, V.ref t3, V.ref t7, V.ref t10, V.ref t13])) O = some (.lst [V.non, V.int 5, V.str "abcd", V.ref t1, V.ref t3, V.ref t7, V.ref t10, V.ref t13]) := upd_same
    generalize hG14 : upd G13h O (.lst [V.non, V.int 5, V.str "abcd", V.ref t1, V.ref t3, V.ref t7, V.ref t10, V.ref t13]) = G14h at *
    have fO := f14
    have eO := e14
    have newO : New G0h O := C13.new m14
    have newB : New G13h O := fun o z => by rw [m14] at z; cases z
    refine ⟨_, rfl, .inl ⟨rfl, _, SqL.of fO⟩, ?_⟩
    refine ⟨_, rfl, _, rfl, by show 2 ≤ sizeLine; decide, fun t15 m15 => ?_⟩
    have e15 := C14.ne m15
    have C15 := C14.put m15 (o := .tup [V.str x0, V.str x0])
    have B15 := B14.put m15 (o := .tup [V.str x0, V.str x0])
    have S15 := new_same m15 (o := .tup [V.str x0, V.str x0])
    have f15 : (upd G14h t15 (.tup [V.str x0, V.str x0])) t15 = some (.tup [V.str x0, V.str x0]) := upd_same
    have q15 := (ne_of_none fO m15).symm
    have fO := S15 _ _ fO
    generalize hG15 : upd G14h t15 (.tup [V.str x0, V.str x0]) = G15h at *
    refine ⟨_, rfl, _, rfl, by show 2 ≤ sizeLine; decide, fun t16 m16 => ?_⟩
    have e16 := C15.ne m16
    have C16 := C15.put m16 (o := .tup [V.str x2, V.str x3])
    have B16 := B15.put m16 (o := .tup [V.str x2, V.str x3])
    have S16 := new_same m16 (o := .tup [V.str x2, V.str x3])
    have f16 : (upd G15h t16 (.tup [V.str x2, V.str x3])) t16 = some (.tup [V.str x2, V.str x3]) := upd_same
    have q16 := (ne_of_none fO m16).symm
    have fO := S16 _ _ fO
    generalize hG16 : upd G15h t16 (.tup [V.str x2, V.str x3]) = G16h at *
    refine ⟨by show 2 ≤ sizeLine; decide, fun t17 m17 => ?_⟩
    have e17 := C16.ne m17
    have C17 := C16.put m17 (o := .lst [V.ref t15, V.ref t16])
    have B17 := B16.put m17 (o := .lst [V.ref t15, V.ref t16])
    have S17 := new_same m17 (o := .lst [V.ref t15, V.ref t16])
    have f17 : (upd G16h t17 (.lst [V.ref t15, V.ref t16])) t17 = some (.lst [V.ref t15, V.ref t16]) := upd_same
    have q17 := (ne_of_none fO m17).symm
    have fO := S17 _ _ fO
    generalize hG17 : upd G16h t17 (.lst [V.ref t15, V.ref t16]) = G17h at *
    have od17 : Od Z.B.C (fun c => (c ≠ p ∧ c ≠ l) ∧ c ≠ O) (sortS pl) G17h (.ref t17) := od_two (items_at.mpr (.inl f17)) ⟨e17, q17⟩ (ls_two (n := 1) (items_at.mpr (.inr (S17 _ _ (S16 _ _ f15)))) ⟨e15, q15⟩ rfl rfl) (ls_two (n := 1) (items_at.mpr (.inr (S17 _ _ f16))) ⟨e16, q16⟩ rfl rfl) (fun s1 s2 s3 s4 h1 h2 _ nd => by rw [(items_at.mpr (.inr (S17 _ _ (S16 _ _ f15))))] at h1; rw [(items_at.mpr (.inr (S17 _ _ f16)))] at h2; cases h1; cases h2; simp at nd)
    refine ⟨O, _, .ref t17, rfl, rfl, fO, by show 8 < sizeLine; decide, ?_⟩
    have C18 := C17.own (ys := [V.non, V.int 5, V.str "abcd", V.ref t1, V.ref t3, V.ref t7, V.ref t10, V.ref t13] ++ [V.ref t17]) newO fO eO
    have B18 := B17.own (ys := [V.non, V.int 5, V.str "abcd", V.ref t1, V.ref t3, V.ref t7, V.ref t10, V.ref t13] ++ [V.ref t17]) newB fO eO
    have W18 : Fm Z.B.C (fun c => (c ≠ p ∧ c ≠ l) ∧ c ≠ O) G17h (upd G17h O (.lst ([V.non, V.int 5, V.str "abcd", V.ref t1, V.ref t3, V.ref t7, V.ref t10, V.ref t13] ++ [V.ref t17]))) := Fm.own fO (fun c hc => hc.2)
    have fO : (upd G17h O (.lst ([V.non, V.int 5, V.str "abcd", V.ref t1, V.ref t3, V.ref t7, V.ref t10, V.ref t13] ++ [V.ref t17]))) O = some (.lst ([V.non, V.int 5, V.str "abcd", V.ref t1, V.ref t3, V.ref t7, V.ref t10, V.ref t13] ++ [V.ref t17])) := upd_same
    generalize hG18 : upd G17h O (.lst ([V.non, V.int 5, V.str "abcd", V.ref t1, V.ref t3, V.ref t7, V.ref t10, V.ref t13] ++ [V.ref t17])) = G18h at *
    refine ⟨_, rfl, .inl ⟨rfl, _, SqL.of fO⟩, ?_⟩
    refine ⟨_, rfl, _, rfl, by show 2 ≤ sizeLine; decide, fun t19 m19 => ?_⟩
    have e19 := C18.ne m19
    have C19 := C18.put m19 (o := .tup [V.str x0, V.str x1])
    have B19 := B18.put m19 (o := .tup [V.str x0, V.str x1])
    have S19 := new_same m19 (o := .tup [V.str x0, V.str x1])
    have f19 : (upd G18h t19 (.tup [V.str x0, V.str x1])) t19 = some (.tup [V.str x0, V.str x1]) := upd_same
    have q19 := (ne_of_none fO m19).symm
    have fO := S19 _ _ fO
    generalize hG19 : upd G18h t19 (.tup [V.str x0, V.str x1]) = G19h at *
    refine ⟨_, rfl, by show 2 ≤ sizeLine; decide, fun t20 m20 => ?_⟩
    have e20 := C19.ne m20
    have C20 := C19.put m20 (o := .tup [V.str x2, V.str "nobody"])
    have B20 := B19.put m20 (o := .tup [V.str x2, V.str "nobody"])
    have S20 := new_same m20 (o := .tup [V.str x2, V.str "nobody"])
    have f20 : (upd G19h t20 (.tup [V.str x2, V.str "nobody"])) t20 = some (.tup [V.str x2, V.str "nobody"]) := upd_same
    have q20 := (ne_of_none fO m20).symm
    have fO := S20 _ _ fO
    generalize hG20 : upd G19h t20 (.tup [V.str x2, V.str "nobody"]) = G20h at *
    refine ⟨by show 2 ≤ sizeLine; decide, fun t21 m21 => ?_⟩
    have e21 := C20.ne m21
    have C21 := C20.put m21 (o := .lst [V.ref t19, V.ref t20])
    have B21 := B20.put m21 (o := .lst [V.ref t19, V.ref t20])
    have S21 := new_same m21 (o := .lst [V.ref t19, V.ref t20])
    have f21 : (upd G20h t21 (.lst [V.ref t19, V.ref t20])) t21 = some (.lst [V.ref t19, V.ref t20]) := upd_same
    have q21 := (ne_of_none fO m21).symm
    have fO := S21 _ _ fO
    generalize hG21 : upd G20h t21 (.lst [V.ref t19, V.ref t20]) = G21h at *
    have od21 : Od Z.B.C (fun c => (c ≠ p ∧ c ≠ l) ∧ c ≠ O) (sortS pl) G21h (.ref t21) := od_two (items_at.mpr (.inl f21)) ⟨e21, q21⟩ (ls_two (n := 1) (items_at.mpr (.inr (S21 _ _ (S20 _ _ f19)))) ⟨e19, q19⟩ rfl rfl) (ls_two (n := 1) (items_at.mpr (.inr (S21 _ _ f20))) ⟨e20, q20⟩ rfl rfl) (fun s1 s2 s3 s4 h1 h2 inn _ => by rw [(items_at.mpr (.inr (S21 _ _ f20)))] at h2; cases h2; exact nob (inn _ (by simp)))
    refine ⟨_, rfl, _, rfl, by show 2 ≤ sizeLine; decide, fun t22 m22 => ?_⟩
    have e22 := C21.ne m22
    have C22 := C21.put m22 (o := .tup [V.str x0, V.str x1])
    have B22 := B21.put m22 (o := .tup [V.str x0, V.str x1])
    have S22 := new_same m22 (o := .tup [V.str x0, V.str x1])
    have f22 : (upd G21h t22 (.tup [V.str x0, V.str x1])) t22 = some (.tup [V.str x0, V.str x1]) := upd_same
    have q22 := (ne_of_none fO m22).symm
    have fO := S22 _ _ fO
    generalize hG22 : upd G21h t22 (.tup [V.str x0, V.str x1]) = G22h at *
    refine ⟨_, rfl, by show 2 ≤ sizeLine; decide, fun t23 m23 => ?_⟩
    have e23 := C22.ne m23
    have C23 := C22.put m23 (o := .tup [V.str x2, V.non])
    have B23 := B22.put m23 (o := .tup [V.str x2, V.non])
    have S23 := new_same m23 (o := .tup [V.str x2, V.non])
    have f23 : (upd G22h t23 (.tup [V.str x2, V.non])) t23 = some (.tup [V.str x2, V.non]) := upd_same
    have q23 := (ne_of_none fO m23).symm
    have fO := S23 _ _ fO
    generalize hG23 : upd G22h t23 (.tup [V.str x2, V.non]) = G23h at *
    refine ⟨by show 2 ≤ sizeLine; decide, fun t24 m24 => ?_⟩
    have e24 := C23.ne m24
    have C24 := C23.put m24 (o := .lst [V.ref t22, V.ref t23])
    have B24 := B23.put m24 (o := .lst [V.ref t22, V.ref t23])
    have S24 := new_same m24 (o := .lst [V.ref t22, V.ref t23])
    have f24 : (upd G23h t24 (.lst [V.ref t22, V.ref t23])) t24 = some (.lst [V.ref t22, V.ref t23]) := upd_same
    have q24 := (ne_of_none fO m24).symm
    have fO := S24 _ _ fO
    generalize hG24 : upd G23h t24 (.lst [V.ref t22, V.ref t23]) = G24h at *
    have od24 : Od Z.B.C (fun c => (c ≠ p ∧ c ≠ l) ∧ c ≠ O) (sortS pl) G24h (.ref t24) := od_two (items_at.mpr (.inl f24)) ⟨e24, q24⟩ (ls_two (n := 1) (items_at.mpr (.inr (S24 _ _ (S23 _ _ f22)))) ⟨e22, q22⟩ rfl rfl) (ls_two (n := 1) (items_at.mpr (.inr (S24 _ _ f23))) ⟨e23, q23⟩ rfl rfl) (fun s1 s2 s3 s4 _ h2 => by rw [(items_at.mpr (.inr (S24 _ _ f23)))] at h2; cases h2)
    refine ⟨_, rfl, _, rfl, by show 2 ≤ sizeLine; decide, fun t25 m25 => ?_⟩
    have e25 := C24.ne m25
    have C25 := C24.put m25 (o := .tup [V.str x0, V.str x1])
    have B25 := B24.put m25 (o := .tup [V.str x0, V.str x1])
    have S25 := new_same m25 (o := .tup [V.str x0, V.str x1])
    have f25 : (upd G24h t25 (.tup [V.str x0, V.str x1])) t25 = some (.tup [V.str x0, V.str x1]) := upd_same
    have q25 := (ne_of_none fO m25).symm
    have fO := S25 _ _ fO
    generalize hG25 : upd G24h t25 (.tup [V.str x0, V.str x1]) = G25h at *
    refine ⟨_, rfl, _, rfl, by show 1 ≤ sizeLine; decide, fun t26 m26 => ?_⟩
    have e26 := C25.ne m26
    have C26 := C25.put m26 (o := .lst [V.str x3])
    have B26 := B25.put m26 (o := .lst [V.str x3])
    have S26 := new_same m26 (o := .lst [V.str x3])
    have f26 : (upd G25h t26 (.lst [V.str x3])) t26 = some (.lst [V.str x3]) := upd_same
    have q26 := (ne_of_none fO m26).symm
    have fO := S26 _ _ fO
    generalize hG26 : upd G25h t26 (.lst [V.str x3]) = G26h at *
    refine ⟨by show 2 ≤ sizeLine; decide, fun t27 m27 => ?_⟩
    have e27 := C26.ne m27
    have C27 := C26.put m27 (o := .lst [V.str x2, V.ref t26])
    have B27 := B26.put m27 (o := .lst [V.str x2, V.ref t26])
    have S27 := new_same m27 (o := .lst [V.str x2, V.ref t26])
    have f27 : (upd G26h t27 (.lst [V.str x2, V.ref t26])) t27 = some (.lst [V.str x2, V.ref t26]) := upd_same
    have q27 := (ne_of_none fO m27).symm
    have fO := S27 _ _ fO
    generalize hG27 : upd G26h t27 (.lst [V.str x2, V.ref t26]) = G27h at *
    refine ⟨by show 2 ≤ sizeLine; decide, fun t28 m28 => ?_⟩
    have e28 := C27.ne m28
    have C28 := C27.put m28 (o := .lst [V.ref t25, V.ref t27])
    have B28 := B27.put m28 (o := .lst [V.ref t25, V.ref t27])
    have S28 := new_same m28 (o := .lst [V.ref t25, V.ref t27])
    have f28 : (upd G27h t28 (.lst [V.ref t25, V.ref t27])) t28 = some (.lst [V.ref t25, V.ref t27]) := upd_same
    have q28 := (ne_of_none fO m28).symm
    have fO := S28 _ _ fO
    generalize hG28 : upd G27h t28 (.lst [V.ref t25, V.ref t27]) = G28h at *
    have od28 : Od Z.B.C (fun c => (c ≠ p ∧ c ≠ l) ∧ c ≠ O) (sortS pl) G28h (.ref t28) := od_two (items_at.mpr (.inl f28)) ⟨e28, q28⟩ (ls_two (n := 1) (items_at.mpr (.inr (S28 _ _ (S27 _ _ (S26 _ _ f25))))) ⟨e25, q25⟩ rfl rfl) (ls_seq (n := 1) (items_at.mpr (.inl (S28 _ _ f27))) ⟨e27, q27⟩ (by show 2 ≤ 6; decide) (fun z hz => by
      simp only [List.mem_cons, List.not_mem_nil, or_false] at hz
      rcases hz with rfl | rfl
      · exact ls_flat rfl
      · exact ls_seq (n := 0) (items_at.mpr (.inl (S28 _ _ (S27 _ _ f26)))) ⟨e26, q26⟩ (by show 1 ≤ 6; decide) (fun z hz => by rw [List.mem_singleton.mp hz]; exact ls_flat rfl))) (fun s1 s2 s3 s4 _ h2 => by rw [(items_at.mpr (.inl (S28 _ _ f27)))] at h2; cases h2)
    refine ⟨_, rfl, _, rfl, _, rfl, _, rfl, by show 4 ≤ sizeLine; decide, fun t29 m29 => ?_⟩
    have e29 := C28.ne m29
    have C29 := C28.put m29 (o := .lst [V.str x0, V.str x1, V.str x2, V.str x3])
    have B29 := B28.put m29 (o := .lst [V.str x0, V.str x1, V.str x2, V.str x3])
    have S29 := new_same m29 (o := .lst [V.str x0, V.str x1, V.str x2, V.str x3])
    have f29 : (upd G28h t29 (.lst [V.str x0, V.str x1, V.str x2, V.str x3])) t29 = some (.lst [V.str x0, V.str x1, V.str x2, V.str x3]) := upd_same
    have q29 := (ne_of_none fO m29).symm
    have fO := S29 _ _ fO
    generalize hG29 : upd G28h t29 (.lst [V.str x0, V.str x1, V.str x2, V.str x3]) = G29h at *
    have od29 : Od Z.B.C (fun c => (c ≠ p ∧ c ≠ l) ∧ c ≠ O) (sortS pl) G29h (.ref t29) := od_len (items_at.mpr (.inl f29)) ⟨e29, q29⟩ (by show 4 ≤ 6; decide) (by show ¬ 4 = 2; decide) (fun y hy => by
      simp only [List.mem_cons, List.not_mem_nil, or_false] at hy
      rcases hy with rfl | rfl | rfl | rfl <;> exact ls_flat rfl)
    refine ⟨_, rfl, _, rfl, by show 2 ≤ sizeLine; decide, fun t30 m30 => ?_⟩
    have e30 := C29.ne m30
    have C30 := C29.put m30 (o := .tup [V.str x0, V.str x1])
    have B30 := B29.put m30 (o := .tup [V.str x0, V.str x1])
    have S30 := new_same m30 (o := .tup [V.str x0, V.str x1])
    have f30 : (upd G29h t30 (.tup [V.str x0, V.str x1])) t30 = some (.tup [V.str x0, V.str x1]) := upd_same
    have q30 := (ne_of_none fO m30).symm
    have fO := S30 _ _ fO
    generalize hG30 : upd G29h t30 (.tup [V.str x0, V.str x1]) = G30h at *
    refine ⟨by show 2 ≤ sizeLine; decide, fun t31 m31 => ?_⟩
    have e31 := C30.ne m31
    have C31 := C30.put m31 (o := .lst [V.ref t30, V.str "cd"])
    have B31 := B30.put m31 (o := .lst [V.ref t30, V.str "cd"])
    have S31 := new_same m31 (o := .lst [V.ref t30, V.str "cd"])
    have f31 : (upd G30h t31 (.lst [V.ref t30, V.str "cd"])) t31 = some (.lst [V.ref t30, V.str "cd"]) := upd_same
    have q31 := (ne_of_none fO m31).symm
    have fO := S31 _ _ fO
    generalize hG31 : upd G30h t31 (.lst [V.ref t30, V.str "cd"]) = G31h at *
    have od31 : Od Z.B.C (fun c => (c ≠ p ∧ c ≠ l) ∧ c ≠ O) (sortS pl) G31h (.ref t31) := od_two (items_at.mpr (.inl f31)) ⟨e31, q31⟩ (ls_two (n := 1) (items_at.mpr (.inr (S31 _ _ f30))) ⟨e30, q30⟩ rfl rfl) (ls_flat rfl) (fun s1 s2 s3 s4 _ h2 => by cases h2)
    refine fun t32 m32 => ?_
    have e32 := C31.ne m32
    have C32 := C31.put m32 (o := .dK [])
    have B32 := B31.put m32 (o := .dK [])
    have S32 := new_same m32 (o := .dK [])
    have f32 : (upd G31h t32 (.dK [])) t32 = some (.dK []) := upd_same
    have q32 := (ne_of_none fO m32).symm
    have fO := S32 _ _ fO
    generalize hG32 : upd G31h t32 (.dK []) = G32h at *
    have od32 : Od Z.B.C (fun c => (c ≠ p ∧ c ≠ l) ∧ c ≠ O) (sortS pl) G32h (.ref t32) := od_flat (.dic f32) (by simp only [itemsOf, f32])
    refine ⟨by show 6 ≤ sizeLine; decide, fun t33 m33 => ?_⟩
    have e33 := C32.ne m33
    have C33 := C32.put m33 (o := .lst [V.ref t21, V.ref t24, V.ref t28, V.ref t29, V.ref t31, V.ref t32])
    have B33 := B32.put m33 (o := .lst [V.ref t21, V.ref t24, V.ref t28, V.ref t29, V.ref t31, V.ref t32])
    have S33 := new_same m33 (o := .lst [V.ref t21, V.ref t24, V.ref t28, V.ref t29, V.ref t31, V.ref t32])
    have f33 : (upd G32h t33 (.lst [V.ref t21, V.ref t24, V.ref t28, V.ref t29, V.ref t31, V.ref t32])) t33 = some (.lst [V.ref t21, V.ref t24, V.ref t28, V.ref t29, V.ref t31, V.ref t32]) := upd_same
    have q33 := (ne_of_none fO m33).symm
    have fO := S33 _ _ fO
    generalize hG33 : upd G32h t33 (.lst [V.ref t21, V.ref t24, V.ref t28, V.ref t29, V.ref t31, V.ref t32]) = G33h at *
    refine ⟨O, t33, _, _, rfl, rfl, fO, f33, by show 9 + 6 ≤ sizeLine; decide, ?_⟩
    have C34 := C33.own (ys := ([V.non, V.int 5, V.str "abcd", V.ref t1, V.ref t3, V.ref t7, V.ref t10, V.ref t13] ++ [V.ref t17]) ++ [V.ref t21, V.ref t24, V.ref t28, V.ref t29, V.ref t31, V.ref t32]) newO fO eO
    have B34 := B33.own (ys := ([V.non, V.int 5, V.str "abcd", V.ref t1, V.ref t3, V.ref t7, V.ref t10, V.ref t13] ++ [V.ref t17]) ++ [V.ref t21, V.ref t24, V.ref t28, V.ref t29, V.ref t31, V.ref t32]) newB fO eO
    have W34 : Fm Z.B.C (fun c => (c ≠ p ∧ c ≠ l) ∧ c ≠ O) G33h (upd G33h O (.lst (([V.non, V.int 5, V.str "abcd", V.ref t1, V.ref t3, V.ref t7, V.ref t10, V.ref t13] ++ [V.ref t17]) ++ [V.ref t21, V.ref t24, V.ref t28, V.ref t29, V.ref t31, V.ref t32]))) := Fm.own fO (fun c hc => hc.2)
    have fO : (upd G33h O (.lst (([V.non, V.int 5, V.str "abcd", V.ref t1, V.ref t3, V.ref t7, V.ref t10, V.ref t13] ++ [V.ref t17]) ++ [V.ref t21, V.ref t24, V.ref t28, V.ref t29, V.ref t31, V.ref t32]))) O = some (.lst (([V.non, V.int 5, V.str "abcd", V.ref t1, V.ref t3, V.ref t7, V.ref t10, V.ref t13] ++ [V.ref t17]) ++ [V.ref t21, V.ref t24, V.ref t28, V.ref t29, V.ref t31, V.ref t32])) := upd_same
    generalize hG34 : upd G33h O (.lst (([V.non, V.int 5, V.str "abcd", V.ref t1, V.ref t3, V.ref t7, V.ref t10, V.ref t13] ++ [V.ref t17]) ++ [V.ref t21, V.ref t24, V.ref t28, V.ref t29, V.ref t31, V.ref t32])) = G34h at *
    have od1 := od1.fm (Fm.kx C13.st B34 (fun c h => h))
    have od3 := od3.fm (Fm.kx C13.st B34 (fun c h => h))
    have od7 := od7.fm (Fm.kx C13.st B34 (fun c h => h))
    have od10 := od10.fm (Fm.kx C13.st B34 (fun c h => h))
    have od13 := od13.fm (Fm.kx C13.st B34 (fun c h => h))
    have od17 := (od17.fm ((((((((((((((((W18.trans (Fm.same S19)).trans (Fm.same S20)).trans (Fm.same S21)).trans (Fm.same S22)).trans (Fm.same S23)).trans (Fm.same S24)).trans (Fm.same S25)).trans (Fm.same S26)).trans (Fm.same S27)).trans (Fm.same S28)).trans (Fm.same S29)).trans (Fm.same S30)).trans (Fm.same S31)).trans (Fm.same S32)).trans (Fm.same S33)).trans W34)).weak (N0 := fun c => c ≠ p ∧ c ≠ l) (fun c h => h.1)
    have od21 := (od21.fm (((((((((((((Fm.same S22).trans (Fm.same S23)).trans (Fm.same S24)).trans (Fm.same S25)).trans (Fm.same S26)).trans (Fm.same S27)).trans (Fm.same S28)).trans (Fm.same S29)).trans (Fm.same S30)).trans (Fm.same S31)).trans (Fm.same S32)).trans (Fm.same S33)).trans W34)).weak (N0 := fun c => c ≠ p ∧ c ≠ l) (fun c h => h.1)
    have od24 := (od24.fm ((((((((((Fm.same S25).trans (Fm.same S26)).trans (Fm.same S27)).trans (Fm.same S28)).trans (Fm.same S29)).trans (Fm.same S30)).trans (Fm.same S31)).trans (Fm.same S32)).trans (Fm.same S33)).trans W34)).weak (N0 := fun c => c ≠ p ∧ c ≠ l) (fun c h => h.1)
    have od28 := (od28.fm ((((((Fm.same S29).trans (Fm.same S30)).trans (Fm.same S31)).trans (Fm.same S32)).trans (Fm.same S33)).trans W34)).weak (N0 := fun c => c ≠ p ∧ c ≠ l) (fun c h => h.1)
    have od29 := (od29.fm (((((Fm.same S30).trans (Fm.same S31)).trans (Fm.same S32)).trans (Fm.same S33)).trans W34)).weak (N0 := fun c => c ≠ p ∧ c ≠ l) (fun c h => h.1)
    have od31 := (od31.fm (((Fm.same S32).trans (Fm.same S33)).trans W34)).weak (N0 := fun c => c ≠ p ∧ c ≠ l) (fun c h => h.1)
    have od32 := (od32.fm ((Fm.same S33).trans W34)).weak (N0 := fun c => c ≠ p ∧ c ≠ l) (fun c h => h.1)
    have hBE := hBG0.kxN (fun c h => h) C34
    have KE := KG0.trans C34
    have odX : ∀ y ∈ ([V.non, V.int 5, V.str "abcd", V.ref t1, V.ref t3, V.ref t7, V.ref t10, V.ref t13] ++ [V.ref t17]) ++ [V.ref t21, V.ref t24, V.ref t28, V.ref t29, V.ref t31, V.ref t32], Od Z.B.C (fun c => c ≠ p ∧ c ≠ l) (sortS pl) G34h y := fun y hy => by
      simp only [List.mem_append, List.mem_cons, List.not_mem_nil, or_false] at hy
      rcases hy with ((rfl | rfl | rfl | rfl | rfl | rfl | rfl | rfl) | rfl) | rfl | rfl | rfl | rfl | rfl | rfl
      · exact od_flat .non rfl
      · exact od_flat (.int _) rfl
      · exact od_flat (.str _) rfl
      · exact od1
      · exact od3
      · exact od7
      · exact od10
      · exact od13
      · exact od17
      · exact od21
      · exact od24
      · exact od28
      · exact od29
      · exact od31
      · exact od32
    have lX : (([V.non, V.int 5, V.str "abcd", V.ref t1, V.ref t3, V.ref t7, V.ref t10, V.ref t13] ++ [V.ref t17]) ++ [V.ref t21, V.ref t24, V.ref t28, V.ref t29, V.ref t31, V.ref t32]).length = 15 := rfl
    generalize hX : ([V.non, V.int 5, V.str "abcd", V.ref t1, V.ref t3, V.ref t7, V.ref t10, V.ref t13] ++ [V.ref t17]) ++ [V.ref t21, V.ref t24, V.ref t28, V.ref t29, V.ref t31, V.ref t32] = X at *
    have clr : True := trivial
    have dE := KE.lst hd0 ed
    have wiE := wis_kx wi0 hN KE
    refine ⟨_, rfl, _, rfl, d, _, rfl, .inl (SqL.of dE), _, _, rfl, rfl, p, l, _, ws.length + 1, (by show [V.ref p, V.int (((wv.length : Nat) : Int) + 1)] = _; rw [lwv]; rfl), KE.st, by omega, by omega, by omega, fun a1 HF ha1 FF => ?_⟩
    have a1le : a1 ≤ ws.length := by omega
    have dF := FF.but _ _ dE ed.1 ed.2
    refine ⟨_, rfl, _, rfl, _, rfl, (a1 : Int), rfl, d, _, rfl, SqL.of dF, fun s1 ms1 => ?_⟩
    rw [cut_to]
    have FS := FF.put (FF.free ms1) (o := .lst (wv.take a1))
    have hs1 : (upd HF s1 (.lst (wv.take a1))) s1 = some (.lst (wv.take a1)) := upd_same
    generalize hHS : upd HF s1 (.lst (wv.take a1)) = HS at *
    refine ⟨s1, rfl, ⟨_, SqL.of hs1⟩, fun DD hDD => ?_⟩
    have s1n : s1 ≠ p ∧ s1 ≠ l := FF.st.fr.ne ms1
    have wiS := wis_kx wi0 hN (KE.fr FS)
    have ltk : (wv.take a1).length = a1 := by rw [List.length_take]; omega
    have ltw : (ws.take a1).length = a1 := by rw [List.length_take]; omega
    refine lc_list (xs := wv.take a1) (fun i H' => ∃ acc : List V, H' DD = some (.lst acc) ∧ acc.length = i ∧ (∀ (j : Nat) (y : V) (z : Wi), acc[j]? = some y → (ws.take a1)[j]? = some z → ∃ ps : List Pr, ps.Perm [z.1, z.2] ∧ HT (fun c => HS c = none ∧ c ≠ DD) H' y ps) ∧ Fr HS p l (n + 1 + 20 * i) H') ⟨[], upd_same, rfl, (fun j y z h => by simp at h), (FS.st.fr.put hDD).mono (by omega)⟩ (fun i H' hi ⟨_, _, _, _, F'⟩ => SqL.of (F'.but _ _ hs1 s1n.1 s1n.2)) ?_ ?_
    · rintro i y H' hy ⟨acc, hacc, lac, hpt, F'⟩
      have il := (List.getElem?_eq_some_iff.mp hy).1
      have ez : (ws.take a1)[i]? = some ((ws.take a1)[i]'(by omega)) := List.getElem?_eq_getElem _
      obtain ⟨t0, rfl, wt⟩ := (wiS.take a1).2 i y _ hy ez
      have o := wok _ (List.mem_of_mem_take (List.mem_of_getElem? ez))
      refine ⟨rfl, yes_of ⟨_, rfl, _, rfl, p, l, t0, _, N, _, rfl, F'.st, by omega, wt.frame (fun c o' hc e => F'.but _ _ e (hN c hc).1 (hN c hc).2), hN, o.a, o.b, fun v ps H2' hv pm F2 => ?_⟩⟩
      have acc2 := F'.keep F2 hDD hacc
      have fin : ∀ {y : V} {ps : List Pr}, HT (fun c => HS c = none ∧ c ≠ DD) H2' y ps → HT (fun c => HS c = none ∧ c ≠ DD) (upd H2' DD (.lst (acc ++ [v]))) y ps := fun h => h.frame fun c o hc e => by
        rw [upd_ne hc.2]
        exact e
      refine ⟨acc, acc2, by omega, acc ++ [v], upd_same, by rw [List.length_append, lac]; rfl, fun j y z h1 h2 => ?_, ((F'.trans F2).put hDD).mono (by omega)⟩
      rcases Nat.lt_trichotomy j acc.length with h | h | h
      · rw [List.getElem?_append_left h] at h1
        obtain ⟨ps', p1, p2⟩ := hpt j y z h1 h2
        exact ⟨ps', p1, fin (p2.frame fun c o hc e => F'.keep F2 hc.1 e)⟩
      · rw [List.getElem?_append_right (by omega), h, Nat.sub_self] at h1
        cases h1
        rw [h, lac, ez] at h2
        cases h2
        exact ⟨ps, pm, fin (hv.weak fun c hc => ⟨F'.free hc, fun q' => by rw [q', hacc] at hc; cases hc⟩)⟩
      · rw [List.getElem?_eq_none (by rw [List.length_append]; simp; omega)] at h1
        cases h1
    rintro HD ⟨acc, hacc, lac, hpt, FD⟩
    rw [ltk] at lac FD
    have FED := FS.trans FD
    have fOD := FED.but _ _ fO eO.1 eO.2
    refine ⟨O, DD, X, acc, rfl, rfl, fOD, hacc, by omega, fun R mR => ⟨R, rfl, ⟨_, SqL.of upd_same⟩, ?_⟩⟩
    have KR : Kx T p l (n + 200) G34h (upd HD R (.lst (X ++ acc))) := (((Kx.start KE.st KE.tb).fr FED).put mR).mono (by omega)
    have eR' : R ≠ p ∧ R ≠ l := FED.st.fr.ne mR
    have hR : (upd HD R (.lst (X ++ acc))) R = some (.lst (X ++ acc)) := upd_same
    have odW : ∀ y ∈ X ++ acc, Ls Z.B.C (fun c => c ≠ p ∧ c ≠ l) (upd HD R (.lst (X ++ acc))) 3 y ∧ ∀ z0, Four (upd HD R (.lst (X ++ acc))) y z0 → (∀ s ∈ four z0, s ∈ sortS pl) → (four z0).Nodup → tw z0 ∈ ws.take a1 := fun y hy => by
      rcases List.mem_append.mp hy with hy | hy
      · have o := (odX y hy).fm (Fm.kx KE.st KR (fun c h => h))
        exact ⟨o.1, fun z0 f h1 h2 => (o.2 z0 f h1 h2).elim⟩
      · obtain ⟨j, hj⟩ := List.getElem?_of_mem hy
        have jl := (List.getElem?_eq_some_iff.mp hj).1
        have ez : (ws.take a1)[j]? = some ((ws.take a1)[j]'(by omega)) := List.getElem?_eq_getElem _
        obtain ⟨ps, pm, t1⟩ := hpt j y _ hj ez
        have t2 : HT (fun c => c ≠ p ∧ c ≠ l) (upd HD R (.lst (X ++ acc))) y ps := (t1.frame (H' := upd HD R (.lst (X ++ acc))) fun c o _ e => new_same mR _ _ e).weak fun c hc => FS.st.fr.ne hc.1
        have lp : ps.length = 2 := pm.length_eq
        refine ⟨ls_ht (n := 1) t2 (by omega), fun z0 f _ _ => ?_⟩
        rw [ht_four t2 pm (wok _ (List.mem_of_mem_take (List.mem_of_getElem? ez))) f]
        exact List.mem_of_getElem? ez
    have lXa : (X ++ acc).length ≤ 20 := by rw [List.length_append]; omega
    generalize hHR : upd HD R (.lst (X ++ acc)) = HR at *
    refine for_list (xs := X ++ acc) (fun i σ H' => ∃ v5 v13, σ = [some (.ref p), some (.ref q), some (.ref d), some (.ref x), some (.ref aP), v5, some (.str x0), some (.str x1), some (.str x2), some (.str x3), some (.ref O), some (.int (a1 : Int)), none, v13, none, none] ∧ Kx T p l (n + 200 + 400 * i) HR H') ⟨_, none, rfl, Kx.start KR.st KR.tb⟩ (fun i σ H' _ ⟨_, _, _, K'⟩ => SqL.of (K'.lst hR eR')) ?_ ?_
    · rintro i y σ H' hy ⟨v5, v13, rfl, K'⟩
      have il := (List.getElem?_eq_some_iff.mp hy).1
      obtain ⟨oLs, oF⟩ := odW y (List.mem_of_getElem? hy)
      have dR := (KR.trans K').lst dE ed
      refine some_run rfl rfl rfl rfl dR (by omega) fun s5 H9' S9 hs5 n5 => ?_
      have K9x := K'.same S9
      have s5n := K'.ne n5
      have G9 := KR.trans K9x
      have d9 := G9.lst dE ed
      have wi9 := wis_kx wiE hN G9
      obtain ⟨_, _, ed9, it9, _, _, hw9⟩ := wis_hw d9 nd0 wi9 wok
      cases ed9
      rw [items_at.mpr (.inl d9)] at it9
      cases it9
      have lsw : ∀ y ∈ wv, Ls Z.B.C (fun c => c ≠ p ∧ c ≠ l) H9' 3 y := fun y hy => by
        obtain ⟨j, hj⟩ := List.getElem?_of_mem hy
        have jl := (List.getElem?_eq_some_iff.mp hj).1
        obtain ⟨ps, pm, t1⟩ := hw9 j y _ hj (List.getElem?_eq_getElem (show j < ws.length by omega))
        have lp : ps.length = 2 := pm.length_eq
        exact (ls_ht (n := 1) t1 (by omega)).weak hN
      have oLs9 := oLs.fm (Fm.kx KR.st K9x (fun c h => h))
      have lxs : (wv.take a1 ++ [y, .non] ++ wv.drop a1).length ≤ 7 := by
        rw [List.length_append, List.length_append, ltk, List.length_drop]
        show a1 + 2 + (wv.length - a1) ≤ 7
        omega
      have hls : ∀ z ∈ wv.take a1 ++ [y, .non] ++ wv.drop a1, Ls Z.B.C (fun c => c ≠ p ∧ c ≠ l) H9' 3 z := fun z hz => by
        simp only [List.mem_append, List.mem_cons, List.not_mem_nil, or_false] at hz
        rcases hz with (hz | rfl | rfl) | hz
        · exact lsw z (List.mem_of_mem_take hz)
        · exact oLs9
        · exact ls_flat rfl
        · exact lsw z (List.mem_of_mem_drop hz)
      have at1 : (wv.take a1 ++ [y, .non] ++ wv.drop a1)[a1]? = some y := by
        rw [List.append_assoc, List.getElem?_append_right (by omega), ltk, Nat.sub_self]
        rfl
      have good : ∀ (j : Nat) (x' : V) (z : Wi), (wv.take a1 ++ [y, .non] ++ wv.drop a1)[j]? = some x' → (ws.take a1)[j]? = some z → ∃ ps : List Pr, ps.Perm [z.1, z.2] ∧ HT N H9' x' ps := fun j x' z e1 e2 => by
        have jl := (List.getElem?_eq_some_iff.mp e2).1
        rw [ltw] at jl
        rw [List.append_assoc, List.getElem?_append_left (by omega), List.getElem?_take_of_lt jl] at e1
        rw [List.getElem?_take_of_lt jl] at e2
        exact hw9 j x' z e1 e2
      generalize hXS : wv.take a1 ++ [y, .non] ++ wv.drop a1 = xs at *
      refine ⟨p, l, _, 1 + xs.length * 43, .ref s5, rfl, K9x.st, by omega, .inr ⟨s5, xs, 43, rfl, items_at.mpr (.inl hs5), s5n.1, s5n.2, by omega, fun z hz => Ls.lq (fun c h => h) (hls z hz), Nat.le_refl _⟩, fun w' H10 z10 F10 => ?_⟩
      have b : WsBad Z.B.C (sortS pl) H10 w' a1 := wbad_of (zs := ws.take a1) K9x.st F10 (items_at.mpr (.inl hs5)) z10 (by omega) hls ltw (wnd.sublist (List.take_sublist _ _)) good (fun z hz => wokS z (List.mem_of_mem_take hz)) at1 (fun z0 f h1 h2 => oF z0 (four_fm (Fm.kx KR.st K9x (fun c h => h)) oLs f) h1 h2)
      have K10 := K9x.fr F10
      refine ⟨K10.tb, fun H11 e11 T11 => ⟨_, rfl, _, rfl, fun a dxa na ndxa nea => nbad1 (hBE.kx (fun c h => h) (KR.trans (K10.ext e11 T11))) (b.ext e11) (fun H12 u S12 nu => ⟨_, rfl, by show 2 ≤ sizeLine; decide, fun c nc => ⟨.ref u, .ref c, rfl, sm_tup (n := 4) (new_same nc _ _ upd_same) upd_same (sm_sc rfl), fun H13 S13 => ⟨_, rfl, iteF ⟨_, _, rfl, ?_⟩⟩⟩⟩) a dxa na ndxa nea⟩⟩
      exact (((((K10.ext e11 T11).same S12).put nu).put nc).same S13).mono (by omega)
    rintro σ HG ⟨v5, v13, rfl, KG'⟩
    have KG := (KE.trans (KR.trans KG')).mono (show n + 200 + 400 * (X ++ acc).length ≤ n + 10000 by omega)
    -- a board that is none, changed behind
    refine ⟨by show 1 ≤ sizeLine; decide, fun h mh => ?_⟩
    have KH := KG.put mh (o := .lst [.str "x"])
    have eh := KG.ne mh
    have newh : New HG h := fun o z => by rw [mh] at z; cases z
    have KH' := (Kx.start KG.st KG.tb).put mh (o := .lst [.str "x"])
    have hh : (upd HG h (.lst [.str "x"])) h = some (.lst [.str "x"]) := upd_same
    generalize hHH : upd HG h (.lst [V.str "x"]) = HH at *
    refine ⟨KH.tb, fun H8' e8 T8 => ?_⟩
    have h8 := e8 _ _ hh (fun ps z => by cases z)
    refine ⟨_, rfl, fun a dxa na ndxa nea => nbad0 (.lst h8) (by simp only [kdOf, h8]; decide) (fun H10 u S10 nu => ?_) a dxa na ndxa nea⟩
    have K10 := ((KH'.ext e8 T8).same S10).put nu (o := .tup [.str (nmE 0), .ref h])
    have h10 := new_same nu (o := .tup [.str (nmE 0), .ref h]) _ _ (S10 _ _ h8)
    have hu : (upd H10 u (.tup [.str (nmE 0), .ref h])) u = some (.tup [.str (nmE 0), .ref h]) := upd_same
    generalize hHu : upd H10 u (.tup [.str (nmE 0), .ref h]) = Hu at *
    refine ⟨_, rfl, .inl ⟨rfl, _, SqL.of h10⟩, h, _, .str "late", rfl, rfl, h10, by show 1 < sizeLine; decide, ?_⟩
    have K11 := K10.own (ys := [.str "x"] ++ [.str "late"]) newh h10 eh
    have hu2 : (upd Hu h (.lst ([.str "x"] ++ [.str "late"]))) u = some (.tup [.str (nmE 0), .ref h]) := by
      rw [upd_ne (ne_of hu h10 (fun z => by cases z))]
      exact hu
    have hh2 : (upd Hu h (.lst ([.str "x"] ++ [.str "late"]))) h = some (.lst (([Str.ofString "x", Str.ofString "late"] : List Str).map V.str)) := upd_same
    generalize hHv : upd Hu h (.lst ([V.str "x"] ++ [V.str "late"])) = Hv at *
    refine ⟨_, rfl, _, rfl, by show 2 ≤ sizeLine; decide, fun c nc => ⟨.ref u, .ref c, rfl, sm_tup (n := 4) (new_same nc _ _ hu2) upd_same (sm_strs (n := 3) (new_same nc _ _ hh2) (new_same nc _ _ hh2) (by decide)), fun H14 S14 => ?_⟩⟩
    have K14 := (K11.put nc (o := .tup [.str "board", .ref h])).same S14
    exact k H14 (K14.st.mono (by omega)) K14.tb
end
end E1

set_option Elab.async false
set_option linter.all false
set_option maxRecDepth 100000
set_option maxHeartbeats 16000000
/-! The law. -/
namespace E1
open PySem PySem.Spec PyProof.Rows L2 G0 LamX
abbrev N_lw : List Str := ["_law_script", "_law_stream", "_law_turn", "_law_raw", "_law_wishes", "_law_some", "_law_found"]
theorem sc_lw : FnScope N_lw ["_law_script"] (defScope (topS 54)) := ⟨rfl, rfl, rfl, by decide +kernel, rfl, by decide +kernel, by decide +kernel⟩
def q54 : Str := "law.<locals>.<lambda>"
def spLw (K : PySem.W.Frag) (T : List (Addr × Str)) : Sp := fun vs H Q _ => ∃ (a : Addr) (ns : List Int), vs = [.ref a] ∧ SqL K H a (ns.map V.int) ∧ Tabs T H ∧ ∀ H', Q (.bl true) H'
theorem huR {Pt Pl : Addr} (hne : Pt ≠ Pl) : ∀ q ∈ [(Pt, q53), (Pl, q54)], q.1 = Pt → q.2 = q53 := fun q hq e => by
  simp only [List.mem_cons, List.not_mem_nil, or_false] at hq
  rcases hq with rfl | rfl
  · rfl
  · exact absurd e.symm hne
theorem huL {Pt Pl : Addr} (hne : Pt ≠ Pl) : ∀ q ∈ [(Pt, q53), (Pl, q54)], q.1 = Pl → q.2 = q54 := fun q hq e => by
  simp only [List.mem_cons, List.not_mem_nil, or_false] at hq
  rcases hq with rfl | rfl
  · exact absurd e hne
  · rfl
section
variable {C p l : Addr} {H : Hp} {N : Addr → Prop} {n : Nat} {v : V}
theorem ls_kn (h : Ls C N H n v) : Kn C H v := by
  cases n with
  | zero => exact h.1
  | succ n =>
    rcases h with h | ⟨a, xs, rfl, e, _⟩
    · exact h.1
    · exact items_kn e
theorem ls_wk (h : Ls C N H (n + 2) v) : WKn C H v := by
  refine ⟨ls_kn h, fun xs e => ?_⟩
  rcases h with h | ⟨a, xs', rfl, e1, _, l1, k⟩
  · rw [h.2] at e
    cases e
  · rw [e1] at e
    cases e
    refine ⟨by omega, fun x hx => ⟨ls_kn (k x hx), fun ys e2 => ?_⟩⟩
    rcases k x hx with h | ⟨b, ys', rfl, e3, _, l2, k2⟩
    · rw [h.2] at e2
      cases e2
    · rw [e3] at e2
      cases e2
      exact ⟨by omega, fun y hy => ls_kn (k2 y hy)⟩
end
def abN : List Str := ["a", "b", "c", "d"]
theorem abN_nd : abN.Nodup := by decide
theorem abN_nm : ∀ z ∈ abN, nameB z = true := fun z hz => List.all_eq_true.mp (by decide +kernel : abN.all nameB = true) z hz
def w1 : Wi := (("a", "b"), ("c", "d"))
def w1' : Wi := (("d", "c"), ("b", "a"))
def w2 : Wi := (("a", "c"), ("b", "d"))
theorem tw_w1 : tw w1 = w1 := by decide +kernel
theorem tw_w1' : tw w1' = w1 := by decide +kernel
theorem w_in (z : Wi) (h : (four z).all (fun s => decide (s ∈ abN)) = true) : ∀ s ∈ four z, s ∈ sortS abN := fun s hs => sortS_mem.mpr (of_decide_eq_true (List.all_eq_true.mp h s hs))
theorem w2_ok : TwOk (sortS abN) w2 := ⟨by decide +kernel, by decide +kernel, by decide +kernel, by decide, w_in w2 (by decide +kernel)⟩
theorem four_uniq2 {H : Hp} {v : V} {x y : Wi} (f : Four H v x) (g : Four H v y) : x = y := four_uniq f g
section
variable {P : Program} {w : World} {K : PySem.W.Frag} {mg : Str → Option Value} {base : Heap}
theorem ok_lw (Z : LawD K mg) (D : NoteD K mg Z.B) (M : MetD D) {Pt Pl : Addr} (hne : Pt ≠ Pl) (hTB : ∀ (oc : Value) (od : Option Addr) (kV doc pm : Value) (an : Option Addr) (cc : Addr) (ct : Value) (osl : Array (Option Value)), K.lookup (Z.f 53) = some ⟨oc, od, .func (PySem.W.fnOf (tName 53) (tName 53) (defArgs (topS 53)) (defBody (topS 53)) (defScope (topS 53)) .none kV doc pm an (.ref cc) ct), osl⟩ → TabB base mg cc Pt)
    (hTL : ∀ (oc : Value) (od : Option Addr) (kV doc pm : Value) (an : Option Addr) (cc : Addr) (ct : Value) (osl : Array (Option Value)), K.lookup (Z.f 54) = some ⟨oc, od, .func (PySem.W.fnOf (tName 54) (tName 54) (defArgs (topS 54)) (defBody (topS 54)) (defScope (topS 54)) .none kV doc pm an (.ref cc) ct), osl⟩ → TabB base mg cc Pl)
    {os : Obj} (hsys : K.lookup sysModules = some os) : FnOkG P w K mg base 10 (Z.f 54) (Z.d 54) ["_law_script"] (spLw K [(Pt, q53), (Pl, q54)]) := by
  have GD : FnOk P w K mg base CX0 1 Z.s.fD Z.s.dD ["_law_stream", "_law_many"] spDr := ok_dr Z.s
  have G0 : FnOk P w K mg base CX0 1 Z.s.fS Z.s.dS ["_law_script"] (spSt K) := ok_st Z.s
  have GA : FnOk P w K mg base CX0 5 (Z.f 39) (Z.d 39) ["_law_stream", "_law_many"] spABoard := ok_a_board Z
  have GY : FnOk P w K mg base CX0 4 (Z.f 33) (Z.d 33) ["_law_stream", "_law_many", "_law_pins", "_law_share"] spAny := ok_a_any Z
  have GWS : FnOk P w K mg base CX0 3 (Z.f 42) (Z.d 42) ["_law_stream", "_law_places", "_law_many"] spAWishes := ok_awishes Z
  have GPK : FnOk P w K mg base CX0 2 (Z.f 47) (Z.d 47) ["_law_stream", "_law_some"] (spPick K) := ok_pick Z
  have GR : FnOkG P w K mg base 8 (Z.f 52) (Z.d 52) ["_law_stream", "_law_raw", "_law_due"] spToldR := ok_toldR Z D hsys
  have GX : FnOk P w K mg base CX0 9 (Z.f 53) (Z.d 53) ["_law_stream", "_law_raw", "_law_wishes"] (spRefused [(Pt, q53), (Pl, q54)]) := ok_refused Z D M List.mem_cons_self (huR hne) hTB
  have GS : FnOk P w K mg base CX0 7 (Z.f 49) (Z.d 49) ["_law_found", "_law_due"] (spSame (SmN Z.B.C 6)) := ok_same Z 6
  have GI : FnOk P w K mg base (L2.CX P w) 4 (Z.B.f 0) (Z.B.d 0) ["self", "places", "ties", "rim"] (spInit K Z.B) := ok_init Z.B Z.n Z.t
  have GN0 : FnOk P w K mg base (L2.CX P w) 5 (D.f 0) (D.d 0) ["self", "board", "wishes"] (spNInit D) := ok_n0 Z D
  have G3 : FnOk P w K mg base CX0 1 (D.f 3) (D.d 3) ["self"] (spNWish D.C) := ok_n3 Z D
  obtain ⟨oc, od, kV, doc, pm, an, cdv, ct, osl, e, lk, hcd⟩ := (Z.F 54 (by decide)).ex
  obtain ⟨cc, rfl⟩ := He.codeIn_ref hcd
  rw [e] at lk ⊢
  have TB := hTL _ _ _ _ _ _ _ _ _ lk
  refine fnG_of lk hcd sc_lw (fun vs H Q E h => ?_) (fun A outer s H vs Q E hg0 hr h => ⟨_, PSs.nox (pss_cons (ps_set (i := 1) sc_lw.nd rfl (Or.inl rfl) (pe_call G0 (hr.mono (by decide)) (by rfl) Z.s.gS Z.s.FS.kp (bSt Z.s) .nil pass0 (pa_cons (pv 0) pa_nil)))
  (pss_cons (ps_for PassesOwn.never rfl (pi_range1 (by rfl) (Z.free "range" (by decide)) (pa_cons pe_int pa_nil)) (pg_name (i := 2) sc_lw.nd rfl (Or.inl rfl))
    (pss_cons (ps_for PassesOwn.never rfl (pi_tup (pe_tup (pa_cons (pe_call GA (hr.mono (by decide)) (by rfl) (Z.g 39 (by decide)) (Z.F 39 (by decide)).kp (bABoard Z) .nil pass0 (pa_cons (pv 1) (pa_cons pe_int pa_nil))) (pa_cons (pe_call GY (hr.mono (by decide)) (by rfl) (Z.g 33 (by decide)) (Z.F 33 (by decide)).kp (bAny Z) .nil pass0 (pa_cons (pv 1) (pa_cons (pe_op op_add pe_int (pe_call GD (hr.mono (by decide)) (by rfl) Z.s.gD Z.s.FD.kp (bDr Z.s) .nil pass0 (pa_cons (pv 1) (pa_cons pe_int pa_nil)))) (pa_cons pe_int (pa_cons pe_int pa_nil))))) pa_nil)))) (pg_name (i := 3) sc_lw.nd rfl (Or.inl rfl))
    (pss_cons (ps_set (i := 4) sc_lw.nd rfl (Or.inl rfl) (pe_call GWS (hr.mono (by decide)) (by rfl) (Z.g 42 (by decide)) (Z.F 42 (by decide)).kp (bAWishes Z) .nil pass0 (pa_cons (pv 1) (pa_cons (pe_ix ix_tup (pv 3) pe_int (fun _ _ => rfl)) (pa_cons (pe_call GPK (hr.mono (by decide)) (by rfl) (Z.g 47 (by decide)) (Z.F 47 (by decide)).kp (bPick Z) .nil pass0 (pa_cons (pv 1) (pa_cons (pe_lst (pa_cons pe_int (pa_cons pe_int (pa_cons pe_int (pa_cons pe_int pa_nil))))) pa_nil))) pa_nil)))))
  (pss_one (ps_if (pt_not (pt_val (pe_callG GR (deeper_g hg0) (hr.mono (by decide)) (by rfl) (Z.g 52 (by decide)) (Z.F 52 (by decide)).kp (bToldR Z) (pa_cons (pv 1) (pa_cons (pv 3) (pa_cons (pv 4) pa_nil)))))) (pss_one (ps_ret pe_bl)) pss_nil))))
  (pss_one (ps_if (pt_not (pt_val (pe_call GX (hr.mono (by decide)) (by rfl) (Z.g 53 (by decide)) (Z.F 53 (by decide)).kp (bRefused Z) .nil pass0 (pa_cons (pv 1) (pa_cons (pv 3) (pa_cons (pv 4) pa_nil)))))) (pss_one (ps_ret pe_bl)) pss_nil))))
  (pss_cons (ps_set (i := 5) sc_lw.nd rfl (Or.inr rfl) (pe_make Z.B.M0 GI (hr.mono (by decide)) (by rfl) Z.B.g (bInit Z.B) .nil passL (pa_cons (pe_lst (pa_cons pe_str (pa_cons pe_str (pa_cons pe_str (pa_cons pe_str pa_nil))))) (pa_cons (pe_lst pa_nil) (pa_cons (pe_lst pa_nil) pa_nil)))))
  (pss_cons (ps_set (i := 6) sc_lw.nd rfl (Or.inl rfl) (pe_lst (pa_cons (pe_met Z D M (T := [(Pt, q53), (Pl, q54)]) (c := cc) (P := Pl) (t := fun E => tMake D.C (spNInit D) [] E (tCons (tVar 5) (tCons (tLst (tCons (tLst (tCons (tLst (tCons (tC (.str "a")) (tCons (tC (.str "b")) tNil))) (tCons (tLst (tCons (tC (.str "c")) (tCons (tC (.str "d")) tNil))) tNil))) (tCons (tLst (tCons (tLst (tCons (tC (.str "d")) (tCons (tC (.str "c")) tNil))) (tCons (tLst (tCons (tC (.str "b")) (tCons (tC (.str "a")) tNil))) tNil))) tNil))) tNil))) (by rfl) TB rfl (List.mem_cons_of_mem _ List.mem_cons_self) (huL hne) (hr.mono (by decide)) (lamS_by (sc := defScope (topS 54)) (by decide +kernel)) rfl (fun _ _ _ _ _ => rfl) (fun A outer s H E f c' hr2 => pe_make D.M0 GN0 hr2 (by rfl) D.g (b_n0 D) .nil (passes_call (takes_of rfl rfl rfl rfl) (fun _ _ _ _ h => h)) (pa_cons (pv 5) (pa_cons (pe_lst (pa_cons (pe_lst (pa_cons (pe_lst (pa_cons pe_str (pa_cons pe_str pa_nil))) (pa_cons (pe_lst (pa_cons pe_str (pa_cons pe_str pa_nil))) pa_nil))) (pa_cons (pe_lst (pa_cons (pe_lst (pa_cons pe_str (pa_cons pe_str pa_nil))) (pa_cons (pe_lst (pa_cons pe_str (pa_cons pe_str pa_nil))) pa_nil))) pa_nil))) pa_nil)))) pa_nil)))
  (pss_cons (ps_expr (pe_bm PySem.F.plainAttrs_list PySem.F.slot_list_append PySem.F.type_list_append mt_append (pv 6) (pa_cons (pe_meth0 (pe_make D.M0 GN0 (hr.mono (by decide)) (by rfl) D.g (b_n0 D) .nil passL (pa_cons (pv 5) (pa_cons (pe_lst (pa_cons (pe_lst (pa_cons (pe_lst (pa_cons pe_str (pa_cons pe_str pa_nil))) (pa_cons (pe_lst (pa_cons pe_str (pa_cons pe_str pa_nil))) pa_nil))) pa_nil)) pa_nil))) D.O.cl D.M3 G3 (hr.mono (by decide)) (b_n3 D) .nil pass0) pa_nil)))
  (pss_one (ps_ret (pe_call GS (hr.mono (by decide)) (by rfl) (Z.g 49 (by decide)) (Z.F 49 (by decide)).kp (bSame Z) .nil pass0 (pa_cons (pv 6) (pa_cons (pe_lst (pa_cons (pe_tup (pa_cons pe_str (pa_cons pe_int pa_nil))) (pa_cons (pe_lst (pa_cons (pe_tup (pa_cons (pe_tup (pa_cons pe_str (pa_cons pe_str pa_nil))) (pa_cons (pe_tup (pa_cons pe_str (pa_cons pe_str pa_nil))) pa_nil))) pa_nil)) pa_nil))) pa_nil)))))))))), ?_⟩)
  · obtain ⟨a, ns, rfl, _⟩ := h
    rfl
  · obtain ⟨a, ns, rfl, hS, tb0, k⟩ := h
    have sz : 5000 < sizeLine := by decide
    refine ⟨_, rfl, a, ns, rfl, hS, fun p l H1 S1 np nl Sm => ?_⟩
    have tb1 : Tabs [(Pt, q53), (Pl, q54)] H1 := fun q hq => (tb0 q hq).ext fun b o e => Sm _ _ e
    refine ⟨4, rfl, by decide, by decide, for_it walk_range (fun i σ H' => ∃ v2 v3 v4, σ = [some (.ref a), some (.ref p), v2, v3, v4, none, none] ∧ Stm H' p l (73000 * i) ∧ Tabs [(Pt, q53), (Pl, q54)] H') ⟨none, none, none, rfl, S1, tb1⟩ (fun i σ H' _ _ => trivial) ?_ ?_⟩
    · rintro i x σ H0 H2 hi ⟨v2, v3, v4, rfl, S2, tb2⟩ ⟨rfl, ex⟩
      have hi3 : i < 4 := hi
      refine ⟨_, rfl, p, l, _, 7, rfl, S2, by omega, by decide, fun r1 pl1 ts1 rm1 H3 F3 raw1 ok1 => ?_⟩
      refine ⟨_, rfl, _, rfl, p, l, _, 4, rfl, F3.st, by omega, by decide, by decide, fun dr H4 hdr F4 => ⟨_, _, rfl, rfl, p, l, _, 4 + dr, 3, 3, rfl, F4.st, by omega, by omega, fun r2 pl2 ts2 rm2 H5 F5 raw2 ok2 lp2 => ⟨by show 2 ≤ sizeLine; decide, fun T nT => ?_⟩⟩⟩
      have hT6 : (upd H5 T (.tup [.ref r1, .ref r2])) T = some (.tup [.ref r1, .ref r2]) := upd_same
      have nTp := F5.st.fr.ne nT
      have F6 := F5.st.fr.put nT (o := .tup [.ref r1, .ref r2])
      generalize hH6 : upd H5 T (.tup [V.ref r1, .ref r2]) = H6 at *
      have raw1' : ∀ {H' : Hp} {m : Nat}, Fr H5 p l m H' → RawAt (fun c => c ≠ p ∧ c ≠ l) H' r1 pl1 ts1 rm1 := fun G => (raw1.frame fun c o hc e => F3.keep ((F4.trans F5).trans G) hc e).weak fun c hc => S2.fr.ne hc
      have raw2' : ∀ {H' : Hp} {m : Nat}, Fr H5 p l m H' → RawAt (fun c => c ≠ p ∧ c ≠ l) H' r2 pl2 ts2 rm2 := fun G => (raw2.frame fun c o hc e => F5.keep G hc e).weak fun c hc => F4.st.fr.ne hc
      refine ⟨T, rfl, ⟨_, SqT.of hT6⟩, for_tup (xs := [.ref r1, .ref r2]) (fun j σ H' => ∃ v3 v4, σ = [some (.ref a), some (.ref p), some x, v3, v4, none, none] ∧ Fr H5 p l (73000 * i + 34301 + 9310 * j) H' ∧ H' T = some (.tup [.ref r1, .ref r2]) ∧ (j = 2 → v3 = some (.ref r2) ∧ ∃ (d : Addr) (wv : List V) (ws : List Wi), v4 = some (.ref d) ∧ H' d = some (.lst wv) ∧ (d ≠ p ∧ d ≠ l) ∧ WisAt (fun c => c ≠ p ∧ c ≠ l) H' wv ws ∧ ws.Nodup ∧ (∀ z ∈ ws, TwOk pl2 z) ∧ ws.length ≤ 5)) ⟨v3, v4, rfl, F6.mono (by omega), hT6, fun e => by cases e⟩ (fun j σ H' _ ⟨_, _, _, _, h, _⟩ => SqT.of h) ?_ ?_⟩
      · rintro j y σ H7 hy ⟨v3', v4', rfl, F7, hT7, _⟩
        have jl : j < 2 := (List.getElem?_eq_some_iff.mp hy).1
        have key : ∃ (r : Addr) (pl : List Str) (ts : List Pr) (rm : List Str), y = .ref r ∧ (∀ {H' : Hp} {m : Nat}, Fr H5 p l m H' → RawAt (fun c => c ≠ p ∧ c ≠ l) H' r pl ts rm) ∧ RawOk pl ts rm ∧ (j = 1 → r = r2 ∧ pl = pl2) := by
          match j, jl, hy with
          | 0, _, hy =>
            cases hy
            exact ⟨r1, _, _, _, rfl, fun G => raw1' G, ok1, fun e => by cases e⟩
          | 1, _, hy =>
            cases hy
            exact ⟨r2, _, _, _, rfl, fun G => raw2' G, ok2, fun _ => ⟨rfl, rfl⟩⟩
        obtain ⟨r, pl, ts, rm, rfl, rwK, ok, er⟩ := key
        obtain ⟨aP, aT, aR, tv, q1, q2, _, _, _, nq, nP, _⟩ := rwK F7
        have lpl := ok.len
        -- the wishes
        refine ⟨_, rfl, _, rfl, r, _, 0, _, rfl, rfl, SqT.of q1, rfl, _, rfl, by show 4 ≤ sizeLine; decide, fun b nb => ⟨p, l, b, _, [.int 0, .int 1, .int 3, .int 5], rfl, (F7.put (F7.free nb)).st, by omega, upd_same, (F7.st.fr.ne nb).1, (F7.st.fr.ne nb).2, by decide, by decide, fun ix yv H8 hyv F8 => ?_⟩⟩
        obtain ⟨m, rfl, hm⟩ : ∃ m : Nat, yv = V.int (m : Int) ∧ m ≤ 5 := by
          have hm := List.mem_of_getElem? hyv
          simp only [List.mem_cons, List.not_mem_nil, or_false] at hm
          rcases hm with rfl | rfl | rfl | rfl
          · exact ⟨0, rfl, by decide⟩
          · exact ⟨1, rfl, by decide⟩
          · exact ⟨3, rfl, by decide⟩
          · exact ⟨5, rfl, by decide⟩
        have F78 := (F7.st.fr.put nb (o := .lst [.int 0, .int 1, .int 3, .int 5])).trans F8
        have F58 := F7.trans F78
        refine ⟨p, l, aP, _, m, pl, rfl, F8.st, by omega, F78.but _ _ q2 nP.1 nP.2, nP.1, nP.2, ok.nd, lpl, fun z hz => ok.name hz, hm, fun d wv ws H9 F9 nd hd wi wnd wok wlen => ?_⟩
        have F89 := F78.trans F9
        have F59 := F58.trans F9
        have dn := F8.st.fr.ne nd
        have wl5 : ws.length ≤ 5 := by omega
        refine ⟨_, rfl, _, rfl, _, rfl, p, l, r, d, _, (fun c => c ≠ p ∧ c ≠ l), pl, ts, rm, wv, ws, rfl, F59.st, by omega, rwK F59, (fun c h => h), ok, hd, dn, wi.weak (fun c hc => F8.st.fr.ne hc), wnd, wok, wl5, fun H10 F10 => ⟨true, rfl, iteF ?_⟩⟩
        have F5e := F59.trans F10
        refine ⟨_, _, rfl, F5e.mono (by omega), F10.but _ _ (F89.but _ _ hT7 nTp.1 nTp.2) nTp.1 nTp.2, fun e => ?_⟩
        obtain ⟨er1, er2⟩ := er (by omega)
        rw [er1]
        refine ⟨rfl, d, wv, ws, rfl, F10.but _ _ hd dn.1 dn.2, dn, ?_, wnd, ?_, wl5⟩
        · exact (wi.weak (N' := fun c => c ≠ p ∧ c ≠ l) (fun c hc => F8.st.fr.ne hc)).frame fun c o hc e => F10.but _ _ e hc.1 hc.2
        · rw [← er2]
          exact wok
      · rintro σ H7 ⟨v3', v4', rfl, F7, hT7, ev⟩
        obtain ⟨ev1, d, wv, ws, ev2, hd, dn, wi, wnd, wok, wl5⟩ := ev rfl
        rw [ev1, ev2]
        have F7 : Fr H5 p l (73000 * i + 34301 + 9310 * 2) H7 := F7
        have tb7 := tabs_fr S2 tb2 (((F3.trans F4).trans F5).trans F7)
        refine ⟨_, rfl, _, rfl, _, rfl, p, l, r2, d, _, (fun c => c ≠ p ∧ c ≠ l), pl2, ts2, rm2, wv, ws, rfl, F7.st, by omega, tb7, raw2' F7, (fun c h => h), ok2, by omega, hd, dn, wi, wnd, wok, wl5, fun H8 S8 tb8 => ⟨true, rfl, iteF ⟨_, _, _, rfl, S8.mono (by omega), tb8⟩⟩⟩
    · rintro σ H9 ⟨v2, v3, v4, rfl, S9, tb9⟩
      have S9 : Stm H9 p l (73000 * 4) := S9
      have tb9 := tb9
      refine ⟨by show 4 ≤ sizeLine; decide, fun e1 n1 => ⟨Nat.zero_le _, fun e2 n2 => ⟨Nat.zero_le _, fun e3 n3 => fun x dx nx ndx ne => init_mk (N := fun _ => True) (N2 := fun _ => True) (N3 := fun _ => True) (ps := abN) (qs := []) (rs := []) (HP.lst (new_same n3 _ _ (new_same n2 _ _ upd_same)) trivial) (HT.lst (tv := []) (new_same n3 _ _ upd_same) PrsAt.nil (by simp) trivial (by simp)) (HP.lst upd_same trivial) abN_nd abN_nm (by decide) TsOk.nil (by decide) List.nodup_nil (by simp) nx ndx ne fun H10 hB0 S0 => ⟨rfl, ?_⟩⟩⟩⟩
      have S910 := (((new_same (o := .lst (abN.map V.str)) n1).trans (new_same (o := .lst []) n2)).trans (new_same (o := .lst []) n3)).trans S0
      have K0 := ((Kx.start S9 tb9).same S910)
      have hB : BoardAt (fun c => c ≠ p ∧ c ≠ l) Z.B.C H10 x (sortS abN) (sortPr []) [] := hB0.weak fun c hc => (Kx.start S9 tb9).ne ((((new_same (o := .lst (abN.map V.str)) n1).trans (new_same (o := .lst []) n2)).trans (new_same (o := .lst []) n3)).free hc)
      have K1 := Kx.start K0.st K0.tb
      refine ⟨K0.tb, fun H8 e8 T8 => ?_⟩
      have K8 := K1.ext e8 T8
      refine ⟨_, rfl, ?_⟩
      refine ⟨by show 2 ≤ sizeLine; decide, fun z1 nz1 => ?_⟩
      have SZ1 := new_same nz1 (o := .lst [V.str "a", V.str "b"])
      have fz1 : (upd H8 z1 (.lst [V.str "a", V.str "b"])) z1 = some (.lst [V.str "a", V.str "b"]) := upd_same
      generalize hZ1 : upd H8 z1 (.lst [V.str "a", V.str "b"]) = Z1h at *
      refine ⟨by show 2 ≤ sizeLine; decide, fun z2 nz2 => ?_⟩
      have SZ2 := new_same nz2 (o := .lst [V.str "c", V.str "d"])
      have fz2 : (upd Z1h z2 (.lst [V.str "c", V.str "d"])) z2 = some (.lst [V.str "c", V.str "d"]) := upd_same
      generalize hZ2 : upd Z1h z2 (.lst [V.str "c", V.str "d"]) = Z2h at *
      refine ⟨by show 2 ≤ sizeLine; decide, fun z3 nz3 => ?_⟩
      have SZ3 := new_same nz3 (o := .lst [V.ref z1, V.ref z2])
      have fz3 : (upd Z2h z3 (.lst [V.ref z1, V.ref z2])) z3 = some (.lst [V.ref z1, V.ref z2]) := upd_same
      generalize hZ3 : upd Z2h z3 (.lst [V.ref z1, V.ref z2]) = Z3h at *
      refine ⟨by show 2 ≤ sizeLine; decide, fun z4 nz4 => ?_⟩
      have SZ4 := new_same nz4 (o := .lst [V.str "d", V.str "c"])
      have fz4 : (upd Z3h z4 (.lst [V.str "d", V.str "c"])) z4 = some (.lst [V.str "d", V.str "c"]) := upd_same
      generalize hZ4 : upd Z3h z4 (.lst [V.str "d", V.str "c"]) = Z4h at *
      refine ⟨by show 2 ≤ sizeLine; decide, fun z5 nz5 => ?_⟩
      have SZ5 := new_same nz5 (o := .lst [V.str "b", V.str "a"])
      have fz5 : (upd Z4h z5 (.lst [V.str "b", V.str "a"])) z5 = some (.lst [V.str "b", V.str "a"]) := upd_same
      generalize hZ5 : upd Z4h z5 (.lst [V.str "b", V.str "a"]) = Z5h at *
      refine ⟨by show 2 ≤ sizeLine; decide, fun z6 nz6 => ?_⟩
      have SZ6 := new_same nz6 (o := .lst [V.ref z4, V.ref z5])
      have fz6 : (upd Z5h z6 (.lst [V.ref z4, V.ref z5])) z6 = some (.lst [V.ref z4, V.ref z5]) := upd_same
      generalize hZ6 : upd Z5h z6 (.lst [V.ref z4, V.ref z5]) = Z6h at *
      refine ⟨by show 2 ≤ sizeLine; decide, fun z7 nz7 => ?_⟩
      have SZ7 := new_same nz7 (o := .lst [V.ref z3, V.ref z6])
      have fz7 : (upd Z6h z7 (.lst [V.ref z3, V.ref z6])) z7 = some (.lst [V.ref z3, V.ref z6]) := upd_same
      generalize hZ7 : upd Z6h z7 (.lst [V.ref z3, V.ref z6]) = Z7h at *
      have S87 : Same H8 Z7h := ((((((SZ1.trans SZ2).trans SZ3).trans SZ4).trans SZ5).trans SZ6).trans SZ7)
      have a1 : itemsOf Z7h (.ref z1) = some _ := items_at.mpr (.inl ((((((SZ2.trans SZ3).trans SZ4).trans SZ5).trans SZ6).trans SZ7) _ _ fz1))
      have a2 : itemsOf Z7h (.ref z2) = some _ := items_at.mpr (.inl (((((SZ3.trans SZ4).trans SZ5).trans SZ6).trans SZ7) _ _ fz2))
      have a3 : itemsOf Z7h (.ref z3) = some _ := items_at.mpr (.inl ((((SZ4.trans SZ5).trans SZ6).trans SZ7) _ _ fz3))
      have a4 : itemsOf Z7h (.ref z4) = some _ := items_at.mpr (.inl (((SZ5.trans SZ6).trans SZ7) _ _ fz4))
      have a5 : itemsOf Z7h (.ref z5) = some _ := items_at.mpr (.inl ((SZ6.trans SZ7) _ _ fz5))
      have a6 : itemsOf Z7h (.ref z6) = some _ := items_at.mpr (.inl (SZ7 _ _ fz6))
      have a7 : itemsOf Z7h (.ref z7) = some _ := items_at.mpr (.inl fz7)
      have bad : WsBad Z.B.C (sortS abN) Z7h (.ref z7) ((1 : Nat)) := by
        refine ⟨.lst fz7, .inr ⟨_, a7, by show 2 ≤ 900; decide, fun y hy => ?_, [w1], .ref z6, rfl, rfl, ⟨List.nodup_cons.mpr ⟨List.not_mem_nil, List.nodup_nil⟩, by show 1 ≤ 2; decide, fun j y z k1 k2 => ?_⟩, fun z0 w0 => ?_⟩⟩
        · simp only [List.mem_cons, List.not_mem_nil, or_false] at hy
          rcases hy with rfl | rfl
          · exact ls_wk (n := 0) (N := fun _ => True) (ls_seq a3 trivial (by show 2 ≤ 6; decide) (fun z hz => by
          simp only [List.mem_cons, List.not_mem_nil, or_false] at hz
          rcases hz with rfl | rfl
          · exact ls_two (n := 0) (N := fun _ => True) a1 trivial rfl rfl
          · exact ls_two (n := 0) (N := fun _ => True) a2 trivial rfl rfl))
          · exact ls_wk (n := 0) (N := fun _ => True) (ls_seq a6 trivial (by show 2 ≤ 6; decide) (fun z hz => by
          simp only [List.mem_cons, List.not_mem_nil, or_false] at hz
          rcases hz with rfl | rfl
          · exact ls_two (n := 0) (N := fun _ => True) a4 trivial rfl rfl
          · exact ls_two (n := 0) (N := fun _ => True) a5 trivial rfl rfl))
        · match j, k1, k2 with
          | 0, k1, k2 =>
            cases k1
            cases k2
            exact ⟨w1, ⟨_, _, a3, a1, a2, w_in w1 (by decide +kernel), by decide⟩, tw_w1⟩
          | j + 1, k1, k2 => simp at k2
        · have := four_uniq w0.four (⟨_, _, a6, a4, a5⟩ : Four Z7h (.ref z6) w1')
          rw [this, tw_w1']
          exact List.mem_cons_self
      refine fun a dxa na ndxa nea => nbad1 (hB.kx (fun c h => h) (K8.same S87)) bad (fun H12 u S12 nu => ?_) a dxa na ndxa nea
      have K12 := ((K8.same S87).same S12).put nu (o := .tup [.str (nmE 1), .int ((1 : Nat) : Int)])
      have hu : (upd H12 u (.tup [.str (nmE 1), .int ((1 : Nat) : Int)])) u = some (.tup [.str (nmE 1), .int ((1 : Nat) : Int)]) := upd_same
      generalize hHu : upd H12 u (.tup [.str (nmE 1), .int ((1 : Nat) : Int)]) = Hu at *
      refine ⟨by show 1 ≤ sizeLine; decide, fun f nf => ?_⟩
      have K13 := K12.put nf (o := .lst [.ref u])
      have hf : (upd Hu f (.lst [.ref u])) f = some (.lst [.ref u]) := upd_same
      have hu3 := new_same nf (o := .lst [.ref u]) _ _ hu
      generalize hHf : upd Hu f (.lst [V.ref u]) = Hf at *
      refine ⟨_, rfl, .inl ⟨rfl, _, SqL.of hf⟩, _, rfl, ?_⟩
      refine ⟨by show 2 ≤ sizeLine; decide, fun z8 nz8 => ?_⟩
      have SZ8 := new_same nz8 (o := .lst [V.str "d", V.str "b"])
      have fz8 : (upd Hf z8 (.lst [V.str "d", V.str "b"])) z8 = some (.lst [V.str "d", V.str "b"]) := upd_same
      generalize hZ8 : upd Hf z8 (.lst [V.str "d", V.str "b"]) = Z8h at *
      refine ⟨by show 2 ≤ sizeLine; decide, fun z9 nz9 => ?_⟩
      have SZ9 := new_same nz9 (o := .lst [V.str "c", V.str "a"])
      have fz9 : (upd Z8h z9 (.lst [V.str "c", V.str "a"])) z9 = some (.lst [V.str "c", V.str "a"]) := upd_same
      generalize hZ9 : upd Z8h z9 (.lst [V.str "c", V.str "a"]) = Z9h at *
      refine ⟨by show 2 ≤ sizeLine; decide, fun z10 nz10 => ?_⟩
      have SZ10 := new_same nz10 (o := .lst [V.ref z8, V.ref z9])
      have fz10 : (upd Z9h z10 (.lst [V.ref z8, V.ref z9])) z10 = some (.lst [V.ref z8, V.ref z9]) := upd_same
      generalize hZ10 : upd Z9h z10 (.lst [V.ref z8, V.ref z9]) = Z10h at *
      refine ⟨by show 1 ≤ sizeLine; decide, fun z11 nz11 => ?_⟩
      have SZ11 := new_same nz11 (o := .lst [V.ref z10])
      have fz11 : (upd Z10h z11 (.lst [V.ref z10])) z11 = some (.lst [V.ref z10]) := upd_same
      generalize hZ11 : upd Z10h z11 (.lst [V.ref z10]) = Z11h at *
      have Sf4 : Same Hf Z11h := (((SZ8.trans SZ9).trans SZ10).trans SZ11)
      have hBg := hB.kx (fun c h => h) (K13.same Sf4)
      have a8 : itemsOf Z11h (.ref z8) = some _ := items_at.mpr (.inl (((SZ9.trans SZ10).trans SZ11) _ _ fz8))
      have a9 : itemsOf Z11h (.ref z9) = some _ := items_at.mpr (.inl ((SZ10.trans SZ11) _ _ fz9))
      have a10 : itemsOf Z11h (.ref z10) = some _ := items_at.mpr (.inl (SZ11 _ _ fz10))
      have a11 : itemsOf Z11h (.ref z11) = some _ := items_at.mpr (.inl fz11)
      have hw : HW (fun _ => True) Z11h (.ref z11) [w2] := by
        refine ⟨_, _, rfl, a11, rfl, trivial, fun j y z k1 k2 => ?_⟩
        match j, k1, k2 with
        | 0, k1, k2 =>
          cases k1
          cases k2
          refine ⟨[w2.2, w2.1], List.Perm.swap _ _ _, _, _, rfl, a10, rfl, trivial, fun i y q e1 e2 => ?_⟩
          match i, e1, e2 with
          | 0, e1, e2 =>
            cases e1
            cases e2
            exact ⟨_, _, _, rfl, a8, by decide +kernel, trivial⟩
          | 1, e1, e2 =>
            cases e1
            cases e2
            exact ⟨_, _, _, rfl, a9, by decide +kernel, trivial⟩
          | i + 2, e1, e2 => simp at e1
        | j + 1, k1, k2 => simp at k2
      refine fun a2 dx2 na2 ndx2 ne2 => ninit_mk (ws := [w2]) hBg hw (by decide) (List.nodup_cons.mpr ⟨List.not_mem_nil, List.nodup_nil⟩) (fun z hz => by rw [List.mem_singleton.mp hz]; exact w2_ok) na2 ndx2 ne2 fun H15 n15 S15 => ⟨rfl, ?_⟩
      obtain ⟨dxn, aW, wvn, hins, _⟩ := id n15
      refine ⟨a2, dxn, _, rfl, hins, rfl, a2, x, [w2], rfl, n15.weak (fun _ _ => trivial), fun lw wv nlw wt _ _ => ?_⟩
      have Sf5 := (Sf4.trans S15).trans (new_same (o := .lst wv) nlw)
      have hlw : (upd H15 lw (.lst wv)) lw = some (.lst wv) := upd_same
      have wt2 : WisAt (fun c => ∃ o, H15 c = some o) (upd H15 lw (.lst wv)) wv [w2] := wt.frame fun c o _ e => new_same nlw _ _ e
      have hu5 := Sf5 _ _ hu3
      have hf5 := Sf5 _ _ hf
      have lwf : lw ≠ f := (ne_of_none ((Sf4.trans S15) _ _ hf) nlw).symm
      generalize hHg : upd H15 lw (.lst wv) = Hg at *
      refine ⟨f, _, .ref lw, rfl, rfl, hf5, by show 1 < sizeLine; decide, ?_⟩
      have hu6 : (upd Hg f (.lst ([.ref u] ++ [.ref lw]))) u = some (.tup [.str (nmE 1), .int ((1 : Nat) : Int)]) := by
        rw [upd_ne (ne_of hu5 hf5 (fun z => by cases z))]
        exact hu5
      have hf6 : (upd Hg f (.lst ([.ref u] ++ [.ref lw]))) f = some (.lst [.ref u, .ref lw]) := upd_same
      have hlw6 : (upd Hg f (.lst ([.ref u] ++ [.ref lw]))) lw = some (.lst wv) := by
        rw [upd_ne lwf]
        exact hlw
      have wt6 : WisAt (fun c => ∃ o, H15 c = some o) (upd Hg f (.lst ([.ref u] ++ [.ref lw]))) wv [w2] := wt2.put (fun xs e => by rw [hf5] at e; cases e)
      generalize hHh : upd Hg f (.lst ([V.ref u] ++ [V.ref lw])) = Hh at *
      refine ⟨_, rfl, by show 2 ≤ sizeLine; decide, fun z12 nz12 => ?_⟩
      have SZ12 := new_same nz12 (o := .tup [V.str "wishes", V.int 1])
      have fz12 : (upd Hh z12 (.tup [V.str "wishes", V.int 1])) z12 = some (.tup [V.str "wishes", V.int 1]) := upd_same
      generalize hZ12 : upd Hh z12 (.tup [V.str "wishes", V.int 1]) = Z12h at *
      refine ⟨by show 2 ≤ sizeLine; decide, fun z13 nz13 => ?_⟩
      have SZ13 := new_same nz13 (o := .tup [V.str "a", V.str "c"])
      have fz13 : (upd Z12h z13 (.tup [V.str "a", V.str "c"])) z13 = some (.tup [V.str "a", V.str "c"]) := upd_same
      generalize hZ13 : upd Z12h z13 (.tup [V.str "a", V.str "c"]) = Z13h at *
      refine ⟨by show 2 ≤ sizeLine; decide, fun z14 nz14 => ?_⟩
      have SZ14 := new_same nz14 (o := .tup [V.str "b", V.str "d"])
      have fz14 : (upd Z13h z14 (.tup [V.str "b", V.str "d"])) z14 = some (.tup [V.str "b", V.str "d"]) := upd_same
      generalize hZ14 : upd Z13h z14 (.tup [V.str "b", V.str "d"]) = Z14h at *
      refine ⟨by show 2 ≤ sizeLine; decide, fun z15 nz15 => ?_⟩
      have SZ15 := new_same nz15 (o := .tup [V.ref z13, V.ref z14])
      have fz15 : (upd Z14h z15 (.tup [V.ref z13, V.ref z14])) z15 = some (.tup [V.ref z13, V.ref z14]) := upd_same
      generalize hZ15 : upd Z14h z15 (.tup [V.ref z13, V.ref z14]) = Z15h at *
      refine ⟨by show 1 ≤ sizeLine; decide, fun z16 nz16 => ?_⟩
      have SZ16 := new_same nz16 (o := .lst [V.ref z15])
      have fz16 : (upd Z15h z16 (.lst [V.ref z15])) z16 = some (.lst [V.ref z15]) := upd_same
      generalize hZ16 : upd Z15h z16 (.lst [V.ref z15]) = Z16h at *
      refine ⟨by show 2 ≤ sizeLine; decide, fun z17 nz17 => ?_⟩
      have SZ17 := new_same nz17 (o := .lst [V.ref z12, V.ref z16])
      have fz17 : (upd Z16h z17 (.lst [V.ref z12, V.ref z16])) z17 = some (.lst [V.ref z12, V.ref z16]) := upd_same
      generalize hZ17 : upd Z16h z17 (.lst [V.ref z12, V.ref z16]) = Z17h at *
      have Sg : Same Hh Z17h := (((((SZ12.trans SZ13).trans SZ14).trans SZ15).trans SZ16).trans SZ17)
      have due : WisAt (fun _ => True) Z17h [.ref z15] [w2] := ⟨rfl, fun i v z e1 e2 => by
        match i, e1, e2 with
        | 0, e1, e2 =>
          cases e1
          cases e2
          exact ⟨_, rfl, _, _, ((SZ16.trans SZ17) _ _ fz15), ((((SZ14.trans SZ15).trans SZ16).trans SZ17) _ _ fz13), (((SZ15.trans SZ16).trans SZ17) _ _ fz14), trivial, trivial, trivial⟩
        | i + 1, e1, e2 => simp at e1⟩
      refine ⟨.ref f, .ref z17, rfl, .inr (.inr (.inl ⟨f, z17, _, _, rfl, rfl, .inl ⟨Sg _ _ hf6, fz17⟩, rfl, by show 2 ≤ 2000; decide, fun j y y2 e1 e2 => ?_⟩)), fun H14 S14 => k _⟩
      match j, e1, e2 with
      | 0, e1, e2 =>
        cases e1
        cases e2
        exact sm_tup (n := 3) (Sg _ _ hu6) (((((SZ13.trans SZ14).trans SZ15).trans SZ16).trans SZ17) _ _ fz12) (sm_sc rfl)
      | 1, e1, e2 =>
        cases e1
        cases e2
        exact sm_wis (n := 1) (Sg _ _ hlw6) (wt6.frame fun c o _ e => Sg _ _ e) (SZ17 _ _ fz16) due (by decide)
      | j + 2, e1, e2 => simp at e1
end
end E1

set_option Elab.async false
set_option linter.all false
set_option maxRecDepth 100000
set_option maxHeartbeats 8000000
/-! The head: what is looked at behind the top. -/
namespace E1
open PySem PySem.Spec PyProof.Rows L2 G0 LamX
def errN : List (Str × Str) := [("BadPlaces", "index"), ("BadTies", "index"), ("BadRim", "index"), ("BadBoard", "thing"), ("BadWishes", "index")]
def errIx : List Nat := [4, 6, 5, 3, 7]
def eA (K : PySem.W.Frag) (i : Nat) : Addr := He.ga K (errN.getD i ("", "")).1
def bdC (K : PySem.W.Frag) : Addr := He.ga K "Board"
def ntC (K : PySem.W.Frag) : Addr := He.ga K "Notice"
def mNms : List Str := ["__init__", "__eq__", "places", "ties", "rim", "has_place"]
def nNms : List Str := ["__init__", "__eq__", "board", "wishes"]
def nNm (j : Nat) : Str := nNms.getD j ""
def mNm (j : Nat) : Str := mNms.getD j ""
def tops : List Nat := [13, 14, 15, 16, 17, 18, 20, 21, 24, 26, 27, 28, 31, 32, 33, 34, 35, 36, 37, 38, 39, 40, 41, 42, 43, 44, 45, 46, 47, 48, 49, 50, 51, 52, 53, 54]
/-! ### the classes' objects -/
def oexB (K : PySem.W.Frag) (C : Addr) : Bool := match K.lookup C with
  | some ⟨.type t, _, .cls cd, sl⟩ => decide (t = "type") && ((match cd.mro with
    | .ref c :: bm => decide (c = C) && PySem.HandSPX.refsVE bm
    | _ => false) && (cd.hasDict && (!cd.hasDel && (match sl.toList with
    | [_, _, _, _, some (.builtin n), _] => decide (n = "ValueError.__new__")
    | _ => false))))
  | _ => false
theorem oexB_ok {K : PySem.W.Frag} {C : Addr} (h : oexB K C = true) : ∃ nm q N bs bm sn sub ab col dd k0 k1 k2 k3 k5, K.lookup C = some (excClassObj nm q C N bs bm true sn sub ab col dd k0 k1 k2 k3 k5 "ValueError.__new__") ∧ PySem.HandSPX.refsVE bm = true := by
  unfold oexB at h
  cases q : K.lookup C with
  | none =>
    rw [q] at h
    cases h
  | some o =>
    obtain ⟨oc, od, dt, sl⟩ := o
    rw [q] at h
    cases oc with
    | type t =>
      cases dt with
      | cls cd =>
        obtain ⟨nm, bs, mro, ns, qn, hd, sn, sub, ab, col, del⟩ := cd
        obtain ⟨sl⟩ := sl
        dsimp only at h
        obtain ⟨b1, h1⟩ := He.ba h
        obtain ⟨b2, h2⟩ := He.ba h1
        obtain ⟨b3, h3⟩ := He.ba h2
        obtain ⟨b4, b5⟩ := He.ba h3
        clear h3 h2 h1 h
        have e1 : t = "type" := of_decide_eq_true b1
        have e4 : del = false := by
          cases del with
          | false => rfl
          | true => cases b4
        subst e1 e4
        cases mro with
        | nil => cases b2
        | cons v bm =>
          cases v with
          | ref c =>
            replace b2 : (decide (c = C) && PySem.HandSPX.refsVE bm) = true := b2
            obtain ⟨c1, c2⟩ := He.ba b2
            have e5 : c = C := of_decide_eq_true c1
            subst e5
            have e3 : hd = true := b3
            subst e3
            split at b5
            · rename_i _ k0 k1 k2 k3 n k5
              have e6 : n = "ValueError.__new__" := of_decide_eq_true b5
              subst e6
              exact ⟨nm, qn, ns, bs, bm, sn, sub, ab, col, od, k0, k1, k2, k3, k5, rfl, c2⟩
            · cases b5
          | _ => cases b2
      | _ => cases h
    | _ => cases dt <;> cases h
def plnB (K : PySem.W.Frag) (C f : Addr) : Bool := match K.lookup C with
  | some ⟨.type t, _, .cls cd, sl⟩ => decide (t = "type") && (decide (cd.mro = [.ref C, .type "object"]) && (!cd.hasDel && ((match sl.toList with
    | [_, _, _, _, some (.builtin _), _] => true
    | _ => false) && (PySem.W.nsOkIn K cd.ns && (He.eqO (PySem.W.nsIn K cd.ns "__eq__") (some (some (.ref f))) && He.eqO (PySem.W.nsIn K cd.ns "__ne__") (some none))))))
  | _ => false
theorem ns_of {K : PySem.W.Frag} {h : Heap} {N : Addr} {mg : Str → Option Value} {n : Str} {v : Value} (X : K.In h) (G : h.Ns N mg) (e : PySem.W.nsIn K N n = some (some v)) : mg n = some v := by
  obtain ⟨o, es, ep, ho, hd, _, hf⟩ := G
  unfold PySem.W.nsIn at e
  split at e
  · rename_i c d es' n' sl q
    have z := X _ _ q
    rw [ho] at z
    cases z
    cases hd
    split at e
    · rename_i en hen
      cases e
      rw [← hf]
      unfold nsFind findBy
      rw [← Array.find?_toList, hen]
      rfl
    · split at e <;> cases e
  · cases e
theorem eq_obj : typeLookup (.type "object") ("__eq__" : Str) = pure (some (.builtin "object.__eq__")) := by
  rw [typeLookup_type, builtinLookup_eq_fast]
  kernel_rfl
theorem plnB_ok {K : PySem.W.Frag} {C f : Addr} (h : plnB K C f = true) (tf : PySem.W.typeIn K (.ref f) = some (.type "function")) (hp : Heap) (x : Addr) (o : Obj) (X : K.In hp) (hx : hp.get? x = some o) (ho : o.cls = .ref C) : hp.OwnEqNoNe x C f "object" [.type "object"] := by
  have tf2 : (K.lookup f).map (·.cls) = some (.type "function") := tf
  obtain ⟨fo, hf, hfc⟩ := Option.map_eq_some_iff.mp tf2
  unfold plnB at h
  cases q : K.lookup C with
  | none =>
    rw [q] at h
    cases h
  | some ob =>
    obtain ⟨oc, od, dt, sl⟩ := ob
    rw [q] at h
    cases oc with
    | type t =>
      cases dt with
      | cls cd =>
        obtain ⟨nm, bs, mro, ns, qn, hd, sn, sub, ab, col, del⟩ := cd
        obtain ⟨sl⟩ := sl
        dsimp only at h
        obtain ⟨b1, h1⟩ := He.ba h
        obtain ⟨b2, h2⟩ := He.ba h1
        obtain ⟨b3, h3⟩ := He.ba h2
        obtain ⟨b4, h4⟩ := He.ba h3
        obtain ⟨b5, h5⟩ := He.ba h4
        obtain ⟨b6, b7⟩ := He.ba h5
        clear h5 h4 h3 h2 h1 h
        have e1 : t = "type" := of_decide_eq_true b1
        have e2 : mro = [.ref C, .type "object"] := of_decide_eq_true b2
        have e4 : del = false := by
          cases del with
          | false => rfl
          | true => cases b3
        subst e1 e2 e4
        split at b4
        · rename_i _ k0 k1 k2 k3 n k5
          have N0 := Heap.Ns.of_isNs (PySem.W.isNs_of_in X b5)
          exact ⟨o, fo, nm, qn, ns, bs, hd, sn, sub, ab, col, od, k0, k1, k2, k3, k5, n, _, _, hx, ho, X _ _ q, N0, ns_of X N0 (He.eqO_ok b6), X _ _ hf, hfc, PySem.F.mro_object, eq_obj, PySem.W.nsMap_none_of_in X b5 (He.eqO_ok b7)⟩
        · cases b4
      | _ => cases h
    | _ => cases dt <;> cases h
/-! ### what is asked of them -/
def oneE (K : PySem.W.Frag) (p : Str × Str) : Bool := oexB K (He.ga K p.1) && (He.eqO (PySem.W.findIn K (.ref (He.ga K p.1)) "__setattr__") (some (some (.builtin "object.__setattr__"))) && (decide (PySem.W.subIn K (.ref (He.ga K p.1)) (.type "BaseException") = some true) && (decide (PySem.W.typeIn K (.ref (He.ga K p.1)) = some (.type "type")) &&
  (PySem.W.keepIn K (.ref (He.ga K p.1)) && (He.eqO (PySem.W.findIn K (.ref (He.ga K p.1)) p.2) (some none) && (He.eqO (PySem.W.findIn K (.ref (He.ga K p.1)) "__init__") (some (some (.ref (He.ma K (He.ga K p.1) "__init__")))) && (decide (PySem.W.typeIn K (.ref (He.ma K (He.ga K p.1) "__init__")) = some (.type "function")) && xfB K (He.ga K p.1))))))))
def exmB (K : PySem.W.Frag) : Bool := (List.range 5).all fun i => (List.range 5).all fun j => decide (PySem.W.exmOne K (.ref (eA K i)) (.ref (eA K j)) = some (decide (i = j)))
def knT : List String := ["str", "list", "tuple", "dict", "int", "bool"]
def clsB (K : PySem.W.Frag) (C : Addr) : Bool := He.eqO (PySem.W.findIn K (.ref C) "__class__") (some (some (.builtin "object.__class__"))) && (decide (PySem.W.mroIn K C (.type "object") = some true) && (knT.all (fun T => decide (PySem.W.kitOne K (.ref C) (.type T) = some false)) &&
  ((knT ++ ["NoneType"]).all (fun T => decide (PySem.W.kitOne K (.type T) (.ref C) = some false)) && (He.eqO (PySem.W.findIn K (.ref C) "__eq__") (some (some (.ref (He.ma K C "__eq__")))) && (decide (PySem.W.typeIn K (.ref (He.ma K C "__eq__")) = some (.type "function")) && (plnB K C (He.ma K C "__eq__") &&
  (["NoneType", "bool", "int", "str", "list", "tuple", "dict"].all fun T => PySem.W.notFirst K C (.type T))))))))
def lamT : List He.Defn := [("_law_refused_right", none), ("law", none)]
def twoB (K : PySem.W.Frag) : Bool := PySem.W.notFirst K (ntC K) (.ref (bdC K)) && (decide (PySem.W.kitOne K (.ref (bdC K)) (.ref (ntC K)) = some false) && decide ((He.cT K ("_law_refused_right", none)).2 ≠ (He.cT K ("law", none)).2))
def exB (K : PySem.W.Frag) : Bool := (K.lookup sysModules).isSome && (errN.all (oneE K) && (exmB K && (clsB K (bdC K) && (clsB K (ntC K) && (twoB K && He.tupB K "WORDS" (wordsL.map He.Dv.str))))))
/-! ### the head's data -/
def topD (i : Nat) : He.DefD := ⟨(tName i, none), tName i, tName i, defArgs (topS i), defBody (topS i), defScope (topS i), [], []⟩
def errD (k : Nat) : He.DefD := ⟨((errN.getD k ("", "")).1, some "__init__"), "__init__", (errN.getD k ("", "")).1 ++ ".__init__", defArgs (inClass (topS (errIx.getD k 0)) 0), defBody (inClass (topS (errIx.getD k 0)) 0), defScope (inClass (topS (errIx.getD k 0)) 0), [], []⟩
def brdD (j : Nat) : He.DefD := ⟨("Board", some (mNm j)), mNm j, "Board." ++ mNm j, defArgs (mS j), defBody (mS j), defScope (mS j), [], []⟩
def ntfD (j : Nat) : He.DefD := ⟨("Notice", some (nNm j)), nNm j, "Notice." ++ nNm j, defArgs (nS j), defBody (nS j), defScope (nS j), [], []⟩
def fn : List He.DefD := tops.map topD ++ ((List.range 5).map errD ++ ((List.range 6).map brdD ++ (List.range 4).map ntfD))
def frees : List Str := ["int", "list", "len", "range", "isinstance", "str", "tuple", "all", "enumerate", "sorted", "dict", "min", "max", "zip", "any", "repr", "bool", "set"]
def fa : List He.Fa := tops.map (fun i => He.Fa.glo (tName i)) ++ (errN.map (fun p => He.Fa.glo p.1) ++ (frees.map He.Fa.free ++ [.glo "Board", .glo "WORDS", .str "LETTERS" lettersS, .str "NAME_SIGNS" signsS, .int "LONGEST_NAME" 8, .cls "Board", .noat "Board" "_places", .noat "Board" "_ties", .noat "Board" "_rim", .noat "Board" "_near", .mkr "Board", .meth "Board" "places", .meth "Board" "ties", .meth "Board" "rim", .meth "Board" "has_place", .glo "Notice", .cls "Notice", .noat "Notice" "_board", .noat "Notice" "_wishes", .mkr "Notice", .meth "Notice" "board", .meth "Notice" "wishes"]))
def tf : List He.Defn := lamT
/-! ### the Hook: a part of the heap, laid out once -/
def refsG (g : Addr → Option Obj) (a : Addr) : List Addr := match g a with
  | some ⟨_, _, .dict es _, _⟩ => es.toList.flatMap fun e => He.refV e.val
  | _ => []
def codeG (g : Addr → Option Obj) (a : Addr) : List Addr := match g a with
  | some ⟨_, _, .func fd, _⟩ => He.refV fd.code
  | _ => []
def asY (g : Addr → Option Obj) : List Addr := sysModules :: mainGlobals :: (refsG g mainGlobals).flatMap fun a => a :: (match g a with
  | some ⟨_, _, .cls cd, _⟩ => cd.ns :: (refsG g cd.ns).flatMap fun f => f :: codeG g f
  | some ⟨_, _, .func fd, _⟩ => He.refV fd.code
  | _ => [])
def forceK {β : Type} : List (Addr × Obj) → (List (Addr × Obj) → β) → β
  | [], k => k []
  | p :: r, k => match p with
    | (a, o) => HandSHeadRun.frNat a fun a => forceK r fun K => k ((a, o) :: K)
theorem forceK_eq {β : Type} : ∀ (l : List (Addr × Obj)) (k : List (Addr × Obj) → β), forceK l k = k l
  | [], k => rfl
  | (a, o) :: r, k => by
    show HandSHeadRun.frNat a (fun a => forceK r fun K => k ((a, o) :: K)) = _
    rw [HandSHeadRun.frNat_eq, forceK_eq r]
abbrev AlY : Type := He.AlD × Bool
/-- what is told -/
structure SaysY (h : Heap) (K : PySem.W.Frag) : Prop where
  d : He.SaysD fa fn K
  more : exB K = true
  hd : ∀ p ∈ tf, PySem.W.codeHdIn K (He.cT K p).1 (He.cT K p).2 = true
  out : ∀ p ∈ tf, K.lookup (He.cT K p).2 = none
  empty : ∀ p ∈ tf, h.get? (He.cT K p).2 = some { cls := .none, data := .fields #[] }
def tabY (g : Addr → Option Obj) (K : PySem.W.Frag) : Bool := tf.all fun p => PySem.W.codeHdIn K (He.cT K p).1 (He.cT K p).2 && ((match g (He.cT K p).2 with
  | some o => He.emptyTab o
  | none => false) && (K.lookup (He.cT K p).2).isNone)
def obsY (g : Addr → Option Obj) : AlY := forceK (He.frG g (asY g)) fun K => (He.obsD fa fn K, exB K && tabY g K)
def valY : AlY := (He.valD fn, true)
theorem saysY_of {h : Heap} (e : obsY h.get? = valY) : SaysY h (He.frG h.get? (asY h.get?)) := by
  unfold obsY at e
  rw [forceK_eq] at e
  have e1 := congrArg (fun z : AlY => z.1) e
  have e2 : (exB (He.frG h.get? (asY h.get?)) && tabY h.get? (He.frG h.get? (asY h.get?))) = true := congrArg (fun z : AlY => z.2) e
  obtain ⟨h1, h2⟩ := He.ba e2
  have key : ∀ p ∈ tf, PySem.W.codeHdIn (He.frG h.get? (asY h.get?)) (He.cT (He.frG h.get? (asY h.get?)) p).1 (He.cT (He.frG h.get? (asY h.get?)) p).2 = true ∧
      (He.frG h.get? (asY h.get?)).lookup (He.cT (He.frG h.get? (asY h.get?)) p).2 = none ∧ h.get? (He.cT (He.frG h.get? (asY h.get?)) p).2 = some { cls := .none, data := .fields #[] } := fun p hp => by
    obtain ⟨h3, h4⟩ := He.ba (List.all_eq_true.mp h2 p hp)
    obtain ⟨h5, h6⟩ := He.ba h4
    refine ⟨h3, Option.isNone_iff_eq_none.mp h6, ?_⟩
    cases q : h.get? (He.cT (He.frG h.get? (asY h.get?)) p).2 with
    | none =>
      rw [q] at h5
      cases h5
    | some o =>
      rw [q] at h5
      rw [He.emptyTab_eq h5]
  exact ⟨e1, h1, fun p hp => (key p hp).1, fun p hp => (key p hp).2.1, fun p hp => (key p hp).2.2⟩
def hookY : PySem.W.Hook where
  α := AlY
  obs := fun s => obsY s.heap.get?
  val := fun _ => valY
  says := fun _ h => ∃ K : PySem.W.Frag, K.In h ∧ SaysY h K
  of := fun _ _ e => ⟨_, He.frG_in, saysY_of e⟩
  keeps := fun _ _ _ ⟨K, hK, c⟩ k => ⟨K, PySem.W.Frag.In.keeps hK k, ⟨c.d, c.more, c.hd, c.out, fun p hp => k _ _ (c.empty p hp)⟩⟩
theorem obsY_eq {g : Addr → Option Obj} {s : Shared} (h : ∀ a, g a = s.heap.get? a) : obsY g = hookY.obs s := by
  have e : g = s.heap.get? := funext h
  rw [e] <;> rfl
end E1

set_option Elab.async false
set_option linter.all false
set_option maxRecDepth 100000
set_option maxHeartbeats 4000000
/-! What the head tells, as the rules ask it. -/
namespace E1
open PySem PySem.Spec PyProof.Rows L2 G0 LamX
def fdOf (z : FuncData) (K : PySem.W.Frag) (f : Addr) : FuncData := match K.lookup f with
  | some ⟨_, _, .func fd, _⟩ => fd
  | _ => z
section
variable {K : PySem.W.Frag} {x q : Str} {ar : Arguments} {bo : List Stmt} {sc : Scope} {f : Addr} {st : Stmt}
theorem funD_of {z : FuncData} (h : ∃ fd, FunD K x q ar bo sc [] [] f fd) : FunD K x q ar bo sc [] [] f (fdOf z K f) := by
  obtain ⟨fd, F⟩ := h
  obtain ⟨oc, od, dV, kV, doc, pm, an, cdv, ct, osl, e, lk, hcd, hD, hK⟩ := F.ex
  have ef : fdOf z K f = fd := by
    unfold fdOf
    rw [lk]
  rw [ef]
  exact F
theorem fun_of {z : FuncData} (h : ∃ fd, FunD K x q (defArgs st) (defBody st) (defScope st) [] [] f fd) : Fun K x q st f (fdOf z K f) := by
  have F := funD_of (z := z) h
  obtain ⟨oc, od, dV, kV, doc, pm, an, cdv, ct, osl, e, lk, hcd, hD, hK⟩ := F.ex
  rcases hD with ⟨_, rfl⟩ | ⟨n, _⟩
  · exact ⟨⟨oc, od, kV, doc, pm, an, cdv, ct, osl, e, lk, hcd⟩, F.kp⟩
  · exact absurd rfl n
end
theorem sp_get (K : PySem.W.Frag) : PySem.W.specialIn K (.builtin "object.__class__") "__get__" = some (some (.builtin "getset_descriptor.__get__")) := by
  show PySem.W.specialIn [] (.builtin "object.__class__") "__get__" = _
  decide +kernel
theorem sp_tak (K : PySem.W.Frag) : PySem.W.takesIn K (.builtin "object.__class__") = some true := by
  show PySem.W.takesIn [] (.builtin "object.__class__") = _
  decide +kernel
section
variable {K : PySem.W.Frag} {h : Heap} {mg : Str → Option Value}
theorem glo_of (X : K.In h) (G : h.Ns mainGlobals mg) (Y : SaysY h K) {x : Str} (m : He.Fa.glo x ∈ fa) : mg x = some (.ref (He.ga K x)) := He.glo_ok X G (Y.d.facts m)
theorem top_mem {i : Nat} (m : i ∈ tops) : He.Fa.glo (tName i) ∈ fa := List.mem_append_left _ (List.mem_map.mpr ⟨i, m, rfl⟩)
theorem frees_mem {x : Str} (m : x ∈ frees) : He.Fa.free x ∈ fa := List.mem_append_right _ (List.mem_append_right _ (List.mem_append_left _ (List.mem_map.mpr ⟨x, m, rfl⟩)))
theorem topD_mem {i : Nat} (m : i ∈ tops) : topD i ∈ fn := List.mem_append_left _ (List.mem_map.mpr ⟨i, m, rfl⟩)
theorem errD_mem {i : Nat} (m : i < 5) : errD i ∈ fn := List.mem_append_right _ (List.mem_append_left _ (List.mem_map.mpr ⟨i, List.mem_range.mpr m, rfl⟩))
theorem brdD_mem {i : Nat} (m : i < 6) : brdD i ∈ fn := List.mem_append_right _ (List.mem_append_right _ (List.mem_append_left _ (List.mem_map.mpr ⟨i, List.mem_range.mpr m, rfl⟩)))
theorem ntfD_mem {i : Nat} (m : i < 4) : ntfD i ∈ fn := List.mem_append_right _ (List.mem_append_right _ (List.mem_append_right _ (List.mem_map.mpr ⟨i, List.mem_range.mpr m, rfl⟩)))
/-- the last facts -/
theorem last_fact (Y : SaysY h K) (i : Nat) {f : He.Fa} (e : fa[59 + i]? = some f) : f.ok K = true := Y.d.facts (List.mem_of_getElem? e)
theorem fn_of_top (Y : SaysY h K) {z : FuncData} {i : Nat} (m : i ∈ tops) : FnS K i (He.ga K (tName i)) (fdOf z K (He.ga K (tName i))) := fun_of (Y.d.defs (topD_mem m))
theorem err_of (X : K.In h) (G : h.Ns mainGlobals mg) (Y : SaysY h K) : ∀ p ∈ errN, oneE K p = true := fun p hp => by
  obtain ⟨_, h1⟩ := He.ba Y.more
  exact List.all_eq_true.mp (He.ba h1).1 p hp
theorem oexC_of {C : Addr} (h1 : oexB K C = true) (h2 : PySem.W.findIn K (.ref C) "__setattr__" = some (some (.builtin "object.__setattr__"))) (h3 : PySem.W.subIn K (.ref C) (.type "BaseException") = some true) (h4 : PySem.W.typeIn K (.ref C) = some (.type "type")) (h5 : PySem.W.keepIn K (.ref C) = true) : OexC K C := ⟨oexB_ok h1, h2, h3, h4, h5⟩
end
/-- one error's class, as the law's rules ask it -/
noncomputable def errOf {K : PySem.W.Frag} {h : Heap} {mg : Str → Option Value} (z : FuncData) (X : K.In h) (G : h.Ns mainGlobals mg) (Y : SaysY h K) (i : Nat) (nm fl : Str) (k : Nat) (hk : k < 5) (e : errN[k]? = some (nm, fl)) (ei : errIx.getD k 0 = i) : ErrD K mg i nm fl :=
  have hp : (nm, fl) ∈ errN := List.mem_of_getElem? e
  have en : errN.getD k ("", "") = (nm, fl) := by rw [List.getD_eq_getElem?_getD, e]; rfl
  have one := err_of X G Y _ hp
  have b1 := He.ba one
  have b2 := He.ba b1.2
  have b3 := He.ba b2.2
  have b4 := He.ba b3.2
  have b5 := He.ba b4.2
  have b6 := He.ba b5.2
  have b7 := He.ba b6.2
  have b8 := He.ba b7.2
  have FD : ∃ fd, FunD K "__init__" (nm ++ ".__init__") (defArgs (inClass (topS i) 0)) (defBody (inClass (topS i) 0)) (defScope (inClass (topS i) 0)) [] [] (He.ma K (He.ga K nm) "__init__") fd := by
    have z := Y.d.defs (errD_mem hk)
    unfold errD at z
    rw [en, ei] at z
    exact z
  { C := He.ga K nm
    f := He.ma K (He.ga K nm) "__init__"
    fd := fdOf z K (He.ma K (He.ga K nm) "__init__")
    F := funD_of FD
    T := oexC_of b1.1 (He.eqO_ok b2.1) (of_decide_eq_true b3.1) (of_decide_eq_true b4.1) b5.1
    no := He.eqO_ok b6.1
    iC := He.eqO_ok b7.1
    tI := of_decide_eq_true b8.1
    g := glo_of X G Y (List.mem_append_right _ (List.mem_append_left _ (List.mem_map.mpr ⟨(nm, fl), hp, rfl⟩))) }
end E1

set_option Elab.async false
set_option linter.all false
set_option maxRecDepth 100000
set_option maxHeartbeats 0
namespace E1
open PySem PySem.Spec PyProof.Rows L2
abbrev R : PySem.W.OpenRow := PySem.W.OpenLaw.row PySem.Challenge.rw_mustcross_k02_whole_notices
def ob (s : PySem.W.SharedT) : AlY := obsY (HandSHeadRun.getT s)
theorem ob_eq (s : PySem.W.SharedT) : ob s = hookY.obs s.abs := obsY_eq (HandSHeadRun.getT_eq s)
def loose : List Str := (["_wall", "CrossError", "BadBoard", "BadPlaces", "BadRim", "BadTies", "BadWishes", "LETTERS", "NAME_SIGNS", "LONGEST_NAME", "WORDS", "is_name", "is_list", "is_pair", "told_pair", "first_wrong_name", "first_unknown", "first_wrong_tie", "neighbours", "Board", "need_board", "is_wish", "told_wish", "first_wrong_wish", "Notice"] : List Str) ++ ((List.range 23).map fun i => tName (i + 31))
theorem run (w : World) : HandSHeadRun.RunEq R (PySem.W.view R.prog [54]) hookY ob 30000 loose w := by
  intro os
  kernel_rfl
end E1

set_option Elab.async false
set_option linter.all false
set_option maxRecDepth 100000
set_option maxHeartbeats 4000000
/-! The end of a law whose def wants that nothing is being shown around it. -/
namespace G0
open PySem PySem.Spec PyProof.Rows L2 LamX
/-- what is tracked as the law is called: the script, if the written part lacks it; the tables of code objects -/
def H00 (K : PySem.W.Frag) (ts : List Addr) (a : Addr) (o : Obj) (xs : List V) : Hp := fun b =>
  if b = a ∧ K.lookup a = none then some (.frz o (.lst xs)) else if b ∈ ts then some (.tbl #[]) else none
section
variable {K : PySem.W.Frag} {ts : List Addr} {a : Addr} {o : Obj} {xs : List V}
theorem H00.tab {t : Addr} (h : t ∈ ts) (n : t ≠ a) : H00 K ts a o xs t = some (.tbl #[]) := by
  unfold H00
  rw [if_neg (fun z => n z.1), if_pos h]
theorem H00.scr (h : K.lookup a = none) : H00 K ts a o xs a = some (.frz o (.lst xs)) := by
  unfold H00
  rw [if_pos ⟨rfl, h⟩]
theorem H00.inv {b : Addr} {u : HO} (h : H00 K ts a o xs b = some u) : (b = a ∧ K.lookup a = none ∧ u = .frz o (.lst xs)) ∨ (b ∈ ts ∧ u = .tbl #[]) := by
  unfold H00 at h
  by_cases h1 : b = a ∧ K.lookup a = none
  · rw [if_pos h1] at h
    exact .inl ⟨h1.1, h1.2, (Option.some.inj h).symm⟩
  · rw [if_neg h1] at h
    by_cases h2 : b ∈ ts
    · rw [if_pos h2] at h
      exact .inr ⟨h2, (Option.some.inj h).symm⟩
    · rw [if_neg h2] at h
      cases h
end
abbrev tab0 : Obj := { cls := .none, data := .fields #[] }
abbrev scr0 (vs : List Value) : Obj := { cls := .type "list", data := .seq vs.toArray }
/-- the base: what is not tracked -/
theorem H00.none {K : PySem.W.Frag} {ts : List Addr} {a : Addr} {vs : List Value} {xs : List V} {h : Heap} (ha : h.get? a = some (scr0 vs)) (hT : ∀ t ∈ ts, h.get? t = some tab0) {b : Addr} {u : Obj} (e : h.get? b = some u) (n1 : u ≠ scr0 vs) (n2 : u ≠ tab0) : H00 K ts a (scr0 vs) xs b = none := by
  cases q : H00 K ts a (scr0 vs) xs b with
  | none => rfl
  | some z =>
    rcases H00.inv q with ⟨rfl, _, _⟩ | ⟨m, _⟩
    · rw [ha] at e
      exact absurd (Option.some.inj e).symm n1
    · rw [hT b m] at e
      exact absurd (Option.some.inj e).symm n2
theorem law_callG {P : Program} {w : World} {K : PySem.W.Frag} {mg mb : Str → Option Value} {k : Nat} {fa a : Addr} {cs : List (Addr × Addr)} {fd : FuncData} {x : Str} {sp : Sp} {s1 : Shared} {vs : List Value} {ns : List Int}
    (inK : K.In s1.heap) (hG : s1.heap.Ns mainGlobals mg) (hB : s1.heap.Ns builtinsNs mb) (hBB : ∀ x : Str, x ≠ "__name__" → mb x = bootBuiltins x) (hL : s1.heap.NoLimit) (gens : s1.gens = #[])
    (tabs : ∀ p ∈ cs, s1.heap.get? p.2 = some tab0) (outK : ∀ p ∈ cs, K.lookup p.2 = none) (codes : ∀ p ∈ cs, PySem.W.CodeHd s1.heap p.1 p.2)
    (bmod : ∃ (bm : Addr) (ob : Obj), mg "__builtins__" = some (.ref bm) ∧ bm ≠ builtinsNs ∧ s1.heap.get? bm = some ob ∧ ob.cls = .type "module" ∧ ob.dict = some builtinsNs ∧ ob.data = .plain)
    (scr : s1.heap.get? a = some (scr0 vs)) (isInts : IntsAre vs ns) (size : ns.length ≤ sizeLine) (room : Room k callerA)
    (G : ∀ base : Heap, K.In base → base.Ns mainGlobals mg → (∀ p ∈ cs, TabB base mg p.1 p.2) → FnOkG P w K mg base k fa fd [x] sp) (bind : ∀ (s : Shared) (u : Value), BindsTo s fd ⟨[u], []⟩ [(x, u)])
    (hsp : ∀ H : Hp, (∀ p ∈ cs, H p.2 = some (.tbl #[])) → SqL K H a (ns.map V.int) → sp [.ref a] H (fun v _ => v = .bl true) fun _ _ _ => False) :
    codeAny (model P w) callerA (.call (.ref fa) ⟨[.ref a], []⟩) (fun r s' => r = .ok (.ret (.bool true)) ∧ OldK s1.heap s'.heap ∧ s'.os = s1.os ∧ AllBare s'.gens) s1 := by
  have rel := vals_ints isInts
  have lv := isInts.length
  let ts := cs.map Prod.snd
  let H : Hp := H00 K ts a (scr0 vs) (ns.map V.int)
  have tabs' : ∀ t ∈ ts, s1.heap.get? t = some tab0 := fun t ht => by
    obtain ⟨p, hp, rfl⟩ := List.mem_map.mp ht
    exact tabs p hp
  have inTs : ∀ p ∈ cs, p.2 ∈ ts := fun p hp => List.mem_map.mpr ⟨p, hp, rfl⟩
  have tNa : ∀ t ∈ ts, t ≠ a := fun t ht z => by
    have e := tabs' t ht
    rw [z, scr] at e
    cases e
  have hTab : ∀ p ∈ cs, H p.2 = some (.tbl #[]) := fun p hp => H00.tab (inTs p hp) (tNa _ (inTs p hp))
  have hScr : SqL K H a (ns.map V.int) := by
    cases q : K.lookup a with
    | none => exact .inl (.inr ⟨_, H00.scr q⟩)
    | some o =>
      have e := inK a o q
      rw [scr] at e
      cases e
      exact .inr ⟨_, vs.toArray, _, q, rfl, rfl, rfl, by rw [List.size_toArray, lv]; exact size, by simpa using rel⟩
  have hok : HOk P w H s1.heap := fun b u e => by
    rcases H00.inv e with ⟨rfl, _, rfl⟩ | ⟨m, rfl⟩
    · exact ⟨scr, by rw [List.length_map]; exact size, vs, _, rel, scr⟩
    · exact tabs' b m
  -- what is not tracked
  have off : ∀ {b : Addr} {u : Obj}, s1.heap.get? b = some u → (∀ z n, u.data ≠ .seq z n) → u.data ≠ .fields #[] → H b = none := fun {b u} e n1 n2 =>
    H00.none scr tabs' e (fun z => n1 _ _ (congrArg Obj.data z)) (fun z => n2 (congrArg Obj.data z))
  have low : ∀ {b : Addr} {u : Obj}, s1.heap.get? b = some u → (∀ z n, u.data ≠ .seq z n) → u.data ≠ .fields #[] → (hidT s1.heap H).get? b = some u := fun e n1 n2 => hidT_get e (off e n1 n2)
  have lowNs : ∀ {b : Addr} {m : Str → Option Value}, s1.heap.Ns b m → (hidT s1.heap H).Ns b m := fun {b m} q => by
    obtain ⟨o, es, n, e, d, r⟩ := q
    exact ⟨o, es, n, low e (fun z k y => by rw [d] at y; cases y) (fun y => by rw [d] at y; cases y), d, r⟩
  have lowK : K.In (hidT s1.heap H) := fun b u e => by
    refine hidT_get (inK b u e) ?_
    cases q : H b with
    | none => rfl
    | some z =>
      rcases H00.inv q with ⟨rfl, y, _⟩ | ⟨m, _⟩
      · rw [y] at e
        cases e
      · obtain ⟨p, hp, ep⟩ := List.mem_map.mp m
        have y := outK p hp
        rw [ep, e] at y
        cases y
  have hTB : ∀ p ∈ cs, TabB (hidT s1.heap H) mg p.1 p.2 := fun p hp => by
    have tp := tabs p hp
    have nG : mainGlobals ≠ p.2 := fun z => by
      obtain ⟨o, es, n, e, d, _⟩ := hG
      rw [z, tp] at e
      cases e
      cases d
    refine ⟨?_, ?_, nG⟩
    · obtain ⟨o, us, c1, c2, c3, c4, c5, c6, c7, e, y1, y2, y3, y⟩ := codes p hp
      refine ⟨o, us, c1, c2, c3, c4, c5, c6, c7, low e (fun z k q => by rw [y2] at q; cases q) (fun q => ?_), y1, y2, y3, y⟩
      rw [y2] at q
      injection q with q
      rw [q] at y3
      simp at y3
    · obtain ⟨bm, ob, q1, q2, q3, q4, q5, q6⟩ := bmod
      have f1 : bm ≠ mainGlobals := fun z => by
        obtain ⟨o, es, n, e, d, _⟩ := hG
        rw [z, e] at q3
        cases q3
        rw [d] at q6
        cases q6
      have f2 : bm ≠ p.2 := fun z => by
        rw [z, tp] at q3
        cases q3
        cases q6
      exact ⟨bm, ob, q1, q2, f1, f2, low q3 (fun z k q => by rw [q6] at q; cases q) (fun q => by rw [q6] at q; cases q), q4, q5, q6⟩
  have lim : (hidT s1.heap H).NoLimit := by
    obtain ⟨mc, l1, l2⟩ := hL
    exact ⟨mc, lowNs l1, l2⟩
  have e0 : Env0 P w K mg (hidT s1.heap H) callerA [] s1 H := ⟨rfl, ⟨lowK, lowNs hG, ⟨mb, lowNs hB, hBB⟩, lim⟩, fun b o e => of_hidT e, Nat.le_of_eq (hidT_size _ _), trivial, fun b hb => (nomatch (show b ∈ ([] : List Addr) from hb)), hok, .of_eq gens⟩
  refine codeAny_mono ((G _ lowK (lowNs hG) hTB).go callerA [] s1 H ⟨[.ref a], []⟩ [.ref a] [.ref a] _ _ rfl room e0 (bind s1 (.ref a)) (.cons rfl .nil) (hsp H hTab hScr)) fun r s' q => ?_
  match r, q with
  | .ok (.ret u), q =>
    obtain ⟨v, H', os, bare, un, hok', ru, qv⟩ := q
    have qv : v = .bl true := qv
    subst qv
    have eu : u = Value.bool true := ru
    subst eu
    have tab' : ∀ t ∈ ts, ∃ more : Array Value, s'.heap.get? t = some { cls := .none, data := .fields more } := fun t ht => by
      obtain ⟨more, z⟩ := un.tbls t #[] (H00.tab ht (tNa t ht))
      exact ⟨_, hok' t _ z⟩
    have stay : ∀ b o, b ∉ ts → s1.heap.get? b = some o → s'.heap.get? b = some o := fun b o nb e => by
      cases y : H b with
      | none => exact un.keep b o e y (fun z => (nomatch (show b ∈ ([] : List Addr) from z))) (by simp)
      | some z =>
        rcases H00.inv y with ⟨rfl, _, rfl⟩ | ⟨m, _⟩
        · have y2 := (hok' b _ (un.frzs b _ _ y)).1
          rw [scr] at e
          cases e
          exact y2
        · exact absurd m nb
    refine ⟨rfl, ⟨fun b o e => ?_, fun b o e => ?_⟩, os, bare⟩
    · by_cases m : b ∈ ts
      · obtain ⟨p, hp, rfl⟩ := List.mem_map.mp m
        obtain ⟨more, y⟩ := tab' _ m
        rw [tabs p hp] at e
        cases e
        exact .inr (.inl ⟨((codes p hp).tab (tabs p hp)).isCodeTable, rfl, #[], more, rfl, by rw [Array.empty_append]; exact y⟩)
      · exact .inl (stay b o m e)
    · by_cases m : b ∈ ts
      · obtain ⟨more, y⟩ := tab' _ m
        exact ⟨_, y⟩
      · exact ⟨o, stay b o m e⟩
  | .ok .next, q => exact False.elim q
  | .ok .brk, q => exact False.elim q
  | .ok .cont, q => exact False.elim q
  | .error e, q => exact False.elim q
end G0

set_option Elab.async false
set_option linter.all false
set_option maxRecDepth 100000
set_option maxHeartbeats 8000000
namespace E1
open PySem PySem.Spec PyProof.Rows L2 G0 LamX
section
variable {K : PySem.W.Frag} {h : Heap} {mg : Str → Option Value}
theorem glo_top (X : K.In h) (G : h.Ns mainGlobals mg) (Y : SaysY h K) {i : Nat} (m : i ∈ tops) : mg (tName i) = some (.ref (He.ga K (tName i))) := glo_of X G Y (top_mem m)
theorem fre (X : K.In h) (G : h.Ns mainGlobals mg) (Y : SaysY h K) {x : Str} (m : x ∈ frees) : mg x = none := He.free_ok X G (Y.d.facts (frees_mem m))
theorem brd_fd (Y : SaysY h K) (z : FuncData) {j : Nat} (hj : j < 6) : FunD K (mNm j) ("Board." ++ mNm j) (defArgs (mS j)) (defBody (mS j)) (defScope (mS j)) [] [] (He.ma K (bdC K) (mNm j)) (fdOf z K (He.ma K (bdC K) (mNm j))) := funD_of (Y.d.defs (brdD_mem hj))
theorem nt_fd (Y : SaysY h K) (z : FuncData) {j : Nat} (hj : j < 4) : FunD K (nNm j) ("Notice." ++ nNm j) (defArgs (nS j)) (defBody (nS j)) (defScope (nS j)) [] [] (He.ma K (ntC K) (nNm j)) (fdOf z K (He.ma K (ntC K) (nNm j))) := funD_of (Y.d.defs (ntfD_mem hj))
theorem more_of (Y : SaysY h K) : exmB K = true ∧ clsB K (bdC K) = true ∧ clsB K (ntC K) = true ∧ twoB K = true ∧ He.tupB K "WORDS" (wordsL.map He.Dv.str) = true := by
  obtain ⟨_, h1⟩ := He.ba Y.more
  obtain ⟨_, h2⟩ := He.ba h1
  obtain ⟨h3, h4⟩ := He.ba h2
  obtain ⟨h5, h6⟩ := He.ba h4
  obtain ⟨h7, h8⟩ := He.ba h6
  obtain ⟨h9, h10⟩ := He.ba h8
  exact ⟨h3, h5, h7, h9, h10⟩
theorem ownC_of {C : Addr} (hc : Cls K C) (hb : clsB K C = true) : OwnC K C := by
  obtain ⟨h1, b⟩ := He.ba hb
  obtain ⟨h2, b⟩ := He.ba b
  obtain ⟨h3, b⟩ := He.ba b
  obtain ⟨h4, b⟩ := He.ba b
  exact ⟨hc, He.eqO_ok h1, sp_get K, sp_tak K, of_decide_eq_true h2, fun T hT => of_decide_eq_true (List.all_eq_true.mp h3 T hT), fun T hT => of_decide_eq_true (List.all_eq_true.mp h4 T hT)⟩
noncomputable def namesD (z : FuncData) (X : K.In h) (G : h.Ns mainGlobals mg) (Y : SaysY h K) : NamesD K mg :=
  { fN := _, dN := _, FN := fn_of_top (z := z) Y (i := 13) (by decide), gN := glo_top X G Y (i := 13) (by decide)
    fL := _, dL := _, FL := fn_of_top (z := z) Y (i := 14) (by decide), gL := glo_top X G Y (i := 14) (by decide)
    fP := _, dP := _, FP := fn_of_top (z := z) Y (i := 15) (by decide), gP := glo_top X G Y (i := 15) (by decide)
    fT := _, dT := _, FT := fn_of_top (z := z) Y (i := 16) (by decide), gT := glo_top X G Y (i := 16) (by decide)
    fW := _, dW := _, FW := fn_of_top (z := z) Y (i := 17) (by decide), gW := glo_top X G Y (i := 17) (by decide)
    fU := _, dU := _, FU := fn_of_top (z := z) Y (i := 18) (by decide), gU := glo_top X G Y (i := 18) (by decide)
    fX := _, dX := _, FX := fn_of_top (z := z) Y (i := 20) (by decide), gX := glo_top X G Y (i := 20) (by decide) }
theorem txtN_of (X : K.In h) (G : h.Ns mainGlobals mg) (Y : SaysY h K) : TxtN K mg :=
  ⟨fre X G Y (by decide), fre X G Y (by decide), fre X G Y (by decide), fre X G Y (by decide), fre X G Y (by decide), fre X G Y (by decide), fre X G Y (by decide), fre X G Y (by decide), He.str_ok X G (last_fact Y 2 rfl), He.str_ok X G (last_fact Y 3 rfl), He.int_ok X G (last_fact Y 4 rfl),
    ⟨_, He.glo_ok X G (last_fact Y 1 rfl), fun H => by
      have q := He.tupB_ok (more_of Y).2.2.2.2 H
      rw [List.map_map] at q
      exact q⟩⟩
noncomputable def boardD (z : FuncData) (X : K.In h) (G : h.Ns mainGlobals mg) (Y : SaysY h K) : BoardD K mg :=
  have b1 := He.ba (more_of Y).2.1
  have b2 := He.ba b1.2
  have b3 := He.ba b2.2
  have b4 := He.ba b3.2
  have b5 := He.ba b4.2
  have b6 := He.ba b5.2
  have b7 := He.ba b6.2
  have tf : PySem.W.typeIn K (.ref (He.ma K (bdC K) "__eq__")) = some (.type "function") := of_decide_eq_true b6.1
  { C := bdC K
    g := He.glo_ok X G (last_fact Y 0 rfl)
    O := ownC_of (He.cls_ok (last_fact Y 5 rfl)) (more_of Y).2.1
    noP := He.noat_ok (last_fact Y 6 rfl)
    noT := He.noat_ok (last_fact Y 7 rfl)
    noR := He.noat_ok (last_fact Y 8 rfl)
    noN := He.noat_ok (last_fact Y 9 rfl)
    f := fun j => He.ma K (bdC K) (mNm j)
    d := fun j => fdOf z K (He.ma K (bdC K) (mNm j))
    F0 := brd_fd Y z (j := 0) (by decide)
    F1 := brd_fd Y z (j := 1) (by decide)
    F2 := brd_fd Y z (j := 2) (by decide)
    F3 := brd_fd Y z (j := 3) (by decide)
    F4 := brd_fd Y z (j := 4) (by decide)
    F5 := brd_fd Y z (j := 5) (by decide)
    M0 := He.mkr_ok (last_fact Y 10 rfl)
    M2 := He.meth_ok (last_fact Y 11 rfl)
    M3 := He.meth_ok (last_fact Y 12 rfl)
    M4 := He.meth_ok (last_fact Y 13 rfl)
    M5 := He.meth_ok (last_fact Y 14 rfl)
    eqA := He.eqO_ok b5.1
    eqF := by
      show (PySem.W.typeIn K (.ref (He.ma K (bdC K) "__eq__")) == some (.type "function")) = true
      rw [tf]
      decide
    ne := fun hp x o X' hx ho => plnB_ok b7.1 tf hp x o X' hx ho
    P := errOf z X G Y 4 "BadPlaces" "index" 0 (by decide) rfl rfl
    T := errOf z X G Y 6 "BadTies" "index" 1 (by decide) rfl rfl
    R := errOf z X G Y 5 "BadRim" "index" 2 (by decide) rfl rfl
    nf := fun T hT => List.all_eq_true.mp b7.2 T hT
    fNb := _
    dNb := _
    FNb := fn_of_top (z := z) Y (i := 21) (by decide)
    gNb := glo_top X G Y (i := 21) (by decide) }
noncomputable def drawD (z : FuncData) (X : K.In h) (G : h.Ns mainGlobals mg) (Y : SaysY h K) : DrawD K mg :=
  { t := ⟨fre X G Y (by decide), fre X G Y (by decide), fre X G Y (by decide), fre X G Y (by decide)⟩
    fS := _, dS := _, FS := fn_of_top (z := z) Y (i := 45) (by decide), gS := glo_top X G Y (i := 45) (by decide)
    fD := _, dD := _, FD := fn_of_top (z := z) Y (i := 46) (by decide), gD := glo_top X G Y (i := 46) (by decide)
    fM := _, dM := _, FM := fn_of_top (z := z) Y (i := 48) (by decide), gM := glo_top X G Y (i := 48) (by decide) }
theorem law_tops : ∀ i ∈ lawIx, i ∈ tops := by decide
theorem free_frees : ∀ x ∈ freeN, x ∈ frees := by decide
noncomputable def lawD (z : FuncData) (X : K.In h) (G : h.Ns mainGlobals mg) (Y : SaysY h K) : LawD K mg :=
  { n := namesD z X G Y
    t := txtN_of X G Y
    B := boardD z X G Y
    s := drawD z X G Y
    f := fun i => He.ga K (tName i)
    d := fun i => fdOf z K (He.ga K (tName i))
    F := fun i m => fn_of_top Y (law_tops i m)
    g := fun i m => glo_top X G Y (law_tops i m)
    free := fun x m => fre X G Y (free_frees x m) }
noncomputable def noteD (z : FuncData) (X : K.In h) (G : h.Ns mainGlobals mg) (Y : SaysY h K) : NoteD K mg (lawD z X G Y).B :=
  have b1 := He.ba (more_of Y).2.2.1
  have b2 := He.ba b1.2
  have b3 := He.ba b2.2
  have b4 := He.ba b3.2
  have b5 := He.ba b4.2
  have b6 := He.ba b5.2
  have b7 := He.ba b6.2
  have t1 := He.ba (more_of Y).2.2.2.1
  have t2 := He.ba t1.2
  have tf : PySem.W.typeIn K (.ref (He.ma K (ntC K) "__eq__")) = some (.type "function") := of_decide_eq_true b6.1
  { C := ntC K
    g := He.glo_ok X G (last_fact Y 15 rfl)
    O := ownC_of (He.cls_ok (last_fact Y 16 rfl)) (more_of Y).2.2.1
    noB := He.noat_ok (last_fact Y 17 rfl)
    noW := He.noat_ok (last_fact Y 18 rfl)
    f := fun j => He.ma K (ntC K) (nNm j)
    d := fun j => fdOf z K (He.ma K (ntC K) (nNm j))
    F0 := nt_fd Y z (j := 0) (by decide)
    F1 := nt_fd Y z (j := 1) (by decide)
    F2 := nt_fd Y z (j := 2) (by decide)
    F3 := nt_fd Y z (j := 3) (by decide)
    M0 := He.mkr_ok (last_fact Y 19 rfl)
    M2 := He.meth_ok (last_fact Y 20 rfl)
    M3 := He.meth_ok (last_fact Y 21 rfl)
    eqA := He.eqO_ok b5.1
    eqF := by
      show (PySem.W.typeIn K (.ref (He.ma K (ntC K) "__eq__")) == some (.type "function")) = true
      rw [tf]
      decide
    ne := fun hp x o X' hx ho => plnB_ok b7.1 tf hp x o X' hx ho
    nf := fun T hT => List.all_eq_true.mp b7.2 T hT
    nfB := t1.1
    xN := of_decide_eq_true t2.1
    XB := errOf z X G Y 3 "BadBoard" "thing" 3 (by decide) rfl rfl
    XW := errOf z X G Y 7 "BadWishes" "index" 4 (by decide) rfl rfl }
theorem eC_eq (z : FuncData) (X : K.In h) (G : h.Ns mainGlobals mg) (Y : SaysY h K) (i : Fin 2) : eC (noteD z X G Y) i = eA K (i.1 + 3) := by
  match i with
  | 0 => rfl
  | 1 => rfl
theorem metD (z : FuncData) (X : K.In h) (G : h.Ns mainGlobals mg) (Y : SaysY h K) : MetD (noteD z X G Y) := by
  have Eq : ∀ i : Fin 2, eC (noteD z X G Y) i = eA K (i.1 + 3) := eC_eq z X G Y
  refine ⟨fun i => ?_, fun i j => ?_⟩
  · rw [Eq]
    have one : ∀ k, k < 5 → XfC K (eA K k) := fun k hk => by
      have hp : errN.getD k ("", "") ∈ errN := by
        rw [List.getD_eq_getElem?_getD, List.getElem?_eq_getElem (show k < errN.length from hk)]
        exact List.getElem_mem _
      obtain ⟨_, b⟩ := He.ba (err_of X G Y _ hp)
      obtain ⟨_, b⟩ := He.ba b
      obtain ⟨_, b⟩ := He.ba b
      obtain ⟨_, b⟩ := He.ba b
      obtain ⟨_, b⟩ := He.ba b
      obtain ⟨_, b⟩ := He.ba b
      obtain ⟨_, b⟩ := He.ba b
      obtain ⟨_, b⟩ := He.ba b
      exact xfB_ok b
    exact one (i.1 + 3) (by have := i.2; omega)
  · rw [Eq, Eq]
    have e := of_decide_eq_true (List.all_eq_true.mp (List.all_eq_true.mp (more_of Y).1 (i.1 + 3) (List.mem_range.mpr (by have := i.2; omega))) (j.1 + 3) (List.mem_range.mpr (by have := j.2; omega)))
    rw [e]
    congr 1
    exact decide_eq_decide.mpr ⟨fun q => Fin.ext (by omega), fun q => by rw [q]⟩
end
/-- the law's call, from the head -/
theorem walk_law {q : Program} {loose : List Str} {XP : (Str → Option Value) → Heap → Prop} {d : DefRec} (hdf : d.params.defaults = []) (hnm : d.name = ("law" : Str)) :
    PySem.W.WalkO q loose XP hookY.says (PySem.Challenge.rw_mustcross_k02_whole_notices).row.toRowW d [] (fun f vs => PySem.call f vs) := by
  refine Att.attach_callB (n := 63) rfl hdf fun w s0 s1 mg mb fa o pm cd doc a vs ns G Y ho hd hcd hmg hobj hints hlen hbits hg => ?_
  obtain ⟨K, KX, Y⟩ := Y
  rw [hnm] at hmg
  have tl : tName 54 = ("law" : Str) := rfl
  obtain ⟨fd, F0⟩ := Y.d.defs (topD_mem (i := 54) (by decide))
  have F1 : FunD K (tName 54) (tName 54) (defArgs (topS 54)) (defBody (topS 54)) (defScope (topS 54)) [] [] (He.ga K (tName 54)) (fdOf fd K (He.ga K (tName 54))) := funD_of ⟨fd, F0⟩
  have ef : fa = He.ga K (tName 54) := by
    have e := hmg.symm.trans (glo_top KX G.T.g Y (i := 54) (by decide))
    cases e
    rfl
  subst ef
  obtain ⟨os, hsys⟩ := Option.isSome_iff_exists.mp (He.ba Y.more).1
  let cs : List (Addr × Addr) := tf.map (He.cT K)
  have onTf : ∀ {φ : Addr × Addr → Prop}, (∀ p ∈ tf, φ (He.cT K p)) → ∀ p ∈ cs, φ p := fun {φ} h p hp => by
    obtain ⟨t, ht, rfl⟩ := List.mem_map.mp hp
    exact h t ht
  have mem1 : (("_law_refused_right", none) : He.Defn) ∈ tf := List.mem_cons_self
  have mem2 : (("law", none) : He.Defn) ∈ tf := List.mem_cons_of_mem _ List.mem_cons_self
  have hne : (He.cT K ("_law_refused_right", none)).2 ≠ (He.cT K ("law", none)).2 := of_decide_eq_true (He.ba (He.ba (more_of Y).2.2.2.1).2).2
  refine law_callG (cs := cs) (fd := fdOf fd K (He.ga K (tName 54))) (x := "_law_script") (sp := spLw K [((He.cT K ("_law_refused_right", none)).2, q53), ((He.cT K ("law", none)).2, q54)]) (k := 10) KX G.T.g G.T.b G.T.builtins G.T.nolimit hg (onTf Y.empty) (onTf Y.out) (onTf fun p hp => PySem.W.codeHd_of_K KX (Y.hd p hp)) G.T.bmain hobj hints (Nat.le_trans hlen (by decide)) ⟨rfl, by decide, by decide⟩ ?_ ?_ ?_
  · intro base hb hB hT
    have tb1 := hT (He.cT K ("_law_refused_right", none)) (List.mem_map.mpr ⟨_, mem1, rfl⟩)
    have tb2 := hT (He.cT K ("law", none)) (List.mem_map.mpr ⟨_, mem2, rfl⟩)
    exact ok_lw (P := (PySem.Challenge.rw_mustcross_k02_whole_notices).prog) (w := w) (base := base) (lawD fd KX G.T.g Y) (noteD fd KX G.T.g Y) (metD fd KX G.T.g Y) hne (fun oc od kV doc pm an cc ct osl lk => by
      have e : He.codeOf K ("_law_refused_right", none) = cc := He.codeOf_eq (p := ("_law_refused_right", none)) lk rfl
      have tb3 : TabB base mg (He.codeOf K ("_law_refused_right", none)) (He.cT K ("_law_refused_right", none)).2 := tb1
      rw [e] at tb3
      exact tb3) (fun oc od kV doc pm an cc ct osl lk => by
      have e : He.codeOf K ("law", none) = cc := He.codeOf_eq (p := ("law", none)) lk rfl
      have tb3 : TabB base mg (He.codeOf K ("law", none)) (He.cT K ("law", none)).2 := tb2
      rw [e] at tb3
      exact tb3) hsys
  · exact fun s v => FunD.bindsA (ps := ["_law_script"]) F1 (fun _ _ _ _ _ _ us hl => match us, hl with | [_], _ => rfl) s [v] rfl
  · intro H hH hS
    refine ⟨a, ns, rfl, hS, fun p hp => ?_, fun _ => rfl⟩
    simp only [List.mem_cons, List.not_mem_nil, or_false] at hp
    rcases hp with rfl | rfl
    · exact TabS.nil (hH _ (List.mem_map.mpr ⟨_, mem1, rfl⟩))
    · exact TabS.nil (hH _ (List.mem_map.mpr ⟨_, mem2, rfl⟩))
end E1
open PySem PySem.W PySem.Calls PyProof.Rows
theorem PySem.Challenge.cw_mustcross_k02_whole_notices_holds : PySem.Challenge.rw_mustcross_k02_whole_notices.Holds := by
  w_on; o_law
  refine HandSHeadRun.head_any (r := OpenLaw.row PySem.Challenge.rw_mustcross_k02_whole_notices) (q := view (OpenLaw.row PySem.Challenge.rw_mustcross_k02_whole_notices).prog [54]) (H := E1.hookY) (ob := E1.ob) (M := 30000) (loose := E1.loose)
    (d := HandSHeadRun.topDef (OpenLaw.row PySem.Challenge.rw_mustcross_k02_whole_notices).prog 54) (kwd := []) E1.ob_eq
    (by kernel_rfl) (fun s => by kernel_rfl) E1.run (by kernel_rfl) (by kernel_rfl) (by kernel_rfl) (by rfl) (by first | assumption | decide +kernel) (by decide +kernel) ⟨rfl, rfl, rfl, rfl, rfl, by decide +kernel⟩ ?hw ?hc
  case hw => w_witness2
  case hc => exact E1.walk_law (by kernel_rfl) (by kernel_rfl)

