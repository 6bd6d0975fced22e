import PyProof.Rows.All
import Wide.All
import OpenK.AllK
import Wide.FinOn
import KE.KStateDown
import HandS.ForMost
import HandS.ForExc
import HandS.SortOrd
import HandS.SortRule
import KE.KExcIs
import HandS.Wide
import HandS.ExcInit
import HandS.ExcField
import HandS.ExcIs
import HandS.Conv
import HandS.More
import HandS.Defaults
import HandS.MakeKw
import HandS.Lambda
import HandS.IsInst
import HandS.NoneIn
import HandS.Text
import HandS.DictComp
import HandS.TryMany
import HandS.EndTab
import HandS.HeadWalk
import HandS.Head0
import HandS.Head1
import HandS.Head2
import HandS.HeadEnd
import HandS.HeadHook1
import HandS.HeadHook2
import HandS.HeadHook3
import HandS.HeadHook4
import PySem.Challenge.RW_mustcross_k61_whole_boards_beside
import KE.GoesMore
import HandS.Iter
import HandS.Comp
import HandS.WordsExc
import PyProof.InstNe
import HandS.SlotsOwn
import PyProof.WalkInts
import PyProof.FString5
import HandS.Call
import HandS.Walk
import HandS.SortInts
import HandS.Deep
import HandS.Style
import HandS.Zip
import HandS.ListItems
import HandS.Exc
import HandS.TupSets
import HandS.SetFor
import HandS.Codes
import PyProof.ReprRoads
import PyProof.Rows.RegFStrParts
set_option Elab.async false
set_option linter.all false
set_option maxRecDepth 100000
set_option maxHeartbeats 4000000
/-! Sorting of names, and of pairs of names, lists and tuples, any number of them. -/
namespace G0
open PySem PySem.Spec PyProof.Rows L2
/-! ### the order of texts -/
def ltS (x y : Str) : Bool := decide (x.cps.toList < y.cps.toList)
def leS (x y : Str) : Bool := !ltS y x
theorem ltS_asym {x y : Str} (h : ltS x y = true) : ltS y x = false := decide_eq_false (List.lt_asymm (of_decide_eq_true h))
theorem ltS_tr {x y z : Str} (h1 : ltS y x = false) (h2 : ltS z y = false) : ltS z x = false := decide_eq_false (List.le_trans (of_decide_eq_false h1) (of_decide_eq_false h2))
theorem ltS_eq {x y : Str} (h1 : ltS x y = false) (h2 : ltS y x = false) : x = y := ext_toList (List.le_antisymm (of_decide_eq_false h2) (of_decide_eq_false h1))
theorem ltS_irr (x : Str) : ltS x x = false := decide_eq_false (List.lt_irrefl _)
theorem ltS_ne {x y : Str} (h : ltS x y = true) : x ≠ y := fun e => by rw [e, ltS_irr] at h; cases h
theorem leS_trans (a b c : Str) (h1 : leS a b = true) (h2 : leS b c = true) : leS a c = true := by
  unfold leS at *
  simp only [Bool.not_eq_true'] at *
  exact ltS_tr h1 h2
theorem leS_total (a b : Str) : (leS a b || leS b a) = true := by
  unfold leS
  cases h : ltS b a with
  | false => rfl
  | true => rw [ltS_asym h]; rfl
def sortS (xs : List Str) : List Str := xs.mergeSort leS
theorem sortS_perm (xs : List Str) : (sortS xs).Perm xs := List.mergeSort_perm xs leS
theorem sortS_pw (xs : List Str) : (sortS xs).Pairwise (fun a b => leS a b = true) := List.pairwise_mergeSort leS_trans leS_total xs
theorem sortS_uniq {xs ys : List Str} (p : ys.Perm xs) (h : ys.Pairwise (fun a b => leS a b = true)) : ys = sortS xs :=
  List.Perm.eq_of_pairwise (fun a b _ _ h1 h2 => by
    unfold leS at h1 h2
    simp only [Bool.not_eq_true'] at h1 h2
    exact ltS_eq h2 h1) h (sortS_pw xs) (p.trans (sortS_perm xs).symm)
theorem sortS_of_perm {xs ys : List Str} (p : ys.Perm xs) : sortS ys = sortS xs := sortS_uniq ((sortS_perm ys).trans p) (sortS_pw ys)
theorem sortS_idem (xs : List Str) : sortS (sortS xs) = sortS xs := sortS_of_perm (sortS_perm xs)
theorem sortS_len (xs : List Str) : (sortS xs).length = xs.length := (sortS_perm xs).length_eq
theorem sortS_mem {x : Str} {xs : List Str} : x ∈ sortS xs ↔ x ∈ xs := (sortS_perm xs).mem_iff
/-! ### the order of pairs -/
abbrev Pr : Type := Str × Str
def ltPr (p q : Pr) : Bool := if p.1 = q.1 then ltS p.2 q.2 else ltS p.1 q.1
def lePr (p q : Pr) : Bool := !ltPr q p
theorem ltPr_no {p q : Pr} : ltPr p q = false ↔ ltS p.1 q.1 = false ∧ (p.1 = q.1 → ltS p.2 q.2 = false) := by
  unfold ltPr
  by_cases e : p.1 = q.1
  · rw [if_pos e, e, ltS_irr]
    simp
  · rw [if_neg e]
    simp [e]
theorem ltPr_asym {p q : Pr} (h : ltPr p q = true) : ltPr q p = false := by
  refine ltPr_no.mpr ?_
  unfold ltPr at h
  by_cases e : p.1 = q.1
  · rw [if_pos e] at h
    exact ⟨by rw [e]; exact ltS_irr _, fun _ => ltS_asym h⟩
  · rw [if_neg e] at h
    exact ⟨ltS_asym h, fun z => absurd z.symm e⟩
theorem ltPr_tr {x y z : Pr} (h1 : ltPr y x = false) (h2 : ltPr z y = false) : ltPr z x = false := by
  obtain ⟨a1, a2⟩ := ltPr_no.mp h1
  obtain ⟨b1, b2⟩ := ltPr_no.mp h2
  refine ltPr_no.mpr ⟨ltS_tr a1 b1, fun e => ?_⟩
  have e1 : z.1 = y.1 := by
    refine ltS_eq b1 ?_
    rw [← e] at a1
    exact a1
  exact ltS_tr (a2 (e1.symm.trans e)) (b2 e1)
theorem ltPr_eq {p q : Pr} (h1 : ltPr p q = false) (h2 : ltPr q p = false) : p = q := by
  obtain ⟨a1, a2⟩ := ltPr_no.mp h1
  obtain ⟨b1, b2⟩ := ltPr_no.mp h2
  have e := ltS_eq a1 b1
  exact Prod.ext e (ltS_eq (a2 e) (b2 e.symm))
theorem lePr_trans (a b c : Pr) (h1 : lePr a b = true) (h2 : lePr b c = true) : lePr a c = true := by
  unfold lePr at *
  simp only [Bool.not_eq_true'] at *
  exact ltPr_tr h1 h2
theorem lePr_total (a b : Pr) : (lePr a b || lePr b a) = true := by
  unfold lePr
  cases h : ltPr b a with
  | false => rfl
  | true => rw [ltPr_asym h]; rfl
def sortPr (xs : List Pr) : List Pr := xs.mergeSort lePr
theorem sortPr_perm (xs : List Pr) : (sortPr xs).Perm xs := List.mergeSort_perm xs lePr
theorem sortPr_pw (xs : List Pr) : (sortPr xs).Pairwise (fun a b => lePr a b = true) := List.pairwise_mergeSort lePr_trans lePr_total xs
theorem sortPr_uniq {xs ys : List Pr} (p : ys.Perm xs) (h : ys.Pairwise (fun a b => lePr a b = true)) : ys = sortPr xs :=
  List.Perm.eq_of_pairwise (fun a b _ _ h1 h2 => by
    unfold lePr at h1 h2
    simp only [Bool.not_eq_true'] at h1 h2
    exact ltPr_eq h2 h1) h (sortPr_pw xs) (p.trans (sortPr_perm xs).symm)
theorem sortPr_of_perm {xs ys : List Pr} (p : ys.Perm xs) : sortPr ys = sortPr xs := sortPr_uniq ((sortPr_perm ys).trans p) (sortPr_pw ys)
theorem sortPr_len (xs : List Pr) : (sortPr xs).length = xs.length := (sortPr_perm xs).length_eq
theorem sortPr_mem {x : Pr} {xs : List Pr} : x ∈ sortPr xs ↔ x ∈ xs := (sortPr_perm xs).mem_iff
/-! ### values that are texts -/
def vStr : Value → Str
  | .str x _ => x
  | _ => default
def ltVS (u v : Value) : Bool := ltS (vStr u) (vStr v)
theorem ltVS_swo : SrtO.Swo ltVS := ⟨fun _ _ h => ltS_asym h, fun _ _ _ h1 h2 => ltS_tr h1 h2⟩
theorem strs_vStr : ∀ {vs : List Value} {xs : List Str}, StrsAre vs xs → vs.map vStr = xs ∧ ∀ v ∈ vs, ∃ x t, v = .str x t
  | _, _, .nil => ⟨rfl, by simp⟩
  | _, _, .cons x t h => by
    obtain ⟨a, b⟩ := strs_vStr h
    refine ⟨by rw [List.map_cons, a]; rfl, fun v hv => ?_⟩
    rcases List.mem_cons.mp hv with rfl | hv
    · exact ⟨x, t, rfl⟩
    · exact b v hv
theorem strs_of : ∀ {vs : List Value}, (∀ v ∈ vs, ∃ x t, v = .str x t) → StrsAre vs (vs.map vStr)
  | [], _ => .nil
  | v :: vs, h => by
    obtain ⟨x, t, rfl⟩ := h v (by simp)
    exact .cons x t (strs_of fun u hu => h u (by simp [hu]))
section
variable {prog : Program} {w : World} {A : Around} {E : Value → Shared → Prop} {s : Shared}
theorem str_cmp {vs : List Value} (hv : ∀ v ∈ vs, ∃ x t, v = .str x t) : SrtO.Cmp prog w A s oneType' (fun p => p.1 ∈ vs) (SrtO.lt2 ltVS) := by
  intro p q hp hq
  obtain ⟨x, t, e1⟩ := hv _ hp
  obtain ⟨y, u, e2⟩ := hv _ hq
  show wpAny (model prog w) A (keyLt' oneType' p.1 q.1) (fun r s' => s' = s ∧ r = ltVS p.1 q.1) (fun _ _ => False) s
  rw [e1, e2, keyLt'_oneType]
  exact oneLt_str ⟨rfl, rfl⟩
theorem strs_sortable {a : Addr} {vs : List Value} (hv : ∀ v ∈ vs, ∃ x t, v = .str x t) (h2 : 2 ≤ vs.length) : SrtO.SortableO prog w A s a vs ltVS := by
  intro h' _
  refine ⟨oneType', fun Q E hq => ?_, str_cmp hv⟩
  match vs, hv, h2 with
  | v1 :: v2 :: r, hv, _ =>
    rw [keyKind_strs (strs_of hv)]
    exact wpAny_pure hq
/-- what is in a list or a tuple -/
theorem collect_seq {l : Addr} {vs : List Value} {o : Obj} {n : Nat} {Q : List Value → Shared → Prop} (ho : s.heap.get? l = some o) (hc : o.cls = .type "list" ∨ o.cls = .type "tuple") (hd : o.data = .seq vs.toArray n) (hz : vs.length ≤ sizeLine)
    (h : Q vs { s with heap := (s.heap.push (seqObj "list" #[] 0)).update s.heap.objs.size (Obj.mapSeq (· ++ vs.toArray)) }) : wpAny (model prog w) A (collect (.ref l)) Q E s := by
  unfold collect
  refine wpAny_bind (wpAny_runValue (codeAny_builtin entry_proto_collect' (show wpAny _ _ (do again (.builtin "list.__iadd__" ⟨[← newList [], .ref l], []⟩)) _ _ s from wpAny_bind (wpAny_newList (wpAny_pure ⟨Code.quiet_builtin _ (by decide +kernel), codeAny_builtin entry_list_iadd' ?_⟩)))))
  have h1 : (s.heap.push (seqObj "list" #[] 0)).get? l = some o := Heap.get?_push_of_some _ ho
  have h2 : (s.heap.push (seqObj "list" #[] 0)).get? s.heap.objs.size = some (seqObj "list" #[] 0) := Heap.get?_push_size _ rfl
  show wpAny _ _ (Builtin.List.listExtendWith (.ref s.heap.objs.size) (.ref l) (.ref s.heap.objs.size)) _ _ { s with heap := s.heap.push (seqObj "list" #[] 0) }
  unfold Builtin.List.listExtendWith
  have e : ∃ T : String, o.cls = .type T ∧ ((Value.type T == Value.type "list") || (Value.type T == Value.type "tuple")) = true := by
    rcases hc with z | z
    · exact ⟨_, z, by rfl⟩
    · exact ⟨_, z, by rfl⟩
  obtain ⟨T, eT, eb⟩ := e
  refine wpAny_bind (wpAny_typeOf (T := T) ⟨o, h1, eT⟩ ?_)
  rw [if_pos (by rw [Bool.or_assoc, eb, Bool.or_true])]
  refine wpAny_bind (listItems_at h1 hd (wpAny_bind (listItems_at (xs := #[]) (n := 0) h2 rfl ?_)))
  rw [if_neg (by simp)]
  refine wpAny_bind (listUpdate_at (xs := #[]) (n := 0) h2 rfl ?_ (Nat.zero_le _) (by show (#[] ++ vs.toArray).size ≤ sizeLine + 1; simp; omega))
  refine wpAny_pure (show wpAny (model prog w) A (do
      let o ← load s.heap.objs.size
      match o.data with
      | .seq xs _ => pure xs.toList
      | _ => unsupported "internal:collect") Q E { s with heap := (s.heap.push (seqObj "list" #[] 0)).update s.heap.objs.size (Obj.mapSeq (· ++ vs.toArray)) } from wpAny_bind (wpAny_load (get?_update_seq h2 _) ?_))
  have ea : ((#[] : Array Value) ++ vs.toArray).toList = vs := by simp
  show wpAny _ _ (pure ((#[] : Array Value) ++ vs.toArray).toList) Q E _
  rw [ea]
  exact wpAny_pure h
end
end G0

set_option Elab.async false
set_option linter.all false
set_option maxRecDepth 100000
set_option maxHeartbeats 4000000
/-! sorted(..) of names and of pairs of names, as rules. -/
namespace G0
open PySem PySem.Spec PyProof.Rows L2
section
variable {prog : Program} {w : World} {A : Around} {E : Value → Shared → Prop} {s : Shared}
/-- sorted(l), l a list or a tuple, whatever the order -/
theorem sorted_seq {l : Addr} {vs : List Value} {o : Obj} {n : Nat} {ltv : Value → Value → Bool} {Q : Value → Shared → Prop} (O : SrtO.Swo ltv) (ho : s.heap.get? l = some o) (hc : o.cls = .type "list" ∨ o.cls = .type "tuple") (hd : o.data = .seq vs.toArray n) (hz : vs.length ≤ sizeLine)
    (hS : 2 ≤ vs.length → ∀ (h₁ : Heap) (a : Addr), h₁.get? a = some (seqObj "list" vs.toArray 0) → (∀ b o, s.heap.get? b = some o → b ≠ a ∧ h₁.get? b = some o) → SrtO.SortableO prog w A.in1.in1 { s with heap := h₁ } a vs ltv)
    (h : ∀ (h' : Heap) (d : Addr) (out : List Value), SrtO.Srtd ltv out → SrtO.Stb ltv out vs → (∀ b o, s.heap.get? b = some o → h'.get? b = some o) → s.heap.objs.size ≤ d → (∃ n, h'.get? d = some (seqObj "list" out.toArray n)) → Q (.ref d) { s with heap := h' }) :
    wpAny (model prog w) A (call (.builtin "sorted") [.ref l]) Q E s := by
  refine Calls.call_function_entry kind_sorted plain_sorted entry_sorted (args_sorted1 _) ?_
  unfold Builtin.«sorted»
  refine wpAny_bind (m := checkCount "sorted" 1 1 _) (wpAny_pure (wpAny_bind (collect_seq ho hc hd hz (wpAny_bind (wpAny_newList ?_ hz)))))
  have e1 : ((s.heap.push (seqObj "list" #[] 0)).update s.heap.objs.size (Obj.mapSeq (· ++ vs.toArray))).objs.size = s.heap.objs.size + 1 := (Heap.size_update ..).trans (size_push' ..)
  have e2 : (((s.heap.push (seqObj "list" #[] 0)).update s.heap.objs.size (Obj.mapSeq (· ++ vs.toArray))).push (seqObj "list" vs.toArray 0)).get? (s.heap.objs.size + 1) = some (seqObj "list" vs.toArray 0) := by
    have z := Heap.get?_push_size ((s.heap.push (seqObj "list" #[] 0)).update s.heap.objs.size (Obj.mapSeq (· ++ vs.toArray))) (o := seqObj "list" vs.toArray 0) rfl
    rw [e1] at z
    exact z
  have kk : ∀ b o, s.heap.get? b = some o → b ≠ s.heap.objs.size + 1 ∧ (((s.heap.push (seqObj "list" #[] 0)).update s.heap.objs.size (Obj.mapSeq (· ++ vs.toArray))).push (seqObj "list" vs.toArray 0)).get? b = some o := fun b o q => by
    have lt : b < s.heap.objs.size := Heap.lt_size q
    exact ⟨Nat.ne_of_lt (Nat.lt_succ_of_lt lt), Heap.get?_push_of_some _ ((Heap.get?_update_ne _ _ _ _ (Nat.ne_of_lt lt)).trans (Heap.get?_push_of_some _ q))⟩
  show wpAny _ _ _ _ _ { s with heap := ((s.heap.push (seqObj "list" #[] 0)).update s.heap.objs.size (Obj.mapSeq (· ++ vs.toArray))).push (seqObj "list" vs.toArray 0) }
  rw [e1]
  refine wpAny_bind (wpAny_holding (wpAny_call_entry slot_list_sort ⟨_, e2, rfl⟩ entry_list_sort (SrtO.list_sort_ord O e2 hz (fun h2 => hS h2 _ _ e2 kk) fun out hs hb => ⟨_, rfl, ?_⟩) (args_list_sort _)))
  exact wpAny_pure ⟨_, rfl, h _ _ out hs hb (fun b o q => sortedAll_old (vs := vs) (out := out.toArray) q) (Nat.le_succ _) (sortedAll_at s.heap vs out.toArray)⟩
end
/-! ### pairs of texts -/
def IsPrS (h : Heap) (v : Value) (x y : Str) : Prop := ∃ a o t u n, v = .ref a ∧ h.get? a = some o ∧ o.cls = .type "tuple" ∧ o.data = .seq #[.str x t, .str y u] n
theorem IsPrS.keeps {h h' : Heap} {v : Value} {x y : Str} (p : IsPrS h v x y) (k : ∀ b o, h.get? b = some o → o.cls = .type "tuple" → h'.get? b = some o) : IsPrS h' v x y := by
  obtain ⟨a, o, t, u, n, e, ho, hc, hd⟩ := p
  exact ⟨a, o, t, u, n, e, k a o ho hc, hc, hd⟩
section
variable {prog : Program} {w : World} {A : Around} {E : Value → Shared → Prop} {s : Shared}
theorem prs_cmp {vs : List Value} {k : Value → Pr} (hp : ∀ v ∈ vs, IsPrS s.heap v (k v).1 (k v).2) : SrtO.Cmp prog w A s (tuples' true) (fun p => p.1 ∈ vs) (SrtO.lt2 fun v u => ltPr (k v) (k u)) := by
  intro p q hm hm'
  obtain ⟨a, o, t, u, n, e, ho, hc, hd⟩ := hp _ hm
  obtain ⟨a', o', t', u', n', e', ho', hc', hd'⟩ := hp _ hm'
  show wpAny (model prog w) A (keyLt' (tuples' true) p.1 q.1) (fun r s' => s' = s ∧ r = ltPr (k p.1) (k q.1)) (fun _ _ => False) s
  generalize k p.1 = P at hd ⊢
  generalize k q.1 = P' at hd' ⊢
  obtain ⟨x, y⟩ := P
  obtain ⟨x', y'⟩ := P'
  rw [e, e']
  have yes : x = x' → ltPr (x, y) (x', y') = ltS y y' := fun z => if_pos z
  have no : x ≠ x' → ltPr (x, y) (x', y') = ltS x x' := fun z => if_neg z
  refine PySem.W.kat_lt ho hd ho' hd' (show PySem.W.KatLex prog w A true (decide (2 < 2)) _ [(.str x t, .str x' t'), (.str y u, .str y' u')] 0 s from PySem.W.kat_cons (SeqAt.EqAt.str_str x t x' t' prog w _ _ (PySem.W.kat_go (fun e1 => ?_) fun e1 => ?_)))
  · have ex : x = x' := by simpa using e1
    refine PySem.W.kat_yes (PySem.W.kat_cons (SeqAt.EqAt.str_str y u y' u' prog w _ _ (PySem.W.kat_go (fun e2 => ?_) fun e2 => ?_)))
    · have ey : y = y' := by simpa using e2
      refine PySem.W.kat_yes (PySem.W.kat_nil ⟨rfl, ?_⟩)
      rw [yes ex, ey, ltS_irr]
      rfl
    · exact PySem.W.kat_no (PySem.W.kat_one _ _ (PyProof.Rows.lt_str (show s = s ∧ decide (y.cps.toList < y'.cps.toList) = ltPr (x, y) (x', y') from ⟨rfl, (yes ex).symm⟩)))
  · have ex : x ≠ x' := by simpa using e1
    exact PySem.W.kat_no (oneLt_str ⟨rfl, (no ex).symm⟩)
theorem prs_firsts {h : Heap} : ∀ {vs : List Value}, (∀ v ∈ vs, ∃ x y, IsPrS h v x y) → ∃ fs : List Value, PySem.W.KatTups h vs fs ∧ fs.length = vs.length ∧ ∀ f ∈ fs, ∃ x t, f = Value.str x t
  | [], _ => ⟨[], trivial, rfl, by simp⟩
  | v :: vs, hv => by
    obtain ⟨fs, h1, h2, h3⟩ := prs_firsts (vs := vs) fun u hu => hv u (by simp [hu])
    obtain ⟨x, y, a, o, t, u, n, rfl, ho, hc, hd⟩ := hv v (by simp)
    refine ⟨.str x t :: fs, ?_, by rw [List.length_cons, List.length_cons, h2], fun f hf => ?_⟩
    · exact PySem.W.KatTups.cons ho hc hd rfl h1
    · rcases List.mem_cons.mp hf with rfl | hf
      · exact ⟨x, t, rfl⟩
      · exact h3 f hf
theorem swo_prs (k : Value → Pr) : SrtO.Swo fun v u => ltPr (k v) (k u) := ⟨fun _ _ h => ltPr_asym h, fun _ _ _ h1 h2 => ltPr_tr h1 h2⟩
theorem prs_sortable {a : Addr} {vs : List Value} {k : Value → Pr} (h0 : 0 < vs.length) (hp : ∀ v ∈ vs, IsPrS s.heap v (k v).1 (k v).2) (ha : ∀ o, s.heap.get? a = some o → o.cls ≠ .type "tuple") : SrtO.SortableO prog w A s a vs fun v u => ltPr (k v) (k u) := by
  intro h' keep
  have hp' : ∀ v ∈ vs, IsPrS h' v (k v).1 (k v).2 := fun v hm => (hp v hm).keeps fun b o e c => keep b o (fun z => by subst z; exact ha o e c) e
  obtain ⟨fs, h1, h2, h3⟩ := prs_firsts fun v hm => ⟨_, _, hp' v hm⟩
  refine ⟨tuples' true, fun Q E hq => PySem.W.kat_kind (T := .type "str") h1 (by omega) (fun f hm => ?_) (by rfl) ?_, prs_cmp hp'⟩
  · obtain ⟨x, t, rfl⟩ := h3 f hm
    exact PySem.W.Looks.now
  · have e : (Value.type "str" != Value.type "tuple") = true := by first | decide +kernel | rfl | decide
    rw [e]
    exact hq
end
/-! ### the rules -/
/-- sorted(x), x a list or a tuple of texts -/
def rSortQ (K : PySem.W.Frag) : List V → Hp → VK → Prop := fun vs H Q => ∃ (a : Addr) (xs : List Str), vs = [V.ref a] ∧ (SqL K H a (xs.map V.str) ∨ SqT K H a (xs.map V.str)) ∧ ∀ p, H p = none → Q (.ref p) (upd H p (.lst ((sortS xs).map V.str)))
/-- these stand for pairs of texts -/
def PrsAt (H : Hp) (vs : List V) (ps : List Pr) : Prop := vs.length = ps.length ∧ ∀ (i : Nat) (v : V) (q : Pr), vs[i]? = some v → ps[i]? = some q → ∃ t, v = .ref t ∧ H t = some (.tup [.str q.1, .str q.2])
/-- sorted(x), x a list of pairs of texts -/
def rSortP (K : PySem.W.Frag) : List V → Hp → VK → Prop := fun vs H Q => ∃ (a : Addr) (xs : List V) (ps : List Pr), vs = [V.ref a] ∧ SqL K H a xs ∧ PrsAt H xs ps ∧ ∀ p ys, H p = none → ys.Perm xs → PrsAt H ys (sortPr ps) → Q (.ref p) (upd H p (.lst ys))
def prOf (H : Hp) : V → Pr
  | .ref t => match H t with
    | some (.tup [.str x, .str y]) => (x, y)
    | _ => default
  | _ => default
theorem prOf_at {H : Hp} {t : Addr} {x y : Str} (h : H t = some (.tup [.str x, .str y])) : prOf H (.ref t) = (x, y) := by
  show (match H t with
    | some (.tup [.str x, .str y]) => (x, y)
    | _ => default) = _
  rw [h]
theorem PrsAt.nil {H : Hp} : PrsAt H [] [] := ⟨rfl, fun i v q h => by simp at h⟩
theorem PrsAt.cons {H : Hp} {t : Addr} {q : Pr} {vs : List V} {ps : List Pr} (h : H t = some (.tup [.str q.1, .str q.2])) (r : PrsAt H vs ps) : PrsAt H (.ref t :: vs) (q :: ps) := by
  refine ⟨congrArg Nat.succ r.1, fun i v u h1 h2 => ?_⟩
  cases i with
  | zero =>
    cases h1
    cases h2
    exact ⟨t, rfl, h⟩
  | succ i => exact r.2 i v u h1 h2
theorem PrsAt.inv {H : Hp} {v : V} {q : Pr} {vs : List V} {ps : List Pr} (h : PrsAt H (v :: vs) (q :: ps)) : (∃ t, v = .ref t ∧ H t = some (.tup [.str q.1, .str q.2])) ∧ PrsAt H vs ps :=
  ⟨h.2 0 v q rfl rfl, Nat.succ.inj h.1, fun i v u h1 h2 => h.2 (i + 1) v u h1 h2⟩
theorem PrsAt.map : ∀ {H : Hp} {vs : List V} {ps : List Pr}, PrsAt H vs ps → vs.map (prOf H) = ps ∧ ∀ v ∈ vs, ∃ t, v = .ref t ∧ H t = some (.tup [.str (prOf H v).1, .str (prOf H v).2])
  | _, [], [], _ => ⟨rfl, by simp⟩
  | _, [], _ :: _, h => by cases h.1
  | _, _ :: _, [], h => by cases h.1
  | H, v :: vs, q :: ps, h => by
    obtain ⟨⟨t, rfl, ht⟩, r⟩ := h.inv
    obtain ⟨a, b⟩ := PrsAt.map r
    have e := prOf_at ht
    refine ⟨by rw [List.map_cons, a, e], fun u hu => ?_⟩
    rcases List.mem_cons.mp hu with rfl | hu
    · rw [e]
      exact ⟨t, rfl, ht⟩
    · exact b u hu
theorem PrsAt.of : ∀ {H : Hp} {vs : List V}, (∀ v ∈ vs, ∃ t, v = .ref t ∧ H t = some (.tup [.str (prOf H v).1, .str (prOf H v).2])) → PrsAt H vs (vs.map (prOf H))
  | _, [], _ => .nil
  | H, v :: vs, h => by
    obtain ⟨t, rfl, ht⟩ := h v (by simp)
    exact .cons ht (PrsAt.of fun u hu => h u (by simp [hu]))
theorem PrsAt.mono {H H' : Hp} {vs : List V} {ps : List Pr} (h : PrsAt H vs ps) (k : ∀ t xs, H t = some (.tup xs) → H' t = some (.tup xs)) : PrsAt H' vs ps := ⟨h.1, fun i v q h1 h2 => by
  obtain ⟨t, e, ht⟩ := h.2 i v q h1 h2
  exact ⟨t, e, k _ _ ht⟩⟩
theorem srtd_sortS {vs : List Value} {xs : List Str} {out : List Value} (hS : StrsAre vs xs) (h1 : SrtO.Srtd ltVS out) (h2 : out.Perm vs) : StrsAre out (sortS xs) := by
  obtain ⟨e, all⟩ := strs_vStr hS
  have so := strs_of (vs := out) fun v hv => all v (h2.mem_iff.mp hv)
  have : out.map vStr = sortS xs := by
    refine sortS_uniq ?_ (List.pairwise_map.mpr ?_)
    · rw [← e]
      exact h2.map vStr
    · refine List.Pairwise.imp ?_ h1
      intro a b hab
      unfold leS
      rw [show ltS (vStr b) (vStr a) = false from hab]
      rfl
  rw [← this]
  exact so
section
variable {X : Cx}
theorem cr_sortQ : CallR X (.builtin "sorted") (rSortQ X.K) := by
  intro pins s σ H vs us Q I r h
  obtain ⟨a, xs, rfl, hs, q⟩ := h
  have key : ∀ (its : List Value) (o : Obj) (n : Nat), Vals (xs.map V.str) its → s.heap.get? a = some o → (o.cls = .type "list" ∨ o.cls = .type "tuple") → o.data = .seq its.toArray n → (xs.map V.str).length ≤ sizeLine → wpAny (model X.prog X.w) X.A (call (.builtin "sorted") [.ref a]) (EP X pins σ Q) X.xe s := by
    intro its o n rv ho hc hd hz
    have hS := rv.strs
    obtain ⟨_, all⟩ := strs_vStr hS
    refine sorted_seq ltVS_swo ho hc hd (by rw [← rv.length]; exact hz) (fun h2 _ _ _ _ => strs_sortable all h2) fun h' d out s1 s2 kp hd' ⟨m, hm⟩ => ?_
    have so := srtd_sortS hS s1 s2.perm
    exact ⟨.ref d, upd H d (.lst ((sortS xs).map V.str)), I.laid (t' := s.toks) kp hd' ⟨by rw [List.length_map, sortS_len]; rw [List.length_map] at hz; exact hz, out, m, vals_of_strs so, hm⟩, rfl, q d (I.hok.fresh hd')⟩
  rw [Vals.ref1 r]
  rcases hs with hs | hs
  · obtain ⟨its, rv, hl, hz⟩ := I.list hs
    obtain ⟨o, ho, hc, n, hd⟩ := hl.isList
    exact key its o n rv ho (.inl hc) hd hz
  · obtain ⟨its, rv, ⟨o, ho, hc, n, hd⟩, hz⟩ := I.tuple hs
    exact key its o n rv ho (.inr hc) hd hz
theorem cr_sortP : CallR X (.builtin "sorted") (rSortP X.K) := by
  intro pins s σ H vs us Q I r h
  obtain ⟨a, xs, ps, rfl, hs, hp, q⟩ := h
  obtain ⟨its, rv, hl, hz⟩ := I.list hs
  obtain ⟨em, al⟩ := hp.map
  obtain ⟨e1, e2⟩ := refs_back rv fun x m => by
    obtain ⟨t, e, _⟩ := al x m
    exact ⟨t, e⟩
  obtain ⟨o, ho, hc, n, hd⟩ := hl.isList
  have pr : ∀ v ∈ its, IsPrS s.heap v (prOf H (backV v)).1 (prOf H (backV v)).2 := fun v hv => by
    obtain ⟨t, rfl⟩ := e2 v hv
    obtain ⟨t', e, ht⟩ := al (backV (.ref t)) (by rw [e1]; exact List.mem_map.mpr ⟨_, hv, rfl⟩)
    cases e
    obtain ⟨_, its2, r2, o2, ho2, hc2, n2, hd2⟩ := I.hok _ _ ht
    obtain ⟨u1, u2, rfl, ri, rj⟩ := vals2 r2
    obtain ⟨t1, rfl⟩ := ri
    obtain ⟨t2, rfl⟩ := rj
    exact ⟨t, o2, t1, t2, n2, rfl, ho2, hc2, hd2⟩
  rw [Vals.ref1 r]
  refine sorted_seq (swo_prs fun u => prOf H (backV u)) ho (.inl hc) hd (by rw [← rv.length]; exact hz) (fun h2 h₁ b hb kk => ?_) fun h' d out s1 s2 kp hd' ⟨m, hm⟩ => ?_
  · refine prs_sortable (s := { s with heap := h₁ }) (by omega) (fun v hm => (pr v hm).keeps fun b o e _ => (kk b o e).2) fun o e => ?_
    have e' := Option.some.inj (e.symm.trans hb)
    rw [e']
    intro c
    exact absurd (Value.type.inj c) (by decide)
  · have h3 : ∀ u ∈ out, ∃ a, u = Value.ref a := fun u hu => e2 u (s2.perm.mem_iff.mp hu)
    have pm : (out.map backV).Perm xs := by
      rw [e1]
      exact s2.perm.map backV
    have pa : PrsAt H (out.map backV) (sortPr ps) := by
      have z := PrsAt.of (H := H) (vs := out.map backV) fun v hv => al v (pm.mem_iff.mp hv)
      have e3 : (out.map backV).map (prOf H) = sortPr ps := by
        refine sortPr_uniq ?_ ?_
        · rw [← em]
          exact pm.map (prOf H)
        · rw [List.map_map]
          refine List.pairwise_map.mpr (List.Pairwise.imp ?_ s1)
          intro x y hxy
          unfold lePr
          rw [show ltPr ((prOf H ∘ backV) y) ((prOf H ∘ backV) x) = false from hxy]
          rfl
      rw [← e3]
      exact z
    have lz : (out.map backV).length ≤ sizeLine := by
      rw [pm.length_eq]
      exact hz
    exact ⟨.ref d, upd H d (.lst (out.map backV)), I.laid (t' := s.toks) kp hd' ⟨lz, out, m, vals_back h3, hm⟩, rfl, q d _ (I.hok.fresh hd') pm pa⟩
end
end G0

set_option Elab.async false
set_option linter.all false
set_option maxRecDepth 100000
set_option maxHeartbeats 4000000
/-! The text by places; kinds of values. -/
namespace E1
open PySem PySem.Spec PyProof.Rows L2 G0
def topS (i : Nat) : Stmt := PySem.Challenge.pw_mustcross_k61_whole_boards_beside.main.body.getD i (.Pass ⟨0, 0, 0, 0⟩)
def tName (i : Nat) : Str := match topS i with
  | .FunctionDef n _ _ _ _ _ _ _ _ _ => n
  | _ => default
abbrev FnS (K : PySem.W.Frag) (i : Nat) (f : Addr) (fd : FuncData) : Prop := Fun K (tName i) (tName i) (topS i) f fd
/-- the class of boards, as isinstance asks it -/
structure OwnC (K : PySem.W.Frag) (C : Addr) : Prop where
  cl : Cls K C
  ha : PySem.W.findIn K (.ref C) "__class__" = some (some (.builtin "object.__class__"))
  hn : PySem.W.specialIn K (.builtin "object.__class__") "__get__" = some (some (.builtin "getset_descriptor.__get__"))
  htk : PySem.W.takesIn K (.builtin "object.__class__") = some true
  hm : PySem.W.mroIn K C (.type "object") = some true
  no : ∀ T, T ∈ ["str", "list", "tuple", "dict", "int", "bool"] → PySem.W.kitOne K (.ref C) (.type T) = some false
  ty : ∀ T, T ∈ ["str", "list", "tuple", "dict", "int", "bool", "NoneType"] → PySem.W.kitOne K (.type T) (.ref C) = some false
/-- a value whose kind is known -/
inductive Kn (C : Addr) (H : Hp) : V → Prop
  | non : Kn C H .non
  | bl (b : Bool) : Kn C H (.bl b)
  | int (i : Int) : Kn C H (.int i)
  | str (x : Str) : Kn C H (.str x)
  | lst {a : Addr} {xs : List V} (e : H a = some (.lst xs)) : Kn C H (.ref a)
  | tup {a : Addr} {xs : List V} (e : H a = some (.tup xs)) : Kn C H (.ref a)
  | dic {a : Addr} {kvs : List (Key × V)} (e : H a = some (.dK kvs)) : Kn C H (.ref a)
  | own {a dx : Addr} {fs : List (Str × V)} (e : H a = some (.ins C dx fs)) : Kn C H (.ref a)
/-- its kind's name; the empty one for a board -/
def kdOf (H : Hp) : V → String
  | .non => "NoneType"
  | .bl _ => "bool"
  | .int _ => "int"
  | .str _ => "str"
  | .ref a => match H a with
    | some (.lst _) => "list"
    | some (.tup _) => "tuple"
    | some (.dK _) => "dict"
    | _ => ""
  | _ => ""
def isSeq (H : Hp) (v : V) : Bool := kdOf H v == "list" || kdOf H v == "tuple"
theorem Kn.same {C : Addr} {H H' : Hp} {v : V} (k : Kn C H v) (S : Same H H') : Kn C H' v ∧ kdOf H' v = kdOf H v := by
  cases k with
  | non => exact ⟨.non, rfl⟩
  | bl b => exact ⟨.bl b, rfl⟩
  | int i => exact ⟨.int i, rfl⟩
  | str x => exact ⟨.str x, rfl⟩
  | lst e => exact ⟨.lst (S _ _ e), by simp only [kdOf, e, S _ _ e]⟩
  | tup e => exact ⟨.tup (S _ _ e), by simp only [kdOf, e, S _ _ e]⟩
  | dic e => exact ⟨.dic (S _ _ e), by simp only [kdOf, e, S _ _ e]⟩
  | own e => exact ⟨.own (S _ _ e), by simp only [kdOf, e, S _ _ e]⟩
/-- isinstance(v, T) -/
theorem kn_isi {K : PySem.W.Frag} {C : Addr} {H : Hp} {v : V} (O : OwnC K C) (k : Kn C H v) : ∃ t, TyX K H v t ∧ ∀ T, T ∈ ["str", "list", "tuple", "dict", "int"] → PySem.W.kitOne K t (.type T) = some (kdOf H v == T || (kdOf H v == "bool" && T == "int")) := by
  have all := (by decide +kernel : ∀ T ∈ ["str", "list", "tuple", "dict", "int"], ∀ a ∈ ["NoneType", "bool", "int", "str", "list", "tuple", "dict"], kitB a T = some (a == T || (a == "bool" && T == "int")))
  have tk : ∀ a, a ∈ ["NoneType", "bool", "int", "str", "list", "tuple", "dict"] → ∀ T, T ∈ ["str", "list", "tuple", "dict", "int"] → PySem.W.kitOne K (.type a) (.type T) = some (a == T || (a == "bool" && T == "int")) := fun a ha T hT => kit_ty (all T hT a ha)
  cases k with
  | non => exact ⟨_, .base .non, tk _ (by decide)⟩
  | bl b => exact ⟨_, .base (.bl b), tk _ (by decide)⟩
  | int i => exact ⟨_, .base (.int i), tk _ (by decide)⟩
  | str x => exact ⟨_, .base (.str x), tk _ (by decide)⟩
  | lst e => exact ⟨_, .base (.lst e), by simp only [kdOf, e]; exact tk _ (by decide)⟩
  | tup e => exact ⟨_, .base (.tup e), by simp only [kdOf, e]; exact tk _ (by decide)⟩
  | dic e => exact ⟨_, .base (.dK e), by simp only [kdOf, e]; exact tk _ (by decide)⟩
  | own e =>
    refine ⟨_, .base (.ins e O.cl O.ha O.hn O.htk O.hm), fun T hT => ?_⟩
    simp only [kdOf, e]
    have h1 : T ∈ ["str", "list", "tuple", "dict", "int", "bool"] := by
      simp only [List.mem_cons, List.not_mem_nil, or_false] at hT ⊢
      rcases hT with rfl | rfl | rfl | rfl | rfl <;> simp
    rw [O.no T h1]
    simp only [List.mem_cons, List.not_mem_nil, or_false] at hT
    rcases hT with rfl | rfl | rfl | rfl | rfl <;> decide
/-- isinstance(v, (list, tuple)) -/
theorem kn_seq {K : PySem.W.Frag} {C : Addr} {H : Hp} {v : V} (O : OwnC K C) (k : Kn C H v) : ∃ t, TyX K H v t ∧ PySem.W.kitAny K t [.type "list", .type "tuple"] = some (isSeq H v) := by
  obtain ⟨t, h1, h2⟩ := kn_isi O k
  have a := h2 "list" (by decide)
  have b := h2 "tuple" (by decide)
  simp only [show (("list" : String) == "int") = false from by decide, show (("tuple" : String) == "int") = false from by decide, Bool.and_false, Bool.or_false] at a b
  refine ⟨t, h1, kitAny_cons a (fun z => kitAny_cons b (fun y => ?_) fun y => ?_) fun z => ?_⟩
  · unfold isSeq
    rw [z, y]
    rfl
  · unfold isSeq
    rw [y, Bool.or_true]
  · unfold isSeq
    rw [z, Bool.true_or]
def isStrV : V → Bool
  | .str _ => true
  | _ => false
theorem kd_str {C : Addr} {H : Hp} {v : V} (k : Kn C H v) : (kdOf H v == "str") = isStrV v := by
  cases k with
  | non => rfl
  | bl b => rfl
  | int i => rfl
  | str x => rfl
  | lst e => simp only [kdOf, e]; rfl
  | tup e => simp only [kdOf, e]; rfl
  | dic e => simp only [kdOf, e]; rfl
  | own e => simp only [kdOf, e]; rfl
theorem kn_str {K : PySem.W.Frag} {C : Addr} {H : Hp} {v : V} (O : OwnC K C) (k : Kn C H v) : ∃ t, TyX K H v t ∧ PySem.W.kitOne K t (.type "str") = some (isStrV v) := by
  obtain ⟨t, h1, h2⟩ := kn_isi O k
  have a := h2 "str" (by decide)
  rw [show (("str" : String) == "int") = false from by decide, Bool.and_false, Bool.or_false, kd_str k] at a
  exact ⟨t, h1, a⟩
end E1

set_option Elab.async false
set_option linter.all false
set_option maxRecDepth 100000
set_option maxHeartbeats 4000000
/-! names.py -/
namespace E1
open PySem PySem.Spec PyProof.Rows L2 G0
/-! ### a comprehension over a text -/
theorem lc_str {z : Str} {g : TG} {tt : TT} {te : TE} {vs : List Nat} {σ : L2.St} {H1 : Hp} {D : Addr} {Qd : Hp → Prop} (Pv : Nat → Hp → Prop) (h0 : Pv 0 (upd H1 D (.lst [])))
    (hs : ∀ i c H, z.cps[i]? = some c → Pv i H → g (.str ⟨#[c]⟩) (wipe σ vs) H fun σ2 H2 => wipe σ2 vs = wipe σ vs ∧ tt σ2 H2 fun b H3 =>
      if b = true then te σ2 H3 fun y H4 => ∃ acc, H4 D = some (.lst acc) ∧ acc.length < sizeLine ∧ Pv (i + 1) (upd H4 D (.lst (acc ++ [y]))) else Pv (i + 1) H3) (hd : ∀ H, Pv z.cps.size H → Qd H) :
    ∃ W : Nat → Nat → Hp → Prop, (∃ m, W 0 m (upd H1 D (.lst []))) ∧ ∀ i m H, W i m H →
      ((Its z).stop i H ∧ Qd H) ∨ ((Its z).go i H ∧ ∃ Nx : Hp → Prop, (∀ H', Nx H' → ∃ m', m' < m ∧ W (i + 1) m' H') ∧ ∀ x H', (Its z).yld i H x H' → g x (wipe σ vs) H' fun σ2 H2 => wipe σ2 vs = wipe σ vs ∧ tt σ2 H2 fun b H3 =>
        if b = true then te σ2 H3 fun y H4 => ∃ acc, H4 D = some (.lst acc) ∧ acc.length < sizeLine ∧ Nx (upd H4 D (.lst (acc ++ [y]))) else Nx H3) := by
  refine ⟨fun i m H => m = z.cps.size - i ∧ i ≤ z.cps.size ∧ Pv i H, ⟨z.cps.size, by simp, Nat.zero_le _, h0⟩, fun i m H ⟨em, hi, p⟩ => ?_⟩
  subst em
  rcases Nat.lt_or_ge i z.cps.size with lt | ge
  · refine .inr ⟨lt, Pv (i + 1), fun H' p' => ⟨z.cps.size - (i + 1), by omega, rfl, lt, p'⟩, fun x H' y => ?_⟩
    obtain ⟨rfl, c, hc, rfl⟩ := y
    exact hs i c _ hc p
  · have e : i = z.cps.size := by omega
    exact .inl ⟨ge, hd H (by rw [← e]; exact p)⟩
theorem yes_of {σ : L2.St} {H : Hp} {f g : Hp → Prop} (h : f H) : tYes σ H (fun b H3 => if b = true then f H3 else g H3) := by
  show (if true = true then f H else g H)
  exact iteT h
theorem new_same {H : Hp} {a : Addr} {o : HO} (n : H a = none) : Same H (upd H a o) := fun b u e => by
  rw [upd_ne (ne_of_none e n)]
  exact e
theorem same_upd {H H' : Hp} {a : Addr} {o : HO} (S : Same H H') (n : H a = none) : Same H (upd H' a o) := fun b u e => by
  rw [upd_ne (ne_of_none e n)]
  exact S _ _ e
/-! ### the texts of names -/
def lettersS : Str := "abcdefghijklmnopqrstuvwxyz"
def signsS : Str := "abcdefghijklmnopqrstuvwxyz0123456789"
def wordsL : List Str := ["place", "tie", "rim", "pair", "way", "fold", "behind", "at", "cross", "none", "apart", "not", "watch", "hold"]
def nameB (z : Str) : Bool := (decide (0 < z.length) && decide (z.length ≤ 8)) && ((match z.cps[0]? with
  | some c => decide (c ∈ lettersS.cps.toList)
  | none => false) && (!decide (z ∈ wordsL) && z.cps.toList.all fun c => decide (c ∈ signsS.cps.toList)))
def nameV : V → Bool
  | .str z => nameB z
  | _ => false
structure TxtN (K : PySem.W.Frag) (mg : Str → Option Value) : Prop where
  isinstance : mg "isinstance" = none
  str : mg "str" = none
  list : mg "list" = none
  tuple : mg "tuple" = none
  len : mg "len" = none
  all : mg "all" = none
  enumerate : mg "enumerate" = none
  sorted : mg "sorted" = none
  letters : ∃ t, mg "LETTERS" = some (.str lettersS t)
  signs : ∃ t, mg "NAME_SIGNS" = some (.str signsS t)
  longest : ∃ t, mg "LONGEST_NAME" = some (.int 8 t)
  words : ∃ a, mg "WORDS" = some (.ref a) ∧ ∀ H, SqT K H a (wordsL.map V.str)
theorem boot_tuple : bootBuiltins "tuple" = some (.type "tuple") := by decide +kernel
theorem boot_str : bootBuiltins "str" = some (.type "str") := by decide +kernel
theorem inV_strs (z : Str) : ∀ l : List Str, inV (.str z) (l.map V.str) = decide (z ∈ l)
  | [] => rfl
  | x :: l => by
    show (eqV (.str x) (.str z) || inV (.str z) (l.map V.str)) = decide (z ∈ x :: l)
    rw [inV_strs z l]
    by_cases e : z = x
    · subst e
      have : eqV (.str z) (.str z) = true := by simp [eqV]
      rw [this]
      simp
    · have : eqV (.str x) (.str z) = false := by simp [eqV, Ne.symm e]
      rw [this]
      simp [e]
theorem flat_strs : ∀ l : List Str, (l.map V.str).all flatV = true
  | [] => rfl
  | x :: l => by rw [List.map_cons, List.all_cons, flat_strs l]; rfl
abbrev s_is_name : Stmt := topS 17
abbrev N_is_name : List Str := ["thing", "sign"]
theorem sc_is_name : FnScope N_is_name ["thing"] (defScope s_is_name) := ⟨rfl, rfl, rfl, by decide +kernel, rfl, by decide +kernel, by decide +kernel⟩
def spIsName (C : Addr) : Sp := fun vs H Q _ => ∃ v, vs = [v] ∧ Kn C H v ∧ (∀ z, v = .str z → z.length ≤ 1000) ∧ ∀ H', Same H H' → Q (.bl (nameV v)) H'
section
variable {P : Program} {w : World} {K : PySem.W.Frag} {mg : Str → Option Value} {base : Heap} {C f : Addr} {fd : FuncData}
theorem ok_is_name (F : FnS K 17 f fd) (T : TxtN K mg) (O : OwnC K C) : FnOk P w K mg base CX0 1 f fd ["thing"] (spIsName C) := by
  obtain ⟨tL, gL⟩ := T.letters
  obtain ⟨tS, gS⟩ := T.signs
  obtain ⟨t8, g8⟩ := T.longest
  obtain ⟨aW, gW, hW⟩ := T.words
  refine Fun.ok F sc_is_name (fun vs H Q E h => ?_) (fun cdv A outer s H vs Q E hr h => ⟨_, pss_cons (ps_if (PW.pt (pw_or (pt_not (pt_val (pe_callB call_isi (by rfl) T.isinstance (by decide +kernel) (pa_cons (pv 0) (pa_cons (pe_bltn (by rfl) T.str boot_str (v := .ty "str") rfl) pa_nil))))) (pw_or1 (pt_not (pt_chain op_lt op_le pe_int (pe_callB call_len_str (by rfl) T.len PySem.boot_len (pa_cons (pv 0) pa_nil)) (pe_glob (by rfl) g8 (v := .int 8) ⟨_, rfl⟩)))))) (pss_one (ps_ret pe_bl)) pss_nil)
    (pss_cons (ps_if (PW.pt (pw_or (pt_cmpR op_notIn_sign (pe_ix ix_str (pv 0) pe_int (fun _ _ => rfl)) (pe_glob (by rfl) gL (v := .str lettersS) ⟨_, rfl⟩) (by rfl)) (pw_or1 (pt_cmpR op_in_seq (pv 0) (pe_glob (by rfl) gW (v := .ref aW) rfl) (by rfl))))) (pss_one (ps_ret pe_bl)) pss_nil)
    (pss_one (ps_ret (pe_callB (cr_all rfl) (by rfl) T.all (by decide +kernel) (pa_cons (pe_lc (own := [("sign", 1)]) (tt := tYes) rfl sc_is_name.nd (pi_str (pv 0)) (blkOk_by (own := [("sign", 1)]) (N := N_is_name) (sc := defScope s_is_name) (by decide +kernel)) (fun _ _ _ _ _ => (pg_name (i := 1) sc_is_name.nd rfl (Or.inl rfl))) (fun _ _ _ _ _ => pts_nil) (fun _ _ _ _ _ => (pe_cmpR op_in_sign (pv 1) (pe_glob (by rfl) gS (v := .str signsS) ⟨_, rfl⟩) (by rfl)))) pa_nil))))), ?_⟩)
  · obtain ⟨v, rfl, _⟩ := h
    rfl
  · obtain ⟨v, rfl, hk, hl, k⟩ := h
    obtain ⟨t, ty, ki⟩ := kn_str O hk
    refine ⟨_, rfl, v, _, t, _, isStrV v, rfl, .ty _, ty, ki, _, rfl, ?_⟩
    have no : nameV v = false → Q (.bl false) H := fun e => by
      have := k H (Same.refl H)
      rw [e] at this
      exact this
    cases v with
    | str z =>
      have hz := hl z rfl
      have hzl : z.length ≤ sizeLine := Nat.le_of_lt (small1000 hz)
      have e0 : nameB z = ((decide (0 < z.length) && decide (z.length ≤ 8)) && ((match z.cps[0]? with
        | some c => decide (c ∈ lettersS.cps.toList)
        | none => false) && (!decide (z ∈ wordsL) && z.cps.toList.all fun c => decide (c ∈ signsS.cps.toList)))) := rfl
      refine iteF ⟨_, rfl, z, rfl, hzl, 0, (z.length : Int), rfl, rfl, _, rfl, ?_⟩
      refine ite2 (fun h0 => ?_) (fun h0 => ?_)
      · have h0' : 0 < z.length := by
          have := of_decide_eq_true h0
          omega
        refine ⟨(z.length : Int), 8, rfl, rfl, _, rfl, ?_⟩
        cases h8 : decide ((z.length : Int) ≤ 8) with
        | false =>
          refine iteT (no ?_)
          have : decide (z.length ≤ 8) = false := decide_eq_false fun q => of_decide_eq_false h8 (by omega)
          show nameB z = false
          rw [e0, this, Bool.and_false, Bool.false_and]
        | true =>
          refine iteF ?_
          have h8' : z.length ≤ 8 := by
            have := of_decide_eq_true h8
            omega
          have hs : z.cps.size = z.length := rfl
          obtain ⟨c0, hc0⟩ : ∃ c, z.cps[0]? = some c := ⟨z.cps[0]'(by omega), Array.getElem?_eq_getElem _⟩
          have hc0' : z.cps.toList[0]? = some c0 := by rw [Array.getElem?_toList]; exact hc0
          rw [decide_eq_true h0', decide_eq_true h8', hc0] at e0
          refine ⟨_, rfl, _, 0, c0, rfl, rfl, hzl, atI_nat hc0', c0, lettersS, rfl, rfl, _, rfl, ?_⟩
          cases hL : decide (c0 ∈ lettersS.cps.toList) with
          | false =>
            refine iteT (iteT (no ?_))
            show nameB z = false
            rw [e0]
            simp only [hL]
            rfl
          | true =>
            refine iteF ⟨_, rfl, aW, _, rfl, .inr (hW _), rfl, flat_strs _, _, rfl, ?_⟩
            rw [inV_strs]
            cases hW : decide (z ∈ wordsL) with
            | true =>
              refine iteT (no ?_)
              show nameB z = false
              rw [e0]
              simp only [hL, hW]
              rfl
            | false =>
              refine iteF ⟨_, rfl, z, rfl, fun D hD => lc_str (fun i H' => H' D = some (.lst ((z.cps.toList.take i).map fun c => V.bl (decide (c ∈ signsS.cps.toList)))) ∧ Same H H') ⟨by rw [upd_same]; rfl, new_same hD⟩ ?_ ?_⟩
              · rintro i c H' hc ⟨h, S⟩
                have hi : i < z.cps.toList.length := by
                  have := (Array.getElem?_eq_some_iff.mp hc).1
                  rw [Array.length_toList]
                  exact this
                have et : z.cps.toList.take (i + 1) = z.cps.toList.take i ++ [c] := by
                  rw [List.take_succ, Array.getElem?_toList, hc]
                  rfl
                refine ⟨rfl, yes_of ⟨_, rfl, c, signsS, rfl, rfl, _, h, ?_, ?_, same_upd S hD⟩⟩
                · rw [List.length_map, List.length_take]
                  refine small1000 (Nat.le_trans (Nat.min_le_right _ _) ?_)
                  rw [Array.length_toList]
                  exact Nat.le_trans (Nat.le_of_eq hs) (by omega)
                · rw [upd_same, et, List.map_append]
                  rfl
              · rintro H' ⟨h, S⟩
                have ea : z.cps.toList.take z.cps.size = z.cps.toList := List.take_of_length_le (by rw [Array.length_toList]; exact Nat.le_refl _)
                rw [ea] at h
                refine ⟨D, z.cps.toList.map fun c => decide (c ∈ signsS.cps.toList), rfl, SqL.of (by rw [h, List.map_map]; rfl), ?_⟩
                have := k H' S
                have en : nameV (.str z) = (z.cps.toList.map fun c => decide (c ∈ signsS.cps.toList)).all id := by
                  show nameB z = _
                  rw [e0, List.all_map]
                  simp only [hL, hW]
                  rfl
                rw [en] at this
                exact this
      · refine ⟨false, rfl, iteT (no ?_)⟩
        have : decide (0 < z.length) = false := decide_eq_false fun q => h0 (decide_eq_true (by omega))
        show nameB z = false
        rw [e0, this, Bool.false_and, Bool.false_and]
    | _ => exact iteT (no rfl)
end
end E1

set_option Elab.async false
set_option linter.all false
set_option maxRecDepth 100000
set_option maxHeartbeats 4000000
/-! Walks over what may be a list or a tuple; enumerate of a tuple. -/
namespace PySem
open Sem (wp)
open AutoSeq1 (wpAny_loadPart')
set_option maxRecDepth 100000
theorem meets_enumT (l : Addr) (items : Array Value) (n : Nat) (dct : Option Addr) (sl : Array (Option Value)) :
    Meets (Builtin.«enumerate.__new__» ⟨[.type "enumerate", .ref l], []⟩) (fun _ R s => s.heap.get? l = some { cls := .type "tuple", dict := dct, data := .seq items n, slots := sl } ∧
      R (.ok (.ret (.ref (s.heap.push { cls := .type "tuple_iterator", data := .fields #[.ref l, .int 0 0] }).objs.size)))
        { s with heap := (s.heap.push { cls := .type "tuple_iterator", data := .fields #[.ref l, .int 0 0] }).push { cls := .type "enumerate", data := .fields #[.none, .bool false, .ref s.heap.objs.size, rawInt 0, .none, .none] } }) :=
  .of_wp fun prog w A R s h => by
    obtain ⟨hp, g, d, tk, os⟩ := s
    obtain ⟨hl, h⟩ := h
    have hsub := sub_enumerate
    have hL : Heap.IsTuple (Shared.heap ⟨hp, g, d, tk, os⟩) l items := ⟨_, hl, rfl, n, rfl⟩
    wp_walk using wpAny_loadPart' hl
    refine wpAny_stack_any fun st => wpAny_pure ?_
    split
    · rename_i c _ _ _ _ _
      cases (c == Value.type "enumerate")
      all_goals (wp_walk using wpAny_loadPart' hl, wpAny_pyIter_tuple hL; exact ⟨_, rfl, h⟩)
    · wp_walk using wpAny_loadPart' hl, wpAny_pyIter_tuple hL
      exact ⟨_, rfl, h⟩
section
variable {prog : Program} {w : World} {A : Around} {E : Value → Shared → Prop} {s : Shared}
theorem call_enumT {l : Addr} {items : Array Value} {Q : Value → Shared → Prop} (hL : s.heap.IsTuple l items)
    (h : ∀ h', IsEnum h' (s.heap.objs.size + 1) s.heap.objs.size 0 .none → h'.IsTupleIter s.heap.objs.size l 0 → h'.objs.size = s.heap.objs.size + 2 → (∀ b o, s.heap.get? b = some o → h'.get? b = some o) → Q (.ref (s.heap.objs.size + 1)) { s with heap := h' }) :
    wpAny (model prog w) A (call (.type "enumerate") [.ref l]) Q E s := by
  obtain ⟨⟨c, dct, dt, sl⟩, hl, hc, n, hd⟩ := hL
  have hc : c = .type "tuple" := hc
  have hd : dt = .seq items n := hd
  subst hc hd
  have hz : (s.heap.push { cls := .type "tuple_iterator", data := .fields #[.ref l, .int 0 0] }).objs.size = s.heap.objs.size + 1 := Heap.size_push ..
  have he : IsEnum ((s.heap.push { cls := .type "tuple_iterator", data := .fields #[.ref l, .int 0 0] }).push { cls := .type "enumerate", data := .fields #[.none, .bool false, .ref s.heap.objs.size, rawInt 0, .none, .none] }) (s.heap.objs.size + 1) s.heap.objs.size 0 .none := by
    have q := Heap.get?_push_size (s.heap.push { cls := .type "tuple_iterator", data := .fields #[.ref l, .int 0 0] }) (o := { cls := .type "enumerate", data := .fields #[.none, .bool false, .ref s.heap.objs.size, rawInt 0, .none, .none] }) rfl
    rw [hz] at q
    exact q
  refine callType_new F.called_enumerate (by decide) (F.typeCall_enumerate_1 _) (F.newCall_enumerate_1 _) (fun obj => F.args_object_init_2 obj _) F.entry_enumerate_new (meets_enumT l items n dct sl) ⟨hl, ?_⟩
  show _ ∧ _
  rw [hz]
  exact ⟨⟨_, he, rfl⟩, h _ he ⟨_, Heap.get?_push_of_some _ (Heap.get?_push_size _ rfl), rfl, rfl⟩ (by rw [Heap.size_push, hz]) fun b o x => Heap.get?_push_of_some _ (Heap.get?_push_of_some _ x)⟩
end
end PySem
namespace G0
open PySem PySem.Spec PyProof.Rows L2
/-- a list or a tuple, by its items -/
def SqQ (K : PySem.W.Frag) (H : Hp) (a : Addr) (xs : List V) : Prop := SqL K H a xs ∨ SqT K H a xs
def IteT (K : PySem.W.Frag) (a : Addr) : It :=
  ⟨fun i H => ∃ (xs : List V) (x : V), SqT K H a xs ∧ xs[i]? = some x, fun i H v H' => ∃ T x, v = .ref T ∧ H T = none ∧ H' = upd H T (.tup [.int (i : Nat), x]) ∧ ∀ xs, SqT K H a xs → xs[i]? = some x, fun i H => ∃ xs : List V, SqT K H a xs ∧ xs.length = i⟩
theorem turn_enumT {P : Program} {w : World} {K : PySem.W.Frag} {elts : List Expr} {kk : Nat} {tpos : Pos} (a e it : Addr) (hat : a ≠ it) (hae : e ≠ a) :
    Turn P w K (.Tuple elts kk tpos) (IteT K a) [e, it] e (fun i h => (∃ old, IsEnum h e it ((i : Nat) : Int) old) ∧ h.IsTupleIter it a i ∧ e ≠ it) where
  mem := by simp
  obj := fun i h st b hb => by
    obtain ⟨⟨old, he⟩, ⟨o, ho, hc, hd⟩, _⟩ := st
    rcases (show b = e ∨ b = it by simpa using hb) with rfl | rfl
    · exact ⟨_, he, fun v q => nomatch q⟩
    · exact ⟨o, ho, fun v q => by rw [hd] at q; cases q⟩
  keep := fun i h h' st k => by
    obtain ⟨⟨old, he⟩, hi, hne⟩ := st
    exact ⟨⟨old, k e (by simp) _ he⟩, hi.at fun o q => k it (by simp) o q, hne⟩
  item := by
    intro X hP hw hK hc i pins s σ H E I hf st hg
    subst hP hw hK
    obtain ⟨⟨old, he⟩, hit, hne⟩ := st
    obtain ⟨xs, x, hq, hx⟩ := hg
    obtain ⟨its, rv, p, hz⟩ := I.tuple hq
    obtain ⟨u, hu, ru⟩ := rv.get hx
    have p' : s.heap.IsTuple a its.toArray := p
    have hel : e < s.heap.objs.size := Heap.lt_size he
    have hil : it < s.heap.objs.size := by
      obtain ⟨_, q, _⟩ := hit
      exact Heap.lt_size q
    have hin : i < its.toArray.size := by
      have := (List.getElem?_eq_some_iff.mp hu).1
      simpa using this
    refine wpAny_pyNext_enum_itemD (Draws.tuple (A := X.A.in1) (I.ok.hd hc) it a hat its.toArray) he ⟨hit, p'⟩ hin hne (by simp [hne, hae]) fun y h' tk hy ho hst' hT hsz hk => ?_
    have ey : y = u := by
      have hy : its.toArray[i]? = some y := hy
      have hu' : its.toArray[i]? = some u := by simpa using hu
      exact Option.some.inj (hy.symm.trans hu')
    subst ey
    refine ⟨_, rfl, wpAny_letOwnedTupleGo_enum (s := { s with heap := h', toks := tk + 1 }) ho fun h'' he' sb => ?_⟩
    have hT2 : h''.get? s.heap.objs.size = some { cls := .type "tuple", data := .seq #[.int i tk, y] } := (sb.2 _ (Nat.ne_of_gt hel)).trans hT
    have new : ObjOk X.prog X.w (upd H s.heap.objs.size (.tup [.int (i : Nat), x])) h'' s.heap.objs.size (.tup [.int (i : Nat), x]) := ⟨by show 2 ≤ sizeLine; decide, [.int i tk, y], .cons ⟨_, rfl⟩ (.cons ru .nil), ⟨_, hT2, rfl, _, rfl⟩⟩
    have I1 : Inv X pins σ (upd H s.heap.objs.size (.tup [.int (i : Nat), x])) { s with heap := h'', toks := tk + 1 } :=
      I.turnedNew (ch := [e, it]) (fun b ob hb q => (sb.2 b (fun z => hb (by simp [z]))).trans (hk b ob (fun z => hb (by simp [z])) (fun z => hb (by simp [z])) q)) hf (Nat.le_refl _) new
    refine ⟨.ref s.heap.objs.size, _, I1, rfl, ⟨_, x, rfl, I.hok.fresh (Nat.le_refl _), rfl, fun ys hy => by rw [I.tuple_inj hy hq]; exact hx⟩, ⟨⟨y, ?_⟩, hst'.1.at fun o q => (sb.2 it (Ne.symm hne)).trans q, hne⟩, fun b hb => ?_⟩
    · rw [show ((i + 1 : Nat) : Int) = (i : Int) + 1 by omega]
      exact he'
    · have hb' : b < s.heap.objs.size := by
        rcases (show b = e ∨ b = it by simpa using hb) with rfl | rfl
        · exact hel
        · exact hil
      rw [upd_ne (Nat.ne_of_lt hb')]
      exact (hf b hb).1
  done := by
    intro X hP hw hK hc i pins s σ H E I hf st hg
    subst hP hw hK
    obtain ⟨⟨old, he⟩, hit, hne⟩ := st
    obtain ⟨xs, hq, hx⟩ := hg
    obtain ⟨its, rv, p, hz⟩ := I.tuple hq
    have p' : s.heap.IsTuple a its.toArray := p
    obtain ⟨f0, f1, f2, f3, f4, f5⟩ := hf it (by simp)
    have ei : i = its.toArray.size := by
      have := rv.length
      simp
      omega
    subst ei
    exact wpAny_pyNext_enum_endD (Draws.tuple (A := X.A.in1) (I.ok.hd hc) it a hat its.toArray) he ⟨hit, p'⟩ fun h' eb => ⟨rfl, I.turned (t' := s.toks) (fun b o hb q => eb b o hb q) f0 f1 f3 f4 f5⟩
  self := fun A i s Q E st h => let ⟨⟨_, he⟩, _⟩ := st; wpAny_pyIter_enum he h
/-- enumerate(x), x a list or a tuple -/
def iEnumQ (K : PySem.W.Frag) (ta : TA) : TI := fun σ H R => ta σ H fun vs H1 => ∃ a xs, vs = [.ref a] ∧ ((SqL K H1 a xs ∧ R (Ite K a) H1) ∨ (SqT K H1 a xs ∧ R (IteT K a) H1))
theorem pi_enumQ {X : Cx} {e : Expr} {ta : TA} {p pos tpos : Pos} {elts : List Expr} {kk : Nat} (hg : Gl X "enumerate") (hm : X.mg "enumerate" = none) (ha : PA X [e] ta) (hs : starEach [e] X.env = [(false, eval e X.env)] := by rfl) :
    PI X (.Tuple elts kk tpos) (.Call (.Name "enumerate" p) [e] [] pos) (iEnumQ X.K ta) := by
  refine ⟨fun pins s σ H R I h => Call_ (ld_blt I hg hm boot_enumerate (PyProof.Rows.callWith_type1 (thn (ha.run pos pins s σ H _ I h) fun us s1 ⟨vs, H1, I1, r1, q1⟩ => ?_) hs rfl))⟩
  obtain ⟨a, xs, rfl, q⟩ := q1
  cases r1 with
  | cons r rr =>
    cases rr
    cases r
    have two : ∀ b ∈ [s1.heap.objs.size + 1, s1.heap.objs.size], s1.heap.objs.size ≤ b := fun b hb => by
      rcases (show b = s1.heap.objs.size + 1 ∨ b = s1.heap.objs.size by simpa using hb) with rfl | rfl
      · exact Nat.le_succ _
      · exact Nat.le_refl _
    rcases q with ⟨hq, q⟩ | ⟨hq, q⟩
    · obtain ⟨its, rv, p', hz⟩ := I1.list hq
      exact call_enumerate_list p'.isList fun h' he hit hsz hk => wpAny_pyIter_enum he ⟨s1.heap.objs.size + 1, [s1.heap.objs.size + 1, s1.heap.objs.size], _, _, H1, rfl, I1.kept (t' := s1.toks) hk, turn_enum a (s1.heap.objs.size + 1) s1.heap.objs.size, ⟨⟨.none, he⟩, hit, Nat.succ_ne_self _⟩, fun b hb => I1.fpOk (two b hb) (I1.hok.fresh (two b hb)), q⟩
    · obtain ⟨its, rv, p', hz⟩ := I1.tuple hq
      have p2 : s1.heap.IsTuple a its.toArray := p'
      have lt : a < s1.heap.objs.size := by
        obtain ⟨o, ho, _⟩ := p'
        exact Heap.lt_size ho
      exact call_enumT p2 fun h' he hit hsz hk => wpAny_pyIter_enum he ⟨s1.heap.objs.size + 1, [s1.heap.objs.size + 1, s1.heap.objs.size], _, _, H1, rfl, I1.kept (t' := s1.toks) hk, turn_enumT a (s1.heap.objs.size + 1) s1.heap.objs.size (Nat.ne_of_lt lt) (Nat.ne_of_gt (Nat.lt_succ_of_lt lt)), ⟨⟨.none, he⟩, hit, Nat.succ_ne_self _⟩, fun b hb => I1.fpOk (two b hb) (I1.hok.fresh (two b hb)), q⟩
/-- x, a list or a tuple -/
def iSeqQ (K : PySem.W.Frag) (te : TE) : TI := fun σ H R => te σ H fun x H1 => ∃ a xs, x = .ref a ∧ ((SqL K H1 a xs ∧ R (Itl K a) H1) ∨ (SqT K H1 a xs ∧ R (Itt K a) H1))
theorem pi_seqQ {X : Cx} {tg l : Expr} {tl : TE} (hl : PE X l tl) : PI X tg l (iSeqQ X.K tl) := by
  refine ⟨fun pins s σ H R I h => thn (hl.run pins s σ H _ I h) fun v s1 ⟨x, H1, I1, r1, q1⟩ => ?_⟩
  obtain ⟨a, xs, rfl, q⟩ := q1
  cases r1
  have one : ∀ b ∈ [s1.heap.objs.size], FpOk X pins H1 b := fun b hb => by
    obtain rfl : b = s1.heap.objs.size := by simpa using hb
    exact I1.fpOk (Nat.le_refl _) (I1.hok.fresh (Nat.le_refl _))
  rcases q with ⟨hq, q⟩ | ⟨hq, q⟩
  · obtain ⟨its, rv, p, hz⟩ := I1.list hq
    exact wpAny_pyIter_list p.isList ⟨s1.heap.objs.size, [s1.heap.objs.size], _, _, H1, rfl, I1.kept (t' := s1.toks) fun b o e => Heap.get?_push_of_some _ e, turn_list a _, ⟨_, Heap.get?_push_size _ rfl, rfl, rfl⟩, one, q⟩
  · obtain ⟨its, rv, p, hz⟩ := I1.tuple hq
    exact wpAny_pyIter_tuple (show s1.heap.IsTuple a its.toArray from p) ⟨s1.heap.objs.size, [s1.heap.objs.size], _, _, H1, rfl, I1.kept (t' := s1.toks) fun b o e => Heap.get?_push_of_some _ e, turn_tuple a _, ⟨_, Heap.get?_push_size _ rfl, rfl, rfl⟩, one, q⟩
/-! ### loops over them -/
abbrev ForW (J : It) (g : TG) (tb : TS) (D : Ends) (σ : L2.St) (H : Hp) : Prop := ∃ W : Nat → Nat → L2.St → Hp → Prop, (∃ m, W 0 m σ H) ∧ ∀ i m σ H, W i m σ H →
  (J.stop i H ∧ D.nx σ H) ∨ (J.go i H ∧ ∃ N : L2.St → Hp → Prop, (∀ σ' H', N σ' H' → ∃ m', m' < m ∧ W (i + 1) m' σ' H') ∧ ∀ x H', J.yld i H x H' → g x σ H' fun σ2 H2 => tb { D with nx := N, ct := N, bk := D.nx } σ2 H2)
theorem for_any {J : It} {g : TG} {tb : TS} {D : Ends} {σ : L2.St} {H : Hp} (n : Nat) (Pv : Nat → L2.St → Hp → Prop) (h0 : Pv 0 σ H) (hg : ∀ i σ H, i < n → Pv i σ H → J.go i H) (hst : ∀ σ H, Pv n σ H → J.stop n H)
    (hs : ∀ i σ H x H', i < n → Pv i σ H → J.yld i H x H' → g x σ H' fun σ2 H2 => tb { D with nx := Pv (i + 1), ct := Pv (i + 1), bk := D.nx } σ2 H2) (hd : ∀ σ H, Pv n σ H → D.nx σ H) : ForW J g tb D σ H := by
  refine ⟨fun i m σ H => m = n - i ∧ i ≤ n ∧ Pv i σ H, ⟨n, by simp, Nat.zero_le _, h0⟩, fun i m σ H ⟨em, hi, p⟩ => ?_⟩
  subst em
  rcases Nat.lt_or_ge i n with lt | ge
  · exact .inr ⟨hg i σ H lt p, Pv (i + 1), fun σ' H' p' => ⟨n - (i + 1), by omega, rfl, lt, p'⟩, fun x H' y => hs i σ H x H' lt p y⟩
  · have e : i = n := by omega
    rw [e] at p ⊢
    exact .inl ⟨hst σ H p, hd σ H p⟩
/-- over enumerate(x): the items come in new pairs -/
theorem for_enQ {K : PySem.W.Frag} {a : Addr} {xs : List V} {g : TG} {tb : TS} {D : Ends} {σ : L2.St} {H : Hp} (hq : SqQ K H a xs) (Pv : Nat → L2.St → Hp → Prop) (h0 : Pv 0 σ H) (hl : ∀ i σ H', i ≤ xs.length → Pv i σ H' → (∀ ys, SqL K H a ys → SqL K H' a ys) ∧ ∀ ys, SqT K H a ys → SqT K H' a ys)
    (hs : ∀ i x σ H T, xs[i]? = some x → Pv i σ H → H T = none → g (.ref T) σ (upd H T (.tup [.int (i : Nat), x])) fun σ2 H2 => tb { D with nx := Pv (i + 1), ct := Pv (i + 1), bk := D.nx } σ2 H2) (hd : ∀ σ H, Pv xs.length σ H → D.nx σ H) :
    (SqL K H a xs ∧ ForW (Ite K a) g tb D σ H) ∨ (SqT K H a xs ∧ ForW (IteT K a) g tb D σ H) := by
  rcases hq with hq | hq
  · refine .inl ⟨hq, for_any xs.length Pv h0 (fun i σ H' lt p => ⟨xs, xs[i], (hl i σ H' (Nat.le_of_lt lt) p).1 _ hq, by simp [lt]⟩) (fun σ H' p => ⟨xs, (hl _ σ H' (Nat.le_refl _) p).1 _ hq, Nat.le_refl _⟩) (fun i σ H' v H2 lt p y => ?_) hd⟩
    obtain ⟨T, z, rfl, nT, rfl, hz⟩ := y
    exact hs i z σ H' T (hz xs ((hl i σ H' (Nat.le_of_lt lt) p).1 _ hq)) p nT
  · refine .inr ⟨hq, for_any xs.length Pv h0 (fun i σ H' lt p => ⟨xs, xs[i], (hl i σ H' (Nat.le_of_lt lt) p).2 _ hq, by simp [lt]⟩) (fun σ H' p => ⟨xs, (hl _ σ H' (Nat.le_refl _) p).2 _ hq, rfl⟩) (fun i σ H' v H2 lt p y => ?_) hd⟩
    obtain ⟨T, z, rfl, nT, rfl, hz⟩ := y
    exact hs i z σ H' T (hz xs ((hl i σ H' (Nat.le_of_lt lt) p).2 _ hq)) p nT
/-- over x itself -/
theorem for_seqQ {K : PySem.W.Frag} {a : Addr} {xs : List V} {g : TG} {tb : TS} {D : Ends} {σ : L2.St} {H : Hp} (hq : SqQ K H a xs) (Pv : Nat → L2.St → Hp → Prop) (h0 : Pv 0 σ H) (hl : ∀ i σ H', i ≤ xs.length → Pv i σ H' → (∀ ys, SqL K H a ys → SqL K H' a ys) ∧ ∀ ys, SqT K H a ys → SqT K H' a ys)
    (hs : ∀ i x σ H, xs[i]? = some x → Pv i σ H → g x σ H fun σ2 H2 => tb { D with nx := Pv (i + 1), ct := Pv (i + 1), bk := D.nx } σ2 H2) (hd : ∀ σ H, Pv xs.length σ H → D.nx σ H) :
    (SqL K H a xs ∧ ForW (Itl K a) g tb D σ H) ∨ (SqT K H a xs ∧ ForW (Itt K a) g tb D σ H) := by
  rcases hq with hq | hq
  · refine .inl ⟨hq, for_any xs.length Pv h0 (fun i σ H' lt p => ⟨xs, xs[i], (hl i σ H' (Nat.le_of_lt lt) p).1 _ hq, by simp [lt]⟩) (fun σ H' p => ⟨xs, (hl _ σ H' (Nat.le_refl _) p).1 _ hq, Nat.le_refl _⟩) (fun i σ H' v H2 lt p y => ?_) hd⟩
    obtain ⟨rfl, hz⟩ := y
    exact hs i v σ H2 (hz xs ((hl i σ H2 (Nat.le_of_lt lt) p).1 _ hq)) p
  · refine .inr ⟨hq, for_any xs.length Pv h0 (fun i σ H' lt p => ⟨xs, xs[i], (hl i σ H' (Nat.le_of_lt lt) p).2 _ hq, by simp [lt]⟩) (fun σ H' p => ⟨xs, (hl _ σ H' (Nat.le_refl _) p).2 _ hq, Nat.le_refl _⟩) (fun i σ H' v H2 lt p y => ?_) hd⟩
    obtain ⟨rfl, hz⟩ := y
    exact hs i v σ H2 (hz xs ((hl i σ H2 (Nat.le_of_lt lt) p).2 _ hq)) p
end G0

set_option Elab.async false
set_option linter.all false
set_option maxRecDepth 100000
set_option maxHeartbeats 4000000
/-! Comprehensions over what may be a list or a tuple. -/
namespace G0
open PySem PySem.Spec PyProof.Rows L2
abbrev LcW (J : It) (g : TG) (tt : TT) (te : TE) (vs : List Nat) (σ : L2.St) (H1 : Hp) (D : Addr) (Qd : Hp → Prop) : Prop := ∃ W : Nat → Nat → Hp → Prop, (∃ m, W 0 m (upd H1 D (.lst []))) ∧ ∀ i m H, W i m H →
  (J.stop i H ∧ Qd H) ∨ (J.go i H ∧ ∃ Nx : Hp → Prop, (∀ H', Nx H' → ∃ m', m' < m ∧ W (i + 1) m' H') ∧ ∀ x H', J.yld i H x H' → g x (wipe σ vs) H' fun σ2 H2 => wipe σ2 vs = wipe σ vs ∧ tt σ2 H2 fun b H3 =>
    if b = true then te σ2 H3 fun y H4 => ∃ acc, H4 D = some (.lst acc) ∧ acc.length < sizeLine ∧ Nx (upd H4 D (.lst (acc ++ [y]))) else Nx H3)
theorem lc_any {J : It} {g : TG} {tt : TT} {te : TE} {vs : List Nat} {σ : L2.St} {H1 : Hp} {D : Addr} {Qd : Hp → Prop} (n : Nat) (Pv : Nat → Hp → Prop) (h0 : Pv 0 (upd H1 D (.lst []))) (hg : ∀ i H, i < n → Pv i H → J.go i H) (hst : ∀ H, Pv n H → J.stop n H)
    (hs : ∀ i H x H', i < n → Pv i H → J.yld i H x H' → g x (wipe σ vs) H' fun σ2 H2 => wipe σ2 vs = wipe σ vs ∧ tt σ2 H2 fun b H3 =>
      if b = true then te σ2 H3 fun y H4 => ∃ acc, H4 D = some (.lst acc) ∧ acc.length < sizeLine ∧ Pv (i + 1) (upd H4 D (.lst (acc ++ [y]))) else Pv (i + 1) H3) (hd : ∀ H, Pv n H → Qd H) : LcW J g tt te vs σ H1 D Qd := by
  refine ⟨fun i m H => m = n - i ∧ i ≤ n ∧ Pv i H, ⟨n, by simp, Nat.zero_le _, h0⟩, fun i m H ⟨em, hi, p⟩ => ?_⟩
  subst em
  rcases Nat.lt_or_ge i n with lt | ge
  · exact .inr ⟨hg i H lt p, Pv (i + 1), fun H' p' => ⟨n - (i + 1), by omega, rfl, lt, p'⟩, fun x H' y => hs i H x H' lt p y⟩
  · have e : i = n := by omega
    rw [e] at p ⊢
    exact .inl ⟨hst H p, hd H p⟩
theorem lc_seqQ {K : PySem.W.Frag} {a : Addr} {xs : List V} {g : TG} {tt : TT} {te : TE} {vs : List Nat} {σ : L2.St} {H1 : Hp} {D : Addr} {Qd : Hp → Prop} (hq : SqQ K H1 a xs) (Pv : Nat → Hp → Prop) (h0 : Pv 0 (upd H1 D (.lst [])))
    (hl : ∀ i H', i ≤ xs.length → Pv i H' → (∀ ys, SqL K H1 a ys → SqL K H' a ys) ∧ ∀ ys, SqT K H1 a ys → SqT K H' a ys)
    (hs : ∀ i x H, xs[i]? = some x → Pv i H → g x (wipe σ vs) H fun σ2 H2 => wipe σ2 vs = wipe σ vs ∧ tt σ2 H2 fun b H3 =>
      if b = true then te σ2 H3 fun y H4 => ∃ acc, H4 D = some (.lst acc) ∧ acc.length < sizeLine ∧ Pv (i + 1) (upd H4 D (.lst (acc ++ [y]))) else Pv (i + 1) H3) (hd : ∀ H, Pv xs.length H → Qd H) :
    (SqL K H1 a xs ∧ LcW (Itl K a) g tt te vs σ H1 D Qd) ∨ (SqT K H1 a xs ∧ LcW (Itt K a) g tt te vs σ H1 D Qd) := by
  rcases hq with hq | hq
  · refine .inl ⟨hq, lc_any xs.length Pv h0 (fun i H' lt p => ⟨xs, xs[i], (hl i H' (Nat.le_of_lt lt) p).1 _ hq, by simp [lt]⟩) (fun H' p => ⟨xs, (hl _ H' (Nat.le_refl _) p).1 _ hq, Nat.le_refl _⟩) (fun i H' v H2 lt p y => ?_) hd⟩
    obtain ⟨rfl, hz⟩ := y
    exact hs i v H2 (hz xs ((hl i H2 (Nat.le_of_lt lt) p).1 _ hq)) p
  · refine .inr ⟨hq, lc_any xs.length Pv h0 (fun i H' lt p => ⟨xs, xs[i], (hl i H' (Nat.le_of_lt lt) p).2 _ hq, by simp [lt]⟩) (fun H' p => ⟨xs, (hl _ H' (Nat.le_refl _) p).2 _ hq, Nat.le_refl _⟩) (fun i H' v H2 lt p y => ?_) hd⟩
    obtain ⟨rfl, hz⟩ := y
    exact hs i v H2 (hz xs ((hl i H2 (Nat.le_of_lt lt) p).2 _ hq)) p
end G0

set_option Elab.async false
set_option linter.all false
set_option maxRecDepth 100000
set_option maxHeartbeats 4000000
/-! names.py: lists of names. -/
namespace E1
open PySem PySem.Spec PyProof.Rows L2 G0
theorem same_T {K : PySem.W.Frag} {H H' : Hp} (S : Same H H') {a : Addr} {xs : List V} (h : SqT K H a xs) : SqT K H' a xs := by
  rcases h with (h | ⟨o, h⟩) | h
  · exact .inl (.inl (S _ _ h))
  · exact .inl (.inr ⟨o, S _ _ h⟩)
  · exact .inr h
theorem same_Q {K : PySem.W.Frag} {H H' : Hp} (S : Same H H') {a : Addr} {xs : List V} (h : SqQ K H a xs) : SqQ K H' a xs := h.elim (fun h => .inl (S.seq h)) fun h => .inr (same_T S h)
theorem same_LT {K : PySem.W.Frag} {H H' : Hp} (S : Same H H') {a : Addr} : (∀ ys, SqL K H a ys → SqL K H' a ys) ∧ ∀ ys, SqT K H a ys → SqT K H' a ys := ⟨fun _ h => S.seq h, fun _ h => same_T S h⟩
/-- the items of a list or a tuple that is tracked -/
def itemsOf (H : Hp) : V → Option (List V)
  | .ref a => match H a with
    | some (.lst xs) => some xs
    | some (.tup xs) => some xs
    | _ => none
  | _ => none
theorem items_at {H : Hp} {a : Addr} {xs : List V} : itemsOf H (.ref a) = some xs ↔ H a = some (.lst xs) ∨ H a = some (.tup xs) := by
  show (match H a with
    | some (.lst xs) => some xs
    | some (.tup xs) => some xs
    | _ => none) = some xs ↔ _
  constructor
  · intro h
    split at h
    · next e =>
      cases h
      exact .inl e
    · next e =>
      cases h
      exact .inr e
    · cases h
  · rintro (h | h) <;> rw [h]
theorem items_ref {H : Hp} {v : V} {xs : List V} (h : itemsOf H v = some xs) : ∃ a, v = .ref a ∧ (H a = some (.lst xs) ∨ H a = some (.tup xs)) := by
  cases v with
  | ref a => exact ⟨a, rfl, items_at.mp h⟩
  | _ => cases h
theorem items_Q {K : PySem.W.Frag} {H : Hp} {a : Addr} {xs : List V} (h : itemsOf H (.ref a) = some xs) : SqQ K H a xs := (items_at.mp h).elim (fun h => .inl (SqL.of h)) fun h => .inr (SqT.of h)
theorem items_same {H H' : Hp} (S : Same H H') {v : V} {xs : List V} (h : itemsOf H v = some xs) : itemsOf H' v = some xs := by
  obtain ⟨a, rfl, h2⟩ := items_ref h
  exact items_at.mpr (h2.elim (fun h => .inl (S _ _ h)) fun h => .inr (S _ _ h))
theorem kn_items {C : Addr} {H : Hp} {v : V} (k : Kn C H v) : isSeq H v = (itemsOf H v).isSome := by
  unfold isSeq
  cases k with
  | non => rfl
  | bl b => rfl
  | int i => rfl
  | str x => rfl
  | lst e => simp only [kdOf, itemsOf, e]; rfl
  | tup e => simp only [kdOf, itemsOf, e]; rfl
  | dic e => simp only [kdOf, itemsOf, e]; rfl
  | own e => simp only [kdOf, itemsOf, e]; rfl
/-! ### is_list, is_pair, told_pair -/
def pairB (H : Hp) (v : V) : Bool := match itemsOf H v with
  | some xs => decide (xs.length = 2)
  | none => false
def tp (x y : Str) : Pr := if ltS y x then (y, x) else (x, y)
theorem sort_two (x y : Str) : sortS [x, y] = [(tp x y).1, (tp x y).2] := by
  symm
  unfold tp
  cases h : ltS y x with
  | true =>
    refine sortS_uniq (List.Perm.swap x y []) (.cons (fun z hz => ?_) (.cons (fun _ h => by cases h) .nil))
    have hz : z = x := List.mem_singleton.mp hz
    subst hz
    show (!ltS z y) = true
    rw [ltS_asym h]
    rfl
  | false =>
    refine sortS_uniq (List.Perm.refl [x, y]) (.cons (fun z hz => ?_) (.cons (fun _ h => by cases h) .nil))
    have hz : z = y := List.mem_singleton.mp hz
    subst hz
    show (!ltS z x) = true
    rw [h]
    rfl
def spIsList (C : Addr) : Sp := fun vs H Q _ => ∃ v, vs = [v] ∧ Kn C H v ∧ ∀ H', Same H H' → Q (.bl (itemsOf H v).isSome) H'
def spIsPair (C : Addr) : Sp := fun vs H Q _ => ∃ v, vs = [v] ∧ Kn C H v ∧ ∀ H', Same H H' → Q (.bl (pairB H v)) H'
def spTold : Sp := fun vs H Q _ => ∃ v x y, vs = [v] ∧ itemsOf H v = some [.str x, .str y] ∧ ∀ t H', H t = none → H' t = some (.tup [.str (tp x y).1, .str (tp x y).2]) → Same H H' → Q (.ref t) H'
/-- where the defs of names.py stand -/
structure NamesD (K : PySem.W.Frag) (mg : Str → Option Value) where
  fN : Addr
  dN : FuncData
  FN : FnS K 17 fN dN
  gN : mg "is_name" = some (.ref fN)
  fL : Addr
  dL : FuncData
  FL : FnS K 18 fL dL
  gL : mg "is_list" = some (.ref fL)
  fP : Addr
  dP : FuncData
  FP : FnS K 19 fP dP
  gP : mg "is_pair" = some (.ref fP)
  fT : Addr
  dT : FuncData
  FT : FnS K 20 fT dT
  gT : mg "told_pair" = some (.ref fT)
  fW : Addr
  dW : FuncData
  FW : FnS K 21 fW dW
  gW : mg "first_wrong_name" = some (.ref fW)
  fU : Addr
  dU : FuncData
  FU : FnS K 22 fU dU
  gU : mg "first_unknown" = some (.ref fU)
  fX : Addr
  dX : FuncData
  FX : FnS K 24 fX dX
  gX : mg "first_wrong_tie" = some (.ref fX)
section
variable {P : Program} {w : World} {K : PySem.W.Frag} {mg : Str → Option Value} {base : Heap} {C : Addr}
theorem sc_is_list : FnScope ["thing"] ["thing"] (defScope (topS 18)) := ⟨rfl, rfl, rfl, by decide +kernel, rfl, by decide +kernel, by decide +kernel⟩
theorem ok_is_list (D : NamesD K mg) (T : TxtN K mg) (O : OwnC K C) : FnOk P w K mg base CX0 1 D.fL D.dL ["thing"] (spIsList C) := by
  refine Fun.ok D.FL sc_is_list (fun vs H Q E h => ?_) (fun cdv A outer s H vs Q E hr h => ⟨_, pss_one (ps_ret (pe_callB call_isiT (by rfl) T.isinstance (by decide +kernel) (pa_cons (pv 0) (pa_cons (pe_tup (pa_cons (pe_bltn (by rfl) T.list PyProof.Rows.boot_list (v := .ty "list") rfl) (pa_cons (pe_bltn (by rfl) T.tuple boot_tuple (v := .ty "tuple") rfl) pa_nil))) pa_nil)))), ?_⟩)
  · obtain ⟨v, rfl, _⟩ := h
    rfl
  · obtain ⟨v, rfl, hk, k⟩ := h
    refine ⟨_, rfl, by show 2 ≤ sizeLine; decide, fun t nt => ?_⟩
    have S := new_same (o := .tup [.ty "list", .ty "tuple"]) nt
    obtain ⟨k1, k2⟩ := hk.same S
    obtain ⟨ty, h1, h2⟩ := kn_seq O k1
    refine ⟨v, t, _, ty, _, _, rfl, upd_same, .cons (.ty _) (.cons (.ty _) .nil), h1, h2, ?_⟩
    have e : isSeq (upd H t (.tup [.ty "list", .ty "tuple"])) v = (itemsOf H v).isSome := by
      unfold isSeq
      rw [k2]
      exact kn_items hk
    rw [e]
    exact k _ S
theorem bL (D : NamesD K mg) : Binds K D.dL ["thing"] [] := D.FL.binds fun _ _ _ _ _ _ us hl => match us, hl with | [_], _ => rfl
theorem bN (D : NamesD K mg) : Binds K D.dN ["thing"] [] := D.FN.binds fun _ _ _ _ _ _ us hl => match us, hl with | [_], _ => rfl
theorem bP (D : NamesD K mg) : Binds K D.dP ["thing"] [] := D.FP.binds fun _ _ _ _ _ _ us hl => match us, hl with | [_], _ => rfl
theorem bT (D : NamesD K mg) : Binds K D.dT ["pair"] [] := D.FT.binds fun _ _ _ _ _ _ us hl => match us, hl with | [_], _ => rfl
theorem bW (D : NamesD K mg) : Binds K D.dW ["things"] [] := D.FW.binds fun _ _ _ _ _ _ us hl => match us, hl with | [_], _ => rfl
theorem bU (D : NamesD K mg) : Binds K D.dU ["things", "known"] [] := D.FU.binds fun _ _ _ _ _ _ us hl => match us, hl with | [_, _], _ => rfl
theorem bX (D : NamesD K mg) : Binds K D.dX ["things", "known"] [] := D.FX.binds fun _ _ _ _ _ _ us hl => match us, hl with | [_, _], _ => rfl
theorem sc_is_pair : FnScope ["thing"] ["thing"] (defScope (topS 19)) := ⟨rfl, rfl, rfl, by decide +kernel, rfl, by decide +kernel, by decide +kernel⟩
theorem ok_is_pair (D : NamesD K mg) (T : TxtN K mg) (O : OwnC K C) : FnOk P w K mg base CX0 2 D.fP D.dP ["thing"] (spIsPair C) := by
  have G : FnOk P w K mg base CX0 1 D.fL D.dL ["thing"] (spIsList C) := ok_is_list D T O
  refine Fun.ok D.FP sc_is_pair (fun vs H Q E h => ?_) (fun cdv A outer s H vs Q E hr h => ⟨_, pss_one (ps_ret (pe_and (pe_call G hr (by rfl) D.gL D.FL.kp (bL D) .nil pass0 (pa_cons (pv 0) pa_nil)) (pe_one (pe_cmpR op_eq (pe_callB call_len_seq (by rfl) T.len PySem.boot_len (pa_cons (pv 0) pa_nil)) pe_int (nomark _))))), ?_⟩)
  · obtain ⟨v, rfl, _⟩ := h
    rfl
  · obtain ⟨v, rfl, hk, k⟩ := h
    refine ⟨_, rfl, v, rfl, hk, fun H1 S1 => ⟨_, rfl, ?_⟩⟩
    cases e : itemsOf H v with
    | none =>
      refine iteF ?_
      have := k H1 S1
      unfold pairB at this
      rw [e] at this
      exact this
    | some xs =>
      refine iteT ?_
      obtain ⟨a, rfl, _⟩ := items_ref e
      refine ⟨_, rfl, a, xs, rfl, items_Q (K := K) (items_same S1 e), rfl, ?_⟩
      have := k H1 S1
      unfold pairB at this
      rw [e] at this
      have e2 : decide (V.int (xs.length : Int) = V.int 2) = decide (xs.length = 2) := by
        by_cases z : xs.length = 2
        · rw [decide_eq_true z, z]
          rfl
        · rw [decide_eq_false z]
          exact decide_eq_false fun q => by
            injection q with q
            omega
      rw [e2]
      exact this
theorem sc_told : FnScope ["pair"] ["pair"] (defScope (topS 20)) := ⟨rfl, rfl, rfl, by decide +kernel, rfl, by decide +kernel, by decide +kernel⟩
theorem ok_told (D : NamesD K mg) (T : TxtN K mg) : FnOk P w K mg base CX0 1 D.fT D.dT ["pair"] spTold := by
  refine Fun.ok D.FT sc_told (fun vs H Q E h => ?_) (fun cdv A outer s H vs Q E hr h => ⟨_, pss_one (ps_ret (pe_callTy call_tuple_of (by rfl) T.tuple boot_tuple (pa_cons (pe_callB cr_sortQ (by rfl) T.sorted (by decide +kernel) (pa_cons (pv 0) pa_nil)) pa_nil))), ?_⟩)
  · obtain ⟨v, x, y, rfl, _⟩ := h
    rfl
  · obtain ⟨v, x, y, rfl, hi, k⟩ := h
    obtain ⟨a, rfl, _⟩ := items_ref hi
    refine ⟨_, rfl, a, [x, y], rfl, items_Q (K := K) hi, fun p np => ⟨p, _, rfl, .inl ⟨SqL.of upd_same, fun l nl => ?_⟩⟩⟩
    have hpl : p ≠ l := ne_of_none upd_same nl
    have nl0 : H l = none := by
      rw [upd_ne hpl.symm] at nl
      exact nl
    refine k l _ nl0 ?_ ((new_same np).trans (new_same nl))
    rw [upd_same, sort_two]
    rfl
end
end E1

set_option Elab.async false
set_option linter.all false
set_option maxRecDepth 100000
set_option maxHeartbeats 4000000
/-! names.py: the first wrong thing of a list. -/
namespace E1
open PySem PySem.Spec PyProof.Rows L2 G0
/-- a good begin: unlike texts that are let -/
structure Good (ok : Str → Prop) (ss : List Str) : Prop where
  nd : ss.Nodup
  all : ∀ z ∈ ss, ok z
theorem Good.nil {ok : Str → Prop} : Good ok [] := ⟨List.nodup_nil, by simp⟩
theorem Good.snoc {ok : Str → Prop} {ss : List Str} {z : Str} (g : Good ok ss) (h1 : ok z) (h2 : z ∉ ss) : Good ok (ss ++ [z]) := by
  refine ⟨List.nodup_append.mpr ⟨g.nd, by simp, fun a ha b hb => ?_⟩, fun y hy => ?_⟩
  · rw [List.mem_singleton.mp hb]
    exact fun e => h2 (e ▸ ha)
  · rcases List.mem_append.mp hy with hy | hy
    · exact g.all y hy
    · rw [List.mem_singleton.mp hy]
      exact h1
/-- what is told of a list: none, or the first wrong one's index -/
def ScanR (ok : Str → Prop) (xs : List V) : Option Nat → Prop
  | none => ∃ ss, xs = ss.map V.str ∧ Good ok ss
  | some i => ∃ ss y, xs[i]? = some y ∧ xs.take i = ss.map V.str ∧ Good ok ss ∧ ∀ z, y = .str z → ok z → z ∈ ss
def optV : Option Nat → V
  | none => .non
  | some i => .int (i : Nat)
def seenK {κ : Type} (ks : List κ) : List (κ × V) := ks.map fun k => (k, .bl true)
theorem seen_val {κ : Type} [DecidableEq κ] : ∀ (ks : List κ) (k : κ), (valV (seenK ks) k).isSome = decide (k ∈ ks)
  | [], k => rfl
  | x :: ks, k => by
    have ih := seen_val ks k
    unfold valV seenK at ih ⊢
    rw [List.map_cons, List.find?_cons]
    by_cases e : x = k
    · subst e
      simp
    · simp only [e, decide_false]
      rw [ih]
      simp [Ne.symm e]
theorem seen_yes {κ : Type} [DecidableEq κ] {ks : List κ} {k : κ} (h : k ∈ ks) : (valV (seenK ks) k).isSome = true := by rw [seen_val, decide_eq_true h]
theorem seen_no {κ : Type} [DecidableEq κ] {ks : List κ} {k : κ} (h : k ∉ ks) : (valV (seenK ks) k).isSome = false := by rw [seen_val, decide_eq_false h]
theorem seen_put {κ : Type} [DecidableEq κ] (ks : List κ) (k : κ) (h : k ∉ ks) : putK (seenK ks) k (.bl true) = seenK (ks ++ [k]) := by
  unfold putK
  have e : ((seenK ks).any fun kv => decide (kv.1 = k)) = false := by
    unfold seenK
    rw [List.any_map, List.any_eq_false]
    intro x hx
    simp only [Function.comp]
    exact fun z => h ((of_decide_eq_true z) ▸ hx)
  rw [e, if_neg (by simp)]
  unfold seenK
  rw [List.map_append]
  rfl
/-- the kinds of the items are known -/
def KnAll (C : Addr) (H : Hp) (xs : List V) : Prop := ∀ x ∈ xs, Kn C H x ∧ ∀ z, x = .str z → z.length ≤ 1000
theorem KnAll.same {C : Addr} {H H' : Hp} {xs : List V} (k : KnAll C H xs) (S : Same H H') : KnAll C H' xs := fun x hx => ⟨((k x hx).1.same S).1, (k x hx).2⟩
theorem but_LT {K : PySem.W.Frag} {H H' : Hp} {a d : Addr} (B : ∀ b o, b ≠ d → H b = some o → H' b = some o) (n : a ≠ d) : (∀ ys, SqL K H a ys → SqL K H' a ys) ∧ ∀ ys, SqT K H a ys → SqT K H' a ys := by
  refine ⟨fun ys h => ?_, fun ys h => ?_⟩
  · rcases h with (h | ⟨o, h⟩) | h
    · exact .inl (.inl (B _ _ n h))
    · exact .inl (.inr ⟨o, B _ _ n h⟩)
    · exact .inr h
  · rcases h with (h | ⟨o, h⟩) | h
    · exact .inl (.inl (B _ _ n h))
    · exact .inl (.inr ⟨o, B _ _ n h⟩)
    · exact .inr h
theorem items_ne {H : Hp} {a d : Addr} {xs : List V} (e : itemsOf H (.ref a) = some xs) (n : H d = none) : a ≠ d := by
  rcases items_at.mp e with h | h
  · exact ne_of_none h n
  · exact ne_of_none h n
theorem take_snoc {α : Type} {xs : List α} {i : Nat} {x : α} (h : xs[i]? = some x) : xs.take (i + 1) = xs.take i ++ [x] := by
  rw [List.take_succ, h]
  rfl
theorem map_len {xs : List V} {ss : List Str} {i : Nat} (h : xs.take i = ss.map V.str) : ss.length ≤ xs.length := by
  have := congrArg List.length h
  rw [List.length_take, List.length_map] at this
  omega
abbrev ScanW (ok : Str → Prop) (C : Addr) (H : Hp) (v : V) (Q : VK) : Prop := (itemsOf H v = none ∧ ∀ H', Same H H' → Q (.int 0) H') ∨ ∃ xs, itemsOf H v = some xs ∧ xs.length ≤ 1000 ∧ KnAll C H xs ∧ ∀ r H', ScanR ok xs r → Same H H' → Q (optV r) H'
def spFwn (C : Addr) : Sp := fun vs H Q _ => ∃ v, vs = [v] ∧ Kn C H v ∧ ScanW (fun z => nameB z = true) C H v Q
section
variable {P : Program} {w : World} {K : PySem.W.Frag} {mg : Str → Option Value} {base : Heap} {C : Addr}
theorem sc_fwn : FnScope ["things", "seen", "index", "thing"] ["things"] (defScope (topS 21)) := ⟨rfl, rfl, rfl, by decide +kernel, rfl, by decide +kernel, by decide +kernel⟩
theorem ok_fwn (D : NamesD K mg) (T : TxtN K mg) (O : OwnC K C) : FnOk P w K mg base CX0 2 D.fW D.dW ["things"] (spFwn C) := by
  have GL : FnOk P w K mg base CX0 1 D.fL D.dL ["thing"] (spIsList C) := ok_is_list D T O
  have GN : FnOk P w K mg base CX0 1 D.fN D.dN ["thing"] (spIsName C) := ok_is_name D.FN T O
  refine Fun.ok D.FW sc_fwn (fun vs H Q E h => ?_) (fun cdv A outer s H vs Q E hr h => ⟨_, pss_cons (ps_if (pt_not (pt_val (pe_call GL hr (by rfl) D.gL D.FL.kp (bL D) .nil pass0 (pa_cons (pv 0) pa_nil)))) (pss_one (ps_ret pe_int)) pss_nil)
    (pss_cons (ps_set (i := 1) sc_fwn.nd rfl (Or.inl rfl) pe_dnewK)
    (pss_cons (ps_for PassesOwn.never rfl (pi_enumQ (by rfl) T.enumerate (pa_cons (pv 0) pa_nil)) (pg_tup rfl (pgs_cons (pg_name (i := 2) sc_fwn.nd rfl (Or.inl rfl)) (pgs_cons (pg_name (i := 3) sc_fwn.nd rfl (Or.inl rfl)) pgs_nil)))
      (pss_cons (ps_if (PW.pt (pw_or (pt_not (pt_val (pe_call GN hr (by rfl) D.gN D.FN.kp (bN D) .nil pass0 (pa_cons (pv 3) pa_nil)))) (pw_or1 (pt_cmp (pc_din (hu_of hr) (pv 3) (pv 1)))))) (pss_one (ps_ret (pv 2))) pss_nil)
      (pss_one (ps_dput (hu_of hr) (pv 1) (pv 3) pe_bl rfl))))
    (pss_one (ps_ret pe_non)))), ?_⟩)
  · obtain ⟨v, rfl, _⟩ := h
    rfl
  · obtain ⟨v, rfl, hk, h⟩ := h
    refine ⟨_, rfl, v, rfl, hk, fun H1 S1 => ⟨_, rfl, ?_⟩⟩
    rcases h with ⟨e, k⟩ | ⟨xs, e, hl, hK, k⟩
    · rw [e]
      exact iteT (k H1 S1)
    · rw [e]
      refine iteF ?_
      obtain ⟨a, rfl, _⟩ := items_ref e
      intro d nd
      have S2 := S1.trans (new_same (o := .dK []) nd)
      have nd0 : H d = none := S1.free nd
      refine ⟨_, rfl, a, xs, rfl, for_enQ (items_Q (K := K) (items_same S2 e)) (fun i σ H' => ∃ v2 v3 ss, σ = [some (.ref a), some (.ref d), v2, v3] ∧ H' d = some (.dK (seenK (ss.map Sum.inr))) ∧ xs.take i = ss.map V.str ∧ Good (fun z => nameB z = true) ss ∧ Same H H' ∧ (∀ b o, b ≠ d → (upd H1 d (.dK [])) b = some o → H' b = some o))
        ⟨none, none, [], rfl, upd_same, rfl, .nil, S2, fun _ _ _ e => e⟩ ?_ ?_ ?_⟩
      · rintro i σ H' hi ⟨v2, v3, ss, _, _, _, _, _, B⟩
        exact but_LT B (items_ne (items_same S1 e) nd)
      · rintro i x σ H' T hx ⟨v2, v3, ss, rfl, hd, ht, g, S, B⟩ nT
        have ST := new_same (o := .tup [.int (i : Nat), x]) nT
        obtain ⟨kx, lx⟩ := hK x (List.mem_of_getElem? hx)
        refine ⟨T, _, rfl, SqT.of upd_same, rfl, _, _, rfl, _, _, rfl, rfl, ?_⟩
        refine ⟨_, rfl, x, rfl, (kx.same (S.trans ST)).1, lx, fun H2 S2' => ⟨_, rfl, ?_⟩⟩
        have S3 := (S.trans ST).trans S2'
        have hd3 : H2 d = some (.dK (seenK (ss.map Sum.inr))) := S2' _ _ (ST _ _ hd)
        cases en : nameV x with
        | false =>
          refine iteT (iteT ⟨_, rfl, ?_⟩)
          refine k (some i) H2 ⟨ss, x, hx, ht, g, fun z ez oz => ?_⟩ S3
          rw [ez] at en
          rw [show nameV (.str z) = nameB z from rfl, oz] at en
          cases en
        | true =>
          cases x with
          | str z =>
            refine iteF ⟨_, rfl, _, rfl, d, _, rfl, DGet.k (k := Sum.inr z) hd3, _, rfl, ?_⟩
            by_cases hz : z ∈ ss
            · rw [seen_yes (List.mem_map.mpr ⟨z, hz, rfl⟩)]
              exact iteT ⟨_, rfl, k (some i) H2 ⟨ss, _, hx, ht, g, fun y ey _ => by cases ey; exact hz⟩ S3⟩
            · have nz : (Sum.inr z : Key) ∉ ss.map Sum.inr := fun q => by
                obtain ⟨y, hy, ey⟩ := List.mem_map.mp q
                cases ey
                exact hz hy
              rw [seen_no nz]
              refine iteF ⟨_, rfl, _, rfl, d, _, rfl, DPut.k (k := Sum.inr z) hd3 ?_, ?_⟩
              · unfold seenK
                rw [List.length_map, List.length_map]
                exact small1000 (Nat.le_trans (map_len ht) hl)
              · have nd2 : H d = none := nd0
                refine ⟨_, _, ss ++ [z], rfl, ?_, ?_, g.snoc (by exact en) hz, ?_, ?_⟩
                · rw [upd_same, seen_put _ _ nz, List.map_append]
                  rfl
                · rw [take_snoc hx, ht, List.map_append]
                  rfl
                · exact fun b o q => by
                    rw [upd_ne (ne_of_none q nd0)]
                    exact S3 b o q
                · exact fun b o nb q => by
                    rw [upd_ne nb]
                    exact S2' _ _ (ST _ _ (B b o nb q))
          | _ => cases en
      · rintro σ H' ⟨v2, v3, ss, rfl, hd, ht, g, S, B⟩
        rw [List.take_length] at ht
        exact k none H' ⟨ss, ht, g⟩ S
end
end E1

set_option Elab.async false
set_option linter.all false
set_option maxRecDepth 100000
set_option maxHeartbeats 4000000
/-! first_unknown, first_wrong_tie. -/
namespace E1
open PySem PySem.Spec PyProof.Rows L2 G0
def spFwu (K : PySem.W.Frag) (C : Addr) : Sp := fun vs H Q _ => ∃ (v : V) (b : Addr) (ks : List Str), vs = [v, .ref b] ∧ Kn C H v ∧ SqQ K H b (ks.map V.str) ∧ ScanW (fun z => z ∈ ks) C H v Q
/-- x is a pair of unlike places of ks, p as it is told -/
def TieOk (ks : List Str) (H : Hp) (x : V) (p : Pr) : Prop := ∃ a b, itemsOf H x = some [.str a, .str b] ∧ a ≠ b ∧ a ∈ ks ∧ b ∈ ks ∧ tp a b = p
structure TiesTo (ks : List Str) (H : Hp) (xs : List V) (ps : List Pr) : Prop where
  nd : ps.Nodup
  len : ps.length ≤ xs.length
  ok : ∀ (j : Nat) (x : V) (p : Pr), xs[j]? = some x → ps[j]? = some p → TieOk ks H x p
def TieR (ks : List Str) (H : Hp) (xs : List V) : Option Nat → Prop
  | none => ∃ ps, ps.length = xs.length ∧ TiesTo ks H xs ps
  | some i => ∃ ps y, xs[i]? = some y ∧ ps.length = i ∧ TiesTo ks H xs ps ∧ ∀ p, TieOk ks H y p → p ∈ ps
def KnTies (C : Addr) (H : Hp) (xs : List V) : Prop := ∀ x ∈ xs, Kn C H x ∧ ∀ ys, itemsOf H x = some ys → ys.length ≤ 1000 ∧ KnAll C H ys
abbrev TieW (ks : List Str) (C : Addr) (H : Hp) (v : V) (Q : VK) : Prop := (itemsOf H v = none ∧ ∀ H', Same H H' → Q (.int 0) H') ∨ ∃ xs, itemsOf H v = some xs ∧ xs.length ≤ 1000 ∧ KnTies C H xs ∧ ∀ r H', TieR ks H xs r → Same H H' → Q (optV r) H'
def spFwt (K : PySem.W.Frag) (C : Addr) : Sp := fun vs H Q _ => ∃ (v : V) (b : Addr) (ks : List Str), vs = [v, .ref b] ∧ Kn C H v ∧ SqQ K H b (ks.map V.str) ∧ TieW ks C H v Q
section
variable {P : Program} {w : World} {K : PySem.W.Frag} {mg : Str → Option Value} {base : Heap} {C : Addr}
theorem sc_fwu : FnScope ["things", "known", "seen", "index", "thing"] ["things", "known"] (defScope (topS 22)) := ⟨rfl, rfl, rfl, by decide +kernel, rfl, by decide +kernel, by decide +kernel⟩
theorem ok_fwu (D : NamesD K mg) (T : TxtN K mg) (O : OwnC K C) : FnOk P w K mg base CX0 2 D.fU D.dU ["things", "known"] (spFwu K C) := by
  have GL : FnOk P w K mg base CX0 1 D.fL D.dL ["thing"] (spIsList C) := ok_is_list D T O
  refine Fun.ok D.FU sc_fwu (fun vs H Q E h => ?_) (fun cdv A outer s H vs Q E hr h => ⟨_, pss_cons (ps_if (pt_not (pt_val (pe_call GL hr (by rfl) D.gL D.FL.kp (bL D) .nil pass0 (pa_cons (pv 0) pa_nil)))) (pss_one (ps_ret pe_int)) pss_nil)
    (pss_cons (ps_set (i := 2) sc_fwu.nd rfl (Or.inl rfl) pe_dnewK)
    (pss_cons (ps_for PassesOwn.never rfl (pi_enumQ (by rfl) T.enumerate (pa_cons (pv 0) pa_nil)) (pg_tup rfl (pgs_cons (pg_name (i := 3) sc_fwu.nd rfl (Or.inl rfl)) (pgs_cons (pg_name (i := 4) sc_fwu.nd rfl (Or.inl rfl)) pgs_nil)))
      (pss_cons (ps_if (PW.pt (pw_or (pt_not (pt_val (pe_callB call_isi (by rfl) T.isinstance (by decide +kernel) (pa_cons (pv 4) (pa_cons (pe_bltn (by rfl) T.str boot_str (v := .ty "str") rfl) pa_nil))))) (pw_or (pt_cmpR op_notIn_seq (pv 4) (pv 1) (by rfl)) (pw_or1 (pt_cmp (pc_din (hu_of hr) (pv 4) (pv 2))))))) (pss_one (ps_ret (pv 3))) pss_nil)
      (pss_one (ps_dput (hu_of hr) (pv 2) (pv 4) pe_bl rfl))))
    (pss_one (ps_ret pe_non)))), ?_⟩)
  · obtain ⟨v, b, ks, rfl, _⟩ := h
    rfl
  · obtain ⟨v, b, ks, rfl, hk, hb, h⟩ := h
    refine ⟨_, rfl, v, rfl, hk, fun H1 S1 => ⟨_, rfl, ?_⟩⟩
    rcases h with ⟨e, k⟩ | ⟨xs, e, hl, hK, k⟩
    · rw [e]
      exact iteT (k H1 S1)
    · rw [e]
      refine iteF ?_
      obtain ⟨a, rfl, _⟩ := items_ref e
      intro d nd
      have S2 := S1.trans (new_same (o := .dK []) nd)
      have nd0 : H d = none := S1.free nd
      refine ⟨_, rfl, a, xs, rfl, for_enQ (items_Q (K := K) (items_same S2 e)) (fun i σ H' => ∃ v2 v3 ss, σ = [some (.ref a), some (.ref b), some (.ref d), v2, v3] ∧ H' d = some (.dK (seenK (ss.map Sum.inr))) ∧ xs.take i = ss.map V.str ∧ Good (fun z => z ∈ ks) ss ∧ Same H H' ∧ (∀ b o, b ≠ d → (upd H1 d (.dK [])) b = some o → H' b = some o))
        ⟨none, none, [], rfl, upd_same, rfl, .nil, S2, fun _ _ _ e => e⟩ ?_ ?_ ?_⟩
      · rintro i σ H' hi ⟨v2, v3, ss, _, _, _, _, _, B⟩
        exact but_LT B (items_ne (items_same S1 e) nd)
      · rintro i x σ H' T hx ⟨v2, v3, ss, rfl, hd, ht, g, S, B⟩ nT
        have ST := new_same (o := .tup [.int (i : Nat), x]) nT
        obtain ⟨kx, lx⟩ := hK x (List.mem_of_getElem? hx)
        obtain ⟨t, ty, ki⟩ := kn_str O (kx.same (S.trans ST)).1
        refine ⟨T, _, rfl, SqT.of upd_same, rfl, _, _, rfl, _, _, rfl, rfl, ?_⟩
        refine ⟨_, rfl, x, _, t, _, isStrV x, rfl, .ty _, ty, ki, _, rfl, ?_⟩
        have S3 := S.trans ST
        have hd3 := ST _ _ hd
        cases x with
        | str z =>
          refine iteF ⟨_, rfl, _, rfl, b, _, rfl, same_Q S3 hb, rfl, flat_strs _, _, rfl, ?_⟩
          rw [if_pos rfl, inV_strs]
          by_cases hzk : z ∈ ks
          · rw [decide_eq_true hzk]
            refine iteF ⟨_, rfl, _, rfl, d, _, rfl, DGet.k (k := Sum.inr z) hd3, _, rfl, ?_⟩
            by_cases hz : z ∈ ss
            · rw [seen_yes (List.mem_map.mpr ⟨z, hz, rfl⟩)]
              exact iteT ⟨_, rfl, k (some i) _ ⟨ss, _, hx, ht, g, fun y ey _ => by cases ey; exact hz⟩ S3⟩
            · have nz : (Sum.inr z : Key) ∉ ss.map Sum.inr := fun q => by
                obtain ⟨y, hy, ey⟩ := List.mem_map.mp q
                cases ey
                exact hz hy
              rw [seen_no nz]
              refine iteF ⟨_, rfl, _, rfl, d, _, rfl, DPut.k (k := Sum.inr z) hd3 ?_, ?_⟩
              · unfold seenK
                rw [List.length_map, List.length_map]
                exact small1000 (Nat.le_trans (map_len ht) hl)
              · refine ⟨_, _, ss ++ [z], rfl, ?_, ?_, g.snoc hzk hz, ?_, ?_⟩
                · rw [upd_same, seen_put _ _ nz, List.map_append]
                  rfl
                · rw [take_snoc hx, ht, List.map_append]
                  rfl
                · exact fun b o q => by
                    rw [upd_ne (ne_of_none q nd0)]
                    exact S3 b o q
                · exact fun b o nb q => by
                    rw [upd_ne nb]
                    exact ST _ _ (B b o nb q)
          · rw [decide_eq_false hzk]
            exact iteT (iteT ⟨_, rfl, k (some i) _ ⟨ss, _, hx, ht, g, fun y ey oy => by cases ey; exact absurd oy hzk⟩ S3⟩)
        | _ => exact iteT (iteT ⟨_, rfl, k (some i) _ ⟨ss, _, hx, ht, g, fun y ey => by cases ey⟩ S3⟩)
      · rintro σ H' ⟨v2, v3, ss, rfl, hd, ht, g, S, B⟩
        rw [List.take_length] at ht
        exact k none H' ⟨ss, ht, g⟩ S
theorem tie_same {ks : List Str} {H H' : Hp} {x : V} {p : Pr} (S : Same H H') (h : TieOk ks H x p) : TieOk ks H' x p := by
  obtain ⟨a, b, h1, h2⟩ := h
  exact ⟨a, b, items_same S h1, h2⟩
def keyP (p : Pr) : List Key := [.inr p.1, .inr p.2]
theorem keyP_inj {p q : Pr} (h : keyP p = keyP q) : p = q := by
  unfold keyP at h
  injection h with h1 h2
  injection h2 with h2 _
  injection h1 with h1
  injection h2 with h2
  exact Prod.ext h1 h2
theorem keyP_mem {ps : List Pr} {p : Pr} : keyP p ∈ ps.map keyP ↔ p ∈ ps := by
  constructor
  · intro h
    obtain ⟨q, hq, e⟩ := List.mem_map.mp h
    rw [← keyP_inj e]
    exact hq
  · exact fun h => List.mem_map.mpr ⟨p, h, rfl⟩
theorem pair_iff {H : Hp} {v : V} : pairB H v = true ↔ ∃ x y, itemsOf H v = some [x, y] := by
  unfold pairB
  cases e : itemsOf H v with
  | none => simp
  | some xs =>
    constructor
    · intro h
      match xs, of_decide_eq_true h with
      | [x, y], _ => exact ⟨x, y, rfl⟩
    · rintro ⟨x, y, h⟩
      cases h
      rfl
theorem sc_fwt : FnScope ["things", "known", "seen", "index", "thing", "tie"] ["things", "known"] (defScope (topS 24)) := ⟨rfl, rfl, rfl, by decide +kernel, rfl, by decide +kernel, by decide +kernel⟩
theorem ok_fwt (D : NamesD K mg) (T : TxtN K mg) (O : OwnC K C) : FnOk P w K mg base CX0 3 D.fX D.dX ["things", "known"] (spFwt K C) := by
  have GL : FnOk P w K mg base CX0 1 D.fL D.dL ["thing"] (spIsList C) := ok_is_list D T O
  have GP : FnOk P w K mg base CX0 2 D.fP D.dP ["thing"] (spIsPair C) := ok_is_pair D T O
  have GU : FnOk P w K mg base CX0 2 D.fU D.dU ["things", "known"] (spFwu K C) := ok_fwu D T O
  have GT : FnOk P w K mg base CX0 1 D.fT D.dT ["pair"] spTold := ok_told D T
  refine Fun.ok D.FX sc_fwt (fun vs H Q E h => ?_) (fun cdv A outer s H vs Q E hr h => ⟨_, pss_cons (ps_if (pt_not (pt_val (pe_call GL (hr.mono (by decide)) (by rfl) D.gL D.FL.kp (bL D) .nil pass0 (pa_cons (pv 0) pa_nil)))) (pss_one (ps_ret pe_int)) pss_nil)
    (pss_cons (ps_set (i := 2) sc_fwt.nd rfl (Or.inl rfl) pe_dnewT)
    (pss_cons (ps_for PassesOwn.never rfl (pi_enumQ (by rfl) T.enumerate (pa_cons (pv 0) pa_nil)) (pg_tup rfl (pgs_cons (pg_name (i := 3) sc_fwt.nd rfl (Or.inl rfl)) (pgs_cons (pg_name (i := 4) sc_fwt.nd rfl (Or.inl rfl)) pgs_nil)))
      (pss_cons (ps_if (PW.pt (pw_or (pt_not (pt_val (pe_call GP hr (by rfl) D.gP D.FP.kp (bP D) .nil pass0 (pa_cons (pv 4) pa_nil)))) (pw_or1 (pt_cmpR op_notN (pe_call GU hr (by rfl) D.gU D.FU.kp (bU D) .nil pass0 (pa_cons (pv 4) (pa_cons (pv 1) pa_nil))) pe_non (nomark _))))) (pss_one (ps_ret (pv 3))) pss_nil)
      (pss_cons (ps_set (i := 5) sc_fwt.nd rfl (Or.inl rfl) (pe_call GT (hr.mono (by decide)) (by rfl) D.gT D.FT.kp (bT D) .nil pass0 (pa_cons (pv 4) pa_nil)))
      (pss_cons (ps_if (pt_cmp (pc_din (hu_of hr) (pv 5) (pv 2))) (pss_one (ps_ret (pv 3))) pss_nil)
      (pss_one (ps_dput (hu_of hr) (pv 2) (pv 5) pe_bl rfl))))))
    (pss_one (ps_ret pe_non)))), ?_⟩)
  · obtain ⟨v, b, ks, rfl, _⟩ := h
    rfl
  · obtain ⟨v, b, ks, rfl, hk, hb, h⟩ := h
    refine ⟨_, rfl, v, rfl, hk, fun H1 S1 => ⟨_, rfl, ?_⟩⟩
    rcases h with ⟨e, k⟩ | ⟨xs, e, hl, hK, k⟩
    · rw [e]
      exact iteT (k H1 S1)
    · rw [e]
      refine iteF ?_
      obtain ⟨a, rfl, _⟩ := items_ref e
      intro d nd
      have S2 := S1.trans (new_same (o := .dT []) nd)
      have nd0 : H d = none := S1.free nd
      refine ⟨_, rfl, a, xs, rfl, for_enQ (items_Q (K := K) (items_same S2 e)) (fun i σ H' => ∃ v2 v3 v4 ps, σ = [some (.ref a), some (.ref b), some (.ref d), v2, v3, v4] ∧ H' d = some (.dT (seenK (ps.map keyP))) ∧ ps.length = i ∧ TiesTo ks H xs ps ∧ Same H H' ∧ (∀ b o, b ≠ d → (upd H1 d (.dT [])) b = some o → H' b = some o))
        ⟨none, none, none, [], rfl, upd_same, rfl, ⟨List.nodup_nil, Nat.zero_le _, fun j x p _ h => by simp at h⟩, S2, fun _ _ _ e => e⟩ ?_ ?_ ?_⟩
      · rintro i σ H' hi ⟨v2, v3, v4, ps, _, _, _, _, _, B⟩
        exact but_LT B (items_ne (items_same S1 e) nd)
      · rintro i x σ H' T hx ⟨v2, v3, v4, ps, rfl, hd, hlen, g, S, B⟩ nT
        have ST := new_same (o := .tup [.int (i : Nat), x]) nT
        obtain ⟨kx, kys⟩ := hK x (List.mem_of_getElem? hx)
        refine ⟨T, _, rfl, SqT.of upd_same, rfl, _, _, rfl, _, _, rfl, rfl, ?_⟩
        have S3 := S.trans ST
        have bad : ∀ H', Same H H' → (∀ p, TieOk ks H x p → p ∈ ps) → Q (.int (i : Nat)) H' := fun H' S' hbad => k (some i) H' ⟨ps, x, hx, hlen, g, hbad⟩ S'
        refine ⟨_, rfl, x, rfl, (kx.same S3).1, fun H4 S4 => ⟨_, rfl, ?_⟩⟩
        have S5 := S3.trans S4
        cases ep : pairB (upd H' T (.tup [.int (i : Nat), x])) x with
        | false =>
          refine iteT (iteT ⟨_, rfl, bad _ S5 fun p hp => ?_⟩)
          obtain ⟨a1, b1, h1, _⟩ := hp
          rw [pair_iff.mpr ⟨_, _, items_same S3 h1⟩] at ep
          cases ep
        | true =>
          refine iteF ?_
          have hit : ∃ ys, itemsOf H x = some ys ∧ ys.length = 2 := by
            obtain ⟨x1, y1, h1⟩ := pair_iff.mp ep
            have kq : isSeq H x = (itemsOf H x).isSome := kn_items kx
            have kq2 : isSeq (upd H' T (.tup [.int (i : Nat), x])) x = (itemsOf (upd H' T (.tup [.int (i : Nat), x])) x).isSome := kn_items (kx.same S3).1
            have kk := (kx.same S3).2
            unfold isSeq at kq kq2
            rw [kk, kq, h1] at kq2
            cases eq : itemsOf H x with
            | none =>
              rw [eq] at kq2
              cases kq2
            | some ys =>
              have := items_same S3 eq
              rw [h1] at this
              cases this
              exact ⟨_, rfl, rfl⟩
          obtain ⟨ys, hys, hy2⟩ := hit
          obtain ⟨_, kyall⟩ := kys ys hys
          refine ⟨_, rfl, _, rfl, x, b, ks, rfl, (kx.same S5).1, same_Q S5 hb, .inr ⟨ys, items_same S5 hys, by omega, kyall.same S5, fun r H6 hR S6 => ?_⟩⟩
          have S7 := S5.trans S6
          cases r with
          | some j =>
            refine ⟨rfl, _, rfl, ?_⟩
            rw [show decide (optV (some j) = V.non) = false from decide_eq_false (by intro z; cases z)]
            refine iteT ⟨_, rfl, bad _ S7 fun p hp => ?_⟩
            obtain ⟨a1, b1, h1, hne, ha, hb1, _⟩ := hp
            rw [hys] at h1
            cases h1
            obtain ⟨ss, y, hy, ht, gg, hbad⟩ := hR
            exfalso
            match j, hy, ht with
            | 0, hy, ht =>
              cases hy
              have : ss = [] := by
                have := congrArg List.length ht
                simpa using this.symm
              have := hbad a1 rfl ha
              simp_all
            | 1, hy, ht =>
              cases hy
              have es : ss = [a1] := by
                match ss, ht with
                | [s0], ht =>
                  simp at ht
                  rw [ht]
                | [], ht => simp at ht
                | _ :: _ :: _, ht => simp at ht
              have := hbad b1 rfl hb1
              rw [es] at this
              exact hne (List.mem_singleton.mp this).symm
            | n + 2, hy, ht => simp at hy
          | none =>
            refine ⟨rfl, _, rfl, ?_⟩
            rw [show decide (optV none = V.non) = true from decide_eq_true rfl]
            refine iteF ?_
            obtain ⟨ss, e1, gg⟩ := hR
            match ss, e1, gg with
            | [a1, b1], e1, gg =>
              subst e1
              have hne : a1 ≠ b1 := by
                have := gg.nd
                simp at this
                exact this
              have ok1 : TieOk ks H x (tp a1 b1) := ⟨a1, b1, hys, hne, gg.all a1 (by simp), gg.all b1 (by simp), rfl⟩
              refine ⟨_, rfl, x, a1, b1, rfl, items_same S7 hys, fun t H8 nt ht S8 => ?_⟩
              have hd8 : H8 d = some (.dT (seenK (ps.map keyP))) := S8 _ _ (S6 _ _ (S4 _ _ (ST _ _ hd)))
              have S9 := S7.trans S8
              refine ⟨_, rfl, _, rfl, d, _, rfl, DGet.t (k := keyP (tp a1 b1)) hd8 ht, _, rfl, ?_⟩
              by_cases hm : tp a1 b1 ∈ ps
              · rw [seen_yes (keyP_mem.mpr hm)]
                refine iteT ⟨_, rfl, bad _ S9 fun p hp => ?_⟩
                obtain ⟨a2, b2, h2, _, _, _, ep2⟩ := hp
                rw [hys] at h2
                cases h2
                rw [← ep2]
                exact hm
              · have nz : keyP (tp a1 b1) ∉ ps.map keyP := fun z => hm (keyP_mem.mp z)
                rw [seen_no nz]
                refine iteF ⟨_, rfl, _, rfl, d, _, rfl, DPut.t (k := keyP (tp a1 b1)) hd8 ht ?_, ?_⟩
                · unfold seenK
                  rw [List.length_map, List.length_map]
                  exact small1000 (Nat.le_trans g.len hl)
                · refine ⟨_, _, _, ps ++ [tp a1 b1], rfl, ?_, by rw [List.length_append, hlen]; rfl, ⟨?_, ?_, ?_⟩, ?_, ?_⟩
                  · rw [upd_same, seen_put _ _ nz, List.map_append]
                    rfl
                  · refine List.nodup_append.mpr ⟨g.nd, by simp, fun q hq q' hq' => ?_⟩
                    rw [List.mem_singleton.mp hq']
                    exact fun z => hm (z ▸ hq)
                  · have := (List.getElem?_eq_some_iff.mp hx).1
                    rw [List.length_append]
                    show ps.length + 1 ≤ xs.length
                    omega
                  · intro j u q hu hq
                    by_cases hj : j < ps.length
                    · rw [List.getElem?_append_left hj] at hq
                      exact g.ok j u q hu hq
                    · rw [List.getElem?_append_right (Nat.le_of_not_lt hj)] at hq
                      have ej : j - ps.length = 0 := by
                        have := (List.getElem?_eq_some_iff.mp hq).1
                        simp at this
                        omega
                      rw [ej] at hq
                      have ej2 : j = i := by omega
                      subst ej2
                      rw [hx] at hu
                      cases hu
                      cases hq
                      exact ok1
                  · exact fun b o q => by
                      rw [upd_ne (ne_of_none q nd0)]
                      exact S9 b o q
                  · exact fun b o nb q => by
                      rw [upd_ne nb]
                      exact S8 _ _ (S6 _ _ (S4 _ _ (ST _ _ (B b o nb q))))
            | [], e1, gg => subst e1; simp at hy2
            | [_], e1, gg => subst e1; simp at hy2
            | _ :: _ :: _ :: _, e1, gg => subst e1; simp at hy2
      · rintro σ H' ⟨v2, v3, v4, ps, rfl, hd, hlen, g, S, B⟩
        exact k none H' ⟨ps, hlen, g⟩ S
end
end E1

set_option Elab.async false
set_option linter.all false
set_option maxRecDepth 100000
set_option maxHeartbeats 4000000
/-! neighbours -/
namespace E1
open PySem PySem.Spec PyProof.Rows L2 G0
theorem dc_list {K : PySem.W.Frag} {a : Addr} {xs : List V} {g : TG} {tt : TT} {tk tv : TE} {vs : List Nat} {σ : L2.St} {H1 : Hp} {D : Addr} {Qd : Hp → Prop} (Pv : Nat → Hp → Prop) (h0 : Pv 0 (upd H1 D (.dK []))) (hl : ∀ i H, i ≤ xs.length → Pv i H → SqL K H a xs)
    (hs : ∀ i x H, xs[i]? = some x → Pv i H → g x (wipe σ vs) H fun σ2 H2 => wipe σ2 vs = wipe σ vs ∧ tt σ2 H2 fun b H3 =>
      if b = true then tk σ2 H3 fun y H4 => tv σ2 H4 fun z H5 => ∃ kvs k, y = kV k ∧ H5 D = some (.dK kvs) ∧ kvs.length < sizeLine ∧ Pv (i + 1) (upd H5 D (.dK (putK kvs k z))) else Pv (i + 1) H3) (hd : ∀ H, Pv xs.length H → Qd H) :
    ∃ W : Nat → Nat → Hp → Prop, (∃ m, W 0 m (upd H1 D (.dK []))) ∧ ∀ i m H, W i m H →
      ((Itl K a).stop i H ∧ Qd H) ∨ ((Itl K a).go i H ∧ ∃ Nx : Hp → Prop, (∀ H', Nx H' → ∃ m', m' < m ∧ W (i + 1) m' H') ∧ ∀ x H', (Itl K a).yld i H x H' → g x (wipe σ vs) H' fun σ2 H2 => wipe σ2 vs = wipe σ vs ∧ tt σ2 H2 fun b H3 =>
        if b = true then tk σ2 H3 fun y H4 => tv σ2 H4 fun z H5 => ∃ kvs k, y = kV k ∧ H5 D = some (.dK kvs) ∧ kvs.length < sizeLine ∧ Nx (upd H5 D (.dK (putK kvs k z))) else Nx H3) := by
  refine ⟨fun i m H => m = xs.length - i ∧ i ≤ xs.length ∧ Pv i H, ⟨xs.length, by simp, Nat.zero_le _, h0⟩, fun i m H ⟨em, hi, p⟩ => ?_⟩
  subst em
  have q := hl i H hi p
  rcases Nat.lt_or_ge i xs.length with lt | ge
  · refine .inr ⟨⟨xs, xs[i], q, by simp [lt]⟩, Pv (i + 1), fun H' p' => ⟨xs.length - (i + 1), by omega, rfl, lt, p'⟩, fun x H' y => ?_⟩
    obtain ⟨rfl, hz⟩ := y
    exact hs i x H' (hz xs q) p
  · have e : i = xs.length := by omega
    exact .inl ⟨⟨xs, q, ge⟩, hd H (by rw [← e]; exact p)⟩
/-- the other end of each tie of a place -/
def nb (ps : List Pr) (s : Str) : List Str := ps.flatMap fun p => (if p.1 = s then [p.2] else []) ++ (if p.2 = s then [p.1] else [])
theorem nb_snoc (ps : List Pr) (p : Pr) (s : Str) : nb (ps ++ [p]) s = nb ps s ++ ((if p.1 = s then [p.2] else []) ++ (if p.2 = s then [p.1] else [])) := by
  unfold nb
  rw [List.flatMap_append]
  simp
theorem nb_len (ps : List Pr) (s : Str) : (nb ps s).length ≤ 2 * ps.length := by
  induction ps with
  | nil => exact Nat.zero_le _
  | cons p r ih =>
    have e : nb (p :: r) s = ((if p.1 = s then [p.2] else []) ++ (if p.2 = s then [p.1] else [])) ++ nb r s := by simp [nb]
    rw [e, List.length_append, List.length_append, List.length_cons]
    split <;> split <;> simp <;> omega
/-- a dict from these places to lists of places -/
structure NearAt (H : Hp) (q : Addr) (ss : List Str) (f : Str → List Str) (l : Str → Addr) : Prop where
  d : H q = some (.dK (ss.map fun s => (Sum.inr s, V.ref (l s))))
  at_ : ∀ s ∈ ss, H (l s) = some (.lst ((f s).map V.str))
  inj : ∀ s ∈ ss, ∀ t ∈ ss, l s = l t → s = t
theorem NearAt.ne {H : Hp} {q : Addr} {ss : List Str} {f : Str → List Str} {l : Str → Addr} (N : NearAt H q ss f l) {s : Str} (h : s ∈ ss) : l s ≠ q := ne_of (N.at_ s h) N.d (fun z => by cases z)
theorem NearAt.mono {H H' : Hp} {q : Addr} {ss : List Str} {f : Str → List Str} {l : Str → Addr} (N : NearAt H q ss f l) (S : Same H H') : NearAt H' q ss f l := ⟨S _ _ N.d, fun s h => S _ _ (N.at_ s h), N.inj⟩
theorem map_val {ss : List Str} (l : Str → V) : ∀ {s : Str}, s ∈ ss → valV (ss.map fun s => ((Sum.inr s : Key), l s)) (Sum.inr s) = some (l s) := by
  induction ss with
  | nil => intro s h; cases h
  | cons x r ih =>
    intro s h
    unfold valV
    rw [List.map_cons, List.find?_cons]
    by_cases e : x = s
    · subst e
      simp
    · have e2 : decide ((Sum.inr x : Key) = Sum.inr s) = false := decide_eq_false fun z => e (by injection z)
      rw [e2]
      have h2 : s ∈ r := (List.mem_cons.mp h).resolve_left (Ne.symm e)
      have := ih h2
      unfold valV at this
      exact this
theorem put_new {κ : Type} [DecidableEq κ] {kvs : List (κ × V)} {k : κ} {v : V} (h : ∀ kv ∈ kvs, kv.1 ≠ k) : putK kvs k v = kvs ++ [(k, v)] := by
  unfold putK
  have e : (kvs.any fun kv => decide (kv.1 = k)) = false := by
    rw [List.any_eq_false]
    intro x hx
    simp only [decide_eq_true_eq]
    exact h x hx
  rw [e, if_neg (by simp)]
/-- one list grows -/
theorem NearAt.put {H : Hp} {q : Addr} {ss : List Str} {f : Str → List Str} {l : Str → Addr} (N : NearAt H q ss f l) {s : Str} (hs : s ∈ ss) (x : Str) : NearAt (upd H (l s) (.lst ((f s ++ [x]).map V.str))) q ss (fun t => if t = s then f s ++ [x] else f t) l := by
  refine ⟨by rw [upd_ne (N.ne hs).symm]; exact N.d, fun t ht => ?_, N.inj⟩
  by_cases e : t = s
  · subst e
    rw [upd_same, if_pos rfl]
  · rw [upd_ne (fun z => e (N.inj t ht s hs z)), if_neg e]
    exact N.at_ t ht
theorem NearAt.congr {H : Hp} {q : Addr} {ss : List Str} {f g : Str → List Str} {l : Str → Addr} (N : NearAt H q ss f l) (h : ∀ s ∈ ss, f s = g s) : NearAt H q ss g l := ⟨N.d, fun s hs => by rw [← h s hs]; exact N.at_ s hs, N.inj⟩
/-- one more place -/
theorem NearAt.more {H : Hp} {q p : Addr} {ss : List Str} {f : Str → List Str} {l : Str → Addr} (N : NearAt H q ss f l) {s : Str} (hs : s ∉ ss) (hp : H p = some (.lst ((f s).map V.str))) (np : ∀ t ∈ ss, l t ≠ p) (npq : p ≠ q) :
    NearAt (upd H q (.dK (putK (ss.map fun s => ((Sum.inr s : Key), V.ref (l s))) (Sum.inr s) (.ref p)))) q (ss ++ [s]) f (fun t => if t = s then p else l t) := by
  have ls : ∀ t ∈ ss, (if t = s then p else l t) = l t := fun t ht => if_neg (show t ≠ s from fun z => hs (z ▸ ht))
  refine ⟨?_, fun t ht => ?_, fun t ht u hu e => ?_⟩
  · rw [upd_same, put_new (fun kv hkv => ?_), List.map_append]
    · have e1 : (ss.map fun t => ((Sum.inr t : Key), V.ref (if t = s then p else l t))) = ss.map fun t => ((Sum.inr t : Key), V.ref (l t)) := List.map_congr_left fun t ht => by rw [ls t ht]
      rw [e1]
      simp
    · obtain ⟨t, ht, rfl⟩ := List.mem_map.mp hkv
      intro z
      cases z
      exact hs ht
  · rcases List.mem_append.mp ht with ht | ht
    · show upd H q _ (if t = s then p else l t) = _
      rw [ls t ht, upd_ne (N.ne ht)]
      exact N.at_ t ht
    · rw [List.mem_singleton.mp ht]
      show upd H q _ (if s = s then p else l s) = _
      rw [if_pos rfl, upd_ne npq]
      exact hp
  · have e : (if t = s then p else l t) = if u = s then p else l u := e
    rcases List.mem_append.mp ht with ht | ht
    · rw [ls t ht] at e
      rcases List.mem_append.mp hu with hu | hu
      · rw [ls u hu] at e
        exact N.inj t ht u hu e
      · rw [List.mem_singleton.mp hu, if_pos rfl] at e
        exact absurd e (np t ht)
    · rw [List.mem_singleton.mp ht] at e ⊢
      rw [if_pos rfl] at e
      rcases List.mem_append.mp hu with hu | hu
      · rw [ls u hu] at e
        exact absurd e.symm (np u hu)
      · exact (List.mem_singleton.mp hu).symm
abbrev s_nb : Stmt := topS 25
abbrev N_nb : List Str := ["places", "ties", "near", "place", "one", "other"]
theorem sc_nb : FnScope N_nb ["places", "ties"] (defScope s_nb) := ⟨rfl, rfl, rfl, by decide +kernel, rfl, by decide +kernel, by decide +kernel⟩
def spNb : Sp := fun vs H Q _ => ∃ (a b : Addr) (ss : List Str) (ts : List V) (ps : List Pr), vs = [.ref a, .ref b] ∧ H a = some (.lst (ss.map V.str)) ∧ H b = some (.lst ts) ∧ PrsAt H ts ps ∧ ss.Nodup ∧ ss.length ≤ 1000 ∧ ps.length ≤ 1000 ∧ (∀ p ∈ ps, p.1 ∈ ss ∧ p.2 ∈ ss) ∧
  ∀ q l H', NearAt H' q ss (fun s => sortS (nb ps s)) l → H q = none → (∀ s ∈ ss, H (l s) = none) → Same H H' → Q (.ref q) H'
section
variable {P : Program} {w : World} {K : PySem.W.Frag} {mg : Str → Option Value} {base : Heap} {C f : Addr} {fd : FuncData}
theorem take_mem {α : Type} {xs : List α} (nd : xs.Nodup) {i : Nat} {x : α} (h : xs[i]? = some x) : x ∉ xs.take i := by
  intro hm
  have e := List.take_append_drop i xs
  rw [← e] at nd
  have hx : x ∈ xs.drop i := by
    refine List.mem_of_getElem? (i := 0) ?_
    rw [List.getElem?_drop]
    exact h
  exact (List.nodup_append.mp nd).2.2 x hm x hx rfl
theorem boot_sorted : bootBuiltins "sorted" = some (.builtin "sorted") := by decide +kernel
theorem ok_nb (F : FnS K 25 f fd) (T : TxtN K mg) : FnOk P w K mg base CX0 1 f fd ["places", "ties"] spNb := by
  refine Fun.ok F sc_nb (fun vs H Q E h => ?_) (fun cdv A outer s H vs Q E hr h => ⟨_, pss_cons (ps_set (i := 2) sc_nb.nd rfl (Or.inr rfl) (pe_dc (own := [("place", 3)]) (tt := tYes) rfl sc_nb.nd (pi_list (pv 0)) (blkOk_by (own := [("place", 3)]) (N := N_nb) (sc := defScope s_nb) (by decide +kernel)) (fun _ _ _ _ _ => pg_name (i := 3) sc_nb.nd rfl (Or.inl rfl)) (fun _ _ _ _ _ => pts_nil) (fun _ _ _ _ _ => pv 3) (fun _ _ _ _ _ => pe_lst pa_nil)))
    (pss_cons (ps_for PassesOwn.never rfl (pi_list (pv 1)) (pg_tup rfl (pgs_cons (pg_name (i := 4) sc_nb.nd rfl (Or.inl rfl)) (pgs_cons (pg_name (i := 5) sc_nb.nd rfl (Or.inl rfl)) pgs_nil)))
      (pss_cons (ps_expr (pe_bm PySem.F.plainAttrs_list PySem.F.slot_list_append PySem.F.type_list_append mt_append (pe_dget (hu_of hr) (pv 2) (pv 4) (fun _ _ => rfl)) (pa_cons (pv 5) pa_nil)))
      (pss_one (ps_expr (pe_bm PySem.F.plainAttrs_list PySem.F.slot_list_append PySem.F.type_list_append mt_append (pe_dget (hu_of hr) (pv 2) (pv 5) (fun _ _ => rfl)) (pa_cons (pv 4) pa_nil))))))
    (pss_one (ps_ret (pe_dc (tv := tCB (rSortQ K) (tCons (tDGet (tVar 2) (tVar 3)) tNil)) (own := [("place", 3)]) (tt := tYes) rfl sc_nb.nd (pi_list (pv 0)) (blkOk_by (own := [("place", 3)]) (N := N_nb) (sc := defScope s_nb) (by decide +kernel)) (fun _ _ _ _ _ => pg_name (i := 3) sc_nb.nd rfl (Or.inl rfl)) (fun _ _ _ _ _ => pts_nil) (fun _ _ _ _ _ => pv 3) (fun _ _ _ _ _ => pe_callB cr_sortQ (by rfl) T.sorted boot_sorted (pa_cons (pe_dget (hu_of hr) (pv 2) (pv 3) (fun _ _ => rfl)) pa_nil)))))), ?_⟩)
  · obtain ⟨a, b, ss, ts, ps, rfl, _⟩ := h
    rfl
  · obtain ⟨a, b, ss, ts, ps, rfl, ha, hb, hp, nd, hl, hpl, hin, k⟩ := h
    refine ⟨_, rfl, a, rfl, ⟨_, SqL.of ha⟩, fun q nq => dc_list (xs := ss.map V.str) (fun i H' => ∃ l, NearAt H' q (ss.take i) (fun _ => []) l ∧ (∀ s ∈ ss.take i, H (l s) = none) ∧ Same H H') ⟨fun _ => q, ⟨upd_same, by simp, by simp⟩, by simp, new_same nq⟩ (fun i H' _ ⟨_, _, _, S⟩ => SqL.of (S _ _ ha)) ?_ ?_⟩
    · rintro i x H' hx ⟨l, N, fr, S⟩
      rw [List.getElem?_map] at hx
      cases es : ss[i]? with
      | none => rw [es] at hx; cases hx
      | some s =>
        rw [es] at hx
        cases hx
        have ns := take_mem nd es
        refine ⟨rfl, yes_of ⟨_, rfl, Nat.zero_le _, fun p np => ⟨_, Sum.inr s, rfl, by rw [upd_ne (ne_of_none N.d np)]; exact N.d, ?_, fun t => if t = s then p else l t, ?_, ?_, ?_⟩⟩⟩
        · rw [List.length_map, List.length_take]
          exact small1000 (by omega)
        · rw [take_snoc es]
          have N2 : NearAt (upd H' p (.lst [])) q (ss.take i) (fun _ => []) l := N.mono (new_same np)
          exact N2.more (p := p) ns upd_same (fun t ht => ne_of_none (N.at_ t ht) np) (ne_of_none N.d np).symm
        · intro t ht
          have npH : H p = none := S.free np
          rw [take_snoc es] at ht
          by_cases e : t = s
          · show H (if t = s then p else l t) = none
            rw [if_pos e]
            exact npH
          · show H (if t = s then p else l t) = none
            rw [if_neg e]
            rcases List.mem_append.mp ht with ht | ht
            · exact fr t ht
            · exact absurd (List.mem_singleton.mp ht) e
        · exact fun b o e => by
            have npH : H p = none := S.free np
            rw [upd_ne (ne_of_none e nq), upd_ne (ne_of_none e npH)]
            exact S b o e
    · rintro H1 ⟨l, N, fr, S⟩
      rw [List.length_map, List.take_length] at N fr
      have key : ∀ (H2 : Hp) (p : Pr) (i : Nat), NearAt H2 q ss (nb (ps.take i)) l → p ∈ ps → NearAt (upd (upd H2 (l p.1) (.lst ((nb (ps.take i) p.1 ++ [p.2]).map V.str))) (l p.2) (.lst (((if p.2 = p.1 then nb (ps.take i) p.1 ++ [p.2] else nb (ps.take i) p.2) ++ [p.1]).map V.str))) q ss (fun s => if s = p.2 then (if p.2 = p.1 then nb (ps.take i) p.1 ++ [p.2] else nb (ps.take i) p.2) ++ [p.1] else if s = p.1 then nb (ps.take i) p.1 ++ [p.2] else nb (ps.take i) s) l := fun H2 p i N2 hp =>
        ((N2.put (hin p hp).1 p.2).put (hin p hp).2 p.1)
      refine ⟨_, rfl, b, rfl, ⟨_, SqL.of (S _ _ hb)⟩, for_list (xs := ts) (fun i σ H' => ∃ v3 v4 v5, σ = [some (.ref a), some (.ref b), some (.ref q), v3, v4, v5] ∧ NearAt H' q ss (nb (ps.take i)) l ∧ Same H H') ⟨none, none, none, rfl, N.congr fun s _ => by simp [nb], S⟩ (fun i σ H' _ ⟨_, _, _, _, _, S⟩ => SqL.of (S _ _ hb)) ?_ ?_⟩
      · rintro i x σ H' hx ⟨v3, v4, v5, rfl, N, S⟩
        have hi : i < ps.length := by
          rw [← hp.1]
          exact (List.getElem?_eq_some_iff.mp hx).1
        obtain ⟨p, hpi⟩ : ∃ p, ps[i]? = some p := ⟨ps[i], List.getElem?_eq_getElem hi⟩
        have hpm : p ∈ ps := List.mem_of_getElem? hpi
        obtain ⟨t, rfl, ht⟩ := hp.2 i x p hx hpi
        obtain ⟨h1, h2⟩ := hin p hpm
        refine ⟨t, _, rfl, SqT.of (S _ _ ht), rfl, _, _, rfl, _, _, rfl, rfl, ?_⟩
        have small : ∀ s, (nb (ps.take i) s).length + 5 < sizeLine := fun s => by
          have := nb_len (ps.take i) s
          rw [List.length_take] at this
          exact Nat.lt_of_le_of_lt (Nat.add_le_add_right (Nat.le_trans this (show 2 * min i ps.length ≤ 2000 by omega)) 5) (by decide)
        have e1 := DGet.k (k := Sum.inr p.1) N.d
        rw [map_val (fun s => V.ref (l s)) h1] at e1
        refine ⟨_, rfl, _, rfl, q, _, rfl, e1, .inl ⟨rfl, _, SqL.of (N.at_ _ h1)⟩, _, rfl, l p.1, _, _, rfl, rfl, N.at_ _ h1, ?_, ?_⟩
        · rw [List.length_map]
          have := small p.1
          omega
        have N2 := N.put h1 p.2
        rw [List.map_append] at N2
        have e2 := DGet.k (k := Sum.inr p.2) N2.d
        rw [map_val (fun s => V.ref (l s)) h2] at e2
        refine ⟨_, rfl, _, rfl, q, _, rfl, e2, .inl ⟨rfl, _, SqL.of (N2.at_ _ h2)⟩, _, rfl, l p.2, _, _, rfl, rfl, N2.at_ _ h2, ?_, ?_⟩
        · rw [List.length_map]
          have a1 := small p.1
          have a2 := small p.2
          split
          · rw [List.length_append]
            simp
            omega
          · omega
        have N3 := N2.put h2 p.1
        rw [List.map_append] at N3
        refine ⟨_, _, _, rfl, N3.congr fun s hs => ?_, ?_⟩
        · rw [take_snoc hpi, nb_snoc]
          show (if s = p.2 then (if p.2 = p.1 then nb (ps.take i) p.1 ++ [p.2] else nb (ps.take i) p.2) ++ [p.1] else if s = p.1 then nb (ps.take i) p.1 ++ [p.2] else nb (ps.take i) s) = _
          by_cases c2 : s = p.2
          · subst c2
            rw [if_pos rfl, if_pos rfl]
            by_cases c1 : p.2 = p.1
            · rw [if_pos c1, if_pos c1.symm, c1, List.append_assoc]
            · rw [if_neg c1, if_neg (fun z => c1 z.symm), List.nil_append]
          · rw [if_neg c2, show (if p.2 = s then [p.1] else ([] : List Str)) = [] from if_neg (fun z => c2 z.symm), List.append_nil]
            by_cases c1 : s = p.1
            · subst c1
              rw [if_pos rfl, if_pos rfl]
            · rw [if_neg c1, show (if p.1 = s then [p.2] else ([] : List Str)) = [] from if_neg (fun z => c1 z.symm), List.append_nil]
        · exact fun b o e => by
            rw [upd_ne (ne_of_none e (fr _ h2)), upd_ne (ne_of_none e (fr _ h1))]
            exact S b o e
      · rintro σ H2 ⟨v3, v4, v5, rfl, N, S⟩
        rw [hp.1, List.take_length] at N
        have N0 := N
        refine ⟨_, rfl, a, rfl, ⟨_, SqL.of (S _ _ ha)⟩, fun q2 nq2 => dc_list (xs := ss.map V.str) (fun i H' => ∃ l2, NearAt H' q2 (ss.take i) (fun s => sortS (nb ps s)) l2 ∧ NearAt H' q ss (nb ps) l ∧ (∀ s ∈ ss.take i, H (l2 s) = none) ∧ Same H H') ⟨fun _ => q2, ⟨upd_same, by simp, by simp⟩, N.mono (new_same nq2), by simp, S.trans (new_same nq2)⟩ (fun i H' _ ⟨_, _, _, _, S⟩ => SqL.of (S _ _ ha)) ?_ ?_⟩
        · rintro i x H' hx ⟨l2, N2, N, fr2, S'⟩
          rw [List.getElem?_map] at hx
          cases es : ss[i]? with
          | none => rw [es] at hx; cases hx
          | some s =>
            rw [es] at hx
            cases hx
            have ns := take_mem nd es
            have hs : s ∈ ss := List.mem_of_getElem? es
            have e1 := DGet.k (k := Sum.inr s) N.d
            rw [map_val (fun s => V.ref (l s)) hs] at e1
            refine ⟨rfl, yes_of ⟨_, rfl, _, rfl, _, rfl, q, _, rfl, e1, l s, nb ps s, rfl, .inl (SqL.of (N.at_ s hs)), fun p np => ⟨_, Sum.inr s, rfl, by rw [upd_ne (ne_of_none N2.d np)]; exact N2.d, ?_, fun t => if t = s then p else l2 t, ?_, ?_, ?_, ?_⟩⟩⟩
            · rw [List.length_map, List.length_take]
              exact small1000 (by omega)
            · rw [take_snoc es]
              have N3 : NearAt (upd H' p (.lst ((sortS (nb ps s)).map V.str))) q2 (ss.take i) (fun s => sortS (nb ps s)) l2 := N2.mono (new_same np)
              exact N3.more (p := p) ns upd_same (fun t ht => ne_of_none (N2.at_ t ht) np) (ne_of_none N2.d np).symm
            · have nq2' : q2 ≠ q := (ne_of_none N0.d nq2).symm
              have N4 : NearAt (upd H' p (.lst ((sortS (nb ps s)).map V.str))) q ss (nb ps) l := N.mono (new_same np)
              have hq2 : (upd H' p (.lst ((sortS (nb ps s)).map V.str))) q2 = _ := (new_same np) _ _ N2.d
              exact ⟨by rw [upd_ne nq2'.symm]; exact N4.d, fun t ht => by rw [upd_ne (ne_of (N4.at_ t ht) hq2 (fun z => by cases z))]; exact N4.at_ t ht, N4.inj⟩
            · intro t ht
              have npH : H p = none := S'.free np
              rw [take_snoc es] at ht
              by_cases e : t = s
              · show H (if t = s then p else l2 t) = none
                rw [if_pos e]
                exact npH
              · show H (if t = s then p else l2 t) = none
                rw [if_neg e]
                rcases List.mem_append.mp ht with ht | ht
                · exact fr2 t ht
                · exact absurd (List.mem_singleton.mp ht) e
            · exact fun b o e => by
                have npH : H p = none := S'.free np
                have nqH : H q2 = none := S.free nq2
                rw [upd_ne (ne_of_none e nqH), upd_ne (ne_of_none e npH)]
                exact S' b o e
        · rintro H3 ⟨l2, N2, N, fr2, S'⟩
          rw [List.length_map, List.take_length] at N2 fr2
          exact k q2 l2 H3 N2 (S.free nq2) fr2 S'
end
end E1

set_option Elab.async false
set_option linter.all false
set_option maxRecDepth 100000
set_option maxHeartbeats 4000000
/-! What is told of a list is told once. -/
namespace E1
open PySem PySem.Spec PyProof.Rows L2 G0
theorem scan_no {ok : Str → Prop} {xs : List V} {ss ss' : List Str} {i j : Nat} {y : V} (g : Good ok ss) (ht : xs.take j = ss.map V.str) (hij : i < j) (hy : xs[i]? = some y) (ht' : xs.take i = ss'.map V.str) (hb : ∀ z, y = .str z → ok z → z ∈ ss') : False := by
  have e1 : (xs.take j)[i]? = some y := by
    rw [List.getElem?_take, if_pos hij]
    exact hy
  rw [ht, List.getElem?_map] at e1
  cases ez : ss[i]? with
  | none => rw [ez] at e1; cases e1
  | some z =>
    rw [ez] at e1
    injection e1 with e1
    have hm := hb z e1.symm (g.all z (List.mem_of_getElem? ez))
    have e2 : (ss.take i).map V.str = ss'.map V.str := by
      rw [List.map_take, ← ht, List.take_take, Nat.min_eq_left (Nat.le_of_lt hij), ht']
    have e3 : ss.take i = ss' := (List.map_inj_right (fun a b h => by injection h)).mp e2
    rw [← e3] at hm
    exact take_mem g.nd ez hm
theorem scan_uniq {ok : Str → Prop} {xs : List V} {r q : Option Nat} (h1 : ScanR ok xs r) (h2 : ScanR ok xs q) : r = q := by
  cases r with
  | none =>
    obtain ⟨ss, e, g⟩ := h1
    cases q with
    | none => rfl
    | some i =>
      obtain ⟨ss', y, hy, ht, _, hb⟩ := h2
      exact (scan_no (j := xs.length) g (by rw [List.take_length]; exact e) (List.getElem?_eq_some_iff.mp hy).1 hy ht hb).elim
  | some i =>
    obtain ⟨ss, y, hy, ht, g, hb⟩ := h1
    cases q with
    | none =>
      obtain ⟨ss', e, g'⟩ := h2
      exact (scan_no (j := xs.length) g' (by rw [List.take_length]; exact e) (List.getElem?_eq_some_iff.mp hy).1 hy ht hb).elim
    | some j =>
      obtain ⟨ss', y', hy', ht', g', hb'⟩ := h2
      rcases Nat.lt_trichotomy i j with l | l | l
      · exact (scan_no g' ht' l hy ht hb).elim
      · rw [l]
      · exact (scan_no g ht l hy' ht' hb').elim
theorem tie_fun {ks : List Str} {H : Hp} {x : V} {p q : Pr} (h1 : TieOk ks H x p) (h2 : TieOk ks H x q) : p = q := by
  obtain ⟨a, b, e, _, _, _, rfl⟩ := h1
  obtain ⟨a', b', e', _, _, _, rfl⟩ := h2
  rw [e] at e'
  cases e'
  rfl
theorem tie_no {ks : List Str} {H : Hp} {xs : List V} {ps qs : List Pr} {i : Nat} {y : V} (g : TiesTo ks H xs ps) (hi : i < ps.length) (hy : xs[i]? = some y) (g' : TiesTo ks H xs qs) (hq : qs.length = i) (hb : ∀ p, TieOk ks H y p → p ∈ qs) : False := by
  have ep : ps[i]? = some ps[i] := List.getElem?_eq_getElem hi
  have hm := hb _ (g.ok i y _ hy ep)
  obtain ⟨k, hk⟩ := List.getElem?_of_mem hm
  have hk' : k < i := by
    rw [← hq]
    exact (List.getElem?_eq_some_iff.mp hk).1
  have hkl : k < xs.length := Nat.lt_trans hk' (Nat.lt_of_lt_of_le hi g.len)
  have ex : xs[k]? = some xs[k] := List.getElem?_eq_getElem hkl
  have ek : ps[k]? = some ps[k] := List.getElem?_eq_getElem (Nat.lt_trans hk' hi)
  have e1 := tie_fun (g.ok k _ _ ex ek) (g'.ok k _ _ ex hk)
  have := (List.getElem?_inj (Nat.lt_trans hk' hi) g.nd).mp (show ps[k]? = ps[i]? from by rw [ek, ep, e1])
  omega
theorem tie_uniq {ks : List Str} {H : Hp} {xs : List V} {r q : Option Nat} (h1 : TieR ks H xs r) (h2 : TieR ks H xs q) : r = q := by
  cases r with
  | none =>
    obtain ⟨ps, e, g⟩ := h1
    cases q with
    | none => rfl
    | some i =>
      obtain ⟨qs, y, hy, hl, g', hb⟩ := h2
      exact (tie_no g (by rw [e]; exact (List.getElem?_eq_some_iff.mp hy).1) hy g' hl hb).elim
  | some i =>
    obtain ⟨ps, y, hy, hl, g, hb⟩ := h1
    cases q with
    | none =>
      obtain ⟨qs, e, g'⟩ := h2
      exact (tie_no g' (by rw [e]; exact (List.getElem?_eq_some_iff.mp hy).1) hy g hl hb).elim
    | some j =>
      obtain ⟨qs, y', hy', hl', g', hb'⟩ := h2
      rcases Nat.lt_trichotomy i j with l | l | l
      · exact (tie_no g' (by omega) hy g hl hb).elim
      · rw [l]
      · exact (tie_no g (by omega) hy' g' hl' hb').elim
end E1

set_option Elab.async false
set_option linter.all false
set_option maxRecDepth 100000
set_option maxHeartbeats 4000000
/-! Own errors with one field: the __init__, and the raising. -/
namespace G0
open PySem PySem.Spec PyProof.Rows L2
/-- at e stands an error of the class at C, with these fields -/
def ExcAt (H : Hp) (e C : Addr) (fs : List (Str × V)) : Prop := ∃ d, H e = some (exo e C (some d)) ∧ H d = some (exd d fs) ∧ d ≠ e
def spI1 (C : Addr) (n : Str) : Sp := fun vs H Q _ => ∃ (a : Addr) (v : V), vs = [.ref a, v] ∧ H a = some (exo a C none) ∧
  ∀ H' d, H d = none → d ≠ a → H' a = some (exo a C (some d)) → H' d = some (exd d [(n, v)]) → (∀ b o, b ≠ a → H b = some o → H' b = some o) → Q .non H'
theorem visP {N ps : List Str} {sc : Scope} (S : FnScope N ps sc) {x : Str} (h : x ∈ ps) : Vis sc x := by
  rcases S.par x h with k | k
  · exact .inl k
  · exact .inr (.inl k)
section
variable {P : Program} {w : World} {K : PySem.W.Frag} {mg : Str → Option Value} {base : Heap} {q x : Str} {params : Arguments} {body : List Stmt} {scope : Scope} {C f : Addr} {fd : FuncData}
theorem ok_init1 {p1 p2 p3 p4 : Pos} (F : FunD K "__init__" q params body scope [] [] f fd) (hb : body = [.Assign [.Attribute (.Name "self" p1) x p2] (.Name x p3) p4]) (S : FnScope ["self", x] ["self", x] scope)
    (T : OexC K C) (no : PySem.W.findIn K (.ref C) x = some none) (hd : (x == ("__debug__" : Str)) = false) (hc : (x == ("__classdict__" : Str)) = false) : FnOk P w K mg base CX0 1 f fd ["self", x] (spI1 C x) := by
  subst hb
  refine F.ok S (fun vs H Q E h => ?_) (fun cdv A outer s H vs Q E hr h => ?_)
  · obtain ⟨a, v, rfl, _⟩ := h
    rfl
  · obtain ⟨a, v, rfl, ha, k⟩ := h
    refine ⟨_, PSs.nox (pss_one (ps_ost (pe_var (i := 0) rfl (visP S (by simp)) (by decide) (by decide)) (pe_var (i := 1) rfl (visP S (by simp)) hd hc))), ?_⟩
    refine ⟨v, rfl, .ref a, rfl, a, C, rfl, T, no, .inl ⟨ha, fun dx n ne => k _ dx n ne upd_same ?_ fun b o hb e => ?_⟩⟩
    · rw [upd_ne ne]
      exact upd_same
    · rw [upd_ne hb, upd_ne (ne_of_none e n)]
      exact e
end
/-- what is wanted of an error of the class at C with this field -/
def Raised (H : Hp) (C : Addr) (n : Str) (v : V) (E : XK) : Prop := ∀ d H', H d = none → H' d = some (.xd [(n, v)]) → (∀ b o, H b = some o → H' b = some o) → E (.ref C) (some d) H'
theorem Raised.of {H : Hp} {C : Addr} {n : Str} {v : V} {E : XK} {a : Addr} (h : Raised H C n v E) (na : H a = none) : spI1 C n [.ref a, v] (upd H a (exo a C none))
    (fun v H2 => v = .non ∧ ∃ (d : Addr) (fs : List (Str × V)), H2 a = some (exo a C (some d)) ∧ H2 d = some (exd d fs) ∧ H d = none ∧ E (.ref C) (some d) (upd (del H2 a) d (.xd fs))) (fun _ _ _ => False) := by
  refine ⟨a, v, rfl, upd_same, fun H' d nd ne ha hd k => ⟨rfl, d, _, ha, hd, ?_, ?_⟩⟩
  · rw [upd_ne ne] at nd
    exact nd
  · rw [upd_ne ne] at nd
    refine h d _ nd upd_same fun b o e => ?_
    have nb : b ≠ a := ne_of_none e na
    rw [upd_ne (ne_of_none e nd), del_ne nb]
    exact k b o nb (by rw [upd_ne nb]; exact e)
theorem Raised.mono {H H1 : Hp} {C : Addr} {n : Str} {v : V} {E : XK} (h : Raised H C n v E) (k : ∀ b o, H b = some o → H1 b = some o) : Raised H1 C n v E := fun d H' nd hd kk => h d H' (by
  cases e : H d with
  | none => rfl
  | some o =>
    rw [k d o e] at nd
    cases nd) hd fun b o e => kk b o (k b o e)
end G0

set_option Elab.async false
set_option linter.all false
set_option maxRecDepth 100000
set_option maxHeartbeats 4000000
/-! boards.py: class Board. -/
namespace E1
open PySem PySem.Spec PyProof.Rows L2 G0
abbrev mS (j : Nat) : Stmt := inClass (topS 26) j
/-- an error with one field: where it stands -/
structure ErrD (K : PySem.W.Frag) (mg : Str → Option Value) (i : Nat) (nm fl : Str) where
  C : Addr
  f : Addr
  fd : FuncData
  F : FunD K "__init__" (nm ++ ".__init__") (defArgs (inClass (topS i) 0)) (defBody (inClass (topS i) 0)) (defScope (inClass (topS i) 0)) [] [] f fd
  T : OexC K C
  no : PySem.W.findIn K (.ref C) fl = some none
  iC : PySem.W.findIn K (.ref C) "__init__" = some (some (.ref f))
  tI : PySem.W.typeIn K (.ref f) = some (.type "function")
  g : mg nm = some (.ref C)
/-- where the class Board stands -/
structure BoardD (K : PySem.W.Frag) (mg : Str → Option Value) where
  C : Addr
  g : mg "Board" = some (.ref C)
  O : OwnC K C
  noP : NoAttr K C "_places"
  noT : NoAttr K C "_ties"
  noR : NoAttr K C "_rim"
  noN : NoAttr K C "_near"
  f : Nat → Addr
  d : Nat → FuncData
  F0 : FunD K "__init__" "Board.__init__" (defArgs (mS 0)) (defBody (mS 0)) (defScope (mS 0)) [] [] (f 0) (d 0)
  F1 : FunD K "__eq__" "Board.__eq__" (defArgs (mS 1)) (defBody (mS 1)) (defScope (mS 1)) [] [] (f 1) (d 1)
  F2 : FunD K "places" "Board.places" (defArgs (mS 2)) (defBody (mS 2)) (defScope (mS 2)) [] [] (f 2) (d 2)
  F3 : FunD K "ties" "Board.ties" (defArgs (mS 3)) (defBody (mS 3)) (defScope (mS 3)) [] [] (f 3) (d 3)
  F4 : FunD K "rim" "Board.rim" (defArgs (mS 4)) (defBody (mS 4)) (defScope (mS 4)) [] [] (f 4) (d 4)
  F5 : FunD K "has_place" "Board.has_place" (defArgs (mS 5)) (defBody (mS 5)) (defScope (mS 5)) [] [] (f 5) (d 5)
  M0 : Mk K C (f 0)
  M2 : Meth K C "places" (f 2)
  M3 : Meth K C "ties" (f 3)
  M4 : Meth K C "rim" (f 4)
  M5 : Meth K C "has_place" (f 5)
  eqA : PySem.W.findIn K (.ref C) "__eq__" = some (some (.ref (f 1)))
  eqF : PySem.W.isFn K (.ref (f 1)) = true
  ne : ∀ (h : Heap) (x : Addr) (o : Obj), K.In h → h.get? x = some o → o.cls = .ref C → h.OwnEqNoNe x C (f 1) "object" [.type "object"]
  P : ErrD K mg 5 "BadPlaces" "index"
  T : ErrD K mg 7 "BadTies" "index"
  R : ErrD K mg 6 "BadRim" "index"
  nf : ∀ T ∈ ["NoneType", "bool", "int", "str", "list", "tuple", "dict"], PySem.W.notFirst K C (.type T) = true
  fNb : Addr
  dNb : FuncData
  FNb : FnS K 25 fNb dNb
  gNb : mg "neighbours" = some (.ref fNb)
/-- names, ties between them, pins among them -/
structure BdOk (pl : List Str) (ts : List Pr) (rm : List Str) : Prop where
  nm : ∀ z ∈ pl, nameB z = true
  tie : ∀ p ∈ ts, p.1 ∈ pl ∧ p.2 ∈ pl
  pin : ∀ z ∈ rm, z ∈ pl
/-- a board: its places, ties and rim; N: where it may lie -/
def BoardAt (N : Addr → Prop) (C : Addr) (H : Hp) (a : Addr) (pl : List Str) (ts : List Pr) (rm : List Str) : Prop :=
  ∃ (dx aP aT aR aN : Addr) (tv : List V) (l : Str → Addr), H a = some (.ins C dx [("_places", .ref aP), ("_ties", .ref aT), ("_rim", .ref aR), ("_near", .ref aN)]) ∧ H aP = some (.lst (pl.map V.str)) ∧ H aT = some (.lst tv) ∧ PrsAt H tv ts ∧
    H aR = some (.lst (rm.map V.str)) ∧ NearAt H aN pl (fun s => sortS (nb ts s)) l ∧ BdOk pl ts rm ∧ (N a ∧ N aP ∧ N aT ∧ N aR ∧ N aN ∧ (∀ s ∈ pl, N (l s)) ∧ ∀ t, V.ref t ∈ tv → N t)
theorem BoardAt.frame {N : Addr → Prop} {C : Addr} {H H' : Hp} {a : Addr} {pl : List Str} {ts : List Pr} {rm : List Str} (b : BoardAt N C H a pl ts rm) (S : ∀ c o, N c → H c = some o → H' c = some o) : BoardAt N C H' a pl ts rm := by
  obtain ⟨dx, aP, aT, aR, aN, tv, l, h1, h2, h3, h4, h5, h6, h7, n1, n2, n3, n4, n5, n6, n7⟩ := b
  refine ⟨dx, aP, aT, aR, aN, tv, l, S _ _ n1 h1, S _ _ n2 h2, S _ _ n3 h3, ⟨h4.1, fun i v q e1 e2 => ?_⟩, S _ _ n4 h5, ⟨S _ _ n5 h6.d, fun s hs => S _ _ (n6 s hs) (h6.at_ s hs), h6.inj⟩, h7, n1, n2, n3, n4, n5, n6, n7⟩
  obtain ⟨t, rfl, ht⟩ := h4.2 i v q e1 e2
  exact ⟨t, rfl, S _ _ (n7 t (List.mem_of_getElem? e1)) ht⟩
theorem BoardAt.same {N : Addr → Prop} {C : Addr} {H H' : Hp} {a : Addr} {pl : List Str} {ts : List Pr} {rm : List Str} (b : BoardAt N C H a pl ts rm) (S : Same H H') : BoardAt N C H' a pl ts rm := b.frame fun c o _ e => S c o e
theorem BoardAt.weak {N N' : Addr → Prop} {C : Addr} {H : Hp} {a : Addr} {pl : List Str} {ts : List Pr} {rm : List Str} (b : BoardAt N C H a pl ts rm) (k : ∀ c, N c → N' c) : BoardAt N' C H a pl ts rm := by
  obtain ⟨dx, aP, aT, aR, aN, tv, l, h1, h2, h3, h4, h5, h6, h7, n1, n2, n3, n4, n5, n6, n7⟩ := b
  exact ⟨dx, aP, aT, aR, aN, tv, l, h1, h2, h3, h4, h5, h6, h7, k _ n1, k _ n2, k _ n3, k _ n4, k _ n5, fun s hs => k _ (n6 s hs), fun t ht => k _ (n7 t ht)⟩
/-- where it is known to lie -/
theorem BoardAt.there {N : Addr → Prop} {C : Addr} {H : Hp} {a : Addr} {pl : List Str} {ts : List Pr} {rm : List Str} (b : BoardAt N C H a pl ts rm) : BoardAt (fun c => N c ∧ ∃ o, H c = some o) C H a pl ts rm := by
  obtain ⟨dx, aP, aT, aR, aN, tv, l, h1, h2, h3, h4, h5, h6, h7, n1, n2, n3, n4, n5, n6, n7⟩ := b
  refine ⟨dx, aP, aT, aR, aN, tv, l, h1, h2, h3, h4, h5, h6, h7, ⟨n1, _, h1⟩, ⟨n2, _, h2⟩, ⟨n3, _, h3⟩, ⟨n4, _, h5⟩, ⟨n5, _, h6.d⟩, fun s hs => ⟨n6 s hs, _, h6.at_ s hs⟩, fun t ht => ⟨n7 t ht, ?_⟩⟩
  obtain ⟨i, hi⟩ := List.getElem?_of_mem ht
  have hl : i < ts.length := by
    rw [← h4.1]
    exact (List.getElem?_eq_some_iff.mp hi).1
  obtain ⟨t', e, ht'⟩ := h4.2 i _ _ hi (List.getElem?_eq_getElem hl)
  cases e
  exact ⟨_, ht'⟩
/-- what Board(p, t, r) does -/
def MadeR {mg : Str → Option Value} (K : PySem.W.Frag) (D : BoardD K mg) (H : Hp) (p t r : V) (nx : List Str → List Pr → List Str → Prop) (E : XK) : Prop :=
  Kn D.C H p ∧ (
    (∃ i : Nat, ((itemsOf H p = none ∧ i = 0) ∨ ∃ xs, itemsOf H p = some xs ∧ xs.length ≤ 1000 ∧ KnAll D.C H xs ∧ ScanR (fun z => nameB z = true) xs (some i)) ∧ Raised H D.P.C "index" (.int i) E) ∨
    ∃ ps : List Str, itemsOf H p = some (ps.map V.str) ∧ ps.length ≤ 1000 ∧ (∀ z ∈ ps, z.length ≤ 1000) ∧ Good (fun z => nameB z = true) ps ∧ Kn D.C H t ∧ (
      (∃ i : Nat, ((itemsOf H t = none ∧ i = 0) ∨ ∃ xs, itemsOf H t = some xs ∧ xs.length ≤ 1000 ∧ KnTies D.C H xs ∧ TieR ps H xs (some i)) ∧ Raised H D.T.C "index" (.int i) E) ∨
      ∃ xs qs, itemsOf H t = some xs ∧ xs.length ≤ 1000 ∧ KnTies D.C H xs ∧ qs.length = xs.length ∧ TiesTo ps H xs qs ∧ Kn D.C H r ∧ (
        (∃ i : Nat, ((itemsOf H r = none ∧ i = 0) ∨ ∃ ys, itemsOf H r = some ys ∧ ys.length ≤ 1000 ∧ KnAll D.C H ys ∧ ScanR (fun z => z ∈ ps) ys (some i)) ∧ Raised H D.R.C "index" (.int i) E) ∨
        ∃ rs : List Str, itemsOf H r = some (rs.map V.str) ∧ rs.length ≤ 1000 ∧ (∀ z ∈ rs, z.length ≤ 1000) ∧ Good (fun z => z ∈ ps) rs ∧ nx ps qs rs)))
def spInit {mg : Str → Option Value} (K : PySem.W.Frag) (D : BoardD K mg) : Sp := fun vs H Q E => ∃ (x dx : Addr) (p t r : V), vs = [.ref x, p, t, r] ∧ H x = some (.ins D.C dx []) ∧
  MadeR K D H p t r (fun ps qs rs => ∀ H', BoardAt (fun b => b = x ∨ H b = none) D.C H' x (sortS ps) (sortPr qs) rs → (∀ b o, b ≠ x → H b = some o → H' b = some o) → Q .non H') E
theorem good_len {ok : Str → Prop} {rs : List Str} (g : Good ok rs) : True := trivial
theorem kn_strs {C : Addr} {H : Hp} {ss : List Str} (h : ∀ z ∈ ss, z.length ≤ 1000) : KnAll C H (ss.map V.str) := fun x hx => by
  obtain ⟨z, hz, rfl⟩ := List.mem_map.mp hx
  exact ⟨.str z, fun y e => by cases e; exact h z hz⟩
theorem scan_none {ok : Str → Prop} {ss : List Str} (g : Good ok ss) : ScanR ok (ss.map V.str) none := ⟨ss, rfl, g⟩
theorem Same.of {H H' : Hp} (h : ∀ b o, H b = some o → H' b = some o) : Same H H' := h
theorem lc_seqQ2 {K : PySem.W.Frag} {a : Addr} {xs : List V} {g : TG} {tt : TT} {te : TE} {vs : List Nat} {σ : L2.St} {H1 : Hp} {Qd : Addr → Hp → Prop} (hq : SqQ K H1 a xs)
    (h : ∀ D, H1 D = none → ∃ Pv : Nat → Hp → Prop, Pv 0 (upd H1 D (.lst [])) ∧ (∀ i H', i ≤ xs.length → Pv i H' → (∀ ys, SqL K H1 a ys → SqL K H' a ys) ∧ ∀ ys, SqT K H1 a ys → SqT K H' a ys) ∧
      (∀ i x H, xs[i]? = some x → Pv i H → g x (wipe σ vs) H fun σ2 H2 => wipe σ2 vs = wipe σ vs ∧ tt σ2 H2 fun b H3 =>
        if b = true then te σ2 H3 fun y H4 => ∃ acc, H4 D = some (.lst acc) ∧ acc.length < sizeLine ∧ Pv (i + 1) (upd H4 D (.lst (acc ++ [y]))) else Pv (i + 1) H3) ∧ ∀ H, Pv xs.length H → Qd D H) :
    (SqL K H1 a xs ∧ ∀ D, H1 D = none → LcW (Itl K a) g tt te vs σ H1 D (Qd D)) ∨ (SqT K H1 a xs ∧ ∀ D, H1 D = none → LcW (Itt K a) g tt te vs σ H1 D (Qd D)) := by
  rcases hq with hq | hq
  · refine .inl ⟨hq, fun D hD => ?_⟩
    obtain ⟨Pv, h0, hl, hs, hd⟩ := h D hD
    exact lc_any xs.length Pv h0 (fun i H' lt p => ⟨xs, xs[i], (hl i H' (Nat.le_of_lt lt) p).1 _ hq, by simp [lt]⟩) (fun H' p => ⟨xs, (hl _ H' (Nat.le_refl _) p).1 _ hq, Nat.le_refl _⟩) (fun i H' v H2 lt p y => by
      obtain ⟨rfl, hz⟩ := y
      exact hs i v H2 (hz xs ((hl i H2 (Nat.le_of_lt lt) p).1 _ hq)) p) hd
  · refine .inr ⟨hq, fun D hD => ?_⟩
    obtain ⟨Pv, h0, hl, hs, hd⟩ := h D hD
    exact lc_any xs.length Pv h0 (fun i H' lt p => ⟨xs, xs[i], (hl i H' (Nat.le_of_lt lt) p).2 _ hq, by simp [lt]⟩) (fun H' p => ⟨xs, (hl _ H' (Nat.le_refl _) p).2 _ hq, Nat.le_refl _⟩) (fun i H' v H2 lt p y => by
      obtain ⟨rfl, hz⟩ := y
      exact hs i v H2 (hz xs ((hl i H2 (Nat.le_of_lt lt) p).2 _ hq)) p) hd
theorem prs_snoc {H : Hp} {vs : List V} {ps : List Pr} {t : Addr} {q : Pr} (h : PrsAt H vs ps) (ht : H t = some (.tup [.str q.1, .str q.2])) : PrsAt H (vs ++ [.ref t]) (ps ++ [q]) := by
  refine ⟨by rw [List.length_append, List.length_append, h.1]; rfl, fun i v p h1 h2 => ?_⟩
  rcases Nat.lt_or_ge i vs.length with l | l
  · rw [List.getElem?_append_left l] at h1
    rw [List.getElem?_append_left (by rw [← h.1]; exact l)] at h2
    exact h.2 i v p h1 h2
  · rw [List.getElem?_append_right l] at h1
    rw [List.getElem?_append_right (by rw [← h.1]; exact l)] at h2
    rw [← h.1] at h2
    cases e : i - vs.length with
    | zero =>
      rw [e] at h1 h2
      cases h1
      cases h2
      exact ⟨t, rfl, ht⟩
    | succ n =>
      rw [e] at h1
      simp at h1
/-- all but x stays -/
def Bx (x : Addr) (H H' : Hp) : Prop := ∀ b o, b ≠ x → H b = some o → H' b = some o
theorem Bx.trans {x : Addr} {H H1 H2 : Hp} (a : Bx x H H1) (b : Bx x H1 H2) : Bx x H H2 := fun c o n e => b c o n (a c o n e)
theorem Bx.same {x : Addr} {H H1 : Hp} (S : Same H H1) : Bx x H H1 := fun c o _ e => S c o e
theorem Bx.free {x : Addr} {H H1 : Hp} {o : HO} (b : Bx x H H1) (hx : H1 x = some o) {c : Addr} (n : H1 c = none) : H c = none := by
  cases e : H c with
  | none => rfl
  | some u =>
    have ne : c ≠ x := fun z => by rw [z, hx] at n; cases n
    rw [b c u ne e] at n
    cases n
theorem Bx.at_ {x : Addr} {H : Hp} {o : HO} : Bx x H (upd H x o) := fun c u n e => by
  rw [upd_ne n]
  exact e
theorem Bx.new {x a : Addr} {H : Hp} {o : HO} (n : H a = none) : Bx x H (upd H a o) := .same (new_same n)
theorem Bx.items {x : Addr} {H H' : Hp} {v : V} {xs : List V} (b : Bx x H H') (hx : itemsOf H (.ref x) = none) (e : itemsOf H v = some xs) : itemsOf H' v = some xs := by
  obtain ⟨a, rfl, h⟩ := items_ref e
  have ne : a ≠ x := fun z => by rw [z, hx] at e; cases e
  exact items_at.mpr (h.elim (fun h => .inl (b _ _ ne h)) fun h => .inr (b _ _ ne h))
theorem Bx.prs {x : Addr} {H H' : Hp} {vs : List V} {ps : List Pr} (b : Bx x H H') (hx : ∀ xs, H x ≠ some (.tup xs)) (h : PrsAt H vs ps) : PrsAt H' vs ps := h.mono fun t xs e => b _ _ (fun z => hx xs (z ▸ e)) e
theorem items_ins {H : Hp} {x C dx : Addr} {fs : List (Str × V)} (h : H x = some (.ins C dx fs)) : itemsOf H (.ref x) = none := by
  show (match H x with
    | some (.lst xs) => some xs
    | some (.tup xs) => some xs
    | _ => none) = none
  rw [h]
abbrev ScanAt (ok : Str → Prop) (C : Addr) (H : Hp) (p : V) (i : Nat) : Prop := (itemsOf H p = none ∧ i = 0) ∨ ∃ xs, itemsOf H p = some xs ∧ xs.length ≤ 1000 ∧ KnAll C H xs ∧ ScanR ok xs (some i)
abbrev TieAt (ks : List Str) (C : Addr) (H : Hp) (p : V) (i : Nat) : Prop := (itemsOf H p = none ∧ i = 0) ∨ ∃ xs, itemsOf H p = some xs ∧ xs.length ≤ 1000 ∧ KnTies C H xs ∧ TieR ks H xs (some i)
theorem fwn_use {ok : Str → Prop} {C : Addr} {H : Hp} {p : V} {i : Nat} {Q : VK} (hc : ScanAt ok C H p i) (k : ∀ H', Same H H' → Q (.int (i : Nat)) H') : ScanW ok C H p Q := by
  rcases hc with ⟨e, rfl⟩ | ⟨xs, e, hl, hK, hs⟩
  · exact .inl ⟨e, k⟩
  · exact .inr ⟨xs, e, hl, hK, fun r H' hr S => by cases scan_uniq hr hs; exact k H' S⟩
theorem fwt_use {C : Addr} {H : Hp} {p : V} {ks : List Str} {i : Nat} {Q : VK} (hc : TieAt ks C H p i) (k : ∀ H', Same H H' → Q (.int (i : Nat)) H') : TieW ks C H p Q := by
  rcases hc with ⟨e, rfl⟩ | ⟨xs, e, hl, hK, hs⟩
  · exact .inl ⟨e, k⟩
  · exact .inr ⟨xs, e, hl, hK, fun r H' hr S => by cases tie_uniq hr hs; exact k H' S⟩
theorem scan_good {C : Addr} {H : Hp} {p : V} {ok : Str → Prop} {ss : List Str} {Q : VK} (e : itemsOf H p = some (ss.map V.str)) (hl : ss.length ≤ 1000) (hz : ∀ z ∈ ss, z.length ≤ 1000) (g : Good ok ss) (k : ∀ H', Same H H' → Q .non H') : ScanW ok C H p Q :=
  .inr ⟨_, e, by rw [List.length_map]; exact hl, kn_strs hz, fun r H' hr S => by cases scan_uniq hr (scan_none g); exact k H' S⟩
theorem tie_good {C : Addr} {H : Hp} {p : V} {ks : List Str} {xs : List V} {qs : List Pr} {Q : VK} (e : itemsOf H p = some xs) (hl : xs.length ≤ 1000) (hK : KnTies C H xs) (lq : qs.length = xs.length) (g : TiesTo ks H xs qs) (k : ∀ H', Same H H' → Q .non H') : TieW ks C H p Q :=
  .inr ⟨_, e, hl, hK, fun r H' hr S => by cases tie_uniq hr (show TieR ks H xs none from ⟨qs, lq, g⟩); exact k H' S⟩
theorem KnTies.same {C : Addr} {H H' : Hp} {xs : List V} (k : KnTies C H xs) (S : Same H H') : KnTies C H' xs := fun x hx => by
  obtain ⟨h1, h2⟩ := k x hx
  refine ⟨(h1.same S).1, fun ys e => ?_⟩
  have q1 := kn_items h1
  have q2 := kn_items (h1.same S).1
  have q3 := (h1.same S).2
  unfold isSeq at q1 q2
  rw [q3, q1, e] at q2
  cases ez : itemsOf H x with
  | none => rw [ez] at q2; cases q2
  | some zs =>
    have := items_same S ez
    rw [e] at this
    cases this
    exact ⟨(h2 _ ez).1, (h2 _ ez).2.same S⟩
theorem tie_back {C : Addr} {ks : List Str} {H H' : Hp} {x : V} {p : Pr} (k : Kn C H x) (S : Same H H') (h : TieOk ks H' x p) : TieOk ks H x p := by
  obtain ⟨a, b, e, h2⟩ := h
  refine ⟨a, b, ?_, h2⟩
  have q1 := kn_items k
  have q2 := kn_items (k.same S).1
  have q3 := (k.same S).2
  unfold isSeq at q1 q2
  rw [q3, q1, e] at q2
  cases ez : itemsOf H x with
  | none => rw [ez] at q2; cases q2
  | some zs =>
    have := items_same S ez
    rw [e] at this
    cases this
    rfl
theorem ties_same {ks : List Str} {H H' : Hp} {xs : List V} {ps : List Pr} (h : TiesTo ks H xs ps) (S : Same H H') : TiesTo ks H' xs ps := ⟨h.nd, h.len, fun j x p h1 h2 => tie_same S (h.ok j x p h1 h2)⟩
theorem none_same {C : Addr} {H H' : Hp} {v : V} (k : Kn C H v) (S : Same H H') (e : itemsOf H v = none) : itemsOf H' v = none := by
  have q1 := kn_items k
  have q2 := kn_items (k.same S).1
  have q3 := (k.same S).2
  unfold isSeq at q1 q2
  rw [q3, q1, e] at q2
  cases ez : itemsOf H' v with
  | none => rfl
  | some zs => rw [ez] at q2; cases q2
theorem tieR_same {C : Addr} {ks : List Str} {H H' : Hp} {xs : List V} {r : Option Nat} (k : KnTies C H xs) (S : Same H H') (h : TieR ks H xs r) : TieR ks H' xs r := by
  cases r with
  | none =>
    obtain ⟨ps, e, g⟩ := h
    exact ⟨ps, e, ties_same g S⟩
  | some i =>
    obtain ⟨ps, y, hy, hl, g, hb⟩ := h
    exact ⟨ps, y, hy, hl, ties_same g S, fun p hp => hb p (tie_back (k y (List.mem_of_getElem? hy)).1 S hp)⟩
section
variable {P : Program} {w : World} {K : PySem.W.Frag} {mg : Str → Option Value} {base : Heap} {C f : Addr} {fd : FuncData}
abbrev N_init : List Str := ["self", "places", "ties", "rim", "index", "tie"]
theorem sc_init : FnScope N_init ["self", "places", "ties", "rim"] (defScope (mS 0)) := ⟨rfl, rfl, rfl, by decide +kernel, rfl, by decide +kernel, by decide +kernel⟩
theorem sc_err2 : FnScope ["self", "index"] ["self", "index"] (defScope (inClass (topS 5) 0)) := ⟨rfl, rfl, rfl, by decide +kernel, rfl, by decide +kernel, by decide +kernel⟩
theorem sc_err3 : FnScope ["self", "index"] ["self", "index"] (defScope (inClass (topS 6) 0)) := ⟨rfl, rfl, rfl, by decide +kernel, rfl, by decide +kernel, by decide +kernel⟩
theorem sc_err4 : FnScope ["self", "index"] ["self", "index"] (defScope (inClass (topS 7) 0)) := ⟨rfl, rfl, rfl, by decide +kernel, rfl, by decide +kernel, by decide +kernel⟩
theorem ok_err2 (D : ErrD K mg 5 "BadPlaces" "index") : FnOk P w K mg base CX0 1 D.f D.fd ["self", "index"] (spI1 D.C "index") := ok_init1 D.F rfl sc_err2 D.T D.no (by decide) (by decide)
theorem ok_err3 (D : ErrD K mg 6 "BadRim" "index") : FnOk P w K mg base CX0 1 D.f D.fd ["self", "index"] (spI1 D.C "index") := ok_init1 D.F rfl sc_err3 D.T D.no (by decide) (by decide)
theorem ok_err4 (D : ErrD K mg 7 "BadTies" "index") : FnOk P w K mg base CX0 1 D.f D.fd ["self", "index"] (spI1 D.C "index") := ok_init1 D.F rfl sc_err4 D.T D.no (by decide) (by decide)
theorem bindsD {x q : Str} {params : Arguments} {body : List Stmt} {scope : Scope} {ps : List Str} (F : FunD K x q params body scope [] [] f fd)
    (h : ∀ (kV doc pm : Value) (an : Option Addr) (cdv ct : Value) (us : List Value), us.length = ps.length → bindArgs (PySem.W.fnOf x q params body scope .none kV doc pm an cdv ct) ⟨us, []⟩ = pure (ps.zip us)) : Binds K fd ps [] := by
  obtain ⟨oc, od, dV, kV, doc, pm, an, cdv, ct, osl, rfl, lk, hcd, hD, hK⟩ := F.ex
  rcases hD with ⟨_, rfl⟩ | ⟨e, _⟩
  · exact Binds.all fun us hl => h kV doc pm an cdv ct us hl
  · exact absurd rfl e
theorem bE2 (D : ErrD K mg 5 "BadPlaces" "index") : Binds K D.fd ["self", "index"] [] := bindsD D.F fun _ _ _ _ _ _ us hl => match us, hl with | [_, _], _ => rfl
theorem bE3 (D : ErrD K mg 6 "BadRim" "index") : Binds K D.fd ["self", "index"] [] := bindsD D.F fun _ _ _ _ _ _ us hl => match us, hl with | [_, _], _ => rfl
theorem bE4 (D : ErrD K mg 7 "BadTies" "index") : Binds K D.fd ["self", "index"] [] := bindsD D.F fun _ _ _ _ _ _ us hl => match us, hl with | [_, _], _ => rfl
theorem bNb (D : BoardD K mg) : Binds K D.dNb ["places", "ties"] [] := D.FNb.binds fun _ _ _ _ _ _ us hl => match us, hl with | [_, _], _ => rfl
theorem ok_init (B : BoardD K mg) (D : NamesD K mg) (T : TxtN K mg) : FnOk P w K mg base (L2.CX P w) 4 (B.f 0) (B.d 0) ["self", "places", "ties", "rim"] (spInit K B) := by
  have GW : FnOk P w K mg base CX0 2 D.fW D.dW ["things"] (spFwn B.C) := ok_fwn D T B.O
  have GU : FnOk P w K mg base CX0 2 D.fU D.dU ["things", "known"] (spFwu K B.C) := ok_fwu D T B.O
  have GX : FnOk P w K mg base CX0 3 D.fX D.dX ["things", "known"] (spFwt K B.C) := ok_fwt D T B.O
  have GT : FnOk P w K mg base CX0 1 D.fT D.dT ["pair"] spTold := ok_told D T
  have GN : FnOk P w K mg base CX0 1 B.fNb B.dNb ["places", "ties"] spNb := ok_nb B.FNb T
  refine B.F0.ok sc_init (fun vs H Q E h => ?_) (fun cdv A outer s H vs Q E hr h => ⟨_, pss_cons (ps_set (i := 4) sc_init.nd rfl (Or.inl rfl) (pe_call GW (hr.mono (by decide)) (by rfl) D.gW D.FW.kp (bW D) .nil pass0 (pa_cons (pv 1) pa_nil)))
    (pss_cons (ps_if (pt_cmpR op_notN (pv 4) pe_non (nomark _)) (pss_one (ps_raise rfl (takes_of rfl rfl rfl rfl) (pmk_oex B.P.T B.P.iC B.P.tI (ok_err2 B.P) (hr.mono (by decide)) (bE2 B.P) .nil pass0 (by rfl) B.P.g (by exact pa_cons (pv 4) pa_nil)))) pss_nil)
    (pss_cons (ps_set (i := 4) sc_init.nd rfl (Or.inl rfl) (pe_call GX hr (by rfl) D.gX D.FX.kp (bX D) .nil pass0 (pa_cons (pv 2) (pa_cons (pv 1) pa_nil))))
    (pss_cons (ps_if (pt_cmpR op_notN (pv 4) pe_non (nomark _)) (pss_one (ps_raise rfl (takes_of rfl rfl rfl rfl) (pmk_oex B.T.T B.T.iC B.T.tI (ok_err4 B.T) (hr.mono (by decide)) (bE4 B.T) .nil pass0 (by rfl) B.T.g (by exact pa_cons (pv 4) pa_nil)))) pss_nil)
    (pss_cons (ps_set (i := 4) sc_init.nd rfl (Or.inl rfl) (pe_call GU (hr.mono (by decide)) (by rfl) D.gU D.FU.kp (bU D) .nil pass0 (pa_cons (pv 3) (pa_cons (pv 1) pa_nil))))
    (pss_cons (ps_if (pt_cmpR op_notN (pv 4) pe_non (nomark _)) (pss_one (ps_raise rfl (takes_of rfl rfl rfl rfl) (pmk_oex B.R.T B.R.iC B.R.tI (ok_err3 B.R) (hr.mono (by decide)) (bE3 B.R) .nil pass0 (by rfl) B.R.g (by exact pa_cons (pv 4) pa_nil)))) pss_nil)
    (pss_cons (ps_fld (pv 0) (pe_callB cr_sortQ (by rfl) T.sorted boot_sorted (pa_cons (pv 1) pa_nil)) (by rfl))
    (pss_cons (ps_fld (pv 0) (pe_callB cr_sortP (by rfl) T.sorted boot_sorted (pa_cons (pe_lc (own := [("tie", 5)]) (tt := tYes) rfl sc_init.nd (pi_seqQ (pv 2)) (blkOk_by (own := [("tie", 5)]) (N := N_init) (sc := defScope (mS 0)) (by decide +kernel)) (fun _ _ _ _ _ => pg_name (i := 5) sc_init.nd rfl (Or.inl rfl)) (fun _ _ _ _ _ => pts_nil) (fun _ _ _ _ _ => pe_call GT (hr.mono (by decide)) (by rfl) D.gT D.FT.kp (bT D) .nil pass0 (pa_cons (pv 5) pa_nil))) pa_nil)) (by rfl))
    (pss_cons (ps_fld (pv 0) (pe_callTy call_list_of (by rfl) T.list PyProof.Rows.boot_list (pa_cons (pv 3) pa_nil)) (by rfl))
    (pss_one (ps_fld (pv 0) (pe_call GN (hr.mono (by decide)) (by rfl) B.gNb B.FNb.kp (bNb B) .nil pass0 (pa_cons (pe_fld (pv 0) rfl) (pa_cons (pe_fld (pv 0) rfl) pa_nil))) (by rfl)))))))))))
    , ?_⟩)
  · obtain ⟨x, dx, p, t, r, rfl, _⟩ := h
    rfl
  · obtain ⟨x, dx, p, t, r, rfl, hx, hkp, h⟩ := h
    refine ⟨_, rfl, p, rfl, hkp, ?_⟩
    rcases h with ⟨i, hc, hR⟩ | ⟨ps, ep, lp, sp, gp, hkt, h⟩
    · refine fwn_use hc fun H1 S1 => ⟨_, rfl, rfl, _, rfl, ?_⟩
      rw [show (!decide (V.int (i : Nat) = V.non)) = true from by rw [decide_eq_false (by intro z; cases z)]; rfl]
      refine iteT ⟨_, rfl, by show 1 ≤ 1000; decide, fun a na => ?_⟩
      exact (hR.mono S1).of na
    refine scan_good ep lp sp gp fun H1 S1 => ⟨_, rfl, rfl, _, rfl, ?_⟩
    refine iteF ?_
    obtain ⟨ap, rfl, _⟩ := items_ref ep
    refine ⟨_, rfl, _, rfl, t, ap, ps, rfl, (hkt.same S1).1, items_Q (items_same S1 ep), ?_⟩
    rcases h with ⟨i, hc, hR⟩ | ⟨xs, qs, et, lt, kt, lq, tq, hkr, h⟩
    · have hc1 : TieAt ps B.C H1 t i := by
        rcases hc with ⟨e, h0⟩ | ⟨xs, e, hl, hK, hs⟩
        · exact .inl ⟨none_same hkt S1 e, h0⟩
        · exact .inr ⟨xs, items_same S1 e, hl, hK.same S1, tieR_same hK S1 hs⟩
      refine fwt_use hc1 fun H2 S2 => ⟨_, rfl, rfl, _, rfl, ?_⟩
      rw [show (!decide (V.int (i : Nat) = V.non)) = true from by rw [decide_eq_false (by intro z; cases z)]; rfl]
      refine iteT ⟨_, rfl, by show 1 ≤ 1000; decide, fun a na => ?_⟩
      exact (hR.mono (S1.trans S2)).of na
    refine tie_good (items_same S1 et) lt (kt.same S1) lq (ties_same tq S1) fun H2 S2 => ⟨_, rfl, rfl, _, rfl, iteF ?_⟩
    have S12 := S1.trans S2
    refine ⟨_, rfl, _, rfl, r, ap, ps, rfl, (hkr.same S12).1, items_Q (items_same S12 ep), ?_⟩
    rcases h with ⟨i, hc, hR⟩ | ⟨rs, er, lr, sr, gr, k⟩
    · have hc1 : ScanAt (fun z => z ∈ ps) B.C H2 r i := by
        rcases hc with ⟨e, h0⟩ | ⟨ys, e, hl, hK, hs⟩
        · exact .inl ⟨none_same hkr S12 e, h0⟩
        · exact .inr ⟨ys, items_same S12 e, hl, hK.same S12, hs⟩
      refine fwn_use hc1 fun H3 S3 => ⟨_, rfl, rfl, _, rfl, ?_⟩
      rw [show (!decide (V.int (i : Nat) = V.non)) = true from by rw [decide_eq_false (by intro z; cases z)]; rfl]
      refine iteT ⟨_, rfl, by show 1 ≤ 1000; decide, fun a na => ?_⟩
      exact (hR.mono (S12.trans S3)).of na
    refine scan_good (items_same S12 er) lr sr gr fun H3 S3 => ⟨_, rfl, rfl, _, rfl, iteF ?_⟩
    have S := S12.trans S3
    refine ⟨_, rfl, ap, ps, rfl, items_Q (K := K) (items_same S ep), fun q1 n1 => ⟨_, rfl, x, B.C, dx, [], rfl, ?_, B.O.cl, B.noP, by show 0 < 1000; decide, ?_⟩⟩
    · rw [upd_ne (ne_of_none (S _ _ hx) n1)]
      exact S _ _ hx
    have ix : itemsOf H (.ref x) = none := items_ins hx
    have x3 : x ≠ q1 := ne_of_none (S _ _ hx) n1
    have B1 : Bx x H (upd (upd H3 q1 (.lst ((sortS ps).map V.str))) x (.ins B.C dx [("_places", .ref q1)])) := ((Bx.same S).trans (Bx.new n1)).trans Bx.at_
    obtain ⟨at_, rfl, _⟩ := items_ref et
    refine ⟨_, rfl, at_, xs, rfl, lc_seqQ2 (items_Q (K := K) (B1.items ix et)) fun D hD => ⟨fun i H' => ∃ acc, H' D = some (.lst acc) ∧ acc.length = i ∧ PrsAt H' acc (qs.take i) ∧ (∀ t, V.ref t ∈ acc → H t = none) ∧ Same (upd (upd H3 q1 (.lst ((sortS ps).map V.str))) x (.ins B.C dx [("_places", .ref q1)])) H',
      ⟨[], upd_same, rfl, PrsAt.nil, fun t ht => (by cases ht), new_same hD⟩, fun i H' _ ⟨_, _, _, _, _, S'⟩ => same_LT S', ?_, ?_⟩⟩
    · rintro i y H' hy ⟨acc, hacc, la, pa, fa, S'⟩
      have hiq : i < qs.length := by
        rw [lq]
        exact (List.getElem?_eq_some_iff.mp hy).1
      have eq : qs[i]? = some qs[i] := List.getElem?_eq_getElem hiq
      obtain ⟨a1, b1, e1, _, _, _, e2⟩ := tq.ok i y _ hy eq
      refine ⟨rfl, yes_of ⟨_, rfl, y, a1, b1, rfl, items_same S' (B1.items ix e1), fun t2 H4 nt2 ht2 S4 => ⟨acc, S4 _ _ hacc, ?_, acc ++ [.ref t2], upd_same, ?_, ?_, ?_, ?_⟩⟩⟩
      · exact small1000 (by omega)
      · rw [List.length_append, la]; rfl
      · rw [take_snoc eq]
        rw [e2] at ht2
        refine (prs_snoc (pa.mono fun t xs e => S4 _ _ e) ht2).mono fun t xs e => ?_
        rw [upd_ne (ne_of e (S4 _ _ hacc) (fun z => by cases z))]
        exact e
      · intro t ht
        rcases List.mem_append.mp ht with ht | ht
        · exact fa t ht
        · cases List.mem_singleton.mp ht
          exact B1.free (o := .ins B.C dx [("_places", .ref q1)]) upd_same (S'.free nt2)
      · exact fun b o e => by
          rw [upd_ne (ne_of_none e hD)]
          exact S4 _ _ (S' _ _ e)
    · rintro H4 ⟨acc, hacc, la, pa, fa, S4⟩
      rw [← lq, List.take_length] at pa
      refine ⟨D, acc, qs, rfl, SqL.of hacc, pa, fun q2 ys n2 pyy hy => ⟨_, rfl, x, B.C, dx, [("_places", .ref q1)], rfl, ?_, B.O.cl, B.noT, by show 1 < 1000; decide, ?_⟩⟩
      · exact new_same n2 _ _ (S4 _ _ upd_same)
      have e1 : putF "_ties" (.ref q2) [("_places", .ref q1)] = [(("_places" : Str), V.ref q1), ("_ties", .ref q2)] := rfl
      have e2 : ∀ q3, putF "_rim" (.ref q3) [("_places", .ref q1), ("_ties", .ref q2)] = [(("_places" : Str), V.ref q1), ("_ties", .ref q2), ("_rim", .ref q3)] := fun _ => rfl
      have e3 : ∀ q3 q4, putF "_near" (.ref q4) [("_places", .ref q1), ("_ties", .ref q2), ("_rim", .ref q3)] = [(("_places" : Str), V.ref q1), ("_ties", .ref q2), ("_rim", .ref q3), ("_near", .ref q4)] := fun _ _ => rfl
      obtain ⟨ar, rfl, _⟩ := items_ref er
      have x4 : H4 x = some (.ins B.C dx [("_places", .ref q1)]) := S4 _ _ upd_same
      have xq2 : x ≠ q2 := ne_of_none x4 n2
      have B5 : Bx x H (upd (upd H4 q2 (.lst ys)) x (.ins B.C dx (putF "_ties" (.ref q2) [("_places", .ref q1)]))) := ((B1.trans (Bx.same S4)).trans (Bx.new n2)).trans Bx.at_
      rw [e1] at B5 ⊢
      refine ⟨_, rfl, ar, _, rfl, items_Q (K := K) (B5.items ix er), fun q3 n3 => ⟨_, rfl, x, B.C, dx, _, rfl, new_same n3 _ _ upd_same, B.O.cl, B.noR, by show 2 < 1000; decide, ?_⟩⟩
      rw [e2]
      have xq3 : x ≠ q3 := ne_of_none upd_same n3
      have h1 : ∀ (H' : Hp), Bx x (upd (upd H3 q1 (.lst ((sortS ps).map V.str))) x (.ins B.C dx [("_places", .ref q1)])) H' → H' q1 = some (.lst ((sortS ps).map V.str)) := fun H' b => b _ _ x3.symm (by rw [upd_ne x3.symm]; exact upd_same)
      have B45 : Bx x (upd (upd H3 q1 (.lst ((sortS ps).map V.str))) x (.ins B.C dx [("_places", .ref q1)])) (upd (upd H4 q2 (.lst ys)) x (.ins B.C dx [("_places", .ref q1), ("_ties", .ref q2)])) := ((Bx.same S4).trans (Bx.new n2)).trans Bx.at_
      have B56 : Bx x (upd (upd H4 q2 (.lst ys)) x (.ins B.C dx [("_places", .ref q1), ("_ties", .ref q2)])) (upd (upd (upd (upd H4 q2 (.lst ys)) x (.ins B.C dx [("_places", .ref q1), ("_ties", .ref q2)])) q3 (.lst (rs.map V.str))) x (.ins B.C dx [("_places", .ref q1), ("_ties", .ref q2), ("_rim", .ref q3)])) := (Bx.new n3).trans Bx.at_
      have hq1 := h1 _ (B45.trans B56)
      have hq2 := B56 q2 _ xq2.symm (show (upd (upd H4 q2 (.lst ys)) x (.ins B.C dx [("_places", .ref q1), ("_ties", .ref q2)])) q2 = some (.lst ys) from by rw [upd_ne xq2.symm]; exact upd_same)
      have nx4 : ∀ ws, H4 x ≠ some (.tup ws) := fun ws z => by rw [x4] at z; cases z
      have py6 : PrsAt _ ys (sortPr qs) := Bx.prs (((Bx.new n2).trans Bx.at_).trans B56) nx4 hy
      have hq3 : (upd (upd (upd (upd H4 q2 (.lst ys)) x (.ins B.C dx [("_places", .ref q1), ("_ties", .ref q2)])) q3 (.lst (rs.map V.str))) x (.ins B.C dx [("_places", .ref q1), ("_ties", .ref q2), ("_rim", .ref q3)])) q3 = some (.lst (rs.map V.str)) := by
        rw [upd_ne xq3.symm]
        exact upd_same
      have inp : ∀ p ∈ sortPr qs, p.1 ∈ sortS ps ∧ p.2 ∈ sortS ps := fun p hp => by
        obtain ⟨j, hj⟩ := List.getElem?_of_mem (sortPr_mem.mp hp)
        have hjx : j < xs.length := by
          rw [← lq]
          exact (List.getElem?_eq_some_iff.mp hj).1
        obtain ⟨a1, b1, _, _, m1, m2, rfl⟩ := tq.ok j _ p (List.getElem?_eq_getElem hjx) hj
        unfold tp
        split
        · exact ⟨sortS_mem.mpr m2, sortS_mem.mpr m1⟩
        · exact ⟨sortS_mem.mpr m1, sortS_mem.mpr m2⟩
      refine ⟨_, rfl, x, B.C, dx, _, _, rfl, upd_same, B.O.cl, B.noP, rfl, _, rfl, x, B.C, dx, _, _, rfl, upd_same, B.O.cl, B.noT, rfl, ?_⟩
      refine ⟨q1, q2, sortS ps, ys, sortPr qs, rfl, hq1, hq2, py6, (sortS_perm ps).nodup_iff.mpr gp.nd, by rw [sortS_len]; exact lp, by rw [sortPr_len]; omega, inp, fun q4 l H7 N7 n4 nl S7 => ?_⟩
      refine ⟨_, rfl, x, B.C, dx, _, rfl, S7 _ _ upd_same, B.O.cl, B.noN, by show 3 < 1000; decide, ?_⟩
      rw [e3]
      have B7 : Bx x H (upd H7 x (.ins B.C dx [("_places", .ref q1), ("_ties", .ref q2), ("_rim", .ref q3), ("_near", .ref q4)])) := ((B5.trans B56).trans (Bx.same S7)).trans Bx.at_
      have K7 : Bx x H7 (upd H7 x (.ins B.C dx [("_places", .ref q1), ("_ties", .ref q2), ("_rim", .ref q3), ("_near", .ref q4)])) := Bx.at_
      have x7 : H7 x = some (.ins B.C dx [("_places", .ref q1), ("_ties", .ref q2), ("_rim", .ref q3)]) := S7 _ _ upd_same
      refine k _ ⟨dx, q1, q2, q3, q4, ys, l, upd_same, K7 _ _ x3.symm (S7 _ _ hq1), K7 _ _ xq2.symm (S7 _ _ hq2), Bx.prs K7 (fun ws z => by rw [x7] at z; cases z) (py6.mono fun t ws e => S7 _ _ e), K7 _ _ xq3.symm (S7 _ _ hq3), ?_, ⟨fun z hz => gp.all z (sortS_mem.mp hz), inp, fun z hz => sortS_mem.mpr (gr.all z hz)⟩, .inl rfl, .inr (S.free n1), .inr ((B1.trans (Bx.same S4)).free x4 n2), .inr (B5.free upd_same n3), .inr ((B5.trans B56).free upd_same n4), fun s hs => .inr ((B5.trans B56).free upd_same (nl s hs)), fun t ht => .inr (fa t (pyy.mem_iff.mp ht))⟩ B7
      have nel : ∀ {b : Addr} {o : HO}, H7 b = some o → (∀ f, o ≠ .ins B.C dx f) → b ≠ x := fun e f z => by
        rw [z, x7] at e
        cases e
        exact f _ rfl
      exact ⟨K7 _ _ (nel N7.d (fun f z => by cases z)) N7.d, fun s hs => K7 _ _ (nel (N7.at_ s hs) (fun f z => by cases z)) (N7.at_ s hs), N7.inj⟩
end
end E1

set_option Elab.async false
set_option linter.all false
set_option maxRecDepth 100000
set_option maxHeartbeats 4000000
/-! == and != where the left one has an __eq__ of its own; making and asking by keywords alone. -/
namespace E1
open PySem PySem.Spec PyProof.Rows L2 G0
def knTys : List String := ["NoneType", "bool", "int", "str", "list", "tuple", "dict"]
section
variable {X : Cx} {pins : List (Addr × Obj)} {σ : L2.St} {H : Hp} {s : Shared} {C : Addr}
theorem ty_at {M : Model} {h : Heap} {a : Addr} {o : Obj} (e : h.get? a = some o) : PySem.W.Looks M h (typeOf (.ref a)) o.cls := (PySem.W.Looks.ld e).andThen .now
theorem kn_type {M : Model} {v : V} {u : Value} (I : Inv X pins σ H s) (k : Kn C H v) (r : RelV v u) (nf : ∀ T ∈ knTys, PySem.W.notFirst X.K C (.type T) = true) : ∃ tb, PySem.W.Looks M s.heap (typeOf u) tb ∧ PySem.W.notFirst X.K C tb = true := by
  cases k with
  | non => cases (show u = Value.none from r); exact ⟨_, .of_pure rfl, nf "NoneType" (by decide)⟩
  | bl b => cases (show u = Value.bool b from r); exact ⟨_, .of_pure rfl, nf "bool" (by decide)⟩
  | int i => obtain ⟨t, e⟩ := (show ∃ t, u = Value.int i t from r); cases e; exact ⟨_, .of_pure rfl, nf "int" (by decide)⟩
  | str x => obtain ⟨t, e⟩ := (show ∃ t, u = Value.str x t from r); cases e; exact ⟨_, .of_pure rfl, nf "str" (by decide)⟩
  | @lst a xs e =>
    cases (show u = Value.ref a from r)
    obtain ⟨_, _, n, _, h1⟩ := (show ObjOk X.prog X.w H s.heap a (.lst xs) from I.hok a _ e)
    exact ⟨_, ty_at h1, nf "list" (by decide)⟩
  | @tup a xs e =>
    cases (show u = Value.ref a from r)
    obtain ⟨_, _, _, p⟩ := (show ObjOk X.prog X.w H s.heap a (.tup xs) from I.hok a _ e)
    obtain ⟨o, h1, h2, _⟩ := p
    exact ⟨_, ty_at h1, by rw [h2]; exact nf "tuple" (by decide)⟩
  | @dic a kvs e =>
    cases (show u = Value.ref a from r)
    obtain ⟨_, _, vs, _, p⟩ := (show ObjOk X.prog X.w H s.heap a (.dK kvs) from I.hok a _ e)
    obtain ⟨o, es, ep, h1, h2, _⟩ := p
    exact ⟨_, ty_at h1, by rw [h2.1]; exact nf "dict" (by decide)⟩
  | @own a dx fs e =>
    cases (show u = Value.ref a from r)
    obtain ⟨mA, J, _⟩ := ins_get I.hok e
    obtain ⟨od, J, _⟩ := J.look
    exact ⟨_, J.type, by simp [PySem.W.notFirst]⟩
end
section
variable {X : Cx} {CX : CXT} {n : Nat} {C f : Addr} {fd : FuncData} {ps : List Str} {sp : Sp} {E : XK}
/-- x == y, x of the class at C -/
def rBEq (C : Addr) (sp : Sp) (E : XK) : R2 := fun x y H Q => ∃ a dx fs, x = .ref a ∧ H a = some (.ins C dx fs) ∧ Kn C H y ∧ sp [x, y] H Q E
theorem op_beq (F : FnOk X.prog X.w X.K X.mg X.base CX n f fd ps sp) (hr : Room n X.A) (hs : PySem.W.findIn X.K (.ref C) "__eq__" = some (some (.ref f))) (hf : PySem.W.isFn X.K (.ref f) = true) (hb : Binds X.K fd ps []) (hx : Passes CX X E)
    (nf : ∀ T ∈ knTys, PySem.W.notFirst X.K C (.type T) = true) : OpR X (compareOp .Eq) (rBEq C sp E) := by
  intro pins s σ H x y v u Q I rx ry h
  obtain ⟨a, dx, fs, rfl, ha, kn, q⟩ := h
  cases (show v = Value.ref a from rx)
  obtain ⟨mA, J, _⟩ := ins_get I.hok ha
  obtain ⟨od, J, _⟩ := J.look
  obtain ⟨tb, L, hn⟩ := kn_type (M := model X.prog X.w) I kn ry nf
  obtain ⟨m, hF⟩ := I.fr
  show wpAny _ _ (richCompare .Eq (.ref a) u) _ _ _
  refine PySem.W.cmp_K (op := .Eq) (tb := tb) hr.units0 hF I.ok.mod.kin J L hn hs hf ?_
  refine wpAny_mono (run_fn (us := [.ref a, u]) (vs := [.ref a, y]) (ds := []) (dvs := []) F hr hb .nil hx I (.cons rfl (.cons ry .nil)) q) (fun w s' z => ?_) fun _ _ x => x
  obtain ⟨z', H', I', rz, qz⟩ := z
  exact SlX.cmpback rz ⟨z', H', I', rz, qz⟩
/-- x != y, x of the class at C, which has no __ne__ of its own -/
def rBNe (C : Addr) (sp : Sp) (E : XK) : R2 := fun x y H Q => ∃ a dx fs b, x = .ref a ∧ y = .ref b ∧ H a = some (.ins C dx fs) ∧ Kn C H y ∧ sp [x, y] H (fun z H' => ∃ r, z = .bl r ∧ Q (.bl (!r)) H') E
theorem op_bne (F : FnOk X.prog X.w X.K X.mg X.base CX n f fd ps sp) (hr : Room (n + 1) X.A) (hb : Binds X.K fd ps []) (hx : Passes CX X E)
    (hne : ∀ (h : Heap) (x : Addr) (o : Obj), X.K.In h → h.get? x = some o → o.cls = .ref C → h.OwnEqNoNe x C f "object" [.type "object"])
    (nf : ∀ T ∈ knTys, PySem.W.notFirst X.K C (.type T) = true) : OpR X (compareOp .NotEq) (rBNe C sp E) := by
  intro pins s σ H x y v u Q I rx ry h
  obtain ⟨a, dx, fs, b, rfl, rfl, ha, kn, q⟩ := h
  cases (show v = Value.ref a from rx)
  cases (show u = Value.ref b from ry)
  obtain ⟨mA, J0, _⟩ := ins_get I.hok ha
  obtain ⟨od, J, _⟩ := J0.look
  obtain ⟨tb, L, hn⟩ := kn_type (M := model X.prog X.w) I kn ry nf
  obtain ⟨m, hF⟩ := I.fr
  have XE := hne s.heap a _ I.kIn J0.obj rfl
  have hu : X.A.units < cLine := hr.units0
  have hu1 : X.A.units + 1 < cLine := by
    have := (show Room n X.A.in1 from hr.in1).units0
    exact this
  have one : wpAny (model X.prog X.w) X.A (tryCompare (.ref a) "__ne__" (.ref b)) (fun r s' => ∃ w, r = some w ∧ EP X pins σ Q w s') X.xe s := by
    refine tryCompare_ne_ownEq PySem.F.cmp_object XE hu1 ?_
    have hl := F.len _ _ _ _ q
    refine wpAny_call (codeAny_mono (F.run X.A.in1 X.stack s H ⟨[.ref a, .ref b], []⟩ [.ref a, .ref b] [.ref a, .ref b] _ E hr.in1 I.env0.in1 (by
      have := hb s [.ref a, .ref b] I.kIn (by simpa using hl)
      simpa using this) (.cons rfl (.cons rfl .nil)) q) fun r s' hq => ?_)
    cases r with
    | error e => exact hx pins σ H s e s' I hq
    | ok fl =>
      cases fl with
      | ret w =>
        obtain ⟨z, H', I', rz, r, ez, qz⟩ := I.after hq
        subst ez
        cases (show w = Value.bool r from rz)
        exact ⟨r, rfl, _, rfl, .bl (!r), H', I', rfl, qz⟩
      | next => exact False.elim hq
      | brk => exact False.elim hq
      | cont => exact False.elim hq
  show wpAny _ _ (richCompare .NotEq (.ref a) (.ref b)) _ _ _
  unfold richCompare
  simp only [oneThing_ref]
  refine wpAny_holding (wpAny_bind (wpAny_cRoomFor hu ?_))
  refine wpAny_bind (J.type.here (wpAny_bind (L.here ?_)))
  split
  · rename_i q'
    have e : PySem.W.subIn X.K tb (.ref C) = some false := by
      rcases Bool.or_eq_true_iff.mp hn with e | e
      · rw [beq_iff_eq.mp e] at q'; simp at q'
      · exact beq_iff_eq.mp e
    refine wpAny_bind ((PySem.W.looks_subIn I.kIn e).here ?_)
    simp only [Bool.false_eq_true, if_false]
    refine wpAny_bind (wpAny_mono one (fun r s' z => ?_) fun _ _ e => e)
    obtain ⟨v, rfl, hq⟩ := z
    exact wpAny_pure hq
  · refine wpAny_bind (wpAny_pure ?_)
    simp only [Bool.false_eq_true, if_false]
    refine wpAny_bind (wpAny_mono one (fun r s' z => ?_) fun _ _ e => e)
    obtain ⟨v, rfl, hq⟩ := z
    exact wpAny_pure hq
end
section
variable {X : Cx} {CX : CXT} {k n : Nat} {f C : Addr} {fd : FuncData} {ps ks : List Str} {sp : Sp} {E : XK} {x m : Str} {p pos apos : Pos} {o : Expr} {kws : List Keyword} {ta : TE} {tk : TA} {g : List Value → List Value → List Value} {gV : List V → List V → List V}
/-- C(k = v, ..) -/
theorem pe_make0K (M : Mk X.K C f) (F : FnOk X.prog X.w X.K X.mg X.base CX k f fd ps sp) (hr : Room (k + 1) X.A) (hg : Gl X x) (hm : X.mg x = some (.ref C)) (hb : KBn X.K fd ps 1 ks g gV) (hx : Passes CX X E)
    (hkw : PK X kws tk) (hall : (backToKw pos (keywordEach kws X.env)).all (·.1.isSome) = true := by rfl) (hks : (backToKw pos (keywordEach kws X.env)).filterMap (·.1) = ks := by rfl)
    (hdb : (x == ("__debug__" : Str)) = false := by decide)
    (hpl : ((backTo pos (starEach [] X.env)).any (·.1) || (backToKw pos (keywordEach kws X.env)).any (·.1.isNone)) = false := by rfl) :
    PE X (.Call (.Name x p) [] kws pos) (tMakeN C 0 ks.length sp gV E tNil tk) := by
  refine ⟨fun pins s σ H Q I h => ?_⟩
  refine wpAny_Call_Name_kw (ld_glob I hg hm ?_ hdb)
  refine PySem.W.callWith_KW0 (h₀ := X.base) I.ok.mod.kin M.kp hall ?_ hpl
  refine thn (hkw.run pos pins s σ H _ I h) fun ws s2 ⟨zs, H2, I2, rz, l1, l2, q2⟩ => ⟨I2.kIn, ?_⟩
  rw [hks]
  exact run_makeN (n := 0) (us := []) (vs := []) M F hr hb hx I2 .nil rz rfl l2 q2
/-- o.m(k = v, ..) of an instance of the class at C -/
def tMethK (C : Addr) (m : Str) (sp : Sp) (gV : List V → List V → List V) (E : XK) (ta : TE) (tk : TA) : TE := fun σ H Q => ta σ H fun x H1 => ∃ a dx fs, x = .ref a ∧ H1 a = some (.ins C dx fs) ∧ fs.lookup m = none ∧
  tk σ H1 fun zs H2 => sp (gV [x] zs) H2 Q E
theorem pe_methK0 {pl : Sem Bool} (he : PE X o ta) (c : Cls X.K C) (hm : Meth X.K C m f) (F : FnOk X.prog X.w X.K X.mg X.base CX k f fd ps sp) (hr : Room k X.A) (hb : KBinds X.K fd ps ks g gV) (hx : Passes CX X E)
    (hkw : PK X kws tk) (hall : (backToKw pos (keywordEach kws X.env)).all (·.1.isSome) = true := by rfl) (hks : (backToKw pos (keywordEach kws X.env)).filterMap (·.1) = ks := by rfl)
    (hpl : ((backTo pos (starEach [] X.env)).any (·.1) || (backToKw pos (keywordEach kws X.env)).any (·.1.isNone)) = false := by rfl)
    (ht : eval (.Call (.Attribute o m apos) [] kws pos) X.env = (do
      let ov ← eval o X.env
      standAt apos.atName
      let (f, first) ← holding [ov] (getMethod ov m pl)
      callWith pos f first (backTo pos (starEach [] X.env)) (backToKw pos (keywordEach kws X.env))) := by rfl) :
    PE X (.Call (.Attribute o m apos) [] kws pos) (tMethK C m sp gV E ta tk) := by
  refine ⟨fun pins s σ H Q I h => ?_⟩
  refine PySem.W.methodCall_KW (pl := pl) (thn (he.run pins s σ H _ I h) fun u s1 ⟨x, H1, I1, rx, a, dx, fs, ex, ea, l, q⟩ => ?_) ht
  subst ex
  obtain rfl : u = Value.ref a := rx
  refine getmeth_ok I1 ea c hm l ?_
  refine PySem.W.callWith_KW0 (first := [.ref a]) (h₀ := X.base) I1.ok.mod.kin hm.kp hall ?_ hpl
  refine thn (hkw.run pos pins s1 σ H1 _ I1 q) fun ws s2 ⟨zs, H2, I2, rz, q2⟩ => ⟨I2.kIn, ?_⟩
  rw [hks]
  exact run_fnk (us := [.ref a]) (vs := [.ref a]) F hr hb hx I2 (.cons rfl .nil) rz q2
end
end E1

set_option Elab.async false
set_option linter.all false
set_option maxRecDepth 100000
set_option maxHeartbeats 4000000
/-! boards.py: what a board tells. -/
namespace E1
open PySem PySem.Spec PyProof.Rows L2 G0
/-! ### lists of names, lists of ties, as data -/
def strD (ss : List Str) : PyData := .list (ss.map PyData.str)
def prD1 (p : Pr) : PyData := .tuple [.str p.1, .str p.2]
def prsD (ps : List Pr) : PyData := .list (ps.map prD1)
theorem dpS {K : PySem.W.Frag} {H : Hp} : ∀ ss : List Str, DpAll K H (ss.map V.str) (ss.map PyData.str)
  | [] => .nil
  | s :: ss => .cons (.str s) (dpS ss)
theorem dp_strs {K : PySem.W.Frag} {H : Hp} {a : Addr} {ss : List Str} (h : H a = some (.lst (ss.map V.str))) : Dp K H (.ref a) (strD ss) := .lst (SqL.of h) (dpS ss)
theorem dpP {K : PySem.W.Frag} {H : Hp} : ∀ {vs : List V} {ps : List Pr}, PrsAt H vs ps → DpAll K H vs (ps.map prD1)
  | [], [], _ => .nil
  | [], _ :: _, h => by cases h.1
  | _ :: _, [], h => by cases h.1
  | v :: vs, p :: ps, h => by
    obtain ⟨⟨t, rfl, ht⟩, r⟩ := h.inv
    exact .cons (.tup (SqT.of ht) (.cons (.str _) (.cons (.str _) .nil))) (dpP r)
theorem dp_prs {K : PySem.W.Frag} {H : Hp} {a : Addr} {vs : List V} {ps : List Pr} (h : H a = some (.lst vs)) (hp : PrsAt H vs ps) : Dp K H (.ref a) (prsD ps) := .lst (SqL.of h) (dpP hp)
theorem signs_ok : ∀ c ∈ signsS.cps.toList, c < 1114112 := by decide +kernel
theorem name_ok {z : Str} (h : nameB z = true) : PyData.strOk z = true := by
  unfold nameB at h
  simp only [Bool.and_eq_true] at h
  have h2 := h.2.2.2
  show z.cps.all (· < 0x110000) = true
  rw [← Array.all_toList, List.all_eq_true]
  intro c hc
  exact decide_eq_true (signs_ok c (of_decide_eq_true (List.all_eq_true.mp h2 c hc)))
theorem lays : ∀ ss : List Str, (∀ z ∈ ss, PyData.strOk z = true) → PyData.canLayAll0 (ss.map PyData.str) = true ∧ PyData.depthAll (ss.map PyData.str) ≤ 1
  | [], _ => ⟨by simp [PyData.canLayAll0], by simp [PyData.depthAll]⟩
  | s :: ss, h => ⟨by simp [PyData.canLayAll0, PyData.canLay0, (lays ss fun z hz => h z (List.mem_cons_of_mem _ hz)).1, h s List.mem_cons_self], by
    have := (lays ss fun z hz => h z (List.mem_cons_of_mem _ hz)).2
    simp only [List.map_cons, PyData.depthAll, PyData.depth]
    omega⟩
theorem layp : ∀ ps : List Pr, (∀ p ∈ ps, PyData.strOk p.1 = true ∧ PyData.strOk p.2 = true) → PyData.canLayAll0 (ps.map prD1) = true ∧ PyData.depthAll (ps.map prD1) ≤ 2
  | [], _ => ⟨by simp [PyData.canLayAll0], by simp [PyData.depthAll]⟩
  | p :: ps, h => ⟨by simp [prD1, PyData.canLayAll0, PyData.canLay0, (layp ps fun z hz => h z (List.mem_cons_of_mem _ hz)).1, (h p List.mem_cons_self).1, (h p List.mem_cons_self).2], by
    have := (layp ps fun z hz => h z (List.mem_cons_of_mem _ hz)).2
    simp only [List.map_cons, prD1, PyData.depthAll, PyData.depth] at this ⊢
    omega⟩
theorem shS {ss : List Str} (hs : ∀ z ∈ ss, PyData.strOk z = true) : SeqAt.shaped (strD ss) = true := by
  have h := lays ss hs
  show ((strD ss).canLay0 && decide ((strD ss).depth ≤ 64)) = true
  rw [Bool.and_eq_true]
  refine ⟨by simp only [strD, PyData.canLay0]; exact h.1, decide_eq_true ?_⟩
  simp only [strD, PyData.depth]
  omega
theorem shP {ps : List Pr} (hs : ∀ p ∈ ps, PyData.strOk p.1 = true ∧ PyData.strOk p.2 = true) : SeqAt.shaped (prsD ps) = true := by
  have h := layp ps hs
  show ((prsD ps).canLay0 && decide ((prsD ps).depth ≤ 64)) = true
  rw [Bool.and_eq_true]
  refine ⟨by simp only [prsD, PyData.canLay0]; exact h.1, decide_eq_true ?_⟩
  simp only [prsD, PyData.depth]
  omega
theorem BdOk.shP {pl : List Str} {ts : List Pr} {rm : List Str} (b : BdOk pl ts rm) : SeqAt.shaped (strD pl) = true := shS fun z hz => name_ok (b.nm z hz)
theorem BdOk.shR {pl : List Str} {ts : List Pr} {rm : List Str} (b : BdOk pl ts rm) : SeqAt.shaped (strD rm) = true := shS fun z hz => name_ok (b.nm z (b.pin z hz))
theorem BdOk.shT {pl : List Str} {ts : List Pr} {rm : List Str} (b : BdOk pl ts rm) : SeqAt.shaped (prsD ts) = true := E1.shP fun p hp => ⟨name_ok (b.nm _ (b.tie p hp).1), name_ok (b.nm _ (b.tie p hp).2)⟩
theorem strBeq (x y : Str) : (x == y) = decide (x = y) := by
  by_cases h : x = y
  · rw [h, decide_eq_true rfl, beq_self_eq_true]
  · rw [decide_eq_false h]
    exact beq_eq_false_iff_ne.mpr h
theorem dec_cons {α : Type} [DecidableEq α] (x y : α) (xs ys : List α) : (decide (x = y) && decide (xs = ys)) = decide (x :: xs = y :: ys) := by
  by_cases h : x = y
  · by_cases h2 : xs = ys
    · simp [h, h2]
    · simp [h, h2]
  · simp [h]
theorem eqvS : ∀ xs ys : List Str, PyData.eqvAll (xs.map PyData.str) (ys.map PyData.str) = decide (xs = ys)
  | [], [] => by simp [PyData.eqvAll]
  | [], _ :: _ => by simp [PyData.eqvAll]
  | _ :: _, [] => by simp [PyData.eqvAll]
  | x :: xs, y :: ys => by
    simp only [List.map_cons, PyData.eqvAll, PyData.eqv]
    rw [eqvS xs ys, strBeq, dec_cons]
theorem eqv_strs (xs ys : List Str) : PyData.eqv (strD xs) (strD ys) = decide (xs = ys) := by
  simp only [strD, PyData.eqv]
  exact eqvS xs ys
theorem eqv_pr (p q : Pr) : PyData.eqv (prD1 p) (prD1 q) = decide (p = q) := by
  simp only [prD1, PyData.eqv, PyData.eqvAll, strBeq, Bool.and_true]
  obtain ⟨a, b⟩ := p
  obtain ⟨c, d⟩ := q
  by_cases h : a = c
  · by_cases h2 : b = d
    · simp [h, h2]
    · simp [h, h2]
  · simp [h]
theorem eqvP : ∀ xs ys : List Pr, PyData.eqvAll (xs.map prD1) (ys.map prD1) = decide (xs = ys)
  | [], [] => by simp [PyData.eqvAll]
  | [], _ :: _ => by simp [PyData.eqvAll]
  | _ :: _, [] => by simp [PyData.eqvAll]
  | x :: xs, y :: ys => by
    simp only [List.map_cons, PyData.eqvAll]
    rw [eqvP xs ys, eqv_pr, dec_cons]
theorem eqv_prs (xs ys : List Pr) : PyData.eqv (prsD xs) (prsD ys) = decide (xs = ys) := by
  simp only [prsD, PyData.eqv]
  exact eqvP xs ys
/-! ### the methods -/
def spPlaces (C : Addr) : Sp := fun vs H Q _ => ∃ x pl ts rm, vs = [.ref x] ∧ BoardAt (fun _ => True) C H x pl ts rm ∧ ∀ l, H l = none → Q (.ref l) (upd H l (.lst (pl.map V.str)))
def spTies (C : Addr) : Sp := fun vs H Q _ => ∃ x pl ts rm, vs = [.ref x] ∧ BoardAt (fun _ => True) C H x pl ts rm ∧ ∀ l tv, H l = none → PrsAt H tv ts → Q (.ref l) (upd H l (.lst tv))
def spRim (C : Addr) : Sp := fun vs H Q _ => ∃ x pl ts rm, vs = [.ref x] ∧ BoardAt (fun _ => True) C H x pl ts rm ∧ ∀ l, H l = none → Q (.ref l) (upd H l (.lst (rm.map V.str)))
/-- a text of the list -/
def inB (pl : List Str) : V → Bool
  | .str z => decide (z ∈ pl)
  | _ => false
def spHas (C : Addr) : Sp := fun vs H Q _ => ∃ x v pl ts rm, vs = [.ref x, v] ∧ BoardAt (fun _ => True) C H x pl ts rm ∧ Kn C H v ∧ Q (.bl (inB pl v)) H
def spBEq (C : Addr) : Sp := fun vs H Q _ => ∃ x v pl ts rm, vs = [.ref x, v] ∧ BoardAt (fun _ => True) C H x pl ts rm ∧ ((Kn C H v ∧ kdOf H v ≠ "" ∧ Q (.bl false) H) ∨
  ∃ y pl' ts' rm', v = .ref y ∧ BoardAt (fun _ => True) C H y pl' ts' rm' ∧ Q (.bl (decide (pl = pl') && (decide (ts = ts') && decide (rm = rm')))) H)
section
variable {P : Program} {w : World} {K : PySem.W.Frag} {mg : Str → Option Value} {base : Heap} {C f : Addr} {fd : FuncData}
theorem sc_m2 : FnScope ["self"] ["self"] (defScope (mS 2)) := ⟨rfl, rfl, rfl, by decide +kernel, rfl, by decide +kernel, by decide +kernel⟩
theorem sc_m3 : FnScope ["self"] ["self"] (defScope (mS 3)) := ⟨rfl, rfl, rfl, by decide +kernel, rfl, by decide +kernel, by decide +kernel⟩
theorem sc_m4 : FnScope ["self"] ["self"] (defScope (mS 4)) := ⟨rfl, rfl, rfl, by decide +kernel, rfl, by decide +kernel, by decide +kernel⟩
theorem sc_m5 : FnScope ["self", "thing"] ["self", "thing"] (defScope (mS 5)) := ⟨rfl, rfl, rfl, by decide +kernel, rfl, by decide +kernel, by decide +kernel⟩
theorem sc_m1 : FnScope ["self", "other"] ["self", "other"] (defScope (mS 1)) := ⟨rfl, rfl, rfl, by decide +kernel, rfl, by decide +kernel, by decide +kernel⟩
theorem b_m1 (B : BoardD K mg) : Binds K (B.d 1) ["self", "other"] [] := bindsD B.F1 fun _ _ _ _ _ _ us hl => match us, hl with | [_, _], _ => rfl
theorem b_m2 (B : BoardD K mg) : Binds K (B.d 2) ["self"] [] := bindsD B.F2 fun _ _ _ _ _ _ us hl => match us, hl with | [_], _ => rfl
theorem b_m3 (B : BoardD K mg) : Binds K (B.d 3) ["self"] [] := bindsD B.F3 fun _ _ _ _ _ _ us hl => match us, hl with | [_], _ => rfl
theorem b_m4 (B : BoardD K mg) : Binds K (B.d 4) ["self"] [] := bindsD B.F4 fun _ _ _ _ _ _ us hl => match us, hl with | [_], _ => rfl
theorem b_m5 (B : BoardD K mg) : Binds K (B.d 5) ["self", "thing"] [] := bindsD B.F5 fun _ _ _ _ _ _ us hl => match us, hl with | [_, _], _ => rfl
theorem ok_places (B : BoardD K mg) (T : TxtN K mg) : FnOk P w K mg base CX0 1 (B.f 2) (B.d 2) ["self"] (spPlaces B.C) := by
  refine B.F2.ok sc_m2 (fun vs H Q E h => ?_) (fun cdv A outer s H vs Q E hr h => ⟨_, pss_one (ps_ret (pe_callTy call_list_of (by rfl) T.list PyProof.Rows.boot_list (pa_cons (pe_fld (pv 0) rfl) pa_nil))), ?_⟩)
  · obtain ⟨x, pl, ts, rm, rfl, _⟩ := h
    rfl
  · obtain ⟨x, pl, ts, rm, rfl, ⟨dx, aP, aT, aR, aN, tv, l, h1, h2, h3, h4, h5, h6, h7, h8⟩, k⟩ := h
    exact ⟨_, rfl, x, B.C, dx, _, _, rfl, h1, B.O.cl, B.noP, rfl, aP, _, rfl, .inl (SqL.of h2), fun l nl => k l nl⟩
theorem ok_ties (B : BoardD K mg) (T : TxtN K mg) : FnOk P w K mg base CX0 1 (B.f 3) (B.d 3) ["self"] (spTies B.C) := by
  refine B.F3.ok sc_m3 (fun vs H Q E h => ?_) (fun cdv A outer s H vs Q E hr h => ⟨_, pss_one (ps_ret (pe_callTy call_list_of (by rfl) T.list PyProof.Rows.boot_list (pa_cons (pe_fld (pv 0) rfl) pa_nil))), ?_⟩)
  · obtain ⟨x, pl, ts, rm, rfl, _⟩ := h
    rfl
  · obtain ⟨x, pl, ts, rm, rfl, ⟨dx, aP, aT, aR, aN, tv, l, h1, h2, h3, h4, h5, h6, h7, h8⟩, k⟩ := h
    exact ⟨_, rfl, x, B.C, dx, _, _, rfl, h1, B.O.cl, B.noT, rfl, aT, _, rfl, .inl (SqL.of h3), fun l nl => k l tv nl h4⟩
theorem ok_rim (B : BoardD K mg) (T : TxtN K mg) : FnOk P w K mg base CX0 1 (B.f 4) (B.d 4) ["self"] (spRim B.C) := by
  refine B.F4.ok sc_m4 (fun vs H Q E h => ?_) (fun cdv A outer s H vs Q E hr h => ⟨_, pss_one (ps_ret (pe_callTy call_list_of (by rfl) T.list PyProof.Rows.boot_list (pa_cons (pe_fld (pv 0) rfl) pa_nil))), ?_⟩)
  · obtain ⟨x, pl, ts, rm, rfl, _⟩ := h
    rfl
  · obtain ⟨x, pl, ts, rm, rfl, ⟨dx, aP, aT, aR, aN, tv, l, h1, h2, h3, h4, h5, h6, h7, h8⟩, k⟩ := h
    exact ⟨_, rfl, x, B.C, dx, _, _, rfl, h1, B.O.cl, B.noR, rfl, aR, _, rfl, .inl (SqL.of h5), fun l nl => k l nl⟩
theorem near_has {ss : List Str} (l : Str → V) (z : Str) : (valV (ss.map fun s => ((Sum.inr s : Key), l s)) (Sum.inr z)).isSome = decide (z ∈ ss) := by
  by_cases h : z ∈ ss
  · rw [map_val l h, decide_eq_true h]
    rfl
  · rw [decide_eq_false h]
    unfold valV
    have : (ss.map fun s => ((Sum.inr s : Key), l s)).find? (fun kv => decide (kv.1 = (Sum.inr z : Key))) = none := by
      rw [List.find?_eq_none]
      intro kv hkv
      obtain ⟨s, hs, rfl⟩ := List.mem_map.mp hkv
      simp only [decide_eq_true_eq]
      intro e
      cases e
      exact h hs
    rw [this]
    rfl
theorem ok_has (B : BoardD K mg) (T : TxtN K mg) : FnOk P w K mg base CX0 1 (B.f 5) (B.d 5) ["self", "thing"] (spHas B.C) := by
  refine B.F5.ok sc_m5 (fun vs H Q E h => ?_) (fun cdv A outer s H vs Q E hr h => ⟨_, pss_one (ps_ret (pe_and (pe_callB call_isi (by rfl) T.isinstance (by decide +kernel) (pa_cons (pv 1) (pa_cons (pe_bltn (by rfl) T.str boot_str (v := .ty "str") rfl) pa_nil))) (pe_one (pe_cmp (pc_din (hu_of hr) (pv 1) (pe_fld (pv 0) rfl)))))), ?_⟩)
  · obtain ⟨x, v, pl, ts, rm, rfl, _⟩ := h
    rfl
  · obtain ⟨x, v, pl, ts, rm, rfl, ⟨dx, aP, aT, aR, aN, tv, l, h1, h2, h3, h4, h5, h6, h7, h8⟩, kn, q⟩ := h
    obtain ⟨t, ty, ki⟩ := kn_str B.O kn
    refine ⟨_, rfl, v, _, t, _, isStrV v, rfl, .ty _, ty, ki, _, rfl, ?_⟩
    cases v with
    | str z =>
      refine iteT ⟨_, rfl, _, rfl, x, B.C, dx, _, _, rfl, h1, B.O.cl, B.noN, rfl, aN, _, rfl, DGet.k (k := Sum.inr z) h6.d, ?_⟩
      rw [near_has (fun s => V.ref (l s)) z]
      exact q
    | _ => exact iteF q
theorem ok_beq (B : BoardD K mg) (T : TxtN K mg) : FnOk P w K mg base CX0 1 (B.f 1) (B.d 1) ["self", "other"] (spBEq B.C) := by
  refine B.F1.ok sc_m1 (fun vs H Q E h => ?_) (fun cdv A outer s H vs Q E hr h => ⟨_, pss_one (ps_ret (pe_and (pe_callB call_isi (by rfl) T.isinstance (by decide +kernel) (pa_cons (pv 1) (pa_cons (pe_glob (by rfl) B.g (v := .ref B.C) rfl) pa_nil)))
    (pe_and (pe_cmpR (op_eqD hr.units) (pe_fld (pv 0) rfl) (pe_fld (pv 1) rfl) (nomark _)) (pe_and (pe_cmpR (op_eqD hr.units) (pe_fld (pv 0) rfl) (pe_fld (pv 1) rfl) (nomark _)) (pe_one (pe_cmpR (op_eqD hr.units) (pe_fld (pv 0) rfl) (pe_fld (pv 1) rfl) (nomark _))))))), ?_⟩)
  · obtain ⟨x, v, pl, ts, rm, rfl, _⟩ := h
    rfl
  · obtain ⟨x, v, pl, ts, rm, rfl, hB, h⟩ := h
    obtain ⟨dx, aP, aT, aR, aN, tv, l, h1, h2, h3, h4, h5, h6, h7, h8⟩ := hB
    rcases h with ⟨kn, nk, q⟩ | ⟨y, pl', ts', rm', rfl, ⟨dx', aP', aT', aR', aN', tv', l', g1, g2, g3, g4, g5, g6, g7, g8⟩, q⟩
    · have key : ∃ t, TyX K H v t ∧ PySem.W.kitOne K t (.ref B.C) = some false := by
        cases kn with
        | non => exact ⟨_, .base .non, B.O.ty "NoneType" (by decide)⟩
        | bl b => exact ⟨_, .base (.bl b), B.O.ty "bool" (by decide)⟩
        | int i => exact ⟨_, .base (.int i), B.O.ty "int" (by decide)⟩
        | str x => exact ⟨_, .base (.str x), B.O.ty "str" (by decide)⟩
        | lst e => exact ⟨_, .base (.lst e), B.O.ty "list" (by decide)⟩
        | tup e => exact ⟨_, .base (.tup e), B.O.ty "tuple" (by decide)⟩
        | dic e => exact ⟨_, .base (.dK e), B.O.ty "dict" (by decide)⟩
        | own e => exact absurd (by simp only [kdOf, e]) nk
      obtain ⟨t, ty, ki⟩ := key
      exact ⟨_, rfl, v, _, t, _, false, rfl, .own _, ty, ki, _, rfl, iteF q⟩
    · refine ⟨_, rfl, .ref y, _, _, _, true, rfl, .own _, .base (.ins g1 B.O.cl B.O.ha B.O.hn B.O.htk B.O.hm), by unfold PySem.W.kitOne; simp, _, rfl, iteT ?_⟩
      refine ⟨_, rfl, x, B.C, dx, _, _, rfl, h1, B.O.cl, B.noP, rfl, _, rfl, y, B.C, dx', _, _, rfl, g1, B.O.cl, B.noP, rfl, strD pl, strD pl', dp_strs h2, dp_strs g2, h7.shP, g7.shP, _, rfl, ?_⟩
      rw [eqv_strs]
      cases e1 : decide (pl = pl') with
      | false =>
        rw [e1] at q
        exact iteF q
      | true =>
        rw [e1] at q
        refine iteT ⟨_, rfl, x, B.C, dx, _, _, rfl, h1, B.O.cl, B.noT, rfl, _, rfl, y, B.C, dx', _, _, rfl, g1, B.O.cl, B.noT, rfl, prsD ts, prsD ts', dp_prs h3 h4, dp_prs g3 g4, h7.shT, g7.shT, _, rfl, ?_⟩
        rw [eqv_prs]
        cases e2 : decide (ts = ts') with
        | false =>
          rw [e2] at q
          exact iteF q
        | true =>
          rw [e2] at q
          refine iteT ⟨_, rfl, x, B.C, dx, _, _, rfl, h1, B.O.cl, B.noR, rfl, _, rfl, y, B.C, dx', _, _, rfl, g1, B.O.cl, B.noR, rfl, strD rm, strD rm', dp_strs h5, dp_strs g5, h7.shR, g7.shR, ?_⟩
          rw [eqv_strs]
          exact q
end
end E1

set_option Elab.async false
set_option linter.all false
set_option maxRecDepth 100000
set_option maxHeartbeats 4000000
namespace E1
open PySem PySem.Spec PyProof.Rows L2 G0
abbrev sStart : Stmt := topS 54
abbrev sDraw : Stmt := topS 55
abbrev sMixed : Stmt := topS 56
/-! ### the stream -/
structure StmAt (H : Hp) (p l : Addr) (c : Int) : Prop where
  ex : ∃ (ns : List Int) (b d : Int), H p = some (.lst [.ref l, .int b, .int c, .int d]) ∧ H l = some (.lst (ns.map V.int)) ∧ 0 ≤ b ∧ 0 ≤ d ∧ d < 2147483647
  ne : p ≠ l
/-- all but what stands at p and l stands as it stood -/
def But2 (H H' : Hp) (p l : Addr) : Prop := ∀ b o, H b = some o → b ≠ p → b ≠ l → H' b = some o
theorem But2.rfl {H : Hp} {p l : Addr} : But2 H H p l := fun _ _ e _ _ => e
theorem But2.trans {H H1 H2 : Hp} {p l : Addr} (a : But2 H H1 p l) (b : But2 H1 H2 p l) : But2 H H2 p l := fun x o e h1 h2 => b x o (a x o e h1 h2) h1 h2
theorem But2.updP {H : Hp} {p l : Addr} {o : HO} : But2 H (upd H p o) p l := fun x u e h1 _ => by rw [upd_ne h1]; exact e
theorem But2.updL {H : Hp} {p l : Addr} {o : HO} : But2 H (upd H l o) p l := fun x u e _ h2 => by rw [upd_ne h2]; exact e
theorem But2.new {H : Hp} {p l q : Addr} {o : HO} (h : H q = none) : But2 H (upd H q o) p l := fun x u e _ _ => by rw [upd_ne (ne_of_none e h)]; exact e
theorem dpInts {K : PySem.W.Frag} {H : Hp} : ∀ ns : List Int, DpAll K H (ns.map V.int) (ns.map PyData.int)
  | [] => .nil
  | n :: r => .cons (.int n) (dpInts r)
theorem laidInts : ∀ ns : List Int, PyData.canLayAll0 (ns.map PyData.int) = true
  | [] => rfl
  | n :: r => by
    show (PyData.canLay0 (.int n) && PyData.canLayAll0 (r.map PyData.int)) = true
    rw [laidInts r]
    rfl
theorem depthInts : ∀ ns : List Int, PyData.depthAll (ns.map PyData.int) = 0
  | [] => rfl
  | n :: r => by
    show max (PyData.depth (.int n)) (PyData.depthAll (r.map PyData.int)) = 0
    rw [depthInts r]
    rfl
theorem shapedInts (ns : List Int) : SeqAt.shaped (.list (ns.map PyData.int)) = true := by
  show (PyData.canLayAll0 (ns.map PyData.int) && decide (PyData.depthAll (ns.map PyData.int) + 1 ≤ 64)) = true
  rw [laidInts, depthInts]
  rfl
theorem eqvNil : ∀ ns : List Int, PyData.eqv (.list (ns.map PyData.int)) (.list []) = decide (ns = [])
  | [] => rfl
  | _ :: _ => rfl
theorem seq0 (n : Nat) : seqIndex? 0 (n + 1) = some 0 := by
  unfold seqIndex?
  simp
def spDraw : Sp := fun vs H Q _ => ∃ (p l : Addr) (c m : Int), vs = [.ref p, .int m] ∧ StmAt H p l c ∧ 0 ≤ c ∧ c < 1000000000 ∧ 0 < m ∧ m < 1000000 ∧
  ∀ (r : Int) (H' : Hp), 0 ≤ r → r < m → StmAt H' p l (c + 1) → But2 H H' p l → Q (.int r) H'
structure TxtD (mg : Str → Option Value) : Prop where
  int : mg "int" = none
  list : mg "list" = none
  len : mg "len" = none
  range : mg "range" = none
section
variable {P : Program} {w : World} {K : PySem.W.Frag} {mg : Str → Option Value} {base : Heap}
theorem scD : FnScope ["_law_stream", "_law_many", "_law_cell", "_law_digit", "_law_mixed_here"] ["_law_stream", "_law_many"] (defScope sDraw) := ⟨rfl, rfl, rfl, by decide +kernel, rfl, by decide +kernel, by decide +kernel⟩
theorem ok_draw {f : Addr} {fd : FuncData} (F : Fun K "_law_draw" "_law_draw" sDraw f fd) (T : TxtD mg) : FnOk P w K mg base CX0 1 f fd ["_law_stream", "_law_many"] spDraw := by
  refine F.ok scD (fun vs H Q E h => ?_) (fun cdv A outer s H vs Q E hr h => ?_)
  · obtain ⟨p, l, c, m, rfl, _⟩ := h
    rfl
  · obtain ⟨p, l, c, m, rfl, S, c0, c1, m0, m1, k⟩ := h
    have hu := hr.units
    refine ⟨_, pss_cons (ps_asg (pe_op op_add (pe_ix ix_list (pv 0) pe_int (fun _ _ => rfl)) pe_int) (pg_sub (pv 0) pe_int set_list))
      (pss_cons (ps_while PassesOwn.never
         (PW.pt (pw_and (pt_cmpR op_eq (pe_ix ix_list (pv 0) pe_int (fun _ _ => rfl)) pe_int (nomark _))
            (pw_and1 (pt_cmpR (op_neD hu) (pe_ix ix_list (pv 0) pe_int (fun _ _ => rfl)) (pe_lst pa_nil) (nomark _)))))
         (pss_cons (ps_set (i := 2) scD.nd rfl (Or.inl rfl) (pe_bm PySem.F.plainAttrs_list PySem.F.slot_list_pop PySem.F.type_list_pop mt_popAt (pe_ix ix_list (pv 0) pe_int (fun _ _ => rfl)) (pa_cons pe_int pa_nil)))
         (pss_cons (ps_asg (pe_op op_mod (pe_callTy call_int1 (by rfl) T.int PyProof.Rows.boot_int (pa_cons (pe_op op_add (pe_op op_add (pe_op op_mul (pe_ix ix_list (pv 0) pe_int (fun _ _ => rfl)) pe_int) (pv 2)) pe_int) pa_nil)) pe_int) (pg_sub (pv 0) pe_int set_list))
         (pss_one (ps_asg (pe_ifExp (pt_cmpR op_ge (pv 2) (pe_op op_pow pe_int pe_int) (nomark _)) (pv 2) pe_int) (pg_sub (pv 0) pe_int set_list))))))
      (pss_cons (ps_if (pt_cmpR op_gt (pe_ix ix_list (pv 0) pe_int (fun _ _ => rfl)) pe_int (nomark _))
         (pss_cons (ps_set (i := 3) scD.nd rfl (Or.inl rfl) (pe_op op_mod (pe_callTy call_int1 (by rfl) T.int PyProof.Rows.boot_int (pa_cons (pe_ix ix_list (pv 0) pe_int (fun _ _ => rfl)) pa_nil)) (pv 1)))
         (pss_cons (ps_asg (pe_op op_fdiv (pe_ix ix_list (pv 0) pe_int (fun _ _ => rfl)) (pv 1)) (pg_sub (pv 0) pe_int set_list))
         (pss_one (ps_ret (pv 3))))) pss_nil)
      (pss_cons (ps_set (i := 4) scD.nd rfl (Or.inl rfl) (pe_op op_mod (pe_callTy call_int1 (by rfl) T.int PyProof.Rows.boot_int (pa_cons (pe_op op_pow (pe_op op_add (pe_op op_add (pe_ix ix_list (pv 0) pe_int (fun _ _ => rfl)) (pe_op op_mul pe_int (pe_ix ix_list (pv 0) pe_int (fun _ _ => rfl)))) pe_int) pe_int) pa_nil)) pe_int))
      (pss_one (ps_ret (pe_op op_mod (pe_op op_mod (pe_callTy call_int1 (by rfl) T.int PyProof.Rows.boot_int (pa_cons (pe_op op_pow (pe_op op_add (pe_op op_add (pe_op op_mul (pv 4) pe_int) (pe_op op_mul pe_int (pe_ix ix_list (pv 0) pe_int (fun _ _ => rfl)))) pe_int) pe_int) pa_nil)) pe_int) (pv 1))))))), ?_⟩
    obtain ⟨⟨ns, b, d, hp, hl, b0, d0, d1⟩, hne⟩ := S
    -- stream[2] = stream[2] + 1
    refine ⟨_, rfl, p, _, 2, _, rfl, rfl, SqL.of hp, rfl, _, _, rfl, rfl, _, rfl, p, _, 2, 2, rfl, rfl, hp, rfl, ?_⟩
    -- while
    have e1 : (upd H p (.lst [.ref l, .int b, .int (c + 1), .int d])) l = some (.lst (ns.map V.int)) := by rw [upd_ne (Ne.symm hne)]; exact hl
    refine ⟨fun n σ H' => ∃ (v : Option V) (ns : List Int) (b d : Int), n = ns.length ∧ σ = [some (.ref p), some (.int m), v, none, none] ∧ H' p = some (.lst [.ref l, .int b, .int (c + 1), .int d]) ∧ H' l = some (.lst (ns.map V.int)) ∧ 0 ≤ b ∧ 0 ≤ d ∧ d < 2147483647 ∧ But2 H H' p l,
      ⟨ns.length, none, ns, b, d, rfl, rfl, upd_same, e1, b0, d0, d1, But2.updP⟩, ?_⟩
    rintro n σ H' ⟨v, ns, b, d, rfl, rfl, hp, hl, b0, d0, d1, s1⟩
    -- stream[1] == 0 and stream[0] != []
    refine ⟨_, rfl, p, _, 1, _, rfl, rfl, SqL.of hp, rfl, rfl, _, rfl, ?_⟩
    refine ite2 (fun hb => ?_) (fun hb => ?_)
    · refine ⟨_, rfl, p, _, 0, _, rfl, rfl, SqL.of hp, rfl, Nat.zero_le _, fun q hq => ?_⟩
      have hpq : p ≠ q := ne_of_none hp hq
      have hlq : l ≠ q := ne_of_none hl hq
      have hp1 : (upd H' q (.lst [])) p = some (.lst [.ref l, .int b, .int (c + 1), .int d]) := by rw [upd_ne hpq]; exact hp
      have hl1 : (upd H' q (.lst [])) l = some (.lst (ns.map V.int)) := by rw [upd_ne hlq]; exact hl
      have s2 : But2 H (upd H' q (.lst [])) p l := s1.trans (But2.new hq)
      refine ⟨_, _, Dp.lst (SqL.of hl1) (dpInts ns), Dp.lst (SqL.of upd_same) .nil, shapedInts ns, rfl, _, rfl, ?_⟩
      rw [eqvNil]
      refine ite2 (fun hn => ?_) (fun hn => ?_)
      · -- the body
        cases ns with
        | nil => cases hn
        | cons z r =>
          refine ⟨fun σ' H'' => ∃ (v : Option V) (b d : Int), σ' = [some (.ref p), some (.int m), v, none, none] ∧ H'' p = some (.lst [.ref l, .int b, .int (c + 1), .int d]) ∧ H'' l = some (.lst (r.map V.int)) ∧ 0 ≤ b ∧ 0 ≤ d ∧ d < 2147483647 ∧ But2 H H'' p l, ?_, ?_⟩
          · rintro σ' H'' ⟨v, b, d, rfl, h1, h2, h3, h4, h5, h6⟩
            exact ⟨r.length, Nat.lt_succ_self _, v, r, b, d, rfl, rfl, h1, h2, h3, h4, h5, h6⟩
          · refine ⟨_, rfl, p, _, 0, _, rfl, rfl, SqL.of hp1, rfl, .inl ⟨rfl, _, SqL.of hl1⟩, l, _, 0, 0, _, rfl, rfl, hl1, by decide, by decide, seq0 _, rfl, ?_⟩
            have hp2 : (upd (upd H' q (.lst [])) l (.lst (((z :: r).map V.int).eraseIdx 0))) p = some (.lst [.ref l, .int b, .int (c + 1), .int d]) := by rw [upd_ne hne]; exact hp1
            refine ⟨_, rfl, p, _, 3, _, rfl, rfl, SqL.of hp2, rfl, _, _, rfl, rfl, .inr ⟨by decide, by decide⟩, _, rfl, _, _, rfl, rfl, _, _, rfl, rfl, .inl ⟨_, rfl, _, _, rfl, rfl, (by decide : (0 : Int) < 2147483647), _, rfl, p, _, 3, 3, rfl, rfl, hp2, rfl, ?_⟩⟩
            refine ⟨_, rfl, _, _, rfl, rfl, ⟨by decide, by decide, by decide⟩, _, _, rfl, rfl, _, rfl, ?_⟩
            have d2 := Int.emod_nonneg (d * 8191 + z + 3) (by decide : (2147483647 : Int) ≠ 0)
            have d3 := Int.emod_lt_of_pos (d * 8191 + z + 3) (by decide : (0 : Int) < 2147483647)
            refine ite2 (fun hz => ?_) (fun hz => ?_)
            · have z0 : (0 : Int) ≤ z := Int.le_trans (by decide : (0 : Int) ≤ 10 ^ (18 : Int).toNat) (of_decide_eq_true hz)
              refine ⟨_, rfl, _, rfl, p, _, 1, 1, rfl, rfl, upd_same, rfl, some (.int z), z, _, rfl, upd_same, ?_, z0, d2, d3, s2.trans (But2.updL.trans (But2.updP.trans But2.updP))⟩
              rw [upd_ne (Ne.symm hne), upd_ne (Ne.symm hne), upd_same]
              rfl
            · refine ⟨_, rfl, p, _, 1, 1, rfl, rfl, upd_same, rfl, some (.int z), 0, _, rfl, upd_same, ?_, Int.le_refl _, d2, d3, s2.trans (But2.updL.trans (But2.updP.trans But2.updP))⟩
              rw [upd_ne (Ne.symm hne), upd_ne (Ne.symm hne), upd_same]
              rfl
      · refine ⟨_, rfl, p, _, 1, _, rfl, rfl, SqL.of hp1, rfl, _, _, rfl, rfl, _, rfl, ite2 (fun hg => ?_) (fun hg => ?_)⟩
        · have q0 := Int.emod_nonneg b (Int.ne_of_gt m0)
          have q1 := Int.emod_lt_of_pos b m0
          refine ⟨_, rfl, p, _, 1, _, rfl, rfl, SqL.of hp1, rfl, .inl ⟨_, rfl, _, rfl, _, _, rfl, rfl, m0, ?_⟩⟩
          refine ⟨_, rfl, p, _, 1, _, rfl, rfl, SqL.of hp1, rfl, _, rfl, _, _, rfl, rfl, ⟨m0, Int.lt_trans m1 (by decide)⟩, _, rfl, p, _, 1, 1, rfl, rfl, hp1, rfl, _, rfl, ?_⟩
          exact k _ _ q0 q1 ⟨⟨ns, b / m, d, upd_same, by rw [upd_ne (Ne.symm hne)]; exact hl1, Int.ediv_nonneg b0 (Int.le_of_lt m0), d0, d1⟩, hne⟩ (s2.trans But2.updP)
        · refine ⟨_, rfl, p, _, 3, _, rfl, rfl, SqL.of hp1, rfl, _, rfl, p, _, 2, _, rfl, rfl, SqL.of hp1, rfl, _, _, rfl, rfl, .inl ⟨by decide, by decide⟩, _, _, rfl, rfl, _, _, rfl, rfl, _, _, rfl, rfl, ⟨by decide, by decide, (by omega)⟩, .inl ⟨_, rfl, _, _, rfl, rfl, (by decide : (0 : Int) < 2147483629), ?_⟩⟩
          have g0 := Int.emod_nonneg ((d + 7919 * (c + 1) + 104729) ^ (5 : Int).toNat) (by decide : (2147483629 : Int) ≠ 0)
          have g1 := Int.emod_lt_of_pos ((d + 7919 * (c + 1) + 104729) ^ (5 : Int).toNat) (by decide : (0 : Int) < 2147483629)
          generalize hx : ((d + 7919 * (c + 1) + 104729) ^ (5 : Int).toNat) % 2147483629 = x at *
          refine ⟨_, rfl, _, _, rfl, rfl, .inr ⟨by decide, by decide⟩, _, rfl, p, _, 2, _, rfl, rfl, SqL.of hp1, rfl, _, _, rfl, rfl, .inl ⟨by decide, by decide⟩, _, _, rfl, rfl, _, _, rfl, rfl, _, _, rfl, rfl, ⟨by decide, by decide, (by omega)⟩, .inl ⟨_, rfl, _, _, rfl, rfl, (by decide : (0 : Int) < 1000000007), _, rfl, _, _, rfl, rfl, m0, ?_⟩⟩
          exact k _ _ (Int.emod_nonneg _ (Int.ne_of_gt m0)) (Int.emod_lt_of_pos _ m0) ⟨⟨ns, b, d, hp1, hl1, b0, d0, d1⟩, hne⟩ s2
    · refine ⟨_, rfl, p, _, 1, _, rfl, rfl, SqL.of hp, rfl, _, _, rfl, rfl, _, rfl, ite2 (fun hg => ?_) (fun hg => ?_)⟩
      · have q0 := Int.emod_nonneg b (Int.ne_of_gt m0)
        have q1 := Int.emod_lt_of_pos b m0
        refine ⟨_, rfl, p, _, 1, _, rfl, rfl, SqL.of hp, rfl, .inl ⟨_, rfl, _, rfl, _, _, rfl, rfl, m0, ?_⟩⟩
        refine ⟨_, rfl, p, _, 1, _, rfl, rfl, SqL.of hp, rfl, _, rfl, _, _, rfl, rfl, ⟨m0, Int.lt_trans m1 (by decide)⟩, _, rfl, p, _, 1, 1, rfl, rfl, hp, rfl, _, rfl, ?_⟩
        exact k _ _ q0 q1 ⟨⟨ns, b / m, d, upd_same, by rw [upd_ne (Ne.symm hne)]; exact hl, Int.ediv_nonneg b0 (Int.le_of_lt m0), d0, d1⟩, hne⟩ (s1.trans But2.updP)
      · refine ⟨_, rfl, p, _, 3, _, rfl, rfl, SqL.of hp, rfl, _, rfl, p, _, 2, _, rfl, rfl, SqL.of hp, rfl, _, _, rfl, rfl, .inl ⟨by decide, by decide⟩, _, _, rfl, rfl, _, _, rfl, rfl, _, _, rfl, rfl, ⟨by decide, by decide, (by omega)⟩, .inl ⟨_, rfl, _, _, rfl, rfl, (by decide : (0 : Int) < 2147483629), ?_⟩⟩
        have g0 := Int.emod_nonneg ((d + 7919 * (c + 1) + 104729) ^ (5 : Int).toNat) (by decide : (2147483629 : Int) ≠ 0)
        have g1 := Int.emod_lt_of_pos ((d + 7919 * (c + 1) + 104729) ^ (5 : Int).toNat) (by decide : (0 : Int) < 2147483629)
        generalize hx : ((d + 7919 * (c + 1) + 104729) ^ (5 : Int).toNat) % 2147483629 = x at *
        refine ⟨_, rfl, _, _, rfl, rfl, .inr ⟨by decide, by decide⟩, _, rfl, p, _, 2, _, rfl, rfl, SqL.of hp, rfl, _, _, rfl, rfl, .inl ⟨by decide, by decide⟩, _, _, rfl, rfl, _, _, rfl, rfl, _, _, rfl, rfl, ⟨by decide, by decide, (by omega)⟩, .inl ⟨_, rfl, _, _, rfl, rfl, (by decide : (0 : Int) < 1000000007), _, rfl, _, _, rfl, rfl, m0, ?_⟩⟩
        exact k _ _ (Int.emod_nonneg _ (Int.ne_of_gt m0)) (Int.emod_lt_of_pos _ m0) ⟨⟨ns, b, d, hp, hl, b0, d0, d1⟩, hne⟩ s1
end
theorem StmAt.upd {H : Hp} {p l q : Addr} {c : Int} {o : HO} (S : StmAt H p l c) (h1 : p ≠ q) (h2 : l ≠ q) : StmAt (upd H q o) p l c := by
  obtain ⟨⟨ns, b, d, hp, hl, r⟩, hne⟩ := S
  exact ⟨⟨ns, b, d, by rw [upd_ne h1]; exact hp, by rw [upd_ne h2]; exact hl, r⟩, hne⟩
theorem StmAt.at (S : StmAt H p l c) : (∃ xs, H p = some (.lst xs)) ∧ ∃ xs, H l = some (.lst xs) := by
  obtain ⟨⟨ns, b, d, hp, hl, r⟩, hne⟩ := S
  exact ⟨⟨_, hp⟩, _, hl⟩
def spMixed (K : PySem.W.Frag) : Sp := fun vs H Q _ => ∃ (p l a : Addr) (c : Int) (xs : List V), vs = [.ref p, .ref a] ∧ StmAt H p l c ∧ 0 ≤ c ∧ c < 100000000 ∧ SqL K H a xs ∧ xs.length < 1000 ∧
  ∀ (q : Addr) (ys : List V) (H' : Hp), ys.Perm xs → StmAt H' p l (c + xs.length) → H q = none → H' q = some (.lst ys) → But2 H H' p l → Q (.ref q) H'
structure TxtM (K : PySem.W.Frag) (mg : Str → Option Value) (fD : Addr) : Prop where
  d : TxtD mg
  gD : mg "_law_draw" = some (.ref fD)
  kD : PySem.W.keepIn K (.ref fD) = true
theorem erase_perm {α : Type} : ∀ (l : List α) (k : Nat) (y : α), l[k]? = some y → (y :: l.eraseIdx k).Perm l
  | [], k, y, h => by simp at h
  | x :: r, 0, y, h => by
    have e : x = y := Option.some.inj h
    subst e
    exact .refl _
  | x :: r, k + 1, y, h => by
    have ih := erase_perm r k y h
    exact (List.Perm.swap x _ _).trans (ih.cons x)
theorem seqNat {r : Int} {n : Nat} (h0 : 0 ≤ r) (h1 : r < (n : Int)) : seqIndex? r n = some r.toNat := by
  unfold seqIndex?
  have e : (if r < 0 then r + (n : Int) else r) = r := if_neg (by omega)
  simp only [e]
  have e2 : (decide (0 ≤ r) && decide (r < (n : Int))) = true := by simp [h0, h1]
  rw [if_pos e2]
/-- left.pop(draw(stream, len(left))) -/
def tMixE (K : PySem.W.Frag) : TE := tBM K "list" rPopAt (tVar 2) (tCons (tCall spDraw [] L2.E0 (tCons (tVar 0) (tCons (tCB (fun xs H Q => ∃ p ys, xs = [.ref p] ∧ (SqL K H p ys ∨ SqT K H p ys) ∧ Q (.int ys.length) H) (tCons (tVar 2) tNil)) tNil))) tNil)
section
variable {P : Program} {w : World} {K : PySem.W.Frag} {mg : Str → Option Value} {base : Heap}
theorem scM : FnScope ["_law_stream", "_law_some", "_law_left", "_law_k"] ["_law_stream", "_law_some"] (defScope sMixed) := ⟨rfl, rfl, rfl, by decide +kernel, rfl, by decide +kernel, by decide +kernel⟩
theorem ok_mixed {f fD : Addr} {fd fdD : FuncData} (F : Fun K "_law_mixed" "_law_mixed" sMixed f fd) (T : TxtM K mg fD) (FD : Fun K "_law_draw" "_law_draw" sDraw fD fdD) (bD : Binds K fdD ["_law_stream", "_law_many"] []) : FnOk P w K mg base CX0 2 f fd ["_law_stream", "_law_some"] (spMixed K) := by
  have GD : FnOk P w K mg base CX0 1 fD fdD ["_law_stream", "_law_many"] spDraw := ok_draw FD T.d
  refine F.ok scM (fun vs H Q E h => ?_) (fun cdv A outer s H vs Q E hr h => ?_)
  · obtain ⟨p, l, a, c, xs, rfl, _⟩ := h
    rfl
  · obtain ⟨p, l, a, c, xs, rfl, S, c0, c1, hS, hlen, k⟩ := h
    refine ⟨_, pss_cons (ps_set (i := 2) scM.nd rfl (Or.inr rfl) (pe_callTy call_list_of (by rfl) T.d.list PyProof.Rows.boot_list (pa_cons (pv 1) pa_nil)))
      (pss_one (ps_ret (pe_lc (te := tMixE K) (own := [("_law_k", 3)]) (g := gName 3) (tt := tYes) rfl scM.nd (pi_range1 (by rfl) T.d.range (pa_cons (pe_callB call_len_seq (by rfl) T.d.len PySem.boot_len (pa_cons (pv 2) pa_nil)) pa_nil))
        (blkOk_by (own := [("_law_k", 3)]) (N := ["_law_stream", "_law_some", "_law_left", "_law_k"]) (sc := defScope sMixed) (by decide +kernel)) (fun _ _ _ _ _ => pg_name (i := 3) scM.nd rfl (Or.inl rfl)) (fun _ _ _ _ _ => pts_nil)
        ?he))), ?_⟩
    case he =>
      intro s1 H1 C1 cl1 fp1
      exact pe_bm PySem.F.plainAttrs_list PySem.F.slot_list_pop PySem.F.type_list_pop mt_popAt (pv 2) (pa_cons (pe_call GD hr (by rfl) T.gD T.kD bD .nil pass0 (pa_cons (pv 0) (pa_cons (pe_callB call_len_seq (by rfl) T.d.len PySem.boot_len (pa_cons (pv 2) pa_nil)) pa_nil))) pa_nil)
    obtain ⟨⟨_, hp⟩, _, hl⟩ := S.at
    refine ⟨_, rfl, a, xs, rfl, .inl hS, fun q hq => ?_⟩
    have hpq : p ≠ q := ne_of_none hp hq
    have hlq : l ≠ q := ne_of_none hl hq
    refine ⟨_, rfl, q, xs, rfl, .inl (SqL.of upd_same), _, rfl, by omega, by omega, fun D hD => ?_⟩
    have hDq : q ≠ D := ne_of_none upd_same hD
    have hpD : p ≠ D := ne_of_none (o := .lst _) (by rw [upd_ne hpq]; exact hp) hD
    have hlD : l ≠ D := ne_of_none (o := .lst _) (by rw [upd_ne hlq]; exact hl) hD
    have hDn : H D = none := by rw [upd_ne (Ne.symm hDq)] at hD; exact hD
    refine lc_range (fun i H' => ∃ acc left : List V, H' D = some (.lst acc) ∧ H' q = some (.lst left) ∧ (acc ++ left).Perm xs ∧ acc.length = i ∧ StmAt H' p l (c + i) ∧ But2 H H' p l) ⟨[], xs, upd_same, by rw [upd_ne hDq]; exact upd_same, .refl _, rfl, ?_, ?_⟩ ?_ ?_
    · have e : c + ((0 : Nat) : Int) = c := by omega
      rw [e]
      exact (S.upd hpq hlq).upd hpD hlD
    · exact (But2.new hq).trans (But2.new hD)
    · rintro i H' hi ⟨acc, left, eD, eq, hperm, hacc, S', B⟩
      have hlf : acc.length + left.length = xs.length := by rw [← List.length_append]; exact hperm.length_eq
      refine ⟨rfl, yes_of ?_⟩
      refine ⟨_, rfl, .inl ⟨rfl, _, SqL.of eq⟩, _, rfl, _, rfl, q, left, rfl, .inl (SqL.of eq), p, l, c + i, (left.length : Int), rfl, S', by omega, by omega, by omega, by omega, fun r H2 r0 r1 S2 B2 => ?_⟩
      have eq2 : H2 q = some (.lst left) := B2 q _ eq (Ne.symm hpq) (Ne.symm hlq)
      have eD2 : H2 D = some (.lst acc) := B2 D _ eD (Ne.symm hpD) (Ne.symm hlD)
      obtain ⟨y, hy⟩ : ∃ y, left[r.toNat]? = some y := ⟨left[r.toNat]'(by omega), List.getElem?_eq_getElem _⟩
      refine ⟨q, left, r, r.toNat, y, rfl, rfl, eq2, by omega, by omega, seqNat r0 r1, hy, acc, ?_, small1000 (by omega), acc ++ [y], left.eraseIdx r.toNat, upd_same, ?_, ?_, ?_, ?_, ?_⟩
      · rw [upd_ne (Ne.symm hDq)]; exact eD2
      · rw [upd_ne hDq]; exact upd_same
      · rw [List.append_assoc]
        exact ((erase_perm left _ y hy).append_left acc).trans hperm
      · rw [List.length_append, hacc]; rfl
      · have e : c + ((i + 1 : Nat) : Int) = c + i + 1 := by omega
        rw [e]
        exact (S2.upd hpq hlq).upd hpD hlD
      · exact fun b o e h1 h2 => by
          rw [upd_ne (ne_of_none e hDn), upd_ne (ne_of_none e hq)]
          exact B2 b o (B b o e h1 h2) h1 h2
    · rintro H' ⟨acc, left, eD, eq, hperm, hacc, S', B⟩
      have hlf : acc.length + left.length = xs.length := by rw [← List.length_append]; exact hperm.length_eq
      have hl0 : left = [] := List.eq_nil_of_length_eq_zero (by omega)
      subst hl0
      rw [List.append_nil] at hperm
      have e : c + (((xs.length : Int).toNat : Nat) : Int) = c + xs.length := by omega
      rw [e] at S'
      exact k D acc H' hperm S' hDn eD B
theorem scS : FnScope ["_law_script"] ["_law_script"] (defScope sStart) := ⟨rfl, rfl, rfl, by decide +kernel, rfl, by decide +kernel, by decide +kernel⟩
def spStart (K : PySem.W.Frag) : Sp := fun vs H Q _ => ∃ (a : Addr) (ns : List Int), vs = [.ref a] ∧ SqL K H a (ns.map V.int) ∧ ∀ (p l : Addr) (H' : Hp), StmAt H' p l 0 → H p = none → H l = none → Same H H' → Q (.ref p) H'
theorem ok_start {f : Addr} {fd : FuncData} (F : Fun K "_law_start" "_law_start" sStart f fd) (T : TxtD mg) : FnOk P w K mg base CX0 1 f fd ["_law_script"] (spStart K) := by
  refine F.ok scS (fun vs H Q E h => ?_) (fun cdv A outer s H vs Q E hr h => ?_)
  · obtain ⟨a, ns, rfl, _⟩ := h
    rfl
  · obtain ⟨a, ns, rfl, hS, k⟩ := h
    refine ⟨_, pss_one (ps_ret (pe_lst (pa_cons (pe_callTy call_list_of (by rfl) T.list PyProof.Rows.boot_list (pa_cons (pv 0) pa_nil)) (pa_cons pe_int (pa_cons pe_int (pa_cons pe_int pa_nil)))))), ?_⟩
    refine ⟨_, rfl, a, _, rfl, .inl hS, fun l hl => ⟨by show 4 ≤ sizeLine; decide, fun p hp => ?_⟩⟩
    have hlp : l ≠ p := ne_of_none upd_same hp
    have hpn : H p = none := by rw [upd_ne (Ne.symm hlp)] at hp; exact hp
    refine k p l _ ⟨⟨ns, 0, 11, upd_same, by rw [upd_ne hlp]; exact upd_same, by decide, by decide, by decide⟩, Ne.symm hlp⟩ hpn hl fun b o e => ?_
    rw [upd_ne (ne_of_none e hpn), upd_ne (ne_of_none e hl)]
    exact e
end



/-! ### with a budget -/
def Stm (H : Hp) (p l : Addr) (n : Nat) : Prop := ∃ c : Int, StmAt H p l c ∧ 0 ≤ c ∧ c ≤ (n : Int)
theorem Stm.mono {H : Hp} {p l : Addr} {n m : Nat} (s : Stm H p l n) (h : n ≤ m) : Stm H p l m := by
  obtain ⟨c, S, c0, c1⟩ := s
  exact ⟨c, S, c0, by omega⟩
theorem Stm.at_ {H : Hp} {p l : Addr} {n : Nat} (s : Stm H p l n) : (∃ xs, H p = some (.lst xs)) ∧ ∃ xs, H l = some (.lst xs) := by
  obtain ⟨c, S, _⟩ := s
  exact S.at
theorem Stm.upd {H : Hp} {p l q : Addr} {n : Nat} {o : HO} (s : Stm H p l n) (h1 : p ≠ q) (h2 : l ≠ q) : Stm (upd H q o) p l n := by
  obtain ⟨c, S, c0, c1⟩ := s
  exact ⟨c, S.upd h1 h2, c0, c1⟩
theorem Stm.same {H H' : Hp} {p l : Addr} {n : Nat} (s : Stm H p l n) (S : Same H H') : Stm H' p l n := by
  obtain ⟨c, ⟨⟨ns, b, d, hp, hl, r⟩, hne⟩, c0, c1⟩ := s
  exact ⟨c, ⟨⟨ns, b, d, S _ _ hp, S _ _ hl, r⟩, hne⟩, c0, c1⟩
/-- all but the stream stays -/
theorem But2.same {H H' : Hp} {p l : Addr} (S : Same H H') : But2 H H' p l := fun b o e _ _ => S b o e
theorem But2.free {H H' : Hp} {p l : Addr} {n : Nat} (B : But2 H H' p l) (S : Stm H' p l n) {c : Addr} (h : H' c = none) : H c = none := by
  cases e : H c with
  | none => rfl
  | some o =>
    obtain ⟨⟨xs, h1⟩, ⟨ys, h2⟩⟩ := S.at_
    have n1 : c ≠ p := fun z => by rw [z, h1] at h; cases h
    have n2 : c ≠ l := fun z => by rw [z, h2] at h; cases h
    rw [B c o e n1 n2] at h
    cases h
/-- since H all but the stream stays, and what is new -/
structure Fr (H : Hp) (p l : Addr) (n : Nat) (H' : Hp) : Prop where
  hp : H p ≠ none
  hl : H l ≠ none
  st : Stm H' p l n
  but : But2 H H' p l
theorem Stm.fr {H : Hp} {p l : Addr} {n : Nat} (s : Stm H p l n) : Fr H p l n H := by
  obtain ⟨⟨xs, h1⟩, ys, h2⟩ := s.at_
  exact ⟨(by rw [h1]; intro z; cases z), (by rw [h2]; intro z; cases z), s, But2.rfl⟩
theorem Fr.of {H H' : Hp} {p l : Addr} {n m : Nat} (s : Stm H p l n) (s' : Stm H' p l m) (B : But2 H H' p l) : Fr H p l m H' := ⟨s.fr.hp, s.fr.hl, s', B⟩
section
variable {H H1 H2 : Hp} {p l q c : Addr} {n m : Nat} {o : HO}
theorem Fr.mono (F : Fr H p l n H1) (h : n ≤ m) : Fr H p l m H1 := ⟨F.hp, F.hl, F.st.mono h, F.but⟩
theorem Fr.ne (F : Fr H p l n H1) (h : H c = none) : c ≠ p ∧ c ≠ l := ⟨fun z => F.hp (z ▸ h), fun z => F.hl (z ▸ h)⟩
theorem Fr.put (F : Fr H p l n H1) (h : H q = none) : Fr H p l n (upd H1 q o) := ⟨F.hp, F.hl, F.st.upd (F.ne h).1.symm (F.ne h).2.symm, fun b u e h1 h2 => by
  rw [upd_ne (ne_of_none e h)]
  exact F.but b u e h1 h2⟩
theorem Fr.free (F : Fr H p l n H1) (h : H1 c = none) : H c = none := F.but.free F.st h
theorem Fr.trans (F : Fr H p l n H1) (G : Fr H1 p l m H2) : Fr H p l m H2 := ⟨F.hp, F.hl, G.st, F.but.trans G.but⟩
theorem Fr.same (F : Fr H p l n H1) (S : Same H1 H2) : Fr H p l n H2 := ⟨F.hp, F.hl, F.st.same S, F.but.trans (But2.same S)⟩
/-- what came since H stays -/
theorem Fr.keep (F : Fr H p l n H1) (G : Fr H1 p l m H2) (h : H c = none) (e : H1 c = some o) : H2 c = some o := G.but c o e (F.ne h).1 (F.ne h).2
end
def spDr : Sp := fun vs H Q _ => ∃ (p l : Addr) (n m : Nat), vs = [.ref p, .int (m : Int)] ∧ Stm H p l n ∧ n < 100000000 ∧ 0 < m ∧ m < 1000000 ∧ ∀ (r : Nat) (H' : Hp), r < m → Fr H p l (n + 1) H' → Q (.int (r : Int)) H'
def spMx (K : PySem.W.Frag) : Sp := fun vs H Q _ => ∃ (p l a : Addr) (n : Nat) (xs : List V), vs = [.ref p, .ref a] ∧ Stm H p l n ∧ n < 90000000 ∧ SqL K H a xs ∧ xs.length < 1000 ∧
  ∀ (q : Addr) (ys : List V) (H' : Hp), ys.Perm xs → Fr H p l (n + xs.length) H' → H q = none → H' q = some (.lst ys) → Q (.ref q) H'
theorem spDr_of {vs : List V} {H : Hp} {Q : VK} {E : XK} (h : spDr vs H Q E) : spDraw vs H Q E := by
  obtain ⟨p, l, n, m, rfl, S0, hn, m0, m1, k⟩ := h
  obtain ⟨c, S, c0, c1⟩ := id S0
  refine ⟨p, l, c, m, rfl, S, c0, by omega, by omega, by omega, fun r H' r0 r1 S' B => ?_⟩
  obtain ⟨k0, rfl⟩ := Int.eq_ofNat_of_zero_le r0
  exact k k0 H' (by omega) (.of S0 ⟨c + 1, S', by omega, by omega⟩ B)
theorem spMx_of {K : PySem.W.Frag} {vs : List V} {H : Hp} {Q : VK} {E : XK} (h : spMx K vs H Q E) : spMixed K vs H Q E := by
  obtain ⟨p, l, a, n, xs, rfl, S0, hn, hq, hx, k⟩ := h
  obtain ⟨c, S, c0, c1⟩ := id S0
  exact ⟨p, l, a, c, xs, rfl, S, c0, by omega, hq, hx, fun q ys H' hp S' nq hq' B => k q ys H' hp (.of S0 ⟨_, S', by omega, by omega⟩ B) nq hq'⟩
def spSt (K : PySem.W.Frag) : Sp := fun vs H Q _ => ∃ (a : Addr) (ns : List Int), vs = [.ref a] ∧ SqL K H a (ns.map V.int) ∧ ∀ (p l : Addr) (H' : Hp), Stm H' p l 0 → H p = none → H l = none → Same H H' → Q (.ref p) H'
theorem spSt_of {K : PySem.W.Frag} {vs : List V} {H : Hp} {Q : VK} {E : XK} (h : spSt K vs H Q E) : spStart K vs H Q E := by
  obtain ⟨a, ns, rfl, hq, k⟩ := h
  exact ⟨a, ns, rfl, hq, fun p l H' S n1 n2 S' => k p l H' ⟨0, S, Int.le_refl _, Int.le_refl _⟩ n1 n2 S'⟩
/-- where the law's defs for the stream stand -/
structure DrawD (K : PySem.W.Frag) (mg : Str → Option Value) where
  t : TxtD mg
  fS : Addr
  dS : FuncData
  FS : FnS K 54 fS dS
  gS : mg "_law_start" = some (.ref fS)
  fD : Addr
  dD : FuncData
  FD : FnS K 55 fD dD
  gD : mg "_law_draw" = some (.ref fD)
  fM : Addr
  dM : FuncData
  FM : FnS K 56 fM dM
  gM : mg "_law_mixed" = some (.ref fM)
section
variable {P : Program} {w : World} {K : PySem.W.Frag} {mg : Str → Option Value} {base : Heap}
theorem bDr (D : DrawD K mg) : Binds K D.dD ["_law_stream", "_law_many"] [] := D.FD.binds fun _ _ _ _ _ _ us hl => match us, hl with | [_, _], _ => rfl
theorem bMx (D : DrawD K mg) : Binds K D.dM ["_law_stream", "_law_some"] [] := D.FM.binds fun _ _ _ _ _ _ us hl => match us, hl with | [_, _], _ => rfl
theorem bSt (D : DrawD K mg) : Binds K D.dS ["_law_script"] [] := D.FS.binds fun _ _ _ _ _ _ us hl => match us, hl with | [_], _ => rfl
theorem ok_dr (D : DrawD K mg) : FnOk P w K mg base CX0 1 D.fD D.dD ["_law_stream", "_law_many"] spDr := (ok_draw D.FD D.t).imp fun _ _ _ _ h => spDr_of h
theorem ok_mx (D : DrawD K mg) : FnOk P w K mg base CX0 2 D.fM D.dM ["_law_stream", "_law_some"] (spMx K) := (ok_mixed D.FM ⟨D.t, D.gD, D.FD.kp⟩ D.FD (bDr D)).imp fun _ _ _ _ h => spMx_of h
theorem ok_st (D : DrawD K mg) : FnOk P w K mg base CX0 1 D.fS D.dS ["_law_script"] (spSt K) := (ok_start D.FS D.t).imp fun _ _ _ _ h => spSt_of h
end
end E1

set_option Elab.async false
set_option linter.all false
set_option maxRecDepth 100000
set_option maxHeartbeats 4000000
/-! min and max of two texts. -/
namespace G0
open PySem PySem.Spec PyProof.Rows L2
section
variable {prog : Program} {w : World} {A : Around} {E : Value → Shared → Prop} {s : Shared}
theorem rc_lt_str {x y : Str} {t u : Tok} {Q : Value → Shared → Prop} (h : Q (.bool (ltS x y)) s) : wpAny (model prog w) A (richCompare .Lt (.str x t) (.str y u)) Q E s := lt_str h
theorem rc_gt_str {x y : Str} {t u : Tok} {Q : Value → Shared → Prop} (h : Q (.bool (ltS y x)) s) : wpAny (model prog w) A (richCompare .Gt (.str x t) (.str y u)) Q E s := PySem.P.gt_str h
def strAt (x y : Str) (i : Nat) : Str := if i = 0 then x else y
theorem two_at {x y : Str} {t u : Tok} {i : Nat} {v : Value} (h : (#[Value.str x t, Value.str y u] : Array Value)[i]? = some v) : ∃ k, v = .str (strAt x y i) k := by
  match i, h with
  | 0, h => exact ⟨t, by simpa [strAt] using h.symm⟩
  | 1, h => exact ⟨u, by simpa [strAt] using h.symm⟩
  | n + 2, h => simp at h
theorem max_two_strs {x y : Str} {t u : Tok} {Q : Value → Shared → Prop} (hh : A.handled = none)
    (h : ∀ h' tk, (∀ c o, s.heap.get? c = some o → h'.get? c = some o) → Q (if ltS x y = true then .str y u else .str x t) { s with heap := h', toks := tk }) :
    wpAny (model prog w) A (call (.builtin "max") [.str x t, .str y u]) Q E s := by
  have hT : (s.heap.push { cls := .type "tuple", data := .seq #[.str x t, .str y u] }).IsTuple s.heap.objs.size #[.str x t, .str y u] := ⟨_, Heap.get?_push_size _ rfl, rfl, 0, by simp⟩
  refine call_max_two (wpAny_pyIter_tuple hT ?_)
  have hsz : (s.heap.push { cls := .type "tuple", data := .seq #[.str x t, .str y u] }).objs.size = s.heap.objs.size + 1 := Heap.size_push ..
  refine ⟨_, [_, s.heap.objs.size], [_], _, _, _, (fun i j => ltS (strAt x y j) (strAt x y i)), rfl, Walks.tuple (A := A.in1) hh _ s.heap.objs.size (by rw [hsz]; exact Nat.ne_of_lt (Nat.lt_succ_self _)) #[.str x t, .str y u],
    ⟨⟨_, Heap.get?_push_size _ rfl, rfl, rfl⟩, hT.push _⟩, fun c hc => ?_, by simp, (fun i j vi vj s Q E hi hj hQ => ?_), fun v h' tk hP hk => ?_⟩
  · show c < ((s.heap.push _).push _).objs.size
    rw [Heap.size_push, hsz]
    rcases List.mem_cons.mp hc with rfl | hc
    · rw [hsz]; exact Nat.lt_succ_self _
    · rcases List.mem_cons.mp hc with rfl | hc
      · exact Nat.lt_succ_of_lt (Nat.lt_succ_self _)
      · cases hc
  · obtain ⟨k1, rfl⟩ := two_at hi
    obtain ⟨k2, rfl⟩ := two_at hj
    exact rc_gt_str hQ
  · have hold : ∀ c o, s.heap.get? c = some o → h'.get? c = some o := fun c o e => by
      refine hk c o (fun hm => ?_) (Heap.get?_push_of_some _ (Heap.get?_push_of_some _ e))
      rcases List.mem_cons.mp hm with e1 | hm
      · have := Heap.lt_size e; rw [e1, hsz] at this; exact Nat.lt_irrefl _ (Nat.lt_of_succ_lt this)
      · cases hm
    have := h h' tk hold
    have hv : v = if ltS x y = true then Value.str y u else Value.str x t := by
      have hP' : (#[Value.str x t, Value.str y u] : Array Value)[argBest (fun i j => ltS (strAt x y j) (strAt x y i)) 1]? = some v := hP
      by_cases hba : ltS x y = true
      · have e : argBest (fun i j => ltS (strAt x y j) (strAt x y i)) 1 = 1 := by simp [argBest, strAt, hba]
        rw [e] at hP'
        simpa [hba] using hP'.symm
      · have e : argBest (fun i j => ltS (strAt x y j) (strAt x y i)) 1 = 0 := by simp [argBest, strAt, hba]
        rw [e] at hP'
        simpa [hba] using hP'.symm
    rw [hv]; exact this
theorem min_two_strs {x y : Str} {t u : Tok} {Q : Value → Shared → Prop} (hh : A.handled = none)
    (h : ∀ h' tk, (∀ c o, s.heap.get? c = some o → h'.get? c = some o) → Q (if ltS y x = true then .str y u else .str x t) { s with heap := h', toks := tk }) :
    wpAny (model prog w) A (call (.builtin "min") [.str x t, .str y u]) Q E s := by
  have hT : (s.heap.push { cls := .type "tuple", data := .seq #[.str x t, .str y u] }).IsTuple s.heap.objs.size #[.str x t, .str y u] := ⟨_, Heap.get?_push_size _ rfl, rfl, 0, by simp⟩
  refine call_min_two (wpAny_pyIter_tuple hT ?_)
  have hsz : (s.heap.push { cls := .type "tuple", data := .seq #[.str x t, .str y u] }).objs.size = s.heap.objs.size + 1 := Heap.size_push ..
  refine ⟨_, [_, s.heap.objs.size], [_], _, _, _, (fun i j => ltS (strAt x y i) (strAt x y j)), rfl, Walks.tuple (A := A.in1) hh _ s.heap.objs.size (by rw [hsz]; exact Nat.ne_of_lt (Nat.lt_succ_self _)) #[.str x t, .str y u],
    ⟨⟨_, Heap.get?_push_size _ rfl, rfl, rfl⟩, hT.push _⟩, fun c hc => ?_, by simp, (fun i j vi vj s Q E hi hj hQ => ?_), fun v h' tk hP hk => ?_⟩
  · show c < ((s.heap.push _).push _).objs.size
    rw [Heap.size_push, hsz]
    rcases List.mem_cons.mp hc with rfl | hc
    · rw [hsz]; exact Nat.lt_succ_self _
    · rcases List.mem_cons.mp hc with rfl | hc
      · exact Nat.lt_succ_of_lt (Nat.lt_succ_self _)
      · cases hc
  · obtain ⟨k1, rfl⟩ := two_at hi
    obtain ⟨k2, rfl⟩ := two_at hj
    exact rc_lt_str hQ
  · have hold : ∀ c o, s.heap.get? c = some o → h'.get? c = some o := fun c o e => by
      refine hk c o (fun hm => ?_) (Heap.get?_push_of_some _ (Heap.get?_push_of_some _ e))
      rcases List.mem_cons.mp hm with e1 | hm
      · have := Heap.lt_size e; rw [e1, hsz] at this; exact Nat.lt_irrefl _ (Nat.lt_of_succ_lt this)
      · cases hm
    have := h h' tk hold
    have hv : v = if ltS y x = true then Value.str y u else Value.str x t := by
      have hP' : (#[Value.str x t, Value.str y u] : Array Value)[argBest (fun i j => ltS (strAt x y i) (strAt x y j)) 1]? = some v := hP
      by_cases hba : ltS y x = true
      · have e : argBest (fun i j => ltS (strAt x y i) (strAt x y j)) 1 = 1 := by simp [argBest, strAt, hba]
        rw [e] at hP'
        simpa [hba] using hP'.symm
      · have e : argBest (fun i j => ltS (strAt x y i) (strAt x y j)) 1 = 0 := by simp [argBest, strAt, hba]
        rw [e] at hP'
        simpa [hba] using hP'.symm
    rw [hv]; exact this
end
section
variable {X : Cx}
theorem cr_minT (hc : X.calm = true) : CallR X (.builtin "min") (fun xs H Q => ∃ i j, xs = [.str i, .str j] ∧ Q (.str (if ltS j i = true then j else i)) H) := by
  intro pins s σ H xs us Q I r h
  obtain ⟨i, j, rfl, q⟩ := h
  obtain ⟨u, w', rfl, ⟨t, rfl⟩, ⟨t', rfl⟩⟩ := vals2 r
  refine min_two_strs (I.ok.hd hc) fun h' tk k => ⟨_, H, I.kept k, ?_, q⟩
  by_cases hj : ltS j i = true
  · rw [if_pos hj, if_pos hj]; exact ⟨_, rfl⟩
  · rw [if_neg hj, if_neg hj]; exact ⟨_, rfl⟩
theorem cr_maxT (hc : X.calm = true) : CallR X (.builtin "max") (fun xs H Q => ∃ i j, xs = [.str i, .str j] ∧ Q (.str (if ltS i j = true then j else i)) H) := by
  intro pins s σ H xs us Q I r h
  obtain ⟨i, j, rfl, q⟩ := h
  obtain ⟨u, w', rfl, ⟨t, rfl⟩, ⟨t', rfl⟩⟩ := vals2 r
  refine max_two_strs (I.ok.hd hc) fun h' tk k => ⟨_, H, I.kept k, ?_, q⟩
  by_cases hj : ltS i j = true
  · rw [if_pos hj, if_pos hj]; exact ⟨_, rfl⟩
  · rw [if_neg hj, if_neg hj]; exact ⟨_, rfl⟩
/-- what never runs -/
theorem pe_dead {e : Expr} : PE X e (fun _ _ _ => False) := ⟨fun _ _ _ _ _ _ h => h.elim⟩
end
end G0

set_option Elab.async false
set_option linter.all false
set_option maxRecDepth 100000
set_option maxHeartbeats 4000000
/-! The law's own defs: where they stand; picking, names, ties. -/
namespace E1
open PySem PySem.Spec PyProof.Rows L2 G0
def lawIx : List Nat := [28, 30, 32, 34, 35, 36, 37, 38, 39, 40, 42, 43, 44, 45, 46, 47, 48, 49, 50, 51, 52, 53, 57, 58, 59, 60, 61, 62, 63, 64]
def freeN : List Str := ["dict", "min", "max", "zip", "any", "repr", "range", "int", "bool", "set"]
structure LawD (K : PySem.W.Frag) (mg : Str → Option Value) where
  n : NamesD K mg
  t : TxtN K mg
  B : BoardD K mg
  s : DrawD K mg
  f : Nat → Addr
  d : Nat → FuncData
  F : ∀ i ∈ lawIx, FnS K i (f i) (d i)
  g : ∀ i ∈ lawIx, mg (tName i) = some (.ref (f i))
  free : ∀ x ∈ freeN, mg x = none
/-- fewer than 1000 -/
theorem But2.upd {H H' : Hp} {p l q : Addr} {o : HO} (B : But2 H H' p l) (h : H q = none) : But2 H (upd H' q o) p l := fun x u e h1 h2 => by
  rw [upd_ne (ne_of_none e h)]
  exact B x u e h1 h2
section
variable {P : Program} {w : World} {K : PySem.W.Frag} {mg : Str → Option Value} {base : Heap}
/-! ### _law_a_tie -/
abbrev N_a_tie : List Str := ["_law_one", "_law_other"]
theorem sc_a_tie : FnScope N_a_tie N_a_tie (defScope (topS 43)) := ⟨rfl, rfl, rfl, by decide +kernel, rfl, by decide +kernel, by decide +kernel⟩
def spTie : Sp := fun vs H Q _ => ∃ (x y : Str), vs = [.str x, .str y] ∧ ∀ t, H t = none → Q (.ref t) (upd H t (.tup [.str (tp x y).1, .str (tp x y).2]))
theorem boot_min : bootBuiltins "min" = some (.builtin "min") := by decide +kernel
theorem boot_max : bootBuiltins "max" = some (.builtin "max") := by decide +kernel
theorem tp_max (x y : Str) : (if ltS x y = true then y else x) = (tp x y).2 := by
  unfold tp
  cases h1 : ltS y x with
  | true =>
    rw [ltS_asym h1]
    rfl
  | false =>
    cases h2 : ltS x y with
    | true => rfl
    | false => exact ltS_eq h2 h1
theorem tp_min (x y : Str) : (if ltS y x = true then y else x) = (tp x y).1 := by
  unfold tp
  cases h1 : ltS y x with
  | true => rfl
  | false => rfl
theorem ok_a_tie (Z : LawD K mg) : FnOk P w K mg base CX0 1 (Z.f 43) (Z.d 43) N_a_tie spTie := by
  refine Fun.ok (Z.F 43 (by decide)) sc_a_tie (fun vs H Q E h => ?_) (fun cdv A outer s H vs Q E hr h => ⟨_, pss_one (ps_ret (pe_tup (pa_cons (pe_callB (cr_minT rfl) (by rfl) (Z.free "min" (by decide)) boot_min (pa_cons (pv 0) (pa_cons (pv 1) pa_nil))) (pa_cons (pe_callB (cr_maxT rfl) (by rfl) (Z.free "max" (by decide)) boot_max (pa_cons (pv 0) (pa_cons (pv 1) pa_nil))) pa_nil)))), ?_⟩)
  · obtain ⟨x, y, rfl, _⟩ := h
    rfl
  · obtain ⟨x, y, rfl, k⟩ := h
    refine ⟨_, rfl, _, rfl, x, y, rfl, _, rfl, _, rfl, x, y, rfl, by show 2 ≤ sizeLine; decide, fun t nt => ?_⟩
    rw [tp_max, tp_min]
    exact k t nt
theorem bTie (Z : LawD K mg) : Binds K (Z.d 43) N_a_tie [] := (Z.F 43 (by decide)).binds fun _ _ _ _ _ _ us hl => match us, hl with | [_, _], _ => rfl
/-! ### _law_a_names -/
abbrev N_a_names : List Str := ["_law_stream", "_law_many", "_law_some", "_law_found", "_law_number"]
theorem sc_a_names : FnScope N_a_names ["_law_stream", "_law_many"] (defScope (topS 42)) := ⟨rfl, rfl, rfl, by decide +kernel, rfl, by decide +kernel, by decide +kernel⟩
def someN : List Str := ["a", "b", "c", "d", "x", "y", "u", "v", "an", "ann", "p1", "p", "q9", "places", "tied", "eightsgn", "w0"]
def nK (k : Nat) : Str := ("n" : Str) ++ (toString (k : Int) : String)
def nKs : List Str := (List.range 40).map nK
def baseN : List Str := someN ++ nKs
theorem baseN_ok : baseN.all nameB = true := by decide +kernel
theorem baseN_nd : baseN.Nodup := by decide +kernel
theorem nK_len : (List.range 40).all (fun k => decide (((k : Int).natAbs.log2 < 1920) ∧ (("n" : Str).length + (Str.ofString (toString (k : Int))).length ≤ sizeLine))) = true := by decide +kernel
def spNames : Sp := fun vs H Q _ => ∃ (p l : Addr) (n m : Nat), vs = [.ref p, .int (m : Int)] ∧ Stm H p l n ∧ n < 80000000 ∧ m ≤ 40 ∧
  ∀ (q : Addr) (ns : List Str) (H' : Hp), Fr H p l (n + 17) H' → H q = none → H' q = some (.lst (ns.map V.str)) → ns.length = m → ns.Nodup → (∀ z ∈ ns, z ∈ baseN) → Q (.ref q) H'
theorem bNames (Z : LawD K mg) : Binds K (Z.d 42) ["_law_stream", "_law_many"] [] := (Z.F 42 (by decide)).binds fun _ _ _ _ _ _ us hl => match us, hl with | [_, _], _ => rfl
theorem strs_perm {ys : List V} {ss : List Str} (h : ys.Perm (ss.map V.str)) : ∃ ts : List Str, ys = ts.map V.str ∧ ts.Perm ss := by
  have hm : ∀ y ∈ ys, ∃ z, y = V.str z := fun y hy => by
    obtain ⟨z, _, rfl⟩ := List.mem_map.mp (h.mem_iff.mp hy)
    exact ⟨z, rfl⟩
  let g : V → Str := fun v => match v with
    | .str z => z
    | _ => default
  have e : ys = (ys.map g).map V.str := by
    rw [List.map_map]
    refine (List.map_id ys).symm.trans (List.map_congr_left fun y hy => ?_)
    obtain ⟨z, rfl⟩ := hm y hy
    rfl
  refine ⟨ys.map g, e, ?_⟩
  have h2 := h.map g
  rw [List.map_map] at h2
  have e2 : (ss.map (g ∘ V.str)) = ss := (List.map_congr_left fun y _ => rfl).trans (List.map_id ss)
  rw [e2] at h2
  exact h2
theorem cut_to {xs : List V} (m : Nat) : cutV xs none (some (m : Int)) = xs.take m := by
  unfold cutV
  rw [HT.sIx_none, HT.sIx_nat, List.drop_zero, Nat.sub_zero]
  rcases Nat.le_total m xs.length with h | h
  · rw [Nat.min_eq_left h]
  · rw [Nat.min_eq_right h, List.take_of_length_le (Nat.le_refl _), List.take_of_length_le h]
theorem ok_a_names (Z : LawD K mg) : FnOk P w K mg base CX0 3 (Z.f 42) (Z.d 42) ["_law_stream", "_law_many"] spNames := by
  have GM : FnOk P w K mg base CX0 2 Z.s.fM Z.s.dM ["_law_stream", "_law_some"] (spMx K) := ok_mx Z.s
  refine Fun.ok (Z.F 42 (by decide)) sc_a_names (fun vs H Q E h => ?_) (fun cdv A outer s H vs Q E hr h => ⟨_, pss_cons (ps_set (i := 2) sc_a_names.nd rfl (Or.inl rfl) (pe_lst (pa_cons pe_str (pa_cons pe_str (pa_cons pe_str (pa_cons pe_str (pa_cons pe_str (pa_cons pe_str (pa_cons pe_str (pa_cons pe_str (pa_cons pe_str (pa_cons pe_str (pa_cons pe_str (pa_cons pe_str (pa_cons pe_str (pa_cons pe_str (pa_cons pe_str (pa_cons pe_str (pa_cons pe_str pa_nil)))))))))))))))))))
  (pss_cons (ps_set (i := 3) sc_a_names.nd rfl (Or.inl rfl) (pe_slice sl_list (pe_call GM hr (by rfl) Z.s.gM Z.s.FM.kp (bMx Z.s) .nil pass0 (pa_cons (pv 0) (pa_cons (pv 2) pa_nil))) po_none (po_some (pv 1))))
  (pss_one (ps_ret (pe_op op_cat (pv 3) (pe_lc (te := tOp (fun x y H Q => ∃ i j, x = .str i ∧ y = .str j ∧ i.length + j.length ≤ sizeLine ∧ Q (.str (i ++ j)) H) (tC (.str "n")) (tCB (fun xs H Q => ∃ i, xs = [.int i] ∧ i.natAbs.log2 < 1920 ∧ Q (.str (toString i)) H) (tCons (tVar 4) tNil))) (own := [("_law_number", 4)]) (tt := tYes) rfl sc_a_names.nd (pi_range1 (by rfl) (Z.free "range" (by decide)) (pa_cons (pe_op op_sub (pv 1) (pe_callB call_len_seq (by rfl) Z.t.len PySem.boot_len (pa_cons (pv 3) pa_nil))) pa_nil)) (blkOk_by (own := [("_law_number", 4)]) (N := N_a_names) (sc := defScope (topS 42)) (by decide +kernel)) (fun _ _ _ _ _ => (pg_name (i := 4) sc_a_names.nd rfl (Or.inl rfl))) (fun _ _ _ _ _ => pts_nil) (fun _ _ _ _ _ => (pe_op op_add_str pe_str (pe_callTy call_str_int (by rfl) Z.t.str boot_str (pa_cons (pv 4) pa_nil)))))))))
  , ?_⟩)
  · obtain ⟨p, l, n, m, rfl, _⟩ := h
    rfl
  · obtain ⟨p, l, n, m, rfl, S, hn, hm, k⟩ := h
    refine ⟨by show 17 ≤ sizeLine; decide, fun a na => ?_⟩
    have F0 : Fr H p l n (upd H a (.lst (someN.map V.str))) := S.fr.put na
    refine ⟨_, rfl, _, rfl, p, l, a, n, someN.map V.str, rfl, F0.st, by omega, SqL.of upd_same, by show 17 < 1000; decide, fun q ys H1 hperm F1 nq hq => ?_⟩
    obtain ⟨ts, rfl, tperm⟩ := strs_perm hperm
    have tl : ts.length = 17 := tperm.length_eq
    have F2 := F0.trans F1
    refine ⟨_, rfl, (m : Int), rfl, q, _, rfl, SqL.of hq, fun q2 n2 => ?_⟩
    rw [cut_to, ← List.map_take]
    have hq2l : (ts.take m).length = min m 17 := by rw [List.length_take, tl]
    have n2H := F2.free n2
    refine ⟨_, rfl, _, rfl, _, rfl, q2, _, rfl, .inl (SqL.of upd_same), _, _, rfl, rfl, _, rfl, ?_, ?_, fun D hD => ?_⟩
    · rw [List.length_map, hq2l]; omega
    · rw [List.length_map, hq2l]; omega
    have F3 : Fr H p l (n + 17) (upd H1 q2 (.lst ((ts.take m).map V.str))) := F2.put n2H
    have hDq : q2 ≠ D := ne_of_none upd_same hD
    have nD := F3.free hD
    have eN : ((m : Int) - (((ts.take m).map V.str).length : Nat) : Int).toNat = m - 17 := by rw [List.length_map, hq2l]; omega
    rw [eN]
    refine lc_range (n := m - 17) (fun i H' => H' D = some (.lst (((List.range i).map nK).map V.str)) ∧ H' q2 = some (.lst ((ts.take m).map V.str)) ∧ Fr H p l (n + 17) H') ⟨upd_same, by rw [upd_ne hDq]; exact upd_same, F3.put nD⟩ ?_ ?_
    · rintro i H' hi ⟨hD', hq', F'⟩
      have hk := List.all_eq_true.mp nK_len i (List.mem_range.mpr (by omega))
      obtain ⟨k1, k2⟩ := of_decide_eq_true hk
      have ei : (0 : Int) + (i : Int) = (i : Int) := Int.zero_add _
      rw [ei]
      refine ⟨rfl, yes_of ⟨_, rfl, i, rfl, k1, _, _, rfl, rfl, k2, _, hD', ?_, ?_, ?_, F'.put nD⟩⟩
      · rw [List.length_map, List.length_map, List.length_range]
        exact small1000 (by omega)
      · rw [upd_same, List.range_succ, List.map_append, List.map_append]
        rfl
      · rw [upd_ne hDq]
        exact hq'
    · rintro H' ⟨hD', hq', F'⟩
      refine ⟨q2, D, _, _, rfl, rfl, hq', hD', ?_, fun r nr => ?_⟩
      · rw [List.length_map, List.length_map, List.length_map, List.length_range, hq2l]
        exact Nat.le_of_lt (small1000 (by omega))
      · have nrH := F'.free nr
        rw [← List.map_append]
        have sub : ∀ z ∈ (List.range (m - 17)).map nK, z ∈ nKs := fun z hz => by
          obtain ⟨j, hj, rfl⟩ := List.mem_map.mp hz
          exact List.mem_map.mpr ⟨j, List.mem_range.mpr (by have := List.mem_range.mp hj; omega), rfl⟩
        have subT : ∀ z ∈ ts.take m, z ∈ someN := fun z hz => tperm.mem_iff.mp (List.mem_of_mem_take hz)
        have nd := List.nodup_append.mp baseN_nd
        refine k r _ _ (F'.put nrH) nrH upd_same ?_ ?_ ?_
        · rw [List.length_append, List.length_map, List.length_range, hq2l]
          omega
        · refine List.nodup_append.mpr ⟨?_, ?_, fun x hx y hy e => nd.2.2 x (subT x hx) y (sub y hy) e⟩
          · exact (tperm.nodup_iff.mpr nd.1).sublist (List.take_sublist _ _)
          · have e : (List.range (m - 17)).map nK = nKs.take (m - 17) := by
              unfold nKs
              rw [← List.map_take, List.take_range, Nat.min_eq_left (by omega)]
            rw [e]
            exact nd.2.1.sublist (List.take_sublist _ _)
        · intro z hz
          rcases List.mem_append.mp hz with hz | hz
          · exact List.mem_append_left _ (subT z hz)
          · exact List.mem_append_right _ (sub z hz)
end
end E1

set_option Elab.async false
set_option linter.all false
set_option maxRecDepth 100000
set_option maxHeartbeats 4000000
/-! Raw boards: any ties. -/
namespace E1
open PySem PySem.Spec PyProof.Rows L2 G0
theorem tp_cases (a b : Str) : tp a b = (a, b) ∨ tp a b = (b, a) := by
  unfold tp
  split
  · exact .inr rfl
  · exact .inl rfl
theorem tp_eq {a b c d : Str} (h : tp a b = tp c d) : (a = c ∧ b = d) ∨ (a = d ∧ b = c) := by
  rcases tp_cases a b with e | e <;> rcases tp_cases c d with f | f <;> rw [e, f] at h <;> injection h with h1 h2
  · exact .inl ⟨h1, h2⟩
  · exact .inr ⟨h1, h2⟩
  · exact .inr ⟨h2, h1⟩
  · exact .inl ⟨h2, h1⟩
theorem tp_inj {a b c : Str} (h : tp a b = tp a c) : b = c := by
  rcases tp_eq h with ⟨_, h⟩ | ⟨h1, h2⟩
  · exact h
  · rw [h2, h1]
theorem tp_lt {a b : Str} (h : a ≠ b) : ltS (tp a b).1 (tp a b).2 = true := by
  unfold tp
  cases e : ltS b a with
  | true => exact e
  | false =>
    cases e2 : ltS a b with
    | true => exact e2
    | false => exact absurd (ltS_eq e2 e) h
theorem tp_mem {a b : Str} {pl : List Str} (h1 : a ∈ pl) (h2 : b ∈ pl) : (tp a b).1 ∈ pl ∧ (tp a b).2 ∈ pl := by
  rcases tp_cases a b with e | e <;> rw [e]
  · exact ⟨h1, h2⟩
  · exact ⟨h2, h1⟩
theorem tp_self {p : Pr} (h : ltS p.1 p.2 = true) : tp p.1 p.2 = p := by
  unfold tp
  rw [ltS_asym h]
  rfl
theorem tp_swap (a b : Str) : tp a b = tp b a := by
  unfold tp
  cases h1 : ltS b a with
  | true =>
    rw [ltS_asym h1]
    rfl
  | false =>
    cases h2 : ltS a b with
    | true => rfl
    | false =>
      have := ltS_eq h2 h1
      rw [this]
theorem nodup_map {α β : Type} {f : α → β} {xs : List α} (hf : ∀ x y, x ∈ xs → y ∈ xs → f x = f y → x = y) (h : xs.Nodup) : (xs.map f).Nodup := by
  induction xs with
  | nil => exact List.nodup_nil
  | cons x xs ih =>
    have hc := List.nodup_cons.mp h
    refine List.nodup_cons.mpr ⟨fun hm => ?_, ih (fun a b ha hb => hf a b (List.mem_cons_of_mem _ ha) (List.mem_cons_of_mem _ hb)) hc.2⟩
    obtain ⟨y, hy, e⟩ := List.mem_map.mp hm
    exact hc.1 (hf y x (List.mem_cons_of_mem _ hy) List.mem_cons_self e ▸ hy)
/-- pairs of unlike ones, put as they are told, each once -/
structure TsOk (pl : List Str) (ts : List Pr) : Prop where
  nd : ts.Nodup
  ok : ∀ p ∈ ts, p.1 ∈ pl ∧ p.2 ∈ pl ∧ ltS p.1 p.2 = true
theorem TsOk.nil {pl : List Str} : TsOk pl [] := ⟨List.nodup_nil, by simp⟩
theorem TsOk.mono {pl pl' : List Str} {ts : List Pr} (t : TsOk pl ts) (h : ∀ z ∈ pl, z ∈ pl') : TsOk pl' ts := ⟨t.nd, fun p hp => ⟨h _ (t.ok p hp).1, h _ (t.ok p hp).2.1, (t.ok p hp).2.2⟩⟩
theorem TsOk.perm {pl : List Str} {ts us : List Pr} (t : TsOk pl ts) (h : us.Perm ts) : TsOk pl us := ⟨h.nodup_iff.mpr t.nd, fun p hp => t.ok p (h.mem_iff.mp hp)⟩
/-- ties from a new end to unlike others -/
theorem TsOk.fan {pl : List Str} {ts : List Pr} (t : TsOk pl ts) {a : Str} {es : List Str} (ha : a ∈ pl) (he : ∀ e ∈ es, e ∈ pl ∧ e ≠ a) (hn : es.Nodup) (hf : ∀ e ∈ es, tp a e ∉ ts) : TsOk pl (ts ++ es.map (tp a)) := by
  refine ⟨List.nodup_append.mpr ⟨t.nd, ?_, ?_⟩, fun p hp => ?_⟩
  · exact nodup_map (fun x y _ _ h => tp_inj h) hn
  · intro x hx y hy e
    obtain ⟨z, hz, rfl⟩ := List.mem_map.mp hy
    exact hf z hz (e ▸ hx)
  · rcases List.mem_append.mp hp with hp | hp
    · exact t.ok p hp
    · obtain ⟨z, hz, rfl⟩ := List.mem_map.mp hp
      exact ⟨(tp_mem ha (he z hz).1).1, (tp_mem ha (he z hz).1).2, tp_lt (he z hz).2.symm⟩
theorem prod_len (xs ys : List Str) : (xs.flatMap fun x => ys.map fun y => ((x, y) : Pr)).length = xs.length * ys.length := by
  induction xs with
  | nil => simp
  | cons x xs ih => rw [List.flatMap_cons, List.length_append, ih, List.length_map, List.length_cons, Nat.succ_mul, Nat.add_comm]
theorem TsOk.len2 {pl : List Str} {ts : List Pr} (t : TsOk pl ts) : ts.length + ts.length ≤ pl.length * pl.length := by
  have nd : (ts ++ ts.map fun q => ((q.2, q.1) : Pr)).Nodup := by
    refine List.nodup_append.mpr ⟨t.nd, nodup_map (fun x y _ _ e => ?_) t.nd, fun x hx y hy e => ?_⟩
    · obtain ⟨a, b⟩ := x
      obtain ⟨c, d⟩ := y
      injection e with e1 e2
      exact Prod.ext e2 e1
    · obtain ⟨z, hz, rfl⟩ := List.mem_map.mp hy
      have l1 := (t.ok x hx).2.2
      have l2 := (t.ok z hz).2.2
      rw [e] at l1
      rw [ltS_asym l1] at l2
      cases l2
  have sub : (ts ++ ts.map fun q => ((q.2, q.1) : Pr)) ⊆ pl.flatMap fun x => pl.map fun y => ((x, y) : Pr) := fun q hq => by
    have key : q.1 ∈ pl ∧ q.2 ∈ pl := by
      rcases List.mem_append.mp hq with hq | hq
      · exact ⟨(t.ok q hq).1, (t.ok q hq).2.1⟩
      · obtain ⟨z, hz, rfl⟩ := List.mem_map.mp hq
        exact ⟨(t.ok z hz).2.1, (t.ok z hz).1⟩
    exact List.mem_flatMap.mpr ⟨q.1, key.1, List.mem_map.mpr ⟨q.2, key.2, rfl⟩⟩
  have := nd.length_le_of_subset sub
  rw [prod_len, List.length_append, List.length_map] at this
  exact this
theorem TsOk.len {pl : List Str} {ts : List Pr} (t : TsOk pl ts) (h : pl.length ≤ 44) : ts.length ≤ 968 := by
  have nd : (ts ++ ts.map fun p => ((p.2, p.1) : Pr)).Nodup := by
    refine List.nodup_append.mpr ⟨t.nd, nodup_map (fun x y _ _ e => by
      obtain ⟨a, b⟩ := x
      obtain ⟨c, d⟩ := y
      injection e with e1 e2
      have e1' : b = d := e1
      have e2' : a = c := e2
      rw [e1', e2']) t.nd, fun x hx y hy e => ?_⟩
    obtain ⟨z, hz, rfl⟩ := List.mem_map.mp hy
    have l1 := (t.ok x hx).2.2
    have l2 := (t.ok z hz).2.2
    rw [e] at l1
    rw [ltS_asym l1] at l2
    cases l2
  have sub : (ts ++ ts.map fun p => ((p.2, p.1) : Pr)) ⊆ pl.flatMap fun x => pl.map fun y => ((x, y) : Pr) := fun p hp => by
    have key : p.1 ∈ pl ∧ p.2 ∈ pl := by
      rcases List.mem_append.mp hp with hp | hp
      · exact ⟨(t.ok p hp).1, (t.ok p hp).2.1⟩
      · obtain ⟨z, hz, rfl⟩ := List.mem_map.mp hp
        exact ⟨(t.ok z hz).2.1, (t.ok z hz).1⟩
    exact List.mem_flatMap.mpr ⟨p.1, key.1, List.mem_map.mpr ⟨p.2, key.2, rfl⟩⟩
  have := nd.length_le_of_subset sub
  rw [prod_len, List.length_append, List.length_map] at this
  have := Nat.mul_le_mul h h
  omega
/-- a raw board: places, ties, rim; N: where it lies -/
def RawAt (N : Addr → Prop) (H : Hp) (r : Addr) (pl : List Str) (ts : List Pr) (rm : List Str) : Prop :=
  ∃ (aP aT aR : Addr) (tv : List V), H r = some (.tup [.ref aP, .ref aT, .ref aR]) ∧ H aP = some (.lst (pl.map V.str)) ∧ H aT = some (.lst tv) ∧ PrsAt H tv ts ∧ H aR = some (.lst (rm.map V.str)) ∧ N r ∧ N aP ∧ N aT ∧ N aR ∧ ∀ t, V.ref t ∈ tv → N t
theorem prs_frame {N : Addr → Prop} {H H' : Hp} {vs : List V} {ps : List Pr} (h : PrsAt H vs ps) (n : ∀ t, V.ref t ∈ vs → N t) (S : ∀ c o, N c → H c = some o → H' c = some o) : PrsAt H' vs ps := ⟨h.1, fun i v q e1 e2 => by
  obtain ⟨t, rfl, ht⟩ := h.2 i v q e1 e2
  exact ⟨t, rfl, S _ _ (n t (List.mem_of_getElem? e1)) ht⟩⟩
theorem RawAt.frame {N : Addr → Prop} {H H' : Hp} {r : Addr} {pl : List Str} {ts : List Pr} {rm : List Str} (b : RawAt N H r pl ts rm) (S : ∀ c o, N c → H c = some o → H' c = some o) : RawAt N H' r pl ts rm := by
  obtain ⟨aP, aT, aR, tv, h1, h2, h3, h4, h5, n1, n2, n3, n4, n5⟩ := b
  exact ⟨aP, aT, aR, tv, S _ _ n1 h1, S _ _ n2 h2, S _ _ n3 h3, prs_frame h4 n5 S, S _ _ n4 h5, n1, n2, n3, n4, n5⟩
theorem RawAt.weak {N N' : Addr → Prop} {H : Hp} {r : Addr} {pl : List Str} {ts : List Pr} {rm : List Str} (b : RawAt N H r pl ts rm) (k : ∀ c, N c → N' c) : RawAt N' H r pl ts rm := by
  obtain ⟨aP, aT, aR, tv, h1, h2, h3, h4, h5, n1, n2, n3, n4, n5⟩ := b
  exact ⟨aP, aT, aR, tv, h1, h2, h3, h4, h5, k _ n1, k _ n2, k _ n3, k _ n4, fun t ht => k _ (n5 t ht)⟩
/-- names that the law takes for places -/
def sK (k : Nat) : Str := Str.ofString (toString (k : Int))
def gK (a b : Nat) : Str := ((("g" : Str) ++ sK a) ++ "k") ++ sK b
def gN : List Str := (List.range 4).flatMap fun a => (List.range 4).map fun b => gK a b
def allN : List Str := baseN ++ (["far0", "far1"] : List Str)
theorem allN_ok : allN.all nameB = true := by decide +kernel
structure RawOk (pl : List Str) (us : List Pr) (rm : List Str) : Prop where
  nd : pl.Nodup
  nm : ∀ z ∈ pl, z ∈ allN
  len : pl.length ≤ 44
  ts : TsOk pl us
  rnd : rm.Nodup
  rin : ∀ z ∈ rm, z ∈ pl
  few : us.length ≤ 31
theorem RawOk.name {pl : List Str} {ts : List Pr} {rm : List Str} (r : RawOk pl ts rm) {z : Str} (h : z ∈ pl) : nameB z = true := List.all_eq_true.mp allN_ok z (r.nm z h)
end E1

set_option Elab.async false
set_option linter.all false
set_option maxRecDepth 100000
set_option maxHeartbeats 4000000
namespace E1
open PySem PySem.Spec PyProof.Rows L2 G0
theorem lt_at {K : PySem.W.Frag} {H H' : Hp} {a : Addr} {xs : List V} (e0 : H a = some (.lst xs)) (e1 : H' a = some (.lst xs)) : (∀ ys, SqL K H a ys → SqL K H' a ys) ∧ ∀ ys, SqT K H a ys → SqT K H' a ys := by
  refine ⟨fun ys h => ?_, fun ys h => ?_⟩
  · rcases h with (h | ⟨o, h⟩) | h
    · rw [e0] at h
      cases h
      exact .inl (.inl e1)
    · rw [e0] at h
      cases h
    · exact .inr h
  · rcases h with (h | ⟨o, h⟩) | h
    · rw [e0] at h
      cases h
    · rw [e0] at h
      cases h
    · exact .inr h
theorem cut_from {xs : List V} (m : Nat) : cutV xs (some (m : Int)) none = xs.drop m := by
  unfold cutV
  rw [HT.sIx_none, HT.sIx_nat]
  rcases Nat.le_total m xs.length with h | h
  · rw [Nat.min_eq_left h, List.take_of_length_le (by rw [List.length_drop]; exact Nat.le_refl _)]
  · rw [Nat.min_eq_right h, Nat.sub_self, List.take_zero, List.drop_of_length_le h]
theorem prs_keep {H H1 H2 : Hp} {p l : Addr} {n m : Nat} {vs : List V} {ps : List Pr} (F : Fr H p l n H1) (G : Fr H1 p l m H2) (h : PrsAt H1 vs ps) (fr : ∀ t, V.ref t ∈ vs → H t = none) : PrsAt H2 vs ps := prs_frame h fr fun c o e1 e2 => F.keep G e1 e2
theorem prs_upd {H : Hp} {q : Addr} {o : HO} {vs : List V} {ps : List Pr} (h : PrsAt H vs ps) (e : ∀ xs, H q ≠ some (.tup xs)) : PrsAt (upd H q o) vs ps := h.mono fun t xs h2 => by
  rw [upd_ne (fun z => e xs (by rw [← z]; exact h2))]
  exact h2
theorem prs_app {H : Hp} {vs ws : List V} {ps qs : List Pr} (h : PrsAt H vs ps) (g : PrsAt H ws qs) : PrsAt H (vs ++ ws) (ps ++ qs) := by
  refine ⟨by rw [List.length_append, List.length_append, h.1, g.1], fun i v p h1 h2 => ?_⟩
  rcases Nat.lt_or_ge i vs.length with l | l
  · rw [List.getElem?_append_left l] at h1
    rw [List.getElem?_append_left (by rw [← h.1]; exact l)] at h2
    exact h.2 i v p h1 h2
  · rw [List.getElem?_append_right l] at h1
    rw [List.getElem?_append_right (by rw [← h.1]; exact l), ← h.1] at h2
    exact g.2 _ v p h1 h2
end E1

set_option Elab.async false
set_option linter.all false
set_option maxRecDepth 100000
set_option maxHeartbeats 4000000
/-! Raw boards: neighbours by the law. -/
namespace E1
open PySem PySem.Spec PyProof.Rows L2 G0
/-- pairs of a place and a list of places, not yet a dict -/
structure PL (K : PySem.W.Frag) (H : Hp) (ps : List Addr) (ss : List Str) (f : Str → List Str) (l : Str → Addr) : Prop where
  pr : Paired (fun (p : Addr) (kv : Key × V) => SqT K H p [kV kv.1, kv.2]) ps (ss.map fun s => ((Sum.inr s : Key), V.ref (l s)))
  at_ : ∀ s ∈ ss, H (l s) = some (.lst ((f s).map V.str))
  inj : ∀ s ∈ ss, ∀ t ∈ ss, l s = l t → s = t
theorem PL.same {K : PySem.W.Frag} {H H' : Hp} {ps : List Addr} {ss : List Str} {f : Str → List Str} {l : Str → Addr} (h : PL K H ps ss f l) (S : Same H H') : PL K H' ps ss f l := ⟨h.pr.mono fun _ _ e => same_T S e, fun s hs => S _ _ (h.at_ s hs), h.inj⟩
theorem sqT_upd {K : PySem.W.Frag} {H : Hp} {a D : Addr} {xs : List V} {o : HO} (h : SqT K H a xs) (n1 : ∀ ys, H D ≠ some (.tup ys)) (n2 : ∀ u ys, H D ≠ some (.frz u (.tup ys))) : SqT K (upd H D o) a xs := by
  rcases h with (h | ⟨u, h⟩) | h
  · refine .inl (.inl ?_)
    rw [upd_ne (fun z => n1 xs (by rw [← z]; exact h))]
    exact h
  · refine .inl (.inr ⟨u, ?_⟩)
    rw [upd_ne (fun z => n2 u xs (by rw [← z]; exact h))]
    exact h
  · exact .inr h
theorem PL.wr {K : PySem.W.Frag} {H : Hp} {D : Addr} {o : HO} {ps : List Addr} {ss : List Str} {f : Str → List Str} {l : Str → Addr} (h : PL K H ps ss f l) (n1 : ∀ ys, H D ≠ some (.tup ys)) (n2 : ∀ u ys, H D ≠ some (.frz u (.tup ys))) (n3 : ∀ s ∈ ss, l s ≠ D) : PL K (upd H D o) ps ss f l :=
  ⟨h.pr.mono fun _ _ e => sqT_upd e n1 n2, fun s hs => by rw [upd_ne (n3 s hs)]; exact h.at_ s hs, h.inj⟩
theorem PL.nil {K : PySem.W.Frag} {H : Hp} {f : Str → List Str} {l : Str → Addr} : PL K H [] [] f l := ⟨.nil, by simp, by simp⟩
theorem PL.more {K : PySem.W.Frag} {H : Hp} {ps : List Addr} {ss : List Str} {f : Str → List Str} {l : Str → Addr} {s : Str} {p T : Addr} (h : PL K H ps ss f l) (hs : s ∉ ss) (np : H p = none) (nT : (upd H p (.lst ((f s).map V.str))) T = none) :
    PL K (upd (upd H p (.lst ((f s).map V.str))) T (.tup [.str s, .ref p])) (ps ++ [T]) (ss ++ [s]) f (fun t => if t = s then p else l t) := by
  have ls : ∀ t ∈ ss, (if t = s then p else l t) = l t := fun t ht => if_neg (show t ≠ s from fun z => hs (z ▸ ht))
  have S : Same H (upd (upd H p (.lst ((f s).map V.str))) T (.tup [.str s, .ref p])) := (new_same np).trans (new_same nT)
  have h' := h.same S
  have pT : p ≠ T := ne_of_none upd_same nT
  have lp : ∀ t ∈ ss, l t ≠ p := fun t ht => ne_of_none (h.at_ t ht) np
  refine ⟨?_, fun t ht => ?_, fun t ht u hu e => ?_⟩
  · have e1 : (ss.map fun t => ((Sum.inr t : Key), V.ref (if t = s then p else l t))) = ss.map fun t => ((Sum.inr t : Key), V.ref (l t)) := List.map_congr_left fun t ht => by rw [ls t ht]
    rw [List.map_append]
    show Paired _ _ ((ss.map fun t => ((Sum.inr t : Key), V.ref (if t = s then p else l t))) ++ [((Sum.inr s : Key), V.ref (if s = s then p else l s))])
    rw [e1, if_pos rfl]
    exact h'.pr.snoc (SqT.of upd_same)
  · rcases List.mem_append.mp ht with ht | ht
    · show (upd (upd H p _) T _) (if t = s then p else l t) = _
      rw [ls t ht]
      exact h'.at_ t ht
    · rw [List.mem_singleton.mp ht]
      show (upd (upd H p _) T _) (if s = s then p else l s) = _
      rw [if_pos rfl, upd_ne pT, upd_same]
  · have e : (if t = s then p else l t) = if u = s then p else l u := e
    rcases List.mem_append.mp ht with ht | ht
    · rw [ls t ht] at e
      rcases List.mem_append.mp hu with hu | hu
      · rw [ls u hu] at e
        exact h.inj t ht u hu e
      · rw [List.mem_singleton.mp hu, if_pos rfl] at e
        exact absurd e (lp t ht)
    · rw [List.mem_singleton.mp ht] at e ⊢
      rw [if_pos rfl] at e
      rcases List.mem_append.mp hu with hu | hu
      · rw [ls u hu] at e
        exact absurd e.symm (lp u hu)
      · exact (List.mem_singleton.mp hu).symm
theorem merge_new : ∀ (kvs acc : List (Key × V)), ((acc ++ kvs).map Prod.fst).Nodup → mergeK acc kvs = acc ++ kvs
  | [], acc, _ => by unfold mergeK; simp
  | kv :: kvs, acc, h => by
    have e : mergeK acc (kv :: kvs) = mergeK (putK acc kv.1 kv.2) kvs := rfl
    have hk : ∀ x ∈ acc, x.1 ≠ kv.1 := fun x hx e => by
      rw [List.map_append] at h
      exact (List.nodup_append.mp h).2.2 x.1 (List.mem_map.mpr ⟨x, hx, rfl⟩) kv.1 (List.mem_map.mpr ⟨kv, List.mem_cons_self, rfl⟩) e
    rw [e, put_new hk, merge_new kvs (acc ++ [kv]) (by rw [List.append_assoc]; exact h), List.append_assoc]
    rfl
theorem merge_strs {ss : List Str} (nd : ss.Nodup) (l : Str → V) : mergeK [] (ss.map fun s => ((Sum.inr s : Key), l s)) = ss.map fun s => ((Sum.inr s : Key), l s) := by
  have := merge_new (ss.map fun s => ((Sum.inr s : Key), l s)) [] (by
    rw [List.nil_append, List.map_map]
    exact nodup_map (fun x y _ _ e => by
      have : (Sum.inr x : Key) = Sum.inr y := e
      injection this) nd)
  rw [List.nil_append] at this
  exact this
/-- both ends get the other -/
theorem near_step {H : Hp} {q : Addr} {ss : List Str} {l : Str → Addr} {ps : List Pr} {i : Nat} {p : Pr} (N : NearAt H q ss (nb (ps.take i)) l) (hpi : ps[i]? = some p) (h1 : p.1 ∈ ss) (h2 : p.2 ∈ ss) :
    NearAt (upd (upd H (l p.1) (.lst ((nb (ps.take i) p.1 ++ [p.2]).map V.str))) (l p.2) (.lst (((if p.2 = p.1 then nb (ps.take i) p.1 ++ [p.2] else nb (ps.take i) p.2) ++ [p.1]).map V.str))) q ss (nb (ps.take (i + 1))) l := by
  refine ((N.put h1 p.2).put h2 p.1).congr fun s hs => ?_
  rw [take_snoc hpi, nb_snoc]
  show (if s = p.2 then (if p.2 = p.1 then nb (ps.take i) p.1 ++ [p.2] else nb (ps.take i) p.2) ++ [p.1] else if s = p.1 then nb (ps.take i) p.1 ++ [p.2] else nb (ps.take i) s) = _
  by_cases c2 : s = p.2
  · subst c2
    rw [if_pos rfl, if_pos rfl]
    by_cases c1 : p.2 = p.1
    · rw [if_pos c1, if_pos c1.symm, c1, List.append_assoc]
    · rw [if_neg c1, if_neg (fun z => c1 z.symm), List.nil_append]
  · rw [if_neg c2, show (if p.2 = s then [p.1] else ([] : List Str)) = [] from if_neg (fun z => c2 z.symm), List.append_nil]
    by_cases c1 : s = p.1
    · subst c1
      rw [if_pos rfl, if_pos rfl]
    · rw [if_neg c1, show (if p.1 = s then [p.2] else ([] : List Str)) = [] from if_neg (fun z => c1 z.symm), List.append_nil]
theorem boot_dict : bootBuiltins "dict" = some (.type "dict") := by decide +kernel
abbrev N_a_near : List Str := ["_law_raw", "_law_found", "_law_place", "_law_one", "_law_other"]
theorem sc_a_near : FnScope N_a_near ["_law_raw"] (defScope (topS 44)) := ⟨rfl, rfl, rfl, by decide +kernel, rfl, by decide +kernel, by decide +kernel⟩
def spANear : Sp := fun vs H Q _ => ∃ (r : Addr) (pl : List Str) (ts : List Pr) (rm : List Str), vs = [.ref r] ∧ RawAt (fun _ => True) H r pl ts rm ∧ pl.Nodup ∧ pl.length ≤ 1000 ∧ ts.length ≤ 1000 ∧ (∀ p ∈ ts, p.1 ∈ pl ∧ p.2 ∈ pl) ∧
  ∀ q l H', NearAt H' q (sortS pl) (fun s => sortS (nb ts s)) l → H q = none → (∀ s ∈ sortS pl, H (l s) = none) → Same H H' → Q (.ref q) H'
section
variable {P : Program} {w : World} {K : PySem.W.Frag} {mg : Str → Option Value} {base : Heap}
theorem bANear (Z : LawD K mg) : Binds K (Z.d 44) ["_law_raw"] [] := (Z.F 44 (by decide)).binds fun _ _ _ _ _ _ us hl => match us, hl with | [_], _ => rfl
theorem ok_a_near (Z : LawD K mg) : FnOk P w K mg base CX0 1 (Z.f 44) (Z.d 44) ["_law_raw"] spANear := by
  refine Fun.ok (Z.F 44 (by decide)) sc_a_near (fun vs H Q E h => ?_) (fun cdv A outer s H vs Q E hr h => ⟨_, pss_cons (ps_set (i := 1) sc_a_near.nd rfl (Or.inr rfl) (pe_callTy (call_dictP rfl) (by rfl) (Z.free "dict" (by decide)) boot_dict (pa_cons (pe_lc (own := [("_law_place", 2)]) (tt := tYes) rfl sc_a_near.nd (pi_list (pe_callB cr_sortQ (by rfl) Z.t.sorted boot_sorted (pa_cons (pe_ix ix_tup (pv 0) pe_int (fun _ _ => rfl)) pa_nil))) (blkOk_by (own := [("_law_place", 2)]) (N := N_a_near) (sc := defScope (topS 44)) (by decide +kernel)) (fun _ _ _ _ _ => (pg_name (i := 2) sc_a_near.nd rfl (Or.inl rfl))) (fun _ _ _ _ _ => pts_nil) (fun _ _ _ _ _ => (pe_tup (pa_cons (pv 2) (pa_cons (pe_lst pa_nil) pa_nil))))) pa_nil)))
  (pss_cons (ps_for PassesOwn.never rfl (pi_list (pe_ix ix_tup (pv 0) pe_int (fun _ _ => rfl))) (pg_tup rfl (pgs_cons (pg_name (i := 3) sc_a_near.nd rfl (Or.inl rfl)) (pgs_cons (pg_name (i := 4) sc_a_near.nd rfl (Or.inl rfl)) pgs_nil)))
    (pss_cons (ps_expr (pe_bm PySem.F.plainAttrs_list PySem.F.slot_list_append PySem.F.type_list_append mt_append (pe_dget (hu_of hr) (pv 1) (pv 3) (fun _ _ => rfl)) (pa_cons (pv 4) pa_nil)))
  (pss_one (ps_expr (pe_bm PySem.F.plainAttrs_list PySem.F.slot_list_append PySem.F.type_list_append mt_append (pe_dget (hu_of hr) (pv 1) (pv 4) (fun _ _ => rfl)) (pa_cons (pv 3) pa_nil))))))
  (pss_one (ps_ret (pe_callTy (call_dictP rfl) (by rfl) (Z.free "dict" (by decide)) boot_dict (pa_cons (pe_lock (pe_lc (own := [("_law_place", 2)]) (tt := tYes) (te := tTup (tCons (tVar 2) (tCons (tCB (rSortQ K) (tCons (tDGet (tVar 1) (tVar 2)) tNil)) tNil))) rfl sc_a_near.nd (pi_keys (pv 1)) (blkOk_by (own := [("_law_place", 2)]) (N := N_a_near) (sc := defScope (topS 44)) (by decide +kernel)) (fun _ _ _ _ _ => (pg_name (i := 2) sc_a_near.nd rfl (Or.inl rfl))) (fun _ _ _ _ _ => pts_nil) (fun _ _ _ _ _ => (pe_tup (pa_cons (pv 2) (pa_cons (pe_callB cr_sortQ (by rfl) Z.t.sorted boot_sorted (pa_cons (pe_dget (hu_of hr) (pv 1) (pv 2) (fun _ _ => rfl)) pa_nil)) pa_nil)))))) pa_nil))))), ?_⟩)
  · obtain ⟨r, pl, ts, rm, rfl, _⟩ := h
    rfl
  · obtain ⟨r, pl, ts, rm, rfl, ⟨aP, aT, aR, tv, hr0, hP, hT, pt, hR, _⟩, nd, lp, lt, hin, k⟩ := h
    have ndS : (sortS pl).Nodup := (sortS_perm pl).nodup_iff.mpr nd
    have lS : (sortS pl).length = pl.length := sortS_len pl
    refine ⟨_, rfl, r, _, 0, _, rfl, rfl, SqT.of hr0, rfl, aP, pl, rfl, .inl (SqL.of hP), fun u nu => ⟨u, rfl, ⟨_, SqL.of upd_same⟩, fun D hD => ?_⟩⟩
    have hDn : H D = none := by
      rw [upd_ne (ne_of_none upd_same hD).symm] at hD
      exact hD
    refine lc_list (xs := (sortS pl).map V.str) (fun i H' => ∃ ps l, H' D = some (.lst (ps.map V.ref)) ∧ PL K H' ps ((sortS pl).take i) (fun _ => []) l ∧ (∀ s ∈ (sortS pl).take i, H (l s) = none ∧ l s ≠ D) ∧ ps.length = i ∧ Same (upd H u (.lst ((sortS pl).map V.str))) H') ⟨[], fun _ => 0, upd_same, .nil, by simp, rfl, new_same hD⟩ ?_ ?_ ?_
    · rintro i H' hi ⟨ps, l, _, _, _, _, S⟩
      exact SqL.of (S _ _ upd_same)
    · rintro i x H' hx ⟨ps, l, hacc, pp, fr, pln, S⟩
      rw [List.getElem?_map] at hx
      cases es : (sortS pl)[i]? with
      | none => rw [es] at hx; cases hx
      | some s =>
        rw [es] at hx
        cases hx
        refine ⟨rfl, yes_of ⟨_, rfl, Nat.zero_le _, fun p np => ⟨by show 2 ≤ sizeLine; decide, fun T nT => ?_⟩⟩⟩
        have h2 := pp.more (f := fun _ => []) (take_mem ndS es) np nT
        have acc2 := ((new_same (o := .lst []) np).trans (new_same (o := .tup [.str s, .ref p]) nT)) _ _ hacc
        have S2 : Same (upd H u (.lst ((sortS pl).map V.str))) _ := S.trans ((new_same (o := .lst []) np).trans (new_same (o := .tup [.str s, .ref p]) nT))
        have pD : p ≠ D := (ne_of_none hacc np).symm
        have npH : H p = none := ((new_same nu).trans S).free np
        have fr2 : ∀ t ∈ (sortS pl).take i ++ [s], H (if t = s then p else l t) = none ∧ (if t = s then p else l t) ≠ D := fun t ht => by
          by_cases e : t = s
          · rw [if_pos e]
            exact ⟨npH, pD⟩
          · rw [if_neg e]
            rcases List.mem_append.mp ht with ht | ht
            · exact fr t ht
            · exact absurd (List.mem_singleton.mp ht) e
        refine ⟨_, acc2, ?_, ps ++ [T], fun t => if t = s then p else l t, ?_, ?_, ?_, ?_, ?_⟩
        · rw [List.length_map, pln]
          have := (List.getElem?_eq_some_iff.mp es).1
          exact small1000 (by omega)
        · rw [upd_same, List.map_append]
          rfl
        · rw [take_snoc es]
          exact PL.wr (show PL K (upd (upd H' p (.lst [])) T (.tup [.str s, .ref p])) _ _ _ _ from h2) (fun ys e => by rw [acc2] at e; cases e) (fun v ys e => by rw [acc2] at e; cases e) fun t ht => (fr2 t ht).2
        · rw [take_snoc es]
          exact fr2
        · rw [List.length_append, pln]; rfl
        · exact fun b o e => by
            rw [upd_ne (ne_of_none e hD)]
            exact S2 _ _ e
    rintro H1 ⟨ps, l, hacc, pp, fr, pln, S⟩
    rw [List.length_map, List.take_length] at pp fr
    refine ⟨D, ps, _, rfl, SqL.of hacc, pp.pr, fun q nq => ?_⟩
    rw [merge_strs ndS (fun s => V.ref (l s))]
    have SH : Same H H1 := (new_same nu).trans S
    have nqH : H q = none := SH.free nq
    have N0 : NearAt (upd H1 q (.dK ((sortS pl).map fun s => ((Sum.inr s : Key), V.ref (l s))))) q (sortS pl) (nb (ts.take 0)) l := ⟨upd_same, fun s hs => by
      rw [upd_ne (ne_of_none (pp.at_ s hs) nq)]
      exact pp.at_ s hs, pp.inj⟩
    have S0 : Same H (upd H1 q (.dK ((sortS pl).map fun s => ((Sum.inr s : Key), V.ref (l s))))) := SH.trans (new_same nq)
    refine ⟨_, rfl, r, _, 1, _, rfl, rfl, SqT.of (S0 _ _ hr0), rfl, aT, rfl, ⟨tv, SqL.of (S0 _ _ hT)⟩, for_list (xs := tv) (fun i σ H' => ∃ v3 v4, σ = [some (.ref r), some (.ref q), none, v3, v4] ∧ NearAt H' q (sortS pl) (nb (ts.take i)) l ∧ Same H H') ⟨none, none, rfl, N0, S0⟩ (fun i σ H' _ ⟨_, _, _, _, S⟩ => SqL.of (S _ _ hT)) ?_ ?_⟩
    · rintro i x σ H' hx ⟨v3, v4, rfl, N, S⟩
      have hi : i < ts.length := by
        rw [← pt.1]
        exact (List.getElem?_eq_some_iff.mp hx).1
      have hpi : ts[i]? = some ts[i] := List.getElem?_eq_getElem hi
      obtain ⟨t, rfl, ht⟩ := pt.2 i x _ hx hpi
      obtain ⟨h1, h2⟩ := hin _ (List.mem_of_getElem? hpi)
      have h1 := sortS_mem.mpr h1
      have h2 := sortS_mem.mpr h2
      refine ⟨t, _, rfl, SqT.of (S _ _ ht), rfl, _, _, rfl, _, _, rfl, rfl, ?_⟩
      have small : ∀ s, (nb (ts.take i) s).length + 5 < sizeLine := fun s => by
        have := nb_len (ts.take i) s
        rw [List.length_take] at this
        exact Nat.lt_of_le_of_lt (Nat.add_le_add_right (Nat.le_trans this (show 2 * min i ts.length ≤ 2000 by omega)) 5) (by decide)
      have e1 := DGet.k (k := Sum.inr ts[i].1) N.d
      rw [map_val (fun s => V.ref (l s)) h1] at e1
      refine ⟨_, rfl, _, rfl, q, _, rfl, e1, .inl ⟨rfl, _, SqL.of (N.at_ _ h1)⟩, _, rfl, l ts[i].1, _, _, rfl, rfl, N.at_ _ h1, ?_, ?_⟩
      · rw [List.length_map]
        have := small ts[i].1
        omega
      have N2 := N.put h1 ts[i].2
      rw [List.map_append] at N2
      have e2 := DGet.k (k := Sum.inr ts[i].2) N2.d
      rw [map_val (fun s => V.ref (l s)) h2] at e2
      refine ⟨_, rfl, _, rfl, q, _, rfl, e2, .inl ⟨rfl, _, SqL.of (N2.at_ _ h2)⟩, _, rfl, l ts[i].2, _, _, rfl, rfl, N2.at_ _ h2, ?_, ?_⟩
      · rw [List.length_map]
        have a1 := small ts[i].1
        have a2 := small ts[i].2
        split
        · rw [List.length_append]
          simp
          omega
        · omega
      have N3 := near_step N hpi h1 h2
      rw [List.map_append, List.map_append] at N3
      refine ⟨_, _, rfl, N3, ?_⟩
      exact fun b o e => by
        rw [upd_ne (ne_of_none e (fr _ h2).1), upd_ne (ne_of_none e (fr _ h1).1)]
        exact S b o e
    · rintro σ H2 ⟨v3, v4, rfl, N, S2⟩
      rw [pt.1, List.take_length] at N
      refine ⟨q, _, N.d, trivial, fun od => ⟨_, rfl, q, od, rfl, .inl ⟨_, upd_same, fun D2 hD2 => ?_⟩⟩⟩
      have lq : ∀ s ∈ sortS pl, l s ≠ q := fun s hs => N.ne hs
      have Sf : Same H (upd H2 q (.frz od (.dK ((sortS pl).map fun s => ((Sum.inr s : Key), V.ref (l s)))))) := fun b o e => by
        rw [upd_ne (ne_of_none e nqH)]
        exact S2 b o e
      have qD2 : q ≠ D2 := ne_of_none upd_same hD2
      have nD2H : H D2 = none := Sf.free hD2
      have lD2 : ∀ s ∈ sortS pl, l s ≠ D2 := fun s hs => ne_of_none (show (upd H2 q _) (l s) = _ from by rw [upd_ne (lq s hs)]; exact N.at_ s hs) hD2
      refine lc_it walk_keys (fun i H' => ∃ ps l2, H' D2 = some (.lst (ps.map V.ref)) ∧ PL K H' ps ((sortS pl).take i) (fun s => sortS (nb ts s)) l2 ∧ (∀ s ∈ (sortS pl).take i, H (l2 s) = none ∧ l2 s ≠ D2) ∧ ps.length = i ∧ H' q = some (.frz od (.dK ((sortS pl).map fun s => ((Sum.inr s : Key), V.ref (l s))))) ∧
          (∀ s ∈ sortS pl, H' (l s) = some (.lst ((nb ts s).map V.str))) ∧ Same H H') ⟨[], fun _ => 0, upd_same, .nil, by simp, rfl, by rw [upd_ne qD2]; exact upd_same, fun s hs => by rw [upd_ne (lD2 s hs), upd_ne (lq s hs)]; exact N.at_ s hs, Sf.trans (new_same hD2)⟩ ?_ ?_ ?_
      · rintro i H' hi ⟨ps, l2, _, _, _, _, hq, _⟩
        exact hq
      · rintro i x H' H3 hi ⟨ps, l2, hacc, pp2, fr2, pln2, hq, hls, S⟩ ⟨rfl, kk, vv, hkv, rfl⟩
        rw [List.getElem?_map] at hkv
        cases es : (sortS pl)[i]? with
        | none => rw [es] at hkv; cases hkv
        | some s =>
          rw [es] at hkv
          cases hkv
          have hs : s ∈ sortS pl := List.mem_of_getElem? es
          have dg : DGet H3 q (.str s) (some (V.ref (l s))) := .inl ⟨_, Sum.inr s, .inr ⟨od, hq⟩, rfl, (map_val (fun s => V.ref (l s)) hs).symm⟩
          refine ⟨rfl, yes_of ⟨_, rfl, _, rfl, _, rfl, q, _, rfl, dg, l s, nb ts s, rfl, .inl (SqL.of (hls s hs)), fun p np => ⟨by show 2 ≤ sizeLine; decide, fun T nT => ?_⟩⟩⟩
          have h2 := pp2.more (f := fun s => sortS (nb ts s)) (take_mem ndS es) np nT
          have SS := (new_same (o := .lst ((sortS (nb ts s)).map V.str)) np).trans (new_same (o := .tup [.str s, .ref p]) nT)
          have acc2 := SS _ _ hacc
          have q2' := SS _ _ hq
          have pD : p ≠ D2 := (ne_of_none hacc np).symm
          have npH : H p = none := S.free np
          have fr3 : ∀ t ∈ (sortS pl).take i ++ [s], H (if t = s then p else l2 t) = none ∧ (if t = s then p else l2 t) ≠ D2 := fun t ht => by
            by_cases e : t = s
            · rw [if_pos e]
              exact ⟨npH, pD⟩
            · rw [if_neg e]
              rcases List.mem_append.mp ht with ht | ht
              · exact fr2 t ht
              · exact absurd (List.mem_singleton.mp ht) e
          refine ⟨_, acc2, ?_, ps ++ [T], fun t => if t = s then p else l2 t, ?_, ?_, ?_, ?_, ?_, ?_, ?_⟩
          · rw [List.length_map, pln2]
            have := (List.getElem?_eq_some_iff.mp es).1
            exact small1000 (by omega)
          · rw [upd_same, List.map_append]
            rfl
          · rw [take_snoc es]
            exact h2.wr (fun ys e => by rw [acc2] at e; cases e) (fun v ys e => by rw [acc2] at e; cases e) fun t ht => (fr3 t ht).2
          · rw [take_snoc es]
            exact fr3
          · rw [List.length_append, pln2]; rfl
          · rw [upd_ne qD2]
            exact q2'
          · intro t ht
            rw [upd_ne (lD2 t ht)]
            exact SS _ _ (hls t ht)
          · exact fun b o e => by
              rw [upd_ne (ne_of_none e nD2H)]
              exact SS _ _ (S _ _ e)
      · rintro H3 ⟨ps, l2, hacc, pp2, fr2, pln2, hq, hls, S⟩
        rw [List.length_map, List.take_length] at pp2 fr2
        have l2q : ∀ s ∈ sortS pl, l2 s ≠ q := fun s hs z => by
          have := pp2.at_ s hs
          rw [z, hq] at this
          cases this
        have acc3 : (upd H3 q (.dK ((sortS pl).map fun s => ((Sum.inr s : Key), V.ref (l s))))) D2 = some (.lst (ps.map V.ref)) := by
          rw [upd_ne qD2.symm]
          exact hacc
        have pp3 := pp2.wr (D := q) (o := .dK ((sortS pl).map fun s => ((Sum.inr s : Key), V.ref (l s)))) (fun ys e => by rw [hq] at e; cases e) (fun v ys e => by rw [hq] at e; cases e) l2q
        refine ⟨hq, D2, ps, _, rfl, SqL.of acc3, pp3.pr, fun q3 n3 => ?_⟩
        rw [merge_strs ndS (fun s => V.ref (l2 s))]
        have S3 : Same H (upd H3 q (.dK ((sortS pl).map fun s => ((Sum.inr s : Key), V.ref (l s))))) := fun b o e => by
          rw [upd_ne (ne_of_none e nqH)]
          exact S b o e
        exact k q3 l2 _ ⟨upd_same, fun s hs => by rw [upd_ne (ne_of_none (pp3.at_ s hs) n3)]; exact pp3.at_ s hs, pp3.inj⟩ (S3.free n3) (fun s hs => (fr2 s hs).1) (S3.trans (new_same n3))
end
end E1

set_option Elab.async false
set_option linter.all false
set_option maxRecDepth 100000
set_option maxHeartbeats 8000000
namespace E1
open PySem PySem.Spec PyProof.Rows L2 G0
theorem hu65 {k : Nat} {A : Around} (r : Room k A) : A.units + 65 < cLine := by
  have := r.un
  omega
theorem atI_pred {α : Type} {xs : List α} {i : Nat} (h : i < xs.length) : ∃ v, atI xs ((i : Int) - 1) = some v ∧ xs[if i = 0 then xs.length - 1 else i - 1]? = some v := by
  cases i with
  | zero =>
    have ne : xs ≠ [] := fun e => by rw [e] at h; exact absurd h (Nat.lt_irrefl 0)
    refine ⟨xs.getLast ne, ?_, ?_⟩
    · have := atI_last xs.dropLast (xs.getLast ne)
      rw [List.dropLast_concat_getLast ne] at this
      exact this
    · rw [if_pos rfl, List.getLast_eq_getElem]
      exact List.getElem?_eq_getElem _
  | succ j =>
    have hj : j < xs.length := Nat.lt_of_succ_lt h
    refine ⟨xs[j], ?_, by rw [if_neg (Nat.succ_ne_zero j)]; exact List.getElem?_eq_getElem hj⟩
    rw [show ((j + 1 : Nat) : Int) - 1 = (j : Int) by omega]
    exact atI_nat (List.getElem?_eq_getElem hj)
theorem shp1 {q : Pr} (h : PyData.strOk q.1 = true ∧ PyData.strOk q.2 = true) : SeqAt.shaped (prD1 q) = true := by
  show ((prD1 q).canLay0 && decide ((prD1 q).depth ≤ 64)) = true
  rw [Bool.and_eq_true]
  exact ⟨by simp [prD1, PyData.canLay0, PyData.canLayAll0, h.1, h.2], decide_eq_true (by simp [prD1, PyData.depth, PyData.depthAll])⟩
theorem not_any {ts : List Pr} {q : Pr} (h : (!(ts.map prD1).any fun z => PyData.eqv z (prD1 q)) = true) : q ∉ ts := fun hm => by
  have : ((ts.map prD1).any fun z => PyData.eqv z (prD1 q)) = true := by
    rw [List.any_eq_true]
    exact ⟨prD1 q, List.mem_map.mpr ⟨q, hm, rfl⟩, by rw [eqv_pr]; exact decide_eq_true rfl⟩
  rw [this] at h
  cases h
theorem ints_perm {ys : List V} {js : List Int} (h : ys.Perm (js.map V.int)) : ∃ ks : List Int, ys = ks.map V.int ∧ ks.Perm js := by
  have hm : ∀ y ∈ ys, ∃ z, y = V.int z := fun y hy => by
    obtain ⟨z, _, rfl⟩ := List.mem_map.mp (h.mem_iff.mp hy)
    exact ⟨z, rfl⟩
  let g : V → Int := fun v => match v with
    | .int z => z
    | _ => 0
  have e : ys = (ys.map g).map V.int := by
    rw [List.map_map]
    refine (List.map_id ys).symm.trans (List.map_congr_left fun y hy => ?_)
    obtain ⟨z, rfl⟩ := hm y hy
    rfl
  refine ⟨ys.map g, e, ?_⟩
  have h2 := h.map g
  rw [List.map_map] at h2
  have e2 : (js.map (g ∘ V.int)) = js := (List.map_congr_left fun y _ => rfl).trans (List.map_id js)
  rw [e2] at h2
  exact h2
end E1

set_option Elab.async false
set_option linter.all false
set_option maxRecDepth 100000
set_option maxHeartbeats 4000000
/-! A loose copy: lists and tuples at will. -/
namespace E1
open PySem PySem.Spec PyProof.Rows L2 G0
/-- what may be copied, nested no deeper than n, by no more than k draws -/
def Lq (C p l : Addr) (H : Hp) : Nat → V → Nat → Prop
  | 0 => fun v _ => Kn C H v ∧ itemsOf H v = none
  | n + 1 => fun v k => (Kn C H v ∧ itemsOf H v = none) ∨ ∃ a xs c, v = .ref a ∧ itemsOf H v = some xs ∧ a ≠ p ∧ a ≠ l ∧ xs.length ≤ 2000 ∧ (∀ x ∈ xs, Lq C p l H n x c) ∧ 1 + xs.length * c ≤ k
/-- w, in the heap H', is a loose copy of v in the heap H; N: where its lists and tuples lie -/
def Lz (C : Addr) (N : Addr → Prop) (H H' : Hp) (n : Nat) (v w : V) : Prop := match n with
  | 0 => w = v ∧ Kn C H v ∧ itemsOf H v = none
  | n + 1 => (w = v ∧ Kn C H v ∧ itemsOf H v = none) ∨ ∃ xs ys a, itemsOf H v = some xs ∧ w = .ref a ∧ (H' a = some (.lst ys) ∨ H' a = some (.tup ys)) ∧ N a ∧ xs.length = ys.length ∧ ∀ (i : Nat) (x y : V), xs[i]? = some x → ys[i]? = some y → Lz C (fun c => N c ∧ c ≠ a) H H' n x y
theorem Lz.frame {C : Addr} {H H' H2 : Hp} : ∀ {n : Nat} {N : Addr → Prop} {v w : V}, (∀ c o, N c → H' c = some o → H2 c = some o) → Lz C N H H' n v w → Lz C N H H2 n v w
  | 0, _, _, _, _, h => h
  | n + 1, _, _, _, S, h => by
    rcases h with h | ⟨xs, ys, a, h1, h2, h3, h4, h5, h6⟩
    · exact .inl h
    · exact .inr ⟨xs, ys, a, h1, h2, h3.elim (fun e => .inl (S _ _ h4 e)) (fun e => .inr (S _ _ h4 e)), h4, h5, fun i x y e1 e2 => Lz.frame (fun c o hc e => S c o hc.1 e) (h6 i x y e1 e2)⟩
/-- its addresses are there -/
theorem Lz.weak {C : Addr} {H H' : Hp} : ∀ {n : Nat} {N N' : Addr → Prop} {v w : V}, (∀ c, N c → (∃ o, H' c = some o) → N' c) → Lz C N H H' n v w → Lz C N' H H' n v w
  | 0, _, _, _, _, _, h => h
  | n + 1, _, _, _, _, S, h => by
    rcases h with h | ⟨xs, ys, a, h1, h2, h3, h4, h5, h6⟩
    · exact .inl h
    · exact .inr ⟨xs, ys, a, h1, h2, h3, S _ h4 (h3.elim (fun e => ⟨_, e⟩) fun e => ⟨_, e⟩), h5, fun i x y e1 e2 => Lz.weak (fun c hc ho => ⟨S c hc.1 ho, hc.2⟩) (h6 i x y e1 e2)⟩
theorem kn_but {C p l : Addr} {H H1 : Hp} {v : V} {n : Nat} (k : Kn C H v) (e : itemsOf H v = none) (S : Stm H p l n) (B : But2 H H1 p l) : Kn C H1 v ∧ itemsOf H1 v = none := by
  obtain ⟨⟨xs, hp⟩, ys, hl⟩ := S.at_
  cases k with
  | non => exact ⟨.non, rfl⟩
  | bl b => exact ⟨.bl b, rfl⟩
  | int i => exact ⟨.int i, rfl⟩
  | str x => exact ⟨.str x, rfl⟩
  | lst h => rw [items_at.mpr (.inl h)] at e; cases e
  | tup h => rw [items_at.mpr (.inr h)] at e; cases e
  | @dic a kvs h =>
    have h1 := B _ _ h (ne_of h hp (fun z => by cases z)) (ne_of h hl (fun z => by cases z))
    exact ⟨.dic h1, by simp only [itemsOf, h1]⟩
  | @own a dx fs h =>
    have h1 := B _ _ h (ne_of h hp (fun z => by cases z)) (ne_of h hl (fun z => by cases z))
    exact ⟨.own h1, by simp only [itemsOf, h1]⟩
theorem items_but {p l a : Addr} {H H1 : Hp} {xs : List V} (e : itemsOf H (.ref a) = some xs) (B : But2 H H1 p l) (h1 : a ≠ p) (h2 : a ≠ l) : itemsOf H1 (.ref a) = some xs :=
  items_at.mpr ((items_at.mp e).elim (fun h => .inl (B _ _ h h1 h2)) fun h => .inr (B _ _ h h1 h2))
theorem Lq.but {C p l : Addr} {H H1 : Hp} {m : Nat} (S : Stm H p l m) (B : But2 H H1 p l) : ∀ {n : Nat} {v : V} {k : Nat}, Lq C p l H n v k → Lq C p l H1 n v k
  | 0, _, _, h => kn_but h.1 h.2 S B
  | n + 1, _, _, h => by
    rcases h with h | ⟨a, xs, c, rfl, h1, h2, h3, h4, h5, h6⟩
    · exact .inl (kn_but h.1 h.2 S B)
    · exact .inr ⟨a, xs, c, rfl, items_but h1 B h2 h3, h2, h3, h4, fun x hx => Lq.but S B (h5 x hx), h6⟩
theorem Lz.old {C p l : Addr} {H H1 H' : Hp} {m : Nat} (S : Stm H p l m) (B : But2 H H1 p l) : ∀ {n : Nat} {N : Addr → Prop} {v w : V} {k : Nat}, Lq C p l H n v k → Lz C N H1 H' n v w → Lz C N H H' n v w
  | 0, _, _, _, _, h, g => ⟨g.1, h⟩
  | n + 1, _, _, _, _, h, g => by
    rcases h with h | ⟨a, xs, c, rfl, h1, h2, h3, h4, h5, h6⟩
    · rcases g with g | ⟨xs, ys, a, g1, _⟩
      · exact .inl ⟨g.1, h⟩
      · rw [(kn_but h.1 h.2 S B).2] at g1
        cases g1
    · rcases g with g | ⟨xs', ys, b, g1, g2, g3, g4, g5, g6⟩
      · rw [items_but h1 B h2 h3] at g
        cases g.2.2
      · rw [items_but h1 B h2 h3] at g1
        cases g1
        exact .inr ⟨xs, ys, b, h1, g2, g3, g4, g5, fun i x y e1 e2 => Lz.old S B (h5 x (List.mem_of_getElem? e1)) (g6 i x y e1 e2)⟩
theorem seq_test {K : PySem.W.Frag} {C : Addr} {H H' : Hp} {v : V} (O : OwnC K C) (k : Kn C H v) (S : Same H H') : ∃ t, TyX K H' v t ∧ PySem.W.kitAny K t [.type "list", .type "tuple"] = some (itemsOf H v).isSome := by
  obtain ⟨k1, k2⟩ := k.same S
  obtain ⟨ty, h1, h2⟩ := kn_seq O k1
  refine ⟨ty, h1, ?_⟩
  rw [h2]
  unfold isSeq
  rw [k2]
  exact congrArg some (kn_items k)
theorem items_kn {C : Addr} {H : Hp} {a : Addr} {xs : List V} (e : itemsOf H (.ref a) = some xs) : Kn C H (.ref a) := (items_at.mp e).elim (fun h => .lst h) fun h => .tup h
theorem small1000' {n : Nat} (h : n ≤ 2000) : n < sizeLine := Nat.lt_of_le_of_lt h (by decide)
abbrev N_loose : List Str := ["_law_stream", "_law_thing", "_law_found", "_law_part"]
theorem sc_loose : FnScope N_loose ["_law_stream", "_law_thing"] (defScope (topS 59)) := ⟨rfl, rfl, rfl, by decide +kernel, rfl, by decide +kernel, by decide +kernel⟩
def spLoose (C : Addr) (n : Nat) : Sp := fun vs H Q _ => ∃ (p l : Addr) (m k : Nat) (v : V), vs = [.ref p, v] ∧ Stm H p l m ∧ m + k < 80000000 ∧ Lq C p l H n v k ∧ ∀ w H', Lz C (fun c => H c = none) H H' n v w → Fr H p l (m + k) H' → Q w H'
section
variable {P : Program} {w : World} {K : PySem.W.Frag} {mg : Str → Option Value} {base : Heap}
theorem bLoose (Z : LawD K mg) : Binds K (Z.d 59) ["_law_stream", "_law_thing"] [] := (Z.F 59 (by decide)).binds fun _ _ _ _ _ _ us hl => match us, hl with | [_, _], _ => rfl
theorem ok_loose (Z : LawD K mg) : ∀ n, FnOk P w K mg base CX0 (n + 2) (Z.f 59) (Z.d 59) ["_law_stream", "_law_thing"] (spLoose Z.B.C n)
  | 0 => by
    have GD : FnOk P w K mg base CX0 1 Z.s.fD Z.s.dD ["_law_stream", "_law_many"] spDr := ok_dr Z.s
    refine Fun.ok (Z.F 59 (by decide)) sc_loose (fun vs H Q E h => ?_) (fun cdv A outer s H vs Q E hr h => ⟨_, pss_cons (ps_if (pt_not (pt_val (pe_callB call_isiT (by rfl) Z.t.isinstance (by decide +kernel) (pa_cons (pv 1) (pa_cons (pe_tup (pa_cons (pe_bltn (by rfl) Z.t.list PyProof.Rows.boot_list (v := .ty "list") rfl) (pa_cons (pe_bltn (by rfl) Z.t.tuple boot_tuple (v := .ty "tuple") rfl) pa_nil))) pa_nil))))) (pss_one (ps_ret (pv 1))) pss_nil)
      (pss_cons (ps_setLc (i := 2) (own := [("_law_part", 3)]) (tt := tYes) rfl sc_loose.nd rfl rfl (by rfl) (pi_seqQ (pv 1)) (blkOk_by (own := [("_law_part", 3)]) (N := N_loose) (sc := defScope (topS 59)) (by decide +kernel)) (fun _ _ _ _ _ => (pg_name (i := 3) sc_loose.nd rfl (Or.inl rfl))) (fun _ _ _ _ _ => pts_nil) (fun _ _ _ _ _ => pe_dead))
      (pss_one (ps_ret (pe_ifExp (pt_cmpR op_eq (pe_call GD hr (by rfl) Z.s.gD Z.s.FD.kp (bDr Z.s) .nil pass0 (pa_cons (pv 0) (pa_cons pe_int pa_nil))) pe_int (nomark _)) (pv 2) (pe_callTy call_tuple_of (by rfl) Z.t.tuple boot_tuple (pa_cons (pv 2) pa_nil)))))), ?_⟩)
    · obtain ⟨p, l, m, k, v, rfl, _⟩ := h
      rfl
    · obtain ⟨p, l, m, k, v, rfl, S, hm, hv, kk⟩ := h
      refine ⟨_, rfl, by show 2 ≤ sizeLine; decide, fun t nt => ?_⟩
      obtain ⟨ty, h1, h2⟩ := seq_test Z.B.O hv.1 (new_same (o := .tup [.ty "list", .ty "tuple"]) nt)
      rw [hv.2] at h2
      refine ⟨v, t, _, ty, _, _, rfl, upd_same, .cons (.ty _) (.cons (.ty _) .nil), h1, h2, _, rfl, iteT ⟨_, rfl, ?_⟩⟩
      exact kk v _ ⟨rfl, hv⟩ ((S.fr.put nt).mono (by omega))
  | n + 1 => by
    have GD : FnOk P w K mg base CX0 1 Z.s.fD Z.s.dD ["_law_stream", "_law_many"] spDr := ok_dr Z.s
    have GL : FnOk P w K mg base CX0 (n + 2) (Z.f 59) (Z.d 59) ["_law_stream", "_law_thing"] (spLoose Z.B.C n) := ok_loose Z n
    refine Fun.ok (Z.F 59 (by decide)) sc_loose (fun vs H Q E h => ?_) (fun cdv A outer s H vs Q E hr h => ⟨_, pss_cons (ps_if (pt_not (pt_val (pe_callB call_isiT (by rfl) Z.t.isinstance (by decide +kernel) (pa_cons (pv 1) (pa_cons (pe_tup (pa_cons (pe_bltn (by rfl) Z.t.list PyProof.Rows.boot_list (v := .ty "list") rfl) (pa_cons (pe_bltn (by rfl) Z.t.tuple boot_tuple (v := .ty "tuple") rfl) pa_nil))) pa_nil))))) (pss_one (ps_ret (pv 1))) pss_nil)
      (pss_cons (ps_setLc (i := 2) (own := [("_law_part", 3)]) (tt := tYes) rfl sc_loose.nd rfl rfl (by rfl) (pi_seqQ (pv 1)) (blkOk_by (own := [("_law_part", 3)]) (N := N_loose) (sc := defScope (topS 59)) (by decide +kernel)) (fun _ _ _ _ _ => (pg_name (i := 3) sc_loose.nd rfl (Or.inl rfl))) (fun _ _ _ _ _ => pts_nil) (fun _ _ _ _ _ => (pe_call GL hr (by rfl) (Z.g 59 (by decide)) (Z.F 59 (by decide)).kp (bLoose Z) .nil pass0 (pa_cons (pv 0) (pa_cons (pv 3) pa_nil)))))
      (pss_one (ps_ret (pe_ifExp (pt_cmpR op_eq (pe_call GD (hr.mono (by omega)) (by rfl) Z.s.gD Z.s.FD.kp (bDr Z.s) .nil pass0 (pa_cons (pv 0) (pa_cons pe_int pa_nil))) pe_int (nomark _)) (pv 2) (pe_callTy call_tuple_of (by rfl) Z.t.tuple boot_tuple (pa_cons (pv 2) pa_nil)))))), ?_⟩)
    · obtain ⟨p, l, m, k, v, rfl, _⟩ := h
      rfl
    · obtain ⟨p, l, m, k, v, rfl, S, hm, hv, kk⟩ := h
      refine ⟨_, rfl, by show 2 ≤ sizeLine; decide, fun t nt => ?_⟩
      have ST := new_same (o := .tup [.ty "list", .ty "tuple"]) nt
      have FT : Fr H p l m (upd H t (.tup [.ty "list", .ty "tuple"])) := S.fr.put nt
      rcases hv with hv | ⟨a, xs, c, rfl, e1, ap, al, lx, hx, hc⟩
      · obtain ⟨ty, h1, h2⟩ := seq_test Z.B.O hv.1 ST
        rw [hv.2] at h2
        refine ⟨v, t, _, ty, _, _, rfl, upd_same, .cons (.ty _) (.cons (.ty _) .nil), h1, h2, _, rfl, iteT ⟨_, rfl, ?_⟩⟩
        exact kk v _ (.inl ⟨rfl, hv⟩) (FT.mono (by omega))
      obtain ⟨ty, h1, h2⟩ := seq_test Z.B.O (items_kn (C := Z.B.C) e1) ST
      rw [e1] at h2
      refine ⟨.ref a, t, _, ty, _, _, rfl, upd_same, .cons (.ty _) (.cons (.ty _) .nil), h1, h2, _, rfl, iteF ?_⟩
      refine ⟨_, rfl, a, xs, rfl, lc_seqQ2 (items_Q (K := K) (items_same ST e1)) fun D hD => ?_⟩
      have nD := FT.free hD
      refine ⟨fun i H' => ∃ ys, H' D = some (.lst ys) ∧ ys.length = i ∧ (∀ (j : Nat) (x y : V), xs[j]? = some x → ys[j]? = some y → Lz Z.B.C (fun c => H c = none ∧ c ≠ D) H H' n x y) ∧ Fr H p l (m + i * c) H', ⟨[], upd_same, rfl, (fun j x y _ h => by simp at h), (FT.put nD).mono (by omega)⟩, ?_, ?_, ?_⟩
      · rintro i H' _ ⟨ys, _, _, _, F'⟩
        have key := items_but e1 F'.but ap al
        have keyT := items_same ST e1
        have hh : (upd H t (.tup [.ty "list", .ty "tuple"])) a = H' a := by
          rcases items_at.mp e1 with h | h
          · rw [ST _ _ h, F'.but _ _ h ap al]
          · rw [ST _ _ h, F'.but _ _ h ap al]
        refine ⟨fun zs h => ?_, fun zs h => ?_⟩
        · rcases h with (h | ⟨o, h⟩) | h
          · exact .inl (.inl (hh ▸ h))
          · exact .inl (.inr ⟨o, hh ▸ h⟩)
          · exact .inr h
        · rcases h with (h | ⟨o, h⟩) | h
          · exact .inl (.inl (hh ▸ h))
          · exact .inl (.inr ⟨o, hh ▸ h⟩)
          · exact .inr h
      · rintro i x H' hxi ⟨ys, hys, ly, hz, F'⟩
        have il := (List.getElem?_eq_some_iff.mp hxi).1
        have hx' := hx x (List.mem_of_getElem? hxi)
        have hm1 : (i + 1) * c ≤ xs.length * c := Nat.mul_le_mul_right c il
        rw [Nat.succ_mul] at hm1
        refine ⟨rfl, yes_of ⟨_, rfl, _, rfl, p, l, m + i * c, c, x, rfl, F'.st, by omega, hx'.but S F'.but, fun w H2 hw F2 => ?_⟩⟩
        have hys2 := F'.keep F2 nD hys
        refine ⟨ys, hys2, small1000' (by omega), ys ++ [w], upd_same, by rw [List.length_append, ly]; rfl, ?_, ?_⟩
        · intro j x' y h1 h2
          refine Lz.frame (H' := H2) (fun c' o hc' e => by rw [upd_ne hc'.2]; exact e) ?_
          rcases Nat.lt_trichotomy j ys.length with l | l | l
          · rw [List.getElem?_append_left l] at h2
            exact (hz j x' y h1 h2).frame fun c' o hc' e => F'.keep F2 hc'.1 e
          · rw [l, ly, hxi] at h1
            cases h1
            rw [List.getElem?_append_right (by omega), l, Nat.sub_self] at h2
            cases h2
            exact (Lz.old S F'.but hx' hw).weak fun c' hc' _ => ⟨F'.free hc', fun z => by rw [z, hys] at hc'; cases hc'⟩
          · rw [List.getElem?_eq_none (by rw [List.length_append]; simp; omega)] at h2
            cases h2
        · refine ((F'.trans F2).put nD).mono ?_
          rw [Nat.succ_mul]
          omega
      · rintro H' ⟨ys, hys, ly, hz, F'⟩
        refine ⟨_, rfl, p, l, _, 3, rfl, F'.st, by omega, by decide, by decide, fun r H3 hr3 F3 => ⟨rfl, _, rfl, ?_⟩⟩
        have hys3 := F'.keep F3 nD hys
        have F13 := F'.trans F3
        have hz3 : ∀ (j : Nat) (x y : V), xs[j]? = some x → ys[j]? = some y → Lz Z.B.C (fun c => H c = none ∧ c ≠ D) H H3 n x y := fun j x y h1 h2 => (hz j x y h1 h2).frame fun c' o hc' e => F'.keep F3 hc'.1 e
        refine ite2 (fun _ => ⟨_, rfl, ?_⟩) (fun _ => ⟨_, rfl, D, ys, rfl, .inl ⟨SqL.of hys3, fun t2 nt2 => ?_⟩⟩)
        · exact kk (.ref D) H3 (.inr ⟨xs, ys, D, e1, rfl, .inl hys3, nD, ly.symm, hz3⟩) (F13.mono (by omega))
        · have n2 := F13.free nt2
          refine kk (.ref t2) _ (.inr ⟨xs, ys, t2, e1, rfl, .inr upd_same, n2, ly.symm, fun j x y h1 h2 => ?_⟩) ((F13.put n2).mono (by omega))
          exact ((hz3 j x y h1 h2).weak (N' := fun c => H c = none ∧ c ≠ t2) fun c hc ho => ⟨hc.1, fun z => by
            obtain ⟨o, ho⟩ := ho
            rw [z, nt2] at ho
            cases ho⟩).frame fun c' o _ e => new_same nt2 _ _ e
end
end E1


set_option Elab.async false
set_option linter.all false
set_option maxRecDepth 100000
set_option maxHeartbeats 8000000
/-! A board made of a raw one. -/
namespace E1
open PySem PySem.Spec PyProof.Rows L2 G0
theorem prs_but {H H2 : Hp} {p l : Addr} {m : Nat} {tv : List V} {ts : List Pr} (F2 : Fr H p l m H2) (pt : PrsAt H tv ts) (fr : ∀ t, V.ref t ∈ tv → t ≠ p ∧ t ≠ l) : PrsAt H2 tv ts := ⟨pt.1, fun i v q e1 e2 => by
  obtain ⟨t, rfl, ht⟩ := pt.2 i v q e1 e2
  have h := fr t (List.mem_of_getElem? e1)
  exact ⟨t, rfl, F2.but _ _ ht h.1 h.2⟩⟩
/-- a list or a tuple of texts; N: where it lies -/
def HP (N : Addr → Prop) (H : Hp) (v : V) (ss : List Str) : Prop := ∃ a, v = .ref a ∧ itemsOf H v = some (ss.map V.str) ∧ N a
/-- a list or a tuple of pairs, either way about -/
def HT (N : Addr → Prop) (H : Hp) (v : V) (ps : List Pr) : Prop := ∃ a xs, v = .ref a ∧ itemsOf H v = some xs ∧ xs.length = ps.length ∧ N a ∧
  ∀ (j : Nat) (x : V) (q : Pr), xs[j]? = some x → ps[j]? = some q → ∃ u y z, x = .ref u ∧ itemsOf H x = some [.str y, .str z] ∧ tp y z = q ∧ N u
theorem itemsF {N : Addr → Prop} {H H' : Hp} {a : Addr} {xs : List V} (e : itemsOf H (.ref a) = some xs) (n : N a) (S : ∀ c o, N c → H c = some o → H' c = some o) : itemsOf H' (.ref a) = some xs :=
  items_at.mpr ((items_at.mp e).elim (fun h => .inl (S _ _ n h)) fun h => .inr (S _ _ n h))
theorem HP.frame {N : Addr → Prop} {H H' : Hp} {v : V} {ss : List Str} (h : HP N H v ss) (S : ∀ c o, N c → H c = some o → H' c = some o) : HP N H' v ss := by
  obtain ⟨a, rfl, e, n⟩ := h
  exact ⟨a, rfl, itemsF e n S, n⟩
theorem HT.frame {N : Addr → Prop} {H H' : Hp} {v : V} {ps : List Pr} (h : HT N H v ps) (S : ∀ c o, N c → H c = some o → H' c = some o) : HT N H' v ps := by
  obtain ⟨a, xs, rfl, e, l, n, k⟩ := h
  exact ⟨a, xs, rfl, itemsF e n S, l, n, fun j x q e1 e2 => by
    obtain ⟨u, y, z, rfl, e4, e5, e6⟩ := k j x q e1 e2
    exact ⟨u, y, z, rfl, itemsF e4 e6 S, e5, e6⟩⟩
theorem HP.weak {N N' : Addr → Prop} {H : Hp} {v : V} {ss : List Str} (h : HP N H v ss) (k : ∀ c, N c → N' c) : HP N' H v ss := by
  obtain ⟨a, rfl, e, n⟩ := h
  exact ⟨a, rfl, e, k _ n⟩
theorem HT.weak {N N' : Addr → Prop} {H : Hp} {v : V} {ps : List Pr} (h : HT N H v ps) (k : ∀ c, N c → N' c) : HT N' H v ps := by
  obtain ⟨a, xs, rfl, e, l, n, kk⟩ := h
  exact ⟨a, xs, rfl, e, l, k _ n, fun j x q e1 e2 => by
    obtain ⟨u, y, z, rfl, e4, e5, e6⟩ := kk j x q e1 e2
    exact ⟨u, y, z, rfl, e4, e5, k _ e6⟩⟩
theorem HP.lst {N : Addr → Prop} {H : Hp} {a : Addr} {ss : List Str} (h : H a = some (.lst (ss.map V.str))) (n : N a) : HP N H (.ref a) ss := ⟨a, rfl, items_at.mpr (.inl h), n⟩
theorem HT.lst {N : Addr → Prop} {H : Hp} {a : Addr} {tv : List V} {ps : List Pr} (h : H a = some (.lst tv)) (pt : PrsAt H tv ps) (lt : ∀ q ∈ ps, ltS q.1 q.2 = true) (n : N a) (n2 : ∀ t, V.ref t ∈ tv → N t) : HT N H (.ref a) ps := ⟨a, tv, rfl, items_at.mpr (.inl h), pt.1, n, fun j x q e1 e2 => by
  obtain ⟨t, rfl, ht⟩ := pt.2 j x q e1 e2
  exact ⟨t, q.1, q.2, rfl, items_at.mpr (.inr ht), tp_self (lt q (List.mem_of_getElem? e2)), n2 t (List.mem_of_getElem? e1)⟩⟩
theorem prs_perm {H : Hp} {vs ws : List V} {ps : List Pr} (h : PrsAt H vs ps) (p : ws.Perm vs) : ∃ qs : List Pr, qs.Perm ps ∧ PrsAt H ws qs := by
  let f : V → Pr := fun v => match v with
    | .ref t => match H t with
      | some (.tup [.str a, .str b]) => (a, b)
      | _ => default
    | _ => default
  have hf : ∀ (i : Nat) (v : V) (q : Pr), vs[i]? = some v → ps[i]? = some q → f v = q := fun i v q e1 e2 => by
    obtain ⟨t, rfl, ht⟩ := h.2 i v q e1 e2
    simp only [f, ht]
  have e : ps = vs.map f := by
    refine List.ext_getElem? fun i => ?_
    rw [List.getElem?_map]
    rcases Nat.lt_or_ge i vs.length with l | l
    · have l2 : i < ps.length := by rw [← h.1]; exact l
      rw [List.getElem?_eq_getElem l, List.getElem?_eq_getElem l2]
      exact congrArg some (hf i _ _ (List.getElem?_eq_getElem l) (List.getElem?_eq_getElem l2)).symm
    · rw [List.getElem?_eq_none l, List.getElem?_eq_none (by rw [← h.1]; exact l)]
      rfl
  refine ⟨ws.map f, by rw [e]; exact p.map f, by rw [List.length_map], fun i v q e1 e2 => ?_⟩
  rw [List.getElem?_map, e1] at e2
  have e2' : f v = q := by injection e2
  obtain ⟨j, hj⟩ := List.getElem?_of_mem (p.mem_iff.mp (List.mem_of_getElem? e1))
  have l2 : j < ps.length := by rw [← h.1]; exact (List.getElem?_eq_some_iff.mp hj).1
  obtain ⟨t, et, ht⟩ := h.2 j v _ hj (List.getElem?_eq_getElem l2)
  have := hf j v _ hj (List.getElem?_eq_getElem l2)
  rw [← e2', this]
  exact ⟨t, et, ht⟩
theorem nameB_len {z : Str} (h : nameB z = true) : z.length ≤ 1000 := by
  unfold nameB at h
  simp only [Bool.and_eq_true, decide_eq_true_eq] at h
  omega
theorem HP.kn {N : Addr → Prop} {C : Addr} {H : Hp} {v : V} {ss : List Str} (h : HP N H v ss) : Kn C H v := by
  obtain ⟨a, rfl, e, _⟩ := h
  exact items_kn e
theorem HT.kn {N : Addr → Prop} {C : Addr} {H : Hp} {v : V} {ps : List Pr} (h : HT N H v ps) : Kn C H v := by
  obtain ⟨a, xs, rfl, e, _⟩ := h
  exact items_kn e
/-- Board(p, t, r) of right things -/
theorem made_ok {N N2 N3 : Addr → Prop} {mg : Str → Option Value} {K : PySem.W.Frag} {D : BoardD K mg} {H : Hp} {p t r : V} {ps : List Str} {qs : List Pr} {rs : List Str} {nx : List Str → List Pr → List Str → Prop} {E : XK} (hp : HP N H p ps) (ht : HT N2 H t qs) (hr : HP N3 H r rs)
    (nd : ps.Nodup) (nm : ∀ z ∈ ps, nameB z = true) (lp : ps.length ≤ 1000) (tok : TsOk ps qs) (lq : qs.length ≤ 1000) (rnd : rs.Nodup) (rin : ∀ z ∈ rs, z ∈ ps) (q : nx ps qs rs) : MadeR K D H p t r nx E := by
  have lr : rs.length ≤ 1000 := Nat.le_trans (rnd.length_le_of_subset rin) lp
  obtain ⟨a, xs, rfl, e1, l1, _, k1⟩ := id ht
  have hx : ∀ x ∈ xs, ∃ u y z q, x = .ref u ∧ itemsOf H x = some [.str y, .str z] ∧ q ∈ qs ∧ tp y z = q := fun x hx => by
    obtain ⟨j, hj⟩ := List.getElem?_of_mem hx
    have hl : j < qs.length := by
      rw [← l1]
      exact (List.getElem?_eq_some_iff.mp hj).1
    obtain ⟨u, y, z, g1, g2, g3, _⟩ := k1 j x _ hj (List.getElem?_eq_getElem hl)
    exact ⟨u, y, z, _, g1, g2, List.getElem_mem hl, g3⟩
  have inP : ∀ y z, tp y z ∈ qs → y ∈ ps ∧ z ∈ ps ∧ y ≠ z := fun y z h => by
    obtain ⟨g1, g2, g3⟩ := tok.ok _ h
    have ne : y ≠ z := fun e => by
      subst e
      rcases tp_cases y y with e | e <;> rw [e] at g3 <;> exact absurd g3 (by rw [ltS_irr]; decide)
    rcases tp_cases y z with e | e <;> rw [e] at g1 g2
    · exact ⟨g1, g2, ne⟩
    · exact ⟨g2, g1, ne⟩
  refine ⟨hp.kn, .inr ⟨ps, ?_, lp, fun z hz => nameB_len (nm z hz), ⟨nd, nm⟩, ht.kn, .inr ⟨xs, qs, e1, by omega, ?_, l1.symm, ⟨tok.nd, by omega, ?_⟩, hr.kn, .inr ⟨rs, ?_, lr, fun z hz => nameB_len (nm z (rin z hz)), ⟨rnd, rin⟩, q⟩⟩⟩⟩
  · obtain ⟨_, _, e, _⟩ := hp
    exact e
  · intro x hm
    obtain ⟨u, y, z, q, rfl, g2, g3, g4⟩ := hx x hm
    refine ⟨items_kn g2, fun ys hys => ?_⟩
    rw [g2] at hys
    cases hys
    have h3 := inP y z (g4 ▸ g3)
    refine ⟨by show 2 ≤ 1000; decide, fun w hw => ?_⟩
    rcases List.mem_cons.mp hw with rfl | hw
    · exact ⟨.str y, fun z' e => by cases e; exact nameB_len (nm y h3.1)⟩
    · rw [List.mem_singleton.mp hw]
      exact ⟨.str z, fun z' e => by cases e; exact nameB_len (nm z h3.2.1)⟩
  · intro j x q e2 e3
    obtain ⟨u, y, z, rfl, g2, g3, _⟩ := k1 j x q e2 e3
    have h3 := inP y z (g3 ▸ List.mem_of_getElem? e3)
    exact ⟨y, z, g2, h3.2.2, h3.1, h3.2.1, g3⟩
  · obtain ⟨_, _, e, _⟩ := hr
    exact e
/-! ### what may be copied loosely -/
theorem lq_strs {C p l : Addr} {N : Addr → Prop} {H : Hp} {v : V} {ss : List Str} {n k : Nat} (h : HP N H v ss) (hN : ∀ c, N c → c ≠ p ∧ c ≠ l) (ls : ss.length ≤ 2000) (hk : 1 ≤ k) : Lq C p l H (n + 1) v k := by
  obtain ⟨a, rfl, e, na⟩ := h
  refine .inr ⟨a, _, 0, rfl, e, (hN a na).1, (hN a na).2, by rw [List.length_map]; exact ls, fun x hx => ?_, by omega⟩
  obtain ⟨z, _, rfl⟩ := List.mem_map.mp hx
  cases n with
  | zero => exact ⟨.str z, rfl⟩
  | succ n => exact .inl ⟨.str z, rfl⟩
theorem lq_prs {C p l : Addr} {N : Addr → Prop} {H : Hp} {v : V} {ps : List Pr} {n k : Nat} (h : HT N H v ps) (hN : ∀ c, N c → c ≠ p ∧ c ≠ l) (ls : ps.length ≤ 2000) (hk : 1 + ps.length ≤ k) : Lq C p l H (n + 2) v k := by
  obtain ⟨a, xs, rfl, e, l1, na, k1⟩ := h
  refine .inr ⟨a, xs, 1, rfl, e, (hN a na).1, (hN a na).2, by omega, fun x hx => ?_, by omega⟩
  obtain ⟨j, hj⟩ := List.getElem?_of_mem hx
  have hl : j < ps.length := by
    rw [← l1]
    exact (List.getElem?_eq_some_iff.mp hj).1
  obtain ⟨u, y, z, rfl, g2, g3, nu⟩ := k1 j x _ hj (List.getElem?_eq_getElem hl)
  exact lq_strs (ss := [y, z]) ⟨u, rfl, g2, nu⟩ hN (by show 2 ≤ 2000; decide) (Nat.le_refl _)
theorem lz_strs {C : Addr} {N N0 : Addr → Prop} {H H' : Hp} {v w : V} {ss : List Str} {n : Nat} (h : HP N0 H v ss) (z : Lz C N H H' (n + 1) v w) : HP N H' w ss := by
  obtain ⟨a, rfl, e, _⟩ := h
  rcases z with ⟨_, _, e2⟩ | ⟨xs, ys, b, e1, rfl, hb, nb, ll, k⟩
  · rw [e] at e2
    cases e2
  · rw [e] at e1
    cases e1
    have ey : ys = ss.map V.str := by
      refine List.ext_getElem? fun i => ?_
      rcases Nat.lt_or_ge i ys.length with h | h
      · have h2 : i < (ss.map V.str).length := by omega
        have e3 := List.getElem?_eq_getElem h
        have e4 := List.getElem?_eq_getElem h2
        have hz := k i _ _ e4 e3
        have key : ys[i] = (ss.map V.str)[i] := by
          obtain ⟨s, _, es⟩ := List.mem_map.mp (List.mem_of_getElem? e4)
          cases n with
          | zero => exact hz.1
          | succ n =>
            rcases hz with h | ⟨xs, ys, a, h1, _⟩
            · exact h.1
            · rw [← es] at h1
              cases h1
        rw [e3, e4, key]
      · rw [List.getElem?_eq_none h, List.getElem?_eq_none (by omega)]
    subst ey
    exact ⟨b, rfl, items_at.mpr hb, nb⟩
theorem lz_prs {C : Addr} {N N0 : Addr → Prop} {H H' : Hp} {v w : V} {ps : List Pr} {n : Nat} (h : HT N0 H v ps) (z : Lz C N H H' (n + 2) v w) : HT N H' w ps := by
  obtain ⟨a, xs, rfl, e, l1, _, k1⟩ := h
  rcases z with ⟨_, _, e2⟩ | ⟨xs', ys, b, e1, rfl, hb, nb, ll, k⟩
  · rw [e] at e2
    cases e2
  · rw [e] at e1
    cases e1
    refine ⟨b, ys, rfl, items_at.mpr hb, by omega, nb, fun j y q e2 e3 => ?_⟩
    have hl : j < xs.length := by
      have := (List.getElem?_eq_some_iff.mp e2).1
      omega
    obtain ⟨u, s, t, g1, g2, g3, g4⟩ := k1 j _ q (List.getElem?_eq_getElem hl) e3
    have hz := k j _ y (List.getElem?_eq_getElem hl) e2
    obtain ⟨b', rfl, g5, g6⟩ := lz_strs (N0 := N0) (ss := [s, t]) ⟨u, g1, g2, g4⟩ hz
    exact ⟨b', s, t, rfl, g5, g3, g6.1⟩
abbrev N_a_made : List Str := ["_law_stream", "_law_raw", "_law_ties", "_law_pair", "_law_places"]
theorem sc_a_made : FnScope N_a_made ["_law_stream", "_law_raw"] (defScope (topS 45)) := ⟨rfl, rfl, rfl, by decide +kernel, rfl, by decide +kernel, by decide +kernel⟩
def spMade (C : Addr) : Sp := fun vs H Q _ => ∃ (p l q : Addr) (n : Nat) (N : Addr → Prop) (pl : List Str) (ts : List Pr) (rm : List Str), vs = [.ref p, .ref q] ∧ Stm H p l n ∧ n < 70000000 ∧ RawAt N H q pl ts rm ∧ (∀ c, N c → c ≠ p ∧ c ≠ l) ∧ RawOk pl ts rm ∧
  ∀ x H', BoardAt (fun c => H c = none) C H' x (sortS pl) (sortPr ts) rm → Fr H p l (n + 4000) H' → Q (.ref x) H'
section
variable {P : Program} {w : World} {K : PySem.W.Frag} {mg : Str → Option Value} {base : Heap}
theorem bInit (B : BoardD K mg) : Binds K (B.d 0) ["self", "places", "ties", "rim"] [] := bindsD B.F0 fun _ _ _ _ _ _ us hl => match us, hl with | [_, _, _, _], _ => rfl
theorem bMade (Z : LawD K mg) : Binds K (Z.d 45) ["_law_stream", "_law_raw"] [] := (Z.F 45 (by decide)).binds fun _ _ _ _ _ _ us hl => match us, hl with | [_, _], _ => rfl
theorem ok_a_made (Z : LawD K mg) : FnOk P w K mg base (L2.CX P w) 6 (Z.f 45) (Z.d 45) ["_law_stream", "_law_raw"] (spMade Z.B.C) := by
  have GM : FnOk P w K mg base CX0 2 Z.s.fM Z.s.dM ["_law_stream", "_law_some"] (spMx K) := ok_mx Z.s
  have GD : FnOk P w K mg base CX0 1 Z.s.fD Z.s.dD ["_law_stream", "_law_many"] spDr := ok_dr Z.s
  have GL : FnOk P w K mg base CX0 4 (Z.f 59) (Z.d 59) ["_law_stream", "_law_thing"] (spLoose Z.B.C 2) := ok_loose Z 2
  have GI : FnOk P w K mg base (L2.CX P w) 4 (Z.B.f 0) (Z.B.d 0) ["self", "places", "ties", "rim"] (spInit K Z.B) := ok_init Z.B Z.n Z.t
  refine Fun.okX (Z.F 45 (by decide)) sc_a_made (fun vs H Q E h => ?_) (fun cdv A outer s H vs Q E hr h => ⟨_, pss_cons (ps_setLc (i := 2) (own := [("_law_pair", 3)]) (tt := tYes) (te := tIf (tTest (tOp rEq (tCall spDr [] L2.E0 (tCons (tVar 0) (tCons (tC (.int 2)) tNil))) (tC (.int 0)))) (tVar 3) (tTup (tCons (tOp (rIxT K) (tVar 3) (tC (.int 1))) (tCons (tOp (rIxT K) (tVar 3) (tC (.int 0))) tNil)))) rfl sc_a_made.nd rfl rfl (by rfl) (pi_list (pe_call GM (hr.mono (by decide)) (by rfl) Z.s.gM Z.s.FM.kp (bMx Z.s) .nil pass0 (pa_cons (pv 0) (pa_cons (pe_ix ix_tup (pv 1) pe_int (fun _ _ => rfl)) pa_nil)))) (blkOk_by (own := [("_law_pair", 3)]) (N := N_a_made) (sc := defScope (topS 45)) (by decide +kernel)) (fun _ _ _ _ _ => (pg_name (i := 3) sc_a_made.nd rfl (Or.inl rfl))) (fun _ _ _ _ _ => pts_nil) (fun _ _ _ _ _ => (pe_ifExp (pt_cmpR op_eq (pe_call GD (hr.mono (by decide)) (by rfl) Z.s.gD Z.s.FD.kp (bDr Z.s) .nil pass0 (pa_cons (pv 0) (pa_cons pe_int pa_nil))) pe_int (nomark _)) (pv 3) (pe_tup (pa_cons (pe_ix ix_tup (pv 3) pe_int (fun _ _ => rfl)) (pa_cons (pe_ix ix_tup (pv 3) pe_int (fun _ _ => rfl)) pa_nil))))))
  (pss_cons (ps_set (i := 4) sc_a_made.nd rfl (Or.inl rfl) (pe_call GL (hr.mono (by decide)) (by rfl) (Z.g 59 (by decide)) (Z.F 59 (by decide)).kp (bLoose Z) .nil pass0 (pa_cons (pv 0) (pa_cons (pe_call GM (hr.mono (by decide)) (by rfl) Z.s.gM Z.s.FM.kp (bMx Z.s) .nil pass0 (pa_cons (pv 0) (pa_cons (pe_ix ix_tup (pv 1) pe_int (fun _ _ => rfl)) pa_nil))) pa_nil))))
  (pss_one (ps_ret (pe_make Z.B.M0 GI hr (by rfl) Z.B.g (bInit Z.B) .nil passL (pa_cons (pv 4) (pa_cons (pe_call GL (hr.mono (by decide)) (by rfl) (Z.g 59 (by decide)) (Z.F 59 (by decide)).kp (bLoose Z) .nil pass0 (pa_cons (pv 0) (pa_cons (pv 2) pa_nil))) (pa_cons (pe_call GL (hr.mono (by decide)) (by rfl) (Z.g 59 (by decide)) (Z.F 59 (by decide)).kp (bLoose Z) .nil pass0 (pa_cons (pv 0) (pa_cons (pe_ix ix_tup (pv 1) pe_int (fun _ _ => rfl)) pa_nil))) pa_nil))))))), ?_⟩)
  · obtain ⟨p, l, q, n, N, pl, ts, rm, rfl, _⟩ := h
    rfl
  · obtain ⟨p, l, q, n, N, pl, ts, rm, rfl, S, hn, raw0, hN, ok, k⟩ := h
    obtain ⟨aP, aT, aR, tv, g1, g2, g3, g4, g5, nq, nP, nT, nR, nt⟩ := id raw0
    have lts := ok.ts.len ok.len
    have ltv : tv.length = ts.length := g4.1
    have lpl := ok.len
    refine ⟨_, rfl, _, rfl, q, _, 1, _, rfl, rfl, SqT.of g1, rfl, p, l, aT, n, tv, rfl, S, by omega, SqL.of g3, by omega, fun s ys H1 hperm F1 ns hs => ⟨s, rfl, ⟨_, SqL.of hs⟩, fun D hD => ?_⟩⟩
    have pt1 := prs_but F1 g4 fun t ht => hN t (nt t ht)
    obtain ⟨us, uperm, pty⟩ := prs_perm pt1 hperm
    have toku : TsOk pl us := ok.ts.perm uperm
    have lus : us.length = ts.length := uperm.length_eq
    have nyN : ∀ t, V.ref t ∈ ys → t ≠ p ∧ t ≠ l := fun t ht => hN t (nt t (hperm.mem_iff.mp ht))
    have nD := F1.free hD
    have Ds : s ≠ D := ne_of_none hs hD
    have ly : ys.length = ts.length := by rw [hperm.length_eq, ltv]
    refine lc_list (xs := ys) (fun i H' => ∃ acc, H' D = some (.lst acc) ∧ acc.length = i ∧ (∀ (j : Nat) (x : V) (q : Pr), acc[j]? = some x → us[j]? = some q → ∃ u y z, x = .ref u ∧ H' u = some (.tup [.str y, .str z]) ∧ tp y z = q ∧ u ≠ p ∧ u ≠ l) ∧ H' s = some (.lst ys) ∧ PrsAt H' ys us ∧ Fr H p l (n + ts.length + i) H') ⟨[], upd_same, rfl, (fun j x q h => by simp at h), by rw [upd_ne Ds]; exact hs, prs_upd pty (fun xs e => by rw [hD] at e; cases e), (F1.put nD).mono (by omega)⟩ (fun i H' _ ⟨_, _, _, _, h, _⟩ => SqL.of h) ?_ ?_
    · rintro i x H' hx ⟨acc, hacc, lac, hin, hs', pt', F'⟩
      have il := (List.getElem?_eq_some_iff.mp hx).1
      have eu : us[i]? = some (us[i]'(by omega)) := List.getElem?_eq_getElem _
      obtain ⟨u, rfl, hu⟩ := pt'.2 i x _ hx eu
      have nu := nyN u (List.mem_of_getElem? hx)
      have lti := (toku.ok _ (List.mem_of_getElem? eu)).2.2
      -- what is put behind
      have put : ∀ (H2 : Hp) (t : Addr) (y z : Str), Fr H' p l (n + ts.length + (i + 1)) H2 → H2 t = some (.tup [.str y, .str z]) → tp y z = us[i]'(by omega) → t ≠ p → t ≠ l → ∃ acc2, H2 D = some (.lst acc2) ∧ acc2.length < sizeLine ∧ ∃ acc, (upd H2 D (.lst (acc2 ++ [.ref t]))) D = some (.lst acc) ∧ acc.length = i + 1 ∧ (∀ (j : Nat) (x : V) (q : Pr), acc[j]? = some x → us[j]? = some q → ∃ u y z, x = .ref u ∧ (upd H2 D (.lst (acc2 ++ [.ref t]))) u = some (.tup [.str y, .str z]) ∧ tp y z = q ∧ u ≠ p ∧ u ≠ l) ∧ (upd H2 D (.lst (acc2 ++ [.ref t]))) s = some (.lst ys) ∧ PrsAt (upd H2 D (.lst (acc2 ++ [.ref t]))) ys us ∧ Fr H p l (n + ts.length + (i + 1)) (upd H2 D (.lst (acc2 ++ [.ref t]))) := fun H2 t y z F2 ht et n1 n2 => by
        have acc2 := F'.keep F2 nD hacc
        have tD : t ≠ D := ne_of ht acc2 (fun z => by cases z)
        refine ⟨acc, acc2, ?_, acc ++ [.ref t], upd_same, ?_, ?_, ?_, ?_, (F'.trans F2).put nD⟩
        · rw [lac]
          exact small1000 (by omega)
        · rw [List.length_append, lac]; rfl
        · intro j x q h1 h2
          rcases Nat.lt_trichotomy j acc.length with h | h | h
          · rw [List.getElem?_append_left h] at h1
            obtain ⟨u', y', z', rfl, k1, k2, k3, k4⟩ := hin j x q h1 h2
            have k5 := F2.but _ _ k1 k3 k4
            exact ⟨u', y', z', rfl, by rw [upd_ne (ne_of k5 acc2 (fun z => by cases z))]; exact k5, k2, k3, k4⟩
          · rw [List.getElem?_append_right (by omega), h, Nat.sub_self] at h1
            cases h1
            rw [h, lac, eu] at h2
            cases h2
            exact ⟨t, y, z, rfl, by rw [upd_ne tD]; exact ht, et, n1, n2⟩
          · rw [List.getElem?_eq_none (by rw [List.length_append]; simp; omega)] at h1
            cases h1
        · rw [upd_ne Ds]
          exact F'.keep F2 ns hs'
        · refine prs_upd (prs_but F2 pt' nyN) (fun xs e => ?_)
          rw [acc2] at e
          cases e
      refine ⟨rfl, yes_of ⟨_, rfl, p, l, _, 2, rfl, F'.st, by omega, by decide, by decide, fun r H2 hr2 F2 => ⟨rfl, _, rfl, ite2 (fun c => ⟨_, rfl, put H2 u _ _ F2 (F2.but _ _ hu nu.1 nu.2) (tp_self lti) nu.1 nu.2⟩) (fun c => ?_)⟩⟩⟩
      have hu2 := F2.but _ _ hu nu.1 nu.2
      refine ⟨_, rfl, u, _, 1, _, rfl, rfl, SqT.of hu2, rfl, _, rfl, u, _, 0, _, rfl, rfl, SqT.of hu2, rfl, by show 2 ≤ sizeLine; decide, fun t nt' => ?_⟩
      have ntH := (F'.trans F2).free nt'
      have nt2 := F'.ne ntH
      exact put _ t _ _ (F2.put (F2.free nt')) upd_same (by rw [tp_swap]; exact tp_self lti) nt2.1 nt2.2
    rintro H2 ⟨acc, hacc, lac, hin, hs2, _, F2⟩
    have hN0 : ∀ c, (N c ∨ H c = none) → c ≠ p ∧ c ≠ l := fun c hc => hc.elim (hN c) fun h => F2.ne h
    have ht2 : HT (fun c => c ≠ p ∧ c ≠ l) H2 (.ref D) us := ⟨D, acc, rfl, items_at.mpr (.inl hacc), by omega, F2.ne nD, fun j x q e1 e2 => by
      obtain ⟨u, y, z, h1, h2, h3, h4⟩ := hin j x q e1 e2
      exact ⟨u, y, z, h1, by rw [h1]; exact items_at.mpr (.inr h2), h3, h4⟩⟩
    -- the places
    have q2 := hN q nq
    have P2 := hN aP nP
    have R2 := hN aR nR
    refine ⟨_, rfl, _, rfl, _, rfl, q, _, 0, _, rfl, rfl, SqT.of (F2.but _ _ g1 q2.1 q2.2), rfl, p, l, aP, _, pl.map V.str, rfl, F2.st, by omega, SqL.of (F2.but _ _ g2 P2.1 P2.2), by rw [List.length_map]; omega, fun s2 ys2 H3 hperm2 F3 ns2 hs2 => ?_⟩
    obtain ⟨ps, rfl, pperm⟩ := strs_perm hperm2
    have lps : ps.length = pl.length := pperm.length_eq
    have F03 := F2.trans F3
    rw [List.length_map] at F03
    have ht3 := ht2.frame (H' := H3) fun c o hc e => F3.but _ _ e hc.1 hc.2
    have hp3 : HP (fun c => c ≠ p ∧ c ≠ l) H3 (.ref s2) ps := HP.lst hs2 (F2.ne (F2.free ns2))
    refine ⟨p, l, _, 1, .ref s2, rfl, F03.st, by omega, lq_strs hp3 (fun c h => h) (by omega) (Nat.le_refl _), fun w1 H4 z4 F4 => ?_⟩
    have F04 := F03.trans F4
    have hp4 := (lz_strs hp3 z4).weak (N' := fun c => c ≠ p ∧ c ≠ l) fun c hc => F03.ne (F03.free hc)
    have ht4 := ht3.frame (H' := H4) fun c o hc e => F4.but _ _ e hc.1 hc.2
    refine ⟨_, rfl, _, rfl, _, rfl, p, l, _, 1 + us.length, .ref D, rfl, F04.st, by omega, lq_prs ht4 (fun c h => h) (by omega) (Nat.le_refl _), fun w2 H5 z5 F5 => ?_⟩
    have F05 := F04.trans F5
    have ht5 := (lz_prs ht4 z5).weak (N' := fun c => c ≠ p ∧ c ≠ l) fun c hc => F04.ne (F04.free hc)
    have hp5 := hp4.frame (H' := H5) fun c o hc e => F5.but _ _ e hc.1 hc.2
    have hr5 : HP (fun c => c ≠ p ∧ c ≠ l) H5 (.ref aR) rm := HP.lst (F05.but _ _ g5 R2.1 R2.2) R2
    refine ⟨_, rfl, _, rfl, q, _, 2, _, rfl, rfl, SqT.of (F05.but _ _ g1 q2.1 q2.2), rfl, p, l, _, 1, .ref aR, rfl, F05.st, by omega, lq_strs hr5 (fun c h => h) (by have := ok.rnd.length_le_of_subset ok.rin; omega) (Nat.le_refl _), fun w3 H6 z6 F6 => ?_⟩
    have F06 := F05.trans F6
    have hr6 := (lz_strs hr5 z6).weak (N' := fun c => c ≠ p ∧ c ≠ l) fun c hc => F05.ne (F05.free hc)
    have hp6 := hp5.frame (H' := H6) fun c o hc e => F6.but _ _ e hc.1 hc.2
    have ht6 := ht5.frame (H' := H6) fun c o hc e => F6.but _ _ e hc.1 hc.2
    intro x dx nx ndx ne
    have Sx : Same H6 (upd (upd H6 dx (.own x)) x (.ins Z.B.C dx [])) := (new_same ndx).trans (new_same (by rw [upd_ne ne.symm]; exact nx))
    refine ⟨x, dx, w1, w2, w3, rfl, upd_same, made_ok (hp6.frame fun c o _ e => Sx _ _ e) (ht6.frame fun c o _ e => Sx _ _ e) (hr6.frame fun c o _ e => Sx _ _ e) (pperm.nodup_iff.mpr ok.nd) (fun z hz => ok.name (pperm.mem_iff.mp hz)) (by omega) (toku.mono fun z hz => pperm.mem_iff.mpr hz) (by omega) ok.rnd (fun z hz => pperm.mem_iff.mpr (ok.rin z hz)) fun H' hB hk => ⟨rfl, ?_⟩⟩
    rw [sortS_of_perm pperm, sortPr_of_perm uperm] at hB
    refine k x H' (hB.weak fun c hc => ?_) (((F06.same (Same.of fun b o e => hk b o (fun q => by rw [q, nx] at e; cases e) (Sx _ _ e)))).mono (by omega))
    rcases hc with rfl | hc
    · exact F06.free nx
    · exact F06.free (Sx.free hc)
end
end E1

set_option Elab.async false
set_option linter.all false
set_option maxRecDepth 100000
set_option maxHeartbeats 8000000
/-! Each once. -/
namespace E1
open PySem PySem.Spec PyProof.Rows L2 G0
/-- each once, in the order in which they first stand -/
def onceA {α : Type} [DecidableEq α] (acc : List α) (x : α) : List α := if x ∈ acc then acc else acc ++ [x]
def once {α : Type} [DecidableEq α] (xs : List α) : List α := xs.foldl onceA []
section
variable {α : Type} [DecidableEq α]
theorem once_snoc {xs : List α} {i : Nat} {x : α} (h : xs[i]? = some x) : once (xs.take (i + 1)) = onceA (once (xs.take i)) x := by
  unfold once
  rw [take_snoc h, List.foldl_append]
  rfl
theorem onceA_mem {acc : List α} {x y : α} : y ∈ onceA acc x ↔ y ∈ acc ∨ y = x := by
  unfold onceA
  split
  · rename_i h
    exact ⟨.inl, fun q => q.elim id fun e => e ▸ h⟩
  · simp
theorem onceA_nd {acc : List α} {x : α} (h : acc.Nodup) : (onceA acc x).Nodup := by
  unfold onceA
  split
  · exact h
  · rename_i hn
    exact List.nodup_append.mpr ⟨h, by simp, fun a ha b hb e => hn (by rw [← List.mem_singleton.mp hb, ← e]; exact ha)⟩
theorem foldl_once_mem : ∀ (xs acc : List α) (y : α), y ∈ xs.foldl onceA acc ↔ y ∈ acc ∨ y ∈ xs
  | [], acc, y => by simp
  | x :: xs, acc, y => by
    rw [List.foldl_cons, foldl_once_mem xs, onceA_mem]
    simp only [List.mem_cons]
    exact ⟨fun h => h.elim (fun h => h.elim .inl fun e => .inr (.inl e)) fun h => .inr (.inr h), fun h => h.elim (fun h => .inl (.inl h)) fun h => h.elim (fun e => .inl (.inr e)) .inr⟩
theorem foldl_once_nd : ∀ (xs acc : List α), acc.Nodup → (xs.foldl onceA acc).Nodup
  | [], acc, h => h
  | x :: xs, acc, h => foldl_once_nd xs _ (onceA_nd h)
theorem once_mem {xs : List α} {y : α} : y ∈ once xs ↔ y ∈ xs := by
  unfold once
  rw [foldl_once_mem]
  simp
theorem once_nd (xs : List α) : (once xs).Nodup := foldl_once_nd xs [] List.nodup_nil
theorem onceA_sub (acc : List α) (x : α) : (onceA acc x).Sublist (acc ++ [x]) := by
  unfold onceA
  split
  · exact List.sublist_append_left _ _
  · exact List.Sublist.refl _
theorem foldl_once_sub : ∀ (xs acc : List α), (xs.foldl onceA acc).Sublist (acc ++ xs)
  | [], acc => by simp
  | x :: xs, acc => by
    have h := foldl_once_sub xs (onceA acc x)
    refine h.trans ?_
    have := (onceA_sub acc x).append (List.Sublist.refl xs)
    simpa using this
theorem once_sub (xs : List α) : (once xs).Sublist xs := by
  have := foldl_once_sub xs []
  simpa [once] using this
end
/-- values that are these -/
def A2 {α : Type} (P : V → α → Prop) (xs : List V) (qs : List α) : Prop := xs.length = qs.length ∧ ∀ (i : Nat) (v : V) (q : α), xs[i]? = some v → qs[i]? = some q → P v q
/-- values as data -/
structure EncD (K : PySem.W.Frag) {α : Type} [DecidableEq α] (R : Hp → V → α → Prop) (f : α → PyData) (ok : α → Prop) : Prop where
  stb : ∀ {H H' : Hp} {v : V} {q : α}, Same H H' → R H v q → R H' v q
  dp : ∀ {H : Hp} {v : V} {q : α}, R H v q → Dp K H v (f q)
  lay : ∀ q, ok q → (f q).canLay0 = true ∧ (f q).depth ≤ 8
  eqv : ∀ q q', PyData.eqv (f q) (f q') = decide (q = q')
section
variable {K : PySem.W.Frag} {α : Type} [DecidableEq α] {R : Hp → V → α → Prop} {f : α → PyData} {ok : α → Prop}
theorem A2.stb (E : EncD K R f ok) {H H' : Hp} {xs : List V} {qs : List α} (S : Same H H') (h : A2 (R H) xs qs) : A2 (R H') xs qs := ⟨h.1, fun i v q e1 e2 => E.stb S (h.2 i v q e1 e2)⟩
theorem A2.dp (E : EncD K R f ok) {H : Hp} : ∀ {xs : List V} {qs : List α}, A2 (R H) xs qs → DpAll K H xs (qs.map f)
  | [], [], _ => .nil
  | [], _ :: _, h => by cases h.1
  | _ :: _, [], h => by cases h.1
  | v :: vs, z :: ws, h => .cons (E.dp (h.2 0 v z rfl rfl)) (A2.dp E ⟨Nat.succ.inj h.1, fun i v z e1 e2 => h.2 (i + 1) v z e1 e2⟩)
theorem A2.snoc {P : V → α → Prop} {xs : List V} {qs : List α} {v : V} {q : α} (h : A2 P xs qs) (hv : P v q) : A2 P (xs ++ [v]) (qs ++ [q]) := by
  refine ⟨by rw [List.length_append, List.length_append, h.1]; rfl, fun i w r h1 h2 => ?_⟩
  rcases Nat.lt_trichotomy i xs.length with l | l | l
  · rw [List.getElem?_append_left l] at h1
    rw [List.getElem?_append_left (by rw [← h.1]; exact l)] at h2
    exact h.2 i w r h1 h2
  · rw [List.getElem?_append_right (by omega), l, Nat.sub_self] at h1
    rw [List.getElem?_append_right (by rw [← h.1]; omega), ← h.1, l, Nat.sub_self] at h2
    cases h1
    cases h2
    exact hv
  · rw [List.getElem?_eq_none (by rw [List.length_append]; show xs.length + 1 ≤ i; omega)] at h1
    cases h1
theorem lay_all (E : EncD K R f ok) : ∀ qs : List α, (∀ q ∈ qs, ok q) → PyData.canLayAll0 (qs.map f) = true ∧ PyData.depthAll (qs.map f) ≤ 8
  | [], _ => ⟨by simp [PyData.canLayAll0], by simp [PyData.depthAll]⟩
  | q :: qs, h => by
    obtain ⟨h1, h2⟩ := lay_all E qs fun z hz => h z (List.mem_cons_of_mem _ hz)
    obtain ⟨g1, g2⟩ := E.lay q (h q List.mem_cons_self)
    refine ⟨by simp [PyData.canLayAll0, g1, h1], ?_⟩
    simp only [List.map_cons, PyData.depthAll]
    omega
theorem shp_all (E : EncD K R f ok) {qs : List α} (h : ∀ q ∈ qs, ok q) : SeqAt.shaped (.list (qs.map f)) = true := by
  obtain ⟨h1, h2⟩ := lay_all E qs h
  show ((PyData.list (qs.map f)).canLay0 && decide ((PyData.list (qs.map f)).depth ≤ 64)) = true
  rw [Bool.and_eq_true]
  refine ⟨by simp only [PyData.canLay0]; exact h1, decide_eq_true ?_⟩
  simp only [PyData.depth]
  omega
theorem shp_oneE (E : EncD K R f ok) {q : α} (h : ok q) : SeqAt.shaped (f q) = true := by
  obtain ⟨h1, h2⟩ := E.lay q h
  show ((f q).canLay0 && decide ((f q).depth ≤ 64)) = true
  rw [Bool.and_eq_true]
  exact ⟨h1, decide_eq_true (by omega)⟩
theorem any_enc (E : EncD K R f ok) (y : α) : ∀ qs : List α, ((qs.map f).any fun z => PyData.eqv z (f y)) = decide (y ∈ qs)
  | [] => by simp
  | q :: qs => by
    simp only [List.map_cons, List.any_cons, any_enc E y qs, E.eqv]
    by_cases h : q = y
    · simp [h]
    · have h' : ¬ y = q := fun e => h e.symm
      simp [h, h']
end
def spOnce {α : Type} [DecidableEq α] (R : Hp → V → α → Prop) (ok : α → Prop) : Sp := fun vs H Q _ => ∃ (a : Addr) (xs : List V) (qs : List α), vs = [.ref a] ∧ H a = some (.lst xs) ∧ A2 (R H) xs qs ∧ (∀ q ∈ qs, ok q) ∧ xs.length ≤ 2000 ∧
  ∀ r ys H', H r = none → H' r = some (.lst ys) → A2 (R H') ys (once qs) → (∀ y ∈ ys, y ∈ xs) → Same H H' → Q (.ref r) H'
abbrev N_once : List Str := ["_law_things", "_law_found", "_law_thing"]
theorem sc_once : FnScope N_once ["_law_things"] (defScope (topS 58)) := ⟨rfl, rfl, rfl, by decide +kernel, rfl, by decide +kernel, by decide +kernel⟩
section
variable {P : Program} {w : World} {K : PySem.W.Frag} {mg : Str → Option Value} {base : Heap}
theorem bOnce (Z : LawD K mg) : Binds K (Z.d 58) ["_law_things"] [] := (Z.F 58 (by decide)).binds fun _ _ _ _ _ _ us hl => match us, hl with | [_], _ => rfl
theorem ok_once {α : Type} [DecidableEq α] {R : Hp → V → α → Prop} {f : α → PyData} {ok : α → Prop} (Z : LawD K mg) (E : EncD K R f ok) (put : ∀ {H : Hp} {v : V} {q : α} {a : Addr} {xs ys : List V}, H a = some (.lst xs) → R H v q → R (upd H a (.lst ys)) v q) : FnOk P w K mg base CX0 1 (Z.f 58) (Z.d 58) ["_law_things"] (spOnce R ok) := by
  refine Fun.ok (Z.F 58 (by decide)) sc_once (fun vs H Q E h => ?_) (fun cdv A outer s H vs Q E' hr h => ⟨_, pss_cons (ps_set (i := 1) sc_once.nd rfl (Or.inl rfl) (pe_lst pa_nil))
  (pss_cons (ps_for PassesOwn.never rfl (pi_list (pv 0)) (pg_name (i := 2) sc_once.nd rfl (Or.inl rfl))
    (pss_one (ps_if (pt_cmpR (op_notInD (hu65 hr)) (pv 2) (pv 1) (by rfl)) (pss_one (ps_expr (pe_bm PySem.F.plainAttrs_list PySem.F.slot_list_append PySem.F.type_list_append mt_append (pv 1) (pa_cons (pv 2) pa_nil)))) pss_nil)))
  (pss_one (ps_ret (pv 1)))), ?_⟩)
  · obtain ⟨a, xs, qs, rfl, _⟩ := h
    rfl
  · obtain ⟨a, xs, qs, rfl, ha, hA, hok, hl, k⟩ := h
    have sz : 5000 < sizeLine := by decide
    refine ⟨Nat.zero_le _, fun r nr => ?_⟩
    have S0 := new_same (o := .lst []) nr
    have ar : a ≠ r := ne_of_none ha nr
    refine ⟨_, rfl, a, rfl, ⟨_, SqL.of (S0 _ _ ha)⟩, for_list (xs := xs) (fun i σ H' => ∃ v2 ys, σ = [some (.ref a), some (.ref r), v2] ∧ H' r = some (.lst ys) ∧ A2 (R H') ys (once (qs.take i)) ∧ (∀ y ∈ ys, y ∈ xs) ∧ A2 (R H') xs qs ∧ Same H H') ⟨none, [], rfl, upd_same, ⟨rfl, fun i v q e => by simp at e⟩, by simp, hA.stb E S0, S0⟩ (fun i σ H' _ ⟨_, _, _, _, _, _, _, S'⟩ => SqL.of (S' _ _ ha)) ?_ ?_⟩
    · rintro i x σ H' hx ⟨v2, ys, rfl, hr', hy, sub, hA', S'⟩
      have il := (List.getElem?_eq_some_iff.mp hx).1
      have eq : qs[i]? = some (qs[i]'(by rw [← hA.1]; exact il)) := List.getElem?_eq_getElem _
      have hRx := hA'.2 i x _ hx eq
      have okx := hok _ (List.mem_of_getElem? eq)
      have lo := (once_sub (qs.take i)).length_le
      rw [List.length_take] at lo
      have oky : ∀ q ∈ once (qs.take i), ok q := fun q hq => hok q (List.mem_of_mem_take (once_mem.mp hq))
      refine ⟨_, rfl, _, rfl, f _, (once (qs.take i)).map f, E.dp hRx, .lst (SqL.of hr') (hy.dp E), shp_oneE E okx, shp_all E oky, _, rfl, ?_⟩
      rw [any_enc E]
      refine ite2 (fun c => ?_) (fun c => ?_)
      · have hn : (qs[i]'(by rw [← hA.1]; exact il)) ∉ once (qs.take i) := by simpa using c
        refine ⟨_, rfl, .inl ⟨rfl, _, SqL.of hr'⟩, _, rfl, r, _, x, rfl, rfl, hr', ?_, _, _, rfl, upd_same, ?_, ?_, ?_, ?_⟩
        · rw [hy.1]
          omega
        · rw [once_snoc eq]
          unfold onceA
          rw [if_neg hn]
          exact A2.snoc ⟨hy.1, fun j v q e1 e2 => put hr' (hy.2 j v q e1 e2)⟩ (put hr' hRx)
        · intro y hm
          rcases List.mem_append.mp hm with hm | hm
          · exact sub y hm
          · rw [List.mem_singleton.mp hm]
            exact List.mem_of_getElem? hx
        · exact ⟨hA'.1, fun j v q e1 e2 => put hr' (hA'.2 j v q e1 e2)⟩
        · exact fun b o e => by
            rw [upd_ne (ne_of_none e nr)]
            exact S' _ _ e
      · have hm : (qs[i]'(by rw [← hA.1]; exact il)) ∈ once (qs.take i) := by simpa using c
        refine ⟨_, _, rfl, hr', ?_, sub, hA', S'⟩
        rw [once_snoc eq]
        unfold onceA
        rw [if_pos hm]
        exact hy
    · rintro σ H' ⟨v2, ys, rfl, hr', hy, sub, hA', S'⟩
      rw [hA.1, List.take_length] at hy
      exact ⟨_, rfl, k r ys H' nr hr' hy sub S'⟩
/-- texts, pairs -/
def isS : Hp → V → Str → Prop := fun _ v s => v = .str s
def isP : Hp → V → Pr → Prop := fun H v q => ∃ t, v = .ref t ∧ H t = some (.tup [.str q.1, .str q.2])
theorem encS : EncD K isS PyData.str (fun s => PyData.strOk s = true) := ⟨fun _ h => h, fun h => by rw [show _ = _ from h]; exact .str _, fun q h => ⟨by simp only [PyData.canLay0]; exact h, by simp [PyData.depth]⟩, fun q q' => by simp only [PyData.eqv]; exact Bool.eq_iff_iff.mpr (by simp)⟩
theorem encP : EncD K isP prD1 (fun q => PyData.strOk q.1 = true ∧ PyData.strOk q.2 = true) := ⟨fun S ⟨t, e, h⟩ => ⟨t, e, S _ _ h⟩, fun ⟨t, e, h⟩ => by rw [e]; exact .tup (SqT.of h) (.cons (.str _) (.cons (.str _) .nil)), fun q h => ⟨by simp [prD1, PyData.canLay0, PyData.canLayAll0, h.1, h.2], by simp [prD1, PyData.depth, PyData.depthAll]⟩, fun q q' => eqv_pr q q'⟩
theorem ok_onceS (Z : LawD K mg) : FnOk P w K mg base CX0 1 (Z.f 58) (Z.d 58) ["_law_things"] (spOnce isS (fun s => PyData.strOk s = true)) := ok_once Z encS fun _ h => h
theorem ok_onceP (Z : LawD K mg) : FnOk P w K mg base CX0 1 (Z.f 58) (Z.d 58) ["_law_things"] (spOnce isP (fun q => PyData.strOk q.1 = true ∧ PyData.strOk q.2 = true)) := ok_once Z encP fun ha ⟨t, e, h⟩ => ⟨t, e, by rw [upd_ne (ne_of h ha (fun z => by cases z))]; exact h⟩
end
end E1

set_option Elab.async false
set_option linter.all false
set_option maxRecDepth 100000
set_option maxHeartbeats 8000000
/-! A rim begun with the first of some pins behind another one. -/
namespace E1
open PySem PySem.Spec PyProof.Rows L2 G0
/-- the place ahead of the i-th, round the end -/
def prIx (n i : Nat) : Nat := if i = 0 then n - 1 else i - 1
def isStart (rm com : List Str) (i : Nat) : Bool := match rm[i]?, rm[prIx rm.length i]? with
  | some a, some b => decide (a ∈ com) && !decide (b ∈ com)
  | _, _ => false
def starts (rm com : List Str) : List Nat := (List.range rm.length).filter (isStart rm com)
def rot (rm : List Str) (i : Nat) : List Str := rm.drop i ++ rm.take i
theorem rot_perm (rm : List Str) (i : Nat) : (rot rm i).Perm rm := List.perm_append_comm.trans (by rw [List.take_append_drop])
theorem starts_lt {rm com : List Str} {i : Nat} (h : i ∈ starts rm com) : i < rm.length := List.mem_range.mp (List.mem_filter.mp h).1
theorem starts_len (rm com : List Str) : (starts rm com).length ≤ rm.length := by
  have := List.length_filter_le (isStart rm com) (List.range rm.length)
  rw [List.length_range] at this
  exact this
/-- lists of texts, in a list -/
def RowsAt (N : Addr → Prop) (H : Hp) (xs : List V) (rs : List (List Str)) : Prop := A2 (fun v ss => ∃ a, v = .ref a ∧ H a = some (.lst (ss.map V.str)) ∧ N a) xs rs
def spRows : Sp := fun vs H Q _ => ∃ (a b : Addr) (rm com : List Str), vs = [.ref a, .ref b] ∧ H a = some (.lst (rm.map V.str)) ∧ H b = some (.lst (com.map V.str)) ∧ rm.length ≤ 1000 ∧ com.length ≤ 1000 ∧
  ∀ r xs H', H r = none → H' r = some (.lst xs) → RowsAt (fun c => H c = none) H' xs ((starts rm com).map (rot rm)) → Same H H' → Q (.ref r) H'
abbrev rSubI : R2 := fun x y H Q => ∃ i j, x = .int i ∧ y = .int j ∧ Q (.int (i - j)) H
abbrev N_rows : List Str := ["_law_rim", "_law_common", "_law_starts", "_law_at", "_law_pin"]
theorem sc_rows : FnScope N_rows ["_law_rim", "_law_common"] (defScope (topS 47)) := ⟨rfl, rfl, rfl, by decide +kernel, rfl, by decide +kernel, by decide +kernel⟩
section
variable {P : Program} {w : World} {K : PySem.W.Frag} {mg : Str → Option Value} {base : Heap}
theorem bRows (Z : LawD K mg) : Binds K (Z.d 47) ["_law_rim", "_law_common"] [] := (Z.F 47 (by decide)).binds fun _ _ _ _ _ _ us hl => match us, hl with | [_, _], _ => rfl
theorem ok_rows (Z : LawD K mg) : FnOk P w K mg base CX0 1 (Z.f 47) (Z.d 47) ["_law_rim", "_law_common"] spRows := by
  refine Fun.ok (Z.F 47 (by decide)) sc_rows (fun vs H Q E h => ?_) (fun cdv A outer s H vs Q E hr h => ⟨_, pss_cons (ps_setLc (i := 2) (own := [("_law_at", 3), ("_law_pin", 4)]) (g := gTup K 2 (gCons (gName 3) (gCons (gName 4) gNil))) (tt := tAnd (tTest (tOp (rIn K false) (tVar 4) (tVar 1))) (tTest (tOp (rIn K true) (tOp (rIxL K) (tVar 0) (tOp rSubI (tVar 3) (tC (.int 1)))) (tVar 1)))) (te := tVar 3) rfl sc_rows.nd rfl rfl (by rfl) (pi_enum (by rfl) Z.t.enumerate (pa_cons (pv 0) pa_nil)) (blkOk_by (own := [("_law_at", 3), ("_law_pin", 4)]) (N := N_rows) (sc := defScope (topS 47)) (by decide +kernel)) (fun _ _ _ _ _ => by exact (pg_tup rfl (pgs_cons (pg_name (i := 3) sc_rows.nd rfl (Or.inl rfl)) (pgs_cons (pg_name (i := 4) sc_rows.nd rfl (Or.inl rfl)) pgs_nil)))) (fun _ _ _ _ _ => (pts_one (PW.pt (pw_and (pt_cmpR op_in_seq (pv 4) (pv 1) (by rfl)) (pw_and1 (pt_cmpR op_notIn_seq (pe_ix ix_list (pv 0) (pe_op op_sub (pv 3) pe_int) (fun _ _ => rfl)) (pv 1) (by rfl))))))) (fun _ _ _ _ _ => (pv 3)))
  (pss_one (ps_ret (pe_lc (own := [("_law_at", 3)]) (tt := tYes) (te := tOp rCat (tCB (fun xs H Q => ∃ p ys, xs = [.ref p] ∧ (SqL K H p ys ∨ SqT K H p ys) ∧ ∀ l, H l = none → Q (.ref l) (upd H l (.lst ys))) (tCons (tSl (rSlL K) (tVar 0) (tPart (tVar 3)) tNoPart) tNil)) (tCB (fun xs H Q => ∃ p ys, xs = [.ref p] ∧ (SqL K H p ys ∨ SqT K H p ys) ∧ ∀ l, H l = none → Q (.ref l) (upd H l (.lst ys))) (tCons (tSl (rSlL K) (tVar 0) tNoPart (tPart (tVar 3))) tNil))) rfl sc_rows.nd (pi_list (pv 2)) (blkOk_by (own := [("_law_at", 3)]) (N := N_rows) (sc := defScope (topS 47)) (by decide +kernel)) (fun _ _ _ _ _ => (pg_name (i := 3) sc_rows.nd rfl (Or.inl rfl))) (fun _ _ _ _ _ => pts_nil) (fun _ _ _ _ _ => (pe_op op_cat (pe_callTy call_list_of (by rfl) Z.t.list PyProof.Rows.boot_list (pa_cons (pe_slice sl_list (pv 0) (po_some (pv 3)) po_none) pa_nil)) (pe_callTy call_list_of (by rfl) Z.t.list PyProof.Rows.boot_list (pa_cons (pe_slice sl_list (pv 0) po_none (po_some (pv 3))) pa_nil))))))), ?_⟩)
  · obtain ⟨a, b, rm, com, rfl, _⟩ := h
    rfl
  · obtain ⟨a, b, rm, com, rfl, ha, hb, l1, l2, k⟩ := h
    have sz : 5000 < sizeLine := by decide
    refine ⟨_, rfl, a, rm.map V.str, rfl, SqL.of ha, fun D hD => ?_⟩
    refine lc_it walk_enum (fun i H' => H' D = some (.lst (((List.range i).filter (isStart rm com)).map fun j => V.int (j : Nat))) ∧ Same H H') ⟨upd_same, new_same hD⟩ (fun i H' _ ⟨_, S'⟩ => SqL.of (S' _ _ ha)) ?_ ?_
    · rintro i x H0 H' hi ⟨hacc, S'⟩ ⟨T, x1, x2, rfl, nT, rfl, ex, ey⟩
      cases ex
      have ey : (rm.map V.str)[i]? = some x2 := ey
      rw [List.getElem?_map] at ey
      cases ez : rm[i]? with
      | none => rw [ez] at ey; cases ey
      | some z =>
      rw [ez] at ey
      cases ey
      have il : i < rm.length := (List.getElem?_eq_some_iff.mp ez).1
      have ST := new_same (o := .tup [.int ((i : Nat) : Int), .str z]) nT
      have S2 := S'.trans ST
      have acc2 := ST _ _ hacc
      have lf := List.length_filter_le (isStart rm com) (List.range i)
      rw [List.length_range] at lf
      obtain ⟨v, ev, evr⟩ := atI_pred (xs := rm.map V.str) (i := i) (by rw [List.length_map]; exact il)
      rw [List.length_map, List.getElem?_map] at evr
      cases ep : rm[prIx rm.length i]? with
      | none =>
        unfold prIx at ep
        rw [ep] at evr
        cases evr
      | some pz =>
      have evr' : some (V.str pz) = some v := by
        rw [← evr]
        unfold prIx at ep
        rw [ep]
        rfl
      cases evr'
      have st : isStart rm com i = (decide (z ∈ com) && !decide (pz ∈ com)) := by
        unfold isStart
        rw [ez, ep]
      have step : ∀ (c : Bool), isStart rm com i = c → (List.range (i + 1)).filter (isStart rm com) = (List.range i).filter (isStart rm com) ++ if c = true then [i] else [] := fun c hc => by
        rw [List.range_succ, List.filter_append]
        congr 1
        cases c with
        | true => rw [if_pos rfl, List.filter_cons_of_pos hc]; rfl
        | false => rw [if_neg (by decide), List.filter_cons_of_neg (by rw [hc]; decide)]; rfl
      have no : isStart rm com i = false → (upd H0 T (.tup [.int ((i : Nat) : Int), .str z])) D = some (.lst (((List.range (i + 1)).filter (isStart rm com)).map fun j => V.int (j : Nat))) := fun hc => by
        rw [step false hc, if_neg (by decide), List.append_nil]
        exact acc2
      refine ⟨T, _, rfl, SqT.of upd_same, rfl, _, _, rfl, _, _, rfl, rfl, rfl, ?_⟩
      refine ⟨_, rfl, _, rfl, b, _, rfl, .inl (SqL.of (S2 _ _ hb)), rfl, flat_strs _, _, rfl, ?_⟩
      rw [show inV (.str z) (com.map V.str) = decide (z ∈ com) from inV_strs z com]
      refine ite2 (fun c1 => ?_) (fun c1 => ?_)
      · refine ⟨_, rfl, _, rfl, _, _, rfl, rfl, a, _, _, _, rfl, rfl, SqL.of (S2 _ _ ha), ev, _, rfl, b, _, rfl, .inl (SqL.of (S2 _ _ hb)), rfl, flat_strs _, _, rfl, ?_⟩
        rw [show inV (.str pz) (com.map V.str) = decide (pz ∈ com) from inV_strs pz com]
        refine ite2 (fun c2 => ?_) (fun c2 => ?_)
        · have c1' : decide (z ∈ com) = true := c1
          have c2' : (!decide (pz ∈ com)) = true := c2
          have hs : isStart rm com i = true := by rw [st, c1', c2']; rfl
          refine ⟨_, rfl, _, acc2, ?_, ?_, ?_⟩
          · rw [List.length_map]
            omega
          · rw [upd_same, step true hs, if_pos rfl, List.map_append]
            rfl
          · exact fun b o e => by
              rw [upd_ne (ne_of_none e hD)]
              exact S2 _ _ e
        · have c1' : decide (z ∈ com) = true := c1
          have c2' : (!decide (pz ∈ com)) = false := Bool.eq_false_iff.mpr c2
          have hs : isStart rm com i = false := by rw [st, c1', c2']; rfl
          exact ⟨no hs, S2⟩
      · have hs : isStart rm com i = false := by
          have c1' : decide (z ∈ com) = false := Bool.eq_false_iff.mpr c1
          rw [st, c1']
          rfl
        exact ⟨no hs, S2⟩
    rintro H1 ⟨hacc, S1⟩
    rw [List.length_map] at hacc
    have hacc : H1 D = some (.lst ((starts rm com).map fun j => V.int (j : Nat))) := hacc
    refine ⟨_, rfl, D, rfl, ⟨_, SqL.of hacc⟩, fun r nr => ?_⟩
    refine lc_list (xs := (starts rm com).map fun j => V.int (j : Nat)) (fun i H' => ∃ xs, H' r = some (.lst xs) ∧ RowsAt (fun c => H c = none ∧ c ≠ r) H' xs (((starts rm com).take i).map (rot rm)) ∧ Same H1 H') ⟨[], upd_same, ⟨rfl, fun i v q e => by simp at e⟩, new_same nr⟩ (fun i H' _ ⟨_, _, _, S'⟩ => SqL.of (S' _ _ hacc)) ?_ ?_
    · rintro i x H' hx ⟨xs, hxs, hR, S'⟩
      rw [List.getElem?_map] at hx
      cases ez : (starts rm com)[i]? with
      | none => rw [ez] at hx; cases hx
      | some j =>
      rw [ez] at hx
      cases hx
      have il := (List.getElem?_eq_some_iff.mp ez).1
      have lS := starts_len rm com
      have S1' := S1.trans S'
      refine ⟨rfl, yes_of ⟨_, rfl, _, rfl, (j : Int), rfl, a, _, rfl, SqL.of (S1' _ _ ha), fun s1 n1 => ?_⟩⟩
      rw [cut_from, ← List.map_drop] at *
      have T1 := new_same (o := .lst ((rm.drop j).map V.str)) n1
      refine ⟨s1, _, rfl, .inl (SqL.of upd_same), fun s2 n2 => ?_⟩
      have T2 := T1.trans (new_same (o := .lst ((rm.drop j).map V.str)) n2)
      refine ⟨_, rfl, _, rfl, (j : Int), rfl, a, _, rfl, SqL.of (T2 _ _ (S1' _ _ ha)), fun s3 n3 => ?_⟩
      rw [cut_to, ← List.map_take] at *
      have T3 := T2.trans (new_same (o := .lst ((rm.take j).map V.str)) n3)
      refine ⟨s3, _, rfl, .inl (SqL.of upd_same), fun s4 n4 => ?_⟩
      have T4 := T3.trans (new_same (o := .lst ((rm.take j).map V.str)) n4)
      have h2 := new_same n4 (o := .lst ((rm.take j).map V.str)) _ _ (new_same n3 (o := .lst ((rm.take j).map V.str)) _ _ (upd_same (H := upd H' s1 (.lst ((rm.drop j).map V.str))) (a := s2) (o := .lst ((rm.drop j).map V.str))))
      refine ⟨s2, s4, _, _, rfl, rfl, h2, upd_same, ?_, fun s5 n5 => ?_⟩
      · rw [List.length_map, List.length_map, List.length_drop, List.length_take]
        omega
      have T5 := T4.trans (new_same (o := .lst ((rm.drop j).map V.str ++ (rm.take j).map V.str)) n5)
      have h5 : (upd (upd (upd (upd (upd H' s1 (.lst ((rm.drop j).map V.str))) s2 (.lst ((rm.drop j).map V.str))) s3 (.lst ((rm.take j).map V.str))) s4 (.lst ((rm.take j).map V.str))) s5 (.lst ((rm.drop j).map V.str ++ (rm.take j).map V.str))) s5 = some (.lst ((rot rm j).map V.str)) := by
        rw [upd_same]
        unfold rot
        rw [List.map_append]
      have r5 : s5 ≠ r := (ne_of_none (T4 _ _ hxs) n5).symm
      have f5 : H s5 = none := S1'.free (T4.free n5)
      generalize hH5 : upd (upd (upd (upd (upd H' s1 (.lst ((rm.drop j).map V.str))) s2 (.lst ((rm.drop j).map V.str))) s3 (.lst ((rm.take j).map V.str))) s4 (.lst ((rm.take j).map V.str))) s5 (.lst ((rm.drop j).map V.str ++ (rm.take j).map V.str)) = H5 at *
      have lR := hR.1
      rw [List.length_map, List.length_take] at lR
      have wr : ∀ {v : V} {ss : List Str}, (∃ c, v = .ref c ∧ H5 c = some (.lst (ss.map V.str)) ∧ (H c = none ∧ c ≠ r)) → ∃ c, v = .ref c ∧ (upd H5 r (.lst (xs ++ [.ref s5]))) c = some (.lst (ss.map V.str)) ∧ (H c = none ∧ c ≠ r) := fun ⟨c, e, h, n⟩ => ⟨c, e, by rw [upd_ne n.2]; exact h, n⟩
      refine ⟨xs, T5 _ _ hxs, by omega, xs ++ [.ref s5], upd_same, ?_, ?_⟩
      · rw [take_snoc ez, List.map_append]
        exact A2.snoc ⟨hR.1, fun i' v q e1 e2 => wr (let ⟨c, e, h, n⟩ := hR.2 i' v q e1 e2; ⟨c, e, T5 _ _ h, n⟩)⟩ (wr ⟨s5, rfl, h5, f5, r5⟩)
      · exact fun b o e => by
          rw [upd_ne (ne_of_none e nr)]
          exact T5 _ _ (S' _ _ e)
    rintro H2 ⟨xs, hxs, hR, S2⟩
    rw [List.length_map, List.take_length] at hR
    exact k r xs H2 (S1.free nr) hxs ⟨hR.1, fun i v q e1 e2 => let ⟨c, e, h, n⟩ := hR.2 i v q e1 e2; ⟨c, e, h, n.1⟩⟩ (S1.trans S2)
end
end E1

set_option Elab.async false
set_option linter.all false
set_option maxRecDepth 100000
set_option maxHeartbeats 8000000
/-! What two boards have in common, and how their rims go along it. -/
namespace E1
open PySem PySem.Spec PyProof.Rows L2 G0
def common (p1 p2 : List Str) : List Str := (sortS p1).filter fun z => decide (z ∈ p2)
/-- what lies along both rims, and the rest of each -/
def stretch (p1 r1 p2 r2 : List Str) : Option (List Str × List Str × List Str) :=
  match starts r1 (common p1 p2), starts r2 (common p1 p2) with
  | [i], [j] => if common p1 p2 ≠ [] ∧ sortS ((rot r1 i).take (common p1 p2).length) = common p1 p2 ∧ (rot r1 i).take (common p1 p2).length = ((rot r2 j).take (common p1 p2).length).reverse then
      some ((rot r1 i).take (common p1 p2).length, (rot r1 i).drop (common p1 p2).length, (rot r2 j).drop (common p1 p2).length) else none
  | _, _ => none
theorem common_mem {p1 p2 : List Str} {z : Str} (h : z ∈ common p1 p2) : z ∈ p1 ∧ z ∈ p2 := ⟨(sortS_perm p1).mem_iff.mp (List.mem_filter.mp h).1, of_decide_eq_true (List.mem_filter.mp h).2⟩
theorem common_len (p1 p2 : List Str) : (common p1 p2).length ≤ p1.length := by
  have := List.length_filter_le (fun z => decide (z ∈ p2)) (sortS p1)
  rw [sortS_len] at this
  exact this
theorem rot_mem {rm : List Str} {i : Nat} {z : Str} (h : z ∈ rot rm i) : z ∈ rm := (rot_perm rm i).mem_iff.mp h
theorem stretch_no1 {p1 r1 p2 r2 : List Str} (h : common p1 p2 = []) : stretch p1 r1 p2 r2 = none := by
  unfold stretch
  split
  · rw [if_neg fun z => z.1 h]
  · rfl
theorem stretch_no2 {p1 r1 p2 r2 : List Str} (h : (starts r1 (common p1 p2)).length ≠ 1) : stretch p1 r1 p2 r2 = none := by
  unfold stretch
  split
  · rename_i e1 e2
    rw [e1] at h
    exact absurd rfl h
  · rfl
theorem stretch_no3 {p1 r1 p2 r2 : List Str} (h : (starts r2 (common p1 p2)).length ≠ 1) : stretch p1 r1 p2 r2 = none := by
  unfold stretch
  split
  · rename_i e1 e2
    rw [e2] at h
    exact absurd rfl h
  · rfl
theorem stretch_at {p1 r1 p2 r2 : List Str} {i j : Nat} (e1 : starts r1 (common p1 p2) = [i]) (e2 : starts r2 (common p1 p2) = [j]) : stretch p1 r1 p2 r2 = if common p1 p2 ≠ [] ∧ sortS ((rot r1 i).take (common p1 p2).length) = common p1 p2 ∧ (rot r1 i).take (common p1 p2).length = ((rot r2 j).take (common p1 p2).length).reverse then
      some ((rot r1 i).take (common p1 p2).length, (rot r1 i).drop (common p1 p2).length, (rot r2 j).drop (common p1 p2).length) else none := by
  unfold stretch
  rw [e1, e2]
abbrev N_str : List Str := ["_law_one", "_law_other", "_law_common", "_law_place", "_law_mine", "_law_theirs", "_law_many", "_law_row"]
theorem sc_str : FnScope N_str ["_law_one", "_law_other"] (defScope (topS 48)) := ⟨rfl, rfl, rfl, by decide +kernel, rfl, by decide +kernel, by decide +kernel⟩
/-- three lists of texts in a tuple -/
def Tri (N : Addr → Prop) (H : Hp) (t : Addr) (a b c : List Str) : Prop := ∃ x y z, H t = some (.tup [.ref x, .ref y, .ref z]) ∧ H x = some (.lst (a.map V.str)) ∧ H y = some (.lst (b.map V.str)) ∧ H z = some (.lst (c.map V.str)) ∧ N t ∧ N x ∧ N y ∧ N z ∧ x ≠ y ∧ x ≠ z ∧ y ≠ z
def StrAns (N : Addr → Prop) (H : Hp) (v : V) : Option (List Str × List Str × List Str) → Prop
  | none => v = .non
  | some (a, b, c) => ∃ t, v = .ref t ∧ Tri N H t a b c
def spStr : Sp := fun vs H Q _ => ∃ (p q : Addr) (pl1 : List Str) (ts1 : List Pr) (rm1 pl2 : List Str) (ts2 : List Pr) (rm2 : List Str), vs = [.ref p, .ref q] ∧ RawAt (fun _ => True) H p pl1 ts1 rm1 ∧ RawAt (fun _ => True) H q pl2 ts2 rm2 ∧
  pl1.length ≤ 1000 ∧ pl2.length ≤ 1000 ∧ rm1.length ≤ 1000 ∧ rm2.length ≤ 1000 ∧ (∀ z ∈ pl1, PyData.strOk z = true) ∧ (∀ z ∈ rm1, PyData.strOk z = true) ∧ (∀ z ∈ rm2, PyData.strOk z = true) ∧
  ∀ v H', StrAns (fun c => H c = none) H' v (stretch pl1 rm1 pl2 rm2) → Same H H' → Q v H'
section
variable {P : Program} {w : World} {K : PySem.W.Frag} {mg : Str → Option Value} {base : Heap}
theorem bStr (Z : LawD K mg) : Binds K (Z.d 48) ["_law_one", "_law_other"] [] := (Z.F 48 (by decide)).binds fun _ _ _ _ _ _ us hl => match us, hl with | [_, _], _ => rfl
theorem ok_str (Z : LawD K mg) : FnOk P w K mg base CX0 2 (Z.f 48) (Z.d 48) ["_law_one", "_law_other"] spStr := by
  have GRW : FnOk P w K mg base CX0 1 (Z.f 47) (Z.d 47) ["_law_rim", "_law_common"] spRows := ok_rows Z
  refine Fun.ok (Z.F 48 (by decide)) sc_str (fun vs H Q E h => ?_) (fun cdv A outer s H vs Q E hr h => ?_)
  · obtain ⟨p, q, pl1, ts1, rm1, pl2, ts2, rm2, rfl, _⟩ := h
    rfl
  have hu := hr.units
  refine ⟨_, pss_cons (ps_setLc (i := 2) (own := [("_law_place", 3)]) (tt := tTest (tOp (rIn K false) (tVar 3) (tOp (rIxT K) (tVar 1) (tC (.int 0))))) (te := tVar 3) rfl sc_str.nd rfl rfl (by rfl) (pi_list (pe_callB cr_sortQ (by rfl) Z.t.sorted boot_sorted (pa_cons (pe_ix ix_tup (pv 0) pe_int (fun _ _ => rfl)) pa_nil))) (blkOk_by (own := [("_law_place", 3)]) (N := N_str) (sc := defScope (topS 48)) (by decide +kernel)) (fun _ _ _ _ _ => (pg_name (i := 3) sc_str.nd rfl (Or.inl rfl))) (fun _ _ _ _ _ => (pts_one (pt_cmpR op_in_seq (pv 3) (pe_ix ix_tup (pv 1) pe_int (fun _ _ => rfl)) (by rfl)))) (fun _ _ _ _ _ => (pv 3)))
  (pss_cons (ps_par (i := 4) (j := 5) rfl sc_str.nd rfl rfl (by decide) rfl rfl (pa_cons (pe_call GRW (hr.mono (by decide)) (by rfl) (Z.g 47 (by decide)) (Z.F 47 (by decide)).kp (bRows Z) .nil pass0 (pa_cons (pe_ix ix_tup (pv 0) pe_int (fun _ _ => rfl)) (pa_cons (pv 2) pa_nil))) (pa_cons (pe_call GRW (hr.mono (by decide)) (by rfl) (Z.g 47 (by decide)) (Z.F 47 (by decide)).kp (bRows Z) .nil pass0 (pa_cons (pe_ix ix_tup (pv 1) pe_int (fun _ _ => rfl)) (pa_cons (pv 2) pa_nil))) pa_nil)) (by rfl))
  (pss_cons (ps_if (PW.pt (pw_or (pt_cmpR (op_eqD hu) (pv 2) (pe_lst pa_nil) (nomark _)) (pw_or (pt_cmpR op_ne (pe_callB call_len_seq (by rfl) Z.t.len PySem.boot_len (pa_cons (pv 4) pa_nil)) pe_int (nomark _)) (pw_or1 (pt_cmpR op_ne (pe_callB call_len_seq (by rfl) Z.t.len PySem.boot_len (pa_cons (pv 5) pa_nil)) pe_int (nomark _)))))) (pss_one (ps_ret pe_non)) pss_nil)
  (pss_cons (ps_set (i := 6) sc_str.nd rfl (Or.inl rfl) (pe_callB call_len_seq (by rfl) Z.t.len PySem.boot_len (pa_cons (pv 2) pa_nil)))
  (pss_cons (ps_set (i := 7) sc_str.nd rfl (Or.inl rfl) (pe_slice sl_list (pe_ix ix_list (pv 4) pe_int (fun _ _ => rfl)) po_none (po_some (pv 6))))
  (pss_cons (ps_if (PW.pt (pw_or (pt_cmpR (op_neD hu) (pe_callB cr_sortQ (by rfl) Z.t.sorted boot_sorted (pa_cons (pv 7) pa_nil)) (pv 2) (nomark _)) (pw_or1 (pt_cmpR (op_neD hu) (pv 7) (pe_revL (pe_slice sl_list (pe_ix ix_list (pv 5) pe_int (fun _ _ => rfl)) po_none (po_some (pv 6)))) (nomark _))))) (pss_one (ps_ret pe_non)) pss_nil)
  (pss_one (ps_ret (pe_tup (pa_cons (pv 7) (pa_cons (pe_slice sl_list (pe_ix ix_list (pv 4) pe_int (fun _ _ => rfl)) (po_some (pv 6)) po_none) (pa_cons (pe_slice sl_list (pe_ix ix_list (pv 5) pe_int (fun _ _ => rfl)) (po_some (pv 6)) po_none) pa_nil))))))))))), ?_⟩
  obtain ⟨p, q, pl1, ts1, rm1, pl2, ts2, rm2, rfl, ⟨aP, aT, aR, tv, hp, hP, hT, pt, hR, _⟩, ⟨bP, bT, bR, uv, hq, gP, gT, qt, gR, _⟩, l1, l2, l3, l4, o1, o2, o3, k⟩ := h
  have lS : (sortS pl1).length = pl1.length := sortS_len pl1
  have sz : 5000 < sizeLine := by decide
  refine ⟨_, rfl, p, _, 0, _, rfl, rfl, SqT.of hp, rfl, aP, pl1, rfl, .inl (SqL.of hP), fun u nu => ⟨u, rfl, ⟨_, SqL.of upd_same⟩, fun D hD => ?_⟩⟩
  have hDn : H D = none := by
    rw [upd_ne (ne_of_none upd_same hD).symm] at hD
    exact hD
  have Su := new_same (o := .lst ((sortS pl1).map V.str)) nu
  refine lc_list (xs := (sortS pl1).map V.str) (fun i H' => H' D = some (.lst ((((sortS pl1).take i).filter fun z => decide (z ∈ pl2)).map V.str)) ∧ Same (upd H u (.lst ((sortS pl1).map V.str))) H') ⟨upd_same, new_same hD⟩ (fun i H' _ ⟨_, S⟩ => SqL.of (S _ _ upd_same)) ?_ ?_
  · rintro i x H' hx ⟨acc, S⟩
    rw [List.getElem?_map] at hx
    cases ez : (sortS pl1)[i]? with
    | none => rw [ez] at hx; cases hx
    | some z =>
    rw [ez] at hx
    cases hx
    have S' := Su.trans S
    refine ⟨rfl, _, rfl, _, rfl, q, _, 0, _, rfl, rfl, SqT.of (S' _ _ hq), rfl, bP, _, rfl, .inl (SqL.of (S' _ _ gP)), rfl, flat_strs _, _, rfl, ?_⟩
    rw [show inV (.str z) (pl2.map V.str) = decide (z ∈ pl2) from inV_strs z pl2]
    rw [take_snoc ez, List.filter_append]
    have lf := List.length_filter_le (fun z => decide (z ∈ pl2)) ((sortS pl1).take i)
    rw [List.length_take] at lf
    refine ite2 (fun c => ?_) (fun c => ?_)
    · have c' : decide (z ∈ pl2) = true := c
      refine ⟨_, rfl, _, acc, ?_, ?_, ?_⟩
      · rw [List.length_map]
        omega
      · rw [upd_same, show List.filter (fun z => decide (z ∈ pl2)) [z] = [z] from List.filter_cons_of_pos (p := fun z => decide (z ∈ pl2)) (l := []) c', List.map_append]
        rfl
      · exact fun b o e => by
          rw [upd_ne (ne_of_none e hD)]
          exact S _ _ e
    · have c' : ¬ decide (z ∈ pl2) = true := c
      rw [show List.filter (fun z => decide (z ∈ pl2)) [z] = [] from List.filter_cons_of_neg (p := fun z => decide (z ∈ pl2)) (l := []) c', List.append_nil]
      exact ⟨acc, S⟩
  rintro H1 ⟨hacc, S1⟩
  rw [List.length_map, List.take_length] at hacc
  have S1' := Su.trans S1
  have hcom : H1 D = some (.lst ((common pl1 pl2).map V.str)) := hacc
  have lc := common_len pl1 pl2
  refine ⟨_, rfl, p, _, 2, _, rfl, rfl, SqT.of (S1' _ _ hp), rfl, _, rfl, aR, D, rm1, common pl1 pl2, rfl, S1' _ _ hR, hcom, l3, by omega, fun r xs H2 nr hx Rx S2 => ?_⟩
  have S2' := S1'.trans S2
  have hcom2 := S2 _ _ hcom
  refine ⟨_, rfl, q, _, 2, _, rfl, rfl, SqT.of (S2' _ _ hq), rfl, _, rfl, bR, D, rm2, common pl1 pl2, rfl, S2' _ _ gR, hcom2, l4, by omega, fun r' xs' H3 nr' hx' Rx' S3 => ?_⟩
  have S3' := S2'.trans S3
  have hcom3 := S3 _ _ hcom2
  have hx3 := S3 _ _ hx
  have lx : xs.length = (starts rm1 (common pl1 pl2)).length := by rw [Rx.1, List.length_map]
  have lx' : xs'.length = (starts rm2 (common pl1 pl2)).length := by rw [Rx'.1, List.length_map]
  refine ⟨_, _, rfl, _, rfl, Nat.zero_le _, fun e ne => ⟨_, _, dp_strs (by rw [upd_ne (ne_of_none hcom3 ne)]; exact hcom3), Dp.lst (SqL.of upd_same) .nil, shS (fun z hz => o1 z (common_mem hz).1), rfl, ?_⟩⟩
  have S4 := S3'.trans (new_same (o := .lst []) ne)
  have S34 : Same H3 (upd H3 e (.lst [])) := new_same ne
  rw [show PyData.eqv (strD (common pl1 pl2)) (.list []) = decide (common pl1 pl2 = []) from eqv_strs _ []]
  refine ⟨_, rfl, ?_⟩
  refine ite2 (fun c1 => ?_) (fun c1 => ?_)
  · exact k .non _ (by rw [stretch_no1 (of_decide_eq_true c1)]; exact rfl) S4
  have c1' : common pl1 pl2 ≠ [] := fun z => c1 (decide_eq_true z)
  refine ⟨_, rfl, r, xs, rfl, .inl (SqL.of (S34 _ _ hx3)), rfl, _, rfl, ?_⟩
  refine ite2 (fun c2 => ?_) (fun c2 => ?_)
  · have g2 : xs.length ≠ 1 := fun z => by
      rw [z] at c2
      exact absurd c2 (by decide)
    exact k .non _ (by rw [stretch_no2 (by rw [← lx]; exact g2)]; exact rfl) S4
  refine ⟨_, rfl, r', xs', rfl, .inl (SqL.of (S34 _ _ hx')), rfl, _, rfl, ?_⟩
  refine ite2 (fun c3 => ?_) (fun c3 => ?_)
  · have g3 : xs'.length ≠ 1 := fun z => by
      rw [z] at c3
      exact absurd c3 (by decide)
    exact k .non _ (by rw [stretch_no3 (by rw [← lx']; exact g3)]; exact rfl) S4
  have one : ∀ {n : Nat}, ¬ (!decide (V.int ((n : Nat) : Int) = V.int 1)) = true → n = 1 := fun {n} z => Classical.byContradiction fun y => z (by
    rw [decide_eq_false (fun w => y (by injection w with w; omega))]
    rfl)
  have g2 : xs.length = 1 := one c2
  have g3 : xs'.length = 1 := one c3
  obtain ⟨i, e1⟩ := List.length_eq_one_iff.mp (lx.symm.trans g2)
  obtain ⟨j, e2⟩ := List.length_eq_one_iff.mp (lx'.symm.trans g3)
  obtain ⟨v, rfl⟩ := List.length_eq_one_iff.mp g2
  obtain ⟨v', rfl⟩ := List.length_eq_one_iff.mp g3
  obtain ⟨m, rfl, hm, nm⟩ := Rx.2 0 v (rot rm1 i) rfl (by rw [e1]; rfl)
  obtain ⟨m', rfl, hm', nm'⟩ := Rx'.2 0 v' (rot rm2 j) rfl (by rw [e2]; rfl)
  have hm3 := S3 _ _ hm
  generalize hH4 : upd H3 e (.lst []) = H4 at S4 S34 ⊢
  refine ⟨_, rfl, D, _, rfl, .inl (SqL.of (S34 _ _ hcom3)), ?_⟩
  rw [List.length_map]
  refine ⟨_, rfl, r, _, 0, _, rfl, rfl, SqL.of (S34 _ _ hx3), rfl, _, rfl, _, rfl, m, _, rfl, SqL.of (S34 _ _ hm3), fun s1 n1 => ?_⟩
  rw [cut_to, ← List.map_take]
  have hm4 := S34 _ _ hm3
  have hm4' := S34 _ _ hm'
  have hx4 := S34 _ _ hx3
  have hx4' := S34 _ _ hx'
  have hc4 := S34 _ _ hcom3
  generalize hrow : (rot rm1 i).take (common pl1 pl2).length = row
  have T1 := new_same (o := .lst (row.map V.str)) n1
  have os : ∀ z ∈ sortS row, PyData.strOk z = true := fun z hz => by
    have hz := (sortS_perm row).mem_iff.mp hz
    rw [← hrow] at hz
    exact o2 z (rot_mem (List.mem_of_mem_take hz))
  have oc : ∀ z ∈ common pl1 pl2, PyData.strOk z = true := fun z hz => o1 z (common_mem hz).1
  refine ⟨_, rfl, s1, row, rfl, .inl (SqL.of upd_same), fun s2 n2 => ?_⟩
  have T2 := T1.trans (new_same (o := .lst ((sortS row).map V.str)) n2)
  refine ⟨_, rfl, _, _, dp_strs upd_same, dp_strs (T2 _ _ hc4), shS os, shS oc, ?_⟩
  rw [eqv_strs]
  refine ⟨_, rfl, ?_⟩
  have st := stretch_at e1 e2
  refine ite2 (fun c4 => ?_) (fun c4 => ?_)
  · have c4' : ¬ sortS row = common pl1 pl2 := fun z => by
      rw [decide_eq_true z] at c4
      cases c4
    exact k .non _ (by rw [st, hrow, if_neg fun z => c4' z.2.1]; exact rfl) (S4.trans T2)
  have c4' : sortS row = common pl1 pl2 := Classical.byContradiction fun z => c4 (by rw [decide_eq_false z]; rfl)
  refine ⟨_, rfl, _, rfl, r', _, 0, _, rfl, rfl, SqL.of (T2 _ _ hx4'), rfl, _, rfl, _, rfl, m', _, rfl, SqL.of (T2 _ _ hm4'), fun s3 n3 => ?_⟩
  rw [cut_to, ← List.map_take]
  generalize hback : (rot rm2 j).take (common pl1 pl2).length = back
  have T3 := T2.trans (new_same (o := .lst (back.map V.str)) n3)
  refine ⟨s3, _, rfl, SqL.of upd_same, fun s4 n4 => ?_⟩
  rw [← List.map_reverse]
  have T4 := T3.trans (new_same (o := .lst (back.reverse.map V.str)) n4)
  have r1 := upd_same (H := H4) (a := s1) (o := .lst (row.map V.str))
  have r2 := new_same (o := .lst ((sortS row).map V.str)) n2 _ _ r1
  have r3 := new_same (o := .lst (back.map V.str)) n3 _ _ r2
  have r4 := new_same (o := .lst (back.reverse.map V.str)) n4 _ _ r3
  have ow : ∀ z ∈ row, PyData.strOk z = true := fun z hz => os z ((sortS_perm row).mem_iff.mpr hz)
  have ob : ∀ z ∈ back.reverse, PyData.strOk z = true := fun z hz => by
    have hz := List.mem_reverse.mp hz
    rw [← hback] at hz
    exact o3 z (rot_mem (List.mem_of_mem_take hz))
  refine ⟨_, _, dp_strs r4, dp_strs upd_same, shS ow, shS ob, ?_⟩
  rw [eqv_strs]
  refine ⟨_, rfl, ?_⟩
  refine ite2 (fun c5 => ?_) (fun c5 => ?_)
  · have c5' : ¬ row = back.reverse := fun z => by
      rw [decide_eq_true z] at c5
      cases c5
    exact k .non _ (by rw [st, hrow, hback, if_neg fun z => c5' z.2.2]; exact rfl) (S4.trans T4)
  have c5' : row = back.reverse := Classical.byContradiction fun z => c5 (by rw [decide_eq_false z]; rfl)
  generalize hH5 : upd (upd (upd (upd H4 s1 (.lst (row.map V.str))) s2 (.lst ((sortS row).map V.str))) s3 (.lst (back.map V.str))) s4 (.lst (back.reverse.map V.str)) = H5 at T4 r4 ⊢
  refine ⟨_, rfl, _, rfl, r, _, 0, _, rfl, rfl, SqL.of (T4 _ _ hx4), rfl, _, rfl, _, rfl, m, _, rfl, SqL.of (T4 _ _ hm4), fun s5 n5 => ?_⟩
  rw [cut_from, ← List.map_drop]
  generalize hmine : (rot rm1 i).drop (common pl1 pl2).length = mine
  have T5 := T4.trans (new_same (o := .lst (mine.map V.str)) n5)
  refine ⟨_, rfl, r', _, 0, _, rfl, rfl, SqL.of (T5 _ _ hx4'), rfl, _, rfl, _, rfl, m', _, rfl, SqL.of (T5 _ _ hm4'), fun s6 n6 => ?_⟩
  rw [cut_from, ← List.map_drop]
  generalize htheirs : (rot rm2 j).drop (common pl1 pl2).length = theirs
  have T6 := T5.trans (new_same (o := .lst (theirs.map V.str)) n6)
  refine ⟨by show 3 ≤ sizeLine; decide, fun t nt => ?_⟩
  have S6 := S4.trans T6
  have f1 := S4.free n1
  have f5 := (S4.trans T4).free n5
  have f6 := (S4.trans T5).free n6
  have r5 := new_same (o := .lst (mine.map V.str)) n5 _ _ r4
  have h5 := upd_same (H := H5) (a := s5) (o := .lst (mine.map V.str))
  have r6 := new_same (o := .lst (theirs.map V.str)) n6 _ _ r5
  have h6 := new_same (o := .lst (theirs.map V.str)) n6 _ _ h5
  refine k (.ref t) _ ?_ (S6.trans (new_same nt))
  rw [st, hrow, hback, hmine, htheirs, if_pos ⟨c1', c4', c5'⟩]
  exact ⟨t, rfl, s1, s5, s6, upd_same, new_same nt _ _ r6, new_same nt _ _ h6, new_same nt _ _ upd_same, S6.free nt, f1, f5, f6, ne_of_none r4 n5, ne_of_none r5 n6, ne_of_none h5 n6⟩
end
end E1

set_option Elab.async false
set_option linter.all false
set_option maxRecDepth 100000
set_option maxHeartbeats 8000000
/-! A rim, begun at a drawn place. -/
namespace E1
open PySem PySem.Spec PyProof.Rows L2 G0
abbrev N_turn : List Str := ["_law_stream", "_law_rim", "_law_at"]
theorem sc_turn : FnScope N_turn ["_law_stream", "_law_rim"] (defScope (topS 50)) := ⟨rfl, rfl, rfl, by decide +kernel, rfl, by decide +kernel, by decide +kernel⟩
def spTurn : Sp := fun vs H Q _ => ∃ (p l a : Addr) (n : Nat) (rm : List Str), vs = [.ref p, .ref a] ∧ Stm H p l n ∧ n < 90000000 ∧ H a = some (.lst (rm.map V.str)) ∧ a ≠ p ∧ a ≠ l ∧ rm.length ≤ 1000 ∧
  ∀ (r : Addr) (i : Nat) (H' : Hp), Fr H p l (n + 1) H' → H r = none → H' r = some (.lst ((rot rm i).map V.str)) → Q (.ref r) H'
section
variable {P : Program} {w : World} {K : PySem.W.Frag} {mg : Str → Option Value} {base : Heap}
theorem bTurn (Z : LawD K mg) : Binds K (Z.d 50) ["_law_stream", "_law_rim"] [] := (Z.F 50 (by decide)).binds fun _ _ _ _ _ _ us hl => match us, hl with | [_, _], _ => rfl
theorem ok_turn (Z : LawD K mg) : FnOk P w K mg base CX0 2 (Z.f 50) (Z.d 50) ["_law_stream", "_law_rim"] spTurn := by
  have GD : FnOk P w K mg base CX0 1 Z.s.fD Z.s.dD ["_law_stream", "_law_many"] spDr := ok_dr Z.s
  refine Fun.ok (Z.F 50 (by decide)) sc_turn (fun vs H Q E h => ?_) (fun cdv A outer s H vs Q E hr h => ⟨_, pss_cons (ps_set (i := 2) sc_turn.nd rfl (Or.inl rfl) (pe_call GD (hr.mono (by decide)) (by rfl) Z.s.gD Z.s.FD.kp (bDr Z.s) .nil pass0 (pa_cons (pv 0) (pa_cons (pe_op op_add (pe_callB call_len_seq (by rfl) Z.t.len PySem.boot_len (pa_cons (pv 1) pa_nil)) pe_int) pa_nil))))
  (pss_one (ps_ret (pe_op op_cat (pe_slice sl_list (pv 1) (po_some (pv 2)) po_none) (pe_slice sl_list (pv 1) po_none (po_some (pv 2)))))), ?_⟩)
  · obtain ⟨p, l, a, n, rm, rfl, _⟩ := h
    rfl
  · obtain ⟨p, l, a, n, rm, rfl, S, hn, ha, ap, al, lr, k⟩ := h
    have sz : 5000 < sizeLine := by decide
    refine ⟨_, rfl, _, rfl, a, _, rfl, .inl (SqL.of ha), _, _, rfl, rfl, p, l, n, rm.length + 1, by rw [List.length_map]; rfl, S, by omega, by omega, by omega, fun i H1 hi F1 => ?_⟩
    have ha1 : H1 a = some (.lst (rm.map V.str)) := F1.but _ _ ha ap al
    refine ⟨_, rfl, _, rfl, (i : Int), rfl, a, _, rfl, SqL.of ha1, fun s3 n3 => ?_⟩
    rw [cut_from, ← List.map_drop]
    have T3 := new_same (o := .lst ((rm.drop i).map V.str)) n3
    refine ⟨_, rfl, _, rfl, (i : Int), rfl, a, _, rfl, SqL.of (T3 _ _ ha1), fun s4 n4 => ?_⟩
    rw [cut_to, ← List.map_take]
    have T4 := T3.trans (new_same (o := .lst ((rm.take i).map V.str)) n4)
    refine ⟨s3, s4, _, _, rfl, rfl, new_same n4 _ _ upd_same, upd_same, ?_, fun s5 n5 => ?_⟩
    · rw [List.length_map, List.length_map, List.length_drop, List.length_take]
      omega
    have T5 := T4.trans (new_same (o := .lst ((rm.drop i).map V.str ++ (rm.take i).map V.str)) n5)
    refine k s5 i _ (F1.same T5) (F1.free (T4.free n5)) ?_
    rw [upd_same]
    unfold rot
    rw [List.map_append]
end
end E1

set_option Elab.async false
set_option linter.all false
set_option maxRecDepth 100000
set_option maxHeartbeats 8000000
/-! What two boards beside one another are together, as the law makes it. -/
namespace E1
open PySem PySem.Spec PyProof.Rows L2 G0
def wholeP (pl1 pl2 : List Str) : List Str := sortS (once (pl1 ++ pl2))
def wholeT (ts1 ts2 : List Pr) : List Pr := once (sortPr (ts1 ++ ts2))
abbrev N_whole : List Str := ["_law_one", "_law_other", "_law_row", "_law_mine", "_law_theirs", "_law_ties", "_law_a", "_law_b"]
theorem sc_whole : FnScope N_whole ["_law_one", "_law_other"] (defScope (topS 49)) := ⟨rfl, rfl, rfl, by decide +kernel, rfl, by decide +kernel, by decide +kernel⟩
def spWhole : Sp := fun vs H Q _ => ∃ (p q : Addr) (pl1 : List Str) (ts1 : List Pr) (rm1 pl2 : List Str) (ts2 : List Pr) (rm2 row mine theirs : List Str), vs = [.ref p, .ref q] ∧ RawAt (fun _ => True) H p pl1 ts1 rm1 ∧ RawAt (fun _ => True) H q pl2 ts2 rm2 ∧ RawOk pl1 ts1 rm1 ∧ RawOk pl2 ts2 rm2 ∧
  stretch pl1 rm1 pl2 rm2 = some (row, mine, theirs) ∧
  ∀ r H', RawAt (fun c => H c = none) H' r (wholeP pl1 pl2) (wholeT ts1 ts2) (mine ++ theirs) → Same H H' → Q (.ref r) H'
theorem stretch_some {p1 r1 p2 r2 row mine theirs : List Str} (h : stretch p1 r1 p2 r2 = some (row, mine, theirs)) : ∃ i j, rot r1 i = row ++ mine ∧ rot r2 j = row.reverse ++ theirs ∧ row.Perm (common p1 p2) ∧ common p1 p2 ≠ [] := by
  unfold stretch at h
  split at h
  · rename_i i j e1 e2
    split at h
    · rename_i c
      obtain ⟨c1, c2, c3⟩ := c
      injection h with h
      injection h with h1 h
      injection h with h2 h3
      refine ⟨i, j, ?_, ?_, ?_, c1⟩
      · rw [← h1, ← h2, List.take_append_drop]
      · rw [← h1, c3, List.reverse_reverse, ← h3, List.take_append_drop]
      · rw [← h1]
        generalize (rot r1 i).take (common p1 p2).length = u at c2 ⊢
        rw [← c2]
        exact (sortS_perm _).symm
    · cases h
  · cases h
theorem rot_len (rm : List Str) (i : Nat) : (rot rm i).length = rm.length := (rot_perm rm i).length_eq
theorem nd_len {xs ys : List Str} (nd : xs.Nodup) (h : ∀ z ∈ xs, z ∈ ys) : xs.length ≤ ys.length := nd.length_le_of_subset h
theorem RawOk.rlen {pl : List Str} {ts : List Pr} {rm : List Str} (r : RawOk pl ts rm) : rm.length ≤ 44 := Nat.le_trans (nd_len r.rnd r.rin) r.len
theorem RawOk.strP {pl : List Str} {ts : List Pr} {rm : List Str} (r : RawOk pl ts rm) : ∀ z ∈ pl, PyData.strOk z = true := fun z hz => name_ok (r.name hz)
theorem RawOk.strR {pl : List Str} {ts : List Pr} {rm : List Str} (r : RawOk pl ts rm) : ∀ z ∈ rm, PyData.strOk z = true := fun z hz => r.strP z (r.rin z hz)
theorem RawOk.tlen {pl : List Str} {ts : List Pr} {rm : List Str} (r : RawOk pl ts rm) : ts.length ≤ 968 := r.ts.len r.len
theorem RawOk.strT {pl : List Str} {ts : List Pr} {rm : List Str} (r : RawOk pl ts rm) : ∀ t ∈ ts, PyData.strOk t.1 = true ∧ PyData.strOk t.2 = true := fun t ht => ⟨r.strP _ (r.ts.ok t ht).1, r.strP _ (r.ts.ok t ht).2.1⟩
theorem map_strs_A2 {H : Hp} (ss : List Str) : A2 (isS H) (ss.map V.str) ss := by
  refine ⟨List.length_map .., fun i v q h1 h2 => ?_⟩
  rw [List.getElem?_map, h2] at h1
  cases h1
  rfl
theorem A2_strs {H : Hp} {ys : List V} {ss : List Str} (h : A2 (isS H) ys ss) : ys = ss.map V.str := by
  refine List.ext_getElem? fun i => ?_
  rw [List.getElem?_map]
  cases e : ss[i]? with
  | none => exact List.getElem?_eq_none (by rw [h.1]; exact List.getElem?_eq_none_iff.mp e)
  | some s =>
    have l := (List.getElem?_eq_some_iff.mp e).1
    have l' : i < ys.length := by rw [h.1]; exact l
    have := h.2 i _ s (List.getElem?_eq_getElem l') e
    rw [List.getElem?_eq_getElem l', show ys[i] = V.str s from this]
    rfl
section
variable {P : Program} {w : World} {K : PySem.W.Frag} {mg : Str → Option Value} {base : Heap}
theorem bWhole (Z : LawD K mg) : Binds K (Z.d 49) ["_law_one", "_law_other"] [] := (Z.F 49 (by decide)).binds fun _ _ _ _ _ _ us hl => match us, hl with | [_, _], _ => rfl
theorem ok_whole (Z : LawD K mg) : FnOk P w K mg base CX0 3 (Z.f 49) (Z.d 49) ["_law_one", "_law_other"] spWhole := by
  have GST : FnOk P w K mg base CX0 2 (Z.f 48) (Z.d 48) ["_law_one", "_law_other"] spStr := ok_str Z
  have GEP : FnOk P w K mg base CX0 1 (Z.f 58) (Z.d 58) ["_law_things"] (spOnce isP (fun q => PyData.strOk q.1 = true ∧ PyData.strOk q.2 = true)) := ok_onceP Z
  have GES : FnOk P w K mg base CX0 1 (Z.f 58) (Z.d 58) ["_law_things"] (spOnce isS (fun s => PyData.strOk s = true)) := ok_onceS Z
  have GT : FnOk P w K mg base CX0 1 (Z.f 43) (Z.d 43) N_a_tie spTie := ok_a_tie Z
  refine Fun.ok (Z.F 49 (by decide)) sc_whole (fun vs H Q E h => ?_) (fun cdv A outer s H vs Q E hr h => ⟨_, pss_cons (ps_asg (pe_call GST (hr.mono (by decide)) (by rfl) (Z.g 48 (by decide)) (Z.F 48 (by decide)).kp (bStr Z) .nil pass0 (pa_cons (pv 0) (pa_cons (pv 1) pa_nil))) (pg_tup rfl (pgs_cons (pg_name (i := 2) sc_whole.nd rfl (Or.inl rfl)) (pgs_cons (pg_name (i := 3) sc_whole.nd rfl (Or.inl rfl)) (pgs_cons (pg_name (i := 4) sc_whole.nd rfl (Or.inl rfl)) pgs_nil)))))
  (pss_cons (ps_set (i := 5) sc_whole.nd rfl (Or.inl rfl) (pe_call GEP (hr.mono (by decide)) (by rfl) (Z.g 58 (by decide)) (Z.F 58 (by decide)).kp (bOnce Z) .nil pass0 (pa_cons (pe_callB cr_sortP (by rfl) Z.t.sorted boot_sorted (pa_cons (pe_lc (own := [("_law_a", 6), ("_law_b", 7)]) (g := gTup K 2 (gCons (gName 6) (gCons (gName 7) gNil))) (tt := tYes) (te := tCall spTie [] L2.E0 (tCons (tVar 6) (tCons (tVar 7) tNil))) rfl sc_whole.nd (pi_list (pe_op op_cat (pe_callTy call_list_of (by rfl) Z.t.list PyProof.Rows.boot_list (pa_cons (pe_ix ix_tup (pv 0) pe_int (fun _ _ => rfl)) pa_nil)) (pe_callTy call_list_of (by rfl) Z.t.list PyProof.Rows.boot_list (pa_cons (pe_ix ix_tup (pv 1) pe_int (fun _ _ => rfl)) pa_nil)))) (blkOk_by (own := [("_law_a", 6), ("_law_b", 7)]) (N := N_whole) (sc := defScope (topS 49)) (by decide +kernel)) (fun _ _ _ _ _ => by exact (pg_tup rfl (pgs_cons (pg_name (i := 6) sc_whole.nd rfl (Or.inl rfl)) (pgs_cons (pg_name (i := 7) sc_whole.nd rfl (Or.inl rfl)) pgs_nil)))) (fun _ _ _ _ _ => pts_nil) (fun _ _ _ _ _ => (pe_call GT (hr.mono (by decide)) (by rfl) (Z.g 43 (by decide)) (Z.F 43 (by decide)).kp (bTie Z) .nil pass0 (pa_cons (pv 6) (pa_cons (pv 7) pa_nil))))) pa_nil)) pa_nil)))
  (pss_one (ps_ret (pe_tup (pa_cons (pe_callB cr_sortQ (by rfl) Z.t.sorted boot_sorted (pa_cons (pe_call GES (hr.mono (by decide)) (by rfl) (Z.g 58 (by decide)) (Z.F 58 (by decide)).kp (bOnce Z) .nil pass0 (pa_cons (pe_op op_cat (pe_callTy call_list_of (by rfl) Z.t.list PyProof.Rows.boot_list (pa_cons (pe_ix ix_tup (pv 0) pe_int (fun _ _ => rfl)) pa_nil)) (pe_callTy call_list_of (by rfl) Z.t.list PyProof.Rows.boot_list (pa_cons (pe_ix ix_tup (pv 1) pe_int (fun _ _ => rfl)) pa_nil))) pa_nil)) pa_nil)) (pa_cons (pv 5) (pa_cons (pe_op op_cat (pv 3) (pv 4)) pa_nil))))))), ?_⟩)
  · obtain ⟨p, q, pl1, ts1, rm1, pl2, ts2, rm2, row, mine, theirs, rfl, _⟩ := h
    rfl
  obtain ⟨p, q, pl1, ts1, rm1, pl2, ts2, rm2, row, mine, theirs, rfl, R1, R2, k1, k2, est, k⟩ := h
  obtain ⟨aP, aT, aR, tv, hp, hP, hT, pt, hR, _⟩ := id R1
  obtain ⟨bP, bT, bR, uv, hq, gP, gT, qt, gR, _⟩ := id R2
  have sz : 5000 < sizeLine := by decide
  have n1 := k1.len
  have n2 := k2.len
  have n3 := k1.rlen
  have n4 := k2.rlen
  have n5 := k1.tlen
  have n6 := k2.tlen
  have m5 : tv.length = ts1.length := pt.1
  have m6 : uv.length = ts2.length := qt.1
  refine ⟨_, rfl, _, rfl, p, q, pl1, ts1, rm1, pl2, ts2, rm2, rfl, R1, R2, by omega, by omega, by omega, by omega, k1.strP, k1.strR, k2.strR, fun v H1 ans S1 => ?_⟩
  rw [est] at ans
  obtain ⟨t, rfl, x, y, z, ht, hx, hy, hz, nt, nx, ny, nz, _, _, _⟩ := ans
  refine ⟨t, _, rfl, SqT.of ht, rfl, _, _, rfl, _, _, rfl, _, _, rfl, rfl, ?_⟩
  refine ⟨_, rfl, p, _, 1, _, rfl, rfl, SqT.of (S1 _ _ hp), rfl, aT, tv, rfl, .inl (SqL.of (S1 _ _ hT)), fun s1 o1 => ?_⟩
  have T1 := new_same (o := .lst tv) o1
  have U1 := S1.trans T1
  refine ⟨_, rfl, q, _, 1, _, rfl, rfl, SqT.of (U1 _ _ hq), rfl, bT, uv, rfl, .inl (SqL.of (U1 _ _ gT)), fun s2 o2 => ?_⟩
  have T2 := T1.trans (new_same (o := .lst uv) o2)
  refine ⟨s1, s2, _, _, rfl, rfl, new_same o2 _ _ upd_same, upd_same, by omega, fun s3 o3 => ⟨s3, rfl, ⟨_, SqL.of upd_same⟩, fun D hD => ?_⟩⟩
  have T3 := T2.trans (new_same (o := .lst (tv ++ uv)) o3)
  have h3 : (upd (upd (upd H1 s1 (.lst tv)) s2 (.lst uv)) s3 (.lst (tv ++ uv))) s3 = some (.lst (tv ++ uv)) := upd_same
  generalize upd (upd (upd H1 s1 (.lst tv)) s2 (.lst uv)) s3 (.lst (tv ++ uv)) = H3 at T3 h3 hD ⊢
  have U3 := S1.trans T3
  have P3 : PrsAt H3 (tv ++ uv) (ts1 ++ ts2) := prs_app (pt.mono fun t xs h => U3 _ _ h) (qt.mono fun t xs h => U3 _ _ h)
  have hDn := U3.free hD
  refine lc_list (xs := tv ++ uv) (fun i H' => ∃ acc, H' D = some (.lst acc) ∧ PrsAt H' acc ((ts1 ++ ts2).take i) ∧ (∀ t, V.ref t ∈ acc → H t = none) ∧ Same H3 H') ⟨[], upd_same, by rw [List.take_zero]; exact PrsAt.nil, (fun t ht => by cases ht), new_same hD⟩ (fun i H' _ ⟨_, _, _, _, S⟩ => SqL.of (S _ _ h3)) ?_ ?_
  · rintro i v H' hv ⟨acc, hacc, pa, fa, S⟩
    have il : i < (ts1 ++ ts2).length := by
      rw [← P3.1]
      exact (List.getElem?_eq_some_iff.mp hv).1
    obtain ⟨t', rfl, ht'⟩ := P3.2 i v _ hv (List.getElem?_eq_getElem il)
    generalize hpr : (ts1 ++ ts2)[i] = pr at ht'
    have ht2 := S _ _ ht'
    have hin : pr ∈ ts1 ++ ts2 := hpr ▸ List.getElem_mem il
    have hlt : ltS pr.1 pr.2 = true := (List.mem_append.mp hin).elim (fun h => (k1.ts.ok _ h).2.2) fun h => (k2.ts.ok _ h).2.2
    refine ⟨t', _, rfl, SqT.of ht2, rfl, _, _, rfl, _, _, rfl, rfl, rfl, yes_of ⟨_, rfl, _, rfl, pr.1, pr.2, rfl, fun T nT => ?_⟩⟩
    rw [tp_self hlt]
    have ST := new_same (o := .tup [.str pr.1, .str pr.2]) nT
    have aT' := ST _ _ hacc
    have la := pa.1
    rw [List.length_take, List.length_append] at la
    rw [List.length_append] at il
    refine ⟨acc, aT', by omega, acc ++ [.ref T], upd_same, ?_, ?_, ?_⟩
    · rw [take_snoc (show (ts1 ++ ts2)[i]? = some pr by rw [List.getElem?_eq_getElem (by rw [List.length_append]; exact il), hpr])]
      refine prs_upd (prs_snoc (pa.mono fun t xs h => ST _ _ h) upd_same) (fun xs e => ?_)
      rw [aT'] at e
      cases e
    · intro c hc
      rcases List.mem_append.mp hc with h | h
      · exact fa c h
      · cases List.mem_singleton.mp h
        exact U3.free (S.free nT)
    · exact fun b o e => by
        rw [upd_ne (ne_of_none e hD)]
        exact ST _ _ (S _ _ e)
  rintro H4 ⟨acc, hacc, pa, fa, S4⟩
  rw [P3.1, List.take_length] at pa
  have U4 := U3.trans S4
  have la := pa.1
  rw [List.length_append] at la
  refine ⟨D, acc, ts1 ++ ts2, rfl, SqL.of hacc, pa, fun s5 ys n5 perm py => ?_⟩
  have S5 := new_same (o := .lst ys) n5
  refine ⟨s5, ys, sortPr (ts1 ++ ts2), rfl, upd_same, (show PrsAt (upd H4 s5 (.lst ys)) ys (sortPr (ts1 ++ ts2)) from py.mono fun t xs h => S5 _ _ h), fun q hq => ?_, by rw [perm.length_eq]; omega, fun r zs H6 nr hr hz6 sub S6 => ?_⟩
  · have hq := (sortPr_perm _).mem_iff.mp hq
    exact (List.mem_append.mp hq).elim (k1.strT q) (k2.strT q)
  have U5 := U4.trans S5
  have U6 := U5.trans S6
  have fz : ∀ t, V.ref t ∈ zs → H t = none := fun t ht => fa t (perm.mem_iff.mp (sub _ ht))
  have nr0 := U5.free nr
  have ht6 := S6 _ _ (S5 _ _ (S4 _ _ (T3 _ _ ht)))
  have hx6 := S6 _ _ (S5 _ _ (S4 _ _ (T3 _ _ hx)))
  have hy6 := S6 _ _ (S5 _ _ (S4 _ _ (T3 _ _ hy)))
  have hz6' := S6 _ _ (S5 _ _ (S4 _ _ (T3 _ _ hz)))
  have PZ : PrsAt H6 zs (wholeT ts1 ts2) := hz6
  refine ⟨_, rfl, p, _, 0, _, rfl, rfl, SqT.of (U6 _ _ hp), rfl, aP, _, rfl, .inl (SqL.of (U6 _ _ hP)), fun s7 o7 => ?_⟩
  have V1 := new_same (o := .lst (pl1.map V.str)) o7
  refine ⟨_, rfl, q, _, 0, _, rfl, rfl, SqT.of (V1 _ _ (U6 _ _ hq)), rfl, bP, _, rfl, .inl (SqL.of (V1 _ _ (U6 _ _ gP))), fun s8 o8 => ?_⟩
  have V2 := V1.trans (new_same (o := .lst (pl2.map V.str)) o8)
  refine ⟨s7, s8, _, _, rfl, rfl, new_same o8 _ _ upd_same, upd_same, by rw [List.length_map, List.length_map]; omega, fun s9 o9 => ?_⟩
  rw [← List.map_append]
  have V3 := V2.trans (new_same (o := .lst ((pl1 ++ pl2).map V.str)) o9)
  refine ⟨s9, _, pl1 ++ pl2, rfl, upd_same, map_strs_A2 _, fun z hz => (List.mem_append.mp hz).elim (k1.strP z) (k2.strP z), by rw [List.length_map, List.length_append]; omega, fun r2 ws H8 nr2 hr2 hw8 _ S8 => ?_⟩
  rw [A2_strs hw8] at hr2
  have V8 := V3.trans S8
  refine ⟨r2, _, rfl, .inl (SqL.of hr2), fun s10 o10 => ?_⟩
  have V9 := V8.trans (new_same (o := .lst ((sortS (once (pl1 ++ pl2))).map V.str)) o10)
  have h10 := upd_same (H := H8) (a := s10) (o := .lst ((sortS (once (pl1 ++ pl2))).map V.str))
  generalize upd H8 s10 (.lst ((sortS (once (pl1 ++ pl2))).map V.str)) = H9 at V9 h10 ⊢
  obtain ⟨i1, j1, q1, q2, _⟩ := stretch_some est
  have lm := congrArg List.length q1
  have lm' := congrArg List.length q2
  rw [rot_len, List.length_append] at lm lm'
  refine ⟨_, rfl, _, rfl, _, rfl, y, z, _, _, rfl, rfl, V9 _ _ hy6, V9 _ _ hz6', ?_, fun s11 o11 => ⟨by show 3 ≤ sizeLine; decide, fun T nT => ?_⟩⟩
  · rw [List.length_map, List.length_map]
    omega
  rw [← List.map_append] at nT ⊢
  have W1 := new_same (o := .lst ((mine ++ theirs).map V.str)) o11
  have W2 := W1.trans (new_same (o := .tup [.ref s10, .ref r, .ref s11]) nT)
  refine k T _ ⟨s10, r, s11, zs, upd_same, W2 _ _ h10, W2 _ _ (V9 _ _ hr), PZ.mono fun t xs h => W2 _ _ (V9 _ _ h), new_same nT _ _ upd_same, ?_, ?_, nr0, ?_, fz⟩ (U6.trans (V9.trans W2))
  · exact (U6.trans (V9.trans W1)).free nT
  · exact (U6.trans V8).free o10
  · exact (U6.trans V9).free o11
end
end E1

set_option Elab.async false
set_option linter.all false
set_option maxRecDepth 100000
set_option maxHeartbeats 8000000
/-! One side of a pair of boards, as the law draws it. -/
namespace E1
open PySem PySem.Spec PyProof.Rows L2 G0
abbrev N_side : List Str := ["_law_stream", "_law_common", "_law_names", "_law_pins", "_law_places", "_law_ties", "_law_share", "_law_at", "_law_one", "_law_other"]
theorem sc_side : FnScope N_side ["_law_stream", "_law_common", "_law_names", "_law_pins"] (defScope (topS 51)) := ⟨rfl, rfl, rfl, by decide +kernel, rfl, by decide +kernel, by decide +kernel⟩
def spSide : Sp := fun vs H Q _ => ∃ (p l c m : Addr) (n pins : Nat) (com nm : List Str), vs = [.ref p, .ref c, .ref m, .int (pins : Int)] ∧ Stm H p l n ∧ n < 70000000 ∧ H c = some (.lst (com.map V.str)) ∧ H m = some (.lst (nm.map V.str)) ∧ c ≠ p ∧ c ≠ l ∧ m ≠ p ∧ m ≠ l ∧
  (com ++ nm).Nodup ∧ (∀ z ∈ com ++ nm, z ∈ baseN) ∧ (com ++ nm).length ≤ 7 ∧
  ∀ (r : Addr) (ts : List Pr) (i : Nat) (H' : Hp), Fr H p l (n + 900) H' → RawAt (fun c => H c = none) H' r (com ++ nm) ts (rot (com ++ nm.take pins) i) → RawOk (com ++ nm) ts (rot (com ++ nm.take pins) i) → Q (.ref r) H'
section
variable {P : Program} {w : World} {K : PySem.W.Frag} {mg : Str → Option Value} {base : Heap}
theorem bSide (Z : LawD K mg) : Binds K (Z.d 51) ["_law_stream", "_law_common", "_law_names", "_law_pins"] [] := (Z.F 51 (by decide)).binds fun _ _ _ _ _ _ us hl => match us, hl with | [_, _, _, _], _ => rfl
theorem ok_side (Z : LawD K mg) : FnOk P w K mg base CX0 4 (Z.f 51) (Z.d 51) ["_law_stream", "_law_common", "_law_names", "_law_pins"] spSide := by
  have GD : FnOk P w K mg base CX0 1 Z.s.fD Z.s.dD ["_law_stream", "_law_many"] spDr := ok_dr Z.s
  have GT : FnOk P w K mg base CX0 1 (Z.f 43) (Z.d 43) N_a_tie spTie := ok_a_tie Z
  have GTU : FnOk P w K mg base CX0 2 (Z.f 50) (Z.d 50) ["_law_stream", "_law_rim"] spTurn := ok_turn Z
  refine Fun.ok (Z.F 51 (by decide)) sc_side (fun vs H Q E h => ?_) (fun cdv A outer s H vs Q E hr h => ⟨_, pss_cons (ps_asg (pe_tup (pa_cons (pe_op op_cat (pv 1) (pv 2)) (pa_cons (pe_lst pa_nil) (pa_cons (pe_op op_add pe_int (pe_call GD (hr.mono (by decide)) (by rfl) Z.s.gD Z.s.FD.kp (bDr Z.s) .nil pass0 (pa_cons (pv 0) (pa_cons pe_int pa_nil)))) pa_nil)))) (pg_tup rfl (pgs_cons (pg_name (i := 4) sc_side.nd rfl (Or.inl rfl)) (pgs_cons (pg_name (i := 5) sc_side.nd rfl (Or.inl rfl)) (pgs_cons (pg_name (i := 6) sc_side.nd rfl (Or.inr rfl)) pgs_nil)))))
  (pss_cons (ps_for PassesOwn.never rfl (pi_enumQ (by rfl) Z.t.enumerate (pa_cons (pv 4) pa_nil)) (pg_tup rfl (pgs_cons (pg_name (i := 7) sc_side.nd rfl (Or.inl rfl)) (pgs_cons (pg_name (i := 8) sc_side.nd rfl (Or.inr rfl)) pgs_nil)))
    (pss_one (ps_expr (pe_bm PySem.F.plainAttrs_list PySem.F.slot_list_extend PySem.F.type_list_extend mt_extend (pv 5) (pa_cons (pe_lc (own := [("_law_other", 9)]) (tt := _) rfl sc_side.nd (pi_list (pe_slice sl_list (pv 4) (po_some (pe_op op_add (pv 7) pe_int)) po_none)) (blkOk_by (own := [("_law_other", 9)]) (N := N_side) (sc := defScope (topS 51)) (by decide +kernel)) (fun _ _ _ _ _ => (pg_name (i := 9) sc_side.nd rfl (Or.inl rfl))) (fun _ _ _ _ _ => (pts_one (pt_cmpR op_lt (pe_call GD (hr.mono (by decide)) (by rfl) Z.s.gD Z.s.FD.kp (bDr Z.s) .nil pass0 (pa_cons (pv 0) (pa_cons pe_int pa_nil))) (pv 6) (nomark _)))) (fun _ _ _ _ _ => (pe_call GT (hr.mono (by decide)) (by rfl) (Z.g 43 (by decide)) (Z.F 43 (by decide)).kp (bTie Z) .nil pass0 (pa_cons (pv 8) (pa_cons (pv 9) pa_nil))))) pa_nil)))))
  (pss_one (ps_ret (pe_tup (pa_cons (pv 4) (pa_cons (pv 5) (pa_cons (pe_call GTU (hr.mono (by decide)) (by rfl) (Z.g 50 (by decide)) (Z.F 50 (by decide)).kp (bTurn Z) .nil pass0 (pa_cons (pv 0) (pa_cons (pe_op op_cat (pv 1) (pe_slice sl_list (pv 2) po_none (po_some (pv 3)))) pa_nil))) pa_nil))))))), ?_⟩)
  · obtain ⟨p, l, c, m, n, pins, com, nm, rfl, _⟩ := h
    rfl
  obtain ⟨p, l, c, m, n, pins, com, nm, rfl, S, hn, hc, hm, cp, cl, mp, ml, ndp, inb, lpl0, k⟩ := h
  have sz : 5000 < sizeLine := by decide
  rw [List.length_append] at lpl0
  refine ⟨_, rfl, _, rfl, c, m, _, _, rfl, rfl, hc, hm, by rw [List.length_map, List.length_map]; omega, fun q nq => ?_⟩
  rw [← List.map_append]
  have lpl : (com ++ nm).length ≤ 7 := by rw [List.length_append]; exact lpl0
  have kp0 : ∀ z ∈ com ++ nm.take pins, z ∈ com ++ nm := fun z hz => (List.mem_append.mp hz).elim (List.mem_append_left _) fun h => List.mem_append_right _ (List.mem_of_mem_take h)
  have nd0 : (com ++ nm.take pins).Nodup := ndp.sublist ((List.Sublist.refl _).append (List.take_sublist _ _))
  generalize hpl : com ++ nm = pl at ndp inb lpl kp0 k ⊢
  have F0 : Fr H p l n (upd H q (.lst (pl.map V.str))) := S.fr.put nq
  have q0 : (upd H q (.lst (pl.map V.str))) q = some (.lst (pl.map V.str)) := upd_same
  refine ⟨Nat.zero_le _, fun b nb => ?_⟩
  have nbH := F0.free nb
  have bq : b ≠ q := (ne_of_none q0 nb).symm
  have F1 : Fr H p l n (upd (upd H q (.lst (pl.map V.str))) b (.lst [])) := F0.put nbH
  have q1' : (upd (upd H q (.lst (pl.map V.str))) b (.lst [])) q = some (.lst (pl.map V.str)) := by rw [upd_ne bq.symm]; exact q0
  have b1' : (upd (upd H q (.lst (pl.map V.str))) b (.lst [])) b = some (.lst []) := upd_same
  generalize upd (upd H q (.lst (pl.map V.str))) b (.lst []) = H1 at F1 q1' b1' ⊢
  refine ⟨_, rfl, p, l, n, 4, rfl, F1.st, by omega, by decide, by decide, fun sh H2 hsh G2 => ⟨_, _, rfl, rfl, by show 3 ≤ sizeLine; decide, fun T nT => ⟨T, _, rfl, SqT.of upd_same, rfl, _, _, rfl, _, _, rfl, _, _, rfl, rfl, ?_⟩⟩⟩
  have q2' := F1.keep G2 nq q1'
  have b2' := F1.keep G2 nbH b1'
  have F2' := F1.trans G2
  have nTH := F2'.free nT
  have F2 : Fr H p l (n + 1) (upd H2 T (.tup [.ref q, .ref b, .int (1 + (sh : Int))])) := F2'.put nTH
  have hq2 : (upd H2 T (.tup [.ref q, .ref b, .int (1 + (sh : Int))])) q = some (.lst (pl.map V.str)) := by rw [upd_ne (ne_of_none q2' nT)]; exact q2'
  have hb2 : (upd H2 T (.tup [.ref q, .ref b, .int (1 + (sh : Int))])) b = some (.lst []) := by rw [upd_ne (ne_of_none b2' nT)]; exact b2'
  generalize upd H2 T (.tup [.ref q, .ref b, .int (1 + (sh : Int))]) = H3 at F2 hq2 hb2 ⊢
  obtain ⟨share, hsh'⟩ : ∃ s : Int, s = 1 + (sh : Int) := ⟨_, rfl⟩
  refine ⟨_, rfl, q, pl.map V.str, rfl, for_enQ (.inl (SqL.of hq2)) (fun i σ H' => ∃ v7 v8 v9 tv ts, σ = [some (.ref p), some (.ref c), some (.ref m), some (.int (pins : Int)), some (.ref q), some (.ref b), some (.int share), v7, v8, v9] ∧ H' q = some (.lst (pl.map V.str)) ∧ H' b = some (.lst tv) ∧ PrsAt H' tv ts ∧
      TsOk pl ts ∧ (∀ x ∈ ts, ∃ a c, x = tp a c ∧ a ∈ pl.take i) ∧ (∀ t, V.ref t ∈ tv → H t = none) ∧ Fr H p l (n + 1 + 40 * i) H')
      ⟨none, none, none, [], [], by rw [hsh']; rfl, hq2, hb2, PrsAt.nil, TsOk.nil, by simp, (fun t ht => by cases ht), F2⟩ ?_ ?_ ?_⟩
  · rintro i σ H' hi ⟨v7, v8, v9, tv, ts, rfl, hq', _⟩
    exact lt_at hq2 hq'
  · rintro i x σ H' T hx ⟨v7, v8, v9, tv, ts, rfl, hq', hb', pt, tok, tin, fr, F'⟩ nT
    rw [List.getElem?_map] at hx
    cases ez : pl[i]? with
    | none => rw [ez] at hx; cases hx
    | some z =>
      rw [ez] at hx
      cases hx
      have hil : i < pl.length := (List.getElem?_eq_some_iff.mp ez).1
      have zpl : z ∈ pl := List.mem_of_getElem? ez
      have znt : z ∉ pl.take i := take_mem ndp ez
      have nTH := F'.free nT
      have FT : Fr H p l (n + 1 + 40 * i) (upd H' T (.tup [.int (i : Nat), .str z])) := F'.put nTH
      have qT : q ≠ T := ne_of_none hq' nT
      have bT : b ≠ T := ne_of_none hb' nT
      refine ⟨T, _, rfl, SqT.of upd_same, rfl, _, _, rfl, _, _, rfl, rfl, ?_⟩
      refine ⟨_, rfl, .inl ⟨rfl, _, SqL.of (by rw [upd_ne bT]; exact hb')⟩, _, rfl, _, rfl, _, _, rfl, rfl, _, rfl, q, _, rfl, SqL.of (by rw [upd_ne qT]; exact hq'), fun s ns => ⟨s, rfl, ⟨_, SqL.of upd_same⟩, fun D hD => ?_⟩⟩
      have ei : cutV (pl.map V.str) (some ((i : Int) + 1)) none = (pl.drop (i + 1)).map V.str := by
        rw [show ((i : Int) + 1) = ((i + 1 : Nat) : Int) from rfl, cut_from, List.map_drop]
      rw [ei] at hD ⊢
      have nsH := FT.free ns
      have Fs : Fr H p l (n + 1 + 40 * i) (upd (upd H' T (.tup [.int (i : Nat), .str z])) s (.lst ((pl.drop (i + 1)).map V.str))) := FT.put nsH
      have nDH := Fs.free hD
      have sD : s ≠ D := ne_of_none upd_same hD
      have qs : q ≠ s := ne_of_none (show (upd H' T _) q = _ from by rw [upd_ne qT]; exact hq') ns
      have bs : b ≠ s := ne_of_none (show (upd H' T _) b = _ from by rw [upd_ne bT]; exact hb') ns
      have q1 : (upd (upd H' T (.tup [.int (i : Nat), .str z])) s (.lst ((pl.drop (i + 1)).map V.str))) q = some (.lst (pl.map V.str)) := by rw [upd_ne qs, upd_ne qT]; exact hq'
      have b1 : (upd (upd H' T (.tup [.int (i : Nat), .str z])) s (.lst ((pl.drop (i + 1)).map V.str))) b = some (.lst tv) := by rw [upd_ne bs, upd_ne bT]; exact hb'
      have qD : q ≠ D := ne_of_none q1 hD
      have bD : b ≠ D := ne_of_none b1 hD
      have pt1 : PrsAt (upd (upd H' T (.tup [.int (i : Nat), .str z])) s (.lst ((pl.drop (i + 1)).map V.str))) tv ts := prs_upd (prs_upd pt (fun xs e => by rw [nT] at e; cases e)) (fun xs e => by rw [ns] at e; cases e)
      refine lc_list (xs := (pl.drop (i + 1)).map V.str) (fun j H2 => ∃ acc es, H2 D = some (.lst acc) ∧ es.Sublist ((pl.drop (i + 1)).take j) ∧ PrsAt H2 acc (es.map (tp z)) ∧ (∀ t, V.ref t ∈ acc → H t = none) ∧ H2 s = some (.lst ((pl.drop (i + 1)).map V.str)) ∧ H2 q = some (.lst (pl.map V.str)) ∧
          H2 b = some (.lst tv) ∧ PrsAt H2 tv ts ∧ Fr H p l (n + 1 + 40 * i + j) H2) ⟨[], [], upd_same, List.nil_sublist _, PrsAt.nil, (fun t ht => by cases ht), by rw [upd_ne sD]; exact upd_same, by rw [upd_ne qD]; exact q1, by rw [upd_ne bD]; exact b1, prs_upd pt1 (fun xs e => by rw [hD] at e; cases e), Fs.put nDH⟩ ?_ ?_ ?_
      · rintro j H2 hj ⟨acc, es, _, _, _, _, hs, _⟩
        exact SqL.of hs
      · rintro j x H2 hx ⟨acc, es, hacc, sub, pa, fa, hs2, hq2, hb2, pt2, F2⟩
        rw [List.getElem?_map] at hx
        cases ey : (pl.drop (i + 1))[j]? with
        | none => rw [ey] at hx; cases hx
        | some y =>
          rw [ey] at hx
          cases hx
          have jl : j < (pl.drop (i + 1)).length := (List.getElem?_eq_some_iff.mp ey).1
          rw [List.length_drop] at jl
          refine ⟨rfl, _, rfl, p, l, n + 1 + 40 * i + j, 6, rfl, F2.st, by omega, by decide, by decide, fun r H3 hr3 F3 => ⟨_, rfl, _, _, rfl, rfl, _, rfl, ?_⟩⟩
          have F23 := F2.trans F3
          have acc3 := F2.keep F3 nDH hacc
          have pa3 := prs_keep F2 F3 pa fa
          have keep : ∀ {c : Addr} {o : HO}, H c = none → H2 c = some o → H3 c = some o := fun h e => F2.keep F3 h e
          refine ite2 (fun _ => ?_) (fun _ => ?_)
          · refine ⟨_, rfl, _, rfl, z, y, rfl, fun t nt => ⟨acc, by rw [upd_ne (ne_of_none acc3 nt)]; exact acc3, ?_, acc ++ [.ref t], es ++ [y], upd_same, ?_, ?_, ?_, ?_, ?_, ?_, ?_, ?_⟩⟩
            · rw [pa.1, List.length_map]
              have := sub.length_le
              rw [List.length_take] at this
              exact small1000 (by omega)
            · rw [take_snoc ey]
              exact sub.append (List.Sublist.refl _)
            · rw [List.map_append]
              refine prs_upd (prs_snoc (prs_upd pa3 (fun xs e => by rw [nt] at e; cases e)) upd_same) (fun xs e => ?_)
              rw [upd_ne (ne_of_none acc3 nt), acc3] at e
              cases e
            · intro t' ht'
              rcases List.mem_append.mp ht' with h | h
              · exact fa t' h
              · cases List.mem_singleton.mp h
                exact F23.free nt
            · have h3 := keep nsH hs2
              rw [upd_ne sD, upd_ne (ne_of_none h3 nt)]
              exact h3
            · have h3 := keep nq hq2
              rw [upd_ne qD, upd_ne (ne_of_none h3 nt)]
              exact h3
            · have h3 := keep nbH hb2
              rw [upd_ne bD, upd_ne (ne_of_none h3 nt)]
              exact h3
            · refine prs_upd (prs_upd (prs_keep F2 F3 pt2 fr) (fun xs e => by rw [nt] at e; cases e)) (fun xs e => ?_)
              rw [upd_ne (ne_of_none acc3 nt), acc3] at e
              cases e
            · exact (F23.put (F23.free nt)).put nDH
          · refine ⟨acc, es, acc3, ?_, pa3, fa, keep nsH hs2, keep nq hq2, keep nbH hb2, prs_keep F2 F3 pt2 fr, F23⟩
            rw [take_snoc ey]
            exact sub.trans (List.sublist_append_left _ _)
      · rintro H2 ⟨acc, es, hacc, sub, pa, fa, hs2, hq2, hb2, pt2, F2⟩
        rw [List.length_map, List.take_length] at sub
        have subm : ∀ e ∈ es, e ∈ pl.drop (i + 1) := fun e he => sub.subset he
        have zdrop : z ∉ pl.drop (i + 1) := fun hm => by
          have e := List.take_append_drop (i + 1) pl
          rw [take_snoc ez] at e
          rw [← e] at ndp
          exact (List.nodup_append.mp ndp).2.2 z (List.mem_append_right _ (List.mem_singleton.mpr rfl)) z hm rfl
        have tnd : ∀ {x y : Str}, x ∈ pl.take i → y ∈ pl.drop (i + 1) → x ≠ y := fun {x y} hx hy e => by
          have e2 := List.take_append_drop (i + 1) pl
          rw [take_snoc ez] at e2
          rw [← e2] at ndp
          exact (List.nodup_append.mp ndp).2.2 x (List.mem_append_left _ hx) y hy e
        have tok2 : TsOk pl (ts ++ es.map (tp z)) := by
          refine tok.fan zpl (fun e he => ⟨List.mem_of_mem_drop (subm e he), fun q => zdrop (q ▸ subm e he)⟩) ((ndp.sublist (List.drop_sublist _ _)).sublist sub) fun e he hm => ?_
          obtain ⟨a, c, e1, e2⟩ := tin _ hm
          rcases tp_eq e1 with ⟨h1, _⟩ | ⟨_, h2⟩
          · exact znt (h1 ▸ e2)
          · exact tnd e2 (subm e he) h2.symm
        have len2 := tok2.len (by omega)
        refine ⟨b, D, tv, acc, rfl, rfl, hb2, hacc, ?_, ?_⟩
        · have := (prs_app pt2 pa).1
          rw [List.length_append] at this
          have h3 := small1000 (n := (ts ++ es.map (tp z)).length) (by omega)
          omega
        · refine ⟨_, _, _, tv ++ acc, ts ++ es.map (tp z), rfl, ?_, upd_same, ?_, tok2, ?_, ?_, ?_⟩
          · rw [upd_ne bq.symm]
            exact hq2
          · exact prs_upd (prs_app pt2 pa) (fun xs e => by rw [hb2] at e; cases e)
          · intro x hx
            rcases List.mem_append.mp hx with hx | hx
            · obtain ⟨a, c, e1, e2⟩ := tin x hx
              refine ⟨a, c, e1, ?_⟩
              rw [take_snoc ez]
              exact List.mem_append_left _ e2
            · obtain ⟨e, he, rfl⟩ := List.mem_map.mp hx
              refine ⟨z, e, rfl, ?_⟩
              rw [take_snoc ez]
              exact List.mem_append_right _ (List.mem_singleton.mpr rfl)
          · intro t ht
            rcases List.mem_append.mp ht with h | h
            · exact fr t h
            · exact fa t h
          · refine (F2.put nbH).mono ?_
            rw [List.length_map, List.length_drop]
            omega
  · rintro σ H' ⟨v7, v8, v9, tv, ts, rfl, hq', hb', pt, tok, tin, fr, F'⟩
    rw [List.length_map] at F'
    have hc' := F'.but _ _ hc cp cl
    have hm' := F'.but _ _ hm mp ml
    refine ⟨_, rfl, _, rfl, _, rfl, _, rfl, _, rfl, _, rfl, (pins : Int), rfl, m, _, rfl, SqL.of hm', fun v nv => ?_⟩
    rw [cut_to, ← List.map_take]
    have nvH := F'.free nv
    have F2 : Fr H p l _ (upd H' v (.lst ((nm.take pins).map V.str))) := F'.put nvH
    have S2 := new_same (o := .lst ((nm.take pins).map V.str)) nv
    refine ⟨c, v, _, _, rfl, rfl, S2 _ _ hc', upd_same, by rw [List.length_map, List.length_map, List.length_take]; omega, fun u nu => ?_⟩
    rw [← List.map_append]
    have nuH := F2.free nu
    have S3 := S2.trans (new_same (o := .lst ((com ++ nm.take pins).map V.str)) nu)
    have F3 := F2.put (o := .lst ((com ++ nm.take pins).map V.str)) nuH
    have hu := upd_same (H := upd H' v (.lst ((nm.take pins).map V.str))) (a := u) (o := .lst ((com ++ nm.take pins).map V.str))
    generalize upd (upd H' v (.lst ((nm.take pins).map V.str))) u (.lst ((com ++ nm.take pins).map V.str)) = H4 at S3 F3 hu ⊢
    refine ⟨p, l, u, _, com ++ nm.take pins, rfl, F3.st, by omega, hu, (F3.ne nuH).1, (F3.ne nuH).2, by rw [List.length_append, List.length_take]; omega, fun r i H5 F5 nr hr5 => ⟨by show 3 ≤ sizeLine; decide, fun R nR => ?_⟩⟩
    have F35 := F3.trans F5
    have nRH := F35.free nR
    have nrH := F3.free nr
    have q5 := F3.keep F5 nq (S3 _ _ hq')
    have b5 := F3.keep F5 nbH (S3 _ _ hb')
    have p5 := prs_keep F3 F5 (pt.mono fun t xs h => S3 _ _ h) fr
    have SR := new_same (o := .tup [.ref q, .ref b, .ref r]) nR
    refine k R ts i _ ((F35.put nRH).mono (by omega)) ⟨q, b, r, tv, upd_same, SR _ _ q5, SR _ _ b5, p5.mono fun t xs h => SR _ _ h, SR _ _ hr5, nRH, nq, nbH, nrH, fr⟩ ⟨ndp, fun z hz => List.mem_append_left _ (inb z hz), by omega, tok, (rot_perm _ i).nodup_iff.mpr nd0, fun z hz => kp0 z (rot_mem hz), by have := tok.len2; have := Nat.mul_le_mul lpl lpl; omega⟩
end
end E1

set_option Elab.async false
set_option linter.all false
set_option maxRecDepth 100000
set_option maxHeartbeats 8000000
/-! A rim that begins with what is in common, and is then turned: one place where that begins. -/
namespace E1
open PySem PySem.Spec PyProof.Rows L2 G0
theorem in_com {com x : List Str} (nd : (com ++ x).Nodup) {t : Nat} {z : Str} (h : (com ++ x)[t]? = some z) : z ∈ com ↔ t < com.length := by
  rcases Nat.lt_or_ge t com.length with l | l
  · rw [List.getElem?_append_left l] at h
    exact ⟨fun _ => l, fun _ => List.mem_of_getElem? h⟩
  · rw [List.getElem?_append_right l] at h
    have hx := List.mem_of_getElem? h
    exact ⟨fun hc => absurd rfl ((List.nodup_append.mp nd).2.2 z hc z hx), fun h => by omega⟩
theorem turned_at (A B : List Str) {k : Nat} (h : k < A.length + B.length) : (B ++ A)[k]? = (A ++ B)[if k < B.length then k + A.length else k - B.length]? := by
  by_cases c : k < B.length
  · rw [if_pos c, List.getElem?_append_left c, List.getElem?_append_right (by omega), Nat.add_sub_cancel]
  · rw [if_neg c, List.getElem?_append_right (by omega), List.getElem?_append_left (by omega)]
theorem filter_one {p : Nat → Bool} {N j : Nat} (hj : j < N) (h : ∀ k, k < N → (p k = true ↔ k = j)) : (List.range N).filter p = [j] := by
  refine List.perm_singleton.mp ((List.perm_ext_iff_of_nodup (List.nodup_range.sublist List.filter_sublist) (by simp)).mpr fun k => ?_)
  rw [List.mem_filter, List.mem_range, List.mem_singleton]
  exact ⟨fun ⟨a, b⟩ => (h k a).mp b, fun e => e ▸ ⟨hj, (h j hj).mpr rfl⟩⟩
theorem starts_one {A B com x C : List Str} (e : A ++ B = com ++ x) (nd : (com ++ x).Nodup) (hc : com ≠ []) (hx : x ≠ []) (hC : ∀ z, z ∈ C ↔ z ∈ com) : ∃ j, starts (B ++ A) C = [j] ∧ rot (B ++ A) j = com ++ x := by
  have lc : 0 < com.length := List.length_pos_iff.mpr hc
  have lx : 0 < x.length := List.length_pos_iff.mpr hx
  have lN := congrArg List.length e
  rw [List.length_append, List.length_append] at lN
  refine ⟨if A.length = 0 then 0 else B.length, ?_, ?_⟩
  · unfold starts
    rw [List.length_append]
    refine filter_one (by split <;> omega) fun k hk => ?_
    have e1 := turned_at A B (k := k) (by omega)
    have e2 := turned_at A B (k := prIx (B.length + A.length) k) (by unfold prIx; split <;> omega)
    rw [e] at e1 e2
    obtain ⟨t, ht⟩ : ∃ t, t = if k < B.length then k + A.length else k - B.length := ⟨_, rfl⟩
    obtain ⟨u, hu⟩ : ∃ u, u = if prIx (B.length + A.length) k < B.length then prIx (B.length + A.length) k + A.length else prIx (B.length + A.length) k - B.length := ⟨_, rfl⟩
    rw [← ht] at e1
    rw [← hu] at e2
    have tl : t < (com ++ x).length := by
      rw [List.length_append, ht]
      split <;> omega
    have ul : u < (com ++ x).length := by
      rw [List.length_append, hu]
      unfold prIx
      split <;> split <;> omega
    have g1 := List.getElem?_eq_getElem tl
    have g2 := List.getElem?_eq_getElem ul
    have i1 := in_com nd g1
    have i2 := in_com nd g2
    rw [g1] at e1
    rw [g2] at e2
    unfold isStart
    rw [List.length_append, e1, e2]
    show (decide ((com ++ x)[t] ∈ C) && !decide ((com ++ x)[u] ∈ C)) = true ↔ _
    rw [Bool.and_eq_true, decide_eq_true_iff, Bool.not_eq_true', decide_eq_false_iff_not, hC, hC, i1, i2, ht, hu]
    unfold prIx
    by_cases a1 : A.length = 0
    · rw [if_pos a1]
      by_cases a2 : k = 0
      · rw [if_pos a2]
        constructor
        · omega
        · intro _
          constructor
          · split <;> omega
          · split <;> omega
      · rw [if_neg a2]
        constructor
        · intro ⟨h1, h2⟩
          split at h1 <;> split at h2 <;> omega
        · omega
    · rw [if_neg a1]
      by_cases a2 : k = 0
      · rw [if_pos a2]
        constructor
        · intro ⟨h1, h2⟩
          split at h1 <;> split at h2 <;> omega
        · intro _
          constructor
          · split <;> omega
          · split <;> omega
      · rw [if_neg a2]
        constructor
        · intro ⟨h1, h2⟩
          split at h1 <;> split at h2 <;> omega
        · intro _
          constructor
          · split <;> omega
          · split <;> omega
  · by_cases a1 : A.length = 0
    · rw [if_pos a1, List.length_eq_zero_iff.mp a1, ← e, List.length_eq_zero_iff.mp a1]
      unfold rot
      rw [List.drop_zero, List.take_zero, List.append_nil, List.append_nil, List.nil_append]
    · rw [if_neg a1]
      unfold rot
      rw [List.drop_left, List.take_left, e]
/-- what is in common, in order, along the one rim, and back along the other -/
theorem stretch_pair {com n1 n2 x1 x2 : List Str} (nd : (com ++ n1 ++ n2).Nodup) (hc : com ≠ []) (s1 : x1.Sublist n1) (s2 : x2.Sublist n2) (h1 : x1 ≠ []) (h2 : x2 ≠ []) (i1 i2 : Nat) :
    stretch (com ++ n1) (rot (com ++ x1) i1) (com.reverse ++ n2) (rot (com.reverse ++ x2) i2) = some (com, x1, x2) := by
  have d1 := (List.nodup_append.mp nd).1
  have d2 := (List.nodup_append.mp nd).2.1
  have d3 := (List.nodup_append.mp nd).2.2
  have e1 := (List.nodup_append.mp d1).1
  have e3 := (List.nodup_append.mp d1).2.2
  have hC : ∀ z, z ∈ common (com ++ n1) (com.reverse ++ n2) ↔ z ∈ com := fun z => by
    unfold common
    rw [List.mem_filter, (sortS_perm _).mem_iff, decide_eq_true_iff, List.mem_append, List.mem_append, List.mem_reverse]
    constructor
    · rintro ⟨a | a, b | b⟩
      · exact a
      · exact a
      · exact b
      · exact absurd rfl (d3 z (List.mem_append_right _ a) z b)
    · exact fun h => ⟨.inl h, .inl h⟩
  have ndC : (common (com ++ n1) (com.reverse ++ n2)).Nodup := ((sortS_perm _).nodup_iff.mpr d1).sublist List.filter_sublist
  have pC : (common (com ++ n1) (com.reverse ++ n2)).Perm com := (List.perm_ext_iff_of_nodup ndC e1).mpr hC
  have lC := pC.length_eq
  obtain ⟨a, ha, ra⟩ := starts_one (A := (com ++ x1).take i1) (B := (com ++ x1).drop i1) (x := x1) (C := common (com ++ n1) (com.reverse ++ n2)) (List.take_append_drop ..) (d1.sublist ((List.Sublist.refl _).append s1)) hc h1 hC
  have nd2 : (com.reverse ++ x2).Nodup := List.nodup_append.mpr ⟨(List.reverse_perm com).nodup_iff.mpr e1, d2.sublist s2, fun u hu v hv => d3 u (List.mem_append_left _ (List.mem_reverse.mp hu)) v (s2.subset hv)⟩
  obtain ⟨b, hb, rb⟩ := starts_one (A := (com.reverse ++ x2).take i2) (B := (com.reverse ++ x2).drop i2) (com := com.reverse) (x := x2) (C := common (com ++ n1) (com.reverse ++ n2)) (List.take_append_drop ..) nd2 (fun z => hc (List.reverse_eq_nil_iff.mp z)) h2 (fun z => by rw [hC, List.mem_reverse])
  have sC : sortS com = common (com ++ n1) (com.reverse ++ n2) := (sortS_uniq pC ((sortS_pw _).sublist List.filter_sublist)).symm
  have st := stretch_at (p1 := com ++ n1) (r1 := rot (com ++ x1) i1) (p2 := com.reverse ++ n2) (r2 := rot (com.reverse ++ x2) i2) (i := a) (j := b) ha hb
  rw [show rot (rot (com ++ x1) i1) a = com ++ x1 from ra, show rot (rot (com.reverse ++ x2) i2) b = com.reverse ++ x2 from rb, lC] at st
  rw [st]
  have lr : (com.reverse ++ x2).take com.length = com.reverse := by
    rw [← List.length_reverse (as := com), List.take_left]
  have ld : (com.reverse ++ x2).drop com.length = x2 := by
    rw [← List.length_reverse (as := com), List.drop_left]
  rw [List.take_left, List.drop_left, lr, ld]
  rw [if_pos ⟨fun z => hc (List.length_eq_zero_iff.mp (by rw [← lC, z]; rfl)), sC, (List.reverse_reverse com).symm⟩]
end E1

set_option Elab.async false
set_option linter.all false
set_option maxRecDepth 100000
set_option maxHeartbeats 8000000
/-! A pair of boards beside one another, as the law draws it. -/
namespace E1
open PySem PySem.Spec PyProof.Rows L2 G0
theorem cut_mid {xs : List V} (a b : Nat) (h : a ≤ b) (hb : b ≤ xs.length) : cutV xs (some (a : Int)) (some (b : Int)) = (xs.drop a).take (b - a) := by
  unfold cutV
  rw [HT.sIx_nat, HT.sIx_nat, Nat.min_eq_left hb, Nat.min_eq_left (Nat.le_trans h hb)]
abbrev N_pair : List Str := ["_law_stream", "_law_common", "_law_mine", "_law_theirs", "_law_names", "_law_row", "_law_one", "_law_other"]
theorem sc_pair : FnScope N_pair ["_law_stream"] (defScope (topS 52)) := ⟨rfl, rfl, rfl, by decide +kernel, rfl, by decide +kernel, by decide +kernel⟩
/-- two raw boards, in a tuple -/
def PairAt (N : Addr → Prop) (H : Hp) (r : Addr) (pl1 : List Str) (ts1 : List Pr) (rm1 pl2 : List Str) (ts2 : List Pr) (rm2 : List Str) : Prop := ∃ a b, H r = some (.tup [.ref a, .ref b]) ∧ RawAt N H a pl1 ts1 rm1 ∧ RawAt N H b pl2 ts2 rm2 ∧ N r
def spPair : Sp := fun vs H Q _ => ∃ (p l : Addr) (n : Nat), vs = [.ref p] ∧ Stm H p l n ∧ n < 60000000 ∧
  ∀ (r : Addr) (pl1 : List Str) (ts1 : List Pr) (rm1 pl2 : List Str) (ts2 : List Pr) (rm2 : List Str) (H' : Hp), Fr H p l (n + 2000) H' → PairAt (fun c => H c = none) H' r pl1 ts1 rm1 pl2 ts2 rm2 → RawOk pl1 ts1 rm1 → RawOk pl2 ts2 rm2 → pl1.length ≤ 20 → pl2.length ≤ 20 → (∀ z ∈ pl1 ++ pl2, z ∈ baseN) → (∃ x, stretch pl1 rm1 pl2 rm2 = some x) → Q (.ref r) H'
section
variable {P : Program} {w : World} {K : PySem.W.Frag} {mg : Str → Option Value} {base : Heap}
theorem bPair (Z : LawD K mg) : Binds K (Z.d 52) ["_law_stream"] [] := (Z.F 52 (by decide)).binds fun _ _ _ _ _ _ us hl => match us, hl with | [_], _ => rfl
theorem ok_pair (Z : LawD K mg) : FnOk P w K mg base CX0 5 (Z.f 52) (Z.d 52) ["_law_stream"] spPair := by
  have GD : FnOk P w K mg base CX0 1 Z.s.fD Z.s.dD ["_law_stream", "_law_many"] spDr := ok_dr Z.s
  have GNA : FnOk P w K mg base CX0 3 (Z.f 42) (Z.d 42) ["_law_stream", "_law_many"] spNames := ok_a_names Z
  have GSI : FnOk P w K mg base CX0 4 (Z.f 51) (Z.d 51) ["_law_stream", "_law_common", "_law_names", "_law_pins"] spSide := ok_side Z
  refine Fun.ok (Z.F 52 (by decide)) sc_pair (fun vs H Q E h => ?_) (fun cdv A outer s H vs Q E hr h => ⟨_, pss_cons (ps_set (i := 1) sc_pair.nd rfl (Or.inl rfl) (pe_op op_add pe_int (pe_call GD (hr.mono (by decide)) (by rfl) Z.s.gD Z.s.FD.kp (bDr Z.s) .nil pass0 (pa_cons (pv 0) (pa_cons pe_int pa_nil)))))
  (pss_cons (ps_par (i := 2) (j := 3) rfl sc_pair.nd rfl rfl (by decide) rfl rfl (pa_cons (pe_op op_add pe_int (pe_call GD (hr.mono (by decide)) (by rfl) Z.s.gD Z.s.FD.kp (bDr Z.s) .nil pass0 (pa_cons (pv 0) (pa_cons pe_int pa_nil)))) (pa_cons (pe_op op_add pe_int (pe_call GD (hr.mono (by decide)) (by rfl) Z.s.gD Z.s.FD.kp (bDr Z.s) .nil pass0 (pa_cons (pv 0) (pa_cons pe_int pa_nil)))) pa_nil)) (by rfl))
  (pss_cons (ps_set (i := 4) sc_pair.nd rfl (Or.inl rfl) (pe_call GNA (hr.mono (by decide)) (by rfl) (Z.g 42 (by decide)) (Z.F 42 (by decide)).kp (bNames Z) .nil pass0 (pa_cons (pv 0) (pa_cons (pe_op op_add (pe_op op_add (pv 1) (pv 2)) (pv 3)) pa_nil))))
  (pss_cons (ps_set (i := 5) sc_pair.nd rfl (Or.inl rfl) (pe_slice sl_list (pv 4) po_none (po_some (pv 1))))
  (pss_cons (ps_set (i := 6) sc_pair.nd rfl (Or.inl rfl) (pe_call GSI (hr.mono (by decide)) (by rfl) (Z.g 51 (by decide)) (Z.F 51 (by decide)).kp (bSide Z) .nil pass0 (pa_cons (pv 0) (pa_cons (pv 5) (pa_cons (pe_slice sl_list (pv 4) (po_some (pv 1)) (po_some (pe_op op_add (pv 1) (pv 2)))) (pa_cons (pe_op op_add pe_int (pe_call GD (hr.mono (by decide)) (by rfl) Z.s.gD Z.s.FD.kp (bDr Z.s) .nil pass0 (pa_cons (pv 0) (pa_cons (pe_callB (call_min2 rfl) (by rfl) (Z.free "min" (by decide)) (by decide +kernel) (pa_cons (pv 2) (pa_cons pe_int pa_nil))) pa_nil)))) pa_nil))))))
  (pss_cons (ps_set (i := 7) sc_pair.nd rfl (Or.inl rfl) (pe_call GSI (hr.mono (by decide)) (by rfl) (Z.g 51 (by decide)) (Z.F 51 (by decide)).kp (bSide Z) .nil pass0 (pa_cons (pv 0) (pa_cons (pe_revL (pv 5)) (pa_cons (pe_slice sl_list (pv 4) (po_some (pe_op op_add (pv 1) (pv 2))) po_none) (pa_cons (pe_op op_add pe_int (pe_call GD (hr.mono (by decide)) (by rfl) Z.s.gD Z.s.FD.kp (bDr Z.s) .nil pass0 (pa_cons (pv 0) (pa_cons (pe_callB (call_min2 rfl) (by rfl) (Z.free "min" (by decide)) (by decide +kernel) (pa_cons (pv 3) (pa_cons pe_int pa_nil))) pa_nil)))) pa_nil))))))
  (pss_one (ps_ret (pe_tup (pa_cons (pv 6) (pa_cons (pv 7) pa_nil)))))))))), ?_⟩)
  · obtain ⟨p, l, n, rfl, _⟩ := h
    rfl
  obtain ⟨p, l, n, rfl, S, hn, k⟩ := h
  have sz : 5000 < sizeLine := by decide
  refine ⟨_, rfl, p, l, n, 3, rfl, S, by omega, by decide, by decide, fun r0 H1 h0 F1 => ⟨_, _, rfl, rfl, ?_⟩⟩
  refine ⟨_, rfl, p, l, n + 1, 4, rfl, F1.st, by omega, by decide, by decide, fun r1 H2 h1 F2 => ⟨_, _, rfl, rfl, ?_⟩⟩
  refine ⟨_, rfl, p, l, n + 1 + 1, 4, rfl, F2.st, by omega, by decide, by decide, fun r2 H3 h2 F3 => ⟨_, _, rfl, rfl, ?_⟩⟩
  have G3 := (F1.trans F2).trans F3
  refine ⟨_, _, rfl, _, rfl, _, rfl, _, rfl, _, _, rfl, rfl, _, rfl, _, _, rfl, rfl, p, l, _, (1 + r0) + (1 + r1) + (1 + r2), ?_, F3.st, by omega, by omega, fun q ns H4 F4 nq hq lq ndq inq => ?_⟩
  · exact congrArg (fun z => [V.ref p, V.int z]) (by omega)
  obtain ⟨k0, e0⟩ : ∃ k, k = 1 + r0 := ⟨_, rfl⟩
  obtain ⟨k1, e1⟩ : ∃ k, k = 1 + r1 := ⟨_, rfl⟩
  obtain ⟨k2, e2⟩ : ∃ k, k = 1 + r2 := ⟨_, rfl⟩
  have i0 : 1 + (r0 : Int) = (k0 : Int) := by omega
  have i1 : 1 + (r1 : Int) = (k1 : Int) := by omega
  have i2 : 1 + (r2 : Int) = (k2 : Int) := by omega
  have G4 := G3.trans F4
  have nqH := G3.free nq
  refine ⟨_, rfl, _, rfl, _, rfl, q, _, rfl, SqL.of hq, fun u nu => ?_⟩
  simp only [i0, i1, i2]
  rw [cut_to, ← List.map_take]
  have nuH := G4.free nu
  have F5 : Fr H p l _ (upd H4 u (.lst ((ns.take k0).map V.str))) := G4.put nuH
  have q5 : (upd H4 u (.lst ((ns.take k0).map V.str))) q = some (.lst (ns.map V.str)) := by rw [upd_ne (ne_of_none hq nu)]; exact hq
  have u5 : (upd H4 u (.lst ((ns.take k0).map V.str))) u = some (.lst ((ns.take k0).map V.str)) := upd_same
  generalize upd H4 u (.lst ((ns.take k0).map V.str)) = H5 at F5 q5 u5 ⊢
  refine ⟨_, rfl, _, rfl, _, rfl, _, rfl, _, rfl, _, rfl, _, rfl, _, _, rfl, rfl, _, rfl, q, _, rfl, SqL.of q5, fun v nv => ?_⟩
  have lk0 : k0 ≤ 3 := by omega
  have lk1 : k1 ≤ 4 := by omega
  have lk2 : k2 ≤ 4 := by omega
  have lq' : ns.length = k0 + k1 + k2 := by omega
  have mid : cutV (ns.map V.str) (some (k0 : Int)) (some ((k0 : Int) + (k1 : Int))) = ((ns.drop k0).take k1).map V.str := by
    rw [show (k0 : Int) + (k1 : Int) = ((k0 + k1 : Nat) : Int) from rfl, cut_mid _ _ (by omega) (by rw [List.length_map]; omega), Nat.add_sub_cancel_left, ← List.map_drop, ← List.map_take]
  rw [mid]
  have nvH := F5.free nv
  have F6 : Fr H p l _ (upd H5 v (.lst (((ns.drop k0).take k1).map V.str))) := F5.put nvH
  have S6 := new_same (o := .lst (((ns.drop k0).take k1).map V.str)) nv
  have v6 := upd_same (H := H5) (a := v) (o := .lst (((ns.drop k0).take k1).map V.str))
  generalize upd H5 v (.lst (((ns.drop k0).take k1).map V.str)) = H6 at F6 S6 v6 ⊢
  have mn : ∀ k : Nat, (if (3 : Int) < (k : Int) then (3 : Int) else (k : Int)) = ((min k 3 : Nat) : Int) := fun k => by
    split <;> omega
  refine ⟨_, rfl, _, rfl, _, _, rfl, p, l, _, min k1 3, congrArg (fun z => [V.ref p, V.int z]) (mn k1), F6.st, by omega, by omega, by omega, fun r3 H7 h3 F7 => ⟨_, _, rfl, rfl, ?_⟩⟩
  have G7 := F6.trans F7
  have u7 := F6.keep F7 nuH (S6 _ _ u5)
  have q7 := F6.keep F7 nqH (S6 _ _ q5)
  have v7 := F6.keep F7 nvH v6
  have parts : ns.take k0 ++ (ns.drop k0).take k1 ++ (ns.drop k0).drop k1 = ns := by
    rw [List.append_assoc, List.take_append_drop, List.take_append_drop]
  generalize hcom : ns.take k0 = com at *
  generalize hn1 : (ns.drop k0).take k1 = n1 at *
  generalize hn2 : (ns.drop k0).drop k1 = n2 at *
  have lcom : com.length = k0 := by rw [← hcom, List.length_take]; omega
  have ln1 : n1.length = k1 := by rw [← hn1, List.length_take, List.length_drop]; omega
  have ln2 : n2.length = k2 := by rw [← hn2, List.length_drop, List.length_drop]; omega
  rw [← parts] at ndq inq
  have nd1 := (List.nodup_append.mp ndq).1
  refine ⟨p, l, u, v, _, 1 + r3, com, n1, congrArg (fun z => [V.ref p, V.ref u, V.ref v, V.int z]) (by omega), F7.st, by omega, u7, v7, (F6.ne nuH).1, (F6.ne nuH).2, (F6.ne nvH).1, (F6.ne nvH).2, nd1, fun z hz => inq z (List.mem_append_left _ hz), by rw [List.length_append]; omega, fun a ts1 j1 H8 F8 R8 ok8 => ?_⟩
  have G8 := G7.trans F8
  have u8 := G7.keep F8 nuH u7
  have q8 := G7.keep F8 nqH q7
  refine ⟨_, rfl, _, rfl, u, _, rfl, SqL.of u8, fun x nx => ?_⟩
  rw [← List.map_reverse]
  have nxH := G8.free nx
  have F9 : Fr H p l _ (upd H8 x (.lst (com.reverse.map V.str))) := G8.put nxH
  have S9 := new_same (o := .lst (com.reverse.map V.str)) nx
  have x9 := upd_same (H := H8) (a := x) (o := .lst (com.reverse.map V.str))
  generalize upd H8 x (.lst (com.reverse.map V.str)) = H9 at F9 S9 x9 ⊢
  have lst : cutV (ns.map V.str) (some ((k0 : Int) + (k1 : Int))) none = n2.map V.str := by
    rw [show (k0 : Int) + (k1 : Int) = ((k0 + k1 : Nat) : Int) from rfl, cut_from, ← List.map_drop, ← hn2, List.drop_drop]
  refine ⟨_, rfl, _, rfl, _, rfl, _, _, rfl, rfl, _, rfl, q, _, rfl, SqL.of (S9 _ _ q8), fun y ny => ?_⟩
  rw [lst]
  have nyH := F9.free ny
  have F10 : Fr H p l _ (upd H9 y (.lst (n2.map V.str))) := F9.put nyH
  have S10 := S9.trans (new_same (o := .lst (n2.map V.str)) ny)
  have x10 := new_same (o := .lst (n2.map V.str)) ny _ _ x9
  have y10 := upd_same (H := H9) (a := y) (o := .lst (n2.map V.str))
  generalize upd H9 y (.lst (n2.map V.str)) = H10 at F10 S10 x10 y10 ⊢
  refine ⟨_, rfl, _, rfl, _, _, rfl, p, l, _, min k2 3, congrArg (fun z => [V.ref p, V.int z]) (mn k2), F10.st, by omega, by omega, by omega, fun r4 H11 h4 F11 => ⟨_, _, rfl, rfl, ?_⟩⟩
  have G11 := F10.trans F11
  have x11 := F10.keep F11 nxH x10
  have y11 := F10.keep F11 nyH y10
  have rev : (com.reverse ++ n2).Perm (com ++ n2) := (List.reverse_perm com).append_right n2
  have nd2 : (com ++ n2).Nodup := ndq.sublist ((List.sublist_append_left com n1).append (List.Sublist.refl _))
  refine ⟨p, l, x, y, _, 1 + r4, com.reverse, n2, congrArg (fun z => [V.ref p, V.ref x, V.ref y, V.int z]) (by omega), F11.st, by omega, x11, y11, (F10.ne nxH).1, (F10.ne nxH).2, (F10.ne nyH).1, (F10.ne nyH).2, rev.nodup_iff.mpr nd2, fun z hz => inq z ?_, by rw [List.length_append, List.length_reverse]; omega, fun b ts2 j2 H12 F12 R12 ok12 => ?_⟩
  · exact (List.mem_append.mp hz).elim (fun h => List.mem_append_left _ (List.mem_append_left _ (List.mem_reverse.mp h))) fun h => List.mem_append_right _ h
  have G12 := G11.trans F12
  refine ⟨_, rfl, _, rfl, by show 2 ≤ sizeLine; decide, fun R nR => ?_⟩
  have SR := new_same (o := .tup [.ref a, .ref b]) nR
  have nRH := G12.free nR
  refine k R (com ++ n1) ts1 _ (com.reverse ++ n2) ts2 _ _ ((G12.put nRH).mono (by omega)) ⟨a, b, upd_same, (RawAt.weak R8 ?_).frame ?_, (RawAt.weak R12 ?_).frame ?_, nRH⟩ ok8 ok12 (by rw [List.length_append]; omega) (by rw [List.length_append, List.length_reverse]; omega) (fun z hz => inq z ?_) ⟨_, stretch_pair ndq ?_ (List.take_sublist _ _) (List.take_sublist _ _) ?_ ?_ j1 j2⟩
  · exact fun c h => G7.free h
  · exact fun c o h e => SR _ _ (G11.keep F12 h (F10.keep F11 h (S10 _ _ e)))
  · exact fun c h => G11.free h
  · exact fun c o _ e => SR _ _ e
  · rcases List.mem_append.mp hz with h | h
    · exact List.mem_append_left _ h
    · exact (List.mem_append.mp h).elim (fun h => List.mem_append_left _ (List.mem_append_left _ (List.mem_reverse.mp h))) fun h => List.mem_append_right _ h
  · intro z
    rw [z, List.length_nil] at lcom
    omega
  · intro z
    have := congrArg List.length z
    rw [List.length_take, List.length_nil] at this
    omega
  · intro z
    have := congrArg List.length z
    rw [List.length_take, List.length_nil] at this
    omega
end
end E1

set_option Elab.async false
set_option linter.all false
set_option maxRecDepth 100000
set_option maxHeartbeats 4000000
/-! The same data. -/
namespace E1
open PySem PySem.Spec PyProof.Rows L2 G0
theorem kn_is6 {K : PySem.W.Frag} {C : Addr} {H : Hp} {v : V} (O : OwnC K C) (k : Kn C H v) : ∃ t, TyX K H v t ∧ ∀ T, T ∈ ["str", "list", "tuple", "dict", "int", "bool"] → PySem.W.kitOne K t (.type T) = some (kdOf H v == T || (kdOf H v == "bool" && T == "int")) := by
  have all := (by decide +kernel : ∀ T ∈ ["str", "list", "tuple", "dict", "int", "bool"], ∀ a ∈ ["NoneType", "bool", "int", "str", "list", "tuple", "dict"], kitB a T = some (a == T || (a == "bool" && T == "int")))
  have tk : ∀ a, a ∈ ["NoneType", "bool", "int", "str", "list", "tuple", "dict"] → ∀ T, T ∈ ["str", "list", "tuple", "dict", "int", "bool"] → PySem.W.kitOne K (.type a) (.type T) = some (a == T || (a == "bool" && T == "int")) := fun a ha T hT => kit_ty (all T hT a ha)
  cases k with
  | non => exact ⟨_, .base .non, tk _ (by decide)⟩
  | bl b => exact ⟨_, .base (.bl b), tk _ (by decide)⟩
  | int i => exact ⟨_, .base (.int i), tk _ (by decide)⟩
  | str x => exact ⟨_, .base (.str x), tk _ (by decide)⟩
  | lst e => exact ⟨_, .base (.lst e), by simp only [kdOf, e]; exact tk _ (by decide)⟩
  | tup e => exact ⟨_, .base (.tup e), by simp only [kdOf, e]; exact tk _ (by decide)⟩
  | dic e => exact ⟨_, .base (.dK e), by simp only [kdOf, e]; exact tk _ (by decide)⟩
  | own e =>
    refine ⟨_, .base (.ins e O.cl O.ha O.hn O.htk O.hm), fun T hT => ?_⟩
    simp only [kdOf, e]
    rw [O.no T (by simpa using hT)]
    simp only [List.mem_cons, List.not_mem_nil, or_false] at hT
    rcases hT with rfl | rfl | rfl | rfl | rfl | rfl <;> decide
/-- isinstance(v, T) where v's kind is known by name -/
theorem kn_one {K : PySem.W.Frag} {C : Addr} {H : Hp} {v : V} {d : String} (O : OwnC K C) (k : Kn C H v) (e : kdOf H v = d) : ∃ t, TyX K H v t ∧ (∀ T, T ∈ ["str", "list", "tuple", "dict", "int", "bool"] → PySem.W.kitOne K t (.type T) = some (d == T || (d == "bool" && T == "int"))) ∧
    PySem.W.kitAny K t [.type "list", .type "tuple"] = some (d == "list" || d == "tuple") := by
  obtain ⟨t, h1, h2⟩ := kn_is6 O k
  rw [e] at h2
  have a := h2 "list" (by decide)
  have b := h2 "tuple" (by decide)
  simp only [show (("list" : String) == "int") = false from by decide, show (("tuple" : String) == "int") = false from by decide, Bool.and_false, Bool.or_false] at a b
  refine ⟨t, h1, h2, kitAny_cons a (fun z => kitAny_cons b (fun y => ?_) fun y => ?_) fun z => ?_⟩
  · rw [z, y]
    rfl
  · rw [y, Bool.or_true]
  · rw [z, Bool.true_or]
def scV : V → Bool
  | .non => true
  | .bl _ => true
  | .int _ => true
  | .str _ => true
  | _ => false
/-- the same data, what is within by R -/
def Sq (C : Addr) (R : V → V → Hp → Prop) : V → V → Hp → Prop := fun v w H => (v = w ∧ scV v = true) ∨ (∃ a pl ts rm, v = .ref a ∧ w = .ref a ∧ BoardAt (fun _ => True) C H a pl ts rm) ∨
  (∃ a b xs ys, v = .ref a ∧ w = .ref b ∧ ((H a = some (.lst xs) ∧ H b = some (.lst ys)) ∨ (H a = some (.tup xs) ∧ H b = some (.tup ys))) ∧ xs.length = ys.length ∧ xs.length ≤ 2000 ∧ ∀ (i : Nat) (x y : V), xs[i]? = some x → ys[i]? = some y → R x y H) ∨
  ∃ a, v = .ref a ∧ w = .ref a ∧ H a = some (.dK []) ∧ ∀ (H' : Hp) (b c : Addr), H' b = some (.lst []) → H' c = some (.lst []) → R (.ref b) (.ref c) H'
def spSame (R : V → V → Hp → Prop) : Sp := fun vs H Q _ => ∃ v w, vs = [v, w] ∧ R v w H ∧ ∀ H', Same H H' → Q (.bl true) H'
def Stb (R : V → V → Hp → Prop) : Prop := ∀ v w H H', Same H H' → R v w H → R v w H'
theorem Sq.stb {C : Addr} {R : V → V → Hp → Prop} (h : Stb R) : Stb (Sq C R) := fun v w H H' S x => by
  rcases x with x | ⟨a, pl, ts, rm, e1, e2, b⟩ | ⟨a, b, xs, ys, e1, e2, e3, e4, e5, e6⟩ | ⟨a, e1, e2, e3, e4⟩
  · exact .inl x
  · exact .inr (.inl ⟨a, pl, ts, rm, e1, e2, b.same S⟩)
  · exact .inr (.inr (.inl ⟨a, b, xs, ys, e1, e2, e3.elim (fun q => .inl ⟨S _ _ q.1, S _ _ q.2⟩) (fun q => .inr ⟨S _ _ q.1, S _ _ q.2⟩), e4, e5, fun i x y h1 h2 => h _ _ _ _ S (e6 i x y h1 h2)⟩))
  · exact .inr (.inr (.inr ⟨a, e1, e2, S _ _ e3, e4⟩))
theorem walk_zipT {K : PySem.W.Frag} {a b : Addr} {xs ys : List V} {n : Nat} (hn : n = min xs.length ys.length) : Walk (RZ.ItzT K a b) n (fun H => SqT K H a xs ∧ SqT K H b ys) (YPair (fun i => xs[i]?) (fun i => ys[i]?)) := by
  subst hn
  refine ⟨fun i _ hi q => ?_, fun _ q => ⟨xs, ys, q.1, q.2, by omega⟩, fun i H v H' _ q y => ?_⟩
  · have h1 : i < xs.length := by omega
    have h2 : i < ys.length := by omega
    exact ⟨xs, ys, xs[i], ys[i], q.1, q.2, by simp [h1], by simp [h2]⟩
  · obtain ⟨T, x, z, h1, h2, h3, h4, h5⟩ := y
    exact ⟨T, x, z, h1, h2, h3, h4 xs q.1, h5 ys q.2⟩
abbrev N_same : List Str := ["_law_found", "_law_due", "_law_x", "_law_y"]
theorem sc_same : FnScope N_same ["_law_found", "_law_due"] (defScope (topS 57)) := ⟨rfl, rfl, rfl, by decide +kernel, rfl, by decide +kernel, by decide +kernel⟩
theorem boot_dictT : bootBuiltins "dict" = some (.type "dict") := by decide +kernel
theorem boot_int' : bootBuiltins "int" = some (.type "int") := by decide +kernel
theorem boot_bool' : bootBuiltins "bool" = some (.type "bool") := by decide +kernel
section
variable {P : Program} {w : World} {K : PySem.W.Frag} {mg : Str → Option Value} {base : Heap}
theorem bSame (Z : LawD K mg) : Binds K (Z.d 57) ["_law_found", "_law_due"] [] := (Z.F 57 (by decide)).binds fun _ _ _ _ _ _ us hl => match us, hl with | [_, _], _ => rfl
theorem ok_same_of (Z : LawD K mg) {k : Nat} {R : V → V → Hp → Prop} (hR : Stb R) (GS : FnOk P w K mg base CX0 (k + 1) (Z.f 57) (Z.d 57) ["_law_found", "_law_due"] (spSame R)) :
    FnOk P w K mg base CX0 (k + 2) (Z.f 57) (Z.d 57) ["_law_found", "_law_due"] (spSame (Sq Z.B.C R)) := by
  have GB : FnOk P w K mg base CX0 1 (Z.B.f 1) (Z.B.d 1) ["self", "other"] (spBEq Z.B.C) := ok_beq Z.B Z.t
  refine Fun.ok (Z.F 57 (by decide)) sc_same (fun vs H Q E h => ?_) (fun cdv A outer s H vs Q E hr h => ⟨_, pss_cons (ps_if (pt_val (pe_callB call_isiT (by rfl) Z.t.isinstance (by decide +kernel) (pa_cons (pv 1) (pa_cons (pe_tup (pa_cons (pe_bltn (by rfl) Z.t.list PyProof.Rows.boot_list (v := .ty "list") rfl) (pa_cons (pe_bltn (by rfl) Z.t.tuple boot_tuple (v := .ty "tuple") rfl) pa_nil))) pa_nil))))
      (pss_cons (ps_if (PW.pt (pw_or (pt_cmpR op_ne (pe_callB call_isi (by rfl) Z.t.isinstance (by decide +kernel) (pa_cons (pv 0) (pa_cons (pe_bltn (by rfl) Z.t.list PyProof.Rows.boot_list (v := .ty "list") rfl) pa_nil))) (pe_callB call_isi (by rfl) Z.t.isinstance (by decide +kernel) (pa_cons (pv 1) (pa_cons (pe_bltn (by rfl) Z.t.list PyProof.Rows.boot_list (v := .ty "list") rfl) pa_nil))) (nomark _))
          (pw_or1 (pt_cmpR op_ne (pe_callB call_isi (by rfl) Z.t.isinstance (by decide +kernel) (pa_cons (pv 0) (pa_cons (pe_bltn (by rfl) Z.t.tuple boot_tuple (v := .ty "tuple") rfl) pa_nil))) (pe_callB call_isi (by rfl) Z.t.isinstance (by decide +kernel) (pa_cons (pv 1) (pa_cons (pe_bltn (by rfl) Z.t.tuple boot_tuple (v := .ty "tuple") rfl) pa_nil))) (nomark _))))) (pss_one (ps_ret pe_bl)) pss_nil)
      (pss_one (ps_ret (pe_and (pe_cmpR op_eq (pe_callB call_len_seq (by rfl) Z.t.len PySem.boot_len (pa_cons (pv 0) pa_nil)) (pe_callB call_len_seq (by rfl) Z.t.len PySem.boot_len (pa_cons (pv 1) pa_nil)) (nomark _)) (pe_one (pe_callB (cr_all rfl) (by rfl) Z.t.all (by decide +kernel) (pa_cons (pe_lc (own := [("_law_x", 2), ("_law_y", 3)]) (tt := tYes) (g := gTup K 2 (gCons (gName 2) (gCons (gName 3) gNil))) rfl sc_same.nd (RZ.pi_zipA (by rfl) (Z.free "zip" (by decide)) (pa_cons (pv 0) (pa_cons (pv 1) pa_nil))) (blkOk_by (own := [("_law_x", 2), ("_law_y", 3)]) (N := N_same) (sc := defScope (topS 57)) (by decide +kernel)) (fun _ _ _ _ _ => by exact (pg_tup rfl (pgs_cons (pg_name (i := 2) sc_same.nd rfl (Or.inl rfl)) (pgs_cons (pg_name (i := 3) sc_same.nd rfl (Or.inl rfl)) pgs_nil)))) (fun _ _ _ _ _ => pts_nil) (fun _ _ _ _ _ => (pe_call GS hr (by rfl) (Z.g 57 (by decide)) (Z.F 57 (by decide)).kp (bSame Z) .nil pass0 (pa_cons (pv 2) (pa_cons (pv 3) pa_nil))))) pa_nil))))))) pss_nil)
    (pss_cons (ps_if (pt_val (pe_callB call_isi (by rfl) Z.t.isinstance (by decide +kernel) (pa_cons (pv 1) (pa_cons (pe_bltn (by rfl) (Z.free "dict" (by decide)) boot_dictT (v := .ty "dict") rfl) pa_nil)))) (pss_one (ps_ret (pe_and (pe_callB call_isi (by rfl) Z.t.isinstance (by decide +kernel) (pa_cons (pv 0) (pa_cons (pe_bltn (by rfl) (Z.free "dict" (by decide)) boot_dictT (v := .ty "dict") rfl) pa_nil))) (pe_one (pe_call GS hr (by rfl) (Z.g 57 (by decide)) (Z.F 57 (by decide)).kp (bSame Z) .nil pass0 (pa_cons (LiI.pe_listItems rfl (pv 0) (by rfl) Z.t.list PyProof.Rows.boot_list) (pa_cons (LiI.pe_listItems rfl (pv 1) (by rfl) Z.t.list PyProof.Rows.boot_list) pa_nil))))))) pss_nil)
    (pss_cons (ps_if (pt_val (pe_callB call_isi (by rfl) Z.t.isinstance (by decide +kernel) (pa_cons (pv 1) (pa_cons (pe_bltn (by rfl) (Z.free "int" (by decide)) boot_int' (v := .ty "int") rfl) pa_nil)))) (pss_one (ps_ret (pe_and (pe_callB call_isi (by rfl) Z.t.isinstance (by decide +kernel) (pa_cons (pv 0) (pa_cons (pe_bltn (by rfl) (Z.free "int" (by decide)) boot_int' (v := .ty "int") rfl) pa_nil))) (pe_and (pe_cmpR op_eq (pe_callB call_isi (by rfl) Z.t.isinstance (by decide +kernel) (pa_cons (pv 0) (pa_cons (pe_bltn (by rfl) (Z.free "bool" (by decide)) boot_bool' (v := .ty "bool") rfl) pa_nil))) (pe_callB call_isi (by rfl) Z.t.isinstance (by decide +kernel) (pa_cons (pv 1) (pa_cons (pe_bltn (by rfl) (Z.free "bool" (by decide)) boot_bool' (v := .ty "bool") rfl) pa_nil))) (nomark _)) (pe_one (pe_cmpR op_eq (pv 0) (pv 1) (nomark _))))))) pss_nil)
    (pss_one (ps_ret (pe_and (pe_not (pe_callB call_isiT (by rfl) Z.t.isinstance (by decide +kernel) (pa_cons (pv 0) (pa_cons (pe_tup (pa_cons (pe_bltn (by rfl) (Z.free "int" (by decide)) boot_int' (v := .ty "int") rfl) (pa_cons (pe_bltn (by rfl) Z.t.list PyProof.Rows.boot_list (v := .ty "list") rfl) (pa_cons (pe_bltn (by rfl) Z.t.tuple boot_tuple (v := .ty "tuple") rfl) (pa_cons (pe_bltn (by rfl) (Z.free "dict" (by decide)) boot_dictT (v := .ty "dict") rfl) pa_nil))))) pa_nil)))) (pe_one (pe_cmpR (OpR.or op_eq (op_beq GB (hr.mono (by omega)) Z.B.eqA Z.B.eqF (b_m1 Z.B) pass0 Z.B.nf)) (pv 0) (pv 1) (nomark _)))))))), ?_⟩)
  · obtain ⟨v, u, rfl, _⟩ := h
    rfl
  · obtain ⟨v, u, rfl, h, k⟩ := h
    have any4 : ∀ {t : Value} {d : String}, (∀ T, T ∈ ["str", "list", "tuple", "dict", "int", "bool"] → PySem.W.kitOne K t (.type T) = some (d == T || (d == "bool" && T == "int"))) → (d ∈ ["NoneType", "str", ""]) → PySem.W.kitAny K t [.type "int", .type "list", .type "tuple", .type "dict"] = some false := fun {t d} g hd => by
      have a := g "int" (by decide)
      have b := g "list" (by decide)
      have c := g "tuple" (by decide)
      have e := g "dict" (by decide)
      simp only [List.mem_cons, List.not_mem_nil, or_false] at hd
      rcases hd with rfl | rfl | rfl <;> exact kitAny_cons a (fun _ => kitAny_cons b (fun _ => kitAny_cons c (fun _ => kitAny_cons e (fun _ => rfl) (fun z => by revert z; decide)) (fun z => by revert z; decide)) (fun z => by revert z; decide)) (fun z => by revert z; decide)
    rcases h with ⟨rfl, hs⟩ | ⟨a, pl, ts, rm, rfl, rfl, hB⟩ | ⟨a, b, xs, ys, rfl, rfl, hab, hl, hL, hx⟩ | ⟨a, rfl, rfl, ha, hE⟩
    · cases v with
      | non =>
        refine ⟨_, rfl, by show 2 ≤ sizeLine; decide, fun t nt => ?_⟩
        have ST := new_same (o := .tup [.ty "list", .ty "tuple"]) nt
        obtain ⟨ty, h1, h2, h3⟩ := kn_one (d := "NoneType") Z.B.O (.non : Kn Z.B.C (upd H t (.tup [.ty "list", .ty "tuple"])) _) rfl
        refine ⟨_, t, _, ty, _, _, rfl, upd_same, .cons (.ty _) (.cons (.ty _) .nil), h1, h3, _, rfl, iteF ?_⟩
        refine ⟨_, rfl, _, _, ty, _, _, rfl, .ty _, h1, h2 "dict" (by decide), _, rfl, iteF ?_⟩
        refine ⟨_, rfl, _, _, ty, _, _, rfl, .ty _, h1, h2 "int" (by decide), _, rfl, iteF ?_⟩
        refine ⟨_, rfl, by show 4 ≤ sizeLine; decide, fun t4 nt4 => ?_⟩
        obtain ⟨ty4, g1, g2, _⟩ := kn_one (d := "NoneType") Z.B.O (.non : Kn Z.B.C (upd (upd H t (.tup [.ty "list", .ty "tuple"])) t4 (.tup [.ty "int", .ty "list", .ty "tuple", .ty "dict"])) _) rfl
        refine ⟨_, t4, _, ty4, _, _, rfl, upd_same, .cons (.ty _) (.cons (.ty _) (.cons (.ty _) (.cons (.ty _) .nil))), g1, any4 g2 (by decide), ?_⟩
        refine ⟨_, rfl, _, rfl, iteT ⟨_, rfl, _, rfl, .inl ⟨rfl, ?_⟩⟩⟩
        exact k _ (ST.trans (new_same nt4))
      | bl x =>
        refine ⟨_, rfl, by show 2 ≤ sizeLine; decide, fun t nt => ?_⟩
        have ST := new_same (o := .tup [.ty "list", .ty "tuple"]) nt
        obtain ⟨ty, h1, h2, h3⟩ := kn_one (d := "bool") Z.B.O (.bl x : Kn Z.B.C (upd H t (.tup [.ty "list", .ty "tuple"])) _) rfl
        refine ⟨_, t, _, ty, _, _, rfl, upd_same, .cons (.ty _) (.cons (.ty _) .nil), h1, h3, _, rfl, iteF ?_⟩
        refine ⟨_, rfl, _, _, ty, _, _, rfl, .ty _, h1, h2 "dict" (by decide), _, rfl, iteF ?_⟩
        refine ⟨_, rfl, _, _, ty, _, _, rfl, .ty _, h1, h2 "int" (by decide), _, rfl, iteT ?_⟩
        refine ⟨_, rfl, _, _, ty, _, _, rfl, .ty _, h1, h2 "int" (by decide), _, rfl, iteT ?_⟩
        refine ⟨_, rfl, _, _, ty, _, _, rfl, .ty _, h1, h2 "bool" (by decide), _, rfl, _, _, ty, _, _, rfl, .ty _, h1, h2 "bool" (by decide), rfl, _, rfl, ?_⟩
        rw [decide_eq_true rfl]
        refine iteT ⟨_, rfl, _, rfl, rfl, ?_⟩
        rw [decide_eq_true rfl]
        exact k _ ST
      | int x =>
        refine ⟨_, rfl, by show 2 ≤ sizeLine; decide, fun t nt => ?_⟩
        have ST := new_same (o := .tup [.ty "list", .ty "tuple"]) nt
        obtain ⟨ty, h1, h2, h3⟩ := kn_one (d := "int") Z.B.O (.int x : Kn Z.B.C (upd H t (.tup [.ty "list", .ty "tuple"])) _) rfl
        refine ⟨_, t, _, ty, _, _, rfl, upd_same, .cons (.ty _) (.cons (.ty _) .nil), h1, h3, _, rfl, iteF ?_⟩
        refine ⟨_, rfl, _, _, ty, _, _, rfl, .ty _, h1, h2 "dict" (by decide), _, rfl, iteF ?_⟩
        refine ⟨_, rfl, _, _, ty, _, _, rfl, .ty _, h1, h2 "int" (by decide), _, rfl, iteT ?_⟩
        refine ⟨_, rfl, _, _, ty, _, _, rfl, .ty _, h1, h2 "int" (by decide), _, rfl, iteT ?_⟩
        refine ⟨_, rfl, _, _, ty, _, _, rfl, .ty _, h1, h2 "bool" (by decide), _, rfl, _, _, ty, _, _, rfl, .ty _, h1, h2 "bool" (by decide), rfl, _, rfl, ?_⟩
        rw [decide_eq_true rfl]
        refine iteT ⟨_, rfl, _, rfl, rfl, ?_⟩
        rw [decide_eq_true rfl]
        exact k _ ST
      | str x =>
        refine ⟨_, rfl, by show 2 ≤ sizeLine; decide, fun t nt => ?_⟩
        have ST := new_same (o := .tup [.ty "list", .ty "tuple"]) nt
        obtain ⟨ty, h1, h2, h3⟩ := kn_one (d := "str") Z.B.O (.str x : Kn Z.B.C (upd H t (.tup [.ty "list", .ty "tuple"])) _) rfl
        refine ⟨_, t, _, ty, _, _, rfl, upd_same, .cons (.ty _) (.cons (.ty _) .nil), h1, h3, _, rfl, iteF ?_⟩
        refine ⟨_, rfl, _, _, ty, _, _, rfl, .ty _, h1, h2 "dict" (by decide), _, rfl, iteF ?_⟩
        refine ⟨_, rfl, _, _, ty, _, _, rfl, .ty _, h1, h2 "int" (by decide), _, rfl, iteF ?_⟩
        refine ⟨_, rfl, by show 4 ≤ sizeLine; decide, fun t4 nt4 => ?_⟩
        obtain ⟨ty4, g1, g2, _⟩ := kn_one (d := "str") Z.B.O (.str x : Kn Z.B.C (upd (upd H t (.tup [.ty "list", .ty "tuple"])) t4 (.tup [.ty "int", .ty "list", .ty "tuple", .ty "dict"])) _) rfl
        refine ⟨_, t4, _, ty4, _, _, rfl, upd_same, .cons (.ty _) (.cons (.ty _) (.cons (.ty _) (.cons (.ty _) .nil))), g1, any4 g2 (by decide), ?_⟩
        refine ⟨_, rfl, _, rfl, iteT ⟨_, rfl, _, rfl, .inl ⟨rfl, ?_⟩⟩⟩
        rw [decide_eq_true rfl]
        exact k _ (ST.trans (new_same nt4))
      | _ => cases hs
    · -- a board
      obtain ⟨dx, aP, aT, aR, aN, tv, l, e1, hB2⟩ := id hB
      refine ⟨_, rfl, by show 2 ≤ sizeLine; decide, fun t nt => ?_⟩
      have ST := new_same (o := .tup [.ty "list", .ty "tuple"]) nt
      have e2 := ST _ _ e1
      obtain ⟨ty, h1, h2, h3⟩ := kn_one (d := "") Z.B.O (Kn.own (C := Z.B.C) e2) (by simp only [kdOf, e2])
      refine ⟨_, t, _, ty, _, _, rfl, upd_same, .cons (.ty _) (.cons (.ty _) .nil), h1, h3, _, rfl, iteF ?_⟩
      refine ⟨_, rfl, _, _, ty, _, _, rfl, .ty _, h1, h2 "dict" (by decide), _, rfl, iteF ?_⟩
      refine ⟨_, rfl, _, _, ty, _, _, rfl, .ty _, h1, h2 "int" (by decide), _, rfl, iteF ?_⟩
      refine ⟨_, rfl, by show 4 ≤ sizeLine; decide, fun t4 nt4 => ?_⟩
      have S4 := ST.trans (new_same (o := .tup [.ty "int", .ty "list", .ty "tuple", .ty "dict"]) nt4)
      have e4 := S4 _ _ e1
      obtain ⟨ty4, g1, g2, _⟩ := kn_one (d := "") Z.B.O (Kn.own (C := Z.B.C) e4) (by simp only [kdOf, e4])
      refine ⟨_, t4, _, ty4, _, _, rfl, upd_same, .cons (.ty _) (.cons (.ty _) (.cons (.ty _) (.cons (.ty _) .nil))), g1, any4 g2 (by decide), ?_⟩
      refine ⟨_, rfl, _, rfl, iteT ⟨_, rfl, _, rfl, .inr ⟨a, dx, _, rfl, e4, .own e4, a, .ref a, pl, ts, rm, rfl, hB.same S4, .inr ⟨a, pl, ts, rm, rfl, hB.same S4, ?_⟩⟩⟩⟩
      rw [decide_eq_true rfl, decide_eq_true rfl, decide_eq_true rfl]
      exact k _ S4
    · rcases hab with ⟨ha, hb⟩ | ⟨ha, hb⟩
      · refine ⟨_, rfl, by show 2 ≤ sizeLine; decide, fun t nt => ?_⟩
        have ST := new_same (o := .tup [.ty "list", .ty "tuple"]) nt
        have ea := ST _ _ ha
        have eb := ST _ _ hb
        obtain ⟨tya, ga1, ga2, ga3⟩ := kn_one (d := "list") Z.B.O (Kn.lst (C := Z.B.C) ea) (by simp only [kdOf, ea])
        obtain ⟨tyb, gb1, gb2, gb3⟩ := kn_one (d := "list") Z.B.O (Kn.lst (C := Z.B.C) eb) (by simp only [kdOf, eb])
        refine ⟨_, t, _, tyb, _, _, rfl, upd_same, .cons (.ty _) (.cons (.ty _) .nil), gb1, gb3, _, rfl, iteT ?_⟩
        refine ⟨_, rfl, _, _, tya, _, _, rfl, .ty _, ga1, ga2 "list" (by decide), _, rfl, _, _, tyb, _, _, rfl, .ty _, gb1, gb2 "list" (by decide), rfl, _, rfl, ?_⟩
        rw [decide_eq_true rfl]
        refine iteF ⟨_, rfl, _, _, tya, _, _, rfl, .ty _, ga1, ga2 "tuple" (by decide), _, rfl, _, _, tyb, _, _, rfl, .ty _, gb1, gb2 "tuple" (by decide), rfl, _, rfl, ?_⟩
        rw [decide_eq_true rfl]
        refine iteF ⟨_, rfl, a, xs, rfl, .inl (SqL.of ea), _, rfl, b, ys, rfl, .inl (SqL.of eb), rfl, _, rfl, ?_⟩
        rw [show decide (V.int (xs.length : Nat) = V.int (ys.length : Nat)) = true from decide_eq_true (by rw [hl])]
        refine iteT ⟨_, rfl, _, rfl, a, b, xs, ys, rfl, .inl ⟨SqL.of ea, SqL.of eb, fun D hD => ?_⟩⟩
        refine lc_it (walk_zip (n := xs.length) (by omega)) (fun i H' => H' D = some (.lst ((List.replicate i true).map V.bl)) ∧ Same (upd H t (.tup [.ty "list", .ty "tuple"])) H') ⟨upd_same, new_same hD⟩ (fun i H' _ ⟨_, S'⟩ => ⟨SqL.of (S' _ _ ea), SqL.of (S' _ _ eb)⟩) ?_ ?_
        · rintro i v H' H'' hi ⟨hacc, S'⟩ ⟨T, x, y, rfl, nT, rfl, hx1, hy1⟩
          have S2 := S'.trans (new_same (o := .tup [x, y]) nT)
          refine ⟨T, _, rfl, SqT.of upd_same, rfl, _, _, rfl, _, _, rfl, rfl, rfl, yes_of ⟨_, rfl, _, rfl, x, y, rfl, hR _ _ _ _ (ST.trans S2) (hx i x y hx1 hy1), fun H3 S3 => ⟨_, S3 _ _ (new_same nT _ _ hacc), ?_, ?_, ?_⟩⟩⟩
          · rw [List.length_map, List.length_replicate]
            exact small1000' (by omega)
          · rw [upd_same, List.replicate_succ', List.map_append]
            rfl
          · exact fun b o e => by
              rw [upd_ne (ne_of_none e hD)]
              exact S3 _ _ (S2 _ _ e)
        · rintro H' ⟨hacc, S'⟩
          refine ⟨D, List.replicate xs.length true, rfl, SqL.of hacc, ?_⟩
          rw [show (List.replicate xs.length true).all id = true from List.all_eq_true.mpr fun z hz => (List.mem_replicate.mp hz).2]
          exact k _ (ST.trans S')
      · refine ⟨_, rfl, by show 2 ≤ sizeLine; decide, fun t nt => ?_⟩
        have ST := new_same (o := .tup [.ty "list", .ty "tuple"]) nt
        have ea := ST _ _ ha
        have eb := ST _ _ hb
        obtain ⟨tya, ga1, ga2, ga3⟩ := kn_one (d := "tuple") Z.B.O (Kn.tup (C := Z.B.C) ea) (by simp only [kdOf, ea])
        obtain ⟨tyb, gb1, gb2, gb3⟩ := kn_one (d := "tuple") Z.B.O (Kn.tup (C := Z.B.C) eb) (by simp only [kdOf, eb])
        refine ⟨_, t, _, tyb, _, _, rfl, upd_same, .cons (.ty _) (.cons (.ty _) .nil), gb1, gb3, _, rfl, iteT ?_⟩
        refine ⟨_, rfl, _, _, tya, _, _, rfl, .ty _, ga1, ga2 "list" (by decide), _, rfl, _, _, tyb, _, _, rfl, .ty _, gb1, gb2 "list" (by decide), rfl, _, rfl, ?_⟩
        rw [decide_eq_true rfl]
        refine iteF ⟨_, rfl, _, _, tya, _, _, rfl, .ty _, ga1, ga2 "tuple" (by decide), _, rfl, _, _, tyb, _, _, rfl, .ty _, gb1, gb2 "tuple" (by decide), rfl, _, rfl, ?_⟩
        rw [decide_eq_true rfl]
        refine iteF ⟨_, rfl, a, xs, rfl, .inr (SqT.of ea), _, rfl, b, ys, rfl, .inr (SqT.of eb), rfl, _, rfl, ?_⟩
        rw [show decide (V.int (xs.length : Nat) = V.int (ys.length : Nat)) = true from decide_eq_true (by rw [hl])]
        refine iteT ⟨_, rfl, _, rfl, a, b, xs, ys, rfl, .inr ⟨SqT.of ea, SqT.of eb, fun D hD => ?_⟩⟩
        refine lc_it (walk_zipT (n := xs.length) (by omega)) (fun i H' => H' D = some (.lst ((List.replicate i true).map V.bl)) ∧ Same (upd H t (.tup [.ty "list", .ty "tuple"])) H') ⟨upd_same, new_same hD⟩ (fun i H' _ ⟨_, S'⟩ => ⟨SqT.of (S' _ _ ea), SqT.of (S' _ _ eb)⟩) ?_ ?_
        · rintro i v H' H'' hi ⟨hacc, S'⟩ ⟨T, x, y, rfl, nT, rfl, hx1, hy1⟩
          have S2 := S'.trans (new_same (o := .tup [x, y]) nT)
          refine ⟨T, _, rfl, SqT.of upd_same, rfl, _, _, rfl, _, _, rfl, rfl, rfl, yes_of ⟨_, rfl, _, rfl, x, y, rfl, hR _ _ _ _ (ST.trans S2) (hx i x y hx1 hy1), fun H3 S3 => ⟨_, S3 _ _ (new_same nT _ _ hacc), ?_, ?_, ?_⟩⟩⟩
          · rw [List.length_map, List.length_replicate]
            exact small1000' (by omega)
          · rw [upd_same, List.replicate_succ', List.map_append]
            rfl
          · exact fun b o e => by
              rw [upd_ne (ne_of_none e hD)]
              exact S3 _ _ (S2 _ _ e)
        · rintro H' ⟨hacc, S'⟩
          refine ⟨D, List.replicate xs.length true, rfl, SqL.of hacc, ?_⟩
          rw [show (List.replicate xs.length true).all id = true from List.all_eq_true.mpr fun z hz => (List.mem_replicate.mp hz).2]
          exact k _ (ST.trans S')
    · -- an empty dict
      refine ⟨_, rfl, by show 2 ≤ sizeLine; decide, fun t nt => ?_⟩
      have ST := new_same (o := .tup [.ty "list", .ty "tuple"]) nt
      have e2 := ST _ _ ha
      obtain ⟨ty, h1, h2, h3⟩ := kn_one (d := "dict") Z.B.O (Kn.dic (C := Z.B.C) e2) (by simp only [kdOf, e2])
      refine ⟨_, t, _, ty, _, _, rfl, upd_same, .cons (.ty _) (.cons (.ty _) .nil), h1, h3, _, rfl, iteF ?_⟩
      refine ⟨_, rfl, _, _, ty, _, _, rfl, .ty _, h1, h2 "dict" (by decide), _, rfl, iteT ?_⟩
      refine ⟨_, rfl, _, _, ty, _, _, rfl, .ty _, h1, h2 "dict" (by decide), _, rfl, iteT ?_⟩
      refine ⟨_, rfl, a, [], rfl, e2, fun H3 p1 ts1 S3 np1 _ _ hp1 pr1 => ⟨_, rfl, a, [], rfl, S3 _ _ e2, fun H4 p2 ts2 S4 np2 _ _ hp2 pr2 => ?_⟩⟩
      cases pr1
      cases pr2
      exact ⟨.ref p1, .ref p2, rfl, hE H4 p1 p2 (S4 _ _ hp1) hp2, fun H5 S5 => k H5 (((ST.trans S3).trans S4).trans S5)⟩
/-- the same data, nested less than n deep -/
def SmN (C : Addr) : Nat → V → V → Hp → Prop
  | 0 => fun _ _ _ => False
  | n + 1 => Sq C (SmN C n)
theorem SmN.stb {C : Addr} : ∀ n, Stb (SmN C n)
  | 0 => fun _ _ _ _ _ h => h.elim
  | n + 1 => Sq.stb (SmN.stb n)
theorem ok_same (Z : LawD K mg) : ∀ n, FnOk P w K mg base CX0 (n + 1) (Z.f 57) (Z.d 57) ["_law_found", "_law_due"] (spSame (SmN Z.B.C n))
  | 0 => ⟨fun _ _ _ _ h => by
      obtain ⟨_, _, _, h, _⟩ := h
      exact h.elim, fun _ _ _ _ _ _ _ _ _ _ _ _ _ h => by
      obtain ⟨_, _, _, h, _⟩ := h
      exact h.elim⟩
  | n + 1 => ok_same_of Z (SmN.stb n) (ok_same Z n)
end
end E1

set_option Elab.async false
set_option linter.all false
set_option maxRecDepth 100000
set_option maxHeartbeats 8000000
/-! A board that is as a raw one says, as the law looks. -/
namespace E1
open PySem PySem.Spec PyProof.Rows L2 G0
def upTs (f : Str → List Str) (P : List Str) : List Pr := P.flatMap fun s => ((f s).filter fun o => ltS s o).map fun o => ((s, o) : Pr)
theorem upTs_snoc (f : Str → List Str) (P : List Str) (s : Str) : upTs f (P ++ [s]) = upTs f P ++ ((f s).filter fun o => ltS s o).map fun o => ((s, o) : Pr) := by
  unfold upTs
  rw [List.flatMap_append]
  simp
theorem upTs_len (f : Str → List Str) (P : List Str) (i : Nat) : (upTs f (P.take i)).length ≤ (upTs f P).length := by
  conv => rhs; rw [← List.take_append_drop i P]
  unfold upTs
  rw [List.flatMap_append, List.length_append]
  omega
theorem sm_str {C : Addr} {n : Nat} {z : Str} {H : Hp} : SmN C (n + 1) (.str z) (.str z) H := .inl ⟨rfl, rfl⟩
theorem sm_strs {C : Addr} {n : Nat} {H : Hp} {a b : Addr} {ss : List Str} (ha : H a = some (.lst (ss.map V.str))) (hb : H b = some (.lst (ss.map V.str))) (l : ss.length ≤ 2000) : SmN C (n + 2) (.ref a) (.ref b) H :=
  .inr (.inr (.inl ⟨a, b, _, _, rfl, rfl, .inl ⟨ha, hb⟩, rfl, by rw [List.length_map]; exact l, fun i x y h1 h2 => by
    rw [h1] at h2
    cases h2
    obtain ⟨z, _, rfl⟩ := List.mem_map.mp (List.mem_of_getElem? h1)
    exact sm_str⟩))
theorem sm_prs {C : Addr} {n : Nat} {H : Hp} {a b : Addr} {xs ys : List V} {ps : List Pr} (ha : H a = some (.lst xs)) (hb : H b = some (.lst ys)) (px : PrsAt H xs ps) (py : PrsAt H ys ps) (l : ps.length ≤ 2000) : SmN C (n + 3) (.ref a) (.ref b) H :=
  .inr (.inr (.inl ⟨a, b, _, _, rfl, rfl, .inl ⟨ha, hb⟩, px.1.trans py.1.symm, by rw [px.1]; exact l, fun i x y h1 h2 => by
    have il : i < ps.length := by
      rw [← px.1]
      exact (List.getElem?_eq_some_iff.mp h1).1
    obtain ⟨t, rfl, ht⟩ := px.2 i x _ h1 (List.getElem?_eq_getElem il)
    obtain ⟨u, rfl, hu⟩ := py.2 i y _ h2 (List.getElem?_eq_getElem il)
    exact .inr (.inr (.inl ⟨t, u, _, _, rfl, rfl, .inr ⟨ht, hu⟩, rfl, by show 2 ≤ 2000; decide, fun j x y h1 h2 => by
      rw [h1] at h2
      cases h2
      match j, h1 with
      | 0, h1 => cases h1; exact sm_str
      | 1, h1 => cases h1; exact sm_str⟩))⟩))
abbrev N_isB : List Str := ["_law_board", "_law_near", "_law_rim", "_law_ties", "_law_one", "_law_other"]
theorem sc_isB : FnScope N_isB ["_law_board", "_law_near", "_law_rim"] (defScope (topS 46)) := ⟨rfl, rfl, rfl, by decide +kernel, rfl, by decide +kernel, by decide +kernel⟩
def spIsB (C : Addr) : Sp := fun vs H Q _ => ∃ (x q a : Addr) (N : Addr → Prop) (pl : List Str) (ts : List Pr) (rm : List Str) (f : Str → List Str) (l : Str → Addr), vs = [.ref x, .ref q, .ref a] ∧ BoardAt N C H x pl ts rm ∧ NearAt H q pl f l ∧ H a = some (.lst (rm.map V.str)) ∧ ts = upTs f pl ∧
  pl.length ≤ 1000 ∧ ts.length ≤ 1000 ∧ rm.length ≤ 1000 ∧ (∀ s ∈ pl, (f s).length ≤ 1000) ∧ ∀ H', Same H H' → Q (.bl true) H'
section
variable {P : Program} {w : World} {K : PySem.W.Frag} {mg : Str → Option Value} {base : Heap}
theorem bIsB (Z : LawD K mg) : Binds K (Z.d 46) ["_law_board", "_law_near", "_law_rim"] [] := (Z.F 46 (by decide)).binds fun _ _ _ _ _ _ us hl => match us, hl with | [_, _, _], _ => rfl
theorem ok_isB (Z : LawD K mg) : FnOk P w K mg base CX0 5 (Z.f 46) (Z.d 46) ["_law_board", "_law_near", "_law_rim"] (spIsB Z.B.C) := by
  have GS : FnOk P w K mg base CX0 4 (Z.f 57) (Z.d 57) ["_law_found", "_law_due"] (spSame (SmN Z.B.C 3)) := ok_same Z 3
  have GB2 : FnOk P w K mg base CX0 1 (Z.B.f 2) (Z.B.d 2) ["self"] (spPlaces Z.B.C) := ok_places Z.B Z.t
  have GB3 : FnOk P w K mg base CX0 1 (Z.B.f 3) (Z.B.d 3) ["self"] (spTies Z.B.C) := ok_ties Z.B Z.t
  have GB4 : FnOk P w K mg base CX0 1 (Z.B.f 4) (Z.B.d 4) ["self"] (spRim Z.B.C) := ok_rim Z.B Z.t
  refine Fun.ok (Z.F 46 (by decide)) sc_isB (fun vs H Q E h => ?_) (fun cdv A outer s H vs Q E hr h => ⟨_, pss_cons (ps_if (PW.pt (pw_or (pt_not (pt_val (pe_callB call_isi (by rfl) Z.t.isinstance (by decide +kernel) (pa_cons (pv 0) (pa_cons (pe_glob (by rfl) Z.B.g (v := .ref Z.B.C) rfl) pa_nil))))) (pw_or1 (pt_not (pt_val (pe_call GS (hr.mono (by decide)) (by rfl) (Z.g 57 (by decide)) (Z.F 57 (by decide)).kp (bSame Z) .nil pass0 (pa_cons (pe_lst (pa_cons (pe_meth0 (pv 0) Z.B.O.cl Z.B.M2 GB2 (hr.mono (by decide)) (b_m2 Z.B) .nil pass0) (pa_cons (pe_meth0 (pv 0) Z.B.O.cl Z.B.M4 GB4 (hr.mono (by decide)) (b_m4 Z.B) .nil pass0) pa_nil))) (pa_cons (pe_lst (pa_cons (pe_callTy (call_listD rfl) (by rfl) Z.t.list PyProof.Rows.boot_list (pa_cons (pv 1) pa_nil)) (pa_cons (pe_callTy call_list_of (by rfl) Z.t.list PyProof.Rows.boot_list (pa_cons (pv 2) pa_nil)) pa_nil))) pa_nil)))))))) (pss_one (ps_ret pe_bl)) pss_nil)
  (pss_cons (ps_set (i := 3) sc_isB.nd rfl (Or.inl rfl) (pe_lst pa_nil))
  (pss_cons (ps_lock (ps_for PassesOwn.never rfl (pi_keys (pv 1)) (pg_name (i := 4) sc_isB.nd rfl (Or.inr rfl))
    (pss_one (ps_expr (pe_bm PySem.F.plainAttrs_list PySem.F.slot_list_extend PySem.F.type_list_extend mt_extend (pv 3) (pa_cons (pe_lc (own := [("_law_other", 5)]) (tt := _) rfl sc_isB.nd (pi_list (pe_dget (hu_of hr) (pv 1) (pv 4) (fun _ _ => rfl))) (blkOk_by (own := [("_law_other", 5)]) (N := N_isB) (sc := defScope (topS 46)) (by decide +kernel)) (fun _ _ _ _ _ => (pg_name (i := 5) sc_isB.nd rfl (Or.inl rfl))) (fun _ _ _ _ _ => (pts_one (pt_cmpR op_lt_str (pv 4) (pv 5) (nomark _)))) (fun _ _ _ _ _ => (pe_tup (pa_cons (pv 4) (pa_cons (pv 5) pa_nil))))) pa_nil))))))
  (pss_one (ps_ret (pe_call GS (hr.mono (by decide)) (by rfl) (Z.g 57 (by decide)) (Z.F 57 (by decide)).kp (bSame Z) .nil pass0 (pa_cons (pe_meth0 (pv 0) Z.B.O.cl Z.B.M3 GB3 (hr.mono (by decide)) (b_m3 Z.B) .nil pass0) (pa_cons (pv 3) pa_nil))))))), ?_⟩)
  · obtain ⟨x, q, a, N, pl, ts, rm, f, l, rfl, _⟩ := h
    rfl
  obtain ⟨x, q, a, N, pl, ts, rm, f, l, rfl, B0, N0, ha, ets, l1, l2, l3, l4, k⟩ := h
  have sz : 5000 < sizeLine := by decide
  have B : BoardAt (fun _ => True) Z.B.C H x pl ts rm := B0.weak fun _ _ => trivial
  obtain ⟨dx, aP, aT, aR, aN, tv, l0, h1, _⟩ := id B
  refine ⟨_, rfl, .ref x, _, _, _, true, rfl, .own _, .base (.ins h1 Z.B.O.cl Z.B.O.ha Z.B.O.hn Z.B.O.htk Z.B.O.hm), by unfold PySem.W.kitOne; simp, _, rfl, iteF ?_⟩
  refine ⟨_, rfl, x, dx, _, rfl, h1, rfl, x, pl, ts, rm, rfl, B, fun p1 n1 => ?_⟩
  have T1 := new_same (o := .lst (pl.map V.str)) n1
  refine ⟨_, rfl, x, dx, _, rfl, T1 _ _ h1, rfl, x, pl, ts, rm, rfl, B.same T1, fun p2 n2 => ?_⟩
  have T2 := T1.trans (new_same (o := .lst (rm.map V.str)) n2)
  have e1 := new_same (o := .lst (rm.map V.str)) n2 _ _ (upd_same (H := H) (a := p1) (o := .lst (pl.map V.str)))
  have e2 := upd_same (H := upd H p1 (.lst (pl.map V.str))) (a := p2) (o := .lst (rm.map V.str))
  generalize upd (upd H p1 (.lst (pl.map V.str))) p2 (.lst (rm.map V.str)) = H2 at T2 e1 e2 ⊢
  refine ⟨by show 2 ≤ sizeLine; decide, fun p3 n3 => ?_⟩
  have S3 := new_same (o := .lst [.ref p1, .ref p2]) n3
  have T3 := T2.trans S3
  refine ⟨_, rfl, q, _, rfl, .inl (T3 _ _ N0.d), fun p4 n4 => ?_⟩
  rw [show ((pl.map fun s => ((Sum.inr s : Key), V.ref (l s))).map fun kv => kV kv.1) = pl.map V.str by rw [List.map_map]; rfl]
  have S4 := S3.trans (new_same (o := .lst (pl.map V.str)) n4)
  have T4 := T2.trans S4
  refine ⟨_, rfl, a, _, rfl, .inl (SqL.of (T4 _ _ ha)), fun p5 n5 => ?_⟩
  have S5 := S4.trans (new_same (o := .lst (rm.map V.str)) n5)
  refine ⟨by show 2 ≤ sizeLine; decide, fun p6 n6 => ?_⟩
  have S6 := S5.trans (new_same (o := .lst [.ref p4, .ref p5]) n6)
  have T6 := T2.trans S6
  have g1 := S6 _ _ e1
  have g2 := S6 _ _ e2
  have g3 := new_same n6 (o := .lst [.ref p4, .ref p5]) _ _ (new_same n5 (o := .lst (rm.map V.str)) _ _ (new_same n4 (o := .lst (pl.map V.str)) _ _ (upd_same (H := H2) (a := p3) (o := .lst [.ref p1, .ref p2]))))
  have g4 := new_same n6 (o := .lst [.ref p4, .ref p5]) _ _ (new_same n5 (o := .lst (rm.map V.str)) _ _ (upd_same (H := upd H2 p3 (.lst [.ref p1, .ref p2])) (a := p4) (o := .lst (pl.map V.str))))
  have g5 := new_same n6 (o := .lst [.ref p4, .ref p5]) _ _ (upd_same (H := upd (upd H2 p3 (.lst [.ref p1, .ref p2])) p4 (.lst (pl.map V.str))) (a := p5) (o := .lst (rm.map V.str)))
  have g6 := upd_same (H := upd (upd (upd H2 p3 (.lst [.ref p1, .ref p2])) p4 (.lst (pl.map V.str))) p5 (.lst (rm.map V.str))) (a := p6) (o := .lst [.ref p4, .ref p5])
  generalize upd (upd (upd (upd H2 p3 (.lst [.ref p1, .ref p2])) p4 (.lst (pl.map V.str))) p5 (.lst (rm.map V.str))) p6 (.lst [.ref p4, .ref p5]) = H6 at S6 T6 g1 g2 g3 g4 g5 g6 ⊢
  refine ⟨.ref p3, .ref p6, rfl, .inr (.inr (.inl ⟨p3, p6, _, _, rfl, rfl, .inl ⟨g3, g6⟩, rfl, by show 2 ≤ 2000; decide, fun i x y h1 h2 => ?_⟩)), fun H7 S7 => ⟨_, rfl, iteF ⟨Nat.zero_le _, fun b nb => ?_⟩⟩⟩
  · match i, h1, h2 with
    | 0, h1, h2 => cases h1; cases h2; exact sm_strs g1 g4 (by omega)
    | 1, h1, h2 => cases h1; cases h2; exact sm_strs g2 g5 (by omega)
  have T7 := T6.trans S7
  have T8 := T7.trans (new_same (o := .lst []) nb)
  have b8 := upd_same (H := H7) (a := b) (o := .lst [])
  have nbH := T7.free nb
  generalize upd H7 b (.lst []) = H8 at T8 b8 ⊢
  have N8 := N0.mono T8
  have qb : q ≠ b := ne_of_none N0.d nbH
  refine ⟨q, _, N8.d, trivial, fun od => ⟨_, rfl, q, od, rfl, .inl ⟨_, upd_same, for_it walk_keys (fun i σ H' => ∃ v4 v5 tv, σ = [some (.ref x), some (.ref q), some (.ref a), some (.ref b), v4, v5] ∧ H' b = some (.lst tv) ∧ PrsAt H' tv (upTs f (pl.take i)) ∧ (∀ t, V.ref t ∈ tv → t ≠ q) ∧ H' q = some (.frz od (.dK (pl.map fun s => (Sum.inr s, V.ref (l s))))) ∧ (∀ c o, H c = some o → c ≠ q → H' c = some o)) ⟨none, none, [], rfl, by rw [upd_ne qb.symm]; exact b8, PrsAt.nil, (fun t ht => by cases ht), upd_same, fun c o e n => by rw [upd_ne n]; exact T8 _ _ e⟩ ?_ ?_ ?_⟩⟩⟩
  · rintro i σ H' hi ⟨v4, v5, tv, rfl, _, _, _, hq, _⟩
    exact hq
  · rintro i y σ H' H3 hi ⟨v4, v5, tv, rfl, hb, pt, nt, hq, B'⟩ ⟨rfl, kk, vv, hkv, rfl⟩
    rw [List.getElem?_map] at hkv
    cases es : pl[i]? with
    | none => rw [es] at hkv; cases hkv
    | some s =>
    rw [es] at hkv
    cases hkv
    have hs : s ∈ pl := List.mem_of_getElem? es
    have lq : l s ≠ q := N0.ne hs
    have dg : DGet H3 q (.str s) (some (V.ref (l s))) := .inl ⟨_, Sum.inr s, .inr ⟨od, hq⟩, rfl, (map_val (fun s => V.ref (l s)) hs).symm⟩
    have hl := B' _ _ (N0.at_ s hs) lq
    refine ⟨_, rfl, .inl ⟨rfl, _, SqL.of hb⟩, _, rfl, _, rfl, q, _, rfl, dg, l s, rfl, ⟨_, SqL.of hl⟩, fun D hD => ?_⟩
    have bD : b ≠ D := ne_of_none hb hD
    have qD : q ≠ D := ne_of_none hq hD
    have SD := new_same (o := .lst []) hD
    refine lc_list (xs := (f s).map V.str) (fun j H' => ∃ acc, H' D = some (.lst acc) ∧ PrsAt H' acc ((((f s).take j).filter fun o => ltS s o).map fun o => ((s, o) : Pr)) ∧ (∀ t, V.ref t ∈ acc → H3 t = none) ∧ (∀ c o, H3 c = some o → H' c = some o)) ⟨[], upd_same, by rw [List.take_zero]; exact PrsAt.nil, (fun t ht => by cases ht), SD⟩ (fun j H' _ ⟨_, _, _, _, S⟩ => SqL.of (S _ _ hl)) ?_ ?_
    · rintro j y H' hy ⟨acc, hacc, pa, fa, S⟩
      rw [List.getElem?_map] at hy
      cases eo : (f s)[j]? with
      | none => rw [eo] at hy; cases hy
      | some o =>
      rw [eo] at hy
      cases hy
      have jl := (List.getElem?_eq_some_iff.mp eo).1
      have la := pa.1
      rw [List.length_map] at la
      have lf := List.length_filter_le (fun o => ltS s o) ((f s).take j)
      rw [List.length_take] at lf
      have ls := l4 s hs
      refine ⟨rfl, _, rfl, _, rfl, s, o, rfl, rfl, _, rfl, ?_⟩
      rw [take_snoc eo, List.filter_append]
      refine ite2 (fun c => ?_) (fun c => ?_)
      · have c' : ltS s o = true := c
        refine ⟨_, rfl, _, rfl, by show 2 ≤ sizeLine; decide, fun T nT => ?_⟩
        have ST := new_same (o := .tup [.str s, .str o]) nT
        have aT := ST _ _ hacc
        refine ⟨acc, aT, by omega, acc ++ [.ref T], upd_same, ?_, ?_, ?_⟩
        · rw [show List.filter (fun o => ltS s o) [o] = [o] from List.filter_cons_of_pos (p := fun o => ltS s o) (l := []) c', List.map_append]
          refine prs_upd (prs_snoc (pa.mono fun t xs h => ST _ _ h) upd_same) (fun xs e => ?_)
          exact absurd (aT.symm.trans (show (upd H' T (.tup [.str s, .str o])) D = some (.tup xs) from e)) (by intro z; cases z)
        · intro t ht
          rcases List.mem_append.mp ht with h | h
          · exact fa t h
          · cases List.mem_singleton.mp h
            exact Same.free S nT
        · exact fun c u e => by
            rw [upd_ne (ne_of_none e hD)]
            exact ST _ _ (S _ _ e)
      · have c' : ¬ ltS s o = true := c
        rw [show List.filter (fun o => ltS s o) [o] = [] from List.filter_cons_of_neg (p := fun o => ltS s o) (l := []) c', List.append_nil]
        exact ⟨acc, hacc, pa, fa, S⟩
    rintro H4 ⟨acc, hacc, pa, fa, S⟩
    rw [List.length_map, List.take_length] at pa
    have hb4 := S _ _ hb
    have hq4 := S _ _ hq
    have pp := prs_app (pt.mono fun t xs h => S _ _ h) pa
    rw [← upTs_snoc, ← take_snoc es] at pp
    have lu := upTs_len f pl (i + 1)
    have lp := pp.1
    rw [List.length_append] at lp
    rw [← ets] at lu
    refine ⟨b, D, tv, acc, rfl, rfl, hb4, hacc, by omega, _, _, tv ++ acc, rfl, upd_same, ?_, ?_, ?_, ?_⟩
    · exact prs_upd pp (fun xs e => by rw [hb4] at e; cases e)
    · intro t ht
      rcases List.mem_append.mp ht with h | h
      · exact nt t h
      · exact (ne_of_none hq (fa t h)).symm
    · rw [upd_ne qb]
      exact hq4
    · exact fun c o e n => by
        rw [upd_ne (ne_of_none e nbH)]
        exact S _ _ (B' c o e n)
  · rintro σ H' ⟨v4, v5, tv, rfl, hb, pt, nt, hq, B'⟩
    rw [List.length_map, List.take_length, ← ets] at pt
    have SF : Same H (upd H' q (.dK (pl.map fun s => ((Sum.inr s : Key), V.ref (l s))))) := fun c o e => by
      by_cases z : c = q
      · rw [z] at e ⊢
        rw [N0.d] at e
        cases e
        exact upd_same
      · rw [upd_ne z]
        exact B' c o e z
    have hbF : (upd H' q (.dK (pl.map fun s => ((Sum.inr s : Key), V.ref (l s))))) b = some (.lst tv) := by
      rw [upd_ne qb.symm]
      exact hb
    have ptF : PrsAt (upd H' q (.dK (pl.map fun s => ((Sum.inr s : Key), V.ref (l s))))) tv ts := pt.mono fun t xs h => by
      rw [upd_ne (fun z => by rw [z, hq] at h; cases h)]
      exact h
    refine ⟨hq, _, rfl, x, dx, _, rfl, SF _ _ h1, rfl, x, pl, ts, rm, rfl, B.same SF, fun p7 tv7 n7 pt7 => ⟨_, rfl, .ref p7, .ref b, rfl, ?_, fun H9 S9 => k H9 ((SF.trans (new_same n7)).trans S9)⟩⟩
    have S7 := new_same (o := .lst tv7) n7
    exact sm_prs upd_same (S7 _ _ hbF) (pt7.mono fun t xs h => S7 _ _ h) (ptF.mono fun t xs h => S7 _ _ h) (by omega)
end
end E1

set_option Elab.async false
set_option linter.all false
set_option maxRecDepth 100000
set_option maxHeartbeats 8000000
/-! A board that is as a raw one says. -/
namespace E1
open PySem PySem.Spec PyProof.Rows L2 G0
abbrev N_isW : List Str := ["_law_board", "_law_raw"]
theorem sc_isW : FnScope N_isW ["_law_board", "_law_raw"] (defScope (topS 61)) := ⟨rfl, rfl, rfl, by decide +kernel, rfl, by decide +kernel, by decide +kernel⟩
def spIsW (C : Addr) : Sp := fun vs H Q _ => ∃ (x r : Addr) (N N' : Addr → Prop) (pl : List Str) (ts T : List Pr) (rm : List Str), vs = [.ref x, .ref r] ∧ BoardAt N C H x (sortS pl) T rm ∧ RawAt N' H r pl ts rm ∧ T = upTs (fun s => sortS (nb ts s)) (sortS pl) ∧
  pl.Nodup ∧ (∀ p ∈ ts, p.1 ∈ pl ∧ p.2 ∈ pl) ∧ pl.length ≤ 1000 ∧ T.length ≤ 1000 ∧ ts.length ≤ 500 ∧ rm.length ≤ 1000 ∧ ∀ H', Same H H' → Q (.bl true) H'
section
variable {P : Program} {w : World} {K : PySem.W.Frag} {mg : Str → Option Value} {base : Heap}
theorem bIsW (Z : LawD K mg) : Binds K (Z.d 61) ["_law_board", "_law_raw"] [] := (Z.F 61 (by decide)).binds fun _ _ _ _ _ _ us hl => match us, hl with | [_, _], _ => rfl
theorem ok_isW (Z : LawD K mg) : FnOk P w K mg base CX0 6 (Z.f 61) (Z.d 61) ["_law_board", "_law_raw"] (spIsW Z.B.C) := by
  have GIB : FnOk P w K mg base CX0 5 (Z.f 46) (Z.d 46) ["_law_board", "_law_near", "_law_rim"] (spIsB Z.B.C) := ok_isB Z
  have GNR : FnOk P w K mg base CX0 1 (Z.f 44) (Z.d 44) ["_law_raw"] spANear := ok_a_near Z
  refine Fun.ok (Z.F 61 (by decide)) sc_isW (fun vs H Q E h => ?_) (fun cdv A outer s H vs Q E hr h => ⟨_, pss_one (ps_ret (pe_call GIB (hr.mono (by decide)) (by rfl) (Z.g 46 (by decide)) (Z.F 46 (by decide)).kp (bIsB Z) .nil pass0 (pa_cons (pv 0) (pa_cons (pe_call GNR (hr.mono (by decide)) (by rfl) (Z.g 44 (by decide)) (Z.F 44 (by decide)).kp (bANear Z) .nil pass0 (pa_cons (pv 1) pa_nil)) (pa_cons (pe_ix ix_tup (pv 1) pe_int (fun _ _ => rfl)) pa_nil))))), ?_⟩)
  · obtain ⟨x, r, N, N', pl, ts, T, rm, rfl, _⟩ := h
    rfl
  obtain ⟨x, r, N, N', pl, ts, T, rm, rfl, B, R, eT, nd, hin, l1, l2, l3, l4, k⟩ := h
  obtain ⟨aP, aT, aR, tv, g1, g2, g3, g4, g5, _⟩ := id R
  refine ⟨_, rfl, _, rfl, r, pl, ts, rm, rfl, R.weak fun _ _ => trivial, nd, l1, by omega, hin, fun q l H1 N1 _ _ S1 => ?_⟩
  refine ⟨_, rfl, r, _, 2, _, rfl, rfl, SqT.of (S1 _ _ g1), rfl, x, q, aR, N, sortS pl, T, rm, _, l, rfl, B.same S1, N1, S1 _ _ g5, eT, by rw [sortS_len]; exact l1, l2, l4, fun s hs => ?_, fun H' S' => k H' (S1.trans S')⟩
  rw [sortS_len]
  have := nb_len ts s
  omega
end
end E1

set_option Elab.async false
set_option linter.all false
set_option maxRecDepth 100000
set_option maxHeartbeats 8000000
/-! Ties by their lower ends. -/
namespace E1
open PySem PySem.Spec PyProof.Rows L2 G0
theorem fm_perm {α β : Type} {f g : α → List β} : ∀ {l : List α}, (∀ a ∈ l, (f a).Perm (g a)) → (l.flatMap f).Perm (l.flatMap g)
  | [], _ => List.Perm.refl _
  | a :: l, h => by
    rw [List.flatMap_cons, List.flatMap_cons]
    exact (h a List.mem_cons_self).append (fm_perm fun b hb => h b (List.mem_cons_of_mem _ hb))
theorem nb_up {s : Str} : ∀ {ts : List Pr}, (∀ p ∈ ts, ltS p.1 p.2 = true) → (nb ts s).filter (fun o => ltS s o) = (ts.filter fun p => decide (p.1 = s)).map Prod.snd
  | [], _ => rfl
  | p :: ts, h => by
    have hp := h p List.mem_cons_self
    have ih := nb_up (s := s) (ts := ts) fun q hq => h q (List.mem_cons_of_mem _ hq)
    have e : nb (p :: ts) s = ((if p.1 = s then [p.2] else []) ++ (if p.2 = s then [p.1] else [])) ++ nb ts s := rfl
    rw [e, List.filter_append, ih, List.filter_append]
    have e2 : (if p.2 = s then [p.1] else ([] : List Str)).filter (fun o => ltS s o) = [] := by
      by_cases c : p.2 = s
      · rw [if_pos c, ← c]
        exact List.filter_cons_of_neg (p := fun o => ltS p.2 o) (l := []) (by rw [ltS_asym hp]; decide)
      · rw [if_neg c]
        rfl
    rw [e2, List.append_nil]
    by_cases c : p.1 = s
    · rw [if_pos c, List.filter_cons_of_pos (p := fun p : Pr => decide (p.1 = s)) (a := p) (decide_eq_true c), List.map_cons]
      rw [show List.filter (fun o => ltS s o) [p.2] = [p.2] from List.filter_cons_of_pos (p := fun o => ltS s o) (l := []) (by rw [← c]; exact hp)]
      rfl
    · rw [if_neg c, List.filter_cons_of_neg (p := fun p : Pr => decide (p.1 = s)) (a := p) (by rw [decide_eq_false c]; decide)]
      rfl
theorem key_map {s : Str} : ∀ {ts : List Pr}, ((ts.filter fun p => decide (p.1 = s)).map Prod.snd).map (fun o => ((s, o) : Pr)) = ts.filter fun p => decide (p.1 = s)
  | [] => rfl
  | p :: ts => by
    by_cases c : p.1 = s
    · rw [List.filter_cons_of_pos (p := fun p : Pr => decide (p.1 = s)) (a := p) (decide_eq_true c), List.map_cons, List.map_cons, key_map (ts := ts), ← c]
    · rw [List.filter_cons_of_neg (p := fun p : Pr => decide (p.1 = s)) (a := p) (by rw [decide_eq_false c]; decide), key_map (ts := ts)]
theorem upTs_sort {pl : List Str} {ts : List Pr} (nd : pl.Nodup) (tok : TsOk pl ts) : upTs (fun s => sortS (nb ts s)) (sortS pl) = sortPr ts := by
  have ndS : (sortS pl).Nodup := (sortS_perm pl).nodup_iff.mpr nd
  have pw := (sortS_pw pl).and ndS
  refine sortPr_uniq ?_ ?_
  · refine (fm_perm (g := fun s => ts.filter fun p => decide (p.1 = s)) fun s _ => ?_).trans ?_
    · have h := ((sortS_perm (nb ts s)).filter fun o => ltS s o).map fun o => ((s, o) : Pr)
      rw [nb_up fun p hp => (tok.ok p hp).2.2, key_map] at h
      exact h
    · refine (List.perm_ext_iff_of_nodup ?_ tok.nd).mpr fun p => ?_
      · refine List.pairwise_flatMap.mpr ⟨fun s _ => tok.nd.sublist List.filter_sublist, pw.imp ?_⟩
        rintro a b ⟨_, hne⟩ x hx y hy rfl
        exact hne ((of_decide_eq_true (List.mem_filter.mp hx).2).symm.trans (of_decide_eq_true (List.mem_filter.mp hy).2))
      · rw [List.mem_flatMap]
        constructor
        · rintro ⟨s, _, h⟩
          exact (List.mem_filter.mp h).1
        · intro h
          exact ⟨p.1, sortS_mem.mpr (tok.ok p h).1, List.mem_filter.mpr ⟨h, decide_eq_true rfl⟩⟩
  · refine List.pairwise_flatMap.mpr ⟨fun s _ => ?_, pw.imp ?_⟩
    · refine List.pairwise_map.mpr (((sortS_pw (nb ts s)).sublist List.filter_sublist).imp ?_)
      intro a b h
      unfold lePr ltPr
      rw [if_pos rfl]
      exact h
    · rintro a b ⟨h, hne⟩ x hx y hy
      obtain ⟨u, _, rfl⟩ := List.mem_map.mp hx
      obtain ⟨v, _, rfl⟩ := List.mem_map.mp hy
      unfold lePr ltPr
      rw [if_neg (fun z => hne z.symm)]
      exact h
end E1

set_option Elab.async false
set_option linter.all false
set_option maxRecDepth 100000
set_option maxHeartbeats 16000000
/-! Pairs of raw boards, otherwise than a pair beside one another. -/
namespace E1
open PySem PySem.Spec PyProof.Rows L2 G0
def Nn (p l b : Addr) : Addr → Prop := fun c => c ≠ p ∧ c ≠ l ∧ c ≠ b
def RawSome (N : Addr → Prop) (H : Hp) (a : Addr) : Prop := ∃ pl ts rm, RawAt N H a pl ts rm ∧ RawOk pl ts rm ∧ pl.length ≤ 21
def Ent (N : Addr → Prop) (H : Hp) (v : V) : Prop := ∃ t a b, v = .ref t ∧ H t = some (.tup [.ref a, .ref b]) ∧ N t ∧ RawSome N H a ∧ RawSome N H b
theorem RawSome.frame {N : Addr → Prop} {H H' : Hp} {a : Addr} (h : RawSome N H a) (S : ∀ c o, N c → H c = some o → H' c = some o) : RawSome N H' a :=
  let ⟨pl, ts, rm, r, ok⟩ := h; ⟨pl, ts, rm, r.frame S, ok⟩
theorem RawSome.weak {N N' : Addr → Prop} {H : Hp} {a : Addr} (h : RawSome N H a) (k : ∀ c, N c → N' c) : RawSome N' H a :=
  let ⟨pl, ts, rm, r, ok⟩ := h; ⟨pl, ts, rm, RawAt.weak r k, ok⟩
theorem Ent.frame {N : Addr → Prop} {H H' : Hp} {v : V} (h : Ent N H v) (S : ∀ c o, N c → H c = some o → H' c = some o) : Ent N H' v :=
  let ⟨t, a, b, e, ht, nt, ra, rb⟩ := h; ⟨t, a, b, e, S _ _ nt ht, nt, ra.frame S, rb.frame S⟩
theorem Ent.weak {N N' : Addr → Prop} {H : Hp} {v : V} (h : Ent N H v) (k : ∀ c, N c → N' c) : Ent N' H v :=
  let ⟨t, a, b, e, ht, nt, ra, rb⟩ := h; ⟨t, a, b, e, ht, k _ nt, ra.weak k, rb.weak k⟩
theorem RawAt.there {N : Addr → Prop} {H : Hp} {r : Addr} {pl : List Str} {ts : List Pr} {rm : List Str} (b : RawAt N H r pl ts rm) : RawAt (fun c => N c ∧ H c ≠ none) H r pl ts rm := by
  obtain ⟨aP, aT, aR, tv, h1, h2, h3, h4, h5, n1, n2, n3, n4, n5⟩ := b
  have so : ∀ {c : Addr} {o : HO}, H c = some o → H c ≠ none := fun h z => by rw [h] at z; cases z
  refine ⟨aP, aT, aR, tv, h1, h2, h3, h4, h5, ⟨n1, so h1⟩, ⟨n2, so h2⟩, ⟨n3, so h3⟩, ⟨n4, so h5⟩, fun t ht => ⟨n5 t ht, ?_⟩⟩
  obtain ⟨i, hi⟩ := List.getElem?_of_mem ht
  have il : i < ts.length := by
    rw [← h4.1]
    exact (List.getElem?_eq_some_iff.mp hi).1
  obtain ⟨u, e, hu⟩ := h4.2 i _ _ hi (List.getElem?_eq_getElem il)
  cases e
  exact so hu
/-- the parts of a raw board -/
structure RawP (N : Addr → Prop) (H : Hp) (aP aT aR : Addr) (tv : List V) (pl : List Str) (ts : List Pr) (rm : List Str) : Prop where
  hP : H aP = some (.lst (pl.map V.str))
  hT : H aT = some (.lst tv)
  pt : PrsAt H tv ts
  hR : H aR = some (.lst (rm.map V.str))
  nP : N aP
  nT : N aT
  nR : N aR
  nt : ∀ t, V.ref t ∈ tv → N t
theorem RawP.frame {N : Addr → Prop} {H H' : Hp} {aP aT aR : Addr} {tv : List V} {pl : List Str} {ts : List Pr} {rm : List Str} (r : RawP N H aP aT aR tv pl ts rm) (S : ∀ c o, N c → H c = some o → H' c = some o) : RawP N H' aP aT aR tv pl ts rm :=
  ⟨S _ _ r.nP r.hP, S _ _ r.nT r.hT, prs_frame r.pt r.nt S, S _ _ r.nR r.hR, r.nP, r.nT, r.nR, r.nt⟩
theorem RawP.at_ {N : Addr → Prop} {H : Hp} {r aP aT aR : Addr} {tv : List V} {pl : List Str} {ts : List Pr} {rm : List Str} (q : RawP N H aP aT aR tv pl ts rm) (h : H r = some (.tup [.ref aP, .ref aT, .ref aR])) (n : N r) : RawAt N H r pl ts rm :=
  ⟨aP, aT, aR, tv, h, q.hP, q.hT, q.pt, q.hR, n, q.nP, q.nT, q.nR, q.nt⟩
structure OI (H0 : Hp) (p l b r1 r2 x y z aP aT aR bP bT bR : Addr) (tv uv : List V) (pl1 : List Str) (ts1 : List Pr) (rm1 pl2 : List Str) (ts2 : List Pr) (rm2 row mine theirs : List Str) (n : Nat) (xs : List V) (H : Hp) : Prop where
  F : Fr H0 p l n H
  hb : H b = some (.lst xs)
  nb : H0 b = none
  ents : ∀ v ∈ xs, Ent (Nn p l b) H v
  h1 : H r1 = some (.tup [.ref aP, .ref aT, .ref aR])
  n1 : Nn p l b r1
  R1 : RawP (Nn p l b) H aP aT aR tv pl1 ts1 rm1
  h2 : H r2 = some (.tup [.ref bP, .ref bT, .ref bR])
  n2 : Nn p l b r2
  R2 : RawP (Nn p l b) H bP bT bR uv pl2 ts2 rm2
  hx : H x = some (.lst (row.map V.str))
  nx : Nn p l b x
  hy : H y = some (.lst (mine.map V.str))
  ny : Nn p l b y
  hz : H z = some (.lst (theirs.map V.str))
  nz : Nn p l b z
section
variable {H0 H H' : Hp} {p l b r1 r2 x y z c t e a1 a2 a3 aP aT aR bP bT bR : Addr} {tv uv wv : List V} {pl1 pl : List Str} {ts1 ts : List Pr} {rm1 pl2 rm : List Str} {ts2 : List Pr} {rm2 row mine theirs : List Str} {n m : Nat} {xs : List V} {o : HO} {v : V}
theorem OI.mv (I : OI H0 p l b r1 r2 x y z aP aT aR bP bT bR tv uv pl1 ts1 rm1 pl2 ts2 rm2 row mine theirs n xs H) (F : Fr H0 p l m H') (hb : H' b = some (.lst xs)) (S : ∀ c o, Nn p l b c → H c = some o → H' c = some o) : OI H0 p l b r1 r2 x y z aP aT aR bP bT bR tv uv pl1 ts1 rm1 pl2 ts2 rm2 row mine theirs m xs H' :=
  ⟨F, hb, I.nb, fun v hv => (I.ents v hv).frame S, S _ _ I.n1 I.h1, I.n1, I.R1.frame S, S _ _ I.n2 I.h2, I.n2, I.R2.frame S, S _ _ I.nx I.hx, I.nx, S _ _ I.ny I.hy, I.ny, S _ _ I.nz I.hz, I.nz⟩
theorem OI.put (I : OI H0 p l b r1 r2 x y z aP aT aR bP bT bR tv uv pl1 ts1 rm1 pl2 ts2 rm2 row mine theirs n xs H) (h : H c = none) : OI H0 p l b r1 r2 x y z aP aT aR bP bT bR tv uv pl1 ts1 rm1 pl2 ts2 rm2 row mine theirs n xs (upd H c o) :=
  I.mv (I.F.put (I.F.free h)) (new_same h _ _ I.hb) fun d u _ e => new_same h _ _ e
theorem OI.fr (I : OI H0 p l b r1 r2 x y z aP aT aR bP bT bR tv uv pl1 ts1 rm1 pl2 ts2 rm2 row mine theirs n xs H) (G : Fr H p l m H') : OI H0 p l b r1 r2 x y z aP aT aR bP bT bR tv uv pl1 ts1 rm1 pl2 ts2 rm2 row mine theirs m xs H' :=
  I.mv (I.F.trans G) (I.F.keep G I.nb I.hb) fun d u nd e => G.but d u e nd.1 nd.2.1
theorem OI.nn (I : OI H0 p l b r1 r2 x y z aP aT aR bP bT bR tv uv pl1 ts1 rm1 pl2 ts2 rm2 row mine theirs n xs H) (h : H c = none) : Nn p l b c := ⟨(I.F.ne (I.F.free h)).1, (I.F.ne (I.F.free h)).2, (ne_of_none I.hb h).symm⟩
theorem OI.app (I : OI H0 p l b r1 r2 x y z aP aT aR bP bT bR tv uv pl1 ts1 rm1 pl2 ts2 rm2 row mine theirs n xs H) (h : Ent (Nn p l b) H v) : OI H0 p l b r1 r2 x y z aP aT aR bP bT bR tv uv pl1 ts1 rm1 pl2 ts2 rm2 row mine theirs n (xs ++ [v]) (upd H b (.lst (xs ++ [v]))) := by
  have S : ∀ c o, Nn p l b c → H c = some o → (upd H b (.lst (xs ++ [v]))) c = some o := fun c o nc e => by
    rw [upd_ne nc.2.2]
    exact e
  refine ⟨I.F.put I.nb, upd_same, I.nb, fun w hw => ?_, S _ _ I.n1 I.h1, I.n1, I.R1.frame S, S _ _ I.n2 I.h2, I.n2, I.R2.frame S, S _ _ I.nx I.hx, I.nx, S _ _ I.ny I.hy, I.ny, S _ _ I.nz I.hz, I.nz⟩
  rcases List.mem_append.mp hw with h' | h'
  · exact (I.ents w h').frame S
  · cases List.mem_singleton.mp h'
    exact h.frame S
/-- one entry more: the other one otherwise -/
theorem OI.add2 (I : OI H0 p l b r1 r2 x y z aP aT aR bP bT bR tv uv pl1 ts1 rm1 pl2 ts2 rm2 row mine theirs n xs H) (k1 : RawOk pl1 ts1 rm1 ∧ pl1.length ≤ 21) (R : RawP (Nn p l b) H a1 a2 a3 wv pl ts rm) (ok : RawOk pl ts rm ∧ pl.length ≤ 21) (nt : H t = none) (ne : (upd H t (.tup [.ref a1, .ref a2, .ref a3])) e = none) :
    OI H0 p l b r1 r2 x y z aP aT aR bP bT bR tv uv pl1 ts1 rm1 pl2 ts2 rm2 row mine theirs n (xs ++ [.ref e]) (upd (upd (upd H t (.tup [.ref a1, .ref a2, .ref a3])) e (.tup [.ref r1, .ref t])) b (.lst (xs ++ [.ref e]))) := by
  have I1 := I.put (o := .tup [.ref a1, .ref a2, .ref a3]) nt
  have I2 := I1.put (o := .tup [.ref r1, .ref t]) ne
  have S := (new_same (o := .tup [.ref a1, .ref a2, .ref a3]) nt).trans (new_same (o := .tup [.ref r1, .ref t]) ne)
  exact I2.app ⟨e, r1, t, rfl, upd_same, I1.nn ne, ⟨_, _, _, I2.R1.at_ I2.h1 I2.n1, k1⟩, ⟨_, _, _, (R.frame fun c o _ h => S _ _ h).at_ (new_same ne _ _ upd_same) (I.nn nt), ok⟩⟩
/-- the one otherwise -/
theorem OI.add1 (I : OI H0 p l b r1 r2 x y z aP aT aR bP bT bR tv uv pl1 ts1 rm1 pl2 ts2 rm2 row mine theirs n xs H) (k2 : RawOk pl2 ts2 rm2 ∧ pl2.length ≤ 21) (R : RawP (Nn p l b) H a1 a2 a3 wv pl ts rm) (ok : RawOk pl ts rm ∧ pl.length ≤ 21) (nt : H t = none) (ne : (upd H t (.tup [.ref a1, .ref a2, .ref a3])) e = none) :
    OI H0 p l b r1 r2 x y z aP aT aR bP bT bR tv uv pl1 ts1 rm1 pl2 ts2 rm2 row mine theirs n (xs ++ [.ref e]) (upd (upd (upd H t (.tup [.ref a1, .ref a2, .ref a3])) e (.tup [.ref t, .ref r2])) b (.lst (xs ++ [.ref e]))) := by
  have I1 := I.put (o := .tup [.ref a1, .ref a2, .ref a3]) nt
  have I2 := I1.put (o := .tup [.ref t, .ref r2]) ne
  have S := (new_same (o := .tup [.ref a1, .ref a2, .ref a3]) nt).trans (new_same (o := .tup [.ref t, .ref r2]) ne)
  exact I2.app ⟨e, t, r2, rfl, upd_same, I1.nn ne, ⟨_, _, _, (R.frame fun c o _ h => S _ _ h).at_ (new_same ne _ _ upd_same) (I.nn nt), ok⟩, ⟨_, _, _, I2.R2.at_ I2.h2 I2.n2, k2⟩⟩
end
theorem okFar : RawOk ["far0", "far1"] [("far0", "far1")] ["far1"] := by
  refine ⟨by decide +kernel, fun z hz => List.mem_append_right _ hz, by decide, ⟨by decide +kernel, fun p hp => ?_⟩, by decide +kernel, fun z hz => ?_, by decide⟩
  · cases List.mem_singleton.mp hp
    exact ⟨List.mem_cons_self, List.mem_cons_of_mem _ List.mem_cons_self, by decide +kernel⟩
  · cases List.mem_singleton.mp hz
    exact List.mem_cons_of_mem _ List.mem_cons_self
theorem okNone : RawOk [] [] [] := ⟨List.nodup_nil, (by simp), by decide, TsOk.nil, List.nodup_nil, by simp, by decide⟩
abbrev N_oth : List Str := ["_law_stream", "_law_one", "_law_other", "_law_row", "_law_mine", "_law_theirs", "_law_found"]
theorem sc_oth : FnScope N_oth ["_law_stream", "_law_one", "_law_other"] (defScope (topS 60)) := ⟨rfl, rfl, rfl, by decide +kernel, rfl, by decide +kernel, by decide +kernel⟩
def spOth : Sp := fun vs H Q _ => ∃ (p l r1 r2 : Addr) (n : Nat) (N : Addr → Prop) (pl1 : List Str) (ts1 : List Pr) (rm1 pl2 : List Str) (ts2 : List Pr) (rm2 row mine theirs : List Str), vs = [.ref p, .ref r1, .ref r2] ∧ Stm H p l n ∧ n < 60000000 ∧ (∀ c, N c → c ≠ p ∧ c ≠ l) ∧ RawAt N H r1 pl1 ts1 rm1 ∧ RawAt N H r2 pl2 ts2 rm2 ∧
  RawOk pl1 ts1 rm1 ∧ RawOk pl2 ts2 rm2 ∧ pl1.length ≤ 20 ∧ pl2.length ≤ 20 ∧ stretch pl1 rm1 pl2 rm2 = some (row, mine, theirs) ∧
  ∀ b xs H', Fr H p l (n + 300) H' → H b = none → H' b = some (.lst xs) → (∀ v ∈ xs, Ent (Nn p l b) H' v) → xs.length ≤ 20 → Q (.ref b) H'
section
variable {P : Program} {w : World} {K : PySem.W.Frag} {mg : Str → Option Value} {base : Heap}
theorem bOth (Z : LawD K mg) : Binds K (Z.d 60) ["_law_stream", "_law_one", "_law_other"] [] := (Z.F 60 (by decide)).binds fun _ _ _ _ _ _ us hl => match us, hl with | [_, _, _], _ => rfl
theorem ok_oth (Z : LawD K mg) : FnOk P w K mg base CX0 3 (Z.f 60) (Z.d 60) ["_law_stream", "_law_one", "_law_other"] spOth := by
  have GST : FnOk P w K mg base CX0 2 (Z.f 48) (Z.d 48) ["_law_one", "_law_other"] spStr := ok_str Z
  have GM : FnOk P w K mg base CX0 2 Z.s.fM Z.s.dM ["_law_stream", "_law_some"] (spMx K) := ok_mx Z.s
  have GTU : FnOk P w K mg base CX0 2 (Z.f 50) (Z.d 50) ["_law_stream", "_law_rim"] spTurn := ok_turn Z
  refine Fun.ok (Z.F 60 (by decide)) sc_oth (fun vs H Q E h => ?_) (fun cdv A outer s H vs Q E hr h => ⟨_, pss_cons (ps_asg (pe_call GST (hr.mono (by decide)) (by rfl) (Z.g 48 (by decide)) (Z.F 48 (by decide)).kp (bStr Z) .nil pass0 (pa_cons (pv 1) (pa_cons (pv 2) pa_nil))) (pg_tup rfl (pgs_cons (pg_name (i := 3) sc_oth.nd rfl (Or.inl rfl)) (pgs_cons (pg_name (i := 4) sc_oth.nd rfl (Or.inl rfl)) (pgs_cons (pg_name (i := 5) sc_oth.nd rfl (Or.inl rfl)) pgs_nil)))))
  (pss_cons (ps_set (i := 6) sc_oth.nd rfl (Or.inl rfl) (pe_lst (pa_cons (pe_tup (pa_cons (pv 1) (pa_cons (pv 2) pa_nil))) (pa_cons (pe_tup (pa_cons (pv 2) (pa_cons (pv 1) pa_nil))) (pa_cons (pe_tup (pa_cons (pv 1) (pa_cons (pv 1) pa_nil))) pa_nil)))))
  (pss_cons (ps_expr (pe_bm PySem.F.plainAttrs_list PySem.F.slot_list_append PySem.F.type_list_append mt_append (pv 6) (pa_cons (pe_tup (pa_cons (pv 1) (pa_cons (pe_tup (pa_cons (pe_ix ix_tup (pv 2) pe_int (fun _ _ => rfl)) (pa_cons (pe_ix ix_tup (pv 2) pe_int (fun _ _ => rfl)) (pa_cons (pe_call GTU (hr.mono (by decide)) (by rfl) (Z.g 50 (by decide)) (Z.F 50 (by decide)).kp (bTurn Z) .nil pass0 (pa_cons (pv 0) (pa_cons (pe_op op_cat (pv 3) (pv 5)) pa_nil))) pa_nil)))) pa_nil))) pa_nil)))
  (pss_cons (ps_expr (pe_bm PySem.F.plainAttrs_list PySem.F.slot_list_append PySem.F.type_list_append mt_append (pv 6) (pa_cons (pe_tup (pa_cons (pv 1) (pa_cons (pe_tup (pa_cons (pe_ix ix_tup (pv 2) pe_int (fun _ _ => rfl)) (pa_cons (pe_ix ix_tup (pv 2) pe_int (fun _ _ => rfl)) (pa_cons (pe_call GM (hr.mono (by decide)) (by rfl) Z.s.gM Z.s.FM.kp (bMx Z.s) .nil pass0 (pa_cons (pv 0) (pa_cons (pe_callTy call_list_of (by rfl) Z.t.list PyProof.Rows.boot_list (pa_cons (pe_ix ix_tup (pv 2) pe_int (fun _ _ => rfl)) pa_nil)) pa_nil))) pa_nil)))) pa_nil))) pa_nil)))
  (pss_cons (ps_expr (pe_bm PySem.F.plainAttrs_list PySem.F.slot_list_append PySem.F.type_list_append mt_append (pv 6) (pa_cons (pe_tup (pa_cons (pe_tup (pa_cons (pe_ix ix_tup (pv 1) pe_int (fun _ _ => rfl)) (pa_cons (pe_ix ix_tup (pv 1) pe_int (fun _ _ => rfl)) (pa_cons (pe_call GM (hr.mono (by decide)) (by rfl) Z.s.gM Z.s.FM.kp (bMx Z.s) .nil pass0 (pa_cons (pv 0) (pa_cons (pe_callTy call_list_of (by rfl) Z.t.list PyProof.Rows.boot_list (pa_cons (pe_ix ix_tup (pv 1) pe_int (fun _ _ => rfl)) pa_nil)) pa_nil))) pa_nil)))) (pa_cons (pv 2) pa_nil))) pa_nil)))
  (pss_cons (ps_expr (pe_bm PySem.F.plainAttrs_list PySem.F.slot_list_append PySem.F.type_list_append mt_append (pv 6) (pa_cons (pe_tup (pa_cons (pv 1) (pa_cons (pe_tup (pa_cons (pe_ix ix_tup (pv 2) pe_int (fun _ _ => rfl)) (pa_cons (pe_ix ix_tup (pv 2) pe_int (fun _ _ => rfl)) (pa_cons (pe_revL (pv 3)) pa_nil)))) pa_nil))) pa_nil)))
  (pss_cons (ps_expr (pe_bm PySem.F.plainAttrs_list PySem.F.slot_list_append PySem.F.type_list_append mt_append (pv 6) (pa_cons (pe_tup (pa_cons (pe_tup (pa_cons (pe_ix ix_tup (pv 1) pe_int (fun _ _ => rfl)) (pa_cons (pe_ix ix_tup (pv 1) pe_int (fun _ _ => rfl)) (pa_cons (pe_call GTU (hr.mono (by decide)) (by rfl) (Z.g 50 (by decide)) (Z.F 50 (by decide)).kp (bTurn Z) .nil pass0 (pa_cons (pv 0) (pa_cons (pv 3) pa_nil))) pa_nil)))) (pa_cons (pv 2) pa_nil))) pa_nil)))
  (pss_cons (ps_expr (pe_bm PySem.F.plainAttrs_list PySem.F.slot_list_append PySem.F.type_list_append mt_append (pv 6) (pa_cons (pe_tup (pa_cons (pv 1) (pa_cons (pe_tup (pa_cons (pe_ix ix_tup (pv 2) pe_int (fun _ _ => rfl)) (pa_cons (pe_ix ix_tup (pv 2) pe_int (fun _ _ => rfl)) (pa_cons (pe_op op_cat (pe_slice sl_list (pv 3) (po_some pe_int) po_none) (pv 5)) pa_nil)))) pa_nil))) pa_nil)))
  (pss_cons (ps_expr (pe_bm PySem.F.plainAttrs_list PySem.F.slot_list_append PySem.F.type_list_append mt_append (pv 6) (pa_cons (pe_tup (pa_cons (pv 1) (pa_cons (pe_tup (pa_cons (pe_op op_cat (pe_ix ix_tup (pv 2) pe_int (fun _ _ => rfl)) (pe_slice sl_list (pv 4) po_none (po_some pe_int))) (pa_cons (pe_ix ix_tup (pv 2) pe_int (fun _ _ => rfl)) (pa_cons (pe_ix ix_tup (pv 2) pe_int (fun _ _ => rfl)) pa_nil)))) pa_nil))) pa_nil)))
  (pss_cons (ps_expr (pe_bm PySem.F.plainAttrs_list PySem.F.slot_list_append PySem.F.type_list_append mt_append (pv 6) (pa_cons (pe_tup (pa_cons (pv 1) (pa_cons (pe_tup (pa_cons (pe_op op_cat (pe_ix ix_tup (pv 2) pe_int (fun _ _ => rfl)) (pe_slice sl_list (pv 4) po_none (po_some pe_int))) (pa_cons (pe_ix ix_tup (pv 2) pe_int (fun _ _ => rfl)) (pa_cons (pe_op op_cat (pe_callTy call_list_of (by rfl) Z.t.list PyProof.Rows.boot_list (pa_cons (pe_ix ix_tup (pv 2) pe_int (fun _ _ => rfl)) pa_nil)) (pe_slice sl_list (pv 4) po_none (po_some pe_int))) pa_nil)))) pa_nil))) pa_nil)))
  (pss_cons (ps_expr (pe_bm PySem.F.plainAttrs_list PySem.F.slot_list_append PySem.F.type_list_append mt_append (pv 6) (pa_cons (pe_tup (pa_cons (pv 1) (pa_cons (pe_tup (pa_cons (pe_lst (pa_cons pe_str (pa_cons pe_str pa_nil))) (pa_cons (pe_lst (pa_cons (pe_tup (pa_cons pe_str (pa_cons pe_str pa_nil))) pa_nil)) (pa_cons (pe_lst (pa_cons pe_str pa_nil)) pa_nil)))) pa_nil))) pa_nil)))
  (pss_cons (ps_expr (pe_bm PySem.F.plainAttrs_list PySem.F.slot_list_append PySem.F.type_list_append mt_append (pv 6) (pa_cons (pe_tup (pa_cons (pv 1) (pa_cons (pe_tup (pa_cons (pe_lst pa_nil) (pa_cons (pe_lst pa_nil) (pa_cons (pe_lst pa_nil) pa_nil)))) pa_nil))) pa_nil)))
  (pss_one (ps_ret (pv 6)))))))))))))), ?_⟩)
  · obtain ⟨p, l, r1, r2, n, N, pl1, ts1, rm1, pl2, ts2, rm2, row, mine, theirs, rfl, _⟩ := h
    rfl
  obtain ⟨p, l, r1, r2, n, N, pl1, ts1, rm1, pl2, ts2, rm2, row, mine, theirs, rfl, S, hn, hN, A1, A2, k1, k2, q1, q2, est, k⟩ := h
  have sz : 5000 < sizeLine := by decide
  have n3 := k1.rlen
  have n4 := k2.rlen
  have two : 2 ≤ sizeLine := by decide
  have three : 3 ≤ sizeLine := by decide
  refine ⟨_, rfl, _, rfl, r1, r2, pl1, ts1, rm1, pl2, ts2, rm2, rfl, A1.weak fun _ _ => trivial, A2.weak fun _ _ => trivial, by omega, by omega, by omega, by omega, k1.strP, k1.strR, k2.strR, fun v H1 ans S1 => ?_⟩
  rw [est] at ans
  obtain ⟨t, rfl, x, y, z, ht, hx, hy, hz, nt, nx, ny, nz, _, _, _⟩ := ans
  refine ⟨t, _, rfl, SqT.of ht, rfl, _, _, rfl, _, _, rfl, _, _, rfl, rfl, ?_⟩
  refine ⟨_, rfl, _, rfl, two, fun t1 o1 => ?_⟩
  have T1 := new_same (o := .tup [.ref r1, .ref r2]) o1
  refine ⟨_, rfl, _, rfl, two, fun t2 o2 => ?_⟩
  have T2 := T1.trans (new_same (o := .tup [.ref r2, .ref r1]) o2)
  refine ⟨_, rfl, _, rfl, two, fun t3 o3 => ?_⟩
  have T3 := T2.trans (new_same (o := .tup [.ref r1, .ref r1]) o3)
  refine ⟨three, fun b nb => ?_⟩
  have T4 := T3.trans (new_same (o := .lst [.ref t1, .ref t2, .ref t3]) nb)
  have b4 := upd_same (H := upd (upd (upd H1 t1 (.tup [.ref r1, .ref r2])) t2 (.tup [.ref r2, .ref r1])) t3 (.tup [.ref r1, .ref r1])) (a := b) (o := .lst [.ref t1, .ref t2, .ref t3])
  have f1 := new_same nb (o := .lst [.ref t1, .ref t2, .ref t3]) _ _ (new_same o3 (o := .tup [.ref r1, .ref r1]) _ _ (new_same o2 (o := .tup [.ref r2, .ref r1]) _ _ (upd_same (H := H1) (a := t1) (o := .tup [.ref r1, .ref r2]))))
  have f2 := new_same nb (o := .lst [.ref t1, .ref t2, .ref t3]) _ _ (new_same o3 (o := .tup [.ref r1, .ref r1]) _ _ (upd_same (H := upd H1 t1 (.tup [.ref r1, .ref r2])) (a := t2) (o := .tup [.ref r2, .ref r1])))
  have f3 := new_same nb (o := .lst [.ref t1, .ref t2, .ref t3]) _ _ (upd_same (H := upd (upd H1 t1 (.tup [.ref r1, .ref r2])) t2 (.tup [.ref r2, .ref r1])) (a := t3) (o := .tup [.ref r1, .ref r1]))
  have bH3 := nb
  have nb1 : H1 b = none := T3.free nb
  have nbH : H b = none := S1.free nb1
  have t1b : t1 ≠ b := ne_of_none (new_same o3 (o := .tup [.ref r1, .ref r1]) _ _ (new_same o2 (o := .tup [.ref r2, .ref r1]) _ _ (upd_same (H := H1) (a := t1) (o := .tup [.ref r1, .ref r2])))) nb
  have t2b : t2 ≠ b := ne_of_none (new_same o3 (o := .tup [.ref r1, .ref r1]) _ _ (upd_same (H := upd H1 t1 (.tup [.ref r1, .ref r2])) (a := t2) (o := .tup [.ref r2, .ref r1]))) nb
  have t3b : t3 ≠ b := ne_of_none (upd_same (H := upd (upd H1 t1 (.tup [.ref r1, .ref r2])) t2 (.tup [.ref r2, .ref r1])) (a := t3) (o := .tup [.ref r1, .ref r1])) nb
  have t1H := S1.free o1
  have t2H := S1.free (T1.free o2)
  have t3H := S1.free (T2.free o3)
  generalize upd (upd (upd (upd H1 t1 (.tup [.ref r1, .ref r2])) t2 (.tup [.ref r2, .ref r1])) t3 (.tup [.ref r1, .ref r1])) b (.lst [.ref t1, .ref t2, .ref t3]) = H4 at T4 b4 f1 f2 f3 ⊢
  have U4 := S1.trans T4
  have F4 : Fr H p l n H4 := S.fr.same U4
  have old : ∀ c, (N c ∧ H c ≠ none) → Nn p l b c := fun c hc => ⟨(hN c hc.1).1, (hN c hc.1).2, fun z => hc.2 (z ▸ nbH)⟩
  have R1 : RawAt (Nn p l b) H4 r1 pl1 ts1 rm1 := (A1.there.weak old).frame fun c o _ e => U4 _ _ e
  have R2 : RawAt (Nn p l b) H4 r2 pl2 ts2 rm2 := (A2.there.weak old).frame fun c o _ e => U4 _ _ e
  obtain ⟨aP, aT, aR, tv, g1, g2, g3, g4, g5, m1, m2, m3, m4, m5⟩ := id R1
  obtain ⟨bP, bT, bR, uv, v1, v2, v3, v4, v5, w1, w2, w3, w4, w5⟩ := id R2
  have new : ∀ {c : Addr}, H c = none → c ≠ b → Nn p l b c := fun h h' => ⟨(F4.ne h).1, (F4.ne h).2, h'⟩
  have I0 : OI H p l b r1 r2 x y z aP aT aR bP bT bR tv uv pl1 ts1 rm1 pl2 ts2 rm2 row mine theirs n [.ref t1, .ref t2, .ref t3] H4 := by
    refine ⟨F4, b4, nbH, fun v hv => ?_, g1, m1, ⟨g2, g3, g4, g5, m2, m3, m4, m5⟩, v1, w1, ⟨v2, v3, v4, v5, w2, w3, w4, w5⟩, T4 _ _ hx, new nx (ne_of_none hx nb1), T4 _ _ hy, new ny (ne_of_none hy nb1), T4 _ _ hz, new nz (ne_of_none hz nb1)⟩
    have s1 : RawSome (Nn p l b) H4 r1 := ⟨_, _, _, R1, k1, by omega⟩
    have s2 : RawSome (Nn p l b) H4 r2 := ⟨_, _, _, R2, k2, by omega⟩
    simp only [List.mem_cons, List.not_mem_nil, or_false] at hv
    rcases hv with rfl | rfl | rfl
    · exact ⟨t1, r1, r2, rfl, f1, new t1H t1b, s1, s2⟩
    · exact ⟨t2, r2, r1, rfl, f2, new t2H t2b, s2, s1⟩
    · exact ⟨t3, r1, r1, rfl, f3, new t3H t3b, s1, s1⟩
  clear f1 f2 f3 b4 T4 U4 F4 R1 R2 T1 T2 T3 t1b t2b t3b g1 g2 g3 g4 g5 v1 v2 v3 v4 v5
  obtain ⟨i1, j1, er1, er2, pc, cne⟩ := stretch_some est
  have lrt := congrArg List.length er2
  rw [rot_len, List.length_append, List.length_reverse] at lrt
  have lrm := congrArg List.length er1
  rw [rot_len, List.length_append] at lrm
  have pr2 : (row ++ theirs).Perm rm2 := ((List.reverse_perm row).symm.append_right theirs).trans (by rw [← er2]; exact rot_perm rm2 j1)
  have pr1 : (row ++ mine).Perm rm1 := by rw [← er1]; exact rot_perm rm1 i1
  have okr2 : ∀ {rm : List Str}, rm.Nodup → (∀ z ∈ rm, z ∈ rm2) → RawOk pl2 ts2 rm := fun nd h => ⟨k2.nd, k2.nm, k2.len, k2.ts, nd, fun z hz => k2.rin z (h z hz), k2.few⟩
  have okr1 : ∀ {rm : List Str}, rm.Nodup → (∀ z ∈ rm, z ∈ rm1) → RawOk pl1 ts1 rm := fun nd h => ⟨k1.nd, k1.nm, k1.len, k1.ts, nd, fun z hz => k1.rin z (h z hz), k1.few⟩
  obtain ⟨xs0, hxs0⟩ : ∃ q, q = [V.ref t1, V.ref t2, V.ref t3] := ⟨_, rfl⟩
  rw [← hxs0] at I0
  have lx0 : xs0.length = 3 := by rw [hxs0]; rfl
  clear hxs0
  refine ⟨_, rfl, .inl ⟨rfl, _, SqL.of I0.hb⟩, _, rfl, _, rfl, r2, _, 0, _, rfl, rfl, SqT.of I0.h2, rfl, _, rfl, r2, _, 1, _, rfl, rfl, SqT.of I0.h2, rfl, _, rfl, _, rfl, _, rfl, x, z, _, _, rfl, rfl, I0.hx, I0.hz, by rw [List.length_map, List.length_map]; omega, fun u nu => ?_⟩
  rw [← List.map_append]
  have J1 := I0.put (o := .lst ((row ++ theirs).map V.str)) nu
  refine ⟨p, l, u, _, row ++ theirs, rfl, J1.F.st, by omega, upd_same, (I0.nn nu).1, (I0.nn nu).2.1, by rw [List.length_append]; omega, fun w i H5 F5 nw hw => ⟨three, fun t nt => ⟨two, fun e ne => ?_⟩⟩⟩
  have J2 := J1.fr F5
  have nd4 : (rot (row ++ theirs) i).Nodup := ((rot_perm _ i).trans pr2).nodup_iff.mpr k2.rnd
  have I1 := J2.add2 ⟨k1, by omega⟩ ⟨J2.R2.hP, J2.R2.hT, J2.R2.pt, hw, J2.R2.nP, J2.R2.nT, ⟨(J1.F.ne (J1.F.free nw)).1, (J1.F.ne (J1.F.free nw)).2, (ne_of_none J1.hb nw).symm⟩, J2.R2.nt⟩ ⟨(okr2 nd4 fun z hz => ((rot_perm _ i).trans pr2).mem_iff.mp hz), by first | omega | (rw [List.length_append]; omega) | decide⟩ nt ne
  refine ⟨b, _, _, rfl, rfl, (J2.put nt |>.put ne).hb, by rw [lx0]; show 3 < sizeLine; omega, ?_⟩
  obtain ⟨xs1, hxs1⟩ : ∃ q, q = xs0 ++ [V.ref e] := ⟨_, rfl⟩
  rw [← hxs1] at I1 ⊢
  have lx1 : xs1.length = 4 := by rw [hxs1, List.length_append, lx0]; rfl
  generalize upd (upd (upd H5 t (.tup [.ref bP, .ref bT, .ref w])) e (.tup [.ref r1, .ref t])) b (.lst xs1) = G1 at I1 ⊢
  clear nt ne hxs1
  refine ⟨_, rfl, .inl ⟨rfl, _, SqL.of I1.hb⟩, _, rfl, _, rfl, r2, _, 0, _, rfl, rfl, SqT.of I1.h2, rfl, _, rfl, r2, _, 1, _, rfl, rfl, SqT.of I1.h2, rfl, _, rfl, _, rfl, r2, _, 2, _, rfl, rfl, SqT.of I1.h2, rfl, bR, _, rfl, .inl (SqL.of I1.R2.hR), fun u nu => ?_⟩
  have J3 := I1.put (o := .lst (rm2.map V.str)) nu
  refine ⟨p, l, u, _, rm2.map V.str, rfl, J3.F.st, by omega, SqL.of upd_same, by rw [List.length_map]; omega, fun w ys H6 perm F6 nw hw => ⟨three, fun t nt => ⟨two, fun e ne => ?_⟩⟩⟩
  rw [List.length_map] at F6
  obtain ⟨rs, rfl, rperm⟩ := strs_perm perm
  have J4 := J3.fr F6
  have I2 := J4.add2 ⟨k1, by omega⟩ ⟨J4.R2.hP, J4.R2.hT, J4.R2.pt, hw, J4.R2.nP, J4.R2.nT, ⟨(J3.F.ne (J3.F.free nw)).1, (J3.F.ne (J3.F.free nw)).2, (ne_of_none J3.hb nw).symm⟩, J4.R2.nt⟩ ⟨(okr2 (rperm.nodup_iff.mpr k2.rnd) fun z hz => rperm.mem_iff.mp hz), by first | omega | (rw [List.length_append]; omega) | decide⟩ nt ne
  refine ⟨b, _, _, rfl, rfl, (J4.put nt |>.put ne).hb, by rw [lx1]; show 4 < sizeLine; omega, ?_⟩
  obtain ⟨xs2, hxs2⟩ : ∃ q, q = xs1 ++ [V.ref e] := ⟨_, rfl⟩
  rw [← hxs2] at I2 ⊢
  have lx2 : xs2.length = 5 := by rw [hxs2, List.length_append, lx1]; rfl
  generalize upd (upd (upd H6 t (.tup [.ref bP, .ref bT, .ref w])) e (.tup [.ref r1, .ref t])) b (.lst xs2) = G2 at I2 ⊢
  clear nt ne hxs2
  refine ⟨_, rfl, .inl ⟨rfl, _, SqL.of I2.hb⟩, _, rfl, r1, _, 0, _, rfl, rfl, SqT.of I2.h1, rfl, _, rfl, r1, _, 1, _, rfl, rfl, SqT.of I2.h1, rfl, _, rfl, _, rfl, r1, _, 2, _, rfl, rfl, SqT.of I2.h1, rfl, aR, _, rfl, .inl (SqL.of I2.R1.hR), fun u nu => ?_⟩
  have J5 := I2.put (o := .lst (rm1.map V.str)) nu
  refine ⟨p, l, u, _, rm1.map V.str, rfl, J5.F.st, by omega, SqL.of upd_same, by rw [List.length_map]; omega, fun w ys H7 perm F7 nw hw => ⟨three, fun t nt => ⟨_, rfl, two, fun e ne => ?_⟩⟩⟩
  rw [List.length_map] at F7
  obtain ⟨rs, rfl, rperm⟩ := strs_perm perm
  have J6 := J5.fr F7
  have I3 := J6.add1 ⟨k2, by omega⟩ ⟨J6.R1.hP, J6.R1.hT, J6.R1.pt, hw, J6.R1.nP, J6.R1.nT, ⟨(J5.F.ne (J5.F.free nw)).1, (J5.F.ne (J5.F.free nw)).2, (ne_of_none J5.hb nw).symm⟩, J6.R1.nt⟩ ⟨(okr1 (rperm.nodup_iff.mpr k1.rnd) fun z hz => rperm.mem_iff.mp hz), by first | omega | (rw [List.length_append]; omega) | decide⟩ nt ne
  refine ⟨b, _, _, rfl, rfl, (J6.put nt |>.put ne).hb, by rw [lx2]; show 5 < sizeLine; omega, ?_⟩
  obtain ⟨xs3, hxs3⟩ : ∃ q, q = xs2 ++ [V.ref e] := ⟨_, rfl⟩
  rw [← hxs3] at I3 ⊢
  have lx3 : xs3.length = 6 := by rw [hxs3, List.length_append, lx2]; rfl
  generalize upd (upd (upd H7 t (.tup [.ref aP, .ref aT, .ref w])) e (.tup [.ref t, .ref r2])) b (.lst xs3) = G3 at I3 ⊢
  clear nt ne hxs3
  refine ⟨_, rfl, .inl ⟨rfl, _, SqL.of I3.hb⟩, _, rfl, _, rfl, r2, _, 0, _, rfl, rfl, SqT.of I3.h2, rfl, _, rfl, r2, _, 1, _, rfl, rfl, SqT.of I3.h2, rfl, _, rfl, x, _, rfl, SqL.of I3.hx, fun w nw => ?_⟩
  rw [← List.map_reverse]
  have J7 := I3.put (o := .lst (row.reverse.map V.str)) nw
  refine ⟨three, fun t nt => ⟨two, fun e ne => ?_⟩⟩
  have ndr : row.Nodup := (List.nodup_append.mp (pr1.nodup_iff.mpr k1.rnd)).1
  have mr2 : ∀ z ∈ row, z ∈ rm2 := fun z hz => pr2.mem_iff.mp (List.mem_append_left _ hz)
  have I4 := J7.add2 ⟨k1, by omega⟩ ⟨J7.R2.hP, J7.R2.hT, J7.R2.pt, upd_same, J7.R2.nP, J7.R2.nT, I3.nn nw, J7.R2.nt⟩ ⟨(okr2 ((List.reverse_perm row).nodup_iff.mpr ndr) fun z hz => mr2 z (List.mem_reverse.mp hz)), by first | omega | (rw [List.length_append]; omega) | decide⟩ nt ne
  refine ⟨b, _, _, rfl, rfl, (J7.put nt |>.put ne).hb, by rw [lx3]; show 6 < sizeLine; omega, ?_⟩
  obtain ⟨xs4, hxs4⟩ : ∃ q, q = xs3 ++ [V.ref e] := ⟨_, rfl⟩
  rw [← hxs4] at I4 ⊢
  have lx4 : xs4.length = 7 := by rw [hxs4, List.length_append, lx3]; rfl
  generalize upd (upd (upd (upd G3 w (.lst (row.reverse.map V.str))) t (.tup [.ref bP, .ref bT, .ref w])) e (.tup [.ref r1, .ref t])) b (.lst xs4) = G4 at I4 ⊢
  clear nt ne hxs4
  refine ⟨_, rfl, .inl ⟨rfl, _, SqL.of I4.hb⟩, _, rfl, r1, _, 0, _, rfl, rfl, SqT.of I4.h1, rfl, _, rfl, r1, _, 1, _, rfl, rfl, SqT.of I4.h1, rfl, _, rfl, _, rfl, p, l, x, _, row, rfl, I4.F.st, by omega, I4.hx, I4.nx.1, I4.nx.2.1, by omega, fun w i H8 F8 nw hw => ⟨three, fun t nt => ⟨_, rfl, two, fun e ne => ?_⟩⟩⟩
  have J8 := I4.fr F8
  have I5 := J8.add1 ⟨k2, by omega⟩ ⟨J8.R1.hP, J8.R1.hT, J8.R1.pt, hw, J8.R1.nP, J8.R1.nT, ⟨(I4.F.ne (I4.F.free nw)).1, (I4.F.ne (I4.F.free nw)).2, (ne_of_none I4.hb nw).symm⟩, J8.R1.nt⟩ ⟨(okr1 ((rot_perm row i).nodup_iff.mpr ndr) fun z hz => pr1.mem_iff.mp (List.mem_append_left _ ((rot_perm row i).mem_iff.mp hz))), by first | omega | (rw [List.length_append]; omega) | decide⟩ nt ne
  refine ⟨b, _, _, rfl, rfl, (J8.put nt |>.put ne).hb, by rw [lx4]; show 7 < sizeLine; omega, ?_⟩
  obtain ⟨xs5, hxs5⟩ : ∃ q, q = xs4 ++ [V.ref e] := ⟨_, rfl⟩
  rw [← hxs5] at I5 ⊢
  have lx5 : xs5.length = 8 := by rw [hxs5, List.length_append, lx4]; rfl
  generalize upd (upd (upd H8 t (.tup [.ref aP, .ref aT, .ref w])) e (.tup [.ref t, .ref r2])) b (.lst xs5) = G5 at I5 ⊢
  clear nt ne hxs5
  refine ⟨_, rfl, .inl ⟨rfl, _, SqL.of I5.hb⟩, _, rfl, _, rfl, r2, _, 0, _, rfl, rfl, SqT.of I5.h2, rfl, _, rfl, r2, _, 1, _, rfl, rfl, SqT.of I5.h2, rfl, _, rfl, (1 : Int), rfl, x, _, rfl, SqL.of I5.hx, fun u nu => ?_⟩
  rw [show (1 : Int) = ((1 : Nat) : Int) from rfl, cut_from, ← List.map_drop]
  have J9 := I5.put (o := .lst ((row.drop 1).map V.str)) nu
  refine ⟨_, rfl, u, z, _, _, rfl, rfl, upd_same, J9.hz, by rw [List.length_map, List.length_map, List.length_drop]; omega, fun w nw => ?_⟩
  rw [← List.map_append]
  have J10 := J9.put (o := .lst ((row.drop 1 ++ theirs).map V.str)) nw
  refine ⟨three, fun t nt => ⟨two, fun e ne => ?_⟩⟩
  have sub9 : (row.drop 1 ++ theirs).Sublist (row ++ theirs) := (List.drop_sublist 1 row).append (List.Sublist.refl _)
  have I6 := J10.add2 ⟨k1, by omega⟩ ⟨J10.R2.hP, J10.R2.hT, J10.R2.pt, upd_same, J10.R2.nP, J10.R2.nT, J9.nn nw, J10.R2.nt⟩ ⟨(okr2 ((pr2.nodup_iff.mpr k2.rnd).sublist sub9) fun z hz => pr2.mem_iff.mp (sub9.subset hz)), by first | omega | (rw [List.length_append]; omega) | decide⟩ nt ne
  refine ⟨b, _, _, rfl, rfl, (J10.put nt |>.put ne).hb, by rw [lx5]; show 8 < sizeLine; omega, ?_⟩
  obtain ⟨xs6, hxs6⟩ : ∃ q, q = xs5 ++ [V.ref e] := ⟨_, rfl⟩
  rw [← hxs6] at I6 ⊢
  have lx6 : xs6.length = 9 := by rw [hxs6, List.length_append, lx5]; rfl
  generalize upd (upd (upd (upd (upd G5 u (.lst ((row.drop 1).map V.str))) w (.lst ((row.drop 1 ++ theirs).map V.str))) t (.tup [.ref bP, .ref bT, .ref w])) e (.tup [.ref r1, .ref t])) b (.lst xs6) = G6 at I6 ⊢
  clear nt ne hxs6
  have mn2 : ∀ z ∈ mine.take 1, z ∉ pl2 := fun z hz h2 => by
    have hz := List.mem_of_mem_take hz
    have h1 := k1.rin z (pr1.mem_iff.mp (List.mem_append_right _ hz))
    have hc : z ∈ row := pc.mem_iff.mpr (List.mem_filter.mpr ⟨sortS_mem.mpr h1, decide_eq_true h2⟩)
    exact (List.nodup_append.mp (pr1.nodup_iff.mpr k1.rnd)).2.2 z hc z hz rfl
  have nm2 : (mine.take 1).Nodup := ((List.nodup_append.mp (pr1.nodup_iff.mpr k1.rnd)).2.1).sublist (List.take_sublist _ _)
  have al2 : ∀ z ∈ mine.take 1, z ∈ allN := fun z hz => k1.nm z (k1.rin z (pr1.mem_iff.mp (List.mem_append_right _ (List.mem_of_mem_take hz))))
  have ln2 : (mine.take 1).length ≤ 1 := by rw [List.length_take]; omega
  have ok10 : ∀ {rm : List Str}, rm.Nodup → (∀ z ∈ rm, z ∈ pl2 ++ mine.take 1) → RawOk (pl2 ++ mine.take 1) ts2 rm := fun nd h => ⟨List.nodup_append.mpr ⟨k2.nd, nm2, fun u hu v hv e => mn2 v hv (e ▸ hu)⟩, fun z hz => (List.mem_append.mp hz).elim (k2.nm z) (al2 z), by rw [List.length_append]; omega, k2.ts.mono fun z hz => List.mem_append_left _ hz, nd, h, k2.few⟩
  refine ⟨_, rfl, .inl ⟨rfl, _, SqL.of I6.hb⟩, _, rfl, _, rfl, r2, _, 0, _, rfl, rfl, SqT.of I6.h2, rfl, _, rfl, (1 : Int), rfl, y, _, rfl, SqL.of I6.hy, fun u nu => ?_⟩
  rw [show (1 : Int) = ((1 : Nat) : Int) from rfl, cut_to, ← List.map_take]
  have J11 := I6.put (o := .lst ((mine.take 1).map V.str)) nu
  refine ⟨bP, u, _, _, rfl, rfl, J11.R2.hP, upd_same, by rw [List.length_map, List.length_map]; omega, fun v nv => ?_⟩
  rw [← List.map_append]
  have J12 := J11.put (o := .lst ((pl2 ++ mine.take 1).map V.str)) nv
  refine ⟨_, rfl, r2, _, 1, _, rfl, rfl, SqT.of J12.h2, rfl, _, rfl, r2, _, 2, _, rfl, rfl, SqT.of J12.h2, rfl, three, fun t nt => ⟨two, fun e ne => ?_⟩⟩
  have I7 := J12.add2 ⟨k1, by omega⟩ ⟨upd_same, J12.R2.hT, J12.R2.pt, J12.R2.hR, J11.nn nv, J12.R2.nT, J12.R2.nR, J12.R2.nt⟩ ⟨(ok10 k2.rnd fun z hz => List.mem_append_left _ (k2.rin z hz)), by first | omega | (rw [List.length_append]; omega) | decide⟩ nt ne
  refine ⟨b, _, _, rfl, rfl, (J12.put nt |>.put ne).hb, by rw [lx6]; show 9 < sizeLine; omega, ?_⟩
  obtain ⟨xs7, hxs7⟩ : ∃ q, q = xs6 ++ [V.ref e] := ⟨_, rfl⟩
  rw [← hxs7] at I7 ⊢
  have lx7 : xs7.length = 10 := by rw [hxs7, List.length_append, lx6]; rfl
  generalize upd (upd (upd (upd (upd G6 u (.lst ((mine.take 1).map V.str))) v (.lst ((pl2 ++ mine.take 1).map V.str))) t (.tup [.ref v, .ref bT, .ref bR])) e (.tup [.ref r1, .ref t])) b (.lst xs7) = G7 at I7 ⊢
  clear nt ne hxs7
  refine ⟨_, rfl, .inl ⟨rfl, _, SqL.of I7.hb⟩, _, rfl, _, rfl, r2, _, 0, _, rfl, rfl, SqT.of I7.h2, rfl, _, rfl, (1 : Int), rfl, y, _, rfl, SqL.of I7.hy, fun u nu => ?_⟩
  rw [show (1 : Int) = ((1 : Nat) : Int) from rfl, cut_to, ← List.map_take]
  have J13 := I7.put (o := .lst ((mine.take 1).map V.str)) nu
  refine ⟨bP, u, _, _, rfl, rfl, J13.R2.hP, upd_same, by rw [List.length_map, List.length_map]; omega, fun v nv => ?_⟩
  rw [← List.map_append]
  have J14 := J13.put (o := .lst ((pl2 ++ mine.take 1).map V.str)) nv
  refine ⟨_, rfl, r2, _, 1, _, rfl, rfl, SqT.of J14.h2, rfl, _, rfl, r2, _, 2, _, rfl, rfl, SqT.of J14.h2, rfl, bR, _, rfl, .inl (SqL.of J14.R2.hR), fun u2 nu2 => ?_⟩
  have J15 := J14.put (o := .lst (rm2.map V.str)) nu2
  refine ⟨_, rfl, (1 : Int), rfl, y, _, rfl, SqL.of J15.hy, fun u3 nu3 => ?_⟩
  rw [show (1 : Int) = ((1 : Nat) : Int) from rfl, cut_to, ← List.map_take]
  have J16 := J15.put (o := .lst ((mine.take 1).map V.str)) nu3
  refine ⟨u2, u3, _, _, rfl, rfl, new_same nu3 _ _ upd_same, upd_same, by rw [List.length_map, List.length_map]; omega, fun w nw => ?_⟩
  rw [← List.map_append]
  have J17 := J16.put (o := .lst ((rm2 ++ mine.take 1).map V.str)) nw
  refine ⟨three, fun t nt => ⟨two, fun e ne => ?_⟩⟩
  have v14 := upd_same (H := upd G7 u (.lst ((mine.take 1).map V.str))) (a := v) (o := .lst ((pl2 ++ mine.take 1).map V.str))
  have v17 := new_same (o := .lst ((rm2 ++ mine.take 1).map V.str)) nw _ _ (new_same (o := .lst ((mine.take 1).map V.str)) nu3 _ _ (new_same (o := .lst (rm2.map V.str)) nu2 _ _ v14))
  have I8 := J17.add2 ⟨k1, by omega⟩ ⟨v17, J17.R2.hT, J17.R2.pt, upd_same, J13.nn nv, J17.R2.nT, J16.nn nw, J17.R2.nt⟩ ⟨(ok10 (List.nodup_append.mpr ⟨k2.rnd, nm2, fun u hu v hv e => mn2 v hv (k2.rin v (e ▸ hu))⟩) fun z hz => (List.mem_append.mp hz).elim (fun h => List.mem_append_left _ (k2.rin z h)) (List.mem_append_right _)), by first | omega | (rw [List.length_append]; omega) | decide⟩ nt ne
  refine ⟨b, _, _, rfl, rfl, (J17.put nt |>.put ne).hb, by rw [lx7]; show 10 < sizeLine; omega, ?_⟩
  obtain ⟨xs8, hxs8⟩ : ∃ q, q = xs7 ++ [V.ref e] := ⟨_, rfl⟩
  rw [← hxs8] at I8 ⊢
  have lx8 : xs8.length = 11 := by rw [hxs8, List.length_append, lx7]; rfl
  generalize upd (upd (upd (upd (upd (upd (upd (upd G7 u (.lst ((mine.take 1).map V.str))) v (.lst ((pl2 ++ mine.take 1).map V.str))) u2 (.lst (rm2.map V.str))) u3 (.lst ((mine.take 1).map V.str))) w (.lst ((rm2 ++ mine.take 1).map V.str))) t (.tup [.ref v, .ref bT, .ref w])) e (.tup [.ref r1, .ref t])) b (.lst xs8) = G8 at I8 ⊢
  clear nt ne hxs8
  refine ⟨_, rfl, .inl ⟨rfl, _, SqL.of I8.hb⟩, _, rfl, two, fun u nu => ?_⟩
  have J18 := I8.put (o := .lst [.str "far0", .str "far1"]) nu
  refine ⟨two, fun s2 ns2 => ?_⟩
  have J19 := J18.put (o := .tup [.str "far0", .str "far1"]) ns2
  refine ⟨by show 1 ≤ sizeLine; decide, fun v nv => ?_⟩
  have J20 := J19.put (o := .lst [.ref s2]) nv
  refine ⟨by show 1 ≤ sizeLine; decide, fun w nw => ?_⟩
  have J21 := J20.put (o := .lst [.str "far1"]) nw
  refine ⟨three, fun t nt => ⟨two, fun e ne => ?_⟩⟩
  have u18 := upd_same (H := G8) (a := u) (o := .lst [.str "far0", .str "far1"])
  have s19 := upd_same (H := upd G8 u (.lst [.str "far0", .str "far1"])) (a := s2) (o := .tup [.str "far0", .str "far1"])
  have v20 := upd_same (H := upd (upd G8 u (.lst [.str "far0", .str "far1"])) s2 (.tup [.str "far0", .str "far1"])) (a := v) (o := .lst [.ref s2])
  have u21 := new_same (o := .lst [.str "far1"]) nw _ _ (new_same (o := .lst [.ref s2]) nv _ _ (new_same (o := .tup [.str "far0", .str "far1"]) ns2 _ _ u18))
  have s21 := new_same (o := .lst [.str "far1"]) nw _ _ (new_same (o := .lst [.ref s2]) nv _ _ s19)
  have v21 := new_same (o := .lst [.str "far1"]) nw _ _ v20
  have I9 := J21.add2 ⟨k1, by omega⟩ (pl := ["far0", "far1"]) (ts := [("far0", "far1")]) (rm := ["far1"]) (a1 := u) (a2 := v) (a3 := w) ⟨u21, v21, PrsAt.cons s21 PrsAt.nil, upd_same, I8.nn nu, J19.nn nv, J20.nn nw, fun t ht => by cases List.mem_singleton.mp ht; exact J18.nn ns2⟩ ⟨okFar, by first | omega | (rw [List.length_append]; omega) | decide⟩ nt ne
  refine ⟨b, _, _, rfl, rfl, (J21.put nt |>.put ne).hb, by rw [lx8]; show 11 < sizeLine; omega, ?_⟩
  obtain ⟨xs9, hxs9⟩ : ∃ q, q = xs8 ++ [V.ref e] := ⟨_, rfl⟩
  rw [← hxs9] at I9 ⊢
  have lx9 : xs9.length = 12 := by rw [hxs9, List.length_append, lx8]; rfl
  generalize upd (upd (upd (upd (upd (upd (upd G8 u (.lst [.str "far0", .str "far1"])) s2 (.tup [.str "far0", .str "far1"])) v (.lst [.ref s2])) w (.lst [.str "far1"])) t (.tup [.ref u, .ref v, .ref w])) e (.tup [.ref r1, .ref t])) b (.lst xs9) = G9 at I9 ⊢
  clear nt ne hxs9
  refine ⟨_, rfl, .inl ⟨rfl, _, SqL.of I9.hb⟩, _, rfl, Nat.zero_le _, fun u nu => ?_⟩
  have J22 := I9.put (o := .lst []) nu
  refine ⟨Nat.zero_le _, fun v nv => ?_⟩
  have J23 := J22.put (o := .lst []) nv
  refine ⟨Nat.zero_le _, fun w nw => ?_⟩
  have J24 := J23.put (o := .lst []) nw
  refine ⟨three, fun t nt => ⟨two, fun e ne => ?_⟩⟩
  have u22 := upd_same (H := G9) (a := u) (o := .lst [])
  have v23 := upd_same (H := upd G9 u (.lst [])) (a := v) (o := .lst [])
  have u24 := new_same (o := .lst []) nw _ _ (new_same (o := .lst []) nv _ _ u22)
  have v24 := new_same (o := .lst []) nw _ _ v23
  have I10 := J24.add2 ⟨k1, by omega⟩ (pl := []) (ts := []) (rm := []) (a1 := u) (a2 := v) (a3 := w) ⟨u24, v24, PrsAt.nil, upd_same, I9.nn nu, J22.nn nv, J23.nn nw, fun t ht => by cases ht⟩ ⟨okNone, by first | omega | (rw [List.length_append]; omega) | decide⟩ nt ne
  refine ⟨b, _, _, rfl, rfl, (J24.put nt |>.put ne).hb, by rw [lx9]; show 12 < sizeLine; omega, ?_⟩
  obtain ⟨xs10, hxs10⟩ : ∃ q, q = xs9 ++ [V.ref e] := ⟨_, rfl⟩
  rw [← hxs10] at I10 ⊢
  have lx10 : xs10.length = 13 := by rw [hxs10, List.length_append, lx9]; rfl
  generalize upd (upd (upd (upd (upd (upd G9 u (.lst [])) v (.lst [])) w (.lst [])) t (.tup [.ref u, .ref v, .ref w])) e (.tup [.ref r1, .ref t])) b (.lst xs10) = G10 at I10 ⊢
  clear nt ne hxs10
  exact ⟨_, rfl, k b xs10 G10 (I10.F.mono (by omega)) nbH I10.hb I10.ents (by omega)⟩
end
end E1

set_option Elab.async false
set_option linter.all false
set_option maxRecDepth 100000
set_option maxHeartbeats 4000000
/-! Several except clauses, each with its name. -/
namespace G0
open PySem PySem.Spec PyProof.Rows L2
/-- the ends behind a suite whose name, slot i, goes -/
def gone (i : Nat) (D : Ends) : Ends := { nx := fun σ H => D.nx (σ.set i none) H, rt := D.rt, bk := fun σ H => D.bk (σ.set i none) H, ct := fun σ H => D.ct (σ.set i none) H }
abbrev SuiteT : Type := Addr → Value → Option Addr → TS
/-- what clauses with a name each wish of what the body raises, the first that fits -/
def wManyAs (K : PySem.W.Frag) (i : Nat) (Wo : WX) (D : Ends) : List (Value × SuiteT) → WX
  | [] => Wo
  | q :: rest => fun cls d σ H => ∃ fits, PySem.W.exmOne K cls q.1 = some fits ∧ (fits = true → ∀ a, H a = none → q.2 a cls d (gone i D) (σ.set i (some (.ref a))) H) ∧ (fits = false → wManyAs K i Wo D rest cls d σ H)
/-- the clauses, all with the name n -/
inductive HdsAs (X : Cx) (n : Str) : List ExceptHandler → List (Value × SuiteT) → Prop
  | nil : HdsAs X n [] []
  | cons {x : Str} {c : Value} {ts : SuiteT} {st : Stmt} {sts : List Stmt} {pn pc : Pos} {more : List ExceptHandler} {lm : List (Value × SuiteT)} (nm : Names X x c)
      (su : ∀ (z : Addr) (oz : Obj) (cls : Value) (d : Option Addr) (pins : List (Addr × Obj)), Zc cls d oz → (∃ fs, oz.data = .fields fs) → PSs (X.suite z ((z, oz) :: pins)) (st :: sts) (ts z cls d)) (rest : HdsAs X n more lm) :
      HdsAs X n (.ExceptHandler (some (.Name x pn)) (some n) (st :: sts) pc :: more) ((c, ts) :: lm)
section
variable {X : Cx} {n : Str} {i : Nat} {pins : List (Addr × Obj)} {D : Ends} {Wo : WX} {z : Addr} {below : Heap} {cls : Value} {d : Option Addr} {σ : L2.St} {H : Hp} {sI u : Shared} {g : Heap}
/-- what is known as the clauses are asked: the exception at z is caught, in flight over the heap g -/
structure Caught (X : Cx) (pins : List (Addr × Obj)) (σ : L2.St) (H : Hp) (z : Addr) (below : Heap) (cls : Value) (d : Option Addr) (sI u : Shared) (g : Heap) : Prop where
  inv : Inv X pins σ H sI
  low : ∀ b o, sI.heap.get? b = some o → b ∉ frs X.stack → below.get? b = some o
  up : sI.heap.UpToSlots g
  new : H z = none
  os : u.os = sI.os
  bare : AllBare u.gens
  fly : HandSPX.FlyingZ below (X.env :: X.outer) z (Zc cls d) g
  top : X.stack = X.env :: X.outer
  own : X.env.frame = some X.env.locals
/-- the invariant over the heap in which it flies, and its object -/
theorem Caught.here (C : Caught X pins σ H z below cls d sI u g) : Inv X pins σ H { u with heap := g } ∧ ∃ oz fs, g.get? z = some oz ∧ Zc cls d oz ∧ oz.data = .fields fs ∧ z ≠ X.env.locals ∧ z ∉ X.fs := by
  have I2 : Inv X pins σ H { u with heap := g } := C.inv.landed C.low C.fly.1 C.up C.os C.bare
  obtain ⟨oz, fs, k1, k2, k3⟩ := C.fly.there
  have off : z ∉ frs (X.env :: X.outer) := by
    intro hm
    obtain ⟨_, w, k4, k5⟩ := C.fly.2.2.1.mem hm
    cases k1.symm.trans k4
    exact k5 _ k3
  refine ⟨I2, oz, fs, k1, k2, k3, ?_, ?_⟩
  · rintro rfl
    exact off (List.mem_filterMap.mpr ⟨X.env, by simp, C.own⟩)
  · intro hm
    obtain ⟨e, k4, k5⟩ := List.mem_filterMap.mp hm
    exact off (List.mem_filterMap.mpr ⟨e, by simp [k4], k5⟩)
/-- no clause is left: on it flies -/
theorem caught_on (C : Caught X pins σ H z below cls d sI u g) (tk : Takes X Wo) (wish : Wo cls d σ H) : wpAny (model X.prog X.w) X.A (handleBy (.ref z) X.env []) (SP X pins D) X.xe { u with heap := g } := by
  refine wpAny_handleBy_nil ?_
  have flight : wpAny (model X.prog X.w) X.A (setFlight (.ref z) X.env.frame) (fun _ t => wpAny (model X.prog X.w) X.A (throw (.ref z) : Sem Flow) (SP X pins D) X.xe t) X.xe { u with heap := g } := by
    rw [C.own]
    exact HandSPX.setFlight_upZ C.fly fun g2 held more => wpAny_throw (tk _ _ ⟨z, below, sI, pins, σ, H, cls, d, rfl, C.inv, C.low, C.up.trans more, .inr (.inr (by rw [C.top]; exact held)), C.new, C.os, C.bare, wish⟩)
  obtain ⟨_, _, _, ow, fw, Tb, _, _, k1, _, k2, k3, _⟩ := id C.fly
  unfold PySem.passOn
  refine wpAny_bind (wpAny_field k1 k2 k3 ?_)
  have live : ¬ ((Value.ref Tb == Value.none) = true) := by simp
  rw [if_neg live]
  first
    | exact wpAny_bind flight
    | exact wpAny_bind (wpAny_pure (wpAny_bind flight))
/-- the clauses, one behind another -/
theorem caught_by (C : Caught X pins σ H z below cls d sI u g) (hN : X.N.Nodup) (hi : X.N[i]? = some n) (hn : X.env.kindOf n = some .local) (tk : Takes X Wo) {cs : List ExceptHandler} {lm : List (Value × SuiteT)} (k : HdsAs X n cs lm) :
    wManyAs X.K i Wo D lm cls d σ H → wpAny (model X.prog X.w) X.A (handleBy (.ref z) X.env cs) (SP X pins D) X.xe { u with heap := g } := by
  induction k with
  | nil => exact caught_on C tk
  | @cons x c ts st sts pn pc more lm nm su rest ih =>
    rintro ⟨fits, asked, yes, no⟩
    obtain ⟨I2, oz, fs, k1, k2, k3, k4, k5⟩ := C.here
    refine wpAny_handleBy_cons (codeAny_handlers_test ?_) (by intro q; cases q)
    have I3 := I2.suite k1 k3 C.new k4 k5
    have kind : PySem.W.Looks (model X.prog X.w) g (typeOf (.ref z)) cls := fun _ _ _ _ keep q => wpAny_typeOf_ref (keep _ _ k1) (by rw [k2.1]; exact q)
    have said : wpAny (model X.prog X.w) (X.A.mark (some (.ref z))) (eval (.Name x pn) X.env) (fun v t => v = c ∧ t = { u with heap := g }) (fun _ _ => False) { u with heap := g } := by
      rcases nm with ⟨gl, nd, m | ⟨m, bt, nn⟩⟩
      · exact ld_glob (X := X.suite z ((z, oz) :: (X.pn ++ pins))) I3 gl m ⟨rfl, rfl⟩ nd
      · exact ld_blt (X := X.suite z ((z, oz) :: (X.pn ++ pins))) I3 gl m bt ⟨rfl, rfl⟩ nn nd
    refine wpAny_mono said (fun v t e => ?_) (fun _ _ e => e.elim)
    obtain ⟨e1, e2⟩ := e
    subst e1
    subst e2
    refine (PySem.W.exm_one (M := model X.prog X.w) I2.kIn kind asked).here ?_
    cases fits with
    | false => exact ih (no rfl)
    | true =>
      refine codeAny_handlers_suite_as (HandSPX.lands_againZ C.fly fun g2 fly2 up2 => ?_)
      have C2 : Caught X pins σ H z below cls d sI u g2 := ⟨C.inv, C.low, C.up.trans up2, C.new, C.os, C.bare, fly2, C.top, C.own⟩
      obtain ⟨I4, o2, f2, m1, m2, m3, m4, m5⟩ := C2.here
      have I5 := I4.suite m1 m3 C.new m4 m5
      refine store_ok (X := X.suite z ((z, o2) :: (X.pn ++ pins))) (v := .ref z) I5 hN hi (.inl hn) rfl (fun t I6 => ?_) (.inr hn)
      refine wpAny_mono ((su z o2 cls d (X.pn ++ pins) m2 ⟨_, m3⟩).run [] t _ H _ I6 (yes rfl z C.new)) (fun f t2 h => ?_) (fun _ _ q => q.elim)
      have goes : ∀ {σ2 : L2.St} {H2 : Hp} {R : Shared → Prop}, Inv (X.suite z ((z, o2) :: (X.pn ++ pins))) [] σ2 H2 t2 → (∀ t3, Inv X pins (σ2.set i none) H2 t3 → R t3) →
          wpAny (model X.prog X.w) X.A (do bindName X.env n .none; unbindBehindTheSuite X.env n pc) (fun _ t3 => R t3) X.xe t2 := fun {_ _ _} J r => gone_ok (J.unsuite C.inv.ok) hN hi hn r
      cases f with
      | ret w =>
        obtain ⟨v2, σ2, H2, J, rv, q⟩ := h
        exact goes J fun _ J3 => ⟨_, _, _, J3, rv, q⟩
      | next => exact let ⟨_, _, J, q⟩ := h; goes J fun _ J3 => ⟨_, _, J3, q⟩
      | brk => exact let ⟨_, _, J, q⟩ := h; goes J fun _ J3 => ⟨_, _, J3, q⟩
      | cont => exact let ⟨_, _, J, q⟩ := h; goes J fun _ J3 => ⟨_, _, J3, q⟩
end
section
variable {X : Cx} {n : Str} {i : Nat} {body : List Stmt} {c0 : ExceptHandler} {cs : List ExceptHandler} {lm : List (Value × SuiteT)} {pos : Pos} {tb : WX → TS} {Wo : WX}
theorem ps_try_manyAs (top : X.stack = X.env :: X.outer) (own : X.env.frame = some X.env.locals) (hN : X.N.Nodup) (hi : X.N[i]? = some n) (hn : X.env.kindOf n = some .local) (tk : Takes X Wo)
    (tried : ∀ (W : WX) (pn : List (Addr × Obj)) (xe : Value → Shared → Prop), Takes (X.tr pn xe) W → PassesOwn (model X.prog X.w) X.A X.env xe → PSs (X.tr pn xe) body (tb W))
    (k : HdsAs X n (c0 :: cs) lm) : PS X (.Try body (c0 :: cs) [] [] pos) (fun D σ H => tb (fun cls d σ' H' => σ'.length = X.N.length → wManyAs X.K i Wo D lm cls d σ' H') D σ H) := by
  constructor
  intro pins s σ H D I h
  have okX := I.ok
  have frs' : X.A.frames = some (X.env :: X.outer) := okX.frames.trans (by rw [top])
  refine wpAny_Try_except (wpAny_mono ((tried (fun cls d σ' H' => σ'.length = X.N.length → wManyAs X.K i Wo D lm cls d σ' H') (X.pn ++ pins) _ (fun v t x => ?_) PassesOwn.looking).run [] s σ H D (I.toTry _) h) (fun f t hf => ?_) (fun _ _ q => q))
  · obtain ⟨z, below, sI, _, σ2, H2, cls, d, rfl, J, low, up, sky, new, os, bare, wish⟩ := x
    rw [show (X.tr (X.pn ++ pins) _).stack = X.stack from rfl, top] at sky
    exact Sky.land Zc.steady frs' own sky fun g fly more => caught_by ⟨J.ofTry okX, low, up.trans more, new, os, bare, fly, top, own⟩ hN hi hn tk k (wish J.len)
  · cases f with
    | next => exact let ⟨_, _, J, q⟩ := hf; wpAny_execs_nil ⟨_, _, J.ofTry okX, q⟩
    | ret v => exact let ⟨_, _, _, J, r, q⟩ := hf; ⟨_, _, _, J.ofTry okX, r, q⟩
    | brk => exact let ⟨_, _, J, q⟩ := hf; ⟨_, _, J.ofTry okX, q⟩
    | cont => exact let ⟨_, _, J, q⟩ := hf; ⟨_, _, J.ofTry okX, q⟩
end
end G0

set_option Elab.async false
set_option linter.all false
set_option maxRecDepth 100000
set_option maxHeartbeats 4000000
/-! Several except clauses, some with a name, some with none. -/
namespace G0
open PySem PySem.Spec PyProof.Rows L2
/-- what clauses each wish of what the body raises, the first that fits; true: with the name -/
def wMix (K : PySem.W.Frag) (i : Nat) (Wo : WX) (D : Ends) : List (Value × Bool × SuiteT) → WX
  | [] => Wo
  | q :: rest => fun cls d σ H => ∃ fits, PySem.W.exmOne K cls q.1 = some fits ∧ (fits = true → ∀ a, H a = none → if q.2.1 = true then q.2.2 a cls d (gone i D) (σ.set i (some (.ref a))) H else q.2.2 a cls d D σ H) ∧ (fits = false → wMix K i Wo D rest cls d σ H)
/-- the clauses; those with a name: n -/
inductive HdsMix (X : Cx) (n : Str) : List ExceptHandler → List (Value × Bool × SuiteT) → Prop
  | nil : HdsMix X n [] []
  | cons {x : Str} {c : Value} {ts : SuiteT} {st : Stmt} {sts : List Stmt} {pn pc : Pos} {more : List ExceptHandler} {lm : List (Value × Bool × SuiteT)} (nm : Names X x c)
      (su : ∀ (z : Addr) (oz : Obj) (cls : Value) (d : Option Addr) (pins : List (Addr × Obj)), Zc cls d oz → (∃ fs, oz.data = .fields fs) → PSs (X.suite z ((z, oz) :: pins)) (st :: sts) (ts z cls d)) (rest : HdsMix X n more lm) :
      HdsMix X n (.ExceptHandler (some (.Name x pn)) (some n) (st :: sts) pc :: more) ((c, true, ts) :: lm)
  | bare {x : Str} {c : Value} {ts : SuiteT} {st : Stmt} {sts : List Stmt} {pn pc : Pos} {more : List ExceptHandler} {lm : List (Value × Bool × SuiteT)} (nm : Names X x c)
      (su : ∀ (z : Addr) (oz : Obj) (cls : Value) (d : Option Addr) (pins : List (Addr × Obj)), Zc cls d oz → (∃ fs, oz.data = .fields fs) → PSs (X.suite z ((z, oz) :: pins)) (st :: sts) (ts z cls d)) (rest : HdsMix X n more lm) :
      HdsMix X n (.ExceptHandler (some (.Name x pn)) none (st :: sts) pc :: more) ((c, false, ts) :: lm)
section
variable {X : Cx} {n : Str} {i : Nat} {pins : List (Addr × Obj)} {D : Ends} {Wo : WX} {z : Addr} {below : Heap} {cls : Value} {d : Option Addr} {σ : L2.St} {H : Hp} {sI u : Shared} {g : Heap}
/-- the clauses, one behind another -/
theorem caught_mix (C : Caught X pins σ H z below cls d sI u g) (hN : X.N.Nodup) (hi : X.N[i]? = some n) (hn : X.env.kindOf n = some .local) (tk : Takes X Wo) {cs : List ExceptHandler} {lm : List (Value × Bool × SuiteT)} (k : HdsMix X n cs lm) :
    wMix X.K i Wo D lm cls d σ H → wpAny (model X.prog X.w) X.A (handleBy (.ref z) X.env cs) (SP X pins D) X.xe { u with heap := g } := by
  induction k with
  | nil => exact caught_on C tk
  | @cons x c ts st sts pn pc more lm nm su rest ih =>
    rintro ⟨fits, asked, yes, no⟩
    obtain ⟨I2, oz, fs, k1, k2, k3, k4, k5⟩ := C.here
    refine wpAny_handleBy_cons (codeAny_handlers_test ?_) (by intro q; cases q)
    have I3 := I2.suite k1 k3 C.new k4 k5
    have kind : PySem.W.Looks (model X.prog X.w) g (typeOf (.ref z)) cls := fun _ _ _ _ keep q => wpAny_typeOf_ref (keep _ _ k1) (by rw [k2.1]; exact q)
    have said : wpAny (model X.prog X.w) (X.A.mark (some (.ref z))) (eval (.Name x pn) X.env) (fun v t => v = c ∧ t = { u with heap := g }) (fun _ _ => False) { u with heap := g } := by
      rcases nm with ⟨gl, nd, m | ⟨m, bt, nn⟩⟩
      · exact ld_glob (X := X.suite z ((z, oz) :: (X.pn ++ pins))) I3 gl m ⟨rfl, rfl⟩ nd
      · exact ld_blt (X := X.suite z ((z, oz) :: (X.pn ++ pins))) I3 gl m bt ⟨rfl, rfl⟩ nn nd
    refine wpAny_mono said (fun v t e => ?_) (fun _ _ e => e.elim)
    obtain ⟨e1, e2⟩ := e
    subst e1
    subst e2
    refine (PySem.W.exm_one (M := model X.prog X.w) I2.kIn kind asked).here ?_
    cases fits with
    | false => exact ih (no rfl)
    | true =>
      refine codeAny_handlers_suite_as (HandSPX.lands_againZ C.fly fun g2 fly2 up2 => ?_)
      have C2 : Caught X pins σ H z below cls d sI u g2 := ⟨C.inv, C.low, C.up.trans up2, C.new, C.os, C.bare, fly2, C.top, C.own⟩
      obtain ⟨I4, o2, f2, m1, m2, m3, m4, m5⟩ := C2.here
      have I5 := I4.suite m1 m3 C.new m4 m5
      have yes' := yes rfl z C.new
      rw [if_pos rfl] at yes'
      refine store_ok (X := X.suite z ((z, o2) :: (X.pn ++ pins))) (v := .ref z) I5 hN hi (.inl hn) rfl (fun t I6 => ?_) (.inr hn)
      refine wpAny_mono ((su z o2 cls d (X.pn ++ pins) m2 ⟨_, m3⟩).run [] t _ H _ I6 yes') (fun f t2 h => ?_) (fun _ _ q => q.elim)
      have goes : ∀ {σ2 : L2.St} {H2 : Hp} {R : Shared → Prop}, Inv (X.suite z ((z, o2) :: (X.pn ++ pins))) [] σ2 H2 t2 → (∀ t3, Inv X pins (σ2.set i none) H2 t3 → R t3) →
          wpAny (model X.prog X.w) X.A (do bindName X.env n .none; unbindBehindTheSuite X.env n pc) (fun _ t3 => R t3) X.xe t2 := fun {_ _ _} J r => gone_ok (J.unsuite C.inv.ok) hN hi hn r
      cases f with
      | ret w =>
        obtain ⟨v2, σ2, H2, J, rv, q⟩ := h
        exact goes J fun _ J3 => ⟨_, _, _, J3, rv, q⟩
      | next => exact let ⟨_, _, J, q⟩ := h; goes J fun _ J3 => ⟨_, _, J3, q⟩
      | brk => exact let ⟨_, _, J, q⟩ := h; goes J fun _ J3 => ⟨_, _, J3, q⟩
      | cont => exact let ⟨_, _, J, q⟩ := h; goes J fun _ J3 => ⟨_, _, J3, q⟩
  | @bare x c ts st sts pn pc more lm nm su rest ih =>
    rintro ⟨fits, asked, yes, no⟩
    obtain ⟨I2, oz, fs, k1, k2, k3, k4, k5⟩ := C.here
    refine wpAny_handleBy_cons (codeAny_handlers_test ?_) (by intro q; cases q)
    have I3 := I2.suite k1 k3 C.new k4 k5
    have kind : PySem.W.Looks (model X.prog X.w) g (typeOf (.ref z)) cls := fun _ _ _ _ keep q => wpAny_typeOf_ref (keep _ _ k1) (by rw [k2.1]; exact q)
    have said : wpAny (model X.prog X.w) (X.A.mark (some (.ref z))) (eval (.Name x pn) X.env) (fun v t => v = c ∧ t = { u with heap := g }) (fun _ _ => False) { u with heap := g } := by
      rcases nm with ⟨gl, nd, m | ⟨m, bt, nn⟩⟩
      · exact ld_glob (X := X.suite z ((z, oz) :: (X.pn ++ pins))) I3 gl m ⟨rfl, rfl⟩ nd
      · exact ld_blt (X := X.suite z ((z, oz) :: (X.pn ++ pins))) I3 gl m bt ⟨rfl, rfl⟩ nn nd
    refine wpAny_mono said (fun v t e => ?_) (fun _ _ e => e.elim)
    obtain ⟨e1, e2⟩ := e
    subst e1
    subst e2
    refine (PySem.W.exm_one (M := model X.prog X.w) I2.kIn kind asked).here ?_
    cases fits with
    | false => exact ih (no rfl)
    | true =>
      refine codeAny_handlers_suite (HandSPX.lands_againZ C.fly fun g2 fly2 up2 => ?_)
      have C2 : Caught X pins σ H z below cls d sI u g2 := ⟨C.inv, C.low, C.up.trans up2, C.new, C.os, C.bare, fly2, C.top, C.own⟩
      obtain ⟨I4, o2, f2, m1, m2, m3, m4, m5⟩ := C2.here
      have I5 := I4.suite m1 m3 C.new m4 m5
      have yes' := yes rfl z C.new
      rw [if_neg (show ¬ (false = true) from by decide)] at yes'
      refine wpAny_mono ((su z o2 cls d (X.pn ++ pins) m2 ⟨_, m3⟩).run [] _ _ H _ I5 yes') (fun f t2 h => ?_) (fun _ _ q => q.elim)
      cases f with
      | ret w =>
        obtain ⟨v2, σ2, H2, J, rv, q⟩ := h
        exact ⟨_, _, _, J.unsuite C.inv.ok, rv, q⟩
      | next => exact let ⟨_, _, J, q⟩ := h; ⟨_, _, J.unsuite C.inv.ok, q⟩
      | brk => exact let ⟨_, _, J, q⟩ := h; ⟨_, _, J.unsuite C.inv.ok, q⟩
      | cont => exact let ⟨_, _, J, q⟩ := h; ⟨_, _, J.unsuite C.inv.ok, q⟩
end
section
variable {X : Cx} {n : Str} {i : Nat} {body : List Stmt} {c0 : ExceptHandler} {cs : List ExceptHandler} {lm : List (Value × Bool × SuiteT)} {pos : Pos} {tb : WX → TS} {Wo : WX}
theorem ps_try_mix (top : X.stack = X.env :: X.outer) (own : X.env.frame = some X.env.locals) (hN : X.N.Nodup) (hi : X.N[i]? = some n) (hn : X.env.kindOf n = some .local) (tk : Takes X Wo)
    (tried : ∀ (W : WX) (pn : List (Addr × Obj)) (xe : Value → Shared → Prop), Takes (X.tr pn xe) W → PassesOwn (model X.prog X.w) X.A X.env xe → PSs (X.tr pn xe) body (tb W))
    (k : HdsMix X n (c0 :: cs) lm) : PS X (.Try body (c0 :: cs) [] [] pos) (fun D σ H => tb (fun cls d σ' H' => σ'.length = X.N.length → wMix X.K i Wo D lm cls d σ' H') D σ H) := by
  constructor
  intro pins s σ H D I h
  have okX := I.ok
  have frs' : X.A.frames = some (X.env :: X.outer) := okX.frames.trans (by rw [top])
  refine wpAny_Try_except (wpAny_mono ((tried (fun cls d σ' H' => σ'.length = X.N.length → wMix X.K i Wo D lm cls d σ' H') (X.pn ++ pins) _ (fun v t x => ?_) PassesOwn.looking).run [] s σ H D (I.toTry _) h) (fun f t hf => ?_) (fun _ _ q => q))
  · obtain ⟨z, below, sI, _, σ2, H2, cls, d, rfl, J, low, up, sky, new, os, bare, wish⟩ := x
    rw [show (X.tr (X.pn ++ pins) _).stack = X.stack from rfl, top] at sky
    exact Sky.land Zc.steady frs' own sky fun g fly more => caught_mix ⟨J.ofTry okX, low, up.trans more, new, os, bare, fly, top, own⟩ hN hi hn tk k (wish J.len)
  · cases f with
    | next => exact let ⟨_, _, J, q⟩ := hf; wpAny_execs_nil ⟨_, _, J.ofTry okX, q⟩
    | ret v => exact let ⟨_, _, _, J, r, q⟩ := hf; ⟨_, _, _, J.ofTry okX, r, q⟩
    | brk => exact let ⟨_, _, J, q⟩ := hf; ⟨_, _, J.ofTry okX, q⟩
    | cont => exact let ⟨_, _, J, q⟩ := hf; ⟨_, _, J.ofTry okX, q⟩
end
end G0

set_option Elab.async false
set_option linter.all false
set_option maxRecDepth 100000
set_option maxHeartbeats 8000000
/-! What is met: told, or one of the errors. -/
namespace E1
open PySem PySem.Spec PyProof.Rows L2 G0 LamX
abbrev N_met : List Str := ["_law_ask", "e"]
theorem sc_met : FnScope N_met ["_law_ask"] (defScope (topS 53)) := ⟨rfl, rfl, rfl, by decide +kernel, rfl, by decide +kernel, by decide +kernel⟩
def clE : Fin 6 → Str
  | 0 => "BadBoard"
  | 1 => "NoPlace"
  | 2 => "IsPin"
  | 3 => "BadCross"
  | 4 => "NotBeside"
  | 5 => "NotWithin"
def flE : Fin 4 → Str
  | 0 => "thing"
  | 1 => "thing"
  | 2 => "place"
  | 3 => "thing"
/-- the errors, as except clauses ask them -/
structure MetD (K : PySem.W.Frag) (mg : Str → Option Value) where
  C : Fin 6 → Addr
  g : ∀ i, mg (clE i) = some (.ref (C i))
  x : ∀ i : Fin 4, XfC K (C (i.castLE (by decide)))
  no : ∀ i : Fin 4, PySem.W.findIn K (.ref (C (i.castLE (by decide)))) (flE i) = some none
  is0 : ∀ j, PySem.W.exmOne K (.ref (C 0)) (.ref (C j)) = some (decide (0 = j))
  is4 : ∀ j, PySem.W.exmOne K (.ref (C 4)) (.ref (C j)) = some (decide (4 = j))
section
variable {K : PySem.W.Frag} {mg : Str → Option Value}
/-- an error of these, met -/
def Emet (M : MetD K mg) (Q : VK) : XK := fun cls d H => (∃ (v : V) (dd : Addr), cls = .ref (M.C 0) ∧ d = some dd ∧ H dd = some (.xd [("thing", v)]) ∧ ∀ t, H t = none → Q (.ref t) (upd H t (.tup [.str "board", v]))) ∨
  (cls = .ref (M.C 4) ∧ ∀ t, H t = none → Q (.ref t) (upd H t (.tup [.str "beside"])))
def TTmet (M : MetD K mg) : (XK → Hp → VK → Prop) → Hp → VK → Prop := fun tl H Q =>
  tl (Emet M Q) H (fun v H1 => ([V.str "told", v] : List V).length ≤ sizeLine ∧ ∀ t, H1 t = none → Q (.ref t) (upd H1 t (.tup [.str "told", v])))
end
section
variable {X : Cx}
theorem met_gives (M : MetD X.K X.mg) {q : Str} {g : Addr} {cdg : Value} : GivesTo X N_met "_law_j_met" (defScope (topS 53)) g cdg (defBody (topS 53)) "_law_ask" q (TTmet M) := by
  intro f c' s H Q tl act hc h
  refine ⟨_, pss_one (ps_try_mix (X := (cxOf C8.CX0 X.prog X.w X.K X.mg X.base N_met "_law_j_met" (defScope (topS 53)) g cdg X.A X.stack s H C8.E0).nox) (n := "e") (i := 1)
      (tb := fun W D' σ H => ∃ Ech : XK, (∀ cls d σ' H', Ech cls d H' → W cls d σ' H') ∧ σ[0]? = some (some (.ref f)) ∧ H c' = some (CodeO c' q) ∧ tl Ech H (fun v H1 => ([V.str "told", v] : List V).length ≤ sizeLine ∧ ∀ t, H1 t = none → D'.rt (.ref t) (upd H1 t (.tup [.str "told", v]))))
      rfl rfl sc_met.nd rfl rfl L2.takes0 (fun W pn xe tk _ => ?_)
      (.cons ⟨by rfl, by decide, .inl (M.g 0)⟩ (fun z oz cls d pn hz hf => pss_one (ps_ret (pe_tup (pa_cons pe_str (pa_cons (pe_xf (M.x 0) (M.no 0) hz hf (pv 1)) pa_nil)))))
      (.cons ⟨by rfl, by decide, .inl (M.g 1)⟩ (fun z oz cls d pn hz hf => pss_one (ps_ret (pe_tup (pa_cons pe_str (pa_cons (pe_xf (M.x 1) (M.no 1) hz hf (pv 1)) pa_nil)))))
      (.cons ⟨by rfl, by decide, .inl (M.g 2)⟩ (fun z oz cls d pn hz hf => pss_one (ps_ret (pe_tup (pa_cons pe_str (pa_cons (pe_xf (M.x 2) (M.no 2) hz hf (pv 1)) pa_nil)))))
      (.cons ⟨by rfl, by decide, .inl (M.g 3)⟩ (fun z oz cls d pn hz hf => pss_one (ps_ret (pe_tup (pa_cons pe_str (pa_cons (pe_xf (M.x 3) (M.no 3) hz hf (pv 1)) pa_nil)))))
      (.bare ⟨by rfl, by decide, .inl (M.g 4)⟩ (fun z oz cls d pn hz hf => pss_one (ps_ret (pe_tup (pa_cons pe_str pa_nil))))
      (.bare ⟨by rfl, by decide, .inl (M.g 5)⟩ (fun z oz cls d pn hz hf => pss_one (ps_ret (pe_tup (pa_cons pe_str pa_nil))))
      .nil))))))), ?_⟩
  · refine ⟨fun pins s' σ H' D I h' => ?_⟩
    obtain ⟨Ech, hW, h1, h2, h3⟩ := h'
    refine PSs.run (t := tRet (tTup (tCons (tC (.str "told")) (tCons (fun σZ HZ Q => σZ[0]? = some (some (V.ref f)) ∧ HZ c' = some (CodeO c' q) ∧ tl Ech HZ Q) tNil)))) ?_ pins s' σ H' D I ⟨h1, h2, h3⟩
    exact pss_one (ps_ret (pe_tup (pa_cons pe_str (pa_cons (act W pn xe Ech _ _ tk hW) pa_nil))))
  · refine ⟨Emet M Q, ?_, rfl, hc, h⟩
    intro cls d σ' H' he hl
    have hl2 : σ'.length = 2 := hl
    have slot : ∀ a : Addr, (σ'.set 1 (some (V.ref a)))[1]? = some (some (V.ref a)) := fun a => List.getElem?_set_self (by omega)
    have s2 : 2 ≤ sizeLine := by decide
    rcases he with ⟨v, dd, rfl, rfl, hdd, k⟩ | ⟨rfl, k⟩
    · exact ⟨true, M.is0 0, fun _ a na => by rw [if_pos rfl]; exact ⟨_, slot a, rfl, rfl, dd, _, v, rfl, hdd, rfl, s2, fun t nt => k t nt⟩, fun e => by cases e⟩
    · exact ⟨false, M.is4 0, (fun e => by cases e), fun _ => ⟨false, M.is4 1, (fun e => by cases e), fun _ => ⟨false, M.is4 2, (fun e => by cases e), fun _ => ⟨false, M.is4 3, (fun e => by cases e), fun _ => ⟨true, M.is4 4, fun _ a na => by rw [if_neg (show ¬ (false = true) from by decide)]; exact ⟨by show 1 ≤ sizeLine; decide, fun t nt => k t nt⟩, fun e => by cases e⟩⟩⟩⟩⟩
/-- _law_j_met(lambda: ..) -/
theorem pe_met (Z : LawD X.K X.mg) (M : MetD X.K X.mg) {T : List (Addr × Str)} {c P : Addr} {k : Nat} {params : Arguments} {body : Expr} {scope : Scope} {t : XK → TE} {p lpos pos : Pos} (hg : Gl X "_law_j_met") (TB : TabB X.base X.mg c P) (hcode : X.env.code = .ref c)
    (hmT : (P, X.env.qual ++ "<lambda>") ∈ T) (hu : ∀ p ∈ T, p.1 = P → p.2 = X.env.qual ++ "<lambda>") (hr : Room (k + 2) X.A) (L : LamS X.env.scope scope) (hdef : defaultsOf params X.env = ([], []))
    (hbind : ∀ (q : Str) (cl : List (Str × Addr)) (pm cv ctv : Value), bindArgs (PySem.W.kla_fn "<lambda>" q params body scope cl pm cv ctv) ⟨[], []⟩ = pure [])
    (hbody : ∀ (A : Around) (outer : List Env) (s : Shared) (H : Hp) (E : XK) (f c' : Addr), Room k (A.deeper (lamEnv X scope s.heap.objs.size f c')) → PE (lamCx X A outer s H E scope f c') body (t E)) :
    PE X (.Call (.Name "_law_j_met" p) [.Lambda params body scope lpos] [] pos) (tLam T (TTmet M) t) := by
  have F : Fun X.K "_law_j_met" "_law_j_met" (topS 53) (Z.f 53) (Z.d 53) := Z.F 53 (by decide)
  have bd : Binds X.K (Z.d 53) ["_law_ask"] [] := F.binds fun _ _ _ _ _ _ us hl => match us, hl with | [_], _ => rfl
  obtain ⟨oc, od, kV, doc, pm, an, cdv, ct, osl, e, lk, hcd⟩ := F.ex
  rw [e] at bd lk
  exact pe_lamcall hg (Z.g 53 (by decide)) F.kp lk hcd bd sc_met rfl (.inl rfl) (met_gives M) TB hcode hmT hu hr L hdef hbind hbody
end
end E1

set_option Elab.async false
set_option linter.all false
set_option maxRecDepth 100000
set_option maxHeartbeats 8000000
/-! A frame that lets tables of code objects grow; what is refused. -/
namespace E1
open PySem PySem.Spec PyProof.Rows L2 G0 LamX
/-- the stream at hand, the tables right, all but these as it stood -/
structure Kx (T : List (Addr × Str)) (p l : Addr) (n : Nat) (H H' : Hp) : Prop where
  st : Stm H' p l n
  tb : Tabs T H'
  but : ∀ b o, H b = some o → b ≠ p → b ≠ l → (∀ ps, o ≠ .tbl ps) → H' b = some o
theorem codeO_lst {c : Addr} {q : Str} (xs : List V) : CodeO c q ≠ .lst xs := fun z => by
  unfold CodeO at z
  cases z
section
variable {T : List (Addr × Str)} {p l c : Addr} {n m : Nat} {H H1 H2 : Hp} {o : HO}
theorem tabs_fr (S : Stm H p l n) (t : Tabs T H) (F : Fr H p l m H1) : Tabs T H1 := fun q hq => by
  obtain ⟨⟨xs, hp⟩, ys, hl⟩ := S.at_
  obtain ⟨ps, h1, h2, h3⟩ := t q hq
  refine ⟨ps, F.but _ _ h1 (ne_of h1 hp (fun z => by cases z)) (ne_of h1 hl (fun z => by cases z)), h2, fun pos cv hc => ?_⟩
  obtain ⟨c, e1, e2⟩ := h3 pos cv hc
  exact ⟨c, e1, F.but _ _ e2 (ne_of e2 hp (fun z => codeO_lst _ z)) (ne_of e2 hl (fun z => codeO_lst _ z))⟩
theorem Kx.start (S : Stm H p l n) (t : Tabs T H) : Kx T p l n H H := ⟨S, t, fun _ _ e _ _ _ => e⟩
theorem Kx.fr (F : Kx T p l n H H1) (G : Fr H1 p l m H2) : Kx T p l m H H2 := ⟨G.st, tabs_fr F.st F.tb G, fun b o e h1 h2 h3 => G.but _ _ (F.but b o e h1 h2 h3) h1 h2⟩
theorem Kx.same (F : Kx T p l n H H1) (S : Same H1 H2) : Kx T p l n H H2 := ⟨F.st.same S, F.tb.ext S, fun b o e h1 h2 h3 => S _ _ (F.but b o e h1 h2 h3)⟩
theorem Kx.put (F : Kx T p l n H H1) (h : H1 c = none) : Kx T p l n H (upd H1 c o) := F.same (new_same h)
theorem stm_ext (S : Stm H p l n) (e : ExtN H H1) : Stm H1 p l n := by
  obtain ⟨k, ⟨⟨ns, b, d, hp, hl, r⟩, hne⟩, c0, c1⟩ := S
  exact ⟨k, ⟨⟨ns, b, d, e _ _ hp (fun ps z => by cases z), e _ _ hl (fun ps z => by cases z), r⟩, hne⟩, c0, c1⟩
theorem Kx.ext (F : Kx T p l n H H1) (e : ExtN H1 H2) (t : Tabs T H2) : Kx T p l n H H2 := ⟨stm_ext F.st e, t, fun b o e1 h1 h2 h3 => e _ _ (F.but b o e1 h1 h2 h3) h3⟩
theorem Kx.trans (F : Kx T p l n H H1) (G : Kx T p l m H1 H2) : Kx T p l m H H2 := ⟨G.st, G.tb, fun b o e h1 h2 h3 => G.but _ _ (F.but b o e h1 h2 h3) h1 h2 h3⟩
theorem Kx.mono (F : Kx T p l n H H1) (h : n ≤ m) : Kx T p l m H H1 := ⟨F.st.mono h, F.tb, F.but⟩
theorem Kx.ne (F : Kx T p l n H H1) (h : H1 c = none) : c ≠ p ∧ c ≠ l := by
  obtain ⟨⟨xs, hp⟩, ys, hl⟩ := F.st.at_
  exact ⟨(fun z => by rw [z, hp] at h; cases h), (fun z => by rw [z, hl] at h; cases h)⟩
theorem Kx.lst {xs : List V} (F : Kx T p l n H H1) (e : H c = some (.lst xs)) (h : c ≠ p ∧ c ≠ l) : H1 c = some (.lst xs) := F.but _ _ e h.1 h.2 (fun ps z => by cases z)
theorem Kx.tup {xs : List V} (F : Kx T p l n H H1) (e : H c = some (.tup xs)) (h : c ≠ p ∧ c ≠ l) : H1 c = some (.tup xs) := F.but _ _ e h.1 h.2 (fun ps z => by cases z)
theorem Kx.items {a : Addr} {xs : List V} (F : Kx T p l n H H1) (e : itemsOf H (.ref a) = some xs) (h : a ≠ p ∧ a ≠ l) : itemsOf H1 (.ref a) = some xs := items_at.mpr ((items_at.mp e).elim (fun q => .inl (F.lst q h)) fun q => .inr (F.tup q h))
theorem Kx.prs {tv : List V} {ts : List Pr} (F : Kx T p l n H H1) (pt : PrsAt H tv ts) (h : ∀ t, V.ref t ∈ tv → t ≠ p ∧ t ≠ l) : PrsAt H1 tv ts := ⟨pt.1, fun i v q e1 e2 => by
  obtain ⟨t, rfl, ht⟩ := pt.2 i v q e1 e2
  exact ⟨t, rfl, F.tup ht (h t (List.mem_of_getElem? e1))⟩⟩
theorem ext_items {a : Addr} {xs : List V} (e : ExtN H H1) (h : itemsOf H (.ref a) = some xs) : itemsOf H1 (.ref a) = some xs := items_at.mpr ((items_at.mp h).elim (fun q => .inl (e _ _ q fun ps z => by cases z)) fun q => .inr (e _ _ q fun ps z => by cases z))
theorem ext_itemsV {v : V} {xs : List V} (e : ExtN H H1) (h : itemsOf H v = some xs) : itemsOf H1 v = some xs := by
  cases v with
  | ref a => exact ext_items e h
  | _ => cases h
/-- a value's kind, and what is no list, stay -/
theorem kn_ext {C : Addr} {v : V} (k : Kn C H v) (e : ExtN H H1) : Kn C H1 v ∧ kdOf H1 v = kdOf H v ∧ itemsOf H1 v = itemsOf H v := by
  cases k with
  | non => exact ⟨.non, rfl, rfl⟩
  | bl b => exact ⟨.bl b, rfl, rfl⟩
  | int i => exact ⟨.int i, rfl, rfl⟩
  | str x => exact ⟨.str x, rfl, rfl⟩
  | lst h =>
    have h1 := e _ _ h (fun ps z => by cases z)
    exact ⟨.lst h1, by simp only [kdOf, h, h1], by simp only [itemsOf, h, h1]⟩
  | tup h =>
    have h1 := e _ _ h (fun ps z => by cases z)
    exact ⟨.tup h1, by simp only [kdOf, h, h1], by simp only [itemsOf, h, h1]⟩
  | dic h =>
    have h1 := e _ _ h (fun ps z => by cases z)
    exact ⟨.dic h1, by simp only [kdOf, h, h1], by simp only [itemsOf, h, h1]⟩
  | own h =>
    have h1 := e _ _ h (fun ps z => by cases z)
    exact ⟨.own h1, by simp only [kdOf, h, h1], by simp only [itemsOf, h, h1]⟩
theorem kn_kx {C : Addr} {v : V} (k : Kn C H v) (e : itemsOf H v = none) (S : Stm H p l m) (F : Kx T p l n H H1) : Kn C H1 v ∧ itemsOf H1 v = none := by
  obtain ⟨⟨xs, hp⟩, ys, hl⟩ := S.at_
  cases k with
  | non => exact ⟨.non, rfl⟩
  | bl b => exact ⟨.bl b, rfl⟩
  | int i => exact ⟨.int i, rfl⟩
  | str x => exact ⟨.str x, rfl⟩
  | lst h => rw [items_at.mpr (.inl h)] at e; cases e
  | tup h => rw [items_at.mpr (.inr h)] at e; cases e
  | @dic a kvs h =>
    have h1 := F.but _ _ h (ne_of h hp (fun z => by cases z)) (ne_of h hl (fun z => by cases z)) (fun ps z => by cases z)
    exact ⟨.dic h1, by simp only [itemsOf, h1]⟩
  | @own a dx fs h =>
    have h1 := F.but _ _ h (ne_of h hp (fun z => by cases z)) (ne_of h hl (fun z => by cases z)) (fun ps z => by cases z)
    exact ⟨.own h1, by simp only [itemsOf, h1]⟩
theorem Lq.kx {C : Addr} (S : Stm H p l m) (F : Kx T p l n H H1) : ∀ {i : Nat} {v : V} {k : Nat}, Lq C p l H i v k → Lq C p l H1 i v k
  | 0, _, _, h => kn_kx h.1 h.2 S F
  | i + 1, _, _, h => by
    rcases h with h | ⟨a, xs, c, rfl, h1, h2, h3, h4, h5, h6⟩
    · exact .inl (kn_kx h.1 h.2 S F)
    · exact .inr ⟨a, xs, c, rfl, F.items h1 ⟨h2, h3⟩, h2, h3, h4, fun x hx => Lq.kx S F (h5 x hx), h6⟩
end
/-! ### a loose copy, looked at -/
section
variable {C : Addr} {N : Addr → Prop} {H H' : Hp} {n : Nat} {v w : V}
theorem lz_list {xs : List V} (e : itemsOf H v = some xs) (z : Lz C N H H' (n + 1) v w) : ∃ a ys, w = .ref a ∧ itemsOf H' w = some ys ∧ N a ∧ xs.length = ys.length ∧ ∀ (i : Nat) (x y : V), xs[i]? = some x → ys[i]? = some y → Lz C (fun c => N c ∧ c ≠ a) H H' n x y := by
  rcases z with ⟨_, _, e2⟩ | ⟨xs', ys, b, e1, rfl, hb, nb, ll, k⟩
  · rw [e] at e2
    cases e2
  · rw [e] at e1
    cases e1
    exact ⟨b, ys, rfl, items_at.mpr hb, nb, ll, k⟩
theorem lz_str {s : Str} (z : Lz C N H H' n v w) (e : w = .str s) : v = .str s := by
  cases n with
  | zero => exact z.1.symm.trans e
  | succ n =>
    rcases z with h | ⟨xs, ys, a, _, rfl, _⟩
    · exact h.1.symm.trans e
    · cases e
/-- its kind: what is no list stands as it stood -/
theorem lz_kn {p l : Addr} {m m2 : Nat} (S : Stm H p l m) (F : Fr H p l m2 H') (z : Lz C N H H' n v w) : Kn C H' w := by
  cases n with
  | zero =>
    obtain ⟨rfl, h1, h2⟩ := z
    exact (kn_but h1 h2 S F.but).1
  | succ n =>
    rcases z with ⟨rfl, h1, h2⟩ | ⟨xs, ys, a, _, rfl, hb, _⟩
    · exact (kn_but h1 h2 S F.but).1
    · exact items_kn (items_at.mpr hb)
/-- its items, told back -/
theorem lz_back {ys : List V} {p l : Addr} {m m2 : Nat} (S : Stm H p l m) (F : Fr H p l m2 H') (z : Lz C N H H' (n + 1) v w) (e : itemsOf H' w = some ys) : ∃ xs, itemsOf H v = some xs ∧ xs.length = ys.length ∧ ∀ (i : Nat) (x y : V), xs[i]? = some x → ys[i]? = some y → ∃ N', Lz C N' H H' n x y := by
  rcases z with ⟨rfl, h1, h2⟩ | ⟨xs, ys', a, h1, rfl, hb, na, ll, k⟩
  · rw [(kn_but h1 h2 S F.but).2] at e
    cases e
  · rw [items_at.mpr hb] at e
    cases e
    exact ⟨xs, h1, ll, fun i x y e1 e2 => ⟨_, k i x y e1 e2⟩⟩
theorem lz_pair {a b : Str} {p l : Addr} {m m2 : Nat} (S : Stm H p l m) (F : Fr H p l m2 H') (z : Lz C N H H' (n + 1) v w) (e : itemsOf H' w = some [.str a, .str b]) : itemsOf H v = some [.str a, .str b] := by
  obtain ⟨xs, h1, ll, k⟩ := lz_back S F z e
  match xs, ll with
  | [x, y], _ =>
    obtain ⟨_, z1⟩ := k 0 x (.str a) rfl rfl
    obtain ⟨_, z2⟩ := k 1 y (.str b) rfl rfl
    rw [h1, lz_str z1 rfl, lz_str z2 rfl]
end
end E1

set_option Elab.async false
set_option linter.all false
set_option maxRecDepth 100000
set_option maxHeartbeats 8000000
/-! What is one's own under such a frame. -/
namespace E1
open PySem PySem.Spec PyProof.Rows L2 G0 LamX
theorem sm_tup {C : Addr} {H : Hp} {a b : Addr} {s : Str} {v w : V} {n : Nat} (ha : H a = some (.tup [.str s, v])) (hb : H b = some (.tup [.str s, w])) (h : SmN C (n + 1) v w H) : SmN C (n + 2) (.ref a) (.ref b) H := by
  refine .inr (.inr (.inl ⟨a, b, _, _, rfl, rfl, .inr ⟨ha, hb⟩, rfl, by show 2 ≤ 2000; decide, fun i x y e1 e2 => ?_⟩))
  match i, e1, e2 with
  | 0, e1, e2 =>
    cases e1
    cases e2
    exact .inl ⟨rfl, rfl⟩
  | 1, e1, e2 =>
    cases e1
    cases e2
    exact h
  | i + 2, e1, e2 => simp at e1
theorem sm_sc {C : Addr} {H : Hp} {v : V} {n : Nat} (h : scV v = true) : SmN C (n + 1) v v H := .inl ⟨rfl, h⟩
/-- nothing stood here but a table, perhaps -/
def New (H : Hp) (f : Addr) : Prop := ∀ o, H f = some o → ∃ ps, o = .tbl ps
section
variable {T : List (Addr × Str)} {p l f : Addr} {n : Nat} {H H1 : Hp} {xs ys : List V}
theorem Kx.new (F : Kx T p l n H H1) (h : H1 f = none) : New H f := fun o e => by
  by_cases ht : ∃ ps, o = .tbl ps
  · exact ht
  · have ne := F.ne h
    have := F.but f o e ne.1 ne.2 fun ps q => ht ⟨ps, q⟩
    rw [h] at this
    cases this
theorem tabs_own (t : Tabs T H1) (h : H1 f = some (.lst xs)) : Tabs T (upd H1 f (.lst ys)) := fun q hq => by
  obtain ⟨ps, h1, h2, h3⟩ := t q hq
  refine ⟨ps, by rw [upd_ne (ne_of h1 h (fun z => by cases z))]; exact h1, h2, fun pos cv hc => ?_⟩
  obtain ⟨c, e1, e2⟩ := h3 pos cv hc
  exact ⟨c, e1, by rw [upd_ne (ne_of e2 h (fun z => codeO_lst _ z))]; exact e2⟩
/-- a list of one's own is written -/
theorem Kx.own (F : Kx T p l n H H1) (nf : New H f) (h : H1 f = some (.lst xs)) (ne : f ≠ p ∧ f ≠ l) : Kx T p l n H (upd H1 f (.lst ys)) :=
  ⟨F.st.upd ne.1.symm ne.2.symm, tabs_own F.tb h, fun b o e h1 h2 h3 => by
    by_cases hb : b = f
    · rw [hb] at e
      obtain ⟨ps, q⟩ := nf o e
      exact absurd q (h3 ps)
    · rw [upd_ne hb]
      exact F.but b o e h1 h2 h3⟩
theorem BoardAt.nt {N : Addr → Prop} {C : Addr} {a : Addr} {pl : List Str} {ts : List Pr} {rm : List Str} (b : BoardAt N C H a pl ts rm) : BoardAt (fun c => N c ∧ ∀ ps, H c ≠ some (.tbl ps)) C H a pl ts rm := by
  obtain ⟨dx, aP, aT, aR, aN, tv, l, h1, h2, h3, h4, h5, h6, h7, n1, n2, n3, n4, n5, n6, n7⟩ := b
  refine ⟨dx, aP, aT, aR, aN, tv, l, h1, h2, h3, h4, h5, h6, h7, ⟨n1, fun ps e => by rw [h1] at e; cases e⟩, ⟨n2, fun ps e => by rw [h2] at e; cases e⟩, ⟨n3, fun ps e => by rw [h3] at e; cases e⟩, ⟨n4, fun ps e => by rw [h5] at e; cases e⟩, ⟨n5, fun ps e => by rw [h6.d] at e; cases e⟩,
    fun s hs => ⟨n6 s hs, fun ps e => by rw [h6.at_ s hs] at e; cases e⟩, fun t ht => ⟨n7 t ht, fun ps e => ?_⟩⟩
  obtain ⟨i, hi⟩ := List.getElem?_of_mem ht
  have hl : i < ts.length := by
    rw [← h4.1]
    exact (List.getElem?_eq_some_iff.mp hi).1
  obtain ⟨t', q, ht'⟩ := h4.2 i _ _ hi (List.getElem?_eq_getElem hl)
  cases q
  rw [ht'] at e
  cases e
theorem BoardAt.kx {N : Addr → Prop} {C : Addr} {a : Addr} {pl : List Str} {ts : List Pr} {rm : List Str} (b : BoardAt N C H a pl ts rm) (hN : ∀ c, N c → c ≠ p ∧ c ≠ l) (F : Kx T p l n H H1) : BoardAt (fun _ => True) C H1 a pl ts rm :=
  ((b.nt).frame (H' := H1) fun c o hc e => F.but c o e (hN c hc.1).1 (hN c hc.1).2 fun ps q => hc.2 ps (by rw [e, q])).weak fun _ _ => trivial
theorem BoardAt.kxN {N : Addr → Prop} {C : Addr} {a : Addr} {pl : List Str} {ts : List Pr} {rm : List Str} (b : BoardAt N C H a pl ts rm) (hN : ∀ c, N c → c ≠ p ∧ c ≠ l) (F : Kx T p l n H H1) : BoardAt N C H1 a pl ts rm :=
  ((b.nt).frame (H' := H1) fun c o hc e => F.but c o e (hN c hc.1).1 (hN c hc.1).2 fun ps q => hc.2 ps (by rw [e, q])).weak fun _ h => h.1
theorem BoardAt.ext {N : Addr → Prop} {C : Addr} {a : Addr} {pl : List Str} {ts : List Pr} {rm : List Str} (b : BoardAt N C H a pl ts rm) (e : ExtN H H1) : BoardAt N C H1 a pl ts rm :=
  ((b.nt).frame (H' := H1) fun c o hc q => e c o q fun ps z => hc.2 ps (by rw [q, z])).weak fun _ h => h.1
end
end E1

set_option Elab.async false
set_option linter.all false
set_option maxRecDepth 100000
set_option maxHeartbeats 8000000
/-! What is asked of the program: the stretch of two boards, the two as one. -/
namespace E1
open PySem PySem.Spec PyProof.Rows L2 G0
/-- few ties, nobody twice -/
def Few (pl : List Str) (ts : List Pr) (rm : List Str) : Prop := ts.length ≤ 31 ∧ pl.Nodup ∧ rm.Nodup ∧ TsOk pl ts
theorem TsOk.sorted {pl : List Str} {us : List Pr} (t : TsOk pl us) : TsOk (sortS pl) (sortPr us) := (t.perm (sortPr_perm us)).mono fun z hz => (sortS_perm pl).mem_iff.mpr hz
theorem RawOk.fewS {pl : List Str} {us : List Pr} {rm : List Str} (r : RawOk pl us rm) : Few (sortS pl) (sortPr us) rm := ⟨by rw [(sortPr_perm us).length_eq]; exact r.few, (sortS_perm pl).nodup_iff.mpr r.nd, r.rnd, r.ts.sorted⟩
/-- two boards handed, or something that is none refused -/
def twoB {K : PySem.W.Frag} {mg : Str → Option Value} (M : MetD K mg) (CB : Addr) (v w : V) (H : Hp) (E : XK) (k : ∀ (x y : Addr) (pl : List Str) (ts : List Pr) (rm pl' : List Str) (ts' : List Pr) (rm' : List Str), Prop) : Prop :=
  Kn CB H v ∧ ((kdOf H v ≠ "" ∧ Raised H (M.C 0) "thing" v E) ∨ ∃ x pl ts rm, v = .ref x ∧ BoardAt (fun _ => True) CB H x pl ts rm ∧ pl.length ≤ 44 ∧ Few pl ts rm ∧ Kn CB H w ∧
    ((kdOf H w ≠ "" ∧ Raised H (M.C 0) "thing" w E) ∨ ∃ y pl' ts' rm', w = .ref y ∧ BoardAt (fun _ => True) CB H y pl' ts' rm' ∧ pl'.length ≤ 44 ∧ Few pl' ts' rm' ∧ k x y pl ts rm pl' ts' rm'))
/-- the stretch told: None, or a new list -/
def RowAns (H H' : Hp) (u : V) : Option (List Str × List Str × List Str) → Prop
  | none => u = .non
  | some (row, _, _) => ∃ a, u = .ref a ∧ H a = none ∧ H' a = some (.lst (row.map V.str))
def spAskC {K : PySem.W.Frag} {mg : Str → Option Value} (M : MetD K mg) (CB : Addr) : Sp := fun vs H Q E => ∃ v w, vs = [v, w] ∧ twoB M CB v w H E fun x y pl ts rm pl' ts' rm' =>
  ∀ u H', Same H H' → RowAns H H' u (stretch pl rm pl' rm') → Q u H'
def spAskB {K : PySem.W.Frag} {mg : Str → Option Value} (M : MetD K mg) (CB : Addr) : Sp := fun vs H Q E => ∃ v w, vs = [v, w] ∧ twoB M CB v w H E fun x y pl ts rm pl' ts' rm' =>
  (stretch pl rm pl' rm' = none → ∀ d H', Same H H' → E (.ref (M.C 4)) d H') ∧
  ∀ row mine theirs, stretch pl rm pl' rm' = some (row, mine, theirs) → ∀ u H', BoardAt (fun c => H c = none) CB H' u (wholeP pl pl') (sortPr (once (ts ++ ts'))) (mine ++ theirs) → Same H H' → Q (.ref u) H'
end E1

set_option Elab.async false
set_option linter.all false
set_option maxRecDepth 100000
set_option maxHeartbeats 16000000
/-! What is no board is refused. -/
namespace E1
open PySem PySem.Spec PyProof.Rows L2 G0 LamX
theorem sm_three {C : Addr} {H : Hp} {a b c : V} {n : Nat} {v : Addr} (h : H v = some (.tup [a, b, c])) (ha : SmN C n a a H) (hb : SmN C n b b H) (hc : SmN C n c c H) : SmN C (n + 1) (.ref v) (.ref v) H := by
  refine .inr (.inr (.inl ⟨v, v, _, _, rfl, rfl, .inr ⟨h, h⟩, rfl, by show 3 ≤ 2000; decide, fun i x y e1 e2 => ?_⟩))
  rw [e1] at e2
  cases e2
  have hm := List.mem_of_getElem? e1
  simp only [List.mem_cons, List.not_mem_nil, or_false] at hm
  rcases hm with rfl | rfl | rfl
  · exact ha
  · exact hb
  · exact hc
/-- a list of one's own of what was met -/
structure FoundAt (T : List (Addr × Str)) (p l : Addr) (n : Nat) (H0 : Hp) (f : Addr) (y : V) (us : List Addr) (H : Hp) : Prop where
  K : Kx T p l n H0 H
  nf : New H0 f
  fp : f ≠ p ∧ f ≠ l
  hf : H f = some (.lst (us.map V.ref))
  us : ∀ u ∈ us, H u = some (.tup [.str "board", y])
theorem FoundAt.to {T : List (Addr × Str)} {p l : Addr} {n : Nat} {H0 : Hp} {f : Addr} {y : V} {us : List Addr} {H H8 H9 : Hp} (F : FoundAt T p l n H0 f y us H) (e : ExtN H H8) (t : Tabs T H8) (S : Same H8 H9) : FoundAt T p l n H0 f y us H9 :=
  ⟨(F.K.ext e t).same S, F.nf, F.fp, S _ _ (e _ _ F.hf (fun ps z => by cases z)), fun u hu => S _ _ (e _ _ (F.us u hu) (fun ps z => by cases z))⟩
theorem FoundAt.same {T : List (Addr × Str)} {p l : Addr} {n : Nat} {H0 : Hp} {f : Addr} {y : V} {us : List Addr} {H H9 : Hp} (F : FoundAt T p l n H0 f y us H) (S : Same H H9) : FoundAt T p l n H0 f y us H9 :=
  ⟨F.K.same S, F.nf, F.fp, S _ _ F.hf, fun u hu => S _ _ (F.us u hu)⟩
theorem FoundAt.app {T : List (Addr × Str)} {p l : Addr} {n : Nat} {H0 : Hp} {f u : Addr} {y : V} {us : List Addr} {H : Hp} (F : FoundAt T p l n H0 f y us H) (nu : H u = none) : FoundAt T p l n H0 f y (us ++ [u]) (upd (upd H u (.tup [.str "board", y])) f (.lst (us.map V.ref ++ [.ref u]))) := by
  have S := new_same (o := .tup [.str "board", y]) nu
  refine ⟨(F.K.same S).own F.nf (S _ _ F.hf) F.fp, F.nf, F.fp, by rw [upd_same, List.map_append]; rfl, fun v hv => ?_⟩
  have key : (upd H u (.tup [.str "board", y])) v = some (.tup [.str "board", y]) := by
    rcases List.mem_append.mp hv with h | h
    · exact S _ _ (F.us v h)
    · cases List.mem_singleton.mp h
      exact upd_same
  rw [upd_ne (ne_of key (S _ _ F.hf) (fun z => by cases z))]
  exact key
theorem sm_rep {C : Addr} {H : Hp} {f c c1 : Addr} {y : V} {us : List Addr} {n : Nat} (hf : H f = some (.lst (us.map V.ref))) (hu : ∀ u ∈ us, H u = some (.tup [.str "board", y])) (hc : H c = some (.lst (us.map fun _ => V.ref c1))) (h1 : H c1 = some (.tup [.str "board", y])) (l : us.length ≤ 2000) (hy : SmN C (n + 1) y y H) : SmN C (n + 3) (.ref f) (.ref c) H := by
  refine .inr (.inr (.inl ⟨f, c, _, _, rfl, rfl, .inl ⟨hf, hc⟩, by rw [List.length_map, List.length_map], by rw [List.length_map]; exact l, fun i a b e1 e2 => ?_⟩))
  rw [List.getElem?_map] at e1 e2
  cases e : us[i]? with
  | none => rw [e] at e1; cases e1
  | some u =>
    rw [e] at e1 e2
    cases e1
    cases e2
    exact sm_tup (hu u (List.mem_of_getElem? e)) h1 hy
abbrev N_ref : List Str := ["_law_board", "_law_held", "_law_odd", "_law_found"]
theorem sc_ref : FnScope N_ref ["_law_board"] (defScope (topS 63)) := ⟨rfl, rfl, rfl, by decide +kernel, rfl, by decide +kernel, by decide +kernel⟩
def qRef : Str := "_law_refused_right.<locals>.<lambda>"
def spRef (T : List (Addr × Str)) (C : Addr) : Sp := fun vs H Q _ => ∃ (p l x : Addr) (n : Nat) (pl : List Str) (ts : List Pr) (rm : List Str), vs = [.ref x] ∧ Stm H p l n ∧ Tabs T H ∧ BoardAt (fun c => c ≠ p ∧ c ≠ l) C H x pl ts rm ∧ pl.length ≤ 44 ∧ Few pl ts rm ∧
  ∀ H', Kx T p l n H H' → Q (.bl true) H'
section
variable {P : Program} {w : World} {K : PySem.W.Frag} {mg : Str → Option Value} {base : Heap}
theorem bRefused (Z : LawD K mg) : Binds K (Z.d 63) ["_law_board"] [] := (Z.F 63 (by decide)).binds fun _ _ _ _ _ _ us hl => match us, hl with | [_], _ => rfl
theorem ok_ref (Z : LawD K mg) (M : MetD K mg) (GC : FnOk P w K mg base (L2.CX P w) 6 (Z.f 37) (Z.d 37) ["one", "other"] (spAskC M Z.B.C)) (GB : FnOk P w K mg base (L2.CX P w) 7 (Z.f 40) (Z.d 40) ["one", "other"] (spAskB M Z.B.C)) (bC : Binds K (Z.d 37) ["one", "other"] []) (bB : Binds K (Z.d 40) ["one", "other"] [])
    {T : List (Addr × Str)} {Pt : Addr} (hmT : (Pt, qRef) ∈ T) (huT : ∀ q ∈ T, q.1 = Pt → q.2 = qRef) (hTB : ∀ (oc : Value) (od : Option Addr) (kV doc pm : Value) (an : Option Addr) (cc : Addr) (ct : Value) (osl : Array (Option Value)), K.lookup (Z.f 63) = some ⟨oc, od, .func (PySem.W.fnOf (tName 63) (tName 63) (defArgs (topS 63)) (defBody (topS 63)) (defScope (topS 63)) .none kV doc pm an (.ref cc) ct), osl⟩ → TabB base mg cc Pt) :
    FnOk P w K mg base CX0 10 (Z.f 63) (Z.d 63) ["_law_board"] (spRef T Z.B.C) := by
  have GS : FnOk P w K mg base CX0 8 (Z.f 57) (Z.d 57) ["_law_found", "_law_due"] (spSame (SmN Z.B.C 7)) := ok_same Z 7
  obtain ⟨oc, od, kV, doc, pm, an, cdv, ct, osl, e, lk, hcd⟩ := (Z.F 63 (by decide)).ex
  obtain ⟨cc, rfl⟩ := He.codeIn_ref hcd
  rw [e] at lk ⊢
  have TB := hTB _ _ _ _ _ _ _ _ _ lk
  refine fn_of lk hcd sc_ref (fun vs H Q E h => ?_) (fun A outer s H vs Q E hr h => ⟨_, PSs.nox (pss_cons (ps_set (i := 1) sc_ref.nd rfl (Or.inr rfl) (pe_lst (pa_cons pe_str pa_nil)))
  (pss_cons (ps_for PassesOwn.never rfl (pi_tup (pe_tup (pa_cons pe_non (pa_cons pe_int (pa_cons pe_str (pa_cons (pe_lst pa_nil) (pa_cons pe_dnewK (pa_cons pe_bl (pa_cons (pe_tup (pa_cons (pe_lst (pa_cons pe_str pa_nil)) (pa_cons (pe_lst pa_nil) (pa_cons (pe_lst pa_nil) pa_nil)))) (pa_cons (pv 1) pa_nil)))))))))) (pg_name (i := 2) sc_ref.nd rfl (Or.inr rfl))
    (pss_cons (ps_set (i := 3) sc_ref.nd rfl (Or.inl rfl) (pe_lst (pa_cons (pe_met Z M (T := T) (c := cc) (P := Pt) (t := fun E => tCall (spAskC M Z.B.C) [] E (tCons (tVar 2) (tCons (tC .non) tNil))) (by rfl) TB rfl hmT huT hr (lamS_by (sc := defScope (topS 63)) (by decide +kernel)) rfl (fun _ _ _ _ _ => rfl) (fun A outer s H E f c' hr2 => pe_call GC (hr2.mono (by decide)) (by rfl) (Z.g 37 (by decide)) (Z.F 37 (by decide)).kp bC .nil (passes_call (takes_of rfl rfl rfl rfl) (fun _ _ _ _ h => h)) (pa_cons (pv 2) (pa_cons pe_non pa_nil)))) pa_nil)))
  (pss_cons (ps_expr (pe_bm PySem.F.plainAttrs_list PySem.F.slot_list_append PySem.F.type_list_append mt_append (pv 3) (pa_cons (pe_met Z M (T := T) (c := cc) (P := Pt) (t := fun E => tCall (spAskB M Z.B.C) [] E (tCons (tVar 2) (tCons (tC .non) tNil))) (by rfl) TB rfl hmT huT hr (lamS_by (sc := defScope (topS 63)) (by decide +kernel)) rfl (fun _ _ _ _ _ => rfl) (fun A outer s H E f c' hr2 => pe_call GB (hr2.mono (by decide)) (by rfl) (Z.g 40 (by decide)) (Z.F 40 (by decide)).kp bB .nil (passes_call (takes_of rfl rfl rfl rfl) (fun _ _ _ _ h => h)) (pa_cons (pv 2) (pa_cons pe_non pa_nil)))) pa_nil)))
  (pss_cons (ps_expr (pe_bm PySem.F.plainAttrs_list PySem.F.slot_list_append PySem.F.type_list_append mt_append (pv 3) (pa_cons (pe_met Z M (T := T) (c := cc) (P := Pt) (t := fun E => tCall (spAskC M Z.B.C) [] E (tCons (tVar 0) (tCons (tVar 2) tNil))) (by rfl) TB rfl hmT huT hr (lamS_by (sc := defScope (topS 63)) (by decide +kernel)) rfl (fun _ _ _ _ _ => rfl) (fun A outer s H E f c' hr2 => pe_call GC (hr2.mono (by decide)) (by rfl) (Z.g 37 (by decide)) (Z.F 37 (by decide)).kp bC .nil (passes_call (takes_of rfl rfl rfl rfl) (fun _ _ _ _ h => h)) (pa_cons (pv 0) (pa_cons (pv 2) pa_nil)))) pa_nil)))
  (pss_cons (ps_expr (pe_bm PySem.F.plainAttrs_list PySem.F.slot_list_append PySem.F.type_list_append mt_append (pv 3) (pa_cons (pe_met Z M (T := T) (c := cc) (P := Pt) (t := fun E => tCall (spAskB M Z.B.C) [] E (tCons (tVar 0) (tCons (tVar 2) tNil))) (by rfl) TB rfl hmT huT hr (lamS_by (sc := defScope (topS 63)) (by decide +kernel)) rfl (fun _ _ _ _ _ => rfl) (fun A outer s H E f c' hr2 => pe_call GB (hr2.mono (by decide)) (by rfl) (Z.g 40 (by decide)) (Z.F 40 (by decide)).kp bB .nil (passes_call (takes_of rfl rfl rfl rfl) (fun _ _ _ _ h => h)) (pa_cons (pv 0) (pa_cons (pv 2) pa_nil)))) pa_nil)))
  (pss_one (ps_if (pt_not (pt_val (pe_call GS (hr.mono (by decide)) (by rfl) (Z.g 57 (by decide)) (Z.F 57 (by decide)).kp (bSame Z) .nil pass0 (pa_cons (pv 3) (pa_cons (pe_op op_rep (pe_lst (pa_cons (pe_tup (pa_cons pe_str (pa_cons (pv 2) pa_nil))) pa_nil)) pe_int) pa_nil))))) (pss_one (ps_ret pe_bl)) pss_nil)))))))
  (pss_cons (ps_set (i := 3) sc_ref.nd rfl (Or.inl rfl) (pe_met Z M (T := T) (c := cc) (P := Pt) (t := fun E => tCall (spAskB M Z.B.C) [] E (tCons (tVar 0) (tCons (tVar 1) tNil))) (by rfl) TB rfl hmT huT hr (lamS_by (sc := defScope (topS 63)) (by decide +kernel)) rfl (fun _ _ _ _ _ => rfl) (fun A outer s H E f c' hr2 => pe_call GB (hr2.mono (by decide)) (by rfl) (Z.g 40 (by decide)) (Z.F 40 (by decide)).kp bB .nil (passes_call (takes_of rfl rfl rfl rfl) (fun _ _ _ _ h => h)) (pa_cons (pv 0) (pa_cons (pv 1) pa_nil)))))
  (pss_cons (ps_expr (pe_bm PySem.F.plainAttrs_list PySem.F.slot_list_append PySem.F.type_list_append mt_append (pv 1) (pa_cons pe_str pa_nil)))
  (pss_one (ps_ret (pe_call GS (hr.mono (by decide)) (by rfl) (Z.g 57 (by decide)) (Z.F 57 (by decide)).kp (bSame Z) .nil pass0 (pa_cons (pv 3) (pa_cons (pe_tup (pa_cons pe_str (pa_cons (pv 1) pa_nil))) pa_nil))))))))), ?_⟩)
  · obtain ⟨p, l, x, n, pl, ts, rm, rfl, _⟩ := h
    rfl
  obtain ⟨p, l, x, n, pl, ts, rm, rfl, S, hT, hB, lpl, lts, k⟩ := h
  have sz : 5000 < sizeLine := by decide
  refine ⟨by show 1 ≤ sizeLine; decide, fun hd nhd => ?_⟩
  have K1 := (Kx.start S hT).put nhd (o := .lst [.str "x"])
  have kh := (Kx.start S hT).ne nhd
  have hnew := (Kx.start S hT).new nhd
  have h1 := upd_same (H := H) (a := hd) (o := .lst [.str "x"])
  have hB1 := hB.same (new_same (o := .lst [.str "x"]) nhd)
  generalize upd H hd (.lst [.str "x"]) = H1 at K1 h1 hB1 ⊢
  refine ⟨Nat.zero_le _, fun l0 n0 => fun d0 nd0 => ⟨by show 1 ≤ sizeLine; decide, fun a1 na1 => ⟨Nat.zero_le _, fun a2 na2 => ⟨Nat.zero_le _, fun a3 na3 => ⟨by show 3 ≤ sizeLine; decide, fun rt nrt => ⟨_, rfl, by show 8 ≤ sizeLine; decide, fun t nt => ⟨t, rfl, ⟨_, SqT.of upd_same⟩, ?_⟩⟩⟩⟩⟩⟩⟩
  have k0 := K1.ne n0
  have K2 := K1.put n0 (o := .lst [])
  have kd := K2.ne nd0
  have K3 := K2.put nd0 (o := .dK [])
  have k1 := K3.ne na1
  have K4 := K3.put na1 (o := .lst [.str "a"])
  have k2 := K4.ne na2
  have K5 := K4.put na2 (o := .lst [])
  have k3 := K5.ne na3
  have K6 := K5.put na3 (o := .lst [])
  have kr := K6.ne nrt
  have K7 := K6.put nrt (o := .tup [.ref a1, .ref a2, .ref a3])
  have kt := K7.ne nt
  have K8 := K7.put nt (o := .tup [.non, .int 5, .str "a", .ref l0, .ref d0, .bl true, .ref rt, .ref hd])
  have s7 := new_same nt (o := .tup [.non, .int 5, .str "a", .ref l0, .ref d0, .bl true, .ref rt, .ref hd])
  have s6 := (new_same nrt (o := .tup [.ref a1, .ref a2, .ref a3])).trans s7
  have s5 := (new_same na3 (o := .lst [])).trans s6
  have s4 := (new_same na2 (o := .lst [])).trans s5
  have s3 := (new_same na1 (o := .lst [.str "a"])).trans s4
  have s2 := (new_same nd0 (o := .dK [])).trans s3
  have s1 := (new_same n0 (o := .lst [])).trans s2
  have f0 := s2 _ _ (upd_same (a := l0) (o := .lst []) (H := H1))
  have fd := s3 d0 _ upd_same
  have f1 := s4 a1 _ upd_same
  have f2 := s5 a2 _ upd_same
  have f3 := s6 a3 _ upd_same
  have fr := s7 rt _ upd_same
  have fh := s1 _ _ h1
  have hB8 := hB1.same s1
  have ft : (upd (upd (upd (upd (upd (upd (upd H1 l0 (.lst [])) d0 (.dK [])) a1 (.lst [.str "a"])) a2 (.lst [])) a3 (.lst [])) rt (.tup [.ref a1, .ref a2, .ref a3])) t (.tup [.non, .int 5, .str "a", .ref l0, .ref d0, .bl true, .ref rt, .ref hd])) t = some (.tup [.non, .int 5, .str "a", .ref l0, .ref d0, .bl true, .ref rt, .ref hd]) := upd_same
  clear s1 s2 s3 s4 s5 s6 s7 K1 K2 K3 K4 K5 K6 K7
  generalize upd (upd (upd (upd (upd (upd (upd H1 l0 (.lst [])) d0 (.dK [])) a1 (.lst [.str "a"])) a2 (.lst [])) a3 (.lst [])) rt (.tup [.ref a1, .ref a2, .ref a3])) t (.tup [.non, .int 5, .str "a", .ref l0, .ref d0, .bl true, .ref rt, .ref hd]) = H8 at *
  have eqE : ∀ {n : Nat} {a b : Addr} {H9 : Hp}, H9 a = some (.lst []) → H9 b = some (.lst []) → SmN Z.B.C (n + 1) (.ref a) (.ref b) H9 := fun {n a b _} ha hb => .inr (.inr (.inl ⟨a, b, [], [], rfl, rfl, .inl ⟨ha, hb⟩, rfl, by decide, fun i y y2 e1 => by simp at e1⟩))
  have oddA : ∀ y ∈ [V.non, .int 5, .str "a", .ref l0, .ref d0, .bl true, .ref rt, .ref hd], ∀ (n' : Nat) (H9 : Hp), Kx T p l n' H8 H9 → Kn Z.B.C H9 y ∧ kdOf H9 y ≠ "" ∧ SmN Z.B.C 5 y y H9 := fun y hy => by
    simp only [List.mem_cons, List.not_mem_nil, or_false] at hy
    rcases hy with rfl | rfl | rfl | rfl | rfl | rfl | rfl | rfl
    · exact fun _ _ F => ⟨.non, by simp only [kdOf]; decide, sm_sc rfl⟩
    · exact fun _ _ F => ⟨.int 5, by simp only [kdOf]; decide, sm_sc rfl⟩
    · exact fun _ _ F => ⟨.str _, by simp only [kdOf]; decide, sm_sc rfl⟩
    · exact fun _ _ F => ⟨.lst (F.lst f0 k0), by simp only [kdOf, F.lst f0 k0]; decide, eqE (F.lst f0 k0) (F.lst f0 k0)⟩
    · exact fun _ _ F => ⟨.dic (F.but _ _ fd kd.1 kd.2 (fun ps z => by cases z)), by simp only [kdOf, F.but _ _ fd kd.1 kd.2 (fun ps z => by cases z)]; decide, .inr (.inr (.inr ⟨d0, rfl, rfl, F.but _ _ fd kd.1 kd.2 (fun ps z => by cases z), fun H9 b c hb hc => eqE hb hc⟩))⟩
    · exact fun _ _ F => ⟨.bl _, by simp only [kdOf]; decide, sm_sc rfl⟩
    · exact fun _ _ F => ⟨.tup (F.tup fr kr), by simp only [kdOf, F.tup fr kr]; decide, sm_three (F.tup fr kr) (sm_strs (n := 2) (ss := ["a"]) (F.lst f1 k1) (F.lst f1 k1) (by decide)) (eqE (F.lst f2 k2) (F.lst f2 k2)) (eqE (F.lst f3 k3) (F.lst f3 k3))⟩
    · exact fun _ _ F => ⟨.lst (F.lst fh kh), by simp only [kdOf, F.lst fh kh]; decide, sm_strs (n := 3) (ss := ["x"]) (F.lst fh kh) (F.lst fh kh) (by decide)⟩
  have brd : ∀ {n' : Nat} {H9 : Hp}, Kx T p l n' H8 H9 → BoardAt (fun _ => True) Z.B.C H9 x pl ts rm := fun F => hB8.kx (fun c h => h) F
  have kb : ∀ {n' : Nat} {H9 : Hp}, Kx T p l n' H8 H9 → Kn Z.B.C H9 (.ref x) := fun F => by
    obtain ⟨dx, aP, aT, aR, aN, tv, l', e, _⟩ := brd F
    exact .own e
  refine for_tup (xs := [.non, .int 5, .str "a", .ref l0, .ref d0, .bl true, .ref rt, .ref hd]) (fun i σ H' => ∃ v2 v3, σ = [some (.ref x), some (.ref hd), v2, v3] ∧ Kx T p l n H8 H') ⟨none, none, rfl, Kx.start K8.st K8.tb⟩ (fun i σ H' _ ⟨_, _, _, K'⟩ => SqT.of (K'.tup ft kt)) ?_ ?_
  · rintro i y σ H' hy ⟨v2, v3, rfl, K'⟩
    have od := oddA y (List.mem_of_getElem? hy)
    refine ⟨K'.tb, fun G1 e1 T1 => ⟨_, rfl, y, .non, rfl, (od _ _ (K'.ext e1 T1)).1, .inl ⟨(od _ _ (K'.ext e1 T1)).2.1, fun d G2 nd hd2 S2 => .inl ⟨y, d, rfl, rfl, hd2, fun u nu => ⟨by show 1 ≤ sizeLine; decide, fun f nf => ?_⟩⟩⟩⟩⟩
    have Ka := (K'.ext e1 T1).same S2
    have Kb := Ka.put nu (o := .tup [.str "board", y])
    have F1 : FoundAt T p l n H8 f y [u] (upd (upd G2 u (.tup [.str "board", y])) f (.lst [.ref u])) := ⟨Kb.put nf, Kb.new nf, Kb.ne nf, upd_same, fun v hv => by
      cases List.mem_singleton.mp hv
      exact new_same nf _ _ upd_same⟩
    generalize upd (upd G2 u (.tup [.str "board", y])) f (.lst [.ref u]) = G3 at F1 ⊢
    refine ⟨_, rfl, .inl ⟨rfl, _, SqL.of F1.hf⟩, F1.K.tb, fun G4 e4 T4 => ⟨_, rfl, y, .non, rfl, (od _ _ (F1.K.ext e4 T4)).1, .inl ⟨(od _ _ (F1.K.ext e4 T4)).2.1, fun d2 G5 _ hd5 S5 => .inl ⟨y, d2, rfl, rfl, hd5, fun u2 nu2 => ⟨f, _, _, rfl, rfl, new_same nu2 _ _ (F1.to e4 T4 S5).hf, by show 1 < sizeLine; decide, ?_⟩⟩⟩⟩⟩
    have F2 := (F1.to e4 T4 S5).app nu2
    generalize upd (upd G5 u2 (.tup [.str "board", y])) f (.lst ([u].map V.ref ++ [.ref u2])) = G6 at F2 ⊢
    refine ⟨_, rfl, .inl ⟨rfl, _, SqL.of F2.hf⟩, F2.K.tb, fun G7 e7 T7 => ⟨_, rfl, _, rfl, .ref x, y, rfl, kb (F2.K.ext e7 T7), .inr ⟨x, pl, ts, rm, rfl, brd (F2.K.ext e7 T7), lpl, lts, (od _ _ (F2.K.ext e7 T7)).1, .inl ⟨(od _ _ (F2.K.ext e7 T7)).2.1, fun d3 G8 _ hd8 S8 => .inl ⟨y, d3, rfl, rfl, hd8, fun u3 nu3 => ⟨f, _, _, rfl, rfl, new_same nu3 _ _ (F2.to e7 T7 S8).hf, by show 2 < sizeLine; decide, ?_⟩⟩⟩⟩⟩⟩
    have F3 := (F2.to e7 T7 S8).app nu3
    generalize upd (upd G8 u3 (.tup [.str "board", y])) f (.lst (([u] ++ [u2]).map V.ref ++ [.ref u3])) = G9 at F3 ⊢
    refine ⟨_, rfl, .inl ⟨rfl, _, SqL.of F3.hf⟩, F3.K.tb, fun G10 e10 T10 => ⟨_, rfl, _, rfl, .ref x, y, rfl, kb (F3.K.ext e10 T10), .inr ⟨x, pl, ts, rm, rfl, brd (F3.K.ext e10 T10), lpl, lts, (od _ _ (F3.K.ext e10 T10)).1, .inl ⟨(od _ _ (F3.K.ext e10 T10)).2.1, fun d4 G11 _ hd11 S11 => .inl ⟨y, d4, rfl, rfl, hd11, fun u4 nu4 => ⟨f, _, _, rfl, rfl, new_same nu4 _ _ (F3.to e10 T10 S11).hf, by show 3 < sizeLine; decide, ?_⟩⟩⟩⟩⟩⟩
    have F4 := (F3.to e10 T10 S11).app nu4
    generalize upd (upd G11 u4 (.tup [.str "board", y])) f (.lst (([u] ++ [u2] ++ [u3]).map V.ref ++ [.ref u4])) = G12 at F4 ⊢
    refine ⟨_, rfl, _, rfl, by show 2 ≤ sizeLine; decide, fun c1 nc1 => ⟨by show 1 ≤ sizeLine; decide, fun c nc => ⟨c, 4, _, rfl, rfl, upd_same, by decide, by decide, by show 1 * 4 ≤ sizeLine; decide, fun c2 nc2 => ?_⟩⟩⟩
    have Sz := ((new_same (o := .tup [.str "board", y]) nc1).trans (new_same (o := .lst [.ref c1]) nc)).trans (new_same (o := .lst (List.replicate (4 : Int).toNat [.ref c1]).flatten) nc2)
    have hc1 := new_same nc2 (o := .lst (List.replicate (4 : Int).toNat [.ref c1]).flatten) _ _ (new_same nc (o := .lst [.ref c1]) _ _ (upd_same (a := c1) (o := .tup [.str "board", y]) (H := G12)))
    have F5 := F4.same Sz
    refine ⟨.ref f, .ref c2, rfl, sm_rep (n := 4) F5.hf F5.us upd_same hc1 (by show 4 ≤ 2000; decide) (od _ _ F5.K).2.2, fun H14 S14 => ⟨_, rfl, iteF ⟨_, _, rfl, F5.K.same S14⟩⟩⟩
  rintro σ G1 ⟨v2, v3, rfl, K'⟩
  refine ⟨K'.tb, fun G2 e2 T2 => ⟨_, rfl, _, rfl, .ref x, .ref hd, rfl, kb (K'.ext e2 T2), .inr ⟨x, pl, ts, rm, rfl, brd (K'.ext e2 T2), lpl, lts, (oddA (.ref hd) (by simp) _ _ (K'.ext e2 T2)).1, .inl ⟨(oddA (.ref hd) (by simp) _ _ (K'.ext e2 T2)).2.1, fun d3 G8 _ hd8 S8 => .inl ⟨.ref hd, d3, rfl, rfl, hd8, fun u nu => ?_⟩⟩⟩⟩⟩
  have K9 := ((K'.ext e2 T2).same S8).put nu (o := .tup [.str "board", .ref hd])
  have hu := upd_same (H := G8) (a := u) (o := .tup [.str "board", .ref hd])
  generalize upd G8 u (.tup [.str "board", .ref hd]) = G9 at K9 hu ⊢
  have hh9 := K9.lst fh kh
  refine ⟨_, rfl, .inl ⟨rfl, _, SqL.of hh9⟩, hd, _, _, rfl, rfl, hh9, by show 1 < sizeLine; decide, ?_⟩
  have KF := (K8.trans K9).own (ys := [.str "x"] ++ [.str "late"]) hnew hh9 kh
  have hh10 := upd_same (H := G9) (a := hd) (o := .lst ([V.str "x"] ++ [.str "late"]))
  have hu10 : (upd G9 hd (.lst ([V.str "x"] ++ [.str "late"]))) u = some (.tup [.str "board", .ref hd]) := by
    rw [upd_ne (ne_of hu hh9 (fun z => by cases z))]
    exact hu
  generalize upd G9 hd (.lst ([V.str "x"] ++ [.str "late"])) = G10 at KF hh10 hu10 ⊢
  refine ⟨_, rfl, _, rfl, by show 2 ≤ sizeLine; decide, fun c1 nc1 => ⟨.ref u, .ref c1, rfl, ?_, fun H14 S14 => k H14 ((KF.put nc1).same S14)⟩⟩
  have Sc := new_same (o := .tup [.str "board", .ref hd]) nc1
  exact sm_tup (n := 5) (Sc _ _ hu10) upd_same (sm_strs (n := 4) (ss := ["x", "late"]) (Sc _ _ hh10) (Sc _ _ hh10) (by decide))
end
end E1

set_option Elab.async false
set_option linter.all false
set_option maxRecDepth 100000
set_option maxHeartbeats 8000000
/-! Between: the whole of sorted boards, raw boards compared. -/
namespace E1
open PySem PySem.Spec PyProof.Rows L2 G0 LamX
theorem stretch_sort (p1 r1 p2 r2 : List Str) : stretch (sortS p1) r1 (sortS p2) r2 = stretch p1 r1 p2 r2 := by
  have e : common (sortS p1) (sortS p2) = common p1 p2 := by
    unfold common
    rw [sortS_idem]
    refine List.filter_congr fun z _ => ?_
    rw [decide_eq_decide]
    exact sortS_mem
  unfold stretch
  rw [e]
theorem wholeP_nd (a b : List Str) : (wholeP a b).Nodup := (sortS_perm _).nodup_iff.mpr (once_nd _)
theorem wholeP_mem {a b : List Str} {z : Str} : z ∈ wholeP a b ↔ z ∈ a ∨ z ∈ b := by
  unfold wholeP
  rw [sortS_mem, once_mem, List.mem_append]
theorem wholeP_sort (a b : List Str) : wholeP (sortS a) (sortS b) = sortS (wholeP a b) := by
  have : sortS (wholeP a b) = wholeP a b := sortS_idem _
  rw [this]
  unfold wholeP
  refine sortS_of_perm ((List.perm_ext_iff_of_nodup (once_nd _) (once_nd _)).mpr fun z => ?_)
  rw [once_mem, once_mem, List.mem_append, List.mem_append, sortS_mem, sortS_mem]
theorem wholeT_mem {a b : List Pr} {z : Pr} : z ∈ wholeT a b ↔ z ∈ a ∨ z ∈ b := by
  unfold wholeT
  rw [once_mem, sortPr_mem, List.mem_append]
theorem wholeT_ok {a b : List Str} {s t : List Pr} (h1 : TsOk a s) (h2 : TsOk b t) : TsOk (wholeP a b) (wholeT s t) := ⟨once_nd _, fun p hp => by
  rcases wholeT_mem.mp hp with h | h
  · exact ⟨wholeP_mem.mpr (.inl (h1.ok p h).1), wholeP_mem.mpr (.inl (h1.ok p h).2.1), (h1.ok p h).2.2⟩
  · exact ⟨wholeP_mem.mpr (.inr (h2.ok p h).1), wholeP_mem.mpr (.inr (h2.ok p h).2.1), (h2.ok p h).2.2⟩⟩
theorem wholeT_sort (s t : List Pr) : sortPr (once (sortPr s ++ sortPr t)) = sortPr (wholeT s t) := sortPr_of_perm ((List.perm_ext_iff_of_nodup (once_nd _) (once_nd _)).mpr fun z => by
  show _ ↔ z ∈ wholeT s t
  rw [wholeT_mem, once_mem, List.mem_append, sortPr_mem, sortPr_mem])
theorem wholeT_len {s t : List Pr} : (wholeT s t).length ≤ s.length + t.length := by
  have := (once_sub (sortPr (s ++ t))).length_le
  rw [sortPr_len, List.length_append] at this
  exact this
theorem wholeP_len {a b : List Str} : (wholeP a b).length ≤ a.length + b.length := by
  have := (once_sub (a ++ b)).length_le
  rw [List.length_append] at this
  unfold wholeP
  rw [sortS_len]
  exact this
/-- a raw board as data -/
def rawD (pl : List Str) (ts : List Pr) (rm : List Str) : PyData := .tuple [strD pl, prsD ts, strD rm]
theorem eqv_raw (pl : List Str) (ts : List Pr) (rm pl' : List Str) (ts' : List Pr) (rm' : List Str) : PyData.eqv (rawD pl ts rm) (rawD pl' ts' rm') = decide (pl = pl' ∧ ts = ts' ∧ rm = rm') := by
  simp only [rawD, PyData.eqv, PyData.eqvAll, eqv_strs, eqv_prs, Bool.and_true]
  by_cases h1 : pl = pl' <;> by_cases h2 : ts = ts' <;> by_cases h3 : rm = rm' <;> simp [h1, h2, h3]
theorem sh_raw {pl : List Str} {ts : List Pr} {rm : List Str} (h1 : ∀ z ∈ pl, PyData.strOk z = true) (h2 : ∀ p ∈ ts, PyData.strOk p.1 = true ∧ PyData.strOk p.2 = true) (h3 : ∀ z ∈ rm, PyData.strOk z = true) : SeqAt.shaped (rawD pl ts rm) = true := by
  have a := lays pl h1
  have b := layp ts h2
  have c := lays rm h3
  show ((rawD pl ts rm).canLay0 && decide ((rawD pl ts rm).depth ≤ 64)) = true
  rw [Bool.and_eq_true]
  refine ⟨by simp [rawD, strD, prsD, PyData.canLay0, PyData.canLayAll0, a.1, b.1, c.1], decide_eq_true ?_⟩
  simp only [rawD, strD, prsD, PyData.depth, PyData.depthAll]
  omega
theorem dp_raw {K : PySem.W.Frag} {N : Addr → Prop} {H : Hp} {r : Addr} {pl : List Str} {ts : List Pr} {rm : List Str} (h : RawAt N H r pl ts rm) : Dp K H (.ref r) (rawD pl ts rm) := by
  obtain ⟨aP, aT, aR, tv, h1, h2, h3, h4, h5, _⟩ := h
  exact .tup (SqT.of h1) (.cons (dp_strs h2) (.cons (dp_prs h3 h4) (.cons (dp_strs h5) .nil)))
theorem RawOk.sh {pl : List Str} {ts : List Pr} {rm : List Str} (k : RawOk pl ts rm) : SeqAt.shaped (rawD pl ts rm) = true := sh_raw k.strP k.strT k.strR
theorem RawAt.kx {T : List (Addr × Str)} {p l : Addr} {n : Nat} {N : Addr → Prop} {H H' : Hp} {r : Addr} {pl : List Str} {ts : List Pr} {rm : List Str} (h : RawAt N H r pl ts rm) (hN : ∀ c, N c → c ≠ p ∧ c ≠ l) (F : Kx T p l n H H') : RawAt N H' r pl ts rm := by
  obtain ⟨aP, aT, aR, tv, h1, h2, h3, h4, h5, n1, n2, n3, n4, n5⟩ := h
  exact ⟨aP, aT, aR, tv, F.tup h1 (hN _ n1), F.lst h2 (hN _ n2), F.lst h3 (hN _ n3), F.prs h4 (fun t ht => hN t (n5 t ht)), F.lst h5 (hN _ n4), n1, n2, n3, n4, n5⟩
/-- the left board: the one at hand, or a new one -/
theorem left_run {K : PySem.W.Frag} {C p l r1 f x0 : Addr} {T : List (Addr × Str)} {n m : Nat} {N N1 : Addr → Prop} {H2 H : Hp} {σ : L2.St} {E : XK} {Q : VK} {pl1 : List Str} {ts1 : List Pr} {rm1 pl : List Str} {ts : List Pr} {rm : List Str}
    (F : Kx T p l n H2 H) (hn : n < 70000000) (hm : n + 4000 ≤ m) (h0 : σ[0]? = some (some (.ref p))) (h1 : σ[1]? = some (some (.ref r1))) (h3 : σ[3]? = some (some (.ref x0))) (h4 : σ[4]? = some (some (.ref f)))
    (R1 : RawAt N1 H r1 pl1 ts1 rm1) (k1 : RawOk pl1 ts1 rm1) (R : RawAt N H f pl ts rm) (k : RawOk pl ts rm) (hN : ∀ c, N c → c ≠ p ∧ c ≠ l) (B : BoardAt (fun c => c ≠ p ∧ c ≠ l) C H x0 (sortS pl1) (sortPr ts1) rm1)
    (hQ : ∀ y H3, BoardAt (fun c => c ≠ p ∧ c ≠ l) C H3 y (sortS pl) (sortPr ts) rm → (∀ c o, H c = some o → c ≠ p → c ≠ l → H3 c = some o) → Kx T p l m H2 H3 → Q (.ref y) H3) :
    tIf (tTest (tOp (rEqD K) (tVar 4) (tVar 1))) (tVar 3) (tCall (spMade C) [] E (tCons (tVar 0) (tCons (tVar 4) tNil))) σ H Q := by
  refine ⟨_, h4, _, h1, _, _, dp_raw R, dp_raw R1, k.sh, k1.sh, ?_⟩
  rw [eqv_raw]
  refine ⟨_, rfl, ?_⟩
  refine ite2 (fun c => ?_) (fun c => ?_)
  · obtain ⟨rfl, rfl, rfl⟩ := of_decide_eq_true c
    exact ⟨_, h3, hQ x0 H B (fun c o e _ _ => e) (F.mono (by omega))⟩
  · exact ⟨_, h0, _, h4, p, l, f, n, N, pl, ts, rm, rfl, F.st, hn, R, hN, k, fun x H' hB' F' => hQ x H' (hB'.weak fun c hc => F.ne hc) (fun c o e h h' => F'.but c o e h h') ((F.fr F').mono (by omega))⟩
end E1

set_option Elab.async false
set_option linter.all false
set_option maxRecDepth 100000
set_option maxHeartbeats 16000000
/-! A pair of boards, and all that are otherwise. -/
namespace E1
open PySem PySem.Spec PyProof.Rows L2 G0 LamX
abbrev N_right : List Str := ["_law_stream", "_law_one", "_law_other", "_law_mine", "_law_first", "_law_second", "_law_left", "_law_right_here", "_law_due", "_law_told", "_law_again", "_law_found"]
theorem sc_right : FnScope N_right ["_law_stream", "_law_one", "_law_other"] (defScope (topS 62)) := ⟨rfl, rfl, rfl, by decide +kernel, rfl, by decide +kernel, by decide +kernel⟩
def qRight : Str := "_law_right.<locals>.<lambda>"
def spRight (T : List (Addr × Str)) : Sp := fun vs H Q _ => ∃ (p l r1 r2 : Addr) (n : Nat) (N : Addr → Prop) (pl1 : List Str) (ts1 : List Pr) (rm1 pl2 : List Str) (ts2 : List Pr) (rm2 : List Str), vs = [.ref p, .ref r1, .ref r2] ∧ Stm H p l n ∧ n < 50000000 ∧ Tabs T H ∧ (∀ c, N c → c ≠ p ∧ c ≠ l) ∧ RawAt N H r1 pl1 ts1 rm1 ∧ RawAt N H r2 pl2 ts2 rm2 ∧
  RawOk pl1 ts1 rm1 ∧ RawOk pl2 ts2 rm2 ∧ pl1.length ≤ 20 ∧ pl2.length ≤ 20 ∧ (∃ x, stretch pl1 rm1 pl2 rm2 = some x) ∧ ∀ H', Kx T p l (n + 200000) H H' → Q (.bl true) H'
section
variable {P : Program} {w : World} {K : PySem.W.Frag} {mg : Str → Option Value} {base : Heap}
theorem bRight (Z : LawD K mg) : Binds K (Z.d 62) ["_law_stream", "_law_one", "_law_other"] [] := (Z.F 62 (by decide)).binds fun _ _ _ _ _ _ us hl => match us, hl with | [_, _, _], _ => rfl
theorem ok_right (Z : LawD K mg) (M : MetD K mg) (GC : FnOk P w K mg base (L2.CX P w) 6 (Z.f 37) (Z.d 37) ["one", "other"] (spAskC M Z.B.C)) (GB : FnOk P w K mg base (L2.CX P w) 7 (Z.f 40) (Z.d 40) ["one", "other"] (spAskB M Z.B.C)) (bC : Binds K (Z.d 37) ["one", "other"] []) (bB : Binds K (Z.d 40) ["one", "other"] [])
    {T : List (Addr × Str)} {Pt : Addr} (GX : FnOk P w K mg base CX0 10 (Z.f 63) (Z.d 63) ["_law_board"] (spRef T Z.B.C)) (hmT : (Pt, qRight) ∈ T) (huT : ∀ q ∈ T, q.1 = Pt → q.2 = qRight) (hTB : ∀ (oc : Value) (od : Option Addr) (kV doc pm : Value) (an : Option Addr) (cc : Addr) (ct : Value) (osl : Array (Option Value)), K.lookup (Z.f 62) = some ⟨oc, od, .func (PySem.W.fnOf (tName 62) (tName 62) (defArgs (topS 62)) (defBody (topS 62)) (defScope (topS 62)) .none kV doc pm an (.ref cc) ct), osl⟩ → TabB base mg cc Pt) :
    FnOk P w K mg base CX0 11 (Z.f 62) (Z.d 62) ["_law_stream", "_law_one", "_law_other"] (spRight T) := by
  have GS : FnOk P w K mg base CX0 4 (Z.f 57) (Z.d 57) ["_law_found", "_law_due"] (spSame (SmN Z.B.C 3)) := ok_same Z 3
  have GW : FnOk P w K mg base (L2.CX P w) 6 (Z.f 45) (Z.d 45) ["_law_stream", "_law_raw"] (spMade Z.B.C) := ok_a_made Z
  have GOT : FnOk P w K mg base CX0 3 (Z.f 60) (Z.d 60) ["_law_stream", "_law_one", "_law_other"] spOth := ok_oth Z
  have GST : FnOk P w K mg base CX0 2 (Z.f 48) (Z.d 48) ["_law_one", "_law_other"] spStr := ok_str Z
  have GWH : FnOk P w K mg base CX0 3 (Z.f 49) (Z.d 49) ["_law_one", "_law_other"] spWhole := ok_whole Z
  have GIW : FnOk P w K mg base CX0 6 (Z.f 61) (Z.d 61) ["_law_board", "_law_raw"] (spIsW Z.B.C) := ok_isW Z
  obtain ⟨oc, od, kV, doc, pm, an, cdv, ct, osl, e, lk, hcd⟩ := (Z.F 62 (by decide)).ex
  obtain ⟨cc, rfl⟩ := He.codeIn_ref hcd
  rw [e] at lk ⊢
  have TB := hTB _ _ _ _ _ _ _ _ _ lk
  refine fn_of lk hcd sc_right (fun vs H Q E h => ?_) (fun A outer s H vs Q E hr h => ⟨_, PSs.nox (pss_cons (ps_set (i := 3) sc_right.nd rfl (Or.inl rfl) (pe_call GW (hr.mono (by decide)) (by rfl) (Z.g 45 (by decide)) (Z.F 45 (by decide)).kp (bMade Z) .nil passL (pa_cons (pv 0) (pa_cons (pv 1) pa_nil))))
  (pss_cons (ps_for PassesOwn.never rfl (pi_list (pe_call GOT (hr.mono (by decide)) (by rfl) (Z.g 60 (by decide)) (Z.F 60 (by decide)).kp (bOth Z) .nil pass0 (pa_cons (pv 0) (pa_cons (pv 1) (pa_cons (pv 2) pa_nil))))) (pg_tup rfl (pgs_cons (pg_name (i := 4) sc_right.nd rfl (Or.inl rfl)) (pgs_cons (pg_name (i := 5) sc_right.nd rfl (Or.inl rfl)) pgs_nil)))
    (pss_cons (ps_set (i := 6) sc_right.nd rfl (Or.inr rfl) (pe_ifExp (pt_cmpR (op_eqD hr.units) (pv 4) (pv 1) (nomark _)) (pv 3) (pe_call GW (hr.mono (by decide)) (by rfl) (Z.g 45 (by decide)) (Z.F 45 (by decide)).kp (bMade Z) .nil passL (pa_cons (pv 0) (pa_cons (pv 4) pa_nil)))))
  (pss_cons (ps_asg (pe_tup (pa_cons (pe_call GW (hr.mono (by decide)) (by rfl) (Z.g 45 (by decide)) (Z.F 45 (by decide)).kp (bMade Z) .nil passL (pa_cons (pv 0) (pa_cons (pv 5) pa_nil))) (pa_cons (pe_call GST (hr.mono (by decide)) (by rfl) (Z.g 48 (by decide)) (Z.F 48 (by decide)).kp (bStr Z) .nil pass0 (pa_cons (pv 4) (pa_cons (pv 5) pa_nil))) pa_nil))) (by exact (pg_tup rfl (pgs_cons (pg_name (i := 7) sc_right.nd rfl (Or.inr rfl)) (pgs_cons (pg_name (i := 8) sc_right.nd rfl (Or.inl rfl)) pgs_nil)))))
  (pss_cons (ps_set (i := 9) sc_right.nd rfl (Or.inl rfl) (pe_met Z M (T := T) (c := cc) (P := Pt) (t := fun E => tCall (spAskB M Z.B.C) [] E (tCons (tVar 6) (tCons (tVar 7) tNil))) (by rfl) TB rfl hmT huT hr (lamS_by (sc := defScope (topS 62)) (by decide +kernel)) rfl (fun _ _ _ _ _ => rfl) (fun A outer s H E f c' hr2 => pe_call GB (hr2.mono (by decide)) (by rfl) (Z.g 40 (by decide)) (Z.F 40 (by decide)).kp bB .nil (passes_call (takes_of rfl rfl rfl rfl) (fun _ _ _ _ h => h)) (pa_cons (pv 6) (pa_cons (pv 7) pa_nil)))))
  (pss_one (ps_if (pt_cmpR op_isN (pv 8) pe_non (nomark _)) (pss_one (ps_if (PW.pt (pw_or (pt_cmpR op_notN (pe_call GC (hr.mono (by decide)) (by rfl) (Z.g 37 (by decide)) (Z.F 37 (by decide)).kp bC .nil passL (pa_cons (pv 6) (pa_cons (pv 7) pa_nil))) pe_non (nomark _)) (pw_or1 (pt_cmpR (op_neD hr.units) (pv 9) (pe_tup (pa_cons pe_str pa_nil)) (nomark _))))) (pss_one (ps_ret pe_bl)) pss_nil)) (pss_cons (ps_if (PW.pt (pw_or (pt_cmpR op_ne (pe_ix ix_tup (pv 9) pe_int (fun _ _ => rfl)) pe_str (nomark _)) (pw_or1 (pt_not (pt_val (pe_call GIW (hr.mono (by decide)) (by rfl) (Z.g 61 (by decide)) (Z.F 61 (by decide)).kp (bIsW Z) .nil pass0 (pa_cons (pe_ix ix_tup (pv 9) pe_int (fun _ _ => rfl)) (pa_cons (pe_call GWH (hr.mono (by decide)) (by rfl) (Z.g 49 (by decide)) (Z.F 49 (by decide)).kp (bWhole Z) .nil pass0 (pa_cons (pv 4) (pa_cons (pv 5) pa_nil))) pa_nil)))))))) (pss_one (ps_ret pe_bl)) pss_nil)
  (pss_cons (ps_for PassesOwn.never rfl (pi_range1 (by rfl) (Z.free "range" (by decide)) (pa_cons pe_int pa_nil)) (pg_name (i := 10) sc_right.nd rfl (Or.inl rfl))
    (pss_cons (ps_set (i := 11) sc_right.nd rfl (Or.inl rfl) (pe_call GC (hr.mono (by decide)) (by rfl) (Z.g 37 (by decide)) (Z.F 37 (by decide)).kp bC .nil passL (pa_cons (pv 6) (pa_cons (pv 7) pa_nil))))
  (pss_cons (ps_if (pt_not (pt_val (pe_call GS (hr.mono (by decide)) (by rfl) (Z.g 57 (by decide)) (Z.F 57 (by decide)).kp (bSame Z) .nil pass0 (pa_cons (pv 11) (pa_cons (pe_ix ix_tup (pv 8) pe_int (fun _ _ => rfl)) pa_nil))))) (pss_one (ps_ret pe_bl)) pss_nil)
  (pss_one (ps_expr (pe_bm PySem.F.plainAttrs_list PySem.F.slot_list_append PySem.F.type_list_append mt_append (pv 11) (pa_cons pe_str pa_nil)))))))
  (pss_one (ps_if (PW.pt (pw_or (pt_not (pt_val (pe_call GIW (hr.mono (by decide)) (by rfl) (Z.g 61 (by decide)) (Z.F 61 (by decide)).kp (bIsW Z) .nil pass0 (pa_cons (pv 6) (pa_cons (pv 4) pa_nil))))) (pw_or1 (pt_not (pt_val (pe_call GIW (hr.mono (by decide)) (by rfl) (Z.g 61 (by decide)) (Z.F 61 (by decide)).kp (bIsW Z) .nil pass0 (pa_cons (pv 7) (pa_cons (pv 5) pa_nil)))))))) (pss_one (ps_ret pe_bl)) pss_nil))))))))))
  (pss_one (ps_ret (pe_call GX (hr.mono (by decide)) (by rfl) (Z.g 63 (by decide)) (Z.F 63 (by decide)).kp (bRefused Z) .nil pass0 (pa_cons (pv 3) pa_nil)))))), ?_⟩)
  · obtain ⟨p, l, r1, r2, n, N, pl1, ts1, rm1, pl2, ts2, rm2, rfl, _⟩ := h
    rfl
  obtain ⟨p, l, r1, r2, n, N, pl1, ts1, rm1, pl2, ts2, rm2, rfl, S, hn, hT, hN, A1, A2, k1, k2, q1, q2, ⟨⟨row, mine, theirs⟩, est⟩, k⟩ := h
  have sz : 5000 < sizeLine := by decide
  have two : 2 ≤ sizeLine := by decide
  refine ⟨_, rfl, _, rfl, p, l, r1, n, N, pl1, ts1, rm1, rfl, S, by omega, A1, hN, k1, fun x0 H1 B1 F1 => ?_⟩
  have K1 := (Kx.start S hT).fr F1
  have B1' : BoardAt (fun c => c ≠ p ∧ c ≠ l) Z.B.C H1 x0 (sortS pl1) (sortPr ts1) rm1 := B1.weak fun c hc => (Kx.start S hT).ne hc
  have A1' := A1.kx hN K1
  have A2' := A2.kx hN K1
  refine ⟨_, rfl, _, rfl, _, rfl, p, l, r1, r2, n + 4000, N, pl1, ts1, rm1, pl2, ts2, rm2, row, mine, theirs, rfl, F1.st, by omega, hN, A1', A2', k1, k2, q1, q2, est, fun b xs H2 F2 nb hb ents lxs => ?_⟩
  have K2 := K1.fr F2
  have bn := K1.ne nb
  have NN : ∀ c, Nn p l b c → c ≠ p ∧ c ≠ l := fun c h => ⟨h.1, h.2.1⟩
  have B2 : BoardAt (fun c => c ≠ p ∧ c ≠ l) Z.B.C H2 x0 (sortS pl1) (sortPr ts1) rm1 := B1'.frame fun c o hc e => F2.but c o e hc.1 hc.2
  have A12 := A1.kx hN K2
  clear A1' A2' B1'
  refine ⟨b, rfl, ⟨_, SqL.of hb⟩, for_list (xs := xs) (fun i σ H' => ∃ v4 v5 v6 v7 v8 v9 v10 v11, σ = [some (.ref p), some (.ref r1), some (.ref r2), some (.ref x0), v4, v5, v6, v7, v8, v9, v10, v11] ∧ Kx T p l (n + 4300 + 8000 * i) H2 H') ⟨none, none, none, none, none, none, none, none, rfl, (Kx.start K2.st K2.tb).mono (by omega)⟩ (fun i σ H' _ ⟨_, _, _, _, _, _, _, _, _, K'⟩ => SqL.of (K'.lst hb bn)) ?_ ?_⟩
  · rintro i v σ H' hv ⟨v4, v5, v6, v7, v8, v9, v10, v11, rfl, K'⟩
    have il := (List.getElem?_eq_some_iff.mp hv).1
    obtain ⟨t, a, c, rfl, ht, nt, ⟨pl, ts, rm, ra, oka, la⟩, ⟨pl', ts', rm', rc, okc, lc⟩⟩ := ents v (List.mem_of_getElem? hv)
    have m1 := oka.len
    have m2 := okc.len
    have m3 := oka.rlen
    have m4 := okc.rlen
    have m5 := oka.tlen
    have m6 := okc.tlen
    have m9 : ts.length ≤ 220 := by
      have h := oka.ts.len2
      have h2 := Nat.mul_le_mul la la
      omega
    have m10 : ts'.length ≤ 220 := by
      have h := okc.ts.len2
      have h2 := Nat.mul_le_mul lc lc
      omega
    have m7 : (sortS pl).length ≤ 44 := by rw [sortS_len]; exact m1
    have m8 : (sortS pl').length ≤ 44 := by rw [sortS_len]; exact m2
    refine ⟨t, _, rfl, SqT.of (K'.tup ht ⟨nt.1, nt.2.1⟩), rfl, _, _, rfl, _, _, rfl, rfl, ?_⟩
    refine left_run (m := n + 4300 + 8000 * i + 4000) K' (by omega) (by omega) rfl rfl rfl rfl (A12.kx hN K') k1 (ra.kx NN K') oka NN (B2.kxN (fun c h => h) K') (fun y H3 By _ K3 => ?_)
    refine ⟨_, rfl, _, rfl, p, l, c, _, _, pl', ts', rm', rfl, K3.st, by omega, rc.kx NN K3, NN, okc, fun z H4 Bz F4 => ?_⟩
    have K4 := K3.fr F4
    have By4 : BoardAt (fun c => c ≠ p ∧ c ≠ l) Z.B.C H4 y (sortS pl) (sortPr ts) rm := By.frame fun c o hc e => F4.but c o e hc.1 hc.2
    have Bz4 : BoardAt (fun c => c ≠ p ∧ c ≠ l) Z.B.C H4 z (sortS pl') (sortPr ts') rm' := Bz.weak fun c hc => K3.ne hc
    refine ⟨_, rfl, _, rfl, a, c, pl, ts, rm, pl', ts', rm', rfl, (ra.kx NN K4).weak fun _ _ => trivial, (rc.kx NN K4).weak fun _ _ => trivial, by omega, by omega, by omega, by omega, oka.strP, oka.strR, okc.strR, fun u H5 ans S5 => ⟨two, fun t5 n5 => ⟨t5, _, rfl, SqT.of upd_same, rfl, _, _, rfl, _, _, rfl, rfl, ?_⟩⟩⟩
    have S6 := S5.trans (new_same (o := .tup [.ref z, u]) n5)
    have K6 := K4.same S6
    have By6 := By4.same S6
    have Bz6 := Bz4.same S6
    have S56 := new_same (o := .tup [.ref z, u]) n5
    generalize upd H5 t5 (.tup [.ref z, u]) = H6 at S6 K6 By6 Bz6 S56 ⊢
    refine ⟨K6.tb, fun H7 e7 T7 => ?_⟩
    have K7 := K6.ext e7 T7
    have By7 := By6.ext e7
    have Bz7 := Bz6.ext e7
    have kn : ∀ {H9 : Hp} {y : Addr} {N : Addr → Prop} {pl : List Str} {ts : List Pr} {rm : List Str}, BoardAt N Z.B.C H9 y pl ts rm → Kn Z.B.C H9 (.ref y) := fun B => by
      obtain ⟨dx, aP, aT, aR, aN, tv, l', e, _⟩ := B
      exact .own e
    refine ⟨_, rfl, _, rfl, .ref y, .ref z, rfl, kn By7, .inr ⟨y, _, _, _, rfl, By7.weak fun _ _ => trivial, m7, oka.fewS, kn Bz7, .inr ⟨z, _, _, _, rfl, Bz7.weak fun _ _ => trivial, m8, okc.fewS, ?_, ?_⟩⟩⟩
    · intro est0 d H8 S8
      have est1 := est0
      rw [stretch_sort] at est1
      rw [est1] at ans
      cases (show u = .non from ans)
      refine .inr ⟨rfl, fun t8 n8 => ?_⟩
      have K8 := K7.same S8
      have By8 := By7.same S8
      have Bz8 := Bz7.same S8
      have K9 := K8.put n8 (o := .tup [.str "beside"])
      have By9 := By8.same (new_same (o := .tup [.str "beside"]) n8)
      have Bz9 := Bz8.same (new_same (o := .tup [.str "beside"]) n8)
      have t9 := upd_same (H := H8) (a := t8) (o := .tup [.str "beside"])
      generalize upd H8 t8 (.tup [.str "beside"]) = H9 at K9 By9 Bz9 t9 ⊢
      refine ⟨_, rfl, rfl, _, rfl, iteT ?_⟩
      refine ⟨_, rfl, _, rfl, .ref y, .ref z, rfl, kn By9, .inr ⟨y, _, _, _, rfl, By9.weak fun _ _ => trivial, m7, oka.fewS, kn Bz9, .inr ⟨z, _, _, _, rfl, Bz9.weak fun _ _ => trivial, m8, okc.fewS, fun u9 H10 S10 row => ?_⟩⟩⟩
      rw [est0] at row
      cases (show u9 = .non from row)
      have t10 := S10 _ _ t9
      refine ⟨rfl, _, rfl, iteF ⟨_, rfl, by show 1 ≤ sizeLine; decide, fun t2 nt2 => ?_⟩⟩
      have Sn := new_same (o := .tup [.str "beside"]) nt2
      refine ⟨_, _, .tup (SqT.of (Sn _ _ t10)) (.cons (.str _) .nil), .tup (SqT.of upd_same) (.cons (.str _) .nil), by decide +kernel, by decide +kernel, _, rfl, ite2 (fun c => absurd c (by decide +kernel)) (fun _ => ?_)⟩
      exact ⟨_, _, _, _, _, _, _, _, rfl, ((K9.same S10).same Sn).mono (by omega)⟩
    · intro row' mine' theirs' est0 w8 H8 Bw S8
      refine ⟨two, fun t8 n8 => ?_⟩
      have est1 := est0
      rw [stretch_sort] at est1
      rw [est1] at ans
      obtain ⟨dt, rfl, xr, xm, xt, hdt, hxr, _, _, ndt, nxr, _, _, _, _, _⟩ := ans
      have S8' := S8.trans (new_same (o := .tup [.str "told", .ref w8]) n8)
      have K9 := K7.same S8'
      have By9 := By7.same S8'
      have Bz9 := Bz7.same S8'
      have Bw9 : BoardAt (fun c => c ≠ p ∧ c ≠ l) Z.B.C _ w8 (wholeP (sortS pl) (sortS pl')) (sortPr (once (sortPr ts ++ sortPr ts'))) (mine' ++ theirs') := (Bw.weak fun c hc => K7.ne hc).same (new_same (o := .tup [.str "told", .ref w8]) n8)
      rw [wholeP_sort, wholeT_sort] at Bw9
      have t9 := upd_same (H := H8) (a := t8) (o := .tup [.str "told", .ref w8])
      have d9 := S8' _ _ (e7 _ _ (S56 _ _ hdt) (fun ps z => by cases z))
      have x9 := S8' _ _ (e7 _ _ (S56 _ _ hxr) (fun ps z => by cases z))
      have nd := K4.ne ndt
      have nx := K4.ne nxr
      have nt8 := (K7.same S8).ne n8
      generalize upd H8 t8 (.tup [.str "told", .ref w8]) = H9 at S8' K9 By9 Bz9 Bw9 t9 d9 x9 ⊢
      refine ⟨_, rfl, rfl, _, rfl, ite2 (fun c => absurd (of_decide_eq_true c) (by intro z; cases z)) (fun _ => ?_)⟩
      refine ⟨_, rfl, t8, _, 0, _, rfl, rfl, SqT.of t9, rfl, rfl, _, rfl, ite2 (fun c => absurd c (by decide)) (fun _ => ?_)⟩
      have lP := wholeP_len (a := pl) (b := pl')
      have lT := wholeT_len (s := ts) (t := ts')
      have lR : (mine' ++ theirs').length ≤ 1000 := by
        obtain ⟨i1, j1, q1, q2, _⟩ := stretch_some est1
        have h1 := congrArg List.length q1
        have h2 := congrArg List.length q2
        rw [rot_len, List.length_append] at h1 h2
        rw [List.length_append]
        omega
      refine ⟨_, rfl, t8, _, 1, _, rfl, rfl, SqT.of t9, rfl, _, rfl, _, rfl, a, c, pl, ts, rm, pl', ts', rm', row', mine', theirs', rfl, (ra.kx NN K9).weak fun _ _ => trivial, (rc.kx NN K9).weak fun _ _ => trivial, oka, okc, est1, fun r10 H10 Rw S10 => ?_⟩
      refine ⟨w8, r10, _, _, wholeP pl pl', wholeT ts ts', _, _, rfl, Bw9.same S10, Rw, (upTs_sort (wholeP_nd pl pl') (wholeT_ok oka.ts okc.ts)).symm, wholeP_nd _ _, fun q hq => ⟨((wholeT_ok oka.ts okc.ts).ok q hq).1, ((wholeT_ok oka.ts okc.ts).ok q hq).2.1⟩, by omega, by rw [sortPr_len]; omega, by omega, lR, fun H11 S11 => ⟨_, rfl, iteF ?_⟩⟩
      have S911 := S10.trans S11
      have K11 := K9.same S911
      have By11 := By9.same S911
      have Bz11 := Bz9.same S911
      have d11 := S911 _ _ d9
      have x11 := S911 _ _ x9
      have kt8 : t8 ≠ p ∧ t8 ≠ l := nt8
      refine ⟨2, rfl, by decide, by decide, for_it walk_range (fun j σ H' => ∃ v10 v11, σ = [some (.ref p), some (.ref r1), some (.ref r2), some (.ref x0), some (.ref a), some (.ref c), some (.ref y), some (.ref z), some (.ref dt), some (.ref t8), v10, v11] ∧ Kx T p l (n + 4300 + 8000 * i + 4000 + 4000) H11 H') ⟨_, _, rfl, (Kx.start K11.st K11.tb).mono (by omega)⟩ (fun _ _ _ _ _ => trivial) ?_ ?_⟩
      · rintro j v σ H12 H13 hj ⟨v10, v11, rfl, KJ⟩ ⟨rfl, ex⟩
        have ByJ := By11.kx (fun c h => h) KJ
        have BzJ := Bz11.kx (fun c h => h) KJ
        refine ⟨_, rfl, _, rfl, .ref y, .ref z, rfl, kn ByJ, .inr ⟨y, _, _, _, rfl, ByJ, m7, oka.fewS, kn BzJ, .inr ⟨z, _, _, _, rfl, BzJ, m8, okc.fewS, fun u14 H14 S14 rowA => ?_⟩⟩⟩
        rw [est0] at rowA
        obtain ⟨g, rfl, ng, hg⟩ := rowA
        have gn := KJ.ne ng
        have KG := KJ.same S14
        have lrow : row'.length ≤ 2000 := by
          obtain ⟨i1, j1, q1, q2, _⟩ := stretch_some est1
          have h1 := congrArg List.length q1
          rw [rot_len, List.length_append] at h1
          omega
        refine ⟨_, rfl, _, rfl, dt, _, 0, _, rfl, rfl, SqT.of (KG.tup d11 nd), rfl, .ref g, .ref xr, rfl, sm_strs (n := 1) hg (KG.lst x11 nx) lrow, fun H15 S15 => ⟨_, rfl, iteF ?_⟩⟩
        have hg15 := S15 _ _ hg
        have KH := KG.same S15
        refine ⟨_, rfl, .inl ⟨rfl, _, SqL.of hg15⟩, g, _, _, rfl, rfl, hg15, by rw [List.length_map]; omega, ?_⟩
        exact ⟨_, _, rfl, KH.own (KJ.new ng) hg15 gn⟩
      · rintro σ H12 ⟨v10, v11, rfl, KJ⟩
        have KK := K11.trans KJ
        have ByJ := By11.kx (fun c h => h) KJ
        have BzJ := Bz11.kx (fun c h => h) KJ
        refine ⟨_, rfl, _, rfl, y, a, _, _, pl, ts, _, rm, rfl, ByJ, ra.kx NN KK, (upTs_sort oka.nd oka.ts).symm, oka.nd, fun q hq => ⟨(oka.ts.ok q hq).1, (oka.ts.ok q hq).2.1⟩, by omega, by rw [sortPr_len]; omega, by omega, by omega, fun H13 S13 => ⟨_, rfl, iteF ?_⟩⟩
        refine ⟨_, rfl, _, rfl, z, c, _, _, pl', ts', _, rm', rfl, BzJ.same S13, rc.kx NN (KK.same S13), (upTs_sort okc.nd okc.ts).symm, okc.nd, fun q hq => ⟨(okc.ts.ok q hq).1, (okc.ts.ok q hq).2.1⟩, by omega, by rw [sortPr_len]; omega, by omega, by omega, fun H14 S14 => ⟨_, rfl, iteF ?_⟩⟩
        exact ⟨_, _, _, _, _, _, _, _, rfl, ((KK.same S13).same S14).mono (by omega)⟩
  · rintro σ H3 ⟨v4, v5, v6, v7, v8, v9, v10, v11, rfl, K'⟩
    refine ⟨_, rfl, p, l, x0, _, _, _, _, rfl, K'.st, K'.tb, B2.kxN (fun c h => h) K', by rw [sortS_len]; omega, k1.fewS, fun H4 K4 => k H4 (((K2.trans K').trans K4).mono (by omega))⟩
end
end E1

set_option Elab.async false
set_option linter.all false
set_option maxRecDepth 100000
set_option maxHeartbeats 16000000
/-! The law of boards beside one another. -/
namespace E1
open PySem PySem.Spec PyProof.Rows L2 G0 LamX
section
variable {mg : Str → Option Value} {K : PySem.W.Frag} {D : BoardD K mg} {H1 : Hp}
/-- a board is made -/
theorem init_mk {N N2 N3 : Addr → Prop} {xb dx : Addr} {vp vt vr : V} {ps : List Str} {qs : List Pr} {rs : List Str} {R : VK} {E : XK} (hp : HP N H1 vp ps) (ht : HT N2 H1 vt qs) (hr : HP N3 H1 vr rs)
    (nd : ps.Nodup) (nm : ∀ z ∈ ps, nameB z = true) (lp : ps.length ≤ 1000) (tok : TsOk ps qs) (lq : qs.length ≤ 1000) (rnd : rs.Nodup) (rin : ∀ z ∈ rs, z ∈ ps) (nx : H1 xb = none) (ndx : H1 dx = none) (ne : dx ≠ xb)
    (q : ∀ Hm, BoardAt (fun c => H1 c = none) D.C Hm xb (sortS ps) (sortPr qs) rs → Same H1 Hm → R .non Hm) : spInit K D (.ref xb :: ([vp, vt, vr] ++ [])) (upd (upd H1 dx (.own xb)) xb (.ins D.C dx [])) R E := by
  have Sx : Same H1 (upd (upd H1 dx (.own xb)) xb (.ins D.C dx [])) := (new_same ndx).trans (new_same (by rw [upd_ne ne.symm]; exact nx))
  refine ⟨xb, dx, vp, vt, vr, rfl, upd_same, made_ok (hp.frame fun c o _ e => Sx _ _ e) (ht.frame fun c o _ e => Sx _ _ e) (hr.frame fun c o _ e => Sx _ _ e) nd nm lp tok lq rnd rin fun Hm hB hk => q Hm (hB.weak fun c hc => ?_) (Same.of fun b o e => hk b o (fun q' => by rw [q', nx] at e; cases e) (Sx _ _ e))⟩
  rcases hc with rfl | hc
  · exact nx
  · exact Sx.free hc
end

abbrev N_lw : List Str := ["_law_script", "_law_stream", "_law_turn", "_law_one", "_law_other", "_law_found", "_law_due"]
theorem sc_lw : FnScope N_lw ["_law_script"] (defScope (topS 64)) := ⟨rfl, rfl, rfl, by decide +kernel, rfl, by decide +kernel, by decide +kernel⟩
def spLw (K : PySem.W.Frag) (T : List (Addr × Str)) : Sp := fun vs H Q _ => ∃ (a : Addr) (ns : List Int), vs = [.ref a] ∧ SqL K H a (ns.map V.int) ∧ Tabs T H ∧ ∀ H', Q (.bl true) H'
theorem huR {Pt Pl : Addr} (hne : Pt ≠ Pl) : ∀ q ∈ [(Pt, qRight), (Pl, qRef)], q.1 = Pt → q.2 = qRight := fun q hq e => by
  simp only [List.mem_cons, List.not_mem_nil, or_false] at hq
  rcases hq with rfl | rfl
  · rfl
  · exact absurd e.symm hne
theorem huL {Pt Pl : Addr} (hne : Pt ≠ Pl) : ∀ q ∈ [(Pt, qRight), (Pl, qRef)], q.1 = Pl → q.2 = qRef := fun q hq e => by
  simp only [List.mem_cons, List.not_mem_nil, or_false] at hq
  rcases hq with rfl | rfl
  · exact absurd e hne
  · rfl
def onP : List Str := ["a", "b", "p", "q"]
def onT : List Pr := [("a", "p"), ("b", "q")]
def onR : List Str := ["p", "q", "a", "b"]
def otP : List Str := ["c", "d", "p", "q"]
def otT : List Pr := [("c", "p"), ("d", "q")]
def otR : List Str := ["q", "p", "c", "d"]
def oPQ : List Str := ["p", "q"]
def oQP : List Str := ["q", "p"]
def oAB : List Str := ["a", "b"]
def oCD : List Str := ["c", "d"]
theorem st_by {com n1 n2 P1 P2 : List Str} (h1 : P1.Perm (com ++ n1)) (h2 : P2.Perm (com.reverse ++ n2)) (nd : (com ++ n1 ++ n2).Nodup) (hc : com ≠ []) (e1 : n1 ≠ []) (e2 : n2 ≠ []) : stretch (sortS P1) (com ++ n1) (sortS P2) (com.reverse ++ n2) = some (com, n1, n2) := by
  rw [sortS_of_perm h1, sortS_of_perm h2, stretch_sort]
  have := stretch_pair nd hc (List.Sublist.refl n1) (List.Sublist.refl n2) e1 e2 0 0
  unfold rot at this
  rw [List.drop_zero, List.take_zero, List.append_nil, List.drop_zero, List.take_zero, List.append_nil] at this
  exact this
theorem st1 : stretch (sortS onP) onR (sortS otP) otR = some (oPQ, oAB, oCD) := st_by (com := oPQ) (n1 := oAB) (n2 := oCD) (by decide +kernel) (by decide +kernel) (by decide +kernel) (by decide +kernel) (by decide +kernel) (by decide +kernel)
theorem st2 : stretch (sortS otP) otR (sortS onP) onR = some (oQP, oCD, oAB) := st_by (com := oQP) (n1 := oCD) (n2 := oAB) (by decide +kernel) (by decide +kernel) (by decide +kernel) (by decide +kernel) (by decide +kernel) (by decide +kernel)
section
variable {P : Program} {w : World} {K : PySem.W.Frag} {mg : Str → Option Value} {base : Heap}
theorem ok_lw (Z : LawD K mg) (M : MetD K mg) (GC : FnOk P w K mg base (L2.CX P w) 6 (Z.f 37) (Z.d 37) ["one", "other"] (spAskC M Z.B.C)) (GB : FnOk P w K mg base (L2.CX P w) 7 (Z.f 40) (Z.d 40) ["one", "other"] (spAskB M Z.B.C)) (bC : Binds K (Z.d 37) ["one", "other"] []) (bB : Binds K (Z.d 40) ["one", "other"] [])
    {T : List (Addr × Str)} (GR : FnOk P w K mg base CX0 11 (Z.f 62) (Z.d 62) ["_law_stream", "_law_one", "_law_other"] (spRight T)) : FnOk P w K mg base CX0 12 (Z.f 64) (Z.d 64) ["_law_script"] (spLw K T) := by
  have G0 : FnOk P w K mg base CX0 1 Z.s.fS Z.s.dS ["_law_script"] (spSt K) := ok_st Z.s
  have GPA : FnOk P w K mg base CX0 5 (Z.f 52) (Z.d 52) ["_law_stream"] spPair := ok_pair Z
  have GS : FnOk P w K mg base CX0 4 (Z.f 57) (Z.d 57) ["_law_found", "_law_due"] (spSame (SmN Z.B.C 3)) := ok_same Z 3
  have GI : FnOk P w K mg base (L2.CX P w) 4 (Z.B.f 0) (Z.B.d 0) ["self", "places", "ties", "rim"] (spInit K Z.B) := ok_init Z.B Z.n Z.t
  have GB4 : FnOk P w K mg base CX0 1 (Z.B.f 4) (Z.B.d 4) ["self"] (spRim Z.B.C) := ok_rim Z.B Z.t
  refine Fun.ok (Z.F 64 (by decide)) sc_lw (fun vs H Q E h => ?_) (fun cdv A outer s H vs Q E hr h => ⟨_, PSs.nox (pss_cons (ps_set (i := 1) sc_lw.nd rfl (Or.inl rfl) (pe_call G0 (hr.mono (by decide)) (by rfl) Z.s.gS Z.s.FS.kp (bSt Z.s) .nil pass0 (pa_cons (pv 0) pa_nil)))
  (pss_cons (ps_for PassesOwn.never rfl (pi_range1 (by rfl) (Z.free "range" (by decide)) (pa_cons pe_int pa_nil)) (pg_name (i := 2) sc_lw.nd rfl (Or.inl rfl))
    (pss_cons (ps_asg (pe_call GPA (hr.mono (by decide)) (by rfl) (Z.g 52 (by decide)) (Z.F 52 (by decide)).kp (bPair Z) .nil pass0 (pa_cons (pv 1) pa_nil)) (pg_tup rfl (pgs_cons (pg_name (i := 3) sc_lw.nd rfl (Or.inl rfl)) (pgs_cons (pg_name (i := 4) sc_lw.nd rfl (Or.inl rfl)) pgs_nil))))
  (pss_one (ps_if (pt_not (pt_val (pe_call GR (hr.mono (by decide)) (by rfl) (Z.g 62 (by decide)) (Z.F 62 (by decide)).kp (bRight Z) .nil pass0 (pa_cons (pv 1) (pa_cons (pv 3) (pa_cons (pv 4) pa_nil)))))) (pss_one (ps_ret pe_bl)) pss_nil))))
  (pss_cons (ps_set (i := 3) sc_lw.nd rfl (Or.inl rfl) (pe_make Z.B.M0 GI (hr.mono (by decide)) (by rfl) Z.B.g (bInit Z.B) .nil passL (pa_cons (pe_lst (pa_cons pe_str (pa_cons pe_str (pa_cons pe_str (pa_cons pe_str pa_nil))))) (pa_cons (pe_lst (pa_cons (pe_tup (pa_cons pe_str (pa_cons pe_str pa_nil))) (pa_cons (pe_tup (pa_cons pe_str (pa_cons pe_str pa_nil))) pa_nil))) (pa_cons (pe_lst (pa_cons pe_str (pa_cons pe_str (pa_cons pe_str (pa_cons pe_str pa_nil))))) pa_nil)))))
  (pss_cons (ps_set (i := 4) sc_lw.nd rfl (Or.inl rfl) (pe_make Z.B.M0 GI (hr.mono (by decide)) (by rfl) Z.B.g (bInit Z.B) .nil passL (pa_cons (pe_lst (pa_cons pe_str (pa_cons pe_str (pa_cons pe_str (pa_cons pe_str pa_nil))))) (pa_cons (pe_lst (pa_cons (pe_tup (pa_cons pe_str (pa_cons pe_str pa_nil))) (pa_cons (pe_tup (pa_cons pe_str (pa_cons pe_str pa_nil))) pa_nil))) (pa_cons (pe_lst (pa_cons pe_str (pa_cons pe_str (pa_cons pe_str (pa_cons pe_str pa_nil))))) pa_nil)))))
  (pss_cons (ps_set (i := 5) sc_lw.nd rfl (Or.inl rfl) (pe_lst (pa_cons (pe_call GC (hr.mono (by decide)) (by rfl) (Z.g 37 (by decide)) (Z.F 37 (by decide)).kp bC .nil passL (pa_cons (pv 3) (pa_cons (pv 4) pa_nil))) (pa_cons (pe_call GC (hr.mono (by decide)) (by rfl) (Z.g 37 (by decide)) (Z.F 37 (by decide)).kp bC .nil passL (pa_cons (pv 4) (pa_cons (pv 3) pa_nil))) (pa_cons (pe_meth0 (pe_call GB (hr.mono (by decide)) (by rfl) (Z.g 40 (by decide)) (Z.F 40 (by decide)).kp bB .nil passL (pa_cons (pv 3) (pa_cons (pv 4) pa_nil))) Z.B.O.cl Z.B.M4 GB4 (hr.mono (by decide)) (b_m4 Z.B) .nil pass0) pa_nil)))))
  (pss_cons (ps_expr (pe_bm PySem.F.plainAttrs_list PySem.F.slot_list_append PySem.F.type_list_append mt_append (pv 5) (pa_cons (pe_meth0 (pe_call GB (hr.mono (by decide)) (by rfl) (Z.g 40 (by decide)) (Z.F 40 (by decide)).kp bB .nil passL (pa_cons (pv 4) (pa_cons (pv 3) pa_nil))) Z.B.O.cl Z.B.M4 GB4 (hr.mono (by decide)) (b_m4 Z.B) .nil pass0) pa_nil)))
  (pss_cons (ps_set (i := 6) sc_lw.nd rfl (Or.inl rfl) (pe_lst (pa_cons (pe_lst (pa_cons pe_str (pa_cons pe_str pa_nil))) (pa_cons (pe_lst (pa_cons pe_str (pa_cons pe_str pa_nil))) (pa_cons (pe_lst (pa_cons pe_str (pa_cons pe_str (pa_cons pe_str (pa_cons pe_str pa_nil))))) (pa_cons (pe_lst (pa_cons pe_str (pa_cons pe_str (pa_cons pe_str (pa_cons pe_str pa_nil))))) pa_nil))))))
  (pss_one (ps_ret (pe_call GS (hr.mono (by decide)) (by rfl) (Z.g 57 (by decide)) (Z.F 57 (by decide)).kp (bSame Z) .nil pass0 (pa_cons (pv 5) (pa_cons (pv 6) pa_nil)))))))))))), ?_⟩)
  · obtain ⟨a, ns, rfl, _⟩ := h
    rfl
  obtain ⟨a, ns, rfl, hS, tb0, k⟩ := h
  have sz : 5000 < sizeLine := by decide
  refine ⟨_, rfl, a, ns, rfl, hS, fun p l H1 S1 np nl Sm => ?_⟩
  have tb1 : Tabs T H1 := fun q hq => (tb0 q hq).ext fun b o e => Sm _ _ e
  refine ⟨10, rfl, by decide, by decide, for_it walk_range (fun i σ H' => ∃ v2 v3 v4, σ = [some (.ref a), some (.ref p), v2, v3, v4, none, none] ∧ Stm H' p l (210000 * i) ∧ Tabs T H') ⟨none, none, none, rfl, S1, tb1⟩ (fun i σ H' _ _ => trivial) ?_ ?_⟩
  · rintro i x σ H0 H2 hi ⟨v2, v3, v4, rfl, S2, tb2⟩ ⟨rfl, ex⟩
    have hi3 : i < 10 := hi
    refine ⟨_, rfl, p, l, _, rfl, S2, by omega, fun r pl1 ts1 rm1 pl2 ts2 rm2 H3 F3 ⟨r1, r2, hr3, R1, R2, nr⟩ k1 k2 q1 q2 _ st => ⟨r, _, rfl, SqT.of hr3, rfl, _, _, rfl, _, _, rfl, rfl, ?_⟩⟩
    have tb3 := tabs_fr S2 tb2 F3
    refine ⟨_, rfl, _, rfl, _, rfl, p, l, r1, r2, _, _, pl1, ts1, rm1, pl2, ts2, rm2, rfl, F3.st, by omega, tb3, (fun c hc => S2.fr.ne hc), R1, R2, k1, k2, q1, q2, st, fun H4 K4 => ⟨true, rfl, iteF ⟨_, _, _, rfl, K4.st.mono (by omega), K4.tb⟩⟩⟩
  · rintro σ H2 ⟨v2, v3, v4, rfl, S2, tb2⟩
    have two : 2 ≤ sizeLine := by decide
    have f4 : 4 ≤ sizeLine := by decide
    have kn : ∀ {H9 : Hp} {y : Addr} {N : Addr → Prop} {pl : List Str} {ts : List Pr} {rm : List Str}, BoardAt N Z.B.C H9 y pl ts rm → Kn Z.B.C H9 (.ref y) := fun B => by
      obtain ⟨dx, aP, aT, aR, aN, tv, l', e, _⟩ := B
      exact .own e
    have lO : (sortS onP).length ≤ 44 := by rw [sortS_len]; decide
    have lT : (sortS otP).length ≤ 44 := by rw [sortS_len]; decide
    have fO : Few (sortS onP) (sortPr onT) onR := ⟨by rw [(sortPr_perm onT).length_eq]; decide, (sortS_perm onP).nodup_iff.mpr (by decide +kernel), by decide +kernel, TsOk.sorted ⟨by decide +kernel, by decide +kernel⟩⟩
    have fT : Few (sortS otP) (sortPr otT) otR := ⟨by rw [(sortPr_perm otT).length_eq]; decide, (sortS_perm otP).nodup_iff.mpr (by decide +kernel), by decide +kernel, TsOk.sorted ⟨by decide +kernel, by decide +kernel⟩⟩
    refine ⟨f4, fun e1 n1 => ⟨two, fun u1 m1 => ⟨two, fun u2 m2 => ⟨two, fun e2 n2 => ⟨f4, fun e3 n3 => fun x dx nx ndx ne => ?_⟩⟩⟩⟩⟩
    refine init_mk (N := fun _ => True) (N2 := fun _ => True) (N3 := fun _ => True) (ps := onP) (qs := onT) (rs := onR) (HP.lst (new_same n3 _ _ (new_same n2 _ _ (new_same m2 _ _ (new_same m1 _ _ upd_same)))) trivial) (HT.lst (tv := [.ref u1, .ref u2]) (new_same n3 _ _ upd_same) (PrsAt.cons (new_same n3 _ _ (new_same n2 _ _ (new_same m2 _ _ upd_same))) (PrsAt.cons (new_same n3 _ _ (new_same n2 _ _ upd_same)) PrsAt.nil)) (by decide +kernel) trivial (fun _ _ => trivial)) (HP.lst upd_same trivial) (by decide +kernel) (by decide +kernel) (by decide) ⟨by decide +kernel, by decide +kernel⟩ (by decide) (by decide +kernel) (by decide +kernel) nx ndx ne fun H3 B3 _ => ⟨rfl, ?_⟩
    have Bx3 : BoardAt (fun _ => True) Z.B.C H3 x (sortS onP) (sortPr onT) onR := B3.weak fun _ _ => trivial
    clear B3
    refine ⟨f4, fun e1 n1 => ⟨two, fun u1 m1 => ⟨two, fun u2 m2 => ⟨two, fun e2 n2 => ⟨f4, fun e3 n3 => fun y dx nx ndx ne => ?_⟩⟩⟩⟩⟩
    have Sq := ((((new_same (o := .lst (otP.map V.str)) n1).trans (new_same (o := .tup [.str "c", .str "p"]) m1)).trans (new_same (o := .tup [.str "d", .str "q"]) m2)).trans (new_same (o := .lst [.ref u1, .ref u2]) n2)).trans (new_same (o := .lst (otR.map V.str)) n3)
    refine init_mk (N := fun _ => True) (N2 := fun _ => True) (N3 := fun _ => True) (ps := otP) (qs := otT) (rs := otR) (HP.lst (new_same n3 _ _ (new_same n2 _ _ (new_same m2 _ _ (new_same m1 _ _ upd_same)))) trivial) (HT.lst (tv := [.ref u1, .ref u2]) (new_same n3 _ _ upd_same) (PrsAt.cons (new_same n3 _ _ (new_same n2 _ _ (new_same m2 _ _ upd_same))) (PrsAt.cons (new_same n3 _ _ (new_same n2 _ _ upd_same)) PrsAt.nil)) (by decide +kernel) trivial (fun _ _ => trivial)) (HP.lst upd_same trivial) (by decide +kernel) (by decide +kernel) (by decide) ⟨by decide +kernel, by decide +kernel⟩ (by decide) (by decide +kernel) (by decide +kernel) nx ndx ne fun H4 B4 S4 => ⟨rfl, ?_⟩
    have Bx4 := Bx3.same (Sq.trans S4)
    have By4 : BoardAt (fun _ => True) Z.B.C H4 y (sortS otP) (sortPr otT) otR := B4.weak fun _ _ => trivial
    clear B4 Sq S4 Bx3
    refine ⟨_, rfl, _, rfl, .ref x, .ref y, rfl, kn Bx4, .inr ⟨x, _, _, _, rfl, Bx4, lO, fO, kn By4, .inr ⟨y, _, _, _, rfl, By4, lT, fT, fun v5 H5 S5 row => ?_⟩⟩⟩
    rw [st1] at row
    obtain ⟨g1, rfl, _, hg1⟩ := row
    have Bx5 := Bx4.same S5
    have By5 := By4.same S5
    refine ⟨_, rfl, _, rfl, .ref y, .ref x, rfl, kn By5, .inr ⟨y, _, _, _, rfl, By5, lT, fT, kn Bx5, .inr ⟨x, _, _, _, rfl, Bx5, lO, fO, fun v6 H6 S6 row => ?_⟩⟩⟩
    rw [st2] at row
    obtain ⟨g2, rfl, _, hg2⟩ := row
    have Bx6 := Bx5.same S6
    have By6 := By5.same S6
    have hg16 := S6 _ _ hg1
    refine ⟨_, rfl, _, rfl, .ref x, .ref y, rfl, kn Bx6, .inr ⟨x, _, _, _, rfl, Bx6, lO, fO, kn By6, .inr ⟨y, _, _, _, rfl, By6, lT, fT, (fun h => by rw [st1] at h; cases h), fun row mine theirs est w7 H7 Bw S7 => ?_⟩⟩⟩
    obtain ⟨rfl, rfl, rfl⟩ : oPQ = row ∧ oAB = mine ∧ oCD = theirs := by
      have q := st1.symm.trans est
      injection q with q
      injection q with q1 q
      injection q with q2 q3
      exact ⟨q1, q2, q3⟩
    obtain ⟨dxw, _, _, _, _, _, _, hw, _⟩ := id Bw
    refine ⟨w7, dxw, _, rfl, hw, rfl, w7, _, _, _, rfl, Bw.weak fun _ _ => trivial, fun l8 nl8 => ⟨by show 3 ≤ sizeLine; decide, fun f nf => ?_⟩⟩
    have S78 := new_same (o := .lst ((oAB ++ oCD).map V.str)) nl8
    have S79 := S78.trans (new_same (o := .lst [.ref g1, .ref g2, .ref l8]) nf)
    have hl9 := new_same (o := .lst [.ref g1, .ref g2, .ref l8]) nf _ _ (upd_same (H := H7) (a := l8) (o := .lst ((oAB ++ oCD).map V.str)))
    have hf9 := upd_same (H := upd H7 l8 (.lst ((oAB ++ oCD).map V.str))) (a := f) (o := .lst [.ref g1, .ref g2, .ref l8])
    have g19 := S79 _ _ (S7 _ _ hg16)
    have g29 := S79 _ _ (S7 _ _ hg2)
    have Bx9 := Bx6.same (S7.trans S79)
    have By9 := By6.same (S7.trans S79)
    generalize upd (upd H7 l8 (.lst ((oAB ++ oCD).map V.str))) f (.lst [.ref g1, .ref g2, .ref l8]) = H9 at hl9 hf9 g19 g29 Bx9 By9 ⊢
    refine ⟨_, rfl, .inl ⟨rfl, _, SqL.of hf9⟩, _, rfl, _, rfl, .ref y, .ref x, rfl, kn By9, .inr ⟨y, _, _, _, rfl, By9, lT, fT, kn Bx9, .inr ⟨x, _, _, _, rfl, Bx9, lO, fO, (fun h => by rw [st2] at h; cases h), fun row mine theirs est w10 H10 Bw S10 => ?_⟩⟩⟩
    obtain ⟨rfl, rfl, rfl⟩ : oQP = row ∧ oCD = mine ∧ oAB = theirs := by
      have q := st2.symm.trans est
      injection q with q
      injection q with q1 q
      injection q with q2 q3
      exact ⟨q1, q2, q3⟩
    obtain ⟨dxw, _, _, _, _, _, _, hw, _⟩ := id Bw
    refine ⟨w10, dxw, _, rfl, hw, rfl, w10, _, _, _, rfl, Bw.weak fun _ _ => trivial, fun l11 nl11 => ?_⟩
    have S11 := S10.trans (new_same (o := .lst ((oCD ++ oAB).map V.str)) nl11)
    have h11 := upd_same (H := H10) (a := l11) (o := .lst ((oCD ++ oAB).map V.str))
    refine ⟨f, _, _, rfl, rfl, S11 _ _ hf9, by show 3 < sizeLine; decide, ?_⟩
    have ne : ∀ {c : Addr} {ss : List Str}, (upd H10 l11 (.lst ((oCD ++ oAB).map V.str))) c = some (.lst (ss.map V.str)) → c ≠ f := fun {c ss} h z => by
      rw [z, S11 _ _ hf9] at h
      cases ss with
      | nil => cases h
      | cons a t => cases h
    have hf12 := upd_same (H := upd H10 l11 (.lst ((oCD ++ oAB).map V.str))) (a := f) (o := .lst ([V.ref g1, .ref g2, .ref l8] ++ [.ref l11]))
    have keep : ∀ {c : Addr} {ss : List Str}, (upd H10 l11 (.lst ((oCD ++ oAB).map V.str))) c = some (.lst (ss.map V.str)) → (upd (upd H10 l11 (.lst ((oCD ++ oAB).map V.str))) f (.lst ([V.ref g1, .ref g2, .ref l8] ++ [.ref l11]))) c = some (.lst (ss.map V.str)) := fun h => by
      rw [upd_ne (ne h)]
      exact h
    have g112 := keep (S11 _ _ g19)
    have g212 := keep (S11 _ _ g29)
    have l812 := keep (S11 _ _ hl9)
    have l1112 := keep h11
    generalize upd (upd H10 l11 (.lst ((oCD ++ oAB).map V.str))) f (.lst ([V.ref g1, .ref g2, .ref l8] ++ [.ref l11])) = H12 at hf12 g112 g212 l812 l1112 ⊢
    refine ⟨two, fun z1 m1 => ⟨two, fun z2 m2 => ⟨f4, fun z3 m3 => ⟨f4, fun z4 m4 => ⟨f4, fun z5 m5 => ?_⟩⟩⟩⟩⟩
    have s5 := new_same m5 (o := .lst [.ref z1, .ref z2, .ref z3, .ref z4])
    have s4 := (new_same m4 (o := .lst ((oCD ++ oAB).map V.str))).trans s5
    have s3 := (new_same m3 (o := .lst ((oAB ++ oCD).map V.str))).trans s4
    have s2 := (new_same m2 (o := .lst (oQP.map V.str))).trans s3
    have s1 := (new_same m1 (o := .lst (oPQ.map V.str))).trans s2
    refine ⟨_, rfl, _, rfl, .ref f, .ref z5, rfl, .inr (.inr (.inl ⟨f, z5, [V.ref g1, .ref g2, .ref l8, .ref l11], [.ref z1, .ref z2, .ref z3, .ref z4], rfl, rfl, .inl ⟨s1 _ _ hf12, upd_same⟩, rfl, by show 4 ≤ 2000; decide, fun i a b e1 e2 => ?_⟩)), fun H' _ => k H'⟩
    match i, e1, e2 with
    | 0, e1, e2 => cases e1; cases e2; exact sm_strs (ss := oPQ) (s1 _ _ g112) (s2 _ _ upd_same) (by decide)
    | 1, e1, e2 => cases e1; cases e2; exact sm_strs (ss := oQP) (s1 _ _ g212) (s3 _ _ upd_same) (by decide)
    | 2, e1, e2 => cases e1; cases e2; exact sm_strs (ss := oAB ++ oCD) (s1 _ _ l812) (s4 _ _ upd_same) (by decide)
    | 3, e1, e2 => cases e1; cases e2; exact sm_strs (ss := oCD ++ oAB) (s1 _ _ l1112) (s5 _ _ upd_same) (by decide)
end
end E1

set_option Elab.async false
set_option linter.all false
set_option maxRecDepth 100000
set_option maxHeartbeats 8000000
/-! The head: what is looked at behind the top. -/
namespace E1
open PySem PySem.Spec PyProof.Rows L2 G0 LamX
def errN : List (Str × Str) := [("BadPlaces", "index"), ("BadTies", "index"), ("BadRim", "index"), ("BadBoard", "thing")]
def errIx : List Nat := [5, 7, 6, 3]
def clN : List Str := ["BadBoard", "NoPlace", "IsPin", "BadCross", "NotBeside", "NotWithin"]
def flN : List Str := ["thing", "thing", "place", "thing"]
def eA (K : PySem.W.Frag) (i : Nat) : Addr := He.ga K (errN.getD i ("", "")).1
def bdC (K : PySem.W.Frag) : Addr := He.ga K "Board"
def cA (K : PySem.W.Frag) (i : Nat) : Addr := He.ga K (clN.getD i "")
def mNms : List Str := ["__init__", "__eq__", "places", "ties", "rim", "has_place"]
def mNm (j : Nat) : Str := mNms.getD j ""
def tops : List Nat := [17, 18, 19, 20, 21, 22, 24, 25, 28, 30, 32, 34, 35, 36, 37, 38, 39, 40, 42, 43, 44, 45, 46, 47, 48, 49, 50, 51, 52, 53, 54, 55, 56, 57, 58, 59, 60, 61, 62, 63, 64]
/-! ### the classes' objects -/
def oexB (K : PySem.W.Frag) (C : Addr) : Bool := match K.lookup C with
  | some ⟨.type t, _, .cls cd, sl⟩ => decide (t = "type") && ((match cd.mro with
    | .ref c :: bm => decide (c = C) && PySem.HandSPX.refsVE bm
    | _ => false) && (cd.hasDict && (!cd.hasDel && (match sl.toList with
    | [_, _, _, _, some (.builtin n), _] => decide (n = "ValueError.__new__")
    | _ => false))))
  | _ => false
theorem oexB_ok {K : PySem.W.Frag} {C : Addr} (h : oexB K C = true) : ∃ nm q N bs bm sn sub ab col dd k0 k1 k2 k3 k5, K.lookup C = some (excClassObj nm q C N bs bm true sn sub ab col dd k0 k1 k2 k3 k5 "ValueError.__new__") ∧ PySem.HandSPX.refsVE bm = true := by
  unfold oexB at h
  cases q : K.lookup C with
  | none =>
    rw [q] at h
    cases h
  | some o =>
    obtain ⟨oc, od, dt, sl⟩ := o
    rw [q] at h
    cases oc with
    | type t =>
      cases dt with
      | cls cd =>
        obtain ⟨nm, bs, mro, ns, qn, hd, sn, sub, ab, col, del⟩ := cd
        obtain ⟨sl⟩ := sl
        dsimp only at h
        obtain ⟨b1, h1⟩ := He.ba h
        obtain ⟨b2, h2⟩ := He.ba h1
        obtain ⟨b3, h3⟩ := He.ba h2
        obtain ⟨b4, b5⟩ := He.ba h3
        clear h3 h2 h1 h
        have e1 : t = "type" := of_decide_eq_true b1
        have e4 : del = false := by
          cases del with
          | false => rfl
          | true => cases b4
        subst e1 e4
        cases mro with
        | nil => cases b2
        | cons v bm =>
          cases v with
          | ref c =>
            replace b2 : (decide (c = C) && PySem.HandSPX.refsVE bm) = true := b2
            obtain ⟨c1, c2⟩ := He.ba b2
            have e5 : c = C := of_decide_eq_true c1
            subst e5
            have e3 : hd = true := b3
            subst e3
            split at b5
            · rename_i _ k0 k1 k2 k3 n k5
              have e6 : n = "ValueError.__new__" := of_decide_eq_true b5
              subst e6
              exact ⟨nm, qn, ns, bs, bm, sn, sub, ab, col, od, k0, k1, k2, k3, k5, rfl, c2⟩
            · cases b5
          | _ => cases b2
      | _ => cases h
    | _ => cases dt <;> cases h
def plnB (K : PySem.W.Frag) (C f : Addr) : Bool := match K.lookup C with
  | some ⟨.type t, _, .cls cd, sl⟩ => decide (t = "type") && (decide (cd.mro = [.ref C, .type "object"]) && (!cd.hasDel && ((match sl.toList with
    | [_, _, _, _, some (.builtin _), _] => true
    | _ => false) && (PySem.W.nsOkIn K cd.ns && (He.eqO (PySem.W.nsIn K cd.ns "__eq__") (some (some (.ref f))) && He.eqO (PySem.W.nsIn K cd.ns "__ne__") (some none))))))
  | _ => false
theorem ns_of {K : PySem.W.Frag} {h : Heap} {N : Addr} {mg : Str → Option Value} {n : Str} {v : Value} (X : K.In h) (G : h.Ns N mg) (e : PySem.W.nsIn K N n = some (some v)) : mg n = some v := by
  obtain ⟨o, es, ep, ho, hd, _, hf⟩ := G
  unfold PySem.W.nsIn at e
  split at e
  · rename_i c d es' n' sl q
    have z := X _ _ q
    rw [ho] at z
    cases z
    cases hd
    split at e
    · rename_i en hen
      cases e
      rw [← hf]
      unfold nsFind findBy
      rw [← Array.find?_toList, hen]
      rfl
    · split at e <;> cases e
  · cases e
theorem eq_obj : typeLookup (.type "object") ("__eq__" : Str) = pure (some (.builtin "object.__eq__")) := by
  rw [typeLookup_type, builtinLookup_eq_fast]
  kernel_rfl
theorem plnB_ok {K : PySem.W.Frag} {C f : Addr} (h : plnB K C f = true) (tf : PySem.W.typeIn K (.ref f) = some (.type "function")) (hp : Heap) (x : Addr) (o : Obj) (X : K.In hp) (hx : hp.get? x = some o) (ho : o.cls = .ref C) : hp.OwnEqNoNe x C f "object" [.type "object"] := by
  have tf2 : (K.lookup f).map (·.cls) = some (.type "function") := tf
  obtain ⟨fo, hf, hfc⟩ := Option.map_eq_some_iff.mp tf2
  unfold plnB at h
  cases q : K.lookup C with
  | none =>
    rw [q] at h
    cases h
  | some ob =>
    obtain ⟨oc, od, dt, sl⟩ := ob
    rw [q] at h
    cases oc with
    | type t =>
      cases dt with
      | cls cd =>
        obtain ⟨nm, bs, mro, ns, qn, hd, sn, sub, ab, col, del⟩ := cd
        obtain ⟨sl⟩ := sl
        dsimp only at h
        obtain ⟨b1, h1⟩ := He.ba h
        obtain ⟨b2, h2⟩ := He.ba h1
        obtain ⟨b3, h3⟩ := He.ba h2
        obtain ⟨b4, h4⟩ := He.ba h3
        obtain ⟨b5, h5⟩ := He.ba h4
        obtain ⟨b6, b7⟩ := He.ba h5
        clear h5 h4 h3 h2 h1 h
        have e1 : t = "type" := of_decide_eq_true b1
        have e2 : mro = [.ref C, .type "object"] := of_decide_eq_true b2
        have e4 : del = false := by
          cases del with
          | false => rfl
          | true => cases b3
        subst e1 e2 e4
        split at b4
        · rename_i _ k0 k1 k2 k3 n k5
          have N0 := Heap.Ns.of_isNs (PySem.W.isNs_of_in X b5)
          exact ⟨o, fo, nm, qn, ns, bs, hd, sn, sub, ab, col, od, k0, k1, k2, k3, k5, n, _, _, hx, ho, X _ _ q, N0, ns_of X N0 (He.eqO_ok b6), X _ _ hf, hfc, PySem.F.mro_object, eq_obj, PySem.W.nsMap_none_of_in X b5 (He.eqO_ok b7)⟩
        · cases b4
      | _ => cases h
    | _ => cases dt <;> cases h
/-! ### what is asked of them -/
def oneE (K : PySem.W.Frag) (p : Str × Str) : Bool := oexB K (He.ga K p.1) && (He.eqO (PySem.W.findIn K (.ref (He.ga K p.1)) "__setattr__") (some (some (.builtin "object.__setattr__"))) && (decide (PySem.W.subIn K (.ref (He.ga K p.1)) (.type "BaseException") = some true) && (decide (PySem.W.typeIn K (.ref (He.ga K p.1)) = some (.type "type")) &&
  (PySem.W.keepIn K (.ref (He.ga K p.1)) && (He.eqO (PySem.W.findIn K (.ref (He.ga K p.1)) p.2) (some none) && (He.eqO (PySem.W.findIn K (.ref (He.ga K p.1)) "__init__") (some (some (.ref (He.ma K (He.ga K p.1) "__init__")))) && (decide (PySem.W.typeIn K (.ref (He.ma K (He.ga K p.1) "__init__")) = some (.type "function")) && xfB K (He.ga K p.1))))))))
def exmB (K : PySem.W.Frag) : Bool := (List.range 6).all fun j => decide (PySem.W.exmOne K (.ref (cA K 0)) (.ref (cA K j)) = some (decide (0 = j))) && decide (PySem.W.exmOne K (.ref (cA K 4)) (.ref (cA K j)) = some (decide (4 = j)))
def xflB (K : PySem.W.Frag) : Bool := (List.range 4).all fun j => xfB K (cA K j) && He.eqO (PySem.W.findIn K (.ref (cA K j)) (flN.getD j "")) (some none)
def knT : List String := ["str", "list", "tuple", "dict", "int", "bool"]
def clsB (K : PySem.W.Frag) (C : Addr) : Bool := He.eqO (PySem.W.findIn K (.ref C) "__class__") (some (some (.builtin "object.__class__"))) && (decide (PySem.W.mroIn K C (.type "object") = some true) && (knT.all (fun T => decide (PySem.W.kitOne K (.ref C) (.type T) = some false)) &&
  ((knT ++ ["NoneType"]).all (fun T => decide (PySem.W.kitOne K (.type T) (.ref C) = some false)) && (He.eqO (PySem.W.findIn K (.ref C) "__eq__") (some (some (.ref (He.ma K C "__eq__")))) && (decide (PySem.W.typeIn K (.ref (He.ma K C "__eq__")) = some (.type "function")) && (plnB K C (He.ma K C "__eq__") &&
  (["NoneType", "bool", "int", "str", "list", "tuple", "dict"].all fun T => PySem.W.notFirst K C (.type T))))))))
def lamT : List He.Defn := [("_law_right", none), ("_law_refused_right", none)]
def twoT (K : PySem.W.Frag) : Bool := decide ((He.cT K ("_law_right", none)).2 ≠ (He.cT K ("_law_refused_right", none)).2)
/-- an own error without an __init__ -/
def nbB (K : PySem.W.Frag) : Bool := PySem.W.excIn K (cA K 4) [.type "ValueError", .type "Exception", .type "BaseException", .type "object"] "ValueError.__new__" && (PySem.W.keepIn K (.ref (cA K 4)) &&
  (decide (PySem.W.subIn K (.ref (cA K 4)) (.type "BaseException") = some true) && decide (PySem.W.typeIn K (.ref (cA K 4)) = some (.type "type"))))
def exB (K : PySem.W.Frag) : Bool := ((K.lookup sysModules).isSome && nbB K) && (errN.all (oneE K) && (exmB K && (clsB K (bdC K) && (xflB K && (twoT K && He.tupB K "WORDS" (wordsL.map He.Dv.str))))))
/-! ### the head's data -/
def topD (i : Nat) : He.DefD := ⟨(tName i, none), tName i, tName i, defArgs (topS i), defBody (topS i), defScope (topS i), [], []⟩
def errD (k : Nat) : He.DefD := ⟨((errN.getD k ("", "")).1, some "__init__"), "__init__", (errN.getD k ("", "")).1 ++ ".__init__", defArgs (inClass (topS (errIx.getD k 0)) 0), defBody (inClass (topS (errIx.getD k 0)) 0), defScope (inClass (topS (errIx.getD k 0)) 0), [], []⟩
def brdD (j : Nat) : He.DefD := ⟨("Board", some (mNm j)), mNm j, "Board." ++ mNm j, defArgs (mS j), defBody (mS j), defScope (mS j), [], []⟩
def fn : List He.DefD := tops.map topD ++ ((List.range 4).map errD ++ (List.range 6).map brdD)
def frees : List Str := ["int", "list", "len", "range", "isinstance", "str", "tuple", "all", "enumerate", "sorted", "dict", "min", "max", "zip", "any", "repr", "bool", "set"]
def fa : List He.Fa := tops.map (fun i => He.Fa.glo (tName i)) ++ (errN.map (fun p => He.Fa.glo p.1) ++ (frees.map He.Fa.free ++ (clN.map He.Fa.glo ++ [.glo "Board", .glo "WORDS", .str "LETTERS" lettersS, .str "NAME_SIGNS" signsS, .int "LONGEST_NAME" 8, .cls "Board", .noat "Board" "_places", .noat "Board" "_ties", .noat "Board" "_rim", .noat "Board" "_near", .mkr "Board", .meth "Board" "places", .meth "Board" "ties", .meth "Board" "rim", .meth "Board" "has_place"])))
def tf : List He.Defn := lamT
/-! ### the Hook: a part of the heap, laid out once -/
def refsG (g : Addr → Option Obj) (a : Addr) : List Addr := match g a with
  | some ⟨_, _, .dict es _, _⟩ => es.toList.flatMap fun e => He.refV e.val
  | _ => []
def codeG (g : Addr → Option Obj) (a : Addr) : List Addr := match g a with
  | some ⟨_, _, .func fd, _⟩ => He.refV fd.code
  | _ => []
def asY (g : Addr → Option Obj) : List Addr := sysModules :: mainGlobals :: (refsG g mainGlobals).flatMap fun a => a :: (match g a with
  | some ⟨_, _, .cls cd, _⟩ => cd.ns :: (refsG g cd.ns).flatMap fun f => f :: codeG g f
  | some ⟨_, _, .func fd, _⟩ => He.refV fd.code
  | _ => [])
def forceK {β : Type} : List (Addr × Obj) → (List (Addr × Obj) → β) → β
  | [], k => k []
  | p :: r, k => match p with
    | (a, o) => HandSHeadRun.frNat a fun a => forceK r fun K => k ((a, o) :: K)
theorem forceK_eq {β : Type} : ∀ (l : List (Addr × Obj)) (k : List (Addr × Obj) → β), forceK l k = k l
  | [], k => rfl
  | (a, o) :: r, k => by
    show HandSHeadRun.frNat a (fun a => forceK r fun K => k ((a, o) :: K)) = _
    rw [HandSHeadRun.frNat_eq, forceK_eq r]
abbrev AlY : Type := He.AlD × Bool
/-- what is told -/
structure SaysY (h : Heap) (K : PySem.W.Frag) : Prop where
  d : He.SaysD fa fn K
  more : exB K = true
  hd : ∀ p ∈ tf, PySem.W.codeHdIn K (He.cT K p).1 (He.cT K p).2 = true
  out : ∀ p ∈ tf, K.lookup (He.cT K p).2 = none
  empty : ∀ p ∈ tf, h.get? (He.cT K p).2 = some { cls := .none, data := .fields #[] }
def tabY (g : Addr → Option Obj) (K : PySem.W.Frag) : Bool := tf.all fun p => PySem.W.codeHdIn K (He.cT K p).1 (He.cT K p).2 && ((match g (He.cT K p).2 with
  | some o => He.emptyTab o
  | none => false) && (K.lookup (He.cT K p).2).isNone)
def obsY (g : Addr → Option Obj) : AlY := forceK (He.frG g (asY g)) fun K => (He.obsD fa fn K, exB K && tabY g K)
def valY : AlY := (He.valD fn, true)
theorem saysY_of {h : Heap} (e : obsY h.get? = valY) : SaysY h (He.frG h.get? (asY h.get?)) := by
  unfold obsY at e
  rw [forceK_eq] at e
  have e1 := congrArg (fun z : AlY => z.1) e
  have e2 : (exB (He.frG h.get? (asY h.get?)) && tabY h.get? (He.frG h.get? (asY h.get?))) = true := congrArg (fun z : AlY => z.2) e
  obtain ⟨h1, h2⟩ := He.ba e2
  have key : ∀ p ∈ tf, PySem.W.codeHdIn (He.frG h.get? (asY h.get?)) (He.cT (He.frG h.get? (asY h.get?)) p).1 (He.cT (He.frG h.get? (asY h.get?)) p).2 = true ∧
      (He.frG h.get? (asY h.get?)).lookup (He.cT (He.frG h.get? (asY h.get?)) p).2 = none ∧ h.get? (He.cT (He.frG h.get? (asY h.get?)) p).2 = some { cls := .none, data := .fields #[] } := fun p hp => by
    obtain ⟨h3, h4⟩ := He.ba (List.all_eq_true.mp h2 p hp)
    obtain ⟨h5, h6⟩ := He.ba h4
    refine ⟨h3, Option.isNone_iff_eq_none.mp h6, ?_⟩
    cases q : h.get? (He.cT (He.frG h.get? (asY h.get?)) p).2 with
    | none =>
      rw [q] at h5
      cases h5
    | some o =>
      rw [q] at h5
      rw [He.emptyTab_eq h5]
  exact ⟨e1, h1, fun p hp => (key p hp).1, fun p hp => (key p hp).2.1, fun p hp => (key p hp).2.2⟩
def hookY : PySem.W.Hook where
  α := AlY
  obs := fun s => obsY s.heap.get?
  val := fun _ => valY
  says := fun _ h => ∃ K : PySem.W.Frag, K.In h ∧ SaysY h K
  of := fun _ _ e => ⟨_, He.frG_in, saysY_of e⟩
  keeps := fun _ _ _ ⟨K, hK, c⟩ k => ⟨K, PySem.W.Frag.In.keeps hK k, ⟨c.d, c.more, c.hd, c.out, fun p hp => k _ _ (c.empty p hp)⟩⟩
theorem obsY_eq {g : Addr → Option Obj} {s : Shared} (h : ∀ a, g a = s.heap.get? a) : obsY g = hookY.obs s := by
  have e : g = s.heap.get? := funext h
  rw [e] <;> rfl
end E1

set_option Elab.async false
set_option linter.all false
set_option maxRecDepth 100000
set_option maxHeartbeats 4000000
/-! What the head tells, as the rules ask it. -/
namespace E1
open PySem PySem.Spec PyProof.Rows L2 G0 LamX
def fdOf (z : FuncData) (K : PySem.W.Frag) (f : Addr) : FuncData := match K.lookup f with
  | some ⟨_, _, .func fd, _⟩ => fd
  | _ => z
section
variable {K : PySem.W.Frag} {x q : Str} {ar : Arguments} {bo : List Stmt} {sc : Scope} {f : Addr} {st : Stmt}
theorem funD_of {z : FuncData} (h : ∃ fd, FunD K x q ar bo sc [] [] f fd) : FunD K x q ar bo sc [] [] f (fdOf z K f) := by
  obtain ⟨fd, F⟩ := h
  obtain ⟨oc, od, dV, kV, doc, pm, an, cdv, ct, osl, e, lk, hcd, hD, hK⟩ := F.ex
  have ef : fdOf z K f = fd := by
    unfold fdOf
    rw [lk]
  rw [ef]
  exact F
theorem fun_of {z : FuncData} (h : ∃ fd, FunD K x q (defArgs st) (defBody st) (defScope st) [] [] f fd) : Fun K x q st f (fdOf z K f) := by
  have F := funD_of (z := z) h
  obtain ⟨oc, od, dV, kV, doc, pm, an, cdv, ct, osl, e, lk, hcd, hD, hK⟩ := F.ex
  rcases hD with ⟨_, rfl⟩ | ⟨n, _⟩
  · exact ⟨⟨oc, od, kV, doc, pm, an, cdv, ct, osl, e, lk, hcd⟩, F.kp⟩
  · exact absurd rfl n
end
theorem sp_get (K : PySem.W.Frag) : PySem.W.specialIn K (.builtin "object.__class__") "__get__" = some (some (.builtin "getset_descriptor.__get__")) := by
  show PySem.W.specialIn [] (.builtin "object.__class__") "__get__" = _
  decide +kernel
theorem sp_tak (K : PySem.W.Frag) : PySem.W.takesIn K (.builtin "object.__class__") = some true := by
  show PySem.W.takesIn [] (.builtin "object.__class__") = _
  decide +kernel
section
variable {K : PySem.W.Frag} {h : Heap} {mg : Str → Option Value}
theorem glo_of (X : K.In h) (G : h.Ns mainGlobals mg) (Y : SaysY h K) {x : Str} (m : He.Fa.glo x ∈ fa) : mg x = some (.ref (He.ga K x)) := He.glo_ok X G (Y.d.facts m)
theorem top_mem {i : Nat} (m : i ∈ tops) : He.Fa.glo (tName i) ∈ fa := List.mem_append_left _ (List.mem_map.mpr ⟨i, m, rfl⟩)
theorem frees_mem {x : Str} (m : x ∈ frees) : He.Fa.free x ∈ fa := List.mem_append_right _ (List.mem_append_right _ (List.mem_append_left _ (List.mem_map.mpr ⟨x, m, rfl⟩)))
theorem topD_mem {i : Nat} (m : i ∈ tops) : topD i ∈ fn := List.mem_append_left _ (List.mem_map.mpr ⟨i, m, rfl⟩)
theorem errD_mem {i : Nat} (m : i < 4) : errD i ∈ fn := List.mem_append_right _ (List.mem_append_left _ (List.mem_map.mpr ⟨i, List.mem_range.mpr m, rfl⟩))
theorem brdD_mem {i : Nat} (m : i < 6) : brdD i ∈ fn := List.mem_append_right _ (List.mem_append_right _ (List.mem_map.mpr ⟨i, List.mem_range.mpr m, rfl⟩))
theorem clN_mem {x : Str} (m : x ∈ clN) : He.Fa.glo x ∈ fa := List.mem_append_right _ (List.mem_append_right _ (List.mem_append_right _ (List.mem_append_left _ (List.mem_map.mpr ⟨x, m, rfl⟩))))
/-- the last facts -/
theorem last_fact (Y : SaysY h K) (i : Nat) {f : He.Fa} (e : fa[69 + i]? = some f) : f.ok K = true := Y.d.facts (List.mem_of_getElem? e)
theorem fn_of_top (Y : SaysY h K) {z : FuncData} {i : Nat} (m : i ∈ tops) : FnS K i (He.ga K (tName i)) (fdOf z K (He.ga K (tName i))) := fun_of (Y.d.defs (topD_mem m))
theorem err_of (X : K.In h) (G : h.Ns mainGlobals mg) (Y : SaysY h K) : ∀ p ∈ errN, oneE K p = true := fun p hp => by
  obtain ⟨_, h1⟩ := He.ba Y.more
  exact List.all_eq_true.mp (He.ba h1).1 p hp
theorem oexC_of {C : Addr} (h1 : oexB K C = true) (h2 : PySem.W.findIn K (.ref C) "__setattr__" = some (some (.builtin "object.__setattr__"))) (h3 : PySem.W.subIn K (.ref C) (.type "BaseException") = some true) (h4 : PySem.W.typeIn K (.ref C) = some (.type "type")) (h5 : PySem.W.keepIn K (.ref C) = true) : OexC K C := ⟨oexB_ok h1, h2, h3, h4, h5⟩
end
/-- one error's class, as the law's rules ask it -/
noncomputable def errOf {K : PySem.W.Frag} {h : Heap} {mg : Str → Option Value} (z : FuncData) (X : K.In h) (G : h.Ns mainGlobals mg) (Y : SaysY h K) (i : Nat) (nm fl : Str) (k : Nat) (hk : k < 4) (e : errN[k]? = some (nm, fl)) (ei : errIx.getD k 0 = i) : ErrD K mg i nm fl :=
  have hp : (nm, fl) ∈ errN := List.mem_of_getElem? e
  have en : errN.getD k ("", "") = (nm, fl) := by rw [List.getD_eq_getElem?_getD, e]; rfl
  have one := err_of X G Y _ hp
  have b1 := He.ba one
  have b2 := He.ba b1.2
  have b3 := He.ba b2.2
  have b4 := He.ba b3.2
  have b5 := He.ba b4.2
  have b6 := He.ba b5.2
  have b7 := He.ba b6.2
  have b8 := He.ba b7.2
  have FD : ∃ fd, FunD K "__init__" (nm ++ ".__init__") (defArgs (inClass (topS i) 0)) (defBody (inClass (topS i) 0)) (defScope (inClass (topS i) 0)) [] [] (He.ma K (He.ga K nm) "__init__") fd := by
    have z := Y.d.defs (errD_mem hk)
    unfold errD at z
    rw [en, ei] at z
    exact z
  { C := He.ga K nm
    f := He.ma K (He.ga K nm) "__init__"
    fd := fdOf z K (He.ma K (He.ga K nm) "__init__")
    F := funD_of FD
    T := oexC_of b1.1 (He.eqO_ok b2.1) (of_decide_eq_true b3.1) (of_decide_eq_true b4.1) b5.1
    no := He.eqO_ok b6.1
    iC := He.eqO_ok b7.1
    tI := of_decide_eq_true b8.1
    g := glo_of X G Y (List.mem_append_right _ (List.mem_append_left _ (List.mem_map.mpr ⟨(nm, fl), hp, rfl⟩))) }
end E1

set_option Elab.async false
set_option linter.all false
set_option maxRecDepth 100000
set_option maxHeartbeats 3200000
/-! Sets of objects that are told apart by a key (tuples of texts, say): adding, over any such kind. -/
namespace G14
open PySem PySem.Spec PyProof.Rows L2
/-- objects that a set may hold -/
structure Elt (P : Program) (w : World) (K : Type) [DecidableEq K] where
  At : Heap → K → Addr → Prop
  num : K → Int
  stay : ∀ {h h' : Heap} {k : K} {b : Addr}, At h k b → (∀ o, h.get? b = some o → h'.get? b = some o) → At h' k b
  noSet : ∀ {h : Heap} {k : K} {b : Addr} {o : Obj} {es : Array (Int × Value)} {ep : Nat} {t : SetTable}, At h k b → h.get? b = some o → o.data = .set es ep t → False
  one : ∀ {h : Heap} {k k' : K} {b : Addr}, At h k b → At h k' b → k = k'
  cmp : ∀ {A : Around} {E : Value → Shared → Prop} {s : Shared} {k k' : K} {b c : Addr} {Q : Bool → Shared → Prop}, A.units < cLine → At s.heap k' c → At s.heap k b → Q (decide (k' = k)) s → wpAny (model P w) A (eqBool (.ref c) (.ref b)) Q E s
  mute : ∀ {A : Around} {E : Value → Shared → Prop} {s : Shared} {k : K} {b : Addr} {ys : List Value} {Q : Bool → Shared → Prop}, At s.heap k b → (∀ y ∈ ys, ∃ k' c, y = Value.ref c ∧ At s.heap k' c) → Q false s → wpAny (model P w) A (searchCouldBeSeen (.ref b) ys) Q E s
  byVal : ∀ {A : Around} {E : Value → Shared → Prop} {s : Shared} {k : K} {b : Addr} {Q : Bool → Shared → Prop}, At s.heap k b → (∀ z, Q z s) → wpAny (model P w) A (hashByValue 8 (.ref b)) Q E s
  hashed : ∀ {A : Around} {E : Value → Shared → Prop} {s : Shared} {k : K} {b : Addr} {Q : Int → Shared → Prop}, A.units < cLine → At s.heap k b → (∀ n, Q (num k) { s with toks := s.toks + n }) → wpAny (model P w) A (pyHash (.ref b)) Q E s
/-! ### the way of a probe -/
abbrev pr (m : Nat) (d : Int) (c : Nat) : SetTable.Probe := nth m (runAt m (SetTable.bits d % (m + 1)) (SetTable.bits d)) c
theorem pr_more (m : Nat) (d : Int) (c q : Nat) : nth m (pr m d c) q = pr m d (c + q) := (nth_add m c _ q).symm
theorem adv_dm (m : Nat) (p : SetTable.Probe) : (adv m p).dummy = p.dummy := by
  unfold adv
  split <;> rfl
theorem pr_dm (m : Nat) (d : Int) : ∀ c, (pr m d c).dummy = none
  | 0 => rfl
  | c + 1 => by
    show (nth m _ (c + 1)).dummy = none
    rw [nth_succ, adv_dm]
    exact pr_dm m d c
section
variable {P : Program} {w : World} {A : Around} {E : Value → Shared → Prop} {s : Shared} {K : Type} [DecidableEq K] {T : Elt P w K}
def lines (T : Elt P w K) (L : List (Addr × K)) : List (Int × Value) := L.map fun p => (T.num p.2, Value.ref p.1)
theorem lines_len (L : List (Addr × K)) : (lines T L).length = L.length := List.length_map _
theorem lines_at {L : List (Addr × K)} {i : Nat} {p : Addr × K} (h : L[i]? = some p) : (lines T L)[i]? = some (T.num p.2, Value.ref p.1) := by
  unfold lines
  rw [List.getElem?_map, h]
  rfl
/-- a set that holds just these -/
structure SetE (T : Elt P w K) (h : Heap) (a : Addr) (L : List (Addr × K)) (es : Array (Int × Value)) (ep : Nat) (t : SetTable) : Prop where
  ob : ∃ o, h.get? a = some o ∧ o.ExactSet ∧ o.data = .set es ep t
  rows : es.toList = lines T L
  tab : TabOk t (L.map fun p => T.num p.2)
  nd : (L.map (·.2)).Nodup
  has : ∀ p ∈ L, T.At h p.2 p.1
  led : w.params.followText "set-order" = true ∨ t.led = true
  room : L.length * 5 < t.mask * 3
  few : L.length < 64
variable {a : Addr} {L : List (Addr × K)} {es : Array (Int × Value)} {ep : Nat} {t : SetTable}
theorem rows_size (e : es.toList = lines T L) : es.size = L.length := by
  rw [← Array.length_toList, e, lines_len]
theorem tab_size (e : TabOk t (L.map fun p => T.num p.2)) : t.place.size = L.length := by
  rw [e.sz, List.length_map]
theorem fits_of (hp : t.place.size = L.length) (dm : t.dummies = #[]) (he : es.size = L.length) (le : L.length ≤ t.mask) : t.fits es.size = true := by
  unfold SetTable.fits SetTable.fill
  rw [dm, Bool.and_eq_true, beq_iff_eq, decide_eq_true_eq, hp, he]
  exact ⟨rfl, le⟩
theorem SetE.fits (R : SetE T s.heap a L es ep t) : t.fits es.size = true := fits_of (tab_size R.tab) R.tab.dm (rows_size R.rows) (by have := R.room; omega)
theorem SetE.entry (R : SetE T s.heap a L es ep t) {i : Nat} {p : Addr × K} (h : L[i]? = some p) : es[i]? = some (T.num p.2, Value.ref p.1) := by
  rw [← Array.getElem?_toList, R.rows]
  exact lines_at h
theorem SetE.stands (R : SetE T s.heap a L es ep t) : ¬ t.gaveWay = true := by
  unfold SetTable.gaveWay
  rw [mask_odd R.tab.mok]
  decide
/-- the search, from the c-th step on -/
theorem seek (R : SetE T s.heap a L es ep t) {x : Addr} {k : K} (hx : T.At s.heap k x) (hu : A.units < cLine) {J : Nat} (fuel : J < 10 * SetTable.turns t.mask)
    (free : way t.mask (T.num k) J ∉ t.place.toList) (busy : ∀ c, c < J → way t.mask (T.num k) c ∈ t.place.toList) {Q : SetFound → Shared → Prop}
    (yes : k ∈ L.map (·.2) → Q (.there none) s) (no : k ∉ L.map (·.2) → Q (.free (way t.mask (T.num k) J) false) s) :
    ∀ (f c : Nat) (stand : Option SetTable.Probe), stand.getD (t.probeStart (T.num k)) = pr t.mask (T.num k) c → c ≤ J → J - c < f →
      (∀ (i : Nat) p, L[i]? = some p → p.2 = k → ∃ c', c ≤ c' ∧ c' < J ∧ t.place.toList[i]? = some (way t.mask (T.num k) c')) →
      wpAny (model P w) A (setSearchFrom a (.ref x) (T.num k) true f stand) Q E s
  | 0, _, _, _, _, lt, _ => absurd lt (Nat.not_lt_zero _)
  | f + 1, c, stand, at_, le, lt, far => by
    obtain ⟨o, ho, ex, da⟩ := R.ob
    rw [setSearchFrom_succ]
    refine wpAny_bind (wpAny_setState_of ho da R.fits ?_)
    dsimp only
    refine wp_if_neg R.stands ?_
    try refine wpAny_bind (wpAny_pure ?_)
    have j_ : ∀ q, (nth t.mask (pr t.mask (T.num k) c) q).j = way t.mask (T.num k) (c + q) := fun q => congrArg SetTable.Probe.j (pr_more _ _ c q)
    have hash_ : ∀ (i : Nat) p, L[i]? = some p → (es[i]?.map (·.1)).getD 0 = T.num p.2 := fun i p hp => by
      rw [R.entry hp]
      rfl
    have found := go_spec t R.tab.ris R.tab.dm (fun i => (es[i]?.map (·.1)).getD 0) (T.num k) (10 * SetTable.turns t.mask) (J - c) (pr t.mask (T.num k) c) (pr_dm _ _ c) (by omega) (fun q hq => by rw [j_]; exact busy _ (by omega)) (by rw [j_, show c + (J - c) = J by omega]; exact free)
    rcases found with ⟨q, i, hq, hi, hh, ahead, met⟩ | ⟨ahead, met⟩
    · have met' : t.probe (fun i => (es[i]?.map (·.1)).getD 0) (T.num k) (stand.getD (t.probeStart (T.num k))) = some (.candidate (way t.mask (T.num k) (c + q)) i (pr t.mask (T.num k) (c + (q + 1)))) := by
        rw [at_, ← j_, ← pr_more]
        exact met
      rw [met']
      dsimp only
      rw [j_] at hi
      have il : i < L.length := by
        rw [← tab_size R.tab, ← Array.length_toList]
        exact (List.getElem?_eq_some_iff.mp hi).1
      obtain ⟨p, hp⟩ : ∃ p, L[i]? = some p := ⟨_, List.getElem?_eq_getElem il⟩
      have mem : p ∈ L := List.mem_of_getElem? hp
      have rest : wpAny (model P w) A (searchRest a (.ref x) (T.num k) true f es t (way t.mask (T.num k) (c + q)) i (pr t.mask (T.num k) (c + (q + 1)))) Q E s := by
        unfold searchRest
        rw [R.entry hp]
        dsimp only
        refine wpAny_bind (wpAny_holding (T.cmp hu (R.has p mem) hx ?_))
        refine wpAny_bind (wpAny_setState_of ho da R.fits ?_)
        dsimp only
        by_cases same : p.2 = k
        · refine wp_if_pos (by simp [same]) ?_
          exact wpAny_pure (yes (List.mem_map.mpr ⟨p, mem, same⟩))
        · refine wp_if_neg (by simp [same]) ?_
          try refine wpAny_bind (wpAny_pure ?_)
          rw [sameMem]
          dsimp only
          have live : t.slot (way t.mask (T.num k) (c + q)) = .live i := slot_live R.tab.ris hi
          simp only [if_true, live, R.entry hp]
          refine wpAny_bind (wpAny_isSame_ref_self (wpAny_bind (wpAny_pure ?_)))
          simp only [if_true]
          refine wp_if_neg (by simp [same]) ?_
          refine seek R hx hu fuel free busy yes no f (c + (q + 1)) _ rfl (by omega) (by omega) fun i' p' h' k' => ?_
          obtain ⟨c', b1, b2, b3⟩ := far i' p' h' k'
          have ne : c' ≠ c + q := fun z => by
            rw [z] at b3
            have live' := slot_live R.tab.ris b3
            rw [live] at live'
            injection live' with e
            rw [← e, hp] at h'
            cases h'
            exact same k'
          have ge : ¬ c' < c + q := fun z => ahead (c' - c) i' (by omega) (by rw [j_, show c + (c' - c) = c' by omega]; exact b3) ((hash_ i' p' h').trans (congrArg T.num k'))
          exact ⟨c', by omega, b2, b3⟩
      by_cases ld : t.led = true
      · refine wp_if_neg (by simp [ld]) ?_
        try refine wpAny_bind (wpAny_pure ?_)
        exact rest
      · refine wp_if_pos (by simp [ld]) ?_
        refine wpAny_bind (T.mute hx (fun y hy => ?_) ?_)
        · obtain ⟨e, he, ee⟩ := List.mem_map.mp hy
          have h1 : e ∈ es ∧ e.1 = T.num k := by simpa using he
          have h2 : e ∈ es.toList := by simpa using h1.1
          rw [R.rows] at h2
          obtain ⟨p2, hp2, e2⟩ := List.mem_map.mp h2
          exact ⟨p2.2, p2.1, by rw [← ee, ← e2], R.has p2 hp2⟩
        · refine wp_if_neg (by decide) ?_
          try refine wpAny_bind (wpAny_pure ?_)
          exact rest
    · have met' : t.probe (fun i => (es[i]?.map (·.1)).getD 0) (T.num k) (stand.getD (t.probeStart (T.num k))) = some (.empty (way t.mask (T.num k) J) none) := by
        have e2 := j_ (J - c)
        rw [show c + (J - c) = J by omega] at e2
        rw [at_, ← e2]
        exact met
      rw [met']
      dsimp only
      refine wpAny_pure (no fun m => ?_)
      obtain ⟨p0, h0, k0⟩ := List.mem_map.mp m
      obtain ⟨i0, hi0⟩ := List.getElem?_of_mem h0
      obtain ⟨c', b1, b2, b3⟩ := far i0 p0 hi0 k0
      exact ahead (c' - c) i0 (by omega) (by rw [j_, show c + (c' - c) = c' by omega]; exact b3) ((hash_ i0 p0 hi0).trans (congrArg T.num k0))
/-- the search that adding asks for -/
theorem seekAdd (R : SetE T s.heap a L es ep t) {x : Addr} {k : K} (hx : T.At s.heap k x) (hu : A.units < cLine) {Q : SetFound → Shared → Prop} (yes : k ∈ L.map (·.2) → Q (.there none) s)
    (no : ∀ J, k ∉ L.map (·.2) → way t.mask (T.num k) J ∉ t.place.toList → (∀ c, c < J → way t.mask (T.num k) c ∈ t.place.toList) → Q (.free (way t.mask (T.num k) J) false) s) :
    wpAny (model P w) A (setSearch a (.ref x) (T.num k) true) Q E s := by
  have room := R.room
  obtain ⟨J, f1, f2, f3⟩ := R.tab.first (by rw [List.length_map]; omega) (T.num k)
  have small : 10 * SetTable.turns t.mask ≤ 1420 := by
    unfold SetTable.turns
    rcases R.tab.mok with e | e | e <;> omega
  unfold setSearch
  refine seek R hx hu f1 f2 f3 yes (fun n => no J n f2 f3) 100000 0 none rfl (Nat.zero_le _) (by omega) fun i p hp hk => ?_
  have h1 : (L.map fun p => T.num p.2)[i]? = some (T.num k) := by
    rw [List.getElem?_map, hp, ← hk]
    rfl
  have il : i < t.place.toList.length := by
    rw [Array.length_toList, tab_size R.tab]
    exact (List.getElem?_eq_some_iff.mp hp).1
  obtain ⟨c, hc, e⟩ := R.tab.before f2 h1 (List.getElem?_eq_getElem il)
  exact ⟨c, Nat.zero_le _, hc, by rw [List.getElem?_eq_getElem il, e]⟩
/-! ### laid anew -/
theorem at_other {h h' : Heap} {k : K} {b : Addr} {o : Obj} (hb : T.At h k b) (ho : h.get? a = some o) (da : o.data = .set es ep t) (sb : Heap.SameBut a h h') : T.At h' k b := by
  have ne : b ≠ a := fun z => by
    rw [z] at hb
    exact T.noSet hb ho da
  exact T.stay hb fun o' e => (sb.2 b ne).trans e
theorem picked {order : List Nat} (e : es.toList = lines T L) (lt : ∀ i ∈ order, i < L.length) : order.filterMap (fun i => es[i]?) = lines T (order.filterMap fun i => L[i]?) ∧ ((order.filterMap fun i => L[i]?).map fun p => T.num p.2) = order.map fun i => (es.map (·.1)).getD i 0 := by
  induction order with
  | nil => exact ⟨rfl, rfl⟩
  | cons i order ih =>
    obtain ⟨ih1, ih2⟩ := ih fun j hj => lt j (List.mem_cons_of_mem _ hj)
    obtain ⟨p, hp⟩ : ∃ p, L[i]? = some p := ⟨_, List.getElem?_eq_getElem (lt i List.mem_cons_self)⟩
    have he : es[i]? = some (T.num p.2, Value.ref p.1) := by
      rw [← Array.getElem?_toList, e]
      exact lines_at hp
    have hm : (es.map (·.1))[i]? = some (T.num p.2) := by
      rw [Array.getElem?_map, he]
      rfl
    rw [List.filterMap_cons_some he, List.filterMap_cons_some hp, ih1, List.map_cons, List.map_cons, ih2]
    exact ⟨rfl, by rw [show (es.map (·.1)).getD i 0 = T.num p.2 by simp [Array.getD_eq_getD_getElem?, hm]]⟩
theorem all_picked (L : List (Addr × K)) : (List.range L.length).filterMap (fun i => L[i]?) = L := by
  have key : ∀ n, n ≤ L.length → (List.range n).filterMap (fun i => L[i]?) = L.take n := by
    intro n
    induction n with
    | zero => intro _; rfl
    | succ n ih =>
      intro le
      rw [List.range_succ, List.filterMap_append, ih (Nat.le_of_succ_le le), List.take_succ, List.getElem?_eq_getElem le]
      rw [List.filterMap_cons_some (List.getElem?_eq_getElem le)]
      rfl
  rw [key _ (Nat.le_refl _), List.take_length]
theorem anew {o : Obj} (ho : s.heap.get? a = some o) (ex : o.ExactSet) (da : o.data = .set es ep t) (rows : es.toList = lines T L) (pl : t.place.size = L.length) (dm : t.dummies = #[]) (le : L.length ≤ t.mask)
    (nd : (L.map (·.2)).Nodup) (has : ∀ p ∈ L, T.At s.heap p.2 p.1) (led : w.params.followText "set-order" = true ∨ t.led = true) (few : L.length < 64) {want M : Nat}
    (hw : SetTable.sizeAbove want - 1 = M) (hM : MaskOk M) (h128 : SetTable.sizeAbove want ≤ 128) (room : L.length * 5 < M * 3) {Q : Unit → Shared → Prop}
    (q : ∀ h' L' es' ep' t', Heap.SameBut a s.heap h' → SetE T h' a L' es' ep' t' → L'.Perm L → Q () { s with heap := h' }) : wpAny (model P w) A (setRelay a want) Q E s := by
  have sz := rows_size rows
  obtain ⟨t', order, e, perm, tab, em, el, epl, ed⟩ := relaid_ok t (hs := es.map (·.1)) (wanted := want) hw hM (by rw [Array.size_map, sz]; omega)
  rw [Array.size_map, sz] at perm
  obtain ⟨r1, r2⟩ := picked rows (order := order.toList) fun i hi => List.mem_range.mp (perm.mem_iff.mp hi)
  have pm : (order.toList.filterMap fun i => L[i]?).Perm L := by
    have := perm.filterMap fun i => L[i]?
    rw [all_picked] at this
    exact this
  rw [← r2] at tab
  generalize order.toList.filterMap (fun i => L[i]?) = L2 at r1 r2 pm tab
  have r1' : (order.filterMap (es[·]?)).toList = lines T L2 := by
    first
      | (rw [Array.toList_filterMap]; exact r1)
      | simpa using r1
  have s2 : (order.filterMap (es[·]?)).size = es.size := by rw [rows_size r1', pm.length_eq, sz]
  rw [setRelay_eq]
  refine wpAny_bind (wpAny_setState_of ho da (fits_of pl dm sz le) ?_)
  dsimp only
  refine wp_if_neg (by rw [sizeLine_eq]; omega) ?_
  try refine wpAny_bind (wpAny_pure ?_)
  rw [e]
  dsimp only
  refine wpAny_bind ?_
  refine wp_if_neg (by rw [s2]; simp) ?_
  try refine wpAny_bind (wpAny_pure ?_)
  refine wpAny_pure ?_
  dsimp only
  refine wpAny_storeSet_of ho da ?_ (by rw [s2, sz, sizeLine_eq]; omega)
  have sb : Heap.SameBut a s.heap (s.heap.update a (Obj.putSet (order.filterMap (es[·]?)) t')) := Heap.SameBut.update ..
  exact q _ L2 _ (ep + 1) t' sb ⟨⟨_, store_at ho da, ⟨ex.1, ex.2.1, ex.2.2⟩, rfl⟩, r1', tab, (pm.map (·.2)).nodup_iff.mpr nd, fun p hp => at_other (has p (pm.mem_iff.mp hp)) ho da sb, by rw [el]; exact led, by rw [pm.length_eq, em]; exact room, by rw [pm.length_eq]; exact few⟩ pm
theorem either {β : Type} {M : Model} {c : Prop} [Decidable c] {m : Sem Bool} {f : Bool → Sem β} {Q : β → Shared → Prop} (hm : ∀ R : Bool → Shared → Prop, (∀ z, R z s) → wpAny M A m R E s) (h : ∀ z, wpAny M A (f z) Q E s) :
    wpAny M A (if c then m >>= f else pure true >>= f) Q E s := by
  by_cases hc : c
  · exact wp_if_pos hc (wpAny_bind (hm _ h))
  · exact wp_if_neg hc (wpAny_bind (wpAny_pure (h true)))
/-- one is added -/
theorem added (R : SetE T s.heap a L es ep t) {x : Addr} {k : K} (hx : T.At s.heap k x) (hu : A.units < cLine) (few : L.length + 1 < 64) {Q : Bool → Shared → Prop}
    (q : ∀ b h' L' es' ep' t', Heap.SameBut a s.heap h' → SetE T h' a L' es' ep' t' → (k ∈ L.map (·.2) → L' = L) → (k ∉ L.map (·.2) → L'.Perm ((x, k) :: L)) → Q b { s with heap := h' }) :
    wpAny (model P w) A (setAddHashed a (.ref x) (T.num k)) Q E s := by
  obtain ⟨o, ho, ex, da⟩ := R.ob
  have sz := rows_size R.rows
  have room := R.room
  unfold setAddHashed
  refine wpAny_holding ?_
  rw [show (100000 : Nat) = 99999 + 1 from rfl, setAddHashedIn_succ]
  refine wpAny_bind (wpAny_setState_of ho da R.fits ?_)
  dsimp only
  refine wp_if_neg (by simp [byScan, Value.scannable]) ?_
  try refine wpAny_bind (wpAny_pure ?_)
  refine wpAny_bind (seekAdd R hx hu (fun m => ?_) fun J m free busy => ?_)
  · dsimp only
    exact wpAny_pure (q false s.heap L es ep t (Heap.SameBut.refl a s.heap) R (fun _ => rfl) fun z => absurd m z)
  dsimp only
  refine wpAny_bind (wpAny_setState_of ho da R.fits ?_)
  dsimp only
  obtain ⟨p1, p2, p3, p4, p5, p6, p7, p8, p9⟩ := R.tab.put free busy
  generalize t.put (way t.mask (T.num k) J) = pt at p1 p3 p4 p5 p6 p7 p8 p9 ⊢
  obtain ⟨t1, p⟩ := pt
  dsimp only at p1 p3 p4 p5 p6 p7 p8 p9 ⊢
  subst p1
  refine either (fun R hR => T.byVal hx hR) fun z => ?_
  have fork : ∃ t2 : SetTable, (if z = true then t1 else { t1 with plain := false }) = t2 ∧ TabOk t2 ((L.map fun p => T.num p.2).take (SetTable.below t.place (way t.mask (T.num k) J)) ++ T.num k :: (L.map fun p => T.num p.2).drop (SetTable.below t.place (way t.mask (T.num k) J))) ∧ t2.mask = t.mask ∧ t2.led = t.led ∧ t2.fill = L.length + 1 := by
    rw [List.length_map] at p9
    cases z with
    | true => exact ⟨_, rfl, p3, p4, p5, p9⟩
    | false => exact ⟨_, rfl, ⟨p3.ris, p3.dm, p3.sz, p3.mok, p3.bd, p3.reach⟩, p4, p5, p9⟩
  obtain ⟨t2, e2, q3, q4, q5, q9⟩ := fork
  rw [e2]
  clear e2 p3 p4 p5 p6 p7 p8 p9
  have in1 : (SetTable.insertAt es (SetTable.below t.place (way t.mask (T.num k) J)) (T.num k, Value.ref x)).toList = lines T (L.take (SetTable.below t.place (way t.mask (T.num k) J)) ++ (x, k) :: L.drop (SetTable.below t.place (way t.mask (T.num k) J))) := by
    rw [SetTable.toList_insertAt, R.rows]
    unfold lines
    rw [List.map_append, List.map_cons, List.map_take, List.map_drop]
  generalize SetTable.below t.place (way t.mask (T.num k) J) = p at p2 q3 in1 ⊢
  have pm := put_perm L p (x, k)
  have hs1 : (L.take p ++ (x, k) :: L.drop p).map (fun p => T.num p.2) = (L.map fun p => T.num p.2).take p ++ T.num k :: (L.map fun p => T.num p.2).drop p := by
    rw [List.map_append, List.map_cons, List.map_take, List.map_drop]
  rw [← hs1] at q3
  generalize L.take p ++ (x, k) :: L.drop p = L1 at pm q3 in1
  have len1 : L1.length = L.length + 1 := pm.length_eq
  have nd1 : (L1.map (·.2)).Nodup := (pm.map (·.2)).nodup_iff.mpr (List.nodup_cons.mpr ⟨m, R.nd⟩)
  have sz1 := rows_size in1
  generalize SetTable.insertAt es p (T.num k, Value.ref x) = es1 at in1 sz1 ⊢
  refine wpAny_bind (wpAny_storeSet_of ho da ?_ (by rw [sz1, len1, sizeLine_eq]; omega))
  have sb : Heap.SameBut a s.heap (s.heap.update a (Obj.putSet es1 t2)) := Heap.SameBut.update ..
  have ho1 := store_at (es' := es1) (t' := t2) ho da
  generalize s.heap.update a (Obj.putSet es1 t2) = h1 at sb ho1 ⊢
  have has1 : ∀ p ∈ L1, T.At h1 p.2 p.1 := fun p hp => by
    rcases List.mem_cons.mp (pm.mem_iff.mp hp) with e | hp
    · rw [e]
      exact at_other hx ho da sb
    · exact at_other (R.has p hp) ho da sb
  have ld1 : w.params.followText "set-order" = true ∨ t2.led = true := by rw [q5]; exact R.led
  by_cases full : t2.tooFull = true
  · first
      | (refine wpAny_bind ?_; refine wp_if_pos (by simp [full]) ?_)
      | (refine wp_if_pos (by simp [full]) ?_; refine wpAny_bind ?_)
    unfold SetTable.tooFull at full
    rw [decide_eq_true_eq, q9, q4] at full
    rw [sz]
    have pl2 : t2.place.size = L1.length := tab_size q3
    have go : ∀ M, SetTable.sizeAbove (SetTable.grown (L.length + 1)) - 1 = M → MaskOk M → SetTable.sizeAbove (SetTable.grown (L.length + 1)) ≤ 128 → L1.length * 5 < M * 3 → L1.length ≤ t2.mask →
        wpAny (model P w) A (setRelay a (SetTable.grown (L.length + 1))) (fun _ s' => wpAny (model P w) A (pure true) Q E s') E { s with heap := h1 } := fun M m1 m2 m3 m4 m5 =>
      anew (s := { s with heap := h1 }) ho1 ⟨ex.1, ex.2.1, ex.2.2⟩ rfl in1 pl2 q3.dm m5 nd1 has1 ld1 (by rw [len1]; exact few) m1 m2 m3 m4 fun h2 L2 es2 ep2 t2 sb2 R2 pm2 =>
        wpAny_pure (q true h2 L2 es2 ep2 t2 (sb.trans sb2) R2 (fun z => absurd z m) fun _ => pm2.trans pm)
    rcases R.tab.mok with e | e | e
    · have l4 : L.length = 4 := by omega
      exact go 31 (by rw [l4, size_20]) (.inr (.inl rfl)) (by rw [l4, size_20]; decide) (by omega) (by omega)
    · have l18 : L.length = 18 := by omega
      exact go 127 (by rw [l18, size_76]) (.inr (.inr rfl)) (by rw [l18, size_76]; decide) (by omega) (by omega)
    · exfalso
      omega
  · first
      | refine wp_if_neg (by simp [full]) ?_
      | (refine wpAny_bind ?_; refine wp_if_neg (by simp [full]) ?_; refine wpAny_pure ?_)
    unfold SetTable.tooFull at full
    rw [decide_eq_true_eq, q9] at full
    exact wpAny_pure (q true h1 L1 es1 (ep + 1) t2 sb ⟨⟨_, ho1, ⟨ex.1, ex.2.1, ex.2.2⟩, rfl⟩, in1, q3, nd1, has1, ld1, by omega, by omega⟩ (fun z => absurd z m) fun _ => pm)
end
end G14

set_option Elab.async false
set_option linter.all false
set_option maxRecDepth 100000
set_option maxHeartbeats 3200000
/-! Tuples of texts, as what a set holds; set(a list of them). -/
namespace G14
open PySem PySem.Spec PyProof.Rows L2
section
variable {P : Program} {w : World} {A : Around} {E : Value → Shared → Prop} {s : Shared}
abbrev TupAt (P : Program) (w : World) (h : Heap) (k : List Str) (b : Addr) : Prop := IsTupleKey (strKind P w) h k b
theorem txt_items {k : List Str} {vs : List Value} (h : ItemsAre (strKind P w) k vs) : ∀ v ∈ vs, ∃ x t, v = Value.str x t := by
  induction h with
  | nil =>
    intro v hv
    cases hv
  | @cons x u ks us h1 _ ih =>
    intro v hv
    rcases List.mem_cons.mp hv with e | hv
    · obtain ⟨t, e2⟩ := Value.isStrOf_shape h1
      exact ⟨x, t, e.trans e2⟩
    · exact ih v hv
theorem txt_noclass (n : Nat) (x : Str) (t : Tok) : ofAClassStatement n (.str x t) = pure false := by
  cases n <;> rfl
theorem txt_byVal (n : Nat) (x : Str) (t : Tok) : hashByValue n (.str x t) = pure false := by
  cases n <;> rfl
/-- over the items of a tuple of texts -/
theorem over_txt {σ : Type} {r0 : σ} {vs : Array Value} (all : ∀ v ∈ vs.toList, ∃ x t, v = Value.str x t) {f : Value → σ → Sem (ForInStep σ)} {Q : σ → Shared → Prop}
    (step : ∀ x t, ∀ R : ForInStep σ → Shared → Prop, R (.yield r0) s → wpAny (model P w) A (f (.str x t) r0) R E s) (q : Q r0 s) : wpAny (model P w) A (forIn vs r0 f) Q E s := by
  rw [← Array.forIn_toList]
  refine wpAny_forIn_list _ (fun rest r s' => r = r0 ∧ s' = s ∧ ∀ v ∈ rest, ∃ x t, v = Value.str x t) _ ?_ ?_ _ _ ⟨rfl, rfl, all⟩
  · rintro v rest r s' ⟨rfl, rfl, h⟩
    obtain ⟨x, t, rfl⟩ := h v List.mem_cons_self
    exact step x t _ ⟨rfl, rfl, fun u hu => h u (List.mem_cons_of_mem _ hu)⟩
  · rintro r s' ⟨rfl, rfl, _⟩
    exact q
theorem wp_either {α : Type} {M : Model} {c : Prop} [Decidable c] {x y : Sem α} {Q : α → Shared → Prop} (h : c → wpAny M A x Q E s) (h' : ¬ c → wpAny M A y Q E s) : wpAny M A (if c then x else y) Q E s := by
  split
  · exact h ‹_›
  · exact h' ‹_›
theorem tup_noclass {k : List Str} {b : Addr} {Q : Bool → Shared → Prop} (hk : TupAt P w s.heap k b) (q : Q false s) : wpAny (model P w) A (ofAClassStatement 8 (.ref b)) Q E s := by
  have ty := hk.typeIs
  obtain ⟨o, items, n, ho, _, da, hi⟩ := hk
  unfold ofAClassStatement
  refine wpAny_bind (wpAny_typeOf ty ?_)
  dsimp only
  have e : (("tuple" : String) == "tuple") = true := by decide
  simp only [e, if_true, Bool.not_true, Bool.false_eq_true, if_false]
  try refine wpAny_bind (wpAny_pure ?_)
  try simp only [Bool.not_true, Bool.false_eq_true, if_false]
  refine wpAny_bind (wpAny_seqItems ho da ?_)
  dsimp only
  refine wpAny_bind (over_txt (txt_items hi) (fun x t R hR => ?_) ?_)
  · rw [txt_noclass]
    refine wpAny_bind (wpAny_pure ?_)
    exact wpAny_pure hR
  · exact wpAny_pure q
theorem tup_byVal {k : List Str} {b : Addr} {Q : Bool → Shared → Prop} (hk : TupAt P w s.heap k b) (q : ∀ z, Q z s) : wpAny (model P w) A (hashByValue 8 (.ref b)) Q E s := by
  have ty := hk.typeIs
  obtain ⟨o, items, n, ho, _, da, hi⟩ := hk
  unfold hashByValue
  refine wpAny_bind (wpAny_specialOf ty F.slot_tuple_hash.lookup ?_)
  show wpAny _ _ (seqItems? (.ref b) >>= _) _ _ s
  refine wpAny_bind (wpAny_seqItems ho da ?_)
  dsimp only
  refine wpAny_bind ?_
  show wpAny _ _ (forIn items _ _) _ _ s
  rw [← Array.forIn_toList]
  refine wpAny_forIn_list _ (fun rest r s' => r.1 = none ∧ s' = s ∧ ∀ v ∈ rest, ∃ x t, v = Value.str x t) _ ?_ ?_ _ _ ⟨rfl, rfl, txt_items hi⟩
  · rintro v rest r s' ⟨_, rfl, h⟩
    obtain ⟨x, t, rfl⟩ := h v List.mem_cons_self
    rw [txt_byVal]
    refine wpAny_bind (wpAny_pure ?_)
    exact wpAny_pure (wpAny_pure (q false))
  · rintro ⟨r1, r2⟩ s' ⟨e, rfl, _⟩
    cases e
    exact wpAny_pure (q true)
theorem tup_mute {k : List Str} {b : Addr} {ys : List Value} {Q : Bool → Shared → Prop} (hk : TupAt P w s.heap k b) (hy : ∀ y ∈ ys, ∃ k' c, y = Value.ref c ∧ TupAt P w s.heap k' c) (q : Q false s) :
    wpAny (model P w) A (searchCouldBeSeen (.ref b) ys) Q E s := by
  unfold searchCouldBeSeen
  refine wpAny_bind ?_
  refine wpAny_forIn_list _ (fun rest r s' => r.1 = none ∧ s' = s ∧ ∀ y ∈ rest, ∃ k' c, y = Value.ref c ∧ TupAt P w s.heap k' c) _ ?_ ?_ _ _ ⟨rfl, rfl, hy⟩
  · rintro v rest r s' ⟨e, rfl, h⟩
    obtain ⟨k', c, rfl, hc⟩ := h v List.mem_cons_self
    have on := fun u hu => h u (List.mem_cons_of_mem _ hu)
    dsimp only
    refine wp_either (fun _ => wpAny_pure ⟨rfl, rfl, on⟩) fun _ => ?_
    refine wpAny_bind (wpAny_eqIsQuiet_tuple hk (wp_if_neg (by decide) ?_))
    refine wpAny_bind (wpAny_eqIsQuiet_tuple hc (wp_if_neg (by decide) ?_))
    refine wpAny_bind (tup_noclass hk (wp_if_neg (by decide) ?_))
    refine wpAny_bind (tup_noclass hc (wp_if_neg (by decide) ?_))
    exact wpAny_pure ⟨rfl, rfl, on⟩
  · rintro ⟨r1, r2⟩ s' ⟨e, rfl, _⟩
    cases e
    exact wpAny_pure q
/-- tuples of texts -/
def tupE (P : Program) (w : World) : Elt P w (List Str) where
  At := IsTupleKey (strKind P w)
  num := tupleKeyHash (strKind P w)
  stay := fun ⟨o, its, n, ho, r⟩ e => ⟨o, its, n, e o ho, r⟩
  noSet := fun ⟨o, its, n, ho, _, da, _⟩ h e => by
    cases ho.symm.trans h
    rw [da] at e
    cases e
  one := fun h h' => by
    obtain ⟨o, its, n, ho, _, da, hi⟩ := h
    obtain ⟨o', its', n', ho', _, da', hi'⟩ := h'
    cases ho.symm.trans ho'
    cases da.symm.trans da'
    exact hi.inj hi'
  cmp := fun hu h h' q => wpAny_eqBool_tuple hu h h' q
  mute := tup_mute
  byVal := tup_byVal
  hashed := fun hu h q => wpAny_pyHash_tuple hu h (q _)
end
end G14

set_option Elab.async false
set_option linter.all false
set_option maxRecDepth 100000
set_option maxHeartbeats 4000000
/-! set(l) of a list of such objects; sorted(set(l)) of pairs of texts. -/
namespace G14
open PySem PySem.Spec PyProof.Rows L2
section
variable {P : Program} {w : World} {K : Type} [DecidableEq K] {T : Elt P w K}
structure Taken (ks : List (Addr × K)) (i : Nat) (L : List (Addr × K)) : Prop where
  of : ∀ p ∈ L, p ∈ ks
  all : ∀ p ∈ ks.take i, p.2 ∈ L.map (·.2)
  le : L.length ≤ i
theorem Taken.none (ks : List (Addr × K)) : Taken ks 0 [] := ⟨fun p h => (by cases h), fun p h => (by cases h), Nat.le_refl _⟩
theorem Taken.next {ks L L' : List (Addr × K)} {i : Nat} {x : Addr × K} (g : Taken ks i L) (h : ks[i]? = some x) (c1 : x.2 ∈ L.map (·.2) → L' = L) (c2 : x.2 ∉ L.map (·.2) → L'.Perm (x :: L)) : Taken ks (i + 1) L' := by
  have le := g.le
  by_cases c : x.2 ∈ L.map (·.2)
  · rw [c1 c]
    refine ⟨g.of, fun p hp => ?_, by omega⟩
    rw [take_next h] at hp
    rcases List.mem_append.mp hp with hp | hp
    · exact g.all p hp
    · rw [List.mem_singleton.mp hp]
      exact c
  · have pm := c2 c
    refine ⟨fun p hp => ?_, fun p hp => ?_, by rw [pm.length_eq, List.length_cons]; omega⟩
    · rcases List.mem_cons.mp (pm.mem_iff.mp hp) with e | hp
      · rw [e]
        exact List.mem_of_getElem? h
      · exact g.of p hp
    · rw [(pm.map (·.2)).mem_iff]
      rw [take_next h] at hp
      rcases List.mem_append.mp hp with hp | hp
      · exact List.mem_cons_of_mem _ (g.all p hp)
      · rw [List.mem_singleton.mp hp]
        exact List.mem_cons_self
theorem SetE.move {h h' : Heap} {a : Addr} {L : List (Addr × K)} {es : Array (Int × Value)} {ep : Nat} {t : SetTable} (R : SetE T h a L es ep t) (k : ∀ o, h.get? a = some o → h'.get? a = some o) (has : ∀ p ∈ L, T.At h' p.2 p.1) : SetE T h' a L es ep t := by
  obtain ⟨o, ho, r⟩ := R.ob
  exact ⟨⟨o, k o ho, r⟩, R.rows, R.tab, R.nd, has, R.led, R.room, R.few⟩
abbrev nude (w : World) : Obj := { cls := .type "set", dict := none, data := .set #[] 0 (.fresh 0 0 (!w.params.followText "set-order")) }
theorem SetE.nude {h : Heap} {a : Addr} (ho : h.get? a = some (nude w)) : SetE T h a [] #[] 0 (.fresh 0 0 (!w.params.followText "set-order")) :=
  ⟨⟨_, ho, ⟨rfl, rfl, rfl⟩, rfl⟩, rfl, ⟨List.Pairwise.nil, rfl, rfl, .inl rfl, fun x hx => (by cases hx), fun i h j hi => (by simp at hi)⟩, List.nodup_nil, fun p hp => (by cases hp),
    (show w.params.followText "set-order" = true ∨ (!w.params.followText "set-order") = true by cases w.params.followText "set-order" <;> decide), (show 0 * 5 < 7 * 3 by decide), (show 0 < 64 by decide)⟩
variable {A : Around} {R : Result → Shared → Prop} {I S : Addr} {fp wr : List Addr} {G : Array GenState → Array GenState → Prop} {n : Nat} {Pv : Nat → Value → Prop} {St : Nat → Shared → Prop}
/-- what comes of the rest of the walk -/
theorem fill (W : WalksS P w A.in1 I fp wr G n Pv St) (out : S ∉ fp) (ks : List (Addr × K)) (vals : ∀ i v, Pv i v → ∃ p, ks[i]? = some p ∧ v = .ref p.1) (few : ks.length < 64) (hn : n = ks.length) (hu : A.in1.units < cLine)
    (h0 : Heap) (there : ∀ p ∈ ks, T.At h0 p.2 p.1) (newS : h0.get? S = none) (newW : ∀ b ∈ wr, h0.get? b = none) :
    ∀ (left at_ : Nat), at_ + left = n → ∀ s : Shared, St at_ s → (∀ b o, h0.get? b = some o → s.heap.get? b = some o) → (∃ L es ep t, SetE T s.heap S L es ep t ∧ Taken ks at_ L) →
      (∀ s' L es ep t, Moved (S :: wr) G s s' → SetE T s'.heap S L es ep t → Taken ks n L → (∀ b o, h0.get? b = some o → s'.heap.get? b = some o) → R (.ok (.ret .none)) s') → codeAny (model P w) A (.builtin "set.update.loop" ⟨[.ref S, .ref I], []⟩) R s
  | 0, at_, sum, s, st, kept, ⟨L, es, ep, t, has, tk⟩, fin => by
    obtain rfl : at_ = n := by omega
    refine codeAny_builtin F.entry_set_update_loop ?_
    rw [Around.under_plainId F.plain_set_update_loop _]
    refine (show wpAny (model P w) A.in1 (pyNext (.ref I) >>= _) _ _ s from wpAny_bind (W.done s _ _ st fun s' mv => ?_))
    have kept' : ∀ b o, h0.get? b = some o → s'.heap.get? b = some o := fun b o e => mv.heap b o (fun q => by rw [newW b q] at e; cases e) (kept b o e)
    exact wpAny_pure (fin s' L es ep t (mv.mono fun b hb => List.mem_cons_of_mem _ hb) (has.move (fun o e => mv.heap S o (fun q => out (W.sub _ q)) e) fun p hp => T.stay (there p (tk.of p hp)) fun o e => kept' _ o e) tk kept')
  | left + 1, at_, sum, s, st, kept, ⟨L, es, ep, t, has, tk⟩, fin => by
    have lt : at_ < n := by omega
    refine codeAny_builtin F.entry_set_update_loop ?_
    rw [Around.under_plainId F.plain_set_update_loop _]
    refine (show wpAny (model P w) A.in1 (pyNext (.ref I) >>= _) _ _ s from wpAny_bind (W.item at_ s _ _ lt st fun v s1 hv st1 mv => ?_))
    obtain ⟨p, hp, rfl⟩ := vals at_ v hv
    have kept1 : ∀ b o, h0.get? b = some o → s1.heap.get? b = some o := fun b o e => mv.heap b o (fun q => by rw [newW b q] at e; cases e) (kept b o e)
    have has1 := has.move (fun o e => mv.heap S o (fun q => out (W.sub _ q)) e) fun p hp => T.stay (there p (tk.of p hp)) fun o e => kept1 _ o e
    have le := tk.le
    have hx : T.At s1.heap p.2 p.1 := T.stay (there p (List.mem_of_getElem? hp)) fun o e => kept1 _ o e
    refine (show wpAny (model P w) A.in1 (holding [Value.ref p.1] (setAdd S (.ref p.1)) >>= _) _ _ s1 from wpAny_bind (wpAny_holding ?_))
    unfold setAdd
    refine wpAny_holding (wpAny_bind (T.hashed hu hx fun m => ?_))
    refine added (s := { s1 with toks := s1.toks + m }) has1 hx hu (by omega) fun z h2 L2 es2 ep2 t2 but has2 c1 c2 => ?_
    have kept2 : ∀ b o, h0.get? b = some o → h2.get? b = some o := fun b o e => (but.2 b (fun q => by rw [q, newS] at e; cases e)).trans (kept1 b o e)
    have still : ∀ b, b ≠ S → ∀ o, s1.heap.get? b = some o → h2.get? b = some o := fun b ne o e => (but.2 b ne).trans e
    refine wpAny_pure ⟨plainId_quiet F.plain_set_update_loop _, fill W out ks vals few hn hu h0 there newS newW left (at_ + 1) (by omega) _ (W.frame _ s1 _ _ st1 (Nat.le_add_right _ _) fun b hb o e => still b (fun q => out (q ▸ hb)) o e) kept2 ⟨L2, es2, ep2, t2, has2, tk.next hp c1 c2⟩ fun s3 L3 es3 ep3 t3 mv3 has3 tk3 kept3 => ?_⟩
    have mv1 := mv.mono (wr' := S :: wr) fun b hb => List.mem_cons_of_mem _ hb
    exact fin s3 L3 es3 ep3 t3 (Moved.trans W.gtrans (mv1.then_heap (Nat.le_add_right _ _) fun b o nb e => still b (fun q => nb (q ▸ List.mem_cons_self)) o e) mv3) has3 tk3 kept3
end
section
variable {P : Program} {w : World} {K : Type} [DecidableEq K] {T : Elt P w K} {A : Around} {E : Value → Shared → Prop} {s : Shared}
/-- the set, just made, takes them in -/
theorem init_elts {l : Addr} {its : Array Value} (ks : List (Addr × K)) (calm : A.handled = none) (isl : s.heap.IsList l its) (are : its.toList = ks.map fun p => Value.ref p.1) (there : ∀ p ∈ ks, T.At s.heap p.2 p.1) (few : ks.length < 64) (hu : A.units + 3 < cLine) :
    codeAny (model P w) A (.call (.builtin "set.__init__") ⟨[.ref s.heap.objs.size, .ref l], []⟩)
      (wants (fun r s2 => r = .none ∧ ∃ (h' : Heap) (tk : Nat) (L : List (Addr × K)) (es : Array (Int × Value)) (ep : Nat) (t : SetTable), s2 = { s with heap := h', toks := tk } ∧ SetE T h' s.heap.objs.size L es ep t ∧ Taken ks ks.length L ∧ ∀ b o, s.heap.get? b = some o → h'.get? b = some o) E) { s with heap := s.heap.push (nude w) } := by
  have at_ : (s.heap.push (nude w)).get? s.heap.objs.size = some (nude w) := Heap.get?_push_size _ rfl
  have isSet : Shared.TypeIs { s with heap := s.heap.push (nude w) } (.ref s.heap.objs.size) "set" := ⟨_, at_, rfl⟩
  have isl1 : (s.heap.push (nude w)).IsList l its := isl.push _
  have below : l < s.heap.objs.size := by
    obtain ⟨o, e, _⟩ := isl
    exact Heap.lt_size e
  have size1 : (s.heap.push (nude w)).objs.size = s.heap.objs.size + 1 := Heap.size_push _ _
  have sizeK : its.size = ks.length := by rw [← Array.length_toList, are, List.length_map]
  refine codeAny_call_builtin PySem.F.called_set.init.plain PySem.F.entry_set_init (check_set_init_1 isSet ?_)
  obtain ⟨⟨lc, ld, ldt, ls⟩, ho, hc, n0, hd⟩ := isl1
  dsimp only at hc hd
  subst hc hd
  have noSet := PySem.F.sub_list_set
  have noFro := PySem.F.sub_list_frozenset
  have noDict : (Value.type "list" == Value.type "dict") = false := by decide
  unfold Builtin.«set.__init__» noKeywords Builtin.Frozenset.updateFrom
  generalize it : pyIter = PI
  wp_walk
  subst it
  have isl2 : (s.heap.push (nude w)).IsList l its := isl.push _
  refine wpAny_pyIter_list isl2 (wpAny_bind (wpAny_runValue ?_))
  have none3 : A.in1.in1.handled = none := by simp [calm]
  have apart : l ≠ (s.heap.push (nude w)).objs.size := by
    rw [size1]
    exact Nat.ne_of_lt (Nat.lt_succ_of_lt below)
  have out : s.heap.objs.size ∉ [(s.heap.push (nude w)).objs.size, l] := fun h => by
    rw [size1] at h
    rcases List.mem_cons.mp h with h | h
    · exact absurd h (Nat.ne_of_lt (Nat.lt_succ_self _))
    · exact absurd (List.mem_singleton.mp h) (Nat.ne_of_gt below)
  have vals : ∀ (i : Nat) (v : Value), its[i]? = some v → ∃ p, ks[i]? = some p ∧ v = .ref p.1 := fun i v e => by
    rw [← Array.getElem?_toList, are, List.getElem?_map] at e
    cases q : ks[i]? with
    | none =>
      rw [q] at e
      cases e
    | some p =>
      rw [q] at e
      cases e
      exact ⟨p, rfl, rfl⟩
  have gone : ∀ b, s.heap.objs.size ≤ b → s.heap.get? b = none := fun b hb => by
    cases q : s.heap.get? b with
    | none => rfl
    | some o => exact absurd (Heap.lt_size q) (Nat.not_lt_of_le hb)
  have fresh : ((s.heap.push (nude w)).push { cls := .type "list_iterator", data := .fields #[.ref l, .int 0 0] }).get? s.heap.objs.size = some (nude w) := Heap.get?_push_of_some _ at_
  refine fill (Walks.list none3 _ l apart its).toS out ks vals few sizeK (by show A.units + 1 + 1 < cLine; omega) s.heap there (gone _ (Nat.le_refl _)) (fun b hb => gone b (by rw [List.mem_singleton.mp hb, size1]; exact Nat.le_succ _)) its.size 0 (Nat.zero_add _) _ ?_ ?_ ?_ fun s' L es ep t mv has' tk' kept => ?_
  · exact ⟨⟨_, Heap.get?_push_size _ rfl, rfl, rfl⟩, isl2.push _⟩
  · exact fun b o e => Heap.get?_push_of_some _ (Heap.get?_push_of_some _ e)
  · exact ⟨[], #[], 0, .fresh 0 0 (!w.params.followText "set-order"), SetE.nude fresh, Taken.none ks⟩
  obtain ⟨h', g', d', tok', os'⟩ := s'
  obtain rfl : g' = s.gens := mv.gens
  obtain rfl : d' = s.drawn := mv.drawn
  obtain rfl : os' = s.os := mv.os
  rw [sizeK] at tk'
  exact (show wpAny _ _ (pure ()) _ _ _ from wpAny_pure (show wpAny _ _ (ret Value.none) _ _ _ from wpAny_pure ⟨rfl, h', tok', L, es, ep, t, rfl, has', tk', kept⟩))
/-- set(l) -/
theorem call_set_elts {l : Addr} {its : Array Value} (ks : List (Addr × K)) {Q : Value → Shared → Prop} (calm : A.handled = none) (isl : s.heap.IsList l its) (are : its.toList = ks.map fun p => Value.ref p.1) (there : ∀ p ∈ ks, T.At s.heap p.2 p.1) (few : ks.length < 64) (hu : A.units + 4 < cLine)
    (q : ∀ (h' : Heap) (tk : Nat) L es ep t, SetE T h' s.heap.objs.size L es ep t → Taken ks ks.length L → (∀ b o, s.heap.get? b = some o → h'.get? b = some o) → Q (.ref s.heap.objs.size) { s with heap := h', toks := tk }) :
    wpAny (model P w) A (call (.type "set") [.ref l]) Q E s := by
  obtain ⟨cc, tl, mro⟩ := PySem.F.called_set.mro
  have made := PySem.F.called_set.made
  have sub := PySem.F.called_set.sub
  have can := PySem.F.called_set.canCreate
  have noType := PySem.F.called_set.notType
  have checked := PySem.F.typeCall_set_1 (.ref l)
  refine wpAny_call (codeAny_of_tree (show wpAny _ _ (callAny (.type "set") _) _ _ _ from wpAny_pure ⟨Code.quiet_builtin _ (by decide +kernel), codeAny_builtin PySem.F.entry_type_call ?_⟩))
  rw [Around.under_plain (weight_type_call_type "set" [.ref l] []) rfl]
  repeat any_goals first | assumption | wp_step
  refine codeAny_mono (code_set_led1 (.ref l) (E := E) (Q₁ := fun ob s1 => ob = .ref s.heap.objs.size ∧ s1 = { s with heap := s.heap.push (nude w) }) ⟨rfl, rfl⟩) fun r s1 hr => ?_
  match r, hr with
  | .error e, hr => exact hr
  | .ok (.ret ob), ⟨eo, es⟩ =>
    subst eo es
    have at_ : (s.heap.push (nude w)).get? s.heap.objs.size = some (nude w) := Heap.get?_push_size _ rfl
    have isSet : Shared.TypeIs { s with heap := s.heap.push (nude w) } (.ref s.heap.objs.size) "set" := ⟨_, at_, rfl⟩
    have look := PySem.F.called_set.init.lookup
    have bound := PySem.F.called_set.init.bind (.ref s.heap.objs.size)
    repeat any_goals first | assumption | wp_step
    refine codeAny_mono (init_elts (E := E) ks calm isl are there few (by show A.units + 1 + 3 < cLine; omega)) fun r2 s2 hr2 => ?_
    match r2, hr2 with
    | .error e, hr2 => exact hr2
    | .ok (.ret v), ⟨ev, h', tk, L, es, ep, t, e2, has, taken, keep⟩ =>
      subst ev e2
      repeat any_goals first | assumption | wp_step
      exact q _ _ _ _ _ _ has taken keep
    | .ok .next, hr2 => exact hr2.elim
    | .ok .brk, hr2 => exact hr2.elim
    | .ok .cont, hr2 => exact hr2.elim
  | .ok .next, hr => exact hr.elim
  | .ok .brk, hr => exact hr.elim
  | .ok .cont, hr => exact hr.elim
end
end G14

set_option Elab.async false
set_option linter.all false
set_option maxRecDepth 100000
set_option maxHeartbeats 4000000
/-! sorted(set(l)), l a list of pairs of texts. -/
namespace G14
open PySem PySem.Spec PyProof.Rows L2 G0
section
variable {P : Program} {w : World} {K : Type} [DecidableEq K] {T : Elt P w K} {A : Around} {E : Value → Shared → Prop} {s : Shared}
theorem sorted_set_elts {a : Addr} {L : List (Addr × K)} {es : Array (Int × Value)} {ep : Nat} {t : SetTable} (R : SetE T s.heap a L es ep t) (calm : A.handled = none) {ltv : Value → Value → Bool} (O : SrtO.Swo ltv) {Q : Value → Shared → Prop}
    (hS : ∀ vs : List Value, vs.Perm (L.map fun p => Value.ref p.1) → 2 ≤ vs.length → ∀ (s₁ : Shared) (b : Addr), s₁.heap.get? b = some (seqObj "list" vs.toArray 0) → (∀ c o, s.heap.get? c = some o → s₁.heap.get? c = some o) → SrtO.SortableO P w A.in1.in1 s₁ b vs ltv)
    (q : ∀ (s' : Shared) (d : Addr) (out : List Value), SrtO.Srtd ltv out → out.Perm (L.map fun p => Value.ref p.1) → (∀ b o, s.heap.get? b = some o → s'.heap.get? b = some o) → s'.gens = s.gens → s'.os = s.os → s.heap.objs.size ≤ d → (∃ n, s'.heap.get? d = some (seqObj "list" out.toArray n)) → Q (.ref d) s') :
    wpAny (model P w) A (call (.builtin "sorted") [.ref a]) Q E s := by
  obtain ⟨o, ho, ex, da⟩ := R.ob
  have sz := rows_size R.rows
  have few := R.few
  refine Calls.call_function_entry kind_sorted plain_sorted entry_sorted (args_sorted1 _) ?_
  unfold Builtin.«sorted»
  refine wpAny_bind (m := checkCount "sorted" 1 1 _) (wpAny_pure (wpAny_bind (collect_set (A := A.in1) calm ⟨o, ho, ex.1, da⟩ R.fits (by unfold scanBound; omega) R.tab.ris R.led fun s1 vs k1 hz g1 o1 pm => ?_)))
  have eL : es.toList.map (·.2) = L.map fun p => Value.ref p.1 := by
    rw [R.rows]
    unfold lines
    rw [List.map_map]
    rfl
  rw [eL] at pm
  have lz : vs.length ≤ sizeLine := by
    rw [pm.length_eq, List.length_map, sizeLine_eq]
    omega
  refine wpAny_bind (wpAny_newList ?_ lz)
  have e2 : (s1.heap.push (seqObj "list" vs.toArray 0)).get? s1.heap.objs.size = some (seqObj "list" vs.toArray 0) := Heap.get?_push_size _ rfl
  refine wpAny_bind (wpAny_holding (wpAny_call_entry slot_list_sort ⟨_, e2, rfl⟩ entry_list_sort (SrtO.list_sort_ord O e2 lz (fun h2 => hS vs pm h2 _ _ e2 fun c o e => Heap.get?_push_of_some _ (k1 c o e)) fun out hs hb => ⟨_, rfl, ?_⟩) (args_list_sort _)))
  refine wpAny_pure ⟨_, rfl, q _ s1.heap.objs.size out hs (hb.perm.trans pm) (fun b u e => ?_) g1 o1 hz (sortedHeap_at e2)⟩
  have lt : b < s1.heap.objs.size := Heap.lt_size (k1 b u e)
  exact (sortedHeap_old (Nat.ne_of_lt lt) (by rw [size_push']; exact Nat.lt_succ_of_lt lt)).trans (Heap.get?_push_of_some _ (k1 b u e))
end
section
variable {X : Cx}
/-- sorted(set(l)), l a list of pairs of texts -/
def tSortSet (K : PySem.W.Frag) (ta : TE) : TE := fun σ H Q => ta σ H fun x H1 => ∃ (l : Addr) (xs : List V) (ps : List Pr), x = .ref l ∧ SqL K H1 l xs ∧ PrsAt H1 xs ps ∧ ps.length < 64 ∧
  ∀ (p : Addr) (ys : List V) (qs : List Pr), H1 p = none → (∀ y ∈ ys, y ∈ xs) → qs.Nodup → (∀ z, z ∈ qs ↔ z ∈ ps) → PrsAt H1 ys (sortPr qs) → Q (.ref p) (upd H1 p (.lst ys))
theorem pe_sortSet {a : Expr} {ta : TE} {p1 p2 p3 pos : Pos} (calm : X.calm = true) (hu : X.A.units + 4 < cLine) (g1 : Gl X "sorted") (m1 : X.mg "sorted" = none) (g2 : Gl X "set") (m2 : X.mg "set" = none) (pa : PE X a ta)
    (one : starEach [a] X.env = (false, eval a X.env) :: starEach [] X.env := by rfl) : PE X (.Call (.Name "sorted" p1) [.Call (.Name "set" p2) [a] [] p3] [] pos) (tSortSet X.K ta) := by
  refine ⟨fun pins s σ H Q inv h => Call_ (ld_blt inv g1 m1 boot_sorted (PyProof.Rows.callWith_builtin1 (PyProof.Rows.args_cons (Call_ (ld_blt inv g2 m2 boot_set (PyProof.Rows.callWith_type1 (PyProof.Rows.args_cons (thn (pa.run pins s σ H _ inv h) fun v s1 ⟨x, H1, I1, r1, q1⟩ => PyProof.Rows.args_nil ?_) one) one rfl))) rfl) rfl rfl))⟩
  obtain ⟨l, xs, ps, rfl, hq, pt, few, q1⟩ := q1
  cases r1
  obtain ⟨its, rv, lay, _⟩ := I1.list hq
  obtain ⟨em, al⟩ := pt.map
  obtain ⟨e1, e2⟩ := refs_back rv fun x m => by
    obtain ⟨t, e, _⟩ := al x m
    exact ⟨t, e⟩
  let kp : V → Addr × List Str := fun v => ((match v with | .ref t => t | _ => 0), [(prOf H1 v).1, (prOf H1 v).2])
  have pr : ∀ v ∈ its, ∃ t, v = Value.ref t ∧ backV v = .ref t ∧ TupAt X.prog X.w s1.heap (kp (backV v)).2 t ∧ IsPrS s1.heap v (prOf H1 (backV v)).1 (prOf H1 (backV v)).2 := fun v hv => by
    obtain ⟨t, rfl⟩ := e2 v hv
    obtain ⟨t', e, ht⟩ := al (backV (.ref t)) (by rw [e1]; exact List.mem_map.mpr ⟨_, hv, rfl⟩)
    cases e
    obtain ⟨_, its2, r2, o2, ho2, hc2, n2, hd2⟩ := I1.hok _ _ ht
    obtain ⟨u1, u2, rfl, ri, rj⟩ := vals2 r2
    obtain ⟨t1, rfl⟩ := ri
    obtain ⟨t2, rfl⟩ := rj
    exact ⟨t, rfl, rfl, ⟨o2, _, n2, ho2, hc2, hd2, .cons (strKind_is _ _ _ _) (.cons (strKind_is _ _ _ _) .nil)⟩, t, o2, t1, t2, n2, rfl, ho2, hc2, hd2⟩
  have lenI : its.length = ps.length := by rw [← rv.length, pt.1]
  refine call_set_elts (T := tupE X.prog X.w) (its.map fun v => kp (backV v)) (I1.ok.hd calm) lay.isList ?_ (fun p hp => ?_) (by rw [List.length_map, lenI]; exact few) hu fun h' tk L es ep t has taken keep => PyProof.Rows.args_nil ?_
  · rw [List.map_map]
    refine (List.map_id its).symm.trans (List.map_congr_left fun v hv => ?_) |> fun e => by simpa using e
    obtain ⟨t, rfl, _⟩ := pr v hv
    rfl
  · obtain ⟨v, hv, rfl⟩ := List.mem_map.mp hp
    obtain ⟨t, rfl, _, h, _⟩ := pr v hv
    exact h
  have I2 : Inv X pins σ H1 { s1 with heap := h', toks := tk } := I1.kept keep
  have of_L : ∀ p ∈ L, ∃ v ∈ its, ∃ t, v = Value.ref t ∧ p = (t, [(prOf H1 (.ref t)).1, (prOf H1 (.ref t)).2]) ∧ backV v = .ref t := fun p hp => by
    obtain ⟨v, hv, e⟩ := List.mem_map.mp (taken.of p hp)
    obtain ⟨t, rfl, eb, _⟩ := pr v hv
    exact ⟨_, hv, t, rfl, e.symm, eb⟩
  have in_its : ∀ {us : List Value}, us.Perm (L.map fun p => Value.ref p.1) → ∀ v ∈ us, v ∈ its := fun pm v hv => by
    obtain ⟨p, hp, e⟩ := List.mem_map.mp (pm.mem_iff.mp hv)
    obtain ⟨u, hu', t, rfl, rfl, _⟩ := of_L p hp
    rw [← e]
    exact hu'
  refine sorted_set_elts has (I1.ok.hd calm) (swo_prs fun u => prOf H1 (backV u)) (fun vs pm h2 s₁ b hb kk => ?_) fun s' d out so pm kp2 hg ho hd' ⟨m, hm⟩ => ?_
  · refine prs_sortable (s := s₁) (by omega) (fun v hv => ?_) fun o e => ?_
    · obtain ⟨t, _, _, _, h⟩ := pr v (in_its pm v hv)
      exact h.keeps fun b o e _ => kk b o (keep b o e)
    · have e' := Option.some.inj (e.symm.trans hb)
      rw [e']
      intro c
      exact absurd (Value.type.inj c) (by decide)
  have ys_xs : ∀ y ∈ out.map backV, y ∈ xs := fun y hy => by
    obtain ⟨v, hv, rfl⟩ := List.mem_map.mp hy
    rw [e1]
    exact List.mem_map.mpr ⟨v, in_its pm v hv, rfl⟩
  have refs : ∀ u ∈ out, ∃ a, u = Value.ref a := fun u hu' => e2 u (in_its pm u hu')
  have pq : ((out.map backV).map (prOf H1)).Perm (L.map fun p => prOf H1 (.ref p.1)) := by
    have z := (pm.map backV).map (prOf H1)
    rw [List.map_map (l := L)] at z
    exact z.trans (List.Perm.of_eq (by rw [List.map_map]; rfl))
  have pa : PrsAt H1 (out.map backV) (sortPr (L.map fun p => prOf H1 (.ref p.1))) := by
    have z := PrsAt.of (H := H1) (vs := out.map backV) fun v hv => al v (ys_xs v hv)
    have e3 : (out.map backV).map (prOf H1) = sortPr (L.map fun p => prOf H1 (.ref p.1)) := by
      refine sortPr_uniq pq ?_
      rw [List.map_map]
      refine List.pairwise_map.mpr (List.Pairwise.imp ?_ so)
      intro x y hxy
      unfold lePr
      rw [show ltPr ((prOf H1 ∘ backV) y) ((prOf H1 ∘ backV) x) = false from hxy]
      rfl
    rw [← e3]
    exact z
  have nd : (L.map fun p => prOf H1 (.ref p.1)).Nodup := by
    refine List.pairwise_map.mpr (List.Pairwise.imp_of_mem (fun {p r} hp hr ne e => ?_) (List.pairwise_map.mp has.nd))
    obtain ⟨_, _, t, _, rfl, _⟩ := of_L p hp
    obtain ⟨_, _, u, _, rfl, _⟩ := of_L r hr
    exact ne (by rw [show prOf H1 (.ref t) = prOf H1 (.ref u) from e])
  have mem : ∀ z, z ∈ (L.map fun p => prOf H1 (.ref p.1)) ↔ z ∈ ps := fun z => by
    constructor
    · intro hz
      obtain ⟨p, hp, rfl⟩ := List.mem_map.mp hz
      obtain ⟨v, hv, t, rfl, rfl, eb⟩ := of_L p hp
      rw [← em, e1]
      exact List.mem_map.mpr ⟨.ref t, List.mem_map.mpr ⟨_, hv, eb⟩, rfl⟩
    · intro hz
      rw [← em, e1] at hz
      obtain ⟨y, hy, rfl⟩ := List.mem_map.mp hz
      obtain ⟨v, hv, rfl⟩ := List.mem_map.mp hy
      have h1 : kp (backV v) ∈ (its.map fun v => kp (backV v)).take (its.map fun v => kp (backV v)).length := by
        rw [List.take_length]
        exact List.mem_map.mpr ⟨v, hv, rfl⟩
      obtain ⟨p, hp, e⟩ := List.mem_map.mp (taken.all _ h1)
      obtain ⟨_, _, t, _, rfl, _⟩ := of_L p hp
      refine List.mem_map.mpr ⟨_, hp, ?_⟩
      have e' : [(prOf H1 (.ref t)).1, (prOf H1 (.ref t)).2] = [(prOf H1 (backV v)).1, (prOf H1 (backV v)).2] := e
      injection e' with f1 f2
      injection f2 with f2 _
      exact Prod.ext f1 f2
  have lz : (out.map backV).length ≤ sizeLine := by
    rw [List.length_map, pm.length_eq, List.length_map, sizeLine_eq]
    have := has.few
    omega
  have nn : H1 d = none := I2.hok.fresh hd'
  have kp3 : ∀ b o, s1.heap.get? b = some o → s'.heap.get? b = some o := fun b o e => kp2 b o (keep b o e)
  have hd3 : s1.heap.objs.size ≤ d := by
    obtain ⟨o, e, _⟩ := has.ob
    exact Nat.le_trans (Nat.le_of_lt (Heap.lt_size e)) hd'
  have J : Inv X pins σ (upd H1 d (.lst (out.map backV))) { s1 with heap := s'.heap, gens := s'.gens, drawn := s'.drawn, toks := s'.toks } :=
    I1.call (ch := []) (Un.laid kp3 hd3 nn) (I1.hok.laid kp3 hd3 ⟨lz, out, m, vals_back refs, hm⟩) (by rw [hg]; exact I1.bare) (fun _ z => nomatch z)
  have es' : s' = { s1 with heap := s'.heap, gens := s'.gens, drawn := s'.drawn, toks := s'.toks } := by
    cases s'
    cases s1
    cases ho
    rfl
  rw [es']
  exact ⟨.ref d, _, J, rfl, q1 d _ _ nn ys_xs nd mem pa⟩
end
end G14

set_option Elab.async false
set_option linter.all false
set_option maxRecDepth 100000
set_option maxHeartbeats 8000000
/-! The program: rims turned, a stretch of one, what some pins are on it. -/
namespace E1
open PySem PySem.Spec PyProof.Rows L2 G0
/-! ### a rim, gone along from a start -/
theorem rot_get {rm : List Str} {i t : Nat} (hi : i < rm.length) (ht : t < rm.length) : (rot rm i)[t]? = rm[if i + t < rm.length then i + t else i + t - rm.length]? := by
  unfold rot
  split
  · rw [List.getElem?_append_left (by rw [List.length_drop]; omega), List.getElem?_drop]
  · rw [List.getElem?_append_right (by rw [List.length_drop]; omega), List.length_drop, List.getElem?_take_of_lt (by omega)]
    congr 1
    omega
theorem start_in {rm com : List Str} {j : Nat} {a b : Str} (h1 : rm[j]? = some a) (h2 : rm[prIx rm.length j]? = some b) (ha : a ∈ com) (hb : b ∉ com) : j ∈ starts rm com := by
  refine List.mem_filter.mpr ⟨List.mem_range.mpr (List.getElem?_eq_some_iff.mp h1).1, ?_⟩
  unfold isStart
  rw [h1, h2]
  simp [ha, hb]
theorem start_out {rm com : List Str} {j : Nat} (h : j ∈ starts rm com) : ∃ a b, rm[j]? = some a ∧ rm[prIx rm.length j]? = some b ∧ a ∈ com ∧ b ∉ com := by
  have h2 := (List.mem_filter.mp h).2
  unfold isStart at h2
  split at h2
  · rename_i a b e1 e2
    simp at h2
    exact ⟨a, b, e1, e2, h2.1, h2.2⟩
  · cases h2
def isEnd (rm com : List Str) (i : Nat) : Bool := match rm[i]?, rm[prIx rm.length i]? with
  | some a, some b => !decide (a ∈ com) && decide (b ∈ com)
  | _, _ => false
def ends (rm com : List Str) : List Nat := (List.range rm.length).filter (isEnd rm com)
/-- just one start: some that are of them, then the others -/
theorem seg {rm com : List Str} {i : Nat} (e : starts rm com = [i]) : ∃ A B, rot rm i = A ++ B ∧ A ≠ [] ∧ B ≠ [] ∧ (∀ z ∈ A, z ∈ com) ∧ ∀ z ∈ B, z ∉ com := by
  have mi : i ∈ starts rm com := by rw [e]; exact List.mem_singleton.mpr rfl
  obtain ⟨a, b, ha, hb, ia, ib⟩ := start_out mi
  have hi := starts_lt mi
  have lr : (rot rm i).length = rm.length := (rot_perm rm i).length_eq
  have at_ : ∀ t, t < rm.length → ∃ z, (rot rm i)[t]? = some z := fun t ht => ⟨_, List.getElem?_eq_getElem (by rw [lr]; exact ht)⟩
  have r0 : (rot rm i)[0]? = some a := by
    rw [rot_get hi (by omega), if_pos (by omega)]
    exact ha
  have rl : (rot rm i)[rm.length - 1]? = some b := by
    rw [rot_get hi (by omega), ← hb]
    unfold prIx
    congr 1
    split <;> split <;> omega
  -- who is of them stands behind one of them
  have down : ∀ t y z, t + 1 < rm.length → (rot rm i)[t]? = some y → (rot rm i)[t + 1]? = some z → z ∈ com → y ∈ com := fun t y z ht hy hz iz => by
    by_cases iy : y ∈ com
    · exact iy
    exfalso
    rw [rot_get hi (by omega)] at hy hz
    have m : (if i + (t + 1) < rm.length then i + (t + 1) else i + (t + 1) - rm.length) ∈ starts rm com := by
      refine start_in hz ?_ iz iy
      rw [← hy]
      unfold prIx
      congr 1
      split <;> split <;> split <;> omega
    rw [e] at m
    have m := List.mem_singleton.mp m
    split at m <;> omega
  obtain ⟨k, hk, ⟨z, hz, nz⟩, least⟩ := st_least (p := fun t => ∃ z, (rot rm i)[t]? = some z ∧ z ∉ com) (rm.length - 1) ⟨b, rl, ib⟩
  have k0 : 0 < k := by
    rcases Nat.eq_zero_or_pos k with q | q
    · rw [q, r0] at hz
      cases hz
      exact absurd ia nz
    · exact q
  refine ⟨(rot rm i).take k, (rot rm i).drop k, (List.take_append_drop _ _).symm, ?_, ?_, fun y hy => ?_, fun y hy => ?_⟩
  · intro q
    have := congrArg List.length q
    rw [List.length_take, lr, List.length_nil] at this
    omega
  · intro q
    have := congrArg List.length q
    rw [List.length_drop, lr, List.length_nil] at this
    omega
  · obtain ⟨t, ht, q⟩ := List.getElem_of_mem hy
    rw [List.length_take] at ht
    have q' : (rot rm i)[t]? = some y := by
      rw [← List.getElem?_take_of_lt (i := t) (j := k) (by omega), List.getElem?_eq_getElem (by rw [List.length_take]; exact ht), q]
    by_cases iy : y ∈ com
    · exact iy
    · exact absurd ⟨y, q', iy⟩ (least t (by omega))
  · obtain ⟨t, ht, q⟩ := List.getElem_of_mem hy
    rw [List.length_drop, lr] at ht
    have q' : (rot rm i)[k + t]? = some y := by
      rw [← List.getElem?_drop, List.getElem?_eq_getElem (by rw [List.length_drop, lr]; exact ht), q]
    have all : ∀ s, k + s < rm.length → ∀ y, (rot rm i)[k + s]? = some y → y ∉ com := by
      intro s
      induction s with
      | zero =>
        intro _ y hy
        rw [Nat.add_zero, hz] at hy
        cases hy
        exact nz
      | succ s ih =>
        intro hs y hy iy
        obtain ⟨w, hw⟩ := at_ (k + s) (by omega)
        exact ih (by omega) w hw (down (k + s) w y hs hw hy iy)
    exact all t (by omega) y q'
theorem end_out {rm com : List Str} {j : Nat} (h : j ∈ ends rm com) : ∃ a b, rm[j]? = some a ∧ rm[prIx rm.length j]? = some b ∧ a ∉ com ∧ b ∈ com := by
  have h2 := (List.mem_filter.mp h).2
  unfold isEnd at h2
  split at h2
  · rename_i a b e1 e2
    simp at h2
    exact ⟨a, b, e1, e2, h2.1, h2.2⟩
  · cases h2
theorem end_in {rm com : List Str} {j : Nat} {a b : Str} (h1 : rm[j]? = some a) (h2 : rm[prIx rm.length j]? = some b) (ha : a ∉ com) (hb : b ∈ com) : j ∈ ends rm com := by
  refine List.mem_filter.mpr ⟨List.mem_range.mpr (List.getElem?_eq_some_iff.mp h1).1, ?_⟩
  unfold isEnd
  rw [h1, h2]
  simp [ha, hb]
/-- there is just one end, too: with the first of the others -/
theorem ends_at {rm com A : List Str} {i : Nat} {y : Str} {B : List Str} (hi : i < rm.length) (e : rot rm i = A ++ y :: B) (hA : A ≠ []) (inA : ∀ z ∈ A, z ∈ com) (inB : ∀ z ∈ y :: B, z ∉ com) :
    ends rm com ≠ [] ∧ ∀ j ∈ ends rm com, rm[j]? = some y := by
  have lr : (rot rm i).length = rm.length := (rot_perm rm i).length_eq
  have lA : 0 < A.length := List.length_pos_iff.mpr hA
  have le : A.length + (B.length + 1) = rm.length := by rw [← lr, e, List.length_append, List.length_cons]
  have ry : (rot rm i)[A.length]? = some y := by
    rw [e, List.getElem?_append_right (Nat.le_refl _), Nat.sub_self]
    rfl
  have rA : ∀ t, t < A.length → ∃ z, (rot rm i)[t]? = some z ∧ z ∈ com := fun t ht => ⟨A[t], by rw [e, List.getElem?_append_left ht, List.getElem?_eq_getElem ht], inA _ (List.getElem_mem ht)⟩
  have rB : ∀ t, A.length ≤ t → ∀ z, (rot rm i)[t]? = some z → z ∉ com := fun t ht z hz => by
    rw [e, List.getElem?_append_right ht] at hz
    exact inB z (List.mem_of_getElem? hz)
  constructor
  · intro q
    obtain ⟨z, hz, iz⟩ := rA (A.length - 1) (by omega)
    rw [rot_get hi (by omega)] at hz ry
    have m : (if i + A.length < rm.length then i + A.length else i + A.length - rm.length) ∈ ends rm com := by
      refine end_in ry ?_ (inB y List.mem_cons_self) iz
      rw [← hz]
      unfold prIx
      congr 1
      split <;> split <;> split <;> omega
    rw [q] at m
    cases m
  · intro j hj
    obtain ⟨a, b, ha, hb, na, ib⟩ := end_out hj
    have hl := (List.getElem?_eq_some_iff.mp ha).1
    -- where it stands behind the start
    obtain ⟨t, ht, et⟩ : ∃ t, t < rm.length ∧ j = (if i + t < rm.length then i + t else i + t - rm.length) := by
      by_cases c : i ≤ j
      · exact ⟨j - i, by omega, by rw [if_pos (by omega)]; omega⟩
      · exact ⟨j + rm.length - i, by omega, by rw [if_neg (by omega)]; omega⟩
    have ra : (rot rm i)[t]? = some a := by
      rw [rot_get hi ht, ← et]
      exact ha
    have ge : A.length ≤ t := by
      rcases Nat.lt_or_ge t A.length with q | q
      · obtain ⟨z, hz, iz⟩ := rA t q
        rw [ra] at hz
        cases hz
        exact absurd iz na
      · exact q
    have rb : (rot rm i)[t - 1]? = some b := by
      rw [rot_get hi (by omega), ← hb]
      unfold prIx
      congr 1
      rw [et]
      split <;> split <;> split <;> omega
    have : t = A.length := by
      rcases Nat.lt_or_ge A.length t with q | q
      · exact absurd ib (rB (t - 1) (by omega) b rb)
      · omega
    rw [ha, ← ra, this]
    exact ry
def rowOf (rm com : List Str) : Option (List Str) := match starts rm com with
  | [i] => some ((rot rm i).takeWhile fun z => decide (z ∈ com))
  | _ => none
theorem takeW {A B : List Str} {p : Str → Bool} (hA : ∀ z ∈ A, p z = true) (hB : ∀ z ∈ B, p z = false) : (A ++ B).takeWhile p = A := by
  induction A with
  | nil =>
    cases B with
    | nil => rfl
    | cons b B =>
      rw [List.nil_append, List.takeWhile_cons_of_neg (by rw [hB b List.mem_cons_self]; decide)]
  | cons a A ih =>
    rw [List.cons_append, List.takeWhile_cons_of_pos (hA a List.mem_cons_self), ih fun z hz => hA z (List.mem_cons_of_mem _ hz)]
theorem rowOf_one {rm com A B : List Str} {i : Nat} (e : starts rm com = [i]) (r : rot rm i = A ++ B) (hA : ∀ z ∈ A, z ∈ com) (hB : ∀ z ∈ B, z ∉ com) : rowOf rm com = some A := by
  unfold rowOf
  rw [e]
  show some ((rot rm i).takeWhile _) = _
  rw [r, takeW (fun z hz => decide_eq_true (hA z hz)) fun z hz => decide_eq_false (hB z hz)]
theorem rowOf_no {rm com : List Str} (h : (starts rm com).length ≠ 1) : rowOf rm com = none := by
  unfold rowOf
  split
  · rename_i q
    rw [q] at h
    exact absurd rfl h
  · rfl
end E1

set_option Elab.async false
set_option linter.all false
set_option maxRecDepth 100000
set_option maxHeartbeats 8000000
/-! walks.py, stretches.py: a ring turned, a stretch of one. -/
namespace E1
open PySem PySem.Spec PyProof.Rows L2 G0
abbrev N_turned : List Str := ["ring", "place", "at"]
theorem sc_turned : FnScope N_turned ["ring", "place"] (defScope (topS 30)) := ⟨rfl, rfl, rfl, by decide +kernel, rfl, by decide +kernel, by decide +kernel⟩
abbrev N_strof : List Str := ["rim", "first", "last", "turned"]
theorem sc_strof : FnScope N_strof ["rim", "first", "last"] (defScope (topS 32)) := ⟨rfl, rfl, rfl, by decide +kernel, rfl, by decide +kernel, by decide +kernel⟩
def spTurned : Sp := fun vs H Q _ => ∃ (a : Addr) (rm : List Str) (z : Str) (i : Nat), vs = [.ref a, .str z] ∧ H a = some (.lst (rm.map V.str)) ∧ rm.Nodup ∧ rm[i]? = some z ∧ rm.length ≤ 1000 ∧
  ∀ r H', H r = none → H' r = some (.lst ((rot rm i).map V.str)) → Same H H' → Q (.ref r) H'
def spStrof : Sp := fun vs H Q _ => ∃ (a : Addr) (rm : List Str) (z y : Str) (i k : Nat), vs = [.ref a, .str z, .str y] ∧ H a = some (.lst (rm.map V.str)) ∧ rm.Nodup ∧ rm[i]? = some z ∧ (rot rm i)[k]? = some y ∧ rm.length ≤ 1000 ∧
  ∀ r H', H r = none → H' r = some (.lst (((rot rm i).take (k + 1)).map V.str)) → Same H H' → Q (.ref r) H'
/-- where a text stands, nobody being there twice -/
theorem ix_at {ss : List Str} {z : Str} {i : Nat} (e : ss[i]? = some z) : (ss.map V.str)[i]? = some (.str z) := by
  rw [List.getElem?_map, e]
  rfl
theorem ix_eq (z : Str) : eqV (.str z) (.str z) = true := by
  show (decide (z = z)) = true
  exact decide_eq_true rfl
theorem ix_ahead {ss : List Str} {z : Str} {i : Nat} (nd : ss.Nodup) (e : ss[i]? = some z) (m : Nat) (z' : V) (hm : m < i) (hz' : (ss.map V.str)[m]? = some z') : eqV z' (.str z) = false := by
  have il := (List.getElem?_eq_some_iff.mp e).1
  rw [List.getElem?_map] at hz'
  cases em : ss[m]? with
  | none => rw [em] at hz'; cases hz'
  | some w =>
    rw [em] at hz'
    cases hz'
    show (decide (w = z)) = false
    refine decide_eq_false fun q => ?_
    rw [q] at em
    have := (List.getElem?_inj (by omega) nd).mp (em.trans e.symm)
    omega
section
variable {P : Program} {w : World} {K : PySem.W.Frag} {mg : Str → Option Value} {base : Heap}
theorem bTurned (Z : LawD K mg) : Binds K (Z.d 30) ["ring", "place"] [] := (Z.F 30 (by decide)).binds fun _ _ _ _ _ _ us hl => match us, hl with | [_, _], _ => rfl
theorem bStrof (Z : LawD K mg) : Binds K (Z.d 32) ["rim", "first", "last"] [] := (Z.F 32 (by decide)).binds fun _ _ _ _ _ _ us hl => match us, hl with | [_, _, _], _ => rfl
theorem ok_turned (Z : LawD K mg) : FnOk P w K mg base CX0 1 (Z.f 30) (Z.d 30) ["ring", "place"] spTurned := by
  refine Fun.ok (Z.F 30 (by decide)) sc_turned (fun vs H Q E h => ?_) (fun cdv A outer s H vs Q E hr h => ⟨_, pss_cons (ps_set (i := 2) sc_turned.nd rfl (Or.inl rfl) (pe_bm PySem.F.plainAttrs_list PySem.F.slot_list_index PySem.F.type_list_index mt_index (pv 0) (pa_cons (pv 1) pa_nil)))
  (pss_one (ps_ret (pe_op op_cat (pe_slice sl_list (pv 0) (po_some (pv 2)) po_none) (pe_slice sl_list (pv 0) po_none (po_some (pv 2)))))), ?_⟩)
  · obtain ⟨a, rm, z, i, rfl, _⟩ := h
    rfl
  · obtain ⟨a, rm, z, i, rfl, ha, nd, ez, lr, k⟩ := h
    have sz : 5000 < sizeLine := by decide
    refine ⟨_, rfl, .inl ⟨rfl, _, SqL.of ha⟩, _, rfl, a, _, _, i, _, rfl, rfl, SqL.of ha, rfl, flat_strs _, ix_at ez, ix_eq z, ix_ahead nd ez, ?_⟩
    refine ⟨_, rfl, _, rfl, (i : Int), rfl, a, _, rfl, SqL.of ha, fun s3 n3 => ?_⟩
    rw [cut_from, ← List.map_drop]
    have T3 := new_same (o := .lst ((rm.drop i).map V.str)) n3
    refine ⟨_, rfl, _, rfl, (i : Int), rfl, a, _, rfl, SqL.of (T3 _ _ ha), fun s4 n4 => ?_⟩
    rw [cut_to, ← List.map_take]
    have T4 := T3.trans (new_same (o := .lst ((rm.take i).map V.str)) n4)
    refine ⟨s3, s4, _, _, rfl, rfl, new_same n4 _ _ upd_same, upd_same, ?_, fun s5 n5 => ?_⟩
    · rw [List.length_map, List.length_map, List.length_drop, List.length_take]
      omega
    have T5 := T4.trans (new_same (o := .lst ((rm.drop i).map V.str ++ (rm.take i).map V.str)) n5)
    refine k s5 _ (T4.free n5) ?_ T5
    rw [upd_same]
    unfold rot
    rw [List.map_append]
theorem ok_strof (Z : LawD K mg) : FnOk P w K mg base CX0 2 (Z.f 32) (Z.d 32) ["rim", "first", "last"] spStrof := by
  have GT : FnOk P w K mg base CX0 1 (Z.f 30) (Z.d 30) ["ring", "place"] spTurned := ok_turned Z
  refine Fun.ok (Z.F 32 (by decide)) sc_strof (fun vs H Q E h => ?_) (fun cdv A outer s H vs Q E hr h => ⟨_, pss_cons (ps_set (i := 3) sc_strof.nd rfl (Or.inl rfl) (pe_call GT (hr.mono (by decide)) (by rfl) (Z.g 30 (by decide)) (Z.F 30 (by decide)).kp (bTurned Z) .nil pass0 (pa_cons (pv 0) (pa_cons (pv 1) pa_nil))))
  (pss_one (ps_ret (pe_slice sl_list (pv 3) po_none (po_some (pe_op op_add (pe_bm PySem.F.plainAttrs_list PySem.F.slot_list_index PySem.F.type_list_index mt_index (pv 3) (pa_cons (pv 2) pa_nil)) pe_int))))), ?_⟩)
  · obtain ⟨a, rm, z, y, i, k, rfl, _⟩ := h
    rfl
  · obtain ⟨a, rm, z, y, i, j, rfl, ha, nd, ez, ey, lr, k⟩ := h
    refine ⟨_, rfl, _, rfl, a, rm, z, i, rfl, ha, nd, ez, lr, fun r H1 nr hr1 S1 => ?_⟩
    refine ⟨_, rfl, _, rfl, .inl ⟨rfl, _, SqL.of hr1⟩, _, rfl, r, _, _, j, _, rfl, rfl, SqL.of hr1, rfl, flat_strs _, ix_at ey, ix_eq y, ix_ahead ((rot_perm rm i).nodup_iff.mpr nd) ey, _, _, rfl, rfl, ((j + 1 : Nat) : Int), rfl, r, _, rfl, SqL.of hr1, fun s n => ?_⟩
    rw [cut_to, ← List.map_take]
    exact k s _ (S1.free n) upd_same (S1.trans (new_same n))
end
end E1

set_option Elab.async false
set_option linter.all false
set_option maxRecDepth 100000
set_option maxHeartbeats 8000000
/-! beside.py: some pins as they stand on the rim. -/
namespace E1
open PySem PySem.Spec PyProof.Rows L2 G0
abbrev N_row : List Str := ["rim", "places", "firsts", "index", "pin", "lasts", "stretch"]
theorem sc_row : FnScope N_row ["rim", "places"] (defScope (topS 34)) := ⟨rfl, rfl, rfl, by decide +kernel, rfl, by decide +kernel, by decide +kernel⟩
/-- the pins with these indexes -/
def pinsAt (rm : List Str) (js : List Nat) : List V := js.map fun j => V.str (rm.getD j Str.empty)
theorem getD_of {rm : List Str} {j : Nat} {z : Str} (h : rm[j]? = some z) : rm.getD j Str.empty = z := by
  rw [List.getD_eq_getElem?_getD, h]
  rfl
def RowA (H H' : Hp) (u : V) : Option (List Str) → Prop
  | none => u = .non
  | some A => ∃ r, u = .ref r ∧ H r = none ∧ H' r = some (.lst (A.map V.str))
def spRow : Sp := fun vs H Q _ => ∃ (a b : Addr) (rm com : List Str), vs = [.ref a, .ref b] ∧ H a = some (.lst (rm.map V.str)) ∧ H b = some (.lst (com.map V.str)) ∧ rm.length ≤ 1000 ∧ rm.Nodup ∧
  ∀ u H', RowA H H' u (rowOf rm com) → Same H H' → Q u H'
theorem cut_but1 {xs : List V} : cutV xs none (some (-1)) = xs.dropLast := by
  have e : HT.sIx xs.length xs.length (some (-1)) = xs.length - 1 := by
    show (if (-1 : Int) < 0 then ((-1 : Int) + (xs.length : Int)).toNat else min (-1 : Int).toNat xs.length) = xs.length - 1
    rw [if_pos (by decide)]
    omega
  unfold cutV
  rw [HT.sIx_none, List.drop_zero, Nat.sub_zero, e, List.dropLast_eq_take]
theorem at0 {xs : List V} {v : V} (h : xs[0]? = some v) : atI xs 0 = some v := by
  have l := (List.getElem?_eq_some_iff.mp h).1
  unfold atI ixN
  rw [if_pos (by decide), if_pos (by omega)]
  exact h
theorem filt_step (p : Nat → Bool) (i : Nat) (c : Bool) (h : p i = c) : (List.range (i + 1)).filter p = (List.range i).filter p ++ if c = true then [i] else [] := by
  rw [List.range_succ, List.filter_append]
  congr 1
  cases c with
  | true => rw [if_pos rfl, List.filter_cons_of_pos h]; rfl
  | false => rw [if_neg (by decide), List.filter_cons_of_neg (by rw [h]; decide)]; rfl
theorem filt_len (p : Nat → Bool) (i : Nat) : ((List.range i).filter p).length ≤ i := by
  have := List.length_filter_le p (List.range i)
  rw [List.length_range] at this
  exact this
section
variable {P : Program} {w : World} {K : PySem.W.Frag} {mg : Str → Option Value} {base : Heap}
theorem bRow (Z : LawD K mg) : Binds K (Z.d 34) ["rim", "places"] [] := (Z.F 34 (by decide)).binds fun _ _ _ _ _ _ us hl => match us, hl with | [_, _], _ => rfl
theorem ok_row (Z : LawD K mg) : FnOk P w K mg base CX0 3 (Z.f 34) (Z.d 34) ["rim", "places"] spRow := by
  have GS : FnOk P w K mg base CX0 2 (Z.f 32) (Z.d 32) ["rim", "first", "last"] spStrof := ok_strof Z
  refine Fun.ok (Z.F 34 (by decide)) sc_row (fun vs H Q E h => ?_) (fun cdv A outer s H vs Q E hr h => ⟨_, pss_cons (ps_setLc (i := 2) (own := [("index", 3), ("pin", 4)]) (g := gTup K 2 (gCons (gName 3) (gCons (gName 4) gNil))) (tt := tAnd (tTest (tOp (rIn K false) (tVar 4) (tVar 1))) (tTest (tOp (rIn K true) (tOp (rIxL K) (tVar 0) (tOp rSubI (tVar 3) (tC (.int 1)))) (tVar 1)))) (te := tVar 4) rfl sc_row.nd rfl rfl (by rfl) (pi_enum (by rfl) Z.t.enumerate (pa_cons (pv 0) pa_nil)) (blkOk_by (own := [("index", 3), ("pin", 4)]) (N := N_row) (sc := defScope (topS 34)) (by decide +kernel)) (fun _ _ _ _ _ => by exact (pg_tup rfl (pgs_cons (pg_name (i := 3) sc_row.nd rfl (Or.inl rfl)) (pgs_cons (pg_name (i := 4) sc_row.nd rfl (Or.inl rfl)) pgs_nil)))) (fun _ _ _ _ _ => (pts_one (PW.pt (pw_and (pt_cmpR op_in_seq (pv 4) (pv 1) (by rfl)) (pw_and1 (pt_cmpR op_notIn_seq (pe_ix ix_list (pv 0) (pe_op op_sub (pv 3) pe_int) (fun _ _ => rfl)) (pv 1) (by rfl))))))) (fun _ _ _ _ _ => (pv 4)))
  (pss_cons (ps_if (pt_cmpR op_ne (pe_callB call_len_seq (by rfl) Z.t.len PySem.boot_len (pa_cons (pv 2) pa_nil)) pe_int (nomark _)) (pss_one (ps_ret pe_non)) pss_nil)
  (pss_cons (ps_setLc (i := 5) (own := [("index", 3), ("pin", 4)]) (g := gTup K 2 (gCons (gName 3) (gCons (gName 4) gNil))) (tt := tAnd (tTest (tOp (rIn K true) (tVar 4) (tVar 1))) (tTest (tOp (rIn K false) (tOp (rIxL K) (tVar 0) (tOp rSubI (tVar 3) (tC (.int 1)))) (tVar 1)))) (te := tVar 4) rfl sc_row.nd rfl rfl (by rfl) (pi_enum (by rfl) Z.t.enumerate (pa_cons (pv 0) pa_nil)) (blkOk_by (own := [("index", 3), ("pin", 4)]) (N := N_row) (sc := defScope (topS 34)) (by decide +kernel)) (fun _ _ _ _ _ => by exact (pg_tup rfl (pgs_cons (pg_name (i := 3) sc_row.nd rfl (Or.inl rfl)) (pgs_cons (pg_name (i := 4) sc_row.nd rfl (Or.inl rfl)) pgs_nil)))) (fun _ _ _ _ _ => (pts_one (PW.pt (pw_and (pt_cmpR op_notIn_seq (pv 4) (pv 1) (by rfl)) (pw_and1 (pt_cmpR op_in_seq (pe_ix ix_list (pv 0) (pe_op op_sub (pv 3) pe_int) (fun _ _ => rfl)) (pv 1) (by rfl))))))) (fun _ _ _ _ _ => (pv 4)))
  (pss_cons (ps_set (i := 6) sc_row.nd rfl (Or.inl rfl) (pe_call GS (hr.mono (by decide)) (by rfl) (Z.g 32 (by decide)) (Z.F 32 (by decide)).kp (bStrof Z) .nil pass0 (pa_cons (pv 0) (pa_cons (pe_ix ix_list (pv 2) pe_int (fun _ _ => rfl)) (pa_cons (pe_ix ix_list (pv 5) pe_int (fun _ _ => rfl)) pa_nil)))))
  (pss_one (ps_ret (pe_slice sl_list (pv 6) po_none (po_some (pe_un un_neg pe_int)))))))), ?_⟩)
  · obtain ⟨a, b, rm, com, rfl, _⟩ := h
    rfl
  · obtain ⟨a, b, rm, com, rfl, ha, hb, lr, nd, k⟩ := h
    have sz : 5000 < sizeLine := by decide
    refine ⟨_, rfl, a, rm.map V.str, rfl, SqL.of ha, fun D hD => ?_⟩
    refine lc_it walk_enum (fun i H' => H' D = some (.lst (pinsAt rm ((List.range i).filter (isStart rm com)))) ∧ Same H H') ⟨upd_same, new_same hD⟩ (fun i H' _ ⟨_, S'⟩ => SqL.of (S' _ _ ha)) ?_ ?_
    · rintro i x H0 H' hi ⟨hacc, S'⟩ ⟨T, x1, x2, rfl, nT, rfl, ex, ey⟩
      cases ex
      have ey : (rm.map V.str)[i]? = some x2 := ey
      rw [List.getElem?_map] at ey
      cases ez : rm[i]? with
      | none => rw [ez] at ey; cases ey
      | some z =>
      rw [ez] at ey
      cases ey
      have il : i < rm.length := (List.getElem?_eq_some_iff.mp ez).1
      have ST := new_same (o := .tup [.int ((i : Nat) : Int), .str z]) nT
      have S2 := S'.trans ST
      have acc2 := ST _ _ hacc
      have lf := filt_len (isStart rm com) i
      obtain ⟨v, ev, evr⟩ := atI_pred (xs := rm.map V.str) (i := i) (by rw [List.length_map]; exact il)
      rw [List.length_map, List.getElem?_map] at evr
      cases ep : rm[prIx rm.length i]? with
      | none =>
        unfold prIx at ep
        rw [ep] at evr
        cases evr
      | some pz =>
      have evr' : some (V.str pz) = some v := by
        rw [← evr]
        unfold prIx at ep
        rw [ep]
        rfl
      cases evr'
      have st : isStart rm com i = (decide (z ∈ com) && !decide (pz ∈ com)) := by
        unfold isStart
        rw [ez, ep]
      have no : isStart rm com i = false → (upd H0 T (.tup [.int ((i : Nat) : Int), .str z])) D = some (.lst (pinsAt rm ((List.range (i + 1)).filter (isStart rm com)))) := fun hc => by
        rw [filt_step _ _ false hc, if_neg (by decide), List.append_nil]
        exact acc2
      refine ⟨T, _, rfl, SqT.of upd_same, rfl, _, _, rfl, _, _, rfl, rfl, rfl, ?_⟩
      refine ⟨_, rfl, _, rfl, b, _, rfl, .inl (SqL.of (S2 _ _ hb)), rfl, flat_strs _, _, rfl, ?_⟩
      rw [show inV (.str z) (com.map V.str) = decide (z ∈ com) from inV_strs z com]
      refine ite2 (fun c1 => ?_) (fun c1 => ?_)
      · refine ⟨_, rfl, _, rfl, _, _, rfl, rfl, a, _, _, _, rfl, rfl, SqL.of (S2 _ _ ha), ev, _, rfl, b, _, rfl, .inl (SqL.of (S2 _ _ hb)), rfl, flat_strs _, _, rfl, ?_⟩
        rw [show inV (.str pz) (com.map V.str) = decide (pz ∈ com) from inV_strs pz com]
        refine ite2 (fun c2 => ?_) (fun c2 => ?_)
        · have c1' : decide (z ∈ com) = true := c1
          have c2' : (!decide (pz ∈ com)) = true := c2
          have hs : isStart rm com i = true := by rw [st, c1', c2']; rfl
          refine ⟨_, rfl, _, acc2, ?_, ?_, ?_⟩
          · unfold pinsAt
            rw [List.length_map]
            omega
          · rw [upd_same, filt_step _ _ true hs, if_pos rfl]
            unfold pinsAt
            rw [List.map_append, List.map_cons, getD_of ez]
            rfl
          · exact fun b o e => by
              rw [upd_ne (ne_of_none e hD)]
              exact S2 _ _ e
        · have c1' : decide (z ∈ com) = true := c1
          have c2' : (!decide (pz ∈ com)) = false := Bool.eq_false_iff.mpr c2
          have hs : isStart rm com i = false := by rw [st, c1', c2']; rfl
          exact ⟨no hs, S2⟩
      · have hs : isStart rm com i = false := by
          have c1' : decide (z ∈ com) = false := Bool.eq_false_iff.mpr c1
          rw [st, c1']
          rfl
        exact ⟨no hs, S2⟩
    rintro H1 ⟨hacc, S1⟩
    rw [List.length_map] at hacc
    have hF : H1 D = some (.lst (pinsAt rm (starts rm com))) := hacc
    have lS : (pinsAt rm (starts rm com)).length = (starts rm com).length := List.length_map _
    refine ⟨_, rfl, D, _, rfl, .inl (SqL.of hF), rfl, _, rfl, ?_⟩
    refine ite2 (fun c1 => ?_) (fun c1 => ?_)
    · have ne : (starts rm com).length ≠ 1 := fun q => by
        rw [lS, q] at c1
        exact absurd c1 (by decide)
      exact k .non H1 (by rw [rowOf_no ne]; exact rfl) S1
    have one : (starts rm com).length = 1 := Classical.byContradiction fun y => c1 (by
      rw [lS, decide_eq_false (fun w => y (by injection w with w; omega))]
      rfl)
    obtain ⟨i0, ei⟩ := List.length_eq_one_iff.mp one
    have ha1 := S1 _ _ ha
    have hb1 := S1 _ _ hb
    refine ⟨_, rfl, a, rm.map V.str, rfl, SqL.of ha1, fun D2 hD2 => ?_⟩
    refine lc_it walk_enum (fun i H' => H' D2 = some (.lst (pinsAt rm ((List.range i).filter (isEnd rm com)))) ∧ Same H1 H') ⟨upd_same, new_same hD2⟩ (fun i H' _ ⟨_, S'⟩ => SqL.of (S' _ _ ha1)) ?_ ?_
    · rintro i x H0 H' hi ⟨hacc, S'⟩ ⟨T, x1, x2, rfl, nT, rfl, ex, ey⟩
      cases ex
      have ey : (rm.map V.str)[i]? = some x2 := ey
      rw [List.getElem?_map] at ey
      cases ez : rm[i]? with
      | none => rw [ez] at ey; cases ey
      | some z =>
      rw [ez] at ey
      cases ey
      have il : i < rm.length := (List.getElem?_eq_some_iff.mp ez).1
      have ST := new_same (o := .tup [.int ((i : Nat) : Int), .str z]) nT
      have S2 := S'.trans ST
      have acc2 := ST _ _ hacc
      have lf := filt_len (isEnd rm com) i
      obtain ⟨v, ev, evr⟩ := atI_pred (xs := rm.map V.str) (i := i) (by rw [List.length_map]; exact il)
      rw [List.length_map, List.getElem?_map] at evr
      cases ep : rm[prIx rm.length i]? with
      | none =>
        unfold prIx at ep
        rw [ep] at evr
        cases evr
      | some pz =>
      have evr' : some (V.str pz) = some v := by
        rw [← evr]
        unfold prIx at ep
        rw [ep]
        rfl
      cases evr'
      have st : isEnd rm com i = (!decide (z ∈ com) && decide (pz ∈ com)) := by
        unfold isEnd
        rw [ez, ep]
      have no : isEnd rm com i = false → (upd H0 T (.tup [.int ((i : Nat) : Int), .str z])) D2 = some (.lst (pinsAt rm ((List.range (i + 1)).filter (isEnd rm com)))) := fun hc => by
        rw [filt_step _ _ false hc, if_neg (by decide), List.append_nil]
        exact acc2
      refine ⟨T, _, rfl, SqT.of upd_same, rfl, _, _, rfl, _, _, rfl, rfl, rfl, ?_⟩
      refine ⟨_, rfl, _, rfl, b, _, rfl, .inl (SqL.of (S2 _ _ hb1)), rfl, flat_strs _, _, rfl, ?_⟩
      rw [show inV (.str z) (com.map V.str) = decide (z ∈ com) from inV_strs z com]
      refine ite2 (fun c1 => ?_) (fun c1 => ?_)
      · refine ⟨_, rfl, _, rfl, _, _, rfl, rfl, a, _, _, _, rfl, rfl, SqL.of (S2 _ _ ha1), ev, _, rfl, b, _, rfl, .inl (SqL.of (S2 _ _ hb1)), rfl, flat_strs _, _, rfl, ?_⟩
        rw [show inV (.str pz) (com.map V.str) = decide (pz ∈ com) from inV_strs pz com]
        refine ite2 (fun c2 => ?_) (fun c2 => ?_)
        · have c1' : (!decide (z ∈ com)) = true := c1
          have c2' : decide (pz ∈ com) = true := c2
          have hs : isEnd rm com i = true := by rw [st, c1', c2']; rfl
          refine ⟨_, rfl, _, acc2, ?_, ?_, ?_⟩
          · unfold pinsAt
            rw [List.length_map]
            omega
          · rw [upd_same, filt_step _ _ true hs, if_pos rfl]
            unfold pinsAt
            rw [List.map_append, List.map_cons, getD_of ez]
            rfl
          · exact fun b o e => by
              rw [upd_ne (ne_of_none e hD2)]
              exact S2 _ _ e
        · have c1' : (!decide (z ∈ com)) = true := c1
          have c2' : decide (pz ∈ com) = false := Bool.eq_false_iff.mpr c2
          have hs : isEnd rm com i = false := by rw [st, c1', c2']; rfl
          exact ⟨no hs, S2⟩
      · have hs : isEnd rm com i = false := by
          have c1' : (!decide (z ∈ com)) = false := Bool.eq_false_iff.mpr c1
          rw [st, c1']
          rfl
        exact ⟨no hs, S2⟩
    rintro H2 ⟨hacc2, S2⟩
    rw [List.length_map] at hacc2
    have hL : H2 D2 = some (.lst (pinsAt rm (ends rm com))) := hacc2
    obtain ⟨A0, B0, er, nA, nB, iA, iB⟩ := seg ei
    obtain ⟨y, B, rfl⟩ := List.exists_cons_of_ne_nil nB
    have mi : i0 ∈ starts rm com := by rw [ei]; exact List.mem_singleton.mpr rfl
    have hi := starts_lt mi
    obtain ⟨x, _, hx, _⟩ := start_out mi
    obtain ⟨ne, ey⟩ := ends_at hi er nA iA iB
    obtain ⟨j0, js, ej⟩ := List.exists_cons_of_ne_nil ne
    have hj : rm[j0]? = some y := ey j0 (by rw [ej]; exact List.mem_cons_self)
    have f0 : (pinsAt rm (starts rm com))[0]? = some (.str x) := by
      rw [ei]
      show some (V.str (rm.getD i0 Str.empty)) = _
      rw [getD_of hx]
    have l0 : (pinsAt rm (ends rm com))[0]? = some (.str y) := by
      rw [ej]
      show some (V.str (rm.getD j0 Str.empty)) = _
      rw [getD_of hj]
    have S12 := S1.trans S2
    have ry : (rot rm i0)[A0.length]? = some y := by
      rw [er, List.getElem?_append_right (Nat.le_refl _), Nat.sub_self]
      rfl
    refine ⟨_, rfl, _, rfl, D, _, 0, _, rfl, rfl, SqL.of (S2 _ _ hF), at0 f0, _, rfl, D2, _, 0, _, rfl, rfl, SqL.of hL, at0 l0, a, rm, x, y, i0, A0.length, rfl, S12 _ _ ha, nd, hx, ry, lr, fun r H3 nr hr3 S3 => ?_⟩
    refine ⟨_, rfl, 1, rfl, (-1 : Int), rfl, r, _, rfl, SqL.of hr3, fun s4 n4 => ?_⟩
    rw [cut_but1, ← List.map_dropLast]
    have tk : ((rot rm i0).take (A0.length + 1)).dropLast = A0 := by
      rw [er, List.take_append, List.take_of_length_le (by omega), Nat.add_sub_cancel_left, List.dropLast_append_of_ne_nil (by simp)]
      simp
    rw [tk]
    have S4 := S12.trans (S3.trans (new_same (o := .lst (A0.map V.str)) n4))
    exact k _ _ (by rw [rowOf_one ei er iA iB]; exact ⟨s4, rfl, (S12.trans S3).free n4, upd_same⟩) S4
end
end E1

set_option Elab.async false
set_option linter.all false
set_option maxRecDepth 100000
set_option maxHeartbeats 8000000
/-! beside.py: the stretch in common. -/
namespace E1
open PySem PySem.Spec PyProof.Rows L2 G0
theorem starts_congr {rm com com' : List Str} (h : ∀ z, z ∈ com ↔ z ∈ com') : starts rm com = starts rm com' := by
  unfold starts
  refine List.filter_congr fun i _ => ?_
  unfold isStart
  split
  · rw [decide_eq_decide.mpr (h _), decide_eq_decide.mpr (h _)]
  · rfl
theorem rowOf_congr {rm com com' : List Str} (h : ∀ z, z ∈ com ↔ z ∈ com') : rowOf rm com = rowOf rm com' := by
  unfold rowOf
  rw [starts_congr h]
  split
  · congr 2
    funext z
    exact decide_eq_decide.mpr (h z)
  · rfl
theorem common_sorted (p1 p2 : List Str) : sortS (common p1 p2) = common p1 p2 := (sortS_uniq (List.Perm.refl _) ((sortS_pw p1).sublist List.filter_sublist)).symm
/-- the pins of a rim that come first are just these, if all of these are on it -/
theorem head_perm {rm C A B : List Str} {i : Nat} (nd : rm.Nodup) (cnd : C.Nodup) (e : rot rm i = A ++ B) (iA : ∀ z ∈ A, z ∈ C) (iB : ∀ z ∈ B, z ∉ C) (all : ∀ c ∈ C, c ∈ rm) : A.Perm C := by
  have nr : (A ++ B).Nodup := by rw [← e]; exact (rot_perm rm i).nodup_iff.mpr nd
  refine (List.perm_ext_iff_of_nodup (List.nodup_append.mp nr).1 cnd).mpr fun z => ⟨iA z, fun hz => ?_⟩
  have m : z ∈ A ++ B := by rw [← e]; exact (rot_perm rm i).mem_iff.mpr (all z hz)
  rcases List.mem_append.mp m with h | h
  · exact h
  · exact absurd hz (iB z h)
/-- what the program makes of it -/
def progStr (com rm rm' : List Str) : Option (List Str) := if (com.all fun c => decide (c ∈ rm) && decide (c ∈ rm')) = true then
  match rowOf rm com with
  | none => none
  | some A => if rowOf rm' com = some A.reverse then some A else none
  else none
theorem prog_str {pl pl' rm rm' com : List Str} (nd : rm.Nodup) (nd' : rm'.Nodup) (np : pl.Nodup) (mem : ∀ z, z ∈ com ↔ z ∈ common pl pl') : progStr com rm rm' = (stretch pl rm pl' rm').map (·.1) := by
  have cnd : (common pl pl').Nodup := ((sortS_perm pl).nodup_iff.mpr np).sublist List.filter_sublist
  have srt := common_sorted pl pl'
  unfold progStr
  rw [rowOf_congr mem, rowOf_congr mem]
  have all_ : (com.all fun c => decide (c ∈ rm) && decide (c ∈ rm')) = true ↔ ∀ c ∈ common pl pl', c ∈ rm ∧ c ∈ rm' := by
    rw [List.all_eq_true]
    constructor
    · intro h c hc
      have := h c ((mem c).mpr hc)
      simpa using this
    · intro h c hc
      have := h c ((mem c).mp hc)
      simpa using this
  by_cases s1 : (starts rm (common pl pl')).length = 1
  case neg =>
    rw [rowOf_no s1, stretch_no2 s1]
    split <;> rfl
  obtain ⟨i, e1⟩ := List.length_eq_one_iff.mp s1
  obtain ⟨A1, B1, r1, a1, b1, iA1, iB1⟩ := seg e1
  rw [rowOf_one e1 r1 iA1 iB1]
  by_cases s2 : (starts rm' (common pl pl')).length = 1
  case neg =>
    rw [rowOf_no s2, stretch_no3 s2]
    split
    · show (if none = some A1.reverse then some A1 else none) = _
      rw [if_neg (fun z => by cases z)]
      rfl
    · rfl
  obtain ⟨j, e2⟩ := List.length_eq_one_iff.mp s2
  obtain ⟨A2, B2, r2, a2, b2, iA2, iB2⟩ := seg e2
  rw [rowOf_one e2 r2 iA2 iB2, stretch_at e1 e2]
  generalize common pl pl' = C at *
  by_cases all : ∀ c ∈ C, c ∈ rm ∧ c ∈ rm'
  · rw [if_pos (all_.mpr all)]
    have p1 := head_perm nd cnd r1 iA1 iB1 fun c hc => (all c hc).1
    have p2 := head_perm nd' cnd r2 iA2 iB2 fun c hc => (all c hc).2
    have t1 : (rot rm i).take C.length = A1 := by rw [r1, ← p1.length_eq, List.take_left']; rfl
    have t2 : (rot rm' j).take C.length = A2 := by rw [r2, ← p2.length_eq, List.take_left']; rfl
    rw [t1, t2]
    have ne : C ≠ [] := fun z => by
      rw [z] at p1
      exact a1 p1.eq_nil
    have so : sortS A1 = C := (sortS_of_perm p1.symm).symm.trans srt
    show (if some A2 = some A1.reverse then some A1 else none) = _
    by_cases q : A1 = A2.reverse
    · rw [if_pos (show some A2 = some A1.reverse by rw [q, List.reverse_reverse]), if_pos ⟨ne, so, q⟩]
      rfl
    · rw [if_neg (fun z : some A2 = some A1.reverse => q (by injection z with z; rw [z, List.reverse_reverse])), if_neg (fun z => q z.2.2)]
      rfl
  · rw [if_neg (fun z => all (all_.mp z)), if_neg]
    · rfl
    · rintro ⟨_, c2, c3⟩
      refine all fun c hc => ?_
      have m1 : c ∈ (rot rm i).take C.length := by
        rw [← c2] at hc
        exact (sortS_perm _).mem_iff.mp hc
      refine ⟨rot_mem (List.mem_of_mem_take m1), ?_⟩
      rw [c3] at m1
      exact rot_mem (List.mem_of_mem_take (List.mem_reverse.mp m1))
theorem rowOf_mem {rm com A : List Str} (h : rowOf rm com = some A) {z : Str} (hz : z ∈ A) : z ∈ rm := by
  unfold rowOf at h
  split at h
  · injection h with h
    rw [← h] at hz
    exact rot_mem ((List.takeWhile_sublist _).subset hz)
  · cases h
theorem ans_none {H H' : Hp} {o : Option (List Str × List Str × List Str)} (h : none = o.map (·.1)) : RowAns H H' .non o := by
  cases o with
  | none => exact rfl
  | some q => cases h
theorem ans_some {H H' : Hp} {o : Option (List Str × List Str × List Str)} {A : List Str} {r : Addr} (h : some A = o.map (·.1)) (n : H r = none) (hr : H' r = some (.lst (A.map V.str))) : RowAns H H' (.ref r) o := by
  cases o with
  | none => cases h
  | some q =>
    injection h with h
    obtain ⟨a, b, c⟩ := q
    exact ⟨r, rfl, n, by rw [hr, h]⟩
theorem BoardAt.ok {N : Addr → Prop} {C : Addr} {H : Hp} {a : Addr} {pl : List Str} {ts : List Pr} {rm : List Str} (b : BoardAt N C H a pl ts rm) : BdOk pl ts rm := by
  obtain ⟨_, _, _, _, _, _, _, _, _, _, _, _, _, h, _⟩ := b
  exact h
abbrev N_sic : List Str := ["one", "other", "common", "place", "ours", "theirs", "stretch"]
theorem sc_sic : FnScope N_sic ["one", "other"] (defScope (topS 35)) := ⟨rfl, rfl, rfl, by decide +kernel, rfl, by decide +kernel, by decide +kernel⟩
def spSic (CB : Addr) : Sp := fun vs H Q _ => ∃ (x y : Addr) (pl : List Str) (ts : List Pr) (rm pl' : List Str) (ts' : List Pr) (rm' : List Str), vs = [.ref x, .ref y] ∧ BoardAt (fun _ => True) CB H x pl ts rm ∧ pl.length ≤ 44 ∧ Few pl ts rm ∧ BoardAt (fun _ => True) CB H y pl' ts' rm' ∧ pl'.length ≤ 44 ∧ Few pl' ts' rm' ∧
  ∀ u H', Same H H' → RowAns H H' u (stretch pl rm pl' rm') → Q u H'
section
variable {P : Program} {w : World} {K : PySem.W.Frag} {mg : Str → Option Value} {base : Heap}
theorem bSic (Z : LawD K mg) : Binds K (Z.d 35) ["one", "other"] [] := (Z.F 35 (by decide)).binds fun _ _ _ _ _ _ us hl => match us, hl with | [_, _], _ => rfl
theorem ok_sic (Z : LawD K mg) : FnOk P w K mg base CX0 4 (Z.f 35) (Z.d 35) ["one", "other"] (spSic Z.B.C) := by
  have GR : FnOk P w K mg base CX0 3 (Z.f 34) (Z.d 34) ["rim", "places"] spRow := ok_row Z
  have GB2 : FnOk P w K mg base CX0 1 (Z.B.f 2) (Z.B.d 2) ["self"] (spPlaces Z.B.C) := ok_places Z.B Z.t
  have GB4 : FnOk P w K mg base CX0 1 (Z.B.f 4) (Z.B.d 4) ["self"] (spRim Z.B.C) := ok_rim Z.B Z.t
  have GB5 : FnOk P w K mg base CX0 1 (Z.B.f 5) (Z.B.d 5) ["self", "thing"] (spHas Z.B.C) := ok_has Z.B Z.t
  refine Fun.ok (Z.F 35 (by decide)) sc_sic (fun vs H Q E h => ?_) (fun cdv A outer s H vs Q E hr h => ?_)
  · obtain ⟨x, y, pl, ts, rm, pl', ts', rm', rfl, _⟩ := h
    rfl
  have hu := hr.units
  refine ⟨_, pss_cons (ps_setLc (i := 2) (own := [("place", 3)]) (tt := _) (te := tVar 3) rfl sc_sic.nd rfl rfl (by rfl) (pi_list (pe_meth0 (pv 0) Z.B.O.cl Z.B.M2 GB2 (hr.mono (by decide)) (b_m2 Z.B) .nil pass0)) (blkOk_by (own := [("place", 3)]) (N := N_sic) (sc := defScope (topS 35)) (by decide +kernel)) (fun _ _ _ _ _ => (pg_name (i := 3) sc_sic.nd rfl (Or.inl rfl))) (fun _ _ _ _ _ => (pts_one (pt_val (pe_meth (pv 1) Z.B.O.cl Z.B.M5 GB5 (hr.mono (by decide)) (b_m5 Z.B) .nil pass0 (pa_cons (pv 3) pa_nil))))) (fun _ _ _ _ _ => (pv 3)))
  (pss_cons (ps_set (i := 4) sc_sic.nd rfl (Or.inr rfl) (pe_meth0 (pv 0) Z.B.O.cl Z.B.M4 GB4 (hr.mono (by decide)) (b_m4 Z.B) .nil pass0))
  (pss_cons (ps_set (i := 5) sc_sic.nd rfl (Or.inr rfl) (pe_meth0 (pv 1) Z.B.O.cl Z.B.M4 GB4 (hr.mono (by decide)) (b_m4 Z.B) .nil pass0))
  (pss_cons (ps_if (pt_not (pt_val (pe_callB (cr_all rfl) (by rfl) Z.t.all (by decide +kernel) (pa_cons (pe_lc (own := [("place", 3)]) (tt := tYes) (te := tAndV (tOp (rIn K false) (tVar 3) (tVar 4)) (tOp (rIn K false) (tVar 3) (tVar 5))) rfl sc_sic.nd (pi_list (pv 2)) (blkOk_by (own := [("place", 3)]) (N := N_sic) (sc := defScope (topS 35)) (by decide +kernel)) (fun _ _ _ _ _ => (pg_name (i := 3) sc_sic.nd rfl (Or.inl rfl))) (fun _ _ _ _ _ => pts_nil) (fun _ _ _ _ _ => (pe_and (pe_cmpR op_in_seq (pv 3) (pv 4) (by rfl)) (pe_one (pe_cmpR op_in_seq (pv 3) (pv 5) (by rfl)))))) pa_nil)))) (pss_one (ps_ret pe_non)) pss_nil)
  (pss_cons (ps_set (i := 6) sc_sic.nd rfl (Or.inl rfl) (pe_call GR (hr.mono (by decide)) (by rfl) (Z.g 34 (by decide)) (Z.F 34 (by decide)).kp (bRow Z) .nil pass0 (pa_cons (pv 4) (pa_cons (pv 2) pa_nil))))
  (pss_cons (ps_if (PW.pt (pw_or (pt_cmpR op_isN (pv 6) pe_non (nomark _)) (pw_or1 (pt_cmpR (op_neD hu) (pe_call GR (hr.mono (by decide)) (by rfl) (Z.g 34 (by decide)) (Z.F 34 (by decide)).kp (bRow Z) .nil pass0 (pa_cons (pv 5) (pa_cons (pv 2) pa_nil))) (pe_revL (pv 6)) (nomark _))))) (pss_one (ps_ret pe_non)) pss_nil)
  (pss_one (ps_ret (pv 6)))))))), ?_⟩
  obtain ⟨x, y, pl, ts, rm, pl', ts', rm', rfl, bx, l1, few, by_, l2, few', k⟩ := h
  have sz : 5000 < sizeLine := by decide
  obtain ⟨dx, _, _, _, _, _, _, hx, _⟩ := id bx
  obtain ⟨dy, _, _, _, _, _, _, hy, _⟩ := id by_
  refine ⟨_, rfl, x, dx, _, rfl, hx, rfl, x, pl, ts, rm, rfl, bx, fun u nu => ⟨u, rfl, ⟨_, SqL.of upd_same⟩, fun D hD => ?_⟩⟩
  have Su := new_same (o := .lst (pl.map V.str)) nu
  refine lc_list (xs := pl.map V.str) (fun i H' => H' D = some (.lst (((pl.take i).filter fun z => decide (z ∈ pl')).map V.str)) ∧ Same (upd H u (.lst (pl.map V.str))) H') ⟨upd_same, new_same hD⟩ (fun i H' _ ⟨_, S⟩ => SqL.of (S _ _ upd_same)) ?_ ?_
  · rintro i xx H' hxx ⟨acc, S⟩
    rw [List.getElem?_map] at hxx
    cases ez : pl[i]? with
    | none => rw [ez] at hxx; cases hxx
    | some z =>
    rw [ez] at hxx
    cases hxx
    have S' := Su.trans S
    refine ⟨rfl, _, rfl, y, dy, _, rfl, S' _ _ hy, rfl, _, rfl, y, .str z, pl', ts', rm', rfl, by_.same S', .str z, _, rfl, ?_⟩
    rw [take_snoc ez, List.filter_append]
    have lf := List.length_filter_le (fun z => decide (z ∈ pl')) (pl.take i)
    rw [List.length_take] at lf
    show if decide (z ∈ pl') = true then _ else _
    refine ite2 (fun c => ?_) (fun c => ?_)
    · have c' : decide (z ∈ pl') = true := c
      refine ⟨_, rfl, _, acc, ?_, ?_, ?_⟩
      · rw [List.length_map]
        omega
      · rw [upd_same, show List.filter (fun z => decide (z ∈ pl')) [z] = [z] from List.filter_cons_of_pos (p := fun z => decide (z ∈ pl')) (l := []) c', List.map_append]
        rfl
      · exact fun b o e => by
          rw [upd_ne (ne_of_none e hD)]
          exact S _ _ e
    · have c' : ¬ decide (z ∈ pl') = true := c
      rw [show List.filter (fun z => decide (z ∈ pl')) [z] = [] from List.filter_cons_of_neg (p := fun z => decide (z ∈ pl')) (l := []) c', List.append_nil]
      exact ⟨acc, S⟩
  rintro H1 ⟨hacc, S1⟩
  rw [List.length_map, List.take_length] at hacc
  generalize hcom : pl.filter (fun z => decide (z ∈ pl')) = com at hacc
  have mem : ∀ z, z ∈ com ↔ z ∈ common pl pl' := fun z => by
    rw [← hcom]
    unfold common
    simp only [List.mem_filter]
    rw [sortS_mem]
  have lcom : com.length ≤ 44 := by
    rw [← hcom]
    exact Nat.le_trans (List.length_filter_le _ _) l1
  have main := prog_str few.2.2.1 few'.2.2.1 few.2.1 mem
  have S1' := Su.trans S1
  refine ⟨_, rfl, x, dx, _, rfl, S1' _ _ hx, rfl, x, pl, ts, rm, rfl, bx.same S1', fun p4 n4 => ?_⟩
  have T4 := new_same (o := .lst (rm.map V.str)) n4
  have U4 := S1'.trans T4
  refine ⟨_, rfl, y, dy, _, rfl, U4 _ _ hy, rfl, y, pl', ts', rm', rfl, by_.same U4, fun p5 n5 => ?_⟩
  have T5 := T4.trans (new_same (o := .lst (rm'.map V.str)) n5)
  have e4 := new_same (o := .lst (rm'.map V.str)) n5 _ _ (upd_same (H := H1) (a := p4) (o := .lst (rm.map V.str)))
  have e5 := upd_same (H := upd H1 p4 (.lst (rm.map V.str))) (a := p5) (o := .lst (rm'.map V.str))
  have eD := T5 _ _ hacc
  generalize upd (upd H1 p4 (.lst (rm.map V.str))) p5 (.lst (rm'.map V.str)) = H2 at T5 e4 e5 eD ⊢
  have U5 := S1'.trans T5
  refine ⟨_, rfl, D, rfl, ⟨_, SqL.of eD⟩, fun r nr => ?_⟩
  refine lc_list (xs := com.map V.str) (fun i H' => H' r = some (.lst (((com.take i).map fun c => decide (c ∈ rm) && decide (c ∈ rm')).map V.bl)) ∧ Same H2 H') ⟨upd_same, new_same nr⟩ (fun i H' _ ⟨_, S⟩ => SqL.of (S _ _ eD)) ?_ ?_
  · rintro i xx H' hxx ⟨acc, S⟩
    rw [List.getElem?_map] at hxx
    cases ez : com[i]? with
    | none => rw [ez] at hxx; cases hxx
    | some z =>
    rw [ez] at hxx
    cases hxx
    have il := (List.getElem?_eq_some_iff.mp ez).1
    have fin : ∀ v : Bool, (decide (z ∈ rm) && decide (z ∈ rm')) = v → ∃ acc', H' r = some (.lst acc') ∧ acc'.length < sizeLine ∧ (upd H' r (.lst (acc' ++ [V.bl v]))) r = some (.lst (((com.take (i + 1)).map fun c => decide (c ∈ rm) && decide (c ∈ rm')).map V.bl)) ∧ Same H2 (upd H' r (.lst (acc' ++ [V.bl v]))) := fun v hv => by
      refine ⟨_, acc, ?_, ?_, ?_⟩
      · rw [List.length_map, List.length_map, List.length_take]
        omega
      · rw [upd_same, take_snoc ez, List.map_append, List.map_append]
        show some (HO.lst (_ ++ [V.bl v])) = some (HO.lst (_ ++ [V.bl (decide (z ∈ rm) && decide (z ∈ rm'))]))
        rw [hv]
      · exact fun b o e => by
          rw [upd_ne (ne_of_none e nr)]
          exact S _ _ e
    refine ⟨rfl, yes_of ⟨_, rfl, _, rfl, p4, _, rfl, .inl (SqL.of (S _ _ e4)), rfl, flat_strs _, _, rfl, ?_⟩⟩
    rw [show inV (.str z) (rm.map V.str) = decide (z ∈ rm) from inV_strs z rm]
    show if decide (z ∈ rm) = true then _ else _
    refine ite2 (fun c => ?_) (fun c => ?_)
    · have c' : decide (z ∈ rm) = true := c
      refine ⟨_, rfl, _, rfl, p5, _, rfl, .inl (SqL.of (S _ _ e5)), rfl, flat_strs _, ?_⟩
      rw [show inV (.str z) (rm'.map V.str) = decide (z ∈ rm') from inV_strs z rm']
      exact fin _ (by rw [c']; rfl)
    · have c' : decide (z ∈ rm) = false := Bool.eq_false_iff.mpr c
      exact fin _ (by rw [c']; rfl)
  rintro H3 ⟨hr3, S3⟩
  rw [List.length_map, List.take_length] at hr3
  have U3 := U5.trans S3
  refine ⟨r, _, rfl, SqL.of hr3, _, rfl, ?_⟩
  have eall : ((com.map fun c => decide (c ∈ rm) && decide (c ∈ rm')).all id) = com.all fun c => decide (c ∈ rm) && decide (c ∈ rm') := by
    rw [List.all_map]
    rfl
  rw [eall]
  have lrm : rm.length ≤ 44 := Nat.le_trans (nd_len few.2.2.1 bx.ok.pin) l1
  have lrm' : rm'.length ≤ 44 := Nat.le_trans (nd_len few'.2.2.1 by_.ok.pin) l2
  show if (!(com.all fun c => decide (c ∈ rm) && decide (c ∈ rm'))) = true then _ else _
  refine ite2 (fun c1 => ?_) (fun c1 => ?_)
  · have no : ¬ (com.all fun c => decide (c ∈ rm) && decide (c ∈ rm')) = true := fun z => by
      rw [z] at c1
      cases c1
    unfold progStr at main
    rw [if_neg no] at main
    exact k .non H3 U3 (ans_none main)
  have all : (com.all fun c => decide (c ∈ rm) && decide (c ∈ rm')) = true := by
    cases q : (com.all fun c => decide (c ∈ rm) && decide (c ∈ rm')) with
    | true => rfl
    | false =>
      rw [q] at c1
      exact absurd rfl c1
  unfold progStr at main
  rw [if_pos all] at main
  have eD3 := S3 _ _ eD
  refine ⟨_, rfl, _, rfl, p4, D, rm, com, rfl, S3 _ _ e4, eD3, by omega, few.2.2.1, fun u6 H6 row6 S6 => ?_⟩
  have U6 := U3.trans S6
  cases er : rowOf rm com with
  | none =>
    rw [er] at row6 main
    cases (show u6 = .non from row6)
    refine ⟨_, rfl, rfl, _, rfl, ?_⟩
    exact iteT (k .non H6 U6 (ans_none main))
  | some A =>
  rw [er] at row6 main
  obtain ⟨r6, rfl, n6, h6⟩ := row6
  have main : (if rowOf rm' com = some A.reverse then some A else none) = (stretch pl rm pl' rm').map (·.1) := main
  refine ⟨_, rfl, rfl, _, rfl, iteF ?_⟩
  refine ⟨_, rfl, _, rfl, p5, D, rm', com, rfl, S6 _ _ (S3 _ _ e5), S6 _ _ eD3, by omega, few'.2.2.1, fun u7 H7 row7 S7 => ?_⟩
  have U7 := U6.trans S7
  have h67 := S7 _ _ h6
  refine ⟨_, rfl, r6, _, rfl, SqL.of h67, fun s8 n8 => ?_⟩
  rw [← List.map_reverse]
  have S8 := new_same (o := .lst (A.reverse.map V.str)) n8
  have U8 := U7.trans S8
  have h8 := upd_same (H := H7) (a := s8) (o := .lst (A.reverse.map V.str))
  have okA : ∀ z ∈ A.reverse, PyData.strOk z = true := fun z hz => name_ok (bx.ok.nm z (bx.ok.pin z (rowOf_mem er (List.mem_reverse.mp hz))))
  have nr6 : H r6 = none := U3.free n6
  cases er' : rowOf rm' com with
  | none =>
    rw [er'] at row7 main
    cases (show u7 = .non from row7)
    rw [if_neg (fun z => by cases z)] at main
    refine ⟨_, _, Dp.non, dp_strs h8, rfl, shS okA, ?_⟩
    exact ⟨_, rfl, iteT (k .non _ U8 (ans_none main))⟩
  | some B =>
  rw [er'] at row7 main
  obtain ⟨r7, rfl, n7, h7⟩ := row7
  have okB : ∀ z ∈ B, PyData.strOk z = true := fun z hz => name_ok (by_.ok.nm z (by_.ok.pin z (rowOf_mem er' hz)))
  refine ⟨_, _, dp_strs (S8 _ _ h7), dp_strs h8, shS okB, shS okA, ?_⟩
  rw [eqv_strs]
  refine ⟨_, rfl, ?_⟩
  refine ite2 (fun c5 => ?_) (fun c5 => ?_)
  · have c5' : ¬ B = A.reverse := fun z => by
      rw [decide_eq_true z] at c5
      cases c5
    rw [if_neg (fun z => c5' (Option.some.inj z))] at main
    exact k .non _ U8 (ans_none main)
  have c5' : B = A.reverse := Classical.byContradiction fun z => c5 (by rw [decide_eq_false z]; rfl)
  rw [if_pos (by rw [c5'])] at main
  exact ⟨_, rfl, k (.ref r6) _ U8 (ans_some main nr6 (S8 _ _ h67))⟩
end
end E1

set_option Elab.async false
set_option linter.all false
set_option maxRecDepth 100000
set_option maxHeartbeats 8000000
/-! checks.py, beside.py: what is no board, boards not beside one another; the stretch told. -/
namespace E1
open PySem PySem.Spec PyProof.Rows L2 G0
/-- where the errors of this part stand -/
structure PrD (K : PySem.W.Frag) (mg : Str → Option Value) (M : MetD K mg) where
  XB : ErrD K mg 3 "BadBoard" "thing"
  eB : XB.C = M.C 0
  bx : PySem.W.excIn K (M.C 4) [.type "ValueError", .type "Exception", .type "BaseException", .type "object"] "ValueError.__new__" = true
  kp : PySem.W.keepIn K (.ref (M.C 4)) = true
  sb : PySem.W.subIn K (.ref (M.C 4)) (.type "BaseException") = some true
  ty : PySem.W.typeIn K (.ref (M.C 4)) = some (.type "type")
theorem kn_own {C : Addr} {H : Hp} {v : V} (k : Kn C H v) (e : kdOf H v = "") : ∃ a dx fs, v = .ref a ∧ H a = some (.ins C dx fs) := by
  cases k with
  | own h => exact ⟨_, _, _, rfl, h⟩
  | lst h => simp only [kdOf, h] at e; exact absurd e (by decide)
  | tup h => simp only [kdOf, h] at e; exact absurd e (by decide)
  | dic h => simp only [kdOf, h] at e; exact absurd e (by decide)
  | non => simp only [kdOf] at e; exact absurd e (by decide)
  | bl b => simp only [kdOf] at e; exact absurd e (by decide)
  | int i => simp only [kdOf] at e; exact absurd e (by decide)
  | str x => simp only [kdOf] at e; exact absurd e (by decide)
theorem kn_kit {K : PySem.W.Frag} {C D : Addr} {H : Hp} {v : V} (O : OwnC K D) (k : Kn C H v) (nk : kdOf H v ≠ "") : ∃ t, TyX K H v t ∧ PySem.W.kitOne K t (.ref D) = some false := by
  cases k with
  | non => exact ⟨_, .base .non, O.ty "NoneType" (by decide)⟩
  | bl b => exact ⟨_, .base (.bl b), O.ty "bool" (by decide)⟩
  | int i => exact ⟨_, .base (.int i), O.ty "int" (by decide)⟩
  | str x => exact ⟨_, .base (.str x), O.ty "str" (by decide)⟩
  | lst e => exact ⟨_, .base (.lst e), O.ty "list" (by decide)⟩
  | tup e => exact ⟨_, .base (.tup e), O.ty "tuple" (by decide)⟩
  | dic e => exact ⟨_, .base (.dK e), O.ty "dict" (by decide)⟩
  | own e => exact absurd (by simp only [kdOf, e]) nk
section
variable {X : Cx} {C : Addr} {bmB : List Value} {B newId initId : String} {x : Str} {p pos : Pos}
/-- X(), X an own class of errors without an __init__ -/
theorem pmk_bare (F : ExcBaseFacts B newId initId bmB) (q : PySem.W.excIn X.K C bmB newId = true) (gC : X.mg x = some (.ref C)) (kC : PySem.W.keepIn X.K (.ref C) = true) (r : Raises X (.ref C)) (hg : Gl X x)
    (hdb : (x == ("__debug__" : Str)) = false := by decide) : PMk X (.Call (.Name x p) [] [] pos) (fun _ H Q => Q (.ref C) none H) := by
  intro pins s σ H Q I h
  refine wpAny_Call_Name_kw (ld_glob I hg gC ?_ hdb)
  refine PySem.W.callWith_K0 I.kIn kC ?_
  show wpAny _ _ (call (.ref C) []) _ _ _
  obtain ⟨bm, N, nm, qn, bs, hdct, sn, sub, ab, col, dd, k0, k1, k2, k3, k5, mN, hC, hN, hni, T⟩ := exc_obj I.kIn q
  refine wpAny_call_exc_subT F T hC hN hni (fun h' e hm => ?_) (Nat.zero_le _)
  exact mk_of I hm r h (I.hok.gone hm.new)
end
section
variable {P : Program} {w : World} {K : PySem.W.Frag} {mg : Str → Option Value} {base : Heap}
theorem sc_errB : FnScope ["self", "thing"] ["self", "thing"] (defScope (inClass (topS 3) 0)) := ⟨rfl, rfl, rfl, by decide +kernel, rfl, by decide +kernel, by decide +kernel⟩
theorem ok_errB (D : ErrD K mg 3 "BadBoard" "thing") : FnOk P w K mg base CX0 1 D.f D.fd ["self", "thing"] (spI1 D.C "thing") := ok_init1 D.F rfl sc_errB D.T D.no (by decide) (by decide)
theorem bEB (D : ErrD K mg 3 "BadBoard" "thing") : Binds K D.fd ["self", "thing"] [] := bindsD D.F fun _ _ _ _ _ _ us hl => match us, hl with | [_, _], _ => rfl
/-- one board looked at -/
def spNeed (CB CX : Addr) : Sp := fun vs H Q E => ∃ v, vs = [v] ∧ Kn CB H v ∧ ((kdOf H v ≠ "" ∧ Raised H CX "thing" v E) ∨ (kdOf H v = "" ∧ Q .non H))
theorem sc_need : FnScope ["board"] ["board"] (defScope (topS 28)) := ⟨rfl, rfl, rfl, by decide +kernel, rfl, by decide +kernel, by decide +kernel⟩
theorem bNeed (Z : LawD K mg) : Binds K (Z.d 28) ["board"] [] := (Z.F 28 (by decide)).binds fun _ _ _ _ _ _ us hl => match us, hl with | [_], _ => rfl
theorem ok_need (Z : LawD K mg) {M : MetD K mg} (D : PrD K mg M) : FnOk P w K mg base (L2.CX P w) 3 (Z.f 28) (Z.d 28) ["board"] (spNeed Z.B.C (M.C 0)) := by
  refine Fun.okX (Z.F 28 (by decide)) sc_need (fun vs H Q E h => ?_) (fun cdv A outer s H vs Q E hr h => ⟨_, pss_one (ps_if (pt_not (pt_val (pe_callB call_isi (by rfl) Z.t.isinstance (by decide +kernel) (pa_cons (pv 0) (pa_cons (pe_glob (by rfl) Z.B.g (v := .ref Z.B.C) rfl) pa_nil))))) (pss_one (ps_raise rfl (takes_of rfl rfl rfl rfl) (pmk_oex D.XB.T D.XB.iC D.XB.tI (ok_errB D.XB) (hr.mono (by decide)) (bEB D.XB) .nil pass0 (by rfl) D.XB.g (by exact pa_cons (pv 0) pa_nil)))) pss_nil), ?_⟩)
  · obtain ⟨v, rfl, _⟩ := h
    rfl
  · obtain ⟨v, rfl, kn, h⟩ := h
    rcases h with ⟨nk, hR⟩ | ⟨e, q⟩
    · obtain ⟨t, ty, ki⟩ := kn_kit Z.B.O kn nk
      refine ⟨_, rfl, v, _, t, _, false, rfl, .own _, ty, ki, _, rfl, iteT ⟨_, rfl, by show 1 ≤ 1000; decide, fun a na => ?_⟩⟩
      rw [D.eB]
      exact hR.of na
    · obtain ⟨a, dx, fs, rfl, ha⟩ := kn_own kn e
      exact ⟨_, rfl, .ref a, _, _, _, true, rfl, .own _, .base (.ins ha Z.B.O.cl Z.B.O.ha Z.B.O.hn Z.B.O.htk Z.B.O.hm), by unfold PySem.W.kitOne; simp, _, rfl, iteF q⟩
/-- the stretch, or that they are not beside one another -/
def spNBeside {M : MetD K mg} (CB : Addr) : Sp := fun vs H Q E => ∃ v w, vs = [v, w] ∧ twoB M CB v w H E fun x y pl ts rm pl' ts' rm' =>
  (stretch pl rm pl' rm' = none → ∀ d H', Same H H' → E (.ref (M.C 4)) d H') ∧
  ∀ row mine theirs, stretch pl rm pl' rm' = some (row, mine, theirs) → ∀ u H', Same H H' → (∃ a, u = .ref a ∧ H a = none ∧ H' a = some (.lst (row.map V.str))) → Q u H'
abbrev N_nbs : List Str := ["one", "other", "stretch"]
theorem sc_nbs : FnScope N_nbs ["one", "other"] (defScope (topS 36)) := ⟨rfl, rfl, rfl, by decide +kernel, rfl, by decide +kernel, by decide +kernel⟩
theorem sc_cs : FnScope ["one", "other"] ["one", "other"] (defScope (topS 37)) := ⟨rfl, rfl, rfl, by decide +kernel, rfl, by decide +kernel, by decide +kernel⟩
theorem bNB (Z : LawD K mg) : Binds K (Z.d 36) ["one", "other"] [] := (Z.F 36 (by decide)).binds fun _ _ _ _ _ _ us hl => match us, hl with | [_, _], _ => rfl
theorem bCS (Z : LawD K mg) : Binds K (Z.d 37) ["one", "other"] [] := (Z.F 37 (by decide)).binds fun _ _ _ _ _ _ us hl => match us, hl with | [_, _], _ => rfl
theorem ok_cs (Z : LawD K mg) {M : MetD K mg} (D : PrD K mg M) : FnOk P w K mg base (L2.CX P w) 6 (Z.f 37) (Z.d 37) ["one", "other"] (spAskC M Z.B.C) := by
  have GN : FnOk P w K mg base (L2.CX P w) 3 (Z.f 28) (Z.d 28) ["board"] (spNeed Z.B.C (M.C 0)) := ok_need Z D
  have GS : FnOk P w K mg base CX0 4 (Z.f 35) (Z.d 35) ["one", "other"] (spSic Z.B.C) := ok_sic Z
  refine Fun.okX (Z.F 37 (by decide)) sc_cs (fun vs H Q E h => ?_) (fun cdv A outer s H vs Q E hr h => ⟨_, pss_cons (ps_expr (pe_call GN (hr.mono (by decide)) (by rfl) (Z.g 28 (by decide)) (Z.F 28 (by decide)).kp (bNeed Z) .nil (passes_call (takes_of rfl rfl rfl rfl) (fun _ _ _ _ h => h)) (pa_cons (pv 0) pa_nil)))
  (pss_cons (ps_expr (pe_call GN (hr.mono (by decide)) (by rfl) (Z.g 28 (by decide)) (Z.F 28 (by decide)).kp (bNeed Z) .nil (passes_call (takes_of rfl rfl rfl rfl) (fun _ _ _ _ h => h)) (pa_cons (pv 1) pa_nil)))
  (pss_one (ps_ret (pe_call GS (hr.mono (by decide)) (by rfl) (Z.g 35 (by decide)) (Z.F 35 (by decide)).kp (bSic Z) .nil pass0 (pa_cons (pv 0) (pa_cons (pv 1) pa_nil)))))), ?_⟩)
  · obtain ⟨v, w, rfl, _⟩ := h
    rfl
  · obtain ⟨v, w, rfl, kv, h⟩ := h
    rcases h with ⟨nk, hR⟩ | ⟨x, pl, ts, rm, rfl, bx, l1, few, kw, h⟩
    · exact ⟨_, rfl, v, rfl, kv, .inl ⟨nk, hR⟩⟩
    obtain ⟨dx, _, _, _, _, _, _, hx, _⟩ := id bx
    refine ⟨_, rfl, .ref x, rfl, kv, .inr ⟨by simp only [kdOf, hx], ?_⟩⟩
    rcases h with ⟨nk, hR⟩ | ⟨y, pl', ts', rm', rfl, by_, l2, few', k⟩
    · exact ⟨_, rfl, w, rfl, kw, .inl ⟨nk, hR⟩⟩
    obtain ⟨dy, _, _, _, _, _, _, hy, _⟩ := id by_
    refine ⟨_, rfl, .ref y, rfl, kw, .inr ⟨by simp only [kdOf, hy], ?_⟩⟩
    exact ⟨_, rfl, _, rfl, x, y, pl, ts, rm, pl', ts', rm', rfl, bx, l1, few, by_, l2, few', fun u H' S row => k u H' S row⟩
theorem ok_nbs (Z : LawD K mg) {M : MetD K mg} (D : PrD K mg M) : FnOk P w K mg base (L2.CX P w) 6 (Z.f 36) (Z.d 36) ["one", "other"] (spNBeside (M := M) Z.B.C) := by
  have GN : FnOk P w K mg base (L2.CX P w) 3 (Z.f 28) (Z.d 28) ["board"] (spNeed Z.B.C (M.C 0)) := ok_need Z D
  have GS : FnOk P w K mg base CX0 4 (Z.f 35) (Z.d 35) ["one", "other"] (spSic Z.B.C) := ok_sic Z
  refine Fun.okX (Z.F 36 (by decide)) sc_nbs (fun vs H Q E h => ?_) (fun cdv A outer s H vs Q E hr h => ⟨_, pss_cons (ps_expr (pe_call GN (hr.mono (by decide)) (by rfl) (Z.g 28 (by decide)) (Z.F 28 (by decide)).kp (bNeed Z) .nil (passes_call (takes_of rfl rfl rfl rfl) (fun _ _ _ _ h => h)) (pa_cons (pv 0) pa_nil)))
  (pss_cons (ps_expr (pe_call GN (hr.mono (by decide)) (by rfl) (Z.g 28 (by decide)) (Z.F 28 (by decide)).kp (bNeed Z) .nil (passes_call (takes_of rfl rfl rfl rfl) (fun _ _ _ _ h => h)) (pa_cons (pv 1) pa_nil)))
  (pss_cons (ps_set (i := 2) sc_nbs.nd rfl (Or.inl rfl) (pe_call GS (hr.mono (by decide)) (by rfl) (Z.g 35 (by decide)) (Z.F 35 (by decide)).kp (bSic Z) .nil pass0 (pa_cons (pv 0) (pa_cons (pv 1) pa_nil))))
  (pss_cons (ps_if (pt_cmpR op_isN (pv 2) pe_non (nomark _)) (pss_one (ps_raise rfl (takes_of rfl rfl rfl rfl) (pmk_bare PySem.F.excBase_ValueError D.bx (show mg ("NotBeside" : Str) = _ from M.g 4) D.kp (raises_own D.sb D.ty) (by rfl)))) pss_nil)
  (pss_one (ps_ret (pv 2)))))), ?_⟩)
  · obtain ⟨v, w, rfl, _⟩ := h
    rfl
  · obtain ⟨v, w, rfl, kv, h⟩ := h
    rcases h with ⟨nk, hR⟩ | ⟨x, pl, ts, rm, rfl, bx, l1, few, kw, h⟩
    · exact ⟨_, rfl, v, rfl, kv, .inl ⟨nk, hR⟩⟩
    obtain ⟨dx, _, _, _, _, _, _, hx, _⟩ := id bx
    refine ⟨_, rfl, .ref x, rfl, kv, .inr ⟨by simp only [kdOf, hx], ?_⟩⟩
    rcases h with ⟨nk, hR⟩ | ⟨y, pl', ts', rm', rfl, by_, l2, few', k1, k2⟩
    · exact ⟨_, rfl, w, rfl, kw, .inl ⟨nk, hR⟩⟩
    obtain ⟨dy, _, _, _, _, _, _, hy, _⟩ := id by_
    refine ⟨_, rfl, .ref y, rfl, kw, .inr ⟨by simp only [kdOf, hy], ?_⟩⟩
    refine ⟨_, rfl, _, rfl, x, y, pl, ts, rm, pl', ts', rm', rfl, bx, l1, few, by_, l2, few', fun u H' S row => ?_⟩
    cases est : stretch pl rm pl' rm' with
    | none =>
      rw [est] at row
      cases (show u = .non from row)
      refine ⟨_, rfl, rfl, _, rfl, ?_⟩
      exact iteT (k1 est none H' S)
    | some q =>
      obtain ⟨row_, mine, theirs⟩ := q
      rw [est] at row
      obtain ⟨a, rfl, na, ha⟩ := row
      refine ⟨_, rfl, rfl, _, rfl, iteF ?_⟩
      exact ⟨_, rfl, k2 _ _ _ est (.ref a) H' S ⟨a, rfl, na, ha⟩⟩
end
end E1

set_option Elab.async false
set_option linter.all false
set_option maxRecDepth 100000
set_option maxHeartbeats 8000000
/-! beside.py: the rim behind a stretch, the ties of both, the whole. -/
namespace E1
open PySem PySem.Spec PyProof.Rows L2 G0
theorem last_at {α : Type} {T A C : List α} {a : α} : (T ++ (A ++ [a]) ++ C)[T.length + A.length]? = some a := by
  rw [List.append_assoc, List.getElem?_append_right (by omega), List.getElem?_append_left (by rw [List.length_append, List.length_singleton]; omega), List.getElem?_append_right (by omega)]
  rw [show T.length + A.length - T.length - A.length = 0 by omega]
  rfl
/-- begun behind the last one of those that come first -/
theorem rot_behind {rm A B : List Str} {i e : Nat} {a : Str} (nd : rm.Nodup) (r : rot rm i = A ++ [a] ++ B) (he : rm[e]? = some a) : rot rm (e + 1) = B ++ (A ++ [a]) := by
  have el := (List.getElem?_eq_some_iff.mp he).1
  have key : ∀ T C : List Str, rm = T ++ (A ++ [a]) ++ C → B = C ++ T → rot rm (e + 1) = B ++ (A ++ [a]) := fun T C e1 e2 => by
    have h : rm[T.length + A.length]? = some a := by rw [e1]; exact last_at
    have ee : e = T.length + A.length := (List.getElem?_inj el nd).mp (he.trans h.symm)
    have l : (T ++ (A ++ [a])).length = e + 1 := by
      rw [List.length_append, List.length_append, List.length_singleton, ee]
      omega
    unfold rot
    rw [e1, e2, ← l, List.drop_left', List.take_left']
    · rw [List.append_assoc]
    · rfl
    · rfl
  unfold rot at r
  rcases List.append_eq_append_iff.mp r with ⟨C, h1, h2⟩ | ⟨C, h1, h2⟩
  · -- the first ones go round the end
    rcases List.eq_nil_or_concat C with rfl | ⟨C', c, rfl⟩
    · rw [List.append_nil] at h1
      rw [List.nil_append] at h2
      refine key B [] ?_ (by simp)
      rw [List.append_nil, h1, ← h2, List.take_append_drop]
    · rw [List.concat_eq_append] at h1 h2
      rw [← List.append_assoc] at h1
      have q := List.append_inj' h1 rfl
      have qa : a = c := List.singleton_inj.mp q.2
      subst qa
      have e1 : rm = (C' ++ [a]) ++ B ++ rm.drop i := by rw [← h2, List.take_append_drop]
      have h : rm[C'.length]? = some a := by
        rw [e1, List.append_assoc, List.getElem?_append_left (by simp), List.getElem?_append_right (Nat.le_refl _), Nat.sub_self]
        rfl
      have ee : e = C'.length := (List.getElem?_inj el nd).mp (he.trans h.symm)
      have l : (C' ++ [a]).length = e + 1 := by rw [List.length_append, List.length_singleton, ee]
      unfold rot
      generalize rm.drop i = D at *
      rw [e1, q.1, List.append_assoc (C' ++ [a]), ← l, List.drop_left', List.take_left']
      · rw [List.append_assoc, List.append_assoc]
      · rfl
      · rfl
  · refine key (rm.take i) C ?_ h2
    rw [List.append_assoc, ← h1, List.take_append_drop]
theorem behind_filter {A B : List Str} (nd : (A ++ B).Nodup) : ((B ++ A).filter fun z => !decide (z ∈ A)) = B := by
  have d := (List.nodup_append.mp nd).2.2
  rw [List.filter_append]
  have h1 : (B.filter fun z => !decide (z ∈ A)) = B := List.filter_eq_self.mpr fun z hz => by
    rw [decide_eq_false (fun h => d z h z hz rfl)]
    rfl
  have h2 : (A.filter fun z => !decide (z ∈ A)) = [] := List.filter_eq_nil_iff.mpr fun z hz => by
    rw [decide_eq_true hz]
    decide
  rw [h1, h2, List.append_nil]
abbrev N_rb : List Str := ["rim", "stretch", "at", "pin"]
theorem sc_rb : FnScope N_rb ["rim", "stretch"] (defScope (topS 38)) := ⟨rfl, rfl, rfl, by decide +kernel, rfl, by decide +kernel, by decide +kernel⟩
def spRb : Sp := fun vs H Q _ => ∃ (a b : Addr) (rm row mine : List Str) (i : Nat), vs = [.ref a, .ref b] ∧ H a = some (.lst (rm.map V.str)) ∧ H b = some (.lst (row.map V.str)) ∧ rm.Nodup ∧ rm.length ≤ 1000 ∧ rot rm i = row ++ mine ∧ row ≠ [] ∧
  ∀ r H', H r = none → H' r = some (.lst (mine.map V.str)) → Same H H' → Q (.ref r) H'
theorem sc_at : FnScope ["one", "other"] ["one", "other"] (defScope (topS 39)) := ⟨rfl, rfl, rfl, by decide +kernel, rfl, by decide +kernel, by decide +kernel⟩
def spAt (CB : Addr) : Sp := fun vs H Q _ => ∃ (x y : Addr) (pl : List Str) (ts : List Pr) (rm pl' : List Str) (ts' : List Pr) (rm' : List Str), vs = [.ref x, .ref y] ∧ BoardAt (fun _ => True) CB H x pl ts rm ∧ BoardAt (fun _ => True) CB H y pl' ts' rm' ∧ ts.length ≤ 31 ∧ ts'.length ≤ 31 ∧
  ∀ r ys qs H', H r = none → H' r = some (.lst ys) → PrsAt H' ys (sortPr qs) → qs.Nodup → (∀ z, z ∈ qs ↔ z ∈ ts ++ ts') → Same H H' → Q (.ref r) H'
section
variable {P : Program} {w : World} {K : PySem.W.Frag} {mg : Str → Option Value} {base : Heap}
theorem bRb (Z : LawD K mg) : Binds K (Z.d 38) ["rim", "stretch"] [] := (Z.F 38 (by decide)).binds fun _ _ _ _ _ _ us hl => match us, hl with | [_, _], _ => rfl
theorem bAt (Z : LawD K mg) : Binds K (Z.d 39) ["one", "other"] [] := (Z.F 39 (by decide)).binds fun _ _ _ _ _ _ us hl => match us, hl with | [_, _], _ => rfl
theorem ok_rb (Z : LawD K mg) : FnOk P w K mg base CX0 1 (Z.f 38) (Z.d 38) ["rim", "stretch"] spRb := by
  refine Fun.ok (Z.F 38 (by decide)) sc_rb (fun vs H Q E h => ?_) (fun cdv A outer s H vs Q E hr h => ⟨_, pss_cons (ps_set (i := 2) sc_rb.nd rfl (Or.inl rfl) (pe_op op_add (pe_bm PySem.F.plainAttrs_list PySem.F.slot_list_index PySem.F.type_list_index mt_index (pv 0) (pa_cons (pe_ix ix_list (pv 1) (pe_un un_neg pe_int) (fun _ _ => rfl)) pa_nil)) pe_int))
  (pss_one (ps_ret (pe_lc (own := [("pin", 3)]) (tt := tTest (tOp (rIn K true) (tVar 3) (tVar 1))) (te := tVar 3) rfl sc_rb.nd (pi_list (pe_op op_cat (pe_slice sl_list (pv 0) (po_some (pv 2)) po_none) (pe_slice sl_list (pv 0) po_none (po_some (pv 2))))) (blkOk_by (own := [("pin", 3)]) (N := N_rb) (sc := defScope (topS 38)) (by decide +kernel)) (fun _ _ _ _ _ => (pg_name (i := 3) sc_rb.nd rfl (Or.inl rfl))) (fun _ _ _ _ _ => (pts_one (pt_cmpR op_notIn_seq (pv 3) (pv 1) (by rfl)))) (fun _ _ _ _ _ => (pv 3))))), ?_⟩)
  · obtain ⟨a, b, rm, row, mine, i, rfl, _⟩ := h
    rfl
  · obtain ⟨a, b, rm, row, mine, i, rfl, ha, hb, nd, lr, er, nr, k⟩ := h
    have sz : 5000 < sizeLine := by decide
    obtain ⟨row', z, rfl⟩ : ∃ row' z, row = row' ++ [z] := by
      rcases List.eq_nil_or_concat row with e | ⟨l, z, e⟩
      · exact absurd e nr
      · exact ⟨l, z, by rw [e, List.concat_eq_append]⟩
    have zin : z ∈ rm := (rot_perm rm i).mem_iff.mp (by rw [er]; simp)
    obtain ⟨e, he⟩ := List.getElem?_of_mem zin
    obtain ⟨v, ev, evr⟩ := atI_pred (xs := (row' ++ [z]).map V.str) (i := 0) (by rw [List.length_map, List.length_append, List.length_singleton]; omega)
    have evz : v = .str z := by
      rw [if_pos rfl, List.length_map, List.length_append, List.length_singleton, Nat.add_sub_cancel, List.getElem?_map, List.getElem?_append_right (Nat.le_refl _), Nat.sub_self] at evr
      exact (Option.some.inj evr).symm
    subst evz
    have r2 := rot_behind nd er he
    refine ⟨_, rfl, .inl ⟨rfl, _, SqL.of ha⟩, _, rfl, 1, rfl, b, _, _, _, rfl, rfl, SqL.of hb, ev, a, _, _, e, _, rfl, rfl, SqL.of ha, rfl, flat_strs _, ix_at he, ix_eq z, ix_ahead nd he, _, _, rfl, rfl, ?_⟩
    refine ⟨_, rfl, _, rfl, ((e + 1 : Nat) : Int), rfl, a, _, rfl, SqL.of ha, fun s3 n3 => ?_⟩
    rw [cut_from, ← List.map_drop]
    have T3 := new_same (o := .lst ((rm.drop (e + 1)).map V.str)) n3
    refine ⟨_, rfl, _, rfl, ((e + 1 : Nat) : Int), rfl, a, _, rfl, SqL.of (T3 _ _ ha), fun s4 n4 => ?_⟩
    rw [cut_to, ← List.map_take]
    have T4 := T3.trans (new_same (o := .lst ((rm.take (e + 1)).map V.str)) n4)
    refine ⟨s3, s4, _, _, rfl, rfl, new_same n4 _ _ upd_same, upd_same, ?_, fun s5 n5 => ?_⟩
    · rw [List.length_map, List.length_map, List.length_drop, List.length_take]
      omega
    have T5 := T4.trans (new_same (o := .lst ((rm.drop (e + 1)).map V.str ++ (rm.take (e + 1)).map V.str)) n5)
    have h5 : (upd (upd (upd H s3 (.lst ((rm.drop (e + 1)).map V.str))) s4 (.lst ((rm.take (e + 1)).map V.str))) s5 (.lst ((rm.drop (e + 1)).map V.str ++ (rm.take (e + 1)).map V.str))) s5 = some (.lst ((rot rm (e + 1)).map V.str)) := by
      rw [upd_same]
      unfold rot
      rw [List.map_append]
    generalize upd (upd (upd H s3 (.lst ((rm.drop (e + 1)).map V.str))) s4 (.lst ((rm.take (e + 1)).map V.str))) s5 (.lst ((rm.drop (e + 1)).map V.str ++ (rm.take (e + 1)).map V.str)) = H5 at T5 h5 ⊢
    have lrot : (rot rm (e + 1)).length = rm.length := rot_len rm (e + 1)
    refine ⟨s5, rfl, ⟨_, SqL.of h5⟩, fun D hD => ?_⟩
    refine lc_list (xs := (rot rm (e + 1)).map V.str) (fun i H' => H' D = some (.lst ((((rot rm (e + 1)).take i).filter fun y => !decide (y ∈ row' ++ [z])).map V.str)) ∧ Same H5 H') ⟨upd_same, new_same hD⟩ (fun i H' _ ⟨_, S⟩ => SqL.of (S _ _ h5)) ?_ ?_
    · rintro i xx H' hxx ⟨acc, S⟩
      rw [List.getElem?_map] at hxx
      cases ez : (rot rm (e + 1))[i]? with
      | none => rw [ez] at hxx; cases hxx
      | some y =>
      rw [ez] at hxx
      cases hxx
      refine ⟨rfl, _, rfl, _, rfl, b, _, rfl, .inl (SqL.of (S _ _ (T5 _ _ hb))), rfl, flat_strs _, _, rfl, ?_⟩
      rw [show inV (.str y) ((row' ++ [z]).map V.str) = decide (y ∈ row' ++ [z]) from inV_strs y _]
      rw [take_snoc ez, List.filter_append]
      have lf := List.length_filter_le (fun y => !decide (y ∈ row' ++ [z])) ((rot rm (e + 1)).take i)
      rw [List.length_take] at lf
      refine ite2 (fun c => ?_) (fun c => ?_)
      · have c' : (!decide (y ∈ row' ++ [z])) = true := c
        refine ⟨_, rfl, _, acc, ?_, ?_, ?_⟩
        · rw [List.length_map]
          omega
        · rw [upd_same, show List.filter (fun y => !decide (y ∈ row' ++ [z])) [y] = [y] from List.filter_cons_of_pos (p := fun y => !decide (y ∈ row' ++ [z])) (l := []) c', List.map_append]
          rfl
        · exact fun b o e => by
            rw [upd_ne (ne_of_none e hD)]
            exact S _ _ e
      · have c' : ¬ (!decide (y ∈ row' ++ [z])) = true := c
        rw [show List.filter (fun y => !decide (y ∈ row' ++ [z])) [y] = [] from List.filter_cons_of_neg (p := fun y => !decide (y ∈ row' ++ [z])) (l := []) c', List.append_nil]
        exact ⟨acc, S⟩
    rintro H6 ⟨h6, S6⟩
    rw [List.length_map, List.take_length, r2, behind_filter (by rw [← er]; exact (rot_perm rm i).nodup_iff.mpr nd)] at h6
    exact k D H6 (T5.free hD) h6 (T5.trans S6)
theorem ok_at (Z : LawD K mg) : FnOk P w K mg base CX0 2 (Z.f 39) (Z.d 39) ["one", "other"] (spAt Z.B.C) := by
  have GB3 : FnOk P w K mg base CX0 1 (Z.B.f 3) (Z.B.d 3) ["self"] (spTies Z.B.C) := ok_ties Z.B Z.t
  refine Fun.ok (Z.F 39 (by decide)) sc_at (fun vs H Q E h => ?_) (fun cdv A outer s H vs Q E hr h => ?_)
  · obtain ⟨x, y, pl, ts, rm, pl', ts', rm', rfl, _⟩ := h
    rfl
  have hu := hr.units
  refine ⟨_, pss_one (ps_ret (G14.pe_sortSet rfl (show (cxOf CX0 P w K mg base _ (tName 39) (defScope (topS 39)) (Z.f 39) cdv A outer s H E).nox.A.units + 4 < cLine from Nat.lt_of_le_of_lt (Nat.add_le_add_left (by decide : 4 ≤ 64) _) hu) (by rfl) Z.t.sorted (by rfl) (Z.free "set" (by decide)) (pe_op op_cat (pe_meth0 (pv 0) Z.B.O.cl Z.B.M3 GB3 (hr.mono (by decide)) (b_m3 Z.B) .nil pass0) (pe_meth0 (pv 1) Z.B.O.cl Z.B.M3 GB3 (hr.mono (by decide)) (b_m3 Z.B) .nil pass0)))), ?_⟩
  obtain ⟨x, y, pl, ts, rm, pl', ts', rm', rfl, bx, by_, l1, l2, k⟩ := h
  have sz : 5000 < sizeLine := by decide
  obtain ⟨dx, _, _, _, _, _, _, hx, _⟩ := id bx
  obtain ⟨dy, _, _, _, _, _, _, hy, _⟩ := id by_
  refine ⟨_, rfl, x, dx, _, rfl, hx, rfl, x, pl, ts, rm, rfl, bx, fun p tv np pt => ?_⟩
  have T1 := new_same (o := .lst tv) np
  refine ⟨_, rfl, y, dy, _, rfl, T1 _ _ hy, rfl, y, pl', ts', rm', rfl, by_.same T1, fun q uv nq qt => ?_⟩
  have T2 := T1.trans (new_same (o := .lst uv) nq)
  refine ⟨p, q, _, _, rfl, rfl, new_same nq _ _ upd_same, upd_same, ?_, fun r nr => ?_⟩
  · rw [pt.1, qt.1]
    omega
  have T3 := T2.trans (new_same (o := .lst (tv ++ uv)) nr)
  have h3 := upd_same (H := upd (upd H p (.lst tv)) q (.lst uv)) (a := r) (o := .lst (tv ++ uv))
  have hT3p : (upd (upd (upd H p (.lst tv)) q (.lst uv)) r (.lst (tv ++ uv))) p = some (.lst tv) := new_same nr _ _ (new_same nq _ _ upd_same)
  generalize upd (upd (upd H p (.lst tv)) q (.lst uv)) r (.lst (tv ++ uv)) = H3 at T3 h3 hT3p ⊢
  have P3 : PrsAt H3 (tv ++ uv) (ts ++ ts') := prs_app (pt.mono fun t xs h => T3 _ _ h) (qt.mono fun t xs h => by
    have U : Same (upd H p (.lst tv)) H3 := fun b o e => by
      by_cases hb : b = p
      · rw [hb, upd_same] at e
        rw [hb, ← e]
        exact hT3p
      · rw [upd_ne hb] at e
        exact T3 _ _ e
    exact U _ _ h)
  refine ⟨r, tv ++ uv, ts ++ ts', rfl, SqL.of h3, P3, by rw [List.length_append]; omega, fun d ys qs nd_ sub nd mem pys => ?_⟩
  have S4 := new_same (o := .lst ys) nd_
  exact k d ys qs _ (T3.free nd_) upd_same (pys.mono fun t xs h => S4 _ _ h) nd mem (T3.trans S4)
abbrev N_bs : List Str := ["one", "other", "stretch", "places", "place", "rim"]
theorem sc_bs : FnScope N_bs ["one", "other"] (defScope (topS 40)) := ⟨rfl, rfl, rfl, by decide +kernel, rfl, by decide +kernel, by decide +kernel⟩
theorem bBS (Z : LawD K mg) : Binds K (Z.d 40) ["one", "other"] [] := (Z.F 40 (by decide)).binds fun _ _ _ _ _ _ us hl => match us, hl with | [_, _], _ => rfl
theorem ok_bs (Z : LawD K mg) {M : MetD K mg} (D : PrD K mg M) : FnOk P w K mg base (L2.CX P w) 7 (Z.f 40) (Z.d 40) ["one", "other"] (spAskB M Z.B.C) := by
  have GN : FnOk P w K mg base (L2.CX P w) 6 (Z.f 36) (Z.d 36) ["one", "other"] (spNBeside (M := M) Z.B.C) := ok_nbs Z D
  have GR : FnOk P w K mg base CX0 1 (Z.f 38) (Z.d 38) ["rim", "stretch"] spRb := ok_rb Z
  have GA : FnOk P w K mg base CX0 2 (Z.f 39) (Z.d 39) ["one", "other"] (spAt Z.B.C) := ok_at Z
  have GB2 : FnOk P w K mg base CX0 1 (Z.B.f 2) (Z.B.d 2) ["self"] (spPlaces Z.B.C) := ok_places Z.B Z.t
  have GB4 : FnOk P w K mg base CX0 1 (Z.B.f 4) (Z.B.d 4) ["self"] (spRim Z.B.C) := ok_rim Z.B Z.t
  have GI : FnOk P w K mg base (L2.CX P w) 4 (Z.B.f 0) (Z.B.d 0) ["self", "places", "ties", "rim"] (spInit K Z.B) := ok_init Z.B Z.n Z.t
  refine Fun.okX (Z.F 40 (by decide)) sc_bs (fun vs H Q E h => ?_) (fun cdv A outer s H vs Q E hr h => ⟨_, pss_cons (ps_set (i := 2) sc_bs.nd rfl (Or.inr rfl) (pe_call GN (hr.mono (by decide)) (by rfl) (Z.g 36 (by decide)) (Z.F 36 (by decide)).kp (bNB Z) .nil (passes_call (takes_of rfl rfl rfl rfl) (fun _ _ _ _ h => h)) (pa_cons (pv 0) (pa_cons (pv 1) pa_nil))))
  (pss_cons (ps_setLc (i := 3) (own := [("place", 4)]) (tt := tTest (tOp (rIn K true) (tVar 4) (tVar 2))) (te := tVar 4) rfl sc_bs.nd rfl rfl (by rfl) (pi_list (pe_meth0 (pv 1) Z.B.O.cl Z.B.M2 GB2 (hr.mono (by decide)) (b_m2 Z.B) .nil pass0)) (blkOk_by (own := [("place", 4)]) (N := N_bs) (sc := defScope (topS 40)) (by decide +kernel)) (fun _ _ _ _ _ => (pg_name (i := 4) sc_bs.nd rfl (Or.inl rfl))) (fun _ _ _ _ _ => (pts_one (pt_cmpR op_notIn_seq (pv 4) (pv 2) (by rfl)))) (fun _ _ _ _ _ => (pv 4)))
  (pss_cons (ps_set (i := 5) sc_bs.nd rfl (Or.inl rfl) (pe_op op_cat (pe_call GR (hr.mono (by decide)) (by rfl) (Z.g 38 (by decide)) (Z.F 38 (by decide)).kp (bRb Z) .nil pass0 (pa_cons (pe_meth0 (pv 0) Z.B.O.cl Z.B.M4 GB4 (hr.mono (by decide)) (b_m4 Z.B) .nil pass0) (pa_cons (pv 2) pa_nil))) (pe_call GR (hr.mono (by decide)) (by rfl) (Z.g 38 (by decide)) (Z.F 38 (by decide)).kp (bRb Z) .nil pass0 (pa_cons (pe_meth0 (pv 1) Z.B.O.cl Z.B.M4 GB4 (hr.mono (by decide)) (b_m4 Z.B) .nil pass0) (pa_cons (pe_revL (pv 2)) pa_nil)))))
  (pss_one (ps_ret (pe_make Z.B.M0 GI (hr.mono (by decide)) (by rfl) Z.B.g (bInit Z.B) .nil passL (pa_cons (pe_op op_cat (pe_meth0 (pv 0) Z.B.O.cl Z.B.M2 GB2 (hr.mono (by decide)) (b_m2 Z.B) .nil pass0) (pv 3)) (pa_cons (pe_call GA (hr.mono (by decide)) (by rfl) (Z.g 39 (by decide)) (Z.F 39 (by decide)).kp (bAt Z) .nil pass0 (pa_cons (pv 0) (pa_cons (pv 1) pa_nil))) (pa_cons (pv 5) pa_nil)))))))), ?_⟩)
  · obtain ⟨v, w, rfl, _⟩ := h
    rfl
  obtain ⟨v, w, rfl, kv, h⟩ := h
  refine ⟨_, rfl, _, rfl, v, w, rfl, kv, ?_⟩
  rcases h with ⟨nk, hR⟩ | ⟨x, pl, ts, rm, rfl, bx, l1, few, kw, h⟩
  · exact .inl ⟨nk, hR⟩
  refine .inr ⟨x, pl, ts, rm, rfl, bx, l1, few, kw, ?_⟩
  rcases h with ⟨nk, hR⟩ | ⟨y, pl', ts', rm', rfl, by_, l2, few', k1, k2⟩
  · exact .inl ⟨nk, hR⟩
  refine .inr ⟨y, pl', ts', rm', rfl, by_, l2, few', k1, fun row mine theirs est u H1 S1 hu => ?_⟩
  obtain ⟨a, rfl, na, ha⟩ := hu
  have sz : 5000 < sizeLine := by decide
  obtain ⟨dx, _, _, _, _, _, _, hx, _⟩ := id bx
  obtain ⟨dy, _, _, _, _, _, _, hy, _⟩ := id by_
  obtain ⟨i, j, q1, q2, rp, cne⟩ := stretch_some est
  have rne : row ≠ [] := fun z => by
    rw [z] at rp
    exact cne rp.symm.eq_nil
  have lrm : rm.length ≤ 44 := Nat.le_trans (nd_len few.2.2.1 bx.ok.pin) l1
  have lrm' : rm'.length ≤ 44 := Nat.le_trans (nd_len few'.2.2.1 by_.ok.pin) l2
  have lm := congrArg List.length q1
  have lm' := congrArg List.length q2
  rw [rot_len, List.length_append] at lm lm'
  refine ⟨_, rfl, y, dy, _, rfl, S1 _ _ hy, rfl, y, pl', ts', rm', rfl, by_.same S1, fun u2 nu2 => ⟨u2, rfl, ⟨_, SqL.of upd_same⟩, fun Dp hD => ?_⟩⟩
  have Su := new_same (o := .lst (pl'.map V.str)) nu2
  refine lc_list (xs := pl'.map V.str) (fun i H' => H' Dp = some (.lst (((pl'.take i).filter fun z => !decide (z ∈ row)).map V.str)) ∧ Same (upd H1 u2 (.lst (pl'.map V.str))) H') ⟨upd_same, new_same hD⟩ (fun i H' _ ⟨_, S⟩ => SqL.of (S _ _ upd_same)) ?_ ?_
  · rintro i xx H' hxx ⟨acc, S⟩
    rw [List.getElem?_map] at hxx
    cases ez : pl'[i]? with
    | none => rw [ez] at hxx; cases hxx
    | some z =>
    rw [ez] at hxx
    cases hxx
    refine ⟨rfl, _, rfl, _, rfl, a, _, rfl, .inl (SqL.of (S _ _ (Su _ _ ha))), rfl, flat_strs _, _, rfl, ?_⟩
    rw [show inV (.str z) (row.map V.str) = decide (z ∈ row) from inV_strs z _]
    rw [take_snoc ez, List.filter_append]
    have lf := List.length_filter_le (fun z => !decide (z ∈ row)) (pl'.take i)
    rw [List.length_take] at lf
    refine ite2 (fun c => ?_) (fun c => ?_)
    · have c' : (!decide (z ∈ row)) = true := c
      refine ⟨_, rfl, _, acc, ?_, ?_, ?_⟩
      · rw [List.length_map]
        omega
      · rw [upd_same, show List.filter (fun z => !decide (z ∈ row)) [z] = [z] from List.filter_cons_of_pos (p := fun z => !decide (z ∈ row)) (l := []) c', List.map_append]
        rfl
      · exact fun b o e => by
          rw [upd_ne (ne_of_none e hD)]
          exact S _ _ e
    · have c' : ¬ (!decide (z ∈ row)) = true := c
      rw [show List.filter (fun z => !decide (z ∈ row)) [z] = [] from List.filter_cons_of_neg (p := fun z => !decide (z ∈ row)) (l := []) c', List.append_nil]
      exact ⟨acc, S⟩
  rintro H2 ⟨hP, S2⟩
  rw [List.length_map, List.take_length] at hP
  have T2 := Su.trans S2
  have U2 := S1.trans T2
  have ha2 := T2 _ _ ha
  -- both rims
  refine ⟨_, rfl, x, dx, _, rfl, U2 _ _ hx, rfl, x, pl, ts, rm, rfl, bx.same U2, fun u3 nu3 => ⟨_, rfl, ?_⟩⟩
  have T3 := new_same (o := .lst (rm.map V.str)) nu3
  refine ⟨u3, a, rm, row, mine, i, rfl, upd_same, T3 _ _ ha2, few.2.2.1, by omega, q1, rne, fun r4 H4 nr4 hr4 S4 => ?_⟩
  have T4 := T3.trans S4
  have U4 := U2.trans T4
  refine ⟨_, rfl, y, dy, _, rfl, U4 _ _ hy, rfl, y, pl', ts', rm', rfl, by_.same U4, fun u5 nu5 => ⟨_, rfl, a, _, rfl, SqL.of (new_same nu5 _ _ (T4 _ _ ha2)), fun u6 nu6 => ?_⟩⟩
  rw [← List.map_reverse]
  have T5 := (new_same (o := .lst (rm'.map V.str)) nu5).trans (new_same (o := .lst (row.reverse.map V.str)) nu6)
  have h5 := new_same (o := .lst (row.reverse.map V.str)) nu6 _ _ (upd_same (H := H4) (a := u5) (o := .lst (rm'.map V.str)))
  refine ⟨u5, u6, rm', row.reverse, theirs, j, rfl, h5, upd_same, few'.2.2.1, by omega, q2, (fun z => rne (List.reverse_eq_nil_iff.mp z)), fun r7 H7 nr7 hr7 S7 => ?_⟩
  have T7 := T5.trans S7
  have hr47 := T7 _ _ hr4
  refine ⟨r4, r7, _, _, rfl, rfl, hr47, hr7, ?_, fun r8 nr8 => ?_⟩
  · rw [List.length_map, List.length_map]
    rw [List.length_reverse] at lm'
    omega
  rw [← List.map_append]
  have T8 := T7.trans (new_same (o := .lst ((mine ++ theirs).map V.str)) nr8)
  have U8 := U4.trans T8
  have h8 := upd_same (H := H7) (a := r8) (o := .lst ((mine ++ theirs).map V.str))
  have hP8 := T8 _ _ (T4 _ _ hP)
  generalize upd H7 r8 (.lst ((mine ++ theirs).map V.str)) = H8 at T8 U8 h8 hP8 ⊢
  -- the places
  refine ⟨_, rfl, x, dx, _, rfl, U8 _ _ hx, rfl, x, pl, ts, rm, rfl, bx.same U8, fun u9 nu9 => ⟨_, rfl, ?_⟩⟩
  have T9 := new_same (o := .lst (pl.map V.str)) nu9
  have lf := List.length_filter_le (fun z => !decide (z ∈ row)) pl'
  refine ⟨u9, Dp, _, _, rfl, rfl, upd_same, T9 _ _ hP8, by rw [List.length_map, List.length_map]; omega, fun r10 nr10 => ?_⟩
  rw [← List.map_append]
  have T10 := T9.trans (new_same (o := .lst ((pl ++ pl'.filter fun z => !decide (z ∈ row)).map V.str)) nr10)
  have h10 := upd_same (H := upd H8 u9 (.lst (pl.map V.str))) (a := r10) (o := .lst ((pl ++ pl'.filter fun z => !decide (z ∈ row)).map V.str))
  generalize upd (upd H8 u9 (.lst (pl.map V.str))) r10 (.lst ((pl ++ pl'.filter fun z => !decide (z ∈ row)).map V.str)) = H10 at T10 h10 ⊢
  have U10 := U8.trans T10
  refine ⟨_, rfl, _, rfl, x, y, pl, ts, rm, pl', ts', rm', rfl, bx.same U10, by_.same U10, few.1, few'.1, fun r11 ys qs H11 nr11 hr11 py qnd qmem S11 => ?_⟩
  have U11 := U10.trans S11
  refine ⟨_, rfl, ?_⟩
  intro xb dxb nx ndx ne
  have memC : ∀ z, z ∈ row ↔ z ∈ pl ∧ z ∈ pl' := fun z => by
    rw [rp.mem_iff]
    refine ⟨common_mem, fun h => ?_⟩
    unfold common
    exact List.mem_filter.mpr ⟨sortS_mem.mpr h.1, decide_eq_true h.2⟩
  have fm : ∀ z, z ∈ (pl'.filter fun z => !decide (z ∈ row)) ↔ z ∈ pl' ∧ z ∉ row := fun z => by
    rw [List.mem_filter]
    simp
  have dis : ∀ z ∈ pl, ∀ z' ∈ (pl'.filter fun z => !decide (z ∈ row)), z ≠ z' := fun z hz z' hz' e => by
    rw [← e] at hz'
    obtain ⟨m1, m2⟩ := (fm z).mp hz'
    exact m2 ((memC z).mpr ⟨hz, m1⟩)
  have ndp : (pl ++ pl'.filter fun z => !decide (z ∈ row)).Nodup := List.nodup_append.mpr ⟨few.2.1, few'.2.1.sublist List.filter_sublist, dis⟩
  have inps : ∀ z, z ∈ pl' → z ∈ pl ++ pl'.filter fun z => !decide (z ∈ row) := fun z hz => by
    by_cases c : z ∈ row
    · exact List.mem_append_left _ ((memC z).mp c).1
    · exact List.mem_append_right _ ((fm z).mpr ⟨hz, c⟩)
  have nr1 : (row ++ mine).Nodup := by rw [← q1]; exact (rot_perm rm i).nodup_iff.mpr few.2.2.1
  have nr2 : (row.reverse ++ theirs).Nodup := by rw [← q2]; exact (rot_perm rm' j).nodup_iff.mpr few'.2.2.1
  have mine_in : ∀ z ∈ mine, z ∈ pl ∧ z ∉ row := fun z hz => ⟨bx.ok.pin z ((rot_perm rm i).mem_iff.mp (by rw [q1]; exact List.mem_append_right _ hz)), fun h => (List.nodup_append.mp nr1).2.2 z h z hz rfl⟩
  have theirs_in : ∀ z ∈ theirs, z ∈ pl' ∧ z ∉ row := fun z hz => ⟨by_.ok.pin z ((rot_perm rm' j).mem_iff.mp (by rw [q2]; exact List.mem_append_right _ hz)), fun h => (List.nodup_append.mp nr2).2.2 z (List.mem_reverse.mpr h) z hz rfl⟩
  have rnd : (mine ++ theirs).Nodup := List.nodup_append.mpr ⟨(List.nodup_append.mp nr1).2.1, (List.nodup_append.mp nr2).2.1, fun z hz z' hz' e => by
    rw [← e] at hz'
    exact (mine_in z hz).2 ((memC z).mpr ⟨(mine_in z hz).1, (theirs_in z hz').1⟩)⟩
  have rin : ∀ z ∈ mine ++ theirs, z ∈ pl ++ pl'.filter fun z => !decide (z ∈ row) := fun z hz => by
    rcases List.mem_append.mp hz with h | h
    · exact List.mem_append_left _ (mine_in z h).1
    · exact inps z (theirs_in z h).1
  have tok : TsOk (pl ++ pl'.filter fun z => !decide (z ∈ row)) (sortPr qs) := ⟨(sortPr_perm qs).nodup_iff.mpr qnd, fun p hp => by
    have hp := (qmem p).mp ((sortPr_perm qs).mem_iff.mp hp)
    rcases List.mem_append.mp hp with h | h
    · have o := few.2.2.2.ok p h
      exact ⟨List.mem_append_left _ o.1, List.mem_append_left _ o.2.1, o.2.2⟩
    · have o := few'.2.2.2.ok p h
      exact ⟨inps _ o.1, inps _ o.2.1, o.2.2⟩⟩
  have nm : ∀ z ∈ pl ++ pl'.filter fun z => !decide (z ∈ row), nameB z = true := fun z hz => by
    rcases List.mem_append.mp hz with h | h
    · exact bx.ok.nm z h
    · exact by_.ok.nm z ((fm z).mp h).1
  have lq : (sortPr qs).length ≤ 1000 := by
    rw [(sortPr_perm qs).length_eq]
    have := qnd.length_le_of_subset fun z hz => (qmem z).mp hz
    rw [List.length_append] at this
    have := few.1
    have := few'.1
    omega
  have eP : sortS (pl ++ pl'.filter fun z => !decide (z ∈ row)) = wholeP pl pl' := by
    unfold wholeP
    refine sortS_of_perm ((List.perm_ext_iff_of_nodup (once_nd _) ndp).mpr fun z => ?_).symm
    rw [once_mem, List.mem_append]
    constructor
    · rintro (h | h)
      · exact List.mem_append_left _ h
      · exact inps z h
    · intro h
      rcases List.mem_append.mp h with h | h
      · exact .inl h
      · exact .inr ((fm z).mp h).1
  have eT : sortPr (sortPr qs) = sortPr (once (ts ++ ts')) := by
    refine sortPr_of_perm ((List.perm_ext_iff_of_nodup (once_nd _) ((sortPr_perm qs).nodup_iff.mpr qnd)).mpr fun z => ?_).symm
    rw [once_mem, (sortPr_perm qs).mem_iff, qmem]
  refine init_mk (N := fun _ => True) (N2 := fun _ => True) (N3 := fun _ => True) (HP.lst (S11 _ _ h10) trivial) (HT.lst hr11 py (fun q hq => (tok.ok q hq).2.2) trivial (fun _ _ => trivial)) (HP.lst (S11 _ _ (T10 _ _ h8)) trivial) ndp nm (by rw [List.length_append]; omega) tok lq rnd rin nx ndx ne fun Hm hB Sm => ⟨rfl, k2 row mine theirs est xb Hm ?_ (U11.trans Sm)⟩
  rw [← eP, ← eT]
  exact hB.weak fun c hc => U11.free hc
end
end E1

set_option Elab.async false
set_option linter.all false
set_option maxRecDepth 100000
set_option maxHeartbeats 4000000
/-! repr of data looks at what is being shown around it: defs whose promise holds where nothing is. -/
namespace G0
open PySem PySem.Spec PyProof.Rows L2
structure FnOkG (P : Program) (w : World) (K : PySem.W.Frag) (mg : Str → Option Value) (base : Heap) (k : Nat) (f : Addr) (fd : FuncData) (ps : List Str) (sp : Sp) : Prop where
  len : ∀ vs H Q E, sp vs H Q E → vs.length = ps.length
  go : ∀ (A : Around) (outer : List Env) (s : Shared) (H : Hp) (args : Args) (us : List Value) (vs : List V) (Q : VK) (E : XK), A.guards = some [] → Room k A → Env0 P w K mg base A outer s H → BindsTo s fd args (ps.zip us) → Vals vs us → sp vs H Q E →
    codeAny (model P w) A (.call (.ref f) args) (CR CX0 outer P w H s Q E) s
theorem deeper_g {A : Around} {env : Env} (h : A.guards = some []) : (A.deeper env).guards = some [] := by
  obtain ⟨hd, d, fr, gs, u⟩ := A
  exact h
section
variable {P : Program} {w : World} {K : PySem.W.Frag} {mg : Str → Option Value} {base : Heap} {k : Nat} {f : Addr} {name qual : Str} {params : Arguments} {body : List Stmt} {scope : Scope} {dV kV doc pm cdv ct oc : Value} {an od : Option Addr} {osl : Array (Option Value)} {N ps : List Str} {sp : Sp}
theorem fnG_of (lk : K.lookup f = some ⟨oc, od, .func (PySem.W.fnOf name qual params body scope dV kV doc pm an cdv ct), osl⟩) (hcd : PySem.W.codeIn K cdv qual = true) (S : FnScope N ps scope) (len : ∀ vs H Q E, sp vs H Q E → vs.length = ps.length)
    (hb : ∀ (A : Around) (outer : List Env) (s : Shared) (H : Hp) (vs : List V) (Q : VK) (E : XK), A.guards = some [] → Room k (A.deeper (envOfC qual scope s.heap.objs.size f cdv)) → sp vs H Q E →
      ∃ t, PSs (cxOf CX0 P w K mg base N qual scope f cdv A outer s H E) body t ∧ t { nx := fun _ H' => Q .non H', rt := Q } (start N vs) H) :
    FnOkG P w K mg base (k + 1) f (PySem.W.fnOf name qual params body scope dV kV doc pm an cdv ct) ps sp where
  len := len
  go := fun A outer s H args us vs Q E hg hr e0 bt r hsp => by
    have inK : K.In s.heap := e0.mod.kin.keeps fun b o e => (e0.bs b o e).1
    have kinds : ∀ y ∈ ps.zip us, scope.names.lookup y.1 = some .local ∨ (scope.names.lookup y.1 = some .cell ∧ ((cellsFrom (s.heap.objs.size + 1) scope.names []).lookup y.1).isSome = true) := by
      rintro ⟨n, v⟩ hy
      exact (S.par n (List.of_mem_zip hy).1).imp id fun c => ⟨c, PySem.W.cellsFrom_some _ _ _ (.inl c)⟩
    refine codeAny_call_function hr.depth (inK _ _ lk) rfl S.co S.gen rfl (PySem.W.codeRec_of inK hcd) (bt _ _ _ _ (wpAny_newFunctionEnv_cells S.kind kinds ?_))
    rintro env rfl s1 x
    obtain ⟨t, ht, hq⟩ := hb A outer s H vs Q E hg (hr.deeper _) hsp
    have I : Inv (cxOf CX0 P w K mg base N qual scope f cdv A outer s H E) [] (start N vs) H s1 := inv_start S hr.hd e0 (len _ _ _ _ hsp) r x
    refine ⟨(e0.mod.nolimit.keeps fun b o e => (e0.bs b o e).1).keeps x.toInCall.keep, codeAny_func (wpAny_mono (ht.run [] s1 (start N vs) H _ I hq) (fun fl s' hs => ?_) fun _ _ hs => hs)⟩
    rcases fl with _ | _ | _ | u
    all_goals first
      | (obtain ⟨v, σ', H', J, rv, q⟩ := hs; exact ⟨v, H', J.os, J.bare, J.base, J.hok, rv, q⟩)
      | (obtain ⟨σ', H', J, q⟩ := hs; exact ⟨.non, H', J.os, J.bare, J.base, J.hok, rfl, q⟩)
      | (obtain ⟨_, _, _, q⟩ := hs; exact False.elim q)
end
section
variable {X : Cx} {k : Nat} {f : Addr} {fd : FuncData} {ps : List Str} {sp : Sp} {x : Str} {p pos : Pos} {e : Expr} {es : List Expr} {t : TA}
theorem pe_callG (F : FnOkG X.prog X.w X.K X.mg X.base k f fd ps sp) (hgd : X.A.guards = some []) (hr : Room k X.A) (hg : Gl X x) (hm : X.mg x = some (.ref f)) (hk : PySem.W.keepIn X.K (.ref f) = true) (hb : Binds X.K fd ps [])
    (ha : PA X (e :: es) t) (hdb : (x == ("__debug__" : Str)) = false := by decide) (he : starEach (e :: es) X.env = (false, eval e X.env) :: starEach es X.env := by rfl) (hpl : (backTo pos (starEach es X.env)).any (·.1) = false := by rfl) :
    PE X (.Call (.Name x p) (e :: es) [] pos) (tCall sp [] (fun _ _ _ => False) t) := by
  refine ⟨fun pins s σ H Q I h => wpAny_Call_Name_kw (ld_glob I hg hm (PySem.W.callWith_K (h₀ := X.base) I.ok.mod.kin hk (thn (ha.run pos pins s σ H _ I h) fun us s1 ⟨vs, H1, I1, r, q⟩ => ⟨I1.kIn, ?_⟩) he hpl) hdb)⟩
  have q : sp (vs ++ []) H1 Q (fun _ _ _ => False) := q
  rw [List.append_nil] at q
  have hl : us.length = ps.length := by rw [← r.length]; exact F.len _ _ _ _ q
  have b := hb s1 us I1.kIn (by rw [List.append_nil]; exact hl)
  rw [List.append_nil] at b
  refine wpAny_call (codeAny_mono (F.go X.A X.stack s1 H1 ⟨us, []⟩ us vs Q _ hgd hr I1.env0 b r q) fun r s' hq => ?_)
  rcases r with e | (_ | _ | _ | u)
  all_goals first
    | exact I1.after hq
    | exact False.elim hq
end
/-! ### data, as it is shown -/
def vD : V → PyData
  | .int i => .int i
  | .str x => .str x
  | .bl b => .bool b
  | _ => .none
def flatV : V → Bool
  | .int _ | .str _ | .bl _ | .non => true
  | _ => false
def kD : Key → PyData
  | .inl i => .int i
  | .inr x => .str x
mutual
inductive Dx (H : Hp) : V → PyData → Prop
  | flat (v : V) : flatV v = true → Dx H v (vD v)
  | lst {a : Addr} {xs : List V} {ds : List PyData} : H a = some (.lst xs) → DxAll H xs ds → Dx H (.ref a) (.list ds)
  | tup {a : Addr} {xs : List V} {ds : List PyData} : H a = some (.tup xs) → DxAll H xs ds → Dx H (.ref a) (.tuple ds)
  | dic {a : Addr} {kvs : List (Key × V)} : H a = some (.dK kvs) → (∀ p ∈ kvs, flatV p.2 = true) → Dx H (.ref a) (.dict (kvs.map fun p => (kD p.1, vD p.2)))
inductive DxAll (H : Hp) : List V → List PyData → Prop
  | nil : DxAll H [] []
  | cons {v : V} {vs : List V} {d : PyData} {ds : List PyData} : Dx H v d → DxAll H vs ds → DxAll H (v :: vs) (d :: ds)
end
theorem flat_reads {h : Heap} {v : V} {u : Value} (hf : flatV v = true) (r : RelV v u) : Reads h u (vD v) [] := by
  cases v with
  | int i => obtain ⟨t, rfl⟩ := r; exact .int i t
  | str x => obtain ⟨t, rfl⟩ := r; exact .str x t
  | bl b => cases r; exact .bool b
  | non => cases r; exact .none
  | _ => cases hf
theorem key_reads {h : Heap} {k : Key} {u : Value} (r : keyIs k u = true) : Reads h u (kD k) [] := by
  rcases keyIs_shape r with ⟨i, t, rfl, rfl⟩ | ⟨x, t, rfl, rfl⟩
  · exact .int i t
  · exact .str x t
theorem pairs_reads {P : Program} {w : World} {h : Heap} : ∀ {es : List DictEntry} {vs : List (Key × Value)} {kvs : List (Key × V)}, PySem.Pairs (mixKind P w) es vs → KV kvs vs → (∀ p ∈ kvs, flatV p.2 = true) →
    ReadsAll h (es.map (·.key)) ((kvs.map fun p => (kD p.1, vD p.2)).map (·.1)) [] ∧ ReadsAll h (es.map (·.val)) ((kvs.map fun p => (kD p.1, vD p.2)).map (·.2)) []
  | _, _, _, .nil, .nil, _ => ⟨.nil, .nil⟩
  | e :: es, _, _, .cons hk hv ps, .cons ⟨h1, h2⟩ r, hf => by
    obtain ⟨i1, i2⟩ := pairs_reads ps r fun p hp => hf p (List.mem_cons_of_mem _ hp)
    refine ⟨.cons (as := []) (key_reads ?_) i1, .cons (as := []) ?_ i2⟩
    · rw [h1]
      exact hk
    · show Reads h e.val (vD _) []
      rw [hv]
      exact flat_reads (hf _ List.mem_cons_self) h2
section
variable {X : Cx} {pins : List (Addr × Obj)} {σ : L2.St} {H : Hp} {s : Shared}
mutual
theorem Dx.reads (I : Inv X pins σ H s) (hs : H sysModules = none) : ∀ {v : V} {d : PyData} {u : Value}, Dx H v d → RelV v u → ∃ as, Reads s.heap u d as ∧ sysModules ∉ as
  | _, _, _, .flat v hf, r => ⟨[], flat_reads hf r, by simp⟩
  | _, _, _, .lst (a := a) ha hx, r => by
    cases r
    obtain ⟨z, its, n, rv, e⟩ := I.hok a _ ha
    obtain ⟨as, ra, na⟩ := DxAll.reads I hs hx rv
    exact ⟨a :: as, .list e rfl rfl ra, fun q => (List.mem_cons.mp q).elim (fun q => by rw [← q, hs] at ha; cases ha) na⟩
  | _, _, _, .tup (a := a) ha hx, r => by
    cases r
    obtain ⟨z, its, rv, o, e, hc, n, hd⟩ := I.hok a _ ha
    obtain ⟨as, ra, na⟩ := DxAll.reads I hs hx rv
    exact ⟨as, .tuple e hc hd ra, na⟩
  | _, _, _, .dic (a := a) (kvs := kvs) ha hf, r => by
    cases r
    obtain ⟨hz, hS, vs, rr, o, es, ep, e, hc, hd, _, ps, _⟩ := I.hok a _ ha
    obtain ⟨r1, r2⟩ := pairs_reads (h := s.heap) ps rr hf
    refine ⟨a :: [] ++ [], .dict e hc.1 hd r1 r2, fun q => ?_⟩
    have q : sysModules = a := by simpa using q
    rw [← q, hs] at ha
    cases ha
theorem DxAll.reads (I : Inv X pins σ H s) (hs : H sysModules = none) : ∀ {vs : List V} {ds : List PyData} {us : List Value}, DxAll H vs ds → Vals vs us → ∃ as, ReadsAll s.heap us ds as ∧ sysModules ∉ as
  | _, _, _, .nil, .nil => ⟨[], .nil, by simp⟩
  | _, _, _, .cons h1 h2, .cons r1 r2 => by
    obtain ⟨as, q1, n1⟩ := Dx.reads I hs h1 r1
    obtain ⟨bs, q2, n2⟩ := DxAll.reads I hs h2 r2
    exact ⟨as ++ bs, .cons q1 q2, fun q => (List.mem_append.mp q).elim n1 n2⟩
end
/-- repr(xs), xs a list -/
def rRep : List V → Hp → VK → Prop := fun xs H Q => ∃ (a : Addr) (ys : List V) (ds : List PyData), xs = [.ref a] ∧ H a = some (.lst ys) ∧ DxAll H ys ds ∧ (PyData.list ds).showable = true ∧ (PyData.list ds).shown.length ≤ sizeLine ∧ (PyData.list ds).depth ≤ 60 ∧ Q (.str (PyData.list ds).shown) H
theorem call_rep {o : Obj} (hk : X.K.lookup sysModules = some o) (hg : X.A.guards = some []) (hu : X.A.units + 64 < cLine) : CallR X (.builtin "repr") rRep := by
  intro pins s σ H xs us Q I r h
  obtain ⟨a, ys, ds, rfl, ha, hx, hs, hz, hd, q⟩ := h
  cases r with
  | cons rx rr =>
    cases rr
    have hn : H sysModules = none := (I.bs _ _ (I.ok.mod.kin _ _ hk)).2
    obtain ⟨as, rd, na⟩ := Dx.reads I hn (Dx.lst ha hx) rx
    cases rx
    exact repr_of_reads' rd hs (fun _ => na) hg (by omega) (fun _ _ e => e) (fun h' u tk kk => ⟨.str _, H, I.kept (t' := tk) kk, ⟨u, rfl⟩, q⟩) hz
end
end G0

set_option Elab.async false
set_option linter.all false
set_option maxRecDepth 100000
set_option maxHeartbeats 4000000
/-! The end of a law whose def wants that nothing is being shown around it. -/
namespace G0
open PySem PySem.Spec PyProof.Rows L2 LamX
/-- what is tracked as the law is called: the script, if the written part lacks it; the tables of code objects -/
def H00 (K : PySem.W.Frag) (ts : List Addr) (a : Addr) (o : Obj) (xs : List V) : Hp := fun b =>
  if b = a ∧ K.lookup a = none then some (.frz o (.lst xs)) else if b ∈ ts then some (.tbl #[]) else none
section
variable {K : PySem.W.Frag} {ts : List Addr} {a : Addr} {o : Obj} {xs : List V}
theorem H00.tab {t : Addr} (h : t ∈ ts) (n : t ≠ a) : H00 K ts a o xs t = some (.tbl #[]) := by
  unfold H00
  rw [if_neg (fun z => n z.1), if_pos h]
theorem H00.scr (h : K.lookup a = none) : H00 K ts a o xs a = some (.frz o (.lst xs)) := by
  unfold H00
  rw [if_pos ⟨rfl, h⟩]
theorem H00.inv {b : Addr} {u : HO} (h : H00 K ts a o xs b = some u) : (b = a ∧ K.lookup a = none ∧ u = .frz o (.lst xs)) ∨ (b ∈ ts ∧ u = .tbl #[]) := by
  unfold H00 at h
  by_cases h1 : b = a ∧ K.lookup a = none
  · rw [if_pos h1] at h
    exact .inl ⟨h1.1, h1.2, (Option.some.inj h).symm⟩
  · rw [if_neg h1] at h
    by_cases h2 : b ∈ ts
    · rw [if_pos h2] at h
      exact .inr ⟨h2, (Option.some.inj h).symm⟩
    · rw [if_neg h2] at h
      cases h
end
abbrev tab0 : Obj := { cls := .none, data := .fields #[] }
abbrev scr0 (vs : List Value) : Obj := { cls := .type "list", data := .seq vs.toArray }
/-- the base: what is not tracked -/
theorem H00.none {K : PySem.W.Frag} {ts : List Addr} {a : Addr} {vs : List Value} {xs : List V} {h : Heap} (ha : h.get? a = some (scr0 vs)) (hT : ∀ t ∈ ts, h.get? t = some tab0) {b : Addr} {u : Obj} (e : h.get? b = some u) (n1 : u ≠ scr0 vs) (n2 : u ≠ tab0) : H00 K ts a (scr0 vs) xs b = none := by
  cases q : H00 K ts a (scr0 vs) xs b with
  | none => rfl
  | some z =>
    rcases H00.inv q with ⟨rfl, _, _⟩ | ⟨m, _⟩
    · rw [ha] at e
      exact absurd (Option.some.inj e).symm n1
    · rw [hT b m] at e
      exact absurd (Option.some.inj e).symm n2
theorem law_callG {P : Program} {w : World} {K : PySem.W.Frag} {mg mb : Str → Option Value} {k : Nat} {fa a : Addr} {cs : List (Addr × Addr)} {fd : FuncData} {x : Str} {sp : Sp} {s1 : Shared} {vs : List Value} {ns : List Int}
    (inK : K.In s1.heap) (hG : s1.heap.Ns mainGlobals mg) (hB : s1.heap.Ns builtinsNs mb) (hBB : ∀ x : Str, x ≠ "__name__" → mb x = bootBuiltins x) (hL : s1.heap.NoLimit) (gens : s1.gens = #[])
    (tabs : ∀ p ∈ cs, s1.heap.get? p.2 = some tab0) (outK : ∀ p ∈ cs, K.lookup p.2 = none) (codes : ∀ p ∈ cs, PySem.W.CodeHd s1.heap p.1 p.2)
    (bmod : ∃ (bm : Addr) (ob : Obj), mg "__builtins__" = some (.ref bm) ∧ bm ≠ builtinsNs ∧ s1.heap.get? bm = some ob ∧ ob.cls = .type "module" ∧ ob.dict = some builtinsNs ∧ ob.data = .plain)
    (scr : s1.heap.get? a = some (scr0 vs)) (isInts : IntsAre vs ns) (size : ns.length ≤ sizeLine) (room : Room k callerA)
    (G : ∀ base : Heap, K.In base → base.Ns mainGlobals mg → (∀ p ∈ cs, TabB base mg p.1 p.2) → FnOkG P w K mg base k fa fd [x] sp) (bind : ∀ (s : Shared) (u : Value), BindsTo s fd ⟨[u], []⟩ [(x, u)])
    (hsp : ∀ H : Hp, (∀ p ∈ cs, H p.2 = some (.tbl #[])) → SqL K H a (ns.map V.int) → sp [.ref a] H (fun v _ => v = .bl true) fun _ _ _ => False) :
    codeAny (model P w) callerA (.call (.ref fa) ⟨[.ref a], []⟩) (fun r s' => r = .ok (.ret (.bool true)) ∧ OldK s1.heap s'.heap ∧ s'.os = s1.os ∧ AllBare s'.gens) s1 := by
  have rel := vals_ints isInts
  have lv := isInts.length
  let ts := cs.map Prod.snd
  let H : Hp := H00 K ts a (scr0 vs) (ns.map V.int)
  have tabs' : ∀ t ∈ ts, s1.heap.get? t = some tab0 := fun t ht => by
    obtain ⟨p, hp, rfl⟩ := List.mem_map.mp ht
    exact tabs p hp
  have inTs : ∀ p ∈ cs, p.2 ∈ ts := fun p hp => List.mem_map.mpr ⟨p, hp, rfl⟩
  have tNa : ∀ t ∈ ts, t ≠ a := fun t ht z => by
    have e := tabs' t ht
    rw [z, scr] at e
    cases e
  have hTab : ∀ p ∈ cs, H p.2 = some (.tbl #[]) := fun p hp => H00.tab (inTs p hp) (tNa _ (inTs p hp))
  have hScr : SqL K H a (ns.map V.int) := by
    cases q : K.lookup a with
    | none => exact .inl (.inr ⟨_, H00.scr q⟩)
    | some o =>
      have e := inK a o q
      rw [scr] at e
      cases e
      exact .inr ⟨_, vs.toArray, _, q, rfl, rfl, rfl, by rw [List.size_toArray, lv]; exact size, by simpa using rel⟩
  have hok : HOk P w H s1.heap := fun b u e => by
    rcases H00.inv e with ⟨rfl, _, rfl⟩ | ⟨m, rfl⟩
    · exact ⟨scr, by rw [List.length_map]; exact size, vs, _, rel, scr⟩
    · exact tabs' b m
  -- what is not tracked
  have off : ∀ {b : Addr} {u : Obj}, s1.heap.get? b = some u → (∀ z n, u.data ≠ .seq z n) → u.data ≠ .fields #[] → H b = none := fun {b u} e n1 n2 =>
    H00.none scr tabs' e (fun z => n1 _ _ (congrArg Obj.data z)) (fun z => n2 (congrArg Obj.data z))
  have low : ∀ {b : Addr} {u : Obj}, s1.heap.get? b = some u → (∀ z n, u.data ≠ .seq z n) → u.data ≠ .fields #[] → (hidT s1.heap H).get? b = some u := fun e n1 n2 => hidT_get e (off e n1 n2)
  have lowNs : ∀ {b : Addr} {m : Str → Option Value}, s1.heap.Ns b m → (hidT s1.heap H).Ns b m := fun {b m} q => by
    obtain ⟨o, es, n, e, d, r⟩ := q
    exact ⟨o, es, n, low e (fun z k y => by rw [d] at y; cases y) (fun y => by rw [d] at y; cases y), d, r⟩
  have lowK : K.In (hidT s1.heap H) := fun b u e => by
    refine hidT_get (inK b u e) ?_
    cases q : H b with
    | none => rfl
    | some z =>
      rcases H00.inv q with ⟨rfl, y, _⟩ | ⟨m, _⟩
      · rw [y] at e
        cases e
      · obtain ⟨p, hp, ep⟩ := List.mem_map.mp m
        have y := outK p hp
        rw [ep, e] at y
        cases y
  have hTB : ∀ p ∈ cs, TabB (hidT s1.heap H) mg p.1 p.2 := fun p hp => by
    have tp := tabs p hp
    have nG : mainGlobals ≠ p.2 := fun z => by
      obtain ⟨o, es, n, e, d, _⟩ := hG
      rw [z, tp] at e
      cases e
      cases d
    refine ⟨?_, ?_, nG⟩
    · obtain ⟨o, us, c1, c2, c3, c4, c5, c6, c7, e, y1, y2, y3, y⟩ := codes p hp
      refine ⟨o, us, c1, c2, c3, c4, c5, c6, c7, low e (fun z k q => by rw [y2] at q; cases q) (fun q => ?_), y1, y2, y3, y⟩
      rw [y2] at q
      injection q with q
      rw [q] at y3
      simp at y3
    · obtain ⟨bm, ob, q1, q2, q3, q4, q5, q6⟩ := bmod
      have f1 : bm ≠ mainGlobals := fun z => by
        obtain ⟨o, es, n, e, d, _⟩ := hG
        rw [z, e] at q3
        cases q3
        rw [d] at q6
        cases q6
      have f2 : bm ≠ p.2 := fun z => by
        rw [z, tp] at q3
        cases q3
        cases q6
      exact ⟨bm, ob, q1, q2, f1, f2, low q3 (fun z k q => by rw [q6] at q; cases q) (fun q => by rw [q6] at q; cases q), q4, q5, q6⟩
  have lim : (hidT s1.heap H).NoLimit := by
    obtain ⟨mc, l1, l2⟩ := hL
    exact ⟨mc, lowNs l1, l2⟩
  have e0 : Env0 P w K mg (hidT s1.heap H) callerA [] s1 H := ⟨rfl, ⟨lowK, lowNs hG, ⟨mb, lowNs hB, hBB⟩, lim⟩, fun b o e => of_hidT e, Nat.le_of_eq (hidT_size _ _), trivial, fun b hb => (nomatch (show b ∈ ([] : List Addr) from hb)), hok, .of_eq gens⟩
  refine codeAny_mono ((G _ lowK (lowNs hG) hTB).go callerA [] s1 H ⟨[.ref a], []⟩ [.ref a] [.ref a] _ _ rfl room e0 (bind s1 (.ref a)) (.cons rfl .nil) (hsp H hTab hScr)) fun r s' q => ?_
  match r, q with
  | .ok (.ret u), q =>
    obtain ⟨v, H', os, bare, un, hok', ru, qv⟩ := q
    have qv : v = .bl true := qv
    subst qv
    have eu : u = Value.bool true := ru
    subst eu
    have tab' : ∀ t ∈ ts, ∃ more : Array Value, s'.heap.get? t = some { cls := .none, data := .fields more } := fun t ht => by
      obtain ⟨more, z⟩ := un.tbls t #[] (H00.tab ht (tNa t ht))
      exact ⟨_, hok' t _ z⟩
    have stay : ∀ b o, b ∉ ts → s1.heap.get? b = some o → s'.heap.get? b = some o := fun b o nb e => by
      cases y : H b with
      | none => exact un.keep b o e y (fun z => (nomatch (show b ∈ ([] : List Addr) from z))) (by simp)
      | some z =>
        rcases H00.inv y with ⟨rfl, _, rfl⟩ | ⟨m, _⟩
        · have y2 := (hok' b _ (un.frzs b _ _ y)).1
          rw [scr] at e
          cases e
          exact y2
        · exact absurd m nb
    refine ⟨rfl, ⟨fun b o e => ?_, fun b o e => ?_⟩, os, bare⟩
    · by_cases m : b ∈ ts
      · obtain ⟨p, hp, rfl⟩ := List.mem_map.mp m
        obtain ⟨more, y⟩ := tab' _ m
        rw [tabs p hp] at e
        cases e
        exact .inr (.inl ⟨((codes p hp).tab (tabs p hp)).isCodeTable, rfl, #[], more, rfl, by rw [Array.empty_append]; exact y⟩)
      · exact .inl (stay b o m e)
    · by_cases m : b ∈ ts
      · obtain ⟨more, y⟩ := tab' _ m
        exact ⟨_, y⟩
      · exact ⟨o, stay b o m e⟩
  | .ok .next, q => exact False.elim q
  | .ok .brk, q => exact False.elim q
  | .ok .cont, q => exact False.elim q
  | .error e, q => exact False.elim q
end G0

set_option Elab.async false
set_option linter.all false
set_option maxRecDepth 100000
set_option maxHeartbeats 8000000
namespace E1
open PySem PySem.Spec PyProof.Rows L2 G0 LamX
section
variable {K : PySem.W.Frag} {h : Heap} {mg : Str → Option Value}
theorem glo_top (X : K.In h) (G : h.Ns mainGlobals mg) (Y : SaysY h K) {i : Nat} (m : i ∈ tops) : mg (tName i) = some (.ref (He.ga K (tName i))) := glo_of X G Y (top_mem m)
theorem fre (X : K.In h) (G : h.Ns mainGlobals mg) (Y : SaysY h K) {x : Str} (m : x ∈ frees) : mg x = none := He.free_ok X G (Y.d.facts (frees_mem m))
theorem brd_fd (Y : SaysY h K) (z : FuncData) {j : Nat} (hj : j < 6) : FunD K (mNm j) ("Board." ++ mNm j) (defArgs (mS j)) (defBody (mS j)) (defScope (mS j)) [] [] (He.ma K (bdC K) (mNm j)) (fdOf z K (He.ma K (bdC K) (mNm j))) := funD_of (Y.d.defs (brdD_mem hj))
theorem more_of (Y : SaysY h K) : exmB K = true ∧ clsB K (bdC K) = true ∧ xflB K = true ∧ twoT K = true ∧ He.tupB K "WORDS" (wordsL.map He.Dv.str) = true := by
  obtain ⟨_, h1⟩ := He.ba Y.more
  obtain ⟨_, h2⟩ := He.ba h1
  obtain ⟨h3, h4⟩ := He.ba h2
  obtain ⟨h5, h6⟩ := He.ba h4
  obtain ⟨h7, h8⟩ := He.ba h6
  obtain ⟨h9, h10⟩ := He.ba h8
  exact ⟨h3, h5, h7, h9, h10⟩
theorem ownC_of {C : Addr} (hc : Cls K C) (hb : clsB K C = true) : OwnC K C := by
  obtain ⟨h1, b⟩ := He.ba hb
  obtain ⟨h2, b⟩ := He.ba b
  obtain ⟨h3, b⟩ := He.ba b
  obtain ⟨h4, b⟩ := He.ba b
  exact ⟨hc, He.eqO_ok h1, sp_get K, sp_tak K, of_decide_eq_true h2, fun T hT => of_decide_eq_true (List.all_eq_true.mp h3 T hT), fun T hT => of_decide_eq_true (List.all_eq_true.mp h4 T hT)⟩
noncomputable def namesD (z : FuncData) (X : K.In h) (G : h.Ns mainGlobals mg) (Y : SaysY h K) : NamesD K mg :=
  { fN := _, dN := _, FN := fn_of_top (z := z) Y (i := 17) (by decide), gN := glo_top X G Y (i := 17) (by decide)
    fL := _, dL := _, FL := fn_of_top (z := z) Y (i := 18) (by decide), gL := glo_top X G Y (i := 18) (by decide)
    fP := _, dP := _, FP := fn_of_top (z := z) Y (i := 19) (by decide), gP := glo_top X G Y (i := 19) (by decide)
    fT := _, dT := _, FT := fn_of_top (z := z) Y (i := 20) (by decide), gT := glo_top X G Y (i := 20) (by decide)
    fW := _, dW := _, FW := fn_of_top (z := z) Y (i := 21) (by decide), gW := glo_top X G Y (i := 21) (by decide)
    fU := _, dU := _, FU := fn_of_top (z := z) Y (i := 22) (by decide), gU := glo_top X G Y (i := 22) (by decide)
    fX := _, dX := _, FX := fn_of_top (z := z) Y (i := 24) (by decide), gX := glo_top X G Y (i := 24) (by decide) }
theorem txtN_of (X : K.In h) (G : h.Ns mainGlobals mg) (Y : SaysY h K) : TxtN K mg :=
  ⟨fre X G Y (by decide), fre X G Y (by decide), fre X G Y (by decide), fre X G Y (by decide), fre X G Y (by decide), fre X G Y (by decide), fre X G Y (by decide), fre X G Y (by decide), He.str_ok X G (last_fact Y 2 rfl), He.str_ok X G (last_fact Y 3 rfl), He.int_ok X G (last_fact Y 4 rfl),
    ⟨_, He.glo_ok X G (last_fact Y 1 rfl), fun H => by
      have q := He.tupB_ok (more_of Y).2.2.2.2 H
      rw [List.map_map] at q
      exact q⟩⟩
noncomputable def boardD (z : FuncData) (X : K.In h) (G : h.Ns mainGlobals mg) (Y : SaysY h K) : BoardD K mg :=
  have b1 := He.ba (more_of Y).2.1
  have b2 := He.ba b1.2
  have b3 := He.ba b2.2
  have b4 := He.ba b3.2
  have b5 := He.ba b4.2
  have b6 := He.ba b5.2
  have b7 := He.ba b6.2
  have tf : PySem.W.typeIn K (.ref (He.ma K (bdC K) "__eq__")) = some (.type "function") := of_decide_eq_true b6.1
  { C := bdC K
    g := He.glo_ok X G (last_fact Y 0 rfl)
    O := ownC_of (He.cls_ok (last_fact Y 5 rfl)) (more_of Y).2.1
    noP := He.noat_ok (last_fact Y 6 rfl)
    noT := He.noat_ok (last_fact Y 7 rfl)
    noR := He.noat_ok (last_fact Y 8 rfl)
    noN := He.noat_ok (last_fact Y 9 rfl)
    f := fun j => He.ma K (bdC K) (mNm j)
    d := fun j => fdOf z K (He.ma K (bdC K) (mNm j))
    F0 := brd_fd Y z (j := 0) (by decide)
    F1 := brd_fd Y z (j := 1) (by decide)
    F2 := brd_fd Y z (j := 2) (by decide)
    F3 := brd_fd Y z (j := 3) (by decide)
    F4 := brd_fd Y z (j := 4) (by decide)
    F5 := brd_fd Y z (j := 5) (by decide)
    M0 := He.mkr_ok (last_fact Y 10 rfl)
    M2 := He.meth_ok (last_fact Y 11 rfl)
    M3 := He.meth_ok (last_fact Y 12 rfl)
    M4 := He.meth_ok (last_fact Y 13 rfl)
    M5 := He.meth_ok (last_fact Y 14 rfl)
    eqA := He.eqO_ok b5.1
    eqF := by
      show (PySem.W.typeIn K (.ref (He.ma K (bdC K) "__eq__")) == some (.type "function")) = true
      rw [tf]
      decide
    ne := fun hp x o X' hx ho => plnB_ok b7.1 tf hp x o X' hx ho
    P := errOf z X G Y 5 "BadPlaces" "index" 0 (by decide) rfl rfl
    T := errOf z X G Y 7 "BadTies" "index" 1 (by decide) rfl rfl
    R := errOf z X G Y 6 "BadRim" "index" 2 (by decide) rfl rfl
    nf := fun T hT => List.all_eq_true.mp b7.2 T hT
    fNb := _
    dNb := _
    FNb := fn_of_top (z := z) Y (i := 25) (by decide)
    gNb := glo_top X G Y (i := 25) (by decide) }
noncomputable def drawD (z : FuncData) (X : K.In h) (G : h.Ns mainGlobals mg) (Y : SaysY h K) : DrawD K mg :=
  { t := ⟨fre X G Y (by decide), fre X G Y (by decide), fre X G Y (by decide), fre X G Y (by decide)⟩
    fS := _, dS := _, FS := fn_of_top (z := z) Y (i := 54) (by decide), gS := glo_top X G Y (i := 54) (by decide)
    fD := _, dD := _, FD := fn_of_top (z := z) Y (i := 55) (by decide), gD := glo_top X G Y (i := 55) (by decide)
    fM := _, dM := _, FM := fn_of_top (z := z) Y (i := 56) (by decide), gM := glo_top X G Y (i := 56) (by decide) }
theorem law_tops : ∀ i ∈ lawIx, i ∈ tops := by decide
theorem free_frees : ∀ x ∈ freeN, x ∈ frees := by decide
noncomputable def lawD (z : FuncData) (X : K.In h) (G : h.Ns mainGlobals mg) (Y : SaysY h K) : LawD K mg :=
  { n := namesD z X G Y
    t := txtN_of X G Y
    B := boardD z X G Y
    s := drawD z X G Y
    f := fun i => He.ga K (tName i)
    d := fun i => fdOf z K (He.ga K (tName i))
    F := fun i m => fn_of_top Y (law_tops i m)
    g := fun i m => glo_top X G Y (law_tops i m)
    free := fun x m => fre X G Y (free_frees x m) }
theorem metD_one (X : K.In h) (G : h.Ns mainGlobals mg) (Y : SaysY h K) (j : Nat) (hj : j < 6) : PySem.W.exmOne K (.ref (cA K 0)) (.ref (cA K j)) = some (decide (0 = j)) ∧ PySem.W.exmOne K (.ref (cA K 4)) (.ref (cA K j)) = some (decide (4 = j)) := by
  obtain ⟨a, b⟩ := He.ba (List.all_eq_true.mp (more_of Y).1 j (List.mem_range.mpr hj))
  exact ⟨of_decide_eq_true a, of_decide_eq_true b⟩
theorem metD_x (X : K.In h) (G : h.Ns mainGlobals mg) (Y : SaysY h K) (j : Nat) (hj : j < 4) : XfC K (cA K j) ∧ PySem.W.findIn K (.ref (cA K j)) (flN.getD j "") = some none := by
  obtain ⟨a, b⟩ := He.ba (List.all_eq_true.mp (more_of Y).2.2.1 j (List.mem_range.mpr hj))
  exact ⟨xfB_ok a, He.eqO_ok b⟩
theorem clE_eq (i : Fin 6) : clE i = clN.getD i.1 "" := by
  match i with
  | 0 => rfl
  | 1 => rfl
  | 2 => rfl
  | 3 => rfl
  | 4 => rfl
  | 5 => rfl
theorem flE_eq (i : Fin 4) : flE i = flN.getD i.1 "" := by
  match i with
  | 0 => rfl
  | 1 => rfl
  | 2 => rfl
  | 3 => rfl
def metD (X : K.In h) (G : h.Ns mainGlobals mg) (Y : SaysY h K) : MetD K mg :=
  { C := fun i => cA K i.1
    g := fun i => by
      rw [clE_eq]
      refine glo_of X G Y (clN_mem ?_)
      rw [List.getD_eq_getElem?_getD, List.getElem?_eq_getElem (show i.1 < clN.length from i.2)]
      exact List.getElem_mem _
    x := fun i => (metD_x X G Y i.1 i.2).1
    no := fun i => by
      rw [flE_eq]
      exact (metD_x X G Y i.1 i.2).2
    is0 := fun j => ((metD_one X G Y j.1 j.2).1).trans (congrArg some (decide_eq_decide.mpr ⟨fun q => Fin.ext q, fun q => by rw [← q]; rfl⟩))
    is4 := fun j => ((metD_one X G Y j.1 j.2).2).trans (congrArg some (decide_eq_decide.mpr ⟨fun q => Fin.ext q, fun q => by rw [← q]; rfl⟩)) }
theorem nb_of (Y : SaysY h K) : nbB K = true := (He.ba (He.ba Y.more).1).2
noncomputable def prD (z : FuncData) (X : K.In h) (G : h.Ns mainGlobals mg) (Y : SaysY h K) : PrD K mg (metD X G Y) :=
  have b1 := He.ba (nb_of Y)
  have b2 := He.ba b1.2
  have b3 := He.ba b2.2
  { XB := errOf z X G Y 3 "BadBoard" "thing" 3 (by decide) rfl rfl
    eB := rfl
    bx := b1.1
    kp := b2.1
    sb := of_decide_eq_true b3.1
    ty := of_decide_eq_true b3.2 }
end
end E1

set_option Elab.async false
set_option linter.all false
set_option maxRecDepth 100000
set_option maxHeartbeats 8000000
/-! The law's call from the head, given what is asked of the program. -/
namespace E1
open PySem PySem.Spec PyProof.Rows L2 G0 LamX
/-- the program does what is asked of it -/
def ProgOk : Prop := ∀ {K : PySem.W.Frag} {mg : Str → Option Value} (w : World) (base : Heap) (Z : LawD K mg) (M : MetD K mg) (D : PrD K mg M),
  FnOk (PySem.Challenge.rw_mustcross_k61_whole_boards_beside).prog w K mg base (L2.CX (PySem.Challenge.rw_mustcross_k61_whole_boards_beside).prog w) 6 (Z.f 37) (Z.d 37) ["one", "other"] (spAskC M Z.B.C) ∧
  FnOk (PySem.Challenge.rw_mustcross_k61_whole_boards_beside).prog w K mg base (L2.CX (PySem.Challenge.rw_mustcross_k61_whole_boards_beside).prog w) 7 (Z.f 40) (Z.d 40) ["one", "other"] (spAskB M Z.B.C) ∧ Binds K (Z.d 37) ["one", "other"] [] ∧ Binds K (Z.d 40) ["one", "other"] []
/-- the law's call, from the head -/
theorem walk_law (prog : ProgOk) {q : Program} {loose : List Str} {XP : (Str → Option Value) → Heap → Prop} {d : DefRec} (hdf : d.params.defaults = []) (hnm : d.name = ("law" : Str)) :
    PySem.W.WalkO q loose XP hookY.says (PySem.Challenge.rw_mustcross_k61_whole_boards_beside).row.toRowW d [] (fun f vs => PySem.call f vs) := by
  refine Att.attach_callB (n := 63) rfl hdf fun w s0 s1 mg mb fa o pm cd doc a vs ns G Y ho hd hcd hmg hobj hints hlen hbits hg => ?_
  obtain ⟨K, KX, Y⟩ := Y
  rw [hnm] at hmg
  have tl : tName 64 = ("law" : Str) := rfl
  obtain ⟨fd, F0⟩ := Y.d.defs (topD_mem (i := 64) (by decide))
  have F1 : FunD K (tName 64) (tName 64) (defArgs (topS 64)) (defBody (topS 64)) (defScope (topS 64)) [] [] (He.ga K (tName 64)) (fdOf fd K (He.ga K (tName 64))) := funD_of ⟨fd, F0⟩
  have ef : fa = He.ga K (tName 64) := by
    have e := hmg.symm.trans (glo_top KX G.T.g Y (i := 64) (by decide))
    cases e
    rfl
  subst ef
  let cs : List (Addr × Addr) := tf.map (He.cT K)
  have onTf : ∀ {φ : Addr × Addr → Prop}, (∀ p ∈ tf, φ (He.cT K p)) → ∀ p ∈ cs, φ p := fun {φ} h p hp => by
    obtain ⟨t, ht, rfl⟩ := List.mem_map.mp hp
    exact h t ht
  have mem1 : (("_law_right", none) : He.Defn) ∈ tf := List.mem_cons_self
  have mem2 : (("_law_refused_right", none) : He.Defn) ∈ tf := List.mem_cons_of_mem _ List.mem_cons_self
  have hne : (He.cT K ("_law_right", none)).2 ≠ (He.cT K ("_law_refused_right", none)).2 := of_decide_eq_true (more_of Y).2.2.2.1
  refine law_callTs (CX := CX0) (cs := cs) (fd := fdOf fd K (He.ga K (tName 64))) (x := "_law_script") (sp := spLw K [((He.cT K ("_law_right", none)).2, qRight), ((He.cT K ("_law_refused_right", none)).2, qRef)]) (k := 12) KX G.T.g G.T.b G.T.builtins G.T.nolimit hg (onTf Y.empty) (onTf Y.out) (onTf fun p hp => PySem.W.codeHd_of_K KX (Y.hd p hp)) G.T.bmain hobj hints (Nat.le_trans hlen (by decide)) ⟨rfl, by decide, by decide⟩ ?_ ?_ ?_ (fun _ _ _ h => h)
  · intro base hb hB hT
    have tb1 := hT (He.cT K ("_law_right", none)) (List.mem_map.mpr ⟨_, mem1, rfl⟩)
    have tb2 := hT (He.cT K ("_law_refused_right", none)) (List.mem_map.mpr ⟨_, mem2, rfl⟩)
    obtain ⟨GC, GB, bC, bB⟩ := prog w base (lawD fd KX G.T.g Y) (metD KX G.T.g Y) (prD fd KX G.T.g Y)
    have GX := ok_ref (lawD fd KX G.T.g Y) (metD KX G.T.g Y) GC GB bC bB (T := [((He.cT K ("_law_right", none)).2, qRight), ((He.cT K ("_law_refused_right", none)).2, qRef)]) (Pt := (He.cT K ("_law_refused_right", none)).2) (List.mem_cons_of_mem _ List.mem_cons_self) (huL hne) (fun oc od kV doc pm an cc ct osl lk => by
      have e : He.codeOf K ("_law_refused_right", none) = cc := He.codeOf_eq (p := ("_law_refused_right", none)) lk rfl
      have tb3 : TabB base mg (He.codeOf K ("_law_refused_right", none)) (He.cT K ("_law_refused_right", none)).2 := tb2
      rw [e] at tb3
      exact tb3)
    have GR := ok_right (lawD fd KX G.T.g Y) (metD KX G.T.g Y) GC GB bC bB GX (Pt := (He.cT K ("_law_right", none)).2) List.mem_cons_self (huR hne) (fun oc od kV doc pm an cc ct osl lk => by
      have e : He.codeOf K ("_law_right", none) = cc := He.codeOf_eq (p := ("_law_right", none)) lk rfl
      have tb3 : TabB base mg (He.codeOf K ("_law_right", none)) (He.cT K ("_law_right", none)).2 := tb1
      rw [e] at tb3
      exact tb3)
    exact (ok_lw (lawD fd KX G.T.g Y) (metD KX G.T.g Y) GC GB bC bB GR)
  · exact fun s v => FunD.bindsA (ps := ["_law_script"]) F1 (fun _ _ _ _ _ _ us hl => match us, hl with | [_], _ => rfl) s [v] rfl
  · intro H hH hS
    refine ⟨a, ns, rfl, hS, fun p hp => ?_, fun _ => rfl⟩
    simp only [List.mem_cons, List.not_mem_nil, or_false] at hp
    rcases hp with rfl | rfl
    · exact TabS.nil (hH _ (List.mem_map.mpr ⟨_, mem1, rfl⟩))
    · exact TabS.nil (hH _ (List.mem_map.mpr ⟨_, mem2, rfl⟩))
end E1

set_option Elab.async false
set_option linter.all false
set_option maxRecDepth 100000
set_option maxHeartbeats 0
namespace E1
open PySem PySem.Spec PyProof.Rows L2
abbrev R : PySem.W.OpenRow := PySem.W.OpenLaw.row PySem.Challenge.rw_mustcross_k61_whole_boards_beside
def ob (s : PySem.W.SharedT) : AlY := obsY (HandSHeadRun.getT s)
theorem ob_eq (s : PySem.W.SharedT) : ob s = hookY.obs s.abs := obsY_eq (HandSHeadRun.getT_eq s)
def loose : List Str := (["_wall", "CrossError", "BadBoard", "BadCross", "BadPlaces", "BadRim", "BadTies", "IsPin", "NoPlace", "NotBeside", "NotWithin", "LETTERS", "NAME_SIGNS", "LONGEST_NAME", "WORDS", "is_name", "is_list", "is_pair", "told_pair", "first_wrong_name", "first_unknown", "first_wrong_tie", "neighbours", "Board", "need_board"] : List Str) ++ ((List.range 35).map fun i => tName (i + 30))
theorem run (w : World) : HandSHeadRun.RunEq R (PySem.W.view R.prog [64]) hookY ob 30000 loose w := by
  intro os
  kernel_rfl
end E1

set_option Elab.async false
set_option linter.all false
set_option maxRecDepth 100000
set_option maxHeartbeats 8000000
namespace E1
open PySem PySem.Spec PyProof.Rows L2 G0 LamX
/-- the program does what is asked of it -/
theorem prog_ok : ProgOk := fun w base Z M D => ⟨ok_cs Z D, ok_bs Z D, bCS Z, bBS Z⟩
end E1
open PySem PySem.W PySem.Calls PyProof.Rows
theorem PySem.Challenge.cw_mustcross_k61_whole_boards_beside_holds : PySem.Challenge.rw_mustcross_k61_whole_boards_beside.Holds := by
  w_on; o_law
  refine HandSHeadRun.head_any (r := OpenLaw.row PySem.Challenge.rw_mustcross_k61_whole_boards_beside) (q := view (OpenLaw.row PySem.Challenge.rw_mustcross_k61_whole_boards_beside).prog [64]) (H := E1.hookY) (ob := E1.ob) (M := 30000) (loose := E1.loose)
    (d := HandSHeadRun.topDef (OpenLaw.row PySem.Challenge.rw_mustcross_k61_whole_boards_beside).prog 64) (kwd := []) E1.ob_eq
    (by kernel_rfl) (fun s => by kernel_rfl) E1.run (by kernel_rfl) (by kernel_rfl) (by kernel_rfl) (by rfl) (by first | assumption | decide +kernel) (by decide +kernel) ⟨rfl, rfl, rfl, rfl, rfl, by decide +kernel⟩ ?hw ?hc
  case hw => w_witness2
  case hc => exact E1.walk_law E1.prog_ok (by kernel_rfl) (by kernel_rfl)

