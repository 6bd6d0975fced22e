import PyProof.Rows.All
import Wide.All
import OpenK.AllK
import Wide.FinOn
import KE.KStateDown
import KE.KExcIs
import HandS.ForMost
import HandS.ForExc
import HandS.Wide
import HandS.ExcInit
import HandS.ExcField
import HandS.ExcValue
import HandS.ExcIs
import HandS.Conv
import HandS.More
import HandS.Defaults
import HandS.MakeKw
import HandS.Lambda
import HandS.EndTab
import HandS.HeadWalk
import HandS.Head0
import HandS.Head1
import HandS.Head2
import HandS.HeadEnd
import HandS.HeadHook1
import HandS.HeadHook2
import HandS.HeadHook3
import HandS.HeadHook4
import HandS.NoneIn
import PySem.Challenge.RW_mustcross_k00_errors_made
set_option Elab.async false
set_option linter.all false
set_option maxRecDepth 100000
set_option maxHeartbeats 4000000
/-! The text by places, what the top says of the classes. -/
namespace E0
open PySem PySem.Spec PyProof.Rows L2
def topS (i : Nat) : Stmt := PySem.Challenge.pw_mustcross_k00_errors_made.main.body.getD i (.Pass ⟨0, 0, 0, 0⟩)
/-- the errors' names, in the order of the text -/
def nms_a : List Str := ["BadAnswer", "BadBoard", "BadCode", "BadCross", "BadDeed", "BadDrawing", "BadLaying", "BadLed", "BadLot", "BadName", "BadNotice", "BadNumber", "BadPairs", "BadPiece", "BadPlace", "BadPlaces", "BadQuestion", "BadRim"]
def nms_b : List Str := ["BadSession", "BadStretch", "BadTable", "BadText", "BadTies", "BadTold", "BadWays", "BadWishes", "BadWords", "BothPins", "FewPins", "HangsByTwo", "HasCross", "HasTie", "InUse", "IsPin", "IsWatched", "NoCount"]
def nms_c : List Str := ["NoCross", "NoPin", "NoPlace", "NoTie", "NotBeside", "NotWatched", "NotWithin", "OtherRim", "SamePlace", "WouldChange"]
def nms : List Str := nms_a ++ (nms_b ++ nms_c)
/-- the names of their parameters -/
def fld_a : List (List Str) := [["thing"], ["thing"], ["thing"], ["thing"], ["thing"], ["thing"], ["thing"], ["index"], ["index"], ["thing"], ["thing"], ["thing"], ["index"], ["thing"], ["thing"], ["index"], ["thing"], ["index"]]
def fld_b : List (List Str) := [["thing"], ["first", "last"], ["thing"], ["line", "sign"], ["index"], ["index"], ["thing"], ["index"], ["index"], ["one", "other"], ["many"], ["place"], ["ways"], ["one", "other"], ["question"], ["place"], ["question"], ["thing"]]
def fld_c : List (List Str) := [[], ["thing"], ["thing"], ["one", "other"], [], ["question"], [], [], ["thing"], ["question", "why"]]
def fldss : List (List Str) := fld_a ++ (fld_b ++ fld_c)
def nm (i : Nat) : Str := nms.getD i ""
def flds (i : Nat) : List Str := fldss.getD i []
def cA (K : PySem.W.Frag) (i : Nat) : Addr := He.ga K (nm i)
def fA (K : PySem.W.Frag) (i : Nat) : Addr := He.ma K (cA K i) "__init__"
def ceA (K : PySem.W.Frag) : Addr := He.ga K "CrossError"
/-! ### what is looked at -/
def baseNames : List Str := ["__setattr__", "__getattribute__", "__getattr__", "__class__"]
def veT : List Value := [.type "ValueError", .type "Exception", .type "BaseException", .type "object"]
/-- the class at C, behind it bm: its own names' dict -/
def clsN (K : PySem.W.Frag) (C : Addr) (bm : List Value) : Option Addr := match K.lookup C with
  | some ⟨.type t, _, .cls cd, sl⟩ => (match decide (t = "type") && (decide (cd.mro = .ref C :: bm) && (cd.hasDict && (!cd.hasDel && (match sl.toList with
    | [_, _, _, _, some (.builtin n), _] => decide (n = "ValueError.__new__")
    | _ => false)))) with
    | true => some cd.ns
    | false => none)
  | _ => none
/-- none of these names is its own; its __init__ is ini, or none -/
def clsB (K : PySem.W.Frag) (C : Addr) (bm : List Value) (fs : List Str) (ini : Option Addr) : Bool := match clsN K C bm with
  | some N => (baseNames ++ fs).all (fun x => decide (PySem.W.nsIn K N x = some none)) && decide (PySem.W.nsIn K N "__init__" = some (ini.map Value.ref))
  | none => false
def chainB : Nat → List Nat → Bool
  | _, [] => true
  | a, b :: r => Nat.blt a b && chainB b r
def allFlds : List Str := ["thing", "index", "first", "last", "line", "sign", "one", "other", "many", "place", "ways", "question", "why"]
def noIni : List Nat := (List.range 46).filter fun i => (flds i).isEmpty
def iniOf (K : PySem.W.Frag) (i : Nat) : Option Addr := match flds i with
  | [] => none
  | _ :: _ => some (fA K i)
def oneB (K : PySem.W.Frag) (i : Nat) : Bool := clsB K (cA K i) (.ref (ceA K) :: veT) (flds i) (iniOf K i) && (match iniOf K i with
  | some f => decide (PySem.W.typeIn K (.ref f) = some (.type "function"))
  | none => true)
def exB (K : PySem.W.Frag) : Bool := (List.range 46).all (oneB K) && ((K.lookup sysModules).isSome && (clsB K (ceA K) veT allFlds none && (chainB (ceA K) ((List.range 46).map (cA K)) && (PySem.W.excIn K (ceA K) He.veBase "ValueError.__new__" && noIni.all (fun i => PySem.W.excIn K (cA K i) He.veBase "ValueError.__new__")))))
/-! ### the head's data -/
def lawNames : List Str := ["_law_start", "_law_draw", "_law_mixed", "_law_made_a", "_law_made_b", "_law_made_c", "_law_kinds_a", "_law_kinds_b", "_law_kinds_c", "_law_kinds", "_law_is_own", "_law_are_these", "law"]
def lawS (j : Nat) : Stmt := topS (49 + j)
def lawD (j : Nat) : He.DefD := ⟨(lawNames.getD j "", none), lawNames.getD j "", lawNames.getD j "", defArgs (lawS j), defBody (lawS j), defScope (lawS j), [], []⟩
def iniS (i : Nat) : Stmt := inClass (topS (i + 2)) 0
def iniD (i : Nat) : He.DefD := ⟨(nm i, some "__init__"), "__init__", nm i ++ ".__init__", defArgs (iniS i), defBody (iniS i), defScope (iniS i), [], []⟩
def owns : List Nat := (List.range 46).filter fun i => !(flds i).isEmpty
def fn : List He.DefD := (List.range 13).map lawD ++ owns.map iniD
def fa : List He.Fa := (lawNames.map He.Fa.glo) ++ ((nms.map He.Fa.glo) ++ [.glo "CrossError", .free "int", .free "list", .free "len", .free "range", .free "isinstance", .free "repr", .free "enumerate", .free "ValueError", .free "LookupError"])
def tf : List He.Defn := [("_law_made_a", none), ("_law_made_b", none), ("_law_made_c", none)]
/-! ### the Hook: a part of the heap, laid out once -/
def refsG (g : Addr → Option Obj) (a : Addr) : List Addr := match g a with
  | some ⟨_, _, .dict es _, _⟩ => es.toList.flatMap fun e => He.refV e.val
  | _ => []
def codeG (g : Addr → Option Obj) (a : Addr) : List Addr := match g a with
  | some ⟨_, _, .func fd, _⟩ => He.refV fd.code
  | _ => []
def asY (g : Addr → Option Obj) : List Addr := sysModules :: mainGlobals :: (refsG g mainGlobals).flatMap fun a => a :: (match g a with
  | some ⟨_, _, .cls cd, _⟩ => cd.ns :: (refsG g cd.ns).flatMap fun f => f :: codeG g f
  | some ⟨_, _, .func fd, _⟩ => He.refV fd.code
  | _ => [])
def forceK {β : Type} : List (Addr × Obj) → (List (Addr × Obj) → β) → β
  | [], k => k []
  | p :: r, k => match p with
    | (a, o) => HandSHeadRun.frNat a fun a => forceK r fun K => k ((a, o) :: K)
theorem forceK_eq {β : Type} : ∀ (l : List (Addr × Obj)) (k : List (Addr × Obj) → β), forceK l k = k l
  | [], k => rfl
  | (a, o) :: r, k => by
    show HandSHeadRun.frNat a (fun a => forceK r fun K => k ((a, o) :: K)) = _
    rw [HandSHeadRun.frNat_eq, forceK_eq r]
abbrev AlY : Type := He.AlD × Bool
def ndT (K : PySem.W.Frag) : Bool := match tf.map (fun p => (He.cT K p).2) with
  | [a, b, c] => Nat.blt a b && Nat.blt b c
  | _ => false
/-- what is told -/
structure SaysY (h : Heap) (K : PySem.W.Frag) : Prop where
  d : He.SaysD fa fn K
  more : exB K = true
  hd : ∀ p ∈ tf, PySem.W.codeHdIn K (He.cT K p).1 (He.cT K p).2 = true
  out : ∀ p ∈ tf, K.lookup (He.cT K p).2 = none
  empty : ∀ p ∈ tf, h.get? (He.cT K p).2 = some { cls := .none, data := .fields #[] }
  nd : ndT K = true
def tabY (g : Addr → Option Obj) (K : PySem.W.Frag) : Bool := tf.all fun p => PySem.W.codeHdIn K (He.cT K p).1 (He.cT K p).2 && ((match g (He.cT K p).2 with
  | some o => He.emptyTab o
  | none => false) && (K.lookup (He.cT K p).2).isNone)
def obsY (g : Addr → Option Obj) : AlY := forceK (He.frG g (asY g)) fun K => (He.obsD fa fn K, exB K && (tabY g K && ndT K))
def valY : AlY := (He.valD fn, true)
theorem saysY_of {h : Heap} (e : obsY h.get? = valY) : SaysY h (He.frG h.get? (asY h.get?)) := by
  unfold obsY at e
  rw [forceK_eq] at e
  have e1 := congrArg (fun z : AlY => z.1) e
  have e2 : (exB (He.frG h.get? (asY h.get?)) && (tabY h.get? (He.frG h.get? (asY h.get?)) && ndT (He.frG h.get? (asY h.get?)))) = true := congrArg (fun z : AlY => z.2) e
  obtain ⟨h1, h2⟩ := He.ba e2
  obtain ⟨h2, h9⟩ := He.ba h2
  have key : ∀ p ∈ tf, PySem.W.codeHdIn (He.frG h.get? (asY h.get?)) (He.cT (He.frG h.get? (asY h.get?)) p).1 (He.cT (He.frG h.get? (asY h.get?)) p).2 = true ∧
      (He.frG h.get? (asY h.get?)).lookup (He.cT (He.frG h.get? (asY h.get?)) p).2 = none ∧ h.get? (He.cT (He.frG h.get? (asY h.get?)) p).2 = some { cls := .none, data := .fields #[] } := fun p hp => by
    obtain ⟨h3, h4⟩ := He.ba (List.all_eq_true.mp h2 p hp)
    obtain ⟨h5, h6⟩ := He.ba h4
    refine ⟨h3, Option.isNone_iff_eq_none.mp h6, ?_⟩
    cases q : h.get? (He.cT (He.frG h.get? (asY h.get?)) p).2 with
    | none =>
      rw [q] at h5
      cases h5
    | some o =>
      rw [q] at h5
      rw [He.emptyTab_eq h5]
  exact ⟨e1, h1, fun p hp => (key p hp).1, fun p hp => (key p hp).2.1, fun p hp => (key p hp).2.2, h9⟩
def hookY : PySem.W.Hook where
  α := AlY
  obs := fun s => obsY s.heap.get?
  val := fun _ => valY
  says := fun _ h => ∃ K : PySem.W.Frag, K.In h ∧ SaysY h K
  of := fun _ _ e => ⟨_, He.frG_in, saysY_of e⟩
  keeps := fun _ _ _ ⟨K, hK, c⟩ k => ⟨K, PySem.W.Frag.In.keeps hK k, ⟨c.d, c.more, c.hd, c.out, fun p hp => k _ _ (c.empty p hp), c.nd⟩⟩
theorem obsY_eq {g : Addr → Option Obj} {s : Shared} (h : ∀ a, g a = s.heap.get? a) : obsY g = hookY.obs s := by
  have e : g = s.heap.get? := funext h
  rw [e] <;> rfl
end E0
set_option Elab.async false
set_option linter.all false
set_option maxRecDepth 100000
set_option maxHeartbeats 0
namespace E0
open PySem PySem.Spec PyProof.Rows L2
abbrev R : PySem.W.OpenRow := PySem.W.OpenLaw.row PySem.Challenge.rw_mustcross_k00_errors_made
def ob (s : PySem.W.SharedT) : AlY := obsY (HandSHeadRun.getT s)
theorem ob_eq (s : PySem.W.SharedT) : ob s = hookY.obs s.abs := obsY_eq (HandSHeadRun.getT_eq s)
def loose : List Str := (("CrossError" : Str) :: nms) ++ lawNames.take 12
theorem run (w : World) : HandSHeadRun.RunEq R (PySem.W.view R.prog [61]) hookY ob 20000 loose w := by
  intro os
  kernel_rfl
end E0
set_option Elab.async false
set_option linter.all false
set_option maxRecDepth 100000
set_option maxHeartbeats 4000000
namespace E0
open PySem PySem.Spec PyProof.Rows L2
abbrev sStart : Stmt := topS 49
abbrev sDraw : Stmt := topS 50
abbrev sMixed : Stmt := topS 51
/-! ### the stream -/
structure StmAt (H : Hp) (p l : Addr) (c : Int) : Prop where
  ex : ∃ (ns : List Int) (b d : Int), H p = some (.lst [.ref l, .int b, .int c, .int d]) ∧ H l = some (.lst (ns.map V.int)) ∧ 0 ≤ b ∧ 0 ≤ d ∧ d < 2147483647
  ne : p ≠ l
/-- all but what stands at p and l stands as it stood -/
def But2 (H H' : Hp) (p l : Addr) : Prop := ∀ b o, H b = some o → b ≠ p → b ≠ l → H' b = some o
theorem But2.rfl {H : Hp} {p l : Addr} : But2 H H p l := fun _ _ e _ _ => e
theorem But2.trans {H H1 H2 : Hp} {p l : Addr} (a : But2 H H1 p l) (b : But2 H1 H2 p l) : But2 H H2 p l := fun x o e h1 h2 => b x o (a x o e h1 h2) h1 h2
theorem But2.updP {H : Hp} {p l : Addr} {o : HO} : But2 H (upd H p o) p l := fun x u e h1 _ => by rw [upd_ne h1]; exact e
theorem But2.updL {H : Hp} {p l : Addr} {o : HO} : But2 H (upd H l o) p l := fun x u e _ h2 => by rw [upd_ne h2]; exact e
theorem But2.new {H : Hp} {p l q : Addr} {o : HO} (h : H q = none) : But2 H (upd H q o) p l := fun x u e _ _ => by rw [upd_ne (ne_of_none e h)]; exact e
theorem dpInts {K : PySem.W.Frag} {H : Hp} : ∀ ns : List Int, DpAll K H (ns.map V.int) (ns.map PyData.int)
  | [] => .nil
  | n :: r => .cons (.int n) (dpInts r)
theorem laidInts : ∀ ns : List Int, PyData.canLayAll0 (ns.map PyData.int) = true
  | [] => rfl
  | n :: r => by
    show (PyData.canLay0 (.int n) && PyData.canLayAll0 (r.map PyData.int)) = true
    rw [laidInts r]
    rfl
theorem depthInts : ∀ ns : List Int, PyData.depthAll (ns.map PyData.int) = 0
  | [] => rfl
  | n :: r => by
    show max (PyData.depth (.int n)) (PyData.depthAll (r.map PyData.int)) = 0
    rw [depthInts r]
    rfl
theorem shapedInts (ns : List Int) : SeqAt.shaped (.list (ns.map PyData.int)) = true := by
  show (PyData.canLayAll0 (ns.map PyData.int) && decide (PyData.depthAll (ns.map PyData.int) + 1 ≤ 64)) = true
  rw [laidInts, depthInts]
  rfl
theorem eqvNil : ∀ ns : List Int, PyData.eqv (.list (ns.map PyData.int)) (.list []) = decide (ns = [])
  | [] => rfl
  | _ :: _ => rfl
theorem seq0 (n : Nat) : seqIndex? 0 (n + 1) = some 0 := by
  unfold seqIndex?
  simp
def spDraw : Sp := fun vs H Q _ => ∃ (p l : Addr) (c m : Int), vs = [.ref p, .int m] ∧ StmAt H p l c ∧ 0 ≤ c ∧ c < 1000000000 ∧ 0 < m ∧ m < 1000000 ∧
  ∀ (r : Int) (H' : Hp), 0 ≤ r → r < m → StmAt H' p l (c + 1) → But2 H H' p l → Q (.int r) H'
structure TxtD (mg : Str → Option Value) : Prop where
  int : mg "int" = none
  list : mg "list" = none
  len : mg "len" = none
  range : mg "range" = none
section
variable {P : Program} {w : World} {K : PySem.W.Frag} {mg : Str → Option Value} {base : Heap}
theorem scD : FnScope ["_law_stream", "_law_many", "_law_cell", "_law_digit", "_law_mixed_here"] ["_law_stream", "_law_many"] (defScope sDraw) := ⟨rfl, rfl, rfl, by decide +kernel, rfl, by decide +kernel, by decide +kernel⟩
theorem ok_draw {f : Addr} {fd : FuncData} (F : Fun K "_law_draw" "_law_draw" sDraw f fd) (T : TxtD mg) : FnOk P w K mg base CX0 1 f fd ["_law_stream", "_law_many"] spDraw := by
  refine F.ok scD (fun vs H Q E h => ?_) (fun cdv A outer s H vs Q E hr h => ?_)
  · obtain ⟨p, l, c, m, rfl, _⟩ := h
    rfl
  · obtain ⟨p, l, c, m, rfl, S, c0, c1, m0, m1, k⟩ := h
    have hu := hr.units
    refine ⟨_, pss_cons (ps_asg (pe_op op_add (pe_ix ix_list (pv 0) pe_int (fun _ _ => rfl)) pe_int) (pg_sub (pv 0) pe_int set_list))
      (pss_cons (ps_while PassesOwn.never
         (PW.pt (pw_and (pt_cmpR op_eq (pe_ix ix_list (pv 0) pe_int (fun _ _ => rfl)) pe_int (nomark _))
            (pw_and1 (pt_cmpR (op_neD hu) (pe_ix ix_list (pv 0) pe_int (fun _ _ => rfl)) (pe_lst pa_nil) (nomark _)))))
         (pss_cons (ps_set (i := 2) scD.nd rfl (Or.inl rfl) (pe_bm PySem.F.plainAttrs_list PySem.F.slot_list_pop PySem.F.type_list_pop mt_popAt (pe_ix ix_list (pv 0) pe_int (fun _ _ => rfl)) (pa_cons pe_int pa_nil)))
         (pss_cons (ps_asg (pe_op op_mod (pe_callTy call_int1 (by rfl) T.int PyProof.Rows.boot_int (pa_cons (pe_op op_add (pe_op op_add (pe_op op_mul (pe_ix ix_list (pv 0) pe_int (fun _ _ => rfl)) pe_int) (pv 2)) pe_int) pa_nil)) pe_int) (pg_sub (pv 0) pe_int set_list))
         (pss_one (ps_asg (pe_ifExp (pt_cmpR op_ge (pv 2) (pe_op op_pow pe_int pe_int) (nomark _)) (pv 2) pe_int) (pg_sub (pv 0) pe_int set_list))))))
      (pss_cons (ps_if (pt_cmpR op_gt (pe_ix ix_list (pv 0) pe_int (fun _ _ => rfl)) pe_int (nomark _))
         (pss_cons (ps_set (i := 3) scD.nd rfl (Or.inl rfl) (pe_op op_mod (pe_callTy call_int1 (by rfl) T.int PyProof.Rows.boot_int (pa_cons (pe_ix ix_list (pv 0) pe_int (fun _ _ => rfl)) pa_nil)) (pv 1)))
         (pss_cons (ps_asg (pe_op op_fdiv (pe_ix ix_list (pv 0) pe_int (fun _ _ => rfl)) (pv 1)) (pg_sub (pv 0) pe_int set_list))
         (pss_one (ps_ret (pv 3))))) pss_nil)
      (pss_cons (ps_set (i := 4) scD.nd rfl (Or.inl rfl) (pe_op op_mod (pe_callTy call_int1 (by rfl) T.int PyProof.Rows.boot_int (pa_cons (pe_op op_pow (pe_op op_add (pe_op op_add (pe_ix ix_list (pv 0) pe_int (fun _ _ => rfl)) (pe_op op_mul pe_int (pe_ix ix_list (pv 0) pe_int (fun _ _ => rfl)))) pe_int) pe_int) pa_nil)) pe_int))
      (pss_one (ps_ret (pe_op op_mod (pe_op op_mod (pe_callTy call_int1 (by rfl) T.int PyProof.Rows.boot_int (pa_cons (pe_op op_pow (pe_op op_add (pe_op op_add (pe_op op_mul (pv 4) pe_int) (pe_op op_mul pe_int (pe_ix ix_list (pv 0) pe_int (fun _ _ => rfl)))) pe_int) pe_int) pa_nil)) pe_int) (pv 1))))))), ?_⟩
    obtain ⟨⟨ns, b, d, hp, hl, b0, d0, d1⟩, hne⟩ := S
    -- stream[2] = stream[2] + 1
    refine ⟨_, rfl, p, _, 2, _, rfl, rfl, SqL.of hp, rfl, _, _, rfl, rfl, _, rfl, p, _, 2, 2, rfl, rfl, hp, rfl, ?_⟩
    -- while
    have e1 : (upd H p (.lst [.ref l, .int b, .int (c + 1), .int d])) l = some (.lst (ns.map V.int)) := by rw [upd_ne (Ne.symm hne)]; exact hl
    refine ⟨fun n σ H' => ∃ (v : Option V) (ns : List Int) (b d : Int), n = ns.length ∧ σ = [some (.ref p), some (.int m), v, none, none] ∧ H' p = some (.lst [.ref l, .int b, .int (c + 1), .int d]) ∧ H' l = some (.lst (ns.map V.int)) ∧ 0 ≤ b ∧ 0 ≤ d ∧ d < 2147483647 ∧ But2 H H' p l,
      ⟨ns.length, none, ns, b, d, rfl, rfl, upd_same, e1, b0, d0, d1, But2.updP⟩, ?_⟩
    rintro n σ H' ⟨v, ns, b, d, rfl, rfl, hp, hl, b0, d0, d1, s1⟩
    -- stream[1] == 0 and stream[0] != []
    refine ⟨_, rfl, p, _, 1, _, rfl, rfl, SqL.of hp, rfl, rfl, _, rfl, ?_⟩
    refine ite2 (fun hb => ?_) (fun hb => ?_)
    · refine ⟨_, rfl, p, _, 0, _, rfl, rfl, SqL.of hp, rfl, Nat.zero_le _, fun q hq => ?_⟩
      have hpq : p ≠ q := ne_of_none hp hq
      have hlq : l ≠ q := ne_of_none hl hq
      have hp1 : (upd H' q (.lst [])) p = some (.lst [.ref l, .int b, .int (c + 1), .int d]) := by rw [upd_ne hpq]; exact hp
      have hl1 : (upd H' q (.lst [])) l = some (.lst (ns.map V.int)) := by rw [upd_ne hlq]; exact hl
      have s2 : But2 H (upd H' q (.lst [])) p l := s1.trans (But2.new hq)
      refine ⟨_, _, Dp.lst (SqL.of hl1) (dpInts ns), Dp.lst (SqL.of upd_same) .nil, shapedInts ns, rfl, _, rfl, ?_⟩
      rw [eqvNil]
      refine ite2 (fun hn => ?_) (fun hn => ?_)
      · -- the body
        cases ns with
        | nil => cases hn
        | cons z r =>
          refine ⟨fun σ' H'' => ∃ (v : Option V) (b d : Int), σ' = [some (.ref p), some (.int m), v, none, none] ∧ H'' p = some (.lst [.ref l, .int b, .int (c + 1), .int d]) ∧ H'' l = some (.lst (r.map V.int)) ∧ 0 ≤ b ∧ 0 ≤ d ∧ d < 2147483647 ∧ But2 H H'' p l, ?_, ?_⟩
          · rintro σ' H'' ⟨v, b, d, rfl, h1, h2, h3, h4, h5, h6⟩
            exact ⟨r.length, Nat.lt_succ_self _, v, r, b, d, rfl, rfl, h1, h2, h3, h4, h5, h6⟩
          · refine ⟨_, rfl, p, _, 0, _, rfl, rfl, SqL.of hp1, rfl, .inl ⟨rfl, _, SqL.of hl1⟩, l, _, 0, 0, _, rfl, rfl, hl1, by decide, by decide, seq0 _, rfl, ?_⟩
            have hp2 : (upd (upd H' q (.lst [])) l (.lst (((z :: r).map V.int).eraseIdx 0))) p = some (.lst [.ref l, .int b, .int (c + 1), .int d]) := by rw [upd_ne hne]; exact hp1
            refine ⟨_, rfl, p, _, 3, _, rfl, rfl, SqL.of hp2, rfl, _, _, rfl, rfl, .inr ⟨by decide, by decide⟩, _, rfl, _, _, rfl, rfl, _, _, rfl, rfl, .inl ⟨_, rfl, _, _, rfl, rfl, (by decide : (0 : Int) < 2147483647), _, rfl, p, _, 3, 3, rfl, rfl, hp2, rfl, ?_⟩⟩
            refine ⟨_, rfl, _, _, rfl, rfl, ⟨by decide, by decide, by decide⟩, _, _, rfl, rfl, _, rfl, ?_⟩
            have d2 := Int.emod_nonneg (d * 8191 + z + 3) (by decide : (2147483647 : Int) ≠ 0)
            have d3 := Int.emod_lt_of_pos (d * 8191 + z + 3) (by decide : (0 : Int) < 2147483647)
            refine ite2 (fun hz => ?_) (fun hz => ?_)
            · have z0 : (0 : Int) ≤ z := Int.le_trans (by decide : (0 : Int) ≤ 10 ^ (18 : Int).toNat) (of_decide_eq_true hz)
              refine ⟨_, rfl, _, rfl, p, _, 1, 1, rfl, rfl, upd_same, rfl, some (.int z), z, _, rfl, upd_same, ?_, z0, d2, d3, s2.trans (But2.updL.trans (But2.updP.trans But2.updP))⟩
              rw [upd_ne (Ne.symm hne), upd_ne (Ne.symm hne), upd_same]
              rfl
            · refine ⟨_, rfl, p, _, 1, 1, rfl, rfl, upd_same, rfl, some (.int z), 0, _, rfl, upd_same, ?_, Int.le_refl _, d2, d3, s2.trans (But2.updL.trans (But2.updP.trans But2.updP))⟩
              rw [upd_ne (Ne.symm hne), upd_ne (Ne.symm hne), upd_same]
              rfl
      · refine ⟨_, rfl, p, _, 1, _, rfl, rfl, SqL.of hp1, rfl, _, _, rfl, rfl, _, rfl, ite2 (fun hg => ?_) (fun hg => ?_)⟩
        · have q0 := Int.emod_nonneg b (Int.ne_of_gt m0)
          have q1 := Int.emod_lt_of_pos b m0
          refine ⟨_, rfl, p, _, 1, _, rfl, rfl, SqL.of hp1, rfl, .inl ⟨_, rfl, _, rfl, _, _, rfl, rfl, m0, ?_⟩⟩
          refine ⟨_, rfl, p, _, 1, _, rfl, rfl, SqL.of hp1, rfl, _, rfl, _, _, rfl, rfl, ⟨m0, Int.lt_trans m1 (by decide)⟩, _, rfl, p, _, 1, 1, rfl, rfl, hp1, rfl, _, rfl, ?_⟩
          exact k _ _ q0 q1 ⟨⟨ns, b / m, d, upd_same, by rw [upd_ne (Ne.symm hne)]; exact hl1, Int.ediv_nonneg b0 (Int.le_of_lt m0), d0, d1⟩, hne⟩ (s2.trans But2.updP)
        · refine ⟨_, rfl, p, _, 3, _, rfl, rfl, SqL.of hp1, rfl, _, rfl, p, _, 2, _, rfl, rfl, SqL.of hp1, rfl, _, _, rfl, rfl, .inl ⟨by decide, by decide⟩, _, _, rfl, rfl, _, _, rfl, rfl, _, _, rfl, rfl, ⟨by decide, by decide, (by omega)⟩, .inl ⟨_, rfl, _, _, rfl, rfl, (by decide : (0 : Int) < 2147483629), ?_⟩⟩
          have g0 := Int.emod_nonneg ((d + 7919 * (c + 1) + 104729) ^ (5 : Int).toNat) (by decide : (2147483629 : Int) ≠ 0)
          have g1 := Int.emod_lt_of_pos ((d + 7919 * (c + 1) + 104729) ^ (5 : Int).toNat) (by decide : (0 : Int) < 2147483629)
          generalize hx : ((d + 7919 * (c + 1) + 104729) ^ (5 : Int).toNat) % 2147483629 = x at *
          refine ⟨_, rfl, _, _, rfl, rfl, .inr ⟨by decide, by decide⟩, _, rfl, p, _, 2, _, rfl, rfl, SqL.of hp1, rfl, _, _, rfl, rfl, .inl ⟨by decide, by decide⟩, _, _, rfl, rfl, _, _, rfl, rfl, _, _, rfl, rfl, ⟨by decide, by decide, (by omega)⟩, .inl ⟨_, rfl, _, _, rfl, rfl, (by decide : (0 : Int) < 1000000007), _, rfl, _, _, rfl, rfl, m0, ?_⟩⟩
          exact k _ _ (Int.emod_nonneg _ (Int.ne_of_gt m0)) (Int.emod_lt_of_pos _ m0) ⟨⟨ns, b, d, hp1, hl1, b0, d0, d1⟩, hne⟩ s2
    · refine ⟨_, rfl, p, _, 1, _, rfl, rfl, SqL.of hp, rfl, _, _, rfl, rfl, _, rfl, ite2 (fun hg => ?_) (fun hg => ?_)⟩
      · have q0 := Int.emod_nonneg b (Int.ne_of_gt m0)
        have q1 := Int.emod_lt_of_pos b m0
        refine ⟨_, rfl, p, _, 1, _, rfl, rfl, SqL.of hp, rfl, .inl ⟨_, rfl, _, rfl, _, _, rfl, rfl, m0, ?_⟩⟩
        refine ⟨_, rfl, p, _, 1, _, rfl, rfl, SqL.of hp, rfl, _, rfl, _, _, rfl, rfl, ⟨m0, Int.lt_trans m1 (by decide)⟩, _, rfl, p, _, 1, 1, rfl, rfl, hp, rfl, _, rfl, ?_⟩
        exact k _ _ q0 q1 ⟨⟨ns, b / m, d, upd_same, by rw [upd_ne (Ne.symm hne)]; exact hl, Int.ediv_nonneg b0 (Int.le_of_lt m0), d0, d1⟩, hne⟩ (s1.trans But2.updP)
      · refine ⟨_, rfl, p, _, 3, _, rfl, rfl, SqL.of hp, rfl, _, rfl, p, _, 2, _, rfl, rfl, SqL.of hp, rfl, _, _, rfl, rfl, .inl ⟨by decide, by decide⟩, _, _, rfl, rfl, _, _, rfl, rfl, _, _, rfl, rfl, ⟨by decide, by decide, (by omega)⟩, .inl ⟨_, rfl, _, _, rfl, rfl, (by decide : (0 : Int) < 2147483629), ?_⟩⟩
        have g0 := Int.emod_nonneg ((d + 7919 * (c + 1) + 104729) ^ (5 : Int).toNat) (by decide : (2147483629 : Int) ≠ 0)
        have g1 := Int.emod_lt_of_pos ((d + 7919 * (c + 1) + 104729) ^ (5 : Int).toNat) (by decide : (0 : Int) < 2147483629)
        generalize hx : ((d + 7919 * (c + 1) + 104729) ^ (5 : Int).toNat) % 2147483629 = x at *
        refine ⟨_, rfl, _, _, rfl, rfl, .inr ⟨by decide, by decide⟩, _, rfl, p, _, 2, _, rfl, rfl, SqL.of hp, rfl, _, _, rfl, rfl, .inl ⟨by decide, by decide⟩, _, _, rfl, rfl, _, _, rfl, rfl, _, _, rfl, rfl, ⟨by decide, by decide, (by omega)⟩, .inl ⟨_, rfl, _, _, rfl, rfl, (by decide : (0 : Int) < 1000000007), _, rfl, _, _, rfl, rfl, m0, ?_⟩⟩
        exact k _ _ (Int.emod_nonneg _ (Int.ne_of_gt m0)) (Int.emod_lt_of_pos _ m0) ⟨⟨ns, b, d, hp, hl, b0, d0, d1⟩, hne⟩ s1
end
end E0
set_option Elab.async false
set_option linter.all false
set_option maxRecDepth 100000
set_option maxHeartbeats 4000000
namespace E0
open PySem PySem.Spec PyProof.Rows L2
theorem StmAt.upd {H : Hp} {p l q : Addr} {c : Int} {o : HO} (S : StmAt H p l c) (h1 : p ≠ q) (h2 : l ≠ q) : StmAt (upd H q o) p l c := by
  obtain ⟨⟨ns, b, d, hp, hl, r⟩, hne⟩ := S
  exact ⟨⟨ns, b, d, by rw [upd_ne h1]; exact hp, by rw [upd_ne h2]; exact hl, r⟩, hne⟩
theorem StmAt.at (S : StmAt H p l c) : (∃ xs, H p = some (.lst xs)) ∧ ∃ xs, H l = some (.lst xs) := by
  obtain ⟨⟨ns, b, d, hp, hl, r⟩, hne⟩ := S
  exact ⟨⟨_, hp⟩, _, hl⟩
def spMixed (K : PySem.W.Frag) : Sp := fun vs H Q _ => ∃ (p l a : Addr) (c : Int) (xs : List V), vs = [.ref p, .ref a] ∧ StmAt H p l c ∧ 0 ≤ c ∧ c < 1000000 ∧ SqL K H a xs ∧ xs.length < 1000 ∧
  ∀ (q : Addr) (ys : List V) (H' : Hp), ys.Perm xs → StmAt H' p l (c + xs.length) → H q = none → H' q = some (.lst ys) → But2 H H' p l → Q (.ref q) H'
structure TxtM (K : PySem.W.Frag) (mg : Str → Option Value) (fD : Addr) : Prop where
  d : TxtD mg
  gD : mg "_law_draw" = some (.ref fD)
  kD : PySem.W.keepIn K (.ref fD) = true
theorem erase_perm {α : Type} : ∀ (l : List α) (k : Nat) (y : α), l[k]? = some y → (y :: l.eraseIdx k).Perm l
  | [], k, y, h => by simp at h
  | x :: r, 0, y, h => by
    have e : x = y := Option.some.inj h
    subst e
    exact .refl _
  | x :: r, k + 1, y, h => by
    have ih := erase_perm r k y h
    exact (List.Perm.swap x _ _).trans (ih.cons x)
theorem seqNat {r : Int} {n : Nat} (h0 : 0 ≤ r) (h1 : r < (n : Int)) : seqIndex? r n = some r.toNat := by
  unfold seqIndex?
  have e : (if r < 0 then r + (n : Int) else r) = r := if_neg (by omega)
  simp only [e]
  have e2 : (decide (0 ≤ r) && decide (r < (n : Int))) = true := by simp [h0, h1]
  rw [if_pos e2]
theorem yes_of {σ : L2.St} {H : Hp} {f g : Hp → Prop} (h : f H) : tYes σ H (fun b H3 => if b = true then f H3 else g H3) := by
  show (if true = true then f H else g H)
  exact iteT h
/-- left.pop(draw(stream, len(left))) -/
def tMixE (K : PySem.W.Frag) : TE := tBM K "list" rPopAt (tVar 2) (tCons (tCall spDraw [] L2.E0 (tCons (tVar 0) (tCons (tCB (fun xs H Q => ∃ p ys, xs = [.ref p] ∧ (SqL K H p ys ∨ SqT K H p ys) ∧ Q (.int ys.length) H) (tCons (tVar 2) tNil)) tNil))) tNil)
section
variable {P : Program} {w : World} {K : PySem.W.Frag} {mg : Str → Option Value} {base : Heap}
theorem scM : FnScope ["_law_stream", "_law_some", "_law_left", "_law_k"] ["_law_stream", "_law_some"] (defScope sMixed) := ⟨rfl, rfl, rfl, by decide +kernel, rfl, by decide +kernel, by decide +kernel⟩
theorem ok_mixed {f fD : Addr} {fd fdD : FuncData} (F : Fun K "_law_mixed" "_law_mixed" sMixed f fd) (T : TxtM K mg fD) (FD : Fun K "_law_draw" "_law_draw" sDraw fD fdD) (bD : Binds K fdD ["_law_stream", "_law_many"] []) : FnOk P w K mg base CX0 2 f fd ["_law_stream", "_law_some"] (spMixed K) := by
  have GD : FnOk P w K mg base CX0 1 fD fdD ["_law_stream", "_law_many"] spDraw := ok_draw FD T.d
  refine F.ok scM (fun vs H Q E h => ?_) (fun cdv A outer s H vs Q E hr h => ?_)
  · obtain ⟨p, l, a, c, xs, rfl, _⟩ := h
    rfl
  · obtain ⟨p, l, a, c, xs, rfl, S, c0, c1, hS, hlen, k⟩ := h
    refine ⟨_, pss_cons (ps_set (i := 2) scM.nd rfl (Or.inr rfl) (pe_callTy call_list_of (by rfl) T.d.list PyProof.Rows.boot_list (pa_cons (pv 1) pa_nil)))
      (pss_one (ps_ret (pe_lc (te := tMixE K) (own := [("_law_k", 3)]) (g := gName 3) (tt := tYes) rfl scM.nd (pi_range1 (by rfl) T.d.range (pa_cons (pe_callB call_len_seq (by rfl) T.d.len PySem.boot_len (pa_cons (pv 2) pa_nil)) pa_nil))
        (blkOk_by (own := [("_law_k", 3)]) (N := ["_law_stream", "_law_some", "_law_left", "_law_k"]) (sc := defScope sMixed) (by decide +kernel)) (fun _ _ _ _ _ => pg_name (i := 3) scM.nd rfl (Or.inl rfl)) (fun _ _ _ _ _ => pts_nil)
        ?he))), ?_⟩
    case he =>
      intro s1 H1 C1 cl1 fp1
      exact pe_bm PySem.F.plainAttrs_list PySem.F.slot_list_pop PySem.F.type_list_pop mt_popAt (pv 2) (pa_cons (pe_call GD hr (by rfl) T.gD T.kD bD .nil pass0 (pa_cons (pv 0) (pa_cons (pe_callB call_len_seq (by rfl) T.d.len PySem.boot_len (pa_cons (pv 2) pa_nil)) pa_nil))) pa_nil)
    obtain ⟨⟨_, hp⟩, _, hl⟩ := S.at
    refine ⟨_, rfl, a, xs, rfl, .inl hS, fun q hq => ?_⟩
    have hpq : p ≠ q := ne_of_none hp hq
    have hlq : l ≠ q := ne_of_none hl hq
    refine ⟨_, rfl, q, xs, rfl, .inl (SqL.of upd_same), _, rfl, by omega, by omega, fun D hD => ?_⟩
    have hDq : q ≠ D := ne_of_none upd_same hD
    have hpD : p ≠ D := ne_of_none (o := .lst _) (by rw [upd_ne hpq]; exact hp) hD
    have hlD : l ≠ D := ne_of_none (o := .lst _) (by rw [upd_ne hlq]; exact hl) hD
    have hDn : H D = none := by rw [upd_ne (Ne.symm hDq)] at hD; exact hD
    refine lc_range (fun i H' => ∃ acc left : List V, H' D = some (.lst acc) ∧ H' q = some (.lst left) ∧ (acc ++ left).Perm xs ∧ acc.length = i ∧ StmAt H' p l (c + i) ∧ But2 H H' p l) ⟨[], xs, upd_same, by rw [upd_ne hDq]; exact upd_same, .refl _, rfl, ?_, ?_⟩ ?_ ?_
    · have e : c + ((0 : Nat) : Int) = c := by omega
      rw [e]
      exact (S.upd hpq hlq).upd hpD hlD
    · exact (But2.new hq).trans (But2.new hD)
    · rintro i H' hi ⟨acc, left, eD, eq, hperm, hacc, S', B⟩
      have hlf : acc.length + left.length = xs.length := by rw [← List.length_append]; exact hperm.length_eq
      refine ⟨rfl, yes_of ?_⟩
      refine ⟨_, rfl, .inl ⟨rfl, _, SqL.of eq⟩, _, rfl, _, rfl, q, left, rfl, .inl (SqL.of eq), p, l, c + i, (left.length : Int), rfl, S', by omega, by omega, by omega, by omega, fun r H2 r0 r1 S2 B2 => ?_⟩
      have eq2 : H2 q = some (.lst left) := B2 q _ eq (Ne.symm hpq) (Ne.symm hlq)
      have eD2 : H2 D = some (.lst acc) := B2 D _ eD (Ne.symm hpD) (Ne.symm hlD)
      obtain ⟨y, hy⟩ : ∃ y, left[r.toNat]? = some y := ⟨left[r.toNat]'(by omega), List.getElem?_eq_getElem _⟩
      refine ⟨q, left, r, r.toNat, y, rfl, rfl, eq2, by omega, by omega, seqNat r0 r1, hy, acc, ?_, small1000 (by omega), acc ++ [y], left.eraseIdx r.toNat, upd_same, ?_, ?_, ?_, ?_, ?_⟩
      · rw [upd_ne (Ne.symm hDq)]; exact eD2
      · rw [upd_ne hDq]; exact upd_same
      · rw [List.append_assoc]
        exact ((erase_perm left _ y hy).append_left acc).trans hperm
      · rw [List.length_append, hacc]; rfl
      · have e : c + ((i + 1 : Nat) : Int) = c + i + 1 := by omega
        rw [e]
        exact (S2.upd hpq hlq).upd hpD hlD
      · exact fun b o e h1 h2 => by
          rw [upd_ne (ne_of_none e hDn), upd_ne (ne_of_none e hq)]
          exact B2 b o (B b o e h1 h2) h1 h2
    · rintro H' ⟨acc, left, eD, eq, hperm, hacc, S', B⟩
      have hlf : acc.length + left.length = xs.length := by rw [← List.length_append]; exact hperm.length_eq
      have hl0 : left = [] := List.eq_nil_of_length_eq_zero (by omega)
      subst hl0
      rw [List.append_nil] at hperm
      have e : c + (((xs.length : Int).toNat : Nat) : Int) = c + xs.length := by omega
      rw [e] at S'
      exact k D acc H' hperm S' hDn eD B
theorem scS : FnScope ["_law_script"] ["_law_script"] (defScope sStart) := ⟨rfl, rfl, rfl, by decide +kernel, rfl, by decide +kernel, by decide +kernel⟩
def spStart (K : PySem.W.Frag) : Sp := fun vs H Q _ => ∃ (a : Addr) (ns : List Int), vs = [.ref a] ∧ SqL K H a (ns.map V.int) ∧ ∀ (p l : Addr) (H' : Hp), StmAt H' p l 0 → H p = none → H l = none → Same H H' → Q (.ref p) H'
theorem ok_start {f : Addr} {fd : FuncData} (F : Fun K "_law_start" "_law_start" sStart f fd) (T : TxtD mg) : FnOk P w K mg base CX0 1 f fd ["_law_script"] (spStart K) := by
  refine F.ok scS (fun vs H Q E h => ?_) (fun cdv A outer s H vs Q E hr h => ?_)
  · obtain ⟨a, ns, rfl, _⟩ := h
    rfl
  · obtain ⟨a, ns, rfl, hS, k⟩ := h
    refine ⟨_, pss_one (ps_ret (pe_lst (pa_cons (pe_callTy call_list_of (by rfl) T.list PyProof.Rows.boot_list (pa_cons (pv 0) pa_nil)) (pa_cons pe_int (pa_cons pe_int (pa_cons pe_int pa_nil)))))), ?_⟩
    refine ⟨_, rfl, a, _, rfl, .inl hS, fun l hl => ⟨by show 4 ≤ sizeLine; decide, fun p hp => ?_⟩⟩
    have hlp : l ≠ p := ne_of_none upd_same hp
    have hpn : H p = none := by rw [upd_ne (Ne.symm hlp)] at hp; exact hp
    refine k p l _ ⟨⟨ns, 0, 11, upd_same, by rw [upd_ne hlp]; exact upd_same, by decide, by decide, by decide⟩, Ne.symm hlp⟩ hpn hl fun b o e => ?_
    rw [upd_ne (ne_of_none e hpn), upd_ne (ne_of_none e hl)]
    exact e
end
end E0
set_option Elab.async false
set_option linter.all false
set_option maxRecDepth 100000
set_option maxHeartbeats 4000000
/-! An own exception made by a call with keywords. -/
namespace PySem
namespace E0K
open PySem.HandSPX Builtin Builtin.ObjectAttr
section
variable {prog : Program} {w : World} {A : Around} {R : Result → Shared → Prop} {h : Heap} {g : Array GenState} {d : Drawn} {t : Nat} {os : OsState}
variable {nm q : Str} {C N : Addr} {bs bm bmB : List Value} {hdct : Bool} {sn : List Str} {sub : List Value} {ab : Bool} {col : Option Bool} {dd : Option Addr} {k0 k1 k2 k3 k5 : Option Value} {B newId initId : String}
theorem kw_check {M : Model} {E : Value → Shared → Prop} (F : ExcBaseFacts B newId initId bmB) (hT : ∀ X : String, bm.contains (.type X) = bmB.contains (.type X)) {rest : List Value} {kw : List (Str × Value)} {Q : Unit → Shared → Prop}
    (hC : h.get? C = some (excClassObj nm q C N bs bm hdct sn sub ab col dd k0 k1 k2 k3 k5 newId)) (hq : Q () ⟨h, g, d, t, os⟩) :
    wpAny M A (checkBuiltinCall newId ⟨.ref C :: rest, kw⟩) Q E ⟨h, g, d, t, os⟩ := by
  have cB : (Value.ref C :: bm).contains (.type B) = true := by rw [List.contains_cons, hT, F.hasB, Bool.or_true]
  have st := F.noStar
  simp only [checkBuiltinCall, F.newKind, F.newSplit, F.newRow]
  repeat (first
    | refine wpAny_loadPart_at hC ?_
    | (refine wpAny_isSubtype_exc hC ?_; rw [cB])
    | refine wpAny_staticBase_exc hC ?_
    | refine wpAny_madeBy_exc hC ?_
    | simp only [bne_self_eq_false, Bool.false_eq_true, if_false]
    | wp_step)
  exact hq
theorem kw_new (F : ExcBaseFacts B newId initId bmB) (hT : ∀ X : String, bm.contains (.type X) = bmB.contains (.type X)) {rest : List Value} {kw : List (Str × Value)}
    (hC : h.get? C = some (excClassObj nm q C N bs bm hdct sn sub ab col dd k0 k1 k2 k3 k5 newId))
    (hq : R (.ok (.ret (.ref (h.objs.size + 1)))) ⟨(h.push (W.kdv_tup rest)).push (excO C h.objs.size), g, d, t, os⟩) (hz : rest.length ≤ sizeLine) :
    codeAny (model prog w) A (.builtin newId ⟨.ref C :: rest, kw⟩) R ⟨h, g, d, t, os⟩ := by
  have en := F.ends
  have cB : (Value.ref C :: bm).contains (.type B) = true := by rw [List.contains_cons, hT, F.hasB, Bool.or_true]
  have cA : (Value.ref C :: bm).contains (.type "AttributeError") = false := by rw [List.contains_cons, hT, F.noAttr]; rfl
  have cN : (Value.ref C :: bm).contains (.type "NameError") = false := by rw [List.contains_cons, hT, F.noName]; rfl
  refine codeAny_builtinAt F.entry ?_
  unfold Builtin.«BaseException.__new__»
  refine wpAt_bind ?_
  show wpAt _ _ _ (stack >>= _) _ _ _
  refine wpAt_bind (wpAt_stack fun p below => wpAt_of_wpAny ?_)
  wp_walk
  refine wpAt_of_wpAny ?_
  rw [F.owner]
  repeat (first
    | with_reducible refine wpAny_madeHere_exc F.canon hC ?_
    | with_reducible refine wpAny_loadPart_at hC ?_
    | (with_reducible refine wpAny_isSubtype_exc hC ?_; first | rw [cB] | rw [cA] | rw [cN])
    | wp_step)
  show R _ _
  rw [Heap.size_push]
  exact hq
theorem kw_type (F : ExcBaseFacts B newId initId bmB) (hT : ∀ X : String, bm.contains (.type X) = bmB.contains (.type X)) {rest : List Value} {kw : List (Str × Value)} {fI : Addr} {Q : Fin → Shared → Prop} {E : Value → Shared → Prop}
    (hC : h.get? C = some (excClassObj nm q C N bs bm hdct sn sub ab col dd k0 k1 k2 k3 k5 newId))
    (hi : W.Looks (model prog w) h (typeLookup (.ref C) "__init__") (some (.ref fI))) (hb : ∀ self, W.Looks (model prog w) h (bindSpecial (.ref fI) self) (.ref fI, [self])) (hz : rest.length ≤ sizeLine)
    (hq : codeAny (model prog w) A (.call (.ref fI) ⟨.ref (h.objs.size + 1) :: rest, kw⟩)
      (fun r s' => match r with | .ok (.ret v) => v = .none ∧ Q (.done (.ret (.ref (h.objs.size + 1)))) s' | .ok _ => False | .error e => E e s')
      ⟨(h.push (W.kdv_tup rest)).push (excO C h.objs.size), g, d, t, os⟩) :
    wpAny (model prog w) A (Builtin.«type.__call__» ⟨.ref C :: rest, kw⟩) Q E ⟨h, g, d, t, os⟩ := by
  repeat (first
    | with_reducible refine wpAny_loadPart_at hC ?_
    | with_reducible refine wpAny_madeBy_exc hC ?_
    | wp_step)
  refine codeAny_call_builtin_code (Code.quiet_builtin _ F.quiet) (kw_check F hT hC ?_)
  refine kw_new F hT hC ?_ hz
  show wpAny _ _ _ _ _ _
  have k : ∀ b o, h.get? b = some o → ((h.push (W.kdv_tup rest)).push (excO C h.objs.size)).get? b = some o := fun b o e => Heap.get?_push_of_some _ (Heap.get?_push_of_some _ e)
  have hC1 := k _ _ hC
  have hg : ((h.push (W.kdv_tup rest)).push (excO C h.objs.size)).get? (h.objs.size + 1) = some (excO C h.objs.size) := by heap_get
  have cC : (Value.ref C :: bm).contains (.ref C) = true := by simp
  have i1 := hi.keeps k
  have b1 := (hb (.ref (h.objs.size + 1))).keeps k
  unfold isInstance
  repeat (first
    | with_reducible refine wpAny_loadPart_at hg ?_
    | (with_reducible refine wpAny_isSubtype_exc hC1 ?_; rw [cC])
    | wp_step)
  show wpAny _ _ (typeLookup (.ref C) _) _ _ _
  refine i1.at ?_
  refine wpAny_holding (wpAny_bind (b1.at ?_))
  refine wpAny_bind (wpAny_call (codeAny_mono hq fun r s' z => ?_))
  rcases r with e | (v | _ | _ | _) <;> first | exact z | exact z.elim | skip
  obtain ⟨rfl, z⟩ := z
  first
    | exact wpAny_pure (wpAny_pure z)
    | (wp_walk; exact z)
theorem kw_call (F : ExcBaseFacts B newId initId bmB) (hT : ∀ X : String, bm.contains (.type X) = bmB.contains (.type X)) {rest : List Value} {kw : List (Str × Value)} {fI : Addr}
    (hC : h.get? C = some (excClassObj nm q C N bs bm hdct sn sub ab col dd k0 k1 k2 k3 k5 newId))
    (hi : W.Looks (model prog w) h (typeLookup (.ref C) "__init__") (some (.ref fI))) (hb : ∀ self, W.Looks (model prog w) h (bindSpecial (.ref fI) self) (.ref fI, [self])) (hz : rest.length ≤ sizeLine)
    (hq : codeAny (model prog w) (A.under (.builtin "type.__call__" ⟨.ref C :: rest, kw⟩)) (.call (.ref fI) ⟨.ref (h.objs.size + 1) :: rest, kw⟩) (W.InitBack (h.objs.size + 1) R)
      ⟨(h.push (W.kdv_tup rest)).push (excO C h.objs.size), g, d, t, os⟩) :
    codeAny (model prog w) A (.call (.ref C) ⟨rest, kw⟩) R ⟨h, g, d, t, os⟩ := by
  have f1 := tc_lookup
  have f2 := tc_bind (.ref C)
  have hTy : (⟨h, g, d, t, os⟩ : Shared).TypeIs (.ref C) "type" := ⟨_, hC, rfl⟩
  refine codeAny_of_tree ?_
  show wpAny _ _ (callAny (.ref C) _) _ _ _
  repeat (any_goals (first
    | assumption
    | with_reducible refine wpAny_loadPart_at hC ?_
    | wp_step))
  refine ⟨rfl, ?_⟩
  refine codeAny_call_builtin_at (Code.quiet_builtin _ (by decide +kernel)) entry_typeCall (wpAny_check_type_call_sub hC (kw_type F hT hC hi hb hz ?_))
  refine codeAny_mono hq fun r s' z => ?_
  rcases r with e | (v | _ | _ | _) <;> exact z
end
end E0K
end PySem
set_option Elab.async false
set_option linter.all false
set_option maxRecDepth 100000
set_option maxHeartbeats 4000000
/-! The errors' classes: what the looks of the head give. -/
namespace E0
open PySem PySem.Spec PyProof.Rows L2
/-! ### from the looks -/
structure ClsF (K : PySem.W.Frag) (C : Addr) (bm : List Value) (fs : List Str) (ini : Option Addr) : Prop where
  cls : ∃ nm q N bs sn sub ab col dd k0 k1 k2 k3 k5, K.lookup C = some (excClassObj nm q C N bs bm true sn sub ab col dd k0 k1 k2 k3 k5 "ValueError.__new__") ∧
    (∀ x ∈ baseNames ++ fs, PySem.W.nsIn K N x = some none) ∧ PySem.W.nsIn K N "__init__" = some (ini.map Value.ref)
theorem clsF_of {K : PySem.W.Frag} {C : Addr} {bm : List Value} {fs : List Str} {ini : Option Addr} (h : clsB K C bm fs ini = true) : ClsF K C bm fs ini := by
  unfold clsB at h
  cases e : clsN K C bm with
  | none =>
    rw [e] at h
    cases h
  | some N =>
    rw [e] at h
    obtain ⟨h1, h2⟩ := He.ba h
    unfold clsN at e
    cases q : K.lookup C with
    | none =>
      rw [q] at e
      cases e
    | some o =>
      obtain ⟨oc, od, dt, sl⟩ := o
      rw [q] at e
      cases oc with
      | type t =>
        cases dt with
        | cls cd =>
          obtain ⟨nm, bs, mro, ns, qn, hd, sn, sub, ab, col, del⟩ := cd
          obtain ⟨sl⟩ := sl
          dsimp only at e
          split at e
          · rename_i hb
            obtain ⟨b1, b2⟩ := He.ba hb
            obtain ⟨b3, b4⟩ := He.ba b2
            obtain ⟨b5, b6⟩ := He.ba b4
            obtain ⟨b7, b8⟩ := He.ba b6
            have e1 : t = "type" := of_decide_eq_true b1
            have e2 : mro = .ref C :: bm := of_decide_eq_true b3
            have e3 : hd = true := b5
            have e4 : del = false := by
              cases del with
              | false => rfl
              | true => cases b7
            have e5 : ns = N := Option.some.inj e
            subst e1 e2 e3 e4 e5
            split at b8
            · rename_i _ k0 k1 k2 k3 n k5
              have e6 : n = "ValueError.__new__" := of_decide_eq_true b8
              subst e6
              exact ⟨nm, qn, ns, bs, sn, sub, ab, col, od, k0, k1, k2, k3, k5, q, fun x hx => of_decide_eq_true (List.all_eq_true.mp h1 x hx), of_decide_eq_true h2⟩
            · cases b8
          · cases e
        | _ => cases e
      | _ => cases dt <;> cases e
theorem own_none {K : PySem.W.Frag} {C N : Addr} {nm q : Str} {bs bm : List Value} {hd : Bool} {sn : List Str} {sub : List Value} {ab : Bool} {col : Option Bool} {dd : Option Addr} {k0 k1 k2 k3 k5 : Option Value} {id : String} {x : Str} {r : Option Value}
    (lk : K.lookup C = some (excClassObj nm q C N bs bm hd sn sub ab col dd k0 k1 k2 k3 k5 id)) (hn : PySem.W.nsIn K N x = some r) : PySem.W.ownIn K x (.ref C) = some r := by
  show (match K.lookup C with
    | some ⟨_, _, .cls cd, _⟩ => PySem.W.nsIn K cd.ns x
    | _ => none) = some r
  rw [lk]
  exact hn
theorem along_cons {K : PySem.W.Frag} {x : Str} {c : Value} {l : List Value} (h : PySem.W.ownIn K x c = some none) : PySem.W.alongIn K x (c :: l) = PySem.W.alongIn K x l := by
  conv => lhs; unfold PySem.W.alongIn
  rw [h]
theorem along_ty (K : PySem.W.Frag) (x : Str) : ∀ l : List String, PySem.W.alongIn K x (l.map Value.type) = PySem.W.alongIn [] x (l.map Value.type)
  | [] => rfl
  | n :: r => by
    have ih := along_ty K x r
    show PySem.W.alongIn K x (Value.type n :: r.map Value.type) = PySem.W.alongIn [] x (Value.type n :: r.map Value.type)
    unfold PySem.W.alongIn
    rw [ih]
    rfl
theorem along_ve (K : PySem.W.Frag) (x : Str) : PySem.W.alongIn K x veT = PySem.W.alongIn [] x veT := along_ty K x ["ValueError", "Exception", "BaseException", "object"]
theorem ClsF.find {K : PySem.W.Frag} {C : Addr} {bm : List Value} {fs : List Str} {ini : Option Addr} (F : ClsF K C bm fs ini) {x : Str} (hx : x ∈ baseNames ++ fs) : PySem.W.findIn K (.ref C) x = PySem.W.alongIn K x bm ∧ PySem.W.ownIn K x (.ref C) = some none := by
  obtain ⟨nm, q, N, bs, sn, sub, ab, col, dd, k0, k1, k2, k3, k5, lk, hn, _⟩ := F.cls
  have o := own_none lk (hn x hx)
  refine ⟨?_, o⟩
  show (match K.lookup C with
    | some ⟨_, _, .cls cd, _⟩ => PySem.W.alongIn K x cd.mro
    | _ => none) = _
  rw [lk]
  exact along_cons o
theorem ve_sa : PySem.W.alongIn [] "__setattr__" veT = some (some (.builtin "object.__setattr__")) := by decide +kernel
theorem ve_ga : PySem.W.alongIn [] "__getattribute__" veT = some (some (.builtin "BaseException.__getattribute__")) := by decide +kernel
theorem ve_gg : PySem.W.alongIn [] "__getattr__" veT = some none := by decide +kernel
theorem ve_cl : PySem.W.alongIn [] "__class__" veT = some (some (.builtin "object.__class__")) := by decide +kernel
theorem ve_fl : ∀ x ∈ allFlds, PySem.W.alongIn [] x veT = some none := by decide +kernel
theorem sp_get (K : PySem.W.Frag) : PySem.W.specialIn K (.builtin "object.__class__") "__get__" = some (some (.builtin "getset_descriptor.__get__")) := by
  show PySem.W.specialIn [] (.builtin "object.__class__") "__get__" = _
  decide +kernel
theorem sp_tak (K : PySem.W.Frag) : PySem.W.takesIn K (.builtin "object.__class__") = some true := by
  show PySem.W.takesIn [] (.builtin "object.__class__") = _
  decide +kernel
/-! ### one class -/
section
variable {K : PySem.W.Frag} {C N : Addr} {nm q : Str} {bs bm : List Value} {sn : List Str} {sub : List Value} {ab : Bool} {col : Option Bool} {dd : Option Addr} {k0 k1 k2 k3 k5 : Option Value}
theorem lk_cls (lk : K.lookup C = some (excClassObj nm q C N bs bm true sn sub ab col dd k0 k1 k2 k3 k5 "ValueError.__new__")) :
    PySem.W.clsIn K C = some { name := nm, bases := bs, mro := .ref C :: bm, ns := N, qualname := q, hasDict := true, slotNames := sn, subclasses := sub, abstract := ab, collection := col, hasDel := false } := by
  unfold PySem.W.clsIn
  rw [lk]
theorem lk_sub (lk : K.lookup C = some (excClassObj nm q C N bs bm true sn sub ab col dd k0 k1 k2 k3 k5 "ValueError.__new__")) (b : Value) : PySem.W.subIn K (.ref C) b = some ((Value.ref C :: bm).contains b) := by
  show PySem.W.mroIn K C b = _
  unfold PySem.W.mroIn
  rw [lk_cls lk]
  rfl
theorem lk_ty (lk : K.lookup C = some (excClassObj nm q C N bs bm true sn sub ab col dd k0 k1 k2 k3 k5 "ValueError.__new__")) : PySem.W.typeIn K (.ref C) = some (.type "type") := by
  show (K.lookup C).map (·.cls) = _
  rw [lk]
  rfl
theorem ty_call : PySem.W.findIn [] (.type "type") "__call__" = some (some (.builtin "type.__call__")) := by decide +kernel
theorem lk_keep (lk : K.lookup C = some (excClassObj nm q C N bs bm true sn sub ab col dd k0 k1 k2 k3 k5 "ValueError.__new__")) : PySem.W.keepIn K (.ref C) = true := by
  have e : PySem.W.specialIn K (.ref C) "__call__" = some (some (.builtin "type.__call__")) := by
    unfold PySem.W.specialIn
    rw [lk_ty lk]
    exact ty_call
  show (match K.lookup C with
    | some ⟨_, _, .func _, _⟩ => true
    | some ⟨_, _, .cls _, _⟩ => PySem.W.specialIn K (.ref C) "__call__" == some (some (.builtin "type.__call__"))
    | _ => false) = true
  rw [lk, e]
  show ((some (some (Value.builtin "type.__call__")) : Option (Option Value)) == some (some (Value.builtin "type.__call__"))) = true
  decide
theorem lk_hd (lk : K.lookup C = some (excClassObj nm q C N bs bm true sn sub ab col dd k0 k1 k2 k3 k5 "ValueError.__new__")) : PySem.W.hasDictIn K C = true := by
  unfold PySem.W.hasDictIn
  rw [lk_cls lk]
  rfl
theorem lk_bex (lk : K.lookup C = some (excClassObj nm q C N bs bm true sn sub ab col dd k0 k1 k2 k3 k5 "ValueError.__new__")) (hm : PySem.HandSPX.refsVE bm = true) (T : String) (hT : PySem.HandSPX.veTail.contains (.type T) = true) : PySem.W.subIn K (.ref C) (.type T) = some true := by
  rw [lk_sub lk, PySem.HandSPX.refsVE_contains T (.ref C :: bm) hm, hT]
end
/-- what the rules ask of a class of errors -/
structure Cf (K : PySem.W.Frag) (C : Addr) (fs : List Str) (bm : List Value) : Prop where
  oex : OexC K C
  xf : XfC K C
  ec : ExcC K C
  no : ∀ f ∈ fs, PySem.W.findIn K (.ref C) f = some none
  sub : ∀ b, PySem.W.subIn K (.ref C) b = some ((Value.ref C :: bm).contains b)
  ty : PySem.W.typeIn K (.ref C) = some (.type "type")
  isC : (PySem.W.clsIn K C).isSome = true
theorem cf_of {K : PySem.W.Frag} {C : Addr} {bm : List Value} {fs : List Str} {ini : Option Addr} (F : ClsF K C bm fs ini) (hm : PySem.HandSPX.refsVE bm = true) (al : ∀ x ∈ baseNames ++ fs, PySem.W.alongIn K x bm = PySem.W.alongIn K x veT) (hf : ∀ f ∈ fs, f ∈ allFlds) : Cf K C fs bm := by
  have fd : ∀ x ∈ baseNames ++ fs, PySem.W.findIn K (.ref C) x = PySem.W.alongIn [] x veT := fun x hx => by rw [(F.find hx).1, al x hx, along_ve]
  obtain ⟨nm, q, N, bs, sn, sub, ab, col, dd, k0, k1, k2, k3, k5, lk, hn, hi⟩ := F.cls
  have sa := (fd "__setattr__" (List.mem_append_left _ (by decide))).trans ve_sa
  have ga := (fd "__getattribute__" (List.mem_append_left _ (by decide))).trans ve_ga
  have gg := (fd "__getattr__" (List.mem_append_left _ (by decide))).trans ve_gg
  have cl := (fd "__class__" (List.mem_append_left _ (by decide))).trans ve_cl
  have ex := lk_bex lk hm "BaseException" (by decide)
  exact ⟨⟨⟨nm, q, N, bs, bm, sn, sub, ab, col, dd, k0, k1, k2, k3, k5, lk, hm⟩, sa, ex, lk_ty lk, lk_keep lk⟩, ⟨ga, gg, ex, lk_hd lk⟩, ⟨ga, gg, ex, lk_hd lk, cl, sp_get K, sp_tak K, by rw [← lk_bex lk hm "object" (by decide)]; rfl⟩,
    fun f h => (fd f (List.mem_append_right _ h)).trans (ve_fl f (hf f h)), lk_sub lk, lk_ty lk, by rw [lk_cls lk]; rfl⟩
/-! ### all of them -/
theorem chain_lt : ∀ (l : List Nat) (a : Nat), chainB a l = true → ∀ b ∈ l, a < b
  | [], _, _, _, h => by cases h
  | c :: r, a, h, b, hb => by
    obtain ⟨h1, h2⟩ := He.ba (show (Nat.blt a c && chainB c r) = true from h)
    have h3 : a < c := Nat.le_of_ble_eq_true h1
    rcases List.mem_cons.mp hb with rfl | hb
    · exact h3
    · exact Nat.lt_trans h3 (chain_lt r c h2 b hb)
theorem chain_inj : ∀ (l : List Nat) (a : Nat), chainB a l = true → ∀ (i j x : Nat), l[i]? = some x → l[j]? = some x → i = j
  | [], _, _, i, _, _, h, _ => by simp at h
  | c :: r, a, h, i, j, x, h1, h2 => by
    obtain ⟨_, hr⟩ := He.ba (show (Nat.blt a c && chainB c r) = true from h)
    cases i with
    | zero => cases j with
      | zero => rfl
      | succ j =>
        have e1 : c = x := Option.some.inj h1
        have e2 : r[j]? = some x := h2
        exact absurd (chain_lt r c hr x (List.mem_of_getElem? e2)) (by rw [e1]; exact Nat.lt_irrefl _)
    | succ i => cases j with
      | zero =>
        have e1 : c = x := Option.some.inj h2
        have e2 : r[i]? = some x := h1
        exact absurd (chain_lt r c hr x (List.mem_of_getElem? e2)) (by rw [e1]; exact Nat.lt_irrefl _)
      | succ j => exact congrArg Nat.succ (chain_inj r c hr i j x h1 h2)
theorem flds_all : ∀ i, i < 46 → ∀ f ∈ flds i, f ∈ allFlds := by decide +kernel
structure AllF (K : PySem.W.Frag) : Prop where
  one : ∀ i, i < 46 → Cf K (cA K i) (flds i) (.ref (ceA K) :: veT)
  ini : ∀ i, i < 46 → flds i ≠ [] → PySem.W.findIn K (.ref (cA K i)) "__init__" = some (some (.ref (fA K i))) ∧ PySem.W.typeIn K (.ref (fA K i)) = some (.type "function")
  ce : Cf K (ceA K) allFlds veT
  exc : PySem.W.excIn K (ceA K) He.veBase "ValueError.__new__" = true ∧ ∀ i, i < 46 → flds i = [] → PySem.W.excIn K (cA K i) He.veBase "ValueError.__new__" = true
  inj : ∀ i j, i < 46 → j < 46 → cA K i = cA K j → i = j
  neC : ∀ i, i < 46 → cA K i ≠ ceA K
  sys : ∃ o, K.lookup sysModules = some o
theorem allF_of {K : PySem.W.Frag} (h : exB K = true) : AllF K := by
  obtain ⟨h1, h⟩ := He.ba h
  obtain ⟨h0, h⟩ := He.ba h
  obtain ⟨h2, h⟩ := He.ba h
  obtain ⟨h3, h⟩ := He.ba h
  obtain ⟨h4, h5⟩ := He.ba h
  have cF := clsF_of h2
  have on : ∀ i, i < 46 → oneB K i = true := fun i hi => List.all_eq_true.mp h1 i (List.mem_range.mpr hi)
  have oF : ∀ i, i < 46 → ClsF K (cA K i) (.ref (ceA K) :: veT) (flds i) (iniOf K i) := fun i hi => clsF_of (He.ba (on i hi)).1
  have al : ∀ x ∈ baseNames ++ allFlds, PySem.W.alongIn K x (.ref (ceA K) :: veT) = PySem.W.alongIn K x veT := fun x hx => along_cons (cF.find hx).2
  have mm : ∀ i (hi : i < 46), (((List.range 46).map (cA K))[i]?) = some (cA K i) := fun i hi => by
    rw [List.getElem?_map, List.getElem?_range hi]
    rfl
  refine ⟨fun i hi => cf_of (oF i hi) rfl (fun x hx => al x ?_) (flds_all i hi), fun i hi hne => ?_, cf_of cF rfl (fun _ _ => rfl) (fun _ h => h), ⟨h4, fun i hi e => ?_⟩, fun i j hi hj e => ?_, fun i hi e => ?_, Option.isSome_iff_exists.mp h0⟩
  · rcases List.mem_append.mp hx with h | h
    · exact List.mem_append_left _ h
    · exact List.mem_append_right _ (flds_all i hi x h)
  · obtain ⟨_, t⟩ := He.ba (on i hi)
    have ei : iniOf K i = some (fA K i) := by
      unfold iniOf
      cases e : flds i with
      | nil => exact absurd e hne
      | cons a r => rfl
    rw [ei] at t
    have t2 : PySem.W.typeIn K (.ref (fA K i)) = some (.type "function") := of_decide_eq_true t
    refine ⟨?_, t2⟩
    obtain ⟨nm, q, N, bs, sn, sub, ab, col, dd, k0, k1, k2, k3, k5, lk, hn, hI⟩ := (oF i hi).cls
    rw [ei] at hI
    show (match K.lookup (cA K i) with
      | some ⟨_, _, .cls cd, _⟩ => PySem.W.alongIn K "__init__" cd.mro
      | _ => none) = _
    rw [lk]
    show PySem.W.alongIn K "__init__" (.ref (cA K i) :: .ref (ceA K) :: veT) = _
    unfold PySem.W.alongIn
    rw [own_none lk hI]
    rfl
  · exact List.all_eq_true.mp h5 i (List.mem_filter.mpr ⟨List.mem_range.mpr hi, by rw [e]; rfl⟩)
  · exact chain_inj _ _ h3 i j (cA K i) (mm i hi) (by rw [mm j hj, e])
  · have := chain_lt _ _ h3 (cA K i) (List.mem_of_getElem? (mm i hi))
    rw [e] at this
    exact Nat.lt_irrefl _ this
/-! ### isinstance by these classes -/
theorem has_ref (a b : Addr) : ∀ l : List String, (l.map Value.type).contains (.ref b) = false
  | [] => rfl
  | n :: r => by
    rw [List.map_cons, List.contains_cons, has_ref a b r]
    rfl
theorem kit_ij {K : PySem.W.Frag} (A : AllF K) {i j : Nat} (hi : i < 46) (hj : j < 46) : PySem.W.kitOne K (.ref (cA K i)) (.ref (cA K j)) = some (decide (i = j)) := by
  by_cases e : i = j
  · subst e
    unfold PySem.W.kitOne
    rw [if_pos (by simp)]
    simp
  · have ne : cA K i ≠ cA K j := fun z => e (A.inj i j hi hj z)
    have n1 : (Value.ref (cA K i) == Value.ref (cA K j)) = false := by simpa using ne
    unfold PySem.W.kitOne
    rw [n1, if_neg Bool.false_ne_true]
    show (if ((PySem.W.clsIn K (cA K j)).isSome && PySem.W.typeIn K (.ref (cA K j)) == some (.type "type")) = true then PySem.W.subIn K (.ref (cA K i)) (.ref (cA K j)) else none) = _
    rw [(A.one j hj).isC, (A.one j hj).ty, if_pos (by rfl), (A.one i hi).sub]
    rw [List.contains_cons, List.contains_cons, show (Value.ref (cA K j) == Value.ref (cA K i)) = false by simpa using Ne.symm ne, show (Value.ref (cA K j) == Value.ref (ceA K)) = false by simpa using A.neC j hj]
    rw [show veT.contains (.ref (cA K j)) = false from has_ref 0 (cA K j) ["ValueError", "Exception", "BaseException", "object"], decide_eq_false e]
    rfl
theorem kit_ce {K : PySem.W.Frag} (A : AllF K) {i : Nat} (hi : i < 46) : PySem.W.kitOne K (.ref (cA K i)) (.ref (ceA K)) = some true := by
  unfold PySem.W.kitOne
  rw [show (Value.ref (cA K i) == Value.ref (ceA K)) = false by simpa using A.neC i hi, if_neg Bool.false_ne_true]
  show (if ((PySem.W.clsIn K (ceA K)).isSome && PySem.W.typeIn K (.ref (ceA K)) == some (.type "type")) = true then PySem.W.subIn K (.ref (cA K i)) (.ref (ceA K)) else none) = _
  rw [A.ce.isC, A.ce.ty, if_pos (by rfl), (A.one i hi).sub]
  simp
theorem kit_cj {K : PySem.W.Frag} (A : AllF K) {j : Nat} (hj : j < 46) : PySem.W.kitOne K (.ref (ceA K)) (.ref (cA K j)) = some false := by
  have ne : ceA K ≠ cA K j := fun z => A.neC j hj z.symm
  unfold PySem.W.kitOne
  rw [show (Value.ref (ceA K) == Value.ref (cA K j)) = false by simpa using ne, if_neg Bool.false_ne_true]
  show (if ((PySem.W.clsIn K (cA K j)).isSome && PySem.W.typeIn K (.ref (cA K j)) == some (.type "type")) = true then PySem.W.subIn K (.ref (ceA K)) (.ref (cA K j)) else none) = _
  rw [(A.one j hj).isC, (A.one j hj).ty, if_pos (by rfl), A.ce.sub]
  rw [List.contains_cons, show (Value.ref (cA K j) == Value.ref (ceA K)) = false by simpa using Ne.symm ne, show veT.contains (.ref (cA K j)) = false from has_ref 0 (cA K j) ["ValueError", "Exception", "BaseException", "object"]]
  rfl
theorem kit_ty {K : PySem.W.Frag} {C : Addr} {fs : List Str} {bm : List Value} (F : Cf K C fs bm) (hm : PySem.HandSPX.refsVE bm = true) (T : String) (hk : PySem.W.kitMeta T = true) : PySem.W.kitOne K (.ref C) (.type T) = some (PySem.HandSPX.veTail.contains (.type T)) := by
  unfold PySem.W.kitOne
  rw [show (Value.ref C == Value.type T) = false by rfl, if_neg Bool.false_ne_true]
  show (if PySem.W.kitMeta T = true then PySem.W.subIn K (.ref C) (.type T) else none) = _
  rw [if_pos hk, F.sub, PySem.HandSPX.refsVE_contains T (.ref C :: bm) hm]
end E0
set_option Elab.async false
set_option linter.all false
set_option maxRecDepth 100000
set_option maxHeartbeats 4000000
/-! Errors made, by place and by name; their fields; their kinds. -/
namespace E0
open PySem PySem.Spec PyProof.Rows L2
/-- at e stands an error of the class at C, with these fields -/
def ExcAt (H : Hp) (e C : Addr) (fs : List (Str × V)) : Prop := ∃ d, H e = some (exo e C (some d)) ∧ H d = some (exd d fs)
def fsOf (ns : List Str) (vs : List V) : List (Str × V) := (ns.zip vs).reverse
def spI (C : Addr) (ns : List Str) : Sp := fun vs H Q _ => ∃ (a : Addr) (ws : List V), vs = .ref a :: ws ∧ ws.length = ns.length ∧ H a = some (exo a C none) ∧
  ∀ H', ExcAt H' a C (fsOf ns ws) → (∀ b o, b ≠ a → H b = some o → H' b = some o) → Q .non H'
theorem visP {N ps : List Str} {sc : Scope} (S : FnScope N ps sc) {x : Str} (h : x ∈ ps) : Vis sc x := by
  rcases S.par x h with k | k
  · exact .inl k
  · exact .inr (.inl k)
section
variable {P : Program} {w : World} {K : PySem.W.Frag} {mg : Str → Option Value} {base : Heap} {q x y : Str} {params : Arguments} {body : List Stmt} {scope : Scope} {C f : Addr} {fd : FuncData}
theorem ok_init1 {p1 p2 p3 p4 : Pos} (F : FunD K "__init__" q params body scope [] [] f fd) (hb : body = [.Assign [.Attribute (.Name "self" p1) x p2] (.Name x p3) p4]) (S : FnScope ["self", x] ["self", x] scope)
    (T : OexC K C) (no : PySem.W.findIn K (.ref C) x = some none) (hd : (x == ("__debug__" : Str)) = false) (hc : (x == ("__classdict__" : Str)) = false) : FnOk P w K mg base CX0 1 f fd ["self", x] (spI C [x]) := by
  subst hb
  refine F.ok S (fun vs H Q E h => ?_) (fun cdv A outer s H vs Q E hr h => ?_)
  · obtain ⟨a, ws, rfl, hl, _⟩ := h
    show ws.length + 1 = 2
    rw [hl] <;> rfl
  · obtain ⟨a, ws, rfl, hl, ha, k⟩ := h
    match ws, hl with
    | [v], _ =>
      refine ⟨_, PSs.nox (pss_one (ps_ost (pe_var (i := 0) rfl (visP S (by simp)) (by decide) (by decide)) (pe_var (i := 1) rfl (visP S (by simp)) hd hc))), ?_⟩
      refine ⟨v, rfl, .ref a, rfl, a, C, rfl, T, no, .inl ⟨ha, fun dx n ne => k _ ⟨dx, upd_same, ?_⟩ fun b o hb e => ?_⟩⟩
      · rw [upd_ne ne]
        exact upd_same
      · rw [upd_ne hb, upd_ne (ne_of_none e n)]
        exact e
theorem ok_init2 {p1 p2 p3 p4 q1 q2 q3 q4 : Pos} (F : FunD K "__init__" q params body scope [] [] f fd) (hb : body = [.Assign [.Attribute (.Name "self" p1) x p2] (.Name x p3) p4, .Assign [.Attribute (.Name "self" q1) y q2] (.Name y q3) q4])
    (S : FnScope ["self", x, y] ["self", x, y] scope) (T : OexC K C) (no : PySem.W.findIn K (.ref C) x = some none) (no2 : PySem.W.findIn K (.ref C) y = some none) (hd : (x == ("__debug__" : Str)) = false) (hc : (x == ("__classdict__" : Str)) = false)
    (hd2 : (y == ("__debug__" : Str)) = false) (hc2 : (y == ("__classdict__" : Str)) = false) : FnOk P w K mg base CX0 1 f fd ["self", x, y] (spI C [x, y]) := by
  subst hb
  refine F.ok S (fun vs H Q E h => ?_) (fun cdv A outer s H vs Q E hr h => ?_)
  · obtain ⟨a, ws, rfl, hl, _⟩ := h
    show ws.length + 1 = 3
    rw [hl] <;> rfl
  · obtain ⟨a, ws, rfl, hl, ha, k⟩ := h
    match ws, hl with
    | [v, u], _ =>
      refine ⟨_, PSs.nox (pss_cons (ps_ost (pe_var (i := 0) rfl (visP S (by simp)) (by decide) (by decide)) (pe_var (i := 1) rfl (visP S (by simp)) hd hc))
        (pss_one (ps_ost (pe_var (i := 0) rfl (visP S (by simp)) (by decide) (by decide)) (pe_var (i := 2) rfl (visP S (by simp)) hd2 hc2)))), ?_⟩
      refine ⟨v, rfl, .ref a, rfl, a, C, rfl, T, no, .inl ⟨ha, fun dx n ne => ?_⟩⟩
      have hdx : (upd (upd H dx (exd dx [(x, v)])) a (exo a C (some dx))) dx = some (exd dx [(x, v)]) := by
        rw [upd_ne ne]
        exact upd_same
      refine ⟨u, rfl, .ref a, rfl, a, C, rfl, T, no2, .inr ⟨dx, [(x, v)], upd_same, hdx, by show 1 ≤ 900; decide, k _ ⟨dx, ?_, upd_same⟩ fun b o hb e => ?_⟩⟩
      · rw [upd_ne (Ne.symm ne)]
        exact upd_same
      · rw [upd_ne (ne_of_none e n), upd_ne hb, upd_ne (ne_of_none e n)]
        exact e
end
/-! ### C(e, .., k = v, ..) as a value -/
section
variable {X : Cx} {CX : CXT} {k n : Nat} {fI C : Addr} {fd : FuncData} {ps ks ns : List Str} {E : XK} {x : Str} {p pos : Pos} {e : Expr} {es : List Expr} {kws : List Keyword} {t tk : TA} {g : List Value → List Value → List Value} {gV : List V → List V → List V}
theorem run_mkx {pins : List (Addr × Obj)} {σ : L2.St} {H : Hp} {s : Shared} {Q : VK} {us ws : List Value} {vs zs : List V} (T : OexC X.K C) (iC : PySem.W.findIn X.K (.ref C) "__init__" = some (some (.ref fI))) (tI : PySem.W.typeIn X.K (.ref fI) = some (.type "function"))
    (F : FnOk X.prog X.w X.K X.mg X.base CX0 k fI fd ps (spI C ns)) (hr : Room (k + 1) X.A) (hb : KBn X.K fd ps (n + 1) ks g gV) (I : Inv X pins σ H s) (r : Vals vs us) (rz : Vals zs ws) (l1 : vs.length = n) (l2 : zs.length = ks.length) (hn : n ≤ 1000)
    (hg : ∀ a, ∃ vals, gV (.ref a :: vs) zs = .ref a :: vals ∧ vals.length = ns.length ∧ ∀ H', H a = none → ExcAt H' a C (fsOf ns vals) → Same H H' → Q (.ref a) H') :
    wpAny (model X.prog X.w) X.A (call (.ref C) us (ks.zip ws)) (EP X pins σ Q) X.xe s := by
  obtain ⟨nm, q, N, bs, bm, sn, sub, ab, col, dd, k0, k1, k2, k3, k5, hC, hbm⟩ := T.cls
  obtain ⟨hp, gg, dr, tt, os⟩ := s
  have hsz : hp.objs.size ≤ hp.objs.size + 1 := Nat.le_succ _
  have hn0 : H (hp.objs.size + 1) = none := I.hok.fresh hsz
  have kk : ∀ b o, hp.get? b = some o → ((hp.push (PySem.W.kdv_tup us)).push (PySem.HandSPX.excO C hp.objs.size)).get? b = some o := fun b o e => Heap.get?_push_of_some _ (Heap.get?_push_of_some _ e)
  have hget : ((hp.push (PySem.W.kdv_tup us)).push (PySem.HandSPX.excO C hp.objs.size)).get? (hp.objs.size + 1) = some (PySem.HandSPX.excO C hp.objs.size) := by heap_get
  have I2 : Inv X pins σ (upd H (hp.objs.size + 1) (exo (hp.objs.size + 1) C none)) ⟨(hp.push (PySem.W.kdv_tup us)).push (PySem.HandSPX.excO C hp.objs.size), gg, dr, tt, os⟩ :=
    I.laid (t' := tt) (a := hp.objs.size + 1) (o := exo (hp.objs.size + 1) C none) (h' := (hp.push (PySem.W.kdv_tup us)).push (PySem.HandSPX.excO C hp.objs.size)) kk hsz (exo_ok hget)
  have r1 : Vals (V.ref (hp.objs.size + 1) :: vs) (Value.ref (hp.objs.size + 1) :: us) := .cons rfl r
  have r2 := hb.rel r1 rz
  have e1 : (Value.ref (hp.objs.size + 1) :: us).length = n + 1 := r1.length.symm.trans (congrArg Nat.succ l1)
  have e2 : ws.length = ks.length := rz.length.symm.trans l2
  have hus : us.length ≤ sizeLine := by
    rw [← Paired.length r, sizeLine_eq]
    omega
  obtain ⟨vals, ev, el, kq⟩ := hg (hp.objs.size + 1)
  have hq : spI C ns (gV (V.ref (hp.objs.size + 1) :: vs) zs) (upd H (hp.objs.size + 1) (exo (hp.objs.size + 1) C none)) (fun v H' => v = .non ∧ Q (.ref (hp.objs.size + 1)) H') (fun _ _ _ => False) := by
    refine ⟨hp.objs.size + 1, vals, ev, el, upd_same, fun H' hx hs => ⟨rfl, kq H' hn0 hx fun b o e => ?_⟩⟩
    refine hs b o (ne_of_none e hn0) ?_
    rw [upd_ne (ne_of_none e hn0)]
    exact e
  refine wpAny_call (PySem.E0K.kw_call PySem.F.excBase_ValueError (fun Y => PySem.HandSPX.refsVE_contains Y bm hbm) (I.kIn _ _ hC) (PySem.W.looks_findIn I.kIn iC) (fun self => PySem.W.bind_fn I.kIn self tI) hus
    (codeAny_mono (F.run _ X.stack _ _ ⟨Value.ref (hp.objs.size + 1) :: us, ks.zip ws⟩ (g (Value.ref (hp.objs.size + 1) :: us) ws) _ _ (fun _ _ _ => False) (hr.make C us (ks.zip ws)) (I2.env0.make C us (ks.zip ws)) (hb.to _ (Value.ref (hp.objs.size + 1) :: us) ws I2.kIn e1 e2) r2 hq) fun r s' hq' => ?_))
  cases r with
  | error e => exact False.elim hq'
  | ok fl =>
    cases fl with
    | ret u =>
      obtain ⟨v, H', I3, rv, ev2, q3⟩ := I2.after hq'
      subst ev2
      exact ⟨rv, ⟨V.ref (hp.objs.size + 1), H', I3, rfl, q3⟩⟩
    | next => exact False.elim hq'
    | brk => exact False.elim hq'
    | cont => exact False.elim hq'
/-- C(e, ..), C(k = v, ..) -/
def tMkX (C : Addr) (ns : List Str) (n m : Nat) (gV : List V → List V → List V) (t tk : TA) : TE := fun σ H Q => t σ H fun vs H1 => tk σ H1 fun zs H2 => vs.length = n ∧ zs.length = m ∧
  ∀ a, ∃ vals, gV (.ref a :: vs) zs = .ref a :: vals ∧ vals.length = ns.length ∧ ∀ H', H2 a = none → ExcAt H' a C (fsOf ns vals) → Same H2 H' → Q (.ref a) H'
theorem pe_mkx (T : OexC X.K C) (iC : PySem.W.findIn X.K (.ref C) "__init__" = some (some (.ref fI))) (tI : PySem.W.typeIn X.K (.ref fI) = some (.type "function"))
    (F : FnOk X.prog X.w X.K X.mg X.base CX0 k fI fd ps (spI C ns)) (hr : Room (k + 1) X.A) (hb : KBn X.K fd ps (n + 1) [] g gV) (hn : n ≤ 1000) (hg : Gl X x) (hm : X.mg x = some (.ref C)) (ha : PA X (e :: es) t) (hdb : (x == ("__debug__" : Str)) = false)
    (he : starEach (e :: es) X.env = (false, eval e X.env) :: starEach es X.env := by rfl) (hpl : (backTo pos (starEach es X.env)).any (·.1) = false := by rfl) :
    PE X (.Call (.Name x p) (e :: es) [] pos) (tMkX C ns n 0 gV t tNil) := by
  refine ⟨fun pins s σ H Q I h => ?_⟩
  refine wpAny_Call_Name_kw (ld_glob I hg hm ?_ hdb)
  refine PySem.W.callWith_K (h₀ := X.base) I.ok.mod.kin T.kC (thn (ha.run pos pins s σ H _ I h) fun us s1 ⟨vs, H1, I1, r, l1, l2, q⟩ => ⟨I1.kIn, ?_⟩) he hpl
  exact run_mkx (ks := []) (ws := []) (zs := []) T iC tI F hr hb I1 r .nil l1 rfl hn q
theorem pe_mkx0 (T : OexC X.K C) (iC : PySem.W.findIn X.K (.ref C) "__init__" = some (some (.ref fI))) (tI : PySem.W.typeIn X.K (.ref fI) = some (.type "function"))
    (F : FnOk X.prog X.w X.K X.mg X.base CX0 k fI fd ps (spI C ns)) (hr : Room (k + 1) X.A) (hb : KBn X.K fd ps 1 ks g gV) (hg : Gl X x) (hm : X.mg x = some (.ref C)) (hkw : PK X kws tk) (hdb : (x == ("__debug__" : Str)) = false)
    (hall : (backToKw pos (keywordEach kws X.env)).all (·.1.isSome) = true := by rfl) (hks : (backToKw pos (keywordEach kws X.env)).filterMap (·.1) = ks := by rfl)
    (hpl : ((backTo pos (starEach [] X.env)).any (·.1) || (backToKw pos (keywordEach kws X.env)).any (·.1.isNone)) = false := by rfl) :
    PE X (.Call (.Name x p) [] kws pos) (tMkX C ns 0 ks.length gV tNil tk) := by
  refine ⟨fun pins s σ H Q I h => ?_⟩
  refine wpAny_Call_Name_kw (ld_glob I hg hm ?_ hdb)
  refine PySem.W.callWith_KW0 (h₀ := X.base) I.ok.mod.kin T.kC hall ?_ hpl
  refine thn (hkw.run pos pins s σ H _ I h) fun ws s2 ⟨zs, H2, I2, rz, l1, l2, q2⟩ => ⟨I2.kIn, ?_⟩
  rw [hks]
  exact run_mkx (us := []) (vs := []) T iC tI F hr hb I2 .nil rz rfl l2 (Nat.zero_le _) q2
/-- C(), without an __init__ of its own -/
def tMk0 (C : Addr) : TE := fun _ H Q => ∀ a, H a = none → Q (.ref a) (upd H a (exo a C none))
theorem pe_mk0 (q : PySem.W.excIn X.K C He.veBase "ValueError.__new__" = true) (kC : PySem.W.keepIn X.K (.ref C) = true) (hg : Gl X x) (hm : X.mg x = some (.ref C)) (hdb : (x == ("__debug__" : Str)) = false) :
    PE X (.Call (.Name x p) [] [] pos) (tMk0 C) := by
  refine ⟨fun pins s σ H Q I h => ?_⟩
  refine wpAny_Call_Name_kw (ld_glob I hg hm ?_ hdb)
  refine PySem.W.callWith_K0 I.kIn kC ?_
  obtain ⟨bm, N, nm, qn, bs, hdct, sn, sub, ab, col, dd, k0, k1, k2, k3, k5, mN, hC, hN, hni, T⟩ := exc_obj I.kIn q
  obtain ⟨hp, gg, dr, tt, os⟩ := s
  refine wpAny_call_exc_subT PySem.F.excBase_ValueError T hC hN hni (fun h' e hm => ?_) (by show 0 ≤ sizeLine; exact Nat.zero_le _)
  obtain ⟨kp, new, t1, ht, _, _⟩ := hm
  have hn : H e = none := I.hok.gone new
  exact ⟨.ref e, _, I.laidN (t' := tt) kp new hn (exo_ok ht), rfl, h e hn⟩
end
/-! ### kinds, fields -/
/-- an error as it stands: its class, with a dict or without -/
def Err (H : Hp) (e C : Addr) : Prop := H e = some (exo e C none) ∨ ∃ d fs, H e = some (exo e C (some d)) ∧ H d = some (exd d fs)
section
variable {X : Cx} {pins : List (Addr × Obj)} {σ : L2.St} {H : Hp} {s : Shared} {e C : Addr}
theorem err_inst (I : Inv X pins σ H s) (h : Err H e C) : ∃ ox od, PySem.W.InstAt s.heap e ox C od := by
  rcases h with h | ⟨d, fs, h, hd⟩
  · obtain ⟨t1, ho⟩ := exo_at I.hok h
    exact ⟨_, none, ho, rfl, rfl, trivial⟩
  · obtain ⟨t1, ho⟩ := exo_at I.hok h
    obtain ⟨mA, ⟨oD, es, ep, hoD, _⟩, _⟩ := exd_at I.hok hd
    exact ⟨_, some oD, ho, rfl, rfl, hoD⟩
/-- isinstance(e, c) -/
def rIsX (K : PySem.W.Frag) : List V → Hp → VK → Prop := fun xs H Q => ∃ (e C : Addr) (c : V) (cv : Value) (b : Bool), xs = [.ref e, c] ∧ ExcC K C ∧ Err H e C ∧ (∀ u, RelV c u → u = cv) ∧ PySem.W.kitOne K (.ref C) cv = some b ∧ Q (.bl b) H
theorem call_isX : CallR X (.builtin "isinstance") (rIsX X.K) := by
  intro pins s σ H xs us Q I r h
  obtain ⟨e, C, c, cv, b, rfl, Y, he, hcv, ek, q⟩ := h
  cases r with
  | cons rx rr =>
    cases rr with
    | cons rt rr =>
      cases rr
      cases rx
      have ec := hcv _ rt
      subst ec
      obtain ⟨ox, od, J⟩ := err_inst I he
      exact PySem.W.kia_one (PySem.W.kitx_exc (by obtain ⟨cd, hc, _⟩ := PySem.W.any_some Y.hd; rw [hc]; rfl) Y.hg Y.hk Y.hs Y.ha Y.hn Y.ht Y.hm) I.kIn J ek (fun z => nomatch z) fun tk => ⟨.bl b, H, I.kept (t' := tk) fun _ _ z => z, rfl, q⟩
/-- e.f -/
def tFx (K : PySem.W.Frag) (f : Str) (to : TE) : TE := fun σ H Q => to σ H fun x H1 => ∃ (e C d : Addr) (fs : List (Str × V)) (v : V), x = .ref e ∧ XfC K C ∧ PySem.W.findIn K (.ref C) f = some none ∧ H1 e = some (exo e C (some d)) ∧ H1 d = some (exd d fs) ∧ fs.lookup f = some v ∧ Q v H1
theorem pe_fx {o : Expr} {to : TE} {f : Str} {pos : Pos} (ho : PE X o to) (hb : attributeBase o f X.env (eval o X.env) = eval o X.env := by rfl) : PE X (.Attribute o f pos) (tFx X.K f to) := by
  refine ⟨fun pins s σ H Q I h => ?_⟩
  refine attr_of hb (thn (ho.run pins s σ H _ I h) fun u s1 hh => ?_)
  obtain ⟨x, H1, I1, rx, e, C, d, fs, v, ex, T, no, he, hd, l, q⟩ := hh
  subst ex
  obtain rfl : u = Value.ref e := rx
  obtain ⟨t1, hoe⟩ := exo_at I1.hok he
  obtain ⟨mA, hns, hr⟩ := exd_at I1.hok hd
  obtain ⟨od, hod, hl⟩ := lookIn_ns hns
  obtain ⟨u, hu, ru⟩ := RelO.some_of (v := v) (o := mA f) (by rw [← l]; exact hr f)
  have J : PySem.W.InstAt s1.heap e _ C (some od) := ⟨hoe, rfl, rfl, hod⟩
  exact HandSPX.exc_get I1.kIn J T.ga T.gg T.exC (PySem.W.findObj_own T.hdC no rfl (by rw [hl, hu])) (handed_of ru) ⟨v, H1, I1.tok _, ru, q⟩
end
end E0
set_option Elab.async false
set_option linter.all false
set_option maxRecDepth 100000
set_option maxHeartbeats 4000000
/-! repr of data looks at what is being shown around it: defs whose promise holds where nothing is. -/
namespace E0
open PySem PySem.Spec PyProof.Rows L2
structure FnOkG (P : Program) (w : World) (K : PySem.W.Frag) (mg : Str → Option Value) (base : Heap) (k : Nat) (f : Addr) (fd : FuncData) (ps : List Str) (sp : Sp) : Prop where
  len : ∀ vs H Q E, sp vs H Q E → vs.length = ps.length
  go : ∀ (A : Around) (outer : List Env) (s : Shared) (H : Hp) (args : Args) (us : List Value) (vs : List V) (Q : VK) (E : XK), A.guards = some [] → Room k A → Env0 P w K mg base A outer s H → BindsTo s fd args (ps.zip us) → Vals vs us → sp vs H Q E →
    codeAny (model P w) A (.call (.ref f) args) (CR CX0 outer P w H s Q E) s
theorem deeper_g {A : Around} {env : Env} (h : A.guards = some []) : (A.deeper env).guards = some [] := by
  obtain ⟨hd, d, fr, gs, u⟩ := A
  exact h
section
variable {P : Program} {w : World} {K : PySem.W.Frag} {mg : Str → Option Value} {base : Heap} {k : Nat} {f : Addr} {name qual : Str} {params : Arguments} {body : List Stmt} {scope : Scope} {dV kV doc pm cdv ct oc : Value} {an od : Option Addr} {osl : Array (Option Value)} {N ps : List Str} {sp : Sp}
theorem fnG_of (lk : K.lookup f = some ⟨oc, od, .func (PySem.W.fnOf name qual params body scope dV kV doc pm an cdv ct), osl⟩) (hcd : PySem.W.codeIn K cdv qual = true) (S : FnScope N ps scope) (len : ∀ vs H Q E, sp vs H Q E → vs.length = ps.length)
    (hb : ∀ (A : Around) (outer : List Env) (s : Shared) (H : Hp) (vs : List V) (Q : VK) (E : XK), A.guards = some [] → Room k (A.deeper (envOfC qual scope s.heap.objs.size f cdv)) → sp vs H Q E →
      ∃ t, PSs (cxOf CX0 P w K mg base N qual scope f cdv A outer s H E) body t ∧ t { nx := fun _ H' => Q .non H', rt := Q } (start N vs) H) :
    FnOkG P w K mg base (k + 1) f (PySem.W.fnOf name qual params body scope dV kV doc pm an cdv ct) ps sp where
  len := len
  go := fun A outer s H args us vs Q E hg hr e0 bt r hsp => by
    have inK : K.In s.heap := e0.mod.kin.keeps fun b o e => (e0.bs b o e).1
    have kinds : ∀ y ∈ ps.zip us, scope.names.lookup y.1 = some .local ∨ (scope.names.lookup y.1 = some .cell ∧ ((cellsFrom (s.heap.objs.size + 1) scope.names []).lookup y.1).isSome = true) := by
      rintro ⟨n, v⟩ hy
      exact (S.par n (List.of_mem_zip hy).1).imp id fun c => ⟨c, PySem.W.cellsFrom_some _ _ _ (.inl c)⟩
    refine codeAny_call_function hr.depth (inK _ _ lk) rfl S.co S.gen rfl (PySem.W.codeRec_of inK hcd) (bt _ _ _ _ (wpAny_newFunctionEnv_cells S.kind kinds ?_))
    rintro env rfl s1 x
    obtain ⟨t, ht, hq⟩ := hb A outer s H vs Q E hg (hr.deeper _) hsp
    have I : Inv (cxOf CX0 P w K mg base N qual scope f cdv A outer s H E) [] (start N vs) H s1 := inv_start S hr.hd e0 (len _ _ _ _ hsp) r x
    refine ⟨(e0.mod.nolimit.keeps fun b o e => (e0.bs b o e).1).keeps x.toInCall.keep, codeAny_func (wpAny_mono (ht.run [] s1 (start N vs) H _ I hq) (fun fl s' hs => ?_) fun _ _ hs => hs)⟩
    rcases fl with _ | _ | _ | u
    all_goals first
      | (obtain ⟨v, σ', H', J, rv, q⟩ := hs; exact ⟨v, H', J.os, J.bare, J.base, J.hok, rv, q⟩)
      | (obtain ⟨σ', H', J, q⟩ := hs; exact ⟨.non, H', J.os, J.bare, J.base, J.hok, rfl, q⟩)
      | (obtain ⟨_, _, _, q⟩ := hs; exact False.elim q)
end
section
variable {X : Cx} {k : Nat} {f : Addr} {fd : FuncData} {ps : List Str} {sp : Sp} {x : Str} {p pos : Pos} {e : Expr} {es : List Expr} {t : TA}
theorem pe_callG (F : FnOkG X.prog X.w X.K X.mg X.base k f fd ps sp) (hgd : X.A.guards = some []) (hr : Room k X.A) (hg : Gl X x) (hm : X.mg x = some (.ref f)) (hk : PySem.W.keepIn X.K (.ref f) = true) (hb : Binds X.K fd ps [])
    (ha : PA X (e :: es) t) (hdb : (x == ("__debug__" : Str)) = false := by decide) (he : starEach (e :: es) X.env = (false, eval e X.env) :: starEach es X.env := by rfl) (hpl : (backTo pos (starEach es X.env)).any (·.1) = false := by rfl) :
    PE X (.Call (.Name x p) (e :: es) [] pos) (tCall sp [] (fun _ _ _ => False) t) := by
  refine ⟨fun pins s σ H Q I h => wpAny_Call_Name_kw (ld_glob I hg hm (PySem.W.callWith_K (h₀ := X.base) I.ok.mod.kin hk (thn (ha.run pos pins s σ H _ I h) fun us s1 ⟨vs, H1, I1, r, q⟩ => ⟨I1.kIn, ?_⟩) he hpl) hdb)⟩
  have q : sp (vs ++ []) H1 Q (fun _ _ _ => False) := q
  rw [List.append_nil] at q
  have hl : us.length = ps.length := by rw [← r.length]; exact F.len _ _ _ _ q
  have b := hb s1 us I1.kIn (by rw [List.append_nil]; exact hl)
  rw [List.append_nil] at b
  refine wpAny_call (codeAny_mono (F.go X.A X.stack s1 H1 ⟨us, []⟩ us vs Q _ hgd hr I1.env0 b r q) fun r s' hq => ?_)
  rcases r with e | (_ | _ | _ | u)
  all_goals first
    | exact I1.after hq
    | exact False.elim hq
end
/-! ### data, as it is shown -/
def vD : V → PyData
  | .int i => .int i
  | .str x => .str x
  | .bl b => .bool b
  | _ => .none
def flatV : V → Bool
  | .int _ | .str _ | .bl _ | .non => true
  | _ => false
def kD : Key → PyData
  | .inl i => .int i
  | .inr x => .str x
mutual
inductive Dx (H : Hp) : V → PyData → Prop
  | flat (v : V) : flatV v = true → Dx H v (vD v)
  | lst {a : Addr} {xs : List V} {ds : List PyData} : H a = some (.lst xs) → DxAll H xs ds → Dx H (.ref a) (.list ds)
  | tup {a : Addr} {xs : List V} {ds : List PyData} : H a = some (.tup xs) → DxAll H xs ds → Dx H (.ref a) (.tuple ds)
  | dic {a : Addr} {kvs : List (Key × V)} : H a = some (.dK kvs) → (∀ p ∈ kvs, flatV p.2 = true) → Dx H (.ref a) (.dict (kvs.map fun p => (kD p.1, vD p.2)))
inductive DxAll (H : Hp) : List V → List PyData → Prop
  | nil : DxAll H [] []
  | cons {v : V} {vs : List V} {d : PyData} {ds : List PyData} : Dx H v d → DxAll H vs ds → DxAll H (v :: vs) (d :: ds)
end
theorem flat_reads {h : Heap} {v : V} {u : Value} (hf : flatV v = true) (r : RelV v u) : Reads h u (vD v) [] := by
  cases v with
  | int i => obtain ⟨t, rfl⟩ := r; exact .int i t
  | str x => obtain ⟨t, rfl⟩ := r; exact .str x t
  | bl b => cases r; exact .bool b
  | non => cases r; exact .none
  | _ => cases hf
theorem key_reads {h : Heap} {k : Key} {u : Value} (r : keyIs k u = true) : Reads h u (kD k) [] := by
  rcases keyIs_shape r with ⟨i, t, rfl, rfl⟩ | ⟨x, t, rfl, rfl⟩
  · exact .int i t
  · exact .str x t
theorem pairs_reads {P : Program} {w : World} {h : Heap} : ∀ {es : List DictEntry} {vs : List (Key × Value)} {kvs : List (Key × V)}, PySem.Pairs (mixKind P w) es vs → KV kvs vs → (∀ p ∈ kvs, flatV p.2 = true) →
    ReadsAll h (es.map (·.key)) ((kvs.map fun p => (kD p.1, vD p.2)).map (·.1)) [] ∧ ReadsAll h (es.map (·.val)) ((kvs.map fun p => (kD p.1, vD p.2)).map (·.2)) []
  | _, _, _, .nil, .nil, _ => ⟨.nil, .nil⟩
  | e :: es, _, _, .cons hk hv ps, .cons ⟨h1, h2⟩ r, hf => by
    obtain ⟨i1, i2⟩ := pairs_reads ps r fun p hp => hf p (List.mem_cons_of_mem _ hp)
    refine ⟨.cons (as := []) (key_reads ?_) i1, .cons (as := []) ?_ i2⟩
    · rw [h1]
      exact hk
    · show Reads h e.val (vD _) []
      rw [hv]
      exact flat_reads (hf _ List.mem_cons_self) h2
section
variable {X : Cx} {pins : List (Addr × Obj)} {σ : L2.St} {H : Hp} {s : Shared}
mutual
theorem Dx.reads (I : Inv X pins σ H s) (hs : H sysModules = none) : ∀ {v : V} {d : PyData} {u : Value}, Dx H v d → RelV v u → ∃ as, Reads s.heap u d as ∧ sysModules ∉ as
  | _, _, _, .flat v hf, r => ⟨[], flat_reads hf r, by simp⟩
  | _, _, _, .lst (a := a) ha hx, r => by
    cases r
    obtain ⟨z, its, n, rv, e⟩ := I.hok a _ ha
    obtain ⟨as, ra, na⟩ := DxAll.reads I hs hx rv
    exact ⟨a :: as, .list e rfl rfl ra, fun q => (List.mem_cons.mp q).elim (fun q => by rw [← q, hs] at ha; cases ha) na⟩
  | _, _, _, .tup (a := a) ha hx, r => by
    cases r
    obtain ⟨z, its, rv, o, e, hc, n, hd⟩ := I.hok a _ ha
    obtain ⟨as, ra, na⟩ := DxAll.reads I hs hx rv
    exact ⟨as, .tuple e hc hd ra, na⟩
  | _, _, _, .dic (a := a) (kvs := kvs) ha hf, r => by
    cases r
    obtain ⟨hz, hS, vs, rr, o, es, ep, e, hc, hd, _, ps, _⟩ := I.hok a _ ha
    obtain ⟨r1, r2⟩ := pairs_reads (h := s.heap) ps rr hf
    refine ⟨a :: [] ++ [], .dict e hc.1 hd r1 r2, fun q => ?_⟩
    have q : sysModules = a := by simpa using q
    rw [← q, hs] at ha
    cases ha
theorem DxAll.reads (I : Inv X pins σ H s) (hs : H sysModules = none) : ∀ {vs : List V} {ds : List PyData} {us : List Value}, DxAll H vs ds → Vals vs us → ∃ as, ReadsAll s.heap us ds as ∧ sysModules ∉ as
  | _, _, _, .nil, .nil => ⟨[], .nil, by simp⟩
  | _, _, _, .cons h1 h2, .cons r1 r2 => by
    obtain ⟨as, q1, n1⟩ := Dx.reads I hs h1 r1
    obtain ⟨bs, q2, n2⟩ := DxAll.reads I hs h2 r2
    exact ⟨as ++ bs, .cons q1 q2, fun q => (List.mem_append.mp q).elim n1 n2⟩
end
/-- repr(xs), xs a list -/
def rRep : List V → Hp → VK → Prop := fun xs H Q => ∃ (a : Addr) (ys : List V) (ds : List PyData), xs = [.ref a] ∧ H a = some (.lst ys) ∧ DxAll H ys ds ∧ (PyData.list ds).showable = true ∧ (PyData.list ds).shown.length ≤ sizeLine ∧ (PyData.list ds).depth ≤ 60 ∧ Q (.str (PyData.list ds).shown) H
theorem call_rep {o : Obj} (hk : X.K.lookup sysModules = some o) (hg : X.A.guards = some []) (hu : X.A.units + 64 < cLine) : CallR X (.builtin "repr") rRep := by
  intro pins s σ H xs us Q I r h
  obtain ⟨a, ys, ds, rfl, ha, hx, hs, hz, hd, q⟩ := h
  cases r with
  | cons rx rr =>
    cases rr
    have hn : H sysModules = none := (I.bs _ _ (I.ok.mod.kin _ _ hk)).2
    obtain ⟨as, rd, na⟩ := Dx.reads I hn (Dx.lst ha hx) rx
    cases rx
    exact repr_of_reads' rd hs (fun _ => na) hg (by omega) (fun _ _ e => e) (fun h' u tk kk => ⟨.str _, H, I.kept (t' := tk) kk, ⟨u, rfl⟩, q⟩) hz
end
end E0
set_option Elab.async false
set_option linter.all false
set_option maxRecDepth 100000
set_option maxHeartbeats 4000000
/-! Lambdas of one parameter that capture nothing, kept as values and called later. -/
namespace E0
open PySem PySem.Spec PyProof.Rows L2 LamX
def lamO (f c' : Addr) (q : Str) (params : Arguments) (body : Expr) (scope : Scope) (pm ctv : Value) : HO := .ext fun h => h.get? f = some (PySem.W.kla_obj "<lambda>" q params body scope [] pm c' ctv)
theorem lamO_ok {P : Program} {w : World} {H : Hp} {h : Heap} {f c' : Addr} {q : Str} {params : Arguments} {body : Expr} {scope : Scope} {pm ctv : Value} (e : h.get? f = some (PySem.W.kla_obj "<lambda>" q params body scope [] pm c' ctv)) : ObjOk P w H h f (lamO f c' q params body scope pm ctv) :=
  ⟨e, ⟨_, e⟩, fun _ _ z k => k _ z⟩
/-- at f stands this lambda, its code object too -/
def LamAt (H : Hp) (f : Addr) (q : Str) (params : Arguments) (body : Expr) (scope : Scope) : Prop := ∃ (c' : Addr) (pm ctv : Value), H f = some (lamO f c' q params body scope pm ctv) ∧ H c' = some (CodeO c' q)
theorem LamAt.ext {H H' : Hp} {f : Addr} {q : Str} {params : Arguments} {body : Expr} {scope : Scope} (L : LamAt H f q params body scope) (e : ExtN H H') : LamAt H' f q params body scope := by
  obtain ⟨c', pm, ctv, h1, h2⟩ := L
  exact ⟨c', pm, ctv, e _ _ h1 (fun ps z => by unfold lamO at z; cases z), e _ _ h2 (codeO_ne)⟩
section
variable {X : Cx} {pins : List (Addr × Obj)} {σ : L2.St} {H : Hp} {s : Shared}
theorem lam_new {T : List (Addr × Str)} {c P : Addr} {params : Arguments} {body : Expr} {scope : Scope} {pos : Pos} {E : Value → Shared → Prop} {Q : Value → Shared → Prop} (I : Inv X pins σ H s) (TB : TabB X.base X.mg c P) (hcode : X.env.code = .ref c)
    (hm : (P, X.env.qual ++ "<lambda>") ∈ T) (hu : ∀ p ∈ T, p.1 = P → p.2 = X.env.qual ++ "<lambda>") (hT : Tabs T H) (hdef : defaultsOf params X.env = ([], [])) (hcl : closureFor scope X.env = pure [])
    (h : ∀ (f : Addr) (H1 : Hp) (s' : Shared), Inv X pins σ H1 s' → ExtN H H1 → Tabs T H1 → LamAt H1 f (X.env.qual ++ "<lambda>") params body scope → Q (.ref f) s') :
    wpAny (model X.prog X.w) X.A (eval (.Lambda params body scope pos) X.env) Q E s := by
  obtain ⟨ps, hP, ht, ha⟩ := hT _ hm
  have tabP : s.heap.get? P = some { cls := .none, data := .fields ps } := I.hok P _ hP
  refine PySem.W.kla_eval hdef ?_
  rcases hc : codeAmong pos ps.toList with _ | cv
  · -- a new code object
    refine PySem.W.kla_makeFunction (mg := X.mg) (c := c) (P := P) (ps := ps) hcl I.ok.glob (I.mod.glob.keeps I.bk) hcode (TB.code.keeps I.bk) tabP ht hc TB.gP (TB.bm.keeps I.bk) ?_
    rintro c' ctv h' tk hx hge hlt ⟨c2, oc, vs, t, e2, hoc, hd, hv⟩ htb
    cases e2
    have nC : H c' = none := I.hok.fresh hge
    have I1 := inv_table (t' := tk) (more := #[rawInt pos.line, rawInt pos.col, .ref c']) I hP (fun b o hb e => hx b o hb e) htb hge ⟨oc, vs, t, hoc, hd, hv⟩
    have hE : ExtN H (upd (upd H P (.tbl (ps ++ #[rawInt pos.line, rawInt pos.col, .ref c']))) c' (CodeO c' (X.env.qual ++ "<lambda>"))) := by
      intro b o e n
      have nb : b ≠ P := by
        rintro rfl
        exact n ps (Option.some.inj (e.symm.trans hP))
      rw [upd_ne (ne_of_none e nC), upd_ne nb]
      exact e
    have nF := I1.hok.fresh (Nat.le_refl h'.objs.size)
    have I2 := I1.laid (t' := tk) (a := h'.objs.size) (h' := h'.push (PySem.W.kla_obj "<lambda>" (X.env.qual ++ "<lambda>") params body scope [] ((X.mg "__name__").getD .none) c' ctv)) (fun b o e => Heap.get?_push_of_some _ e) (Nat.le_refl _)
      (lamO_ok (Heap.get?_push_size _ rfl))
    have sm : ∀ b o, (upd (upd H P (.tbl (ps ++ #[rawInt pos.line, rawInt pos.col, .ref c']))) c' (CodeO c' (X.env.qual ++ "<lambda>"))) b = some o → upd (upd (upd H P (.tbl (ps ++ #[rawInt pos.line, rawInt pos.col, .ref c']))) c' (CodeO c' (X.env.qual ++ "<lambda>"))) h'.objs.size
        (lamO h'.objs.size c' (X.env.qual ++ "<lambda>") params body scope ((X.mg "__name__").getD .none) ctv) b = some o := fun b o e => by
      rw [upd_ne (ne_of_none e nF)]
      exact e
    have T1 : Tabs T (upd (upd H P (.tbl (ps ++ #[rawInt pos.line, rawInt pos.col, .ref c']))) c' (CodeO c' (X.env.qual ++ "<lambda>"))) := by
      have el : (ps ++ #[rawInt pos.line, rawInt pos.col, .ref c']).toList = ps.toList ++ [rawInt pos.line, rawInt pos.col, .ref c'] := by simp
      intro p hp
      by_cases hb : p.1 = P
      · rw [hu p hp hb, hb]
        refine ⟨_, by rw [upd_ne (ne_of_none hP nC), upd_same], by rw [el]; exact PySem.TriplesOk_snoc _ _ _ _ ht, fun p' cv hcv => ?_⟩
        rw [el] at hcv
        refine (among_app _ ht hcv).elim (fun z => ?_) fun z => ⟨c', z, upd_same⟩
        obtain ⟨c0, e1, e2⟩ := ha p' cv z
        exact ⟨c0, e1, hE _ _ e2 codeO_ne⟩
      · obtain ⟨ps', a1, a2, a3⟩ := hT p hp
        refine ⟨ps', by rw [upd_ne (ne_of_none a1 nC), upd_ne hb]; exact a1, a2, fun p' cv hcv => ?_⟩
        obtain ⟨c0, e1, e2⟩ := a3 p' cv hcv
        exact ⟨c0, e1, hE _ _ e2 codeO_ne⟩
    exact h h'.objs.size _ _ I2 (hE.trans (.of sm)) (T1.ext sm) ⟨c', _, ctv, upd_same, sm _ _ upd_same⟩
  · -- one that the table has
    obtain ⟨c', rfl, hco⟩ := ha pos cv hc
    refine PySem.W.kla_makeFunctionHit (mg := X.mg) (c := c) (P := P) (ps := ps) hcl I.ok.glob (I.mod.glob.keeps I.bk) hcode (TB.code.keeps I.bk) tabP ht hc (TB.bm.keeps I.bk) fun ctv h' tk hx hsz => ?_
    have nF := I.hok.fresh hsz
    have I2 := I.laid (t' := tk) (a := h'.objs.size) (h' := h'.push (PySem.W.kla_obj "<lambda>" (X.env.qual ++ "<lambda>") params body scope [] ((X.mg "__name__").getD .none) c' ctv)) (fun b o e => Heap.get?_push_of_some _ (hx b o e)) hsz
      (lamO_ok (Heap.get?_push_size _ rfl))
    have sm : ∀ b o, H b = some o → upd H h'.objs.size (lamO h'.objs.size c' (X.env.qual ++ "<lambda>") params body scope ((X.mg "__name__").getD .none) ctv) b = some o := fun b o e => by
      rw [upd_ne (ne_of_none e nF)]
      exact e
    exact h h'.objs.size _ _ I2 (.of sm) (hT.ext sm) ⟨c', _, ctv, upd_same, sm _ _ hco⟩
end
/-- a lambda as a value -/
def tLamV (T : List (Addr × Str)) (q : Str) (params : Arguments) (body : Expr) (scope : Scope) : TE := fun _ H Q => Tabs T H ∧ ∀ f H1, ExtN H H1 → Tabs T H1 → LamAt H1 f q params body scope → Q (.ref f) H1
theorem pe_lamv {X : Cx} {T : List (Addr × Str)} {c P : Addr} {params : Arguments} {body : Expr} {scope : Scope} {pos : Pos} (TB : TabB X.base X.mg c P) (hcode : X.env.code = .ref c) (hm : (P, X.env.qual ++ "<lambda>") ∈ T) (hu : ∀ p ∈ T, p.1 = P → p.2 = X.env.qual ++ "<lambda>")
    (hdef : defaultsOf params X.env = ([], []) := by rfl) (hcl : closureFor scope X.env = pure [] := by rfl) : PE X (.Lambda params body scope pos) (tLamV T (X.env.qual ++ "<lambda>") params body scope) := by
  refine ⟨fun pins s σ H Q I h => ?_⟩
  exact lam_new I TB hcode hm hu h.1 hdef hcl fun f H1 s' I1 e1 t1 l1 => ⟨.ref f, H1, I1, rfl, h.2 f H1 e1 t1 l1⟩
/-! ### such a lambda is called -/
/-- what a lambda promises, wherever it stands -/
def LamOk (P : Program) (w : World) (K : PySem.W.Frag) (mg : Str → Option Value) (base : Heap) (k : Nat) (q : Str) (params : Arguments) (body : Expr) (scope : Scope) (sp : Sp) : Prop :=
  ∀ (A : Around) (outer : List Env) (s : Shared) (H : Hp) (f : Addr) (us : List Value) (vs : List V) (Q : VK), Room k A → Env0 P w K mg base A outer s H → LamAt H f q params body scope → Vals vs us → sp vs H Q (fun _ _ _ => False) →
    codeAny (model P w) A (.call (.ref f) ⟨us, []⟩) (CR CX0 outer P w H s Q (fun _ _ _ => False)) s
theorem lam_of {P : Program} {w : World} {K : PySem.W.Frag} {mg : Str → Option Value} {base : Heap} {k : Nat} {q : Str} {params : Arguments} {body : Expr} {scope : Scope} {sp : Sp} {N ps : List Str} (S : FnScope N ps scope) (len : ∀ vs H Q E, sp vs H Q E → vs.length = ps.length)
    (hbind : ∀ (pm cdv ct : Value) (us : List Value), us.length = ps.length → bindArgs (PySem.W.kla_fn "<lambda>" q params body scope [] pm cdv ct) ⟨us, []⟩ = pure (ps.zip us))
    (hb : ∀ (A : Around) (outer : List Env) (s : Shared) (H : Hp) (f c' : Addr) (vs : List V) (Q : VK), Room k (A.deeper (envOfC q scope s.heap.objs.size f (.ref c'))) → sp vs H Q (fun _ _ _ => False) →
      ∃ t, PE (cxOf CX0 P w K mg base N q scope f (.ref c') A outer s H (fun _ _ _ => False)) body t ∧ t (start N vs) H Q) : LamOk P w K mg base (k + 1) q params body scope sp := by
  intro A outer s H f us vs Q hr e0 L r hsp
  obtain ⟨c', pm, ctv, h1, h2⟩ := L
  have of1 : s.heap.get? f = some (PySem.W.kla_obj "<lambda>" q params body scope [] pm c' ctv) := (e0.hok f _ h1).1
  obtain ⟨⟨oc, vc, t, hoc, hdc, hvc⟩, _, _⟩ := e0.hok c' _ h2
  have hl := len _ _ _ _ hsp
  have kinds : ∀ y ∈ ps.zip us, scope.names.lookup y.1 = some .local ∨ (scope.names.lookup y.1 = some .cell ∧ ((cellsFrom (s.heap.objs.size + 1) scope.names []).lookup y.1).isSome = true) := by
    rintro ⟨n, v⟩ hy
    exact (S.par n (List.of_mem_zip hy).1).imp id fun c => ⟨c, PySem.W.cellsFrom_some _ _ _ (.inl c)⟩
  refine PySem.W.kla_callFunE hr.depth of1 rfl S.co S.gen rfl ⟨c', oc, vc, t, rfl, hoc, hdc, hvc⟩ ?_
  rw [hbind _ _ _ _ (r.length.symm.trans hl)]
  refine wpAny_pure (wpAny_newFunctionEnv_cells S.kind kinds ?_)
  rintro env rfl s1 x
  obtain ⟨t, ht, hq⟩ := hb A outer s H f c' vs Q (hr.deeper _) hsp
  have I : Inv (cxOf CX0 P w K mg base N q scope f (.ref c') A outer s H (fun _ _ _ => False)) [] (start N vs) H s1 := inv_start S hr.hd e0 hl r x
  refine ⟨(e0.mod.nolimit.keeps fun b o e => (e0.bs b o e).1).keeps x.toInCall.keep, PySem.W.kla_codeExpr (wpAny_mono (ht.run [] s1 (start N vs) H Q I hq) (fun v s' hs => ?_) fun _ _ hs => hs)⟩
  obtain ⟨y, H', J, rv, q⟩ := hs
  exact ⟨y, H', J.os, J.bare, J.base, J.hok, rv, q⟩
/-- x(e), the slot i holds such a lambda -/
def tCallLam (P : Program) (w : World) (K : PySem.W.Frag) (mg : Str → Option Value) (base : Heap) (k i : Nat) (t : TA) : TE := fun σ H Q => ∃ (f : Addr) (q : Str) (params : Arguments) (body : Expr) (scope : Scope) (sp : Sp), σ[i]? = some (some (.ref f)) ∧ LamAt H f q params body scope ∧
  LamOk P w K mg base k q params body scope sp ∧ t σ H fun vs H1 => LamAt H1 f q params body scope ∧ sp vs H1 Q (fun _ _ _ => False)
theorem lam_fn {X : Cx} {pins : List (Addr × Obj)} {σ : L2.St} {H : Hp} {s : Shared} {f : Addr} {q : Str} {params : Arguments} {body : Expr} {scope : Scope} (I : Inv X pins σ H s) (L : LamAt H f q params body scope) : PySem.W.FnAt f s.heap := by
  obtain ⟨c', pm, ctv, h1, _⟩ := L
  exact ⟨_, _, _, _, (I.hok f _ h1).1⟩
theorem pe_callLam {X : Cx} {k i : Nat} {x : Str} {p pos : Pos} {e : Expr} {es : List Expr} {t : TA} (hr : Room k X.A) (hN : X.N[i]? = some x) (hv : Vis X.env.scope x) (ha : PA X (e :: es) t)
    (hdb : (x == ("__debug__" : Str)) = false := by decide) (hcd : (x == ("__classdict__" : Str)) = false := by decide)
    (he : starEach (e :: es) X.env = (false, eval e X.env) :: starEach es X.env := by rfl) (hpl : (backTo pos (starEach es X.env)).any (·.1) = false := by rfl) :
    PE X (.Call (.Name x p) (e :: es) [] pos) (tCallLam X.prog X.w X.K X.mg X.base k i t) := by
  refine ⟨fun pins s σ H Q I h => ?_⟩
  obtain ⟨f, q, params, body, scope, sp, hs, hL, hO, ht⟩ := h
  refine wpAny_Call_Name_kw (thn ((pe_var (pos := p) hN hv hdb hcd).run pins s σ H (fun v H1 => v = .ref f ∧ H1 = H) I ⟨.ref f, hs, rfl, rfl⟩) fun u s1 ⟨v, H1, I1, r1, q1⟩ => ?_)
  obtain ⟨rfl, rfl⟩ := q1
  cases r1
  refine PySem.W.callWith_F (lam_fn I1 hL) (thn (ha.run pos pins s1 σ _ _ I1 ht) fun us s2 ⟨vs, H2, I2, r, hL2, hq⟩ => ⟨lam_fn I2 hL2, ?_⟩) he hpl
  refine wpAny_call (codeAny_mono (hO X.A X.stack s2 H2 f us vs Q hr I2.env0 hL2 r hq) fun r s' hq => ?_)
  rcases r with e | (_ | _ | _ | u)
  all_goals first
    | exact I2.after hq
    | exact False.elim hq
end E0
set_option Elab.async false
set_option linter.all false
set_option maxRecDepth 100000
set_option maxHeartbeats 4000000
/-! The __init__ of each error. -/
namespace E0
open PySem PySem.Spec PyProof.Rows L2
structure IniOk (P : Program) (w : World) (K : PySem.W.Frag) (mg : Str → Option Value) (base : Heap) (i : Nat) : Prop where
  ex : ∃ fd, FnOk P w K mg base CX0 1 (fA K i) fd ("self" :: flds i) (spI (cA K i) (flds i)) ∧ KBn K fd ("self" :: flds i) ((flds i).length + 1) [] (fun us _ => us) (fun vs _ => vs) ∧
    KBn K fd ("self" :: flds i) 1 (flds i).reverse (fun us ws => us ++ ws.reverse) (fun vs zs => vs ++ zs.reverse)
theorem vals_rev : ∀ {vs : List V} {us : List Value}, Vals vs us → Vals vs.reverse us.reverse
  | _, _, .nil => .nil
  | _, _, .cons r t => by
    rw [List.reverse_cons, List.reverse_cons]
    exact (vals_rev t).append (.cons r .nil)
section
variable {P : Program} {w : World} {K : PySem.W.Frag} {mg : Str → Option Value} {base : Heap} {i : Nat} {q x y : Str} {params : Arguments} {body : List Stmt} {scope : Scope} {fd : FuncData} {bm : List Value}
theorem iniOk1 {p1 p2 p3 p4 : Pos} (F : FunD K "__init__" q params body scope [] [] (fA K i) fd) (cf : Cf K (cA K i) (flds i) bm) (hf : flds i = [x]) (hb : body = [.Assign [.Attribute (.Name "self" p1) x p2] (.Name x p3) p4]) (S : FnScope ["self", x] ["self", x] scope)
    (hd : (x == ("__debug__" : Str)) = false) (hc : (x == ("__classdict__" : Str)) = false)
    (b1 : ∀ (kV doc pm : Value) (an : Option Addr) (cdv ct : Value) (us : List Value), us.length = 2 → bindArgs (PySem.W.fnOf "__init__" q params body scope .none kV doc pm an cdv ct) ⟨us, []⟩ = pure ((["self", x] : List Str).zip us))
    (b2 : ∀ (kV doc pm : Value) (an : Option Addr) (cdv ct : Value) (us ws : List Value), us.length = 1 → ws.length = 1 → bindArgs (PySem.W.fnOf "__init__" q params body scope .none kV doc pm an cdv ct) ⟨us, ([x] : List Str).zip ws⟩ = pure ((["self", x] : List Str).zip (us ++ ws.reverse))) : IniOk P w K mg base i := by
  have no := cf.no
  refine ⟨fd, ?_⟩
  rw [hf] at no ⊢
  refine ⟨ok_init1 F hb S cf.oex (no x (by simp)) hd hc, ?_, ?_⟩
  all_goals obtain ⟨oc, od, dV, kV, doc, pm, an, cdv, ct, osl, rfl, lk, hcd, hD, hK⟩ := F.ex
  all_goals rcases hD with ⟨_, rfl⟩ | ⟨e, _⟩
  all_goals first
    | exact absurd rfl e
    | exact ⟨fun s us ws _ l1 l2 => .of_eq (b1 kV doc pm an cdv ct us l1), fun r1 _ => r1⟩
    | exact ⟨fun s us ws _ l1 l2 => .of_eq (b2 kV doc pm an cdv ct us ws l1 l2), fun r1 r2 => r1.append (vals_rev r2)⟩
theorem iniOk2 {p1 p2 p3 p4 q1 q2 q3 q4 : Pos} (F : FunD K "__init__" q params body scope [] [] (fA K i) fd) (cf : Cf K (cA K i) (flds i) bm) (hf : flds i = [x, y])
    (hb : body = [.Assign [.Attribute (.Name "self" p1) x p2] (.Name x p3) p4, .Assign [.Attribute (.Name "self" q1) y q2] (.Name y q3) q4]) (S : FnScope ["self", x, y] ["self", x, y] scope)
    (hd : (x == ("__debug__" : Str)) = false) (hc : (x == ("__classdict__" : Str)) = false) (hd2 : (y == ("__debug__" : Str)) = false) (hc2 : (y == ("__classdict__" : Str)) = false)
    (b1 : ∀ (kV doc pm : Value) (an : Option Addr) (cdv ct : Value) (us : List Value), us.length = 3 → bindArgs (PySem.W.fnOf "__init__" q params body scope .none kV doc pm an cdv ct) ⟨us, []⟩ = pure ((["self", x, y] : List Str).zip us))
    (b2 : ∀ (kV doc pm : Value) (an : Option Addr) (cdv ct : Value) (us ws : List Value), us.length = 1 → ws.length = 2 → bindArgs (PySem.W.fnOf "__init__" q params body scope .none kV doc pm an cdv ct) ⟨us, ([y, x] : List Str).zip ws⟩ = pure ((["self", x, y] : List Str).zip (us ++ ws.reverse))) : IniOk P w K mg base i := by
  have no := cf.no
  refine ⟨fd, ?_⟩
  rw [hf] at no ⊢
  refine ⟨ok_init2 F hb S cf.oex (no x (by simp)) (no y (by simp)) hd hc hd2 hc2, ?_, ?_⟩
  all_goals obtain ⟨oc, od, dV, kV, doc, pm, an, cdv, ct, osl, rfl, lk, hcd, hD, hK⟩ := F.ex
  all_goals rcases hD with ⟨_, rfl⟩ | ⟨e, _⟩
  all_goals first
    | exact absurd rfl e
    | exact ⟨fun s us ws _ l1 l2 => .of_eq (b1 kV doc pm an cdv ct us l1), fun r1 _ => r1⟩
    | exact ⟨fun s us ws _ l1 l2 => .of_eq (b2 kV doc pm an cdv ct us ws l1 l2), fun r1 r2 => r1.append (vals_rev r2)⟩
end
section
variable {P : Program} {w : World} {K : PySem.W.Frag} {mg : Str → Option Value} {base : Heap}
theorem ini_fn {i : Nat} (c : He.SaysD fa fn K) (h : i ∈ owns) : ∃ fd, FunD K "__init__" (nm i ++ ".__init__") (defArgs (iniS i)) (defBody (iniS i)) (defScope (iniS i)) [] [] (fA K i) fd :=
  c.defs (d := iniD i) (List.mem_append_right _ (List.mem_map_of_mem h))
theorem ini_0 (c : He.SaysD fa fn K) (A : AllF K) : IniOk P w K mg base 0 := by
  obtain ⟨fd, F⟩ := ini_fn (i := 0) c (by decide)
  exact iniOk1 (x := "thing") F (A.one 0 (by decide)) rfl rfl ⟨rfl, rfl, rfl, by decide +kernel, rfl, by decide +kernel, by decide +kernel⟩ (by decide) (by decide) (fun _ _ _ _ _ _ us hl => match us, hl with | [_, _], _ => rfl) (fun _ _ _ _ _ _ us ws hl hm => match us, hl, ws, hm with | [_], _, [_], _ => rfl)
theorem ini_1 (c : He.SaysD fa fn K) (A : AllF K) : IniOk P w K mg base 1 := by
  obtain ⟨fd, F⟩ := ini_fn (i := 1) c (by decide)
  exact iniOk1 (x := "thing") F (A.one 1 (by decide)) rfl rfl ⟨rfl, rfl, rfl, by decide +kernel, rfl, by decide +kernel, by decide +kernel⟩ (by decide) (by decide) (fun _ _ _ _ _ _ us hl => match us, hl with | [_, _], _ => rfl) (fun _ _ _ _ _ _ us ws hl hm => match us, hl, ws, hm with | [_], _, [_], _ => rfl)
theorem ini_2 (c : He.SaysD fa fn K) (A : AllF K) : IniOk P w K mg base 2 := by
  obtain ⟨fd, F⟩ := ini_fn (i := 2) c (by decide)
  exact iniOk1 (x := "thing") F (A.one 2 (by decide)) rfl rfl ⟨rfl, rfl, rfl, by decide +kernel, rfl, by decide +kernel, by decide +kernel⟩ (by decide) (by decide) (fun _ _ _ _ _ _ us hl => match us, hl with | [_, _], _ => rfl) (fun _ _ _ _ _ _ us ws hl hm => match us, hl, ws, hm with | [_], _, [_], _ => rfl)
theorem ini_3 (c : He.SaysD fa fn K) (A : AllF K) : IniOk P w K mg base 3 := by
  obtain ⟨fd, F⟩ := ini_fn (i := 3) c (by decide)
  exact iniOk1 (x := "thing") F (A.one 3 (by decide)) rfl rfl ⟨rfl, rfl, rfl, by decide +kernel, rfl, by decide +kernel, by decide +kernel⟩ (by decide) (by decide) (fun _ _ _ _ _ _ us hl => match us, hl with | [_, _], _ => rfl) (fun _ _ _ _ _ _ us ws hl hm => match us, hl, ws, hm with | [_], _, [_], _ => rfl)
theorem ini_4 (c : He.SaysD fa fn K) (A : AllF K) : IniOk P w K mg base 4 := by
  obtain ⟨fd, F⟩ := ini_fn (i := 4) c (by decide)
  exact iniOk1 (x := "thing") F (A.one 4 (by decide)) rfl rfl ⟨rfl, rfl, rfl, by decide +kernel, rfl, by decide +kernel, by decide +kernel⟩ (by decide) (by decide) (fun _ _ _ _ _ _ us hl => match us, hl with | [_, _], _ => rfl) (fun _ _ _ _ _ _ us ws hl hm => match us, hl, ws, hm with | [_], _, [_], _ => rfl)
theorem ini_5 (c : He.SaysD fa fn K) (A : AllF K) : IniOk P w K mg base 5 := by
  obtain ⟨fd, F⟩ := ini_fn (i := 5) c (by decide)
  exact iniOk1 (x := "thing") F (A.one 5 (by decide)) rfl rfl ⟨rfl, rfl, rfl, by decide +kernel, rfl, by decide +kernel, by decide +kernel⟩ (by decide) (by decide) (fun _ _ _ _ _ _ us hl => match us, hl with | [_, _], _ => rfl) (fun _ _ _ _ _ _ us ws hl hm => match us, hl, ws, hm with | [_], _, [_], _ => rfl)
theorem ini_6 (c : He.SaysD fa fn K) (A : AllF K) : IniOk P w K mg base 6 := by
  obtain ⟨fd, F⟩ := ini_fn (i := 6) c (by decide)
  exact iniOk1 (x := "thing") F (A.one 6 (by decide)) rfl rfl ⟨rfl, rfl, rfl, by decide +kernel, rfl, by decide +kernel, by decide +kernel⟩ (by decide) (by decide) (fun _ _ _ _ _ _ us hl => match us, hl with | [_, _], _ => rfl) (fun _ _ _ _ _ _ us ws hl hm => match us, hl, ws, hm with | [_], _, [_], _ => rfl)
theorem ini_7 (c : He.SaysD fa fn K) (A : AllF K) : IniOk P w K mg base 7 := by
  obtain ⟨fd, F⟩ := ini_fn (i := 7) c (by decide)
  exact iniOk1 (x := "index") F (A.one 7 (by decide)) rfl rfl ⟨rfl, rfl, rfl, by decide +kernel, rfl, by decide +kernel, by decide +kernel⟩ (by decide) (by decide) (fun _ _ _ _ _ _ us hl => match us, hl with | [_, _], _ => rfl) (fun _ _ _ _ _ _ us ws hl hm => match us, hl, ws, hm with | [_], _, [_], _ => rfl)
theorem ini_8 (c : He.SaysD fa fn K) (A : AllF K) : IniOk P w K mg base 8 := by
  obtain ⟨fd, F⟩ := ini_fn (i := 8) c (by decide)
  exact iniOk1 (x := "index") F (A.one 8 (by decide)) rfl rfl ⟨rfl, rfl, rfl, by decide +kernel, rfl, by decide +kernel, by decide +kernel⟩ (by decide) (by decide) (fun _ _ _ _ _ _ us hl => match us, hl with | [_, _], _ => rfl) (fun _ _ _ _ _ _ us ws hl hm => match us, hl, ws, hm with | [_], _, [_], _ => rfl)
theorem ini_9 (c : He.SaysD fa fn K) (A : AllF K) : IniOk P w K mg base 9 := by
  obtain ⟨fd, F⟩ := ini_fn (i := 9) c (by decide)
  exact iniOk1 (x := "thing") F (A.one 9 (by decide)) rfl rfl ⟨rfl, rfl, rfl, by decide +kernel, rfl, by decide +kernel, by decide +kernel⟩ (by decide) (by decide) (fun _ _ _ _ _ _ us hl => match us, hl with | [_, _], _ => rfl) (fun _ _ _ _ _ _ us ws hl hm => match us, hl, ws, hm with | [_], _, [_], _ => rfl)
theorem ini_10 (c : He.SaysD fa fn K) (A : AllF K) : IniOk P w K mg base 10 := by
  obtain ⟨fd, F⟩ := ini_fn (i := 10) c (by decide)
  exact iniOk1 (x := "thing") F (A.one 10 (by decide)) rfl rfl ⟨rfl, rfl, rfl, by decide +kernel, rfl, by decide +kernel, by decide +kernel⟩ (by decide) (by decide) (fun _ _ _ _ _ _ us hl => match us, hl with | [_, _], _ => rfl) (fun _ _ _ _ _ _ us ws hl hm => match us, hl, ws, hm with | [_], _, [_], _ => rfl)
theorem ini_11 (c : He.SaysD fa fn K) (A : AllF K) : IniOk P w K mg base 11 := by
  obtain ⟨fd, F⟩ := ini_fn (i := 11) c (by decide)
  exact iniOk1 (x := "thing") F (A.one 11 (by decide)) rfl rfl ⟨rfl, rfl, rfl, by decide +kernel, rfl, by decide +kernel, by decide +kernel⟩ (by decide) (by decide) (fun _ _ _ _ _ _ us hl => match us, hl with | [_, _], _ => rfl) (fun _ _ _ _ _ _ us ws hl hm => match us, hl, ws, hm with | [_], _, [_], _ => rfl)
theorem ini_12 (c : He.SaysD fa fn K) (A : AllF K) : IniOk P w K mg base 12 := by
  obtain ⟨fd, F⟩ := ini_fn (i := 12) c (by decide)
  exact iniOk1 (x := "index") F (A.one 12 (by decide)) rfl rfl ⟨rfl, rfl, rfl, by decide +kernel, rfl, by decide +kernel, by decide +kernel⟩ (by decide) (by decide) (fun _ _ _ _ _ _ us hl => match us, hl with | [_, _], _ => rfl) (fun _ _ _ _ _ _ us ws hl hm => match us, hl, ws, hm with | [_], _, [_], _ => rfl)
theorem ini_13 (c : He.SaysD fa fn K) (A : AllF K) : IniOk P w K mg base 13 := by
  obtain ⟨fd, F⟩ := ini_fn (i := 13) c (by decide)
  exact iniOk1 (x := "thing") F (A.one 13 (by decide)) rfl rfl ⟨rfl, rfl, rfl, by decide +kernel, rfl, by decide +kernel, by decide +kernel⟩ (by decide) (by decide) (fun _ _ _ _ _ _ us hl => match us, hl with | [_, _], _ => rfl) (fun _ _ _ _ _ _ us ws hl hm => match us, hl, ws, hm with | [_], _, [_], _ => rfl)
theorem ini_14 (c : He.SaysD fa fn K) (A : AllF K) : IniOk P w K mg base 14 := by
  obtain ⟨fd, F⟩ := ini_fn (i := 14) c (by decide)
  exact iniOk1 (x := "thing") F (A.one 14 (by decide)) rfl rfl ⟨rfl, rfl, rfl, by decide +kernel, rfl, by decide +kernel, by decide +kernel⟩ (by decide) (by decide) (fun _ _ _ _ _ _ us hl => match us, hl with | [_, _], _ => rfl) (fun _ _ _ _ _ _ us ws hl hm => match us, hl, ws, hm with | [_], _, [_], _ => rfl)
theorem ini_15 (c : He.SaysD fa fn K) (A : AllF K) : IniOk P w K mg base 15 := by
  obtain ⟨fd, F⟩ := ini_fn (i := 15) c (by decide)
  exact iniOk1 (x := "index") F (A.one 15 (by decide)) rfl rfl ⟨rfl, rfl, rfl, by decide +kernel, rfl, by decide +kernel, by decide +kernel⟩ (by decide) (by decide) (fun _ _ _ _ _ _ us hl => match us, hl with | [_, _], _ => rfl) (fun _ _ _ _ _ _ us ws hl hm => match us, hl, ws, hm with | [_], _, [_], _ => rfl)
theorem ini_16 (c : He.SaysD fa fn K) (A : AllF K) : IniOk P w K mg base 16 := by
  obtain ⟨fd, F⟩ := ini_fn (i := 16) c (by decide)
  exact iniOk1 (x := "thing") F (A.one 16 (by decide)) rfl rfl ⟨rfl, rfl, rfl, by decide +kernel, rfl, by decide +kernel, by decide +kernel⟩ (by decide) (by decide) (fun _ _ _ _ _ _ us hl => match us, hl with | [_, _], _ => rfl) (fun _ _ _ _ _ _ us ws hl hm => match us, hl, ws, hm with | [_], _, [_], _ => rfl)
theorem ini_17 (c : He.SaysD fa fn K) (A : AllF K) : IniOk P w K mg base 17 := by
  obtain ⟨fd, F⟩ := ini_fn (i := 17) c (by decide)
  exact iniOk1 (x := "index") F (A.one 17 (by decide)) rfl rfl ⟨rfl, rfl, rfl, by decide +kernel, rfl, by decide +kernel, by decide +kernel⟩ (by decide) (by decide) (fun _ _ _ _ _ _ us hl => match us, hl with | [_, _], _ => rfl) (fun _ _ _ _ _ _ us ws hl hm => match us, hl, ws, hm with | [_], _, [_], _ => rfl)
theorem ini_18 (c : He.SaysD fa fn K) (A : AllF K) : IniOk P w K mg base 18 := by
  obtain ⟨fd, F⟩ := ini_fn (i := 18) c (by decide)
  exact iniOk1 (x := "thing") F (A.one 18 (by decide)) rfl rfl ⟨rfl, rfl, rfl, by decide +kernel, rfl, by decide +kernel, by decide +kernel⟩ (by decide) (by decide) (fun _ _ _ _ _ _ us hl => match us, hl with | [_, _], _ => rfl) (fun _ _ _ _ _ _ us ws hl hm => match us, hl, ws, hm with | [_], _, [_], _ => rfl)
theorem ini_19 (c : He.SaysD fa fn K) (A : AllF K) : IniOk P w K mg base 19 := by
  obtain ⟨fd, F⟩ := ini_fn (i := 19) c (by decide)
  exact iniOk2 (x := "first") (y := "last") F (A.one 19 (by decide)) rfl rfl ⟨rfl, rfl, rfl, by decide +kernel, rfl, by decide +kernel, by decide +kernel⟩ (by decide) (by decide) (by decide) (by decide) (fun _ _ _ _ _ _ us hl => match us, hl with | [_, _, _], _ => rfl) (fun _ _ _ _ _ _ us ws hl hm => match us, hl, ws, hm with | [_], _, [_, _], _ => rfl)
theorem ini_20 (c : He.SaysD fa fn K) (A : AllF K) : IniOk P w K mg base 20 := by
  obtain ⟨fd, F⟩ := ini_fn (i := 20) c (by decide)
  exact iniOk1 (x := "thing") F (A.one 20 (by decide)) rfl rfl ⟨rfl, rfl, rfl, by decide +kernel, rfl, by decide +kernel, by decide +kernel⟩ (by decide) (by decide) (fun _ _ _ _ _ _ us hl => match us, hl with | [_, _], _ => rfl) (fun _ _ _ _ _ _ us ws hl hm => match us, hl, ws, hm with | [_], _, [_], _ => rfl)
theorem ini_21 (c : He.SaysD fa fn K) (A : AllF K) : IniOk P w K mg base 21 := by
  obtain ⟨fd, F⟩ := ini_fn (i := 21) c (by decide)
  exact iniOk2 (x := "line") (y := "sign") F (A.one 21 (by decide)) rfl rfl ⟨rfl, rfl, rfl, by decide +kernel, rfl, by decide +kernel, by decide +kernel⟩ (by decide) (by decide) (by decide) (by decide) (fun _ _ _ _ _ _ us hl => match us, hl with | [_, _, _], _ => rfl) (fun _ _ _ _ _ _ us ws hl hm => match us, hl, ws, hm with | [_], _, [_, _], _ => rfl)
theorem ini_22 (c : He.SaysD fa fn K) (A : AllF K) : IniOk P w K mg base 22 := by
  obtain ⟨fd, F⟩ := ini_fn (i := 22) c (by decide)
  exact iniOk1 (x := "index") F (A.one 22 (by decide)) rfl rfl ⟨rfl, rfl, rfl, by decide +kernel, rfl, by decide +kernel, by decide +kernel⟩ (by decide) (by decide) (fun _ _ _ _ _ _ us hl => match us, hl with | [_, _], _ => rfl) (fun _ _ _ _ _ _ us ws hl hm => match us, hl, ws, hm with | [_], _, [_], _ => rfl)
theorem ini_23 (c : He.SaysD fa fn K) (A : AllF K) : IniOk P w K mg base 23 := by
  obtain ⟨fd, F⟩ := ini_fn (i := 23) c (by decide)
  exact iniOk1 (x := "index") F (A.one 23 (by decide)) rfl rfl ⟨rfl, rfl, rfl, by decide +kernel, rfl, by decide +kernel, by decide +kernel⟩ (by decide) (by decide) (fun _ _ _ _ _ _ us hl => match us, hl with | [_, _], _ => rfl) (fun _ _ _ _ _ _ us ws hl hm => match us, hl, ws, hm with | [_], _, [_], _ => rfl)
theorem ini_24 (c : He.SaysD fa fn K) (A : AllF K) : IniOk P w K mg base 24 := by
  obtain ⟨fd, F⟩ := ini_fn (i := 24) c (by decide)
  exact iniOk1 (x := "thing") F (A.one 24 (by decide)) rfl rfl ⟨rfl, rfl, rfl, by decide +kernel, rfl, by decide +kernel, by decide +kernel⟩ (by decide) (by decide) (fun _ _ _ _ _ _ us hl => match us, hl with | [_, _], _ => rfl) (fun _ _ _ _ _ _ us ws hl hm => match us, hl, ws, hm with | [_], _, [_], _ => rfl)
theorem ini_25 (c : He.SaysD fa fn K) (A : AllF K) : IniOk P w K mg base 25 := by
  obtain ⟨fd, F⟩ := ini_fn (i := 25) c (by decide)
  exact iniOk1 (x := "index") F (A.one 25 (by decide)) rfl rfl ⟨rfl, rfl, rfl, by decide +kernel, rfl, by decide +kernel, by decide +kernel⟩ (by decide) (by decide) (fun _ _ _ _ _ _ us hl => match us, hl with | [_, _], _ => rfl) (fun _ _ _ _ _ _ us ws hl hm => match us, hl, ws, hm with | [_], _, [_], _ => rfl)
theorem ini_26 (c : He.SaysD fa fn K) (A : AllF K) : IniOk P w K mg base 26 := by
  obtain ⟨fd, F⟩ := ini_fn (i := 26) c (by decide)
  exact iniOk1 (x := "index") F (A.one 26 (by decide)) rfl rfl ⟨rfl, rfl, rfl, by decide +kernel, rfl, by decide +kernel, by decide +kernel⟩ (by decide) (by decide) (fun _ _ _ _ _ _ us hl => match us, hl with | [_, _], _ => rfl) (fun _ _ _ _ _ _ us ws hl hm => match us, hl, ws, hm with | [_], _, [_], _ => rfl)
theorem ini_27 (c : He.SaysD fa fn K) (A : AllF K) : IniOk P w K mg base 27 := by
  obtain ⟨fd, F⟩ := ini_fn (i := 27) c (by decide)
  exact iniOk2 (x := "one") (y := "other") F (A.one 27 (by decide)) rfl rfl ⟨rfl, rfl, rfl, by decide +kernel, rfl, by decide +kernel, by decide +kernel⟩ (by decide) (by decide) (by decide) (by decide) (fun _ _ _ _ _ _ us hl => match us, hl with | [_, _, _], _ => rfl) (fun _ _ _ _ _ _ us ws hl hm => match us, hl, ws, hm with | [_], _, [_, _], _ => rfl)
theorem ini_28 (c : He.SaysD fa fn K) (A : AllF K) : IniOk P w K mg base 28 := by
  obtain ⟨fd, F⟩ := ini_fn (i := 28) c (by decide)
  exact iniOk1 (x := "many") F (A.one 28 (by decide)) rfl rfl ⟨rfl, rfl, rfl, by decide +kernel, rfl, by decide +kernel, by decide +kernel⟩ (by decide) (by decide) (fun _ _ _ _ _ _ us hl => match us, hl with | [_, _], _ => rfl) (fun _ _ _ _ _ _ us ws hl hm => match us, hl, ws, hm with | [_], _, [_], _ => rfl)
theorem ini_29 (c : He.SaysD fa fn K) (A : AllF K) : IniOk P w K mg base 29 := by
  obtain ⟨fd, F⟩ := ini_fn (i := 29) c (by decide)
  exact iniOk1 (x := "place") F (A.one 29 (by decide)) rfl rfl ⟨rfl, rfl, rfl, by decide +kernel, rfl, by decide +kernel, by decide +kernel⟩ (by decide) (by decide) (fun _ _ _ _ _ _ us hl => match us, hl with | [_, _], _ => rfl) (fun _ _ _ _ _ _ us ws hl hm => match us, hl, ws, hm with | [_], _, [_], _ => rfl)
theorem ini_30 (c : He.SaysD fa fn K) (A : AllF K) : IniOk P w K mg base 30 := by
  obtain ⟨fd, F⟩ := ini_fn (i := 30) c (by decide)
  exact iniOk1 (x := "ways") F (A.one 30 (by decide)) rfl rfl ⟨rfl, rfl, rfl, by decide +kernel, rfl, by decide +kernel, by decide +kernel⟩ (by decide) (by decide) (fun _ _ _ _ _ _ us hl => match us, hl with | [_, _], _ => rfl) (fun _ _ _ _ _ _ us ws hl hm => match us, hl, ws, hm with | [_], _, [_], _ => rfl)
theorem ini_31 (c : He.SaysD fa fn K) (A : AllF K) : IniOk P w K mg base 31 := by
  obtain ⟨fd, F⟩ := ini_fn (i := 31) c (by decide)
  exact iniOk2 (x := "one") (y := "other") F (A.one 31 (by decide)) rfl rfl ⟨rfl, rfl, rfl, by decide +kernel, rfl, by decide +kernel, by decide +kernel⟩ (by decide) (by decide) (by decide) (by decide) (fun _ _ _ _ _ _ us hl => match us, hl with | [_, _, _], _ => rfl) (fun _ _ _ _ _ _ us ws hl hm => match us, hl, ws, hm with | [_], _, [_, _], _ => rfl)
theorem ini_32 (c : He.SaysD fa fn K) (A : AllF K) : IniOk P w K mg base 32 := by
  obtain ⟨fd, F⟩ := ini_fn (i := 32) c (by decide)
  exact iniOk1 (x := "question") F (A.one 32 (by decide)) rfl rfl ⟨rfl, rfl, rfl, by decide +kernel, rfl, by decide +kernel, by decide +kernel⟩ (by decide) (by decide) (fun _ _ _ _ _ _ us hl => match us, hl with | [_, _], _ => rfl) (fun _ _ _ _ _ _ us ws hl hm => match us, hl, ws, hm with | [_], _, [_], _ => rfl)
theorem ini_33 (c : He.SaysD fa fn K) (A : AllF K) : IniOk P w K mg base 33 := by
  obtain ⟨fd, F⟩ := ini_fn (i := 33) c (by decide)
  exact iniOk1 (x := "place") F (A.one 33 (by decide)) rfl rfl ⟨rfl, rfl, rfl, by decide +kernel, rfl, by decide +kernel, by decide +kernel⟩ (by decide) (by decide) (fun _ _ _ _ _ _ us hl => match us, hl with | [_, _], _ => rfl) (fun _ _ _ _ _ _ us ws hl hm => match us, hl, ws, hm with | [_], _, [_], _ => rfl)
theorem ini_34 (c : He.SaysD fa fn K) (A : AllF K) : IniOk P w K mg base 34 := by
  obtain ⟨fd, F⟩ := ini_fn (i := 34) c (by decide)
  exact iniOk1 (x := "question") F (A.one 34 (by decide)) rfl rfl ⟨rfl, rfl, rfl, by decide +kernel, rfl, by decide +kernel, by decide +kernel⟩ (by decide) (by decide) (fun _ _ _ _ _ _ us hl => match us, hl with | [_, _], _ => rfl) (fun _ _ _ _ _ _ us ws hl hm => match us, hl, ws, hm with | [_], _, [_], _ => rfl)
theorem ini_35 (c : He.SaysD fa fn K) (A : AllF K) : IniOk P w K mg base 35 := by
  obtain ⟨fd, F⟩ := ini_fn (i := 35) c (by decide)
  exact iniOk1 (x := "thing") F (A.one 35 (by decide)) rfl rfl ⟨rfl, rfl, rfl, by decide +kernel, rfl, by decide +kernel, by decide +kernel⟩ (by decide) (by decide) (fun _ _ _ _ _ _ us hl => match us, hl with | [_, _], _ => rfl) (fun _ _ _ _ _ _ us ws hl hm => match us, hl, ws, hm with | [_], _, [_], _ => rfl)
theorem ini_37 (c : He.SaysD fa fn K) (A : AllF K) : IniOk P w K mg base 37 := by
  obtain ⟨fd, F⟩ := ini_fn (i := 37) c (by decide)
  exact iniOk1 (x := "thing") F (A.one 37 (by decide)) rfl rfl ⟨rfl, rfl, rfl, by decide +kernel, rfl, by decide +kernel, by decide +kernel⟩ (by decide) (by decide) (fun _ _ _ _ _ _ us hl => match us, hl with | [_, _], _ => rfl) (fun _ _ _ _ _ _ us ws hl hm => match us, hl, ws, hm with | [_], _, [_], _ => rfl)
theorem ini_38 (c : He.SaysD fa fn K) (A : AllF K) : IniOk P w K mg base 38 := by
  obtain ⟨fd, F⟩ := ini_fn (i := 38) c (by decide)
  exact iniOk1 (x := "thing") F (A.one 38 (by decide)) rfl rfl ⟨rfl, rfl, rfl, by decide +kernel, rfl, by decide +kernel, by decide +kernel⟩ (by decide) (by decide) (fun _ _ _ _ _ _ us hl => match us, hl with | [_, _], _ => rfl) (fun _ _ _ _ _ _ us ws hl hm => match us, hl, ws, hm with | [_], _, [_], _ => rfl)
theorem ini_39 (c : He.SaysD fa fn K) (A : AllF K) : IniOk P w K mg base 39 := by
  obtain ⟨fd, F⟩ := ini_fn (i := 39) c (by decide)
  exact iniOk2 (x := "one") (y := "other") F (A.one 39 (by decide)) rfl rfl ⟨rfl, rfl, rfl, by decide +kernel, rfl, by decide +kernel, by decide +kernel⟩ (by decide) (by decide) (by decide) (by decide) (fun _ _ _ _ _ _ us hl => match us, hl with | [_, _, _], _ => rfl) (fun _ _ _ _ _ _ us ws hl hm => match us, hl, ws, hm with | [_], _, [_, _], _ => rfl)
theorem ini_41 (c : He.SaysD fa fn K) (A : AllF K) : IniOk P w K mg base 41 := by
  obtain ⟨fd, F⟩ := ini_fn (i := 41) c (by decide)
  exact iniOk1 (x := "question") F (A.one 41 (by decide)) rfl rfl ⟨rfl, rfl, rfl, by decide +kernel, rfl, by decide +kernel, by decide +kernel⟩ (by decide) (by decide) (fun _ _ _ _ _ _ us hl => match us, hl with | [_, _], _ => rfl) (fun _ _ _ _ _ _ us ws hl hm => match us, hl, ws, hm with | [_], _, [_], _ => rfl)
theorem ini_44 (c : He.SaysD fa fn K) (A : AllF K) : IniOk P w K mg base 44 := by
  obtain ⟨fd, F⟩ := ini_fn (i := 44) c (by decide)
  exact iniOk1 (x := "thing") F (A.one 44 (by decide)) rfl rfl ⟨rfl, rfl, rfl, by decide +kernel, rfl, by decide +kernel, by decide +kernel⟩ (by decide) (by decide) (fun _ _ _ _ _ _ us hl => match us, hl with | [_, _], _ => rfl) (fun _ _ _ _ _ _ us ws hl hm => match us, hl, ws, hm with | [_], _, [_], _ => rfl)
theorem ini_45 (c : He.SaysD fa fn K) (A : AllF K) : IniOk P w K mg base 45 := by
  obtain ⟨fd, F⟩ := ini_fn (i := 45) c (by decide)
  exact iniOk2 (x := "question") (y := "why") F (A.one 45 (by decide)) rfl rfl ⟨rfl, rfl, rfl, by decide +kernel, rfl, by decide +kernel, by decide +kernel⟩ (by decide) (by decide) (by decide) (by decide) (fun _ _ _ _ _ _ us hl => match us, hl with | [_, _, _], _ => rfl) (fun _ _ _ _ _ _ us ws hl hm => match us, hl, ws, hm with | [_], _, [_, _], _ => rfl)
end
end E0
set_option Elab.async false
set_option linter.all false
set_option maxRecDepth 100000
set_option maxHeartbeats 4000000
/-! One row of the law's lists of errors: the error by place, the error by name, what reads its fields, what it was made with. -/
namespace E0
open PySem PySem.Spec PyProof.Rows L2 LamX
def valsI (x y : V) (i : Nat) : List V := [x, y].take (flds i).length
def ExcI (K : PySem.W.Frag) (H : Hp) (e : Addr) (x y : V) (i : Nat) : Prop := (flds i = [] ∧ H e = some (exo e (cA K i) none)) ∨ (flds i ≠ [] ∧ ExcAt H e (cA K i) (fsOf (flds i) (valsI x y i)))
/-- what the reader of fields promises -/
def spL (K : PySem.W.Frag) (i : Nat) : Sp := fun vs H Q _ => ∃ (e : Addr) (x y : V), vs = [.ref e] ∧ ExcI K H e x y i ∧ ∀ p, H p = none → Q (.ref p) (upd H p (.lst (valsI x y i)))
def LamP (P : Program) (w : World) (K : PySem.W.Frag) (mg : Str → Option Value) (base : Heap) (H : Hp) (f : Addr) (i : Nat) : Prop := ∃ (q : Str) (params : Arguments) (body : Expr) (scope : Scope), LamAt H f q params body scope ∧ LamOk P w K mg base 1 q params body scope (spL K i)
/-- one row at t; l: another list -/
def Entry (P : Program) (w : World) (K : PySem.W.Frag) (mg : Str → Option Value) (base : Heap) (H : Hp) (l : Addr) (x y : V) (i : Nat) (t : Addr) : Prop := ∃ e1 e2 f p : Addr, H t = some (.tup [.ref e1, .ref e2, .ref f, .ref p]) ∧ ExcI K H e1 x y i ∧ ExcI K H e2 x y i ∧
  LamP P w K mg base H f i ∧ H p = some (.lst (valsI x y i)) ∧ p ≠ l
/-- everything but tables and what stands at l stands as it stood -/
def ExtL (H H' : Hp) (l : Addr) : Prop := ∀ b o, b ≠ l → H b = some o → (∀ ps, o ≠ .tbl ps) → H' b = some o
theorem exo_tb {e C : Addr} {d : Option Addr} (ps : Array Value) : exo e C d ≠ .tbl ps := exo_tbl
theorem exd_tb {e : Addr} {fs : List (Str × V)} (ps : Array Value) : exd e fs ≠ .tbl ps := fun z => by
  have z' : HO.ext _ = HO.tbl ps := z
  cases z'
theorem ne_lst {H : Hp} {a l : Addr} {o : HO} {xs : List V} (h : H a = some o) (hl : H l = some (.lst xs)) (d : o ≠ .lst xs) : a ≠ l := ne_of h hl d
theorem ext_lst {φ : Heap → Prop} {xs : List V} : HO.ext φ ≠ .lst xs := fun z => by cases z
theorem ExcAt.stay {H H' : Hp} {e C l : Addr} {fs : List (Str × V)} {xs : List V} (h : ExcAt H e C fs) (hl : H l = some (.lst xs)) (E : ExtL H H' l) : ExcAt H' e C fs := by
  obtain ⟨d, h1, h2⟩ := h
  exact ⟨d, E _ _ (ne_lst h1 hl ext_lst) h1 exo_tb, E _ _ (ne_lst h2 hl ext_lst) h2 exd_tb⟩
theorem ExcI.stay {K : PySem.W.Frag} {H H' : Hp} {e l : Addr} {x y : V} {i : Nat} {xs : List V} (h : ExcI K H e x y i) (hl : H l = some (.lst xs)) (E : ExtL H H' l) : ExcI K H' e x y i := by
  rcases h with ⟨z, h⟩ | ⟨z, h⟩
  · exact .inl ⟨z, E _ _ (ne_lst h hl ext_lst) h exo_tb⟩
  · exact .inr ⟨z, h.stay hl E⟩
theorem lamO_tb {f c' : Addr} {q : Str} {params : Arguments} {body : Expr} {scope : Scope} {pm ctv : Value} (ps : Array Value) : lamO f c' q params body scope pm ctv ≠ .tbl ps := fun z => by
  have z' : HO.ext _ = HO.tbl ps := z
  cases z'
theorem LamAt.stay {H H' : Hp} {f l : Addr} {q : Str} {params : Arguments} {body : Expr} {scope : Scope} {xs : List V} (L : LamAt H f q params body scope) (hl : H l = some (.lst xs)) (E : ExtL H H' l) : LamAt H' f q params body scope := by
  obtain ⟨c', pm, ctv, h1, h2⟩ := L
  exact ⟨c', pm, ctv, E _ _ (ne_lst h1 hl ext_lst) h1 lamO_tb, E _ _ (ne_lst h2 hl ext_lst) h2 codeO_ne⟩
theorem Entry.stay {P : Program} {w : World} {K : PySem.W.Frag} {mg : Str → Option Value} {base : Heap} {H H' : Hp} {l : Addr} {x y : V} {i : Nat} {t : Addr} {xs : List V} (h : Entry P w K mg base H l x y i t) (hl : H l = some (.lst xs)) (E : ExtL H H' l) : Entry P w K mg base H' l x y i t := by
  obtain ⟨e1, e2, f, p, h1, h2, h3, ⟨q, pa, bo, sc, h4, h5⟩, h6, h7⟩ := h
  exact ⟨e1, e2, f, p, E _ _ (ne_lst h1 hl (fun z => by cases z)) h1 (fun _ z => by cases z), h2.stay hl E, h3.stay hl E, ⟨q, pa, bo, sc, h4.stay hl E, h5⟩, E _ _ h7 h6 (fun _ z => by cases z), h7⟩
theorem ExtL.refl (H : Hp) (l : Addr) : ExtL H H l := fun _ _ _ h _ => h
theorem ExtL.trans {H H1 H2 : Hp} {l : Addr} (a : ExtL H H1 l) (b : ExtL H1 H2 l) : ExtL H H2 l := fun c o n h t => b c o n (a c o n h t) t
theorem ExtL.of {H H' : Hp} {l : Addr} (e : ExtN H H') : ExtL H H' l := fun b o _ h t => e b o h t
theorem ExtL.same {H H' : Hp} {l : Addr} (e : Same H H') : ExtL H H' l := fun b o _ h _ => e b o h
theorem ExtL.upd {H : Hp} {l : Addr} {o : HO} : ExtL H (upd H l o) l := fun b u n h _ => by rw [upd_ne n]; exact h
theorem ExtL.new {H : Hp} {l p : Addr} {o : HO} (n : H p = none) : ExtL H (L2.upd H p o) l := .same fun b u e => by rw [upd_ne (ne_of_none e n)]; exact e
theorem Tabs.keep {T : List (Addr × Str)} {H H' : Hp} (h : Tabs T H) (e : Same H H') : Tabs T H' := h.ext e
theorem Tabs.updL {T : List (Addr × Str)} {H : Hp} {l : Addr} {xs ys : List V} (h : Tabs T H) (hl : H l = some (.lst xs)) : Tabs T (upd H l (.lst ys)) := fun p hp => by
  obtain ⟨ps, a1, a2, a3⟩ := h p hp
  refine ⟨ps, by rw [upd_ne (ne_of a1 hl (fun z => by cases z))]; exact a1, a2, fun pos cv hc => ?_⟩
  obtain ⟨c, b1, b2⟩ := a3 pos cv hc
  exact ⟨c, b1, by rw [upd_ne (ne_of b2 hl ext_lst)]; exact b2⟩
/-- found.append((C(..), C(..), lambda e: .., [..])) -/
def tApp (P : Program) (w : World) (K : PySem.W.Frag) (mg : Str → Option Value) (base : Heap) (T : List (Addr × Str)) (i : Nat) : TS := fun D σ H => ∃ (l : Addr) (acc : List V) (x y : V), σ[0]? = some (some x) ∧ σ[1]? = some (some y) ∧ σ[3]? = some (some (.ref l)) ∧ H l = some (.lst acc) ∧
  acc.length ≤ 1000 ∧ Tabs T H ∧ ∀ (t : Addr) (H' : Hp), H' l = some (.lst (acc ++ [.ref t])) → ExtL H H' l → Tabs T H' → Entry P w K mg base H' l x y i t → D.nx σ H'
theorem PS.conv {X : Cx} {st : Stmt} {t t' : TS} (h : PS X st t) (c : ∀ D σ H, t' D σ H → t D σ H) : PS X st t' := ⟨fun pins s σ H D I q => h.run pins s σ H D I (c D σ H q)⟩
section
variable {P : Program} {w : World} {K : PySem.W.Frag} {mg : Str → Option Value} {base : Heap} {T : List (Addr × Str)}
theorem app_end {H H1 H2 H3 : Hp} {l e1 e2 f p t : Addr} {acc : List V} {x y : V} {i : Nat} (hl : H l = some (.lst acc)) (S1 : Same H H1) (E1 : ExcI K H1 e1 x y i) (S2 : Same H1 H2) (E2 : ExcI K H2 e2 x y i) (S3 : ExtN H2 H3) (T3 : Tabs T H3)
    (L : LamP P w K mg base H3 f i) (np : H3 p = none) (nt : (upd H3 p (.lst (valsI x y i))) t = none) :
    (upd (upd H3 p (.lst (valsI x y i))) t (.tup [.ref e1, .ref e2, .ref f, .ref p])) l = some (.lst acc) ∧
    ExtL H (upd (upd (upd H3 p (.lst (valsI x y i))) t (.tup [.ref e1, .ref e2, .ref f, .ref p])) l (.lst (acc ++ [.ref t]))) l ∧
    Tabs T (upd (upd (upd H3 p (.lst (valsI x y i))) t (.tup [.ref e1, .ref e2, .ref f, .ref p])) l (.lst (acc ++ [.ref t]))) ∧
    Entry P w K mg base (upd (upd (upd H3 p (.lst (valsI x y i))) t (.tup [.ref e1, .ref e2, .ref f, .ref p])) l (.lst (acc ++ [.ref t]))) l x y i t := by
  have l1 := S1 _ _ hl
  have l2 := S2 _ _ l1
  have l3 := S3 _ _ l2 (fun _ z => by cases z)
  have pl : p ≠ l := (ne_of_none l3 np).symm
  have l4 : (upd H3 p (.lst (valsI x y i))) l = some (.lst acc) := by rw [upd_ne pl.symm]; exact l3
  have tl : t ≠ l := (ne_of_none l4 nt).symm
  have l5 : (upd (upd H3 p (.lst (valsI x y i))) t (.tup [.ref e1, .ref e2, .ref f, .ref p])) l = some (.lst acc) := by rw [upd_ne tl.symm]; exact l4
  have tp : p ≠ t := ne_of_none (o := .lst (valsI x y i)) upd_same nt
  have x3 : ExtL H3 (upd (upd (upd H3 p (.lst (valsI x y i))) t (.tup [.ref e1, .ref e2, .ref f, .ref p])) l (.lst (acc ++ [.ref t]))) l := ((ExtL.new np).trans (ExtL.new nt)).trans ExtL.upd
  have x2 := (ExtL.of (l := l) S3).trans x3
  have x1 := (ExtL.same (l := l) S2).trans x2
  obtain ⟨q, pa, bo, sc, h4, h5⟩ := L
  have t4 : Tabs T (upd H3 p (.lst (valsI x y i))) := E0.Tabs.keep T3 fun b o e => by
    rw [upd_ne (ne_of_none e np)]; exact e
  have t5 : Tabs T (upd (upd H3 p (.lst (valsI x y i))) t (.tup [.ref e1, .ref e2, .ref f, .ref p])) := E0.Tabs.keep t4 fun b o e => by
    rw [upd_ne (ne_of_none e nt)]; exact e
  refine ⟨l5, (ExtL.same S1).trans x1, E0.Tabs.updL t5 l5, e1, e2, f, p, ?_, E1.stay l1 x1, E2.stay l2 x2, ⟨q, pa, bo, sc, h4.stay l3 x3, h5⟩, ?_, pl⟩
  · rw [upd_ne tl]; exact upd_same
  · rw [upd_ne pl, upd_ne tp]; exact upd_same
end
abbrev lamSc : Scope := { kind := .function, names := [(PySem.Str.ofString "_law_e", .local)], isGenerator := false, isCoroutine := false, more := [] }
abbrev lamPar (p : Pos) : Arguments := { posonlyargs := [], args := [{ arg := "_law_e", annotation := none, pos := p }], vararg := none, kwonlyargs := [], kw_defaults := [], kwarg := none, defaults := [] }
theorem scLam : FnScope ["_law_e"] ["_law_e"] lamSc := ⟨rfl, rfl, rfl, by decide +kernel, rfl, by decide +kernel, by decide +kernel⟩
theorem lookup1 (f : Str) (v : V) : (fsOf [f] [v]).lookup f = some v := by simp [fsOf, List.lookup]
theorem lookup2a {f g : Str} (h : f ≠ g) (v u : V) : (fsOf [f, g] [v, u]).lookup f = some v := by
  have e : (f == g) = false := by simpa using h
  simp [fsOf, List.lookup, e]
theorem lookup2b {f g : Str} (v u : V) : (fsOf [f, g] [v, u]).lookup g = some u := by simp [fsOf, List.lookup]
section
variable {P : Program} {w : World} {K : PySem.W.Frag} {mg : Str → Option Value} {base : Heap} {i : Nat} {q f g : Str}
theorem spL_len {vs : List V} {H : Hp} {Q : VK} {E : XK} (h : spL K i vs H Q E) : vs.length = (["_law_e"] : List Str).length := by
  obtain ⟨e, x, y, rfl, _⟩ := h
  rfl
theorem lamOk0 {p p1 : Pos} (hf : flds i = []) : LamOk P w K mg base 1 q (lamPar p) (.List [] p1) lamSc (spL K i) := by
  refine lam_of scLam (fun vs H Q E h => spL_len h) (fun pm cdv ct us hl => match us, hl with | [_], _ => rfl) fun A outer s H f c' vs Q hr h => ?_
  obtain ⟨e, x, y, rfl, hx, k⟩ := h
  refine ⟨_, pe_lst pa_nil, Nat.zero_le _, fun p hp => ?_⟩
  have := k p hp
  unfold valsI at this
  rw [hf] at this
  exact this
theorem lamOk1 {p p1 p2 p3 : Pos} {bm : List Value} (cf : Cf K (cA K i) (flds i) bm) (hf : flds i = [f]) : LamOk P w K mg base 1 q (lamPar p) (.List [.Attribute (.Name "_law_e" p1) f p2] p3) lamSc (spL K i) := by
  refine lam_of scLam (fun vs H Q E h => spL_len h) (fun pm cdv ct us hl => match us, hl with | [_], _ => rfl) fun A outer s H fa c' vs Q hr h => ?_
  obtain ⟨e, x, y, rfl, hx, k⟩ := h
  have no := cf.no
  have ev : valsI x y i = [x] := by unfold valsI; rw [hf]; rfl
  rw [ev] at k
  refine ⟨_, pe_lst (pa_cons (pe_fx (pv 0)) pa_nil), ?_⟩
  rcases hx with ⟨z, _⟩ | ⟨_, d, h1, h2⟩
  · rw [hf] at z
    cases z
  · rw [ev, hf] at h2
    rw [hf] at no
    exact ⟨_, rfl, e, cA K i, d, _, x, rfl, cf.xf, no f (by simp), h1, h2, lookup1 f x, (by show 1 ≤ sizeLine; decide), k⟩
theorem lamOk2 {p p1 p2 p3 p4 p5 : Pos} {bm : List Value} (cf : Cf K (cA K i) (flds i) bm) (hf : flds i = [f, g]) (hne : f ≠ g) :
    LamOk P w K mg base 1 q (lamPar p) (.List [.Attribute (.Name "_law_e" p1) f p2, .Attribute (.Name "_law_e" p3) g p4] p5) lamSc (spL K i) := by
  refine lam_of scLam (fun vs H Q E h => spL_len h) (fun pm cdv ct us hl => match us, hl with | [_], _ => rfl) fun A outer s H fa c' vs Q hr h => ?_
  obtain ⟨e, x, y, rfl, hx, k⟩ := h
  have no := cf.no
  have ev : valsI x y i = [x, y] := by unfold valsI; rw [hf]; rfl
  rw [ev] at k
  refine ⟨_, pe_lst (pa_cons (pe_fx (pv 0)) (pa_cons (pe_fx (pv 0)) pa_nil)), ?_⟩
  rcases hx with ⟨z, _⟩ | ⟨_, d, h1, h2⟩
  · rw [hf] at z
    cases z
  · rw [ev, hf] at h2
    rw [hf] at no
    exact ⟨_, rfl, e, cA K i, d, _, x, rfl, cf.xf, no f (by simp), h1, h2, lookup2a hne x y, _, rfl, e, cA K i, d, _, y, rfl, cf.xf, no g (by simp), h1, h2, lookup2b x y, (by show 2 ≤ sizeLine; decide), k⟩
end
/-! ### the rows, by how many fields there are -/
section
variable {X : Cx} {T : List (Addr × Str)} {i : Nat} {x f g : Str} {c Pt : Addr} {p1 p2 p3 p4 p5 p6 p7 p8 p9 p10 p11 p12 p13 p14 p15 p16 p17 p18 p19 p20 p21 p22 p23 p24 p25 p26 : Pos} {kk : Nat}
theorem ps_app1 (A : AllF X.K) (hi : i < 46) (hf : flds i = [f]) (ok : IniOk X.prog X.w X.K X.mg X.base i) (hr : Room 2 X.A) (n0 : X.N[0]? = some ("_law_x" : Str)) (n3 : X.N[3]? = some ("_law_found" : Str)) (v0 : Vis X.env.scope "_law_x") (v3 : Vis X.env.scope "_law_found") (hg : Gl X x) (hm : X.mg x = some (.ref (cA X.K i)))
    (hdb : (x == ("__debug__" : Str)) = false) (TB : TabB X.base X.mg c Pt) (hcode : X.env.code = .ref c) (hT : (Pt, X.env.qual ++ "<lambda>") ∈ T) (hu : ∀ p ∈ T, p.1 = Pt → p.2 = X.env.qual ++ "<lambda>") (hl : (p2.endLine == p18.line) = true) :
    PS X (.Expr (.Call (.Attribute (.Name "_law_found" p1) "append" p2) [.Tuple [.Call (.Name x p3) [.Name "_law_x" p4] [] p5, .Call (.Name x p6) [] [⟨some f, .Name "_law_x" p7, p8⟩] p9,
      .Lambda (lamPar p10) (.List [.Attribute (.Name "_law_e" p11) f p12] p13) lamSc p14, .List [.Name "_law_x" p15] p16] kk p17] [] p18) p19) (tApp X.prog X.w X.K X.mg X.base T i) := by
  obtain ⟨fd, F, b1, b2⟩ := ok.ex
  obtain ⟨iC, tI⟩ := A.ini i hi (by rw [hf]; simp)
  have cf := A.one i hi
  have b1' : KBn X.K fd ("self" :: flds i) (1 + 1) [] (fun us _ => us) (fun vs _ => vs) := by rw [hf] at b1 ⊢; exact b1
  have b2' : KBn X.K fd ("self" :: flds i) 1 [f] (fun us ws => us ++ ws.reverse) (fun vs zs => vs ++ zs.reverse) := by rw [hf] at b2 ⊢; exact b2
  have pv0 : ∀ p, PE X (.Name "_law_x" p) (tVar 0) := fun p => pe_var n0 v0 (by decide) (by decide)
  refine PS.conv (ps_expr (pe_bm PySem.F.plainAttrs_list PySem.F.slot_list_append PySem.F.type_list_append mt_append (pe_var (i := 3) n3 v3 (by decide) (by decide)) (pa_cons (pe_tup
    (pa_cons (pe_mkx cf.oex iC tI F hr b1' (by decide) hg hm (pa_cons (pv0 _) pa_nil) hdb)
    (pa_cons (pe_mkx0 (ks := [f]) cf.oex iC tI F hr b2' hg hm (pk_cons (pv0 _) pk_nil) hdb)
    (pa_cons (pe_lamv TB hcode hT hu) (pa_cons (pe_lst (pa_cons (pv0 _) pa_nil)) pa_nil))))) pa_nil) (hline := hl))) fun D σ H h => ?_
  obtain ⟨l, acc, vx, vy, s0, s1, s3, hl, hlen, hT0, k⟩ := h
  have ev : valsI vx vy i = [vx] := by unfold valsI; rw [hf]; rfl
  have nf : flds i ≠ [] := by rw [hf]; simp
  refine ⟨_, s3, .inl ⟨rfl, _, SqL.of hl⟩, vx, s0, rfl, rfl, fun e1 => ⟨[vx], rfl, by rw [hf]; rfl, fun H1 m1 X1 S1 => ?_⟩⟩
  refine ⟨vx, s0, rfl, rfl, fun e2 => ⟨[vx], rfl, by rw [hf]; rfl, fun H2 m2 X2 S2 => ⟨?_, fun fa H3 S3 T3 L => ?_⟩⟩⟩
  · exact E0.Tabs.keep (E0.Tabs.keep hT0 S1) S2
  refine ⟨vx, s0, (by show 1 ≤ sizeLine; decide), fun p np => ⟨(by show 4 ≤ sizeLine; decide), fun t nt => ?_⟩⟩
  have fin := app_end hl S1 (.inr ⟨nf, by rw [ev]; exact X1⟩) S2 (.inr ⟨nf, by rw [ev]; exact X2⟩) S3 T3 ⟨_, _, _, _, L, lamOk1 (w := X.w) (P := X.prog) (mg := X.mg) (base := X.base) cf hf⟩ np (by rw [ev]; exact nt)
  rw [ev] at fin
  obtain ⟨f1, f2, f3, f4⟩ := fin
  exact ⟨l, acc, .ref t, rfl, rfl, f1, small1000 hlen, k t _ upd_same f2 f3 f4⟩
theorem ps_app2 (A : AllF X.K) (hi : i < 46) (hf : flds i = [f, g]) (hne : f ≠ g) (ok : IniOk X.prog X.w X.K X.mg X.base i) (hr : Room 2 X.A) (n0 : X.N[0]? = some ("_law_x" : Str)) (n1 : X.N[1]? = some ("_law_y" : Str)) (n3 : X.N[3]? = some ("_law_found" : Str))
    (v0 : Vis X.env.scope "_law_x") (v1 : Vis X.env.scope "_law_y") (v3 : Vis X.env.scope "_law_found") (hg : Gl X x) (hm : X.mg x = some (.ref (cA X.K i)))
    (hdb : (x == ("__debug__" : Str)) = false) (TB : TabB X.base X.mg c Pt) (hcode : X.env.code = .ref c) (hT : (Pt, X.env.qual ++ "<lambda>") ∈ T) (hu : ∀ p ∈ T, p.1 = Pt → p.2 = X.env.qual ++ "<lambda>") (hl : (p2.endLine == p18.line) = true) :
    PS X (.Expr (.Call (.Attribute (.Name "_law_found" p1) "append" p2) [.Tuple [.Call (.Name x p3) [.Name "_law_x" p4, .Name "_law_y" p20] [] p5, .Call (.Name x p6) [] [⟨some g, .Name "_law_y" p7, p8⟩, ⟨some f, .Name "_law_x" p21, p22⟩] p9,
      .Lambda (lamPar p10) (.List [.Attribute (.Name "_law_e" p11) f p12, .Attribute (.Name "_law_e" p23) g p24] p13) lamSc p14, .List [.Name "_law_x" p15, .Name "_law_y" p25] p16] kk p17] [] p18) p19) (tApp X.prog X.w X.K X.mg X.base T i) := by
  obtain ⟨fd, F, b1, b2⟩ := ok.ex
  obtain ⟨iC, tI⟩ := A.ini i hi (by rw [hf]; simp)
  have cf := A.one i hi
  have b1' : KBn X.K fd ("self" :: flds i) (2 + 1) [] (fun us _ => us) (fun vs _ => vs) := by rw [hf] at b1 ⊢; exact b1
  have b2' : KBn X.K fd ("self" :: flds i) 1 [g, f] (fun us ws => us ++ ws.reverse) (fun vs zs => vs ++ zs.reverse) := by rw [hf] at b2 ⊢; exact b2
  have pv0 : ∀ p, PE X (.Name "_law_x" p) (tVar 0) := fun p => pe_var n0 v0 (by decide) (by decide)
  have pv1 : ∀ p, PE X (.Name "_law_y" p) (tVar 1) := fun p => pe_var n1 v1 (by decide) (by decide)
  refine PS.conv (ps_expr (pe_bm PySem.F.plainAttrs_list PySem.F.slot_list_append PySem.F.type_list_append mt_append (pe_var (i := 3) n3 v3 (by decide) (by decide)) (pa_cons (pe_tup
    (pa_cons (pe_mkx cf.oex iC tI F hr b1' (by decide) hg hm (pa_cons (pv0 _) (pa_cons (pv1 _) pa_nil)) hdb)
    (pa_cons (pe_mkx0 (ks := [g, f]) cf.oex iC tI F hr b2' hg hm (pk_cons (pv1 _) (pk_cons (pv0 _) pk_nil)) hdb)
    (pa_cons (pe_lamv TB hcode hT hu) (pa_cons (pe_lst (pa_cons (pv0 _) (pa_cons (pv1 _) pa_nil))) pa_nil))))) pa_nil) (hline := hl))) fun D σ H h => ?_
  obtain ⟨l, acc, vx, vy, s0, s1, s3, hl, hlen, hT0, k⟩ := h
  have ev : valsI vx vy i = [vx, vy] := by unfold valsI; rw [hf]; rfl
  have nf : flds i ≠ [] := by rw [hf]; simp
  refine ⟨_, s3, .inl ⟨rfl, _, SqL.of hl⟩, vx, s0, vy, s1, rfl, rfl, fun e1 => ⟨[vx, vy], rfl, by rw [hf]; rfl, fun H1 m1 X1 S1 => ?_⟩⟩
  refine ⟨vy, s1, vx, s0, rfl, rfl, fun e2 => ⟨[vx, vy], rfl, by rw [hf]; rfl, fun H2 m2 X2 S2 => ⟨?_, fun fa H3 S3 T3 L => ?_⟩⟩⟩
  · exact E0.Tabs.keep (E0.Tabs.keep hT0 S1) S2
  refine ⟨vx, s0, vy, s1, (by show 2 ≤ sizeLine; decide), fun p np => ⟨(by show 4 ≤ sizeLine; decide), fun t nt => ?_⟩⟩
  have fin := app_end hl S1 (.inr ⟨nf, by rw [ev]; exact X1⟩) S2 (.inr ⟨nf, by rw [ev]; exact X2⟩) S3 T3 ⟨_, _, _, _, L, lamOk2 (w := X.w) (P := X.prog) (mg := X.mg) (base := X.base) cf hf hne⟩ np (by rw [ev]; exact nt)
  rw [ev] at fin
  obtain ⟨f1, f2, f3, f4⟩ := fin
  exact ⟨l, acc, .ref t, rfl, rfl, f1, small1000 hlen, k t _ upd_same f2 f3 f4⟩
theorem ps_app0 (A : AllF X.K) (hi : i < 46) (hf : flds i = []) (n3 : X.N[3]? = some ("_law_found" : Str)) (v3 : Vis X.env.scope "_law_found") (hg : Gl X x) (hm : X.mg x = some (.ref (cA X.K i)))
    (hdb : (x == ("__debug__" : Str)) = false) (TB : TabB X.base X.mg c Pt) (hcode : X.env.code = .ref c) (hT : (Pt, X.env.qual ++ "<lambda>") ∈ T) (hu : ∀ p ∈ T, p.1 = Pt → p.2 = X.env.qual ++ "<lambda>") (hl : (p2.endLine == p18.line) = true) :
    PS X (.Expr (.Call (.Attribute (.Name "_law_found" p1) "append" p2) [.Tuple [.Call (.Name x p3) [] [] p5, .Call (.Name x p6) [] [] p9,
      .Lambda (lamPar p10) (.List [] p13) lamSc p14, .List [] p16] kk p17] [] p18) p19) (tApp X.prog X.w X.K X.mg X.base T i) := by
  have cf := A.one i hi
  have q := A.exc.2 i hi hf
  refine PS.conv (ps_expr (pe_bm PySem.F.plainAttrs_list PySem.F.slot_list_append PySem.F.type_list_append mt_append (pe_var (i := 3) n3 v3 (by decide) (by decide)) (pa_cons (pe_tup
    (pa_cons (pe_mk0 q cf.oex.kC hg hm hdb) (pa_cons (pe_mk0 q cf.oex.kC hg hm hdb) (pa_cons (pe_lamv TB hcode hT hu) (pa_cons (pe_lst pa_nil) pa_nil))))) pa_nil) (hline := hl))) fun D σ H h => ?_
  obtain ⟨l, acc, vx, vy, s0, s1, s3, hl, hlen, hT0, k⟩ := h
  have ev : valsI vx vy i = [] := by unfold valsI; rw [hf]; rfl
  refine ⟨_, s3, .inl ⟨rfl, _, SqL.of hl⟩, fun e1 n1 e2 n2 => ?_⟩
  have S1 : Same H (upd H e1 (exo e1 (cA X.K i) none)) := fun b o e => by rw [upd_ne (ne_of_none e n1)]; exact e
  have S2 : Same (upd H e1 (exo e1 (cA X.K i) none)) (upd (upd H e1 (exo e1 (cA X.K i) none)) e2 (exo e2 (cA X.K i) none)) := fun b o e => by rw [upd_ne (ne_of_none e n2)]; exact e
  refine ⟨?_, fun fa H3 S3 T3 L => ⟨Nat.zero_le _, fun p np => ⟨(by show 4 ≤ sizeLine; decide), fun t nt => ?_⟩⟩⟩
  · exact E0.Tabs.keep (E0.Tabs.keep hT0 S1) S2
  have fin := app_end hl S1 (.inl ⟨hf, upd_same⟩) S2 (.inl ⟨hf, upd_same⟩) S3 T3 ⟨_, _, _, _, L, lamOk0 (w := X.w) (P := X.prog) (mg := X.mg) (base := X.base) hf⟩ np (by rw [ev]; exact nt)
  rw [ev] at fin
  obtain ⟨f1, f2, f3, f4⟩ := fin
  exact ⟨l, acc, .ref t, rfl, rfl, f1, small1000 hlen, k t _ upd_same f2 f3 f4⟩
end
end E0
set_option Elab.async false
set_option linter.all false
set_option maxRecDepth 100000
set_option maxHeartbeats 4000000
/-! The law's three lists of errors. -/
namespace E0
open PySem PySem.Spec PyProof.Rows L2 LamX
def qs (x : Str) : Str := (x ++ ".<locals>.") ++ "<lambda>"
abbrev tA (K : PySem.W.Frag) : Addr := (He.cT K ("_law_made_a", none)).2
abbrev tB (K : PySem.W.Frag) : Addr := (He.cT K ("_law_made_b", none)).2
abbrev tC (K : PySem.W.Frag) : Addr := (He.cT K ("_law_made_c", none)).2
def tbls (K : PySem.W.Frag) : List (Addr × Str) := [(tA K, qs "_law_made_a"), (tB K, qs "_law_made_b"), (tC K, qs "_law_made_c")]
theorem ndT_of {K : PySem.W.Frag} (h : ndT K = true) : tA K < tB K ∧ tB K < tC K := by
  obtain ⟨h1, h2⟩ := He.ba (show (Nat.blt (tA K) (tB K) && Nat.blt (tB K) (tC K)) = true from h)
  exact ⟨Nat.le_of_ble_eq_true h1, Nat.le_of_ble_eq_true h2⟩
theorem huA {K : PySem.W.Frag} (h : ndT K = true) : ∀ p ∈ tbls K, p.1 = tA K → p.2 = qs "_law_made_a" := by
  obtain ⟨h1, h2⟩ := ndT_of h
  intro p hp e
  simp only [tbls, List.mem_cons, List.not_mem_nil, or_false] at hp
  rcases hp with rfl | rfl | rfl
  · rfl
  · exact absurd e (Nat.ne_of_gt h1)
  · exact absurd e (Nat.ne_of_gt (Nat.lt_trans h1 h2))
theorem huB {K : PySem.W.Frag} (h : ndT K = true) : ∀ p ∈ tbls K, p.1 = tB K → p.2 = qs "_law_made_b" := by
  obtain ⟨h1, h2⟩ := ndT_of h
  intro p hp e
  simp only [tbls, List.mem_cons, List.not_mem_nil, or_false] at hp
  rcases hp with rfl | rfl | rfl
  · exact absurd e (Nat.ne_of_lt h1)
  · rfl
  · exact absurd e (Nat.ne_of_gt h2)
theorem huC {K : PySem.W.Frag} (h : ndT K = true) : ∀ p ∈ tbls K, p.1 = tC K → p.2 = qs "_law_made_c" := by
  obtain ⟨h1, h2⟩ := ndT_of h
  intro p hp e
  simp only [tbls, List.mem_cons, List.not_mem_nil, or_false] at hp
  rcases hp with rfl | rfl | rfl
  · exact absurd e (Nat.ne_of_lt (Nat.lt_trans h1 h2))
  · exact absurd e (Nat.ne_of_lt h2)
  · rfl
section
variable {P : Program} {w : World} {K : PySem.W.Frag} {mg : Str → Option Value} {base : Heap} {T : List (Addr × Str)}
def EntL (P : Program) (w : World) (K : PySem.W.Frag) (mg : Str → Option Value) (base : Heap) (H : Hp) (l : Addr) (x y : V) (b : Nat) (ts : List V) : Prop := ∀ j v, ts[j]? = some v → ∃ t, v = .ref t ∧ Entry P w K mg base H l x y (b + j) t
def tApps (P : Program) (w : World) (K : PySem.W.Frag) (mg : Str → Option Value) (base : Heap) (T : List (Addr × Str)) : Nat → Nat → TS → TS
  | _, 0, r => r
  | b, n + 1, r => tSeq (tApp P w K mg base T b) (tApps P w K mg base T (b + 1) n r)
theorem apps_run {D : Ends} {σ : L2.St} {r : TS} {l : Addr} {x y : V} {b0 : Nat} (s0 : σ[0]? = some (some x)) (s1 : σ[1]? = some (some y)) (s3 : σ[3]? = some (some (.ref l))) : ∀ (n b : Nat) (acc : List V) (H : Hp), b = b0 + acc.length → acc.length + n ≤ 1000 → H l = some (.lst acc) → Tabs T H → EntL P w K mg base H l x y b0 acc →
    (∀ acc' H', acc'.length = acc.length + n → H' l = some (.lst acc') → ExtL H H' l → Tabs T H' → EntL P w K mg base H' l x y b0 acc' → r D σ H') → tApps P w K mg base T b n r D σ H
  | 0, b, acc, H, hb, hn, hl, hT, hE, k => k acc H rfl hl (ExtL.refl H l) hT hE
  | n + 1, b, acc, H, hb, hn, hl, hT, hE, k => by
    refine ⟨l, acc, x, y, s0, s1, s3, hl, by omega, hT, fun t H' l' E' T' e' => ?_⟩
    refine apps_run s0 s1 s3 n (b + 1) (acc ++ [.ref t]) H' (by rw [List.length_append]; show b + 1 = b0 + (acc.length + 1); omega) (by rw [List.length_append]; show acc.length + 1 + n ≤ 1000; omega) l' T' (fun j v hj => ?_) fun acc' H2 hlen h2 E2 T2 en2 => k acc' H2 ?_ h2 (E'.trans E2) T2 en2
    · by_cases hj2 : j < acc.length
      · rw [List.getElem?_append_left hj2] at hj
        obtain ⟨u, rfl, eu⟩ := hE j v hj
        exact ⟨u, rfl, eu.stay hl E'⟩
      · rw [List.getElem?_append_right (Nat.le_of_not_lt hj2)] at hj
        have hj0 : j - acc.length = 0 := by
          have := (List.getElem?_eq_some_iff.mp hj).1
          have e1 : ([V.ref t] : List V).length = 1 := rfl
          omega
        rw [hj0] at hj
        have ev : V.ref t = v := Option.some.inj hj
        have ej : b0 + j = b := by omega
        rw [ej]
        exact ⟨t, ev.symm, e'⟩
    · rw [List.length_append] at hlen
      have e1 : ([V.ref t] : List V).length = 1 := rfl
      omega
def spMade (P : Program) (w : World) (K : PySem.W.Frag) (mg : Str → Option Value) (base : Heap) (b n : Nat) : Sp := fun vs H Q _ => ∃ x y z : V, vs = [x, y, z] ∧ Tabs (tbls K) H ∧
  ∀ (l : Addr) (ts : List V) (H' : Hp), ts.length = n → EntL P w K mg base H' l x y b ts → H l = none → H' l = some (.lst ts) → ExtN H H' → Tabs (tbls K) H' → Q (.ref l) H'
theorem made_run {b n : Nat} (hn : n ≤ 1000) {vs : List V} {H : Hp} {Q : VK} {E : XK} (h : spMade P w K mg base b n vs H Q E) :
    tSeq (tAsg (tLst tNil) (gName 3)) (tApps P w K mg base (tbls K) b n (tRet (tVar 3))) { nx := fun _ H' => Q .non H', rt := Q } (start ["_law_x", "_law_y", "_law_z", "_law_found"] vs) H := by
  obtain ⟨x, y, z, rfl, hT, k⟩ := h
  refine ⟨Nat.zero_le _, fun l hl => ?_⟩
  have T1 : Tabs (tbls K) (upd H l (.lst [])) := E0.Tabs.keep hT fun b o e => by
    rw [upd_ne (ne_of_none e hl)]; exact e
  refine apps_run (x := x) (y := y) (l := l) (b0 := b) rfl rfl rfl n b [] _ rfl (by show 0 + n ≤ 1000; omega) upd_same T1 (fun j v hj => by simp at hj) fun acc' H' hlen h' E' T' en => ?_
  refine ⟨.ref l, rfl, k l acc' H' (by rw [hlen]; show 0 + n = n; omega) en hl h' (fun b o e nt => ?_) T'⟩
  refine E' b o (ne_of_none e hl) ?_ nt
  rw [upd_ne (ne_of_none e hl)]
  exact e
theorem law_fn {j : Nat} (h : j < 13) : lawD j ∈ fn := List.mem_append_left _ (List.mem_map_of_mem (List.mem_range.mpr h))
structure TxtL (K : PySem.W.Frag) (mg : Str → Option Value) : Prop where
  c : He.SaysD fa fn K
  A : AllF K
  nd : ndT K = true
  gm : ∀ i, i < 46 → mg (nm i) = some (.ref (cA K i))
theorem sc_made_a : FnScope ["_law_x", "_law_y", "_law_z", "_law_found"] ["_law_x", "_law_y", "_law_z"] (defScope (lawS 3)) := ⟨rfl, rfl, rfl, by decide +kernel, rfl, by decide +kernel, by decide +kernel⟩
theorem ok_made_a (Z : TxtL K mg) (TB : TabB base mg (He.cT K ("_law_made_a", none)).1 (tA K)) : ∃ fd, FunD K "_law_made_a" "_law_made_a" (defArgs (lawS 3)) (defBody (lawS 3)) (defScope (lawS 3)) [] [] (He.ga K "_law_made_a") fd ∧
    FnOk P w K mg base CX0 3 (He.ga K "_law_made_a") fd ["_law_x", "_law_y", "_law_z"] (spMade P w K mg base 0 18) := by
  obtain ⟨fd, F0⟩ := Z.c.defs (d := lawD 3) (law_fn (by decide))
  have F : FunD K "_law_made_a" "_law_made_a" (defArgs (lawS 3)) (defBody (lawS 3)) (defScope (lawS 3)) [] [] (He.ga K "_law_made_a") fd := F0
  refine ⟨fd, F, ?_⟩
  obtain ⟨oc, od, dV, kV, doc, pm, an, cdv, ct, osl, rfl, lk, hcd, _, _⟩ := F.ex
  obtain ⟨cc, rfl⟩ := He.codeIn_ref hcd
  have ec : (He.cT K ("_law_made_a", none)).1 = cc := He.codeOf_eq (p := ("_law_made_a", none)) lk rfl
  rw [ec] at TB
  have hT : (tA K, qs "_law_made_a") ∈ tbls K := by simp [tbls]
  have hu := huA Z.nd
  have A := Z.A
  have c := Z.c
  have gm := Z.gm
  refine fn_of lk hcd sc_made_a (fun vs H Q E h => ?_) (fun A0 outer s H vs Q E hr h => ⟨_, ?_, made_run (by decide) h⟩)
  · obtain ⟨x, y, z, rfl, _⟩ := h
    rfl
  · refine PSs.nox (pss_cons (ps_set (i := 3) sc_made_a.nd rfl (Or.inl rfl) (pe_lst pa_nil)) ?_)
    refine pss_cons (ps_app1 (i := 0) A (by decide) rfl (ini_0 c A) hr rfl rfl (Or.inl rfl) (Or.inl rfl) (by rfl) (gm 0 (by decide)) (by decide) TB rfl hT hu rfl) ?_
    refine pss_cons (ps_app1 (i := 1) A (by decide) rfl (ini_1 c A) hr rfl rfl (Or.inl rfl) (Or.inl rfl) (by rfl) (gm 1 (by decide)) (by decide) TB rfl hT hu rfl) ?_
    refine pss_cons (ps_app1 (i := 2) A (by decide) rfl (ini_2 c A) hr rfl rfl (Or.inl rfl) (Or.inl rfl) (by rfl) (gm 2 (by decide)) (by decide) TB rfl hT hu rfl) ?_
    refine pss_cons (ps_app1 (i := 3) A (by decide) rfl (ini_3 c A) hr rfl rfl (Or.inl rfl) (Or.inl rfl) (by rfl) (gm 3 (by decide)) (by decide) TB rfl hT hu rfl) ?_
    refine pss_cons (ps_app1 (i := 4) A (by decide) rfl (ini_4 c A) hr rfl rfl (Or.inl rfl) (Or.inl rfl) (by rfl) (gm 4 (by decide)) (by decide) TB rfl hT hu rfl) ?_
    refine pss_cons (ps_app1 (i := 5) A (by decide) rfl (ini_5 c A) hr rfl rfl (Or.inl rfl) (Or.inl rfl) (by rfl) (gm 5 (by decide)) (by decide) TB rfl hT hu rfl) ?_
    refine pss_cons (ps_app1 (i := 6) A (by decide) rfl (ini_6 c A) hr rfl rfl (Or.inl rfl) (Or.inl rfl) (by rfl) (gm 6 (by decide)) (by decide) TB rfl hT hu rfl) ?_
    refine pss_cons (ps_app1 (i := 7) A (by decide) rfl (ini_7 c A) hr rfl rfl (Or.inl rfl) (Or.inl rfl) (by rfl) (gm 7 (by decide)) (by decide) TB rfl hT hu rfl) ?_
    refine pss_cons (ps_app1 (i := 8) A (by decide) rfl (ini_8 c A) hr rfl rfl (Or.inl rfl) (Or.inl rfl) (by rfl) (gm 8 (by decide)) (by decide) TB rfl hT hu rfl) ?_
    refine pss_cons (ps_app1 (i := 9) A (by decide) rfl (ini_9 c A) hr rfl rfl (Or.inl rfl) (Or.inl rfl) (by rfl) (gm 9 (by decide)) (by decide) TB rfl hT hu rfl) ?_
    refine pss_cons (ps_app1 (i := 10) A (by decide) rfl (ini_10 c A) hr rfl rfl (Or.inl rfl) (Or.inl rfl) (by rfl) (gm 10 (by decide)) (by decide) TB rfl hT hu rfl) ?_
    refine pss_cons (ps_app1 (i := 11) A (by decide) rfl (ini_11 c A) hr rfl rfl (Or.inl rfl) (Or.inl rfl) (by rfl) (gm 11 (by decide)) (by decide) TB rfl hT hu rfl) ?_
    refine pss_cons (ps_app1 (i := 12) A (by decide) rfl (ini_12 c A) hr rfl rfl (Or.inl rfl) (Or.inl rfl) (by rfl) (gm 12 (by decide)) (by decide) TB rfl hT hu rfl) ?_
    refine pss_cons (ps_app1 (i := 13) A (by decide) rfl (ini_13 c A) hr rfl rfl (Or.inl rfl) (Or.inl rfl) (by rfl) (gm 13 (by decide)) (by decide) TB rfl hT hu rfl) ?_
    refine pss_cons (ps_app1 (i := 14) A (by decide) rfl (ini_14 c A) hr rfl rfl (Or.inl rfl) (Or.inl rfl) (by rfl) (gm 14 (by decide)) (by decide) TB rfl hT hu rfl) ?_
    refine pss_cons (ps_app1 (i := 15) A (by decide) rfl (ini_15 c A) hr rfl rfl (Or.inl rfl) (Or.inl rfl) (by rfl) (gm 15 (by decide)) (by decide) TB rfl hT hu rfl) ?_
    refine pss_cons (ps_app1 (i := 16) A (by decide) rfl (ini_16 c A) hr rfl rfl (Or.inl rfl) (Or.inl rfl) (by rfl) (gm 16 (by decide)) (by decide) TB rfl hT hu rfl) ?_
    refine pss_cons (ps_app1 (i := 17) A (by decide) rfl (ini_17 c A) hr rfl rfl (Or.inl rfl) (Or.inl rfl) (by rfl) (gm 17 (by decide)) (by decide) TB rfl hT hu rfl) ?_
    exact pss_one (ps_ret (pv 3))
theorem sc_made_b : FnScope ["_law_x", "_law_y", "_law_z", "_law_found"] ["_law_x", "_law_y", "_law_z"] (defScope (lawS 4)) := ⟨rfl, rfl, rfl, by decide +kernel, rfl, by decide +kernel, by decide +kernel⟩
theorem ok_made_b (Z : TxtL K mg) (TB : TabB base mg (He.cT K ("_law_made_b", none)).1 (tB K)) : ∃ fd, FunD K "_law_made_b" "_law_made_b" (defArgs (lawS 4)) (defBody (lawS 4)) (defScope (lawS 4)) [] [] (He.ga K "_law_made_b") fd ∧
    FnOk P w K mg base CX0 3 (He.ga K "_law_made_b") fd ["_law_x", "_law_y", "_law_z"] (spMade P w K mg base 18 18) := by
  obtain ⟨fd, F0⟩ := Z.c.defs (d := lawD 4) (law_fn (by decide))
  have F : FunD K "_law_made_b" "_law_made_b" (defArgs (lawS 4)) (defBody (lawS 4)) (defScope (lawS 4)) [] [] (He.ga K "_law_made_b") fd := F0
  refine ⟨fd, F, ?_⟩
  obtain ⟨oc, od, dV, kV, doc, pm, an, cdv, ct, osl, rfl, lk, hcd, _, _⟩ := F.ex
  obtain ⟨cc, rfl⟩ := He.codeIn_ref hcd
  have ec : (He.cT K ("_law_made_b", none)).1 = cc := He.codeOf_eq (p := ("_law_made_b", none)) lk rfl
  rw [ec] at TB
  have hT : (tB K, qs "_law_made_b") ∈ tbls K := by simp [tbls]
  have hu := huB Z.nd
  have A := Z.A
  have c := Z.c
  have gm := Z.gm
  refine fn_of lk hcd sc_made_b (fun vs H Q E h => ?_) (fun A0 outer s H vs Q E hr h => ⟨_, ?_, made_run (by decide) h⟩)
  · obtain ⟨x, y, z, rfl, _⟩ := h
    rfl
  · refine PSs.nox (pss_cons (ps_set (i := 3) sc_made_b.nd rfl (Or.inl rfl) (pe_lst pa_nil)) ?_)
    refine pss_cons (ps_app1 (i := 18) A (by decide) rfl (ini_18 c A) hr rfl rfl (Or.inl rfl) (Or.inl rfl) (by rfl) (gm 18 (by decide)) (by decide) TB rfl hT hu rfl) ?_
    refine pss_cons (ps_app2 (i := 19) A (by decide) rfl (by decide) (ini_19 c A) hr rfl rfl rfl (Or.inl rfl) (Or.inl rfl) (Or.inl rfl) (by rfl) (gm 19 (by decide)) (by decide) TB rfl hT hu rfl) ?_
    refine pss_cons (ps_app1 (i := 20) A (by decide) rfl (ini_20 c A) hr rfl rfl (Or.inl rfl) (Or.inl rfl) (by rfl) (gm 20 (by decide)) (by decide) TB rfl hT hu rfl) ?_
    refine pss_cons (ps_app2 (i := 21) A (by decide) rfl (by decide) (ini_21 c A) hr rfl rfl rfl (Or.inl rfl) (Or.inl rfl) (Or.inl rfl) (by rfl) (gm 21 (by decide)) (by decide) TB rfl hT hu rfl) ?_
    refine pss_cons (ps_app1 (i := 22) A (by decide) rfl (ini_22 c A) hr rfl rfl (Or.inl rfl) (Or.inl rfl) (by rfl) (gm 22 (by decide)) (by decide) TB rfl hT hu rfl) ?_
    refine pss_cons (ps_app1 (i := 23) A (by decide) rfl (ini_23 c A) hr rfl rfl (Or.inl rfl) (Or.inl rfl) (by rfl) (gm 23 (by decide)) (by decide) TB rfl hT hu rfl) ?_
    refine pss_cons (ps_app1 (i := 24) A (by decide) rfl (ini_24 c A) hr rfl rfl (Or.inl rfl) (Or.inl rfl) (by rfl) (gm 24 (by decide)) (by decide) TB rfl hT hu rfl) ?_
    refine pss_cons (ps_app1 (i := 25) A (by decide) rfl (ini_25 c A) hr rfl rfl (Or.inl rfl) (Or.inl rfl) (by rfl) (gm 25 (by decide)) (by decide) TB rfl hT hu rfl) ?_
    refine pss_cons (ps_app1 (i := 26) A (by decide) rfl (ini_26 c A) hr rfl rfl (Or.inl rfl) (Or.inl rfl) (by rfl) (gm 26 (by decide)) (by decide) TB rfl hT hu rfl) ?_
    refine pss_cons (ps_app2 (i := 27) A (by decide) rfl (by decide) (ini_27 c A) hr rfl rfl rfl (Or.inl rfl) (Or.inl rfl) (Or.inl rfl) (by rfl) (gm 27 (by decide)) (by decide) TB rfl hT hu rfl) ?_
    refine pss_cons (ps_app1 (i := 28) A (by decide) rfl (ini_28 c A) hr rfl rfl (Or.inl rfl) (Or.inl rfl) (by rfl) (gm 28 (by decide)) (by decide) TB rfl hT hu rfl) ?_
    refine pss_cons (ps_app1 (i := 29) A (by decide) rfl (ini_29 c A) hr rfl rfl (Or.inl rfl) (Or.inl rfl) (by rfl) (gm 29 (by decide)) (by decide) TB rfl hT hu rfl) ?_
    refine pss_cons (ps_app1 (i := 30) A (by decide) rfl (ini_30 c A) hr rfl rfl (Or.inl rfl) (Or.inl rfl) (by rfl) (gm 30 (by decide)) (by decide) TB rfl hT hu rfl) ?_
    refine pss_cons (ps_app2 (i := 31) A (by decide) rfl (by decide) (ini_31 c A) hr rfl rfl rfl (Or.inl rfl) (Or.inl rfl) (Or.inl rfl) (by rfl) (gm 31 (by decide)) (by decide) TB rfl hT hu rfl) ?_
    refine pss_cons (ps_app1 (i := 32) A (by decide) rfl (ini_32 c A) hr rfl rfl (Or.inl rfl) (Or.inl rfl) (by rfl) (gm 32 (by decide)) (by decide) TB rfl hT hu rfl) ?_
    refine pss_cons (ps_app1 (i := 33) A (by decide) rfl (ini_33 c A) hr rfl rfl (Or.inl rfl) (Or.inl rfl) (by rfl) (gm 33 (by decide)) (by decide) TB rfl hT hu rfl) ?_
    refine pss_cons (ps_app1 (i := 34) A (by decide) rfl (ini_34 c A) hr rfl rfl (Or.inl rfl) (Or.inl rfl) (by rfl) (gm 34 (by decide)) (by decide) TB rfl hT hu rfl) ?_
    refine pss_cons (ps_app1 (i := 35) A (by decide) rfl (ini_35 c A) hr rfl rfl (Or.inl rfl) (Or.inl rfl) (by rfl) (gm 35 (by decide)) (by decide) TB rfl hT hu rfl) ?_
    exact pss_one (ps_ret (pv 3))
theorem sc_made_c : FnScope ["_law_x", "_law_y", "_law_z", "_law_found"] ["_law_x", "_law_y", "_law_z"] (defScope (lawS 5)) := ⟨rfl, rfl, rfl, by decide +kernel, rfl, by decide +kernel, by decide +kernel⟩
theorem ok_made_c (Z : TxtL K mg) (TB : TabB base mg (He.cT K ("_law_made_c", none)).1 (tC K)) : ∃ fd, FunD K "_law_made_c" "_law_made_c" (defArgs (lawS 5)) (defBody (lawS 5)) (defScope (lawS 5)) [] [] (He.ga K "_law_made_c") fd ∧
    FnOk P w K mg base CX0 3 (He.ga K "_law_made_c") fd ["_law_x", "_law_y", "_law_z"] (spMade P w K mg base 36 10) := by
  obtain ⟨fd, F0⟩ := Z.c.defs (d := lawD 5) (law_fn (by decide))
  have F : FunD K "_law_made_c" "_law_made_c" (defArgs (lawS 5)) (defBody (lawS 5)) (defScope (lawS 5)) [] [] (He.ga K "_law_made_c") fd := F0
  refine ⟨fd, F, ?_⟩
  obtain ⟨oc, od, dV, kV, doc, pm, an, cdv, ct, osl, rfl, lk, hcd, _, _⟩ := F.ex
  obtain ⟨cc, rfl⟩ := He.codeIn_ref hcd
  have ec : (He.cT K ("_law_made_c", none)).1 = cc := He.codeOf_eq (p := ("_law_made_c", none)) lk rfl
  rw [ec] at TB
  have hT : (tC K, qs "_law_made_c") ∈ tbls K := by simp [tbls]
  have hu := huC Z.nd
  have A := Z.A
  have c := Z.c
  have gm := Z.gm
  refine fn_of lk hcd sc_made_c (fun vs H Q E h => ?_) (fun A0 outer s H vs Q E hr h => ⟨_, ?_, made_run (by decide) h⟩)
  · obtain ⟨x, y, z, rfl, _⟩ := h
    rfl
  · refine PSs.nox (pss_cons (ps_set (i := 3) sc_made_c.nd rfl (Or.inl rfl) (pe_lst pa_nil)) ?_)
    refine pss_cons (ps_app0 (i := 36) A (by decide) rfl rfl (Or.inl rfl) (by rfl) (gm 36 (by decide)) (by decide) TB rfl hT hu rfl) ?_
    refine pss_cons (ps_app1 (i := 37) A (by decide) rfl (ini_37 c A) hr rfl rfl (Or.inl rfl) (Or.inl rfl) (by rfl) (gm 37 (by decide)) (by decide) TB rfl hT hu rfl) ?_
    refine pss_cons (ps_app1 (i := 38) A (by decide) rfl (ini_38 c A) hr rfl rfl (Or.inl rfl) (Or.inl rfl) (by rfl) (gm 38 (by decide)) (by decide) TB rfl hT hu rfl) ?_
    refine pss_cons (ps_app2 (i := 39) A (by decide) rfl (by decide) (ini_39 c A) hr rfl rfl rfl (Or.inl rfl) (Or.inl rfl) (Or.inl rfl) (by rfl) (gm 39 (by decide)) (by decide) TB rfl hT hu rfl) ?_
    refine pss_cons (ps_app0 (i := 40) A (by decide) rfl rfl (Or.inl rfl) (by rfl) (gm 40 (by decide)) (by decide) TB rfl hT hu rfl) ?_
    refine pss_cons (ps_app1 (i := 41) A (by decide) rfl (ini_41 c A) hr rfl rfl (Or.inl rfl) (Or.inl rfl) (by rfl) (gm 41 (by decide)) (by decide) TB rfl hT hu rfl) ?_
    refine pss_cons (ps_app0 (i := 42) A (by decide) rfl rfl (Or.inl rfl) (by rfl) (gm 42 (by decide)) (by decide) TB rfl hT hu rfl) ?_
    refine pss_cons (ps_app0 (i := 43) A (by decide) rfl rfl (Or.inl rfl) (by rfl) (gm 43 (by decide)) (by decide) TB rfl hT hu rfl) ?_
    refine pss_cons (ps_app1 (i := 44) A (by decide) rfl (ini_44 c A) hr rfl rfl (Or.inl rfl) (Or.inl rfl) (by rfl) (gm 44 (by decide)) (by decide) TB rfl hT hu rfl) ?_
    refine pss_cons (ps_app2 (i := 45) A (by decide) rfl (by decide) (ini_45 c A) hr rfl rfl rfl (Or.inl rfl) (Or.inl rfl) (Or.inl rfl) (by rfl) (gm 45 (by decide)) (by decide) TB rfl hT hu rfl) ?_
    exact pss_one (ps_ret (pv 3))
end
end E0
set_option Elab.async false
set_option linter.all false
set_option maxRecDepth 100000
set_option maxHeartbeats 4000000
/-! The kinds of an error, asked class by class. -/
namespace E0
open PySem PySem.Spec PyProof.Rows L2 LamX
/-- the k-th class; the base of all behind them -/
def kA (K : PySem.W.Frag) (k : Nat) : Addr := if k < 46 then cA K k else ceA K
theorem kA_lt {K : PySem.W.Frag} {k : Nat} (h : k < 46) : kA K k = cA K k := if_pos h
theorem kA_ce {K : PySem.W.Frag} {k : Nat} (h : k = 46) : kA K k = ceA K := by rw [h]; rfl
theorem kA_ec {K : PySem.W.Frag} (A : AllF K) {k : Nat} (h : k ≤ 46) : ExcC K (kA K k) := by
  by_cases e : k < 46
  · rw [kA_lt e]
    exact (A.one k e).ec
  · rw [kA_ce (by omega)]
    exact A.ce.ec
theorem kA_kit {K : PySem.W.Frag} (A : AllF K) {k i : Nat} (h : k ≤ 46) (hi : i < 46) : PySem.W.kitOne K (.ref (kA K k)) (.ref (cA K i)) = some (decide (k = i)) := by
  by_cases e : k < 46
  · rw [kA_lt e]
    exact kit_ij A e hi
  · rw [kA_ce (by omega), kit_cj A hi, decide_eq_false (by omega)]
theorem Err.stay {H H' : Hp} {e C l : Addr} {xs : List V} (h : Err H e C) (hl : H l = some (.lst xs)) (E : ExtL H H' l) : Err H' e C := by
  rcases h with h | ⟨d, fs, h1, h2⟩
  · exact .inl (E _ _ (ne_lst h hl ext_lst) h exo_tb)
  · exact .inr ⟨d, fs, E _ _ (ne_lst h1 hl ext_lst) h1 exo_tb, E _ _ (ne_lst h2 hl ext_lst) h2 exd_tb⟩
theorem Err.same {H H' : Hp} {e C : Addr} (h : Err H e C) (E : Same H H') : Err H' e C := by
  rcases h with h | ⟨d, fs, h1, h2⟩
  · exact .inl (E _ _ h)
  · exact .inr ⟨d, fs, E _ _ h1, E _ _ h2⟩
theorem ExcI.err {K : PySem.W.Frag} {H : Hp} {e : Addr} {x y : V} {i : Nat} (h : ExcI K H e x y i) : Err H e (cA K i) := by
  rcases h with ⟨_, h⟩ | ⟨_, d, h1, h2⟩
  · exact .inl h
  · exact .inr ⟨d, _, h1, h2⟩
def kindsL (k b n : Nat) : List V := (List.range n).map fun j => V.bl (decide (k = b + j))
theorem kindsL_two (k b n : Nat) : kindsL k b (n + 2) = kindsL k b n ++ [.bl (decide (k = b + n)), .bl (decide (k = b + n + 1))] := by
  unfold kindsL
  rw [List.range_succ, List.range_succ, List.map_append, List.map_append, List.append_assoc]
  rfl
theorem kindsL_len (k b n : Nat) : (kindsL k b n).length = n := by
  unfold kindsL
  rw [List.length_map, List.length_range]
theorem kindsL_app (k b n m : Nat) : kindsL k b n ++ kindsL k (b + n) m = kindsL k b (n + m) := by
  unfold kindsL
  rw [List.range_add, List.map_append, List.map_map]
  congr 1
  refine List.map_congr_left fun j _ => ?_
  show V.bl (decide (k = b + n + j)) = V.bl (decide (k = b + (n + j)))
  rw [Nat.add_assoc]
/-- found.extend([isinstance(e, ..), isinstance(e, ..)]) -/
def tExt (K : PySem.W.Frag) (i : Nat) : TS := fun D σ H => ∃ (l e : Addr) (k : Nat) (acc : List V), σ[0]? = some (some (.ref e)) ∧ σ[1]? = some (some (.ref l)) ∧ H l = some (.lst acc) ∧ acc.length ≤ 1000 ∧ k ≤ 46 ∧ Err H e (kA K k) ∧
  ∀ H', H' l = some (.lst (acc ++ [.bl (decide (k = i)), .bl (decide (k = i + 1))])) → (∀ b o, b ≠ l → H b = some o → H' b = some o) → D.nx σ H'
section
variable {X : Cx} {i : Nat} {x y : Str} {p1 p2 p3 p4 p5 p6 p7 p8 p9 p10 p11 p12 p13 : Pos}
theorem ps_ext (A : AllF X.K) (hi : i + 1 < 46) (n0 : X.N[0]? = some ("_law_e" : Str)) (n1 : X.N[1]? = some ("_law_found" : Str)) (v0 : Vis X.env.scope "_law_e") (v1 : Vis X.env.scope "_law_found") (gi : Gl X "isinstance") (mi : X.mg "isinstance" = none)
    (gx : Gl X x) (mx : X.mg x = some (.ref (cA X.K i))) (gy : Gl X y) (my : X.mg y = some (.ref (cA X.K (i + 1)))) (dx : (x == ("__debug__" : Str)) = false) (dy : (y == ("__debug__" : Str)) = false) (hl : (p2.endLine == p12.line) = true) :
    PS X (.Expr (.Call (.Attribute (.Name "_law_found" p1) "extend" p2) [.List [.Call (.Name "isinstance" p3) [.Name "_law_e" p4, .Name x p5] [] p6, .Call (.Name "isinstance" p7) [.Name "_law_e" p8, .Name y p9] [] p10] p11] [] p12) p13) (tExt X.K i) := by
  have bt : bootBuiltins "isinstance" = some (.builtin "isinstance") := by decide +kernel
  refine PS.conv (ps_expr (pe_bm PySem.F.plainAttrs_list PySem.F.slot_list_extend PySem.F.type_list_extend mt_extend (pe_var (i := 1) n1 v1 (by decide) (by decide)) (pa_cons (pe_lst
    (pa_cons (pe_callB call_isX gi mi bt (pa_cons (pe_var (i := 0) n0 v0 (by decide) (by decide)) (pa_cons (pe_glob gx mx (v := .ref (cA X.K i)) rfl dx) pa_nil)))
    (pa_cons (pe_callB call_isX gi mi bt (pa_cons (pe_var (i := 0) n0 v0 (by decide) (by decide)) (pa_cons (pe_glob gy my (v := .ref (cA X.K (i + 1))) rfl dy) pa_nil))) pa_nil))) pa_nil) (hline := hl))) fun D σ H h => ?_
  obtain ⟨l, e, k, acc, s0, s1, hl, hlen, hk, he, kk⟩ := h
  refine ⟨_, s1, .inl ⟨rfl, _, SqL.of hl⟩, _, s0, e, kA X.K k, _, _, _, rfl, kA_ec A hk, he, fun u r => r, kA_kit A hk (by omega), _, s0, e, kA X.K k, _, _, _, rfl, kA_ec A hk, he, fun u r => r, kA_kit A hk hi, (by show 2 ≤ sizeLine; decide), fun p np => ?_⟩
  have pl : l ≠ p := ne_of_none hl np
  refine ⟨l, p, acc, _, rfl, rfl, by rw [upd_ne pl]; exact hl, upd_same, ?_, kk _ upd_same fun b o hb e => ?_⟩
  · show acc.length + 2 ≤ sizeLine
    exact Nat.le_of_lt (Nat.lt_of_le_of_lt (Nat.add_le_add_right hlen 2) (by decide))
  · rw [upd_ne hb, upd_ne (ne_of_none e np)]
    exact e
end
def tExts (K : PySem.W.Frag) : Nat → Nat → TS → TS
  | _, 0, r => r
  | b, n + 1, r => tSeq (tExt K b) (tExts K (b + 2) n r)
theorem exts_run {K : PySem.W.Frag} {D : Ends} {σ : L2.St} {r : TS} {l e : Addr} {k b0 : Nat} (s0 : σ[0]? = some (some (.ref e))) (s1 : σ[1]? = some (some (.ref l))) (hk : k ≤ 46) : ∀ (n m : Nat) (H : Hp), m + 2 * n ≤ 100 → H l = some (.lst (kindsL k b0 m)) → Err H e (kA K k) →
    (∀ H', H' l = some (.lst (kindsL k b0 (m + 2 * n))) → (∀ b o, b ≠ l → H b = some o → H' b = some o) → r D σ H') → tExts K (b0 + m) n r D σ H
  | 0, m, H, _, hl, _, k2 => k2 H hl fun _ _ _ e => e
  | n + 1, m, H, hm, hl, he, k2 => by
    refine ⟨l, e, k, _, s0, s1, hl, by rw [kindsL_len]; omega, hk, he, fun H' h' st => ?_⟩
    rw [← kindsL_two] at h'
    refine exts_run s0 s1 hk n (m + 2) H' (by omega) h' (he.stay hl fun b o hb e _ => st b o hb e) fun H2 h2 st2 => k2 H2 ?_ fun b o hb e => st2 b o hb (st b o hb e)
    rw [h2, show m + 2 + 2 * n = m + 2 * (n + 1) by omega]
def spKinds (K : PySem.W.Frag) (b n : Nat) : Sp := fun vs H Q _ => ∃ (e : Addr) (k : Nat), vs = [.ref e] ∧ k ≤ 46 ∧ Err H e (kA K k) ∧ ∀ l H', H l = none → H' l = some (.lst (kindsL k b n)) → Same H H' → Q (.ref l) H'
theorem kinds_run {K : PySem.W.Frag} {b n : Nat} (hn : n ≤ 40) {vs : List V} {H : Hp} {Q : VK} {E : XK} (h : spKinds K b (2 * n) vs H Q E) :
    tSeq (tAsg (tLst tNil) (gName 1)) (tExts K b n (tRet (tVar 1))) { nx := fun _ H' => Q .non H', rt := Q } (start ["_law_e", "_law_found"] vs) H := by
  obtain ⟨e, k, rfl, hk, he, kk⟩ := h
  refine ⟨Nat.zero_le _, fun l hl => ?_⟩
  have S1 : Same H (upd H l (.lst [])) := fun b o e => by rw [upd_ne (ne_of_none e hl)]; exact e
  refine exts_run (e := e) (l := l) (k := k) (b0 := b) (K := K) rfl rfl hk n 0 _ (by omega) upd_same (he.same S1) fun H' h' st => ⟨.ref l, rfl, kk l H' hl (by rw [h', Nat.zero_add]) fun b o e => ?_⟩
  exact st b o (ne_of_none e hl) (S1 b o e)
structure TxtK (K : PySem.W.Frag) (mg : Str → Option Value) : Prop where
  z : TxtL K mg
  isin : mg "isinstance" = none
section
variable {P : Program} {w : World} {K : PySem.W.Frag} {mg : Str → Option Value} {base : Heap}
theorem sc_kinds_a : FnScope ["_law_e", "_law_found"] ["_law_e"] (defScope (lawS 6)) := ⟨rfl, rfl, rfl, by decide +kernel, rfl, by decide +kernel, by decide +kernel⟩
theorem ok_kinds_a (Z : TxtK K mg) : ∃ fd, FunD K "_law_kinds_a" "_law_kinds_a" (defArgs (lawS 6)) (defBody (lawS 6)) (defScope (lawS 6)) [] [] (He.ga K "_law_kinds_a") fd ∧ FnOk P w K mg base CX0 1 (He.ga K "_law_kinds_a") fd ["_law_e"] (spKinds K 0 18) := by
  obtain ⟨fd, F0⟩ := Z.z.c.defs (d := lawD 6) (law_fn (by decide))
  have F : FunD K "_law_kinds_a" "_law_kinds_a" (defArgs (lawS 6)) (defBody (lawS 6)) (defScope (lawS 6)) [] [] (He.ga K "_law_kinds_a") fd := F0
  have A := Z.z.A
  have gm := Z.z.gm
  have mi := Z.isin
  refine ⟨fd, F, F.ok sc_kinds_a (fun vs H Q E h => ?_) fun cdv A0 outer s H vs Q E hr h => ⟨_, PSs.nox ?_, kinds_run (n := 9) (by decide) h⟩⟩
  · obtain ⟨e, k, rfl, _⟩ := h
    rfl
  · refine pss_cons (ps_set (i := 1) sc_kinds_a.nd rfl (Or.inl rfl) (pe_lst pa_nil)) ?_
    refine pss_cons (ps_ext (i := 0) A (by decide) rfl rfl (Or.inl rfl) (Or.inl rfl) (by rfl) mi (by rfl) (gm 0 (by decide)) (by rfl) (gm 1 (by decide)) (by decide) (by decide) rfl) ?_
    refine pss_cons (ps_ext (i := 2) A (by decide) rfl rfl (Or.inl rfl) (Or.inl rfl) (by rfl) mi (by rfl) (gm 2 (by decide)) (by rfl) (gm 3 (by decide)) (by decide) (by decide) rfl) ?_
    refine pss_cons (ps_ext (i := 4) A (by decide) rfl rfl (Or.inl rfl) (Or.inl rfl) (by rfl) mi (by rfl) (gm 4 (by decide)) (by rfl) (gm 5 (by decide)) (by decide) (by decide) rfl) ?_
    refine pss_cons (ps_ext (i := 6) A (by decide) rfl rfl (Or.inl rfl) (Or.inl rfl) (by rfl) mi (by rfl) (gm 6 (by decide)) (by rfl) (gm 7 (by decide)) (by decide) (by decide) rfl) ?_
    refine pss_cons (ps_ext (i := 8) A (by decide) rfl rfl (Or.inl rfl) (Or.inl rfl) (by rfl) mi (by rfl) (gm 8 (by decide)) (by rfl) (gm 9 (by decide)) (by decide) (by decide) rfl) ?_
    refine pss_cons (ps_ext (i := 10) A (by decide) rfl rfl (Or.inl rfl) (Or.inl rfl) (by rfl) mi (by rfl) (gm 10 (by decide)) (by rfl) (gm 11 (by decide)) (by decide) (by decide) rfl) ?_
    refine pss_cons (ps_ext (i := 12) A (by decide) rfl rfl (Or.inl rfl) (Or.inl rfl) (by rfl) mi (by rfl) (gm 12 (by decide)) (by rfl) (gm 13 (by decide)) (by decide) (by decide) rfl) ?_
    refine pss_cons (ps_ext (i := 14) A (by decide) rfl rfl (Or.inl rfl) (Or.inl rfl) (by rfl) mi (by rfl) (gm 14 (by decide)) (by rfl) (gm 15 (by decide)) (by decide) (by decide) rfl) ?_
    refine pss_cons (ps_ext (i := 16) A (by decide) rfl rfl (Or.inl rfl) (Or.inl rfl) (by rfl) mi (by rfl) (gm 16 (by decide)) (by rfl) (gm 17 (by decide)) (by decide) (by decide) rfl) ?_
    exact pss_one (ps_ret (pv 1))
theorem sc_kinds_b : FnScope ["_law_e", "_law_found"] ["_law_e"] (defScope (lawS 7)) := ⟨rfl, rfl, rfl, by decide +kernel, rfl, by decide +kernel, by decide +kernel⟩
theorem ok_kinds_b (Z : TxtK K mg) : ∃ fd, FunD K "_law_kinds_b" "_law_kinds_b" (defArgs (lawS 7)) (defBody (lawS 7)) (defScope (lawS 7)) [] [] (He.ga K "_law_kinds_b") fd ∧ FnOk P w K mg base CX0 1 (He.ga K "_law_kinds_b") fd ["_law_e"] (spKinds K 18 18) := by
  obtain ⟨fd, F0⟩ := Z.z.c.defs (d := lawD 7) (law_fn (by decide))
  have F : FunD K "_law_kinds_b" "_law_kinds_b" (defArgs (lawS 7)) (defBody (lawS 7)) (defScope (lawS 7)) [] [] (He.ga K "_law_kinds_b") fd := F0
  have A := Z.z.A
  have gm := Z.z.gm
  have mi := Z.isin
  refine ⟨fd, F, F.ok sc_kinds_b (fun vs H Q E h => ?_) fun cdv A0 outer s H vs Q E hr h => ⟨_, PSs.nox ?_, kinds_run (n := 9) (by decide) h⟩⟩
  · obtain ⟨e, k, rfl, _⟩ := h
    rfl
  · refine pss_cons (ps_set (i := 1) sc_kinds_b.nd rfl (Or.inl rfl) (pe_lst pa_nil)) ?_
    refine pss_cons (ps_ext (i := 18) A (by decide) rfl rfl (Or.inl rfl) (Or.inl rfl) (by rfl) mi (by rfl) (gm 18 (by decide)) (by rfl) (gm 19 (by decide)) (by decide) (by decide) rfl) ?_
    refine pss_cons (ps_ext (i := 20) A (by decide) rfl rfl (Or.inl rfl) (Or.inl rfl) (by rfl) mi (by rfl) (gm 20 (by decide)) (by rfl) (gm 21 (by decide)) (by decide) (by decide) rfl) ?_
    refine pss_cons (ps_ext (i := 22) A (by decide) rfl rfl (Or.inl rfl) (Or.inl rfl) (by rfl) mi (by rfl) (gm 22 (by decide)) (by rfl) (gm 23 (by decide)) (by decide) (by decide) rfl) ?_
    refine pss_cons (ps_ext (i := 24) A (by decide) rfl rfl (Or.inl rfl) (Or.inl rfl) (by rfl) mi (by rfl) (gm 24 (by decide)) (by rfl) (gm 25 (by decide)) (by decide) (by decide) rfl) ?_
    refine pss_cons (ps_ext (i := 26) A (by decide) rfl rfl (Or.inl rfl) (Or.inl rfl) (by rfl) mi (by rfl) (gm 26 (by decide)) (by rfl) (gm 27 (by decide)) (by decide) (by decide) rfl) ?_
    refine pss_cons (ps_ext (i := 28) A (by decide) rfl rfl (Or.inl rfl) (Or.inl rfl) (by rfl) mi (by rfl) (gm 28 (by decide)) (by rfl) (gm 29 (by decide)) (by decide) (by decide) rfl) ?_
    refine pss_cons (ps_ext (i := 30) A (by decide) rfl rfl (Or.inl rfl) (Or.inl rfl) (by rfl) mi (by rfl) (gm 30 (by decide)) (by rfl) (gm 31 (by decide)) (by decide) (by decide) rfl) ?_
    refine pss_cons (ps_ext (i := 32) A (by decide) rfl rfl (Or.inl rfl) (Or.inl rfl) (by rfl) mi (by rfl) (gm 32 (by decide)) (by rfl) (gm 33 (by decide)) (by decide) (by decide) rfl) ?_
    refine pss_cons (ps_ext (i := 34) A (by decide) rfl rfl (Or.inl rfl) (Or.inl rfl) (by rfl) mi (by rfl) (gm 34 (by decide)) (by rfl) (gm 35 (by decide)) (by decide) (by decide) rfl) ?_
    exact pss_one (ps_ret (pv 1))
theorem sc_kinds_c : FnScope ["_law_e", "_law_found"] ["_law_e"] (defScope (lawS 8)) := ⟨rfl, rfl, rfl, by decide +kernel, rfl, by decide +kernel, by decide +kernel⟩
theorem ok_kinds_c (Z : TxtK K mg) : ∃ fd, FunD K "_law_kinds_c" "_law_kinds_c" (defArgs (lawS 8)) (defBody (lawS 8)) (defScope (lawS 8)) [] [] (He.ga K "_law_kinds_c") fd ∧ FnOk P w K mg base CX0 1 (He.ga K "_law_kinds_c") fd ["_law_e"] (spKinds K 36 10) := by
  obtain ⟨fd, F0⟩ := Z.z.c.defs (d := lawD 8) (law_fn (by decide))
  have F : FunD K "_law_kinds_c" "_law_kinds_c" (defArgs (lawS 8)) (defBody (lawS 8)) (defScope (lawS 8)) [] [] (He.ga K "_law_kinds_c") fd := F0
  have A := Z.z.A
  have gm := Z.z.gm
  have mi := Z.isin
  refine ⟨fd, F, F.ok sc_kinds_c (fun vs H Q E h => ?_) fun cdv A0 outer s H vs Q E hr h => ⟨_, PSs.nox ?_, kinds_run (n := 5) (by decide) h⟩⟩
  · obtain ⟨e, k, rfl, _⟩ := h
    rfl
  · refine pss_cons (ps_set (i := 1) sc_kinds_c.nd rfl (Or.inl rfl) (pe_lst pa_nil)) ?_
    refine pss_cons (ps_ext (i := 36) A (by decide) rfl rfl (Or.inl rfl) (Or.inl rfl) (by rfl) mi (by rfl) (gm 36 (by decide)) (by rfl) (gm 37 (by decide)) (by decide) (by decide) rfl) ?_
    refine pss_cons (ps_ext (i := 38) A (by decide) rfl rfl (Or.inl rfl) (Or.inl rfl) (by rfl) mi (by rfl) (gm 38 (by decide)) (by rfl) (gm 39 (by decide)) (by decide) (by decide) rfl) ?_
    refine pss_cons (ps_ext (i := 40) A (by decide) rfl rfl (Or.inl rfl) (Or.inl rfl) (by rfl) mi (by rfl) (gm 40 (by decide)) (by rfl) (gm 41 (by decide)) (by decide) (by decide) rfl) ?_
    refine pss_cons (ps_ext (i := 42) A (by decide) rfl rfl (Or.inl rfl) (Or.inl rfl) (by rfl) mi (by rfl) (gm 42 (by decide)) (by rfl) (gm 43 (by decide)) (by decide) (by decide) rfl) ?_
    refine pss_cons (ps_ext (i := 44) A (by decide) rfl rfl (Or.inl rfl) (Or.inl rfl) (by rfl) mi (by rfl) (gm 44 (by decide)) (by rfl) (gm 45 (by decide)) (by decide) (by decide) rfl) ?_
    exact pss_one (ps_ret (pv 1))
end
end E0
set_option Elab.async false
set_option linter.all false
set_option maxRecDepth 100000
set_option maxHeartbeats 4000000
/-! What an error is, and what it holds, as the law asks it. -/
namespace E0
open PySem PySem.Spec PyProof.Rows L2 LamX
theorem dpBools {K : PySem.W.Frag} {H : Hp} : ∀ bs : List Bool, DpAll K H (bs.map V.bl) (bs.map PyData.bool)
  | [] => .nil
  | b :: r => .cons (.bl b) (dpBools r)
theorem laidBools : ∀ bs : List Bool, PyData.canLayAll0 (bs.map PyData.bool) = true
  | [] => rfl
  | b :: r => by
    show (PyData.canLay0 (.bool b) && PyData.canLayAll0 (r.map PyData.bool)) = true
    rw [laidBools r]
    rfl
theorem depthBools : ∀ bs : List Bool, PyData.depthAll (bs.map PyData.bool) = 0
  | [] => rfl
  | b :: r => by
    show max (PyData.depth (.bool b)) (PyData.depthAll (r.map PyData.bool)) = 0
    rw [depthBools r]
    rfl
theorem shapedBools (bs : List Bool) : SeqAt.shaped (.list (bs.map PyData.bool)) = true := by
  show (PyData.canLayAll0 (bs.map PyData.bool) && decide (PyData.depthAll (bs.map PyData.bool) + 1 ≤ 64)) = true
  rw [laidBools, depthBools]
  rfl
theorem eqvBools (bs : List Bool) : PyData.eqv (.list (bs.map PyData.bool)) (.list (bs.map PyData.bool)) = true := by
  induction bs with
  | nil => rfl
  | cons b r ih =>
    simp only [List.map_cons, PyData.eqv] at ih ⊢
    cases b <;> simp_all [PyData.eqvAll, PyData.eqv]
def boolsK (k : Nat) : List Bool := (List.range 46).map fun j => decide (k = 0 + j)
theorem boolsK_eq (k : Nat) : kindsL k 0 46 = (boolsK k).map V.bl := by
  unfold kindsL boolsK
  rw [List.map_map]
  rfl
def spAllKinds (K : PySem.W.Frag) : Sp := spKinds K 0 46
def spOwn (K : PySem.W.Frag) : Sp := fun vs H Q _ => ∃ (e : Addr) (i : Nat), vs = [.ref e, .int (i : Int)] ∧ i < 46 ∧ Err H e (cA K i) ∧ ∀ H', Same H H' → Q (.bl true) H'
structure TxtO (K : PySem.W.Frag) (mg : Str → Option Value) : Prop where
  k : TxtK K mg
  range : mg "range" = none
  len : mg "len" = none
  rep : mg "repr" = none
  ve : mg "ValueError" = none
  le : mg "LookupError" = none
  gce : mg "CrossError" = some (.ref (ceA K))
  g : ∀ j, j < 13 → mg (lawNames.getD j "") = some (.ref (He.ga K (lawNames.getD j "")))
section
variable {P : Program} {w : World} {K : PySem.W.Frag} {mg : Str → Option Value} {base : Heap}
theorem sc_kinds : FnScope ["_law_e"] ["_law_e"] (defScope (lawS 9)) := ⟨rfl, rfl, rfl, by decide +kernel, rfl, by decide +kernel, by decide +kernel⟩
theorem ok_kinds (Z : TxtO K mg) : ∃ fd, FunD K "_law_kinds" "_law_kinds" (defArgs (lawS 9)) (defBody (lawS 9)) (defScope (lawS 9)) [] [] (He.ga K "_law_kinds") fd ∧ FnOk P w K mg base CX0 2 (He.ga K "_law_kinds") fd ["_law_e"] (spAllKinds K) := by
  obtain ⟨fd, F0⟩ := Z.k.z.c.defs (d := lawD 9) (law_fn (by decide))
  have F : FunD K "_law_kinds" "_law_kinds" (defArgs (lawS 9)) (defBody (lawS 9)) (defScope (lawS 9)) [] [] (He.ga K "_law_kinds") fd := F0
  obtain ⟨fa, Fa, Ga⟩ := ok_kinds_a (P := P) (w := w) (base := base) Z.k
  obtain ⟨fb, Fb, Gb⟩ := ok_kinds_b (P := P) (w := w) (base := base) Z.k
  obtain ⟨fc, Fc, Gc⟩ := ok_kinds_c (P := P) (w := w) (base := base) Z.k
  have ba : Binds K fa ["_law_e"] [] := Fa.bindsN fun _ _ _ _ _ _ us hl => match us, hl with | [_], _ => rfl
  have bb : Binds K fb ["_law_e"] [] := Fb.bindsN fun _ _ _ _ _ _ us hl => match us, hl with | [_], _ => rfl
  have bc : Binds K fc ["_law_e"] [] := Fc.bindsN fun _ _ _ _ _ _ us hl => match us, hl with | [_], _ => rfl
  refine ⟨fd, F, F.ok sc_kinds (fun vs H Q E h => ?_) fun cdv A0 outer s H vs Q E hr h => ⟨_, PSs.nox (pss_one (ps_ret (pe_op op_cat (pe_op op_cat (pe_call Ga hr (by rfl) (Z.g 6 (by decide)) Fa.kp ba .nil pass0 (pa_cons (pv 0) pa_nil)) (pe_call Gb hr (by rfl) (Z.g 7 (by decide)) Fb.kp bb .nil pass0 (pa_cons (pv 0) pa_nil)))
    (pe_call Gc hr (by rfl) (Z.g 8 (by decide)) Fc.kp bc .nil pass0 (pa_cons (pv 0) pa_nil))))), ?_⟩⟩
  · obtain ⟨e, k, rfl, _⟩ := h
    rfl
  · obtain ⟨e, k, rfl, hk, he, kk⟩ := h
    refine ⟨_, rfl, e, k, rfl, hk, he, fun l1 H1 n1 h1 S1 => ⟨_, rfl, e, k, rfl, hk, he.same S1, fun l2 H2 n2 h2 S2 => ⟨l1, l2, _, _, rfl, rfl, S2 _ _ h1, h2, by rw [kindsL_len, kindsL_len]; decide, fun p np => ?_⟩⟩⟩
    rw [kindsL_app]
    have S3 : Same H2 (upd H2 p (.lst (kindsL k 0 (18 + 18)))) := fun b o e => by rw [upd_ne (ne_of_none e np)]; exact e
    refine ⟨_, rfl, e, k, rfl, hk, ((he.same S1).same S2).same S3, fun l3 H3 n3 h3 S4 => ⟨p, l3, _, _, rfl, rfl, S4 _ _ upd_same, h3, by rw [kindsL_len, kindsL_len]; decide, fun q nq => ?_⟩⟩
    have S : Same H (upd H3 q (.lst (kindsL k 0 (18 + 18) ++ kindsL k 36 10))) := fun b o e => by
      have e3 := S4 _ _ (S3 _ _ (S2 _ _ (S1 _ _ e)))
      rw [upd_ne (ne_of_none e3 nq)]
      exact e3
    exact kk q _ ((((S1.trans S2).trans S3).trans S4).free nq) (by rw [upd_same, show (36 : Nat) = 0 + (18 + 18) from rfl, kindsL_app]) S
theorem scOwn : FnScope ["_law_e", "_law_at", "_law_k"] ["_law_e", "_law_at"] (defScope (lawS 10)) := ⟨rfl, rfl, rfl, by decide +kernel, rfl, by decide +kernel, by decide +kernel⟩
theorem ok_own (Z : TxtO K mg) : ∃ fd, FunD K "_law_is_own" "_law_is_own" (defArgs (lawS 10)) (defBody (lawS 10)) (defScope (lawS 10)) [] [] (He.ga K "_law_is_own") fd ∧ FnOk P w K mg base CX0 3 (He.ga K "_law_is_own") fd ["_law_e", "_law_at"] (spOwn K) := by
  obtain ⟨fd, F0⟩ := Z.k.z.c.defs (d := lawD 10) (law_fn (by decide))
  have F : FunD K "_law_is_own" "_law_is_own" (defArgs (lawS 10)) (defBody (lawS 10)) (defScope (lawS 10)) [] [] (He.ga K "_law_is_own") fd := F0
  obtain ⟨fk, Fk, Gk⟩ := ok_kinds (P := P) (w := w) (base := base) Z
  have bk : Binds K fk ["_law_e"] [] := Fk.bindsN fun _ _ _ _ _ _ us hl => match us, hl with | [_], _ => rfl
  have bt : bootBuiltins "isinstance" = some (.builtin "isinstance") := by decide +kernel
  have bv : bootBuiltins "ValueError" = some (.type "ValueError") := by decide +kernel
  have bl : bootBuiltins "LookupError" = some (.type "LookupError") := by decide +kernel
  have A := Z.k.z.A
  refine ⟨fd, F, F.ok scOwn (fun vs H Q E h => ?_) fun cdv A0 outer s H vs Q E hr h => ?_⟩
  · obtain ⟨e, i, rfl, _⟩ := h
    rfl
  · have hu := hr.units
    refine ⟨_, PSs.nox (pss_cons (ps_if (PW.pt (pw_or (pt_not (pt_val (pe_callB call_isX (by rfl) Z.k.isin bt (pa_cons (pv 0) (pa_cons (pe_glob (by rfl) Z.gce (v := .ref (ceA K)) rfl) pa_nil)))))
        (pw_or (pt_not (pt_val (pe_callB call_isX (by rfl) Z.k.isin bt (pa_cons (pv 0) (pa_cons (pe_bltn (by rfl) Z.ve bv (v := .ty "ValueError") rfl) pa_nil)))))
        (pw_or1 (pt_val (pe_callB call_isX (by rfl) Z.k.isin bt (pa_cons (pv 0) (pa_cons (pe_bltn (by rfl) Z.le bl (v := .ty "LookupError") rfl) pa_nil)))))))) (pss_one (ps_ret pe_bl)) pss_nil)
      (pss_one (ps_ret (pe_cmpR (op_eqD hu) (pe_call Gk hr (by rfl) (Z.g 9 (by decide)) Fk.kp bk .nil pass0 (pa_cons (pv 0) pa_nil))
        (pe_lc (te := tOp rEq (tVar 2) (tVar 1)) (own := [("_law_k", 2)]) (g := gName 2) (tt := tYes) rfl scOwn.nd (pi_range1 (by rfl) Z.range (pa_cons pe_int pa_nil))
          (blkOk_by (own := [("_law_k", 2)]) (N := ["_law_e", "_law_at", "_law_k"]) (sc := defScope (lawS 10)) (by decide +kernel)) (fun _ _ _ _ _ => pg_name (i := 2) scOwn.nd rfl (Or.inl rfl)) (fun _ _ _ _ _ => pts_nil)
          (fun _ _ _ _ _ => pe_cmpR op_eq (pv 2) (pv 1) (nomark _))) (nomark _))))), ?_⟩
    obtain ⟨e, i, rfl, hi, he, kk⟩ := h
    have cf := A.one i hi
    have ki : kA K i = cA K i := kA_lt hi
    refine ⟨_, rfl, e, cA K i, _, _, true, rfl, cf.ec, he, fun u r => r, kit_ce A hi, true, rfl, iteF ?_⟩
    refine ⟨_, rfl, e, cA K i, _, _, true, rfl, cf.ec, he, fun u r => r, (kit_ty cf rfl "ValueError" (by decide +kernel)).trans (by decide), true, rfl, iteF ?_⟩
    refine ⟨_, rfl, e, cA K i, _, _, false, rfl, cf.ec, he, fun u r => r, (kit_ty cf rfl "LookupError" (by decide +kernel)).trans (by decide), false, rfl, iteF ?_⟩
    refine ⟨_, rfl, e, i, rfl, by omega, by rw [ki]; exact he, fun l1 H1 n1 h1 S1 => ⟨46, rfl, by decide, by decide, fun D hD => ?_⟩⟩
    have nl : l1 ≠ D := ne_of_none h1 hD
    refine lc_range (fun j H' => H' D = some (.lst (kindsL i 0 j)) ∧ Same H1 H') ⟨upd_same, fun b o q => by rw [upd_ne (ne_of_none q hD)]; exact q⟩ ?_ ?_
    · rintro j H' hj ⟨h', S'⟩
      refine ⟨rfl, yes_of ⟨_, rfl, _, rfl, rfl, _, h', by rw [kindsL_len]; exact small1000 (by omega), ?_, fun b o q => ?_⟩⟩
      · have ed : decide (V.int (0 + (j : Int)) = V.int (i : Int)) = decide (i = 0 + j) := by
          by_cases z : i = j
          · subst z
            simp
          · rw [decide_eq_false (by intro q; injection q with q; omega), decide_eq_false (by omega)]
        rw [upd_same, ed]
        unfold kindsL
        rw [List.range_succ, List.map_append]
        rfl
      · have nb : b ≠ D := ne_of_none q hD
        rw [upd_ne nb]
        exact S' b o q
    · rintro H' ⟨h', S'⟩
      have h1' := S' _ _ h1
      have h' : H' D = some (.lst (kindsL i 0 46)) := h'
      rw [boolsK_eq] at h' h1'
      refine ⟨_, _, Dp.lst (SqL.of h1') (dpBools _), Dp.lst (SqL.of h') (dpBools _), shapedBools _, shapedBools _, ?_⟩
      rw [eqvBools]
      exact kk H' (S1.trans S')
/-- the two lists hold the very same things, which can be shown -/
def spThese : Sp := fun vs H Q _ => ∃ (a b : Addr) (ys : List V) (ds : List PyData), vs = [.ref a, .ref b] ∧ H a = some (.lst ys) ∧ H b = some (.lst ys) ∧ DxAll H ys ds ∧ (PyData.list ds).showable = true ∧ (PyData.list ds).shown.length ≤ sizeLine ∧ (PyData.list ds).depth ≤ 60 ∧ Q (.bl true) H
theorem scThese : FnScope ["_law_found", "_law_due"] ["_law_found", "_law_due"] (defScope (lawS 11)) := ⟨rfl, rfl, rfl, by decide +kernel, rfl, by decide +kernel, by decide +kernel⟩
theorem ok_these (Z : TxtO K mg) : ∃ fd, FunD K "_law_are_these" "_law_are_these" (defArgs (lawS 11)) (defBody (lawS 11)) (defScope (lawS 11)) [] [] (He.ga K "_law_are_these") fd ∧ FnOkG P w K mg base 1 (He.ga K "_law_are_these") fd ["_law_found", "_law_due"] spThese := by
  obtain ⟨fd, F0⟩ := Z.k.z.c.defs (d := lawD 11) (law_fn (by decide))
  have F : FunD K "_law_are_these" "_law_are_these" (defArgs (lawS 11)) (defBody (lawS 11)) (defScope (lawS 11)) [] [] (He.ga K "_law_are_these") fd := F0
  obtain ⟨so, hso⟩ := Z.k.z.A.sys
  have br : bootBuiltins "repr" = some (.builtin "repr") := by decide +kernel
  refine ⟨fd, F, ?_⟩
  obtain ⟨oc, od, dV, kV, doc, pm, an, cdv, ct, osl, rfl, lk, hcd, _, _⟩ := F.ex
  refine fnG_of lk hcd scThese (fun vs H Q E h => ?_) fun A0 outer s H vs Q E hg hr h => ?_
  · obtain ⟨a, b, ys, ds, rfl, _⟩ := h
    rfl
  · have hu := hr.units
    have hg2 := deeper_g (env := envOfC "_law_are_these" (defScope (lawS 11)) s.heap.objs.size (He.ga K "_law_are_these") cdv) hg
    refine ⟨_, PSs.nox (pss_one (ps_ret (pe_and (pe_cmpR op_eq (pe_callB (call_rep hso hg2 hu) (by rfl) Z.rep br (pa_cons (pv 0) pa_nil)) (pe_callB (call_rep hso hg2 hu) (by rfl) Z.rep br (pa_cons (pv 1) pa_nil)) (nomark _))
      (pe_one (pe_cmpR op_eq (pe_callB call_len_seq (by rfl) Z.len PySem.boot_len (pa_cons (pv 0) pa_nil)) (pe_callB call_len_seq (by rfl) Z.len PySem.boot_len (pa_cons (pv 1) pa_nil)) (nomark _)))))), ?_⟩
    obtain ⟨a, b, ys, ds, rfl, ha, hb, hx, hs, hz, hd, k⟩ := h
    refine ⟨_, rfl, a, ys, ds, rfl, ha, hx, hs, hz, hd, _, rfl, b, ys, ds, rfl, hb, hx, hs, hz, hd, rfl, _, rfl, ?_⟩
    rw [decide_eq_true rfl]
    refine iteT ⟨_, rfl, a, ys, rfl, .inl (SqL.of ha), _, rfl, b, ys, rfl, .inl (SqL.of hb), rfl, ?_⟩
    rw [decide_eq_true rfl]
    exact k
end
end E0
set_option Elab.async false
set_option linter.all false
set_option maxRecDepth 100000
set_option maxHeartbeats 4000000
/-! The things that the law's errors are made of: they can be shown, and stay. -/
namespace E0
open PySem PySem.Spec PyProof.Rows L2 LamX
/-- what is new since H1 -/
def Nw (H1 H2 : Hp) : Hp := fun b => match H1 b with
  | none => H2 b
  | some _ => none
theorem Nw.at {H1 H2 : Hp} {b : Addr} (h : H1 b = none) : Nw H1 H2 b = H2 b := by
  unfold Nw
  rw [h]
theorem Nw.out {H1 H2 : Hp} {b : Addr} {o : HO} (h : H1 b = some o) : Nw H1 H2 b = none := by
  unfold Nw
  rw [h]
theorem Nw.old {H1 H2 : Hp} {b : Addr} {o : HO} (h : Nw H1 H2 b = some o) : H1 b = none ∧ H2 b = some o := by
  cases q : H1 b with
  | none => exact ⟨rfl, by rw [Nw.at q] at h; exact h⟩
  | some u =>
    rw [Nw.out q] at h
    cases h
mutual
theorem Dx.mono {H H' : Hp} (E : ExtN H H') : ∀ {v : V} {d : PyData}, Dx H v d → Dx H' v d
  | _, _, .flat v hf => .flat v hf
  | _, _, .lst ha hx => .lst (E _ _ ha fun _ z => by cases z) (DxAll.mono E hx)
  | _, _, .tup ha hx => .tup (E _ _ ha fun _ z => by cases z) (DxAll.mono E hx)
  | _, _, .dic ha hf => .dic (E _ _ ha fun _ z => by cases z) hf
theorem DxAll.mono {H H' : Hp} (E : ExtN H H') : ∀ {vs : List V} {ds : List PyData}, DxAll H vs ds → DxAll H' vs ds
  | _, _, .nil => .nil
  | _, _, .cons h1 h2 => .cons (Dx.mono E h1) (DxAll.mono E h2)
end
def okL (ds : List PyData) : Bool := (PyData.list ds).showable && (decide ((PyData.list ds).shown.length ≤ sizeLine) && decide ((PyData.list ds).depth ≤ 60))
theorem okL.of {ds : List PyData} (h : okL ds = true) : (PyData.list ds).showable = true ∧ (PyData.list ds).shown.length ≤ sizeLine ∧ (PyData.list ds).depth ≤ 60 := by
  obtain ⟨h1, h2⟩ := He.ba h
  obtain ⟨h2, h3⟩ := He.ba h2
  exact ⟨h1, of_decide_eq_true h2, of_decide_eq_true h3⟩
def someD : List PyData := [.none, .int 5, .int (-1), .bool true, .str "a", .str "", .list [.int 1, .str "b"], .tuple [.int 2, .none], .dict [(.str "a", .int 1)], .list [.list [.str "x"]], .int (10 ^ 30), .tuple [.str "s", .int 3], .bool false, .int 0, .int 1]
def heldD : PyData := .list [.str "v", .str "w"]
theorem some_ok : (someD.all fun d => okL [d] && someD.all fun e => okL [d, e]) = true := by decide +kernel
theorem held_ok : (okL [] && (okL [heldD] && okL [heldD, heldD])) = true := by decide +kernel
/-- both can be shown, alone and side by side -/
def TwoOk (H : Hp) (x y : V) : Prop := ∃ dx dy : PyData, Dx H x dx ∧ Dx H y dy ∧ okL [] = true ∧ okL [dx] = true ∧ okL [dx, dy] = true
theorem TwoOk.mono {H H' : Hp} {x y : V} (h : TwoOk H x y) (E : ExtN H H') : TwoOk H' x y := by
  obtain ⟨dx, dy, h1, h2, h3⟩ := h
  exact ⟨dx, dy, h1.mono E, h2.mono E, h3⟩
theorem TwoOk.vals {H : Hp} {x y : V} (h : TwoOk H x y) (i : Nat) : ∃ ds, DxAll H (valsI x y i) ds ∧ okL ds = true := by
  obtain ⟨dx, dy, h1, h2, h3, h4, h5⟩ := h
  unfold valsI
  rcases (flds i).length with _ | _ | n
  · exact ⟨[], .nil, h3⟩
  · exact ⟨[dx], .cons h1 .nil, h4⟩
  · exact ⟨[dx, dy], by
      have e : ([x, y] : List V).take (n + 1 + 1) = [x, y] := by simp
      rw [e]
      exact .cons h1 (.cons h2 .nil), h5⟩
theorem TwoOk.draw {H : Hp} {x y : V} (hx : ∃ d ∈ someD, Dx H x d) (hy : ∃ d ∈ someD, Dx H y d) : TwoOk H x y := by
  obtain ⟨d, m1, h1⟩ := hx
  obtain ⟨e, m2, h2⟩ := hy
  obtain ⟨a, b⟩ := He.ba (List.all_eq_true.mp some_ok d m1)
  exact ⟨d, e, h1, h2, (He.ba held_ok).1, a, List.all_eq_true.mp b e m2⟩
theorem TwoOk.held {H : Hp} {h : Addr} (e : H h = some (.lst [.str "v", .str "w"])) : TwoOk H (.ref h) (.ref h) := by
  have d : Dx H (.ref h) heldD := .lst e (.cons (.flat (.str "v") rfl) (.cons (.flat (.str "w") rfl) .nil))
  obtain ⟨a, b⟩ := He.ba held_ok
  obtain ⟨b, c⟩ := He.ba b
  exact ⟨heldD, heldD, d, d, a, b, c⟩
theorem PE.conv {X : Cx} {e : Expr} {t t' : TE} (h : PE X e t) (c : ∀ σ H Q, t' σ H Q → t σ H Q) : PE X e t' := ⟨fun pins s σ H Q I q => h.run pins s σ H Q I (c σ H Q q)⟩
theorem new_same {H : Hp} {a : Addr} {o : HO} (n : H a = none) : Same H (upd H a o) := fun b u e => by
  rw [upd_ne (ne_of_none e n)]
  exact e
theorem someAt (k : Nat) {d : PyData} (h : someD[k]? = some d) : d ∈ someD := List.mem_of_getElem? h
/-- the list that is drawn from -/
def tSome : TE := fun σ H Q => ∀ (q : Addr) (vs : List V) (H2 : Hp), (∀ v ∈ vs, ∃ d ∈ someD, Dx (Nw H H2) v d) → vs.length = 15 → H q = none → H2 q = some (.lst vs) → Same H H2 → Q (.ref q) H2
theorem pe_some {X : Cx} {p0 p1 p2 p3 p4 p5 p6 p7 p8 p9 p10 p11 p12 p13 p14 p15 p16 p17 p18 p19 p20 p21 p22 p23 p24 p25 p26 p27 p28 p29 p30 p31 : Pos} : PE X (.List [.Constant .none 0 p0, .Constant (.int 5) 0 p1, .UnaryOp .USub (.Constant (.int 1) 0 p2) p3, .Constant (.bool true) 0 p4,
    .Constant (.str "a") 0 p5, .Constant (.str "") 0 p6, .List [.Constant (.int 1) 0 p7, .Constant (.str "b") 0 p8] p9, .Tuple [.Constant (.int 2) 0 p10, .Constant .none 0 p11] 0 p12,
    .Dict [some (.Constant (.str "a") 0 p13)] [.Constant (.int 1) 0 p14] p15, .List [.List [.Constant (.str "x") 0 p16] p17] p18, .BinOp (.Constant (.int 10) 0 p19) .Pow (.Constant (.int 30) 0 p20) p21,
    .Tuple [.Constant (.str "s") 0 p22, .Constant (.int 3) 0 p23] 0 p24, .Constant (.bool false) 0 p25, .Constant (.int 0) 0 p26, .Constant (.int 1) 0 p27] p28) tSome := by
  refine PE.conv (pe_lst (pa_cons pe_non (pa_cons pe_int (pa_cons (pe_un un_neg pe_int) (pa_cons pe_bl (pa_cons pe_str (pa_cons pe_str (pa_cons (pe_lst (pa_cons pe_int (pa_cons pe_str pa_nil))) (pa_cons (pe_tup (pa_cons pe_int (pa_cons pe_non pa_nil)))
    (pa_cons (pe_disp (pps_cons pe_str pe_int pps_nil) rfl rfl (by simp) (by show 1 ≤ 15; decide)) (pa_cons (pe_lst (pa_cons (pe_lst (pa_cons pe_str pa_nil)) pa_nil)) (pa_cons (pe_op op_pow pe_int pe_int) (pa_cons (pe_tup (pa_cons pe_str (pa_cons pe_int pa_nil)))
    (pa_cons pe_bl (pa_cons pe_int (pa_cons pe_int pa_nil)))))))))))))))) fun σ H Q h => ?_
  refine ⟨_, rfl, (by show 2 ≤ sizeLine; decide), fun a1 n1 => ⟨(by show 2 ≤ sizeLine; decide), fun a2 n2 a3 n3 => ⟨upd_same, [(.inr "a", .int 1)], rfl, by decide, (by show 1 ≤ sizeLine; decide), fun a4 n4 => ⟨(by show 1 ≤ sizeLine; decide), fun a5 n5 => ⟨10, 30, rfl, rfl, ⟨by decide, by decide, by decide⟩, (by show 2 ≤ sizeLine; decide), fun a6 n6 => ⟨(by show 15 ≤ sizeLine; decide), fun q nq => ?_⟩⟩⟩⟩⟩⟩
  have s1 : Same H (upd H a1 (HO.lst [V.int 1, V.str (Str.ofString "b")])) := new_same n1
  have t1 : (upd H a1 (HO.lst [V.int 1, V.str (Str.ofString "b")])) a1 = some (HO.lst [V.int 1, V.str (Str.ofString "b")]) := upd_same
  generalize upd H a1 (HO.lst [V.int 1, V.str (Str.ofString "b")]) = H1 at *
  have s2 : Same H1 (upd H1 a2 (HO.tup [V.int 2, V.non])) := new_same n2
  have t2 : (upd H1 a2 (HO.tup [V.int 2, V.non])) a2 = some (HO.tup [V.int 2, V.non]) := upd_same
  generalize upd H1 a2 (HO.tup [V.int 2, V.non]) = H2 at *
  have s3 : Same H2 (upd (upd H2 a3 (HO.dK [])) a3 (HO.dK (mergeK [] [(Sum.inr (Str.ofString "a"), V.int 1)]))) := fun b o e => by
    rw [upd_ne (ne_of_none e n3), upd_ne (ne_of_none e n3)]
    exact e
  have t3 : (upd (upd H2 a3 (HO.dK [])) a3 (HO.dK (mergeK [] [(Sum.inr (Str.ofString "a"), V.int 1)]))) a3 = some (HO.dK [(Sum.inr (Str.ofString "a"), V.int 1)]) := upd_same
  generalize upd (upd H2 a3 (HO.dK [])) a3 (HO.dK (mergeK [] [(Sum.inr (Str.ofString "a"), V.int 1)])) = H3 at *
  have s4 : Same H3 (upd H3 a4 (HO.lst [V.str (Str.ofString "x")])) := new_same n4
  have t4 : (upd H3 a4 (HO.lst [V.str (Str.ofString "x")])) a4 = some (HO.lst [V.str (Str.ofString "x")]) := upd_same
  generalize upd H3 a4 (HO.lst [V.str (Str.ofString "x")]) = H4 at *
  have s5 : Same H4 (upd H4 a5 (HO.lst [V.ref a4])) := new_same n5
  have t5 : (upd H4 a5 (HO.lst [V.ref a4])) a5 = some (HO.lst [V.ref a4]) := upd_same
  generalize upd H4 a5 (HO.lst [V.ref a4]) = H5 at *
  have s6 : Same H5 (upd H5 a6 (HO.tup [V.str (Str.ofString "s"), V.int 3])) := new_same n6
  have t6 : (upd H5 a6 (HO.tup [V.str (Str.ofString "s"), V.int 3])) a6 = some (HO.tup [V.str (Str.ofString "s"), V.int 3]) := upd_same
  generalize upd H5 a6 (HO.tup [V.str (Str.ofString "s"), V.int 3]) = H6 at *
  have f2 := s1.free n2
  have f3 := s1.free (s2.free n3)
  have f4 := s1.free (s2.free (s3.free n4))
  have f5 := s1.free (s2.free (s3.free (s4.free n5)))
  have f6 := s1.free (s2.free (s3.free (s4.free (s5.free n6))))
  have f7 := s1.free (s2.free (s3.free (s4.free (s5.free (s6.free nq)))))
  have s7 : Same H6 (upd H6 q (HO.lst [V.non, V.int 5, V.int (-1), V.bl true, V.str (Str.ofString "a"), V.str (Str.ofString ""), V.ref a1, V.ref a2, V.ref a3, V.ref a5, V.int (10 ^ 30), V.ref a6, V.bl false, V.int 0, V.int 1])) := new_same nq
  refine h q _ _ (fun v hv => ?_) rfl f7 upd_same ((((((s1.trans s2).trans s3).trans s4).trans s5).trans s6).trans s7)
  show ∃ d ∈ someD, Dx (Nw H (upd H6 q (HO.lst [V.non, V.int 5, V.int (-1), V.bl true, V.str (Str.ofString "a"), V.str (Str.ofString ""), V.ref a1, V.ref a2, V.ref a3, V.ref a5, V.int (10 ^ 30), V.ref a6, V.bl false, V.int 0, V.int 1]))) v d
  generalize upd H6 q (HO.lst [V.non, V.int 5, V.int (-1), V.bl true, V.str (Str.ofString "a"), V.str (Str.ofString ""), V.ref a1, V.ref a2, V.ref a3, V.ref a5, V.int (10 ^ 30), V.ref a6, V.bl false, V.int 0, V.int 1]) = H7 at *
  have u1 : Nw H H7 a1 = _ := (Nw.at n1).trans (s7 _ _ (s6 _ _ (s5 _ _ (s4 _ _ (s3 _ _ (s2 _ _ t1))))))
  have u2 : Nw H H7 a2 = _ := (Nw.at f2).trans (s7 _ _ (s6 _ _ (s5 _ _ (s4 _ _ (s3 _ _ t2)))))
  have u3 : Nw H H7 a3 = _ := (Nw.at f3).trans (s7 _ _ (s6 _ _ (s5 _ _ (s4 _ _ t3))))
  have u4 : Nw H H7 a4 = _ := (Nw.at f4).trans (s7 _ _ (s6 _ _ (s5 _ _ t4)))
  have u5 : Nw H H7 a5 = _ := (Nw.at f5).trans (s7 _ _ (s6 _ _ t5))
  have u6 : Nw H H7 a6 = _ := (Nw.at f6).trans (s7 _ _ t6)
  have hv' : v ∈ [V.non, V.int 5, V.int (-1), V.bl true, V.str (Str.ofString "a"), V.str (Str.ofString ""), V.ref a1, V.ref a2, V.ref a3, V.ref a5, V.int (10 ^ 30), V.ref a6, V.bl false, V.int 0, V.int 1] := hv
  simp only [List.mem_cons, List.not_mem_nil, or_false] at hv'
  rcases hv' with rfl | rfl | rfl | rfl | rfl | rfl | rfl | rfl | rfl | rfl | rfl | rfl | rfl | rfl | rfl
  · exact ⟨_, someAt 0 rfl, .flat .non rfl⟩
  · exact ⟨_, someAt 1 rfl, .flat (.int 5) rfl⟩
  · exact ⟨_, someAt 2 rfl, .flat (.int (-1)) rfl⟩
  · exact ⟨_, someAt 3 rfl, .flat (.bl true) rfl⟩
  · exact ⟨_, someAt 4 rfl, .flat (.str _) rfl⟩
  · exact ⟨_, someAt 5 rfl, .flat (.str _) rfl⟩
  · exact ⟨_, someAt 6 rfl, .lst u1 (.cons (.flat (.int 1) rfl) (.cons (.flat (.str _) rfl) .nil))⟩
  · exact ⟨_, someAt 7 rfl, .tup u2 (.cons (.flat (.int 2) rfl) (.cons (.flat .non rfl) .nil))⟩
  · exact ⟨_, someAt 8 rfl, .dic u3 (fun p hp => by
      simp only [List.mem_cons, List.not_mem_nil, or_false] at hp
      subst hp
      rfl)⟩
  · exact ⟨_, someAt 9 rfl, .lst u5 (.cons (.lst u4 (.cons (.flat (.str _) rfl) .nil)) .nil)⟩
  · exact ⟨_, someAt 10 rfl, .flat (.int _) rfl⟩
  · exact ⟨_, someAt 11 rfl, .tup u6 (.cons (.flat (.str _) rfl) (.cons (.flat (.int 3) rfl) .nil))⟩
  · exact ⟨_, someAt 12 rfl, .flat (.bl false) rfl⟩
  · exact ⟨_, someAt 13 rfl, .flat (.int 0) rfl⟩
  · exact ⟨_, someAt 14 rfl, .flat (.int 1) rfl⟩
end E0
set_option Elab.async false
set_option linter.all false
set_option maxRecDepth 100000
set_option maxHeartbeats 4000000
/-! The rows of errors are looked at, one by one. -/
namespace E0
open PySem PySem.Spec PyProof.Rows L2 LamX
theorem ExcI.ext {K : PySem.W.Frag} {H H' : Hp} {e : Addr} {x y : V} {i : Nat} (h : ExcI K H e x y i) (E : ExtN H H') : ExcI K H' e x y i := by
  rcases h with ⟨z, h⟩ | ⟨z, d, h1, h2⟩
  · exact .inl ⟨z, E _ _ h exo_tb⟩
  · exact .inr ⟨z, d, E _ _ h1 exo_tb, E _ _ h2 exd_tb⟩
theorem LamP.ext {P : Program} {w : World} {K : PySem.W.Frag} {mg : Str → Option Value} {base : Heap} {H H' : Hp} {f : Addr} {i : Nat} (h : LamP P w K mg base H f i) (E : ExtN H H') : LamP P w K mg base H' f i := by
  obtain ⟨q, pa, bo, sc, h1, h2⟩ := h
  exact ⟨q, pa, bo, sc, h1.ext E, h2⟩
/-- one row at t, whatever else stands -/
def EntN (P : Program) (w : World) (K : PySem.W.Frag) (mg : Str → Option Value) (base : Heap) (H : Hp) (x y : V) (i : Nat) (t : Addr) : Prop := ∃ e1 e2 f p : Addr, H t = some (.tup [.ref e1, .ref e2, .ref f, .ref p]) ∧ ExcI K H e1 x y i ∧ ExcI K H e2 x y i ∧
  LamP P w K mg base H f i ∧ H p = some (.lst (valsI x y i))
section
variable {P : Program} {w : World} {K : PySem.W.Frag} {mg : Str → Option Value} {base : Heap}
theorem EntN.ext {H H' : Hp} {x y : V} {i : Nat} {t : Addr} (h : EntN P w K mg base H x y i t) (E : ExtN H H') : EntN P w K mg base H' x y i t := by
  obtain ⟨e1, e2, f, p, h1, h2, h3, h4, h5⟩ := h
  exact ⟨e1, e2, f, p, E _ _ h1 (fun _ z => by cases z), h2.ext E, h3.ext E, h4.ext E, E _ _ h5 fun _ z => by cases z⟩
theorem Entry.n {H : Hp} {l : Addr} {x y : V} {i : Nat} {t : Addr} (h : Entry P w K mg base H l x y i t) : EntN P w K mg base H x y i t := by
  obtain ⟨e1, e2, f, p, h1, h2, h3, h4, h5, _⟩ := h
  exact ⟨e1, e2, f, p, h1, h2, h3, h4, h5⟩
/-- a row stays when a list changes that is none of its own -/
theorem EntN.put {H : Hp} {l : Addr} {x y : V} {i : Nat} {t : Addr} {xs ys : List V} (h : EntN P w K mg base H x y i t) (hl : H l = some (.lst xs)) (d : valsI x y i ≠ xs) : EntN P w K mg base (upd H l (.lst ys)) x y i t := by
  obtain ⟨e1, e2, f, p, h1, h2, h3, h4, h5⟩ := h
  have np : p ≠ l := ne_of h5 hl fun z => d (by injection z)
  have e : Entry P w K mg base H l x y i t := ⟨e1, e2, f, p, h1, h2, h3, h4, h5, np⟩
  exact (e.stay hl ExtL.upd).n
def EntA (P : Program) (w : World) (K : PySem.W.Frag) (mg : Str → Option Value) (base : Heap) (H : Hp) (x y : V) (b : Nat) (ts : List V) : Prop := ∀ j v, ts[j]? = some v → ∃ t, v = .ref t ∧ EntN P w K mg base H x y (b + j) t
theorem EntA.ext {H H' : Hp} {x y : V} {b : Nat} {ts : List V} (h : EntA P w K mg base H x y b ts) (E : ExtN H H') : EntA P w K mg base H' x y b ts := fun j v hj => by
  obtain ⟨t, e, q⟩ := h j v hj
  exact ⟨t, e, q.ext E⟩
theorem EntL.n {H : Hp} {l : Addr} {x y : V} {b : Nat} {ts : List V} (h : EntL P w K mg base H l x y b ts) : EntA P w K mg base H x y b ts := fun j v hj => by
  obtain ⟨t, e, q⟩ := h j v hj
  exact ⟨t, e, q.n⟩
theorem EntA.app {H : Hp} {x y : V} {b c : Nat} {ts us : List V} (h1 : EntA P w K mg base H x y b ts) (h2 : EntA P w K mg base H x y c us) (hc : c = b + ts.length) : EntA P w K mg base H x y b (ts ++ us) := fun j v hj => by
  by_cases z : j < ts.length
  · rw [List.getElem?_append_left z] at hj
    exact h1 j v hj
  · rw [List.getElem?_append_right (Nat.le_of_not_lt z)] at hj
    obtain ⟨t, e, q⟩ := h2 _ v hj
    refine ⟨t, e, ?_⟩
    have ej : c + (j - ts.length) = b + j := by omega
    rw [ej] at q
    exact q
end
/-- over enumerate(xs), xs a list that the body leaves as it is -/
theorem for_en {K : PySem.W.Frag} {a : Addr} {xs : List V} {g : TG} {tb : TS} {D : Ends} {σ : L2.St} {H : Hp} (Pv : Nat → L2.St → Hp → Prop) (h0 : Pv 0 σ H) (hl : ∀ i σ H, i ≤ xs.length → Pv i σ H → SqL K H a xs)
    (hs : ∀ i x σ H T, xs[i]? = some x → Pv i σ H → H T = none → g (.ref T) σ (upd H T (.tup [.int (i : Nat), x])) fun σ2 H2 => tb { D with nx := Pv (i + 1), ct := Pv (i + 1), bk := D.nx } σ2 H2) (hd : ∀ σ H, Pv xs.length σ H → D.nx σ H) :
    ∃ W : Nat → Nat → L2.St → Hp → Prop, (∃ m, W 0 m σ H) ∧ ∀ i m σ H, W i m σ H →
      ((Ite K a).stop i H ∧ D.nx σ H) ∨ ((Ite K a).go i H ∧ ∃ N : L2.St → Hp → Prop, (∀ σ' H', N σ' H' → ∃ m', m' < m ∧ W (i + 1) m' σ' H') ∧ ∀ x H', (Ite K a).yld i H x H' → g x σ H' fun σ2 H2 => tb { D with nx := N, ct := N, bk := D.nx } σ2 H2) := by
  refine ⟨fun i m σ H => m = xs.length - i ∧ i ≤ xs.length ∧ Pv i σ H, ⟨xs.length, by simp, Nat.zero_le _, h0⟩, fun i m σ H ⟨em, hi, p⟩ => ?_⟩
  subst em
  have q := hl i σ H hi p
  rcases Nat.lt_or_ge i xs.length with lt | ge
  · refine .inr ⟨⟨xs, xs[i], q, by simp [lt]⟩, Pv (i + 1), fun σ' H' p' => ⟨xs.length - (i + 1), by omega, rfl, lt, p'⟩, fun x H' y => ?_⟩
    obtain ⟨T, z, rfl, nT, rfl, hz⟩ := y
    exact hs i z σ H T (hz xs q) p nT
  · have e : i = xs.length := by omega
    exact .inl ⟨⟨xs, q, ge⟩, hd σ H (by rw [e] at p; exact p)⟩
/-- if not own(mine, at) or not own(twin, at): return False -/
def tOwnS (K : PySem.W.Frag) : TS := fun D σ H => ∃ (e1 e2 : Addr) (i : Nat), σ[8]? = some (some (.int (i : Int))) ∧ σ[9]? = some (some (.ref e1)) ∧ σ[10]? = some (some (.ref e2)) ∧ i < 46 ∧ Err H e1 (cA K i) ∧ Err H e2 (cA K i) ∧ ∀ H', Same H H' → D.nx σ H'
/-- if not these(field(mine), due) or not these(field(twin), due): return False -/
def tTheseS (P : Program) (w : World) (K : PySem.W.Frag) (mg : Str → Option Value) (base : Heap) : TS := fun D σ H => ∃ (e1 e2 f p : Addr) (x y : V) (i : Nat), σ[9]? = some (some (.ref e1)) ∧ σ[10]? = some (some (.ref e2)) ∧ σ[11]? = some (some (.ref f)) ∧ σ[12]? = some (some (.ref p)) ∧
  ExcI K H e1 x y i ∧ ExcI K H e2 x y i ∧ LamP P w K mg base H f i ∧ H p = some (.lst (valsI x y i)) ∧ TwoOk H x y ∧ ∀ H', Same H H' → D.nx σ H'
section
variable {X : Cx} {p1 p2 p3 p4 p5 p6 p7 p8 p9 p10 p11 p12 p13 p14 p15 p16 p17 p18 p19 : Pos}
theorem ps_own {fd : FuncData} {f : Addr} (G : FnOk X.prog X.w X.K X.mg X.base CX0 3 f fd ["_law_e", "_law_at"] (spOwn X.K)) (hr : Room 3 X.A) (hg : Gl X "_law_is_own") (hm : X.mg "_law_is_own" = some (.ref f)) (hk : PySem.W.keepIn X.K (.ref f) = true) (hb : Binds X.K fd ["_law_e", "_law_at"] [])
    (n8 : X.N[8]? = some ("_law_at" : Str)) (n9 : X.N[9]? = some ("_law_mine" : Str)) (n10 : X.N[10]? = some ("_law_twin" : Str)) (v8 : Vis X.env.scope "_law_at") (v9 : Vis X.env.scope "_law_mine") (v10 : Vis X.env.scope "_law_twin") :
    PS X (.If (.BoolOp .Or [.UnaryOp .Not (.Call (.Name "_law_is_own" p1) [.Name "_law_mine" p2, .Name "_law_at" p3] [] p4) p5, .UnaryOp .Not (.Call (.Name "_law_is_own" p6) [.Name "_law_twin" p7, .Name "_law_at" p8] [] p9) p10] p11) [.Return (some (.Constant (.bool false) 0 p12)) p13] [] p14) (tOwnS X.K) := by
  have w8 : ∀ p, PE X (.Name "_law_at" p) (tVar 8) := fun p => pe_var n8 v8 (by decide) (by decide)
  have w9 : ∀ p, PE X (.Name "_law_mine" p) (tVar 9) := fun p => pe_var n9 v9 (by decide) (by decide)
  have w10 : ∀ p, PE X (.Name "_law_twin" p) (tVar 10) := fun p => pe_var n10 v10 (by decide) (by decide)
  refine PS.conv (ps_if (PW.pt (pw_or (pt_not (pt_val (pe_call G hr hg hm hk hb .nil pass0 (pa_cons (w9 _) (pa_cons (w8 _) pa_nil)))))
    (pw_or1 (pt_not (pt_val (pe_call G hr hg hm hk hb .nil pass0 (pa_cons (w10 _) (pa_cons (w8 _) pa_nil)))))))) (pss_one (ps_ret pe_bl)) pss_nil) fun D σ H h => ?_
  obtain ⟨e1, e2, i, s8, s9, s10, hi, x1, x2, k⟩ := h
  refine ⟨_, s9, _, s8, e1, i, rfl, hi, x1, fun H1 S1 => ⟨true, rfl, iteF ?_⟩⟩
  refine ⟨_, s10, _, s8, e2, i, rfl, hi, x2.same S1, fun H2 S2 => ⟨true, rfl, iteF ?_⟩⟩
  exact k H2 (S1.trans S2)
theorem ps_these {fd : FuncData} {f : Addr} (G : FnOkG X.prog X.w X.K X.mg X.base 1 f fd ["_law_found", "_law_due"] spThese) (hgd : X.A.guards = some []) (hr : Room 1 X.A) (hg : Gl X "_law_are_these") (hm : X.mg "_law_are_these" = some (.ref f)) (hk : PySem.W.keepIn X.K (.ref f) = true)
    (hb : Binds X.K fd ["_law_found", "_law_due"] []) (n9 : X.N[9]? = some ("_law_mine" : Str)) (n10 : X.N[10]? = some ("_law_twin" : Str)) (n11 : X.N[11]? = some ("_law_field" : Str)) (n12 : X.N[12]? = some ("_law_due" : Str))
    (v9 : Vis X.env.scope "_law_mine") (v10 : Vis X.env.scope "_law_twin") (v11 : Vis X.env.scope "_law_field") (v12 : Vis X.env.scope "_law_due") :
    PS X (.If (.BoolOp .Or [.UnaryOp .Not (.Call (.Name "_law_are_these" p1) [.Call (.Name "_law_field" p2) [.Name "_law_mine" p3] [] p4, .Name "_law_due" p5] [] p6) p7, .UnaryOp .Not (.Call (.Name "_law_are_these" p8) [.Call (.Name "_law_field" p9) [.Name "_law_twin" p10] [] p11, .Name "_law_due" p12] [] p13) p14] p15)
      [.Return (some (.Constant (.bool false) 0 p16)) p17] [] p18) (tTheseS X.prog X.w X.K X.mg X.base) := by
  have w9 : ∀ p, PE X (.Name "_law_mine" p) (tVar 9) := fun p => pe_var n9 v9 (by decide) (by decide)
  have w10 : ∀ p, PE X (.Name "_law_twin" p) (tVar 10) := fun p => pe_var n10 v10 (by decide) (by decide)
  have w12 : ∀ p, PE X (.Name "_law_due" p) (tVar 12) := fun p => pe_var n12 v12 (by decide) (by decide)
  refine PS.conv (ps_if (PW.pt (pw_or (pt_not (pt_val (pe_callG G hgd hr hg hm hk hb (pa_cons (pe_callLam hr n11 v11 (pa_cons (w9 _) pa_nil)) (pa_cons (w12 _) pa_nil)))))
    (pw_or1 (pt_not (pt_val (pe_callG G hgd hr hg hm hk hb (pa_cons (pe_callLam hr n11 v11 (pa_cons (w10 _) pa_nil)) (pa_cons (w12 _) pa_nil)))))))) (pss_one (ps_ret pe_bl)) pss_nil) fun D σ H h => ?_
  obtain ⟨e1, e2, f, p, x, y, i, s9, s10, s11, s12, x1, x2, L, hp, T, k⟩ := h
  obtain ⟨q, pa, bo, sc, L1, L2⟩ := L
  refine ⟨f, q, pa, bo, sc, spL X.K i, s11, L1, L2, _, s9, L1, e1, x, y, rfl, x1, fun a1 n1 => ⟨_, s12, a1, p, valsI x y i, ?_⟩⟩
  have S1 : Same H (upd H a1 (.lst (valsI x y i))) := new_same n1
  obtain ⟨ds, hx, ho⟩ := (T.mono (.of S1)).vals i
  obtain ⟨o1, o2, o3⟩ := okL.of ho
  refine ⟨ds, rfl, upd_same, S1 _ _ hp, hx, o1, o2, o3, true, rfl, iteF ?_⟩
  refine ⟨f, q, pa, bo, sc, spL X.K i, s11, L1.ext (.of S1), L2, _, s10, L1.ext (.of S1), e2, x, y, rfl, x2.ext (.of S1), fun a2 n2 => ⟨_, s12, a2, p, valsI x y i, ?_⟩⟩
  have S2 : Same (upd H a1 (.lst (valsI x y i))) (upd (upd H a1 (.lst (valsI x y i))) a2 (.lst (valsI x y i))) := new_same n2
  refine ⟨ds, rfl, upd_same, S2 _ _ (S1 _ _ hp), hx.mono (.of S2), o1, o2, o3, true, rfl, iteF ?_⟩
  exact k _ (S1.trans S2)
end
end E0
set_option Elab.async false
set_option linter.all false
set_option maxRecDepth 100000
set_option maxHeartbeats 4000000
/-! The law itself. -/
namespace E0
open PySem PySem.Spec PyProof.Rows L2 LamX
theorem FunD.fun0 {K : PySem.W.Frag} {x q : Str} {st : Stmt} {f : Addr} {fd : FuncData} (F : FunD K x q (defArgs st) (defBody st) (defScope st) [] [] f fd) : Fun K x q st f fd := by
  obtain ⟨oc, od, dV, kV, doc, pm, an, cdv, ct, osl, e, lk, hc, hD, _⟩ := F.ex
  rcases hD with ⟨_, rfl⟩ | ⟨z, _⟩
  · exact ⟨⟨oc, od, kV, doc, pm, an, cdv, ct, osl, e, lk, hc⟩, F.kp⟩
  · exact absurd rfl z
theorem Tabs.but2 {T : List (Addr × Str)} {H H' : Hp} {p l : Addr} {xs ys : List V} (h : Tabs T H) (B : But2 H H' p l) (hp : H p = some (.lst xs)) (hl : H l = some (.lst ys)) : Tabs T H' := fun t ht => by
  obtain ⟨ps, a1, a2, a3⟩ := h t ht
  refine ⟨ps, B _ _ a1 (ne_of a1 hp (fun z => by cases z)) (ne_of a1 hl (fun z => by cases z)), a2, fun pos cv hc => ?_⟩
  obtain ⟨c, b1, b2⟩ := a3 pos cv hc
  exact ⟨c, b1, B _ _ b2 (ne_of b2 hp ext_lst) (ne_of b2 hl ext_lst)⟩
theorem StmAt.ext {H H' : Hp} {p l : Addr} {c : Int} (S : StmAt H p l c) (E : ExtN H H') : StmAt H' p l c := by
  obtain ⟨⟨ns, b, d, h1, h2, r⟩, hne⟩ := S
  exact ⟨⟨ns, b, d, E _ _ h1 (fun _ z => by cases z), E _ _ h2 (fun _ z => by cases z), r⟩, hne⟩
def tMade (P : Program) (w : World) (K : PySem.W.Frag) (mg : Str → Option Value) (base : Heap) (i j m : Nat) : TE :=
  tOp rCat (tOp rCat (tCall (spMade P w K mg base 0 18) [] L2.E0 (tCons (tVar i) (tCons (tVar j) (tCons (tVar m) tNil)))) (tCall (spMade P w K mg base 18 18) [] L2.E0 (tCons (tVar i) (tCons (tVar j) (tCons (tVar m) tNil)))))
    (tCall (spMade P w K mg base 36 10) [] L2.E0 (tCons (tVar i) (tCons (tVar j) (tCons (tVar m) tNil))))
theorem made3 {P : Program} {w : World} {K : PySem.W.Frag} {mg : Str → Option Value} {base : Heap} {i j m : Nat} {σ : L2.St} {H : Hp} {Q : VK} {x y z : V} (sx : σ[i]? = some (some x)) (sy : σ[j]? = some (some y)) (sz : σ[m]? = some (some z)) (hT : Tabs (tbls K) H)
    (k : ∀ (q : Addr) (ts : List V) (H' : Hp), ts.length = 46 → EntA P w K mg base H' x y 0 ts → H' q = some (.lst ts) → ExtN H H' → Tabs (tbls K) H' → Q (.ref q) H') : tMade P w K mg base i j m σ H Q := by
  refine ⟨x, sx, y, sy, z, sz, x, y, z, rfl, hT, fun l1 ts1 H1 n1 E1 f1 h1 X1 T1 => ⟨x, sx, y, sy, z, sz, x, y, z, rfl, T1, fun l2 ts2 H2 n2 E2 f2 h2 X2 T2 => ?_⟩⟩
  refine ⟨l1, l2, ts1, ts2, rfl, rfl, X2 _ _ h1 (fun _ q => by cases q), h2, by rw [n1, n2]; decide, fun p np => ?_⟩
  have S3 : Same H2 (upd H2 p (.lst (ts1 ++ ts2))) := new_same np
  have T3 : Tabs (tbls K) (upd H2 p (.lst (ts1 ++ ts2))) := E0.Tabs.keep T2 S3
  refine ⟨x, sx, y, sy, z, sz, x, y, z, rfl, T3, fun l3 ts3 H4 n3 E3 f3 h3 X4 T4 => ?_⟩
  refine ⟨p, l3, _, _, rfl, rfl, X4 _ _ upd_same (fun _ q => by cases q), h3, by rw [List.length_append, n1, n2, n3]; decide, fun q nq => ?_⟩
  have S5 : Same H4 (upd H4 q (.lst (ts1 ++ ts2 ++ ts3))) := new_same nq
  have XA : ExtN H2 (upd H4 q (.lst (ts1 ++ ts2 ++ ts3))) := ((ExtN.of S3).trans X4).trans (.of S5)
  have a1 := (E1.n.ext X2).ext XA
  have a2 := E2.n.ext XA
  have a3 := E3.n.ext (.of S5)
  have a12 := a1.app a2 (by rw [n1])
  exact k q _ _ (by rw [List.length_append, List.length_append, n1, n2, n3]) (a12.app a3 (by rw [List.length_append, n1, n2])) upd_same ((X1.trans X2).trans XA) (E0.Tabs.keep T4 S5)
/-- what is drawn from stays, what it is made of too -/
structure DrawnAt (H1 H2 H : Hp) (p l q : Addr) (c : Int) (vs : List V) : Prop where
  st : StmAt H p l c
  at_ : H q = some (.lst vs)
  new : ExtN (Nw H1 H2) H
  data : ∀ v ∈ vs, ∃ d ∈ someD, Dx (Nw H1 H2) v d
  p0 : ∃ o, H1 p = some o
  l0 : ∃ o, H1 l = some o
  q0 : H1 q = none
theorem DrawnAt.ext {H1 H2 H H' : Hp} {p l q : Addr} {c : Int} {vs : List V} (D : DrawnAt H1 H2 H p l q c vs) (E : ExtN H H') : DrawnAt H1 H2 H' p l q c vs :=
  ⟨D.st.ext E, E _ _ D.at_ (fun _ z => by cases z), D.new.trans E, D.data, D.p0, D.l0, D.q0⟩
theorem DrawnAt.but2 {H1 H2 H H' : Hp} {p l q : Addr} {c c' : Int} {vs : List V} (D : DrawnAt H1 H2 H p l q c vs) (B : But2 H H' p l) (S : StmAt H' p l c') : DrawnAt H1 H2 H' p l q c' vs := by
  obtain ⟨op, ep⟩ := D.p0
  obtain ⟨ol, el⟩ := D.l0
  refine ⟨S, B _ _ D.at_ (ne_of_none ep D.q0).symm (ne_of_none el D.q0).symm, fun b o e nt => ?_, D.data, D.p0, D.l0, D.q0⟩
  have n1 := (Nw.old e).1
  exact B _ _ (D.new _ _ e nt) (ne_of_none ep n1).symm (ne_of_none el n1).symm
structure TxtW (K : PySem.W.Frag) (mg : Str → Option Value) : Prop where
  o : TxtO K mg
  int : mg "int" = none
  list : mg "list" = none
  enum : mg "enumerate" = none
abbrev sLaw : Stmt := lawS 12
abbrev nLaw : List Str := ["_law_script", "_law_stream", "_law_some", "_law_turn", "_law_x", "_law_y", "_law_z", "_law_made", "_law_at", "_law_mine", "_law_twin", "_law_field", "_law_due", "_law_held", "_law_base"]
theorem scLaw : FnScope nLaw ["_law_script"] (defScope sLaw) := ⟨rfl, rfl, rfl, by decide +kernel, rfl, by decide +kernel, by decide +kernel⟩
def spLaw (K : PySem.W.Frag) : Sp := fun vs H Q _ => ∃ (a : Addr) (ns : List Int), vs = [.ref a] ∧ SqL K H a (ns.map V.int) ∧ ns.length ≤ 1000 ∧ Tabs (tbls K) H ∧ ∀ H', Q (.bl true) H'
end E0
set_option Elab.async false
set_option linter.all false
set_option maxRecDepth 100000
set_option maxHeartbeats 4000000
/-! The law's own def. -/
namespace E0
open PySem PySem.Spec PyProof.Rows L2 LamX
theorem cut3 (x y z : V) (r : List V) : cutV (x :: y :: z :: r) none (some 3) = [x, y, z] := by
  have e1 : HT.sIx (r.length + 3) 0 none = 0 := rfl
  have e2 : HT.sIx (r.length + 3) (r.length + 3) (some 3) = 3 := by
    unfold HT.sIx
    simp
  show List.take (HT.sIx (r.length + 3) (r.length + 3) (some 3) - HT.sIx (r.length + 3) 0 none) (List.drop (HT.sIx (r.length + 3) 0 none) (x :: y :: z :: r)) = _
  rw [e1, e2]
  rfl
theorem three (ys : List V) (h : ys.length = 15) : ∃ x y z r, ys = x :: y :: z :: r := by
  match ys, h with
  | x :: y :: z :: r, _ => exact ⟨x, y, z, r, rfl⟩
section
variable {P : Program} {w : World} {K : PySem.W.Frag} {mg : Str → Option Value} {base : Heap}
theorem ok_law (Z : TxtW K mg) (TA : TabB base mg (He.cT K ("_law_made_a", none)).1 (tA K)) (TB : TabB base mg (He.cT K ("_law_made_b", none)).1 (tB K)) (TC : TabB base mg (He.cT K ("_law_made_c", none)).1 (tC K)) :
    ∃ fd, FunD K "law" "law" (defArgs sLaw) (defBody sLaw) (defScope sLaw) [] [] (He.ga K "law") fd ∧ FnOkG P w K mg base 4 (He.ga K "law") fd ["_law_script"] (spLaw K) := by
  have O := Z.o
  have c := O.k.z.c
  have A := O.k.z.A
  obtain ⟨fd, F0⟩ := c.defs (d := lawD 12) (law_fn (by decide))
  have F : FunD K "law" "law" (defArgs sLaw) (defBody sLaw) (defScope sLaw) [] [] (He.ga K "law") fd := F0
  obtain ⟨fS, FS0⟩ := c.defs (d := lawD 0) (law_fn (by decide))
  have FS : Fun K "_law_start" "_law_start" sStart (He.ga K "_law_start") fS := FunD.fun0 FS0
  obtain ⟨fW, FW0⟩ := c.defs (d := lawD 1) (law_fn (by decide))
  have FW : Fun K "_law_draw" "_law_draw" sDraw (He.ga K "_law_draw") fW := FunD.fun0 FW0
  obtain ⟨fM, FM0⟩ := c.defs (d := lawD 2) (law_fn (by decide))
  have FM : Fun K "_law_mixed" "_law_mixed" sMixed (He.ga K "_law_mixed") fM := FunD.fun0 FM0
  have D : TxtD mg := ⟨Z.int, Z.list, O.len, O.range⟩
  have bS : Binds K fS ["_law_script"] [] := FS.binds fun _ _ _ _ _ _ us hl => match us, hl with | [_], _ => rfl
  have bW : Binds K fW ["_law_stream", "_law_many"] [] := FW.binds fun _ _ _ _ _ _ us hl => match us, hl with | [_, _], _ => rfl
  have bM : Binds K fM ["_law_stream", "_law_some"] [] := FM.binds fun _ _ _ _ _ _ us hl => match us, hl with | [_, _], _ => rfl
  have GS : FnOk P w K mg base CX0 1 (He.ga K "_law_start") fS ["_law_script"] (spStart K) := ok_start FS D
  have GM : FnOk P w K mg base CX0 2 (He.ga K "_law_mixed") fM ["_law_stream", "_law_some"] (spMixed K) := ok_mixed FM ⟨D, O.g 1 (by decide), FW.kp⟩ FW bW
  obtain ⟨fa, Fa, Ga⟩ := ok_made_a (P := P) (w := w) (base := base) O.k.z TA
  obtain ⟨fb, Fb, Gb⟩ := ok_made_b (P := P) (w := w) (base := base) O.k.z TB
  obtain ⟨fc, Fc, Gc⟩ := ok_made_c (P := P) (w := w) (base := base) O.k.z TC
  have ba : Binds K fa ["_law_x", "_law_y", "_law_z"] [] := Fa.bindsN fun _ _ _ _ _ _ us hl => match us, hl with | [_, _, _], _ => rfl
  have bb : Binds K fb ["_law_x", "_law_y", "_law_z"] [] := Fb.bindsN fun _ _ _ _ _ _ us hl => match us, hl with | [_, _, _], _ => rfl
  have bc : Binds K fc ["_law_x", "_law_y", "_law_z"] [] := Fc.bindsN fun _ _ _ _ _ _ us hl => match us, hl with | [_, _, _], _ => rfl
  obtain ⟨fk, Fk, Gk⟩ := ok_kinds (P := P) (w := w) (base := base) O
  have bk : Binds K fk ["_law_e"] [] := Fk.bindsN fun _ _ _ _ _ _ us hl => match us, hl with | [_], _ => rfl
  obtain ⟨fo, Fo, Go⟩ := ok_own (P := P) (w := w) (base := base) O
  have bo : Binds K fo ["_law_e", "_law_at"] [] := Fo.bindsN fun _ _ _ _ _ _ us hl => match us, hl with | [_, _], _ => rfl
  obtain ⟨ft, Ft, Gt⟩ := ok_these (P := P) (w := w) (base := base) O
  have bt : Binds K ft ["_law_found", "_law_due"] [] := Ft.bindsN fun _ _ _ _ _ _ us hl => match us, hl with | [_, _], _ => rfl
  have bi : bootBuiltins "isinstance" = some (.builtin "isinstance") := by decide +kernel
  have bv : bootBuiltins "ValueError" = some (.type "ValueError") := by decide +kernel
  refine ⟨fd, F, ?_⟩
  obtain ⟨oc, od, dV, kV, doc, pm, an, cdv, ct, osl, rfl, lk, hcd, _, _⟩ := F.ex
  refine fnG_of lk hcd scLaw (fun vs H Q E h => ?_) fun A0 outer s H vs Q E hg hr h => ?_
  · obtain ⟨a, ns, rfl, _⟩ := h
    rfl
  · have hu := hr.units
    have hg2 := deeper_g (env := envOfC "law" (defScope sLaw) s.heap.objs.size (He.ga K "law") cdv) hg
    refine ⟨_, PSs.nox (pss_cons (ps_set (i := 1) scLaw.nd rfl (Or.inl rfl) (pe_call GS (hr.mono (by decide)) (by rfl) (O.g 0 (by decide)) FS.kp bS .nil pass0 (pa_cons (pv 0) pa_nil)))
      (pss_cons (ps_set (i := 2) scLaw.nd rfl (Or.inl rfl) (pe_some (p29 := ⟨0, 0, 0, 0⟩) (p30 := ⟨0, 0, 0, 0⟩) (p31 := ⟨0, 0, 0, 0⟩)))
      (pss_cons (ps_for PassesOwn.never rfl (pi_range1 (by rfl) O.range (pa_cons pe_int pa_nil)) (pg_name (i := 3) scLaw.nd rfl (Or.inl rfl))
        (pss_cons (ps_asg (pe_slice sl_list (pe_call GM (hr.mono (by decide)) (by rfl) (O.g 2 (by decide)) FM.kp bM .nil pass0 (pa_cons (pv 1) (pa_cons (pv 2) pa_nil))) po_none (po_some pe_int))
            (pg_unl rfl (pgs_cons (pg_name (i := 4) scLaw.nd rfl (Or.inl rfl)) (pgs_cons (pg_name (i := 5) scLaw.nd rfl (Or.inl rfl)) (pgs_cons (pg_name (i := 6) scLaw.nd rfl (Or.inl rfl)) pgs_nil)))))
        (pss_cons (ps_set (i := 7) scLaw.nd rfl (Or.inl rfl) (pe_op op_cat (pe_op op_cat (pe_call Ga hr (by rfl) (O.g 3 (by decide)) Fa.kp ba .nil pass0 (pa_cons (pv 4) (pa_cons (pv 5) (pa_cons (pv 6) pa_nil))))
            (pe_call Gb hr (by rfl) (O.g 4 (by decide)) Fb.kp bb .nil pass0 (pa_cons (pv 4) (pa_cons (pv 5) (pa_cons (pv 6) pa_nil))))) (pe_call Gc hr (by rfl) (O.g 5 (by decide)) Fc.kp bc .nil pass0 (pa_cons (pv 4) (pa_cons (pv 5) (pa_cons (pv 6) pa_nil))))))
        (pss_one (ps_for PassesOwn.never rfl (pi_enum (by rfl) Z.enum (pa_cons (pv 7) pa_nil))
            (pg_tup rfl (pgs_cons (pg_name (i := 8) scLaw.nd rfl (Or.inl rfl)) (pgs_cons (pg_tup rfl (pgs_cons (pg_name (i := 9) scLaw.nd rfl (Or.inl rfl)) (pgs_cons (pg_name (i := 10) scLaw.nd rfl (Or.inl rfl)) (pgs_cons (pg_name (i := 11) scLaw.nd rfl (Or.inl rfl)) (pgs_cons (pg_name (i := 12) scLaw.nd rfl (Or.inl rfl)) pgs_nil))))) pgs_nil)))
            (pss_cons (ps_own Go hr (by rfl) (O.g 10 (by decide)) Fo.kp bo rfl rfl rfl (Or.inl rfl) (Or.inl rfl) (Or.inl rfl))
            (pss_one (ps_these Gt hg2 (hr.mono (by decide)) (by rfl) (O.g 11 (by decide)) Ft.kp bt rfl rfl rfl rfl (Or.inl rfl) (Or.inl rfl) (Or.inl rfl) (Or.inl rfl)))))))))
      (pss_cons (ps_set (i := 13) scLaw.nd rfl (Or.inl rfl) (pe_lst (pa_cons pe_str pa_nil)))
      (pss_cons (ps_set (i := 7) scLaw.nd rfl (Or.inl rfl) (pe_op op_cat (pe_op op_cat (pe_call Ga hr (by rfl) (O.g 3 (by decide)) Fa.kp ba .nil pass0 (pa_cons (pv 13) (pa_cons (pv 13) (pa_cons (pv 13) pa_nil))))
            (pe_call Gb hr (by rfl) (O.g 4 (by decide)) Fb.kp bb .nil pass0 (pa_cons (pv 13) (pa_cons (pv 13) (pa_cons (pv 13) pa_nil))))) (pe_call Gc hr (by rfl) (O.g 5 (by decide)) Fc.kp bc .nil pass0 (pa_cons (pv 13) (pa_cons (pv 13) (pa_cons (pv 13) pa_nil))))))
      (pss_cons (ps_expr (pe_bm PySem.F.plainAttrs_list PySem.F.slot_list_append PySem.F.type_list_append mt_append (pv 13) (pa_cons pe_str pa_nil)))
      (pss_cons (ps_for PassesOwn.never rfl (pi_list (pv 7))
            (pg_tup rfl (pgs_cons (pg_name (i := 9) scLaw.nd rfl (Or.inl rfl)) (pgs_cons (pg_name (i := 10) scLaw.nd rfl (Or.inl rfl)) (pgs_cons (pg_name (i := 11) scLaw.nd rfl (Or.inl rfl)) (pgs_cons (pg_name (i := 12) scLaw.nd rfl (Or.inl rfl)) pgs_nil)))))
            (pss_one (ps_these Gt hg2 (hr.mono (by decide)) (by rfl) (O.g 11 (by decide)) Ft.kp bt rfl rfl rfl rfl (Or.inl rfl) (Or.inl rfl) (Or.inl rfl) (Or.inl rfl))))
      (pss_cons (ps_set (i := 14) scLaw.nd rfl (Or.inl rfl) (pe_mk0 A.exc.1 A.ce.oex.kC (by rfl) O.gce (by decide)))
      (pss_one (ps_ret (pe_and (pe_callB call_isX (by rfl) O.k.isin bi (pa_cons (pv 14) (pa_cons (pe_bltn (by rfl) O.ve bv (v := .ty "ValueError") rfl) pa_nil)))
        (pe_one (pe_cmpR op_notIn_seq pe_bl (pe_call Gk (hr.mono (by decide)) (by rfl) (O.g 9 (by decide)) Fk.kp bk .nil pass0 (pa_cons (pv 14) pa_nil)) (by rfl)))))))))))))), ?_⟩
    obtain ⟨a, ns, rfl, hS, hl, hT, k⟩ := h
    refine ⟨_, rfl, a, ns, rfl, hS, fun p l H1 S1 np nl e1 => ?_⟩
    intro q vs H2 hdata hlen nq hq S2
    have T1 : Tabs (tbls K) H1 := E0.Tabs.keep hT e1
    have T2 : Tabs (tbls K) H2 := E0.Tabs.keep T1 S2
    obtain ⟨⟨_, hp1⟩, _, hl1⟩ := S1.at
    refine ⟨2, rfl, by decide, by decide, for_range (n := 2) (fun i σ H' => ∃ v3 v4 v5 v6 v7 v8 v9 v10 v11 v12 : Option V, σ = [some (.ref a), some (.ref p), some (.ref q), v3, v4, v5, v6, v7, v8, v9, v10, v11, v12, none, none] ∧ DrawnAt H1 H2 H' p l q (15 * (i : Int)) vs ∧ Tabs (tbls K) H')
      ⟨none, none, none, none, none, none, none, none, none, none, rfl, ⟨by simpa using S1.ext (.of S2), hq, fun b o e _ => (Nw.old e).2, hdata, ⟨_, hp1⟩, ⟨_, hl1⟩, nq⟩, T2⟩ ?_ ?_⟩
    · rintro i σ H' hi ⟨v3, v4, v5, v6, v7, v8, v9, v10, v11, v12, rfl, D0, T0⟩
      refine ⟨_, rfl, _, rfl, p, l, q, 15 * (i : Int), vs, rfl, D0.st, by omega, by omega, SqL.of D0.at_, by omega, fun q' ys H3 hperm S3 nq' hq' B3 => ?_⟩
      obtain ⟨x, y, z, rest, rfl⟩ := three ys (by rw [hperm.length_eq, hlen])
      refine ⟨3, rfl, q', _, rfl, SqL.of hq', fun r nr => ?_⟩
      refine ⟨r, [x, y, z], rfl, SqL.of (by rw [upd_same, cut3]), rfl, x, _, rfl, y, _, rfl, z, _, rfl, rfl, ?_⟩
      obtain ⟨⟨_, hp0⟩, _, hl0⟩ := D0.st.at
      have T3 : Tabs (tbls K) H3 := E0.Tabs.but2 T0 B3 hp0 hl0
      have S4 := new_same (o := .lst (cutV (x :: y :: z :: rest) none (some 3))) nr
      have D4 := (D0.but2 B3 S3).ext (.of S4)
      have T4 : Tabs (tbls K) _ := E0.Tabs.keep T3 S4
      refine made3 (i := 4) (j := 5) (m := 6) (x := x) (y := y) (z := z) rfl rfl rfl T4 fun m ts H5 n5 E5 h5 X5 T5 => ?_
      have D5 := D4.ext X5
      have TW : TwoOk H5 x y := (TwoOk.draw (D0.data x (hperm.subset (by simp))) (D0.data y (hperm.subset (by simp)))).mono D5.new
      refine ⟨_, rfl, m, ts, rfl, SqL.of h5, for_en (fun j σ H' => ∃ v8 v9 v10 v11 v12 : Option V, σ = [some (.ref a), some (.ref p), some (.ref q), some (.int (0 + (i : Int))), some x, some y, some z, some (.ref m), v8, v9, v10, v11, v12, none, none] ∧ Same H5 H')
        ⟨_, _, _, _, _, rfl, Same.refl _⟩ (fun j σ H' _ ⟨_, _, _, _, _, _, S⟩ => SqL.of (S _ _ h5)) ?_ ?_⟩
      · rintro j tv σ H6 TT ht ⟨v8, v9, v10, v11, v12, rfl, S6⟩ nT
        have hj : j < 46 := by
          have := (List.getElem?_eq_some_iff.mp ht).1
          omega
        obtain ⟨t, rfl, EN⟩ := E5 j tv ht
        rw [Nat.zero_add] at EN
        have S6' := S6.trans (new_same (o := .tup [.int (j : Nat), .ref t]) nT)
        obtain ⟨e1, e2, f, pp, ht4, x1, x2, L, hpp⟩ := EN.ext (.of S6')
        refine ⟨TT, _, rfl, SqT.of upd_same, rfl, _, _, rfl, _, _, rfl, ⟨t, _, rfl, SqT.of ht4, rfl, _, _, rfl, _, _, rfl, _, _, rfl, _, _, rfl, rfl, rfl, ?_⟩⟩
        refine ⟨e1, e2, j, rfl, rfl, rfl, hj, x1.err, x2.err, fun H7 S7 => ⟨e1, e2, f, pp, x, y, j, rfl, rfl, rfl, rfl, x1.ext (.of S7), x2.ext (.of S7), L.ext (.of S7), S7 _ _ hpp, TW.mono (.of (S6'.trans S7)), fun H8 S8 => ?_⟩⟩
        exact ⟨_, _, _, _, _, rfl, (S6'.trans S7).trans S8⟩
      · rintro σ H6 ⟨v8, v9, v10, v11, v12, rfl, S6⟩
        refine ⟨_, _, _, _, _, _, _, _, _, _, rfl, ?_, E0.Tabs.keep T5 S6⟩
        have e : 15 * ((i + 1 : Nat) : Int) = 15 * (i : Int) + (vs.length : Int) := by omega
        rw [e]
        exact D5.ext (.of S6)
    · rintro σ H' ⟨v3, v4, v5, v6, v7, v8, v9, v10, v11, v12, rfl, D0, T0⟩
      refine ⟨by show 1 ≤ sizeLine; decide, fun h nh => ?_⟩
      have S1' := new_same (o := .lst [.str "v"]) nh
      refine made3 (i := 13) (j := 13) (m := 13) (x := .ref h) (y := .ref h) (z := .ref h) rfl rfl rfl (E0.Tabs.keep T0 S1') fun m ts H5 n5 E5 h5 X5 T5 => ?_
      have hh : H5 h = some (.lst [.str "v"]) := X5 _ _ upd_same (fun _ z => by cases z)
      have hmh : m ≠ h := ne_of h5 hh (fun z => by
        injection z with z
        rw [z] at n5
        cases n5)
      refine ⟨_, rfl, .inl ⟨rfl, _, SqL.of hh⟩, h, _, _, rfl, rfl, hh, by show 1 < sizeLine; decide, ?_⟩
      have h6 : (upd H5 h (.lst ([.str "v"] ++ [.str "w"]))) m = some (.lst ts) := by rw [upd_ne hmh]; exact h5
      have hh6 : (upd H5 h (.lst ([.str "v"] ++ [.str "w"]))) h = some (.lst [.str "v", .str "w"]) := upd_same
      have E6 : ∀ j v, ts[j]? = some v → ∃ t, v = .ref t ∧ EntN P w K mg base (upd H5 h (.lst ([.str "v"] ++ [.str "w"]))) (.ref h) (.ref h) j t := fun j v hj => by
        obtain ⟨t, e, EN⟩ := E5 j v hj
        rw [Nat.zero_add] at EN
        refine ⟨t, e, EN.put hh ?_⟩
        unfold valsI
        rcases (flds j).length with _ | _ | n
        · intro z; cases z
        · intro z; cases z
        · intro z; cases z
      generalize upd H5 h (.lst ([.str "v"] ++ [.str "w"])) = H6 at *
      refine ⟨_, rfl, m, rfl, ⟨_, SqL.of h6⟩, for_list (xs := ts) (fun j σ H' => ∃ v9 v10 v11 v12 : Option V, σ = [some (.ref a), some (.ref p), some (.ref q), v3, v4, v5, v6, some (.ref m), v8, v9, v10, v11, v12, some (.ref h), none] ∧ Same H6 H')
        ⟨_, _, _, _, rfl, Same.refl _⟩ (fun j σ H' _ ⟨_, _, _, _, _, S⟩ => SqL.of (S _ _ h6)) ?_ ?_⟩
      · rintro j tv σ H7 ht ⟨v9, v10, v11, v12, rfl, S7⟩
        obtain ⟨t, rfl, EN⟩ := E6 j tv ht
        obtain ⟨e1, e2, f, pp, ht4, x1, x2, L, hpp⟩ := EN.ext (.of S7)
        refine ⟨t, _, rfl, SqT.of ht4, rfl, _, _, rfl, _, _, rfl, _, _, rfl, _, _, rfl, rfl, ?_⟩
        refine ⟨e1, e2, f, pp, .ref h, .ref h, j, rfl, rfl, rfl, rfl, x1, x2, L, hpp, TwoOk.held (S7 _ _ hh6), fun H8 S8 => ?_⟩
        exact ⟨_, _, _, _, rfl, S7.trans S8⟩
      · rintro σ H7 ⟨v9, v10, v11, v12, rfl, S7⟩
        intro e ne
        have he : Err (upd H7 e (exo e (ceA K) none)) e (ceA K) := .inl upd_same
        refine ⟨_, rfl, e, ceA K, _, _, true, rfl, A.ce.ec, he, fun u r => r, (kit_ty A.ce rfl "ValueError" (by decide +kernel)).trans (by decide), true, rfl, iteT ?_⟩
        refine ⟨_, rfl, e, 46, rfl, by decide, he, fun l1 H9 n9 h9 S9 => ⟨l1, _, rfl, .inl (SqL.of h9), rfl, by decide, ?_⟩⟩
        have ef : (if true = true then !inV (.bl true) (kindsL 46 0 46) else inV (.bl true) (kindsL 46 0 46)) = true := by decide
        rw [ef]
        exact k _
end
end E0
set_option Elab.async false
set_option linter.all false
set_option maxRecDepth 100000
set_option maxHeartbeats 4000000
/-! The end of a law whose def wants that nothing is being shown around it. -/
namespace E0
open PySem PySem.Spec PyProof.Rows L2 LamX
/-- what is tracked as the law is called: the script, if the written part lacks it; the tables of code objects -/
def H00 (K : PySem.W.Frag) (ts : List Addr) (a : Addr) (o : Obj) (xs : List V) : Hp := fun b =>
  if b = a ∧ K.lookup a = none then some (.frz o (.lst xs)) else if b ∈ ts then some (.tbl #[]) else none
section
variable {K : PySem.W.Frag} {ts : List Addr} {a : Addr} {o : Obj} {xs : List V}
theorem H00.tab {t : Addr} (h : t ∈ ts) (n : t ≠ a) : H00 K ts a o xs t = some (.tbl #[]) := by
  unfold H00
  rw [if_neg (fun z => n z.1), if_pos h]
theorem H00.scr (h : K.lookup a = none) : H00 K ts a o xs a = some (.frz o (.lst xs)) := by
  unfold H00
  rw [if_pos ⟨rfl, h⟩]
theorem H00.inv {b : Addr} {u : HO} (h : H00 K ts a o xs b = some u) : (b = a ∧ K.lookup a = none ∧ u = .frz o (.lst xs)) ∨ (b ∈ ts ∧ u = .tbl #[]) := by
  unfold H00 at h
  by_cases h1 : b = a ∧ K.lookup a = none
  · rw [if_pos h1] at h
    exact .inl ⟨h1.1, h1.2, (Option.some.inj h).symm⟩
  · rw [if_neg h1] at h
    by_cases h2 : b ∈ ts
    · rw [if_pos h2] at h
      exact .inr ⟨h2, (Option.some.inj h).symm⟩
    · rw [if_neg h2] at h
      cases h
end
abbrev tab0 : Obj := { cls := .none, data := .fields #[] }
abbrev scr0 (vs : List Value) : Obj := { cls := .type "list", data := .seq vs.toArray }
/-- the base: what is not tracked -/
theorem H00.none {K : PySem.W.Frag} {ts : List Addr} {a : Addr} {vs : List Value} {xs : List V} {h : Heap} (ha : h.get? a = some (scr0 vs)) (hT : ∀ t ∈ ts, h.get? t = some tab0) {b : Addr} {u : Obj} (e : h.get? b = some u) (n1 : u ≠ scr0 vs) (n2 : u ≠ tab0) : H00 K ts a (scr0 vs) xs b = none := by
  cases q : H00 K ts a (scr0 vs) xs b with
  | none => rfl
  | some z =>
    rcases H00.inv q with ⟨rfl, _, _⟩ | ⟨m, _⟩
    · rw [ha] at e
      exact absurd (Option.some.inj e).symm n1
    · rw [hT b m] at e
      exact absurd (Option.some.inj e).symm n2
theorem law_callG {P : Program} {w : World} {K : PySem.W.Frag} {mg mb : Str → Option Value} {k : Nat} {fa a : Addr} {cs : List (Addr × Addr)} {fd : FuncData} {x : Str} {sp : Sp} {s1 : Shared} {vs : List Value} {ns : List Int}
    (inK : K.In s1.heap) (hG : s1.heap.Ns mainGlobals mg) (hB : s1.heap.Ns builtinsNs mb) (hBB : ∀ x : Str, x ≠ "__name__" → mb x = bootBuiltins x) (hL : s1.heap.NoLimit) (gens : s1.gens = #[])
    (tabs : ∀ p ∈ cs, s1.heap.get? p.2 = some tab0) (outK : ∀ p ∈ cs, K.lookup p.2 = none) (codes : ∀ p ∈ cs, PySem.W.CodeHd s1.heap p.1 p.2)
    (bmod : ∃ (bm : Addr) (ob : Obj), mg "__builtins__" = some (.ref bm) ∧ bm ≠ builtinsNs ∧ s1.heap.get? bm = some ob ∧ ob.cls = .type "module" ∧ ob.dict = some builtinsNs ∧ ob.data = .plain)
    (scr : s1.heap.get? a = some (scr0 vs)) (isInts : IntsAre vs ns) (size : ns.length ≤ sizeLine) (room : Room k callerA)
    (G : ∀ base : Heap, K.In base → base.Ns mainGlobals mg → (∀ p ∈ cs, TabB base mg p.1 p.2) → FnOkG P w K mg base k fa fd [x] sp) (bind : ∀ (s : Shared) (u : Value), BindsTo s fd ⟨[u], []⟩ [(x, u)])
    (hsp : ∀ H : Hp, (∀ p ∈ cs, H p.2 = some (.tbl #[])) → SqL K H a (ns.map V.int) → sp [.ref a] H (fun v _ => v = .bl true) fun _ _ _ => False) :
    codeAny (model P w) callerA (.call (.ref fa) ⟨[.ref a], []⟩) (fun r s' => r = .ok (.ret (.bool true)) ∧ OldK s1.heap s'.heap ∧ s'.os = s1.os ∧ AllBare s'.gens) s1 := by
  have rel := vals_ints isInts
  have lv := isInts.length
  let ts := cs.map Prod.snd
  let H : Hp := H00 K ts a (scr0 vs) (ns.map V.int)
  have tabs' : ∀ t ∈ ts, s1.heap.get? t = some tab0 := fun t ht => by
    obtain ⟨p, hp, rfl⟩ := List.mem_map.mp ht
    exact tabs p hp
  have inTs : ∀ p ∈ cs, p.2 ∈ ts := fun p hp => List.mem_map.mpr ⟨p, hp, rfl⟩
  have tNa : ∀ t ∈ ts, t ≠ a := fun t ht z => by
    have e := tabs' t ht
    rw [z, scr] at e
    cases e
  have hTab : ∀ p ∈ cs, H p.2 = some (.tbl #[]) := fun p hp => H00.tab (inTs p hp) (tNa _ (inTs p hp))
  have hScr : SqL K H a (ns.map V.int) := by
    cases q : K.lookup a with
    | none => exact .inl (.inr ⟨_, H00.scr q⟩)
    | some o =>
      have e := inK a o q
      rw [scr] at e
      cases e
      exact .inr ⟨_, vs.toArray, _, q, rfl, rfl, rfl, by rw [List.size_toArray, lv]; exact size, by simpa using rel⟩
  have hok : HOk P w H s1.heap := fun b u e => by
    rcases H00.inv e with ⟨rfl, _, rfl⟩ | ⟨m, rfl⟩
    · exact ⟨scr, by rw [List.length_map]; exact size, vs, _, rel, scr⟩
    · exact tabs' b m
  -- what is not tracked
  have off : ∀ {b : Addr} {u : Obj}, s1.heap.get? b = some u → (∀ z n, u.data ≠ .seq z n) → u.data ≠ .fields #[] → H b = none := fun {b u} e n1 n2 =>
    H00.none scr tabs' e (fun z => n1 _ _ (congrArg Obj.data z)) (fun z => n2 (congrArg Obj.data z))
  have low : ∀ {b : Addr} {u : Obj}, s1.heap.get? b = some u → (∀ z n, u.data ≠ .seq z n) → u.data ≠ .fields #[] → (hidT s1.heap H).get? b = some u := fun e n1 n2 => hidT_get e (off e n1 n2)
  have lowNs : ∀ {b : Addr} {m : Str → Option Value}, s1.heap.Ns b m → (hidT s1.heap H).Ns b m := fun {b m} q => by
    obtain ⟨o, es, n, e, d, r⟩ := q
    exact ⟨o, es, n, low e (fun z k y => by rw [d] at y; cases y) (fun y => by rw [d] at y; cases y), d, r⟩
  have lowK : K.In (hidT s1.heap H) := fun b u e => by
    refine hidT_get (inK b u e) ?_
    cases q : H b with
    | none => rfl
    | some z =>
      rcases H00.inv q with ⟨rfl, y, _⟩ | ⟨m, _⟩
      · rw [y] at e
        cases e
      · obtain ⟨p, hp, ep⟩ := List.mem_map.mp m
        have y := outK p hp
        rw [ep, e] at y
        cases y
  have hTB : ∀ p ∈ cs, TabB (hidT s1.heap H) mg p.1 p.2 := fun p hp => by
    have tp := tabs p hp
    have nG : mainGlobals ≠ p.2 := fun z => by
      obtain ⟨o, es, n, e, d, _⟩ := hG
      rw [z, tp] at e
      cases e
      cases d
    refine ⟨?_, ?_, nG⟩
    · obtain ⟨o, us, c1, c2, c3, c4, c5, c6, c7, e, y1, y2, y3, y⟩ := codes p hp
      refine ⟨o, us, c1, c2, c3, c4, c5, c6, c7, low e (fun z k q => by rw [y2] at q; cases q) (fun q => ?_), y1, y2, y3, y⟩
      rw [y2] at q
      injection q with q
      rw [q] at y3
      simp at y3
    · obtain ⟨bm, ob, q1, q2, q3, q4, q5, q6⟩ := bmod
      have f1 : bm ≠ mainGlobals := fun z => by
        obtain ⟨o, es, n, e, d, _⟩ := hG
        rw [z, e] at q3
        cases q3
        rw [d] at q6
        cases q6
      have f2 : bm ≠ p.2 := fun z => by
        rw [z, tp] at q3
        cases q3
        cases q6
      exact ⟨bm, ob, q1, q2, f1, f2, low q3 (fun z k q => by rw [q6] at q; cases q) (fun q => by rw [q6] at q; cases q), q4, q5, q6⟩
  have lim : (hidT s1.heap H).NoLimit := by
    obtain ⟨mc, l1, l2⟩ := hL
    exact ⟨mc, lowNs l1, l2⟩
  have e0 : Env0 P w K mg (hidT s1.heap H) callerA [] s1 H := ⟨rfl, ⟨lowK, lowNs hG, ⟨mb, lowNs hB, hBB⟩, lim⟩, fun b o e => of_hidT e, Nat.le_of_eq (hidT_size _ _), trivial, fun b hb => (nomatch (show b ∈ ([] : List Addr) from hb)), hok, .of_eq gens⟩
  refine codeAny_mono ((G _ lowK (lowNs hG) hTB).go callerA [] s1 H ⟨[.ref a], []⟩ [.ref a] [.ref a] _ _ rfl room e0 (bind s1 (.ref a)) (.cons rfl .nil) (hsp H hTab hScr)) fun r s' q => ?_
  match r, q with
  | .ok (.ret u), q =>
    obtain ⟨v, H', os, bare, un, hok', ru, qv⟩ := q
    have qv : v = .bl true := qv
    subst qv
    have eu : u = Value.bool true := ru
    subst eu
    have tab' : ∀ t ∈ ts, ∃ more : Array Value, s'.heap.get? t = some { cls := .none, data := .fields more } := fun t ht => by
      obtain ⟨more, z⟩ := un.tbls t #[] (H00.tab ht (tNa t ht))
      exact ⟨_, hok' t _ z⟩
    have stay : ∀ b o, b ∉ ts → s1.heap.get? b = some o → s'.heap.get? b = some o := fun b o nb e => by
      cases y : H b with
      | none => exact un.keep b o e y (fun z => (nomatch (show b ∈ ([] : List Addr) from z))) (by simp)
      | some z =>
        rcases H00.inv y with ⟨rfl, _, rfl⟩ | ⟨m, _⟩
        · have y2 := (hok' b _ (un.frzs b _ _ y)).1
          rw [scr] at e
          cases e
          exact y2
        · exact absurd m nb
    refine ⟨rfl, ⟨fun b o e => ?_, fun b o e => ?_⟩, os, bare⟩
    · by_cases m : b ∈ ts
      · obtain ⟨p, hp, rfl⟩ := List.mem_map.mp m
        obtain ⟨more, y⟩ := tab' _ m
        rw [tabs p hp] at e
        cases e
        exact .inr (.inl ⟨((codes p hp).tab (tabs p hp)).isCodeTable, rfl, #[], more, rfl, by rw [Array.empty_append]; exact y⟩)
      · exact .inl (stay b o m e)
    · by_cases m : b ∈ ts
      · obtain ⟨more, y⟩ := tab' _ m
        exact ⟨_, y⟩
      · exact ⟨o, stay b o m e⟩
  | .ok .next, q => exact False.elim q
  | .ok .brk, q => exact False.elim q
  | .ok .cont, q => exact False.elim q
  | .error e, q => exact False.elim q
end E0
set_option Elab.async false
set_option linter.all false
set_option maxRecDepth 100000
set_option maxHeartbeats 4000000
namespace E0
open PySem PySem.Spec PyProof.Rows L2 LamX
theorem getD_in {α : Type} {l : List α} {i : Nat} {d : α} (h : i < l.length) : l.getD i d ∈ l := by
  rw [List.getD_eq_getElem?_getD, List.getElem?_eq_getElem h]
  exact List.getElem_mem _
theorem txtW_of {K : PySem.W.Frag} {h : Heap} {mg : Str → Option Value} (X : K.In h) (G : h.Ns mainGlobals mg) (Y : SaysY h K) : TxtW K mg := by
  have A := allF_of Y.more
  have gn : ∀ i, i < 46 → mg (nm i) = some (.ref (cA K i)) := fun i hi => He.glo_ok X G (Y.d.facts (List.mem_append_right _ (List.mem_append_left _ (List.mem_map_of_mem (getD_in (by exact hi))))))
  have gl : ∀ j, j < 13 → mg (lawNames.getD j "") = some (.ref (He.ga K (lawNames.getD j ""))) := fun j hj => He.glo_ok X G (Y.d.facts (List.mem_append_left _ (List.mem_map_of_mem (getD_in (by exact hj)))))
  have fr : ∀ (i : Nat) (x : Str), fa[i]? = some (.free x) → mg x = none := fun i x e => He.free_ok X G (Y.d.fact i e)
  exact ⟨⟨⟨⟨Y.d, A, Y.nd, gn⟩, fr 64 "isinstance" rfl⟩, fr 63 "range" rfl, fr 62 "len" rfl, fr 65 "repr" rfl, fr 67 "ValueError" rfl, fr 68 "LookupError" rfl, He.glo_ok X G (Y.d.fact 59 (f := .glo "CrossError") rfl), gl⟩,
    fr 60 "int" rfl, fr 61 "list" rfl, fr 66 "enumerate" rfl⟩
/-- the law's call, from the head -/
theorem walk_law {q : Program} {loose : List Str} {XP : (Str → Option Value) → Heap → Prop} {d : DefRec} (hdf : d.params.defaults = []) (hnm : d.name = ("law" : Str)) :
    PySem.W.WalkO q loose XP hookY.says (PySem.Challenge.rw_mustcross_k00_errors_made).row.toRowW d [] (fun f vs => PySem.call f vs) := by
  refine Att.attach_callB (n := 63) rfl hdf fun w s0 s1 mg mb fa o pm cd doc a vs ns G Y ho hd hcd hmg hobj hints hlen hbits hg => ?_
  obtain ⟨K, KX, Y⟩ := Y
  rw [hnm] at hmg
  have Z := txtW_of KX G.T.g Y
  have ef : fa = He.ga K "law" := by
    have e := hmg.symm.trans (Z.o.g 12 (by decide))
    cases e
    rfl
  subst ef
  let cs : List (Addr × Addr) := tf.map (He.cT K)
  have onTf : ∀ {φ : Addr × Addr → Prop}, (∀ p ∈ tf, φ (He.cT K p)) → ∀ p ∈ cs, φ p := fun {φ} h p hp => by
    obtain ⟨t, ht, rfl⟩ := List.mem_map.mp hp
    exact h t ht
  obtain ⟨fd, F0⟩ := Y.d.defs (d := lawD 12) (law_fn (by decide))
  have F : FunD K "law" "law" (defArgs sLaw) (defBody sLaw) (defScope sLaw) [] [] (He.ga K "law") fd := F0
  refine law_callG (cs := cs) (fd := fd) (x := "_law_script") (sp := spLaw K) (k := 4) KX G.T.g G.T.b G.T.builtins G.T.nolimit hg (onTf Y.empty) (onTf Y.out) (onTf fun p hp => PySem.W.codeHd_of_K KX (Y.hd p hp)) G.T.bmain hobj hints (Nat.le_trans hlen (by decide)) ⟨rfl, by decide, by decide⟩ ?_ ?_ ?_
  · intro base hb hB hT
    have tb : ∀ p ∈ tf, TabB base mg (He.cT K p).1 (He.cT K p).2 := fun p hp => hT _ (List.mem_map.mpr ⟨p, hp, rfl⟩)
    obtain ⟨fd2, F2, G2⟩ := ok_law (P := (PySem.Challenge.rw_mustcross_k00_errors_made).prog) (w := w) (base := base) Z (tb ("_law_made_a", none) (by simp [tf])) (tb ("_law_made_b", none) (by simp [tf])) (tb ("_law_made_c", none) (by simp [tf]))
    have e : fd2 = fd := by
      obtain ⟨oc, od, dV, kV, doc, pm, an, cdv, ct, osl, e1, lk1, _⟩ := F.ex
      obtain ⟨oc2, od2, dV2, kV2, doc2, pm2, an2, cdv2, ct2, osl2, e2, lk2, _⟩ := F2.ex
      have z := lk1.symm.trans lk2
      injection z with z
      injection z with _ _ z _
      injection z with z
      exact z.symm
    rw [← e]
    exact G2
  · exact fun s v => FunD.bindsA (ps := ["_law_script"]) F (fun _ _ _ _ _ _ us hl => match us, hl with | [_], _ => rfl) s [v] rfl
  · intro H hH hS
    refine ⟨a, ns, rfl, hS, by omega, fun p hp => ?_, fun _ => rfl⟩
    have one : ∀ t ∈ tf, H (He.cT K t).2 = some (.tbl #[]) := fun t ht => hH _ (List.mem_map.mpr ⟨t, ht, rfl⟩)
    have tabN : ∀ (t : Addr) (q : Str), H t = some (.tbl #[]) → TabS H t q := fun t q e => ⟨#[], e, by simp [TriplesOk], fun pos cv z => by simp [codeAmong] at z⟩
    simp only [tbls, List.mem_cons, List.not_mem_nil, or_false] at hp
    rcases hp with rfl | rfl | rfl
    · exact tabN _ _ (one ("_law_made_a", none) (by simp [tf]))
    · exact tabN _ _ (one ("_law_made_b", none) (by simp [tf]))
    · exact tabN _ _ (one ("_law_made_c", none) (by simp [tf]))
end E0
open PySem PySem.W PySem.Calls PyProof.Rows
theorem PySem.Challenge.cw_mustcross_k00_errors_made_holds : PySem.Challenge.rw_mustcross_k00_errors_made.Holds := by
  w_on; o_law
  refine HandSHeadRun.head_any (r := OpenLaw.row PySem.Challenge.rw_mustcross_k00_errors_made) (q := view (OpenLaw.row PySem.Challenge.rw_mustcross_k00_errors_made).prog [61]) (H := E0.hookY) (ob := E0.ob) (M := 20000) (loose := E0.loose)
    (d := HandSHeadRun.topDef (OpenLaw.row PySem.Challenge.rw_mustcross_k00_errors_made).prog 61) (kwd := []) E0.ob_eq
    (by kernel_rfl) (fun s => by kernel_rfl) E0.run (by kernel_rfl) (by kernel_rfl) (by kernel_rfl) (by rfl) (by first | assumption | decide +kernel) (by decide +kernel) ⟨rfl, rfl, rfl, rfl, rfl, by decide +kernel⟩ ?hw ?hc
  case hw => w_witness2
  case hc => exact E0.walk_law (by kernel_rfl) (by kernel_rfl)
