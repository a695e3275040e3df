import PyProof.Rows.All
import Wide.All
import OpenK.AllK
import Wide.FinOn
import HandS.ForExc
import HandS.ForMost
import HandS.ExcField
import HandS.ExcInit
import HandS.Head3
import HandS.HeadHook4
import HandS.Gcd
import HandS.Wide
import HandS.WideBits
import HandS.IsInst
import HandS.TupAny
import HandS.Style
import PyProof.NeData
import Flt.RightSqrt
import PyProof.ReprLen
import PyProof.Rows.IntBool
import PyProof.TwoTypesSub
import PyProof.Rows.EqBoolInt
import KE.KMathG
import HandS.Rev
import HandS.Iter
import HandS.Zip
import HandS.ExcIs
import HandS.ExcOwn
import HandS.ExcValue
import HandS.Flow
import HandS.Deep
import HandS.Lambda
import HandS.EndTab
import HandS.TryOnly
import HandS.More
import PyProof.EnumMake
import HandS.Text
import HandS.FStr
import HandS.TryMany
import HandS.Star
import HandS.StrMore
import HandS.SetFor
import HandS.SortKw
import KE.DataMinMax
import PySem.Challenge.RW_planehall_k01_errors_each_of_its_own
set_option Elab.async false
set_option linter.all false
set_option maxRecDepth 100000
set_option exponentiation.threshold 50000
set_option maxHeartbeats 4000000
namespace Hd
open PySem PySem.Spec PyProof.Rows L2 He
/-! ### what is looked at behind the top: the names' objects, the functions' code objects, the classes' names -/
def refs (o : Obj) : List Addr := match o.data with
  | .seq its _ => its.toList.flatMap refV
  | .dict es _ => es.toList.flatMap fun e => refV e.val
  | .func fd => refV fd.code
  | .cls cd => cd.ns :: cd.mro.flatMap refV
  | _ => []
def grow (g : Addr → Option Obj) (as : List Addr) : List Addr := as.flatMap fun a => match g a with
  | some o => refs o
  | none => []
def asN (g : Addr → Option Obj) : Nat → List Addr → List Addr
  | 0, as => as
  | n + 1, as => as ++ asN g n (grow g as)
def asH (g : Addr → Option Obj) : List Addr := asN g 4 [mainGlobals]
def KH (g : Addr → Option Obj) : PySem.W.Frag := frT g (asH g)
abbrev Tst : Type := PySem.W.Frag → Bool
/-- a def of the top is what its name stands for -/
def gloB (K : PySem.W.Frag) (d : FnD) : Bool := match d.at_.2 with
  | none => eqO (PySem.W.nsIn K mainGlobals d.at_.1) (some (some (.ref (ga K d.at_.1))))
  | some _ => true
def fnB (K : PySem.W.Frag) (d : FnD) : Bool := (Fa.code d.at_ d.qual).ok K && gloB K d
abbrev AlH : Type := Bool × List FnV
def obsK (ts : List Tst) (fn : List FnD) (K : PySem.W.Frag) : AlH := ((ts.all fun t => t K) && fn.all fun d => fnB K d, fn.map fun d => fnObs K d.at_)
def tabsB (g : Addr → Option Obj) (tf : List Defn) (K : PySem.W.Frag) : Bool := tf.all fun p => PySem.W.codeHdIn K (cT K p).1 (cT K p).2 && (match g (cT K p).2 with
  | some o => emptyTab o
  | none => false)
def obsH (ts : List Tst) (fn : List FnD) (tf : List Defn) (g : Addr → Option Obj) : AlH × Bool := (obsK ts fn (KH g), tabsB g tf (KH g))
def valH (fn : List FnD) : AlH × Bool := ((true, fn.map FnD.val), true)
structure Says (ts : List Tst) (fn : List FnD) (tf : List Defn) (h : Heap) (K : PySem.W.Frag) : Prop where
  t : ∀ t ∈ ts, t K = true
  b : ∀ d ∈ fn, fnB K d = true
  f : fn.map (fun d => fnObs K d.at_) = fn.map FnD.val
  hd : ∀ p ∈ tf, PySem.W.codeHdIn K (cT K p).1 (cT K p).2 = true
  out : ∀ p ∈ tf, K.lookup (cT K p).2 = none
  empty : ∀ p ∈ tf, h.get? (cT K p).2 = some { cls := .none, data := .fields #[] }
theorem says_of {ts : List Tst} {fn : List FnD} {tf : List Defn} {h : Heap} (e : obsH ts fn tf h.get? = valH fn) : Says ts fn tf h (KH h.get?) := by
  have e1 : obsK ts fn (KH h.get?) = (true, fn.map FnD.val) := congrArg (fun z : AlH × Bool => z.1) e
  have e2 : tabsB h.get? tf (KH h.get?) = true := congrArg (fun z : AlH × Bool => z.2) e
  have e3 : ((ts.all fun t => t (KH h.get?)) && fn.all fun d => fnB (KH h.get?) d) = true := congrArg (fun z : AlH => z.1) e1
  have e4 : fn.map (fun d => fnObs (KH h.get?) d.at_) = fn.map FnD.val := congrArg (fun z : AlH => z.2) e1
  obtain ⟨h1, h2⟩ := ba e3
  have key : ∀ p ∈ tf, PySem.W.codeHdIn (KH h.get?) (cT (KH h.get?) p).1 (cT (KH h.get?) p).2 = true ∧ ∃ o, h.get? (cT (KH h.get?) p).2 = some o ∧ emptyTab o = true := fun p hp => by
    obtain ⟨h3, h4⟩ := ba (List.all_eq_true.mp e2 p hp)
    refine ⟨h3, ?_⟩
    cases q : h.get? (cT (KH h.get?) p).2 with
    | none =>
      rw [q] at h4
      cases h4
    | some o =>
      rw [q] at h4
      exact ⟨o, rfl, h4⟩
  exact ⟨fun t ht => List.all_eq_true.mp h1 t ht, fun d hd => List.all_eq_true.mp h2 d hd, e4, fun p hp => (key p hp).1, fun p hp => by
    obtain ⟨_, o, q, z⟩ := key p hp
    exact frT_none q z, fun p hp => by
    obtain ⟨_, o, q, z⟩ := key p hp
    rw [q, emptyTab_eq z]⟩
def hook (ts : List Tst) (fn : List FnD) (tf : List Defn) : PySem.W.Hook where
  α := AlH × Bool
  obs := fun s => obsH ts fn tf s.heap.get?
  val := fun _ => valH fn
  says := fun _ h => ∃ K : PySem.W.Frag, K.In h ∧ Says ts fn tf h K
  of := fun _ _ e => ⟨_, frT_in, says_of e⟩
  keeps := fun _ _ _ ⟨K, hK, c⟩ k => ⟨K, PySem.W.Frag.In.keeps hK k, ⟨c.t, c.b, c.f, c.hd, c.out, fun p hp => k _ _ (c.empty p hp)⟩⟩
theorem obs_eq {ts : List Tst} {fn : List FnD} {tf : List Defn} (s : PySem.W.SharedT) : obsH ts fn tf (HandSHeadRun.getT s) = (hook ts fn tf).obs s.abs := by
  have e : HandSHeadRun.getT s = s.abs.heap.get? := funext (HandSHeadRun.getT_eq s)
  rw [e] <;> rfl
section
variable {ts : List Tst} {fn : List FnD} {tf : List Defn} {h : Heap} {K : PySem.W.Frag} {mg : Str → Option Value}
theorem Says.at (c : Says ts fn tf h K) (i : Nat) {t : Tst} (e : ts[i]? = some t) : t K = true := c.t t (List.mem_of_getElem? e)
theorem Says.fnAt (c : Says ts fn tf h K) (i : Nat) {d : FnD} (e : fn[i]? = some d) : fnObs K d.at_ = d.val ∧ fnB K d = true := by
  have e2 : (fn.map fun d => fnObs K d.at_)[i]? = (fn.map FnD.val)[i]? := by rw [c.f]
  rw [List.getElem?_map, List.getElem?_map, e] at e2
  exact ⟨Option.some.inj e2, c.b d (List.mem_of_getElem? e)⟩
theorem keep_of {K : PySem.W.Frag} {f : Addr} {oc : Value} {od : Option Addr} {fd : FuncData} {sl : Array (Option Value)} (l : K.lookup f = some ⟨oc, od, .func fd, sl⟩) : PySem.W.keepIn K (.ref f) = true := by
  show (match K.lookup f with
    | some ⟨_, _, .func _, _⟩ => true
    | some ⟨_, _, .cls _, _⟩ => PySem.W.specialIn K (.ref f) "__call__" == some (some (.builtin "type.__call__"))
    | _ => false) = true
  rw [l]
/-- the datum of a def of the top, of a method -/
abbrev dOf (x : Str) (st : Stmt) : FnD := ⟨(x, none), x, x, defArgs st, defBody st, defScope st⟩
abbrev dIn (C : Str) (st : Stmt) : FnD := ⟨(C, some "__init__"), "__init__", C ++ ".__init__", defArgs st, defBody st, defScope st⟩
def freeB (x : Str) : Tst := fun K => eqO (PySem.W.nsIn K mainGlobals x) (some none)
def biB (x : Str) (s : String) : Tst := fun K => eqO (PySem.W.nsIn K mainGlobals x) (some (some (.builtin s)))
def intB (x : Str) (i : Int) : Tst := fun K => (Fa.int x i).ok K
def strB (x z : Str) : Tst := fun K => (Fa.str x z).ok K
abbrev Shp : Type := PySem.W.Frag → Value → Bool
def shV (v : V) : Shp := fun _ u => relB v u
def allB (K : PySem.W.Frag) : List Shp → List Value → Bool
  | [], [] => true
  | t :: ts, u :: us => t K u && allB K ts us
  | _, _ => false
def shT (ts : List Shp) : Shp := fun K u => match u with
  | .ref a => (match K.lookup a with
    | some ⟨.type c, _, .seq its _, _⟩ => decide (c = "tuple") && (decide (its.size ≤ sizeLine) && allB K ts its.toList)
    | _ => false)
  | _ => false
def wdB (x : Str) (t : Shp) : Tst := fun K => match PySem.W.nsIn K mainGlobals x with
  | some (some u) => t K u
  | _ => false
def clsB (K : PySem.W.Frag) (C : Addr) : Bool := match K.lookup C with
  | some ⟨.type "type", _, .cls cd, sl⟩ => (match cd.mro, sl.toList with
    | .ref C' :: bm, [_, _, _, _, some (.builtin n), _] => C' == C && n == "ValueError.__new__" && !cd.hasDel && cd.hasDict && PySem.HandSPX.refsVE bm
    | _, _ => false)
  | _ => false
def excB (x f : Str) : Tst := fun K => eqO (PySem.W.nsIn K mainGlobals x) (some (some (.ref (ga K x)))) && (clsB K (ga K x) && (eqO (PySem.W.findIn K (.ref (ga K x)) "__setattr__") (some (some (.builtin "object.__setattr__"))) && (decide (PySem.W.typeIn K (.ref (ga K x)) = some (.type "type")) &&
  (PySem.W.keepIn K (.ref (ga K x)) && (xfB K (ga K x) && (eqO (PySem.W.findIn K (.ref (ga K x)) "__init__") (some (some (.ref (ma K (ga K x) "__init__")))) && (decide (PySem.W.typeIn K (.ref (ma K (ga K x) "__init__")) = some (.type "function")) &&
  (decide (PySem.W.exmOne K (.ref (ga K x)) (.ref (ga K x)) = some true) && eqO (PySem.W.findIn K (.ref (ga K x)) f) (some none)))))))))
def exmB (x y : Str) : Tst := fun K => eqO (PySem.W.nsIn K mainGlobals x) (some (some (.ref (ga K x)))) && (eqO (PySem.W.nsIn K mainGlobals y) (some (some (.ref (ga K y)))) && decide (PySem.W.exmOne K (.ref (ga K y)) (.ref (ga K x)) = some false))
/-- an own exception class without __init__ -/
def exc0B (x : Str) : Tst := fun K => eqO (PySem.W.nsIn K mainGlobals x) (some (some (.ref (ga K x)))) && (clsB K (ga K x) && (eqO (PySem.W.findIn K (.ref (ga K x)) "__setattr__") (some (some (.builtin "object.__setattr__"))) && (decide (PySem.W.typeIn K (.ref (ga K x)) = some (.type "type")) &&
  (PySem.W.keepIn K (.ref (ga K x)) && (decide (PySem.W.subIn K (.ref (ga K x)) (.type "BaseException") = some true) && eqO (PySem.W.findIn K (.ref (ga K x)) "__init__") (some (some (.builtin "ValueError.__init__"))))))))
def isxB (K : PySem.W.Frag) (C : Addr) : Bool := eqO (PySem.W.findIn K (.ref C) "__getattribute__") (some (some (.builtin "BaseException.__getattribute__"))) && (eqO (PySem.W.findIn K (.ref C) "__getattr__") (some none) && (decide (PySem.W.subIn K (.ref C) (.type "BaseException") = some true) && (PySem.W.hasDictIn K C &&
  (eqO (PySem.W.findIn K (.ref C) "__class__") (some (some (.builtin "object.__class__"))) && (eqO (PySem.W.specialIn K (.builtin "object.__class__") "__get__") (some (some (.builtin "getset_descriptor.__get__"))) && (decide (PySem.W.takesIn K (.builtin "object.__class__") = some true) && decide (PySem.W.mroIn K C (.type "object") = some true)))))))
/-- which classes stand under which -/
def xallB (cs : List Str) (top : Str) (bt : List (String × Bool)) (fs : List (Str × Str)) : Tst := fun K =>
  (cs.all fun c => eqO (PySem.W.nsIn K mainGlobals c) (some (some (.ref (ga K c)))) && (isxB K (ga K c) && ((cs.all fun c' => decide (PySem.W.kitOne K (.ref (ga K c)) (.ref (ga K c')) = some (c == c' || c' == top))) && bt.all fun p => decide (PySem.W.kitOne K (.ref (ga K c)) (.type p.1) = some p.2)))) &&
  fs.all fun p => eqO (PySem.W.nsIn K mainGlobals p.1) (some (some (.ref (ga K p.1)))) && (xfB K (ga K p.1) && eqO (PySem.W.findIn K (.ref (ga K p.1)) p.2) (some none))
def neB (p q : Defn) : Tst := fun K => !((cT K p).2 == (cT K q).2)
end
theorem run_join {D A B O O1 : Type} {X : Option D} {f : D → A} {g : D → B} {o : D → O} {p : D → O1} {a : A} {b : B} {v : O} {v1 : O1} (h : X.map (fun x => (f x, g x, p x)) = some (a, b, v1)) (h1 : X.map o = some v) : X.map (fun x => (f x, g x, o x)) = some (a, b, v) := by
  cases X with
  | none => cases h
  | some x =>
    injection h with h
    injection h with h2 h
    injection h with h3 _
    injection h1 with h1
    show some (f x, g x, o x) = some (a, b, v)
    rw [h2, h3, h1]
end Hd

set_option maxHeartbeats 4000000
namespace My
open PySem
def topH (i : Nat) : Stmt := PySem.Challenge.pw_planehall_k01_errors_each_of_its_own.main.body.getD i (.Pass ⟨0, 0, 0, 0⟩)
def inH (i j : Nat) : Stmt := match topH i with
  | .ClassDef (body := b) .. => b.getD j (.Pass ⟨0, 0, 0, 0⟩)
  | _ => .Pass ⟨0, 0, 0, 0⟩
def fnL_0 : List He.FnD := [Hd.dOf "_wall" (topH 0), Hd.dOf "_law_well" (topH 35), Hd.dOf "_law_draw" (topH 36), Hd.dOf "_law_pick" (topH 37), Hd.dOf "_law_common" (topH 38), Hd.dOf "_law_lean" (topH 39), Hd.dOf "_law_small" (topH 40), Hd.dOf "_law_point" (topH 41), Hd.dOf "_law_odd" (topH 42), Hd.dOf "_law_bent" (topH 43), Hd.dOf "_law_spoilt" (topH 44), Hd.dOf "_law_low" (topH 45)]
def fnL_1 : List He.FnD := [Hd.dOf "_law_by_place" (topH 46), Hd.dOf "_law_low_name" (topH 47), Hd.dOf "_law_by_name" (topH 48), Hd.dOf "_law_truths" (topH 49), Hd.dOf "_law_is_made" (topH 50), Hd.dOf "_law_right" (topH 51), Hd.dOf "law" (topH 52), Hd.dIn "InvalidFraction" (inH 3 0), Hd.dIn "InvalidNumber" (inH 4 0), Hd.dIn "InvalidPoint" (inH 5 0), Hd.dIn "InvalidPlace" (inH 6 0), Hd.dIn "InvalidWay" (inH 7 0)]
def fnL_2 : List He.FnD := [Hd.dIn "InvalidCurve" (inH 8 0), Hd.dIn "InvalidLead" (inH 9 0), Hd.dIn "InvalidFigure" (inH 10 0), Hd.dIn "InvalidSketch" (inH 11 0), Hd.dIn "InvalidScene" (inH 12 0), Hd.dIn "InvalidName" (inH 13 0), Hd.dIn "UnknownName" (inH 14 0), Hd.dIn "NameTaken" (inH 15 0), Hd.dIn "InUse" (inH 16 0), Hd.dIn "ComesRound" (inH 17 0), Hd.dIn "TooDeep" (inH 18 0), Hd.dIn "TooMany" (inH 19 0)]
def fnL_3 : List He.FnD := [Hd.dIn "InvalidIndex" (inH 20 0), Hd.dIn "InvalidCount" (inH 21 0), Hd.dIn "InvalidView" (inH 22 0), Hd.dIn "InvalidPicture" (inH 23 0), Hd.dIn "InvalidCurves" (inH 24 0), Hd.dIn "InvalidRow" (inH 25 0), Hd.dIn "InvalidLines" (inH 26 0), Hd.dIn "InvalidBytes" (inH 27 0), Hd.dIn "BadText" (inH 28 0)]
def fnL : List He.FnD := fnL_0 ++ fnL_1 ++ fnL_2 ++ fnL_3
def tsL_0 : List Hd.Tst := [Hd.freeB "len", Hd.freeB "abs", Hd.freeB "divmod", Hd.freeB "repr", Hd.freeB "int", Hd.freeB "list", Hd.freeB "tuple", Hd.freeB "max", Hd.freeB "min", Hd.freeB "all", Hd.freeB "isinstance", Hd.freeB "range"]
def tsL_1 : List Hd.Tst := [Hd.freeB "ValueError", Hd.freeB "Exception", Hd.freeB "LookupError", Hd.freeB "TypeError", Hd.freeB "ArithmeticError", Hd.freeB "RuntimeError", Hd.freeB "AttributeError", Hd.excB "InvalidFraction" "given", Hd.excB "InvalidNumber" "given", Hd.excB "InvalidPoint" "given", Hd.excB "InvalidPlace" "given", Hd.excB "InvalidWay" "given"]
def tsL_2 : List Hd.Tst := [Hd.excB "InvalidCurve" "given", Hd.excB "InvalidLead" "given", Hd.excB "InvalidFigure" "given", Hd.excB "InvalidSketch" "given", Hd.excB "InvalidScene" "given", Hd.excB "InvalidName" "given", Hd.excB "UnknownName" "given", Hd.excB "NameTaken" "given", Hd.excB "InUse" "given", Hd.excB "ComesRound" "given", Hd.excB "TooDeep" "given", Hd.excB "TooMany" "given"]
def tsL_3 : List Hd.Tst := [Hd.excB "InvalidIndex" "given", Hd.excB "InvalidCount" "given", Hd.excB "InvalidView" "given", Hd.excB "InvalidPicture" "given", Hd.excB "InvalidCurves" "index", Hd.excB "InvalidRow" "index", Hd.excB "InvalidLines" "index", Hd.excB "InvalidBytes" "index", Hd.excB "BadText" "spot", Hd.exc0B "PlaneError", Hd.exc0B "NotBounded", Hd.exc0B "NothingInside"]
def tsL_4 : List Hd.Tst := [Hd.exc0B "NotStraight", Hd.exc0B "NothingToUndo", Hd.exc0B "NothingToRedo", Hd.xallB ["PlaneError", "InvalidFraction", "InvalidNumber", "InvalidPoint", "InvalidPlace", "InvalidWay", "InvalidCurve", "InvalidLead", "InvalidFigure", "InvalidSketch", "InvalidScene", "InvalidName", "UnknownName", "NameTaken", "InUse", "ComesRound", "TooDeep", "TooMany", "InvalidIndex", "InvalidCount", "InvalidView", "InvalidPicture", "InvalidCurves", "InvalidRow", "InvalidLines", "InvalidBytes", "BadText", "NotBounded", "NothingInside", "NotStraight", "NothingToUndo", "NothingToRedo"] "PlaneError" [("ValueError", true), ("Exception", true), ("LookupError", false), ("TypeError", false), ("ArithmeticError", false), ("RuntimeError", false), ("AttributeError", false)] [("InvalidFraction", "given"), ("InvalidNumber", "given"), ("InvalidPoint", "given"), ("InvalidPlace", "given"), ("InvalidWay", "given"), ("InvalidCurve", "given"), ("InvalidLead", "given"), ("InvalidFigure", "given"), ("InvalidSketch", "given"), ("InvalidScene", "given"), ("InvalidName", "given"), ("UnknownName", "given"), ("NameTaken", "given"), ("InUse", "given"), ("ComesRound", "given"), ("TooDeep", "given"), ("TooMany", "given"), ("InvalidIndex", "given"), ("InvalidCount", "given"), ("InvalidView", "given"), ("InvalidPicture", "given"), ("InvalidCurves", "index"), ("InvalidRow", "index"), ("InvalidLines", "index"), ("InvalidBytes", "index"), ("BadText", "spot")]]
def tsL : List Hd.Tst := tsL_0 ++ tsL_1 ++ tsL_2 ++ tsL_3 ++ tsL_4
def tfL : List He.Defn := []
def names_0 : List PySem.Str := ["_wall", "__name__", "PlaneError", "InvalidFraction", "InvalidNumber", "InvalidPoint", "InvalidPlace", "InvalidWay", "InvalidCurve", "InvalidLead", "InvalidFigure", "InvalidSketch"]
def names_1 : List PySem.Str := ["InvalidScene", "InvalidName", "UnknownName", "NameTaken", "InUse", "ComesRound", "TooDeep", "TooMany", "InvalidIndex", "InvalidCount", "InvalidView", "InvalidPicture"]
def names_2 : List PySem.Str := ["InvalidCurves", "InvalidRow", "InvalidLines", "InvalidBytes", "BadText", "NotBounded", "NothingInside", "NotStraight", "NothingToUndo", "NothingToRedo", "_law_well", "_law_draw"]
def names_3 : List PySem.Str := ["_law_pick", "_law_common", "_law_lean", "_law_small", "_law_point", "_law_odd", "_law_bent", "_law_spoilt", "_law_low", "_law_by_place", "_law_low_name", "_law_by_name"]
def names_4 : List PySem.Str := ["_law_truths", "_law_is_made", "_law_right"]
def names : List PySem.Str := names_0 ++ names_1 ++ names_2 ++ names_3 ++ names_4
abbrev R : PySem.W.OpenRow := PySem.W.OpenLaw.row PySem.Challenge.rw_planehall_k01_errors_each_of_its_own
abbrev qv : Program := PySem.W.view R.prog [52]
def ob (s : PySem.W.SharedT) : Hd.AlH × Bool := Hd.obsH tsL fnL tfL (HandSHeadRun.getT s)
theorem run0 (w : World) : HandSHeadRun.RunEqI R qv (Hd.hook [] [] []) (fun s => Hd.obsH [] [] [] (HandSHeadRun.getT s)) 20000 names w := by
  show _ = _
  kernel_rfl
theorem run1 (w : World) : (HandSHeadRun.wholeF (fun p => HandSHeadRun.stepQ (HandSHeadRun.denQ HandSHeadRun.tabQ) p w) HandSHeadRun.fenceQ 20000 R.prog).map (fun x => ob x.2) = some (Hd.valH fnL) := by
  show _ = _
  kernel_rfl
theorem run (w : World) : HandSHeadRun.RunEqI R qv (Hd.hook tsL fnL tfL) ob 20000 names w := Hd.run_join (run0 w) (run1 w)
open PySem.W PySem.Calls PyProof.Rows HandSHeadRun
theorem look (h : R.wellSaid = true → R.Holds) : PySem.Challenge.rw_planehall_k01_errors_each_of_its_own.Holds := by
  w_on; o_law
  exact h (by assumption)
theorem prom : R.toRowW.promised := by w_witness2
theorem headed (said : R.wellSaid = true) (hc : WalkO qv names (XL qv []) (Hd.hook tsL fnL tfL).says R.toRowW (topDef R.prog 52) [] fun f vs => PySem.call f vs) : R.Holds :=
  head_imp (r := R) (q := qv) (H := Hd.hook tsL fnL tfL) (ob := ob) (M := 20000) (loose := names) (d := topDef R.prog 52) (kwd := []) (fun s => Hd.obs_eq s) run (by kernel_rfl) (by kernel_rfl) (by kernel_rfl) (by rfl) said (by decide +kernel) ⟨rfl, rfl, rfl, rfl, rfl, by decide +kernel⟩ prom hc
end My

namespace Lw
open PySem PySem.Spec PyProof.Rows L2

/-! ### promises of defs that may ask for a text of data: no such asking is under way -/
structure FnG (CX : CXT) (P : Program) (w : World) (K : PySem.W.Frag) (mg : Str → Option Value) (base : Heap) (k : Nat) (f : Addr) (fd : FuncData) (ps : List Str) (sp : Sp) : Prop where
  len : ∀ vs H Q E, sp vs H Q E → vs.length = ps.length
  run : ∀ (A : Around), Room k A → A.guards = some [] → ∀ (outer : List Env) (s : Shared) (H : Hp), Env0 P w K mg base A outer s H →
    ∀ (args : Args) (us : List Value) (vs : List V), BindsTo s fd args (ps.zip us) → Vals vs us → ∀ (Q : VK) (E : XK), sp vs H Q E → codeAny (model P w) A (.call (.ref f) args) (CR CX outer P w H s Q E) s
section
variable {CX : CXT} {P : Program} {w : World} {K : PySem.W.Frag} {mg : Str → Option Value} {base : Heap}
theorem FnG.of {k : Nat} {f : Addr} {fd : FuncData} {ps : List Str} {sp : Sp} (F : FnOk P w K mg base CX k f fd ps sp) : FnG CX P w K mg base k f fd ps sp :=
  ⟨F.len, fun A hr _ outer s H e0 args us vs hb r Q E h => F.run A outer s H args us vs Q E hr e0 hb r h⟩

/-- a def of the text, by its name -/
structure Dn (K : PySem.W.Frag) (mg : Str → Option Value) (x : Str) (st : Stmt) (ps : List Str) : Prop where
  ex : ∃ f fd, Fun K x x st f fd ∧ mg x = some (.ref f) ∧ Binds K fd ps []
/-- a def that may be called by its name; CX: how an exception leaves it -/
structure Cl (CX : CXT) (P : Program) (w : World) (K : PySem.W.Frag) (mg : Str → Option Value) (base : Heap) (k : Nat) (x : Str) (sp : Sp) : Prop where
  ex : ∃ f fd ps, FnG CX P w K mg base k f fd ps sp ∧ mg x = some (.ref f) ∧ PySem.W.keepIn K (.ref f) = true ∧ Binds K fd ps []
theorem Cl.imp {k : Nat} {x : Str} {sp sp' : Sp} (c : Cl CX P w K mg base k x sp) (h : ∀ vs H Q E, sp' vs H Q E → sp vs H Q E) : Cl CX P w K mg base k x sp' := by
  obtain ⟨f, fd, ps, F, a, b, d⟩ := c.ex
  exact ⟨f, fd, ps, ⟨fun vs H Q E z => F.len vs H Q E (h vs H Q E z), fun A hr hg outer s H e0 args us vs hb r Q E z => F.run A hr hg outer s H e0 args us vs hb r Q E (h _ _ _ _ z)⟩, a, b, d⟩

theorem Dn.call {x : Str} {st : Stmt} {N ps : List Str} {k : Nat} {sp : Sp} (D : Dn K mg x st ps) (S : FnScope N ps (defScope st)) (len : ∀ vs H Q E, sp vs H Q E → vs.length = ps.length)
    (hbody : ∀ (f : Addr) (cdv : Value) (A : Around) (outer : List Env) (s : Shared) (H : Hp) (vs : List V) (Q : VK) (E : XK), Room k (A.deeper (envOfC x (defScope st) s.heap.objs.size f cdv)) → A.guards = some [] → sp vs H Q E →
      ∃ t, PSs (cxOf CX P w K mg base N x (defScope st) f cdv A outer s H E) (defBody st) t ∧ t { nx := fun _ H' => Q .non H', rt := Q } (L2.start N vs) H) : Cl CX P w K mg base (k + 1) x sp := by
  obtain ⟨f, fd, F, hm, hb⟩ := D.ex
  refine ⟨f, fd, ps, ⟨len, fun A hr hg outer s H e0 args us vs bt r Q E h => ?_⟩, hm, F.kp, hb⟩
  obtain ⟨oc, od, kV, doc, pm, an, cdv, ct, osl, rfl, lk, hcd⟩ := F.ex
  have kept : ∀ b o, base.get? b = some o → s.heap.get? b = some o := fun b o q => (e0.bs b o q).1
  have inK : K.In s.heap := e0.mod.kin.keeps kept
  refine codeAny_call_function hr.depth (inK _ _ lk) rfl S.co S.gen rfl
    (PySem.W.codeRec_of inK hcd) (bt _ _ _ _ ?_)
  have slots : ∀ y ∈ ps.zip us, (defScope st).names.lookup y.1 = some .local ∨
      ((defScope st).names.lookup y.1 = some .cell ∧ ((cellsFrom (s.heap.objs.size + 1) (defScope st).names []).lookup y.1).isSome = true) := by
    rintro ⟨n, v⟩ hy
    exact (S.par n (List.of_mem_zip hy).1).imp (fun q => q) fun q => ⟨q, PySem.W.cellsFrom_some _ _ _ (.inl q)⟩
  refine wpAny_newFunctionEnv_cells S.kind slots fun env he s1 C => ?_
  cases he
  refine ⟨(e0.mod.nolimit.keeps kept).keeps C.toInCall.keep, codeAny_func ?_⟩
  obtain ⟨t, ht, hq⟩ := hbody f cdv A outer s H vs Q E (hr.deeper _) hg h
  have I0 := inv_start (CX := CX) (E := E) S hr.hd e0 (len _ _ _ _ h) r C
  refine wpAny_mono (ht.run [] s1 _ H _ I0 hq) ?_ fun _ _ z => z
  rintro (_ | _ | _ | u) s' z
  · obtain ⟨σ', H', J, q⟩ := z
    exact ⟨V.non, H', J.os, J.bare, J.base, J.hok, rfl, q⟩
  · obtain ⟨_, _, _, q⟩ := z
    exact q.elim
  · obtain ⟨_, _, _, q⟩ := z
    exact q.elim
  · obtain ⟨v, σ', H', J, rv, q⟩ := z
    exact ⟨v, H', J.os, J.bare, J.base, J.hok, rv, q⟩
theorem Dn.cal {x : Str} {st : Stmt} {N ps : List Str} {k : Nat} {sp : Sp} (D : Dn K mg x st ps) (S : FnScope N ps (defScope st)) (len : ∀ vs H Q E, sp vs H Q E → vs.length = ps.length)
    (hbody : ∀ (f : Addr) (cdv : Value) (A : Around) (outer : List Env) (s : Shared) (H : Hp) (vs : List V) (Q : VK) (E : XK), Room k (A.deeper (envOfC x (defScope st) s.heap.objs.size f cdv)) → A.guards = some [] → sp vs H Q E →
      ∃ t, PSs (cxOf CX0 P w K mg base N x (defScope st) f cdv A outer s H E).nox (defBody st) t ∧ t { nx := fun _ H' => Q .non H', rt := Q } (L2.start N vs) H) : Cl CX0 P w K mg base (k + 1) x sp :=
  D.call S len fun f cdv A outer s H vs Q E hr hg h => by
    obtain ⟨t, ht, q⟩ := hbody f cdv A outer s H vs Q E hr hg h
    exact ⟨t, ht.nox, q⟩
end
theorem _root_.L2.PE.weak {X : Cx} {e : Expr} {t t' : TE} (h : PE X e t) (i : ∀ σ H Q, t' σ H Q → t σ H Q) : PE X e t' := ⟨fun pins s σ H Q I q => h.run pins s σ H Q I (i σ H Q q)⟩
theorem _root_.L2.PA.weak {X : Cx} {es : List Expr} {t t' : TA} (h : PA X es t) (i : ∀ σ H Q, t' σ H Q → t σ H Q) : PA X es t' := ⟨fun p pins s σ H Q I q => h.run p pins s σ H Q I (i σ H Q q)⟩
section
variable {X : Cx} {CX : CXT} {x : Str} {p pos : Pos} {e : Expr} {es : List Expr} {t : TA} {sp : Sp} {j k : Nat}
/-- what a callee's error, at the slots σ, does -/
theorem pe_clE {E : L2.St → XK} (c : Cl CX X.prog X.w X.K X.mg X.base k x sp) (hr : Room j X.A) (hG : X.A.guards = some []) (hx : ∀ σ, PassesAt CX X σ (E σ)) (hg : Gl X x) (ha : PA X (e :: es) t) (hk : k ≤ j := by decide)
    (hdb : (x == ("__debug__" : Str)) = false := by decide) (he : starEach (e :: es) X.env = (false, eval e X.env) :: starEach es X.env := by rfl) (hpl : (backTo pos (starEach es X.env)).any (·.1) = false := by rfl) :
    PE X (.Call (.Name x p) (e :: es) [] pos) (fun σ H Q => t σ H fun vs H1 => sp vs H1 Q (E σ)) := by
  obtain ⟨f, fd, ps, F, hm, kp, hb⟩ := c.ex
  refine ⟨fun pins s σ H Q I h => wpAny_Call_Name_kw (ld_glob I hg hm (PySem.W.callWith_K (h₀ := X.base) I.ok.mod.kin kp (thn (ha.run pos pins s σ H _ I h) ?_) he hpl) hdb)⟩
  rintro us s1 ⟨vs, H1, I1, r, q⟩
  have hl : us.length = ps.length := r.length ▸ F.len _ _ _ _ q
  have bt := hb s1 us I1.kIn (by rw [List.append_nil]; exact hl)
  rw [List.append_nil] at bt
  refine ⟨I1.kIn, wpAny_call (codeAny_mono (F.run X.A (hr.mono hk) hG X.stack s1 H1 I1.env0 ⟨us, []⟩ us vs bt r Q (E σ) q) ?_)⟩
  rintro (er | (_ | _ | _ | u)) s' z
  · exact hx σ pins H1 s1 er s' I1 z
  · exact z.elim
  · exact z.elim
  · exact z.elim
  · exact I1.after z
theorem pe_cl (c : Cl CX0 X.prog X.w X.K X.mg X.base k x sp) (hr : Room j X.A) (hG : X.A.guards = some []) (hg : Gl X x) (ha : PA X (e :: es) t) (hk : k ≤ j := by decide)
    (hdb : (x == ("__debug__" : Str)) = false := by decide) (he : starEach (e :: es) X.env = (false, eval e X.env) :: starEach es X.env := by rfl) (hpl : (backTo pos (starEach es X.env)).any (·.1) = false := by rfl) :
    PE X (.Call (.Name x p) (e :: es) [] pos) (fun σ H Q => t σ H fun vs H1 => sp vs H1 Q E0) :=
  pe_clE (E := fun _ => E0) c hr hG (fun _ _ _ _ _ _ _ z => z.elim) hg ha hk hdb he hpl
end
end Lw

namespace Lw
open PySem PySem.Spec PyProof.Rows L2
/-- what a law promises: a list of at most 63 ints is handed in, True comes out -/
def spLaw (K : PySem.W.Frag) : Sp := fun vs H Q _ => ∃ (a : Addr) (ns : List Int), vs = [.ref a] ∧ SqL K H a (ns.map V.int) ∧ ns.length ≤ 63 ∧ ∀ H', Q (.bl true) H'
section
variable {P : Program} {w : World} {K : PySem.W.Frag} {mg mb : Str → Option Value} {k : Nat} {fa a : Addr} {s : Shared} {vs : List Value} {ns : List Int}
/-- the script as the law finds it -/
def scriptO (vs : List Value) : Obj := { cls := .type "list", data := .seq vs.toArray }
open Classical in
noncomputable def scriptH (K : PySem.W.Frag) (a : Addr) (vs : List Value) (ns : List Int) : Hp := fun b =>
  if b = a ∧ K.lookup a = none then some (.frz (scriptO vs) (.lst (ns.map V.int))) else none
theorem scriptH_other {b : Addr} (h : ¬ (b = a ∧ K.lookup a = none)) : scriptH K a vs ns b = none := if_neg h
theorem scriptH_some {b : Addr} {u : HO} (h : scriptH K a vs ns b = some u) : b = a ∧ K.lookup a = none ∧ u = .frz (scriptO vs) (.lst (ns.map V.int)) := by
  by_cases c : b = a ∧ K.lookup a = none
  · unfold scriptH at h
    rw [if_pos c] at h
    exact ⟨c.1, c.2, (Option.some.inj h).symm⟩
  · rw [scriptH_other c] at h
    cases h
theorem scriptH_dict {b : Addr} {o : Obj} {es : Array DictEntry} {n : Nat} (ha : s.heap.get? a = some (scriptO vs)) (hb : s.heap.get? b = some o) (hd : o.data = .dict es n) : scriptH K a vs ns b = none := by
  refine scriptH_other fun c => ?_
  rw [c.1, ha] at hb
  cases hb
  cases hd
theorem script_run (hk : K.In s.heap) (hmain : s.heap.Ns mainGlobals mg) (hbi : s.heap.Ns builtinsNs mb) (hboot : ∀ x : Str, x ≠ "__name__" → mb x = bootBuiltins x) (hlim : s.heap.NoLimit) (hgens : s.gens = #[])
    (ha : s.heap.get? a = some (scriptO vs)) (hi : IntsAre vs ns) (hl : ns.length ≤ 63) (hr : Room k callerA)
    (F : ∀ base : Heap, K.In base → base.Ns mainGlobals mg → ∃ fd ps, FnG CX0 P w K mg base k fa fd ps (spLaw K) ∧ Binds K fd ps []) :
    codeAny (model P w) callerA (.call (.ref fa) ⟨[.ref a], []⟩) (fun r s' => r = .ok (.ret (.bool true)) ∧ OldK s.heap s'.heap ∧ s'.os = s.os ∧ AllBare s'.gens) s := by
  have size63 : ns.length ≤ sizeLine := Nat.le_trans hl (by decide)
  have rv : Vals (ns.map V.int) vs := vals_ints hi
  have down : ∀ {b : Addr} {m : Str → Option Value}, s.heap.Ns b m → (hidT s.heap (scriptH K a vs ns)).Ns b m := by
    rintro b m ⟨o, es, n, q, d, r⟩
    exact ⟨o, es, n, hidT_get q (scriptH_dict ha q d), d, r⟩
  have inB : K.In (hidT s.heap (scriptH K a vs ns)) := fun b o q => hidT_get (hk b o q) (scriptH_other fun c => by
    rw [c.1, c.2] at q
    cases q)
  have md : Mod K mg (hidT s.heap (scriptH K a vs ns)) := {
    kin := inB
    glob := down hmain
    blt := ⟨mb, down hbi, hboot⟩
    nolimit := by
      obtain ⟨mc, n1, n2⟩ := hlim
      exact ⟨mc, down n1, n2⟩ }
  have ok : HOk P w (scriptH K a vs ns) s.heap := fun b u q => by
    obtain ⟨rfl, _, rfl⟩ := scriptH_some q
    exact ⟨ha, by rw [List.length_map]; exact size63, vs, _, rv, ha⟩
  have e0 : Env0 P w K mg (hidT s.heap (scriptH K a vs ns)) callerA [] s (scriptH K a vs ns) := {
    frames := rfl
    mod := md
    bs := fun b o q => of_hidT q
    bsz := Nat.le_of_eq (hidT_size _ _)
    funs := trivial
    frf := fun b hb => nomatch hb
    hok := ok
    bare := .of_eq hgens }
  have sq : SqL K (scriptH K a vs ns) a (ns.map V.int) := by
    cases e : K.lookup a with
    | some o =>
      have q := hk a o e
      rw [ha] at q
      cases q
      exact .inr ⟨_, vs.toArray, _, e, rfl, rfl, rfl, by rw [List.size_toArray, hi.length]; exact size63, by simpa using rv⟩
    | none => exact .inl (.inr ⟨scriptO vs, if_pos ⟨rfl, e⟩⟩)
  obtain ⟨fd, ps, G, hb⟩ := F _ inB (down hmain)
  have hsp : spLaw K [.ref a] (scriptH K a vs ns) (fun v _ => v = .bl true) (fun _ _ _ => False) := ⟨a, ns, rfl, sq, hl, fun _ => rfl⟩
  have bt := hb s [.ref a] hk (by rw [List.append_nil]; exact G.len _ _ _ _ hsp)
  rw [List.append_nil] at bt
  refine codeAny_mono (G.run callerA hr rfl [] s _ e0 _ [.ref a] [.ref a] bt (.cons rfl .nil) _ _ hsp) ?_
  rintro (er | (_ | _ | _ | u)) s' z
  · exact z.elim
  · exact z.elim
  · exact z.elim
  · exact z.elim
  · obtain ⟨v, H', os, bare, un, ok', r', q⟩ := z
    cases (show v = .bl true from q)
    cases (show u = Value.bool true from r')
    refine ⟨rfl, OldK.of_keep fun b o q => ?_, os, bare⟩
    cases e : scriptH K a vs ns b with
    | none => exact un.keep b o q e (fun z => nomatch z) (fun z => nomatch z)
    | some u =>
      obtain ⟨rfl, _, rfl⟩ := scriptH_some e
      obtain ⟨now, _⟩ := ok' b _ (un.frzs b _ _ e)
      rw [ha] at q
      cases q
      exact now
end
end Lw

namespace Lw
open PySem PySem.Spec PyProof.Rows L2

/-! ### heaps: all but the forbidden addresses stay, and tuples stay -/
abbrev Ban := Addr → Prop
structure Sx (N : Ban) (H H' : Hp) : Prop where
  st : ∀ b u, ¬ N b → H b = some u → H' b = some u
  tp : ∀ b xs, H b = some (.tup xs) → H' b = some (.tup xs)
theorem Sx.refl (N : Ban) (H : Hp) : Sx N H H := ⟨fun _ _ _ q => q, fun _ _ q => q⟩
theorem Sx.trans {N : Ban} {H H1 H2 : Hp} (a : Sx N H H1) (b : Sx N H1 H2) : Sx N H H2 := ⟨fun c u n q => b.st c u n (a.st c u n q), fun c xs q => b.tp c xs (a.tp c xs q)⟩
theorem Sx.of {N : Ban} {H H1 : Hp} (a : Same H H1) : Sx N H H1 := ⟨fun c u _ q => a c u q, fun c xs q => a c _ q⟩
theorem same_new {H : Hp} {p : Addr} (h : H p = none) (o : HO) : Same H (upd H p o) := fun b u q => by rw [upd_ne (ne_of_none q h)]; exact q
theorem Sx.new {N : Ban} {p : Addr} {H : Hp} {o : HO} (h : H p = none) : Sx N H (upd H p o) := .of (same_new h o)
theorem Sx.free {N : Ban} {H H1 : Hp} (a : Sx N H H1) {l : Addr} (hn : ¬ N l) (h : H1 l = none) : H l = none := by
  cases q : H l with
  | none => rfl
  | some o =>
    rw [a.st l o hn q] at h
    cases h

/-! ### data on the heap -/
mutual
inductive Dv (N : Ban) (H : Hp) : V → PyData → Prop
  | non : Dv N H .non .none
  | bl (b : Bool) : Dv N H (.bl b) (.bool b)
  | int (i : Int) : Dv N H (.int i) (.int i)
  | str (x : Str) : Dv N H (.str x) (.str x)
  | lst {a : Addr} {xs : List V} {ds : List PyData} : ¬ N a → H a = some (.lst xs) → DvAll N H xs ds → Dv N H (.ref a) (.list ds)
  | tup {a : Addr} {xs : List V} {ds : List PyData} : H a = some (.tup xs) → DvAll N H xs ds → Dv N H (.ref a) (.tuple ds)
  | dct {a : Addr} : ¬ N a → H a = some (.dK []) → Dv N H (.ref a) (.dict [])
inductive DvAll (N : Ban) (H : Hp) : List V → List PyData → Prop
  | nil : DvAll N H [] []
  | cons {v : V} {vs : List V} {d : PyData} {ds : List PyData} : Dv N H v d → DvAll N H vs ds → DvAll N H (v :: vs) (d :: ds)
end
mutual
theorem Dv.map {N N' : Ban} {H H' : Hp} (k : ∀ b u, ¬ N b → H b = some u → H' b = some u ∧ ¬ N' b) (kt : ∀ b xs, H b = some (.tup xs) → H' b = some (.tup xs)) : ∀ (d : PyData) (v : V), Dv N H v d → Dv N' H' v d
  | .none, _, h => by cases h; exact .non
  | .bool _, _, h => by cases h; exact .bl _
  | .int _, _, h => by cases h; exact .int _
  | .str _, _, h => by cases h; exact .str _
  | .list ds, _, h => by
    cases h with
    | lst n e a => exact .lst (k _ _ n e).2 (k _ _ n e).1 (DvAll.map k kt ds _ a)
  | .tuple ds, _, h => by
    cases h with
    | tup e a => exact .tup (kt _ _ e) (DvAll.map k kt ds _ a)
  | .dict _, _, h => by
    cases h with
    | dct n e => exact .dct (k _ _ n e).2 (k _ _ n e).1
theorem DvAll.map {N N' : Ban} {H H' : Hp} (k : ∀ b u, ¬ N b → H b = some u → H' b = some u ∧ ¬ N' b) (kt : ∀ b xs, H b = some (.tup xs) → H' b = some (.tup xs)) : ∀ (ds : List PyData) (vs : List V), DvAll N H vs ds → DvAll N' H' vs ds
  | [], _, h => by cases h; exact .nil
  | d :: ds, _, h => by
    cases h with
    | cons a b => exact .cons (Dv.map k kt d _ a) (DvAll.map k kt ds _ b)
end
theorem Dv.up {N : Ban} {H H' : Hp} {d : PyData} {v : V} (h : Dv N H v d) (k : Sx N H H') : Dv N H' v d := h.map (fun b u n q => ⟨k.st b u n q, n⟩) k.tp _ _
theorem DvAll.up {N : Ban} {H H' : Hp} {ds : List PyData} {vs : List V} (h : DvAll N H vs ds) (k : Sx N H H') : DvAll N H' vs ds := h.map (fun b u n q => ⟨k.st b u n q, n⟩) k.tp _ _
theorem Dv.less {N N' : Ban} {H : Hp} {d : PyData} {v : V} (h : Dv N H v d) (k : ∀ b, N' b → N b) : Dv N' H v d := h.map (fun b u n q => ⟨q, fun z => n (k b z)⟩) (fun _ _ q => q) _ _
theorem Dv.same {N : Ban} {H H' : Hp} {d : PyData} {v : V} (h : Dv N H v d) (k : Same H H') : Dv N H' v d := h.up (.of k)
theorem DvAll.same {N : Ban} {H H' : Hp} {ds : List PyData} {vs : List V} (h : DvAll N H vs ds) (k : Same H H') : DvAll N H' vs ds := h.up (.of k)
theorem DvAll.length {N : Ban} {H : Hp} : ∀ {ds : List PyData} {vs : List V}, DvAll N H vs ds → vs.length = ds.length
  | _, _, .nil => rfl
  | _, _, .cons _ b => by simp [DvAll.length b]
theorem DvAll.get {N : Ban} {H : Hp} : ∀ {ds : List PyData} {vs : List V} {i : Nat} {d : PyData}, DvAll N H vs ds → ds[i]? = some d → ∃ v, vs[i]? = some v ∧ Dv N H v d
  | _, _, _, _, .nil, e => by simp at e
  | _, _, 0, _, .cons a _, e => by
    simp at e
    subst e
    exact ⟨_, rfl, a⟩
  | _, _, i + 1, _, .cons _ b, e => by
    obtain ⟨v, h1, h2⟩ := DvAll.get (i := i) b (by simpa using e)
    exact ⟨v, by simpa using h1, h2⟩
theorem DvAll.app {N : Ban} {H : Hp} : ∀ {ds es : List PyData} {vs us : List V}, DvAll N H vs ds → DvAll N H us es → DvAll N H (vs ++ us) (ds ++ es)
  | _, _, _, _, .nil, h => h
  | _, _, _, _, .cons a b, h => .cons a (DvAll.app b h)
theorem DvAll.take {N : Ban} {H : Hp} : ∀ {ds : List PyData} {vs : List V} (n : Nat), DvAll N H vs ds → DvAll N H (vs.take n) (ds.take n)
  | _, _, 0, _ => by simpa using .nil
  | _, _, _ + 1, .nil => .nil
  | _, _, n + 1, .cons a b => .cons a (DvAll.take n b)
theorem DvAll.drop {N : Ban} {H : Hp} : ∀ {ds : List PyData} {vs : List V} (n : Nat), DvAll N H vs ds → DvAll N H (vs.drop n) (ds.drop n)
  | _, _, 0, h => h
  | _, _, _ + 1, .nil => .nil
  | _, _, n + 1, .cons _ b => DvAll.drop n b
theorem DvAll.rev {N : Ban} {H : Hp} : ∀ {ds : List PyData} {vs : List V}, DvAll N H vs ds → DvAll N H vs.reverse ds.reverse
  | _, _, .nil => .nil
  | _, _, .cons a b => by
    rw [List.reverse_cons, List.reverse_cons]
    exact (DvAll.rev b).app (.cons a .nil)
theorem DvAll.nil_iff {N : Ban} {H : Hp} {ds : List PyData} {vs : List V} (h : DvAll N H vs ds) : vs = [] ↔ ds = [] := by
  cases h <;> simp
/-- ints -/
theorem DvAll.ints {N : Ban} {H : Hp} : ∀ ns : List Int, DvAll N H (ns.map V.int) (ns.map PyData.int)
  | [] => .nil
  | n :: r => .cons (.int n) (DvAll.ints r)

/-! ### types of data, for isinstance -/
def tyName : PyData → String
  | .none => "NoneType"
  | .bool _ => "bool"
  | .int _ => "int"
  | .str _ => "str"
  | .list _ => "list"
  | .tuple _ => "tuple"
  | .dict _ => "dict"
theorem Dv.ty {N : Ban} {K : PySem.W.Frag} {H : Hp} {v : V} {d : PyData} (h : Dv N H v d) : TyX K H v (.type (tyName d)) := by
  cases h with
  | non => exact .base .non
  | bl b => exact .base (.bl b)
  | int i => exact .base (.int i)
  | str x => exact .base (.str x)
  | lst n e a => exact .base (.lst e)
  | tup e a => exact .base (.tup e)
  | dct n e => exact .base (.dK e)
def isTup : PyData → Bool
  | .tuple _ => true
  | _ => false
def isInt : PyData → Bool
  | .int _ => true
  | .bool _ => true
  | _ => false
def isBool : PyData → Bool
  | .bool _ => true
  | _ => false
def isStr : PyData → Bool
  | .str _ => true
  | _ => false
def isWhole : PyData → Bool
  | .int _ => true
  | _ => false
theorem kit_tup (d : PyData) : kitB (tyName d) "tuple" = some (isTup d) := by cases d <;> simp only [tyName, isTup] <;> decide +kernel
theorem kit_int (d : PyData) : kitB (tyName d) "int" = some (isInt d) := by cases d <;> simp only [tyName, isInt] <;> decide +kernel
def rIsD (T : String) (f : PyData → Bool) : List V → Hp → VK → Prop := fun xs H Q => ∃ (N : Ban) (v : V) (d : PyData), xs = [v, .ty T] ∧ Dv N H v d ∧ Q (.bl (f d)) H
theorem call_isD {X : Cx} {T : String} {f : PyData → Bool} (k : ∀ d, kitB (tyName d) T = some (f d)) : CallR X (.builtin "isinstance") (rIsD T f) := by
  intro pins s σ H xs us Q I r h
  obtain ⟨N, v, d, rfl, hd, q⟩ := h
  exact call_isi pins s σ H _ us Q I r ⟨v, .ty T, .type (tyName d), .type T, f d, rfl, .ty T, hd.ty, kit_ty (k d), q⟩

/-! ### a text of data -/
abbrev sysB : Ban := fun a => a = sysModules
section
variable {X : Cx} {pins : List (Addr × Obj)} {σ : L2.St} {H : Hp} {s : Shared}
mutual
theorem Dv.reads (I : Inv X pins σ H s) {N : Ban} : ∀ (d : PyData) (v : V) (u : Value), Dv N H v d → RelV v u → ∃ as, Reads s.heap u d as ∧ ∀ a ∈ as, ¬ N a
  | .none, _, _, h, r => by
    cases h
    cases r
    exact ⟨_, Reads.none, fun _ z => nomatch z⟩
  | .bool b, _, _, h, r => by
    cases h
    cases r
    exact ⟨_, Reads.bool b, fun _ z => nomatch z⟩
  | .int i, _, _, h, r => by
    cases h
    obtain ⟨t, rfl⟩ := r
    exact ⟨_, Reads.int i t, fun _ z => nomatch z⟩
  | .str x, _, _, h, r => by
    cases h
    obtain ⟨t, rfl⟩ := r
    exact ⟨_, Reads.str x t, fun _ z => nomatch z⟩
  | .list ds, _, _, h, r => by
    cases h with
    | lst n e ha =>
      cases r
      obtain ⟨z, its, k, rv, ho⟩ := (show ObjOk X.prog X.w H s.heap _ (.lst _) from I.hok _ _ e)
      obtain ⟨as, hr, na⟩ := DvAll.reads I ds _ its ha rv
      refine ⟨_, Reads.list ho rfl rfl hr, fun b hb => ?_⟩
      rcases List.mem_cons.mp hb with rfl | hb
      · exact n
      · exact na b hb
  | .tuple ds, _, _, h, r => by
    cases h with
    | tup e ha =>
      cases r
      obtain ⟨z, its, rv, o, ho, hc, k, hd⟩ := (show ObjOk X.prog X.w H s.heap _ (.tup _) from I.hok _ _ e)
      obtain ⟨as, hr, na⟩ := DvAll.reads I ds _ its ha rv
      exact ⟨_, Reads.tuple ho hc hd hr, na⟩
  | .dict _, _, _, h, r => by
    cases h with
    | dct n e =>
      cases r
      obtain ⟨z, _, vs, rv, o, es, ep, ho, hex, hdat, hkey, hes, _⟩ := (show ObjOk X.prog X.w H s.heap _ (.dK []) from I.hok _ _ e)
      cases rv
      have he : es.toList = [] := by
        revert hes
        generalize es.toList = l
        intro hes
        cases hes
        rfl
      refine ⟨_, Reads.dict ho hex.1 hdat (as := []) (bs := []) ?_ ?_, fun b hb => ?_⟩
      · rw [he]
        exact .nil
      · rw [he]
        exact .nil
      · simp at hb
        subst hb
        exact n
theorem DvAll.reads (I : Inv X pins σ H s) {N : Ban} : ∀ (ds : List PyData) (vs : List V) (us : List Value), DvAll N H vs ds → Vals vs us → ∃ as, ReadsAll s.heap us ds as ∧ ∀ a ∈ as, ¬ N a
  | [], _, _, h, r => by
    cases h
    cases r
    exact ⟨_, .nil, fun _ z => nomatch z⟩
  | d :: ds, _, _, h, r => by
    cases h with
    | cons h1 h2 =>
      cases r with
      | cons r1 r2 =>
        obtain ⟨as, q1, n1⟩ := Dv.reads I d _ _ h1 r1
        obtain ⟨bs, q2, n2⟩ := DvAll.reads I ds _ _ h2 r2
        refine ⟨_, .cons q1 q2, fun b hb => ?_⟩
        rcases List.mem_append.mp hb with hb | hb
        · exact n1 b hb
        · exact n2 b hb
end
end
/-- a text that may be told: all ints are not too great, it is not too deep, the text not too long; where there is a dict, no list or dict is the modules' own -/
def Tells (N : Ban) (d : PyData) : Prop := d.showable = true ∧ d.depth ≤ 100 ∧ d.shown.length ≤ sizeLine ∧ (d.hasDict = true → N sysModules)
def rRepr : List V → Hp → VK → Prop := fun xs H Q => ∃ (N : Ban) (v : V) (d : PyData), xs = [v] ∧ Dv N H v d ∧ Tells N d ∧ Q (.str d.shown) H
theorem call_repr {X : Cx} {k : Nat} (hr : Room k X.A) (hG : X.A.guards = some []) : CallR X (.builtin "repr") rRepr := by
  intro pins s σ H xs us Q I r h
  obtain ⟨N, v, d, rfl, hd, ⟨h1, h2, h3, h4⟩, q⟩ := h
  obtain ⟨u, rfl, rx⟩ := vals1 r
  have units := hr.un
  obtain ⟨as, rd, na⟩ := Dv.reads I d v u hd rx
  have ref : ∀ a, u = .ref a → wpAny (model X.prog X.w) X.A (call (.builtin "repr") [u]) (EP X pins σ Q) X.xe s := fun a e => by
    subst e
    refine repr_of_reads' rd h1 (fun z m => na _ m (h4 z)) hG (by omega) (fun _ _ q => q) (fun h' u' tk k => ?_) h3
    exact ⟨.str d.shown, H, I.kept k, ⟨_, rfl⟩, q⟩
  cases hd with
  | non =>
    cases rx
    exact PySem.P.repr_of_none ⟨.str _, H, I.tok _, ⟨_, rfl⟩, q⟩
  | bl b =>
    cases rx
    refine PySem.P.repr_of_bool ⟨.str _, H, I.tok _, ⟨s.toks, ?_⟩, q⟩
    cases b <;> rfl
  | int i =>
    obtain ⟨t, rfl⟩ := rx
    exact PySem.P.repr_of_int (by simpa [PyData.showable] using h1) ⟨.str _, H, I.tok _, ⟨_, rfl⟩, q⟩
  | str x =>
    obtain ⟨t, rfl⟩ := rx
    exact PySem.P.repr_of_str ⟨.str _, H, I.tok _, ⟨_, rfl⟩, q⟩ (by simpa [PyData.shown] using h3)
  | lst n e a => exact ref _ rx
  | tup e a => exact ref _ rx
  | dct n e => exact ref _ rx
end Lw

namespace Lw
open PySem PySem.Spec PyProof.Rows L2

/-! ### how long the text of data is -/
mutual
/-- leaves: ints below 2 ^ B in size, texts of short texts, no dict but the empty one -/
def fine (B : Nat) : PyData → Prop
  | .none => True
  | .bool _ => True
  | .int i => i.natAbs < 2 ^ B
  | .str x => (reprText x).length ≤ 100
  | .list xs => fineAll B xs
  | .tuple xs => fineAll B xs
  | .dict kvs => kvs = []
def fineAll (B : Nat) : List PyData → Prop
  | [] => True
  | x :: xs => fine B x ∧ fineAll B xs
end
mutual
def wt : PyData → Nat
  | .none => 2000
  | .bool _ => 2000
  | .int _ => 2000
  | .str _ => 2000
  | .list xs => wtAll xs + 2000
  | .tuple xs => wtAll xs + 2000
  | .dict _ => 2000
def wtAll : List PyData → Nat
  | [] => 0
  | x :: xs => wt x + 2 + wtAll xs
end
mutual
theorem fine_mono {B C : Nat} (h : B ≤ C) : ∀ d : PyData, fine B d → fine C d
  | .none, _ => trivial
  | .bool _, _ => trivial
  | .int i, f => Nat.lt_of_lt_of_le (show i.natAbs < 2 ^ B from f) (Nat.pow_le_pow_right (by decide) h)
  | .str _, f => f
  | .list xs, f => fineAll_mono h xs f
  | .tuple xs, f => fineAll_mono h xs f
  | .dict _, f => f
theorem fineAll_mono {B C : Nat} (h : B ≤ C) : ∀ ds : List PyData, fineAll B ds → fineAll C ds
  | [], _ => trivial
  | x :: xs, f => ⟨fine_mono h x f.1, fineAll_mono h xs f.2⟩
end
theorem log2_lt {n k : Nat} (hk : 0 < k) (h : n < 2 ^ k) : n.log2 < k := by
  by_cases z : n = 0
  · subst z
    rw [Nat.log2_zero]
    exact hk
  · exact (Nat.log2_lt z).mpr h
mutual
theorem fine_showable {B : Nat} (hB : B ≤ 1900) : ∀ d : PyData, fine B d → d.showable = true
  | .none, _ => rfl
  | .bool _, _ => rfl
  | .int i, f => by
    have h : i.natAbs < 2 ^ 1900 := Nat.lt_of_lt_of_le (show i.natAbs < 2 ^ B from f) (Nat.pow_le_pow_right (by decide) hB)
    have q := log2_lt (by decide) h
    show decide (i.natAbs.log2 < 1920) = true
    exact decide_eq_true (by omega)
  | .str _, _ => rfl
  | .list xs, f => fineAll_showable hB xs f
  | .tuple xs, f => fineAll_showable hB xs f
  | .dict kvs, f => by
    cases (show kvs = [] from f)
    rfl
theorem fineAll_showable {B : Nat} (hB : B ≤ 1900) : ∀ ds : List PyData, fineAll B ds → PyData.showableAll ds = true
  | [], _ => rfl
  | x :: xs, f => by
    show (x.showable && PyData.showableAll xs) = true
    rw [fine_showable hB x f.1, fineAll_showable hB xs f.2] <;> rfl
end
theorem shownAll_length : ∀ ds : List PyData, (PyData.shownAll ds).length = ds.length
  | [] => rfl
  | x :: xs => by
    show (PyData.shownAll xs).length + 1 = xs.length + 1
    rw [shownAll_length xs]
mutual
theorem shown_le {B : Nat} (hB : B ≤ 1900) : ∀ d : PyData, fine B d → d.shown.length ≤ wt d
  | .none, _ => by
    show (("None" : String) : Str).length ≤ 2000
    decide +kernel
  | .bool b, _ => by
    cases b
    · show (("False" : String) : Str).length ≤ 2000
      decide +kernel
    · show (("True" : String) : Str).length ≤ 2000
      decide +kernel
  | .int i, f => by
    have h : i.natAbs < 2 ^ 1900 := Nat.lt_of_lt_of_le (show i.natAbs < 2 ^ B from f) (Nat.pow_le_pow_right (by decide) hB)
    have q := int_text_length_le (a := i) (k := 1900) (by decide) (log2_lt (by decide) h)
    show (Str.ofString (toString i)).length ≤ 2000
    rw [PySem.ofString_length]
    omega
  | .str x, f => by
    have h : (reprText x).length ≤ 100 := f
    show (reprText x).length ≤ 2000
    omega
  | .list xs, f => by
    have h := shownAll_le hB xs f
    have q := listText_len_le (PyData.shownAll xs)
    rw [shownAll_length] at q
    show (listText (PyData.shownAll xs)).length ≤ wtAll xs + 2000
    omega
  | .tuple xs, f => by
    have h := shownAll_le hB xs f
    have q := tupleText_len_le (PyData.shownAll xs)
    rw [shownAll_length] at q
    show (tupleText (PyData.shownAll xs)).length ≤ wtAll xs + 2000
    omega
  | .dict kvs, f => by
    cases (show kvs = [] from f)
    show (dictText []).length ≤ 2000
    decide +kernel
theorem shownAll_le {B : Nat} (hB : B ≤ 1900) : ∀ ds : List PyData, fineAll B ds → ((PyData.shownAll ds).map (·.length)).sum + 2 * ds.length ≤ wtAll ds
  | [], _ => Nat.le_refl 0
  | x :: xs, f => by
    have h1 := shown_le hB x f.1
    have h2 := shownAll_le hB xs f.2
    show (x.shown.length :: (PyData.shownAll xs).map (·.length)).sum + 2 * (xs.length + 1) ≤ wt x + 2 + wtAll xs
    rw [List.sum_cons]
    omega
end
/-- data that may be told as a text: ints below 2 ^ B, weight n, depth m -/
structure Fit (B n m : Nat) (d : PyData) : Prop where
  f : fine B d
  w : wt d ≤ n
  d : d.depth ≤ m
theorem Fit.mono {B n m B' n' m' : Nat} {d : PyData} (h : Fit B n m d) (a : B ≤ B') (b : n ≤ n') (c : m ≤ m') : Fit B' n' m' d := ⟨fine_mono a d h.f, Nat.le_trans h.w b, Nat.le_trans h.d c⟩
theorem Fit.tells {B n m : Nat} {d : PyData} {N : Ban} (h : Fit B n m d) (hB : B ≤ 1900) (hn : n ≤ 16000000) (hm : m ≤ 100) (hN : N sysModules) : Tells N d :=
  ⟨fine_showable hB d h.f, Nat.le_trans h.d hm, by
    have q := shown_le hB d h.f
    have z := h.w
    rw [sizeLine_eq]
    omega, fun _ => hN⟩
/-! ### lists and dicts that are not the modules' own -/
section
variable {X : Cx} {e : Expr} {es : List Expr} {t : TA} {pos : Pos}
theorem pe_list (h : PA X es t) : PE X (.List es pos) (fun σ H Q => t σ H fun xs H1 => xs.length ≤ sizeLine ∧ ∀ p, H1 p = none → p ≠ sysModules → Q (.ref p) (upd H1 p (.lst xs))) := by
  constructor
  intro pins s σ H Q I hq
  apply wpAny_List_spliced
  apply thn (h.run pos pins s σ H _ I hq)
  rintro us s1 ⟨xs, H1, I1, r, z, q⟩
  refine ⟨r.length ▸ z, ?_⟩
  have fresh : H1 s1.heap.objs.size = none := I1.hok.fresh (Nat.le_refl _)
  have J := I1.laid (t' := s1.toks) (a := s1.heap.objs.size) (o := .lst xs) (h' := s1.heap.push { cls := .type "list", data := .seq us.toArray })
    (fun b u k => Heap.get?_push_of_some _ k) (Nat.le_refl _) ⟨z, us, 0, r, Heap.get?_push_size _ rfl⟩
  exact ⟨V.ref _, _, J, rfl, q _ fresh fun k => absurd I1.big (by rw [k]; exact Nat.lt_irrefl _)⟩
theorem pe_dict0 : PE X (.Dict [] [] pos) (fun _ H Q => ∀ p, H p = none → p ≠ sysModules → Q (.ref p) (upd H p (.dK []))) := by
  constructor
  intro pins s σ H Q I q
  have J := I.laid (a := s.heap.objs.size) (o := .dK []) (t' := s.toks) (fun _ _ k => Heap.get?_push_of_some _ k) (Nat.le_refl _) (dk_empty s.heap I.big)
  exact wpAny_Dict_empty ⟨V.ref _, _, J, rfl, q _ (I.hok.fresh (Nat.le_refl _)) fun k => absurd I.big (by rw [k]; exact Nat.lt_irrefl _)⟩
/-- list(t), t a tuple -/
theorem call_listT : CallR X (.type "list") (fun xs H Q => ∃ p ys, xs = [.ref p] ∧ SqT X.K H p ys ∧ ∀ l, H l = none → l ≠ sysModules → Q (.ref l) (upd H l (.lst ys))) := by
  intro pins s σ H xs us Q I r h
  obtain ⟨p, ys, rfl, ht, q⟩ := h
  obtain ⟨u, rfl, rx⟩ := vals1 r
  cases rx
  obtain ⟨its, rv, ⟨o, ho, hc, n, hd⟩, hz⟩ := I.tuple ht
  refine call_list_seq p (.inr rfl) ho hc hd (fun h' c' kp now => ?_) (by have := rv.length; simp only [List.size_toArray]; omega)
  have J := I.laid (t' := s.toks) (a := s.heap.objs.size) (o := .lst ys) kp (Nat.le_refl _) ⟨hz, its, c', rv, now⟩
  exact ⟨V.ref _, _, J, rfl, q _ (I.hok.fresh (Nat.le_refl _)) fun k => absurd I.big (by rw [k]; exact Nat.lt_irrefl _)⟩
end
/-! ### ints and bools as numbers -/
def bz (b : Bool) : Int := if b = true then 1 else 0
section
variable {X : Cx}
theorem op_addBI : OpR X (binaryOp .Add) (fun x y H Q => ∃ b j, x = .bl b ∧ y = .int j ∧ Q (.int (bz b + j)) H) := by
  intro pins s σ H x y v u Q I rx ry h
  obtain ⟨b, j, rfl, rfl, q⟩ := h
  cases rx
  obtain ⟨t, rfl⟩ := ry
  exact PySem.IntBool.add_bool_int ⟨.int (bz b + j), H, I.tok _, ⟨_, rfl⟩, q⟩
theorem op_subBI : OpR X (binaryOp .Sub) (fun x y H Q => ∃ b j, x = .bl b ∧ y = .int j ∧ Q (.int (bz b - j)) H) := by
  intro pins s σ H x y v u Q I rx ry h
  obtain ⟨b, j, rfl, rfl, q⟩ := h
  cases rx
  obtain ⟨t, rfl⟩ := ry
  exact PySem.IntBool.sub_bool_int ⟨.int (bz b - j), H, I.tok _, ⟨_, rfl⟩, q⟩
theorem op_subIB : OpR X (binaryOp .Sub) (fun x y H Q => ∃ i b, x = .int i ∧ y = .bl b ∧ Q (.int (i - bz b)) H) := by
  intro pins s σ H x y v u Q I rx ry h
  obtain ⟨i, b, rfl, rfl, q⟩ := h
  obtain ⟨t, rfl⟩ := rx
  cases ry
  exact PySem.IntBool.sub_int_bool ⟨.int (i - bz b), H, I.tok _, ⟨_, rfl⟩, q⟩
theorem op_mulIB : OpR X (binaryOp .Mult) (fun x y H Q => ∃ i b, x = .int i ∧ y = .bl b ∧ Q (.int (i * bz b)) H) := by
  intro pins s σ H x y v u Q I rx ry h
  obtain ⟨i, b, rfl, rfl, q⟩ := h
  obtain ⟨t, rfl⟩ := rx
  cases ry
  exact PySem.IntBool.mul_int_bool ⟨.int (i * bz b), H, I.tok _, ⟨_, rfl⟩, q⟩
theorem op_eqBI : OpR X (compareOp .Eq) (fun x y H Q => ∃ b j, x = .bl b ∧ y = .int j ∧ Q (.bl (bz b == j)) H) := by
  intro pins s σ H x y v u Q I rx ry h
  obtain ⟨b, j, rfl, rfl, q⟩ := h
  cases rx
  obtain ⟨t, rfl⟩ := ry
  exact PySem.EqBoolInt.eq_bool_int ⟨.bl (bz b == j), H, I, rfl, q⟩
/-- t != (), t a tuple -/
theorem op_neT0 {k : Nat} (hr : Room k X.A) : OpR X (compareOp .NotEq) (fun x y H Q => ∃ a b xs, x = .ref a ∧ y = .ref b ∧ H a = some (.tup xs) ∧ H b = some (.tup []) ∧ Q (.bl (!xs.isEmpty)) H) := by
  intro pins s σ H x y v u Q I rx ry h
  obtain ⟨a, b, xs, rfl, rfl, ha, hb, q⟩ := h
  cases rx
  cases ry
  obtain ⟨_, its, rv, p⟩ := (show ObjOk X.prog X.w H s.heap a (.tup xs) from I.hok a _ ha)
  obtain ⟨_, its2, rv2, p2⟩ := (show ObjOk X.prog X.w H s.heap b (.tup []) from I.hok b _ hb)
  cases rv2
  have big := hr.un
  refine SeqAt.RcNeAt.tuples p p2 (by omega) (e := fun _ => true) (fun j _ h2 => ?_) X.prog X.w X.xe (EP X pins σ Q) ?_
  · simp at h2
  · refine ⟨.bl (!xs.isEmpty), H, I, ?_, q⟩
    have hl := rv.length
    show Value.bool _ = Value.bool _
    cases xs with
    | nil =>
      have e : its = [] := by simpa using hl.symm
      subst e
      rfl
    | cons x r =>
      cases its with
      | nil => simp at hl
      | cons y r2 => simp
/-- math.isqrt of what is below 2 ^ 13000 -/
theorem cr_isqrt : CallR X (.builtin "math.isqrt") (fun vs H Q => ∃ a : Int, vs = [.int a] ∧ 0 ≤ a ∧ a.natAbs < 2 ^ 13000 ∧ Q (.int ((Float64.isqrt a.toNat : Nat) : Int)) H) := by
  intro pins s σ H vs us Q I r h
  obtain ⟨a, rfl, h0, h1, q⟩ := h
  obtain ⟨u, rfl, t, rfl⟩ := vals1 r
  have e : a.toNat = a.natAbs := by omega
  have l : a.toNat.log2 < 13000 := by
    rw [e]
    exact log2_lt (by decide) h1
  exact call_function_meets PySem.W.MGF.kind_isqrt PySem.W.MGF.plain_isqrt PySem.W.MGF.entry_isqrt (PySem.W.MGF.args_isqrt _) (PySem.W.mg_run_isqrt a t (by omega) (by omega) (by omega)).meets ⟨.int _, H, I.tok _, ⟨_, rfl⟩, q⟩
/-- // by any number other than 0 below 2 ^ 9000 in size -/
theorem op_fdivZ : OpR X (binaryOp .FloorDiv) (rI (fun _ j => j ≠ 0 ∧ j.natAbs < 2 ^ 9000) fun i j => .int (i.fdiv j)) :=
  opI fun i j _ _ _ _ _ hc q => floordiv_int hc.1 q (.inl (PyProof.noPylong_of_log2 (log2_lt (by decide) hc.2)))
end
end Lw

namespace Lw
open PySem PySem.Spec PyProof.Rows L2

/-! ### written data -/
def FreshB (N : Ban) (H : Hp) : Prop := ∀ p, H p = none → p ≠ sysModules → ¬ N p
theorem same_none {H H' : Hp} (k : Same H H') {p : Addr} (h : H' p = none) : H p = none := k.free h
theorem FreshB.same {N : Ban} {H H' : Hp} (f : FreshB N H) (k : Same H H') : FreshB N H' := fun p h n => f p (same_none k h) n
def tData (d : PyData) : TE := fun _ H Q => ∃ N : Ban, FreshB N H ∧ ∀ v H', Same H H' → Dv N H' v d → Q v H'
def tDatas (ds : List PyData) : TA := fun _ H Q => ∃ N : Ban, FreshB N H ∧ ∀ vs H', Same H H' → DvAll N H' vs ds → Q vs H'
section
variable {X : Cx} {e : Expr} {es : List Expr} {d : PyData} {ds : List PyData} {pos : Pos}
theorem pd_int {i : Int} {j : Nat} : PE X (.Constant (.int i) j pos) (tData (.int i)) := pe_int.weak fun _ H Q ⟨_, _, q⟩ => q _ H (Same.refl H) (.int i)
theorem pd_bl {b : Bool} {j : Nat} : PE X (.Constant (.bool b) j pos) (tData (.bool b)) := pe_bl.weak fun _ H Q ⟨_, _, q⟩ => q _ H (Same.refl H) (.bl b)
theorem pd_non {j : Nat} : PE X (.Constant .none j pos) (tData .none) := pe_non.weak fun _ H Q ⟨_, _, q⟩ => q _ H (Same.refl H) .non
theorem pd_str {x : Str} {j : Nat} : PE X (.Constant (.str x) j pos) (tData (.str x)) := pe_str.weak fun _ H Q ⟨_, _, q⟩ => q _ H (Same.refl H) (.str x)
theorem pd_neg {i : Int} (h : PE X e (tData (.int i))) : PE X (.UnaryOp .USub e pos) (tData (.int (-i))) :=
  (pe_un un_neg h).weak fun σ H Q ⟨N, f, q⟩ => ⟨N, f, fun v H' k dv => by
    cases dv
    exact ⟨i, rfl, q _ H' k (.int (-i))⟩⟩
theorem pd_pow {i : Int} {n : Nat} {e1 e2 : Expr} (h1 : PE X e1 (tData (.int i))) (h2 : PE X e2 (tData (.int (n : Int)))) (hn : n ≤ 1000000) (hi : i.natAbs < 2 ^ 64) : PE X (.BinOp e1 .Pow e2 pos) (tData (.int (i ^ n))) :=
  (pe_op op_pow h1 h2).weak fun σ H Q ⟨N, f, q⟩ => ⟨N, f, fun v H' k dv => by
    cases dv
    refine ⟨N, f.same k, fun v2 H2 k2 dv2 => ?_⟩
    cases dv2
    refine ⟨i, (n : Int), rfl, rfl, ⟨by omega, by omega, hi⟩, ?_⟩
    show Q (.int (i ^ ((n : Int)).toNat)) H2
    rw [Int.toNat_natCast]
    exact q _ H2 (k.trans k2) (.int _)⟩
theorem pda_nil : PA X [] (tDatas []) := pa_nil.weak fun _ H Q ⟨_, _, q⟩ => q [] H (Same.refl H) .nil
theorem pda_cons (h : PE X e (tData d)) (r : PA X es (tDatas ds)) (hs : starEach (e :: es) X.env = (false, eval e X.env) :: starEach es X.env := by rfl) : PA X (e :: es) (tDatas (d :: ds)) :=
  (pa_cons h r hs).weak fun σ H Q ⟨N, f, q⟩ => ⟨N, f, fun v H1 k1 dv => ⟨N, f.same k1, fun vs H2 k2 dvs => q _ H2 (k1.trans k2) (.cons (dv.same k2) dvs)⟩⟩
theorem pd_tup {x1} (h : PA X es (tDatas ds)) (hl : ds.length ≤ 1000 := by decide) : PE X (.Tuple es x1 pos) (tData (.tuple ds)) :=
  (pe_tup h).weak fun σ H Q ⟨N, f, q⟩ => ⟨N, f, fun vs H1 k1 dvs => ⟨by
    have z := dvs.length
    rw [sizeLine_eq]
    omega, fun p hp => q _ _ (k1.trans (same_new hp _)) (.tup upd_same (dvs.same (same_new hp _)))⟩⟩
theorem pd_lst (h : PA X es (tDatas ds)) (hl : ds.length ≤ 1000 := by decide) : PE X (.List es pos) (tData (.list ds)) :=
  (pe_list h).weak fun σ H Q ⟨N, f, q⟩ => ⟨N, f, fun vs H1 k1 dvs => ⟨by
    have z := dvs.length
    rw [sizeLine_eq]
    omega, fun p hp np => q _ _ (k1.trans (same_new hp _)) (.lst (f.same k1 p hp np) upd_same (dvs.same (same_new hp _)))⟩⟩
theorem pd_dct : PE X (.Dict [] [] pos) (tData (.dict [])) :=
  pe_dict0.weak fun σ H Q ⟨N, f, q⟩ p hp np => q _ _ (same_new hp _) (.dct (f p hp np) upd_same)
end

/-- a test, both ways -/
theorem tst {b : Bool} {A B : Prop} (h1 : b = true → A) (h0 : b = false → B) : if b = true then A else B := by
  cases b
  · exact iteF (h0 rfl)
  · exact iteT (h1 rfl)
theorem short3 {x y z : V} : [x, y, z].length ≤ sizeLine := by show 3 ≤ sizeLine; decide
theorem short2 {x y : V} : [x, y].length ≤ sizeLine := by show 2 ≤ sizeLine; decide
abbrev wellN (w : Addr) : Ban := fun a => a = w ∨ a = sysModules
def WellAt (H : Hp) (w : Addr) : Prop := ∃ a m c : Int, H w = some (.lst [.int a, .int m, .int c]) ∧ 0 ≤ a
theorem WellAt.fresh {H : Hp} {w : Addr} (h : WellAt H w) : FreshB (wellN w) H := fun p hp np z => by
  obtain ⟨a, m, c, e, _⟩ := h
  rcases z with rfl | z
  · rw [hp] at e
    cases e
  · exact np z
/-- what stands behind a draw -/
structure After (w : Addr) (H H' : Hp) : Prop where
  sx : Sx (wellN w) H H'
  well : WellAt H' w
  kp : ∀ b u, b ≠ w → H b = some u → H' b = some u
theorem After.refl {w : Addr} {H : Hp} (h : WellAt H w) : After w H H := ⟨.refl _ _, h, fun _ _ _ q => q⟩
theorem After.trans {w : Addr} {H H1 H2 : Hp} (a : After w H H1) (b : After w H1 H2) : After w H H2 := ⟨a.sx.trans b.sx, b.well, fun c u n q => b.kp c u n (a.kp c u n q)⟩
theorem WellAt.same {H H' : Hp} {w : Addr} (h : WellAt H w) (k : Same H H') : WellAt H' w := by
  obtain ⟨a, m, c, e, z⟩ := h
  exact ⟨a, m, c, k _ _ e, z⟩
theorem After.of {w : Addr} {H H' : Hp} (h : WellAt H w) (k : Same H H') : After w H H' := ⟨.of k, h.same k, fun b u _ q => k b u q⟩
theorem After.keep {w : Addr} {H H1 H2 : Hp} (a : After w H H1) (k : Same H1 H2) : After w H H2 := a.trans (.of a.well k)
theorem WellAt.ne {H : Hp} {w p : Addr} (h : WellAt H w) (hp : H p = none) : p ≠ w := by
  obtain ⟨a, m, c, e, _⟩ := h
  exact (ne_of_none e hp).symm
end Lw

namespace Lw
open PySem PySem.Spec PyProof.Rows L2

/-! ### t[::-1], t a tuple -/
section
variable {prog : Program} {w : World} {A : Around} {E : Value → Shared → Prop} {s : Shared}
theorem back_places (n : Nat) : Builtin.Slice.slicePlaces ((n : Int) - 1) (-1) (-1) = n := by
  unfold Builtin.Slice.slicePlaces
  rw [if_neg (by decide : ¬ ((-1 : Int) > 0))]
  split
  · show ((((n : Int) - 1) - (-1) - 1) / 1 + 1).toNat = n
    rw [Int.ediv_one]
    omega
  · show (0 : Int).toNat = n
    omega
theorem fm_congr {α β : Type} {f g : α → Option β} : ∀ {l : List α}, (∀ m ∈ l, f m = g m) → l.filterMap f = l.filterMap g
  | [], _ => rfl
  | a :: r, h => by
    rw [List.filterMap_cons, List.filterMap_cons, h a (List.mem_cons_self ..), fm_congr fun m hm => h m (List.mem_cons_of_mem _ hm)]
theorem back_pick (xs : Array Value) : ((List.range xs.size).filterMap fun (m : Nat) => xs[(((xs.size : Int) - 1) + (m : Int) * (-1)).toNat]?).toArray = xs.toList.reverse.toArray := by
  have e : ((List.range xs.size).filterMap fun (m : Nat) => xs[(((xs.size : Int) - 1) + (m : Int) * (-1)).toNat]?) = (List.range xs.size).filterMap fun m => xs.toList.reverse[m]? := by
    refine fm_congr fun m hm => ?_
    have lt : m < xs.size := List.mem_range.mp hm
    have i : (((xs.size : Int) - 1) + (m : Int) * (-1)).toNat = xs.size - 1 - m := by omega
    rw [i, List.getElem?_reverse (by simpa using lt)]
    simp
  rw [e]
  have z : ∀ l : List Value, (List.range l.length).filterMap (fun m => l[m]?) = l := fun l => by
    induction l with
    | nil => rfl
    | cons a r ih =>
      rw [List.length_cons, List.range_succ_eq_map, List.filterMap_cons, List.filterMap_map]
      show a :: (List.range r.length).filterMap (fun m => r[m]?) = a :: r
      rw [ih]
  have l : xs.size = xs.toList.reverse.length := by simp
  rw [l, z]
theorem back_applied {sl : Addr} {vs : Value} {n : Nat} {Q : Int × Int × Nat → Shared → Prop} (hs : s.heap.IsSliceOf sl .none .none vs) (ps : IsPart vs (some (-1))) (h : Q ((n : Int) - 1, -1, n) s) :
    wpAny (model prog w) A (Builtin.Slice.sliceApplied (.ref sl) (pure (n : Int))) Q E s := by
  obtain ⟨o, ho, _, hd⟩ := hs
  unfold Builtin.Slice.sliceApplied Builtin.Slice.sliceFields
  apply wpAny_bind
  apply wpAny_bind
  refine wpAny_field ho hd (x := .none) rfl ?_
  apply wpAny_bind
  refine wpAny_field ho hd (x := .none) rfl ?_
  apply wpAny_bind
  refine wpAny_field ho hd (x := vs) rfl ?_
  apply wpAny_pure
  apply wpAny_bind
  refine HT.slicePart_ ps ?_
  show wpAny _ _ (if ((-1 : Int) == 0) = true then _ else _) _ _ s
  rw [if_neg (by decide)]
  apply wpAny_bind
  refine HT.slicePart_ .none ?_
  apply wpAny_bind
  refine HT.slicePart_ .none ?_
  apply wpAny_bind
  apply wpAny_pure
  show wpAny _ _ (pure ((n : Int) - 1, (-1 : Int), Builtin.Slice.slicePlaces ((n : Int) - 1) (-1) (-1))) _ _ s
  rw [back_places]
  exact wpAny_pure h
theorem back_item {t sl : Addr} {items : Array Value} {vs : Value} {Q : Value → Shared → Prop} (ht : IsTup s.heap t items) (hs : s.heap.IsSliceOf sl .none .none vs) (ps : IsPart vs (some (-1)))
    (h : Q (.ref s.heap.objs.size) { s with heap := s.heap.push { cls := .type "tuple", data := .seq items.toList.reverse.toArray } }) (hz : items.size ≤ sizeLine) :
    wpAny (model prog w) A (getItem (.ref t) (.ref sl)) Q E s := by
  have ok : sizeOk (.seq items.toList.reverse.toArray) := by
    show items.toList.reverse.toArray.size ≤ sizeLine
    simpa using hz
  have hT : s.TypeIs (.ref sl) "slice" := by
    obtain ⟨o, ho, hc, _⟩ := hs
    exact ⟨o, ho, hc⟩
  unfold getItem
  with_reducible refine wpAny_holding ?_
  apply wpAny_bind
  refine wpAny_sequenceKey ht.typeIs (by decide) ?_
  apply wpAny_bind
  refine wpAny_callSpecial?_slot (name := Str.ofString "__getitem__") ht.typeIs PyProof.Rows.slot_tuple_getitem ?_
  refine wpAny_call_entry PyProof.Rows.slot_tuple_getitem ht.typeIs entry_tuple_getitem ?_ (args_tuple_getitem _ _)
  show wpAny _ _ (Builtin.Tuple.tupleItemsOf (.ref t) >>= _) _ _ s
  apply wpAny_bind
  refine tupleItemsOf_ ht ?_
  apply wpAny_bind
  refine wpAny_typeOf hT ?_
  rw [if_pos (by decide)]
  apply wpAny_bind
  refine back_applied hs ps ?_
  have no : ¬ ((((items.size : Int) - 1) == 0 && (-1 : Int) == 1 && items.size == items.size) = true) := by simp
  show wpAny _ _ (if (((items.size : Int) - 1) == 0 && (-1 : Int) == 1 && items.size == items.size) = true then _ else _) _ _ s
  rw [if_neg no, back_pick]
  first
    | exact wpAny_bind (m := Builtin.Tuple.tupleExact _) (wpAny_newObj_type (wpAny_pure ⟨_, rfl, wpAny_pure h⟩) ok)
    | exact wpAny_bind (m := Builtin.Tuple.tupleExact _) (wpAny_newObj_type (wpAny_bind (wpAny_pure (wpAny_pure ⟨_, rfl, wpAny_pure h⟩))) ok)
    | exact wpAny_bind (wpAny_bind (m := Builtin.Tuple.tupleExact _) (wpAny_newObj_type (wpAny_pure (wpAny_pure ⟨_, rfl, wpAny_pure h⟩)) ok))
    | exact wpAny_bind (wpAny_bind (m := Builtin.Tuple.tupleExact _) (wpAny_newObj_type (wpAny_pure ⟨_, rfl, wpAny_pure h⟩) ok))
end
section
variable {X : Cx}
def tBackT (K : PySem.W.Frag) (te : TE) : TE := fun σ H Q => te σ H fun x H1 => ∃ a xs, x = .ref a ∧ SqT K H1 a xs ∧ ∀ p, H1 p = none → Q (.ref p) (upd H1 p (.tup xs.reverse))
theorem pe_backT {e : Expr} {te : TE} {k : Nat} {p1 p2 p3 pos : Pos} (he : PE X e te) : PE X (.Subscript e (.Slice none none (some (.UnaryOp .USub (.Constant (.int 1) k p1) p2)) p3) pos) (tBackT X.K te) := by
  have part : PO X (some (.UnaryOp .USub (.Constant (.int 1) k p1) p2)) (tPart (tUn (rU fun i => .int (-i)) (tC (.int 1)))) := po_some (pe_un un_neg pe_int)
  constructor
  intro pins s σ H Q I h
  apply Subscript_
  refine thn (he.run pins s σ H _ I h) ?_
  rintro v s1 ⟨x, H1, I1, r1, a, xs, rfl, hx, q⟩
  cases r1
  apply wpAny_Slice
  refine thn (po_none.run pins s1 σ H1 (fun o G => o = none ∧ G = H1) I1 ⟨rfl, rfl⟩) ?_
  rintro vl s2 ⟨_, _, I2, pl, rfl, rfl⟩
  refine thn (po_none.run pins s2 σ _ (fun o G => o = none ∧ G = _) I2 ⟨rfl, rfl⟩) ?_
  rintro vu s3 ⟨_, _, I3, pu, rfl, rfl⟩
  refine thn (part.run pins s3 σ _ (fun o G => o = some (-1) ∧ G = _) I3 ⟨1, rfl, -1, rfl, rfl, rfl⟩) ?_
  rintro vs s4 ⟨_, G, I4, ps, rfl, rfl⟩
  cases pl
  cases pu
  have I5 : Inv X pins σ G { s4 with heap := s4.heap.push { cls := .type "slice", data := .fields #[.none, .none, vs] } } := I4.kept (t' := s4.toks) fun _ _ z => Heap.get?_push_of_some _ z
  obtain ⟨its, r, ht, hz⟩ := I5.tuple hx
  show wpAny (model X.prog X.w) X.A (subscriptTail e (.Slice none none (some (.UnaryOp .USub (.Constant (.int 1) k p1) p2)) p3) (.ref a) (.ref s4.heap.objs.size)) (EP X pins σ Q) X.xe { s4 with heap := s4.heap.push { cls := .type "slice", data := .fields #[.none, .none, vs] } }
  refine tail_any (ops := [.ref a, .ref s4.heap.objs.size]) ht.typeIs PyProof.Rows.slot_tuple_getitem.lookup ?_ (by with_unfolding_all rfl)
  have hl := r.length
  refine back_item ht (Heap.IsSliceOf.new ..) ps ?_ (by rw [List.size_toArray]; omega)
  have J := I5.laid (t' := s4.toks) (o := .tup xs.reverse) (fun _ _ z => Heap.get?_push_of_some _ z) (Nat.le_refl _) ⟨by rw [List.length_reverse]; exact hz, _, r.reverse, IsTup.new _ _⟩
  exact ⟨.ref _, _, J, rfl, q _ (I5.hok.fresh (Nat.le_refl _))⟩
end
end Lw

namespace Lw
open PySem PySem.Spec PyProof.Rows L2

/-! ### parts of rows of data -/
def cutD (ds : List PyData) (lo hi : Option Int) : List PyData := (ds.drop (HT.sIx ds.length 0 lo)).take (HT.sIx ds.length ds.length hi - HT.sIx ds.length 0 lo)
theorem tup_at {N : Ban} {H : Hp} {v : V} {ds : List PyData} (h : Dv N H v (.tuple ds)) : ∃ a xs, v = .ref a ∧ H a = some (.tup xs) ∧ DvAll N H xs ds := by
  cases h with
  | tup e all => exact ⟨_, _, rfl, e, all⟩
section
variable {N : Ban} {K : PySem.W.Frag} {H : Hp} {Q : VK}
theorem dv_cut {v : V} {ds : List PyData} {lo hi : Option Int} (h : Dv N H v (.tuple ds)) (q : ∀ u H', Same H H' → Dv N H' u (.tuple (cutD ds lo hi)) → Q u H') : rSlA K v lo hi H Q := by
  obtain ⟨a, xs, rfl, e, all⟩ := tup_at h
  have hl := all.length
  refine ⟨a, xs, rfl, .of e, fun z => ?_, fun z p hp => ?_⟩
  · refine q _ H (.refl H) ?_
    have c : cutD ds lo hi = ds := by
      unfold cutD
      rw [← hl, z.1, z.2]
      show (ds.take (xs.length - 0)) = ds
      rw [List.take_of_length_le (by omega)]
    rw [c]
    exact h
  · have s : Same H (upd H p (.tup (cutV xs lo hi))) := same_new hp _
    refine q _ _ s (.tup upd_same ?_)
    unfold cutD cutV
    rw [← hl]
    exact ((all.same s).drop _).take _
theorem dv_cat {v u : V} {ds es : List PyData} (h : Dv N H v (.tuple ds)) (h2 : Dv N H u (.tuple es)) (hl : ds.length + es.length ≤ 16000000) (q : ∀ y H', Same H H' → Dv N H' y (.tuple (ds ++ es)) → Q y H') : rCatA K v u H Q := by
  obtain ⟨a, xs, rfl, e, all⟩ := tup_at h
  obtain ⟨b, ys, rfl, e2, all2⟩ := tup_at h2
  have l1 := all.length
  have l2 := all2.length
  refine ⟨a, b, xs, ys, rfl, rfl, .of e, .of e2, by rw [sizeLine_eq]; omega, fun z => ?_, fun _ z => ?_, fun _ _ p hp => ?_⟩
  · have c := all.nil_iff.mp z
    subst c
    exact q _ H (.refl H) h2
  · have c := all2.nil_iff.mp z
    subst c
    rw [List.append_nil] at q
    exact q _ H (.refl H) h
  · have s : Same H (upd H p (.tup (xs ++ ys))) := same_new hp _
    exact q _ _ s (.tup upd_same ((all.app all2).same s))
end
end Lw

namespace Lw
open PySem PySem.Spec PyProof.Rows L2

/-! ### own exceptions of one field -/
/-- what the written part says of an exception's class x -/
structure Ec (K : PySem.W.Frag) (mg : Str → Option Value) (x f : Str) (st : Stmt) (C fI : Addr) (fd : FuncData) : Prop where
  gC : mg x = some (.ref C)
  ox : OexC K C
  xf : XfC K C
  iC : PySem.W.findIn K (.ref C) "__init__" = some (some (.ref fI))
  tI : PySem.W.typeIn K (.ref fI) = some (.type "function")
  te : PySem.W.exmOne K (.ref C) (.ref C) = some true
  no : PySem.W.findIn K (.ref C) f = some none
  fn : Fun K "__init__" (x ++ ".__init__") st fI fd
  bd : Binds K fd ["self", f] []
/-- self.f = f, on a new exception -/
def spInit (f : Str) (C : Addr) : Sp := fun vs H Q _ => ∃ (a : Addr) (v : V), vs = [.ref a, v] ∧ H a = some (exo a C none) ∧ ∀ dx, H dx = none → dx ≠ a → Q .non (upd (upd H dx (exd dx [(f, v)])) a (exo a C (some dx)))
/-- a row of arguments, its end weakened -/
def tUp (ta : TA) : TA := fun σ H Q => ∃ R : List V → Hp → Prop, ta σ H R ∧ ∀ vs H1, R vs H1 → Q vs H1
theorem _root_.L2.PA.up {X : Cx} {es : List Expr} {ta : TA} (h : PA X es ta) : PA X es (tUp ta) := ⟨fun pos pins s σ H Q I ⟨R, q, i⟩ => thn (h.run pos pins s σ H R I q) fun us s1 ⟨vs, H1, I1, r, z⟩ => ⟨vs, H1, I1, r, i _ _ z⟩⟩
/-- X(v) -/
def tMk1 (C : Addr) (f : Str) (ta : TA) : L2.St → Hp → XK → Prop := fun σ H Q => ta σ H fun vs H1 => ∃ v, vs = [v] ∧ ∀ d H', Same H1 H' → H1 d = none → H' d = some (.xd [(f, v)]) → Q (.ref C) (some d) H'
section
variable {X : Cx} {CX : CXT} {x f : Str} {st : Stmt} {C fI : Addr} {fd : FuncData} {k : Nat} {e : Expr} {ta : TA} {p pos : Pos}
end
end Lw

namespace Lw
open PySem PySem.Spec PyProof.Rows L2
/-! ### rows of Trues -/
abbrev trues (n : Nat) : List V := List.replicate n (V.bl true)
theorem trues_all (n : Nat) : (List.replicate n true).map V.bl = trues n := List.map_replicate ..
theorem all_trues (n : Nat) : (List.replicate n true).all id = true := by
  induction n with
  | zero => rfl
  | succ n ih =>
    rw [List.replicate_succ, List.all_cons, ih] <;> rfl
theorem trues_more (n : Nat) : trues n ++ [V.bl true] = trues (n + 1) := List.replicate_succ'.symm
section
variable {K : PySem.W.Frag} {g : TG} {te : TE} {vs : List Nat} {σ : L2.St} {H1 : Hp} {D : Addr} {σ' : V → L2.St}
/-- [e for x in xs], each True -/
theorem lcr_true {Qd : Hp → Prop} {lo : Int} {n : Nat} (hD : H1 D = none) (hl : n ≤ 1000) (hg : ∀ x H (k : L2.St → Hp → Prop), k (σ' x) H → g x (wipe σ vs) H k) (hw : ∀ x, wipe (σ' x) vs = wipe σ vs)
    (turn : ∀ (i : Nat) H, i < n → Same H1 H → H D = some (.lst (trues i)) → ∀ R : V → Hp → Prop, (∀ H', Same H1 H' → H' D = H D → R (.bl true) H') → te (σ' (.int (lo + i))) H R)
    (done : ∀ H, Same H1 H → H D = some (.lst (trues n)) → Qd H) :
    ∃ W : Nat → Nat → Hp → Prop, (∃ m, W 0 m (upd H1 D (HO.lst []))) ∧ ∀ (i m : Nat) (H : Hp), W i m H → (Itr lo n).stop i H ∧ Qd H ∨ (Itr lo n).go i H ∧ ∃ Nx : Hp → Prop, (∀ (H' : Hp), Nx H' → ∃ m', m' < m ∧ W (i + 1) m' H') ∧
      ∀ (x : V) (H' : Hp), (Itr lo n).yld i H x H' → g x (wipe σ vs) H' fun σ2 H2 => wipe σ2 vs = wipe σ vs ∧ tYes σ2 H2 fun b H3 => if b = true then te σ2 H3 fun y H4 => ∃ acc, H4 D = some (HO.lst acc) ∧ acc.length < sizeLine ∧ Nx (upd H4 D (HO.lst (acc ++ [y]))) else Nx H3 := by
  refine lc_range (te := te) (fun i H => i ≤ n ∧ Same H1 H ∧ H D = some (.lst (trues i))) ⟨Nat.zero_le _, same_new hD _, upd_same⟩ ?_ (fun H z => done H z.2.1 z.2.2)
  rintro i H il ⟨hi, sm, hd⟩
  refine hg _ H _ ⟨hw _, ?_⟩
  show te (σ' _) H _
  refine turn i H il sm hd _ fun H' s2 e2 => ?_
  refine ⟨trues i, e2.trans hd, by rw [List.length_replicate, sizeLine_eq]; omega, ⟨by omega, fun b u z => ?_, ?_⟩⟩
  · rw [upd_ne (ne_of_none z hD)]
    exact s2 b u z
  · rw [upd_same, trues_more]
end
end Lw

namespace Lw
open PySem PySem.Spec PyProof.Rows L2
/-! ### comprehensions over lists, item by item -/
/-- tuples stay -/
def Tk (H H' : Hp) : Prop := ∀ b xs, H b = some (.tup xs) → H' b = some (.tup xs)
theorem Tk.of {H H' : Hp} (k : Same H H') : Tk H H' := fun b xs q => k b _ q
theorem Tk.trans {H H1 H2 : Hp} (a : Tk H H1) (b : Tk H1 H2) : Tk H H2 := fun c xs q => b c xs (a c xs q)
theorem Tk.put {H : Hp} {D : Addr} {ys : List V} {o : HO} (h : H D = some (.lst ys)) : Tk H (upd H D o) := fun b xs q => by
  rw [upd_ne (ne_of q h (by intro z; cases z))]
  exact q
/-- data of tuples and small things alone, at any ban -/
abbrev allB : Ban := fun _ => True
theorem Dv.tk {H H' : Hp} {d : PyData} {v : V} (h : Dv allB H v d) (k : Tk H H') : Dv allB H' v d := h.map (fun b u n _ => absurd trivial n) k _ _
section
variable {K : PySem.W.Frag} {g : TG} {te : TE} {vs : List Nat} {σ : L2.St} {H1 : Hp} {D : Addr} {σ' : V → L2.St}
end
end Lw

namespace Lw
open PySem
/-! ### whole roots -/
def isq (n : Int) : Int := ((Float64.isqrt n.toNat : Nat) : Int)
end Lw

namespace Lw
/-! ### signs of a + b root r by squares -/
def sg (x : Int) : Int := if 0 < x then 1 else if x = 0 then 0 else -1
def ab (x : Int) : Int := if x < 0 then -x else x
/-- the square, with the sign -/
def ss (x : Int) : Int := x * ab x
def S2 (a u : Int) : Int := if sg a = sg u ∨ sg u = 0 then sg a else if sg a = 0 then sg u else sg a * sg (a * a - ab u)
/-- the sign of a + root u + root v -/
def S3 (a u v : Int) : Int := if S2 a u = sg v ∨ sg v = 0 then S2 a u else if S2 a u = 0 then sg v else S2 a u * S2 (a * a + ab u - ab v) (4 * ss a * u)
end Lw

namespace Lw
open PySem L2
theorem two_le {a : Int} {m n : Nat} (h : a.natAbs < 2 ^ m) (hmn : m ≤ n) : a.natAbs < 2 ^ n := Nat.lt_of_lt_of_le h (Nat.pow_le_pow_right (by decide) hmn)
def isSqB (n : Int) : Bool := decide (0 ≤ n) && decide (isq n * isq n = n)
def gcdI (a b : Int) : Int := ((Nat.gcd a.natAbs b.natAbs : Nat) : Int)
theorem gcd_step {f r : Int} (hf : 0 ≤ f) (hr : 0 < r) : gcdI r (f % r) = gcdI f r := by
  obtain ⟨a, rfl⟩ := Int.eq_ofNat_of_zero_le hf
  obtain ⟨b, rfl⟩ := Int.eq_ofNat_of_zero_le (Int.le_of_lt hr)
  unfold gcdI
  rw [← Int.natCast_emod, Int.natAbs_natCast, Int.natAbs_natCast, Int.natAbs_natCast, Nat.gcd_comm b (a % b), Nat.gcd_comm a b, ← Nat.gcd_rec b a]
theorem gcd_zero {f : Int} (hf : 0 ≤ f) : gcdI f 0 = f := by
  unfold gcdI
  rw [show (0 : Int).natAbs = 0 from rfl, Nat.gcd_zero_right]
  omega
theorem gcd_abs (a b : Int) : gcdI (if a < 0 then -a else a) (if b < 0 then -b else b) = gcdI a b := by
  unfold gcdI
  have e : ∀ x : Int, (if x < 0 then -x else x).natAbs = x.natAbs := fun x => by split <;> omega
  rw [e, e]
theorem if_nn (a : Int) : 0 ≤ (if a < 0 then -a else a) := by split <;> omega
def gz (a b : Int) : Int := if b < 0 then -gcdI a b else gcdI a b
def redN (a b : Int) : Int := a.fdiv (gz a b)
def redD (a b : Int) : Int := b.fdiv (gz a b)
theorem gcd_pos {a b : Int} (hb : b ≠ 0) : 0 < gcdI a b := by
  unfold gcdI
  have : 0 < Nat.gcd a.natAbs b.natAbs := Nat.gcd_pos_of_pos_right _ (by omega)
  omega
theorem gcd_le {a b : Int} (hb : b ≠ 0) : (gcdI a b).natAbs ≤ b.natAbs := by
  unfold gcdI
  rw [Int.natAbs_natCast]
  exact Nat.le_of_dvd (by omega) (Nat.gcd_dvd_right _ _)
theorem gz_ne {a b : Int} (hb : b ≠ 0) : gz a b ≠ 0 := by
  have := gcd_pos (a := a) hb
  unfold gz
  split <;> omega
theorem gz_abs (a b : Int) : (gz a b).natAbs = (gcdI a b).natAbs := by
  unfold gz
  split <;> omega
theorem gz_lt {a b : Int} (hb : b ≠ 0) {n : Nat} (h : b.natAbs < n) : (gz a b).natAbs < n := by
  rw [gz_abs]
  exact Nat.lt_of_le_of_lt (gcd_le hb) h
def quadD (p q s : Int) (up : Bool) : PyData :=
  .tuple [.int (p.fdiv (gcdI (gcdI p q) s)), .int (q.fdiv (gcdI (gcdI p q) s)), .int (s.fdiv (gcdI (gcdI p q) s)), .bool up]
def fracD (a b : Int) : PyData := .tuple [.int (redN a b), .int (redD a b)]
def formD (a b r d : Int) : PyData := if b = 0 ∨ isSqB r = true then fracD (a + b * isq r) d else quadD (d * d) (0 - 2 * a * d) (a * a - b * b * r) (decide (0 < b))
/-- n / m in its one form -/
def IsFr (a b : Int) : Prop := 0 < b ∧ gcdI a b = 1
theorem gcd_dvd_l (a b : Int) : gcdI a b ∣ a := Int.natAbs_dvd_natAbs.mp (by unfold gcdI; rw [Int.natAbs_natCast]; exact Nat.gcd_dvd_left _ _)
theorem gcd_dvd_r (a b : Int) : gcdI a b ∣ b := Int.natAbs_dvd_natAbs.mp (by unfold gcdI; rw [Int.natAbs_natCast]; exact Nat.gcd_dvd_right _ _)
theorem red_pos {a b : Int} (hb : 0 < b) : redN a b = a / gcdI a b ∧ redD a b = b / gcdI a b := by
  have g := gcd_pos (a := a) (b := b) (by omega)
  unfold redN redD gz
  rw [if_neg (by omega), Int.fdiv_eq_ediv_of_nonneg _ (by omega), Int.fdiv_eq_ediv_of_nonneg _ (by omega)]
  exact ⟨rfl, rfl⟩
theorem red_fr {a b : Int} (hb : 0 < b) : IsFr (redN a b) (redD a b) := by
  have g := gcd_pos (a := a) (b := b) (by omega)
  obtain ⟨e1, e2⟩ := red_pos (a := a) hb
  obtain ⟨x, hx⟩ := gcd_dvd_l a b
  obtain ⟨y, hy⟩ := gcd_dvd_r a b
  have x1 : a / gcdI a b = x := by
    conv => lhs; lhs; rw [hx]
    exact Int.mul_ediv_cancel_left x (by omega)
  have y1 : b / gcdI a b = y := by
    conv => lhs; lhs; rw [hy]
    exact Int.mul_ediv_cancel_left y (by omega)
  have yp : 0 < y := by
    apply Decidable.byContradiction
    intro c
    have : gcdI a b * y ≤ 0 := Int.mul_nonpos_of_nonneg_of_nonpos (by omega) (by omega)
    omega
  rw [e1, e2, x1, y1]
  refine ⟨yp, ?_⟩
  have m : gcdI a b = gcdI a b * gcdI x y := by
    have z : ∀ c u v : Int, 0 ≤ c → gcdI (c * u) (c * v) = c * gcdI u v := fun c u v hc => by
      unfold gcdI
      rw [Int.natAbs_mul, Int.natAbs_mul, Nat.gcd_mul_left, Int.natCast_mul]
      have : ((c.natAbs : Nat) : Int) = c := by omega
      rw [this]
    have q := z (gcdI a b) x y (by omega)
    rw [← hx, ← hy] at q
    exact q
  have z : gcdI a b * (gcdI x y - 1) = 0 := by
    rw [Int.mul_sub, ← m]
    omega
  rcases Int.mul_eq_zero.mp z with z | z
  · omega
  · omega
theorem red_le {a b : Int} (hb : 0 < b) : (redN a b).natAbs ≤ a.natAbs ∧ (redD a b).natAbs ≤ b.natAbs := by
  have g := gcd_pos (a := a) (b := b) (by omega)
  obtain ⟨e1, e2⟩ := red_pos (a := a) hb
  rw [e1, e2]
  have d : ∀ x : Int, (x / gcdI a b).natAbs ≤ x.natAbs := fun x => Int.natAbs_ediv_le_natAbs x _
  exact ⟨d a, d b⟩
def isFrB : PyData → Bool
  | .tuple [.int a, .int b] => decide (0 < b) && decide (gcdI a b = 1)
  | _ => false
def under (p q s : Int) : Int := q * q - 4 * p * s
def isRootB : PyData → Bool
  | .tuple [.int p, .int q, .int s, .bool _] => decide (0 < p) && (decide (gcdI (gcdI p q) s = 1) && (decide (0 < under p q s) && !isSqB (under p q s)))
  | _ => false
def isNumB (d : PyData) : Bool := isFrB d || isRootB d
def Okay (b r : Int) : Prop := b = 0 ∨ 0 < r
/-- how two spreads compare -/
def cmp (a b r d c e s v : Int) : Int := S3 (a * v - c * d) (ss (b * v) * r) (ss (0 - e * d) * s)
/-- a' + b' root r' over d' is a + b root r over d; where r is a square, b' may be 0 -/
def Like (a b r d a' b' r' d' : Int) : Prop := ∃ g h : Int, 0 < g ∧ 0 < h ∧ g * d' = h * d ∧
  ((g * a' = h * a ∧ g * g * (ss b' * r') = h * h * (ss b * r)) ∨ (b' = 0 ∧ r' = 0 ∧ ∃ t, ss t = ss b * r ∧ g * a' = h * (a + t)))
def sqX (b r m : Int) : Int := m * m * b * b * r
def topF (a b r m : Int) : Int := if 0 ≤ b then m * a + isq (sqX b r m) else m * a - isq (sqX b r m) - (if isq (sqX b r m) * isq (sqX b r m) = sqX b r m then 0 else 1)
def flN (a b r d m : Int) : Int := topF a b r m / d
def flB (a b r d m : Int) : Bool := decide (S2 (m * a - flN a b r d m * d) (ss (m * b) * r) = 0)
def Numb (a b r d : Int) : Prop := a.natAbs < 2 ^ 160 ∧ b.natAbs < 2 ^ 160 ∧ r.natAbs < 2 ^ 160 ∧ d.natAbs < 2 ^ 160 ∧ 0 ≤ r ∧ 0 < d
def Alike (a b r d a' b' r' d' : Int) : Prop := ∃ g h : Int, 0 < g ∧ 0 < h ∧ g * d' = h * d ∧ g * a' = h * a ∧ g * g * (ss b' * r') = h * h * (ss b * r)
theorem Alike.symm {a b r d a' b' r' d' : Int} (l : Alike a b r d a' b' r' d') : Alike a' b' r' d' a b r d := by
  obtain ⟨g, h, hg, hh, e1, e2, e3⟩ := l
  exact ⟨h, g, hh, hg, e1.symm, e2.symm, e3.symm⟩
end Lw

namespace Lw
open PySem L2
def Fine4 (a b r d : Int) : Prop := a.natAbs < 2 ^ 5300 ∧ b.natAbs < 2 ^ 900 ∧ r.natAbs < 2 ^ 10600 ∧ d.natAbs < 2 ^ 5300
/-- a number's form by data; its spread: a + b root r over d -/
def NumD (x : PyData) (a b r d : Int) : Prop :=
  (x = .tuple [.int a, .int d] ∧ b = 0 ∧ r = 0) ∨
  ∃ (p q s : Int) (u : Bool), x = .tuple [.int p, .int q, .int s, .bool u] ∧ a = -q ∧ b = (if u = true then 1 else -1) ∧ r = q * q - 4 * p * s ∧ d = 2 * p ∧ p.natAbs < 2 ^ 5300 ∧ q.natAbs < 2 ^ 5300 ∧ s.natAbs < 2 ^ 5300
end Lw

namespace Lw
open PySem L2
/-! ### numbers p + q root r over one r, their order -/
/-- p + q root r is from 0 on, by squares -/
def NN (p q r : Int) : Prop := (0 ≤ p ∧ 0 ≤ q) ∨ (0 ≤ p ∧ q * q * r ≤ p * p) ∨ (0 ≤ q ∧ p * p ≤ q * q * r)
end Lw

namespace Lw
open PySem L2
/-! ### the order of a + root u + root v, turned over -/
end Lw

namespace Lw
open PySem L2
/-! ### numbers of one root: sums and products of forms -/
def Bd (a b r d : Int) : Prop := a.natAbs < 2 ^ 450 ∧ b.natAbs < 2 ^ 200 ∧ r.natAbs < 2 ^ 450 ∧ d.natAbs < 2 ^ 450
/-- a root's form as a number: spread and bounds -/
def one7 (a b r w c d s v : Int) : List Int := if r = 0 then [a, b, w, c, d, v, s] else [a, b, w, c * r, d * isq (r * s), v * r, r]
/-- what is told of two spreads over one root -/
structure TwoOk (a b r d c e v a1 b1 w1 c1 d1 v1 r1 : Int) : Prop where
  x1 : a1.natAbs < 2 ^ 20000
  x2 : b1.natAbs < 2 ^ 20000
  x3 : w1.natAbs < 2 ^ 20000
  x4 : c1.natAbs < 2 ^ 20000
  x5 : d1.natAbs < 2 ^ 20000
  x6 : v1.natAbs < 2 ^ 20000
  x7 : r1.natAbs < 2 ^ 4000
  s1 : (a1 * v1 + c1 * w1).natAbs < 2 ^ 4000
  s2 : (b1 * v1 + d1 * w1).natAbs < 2 ^ 4000
  m1 : (a1 * c1 + b1 * d1 * r1).natAbs < 2 ^ 4000
  m2 : (a1 * d1 + b1 * c1).natAbs < 2 ^ 4000
  dd : (w1 * v1).natAbs < 2 ^ 4000
  nz : w1 * v1 ≠ 0
  sq1 : b1 * v1 + d1 * w1 ≠ 0 → isSqB r1 = false
  sq2 : a1 * d1 + b1 * c1 ≠ 0 → isSqB r1 = false
  sum : formD (a1 * v1 + c1 * w1) (b1 * v1 + d1 * w1) r1 (w1 * v1) = formD (a * v + c * d) (b * v + e * d) r (d * v)
  mul : formD (a1 * c1 + b1 * d1 * r1) (a1 * d1 + b1 * c1) r1 (w1 * v1) = formD (a * c + b * e * r) (a * e + b * c) r (d * v)
/-- both over one root, by their values -/
def negD : PyData → PyData
  | .tuple [.int a, .int b] => .tuple [.int (-a), .int b]
  | .tuple [.int p, .int q, .int s, .bool u] => .tuple [.int p, .int (-q), .int s, .bool (!u)]
  | x => x
theorem Bd.neg {a b r d : Int} (z : Bd a b r d) : Bd (-a) (-b) r d := ⟨by have := z.1; omega, by have := z.2.1; omega, z.2.2.1, z.2.2.2⟩
theorem Bd.fr {a d r : Int} (z1 : a.natAbs < 2 ^ 450) (z2 : d.natAbs < 2 ^ 450) (zr : r.natAbs < 2 ^ 450) : Bd a 0 r d := ⟨z1, by decide, zr, z2⟩
end Lw

namespace Lw
open PySem L2
/-! ### wide numbers: as in Num6 with wider bounds -/
def Bw (a b r d : Int) : Prop := a.natAbs < 2 ^ 1500 ∧ b.natAbs < 2 ^ 1100 ∧ r.natAbs < 2 ^ 800 ∧ d.natAbs < 2 ^ 1500
structure TwoOkW (a b r d c e v a1 b1 w1 c1 d1 v1 r1 : Int) : Prop where
  x1 : a1.natAbs < 2 ^ 20000
  x2 : b1.natAbs < 2 ^ 20000
  x3 : w1.natAbs < 2 ^ 20000
  x4 : c1.natAbs < 2 ^ 20000
  x5 : d1.natAbs < 2 ^ 20000
  x6 : v1.natAbs < 2 ^ 20000
  x7 : r1.natAbs < 2 ^ 12200
  s1 : (a1 * v1 + c1 * w1).natAbs < 2 ^ 12200
  s2 : (b1 * v1 + d1 * w1).natAbs < 2 ^ 12200
  m1 : (a1 * c1 + b1 * d1 * r1).natAbs < 2 ^ 12200
  m2 : (a1 * d1 + b1 * c1).natAbs < 2 ^ 12200
  dd : (w1 * v1).natAbs < 2 ^ 12200
  nz : w1 * v1 ≠ 0
  sq1 : b1 * v1 + d1 * w1 ≠ 0 → isSqB r1 = false
  sq2 : a1 * d1 + b1 * c1 ≠ 0 → isSqB r1 = false
  sum : formD (a1 * v1 + c1 * w1) (b1 * v1 + d1 * w1) r1 (w1 * v1) = formD (a * v + c * d) (b * v + e * d) r (d * v)
  mul : formD (a1 * c1 + b1 * d1 * r1) (a1 * d1 + b1 * c1) r1 (w1 * v1) = formD (a * c + b * e * r) (a * e + b * c) r (d * v)
theorem Bw.neg {a b r d : Int} (z : Bw a b r d) : Bw (-a) (-b) r d := ⟨by have := z.1; omega, by have := z.2.1; omega, z.2.2.1, z.2.2.2⟩
theorem Bw.fr {a d r : Int} (z1 : a.natAbs < 2 ^ 1500) (z2 : d.natAbs < 2 ^ 1500) (zr : r.natAbs < 2 ^ 800) : Bw a 0 r d := ⟨z1, by decide, zr, z2⟩
end Lw

namespace Lw
open PySem L2
/-! ### the sign of a wide number's form -/
def Bx (a b r d : Int) : Prop := a.natAbs < 2 ^ 1800 ∧ b.natAbs < 2 ^ 1400 ∧ r.natAbs < 2 ^ 800 ∧ d.natAbs < 2 ^ 1800
def Bp (a b r d : Int) : Prop := a.natAbs < 2 ^ 700 ∧ b.natAbs < 2 ^ 300 ∧ r.natAbs < 2 ^ 800 ∧ d.natAbs < 2 ^ 700
end Lw

namespace Lw
open PySem L2
/-! ### wider numbers under the root: as in Num7 -/
def Bv (a b r d : Int) : Prop := a.natAbs < 2 ^ 1500 ∧ b.natAbs < 2 ^ 880 ∧ r.natAbs < 2 ^ 1220 ∧ d.natAbs < 2 ^ 1500
theorem Bv.neg {a b r d : Int} (z : Bv a b r d) : Bv (-a) (-b) r d := ⟨by have := z.1; omega, by have := z.2.1; omega, z.2.2.1, z.2.2.2⟩
theorem Bv.fr {a d r : Int} (z1 : a.natAbs < 2 ^ 1500) (z2 : d.natAbs < 2 ^ 1500) (zr : r.natAbs < 2 ^ 1220) : Bv a 0 r d := ⟨z1, by decide, zr, z2⟩
end Lw

set_option maxHeartbeats 4000000
/-! made exceptions as values: made by place and by name, asked for their class, their field read -/
namespace Lx
open PySem PySem.Spec PySem.W PySem.Calls PyProof.Rows PySem.HandSPX
section
variable {pr : Program} {wo : World} {Ar : Around} {Er : Value → Shared → Prop} {Rr : Result → Shared → Prop} {hh : Heap} {gg : Array GenState} {dr : Drawn} {tt : Nat} {oo : OsState}
variable {cn qn : Str} {Cc Nn : Addr} {bb bm bB : List Value} {hd : Bool} {sN : List Str} {sC : List Value} {aB : Bool} {cO : Option Bool} {dD : Option Addr} {j0 j1 j2 j3 j5 : Option Value} {Bs nId iId : String}
theorem new_kw (F : ExcBaseFacts Bs nId iId bB) (hT : ∀ Y : String, bm.contains (.type Y) = bB.contains (.type Y)) {kw : List (Str × Value)}
    (hC : hh.get? Cc = some (excClassObj cn qn Cc Nn bb bm hd sN sC aB cO dD j0 j1 j2 j3 j5 nId))
    (q : Rr (.ok (.ret (.ref (hh.objs.size + 1)))) ⟨(hh.push (kdv_tup [])).push (excO Cc hh.objs.size), gg, dr, tt, oo⟩) :
    codeAny (model pr wo) Ar (.builtin nId ⟨[.ref Cc], kw⟩) Rr ⟨hh, gg, dr, tt, oo⟩ := by
  have e0 := F.ends
  have e1 : (Value.ref Cc :: bm).contains (.type Bs) = true := by simp only [List.contains_cons, hT, F.hasB, Bool.or_true]
  have e2 : (Value.ref Cc :: bm).contains (.type "AttributeError") = false := by simp only [List.contains_cons, hT, F.noAttr]; rfl
  have e3 : (Value.ref Cc :: bm).contains (.type "NameError") = false := by simp only [List.contains_cons, hT, F.noName]; rfl
  apply codeAny_builtinAt F.entry
  unfold Builtin.«BaseException.__new__»
  refine PySem.wpAt_bind ?_
  show PySem.wpAt _ _ _ (stack >>= _) _ _ _
  refine PySem.wpAt_bind (PySem.wpAt_stack fun _ _ => PySem.wpAt_of_wpAny ?_)
  wp_walk
  apply PySem.wpAt_of_wpAny
  rw [F.owner]
  repeat (first | (with_reducible refine wpAny_madeHere_exc F.canon hC ?_) | (with_reducible refine wpAny_loadPart_at hC ?_) | (with_reducible refine wpAny_isSubtype_exc hC ?_; first | rw [e1] | rw [e2] | rw [e3]) | wp_step)
  show Rr _ _
  rw [Heap.size_push]
  exact q
theorem check_kw (F : ExcBaseFacts Bs nId iId bB) (hT : ∀ Y : String, bm.contains (.type Y) = bB.contains (.type Y)) {kw : List (Str × Value)} {Qq : Unit → Shared → Prop}
    (hC : hh.get? Cc = some (excClassObj cn qn Cc Nn bb bm hd sN sC aB cO dD j0 j1 j2 j3 j5 nId)) (q : Qq () ⟨hh, gg, dr, tt, oo⟩) : wpAny (model pr wo) Ar (checkBuiltinCall nId ⟨[.ref Cc], kw⟩) Qq Er ⟨hh, gg, dr, tt, oo⟩ := by
  have e1 : (Value.ref Cc :: bm).contains (.type Bs) = true := by simp only [List.contains_cons, hT, F.hasB, Bool.or_true]
  have e4 := F.noStar
  simp only [checkBuiltinCall, F.newKind, F.newSplit, F.newRow]
  repeat (first | (refine wpAny_loadPart_at hC ?_) | (refine wpAny_isSubtype_exc hC ?_; rw [e1]) | (refine wpAny_staticBase_exc hC ?_) | (refine wpAny_madeBy_exc hC ?_) | (simp only [bne_self_eq_false, Bool.false_eq_true, if_false]) | wp_step)
  exact q
theorem type_kw (F : ExcBaseFacts Bs nId iId bB) (hT : ∀ Y : String, bm.contains (.type Y) = bB.contains (.type Y)) {kw : List (Str × Value)} {fI : Value} {Qq : Fin → Shared → Prop}
    (hC : hh.get? Cc = some (excClassObj cn qn Cc Nn bb bm hd sN sC aB cO dD j0 j1 j2 j3 j5 nId))
    (hi : W.Looks (model pr wo) hh (typeLookup (.ref Cc) "__init__") (some fI)) (hb : ∀ me, W.Looks (model pr wo) hh (bindSpecial fI me) (fI, [me]))
    (q : codeAny (model pr wo) Ar (.call fI ⟨[.ref (hh.objs.size + 1)], kw⟩)
      (fun r s' => match r with | .ok (.ret v) => v = .none ∧ Qq (.done (.ret (.ref (hh.objs.size + 1)))) s' | .ok _ => False | .error e => Er e s')
      ⟨(hh.push (kdv_tup [])).push (excO Cc hh.objs.size), gg, dr, tt, oo⟩) :
    wpAny (model pr wo) Ar (Builtin.«type.__call__» ⟨[.ref Cc], kw⟩) Qq Er ⟨hh, gg, dr, tt, oo⟩ := by
  repeat (first | (with_reducible refine wpAny_loadPart_at hC ?_) | (with_reducible refine wpAny_madeBy_exc hC ?_) | wp_step)
  refine codeAny_call_builtin_code (Code.quiet_builtin _ F.quiet) (check_kw F hT hC ?_)
  refine new_kw F hT hC ?_
  show wpAny _ _ _ _ _ _
  have kp : ∀ b o, hh.get? b = some o → ((hh.push (kdv_tup [])).push (excO Cc hh.objs.size)).get? b = some o := fun b o e => Heap.get?_push_of_some _ (Heap.get?_push_of_some _ e)
  have hC1 := kp _ _ hC
  have at1 : ((hh.push (kdv_tup [])).push (excO Cc hh.objs.size)).get? (hh.objs.size + 1) = some (excO Cc hh.objs.size) := by heap_get
  have e5 : (Value.ref Cc :: bm).contains (.ref Cc) = true := by simp only [List.contains_cons, beq_self_eq_true, Bool.true_or]
  have l1 := hi.keeps kp
  have l2 := (hb (.ref (hh.objs.size + 1))).keeps kp
  unfold isInstance
  repeat (first | (with_reducible refine wpAny_loadPart_at at1 ?_) | (with_reducible refine wpAny_isSubtype_exc hC1 ?_; rw [e5]) | wp_step)
  show wpAny _ _ (typeLookup (.ref Cc) _) _ _ _
  apply l1.at
  refine wpAny_holding (wpAny_bind (l2.at ?_))
  refine wpAny_bind (wpAny_call (codeAny_mono q ?_))
  rintro (er | (_ | _ | _ | v)) s' z
  · exact z
  · exact z.elim
  · exact z.elim
  · exact z.elim
  · obtain ⟨rfl, y⟩ := z
    first
      | exact wpAny_pure (wpAny_pure y)
      | (wp_walk; exact y)
theorem own_kw (F : ExcBaseFacts Bs nId iId bB) (hT : ∀ Y : String, bm.contains (.type Y) = bB.contains (.type Y)) {kw : List (Str × Value)} {fI : Value}
    (hC : hh.get? Cc = some (excClassObj cn qn Cc Nn bb bm hd sN sC aB cO dD j0 j1 j2 j3 j5 nId))
    (hi : W.Looks (model pr wo) hh (typeLookup (.ref Cc) "__init__") (some fI)) (hb : ∀ me, W.Looks (model pr wo) hh (bindSpecial fI me) (fI, [me]))
    (q : codeAny (model pr wo) (Ar.under (.builtin "type.__call__" ⟨[.ref Cc], kw⟩)) (.call fI ⟨[.ref (hh.objs.size + 1)], kw⟩) (W.InitBack (hh.objs.size + 1) Rr)
      ⟨(hh.push (kdv_tup [])).push (excO Cc hh.objs.size), gg, dr, tt, oo⟩) :
    codeAny (model pr wo) Ar (.call (.ref Cc) ⟨[], kw⟩) Rr ⟨hh, gg, dr, tt, oo⟩ := by
  have t1 := tc_lookup
  have t2 := tc_bind (.ref Cc)
  have t3 : (⟨hh, gg, dr, tt, oo⟩ : Shared).TypeIs (.ref Cc) "type" := ⟨_, hC, rfl⟩
  apply codeAny_of_tree
  show wpAny _ _ (callAny (.ref Cc) _) _ _ _
  repeat (any_goals (first | assumption | (with_reducible refine wpAny_loadPart_at hC ?_) | wp_step))
  refine ⟨rfl, ?_⟩
  refine codeAny_call_builtin_at (Code.quiet_builtin _ (by decide +kernel)) entry_typeCall (wpAny_check_type_call_sub hC (type_kw F hT hC hi hb ?_))
  refine codeAny_mono q ?_
  rintro (er | (_ | _ | _ | v)) s' z <;> exact z
end
end Lx

set_option maxHeartbeats 4000000
/-! the same by readings -/
namespace Lx
open PySem PySem.Spec PyProof.Rows L2 Lw
theorem upd_swap {H : Hp} {a d : Addr} {o u z : HO} (ne : d ≠ a) : upd (upd (upd H a o) d u) a z = upd (upd H d u) a z := by
  funext b
  by_cases h : b = a
  · rw [h, upd_same, upd_same]
  · rw [upd_ne h, upd_ne h]
    by_cases h2 : b = d
    · rw [h2, upd_same, upd_same]
    · rw [upd_ne h2, upd_ne h2, upd_ne h]
section
variable {X : Cx} {pins : List (Addr × Obj)} {σ : L2.St} {H : Hp} {s : Shared} {a C : Addr} {f : Str} {y : V} {u : Value} {Qq : Unit → Shared → Prop} {Er : Value → Shared → Prop} {Ar : Around}
/-- the first store into a new exception: where its dict stands -/
theorem store1 (T : OexC X.K C) (I : Inv X pins σ H s) (ha : H a = some (exo a C none)) (no : PySem.W.findIn X.K (.ref C) f = some none) (ry : RelV y u)
    (q : ∀ dx s', H dx = none → dx ≠ a → dx ≠ sysModules → Inv X pins σ (upd (upd H dx (exd dx [(f, y)])) a (exo a C (some dx))) s' → Qq () s') : wpAny (model X.prog X.w) Ar (setAttr (.ref a) f u) Qq Er s := by
  obtain ⟨nm, qn, N, bs, bm, sn, sub, ab, col, dd, k0, k1, k2, k3, k5, hC, hbm⟩ := T.cls
  have hcl : PySem.W.clsIn X.K C = some { name := nm, bases := bs, mro := .ref C :: bm, ns := N, qualname := qn, hasDict := true, slotNames := sn, subclasses := sub, abstract := ab, collection := col, hasDel := false } := by
    unfold PySem.W.clsIn
    rw [hC] <;> rfl
  obtain ⟨t1, ho⟩ := exo_at I.hok ha
  have big := I.big
  obtain ⟨hp, g, dr, tk, os⟩ := s
  refine PySem.W.set_plain I.kIn (ox := { cls := .ref C, dict := none, data := .fields #[.ref t1, .none, .none, .none, .bool false, .none] }) (od := none) ⟨ho, rfl, rfl, trivial⟩ T.sa ?_
  refine PySem.HandSPX.exc_osa I.kIn ho hcl (show PySem.HandSPX.refsVE (.ref C :: bm) = true from hbm) rfl no ?_
  intro h1 t2 dx kp above apart hx hn
  have fresh : H dx = none := I.hok.fresh above
  have lt : ∀ {b : Addr} {o : Obj}, hp.get? b = some o → b ≠ dx := fun {b o} z e => by
    have := Heap.lt_size z
    rw [e] at this
    exact absurd this (Nat.not_lt.mpr above)
  have un0 : ∀ {b : Addr}, H b = none → b ≠ a := fun {b} n e => by
    rw [e, ha] at n
    cases n
  have ne1 : ∀ {b : Addr} {o : HO}, H b = some o → exo a C none ≠ o → b ≠ a := fun {b o} z n => at_ne ha z n
  refine q dx _ fresh apart (fun e => absurd (show sysModules < hp.objs.size from big) (by rw [← e]; exact Nat.not_lt.mpr above)) (I.un (t' := t2) ?_ ?_)
  · refine { keep := ?_, slot := ?_, free := ?_, there := ?_, tups := ?_, frzs := ?_, tbls := ?_ }
    · intro b o z n _ _
      exact kp b o (un0 n) z
    · intro b o z n _ _
      exact ⟨o.slots, kp b o (un0 n) z⟩
    · intro b o z n _
      rw [upd_ne (un0 n), upd_ne (lt z)]
      exact n
    · intro b o z _
      by_cases e : b = a
      · rw [e]
        exact ⟨_, hx⟩
      · exact ⟨o, kp b o e z⟩
    · intro b xs z
      rw [upd_ne (ne1 z exo_tup), upd_ne (ne_of_none z fresh)]
      exact z
    · intro b o v z
      rw [upd_ne (ne1 z exo_frz), upd_ne (ne_of_none z fresh)]
      exact z
    · intro b ps z
      refine ⟨#[], ?_⟩
      rw [upd_ne (ne1 z exo_tbl), upd_ne (ne_of_none z fresh), z]
      simp
  · intro b o z
    by_cases e : b = a
    · subst e
      rw [upd_same] at z
      cases z
      exact exo_ok hx
    rw [upd_ne e] at z
    by_cases e2 : b = dx
    · subst e2
      rw [upd_same] at z
      cases z
      exact exd_ok hn (relO_put (fs := []) ry fun _ => True.intro)
    rw [upd_ne e2] at z
    refine (I.hok b o z).stay (fun c v hc y => kp c v ?_ y) (fun c hc => ?_) fun c xs hc => ?_
    · rcases hc with hc | hc
      · rw [hc]
        exact e
      · exact ne1 hc exo_own
    · rw [upd_ne (ne1 hc exo_own), upd_ne (ne_of_none hc fresh)]
      exact hc
    · rw [upd_ne (ne1 hc exo_tup), upd_ne (ne_of_none hc fresh)]
      exact hc
end
/-- self.f = e, once, on a new exception -/
def tOst1 (K : PySem.W.Frag) (f : Str) (to te : TE) : TS := fun D σ H => te σ H fun y H1 => to σ H1 fun x H2 => ∃ a C : Addr, x = .ref a ∧ OexC K C ∧ PySem.W.findIn K (.ref C) f = some none ∧
  H2 a = some (exo a C none) ∧ ∀ dx, H2 dx = none → dx ≠ a → dx ≠ sysModules → D.nx σ (upd (upd H2 dx (exd dx [(f, y)])) a (exo a C (some dx)))
theorem ps_ost1 {X : Cx} {o e : Expr} {to te : TE} {f : Str} {p' pos : Pos} (ho : PE X o to) (he : PE X e te) (hs : swapsWith e (some (.Attribute o f p')) pos.line X.env = pure false := by rfl) : PS X (.Assign [.Attribute o f p'] e pos) (tOst1 X.K f to te) := by
  refine ⟨fun pins s σ H D I h => plainObj_wpAny_Assign_Attribute (thn (he.run pins s σ H _ I h) ?_) hs⟩
  rintro v s1 ⟨y, H1, I1, r1, q1⟩
  refine thn (ho.run pins s1 σ H1 _ I1 q1) ?_
  rintro u s2 ⟨x, H2, I2, r2, a, C, rfl, T, no, ha, q⟩
  cases r2
  exact store1 T I2 ha no r1 fun dx s' n ne nm J => ⟨σ, _, J, q dx n ne nm⟩
/-- what __init__ does -/
def spInit1 (f : Str) (C : Addr) : Sp := fun vs H Q _ => ∃ (a : Addr) (v : V), vs = [.ref a, v] ∧ H a = some (exo a C none) ∧ ∀ dx, H dx = none → dx ≠ a → dx ≠ sysModules → Q .non (upd (upd H dx (exd dx [(f, v)])) a (exo a C (some dx)))
/-- a new exception of the class at C, v in its field f -/
def newX (C : Addr) (f : Str) (H1 : Hp) (v : V) (Q : VK) : Prop := ∀ a d, H1 a = none → H1 d = none → d ≠ a → a ≠ sysModules → d ≠ sysModules → Q (.ref a) (upd (upd H1 d (exd d [(f, v)])) a (exo a C (some d)))
def tNew (C : Addr) (f : Str) (ta : TA) : TE := fun σ H Q => ta σ H fun vs H1 => ∃ v, vs = [v] ∧ newX C f H1 v Q
section
variable {X : Cx} {CX : CXT} {x f : Str} {st : Stmt} {C fI : Addr} {fd : FuncData} {k : Nat} {e : Expr} {ta : TA} {te : TE} {p pos : Pos} {pins : List (Addr × Obj)} {σ : L2.St} {s : Shared} {kws : List Keyword}
theorem made_in {hp : Heap} {g : Array GenState} {dr : Drawn} {tk : Nat} {os : OsState} {us : List Value} {H1 : Hp} (I1 : Inv X pins σ H1 ⟨hp, g, dr, tk, os⟩) : H1 (hp.objs.size + 1) = none ∧
    Inv X pins σ (upd H1 (hp.objs.size + 1) (exo (hp.objs.size + 1) C none)) ⟨(hp.push (PySem.W.kdv_tup us)).push (PySem.HandSPX.excO C hp.objs.size), g, dr, tk, os⟩ := by
  have z : hp.objs.size ≤ hp.objs.size + 1 := Nat.le_succ _
  refine ⟨I1.hok.fresh z, I1.laid (t' := tk) (a := hp.objs.size + 1) (fun b o e => Heap.get?_push_of_some _ (Heap.get?_push_of_some _ e)) z (exo_ok (t1 := hp.objs.size) ?_)⟩
  heap_get
theorem new_mods {hp : Heap} {g : Array GenState} {dr : Drawn} {tk : Nat} {os : OsState} {H1 : Hp} (I1 : Inv X pins σ H1 ⟨hp, g, dr, tk, os⟩) : hp.objs.size + 1 ≠ sysModules := fun z => by
  have b : sysModules < hp.objs.size := I1.big
  rw [← z] at b
  exact absurd b (Nat.not_lt.mpr (Nat.le_succ _))
theorem pe_new (T : Ec X.K X.mg x f st C fI fd) (FF : FnOk X.prog X.w X.K X.mg X.base CX0 1 fI fd ["self", f] (spInit1 f C)) (hr : Room k X.A) (hg : Gl X x) (ha : PA X [e] ta) (hk : 2 ≤ k := by decide)
    (hdb : (x == ("__debug__" : Str)) = false := by decide) (he : starEach (e :: []) X.env = (false, eval e X.env) :: starEach [] X.env := by rfl) (hpl : (backTo pos (starEach [] X.env)).any (·.1) = false := by rfl) :
    PE X (.Call (.Name x p) [e] [] pos) (tNew C f ta) := by
  obtain ⟨nm, q, N, bs, bm, sn, sub, ab, col, dd, k0, k1, k2, k3, k5, hC, hbm⟩ := T.ox.cls
  refine ⟨fun pins s σ H Q I h => wpAny_Call_Name_kw (ld_glob I hg T.gC (PySem.W.callWith_K (h₀ := X.base) I.ok.mod.kin T.ox.kC (thn (ha.run pos pins s σ H _ I h) ?_) he hpl) hdb)⟩
  rintro us s1 ⟨vs, H1, I1, r1, v, rfl, qq⟩
  refine ⟨I1.kIn, ?_⟩
  cases r1 with
  | cons rv r0 =>
    cases r0
    rename_i u
    show wpAny _ _ (call (.ref C) [u]) _ _ _
    obtain ⟨hp, g, dr, tk, os⟩ := s1
    obtain ⟨hn, I2⟩ := made_in (C := C) (us := [u]) I1
    have r2 : Vals [V.ref (hp.objs.size + 1), v] [Value.ref (hp.objs.size + 1), u] := .cons rfl (.cons rv .nil)
    have bt := T.bd _ [Value.ref (hp.objs.size + 1), u] I2.kIn rfl
    rw [List.append_nil] at bt
    have hq : spInit1 f C [V.ref (hp.objs.size + 1), v] (upd H1 (hp.objs.size + 1) (exo (hp.objs.size + 1) C none)) (fun y H2 => y = .non ∧ Q (.ref (hp.objs.size + 1)) H2) (fun _ _ _ => False) :=
      ⟨_, v, rfl, upd_same, fun dx h1 h2 h3 => ⟨rfl, by rw [upd_swap h2]; exact qq _ dx hn (by rw [upd_ne h2] at h1; exact h1) h2 (new_mods I1) h3⟩⟩
    have hr' : Room 1 (Around.under X.A (.builtin "type.__call__" ⟨.ref C :: [u], []⟩)) := (hr.mono hk).make C [u] []
    refine wpAny_call (PySem.HandSPX.call_own F.excBase_ValueError (fun Y => PySem.HandSPX.refsVE_contains Y bm hbm) (I1.kIn _ _ hC) (PySem.W.looks_findIn I1.kIn T.iC) (fun me => PySem.W.bind_fn I1.kIn me T.tI) (by show 1 ≤ sizeLine; rw [sizeLine_eq]; omega)
      (codeAny_mono (FF.run _ X.stack _ _ ⟨[Value.ref (hp.objs.size + 1), u], []⟩ _ _ _ _ hr' (I2.env0.make C [u] []) bt r2 hq) ?_))
    rintro (er | (_ | _ | _ | y)) s' z
    · exact pass0 pins σ _ _ er s' I2 z
    · exact z.elim
    · exact z.elim
    · exact z.elim
    · obtain ⟨y', H', I3, ry, rfl, q3⟩ := I2.after z
      exact ⟨ry, .ref _, H', I3, rfl, q3⟩
/-- the same by name -/
theorem pe_newK (T : Ec X.K X.mg x f st C fI fd) (FF : FnOk X.prog X.w X.K X.mg X.base CX0 1 fI fd ["self", f] (spInit1 f C)) (hr : Room k X.A) (hg : Gl X x)
    (bd : ∀ (s : Shared) (us : List Value), X.K.In s.heap → us.length = 2 → BindsTo s fd ⟨us.take 1, ([f] : List Str).zip (us.drop 1)⟩ ((["self", f] : List Str).zip us))
    (hkw : PK X kws ta) (hk : 2 ≤ k := by decide)
    (hdb : (x == ("__debug__" : Str)) = false := by decide) (hall : (backToKw pos (keywordEach kws X.env)).all (·.1.isSome) = true := by rfl) (hks : (backToKw pos (keywordEach kws X.env)).filterMap (·.1) = [f] := by rfl)
    (hpl : ((backTo pos (starEach [] X.env)).any (·.1) || (backToKw pos (keywordEach kws X.env)).any (·.1.isNone)) = false := by rfl) :
    PE X (.Call (.Name x p) [] kws pos) (tNew C f ta) := by
  obtain ⟨nm, q, N, bs, bm, sn, sub, ab, col, dd, k0, k1, k2, k3, k5, hC, hbm⟩ := T.ox.cls
  refine ⟨fun pins s σ H Q I h => wpAny_Call_Name_kw (ld_glob I hg T.gC (PySem.W.callWith_KW0 (h₀ := X.base) I.ok.mod.kin T.ox.kC hall (thn (hkw.run pos pins s σ H _ I h) ?_) hpl) hdb)⟩
  rintro us s1 ⟨vs, H1, I1, r1, v, rfl, qq⟩
  refine ⟨I1.kIn, ?_⟩
  rw [hks]
  cases r1 with
  | cons rv r0 =>
    cases r0
    rename_i u
    show wpAny _ _ (call (.ref C) [] [(f, u)]) _ _ _
    obtain ⟨hp, g, dr, tk, os⟩ := s1
    obtain ⟨hn, I2⟩ := made_in (C := C) (us := []) I1
    have r2 : Vals [V.ref (hp.objs.size + 1), v] [Value.ref (hp.objs.size + 1), u] := .cons rfl (.cons rv .nil)
    have bt := bd _ [Value.ref (hp.objs.size + 1), u] I2.kIn rfl
    have hq : spInit1 f C [V.ref (hp.objs.size + 1), v] (upd H1 (hp.objs.size + 1) (exo (hp.objs.size + 1) C none)) (fun y H2 => y = .non ∧ Q (.ref (hp.objs.size + 1)) H2) (fun _ _ _ => False) :=
      ⟨_, v, rfl, upd_same, fun dx h1 h2 h3 => ⟨rfl, by rw [upd_swap h2]; exact qq _ dx hn (by rw [upd_ne h2] at h1; exact h1) h2 (new_mods I1) h3⟩⟩
    have hr' : Room 1 (Around.under X.A (.builtin "type.__call__" ⟨[.ref C], [(f, u)]⟩)) := (hr.mono hk).make C [] [(f, u)]
    refine wpAny_call (own_kw F.excBase_ValueError (fun Y => PySem.HandSPX.refsVE_contains Y bm hbm) (I1.kIn _ _ hC) (PySem.W.looks_findIn I1.kIn T.iC) (fun me => PySem.W.bind_fn I1.kIn me T.tI)
      (codeAny_mono (FF.run _ X.stack _ _ ⟨[Value.ref (hp.objs.size + 1)], [(f, u)]⟩ _ _ _ _ hr' (I2.env0.make C [] [(f, u)]) bt r2 hq) ?_))
    rintro (er | (_ | _ | _ | y)) s' z
    · exact pass0 pins σ _ _ er s' I2 z
    · exact z.elim
    · exact z.elim
    · exact z.elim
    · obtain ⟨y', H', I3, ry, rfl, q3⟩ := I2.after z
      exact ⟨ry, .ref _, H', I3, rfl, q3⟩
/-- what the top says of an own exception without __init__ -/
structure Ec0 (K : PySem.W.Frag) (mg : Str → Option Value) (x : Str) (C : Addr) : Prop where
  gC : mg x = some (.ref C)
  ox : OexC K C
  iC : PySem.W.findIn K (.ref C) "__init__" = some (some (.builtin "ValueError.__init__"))
/-- C(), an own exception without fields -/
theorem pe_new0 (T : Ec0 X.K X.mg x C) (hg : Gl X x) (hdb : (x == ("__debug__" : Str)) = false := by decide) :
    PE X (.Call (.Name x p) [] [] pos) (fun σ H Q => ∀ a, H a = none → a ≠ sysModules → Q (.ref a) (upd H a (exo a C none))) := by
  obtain ⟨nm, q, N, bs, bm, sn, sub, ab, col, dd, k0, k1, k2, k3, k5, hC, hbm⟩ := T.ox.cls
  refine ⟨fun pins s σ H Q I h => wpAny_Call_Name_kw (ld_glob I hg T.gC (PySem.W.callWith_K0 I.kIn T.ox.kC ?_) hdb)⟩
  show wpAny _ _ (call (.ref C) []) _ _ _
  have kin := I.kIn
  have hfr := I.hok
  obtain ⟨hp, g, dr, tk, os⟩ := s
  have z : hp.objs.size ≤ hp.objs.size + 1 := Nat.le_succ _
  refine wpAny_call (own_kw (kw := []) F.excBase_ValueError (fun Y => PySem.HandSPX.refsVE_contains Y bm hbm) (kin _ _ hC) (PySem.W.looks_findIn kin T.iC) (fun me => ?_) ?_)
  · have e := F.excBase_ValueError.init.bind me
    rw [e]
    exact .now
  have kk : ∀ b o, hp.get? b = some o → ((hp.push (PySem.W.kdv_tup [])).push (PySem.HandSPX.excO C hp.objs.size)).get? b = some o := fun b o e => Heap.get?_push_of_some _ (Heap.get?_push_of_some _ e)
  have at1 : ((hp.push (PySem.W.kdv_tup [])).push (PySem.HandSPX.excO C hp.objs.size)).get? (hp.objs.size + 1) = some (PySem.HandSPX.excO C hp.objs.size) := by heap_get
  refine PySem.HandSPX.init_base F.excBase_ValueError (fun Y => PySem.HandSPX.refsVE_contains Y bm hbm) (kk _ _ (kin _ _ hC)) at1 (Nat.zero_le _) fun h' t1 k hx => ?_
  have ne : ∀ {b : Addr} {o : Obj}, hp.get? b = some o → b ≠ hp.objs.size + 1 := fun {b o} e => Nat.ne_of_lt (Nat.lt_succ_of_lt (Heap.lt_size e))
  exact ⟨rfl, .ref _, _, I.laid (t' := tk) (a := hp.objs.size + 1) (h' := h') (fun b o e => k b o (ne e) (kk b o e)) z (exo_ok hx), rfl, h _ (hfr.fresh z) (new_mods I)⟩
end
/-! ### asked for their class -/
/-- an exception of the class at C, whatever its dict holds -/
def IsX (H : Hp) (a C : Addr) : Prop := H a = some (exo a C none) ∨ ∃ d fs, H a = some (exo a C (some d)) ∧ H d = some (exd d fs)
theorem isx_at {X : Cx} {pins : List (Addr × Obj)} {σ : L2.St} {H : Hp} {s : Shared} {a C : Addr} (I : Inv X pins σ H s) (h : IsX H a C) : ∃ ox od, PySem.W.InstAt s.heap a ox C od := by
  rcases h with h | ⟨d, fs, h, hd⟩
  · obtain ⟨t, e⟩ := exo_at I.hok h
    exact ⟨_, none, e, rfl, rfl, trivial⟩
  · obtain ⟨t, e⟩ := exo_at I.hok h
    obtain ⟨mA, ⟨o, es, ep, ho, _⟩, _⟩ := exd_at I.hok hd
    exact ⟨_, some o, e, rfl, rfl, ho⟩
section
open PySem.W
variable {pr : Program} {wo : World} {Ar : Around} {Er : Value → Shared → Prop} {s : Shared} {K : Frag} {x D : Addr} {ox : Obj} {od : Option Obj}
theorem find_any {C : Addr} {name : Str} {a g : Value} (h1 : hasDictIn K C = true) (h2 : findIn K (.ref C) name = some (some a)) (h3 : specialIn K a "__get__" = some (some g)) (h4 : takesIn K a = some true) : findObj K C od name = some (.bind g a) := by
  obtain ⟨cd, e, _⟩ := any_some h1
  cases od with
  | none => exact findObj_dataN (by rw [e]; rfl) h2 h3 h4
  | some o => exact findObj_data (by rw [e]; rfl) h2 h3 h4
/-- e.__class__ -/
theorem class_is (T : ExcC K D) {Qq : Option Value → Shared → Prop} (kin : K.In s.heap) (I : InstAt s.heap x ox D od) (h : Qq (some (.ref D)) { s with toks := s.toks + 1 }) : wpAny (model pr wo) Ar (getAttr? (.ref x) "__class__") Qq Er s := by
  have ff : findObj K D od "__class__" = some (.bind (.builtin "getset_descriptor.__get__") (.builtin "object.__class__")) := find_any T.hd T.ha T.hn T.ht
  obtain ⟨hp, gg, dr, tt, oo⟩ := s
  have l0 := I.type (M := model pr wo)
  have l1 := looks_findIn (M := model pr wo) kin T.hg
  have l2 := looks_findIn (M := model pr wo) kin T.hk
  have l3 := looks_find (M := model pr wo) kin I ff
  have l4 : Looks (model pr wo) hp (isInstance (.ref x) (.type "BaseException")) true := l0.andThen (looks_subIn kin T.hs)
  have b0 : (false && onTheHeap (Value.builtin "BaseException.__getattribute__")) = false := rfl
  have b2 : (Value.builtin "BaseException.__getattribute__" == Value.builtin "object.__getattribute__") = false := by decide +kernel
  have b1 : (onTheHeap (Value.ref D) && Value.builtin "BaseException.__getattribute__" == Value.builtin "object.__getattribute__") = false := by rw [b2, Bool.and_false]
  unfold getAttr? getAttrBy? getAttrBy
  refine wpAny_bind (wpAny_mkText ?_)
  refine wpAny_bind (wpAny_attempt (wpAny_holding (wpAny_bind (l0.at (wpAny_bind (l1.at ?_))))))
  show wpAny _ _ (if (onTheHeap (Value.ref D) && Value.builtin "BaseException.__getattribute__" == Value.builtin "object.__getattribute__") = true then _ else _) _ _ _
  rw [if_neg (by rw [b1]; exact Bool.false_ne_true)]
  unfold getAttrByItsOwn hookBefore
  refine wpAny_bind ?_
  rw [if_pos (show onTheHeap (Value.ref D) = true from rfl)]
  apply l2.at
  refine wpAny_bind (wpAny_attempt (wpAny_holding ?_))
  unfold callGetattribute
  rw [if_neg (by rw [b0]; exact Bool.false_ne_true)]
  unfold boundAndCalled
  rw [PySem.F.excAttr_ValueError.ga.bind (.ref x)]
  refine wpAny_bind (wpAny_pure ?_)
  show wpAny _ _ (call (.builtin "BaseException.__getattribute__") [.ref x, .str "__class__" tt]) _ _ _
  refine wpAny_call (codeAny_call_builtin PySem.F.excAttr_ValueError.ga.plain PySem.F.entry_bexc_ga ?_)
  refine @check_slot (model pr wo) _ _ ⟨hp, gg, dr, tt + 1, oo⟩ "BaseException.__getattribute__" "BaseException" "__getattribute__" (.ref x) [.str "__class__" tt] [] _ (by decide +kernel) (by decide +kernel) l4 (PySem.F.args_bexc_ga (.ref x) (.str "__class__" tt)) ?_
  unfold Builtin.«object.__getattribute__»
  refine wpAny_bind (wpAny_of_eq (a := ((Value.ref x : Value), [Value.str "__class__" tt])) (by first | rfl | (simp only [slotArgs]; rfl)) ?_)
  refine wpAny_bind (wpAny_pure (wpAny_bind (l0.at (wpAny_bind (l3.at ?_)))))
  show wpAny _ _ (holding [Value.builtin "object.__class__"] (call (.builtin "getset_descriptor.__get__") [.builtin "object.__class__", .ref x, .ref D]) >>= ret) _ _ _
  refine wpAny_bind (wpAny_holding (wpAny_call (class_get (s := ⟨hp, gg, dr, tt + 1, oo⟩) (ox := ox) (od := od) kin I T.hm ?_)))
  refine wpAny_pure ?_
  show wpAny _ _ (handedOut (.ref D)) _ _ _
  rw [handedOut_of (v := .ref D) rfl]
  first
    | exact wpAny_pure (wpAny_pure h)
    | exact wpAny_pure h
    | exact wpAny_pure (wpAny_bind (wpAny_pure (wpAny_pure h)))
theorem kit_made (T : ExcC K D) : KitX K (.ref x) (.ref D) (fun h => ∃ ox od, InstAt h x ox D od) where
  ty := fun _ _ _ ⟨_, _, I⟩ => I.type
  it := fun _ _ kin _ => by
    obtain ⟨cd, e, _⟩ := any_some T.hd
    unfold clsIn at e
    split at e
    · rename_i ho
      intro A' Q' E' s' k q
      unfold isType loadHead
      exact wpAny_bind (wpAny_loadPart (k _ _ (kin _ _ ho)) (wpAny_pure q))
    · cases e
  ne := fun h tp dd its n sl kin htp => by
    obtain ⟨cd, e, _⟩ := any_some T.hd
    refine Bool.eq_false_iff.mpr fun q => ?_
    have z : D = tp := Value.ref.inj (beq_iff_eq.mp q)
    subst z
    unfold clsIn at e
    split at e
    · rename_i ho
      cases (kin _ _ ho).symm.trans htp
    · cases e
  ca := fun kin ⟨_, _, I⟩ k => class_is T kin I k
end
/-- isinstance(e, c) -/
def rIsX (K : PySem.W.Frag) : List V → Hp → VK → Prop := fun xs H Q => ∃ (a C : Addr) (c : V) (cv : Value) (b : Bool), xs = [.ref a, c] ∧ IsX H a C ∧ ExcC K C ∧ (∀ u, RelV c u → u = cv) ∧ PySem.W.kitOne K (.ref C) cv = some b ∧ Q (.bl b) H
theorem call_isX {X : Cx} : CallR X (.builtin "isinstance") (rIsX X.K) := by
  intro pins s σ H xs us Q I r h
  obtain ⟨a, C, c, cv, b, rfl, hx, T, hc, e, q⟩ := h
  cases r with
  | cons r1 r2 =>
    cases r2 with
    | cons r3 r4 =>
      cases r4
      cases r1
      have z := hc _ r3
      subst z
      exact PySem.W.kia_one (kit_made T) I.kIn (isx_at I hx) e (fun z => nomatch z) fun tk => ⟨.bl b, H, I.kept (t' := tk) fun _ _ z => z, rfl, q⟩
/-! ### e.f -/
def tFld (K : PySem.W.Frag) (f : Str) (te : TE) : TE := fun σ H Q => te σ H fun y H1 => ∃ (a C d : Addr) (v : V), y = .ref a ∧ XfC K C ∧ PySem.W.findIn K (.ref C) f = some none ∧ H1 a = some (exo a C (some d)) ∧ H1 d = some (exd d [(f, v)]) ∧ Q v H1
theorem pe_fld {X : Cx} {e : Expr} {te : TE} {pos : Pos} {f : Str} (he : PE X e te) (hb : attributeBase e f X.env (eval e X.env) = eval e X.env := by rfl) : PE X (.Attribute e f pos) (tFld X.K f te) := by
  refine ⟨fun pins s σ H Q I h => attr_of hb (thn (he.run pins s σ H _ I h) ?_)⟩
  rintro u s1 ⟨y, H1, I1, ry, a, C, d, v, rfl, T, no, ha, hd, q⟩
  cases ry
  obtain ⟨t, e1⟩ := exo_at I1.hok ha
  obtain ⟨mA, ns, r⟩ := exd_at I1.hok hd
  obtain ⟨od, ho, hl⟩ := lookIn_ns ns
  have e2 : List.lookup f [(f, v)] = some v := by simp [List.lookup]
  obtain ⟨w, hw, rw'⟩ := RelO.some_of (v := v) (o := mA f) (by rw [← e2]; exact r f)
  have J : PySem.W.InstAt s1.heap a _ C (some od) := ⟨e1, rfl, rfl, ho⟩
  exact HandSPX.exc_get I1.kIn J T.ga T.gg T.exC (PySem.W.findObj_own T.hdC no rfl (by rw [hl, hw])) (handed_of rw') ⟨v, H1, I1.tok _, rw', q⟩
end Lx

namespace Ld
open PySem PySem.Spec PyProof.Rows L2 Lw
/-! ### data on the heap, also in written tuples -/
structure Bn where
  K : PySem.W.Frag
  b : Addr → Prop
instance : CoeFun Bn (fun _ => Addr → Prop) := ⟨Bn.b⟩
/-- a written tuple -/
def Wr (K : PySem.W.Frag) (a : Addr) (xs : List V) : Prop := ∃ (o : Obj) (its : Array Value) (n : Nat), K.lookup a = some o ∧ o.cls = .type "tuple" ∧ o.data = .seq its n ∧ its.size ≤ sizeLine ∧ Vals xs its.toList
def Tp (K : PySem.W.Frag) (H : Hp) (a : Addr) (xs : List V) : Prop := H a = some (.tup xs) ∨ Wr K a xs
theorem Tp.sq {K : PySem.W.Frag} {H : Hp} {a : Addr} {xs : List V} (h : Tp K H a xs) : SqT K H a xs := h.elim (fun h => .of h) .inr
theorem Tp.of {K : PySem.W.Frag} {H : Hp} {a : Addr} {xs : List V} (h : H a = some (.tup xs)) : Tp K H a xs := .inl h
theorem Tp.up {K : PySem.W.Frag} {H H' : Hp} {a : Addr} {xs : List V} (h : Tp K H a xs) (k : ∀ b xs, H b = some (.tup xs) → H' b = some (.tup xs)) : Tp K H' a xs := h.elim (fun h => .inl (k _ _ h)) .inr
mutual
inductive Dv (N : Bn) (H : Hp) : V → PyData → Prop
  | non : Dv N H .non .none
  | bl (b : Bool) : Dv N H (.bl b) (.bool b)
  | int (i : Int) : Dv N H (.int i) (.int i)
  | str (x : Str) : Dv N H (.str x) (.str x)
  | lst {a : Addr} {xs : List V} {ds : List PyData} : ¬ N a → H a = some (.lst xs) → DvAll N H xs ds → Dv N H (.ref a) (.list ds)
  | tup {a : Addr} {xs : List V} {ds : List PyData} : Tp N.K H a xs → DvAll N H xs ds → Dv N H (.ref a) (.tuple ds)
  | dct {a : Addr} : ¬ N a → H a = some (.dK []) → Dv N H (.ref a) (.dict [])
  | exn {a dx C : Addr} {c f : Str} {v : V} {d : PyData} : ¬ N a → ¬ N dx → PySem.W.nsIn N.K mainGlobals c = some (some (.ref C)) → H a = some (exo a C (some dx)) → H dx = some (exd dx [(f, v)]) → Dv N H v d → Dv N H (.ref a) (.dict [(.str c, .tuple [.str f, d])])
  | exn0 {a C : Addr} {c : Str} : ¬ N a → PySem.W.nsIn N.K mainGlobals c = some (some (.ref C)) → H a = some (exo a C none) → Dv N H (.ref a) (.dict [(.str c, .none)])
inductive DvAll (N : Bn) (H : Hp) : List V → List PyData → Prop
  | nil : DvAll N H [] []
  | cons {v : V} {vs : List V} {d : PyData} {ds : List PyData} : Dv N H v d → DvAll N H vs ds → DvAll N H (v :: vs) (d :: ds)
end
theorem lst_ne {xs : List V} : ∀ ps, HO.lst xs ≠ HO.tbl ps := fun ps z => by cases z
theorem dK_ne {xs} : ∀ ps, HO.dK xs ≠ HO.tbl ps := fun ps z => by cases z
theorem exo_ne {a C : Addr} {d : Option Addr} : ∀ ps, exo a C d ≠ HO.tbl ps := fun ps => exo_tbl
theorem exd_ne {a : Addr} {fs : List (Str × V)} : ∀ ps, exd a fs ≠ HO.tbl ps := fun ps z => by
  have z' : HO.ext _ = HO.tbl ps := z
  cases z'
mutual
theorem Dv.mapL {N N' : Bn} {H H' : Hp} (hK : N'.K = N.K) (k : ∀ b u, (∀ ps, u ≠ HO.tbl ps) → ¬ N b → H b = some u → H' b = some u ∧ ¬ N' b) (kt : ∀ b xs, H b = some (.tup xs) → H' b = some (.tup xs)) : ∀ (d : PyData) (v : V), Dv N H v d → Dv N' H' v d
  | _, _, .non => .non
  | _, _, .bl _ => .bl _
  | _, _, .int _ => .int _
  | _, _, .str _ => .str _
  | _, _, .lst n e a => .lst (k _ _ lst_ne n e).2 (k _ _ lst_ne n e).1 (DvAll.mapL hK k kt _ _ a)
  | _, _, .tup e a => .tup (by rw [hK]; exact e.up kt) (DvAll.mapL hK k kt _ _ a)
  | _, _, .dct n e => .dct (k _ _ dK_ne n e).2 (k _ _ dK_ne n e).1
  | _, _, .exn n n2 g e e2 x => .exn (k _ _ exo_ne n e).2 (k _ _ exd_ne n2 e2).2 (by rw [hK]; exact g) (k _ _ exo_ne n e).1 (k _ _ exd_ne n2 e2).1 (Dv.mapL hK k kt _ _ x)
  | _, _, .exn0 n g e => .exn0 (k _ _ exo_ne n e).2 (by rw [hK]; exact g) (k _ _ exo_ne n e).1
theorem DvAll.mapL {N N' : Bn} {H H' : Hp} (hK : N'.K = N.K) (k : ∀ b u, (∀ ps, u ≠ HO.tbl ps) → ¬ N b → H b = some u → H' b = some u ∧ ¬ N' b) (kt : ∀ b xs, H b = some (.tup xs) → H' b = some (.tup xs)) : ∀ (ds : List PyData) (vs : List V), DvAll N H vs ds → DvAll N' H' vs ds
  | _, _, .nil => .nil
  | _, _, .cons a b => .cons (Dv.mapL hK k kt _ _ a) (DvAll.mapL hK k kt _ _ b)
end
/-! data without exceptions: itself, and all within it -/
def noE : PyData → Bool
  | .dict (_ :: _) => false
  | _ => true
mutual
def noX : PyData → Bool
  | .list ds => noXs ds
  | .tuple ds => noXs ds
  | .dict (_ :: _) => false
  | _ => true
def noXs : List PyData → Bool
  | [] => true
  | d :: r => noX d && noXs r
end
theorem noXs_cons {d : PyData} {r : List PyData} (h : noXs (d :: r) = true) : noX d = true ∧ noXs r = true := by
  unfold noXs at h
  exact Bool.and_eq_true_iff.mp h
theorem Dv.map {N N' : Bn} {H H' : Hp} (hK : N'.K = N.K) (k : ∀ b u, ¬ N b → H b = some u → H' b = some u ∧ ¬ N' b) (kt : ∀ b xs, H b = some (.tup xs) → H' b = some (.tup xs)) (d : PyData) (v : V) (h : Dv N H v d) : Dv N' H' v d := Dv.mapL hK (fun b u _ n q => k b u n q) kt d v h
theorem DvAll.map {N N' : Bn} {H H' : Hp} (hK : N'.K = N.K) (k : ∀ b u, ¬ N b → H b = some u → H' b = some u ∧ ¬ N' b) (kt : ∀ b xs, H b = some (.tup xs) → H' b = some (.tup xs)) (d : List PyData) (v : List V) (h : DvAll N H v d) : DvAll N' H' v d := DvAll.mapL hK (fun b u _ n q => k b u n q) kt d v h
theorem Dv.up {N : Bn} {H H' : Hp} {d : PyData} {v : V} (h : Dv N H v d) (k : Sx N.b H H') : Dv N H' v d := h.map rfl (fun b u n q => ⟨k.st b u n q, n⟩) k.tp _ _
theorem DvAll.up {N : Bn} {H H' : Hp} {ds : List PyData} {vs : List V} (h : DvAll N H vs ds) (k : Sx N.b H H') : DvAll N H' vs ds := h.map rfl (fun b u n q => ⟨k.st b u n q, n⟩) k.tp _ _
theorem Dv.less {N N' : Bn} {H : Hp} {d : PyData} {v : V} (h : Dv N H v d) (hK : N'.K = N.K) (k : ∀ b, N' b → N b) : Dv N' H v d := h.map hK (fun b u n q => ⟨q, fun z => n (k b z)⟩) (fun _ _ q => q) _ _
theorem Dv.same {N : Bn} {H H' : Hp} {d : PyData} {v : V} (h : Dv N H v d) (k : Same H H') : Dv N H' v d := h.up (.of k)
theorem DvAll.same {N : Bn} {H H' : Hp} {ds : List PyData} {vs : List V} (h : DvAll N H vs ds) (k : Same H H') : DvAll N H' vs ds := h.up (.of k)
theorem DvAll.length {N : Bn} {H : Hp} : ∀ {ds : List PyData} {vs : List V}, DvAll N H vs ds → vs.length = ds.length
  | _, _, .nil => rfl
  | _, _, .cons _ b => by simp [DvAll.length b]
theorem DvAll.get {N : Bn} {H : Hp} : ∀ {ds : List PyData} {vs : List V} {i : Nat} {d : PyData}, DvAll N H vs ds → ds[i]? = some d → ∃ v, vs[i]? = some v ∧ Dv N H v d
  | _, _, _, _, .nil, e => by simp at e
  | _, _, 0, _, .cons a _, e => by
    simp at e
    subst e
    exact ⟨_, rfl, a⟩
  | _, _, i + 1, _, .cons _ b, e => by
    obtain ⟨v, h1, h2⟩ := DvAll.get (i := i) b (by simpa using e)
    exact ⟨v, by simpa using h1, h2⟩
theorem DvAll.app {N : Bn} {H : Hp} : ∀ {ds es : List PyData} {vs us : List V}, DvAll N H vs ds → DvAll N H us es → DvAll N H (vs ++ us) (ds ++ es)
  | _, _, _, _, .nil, h => h
  | _, _, _, _, .cons a b, h => .cons a (DvAll.app b h)
theorem DvAll.take {N : Bn} {H : Hp} : ∀ {ds : List PyData} {vs : List V} (n : Nat), DvAll N H vs ds → DvAll N H (vs.take n) (ds.take n)
  | _, _, 0, _ => by simpa using .nil
  | _, _, _ + 1, .nil => .nil
  | _, _, n + 1, .cons a b => .cons a (DvAll.take n b)
theorem DvAll.drop {N : Bn} {H : Hp} : ∀ {ds : List PyData} {vs : List V} (n : Nat), DvAll N H vs ds → DvAll N H (vs.drop n) (ds.drop n)
  | _, _, 0, h => h
  | _, _, _ + 1, .nil => .nil
  | _, _, n + 1, .cons _ b => DvAll.drop n b
theorem DvAll.rev {N : Bn} {H : Hp} : ∀ {ds : List PyData} {vs : List V}, DvAll N H vs ds → DvAll N H vs.reverse ds.reverse
  | _, _, .nil => .nil
  | _, _, .cons a b => by
    rw [List.reverse_cons, List.reverse_cons]
    exact (DvAll.rev b).app (.cons a .nil)
theorem DvAll.nil_iff {N : Bn} {H : Hp} {ds : List PyData} {vs : List V} (h : DvAll N H vs ds) : vs = [] ↔ ds = [] := by
  cases h <;> simp
/-- ints -/
theorem DvAll.ints {N : Bn} {H : Hp} : ∀ ns : List Int, DvAll N H (ns.map V.int) (ns.map PyData.int)
  | [] => .nil
  | n :: r => .cons (.int n) (DvAll.ints r)


theorem Dv.ty {N : Bn} {H : Hp} {v : V} {d : PyData} (h : Dv N H v d) (nx : noE d = true) : TyX N.K H v (.type (tyName d)) := by
  cases h with
  | non => exact .base .non
  | bl b => exact .base (.bl b)
  | int i => exact .base (.int i)
  | str x => exact .base (.str x)
  | lst n e a => exact .base (.lst e)
  | tup e a =>
    rcases e with e | ⟨o, its, n, h1, h2, _⟩
    · exact .base (.tup e)
    · exact .kTuple h1 h2
  | dct n e => exact .base (.dK e)
  | exn => cases nx
  | exn0 => cases nx
/-- isinstance(data, a built-in class) -/
def rIsD (T : String) (f : PyData → Bool) (K : PySem.W.Frag) : List V → Hp → VK → Prop := fun xs H Q => ∃ (N : Bn) (v : V) (d : PyData), N.K = K ∧ xs = [v, .ty T] ∧ Dv N H v d ∧ noE d = true ∧ Q (.bl (f d)) H
theorem call_isD {X : Cx} {T : String} {f : PyData → Bool} (k : ∀ d, kitB (tyName d) T = some (f d)) : CallR X (.builtin "isinstance") (rIsD T f X.K) := by
  intro pins s σ H xs us Q I r h
  obtain ⟨N, v, d, hK, rfl, hd, nx, q⟩ := h
  have ht := hd.ty nx
  rw [hK] at ht
  exact call_isi pins s σ H _ us Q I r ⟨v, .ty T, .type (tyName d), .type T, f d, rfl, .ty T, ht, kit_ty (k d), q⟩
/-! ### a text of data -/
section
variable {X : Cx} {pins : List (Addr × Obj)} {σ : L2.St} {H : Hp} {s : Shared}
mutual
theorem Dv.reads (I : Inv X pins σ H s) {N : Bn} (hK : N.K = X.K) : ∀ (d : PyData) (v : V) (u : Value), noX d = true → Dv N H v d → RelV v u → ∃ as, Reads s.heap u d as ∧ ∀ a ∈ as, ¬ N a
  | .none, _, _, _, h, r => by
    cases h
    cases r
    exact ⟨_, Reads.none, fun _ z => nomatch z⟩
  | .bool b, _, _, _, h, r => by
    cases h
    cases r
    exact ⟨_, Reads.bool b, fun _ z => nomatch z⟩
  | .int i, _, _, _, h, r => by
    cases h
    obtain ⟨t, rfl⟩ := r
    exact ⟨_, Reads.int i t, fun _ z => nomatch z⟩
  | .str x, _, _, _, h, r => by
    cases h
    obtain ⟨t, rfl⟩ := r
    exact ⟨_, Reads.str x t, fun _ z => nomatch z⟩
  | .list ds, _, _, nx, h, r => by
    cases h with
    | lst n e ha =>
      cases r
      obtain ⟨z, its, k, rv, ho⟩ := (show ObjOk X.prog X.w H s.heap _ (.lst _) from I.hok _ _ e)
      obtain ⟨as, hr, na⟩ := DvAll.reads I hK ds _ its (by unfold noX at nx; exact nx) ha rv
      refine ⟨_, Reads.list ho rfl rfl hr, fun b hb => ?_⟩
      rcases List.mem_cons.mp hb with rfl | hb
      · exact n
      · exact na b hb
  | .tuple ds, _, _, nx, h, r => by
    cases h with
    | tup e ha =>
      cases r
      obtain ⟨its, rv, ⟨o, ho, hc, k, hd⟩, z⟩ := I.tuple (hK ▸ e.sq)
      obtain ⟨as, hr, na⟩ := DvAll.reads I hK ds _ its (by unfold noX at nx; exact nx) ha rv
      exact ⟨_, Reads.tuple ho hc hd hr, na⟩
  | .dict _, _, _, nx, h, r => by
    cases h with
    | exn => unfold noX at nx; cases nx
    | exn0 => unfold noX at nx; cases nx
    | dct n e =>
      cases r
      obtain ⟨z, _, vs, rv, o, es, ep, ho, hex, hdat, hkey, hes, _⟩ := (show ObjOk X.prog X.w H s.heap _ (.dK []) from I.hok _ _ e)
      cases rv
      have he : es.toList = [] := by
        revert hes
        generalize es.toList = l
        intro hes
        cases hes
        rfl
      refine ⟨_, Reads.dict ho hex.1 hdat (as := []) (bs := []) ?_ ?_, fun b hb => ?_⟩
      · rw [he]
        exact .nil
      · rw [he]
        exact .nil
      · simp at hb
        subst hb
        exact n
theorem DvAll.reads (I : Inv X pins σ H s) {N : Bn} (hK : N.K = X.K) : ∀ (ds : List PyData) (vs : List V) (us : List Value), noXs ds = true → DvAll N H vs ds → Vals vs us → ∃ as, ReadsAll s.heap us ds as ∧ ∀ a ∈ as, ¬ N a
  | [], _, _, _, h, r => by
    cases h
    cases r
    exact ⟨_, .nil, fun _ z => nomatch z⟩
  | d :: ds, _, _, nx, h, r => by
    cases h with
    | cons h1 h2 =>
      cases r with
      | cons r1 r2 =>
        obtain ⟨as, q1, n1⟩ := Dv.reads I hK d _ _ (noXs_cons nx).1 h1 r1
        obtain ⟨bs, q2, n2⟩ := DvAll.reads I hK ds _ _ (noXs_cons nx).2 h2 r2
        refine ⟨_, .cons q1 q2, fun b hb => ?_⟩
        rcases List.mem_append.mp hb with hb | hb
        · exact n1 b hb
        · exact n2 b hb
end
end
def rRepr (K : PySem.W.Frag) : List V → Hp → VK → Prop := fun xs H Q => ∃ (N : Bn) (v : V) (d : PyData), N.K = K ∧ xs = [v] ∧ Dv N H v d ∧ noX d = true ∧ Tells N.b d ∧ Q (.str d.shown) H
theorem call_repr {X : Cx} {k : Nat} (hr : Room k X.A) (hG : X.A.guards = some []) : CallR X (.builtin "repr") (rRepr X.K) := by
  intro pins s σ H xs us Q I r h
  obtain ⟨N, v, d, hK, rfl, hd, nx, ⟨h1, h2, h3, h4⟩, q⟩ := h
  obtain ⟨u, rfl, rx⟩ := vals1 r
  have units := hr.un
  obtain ⟨as, rd, na⟩ := Dv.reads I hK d v u nx hd rx
  have ref : ∀ a, u = .ref a → wpAny (model X.prog X.w) X.A (call (.builtin "repr") [u]) (EP X pins σ Q) X.xe s := fun a e => by
    subst e
    refine repr_of_reads' rd h1 (fun z m => na _ m (h4 z)) hG (by omega) (fun _ _ q => q) (fun h' u' tk k => ?_) h3
    exact ⟨.str d.shown, H, I.kept k, ⟨_, rfl⟩, q⟩
  cases hd with
  | non =>
    cases rx
    exact PySem.P.repr_of_none ⟨.str _, H, I.tok _, ⟨_, rfl⟩, q⟩
  | bl b =>
    cases rx
    refine PySem.P.repr_of_bool ⟨.str _, H, I.tok _, ⟨s.toks, ?_⟩, q⟩
    cases b <;> rfl
  | int i =>
    obtain ⟨t, rfl⟩ := rx
    exact PySem.P.repr_of_int (by simpa [PyData.showable] using h1) ⟨.str _, H, I.tok _, ⟨_, rfl⟩, q⟩
  | str x =>
    obtain ⟨t, rfl⟩ := rx
    exact PySem.P.repr_of_str ⟨.str _, H, I.tok _, ⟨_, rfl⟩, q⟩ (by simpa [PyData.shown] using h3)
  | lst n e a => exact ref _ rx
  | tup e a => exact ref _ rx
  | dct n e => exact ref _ rx
  | exn => unfold noX at nx; cases nx
  | exn0 => unfold noX at nx; cases nx
def FreshB (N : Bn) (H : Hp) : Prop := ∀ p, H p = none → p ≠ sysModules → ¬ N p
theorem FreshB.same {N : Bn} {H H' : Hp} (f : FreshB N H) (k : Same H H') : FreshB N H' := fun p h n => f p (same_none k h) n
def tData (d : PyData) : TE := fun _ H Q => ∃ N : Bn, FreshB N H ∧ ∀ v H', Same H H' → Dv N H' v d → Q v H'
def tDatas (ds : List PyData) : TA := fun _ H Q => ∃ N : Bn, FreshB N H ∧ ∀ vs H', Same H H' → DvAll N H' vs ds → Q vs H'
section
variable {X : Cx} {e : Expr} {es : List Expr} {d : PyData} {ds : List PyData} {pos : Pos}
theorem pd_int {i : Int} {j : Nat} : PE X (.Constant (.int i) j pos) (tData (.int i)) := pe_int.weak fun _ H Q ⟨_, _, q⟩ => q _ H (Same.refl H) (.int i)
theorem pd_bl {b : Bool} {j : Nat} : PE X (.Constant (.bool b) j pos) (tData (.bool b)) := pe_bl.weak fun _ H Q ⟨_, _, q⟩ => q _ H (Same.refl H) (.bl b)
theorem pd_non {j : Nat} : PE X (.Constant .none j pos) (tData .none) := pe_non.weak fun _ H Q ⟨_, _, q⟩ => q _ H (Same.refl H) .non
theorem pd_str {x : Str} {j : Nat} : PE X (.Constant (.str x) j pos) (tData (.str x)) := pe_str.weak fun _ H Q ⟨_, _, q⟩ => q _ H (Same.refl H) (.str x)
theorem pd_neg {i : Int} (h : PE X e (tData (.int i))) : PE X (.UnaryOp .USub e pos) (tData (.int (-i))) :=
  (pe_un un_neg h).weak fun σ H Q ⟨N, f, q⟩ => ⟨N, f, fun v H' k dv => by
    cases dv
    exact ⟨i, rfl, q _ H' k (.int (-i))⟩⟩
theorem pd_pow {i : Int} {n : Nat} {e1 e2 : Expr} (h1 : PE X e1 (tData (.int i))) (h2 : PE X e2 (tData (.int (n : Int)))) (hn : n ≤ 1000000) (hi : i.natAbs < 2 ^ 64) : PE X (.BinOp e1 .Pow e2 pos) (tData (.int (i ^ n))) :=
  (pe_op op_pow h1 h2).weak fun σ H Q ⟨N, f, q⟩ => ⟨N, f, fun v H' k dv => by
    cases dv
    refine ⟨N, f.same k, fun v2 H2 k2 dv2 => ?_⟩
    cases dv2
    refine ⟨i, (n : Int), rfl, rfl, ⟨by omega, by omega, hi⟩, ?_⟩
    show Q (.int (i ^ ((n : Int)).toNat)) H2
    rw [Int.toNat_natCast]
    exact q _ H2 (k.trans k2) (.int _)⟩
theorem pda_nil : PA X [] (tDatas []) := pa_nil.weak fun _ H Q ⟨_, _, q⟩ => q [] H (Same.refl H) .nil
theorem pda_cons (h : PE X e (tData d)) (r : PA X es (tDatas ds)) (hs : starEach (e :: es) X.env = (false, eval e X.env) :: starEach es X.env := by rfl) : PA X (e :: es) (tDatas (d :: ds)) :=
  (pa_cons h r hs).weak fun σ H Q ⟨N, f, q⟩ => ⟨N, f, fun v H1 k1 dv => ⟨N, f.same k1, fun vs H2 k2 dvs => q _ H2 (k1.trans k2) (.cons (dv.same k2) dvs)⟩⟩
theorem pd_tup {x1} (h : PA X es (tDatas ds)) (hl : ds.length ≤ 1000 := by decide) : PE X (.Tuple es x1 pos) (tData (.tuple ds)) :=
  (pe_tup h).weak fun σ H Q ⟨N, f, q⟩ => ⟨N, f, fun vs H1 k1 dvs => ⟨by
    have z := dvs.length
    rw [sizeLine_eq]
    omega, fun p hp => q _ _ (k1.trans (same_new hp _)) (.tup (.of upd_same) (dvs.same (same_new hp _)))⟩⟩
theorem pd_lst (h : PA X es (tDatas ds)) (hl : ds.length ≤ 1000 := by decide) : PE X (.List es pos) (tData (.list ds)) :=
  (pe_list h).weak fun σ H Q ⟨N, f, q⟩ => ⟨N, f, fun vs H1 k1 dvs => ⟨by
    have z := dvs.length
    rw [sizeLine_eq]
    omega, fun p hp np => q _ _ (k1.trans (same_new hp _)) (.lst (f.same k1 p hp np) upd_same (dvs.same (same_new hp _)))⟩⟩
theorem pd_dct : PE X (.Dict [] [] pos) (tData (.dict [])) :=
  pe_dict0.weak fun σ H Q ⟨N, f, q⟩ p hp np => q _ _ (same_new hp _) (.dct (f p hp np) upd_same)
end
theorem tup_at {N : Bn} {H : Hp} {v : V} {ds : List PyData} (h : Dv N H v (.tuple ds)) : ∃ a xs, v = .ref a ∧ Tp N.K H a xs ∧ DvAll N H xs ds := by
  cases h with
  | tup e all => exact ⟨_, _, rfl, e, all⟩
section
variable {N : Bn} {H : Hp} {Q : VK}
theorem dv_cut {v : V} {ds : List PyData} {lo hi : Option Int} (h : Dv N H v (.tuple ds)) (q : ∀ u H', Same H H' → Dv N H' u (.tuple (Lw.cutD ds lo hi)) → Q u H') : rSlA N.K v lo hi H Q := by
  obtain ⟨a, xs, rfl, e, all⟩ := tup_at h
  have hl := all.length
  refine ⟨a, xs, rfl, e.sq, fun z => ?_, fun z p hp => ?_⟩
  · refine q _ H (.refl H) ?_
    have c : Lw.cutD ds lo hi = ds := by
      unfold Lw.cutD
      rw [← hl, z.1, z.2]
      show (ds.take (xs.length - 0)) = ds
      rw [List.take_of_length_le (by omega)]
    rw [c]
    exact h
  · have s : Same H (upd H p (.tup (cutV xs lo hi))) := same_new hp _
    refine q _ _ s (.tup (.of upd_same) ?_)
    unfold Lw.cutD cutV
    rw [← hl]
    exact ((all.same s).drop _).take _
theorem dv_cat {v u : V} {ds es : List PyData} (h : Dv N H v (.tuple ds)) (h2 : Dv N H u (.tuple es)) (hl : ds.length + es.length ≤ 16000000) (q : ∀ y H', Same H H' → Dv N H' y (.tuple (ds ++ es)) → Q y H') : rCatA N.K v u H Q := by
  obtain ⟨a, xs, rfl, e, all⟩ := tup_at h
  obtain ⟨b, ys, rfl, e2, all2⟩ := tup_at h2
  have l1 := all.length
  have l2 := all2.length
  refine ⟨a, b, xs, ys, rfl, rfl, e.sq, e2.sq, by rw [sizeLine_eq]; omega, fun z => ?_, fun _ z => ?_, fun _ _ p hp => ?_⟩
  · have c := all.nil_iff.mp z
    subst c
    exact q _ H (.refl H) h2
  · have c := all2.nil_iff.mp z
    subst c
    rw [List.append_nil] at q
    exact q _ H (.refl H) h
  · have s : Same H (upd H p (.tup (xs ++ ys))) := same_new hp _
    exact q _ _ s (.tup (.of upd_same) ((all.app all2).same s))
end
end Ld

namespace Ld
open PySem PySem.Spec PyProof.Rows L2 Lw
/-! ### data that a name of the text holds -/
mutual
inductive Wv (K : PySem.W.Frag) : V → PyData → Prop
  | non : Wv K .non .none
  | bl (b : Bool) : Wv K (.bl b) (.bool b)
  | int (i : Int) : Wv K (.int i) (.int i)
  | str (x : Str) : Wv K (.str x) (.str x)
  | tup {a : Addr} {xs : List V} {ds : List PyData} : Wr K a xs → WvAll K xs ds → Wv K (.ref a) (.tuple ds)
inductive WvAll (K : PySem.W.Frag) : List V → List PyData → Prop
  | nil : WvAll K [] []
  | cons {v : V} {vs : List V} {d : PyData} {ds : List PyData} : Wv K v d → WvAll K vs ds → WvAll K (v :: vs) (d :: ds)
end
mutual
theorem Wv.dv {K : PySem.W.Frag} {N : Bn} {H : Hp} (hK : N.K = K) : ∀ (d : PyData) (v : V), Wv K v d → Dv N H v d
  | .none, _, h => by cases h; exact .non
  | .bool _, _, h => by cases h; exact .bl _
  | .int _, _, h => by cases h; exact .int _
  | .str _, _, h => by cases h; exact .str _
  | .list _, _, h => by cases h
  | .tuple ds, _, h => by
    cases h with
    | tup w a => exact .tup (.inr (hK ▸ w)) (WvAll.dv hK ds _ a)
  | .dict _, _, h => by cases h
theorem WvAll.dv {K : PySem.W.Frag} {N : Bn} {H : Hp} (hK : N.K = K) : ∀ (ds : List PyData) (vs : List V), WvAll K vs ds → DvAll N H vs ds
  | [], _, h => by cases h; exact .nil
  | d :: ds, _, h => by
    cases h with
    | cons a b => exact .cons (Wv.dv hK d _ a) (WvAll.dv hK ds _ b)
end
/-- the name x holds d -/
structure Wd (K : PySem.W.Frag) (mg : Str → Option Value) (x : Str) (d : PyData) : Prop where
  ex : ∃ (v : V) (u : Value), mg x = some u ∧ RelV v u ∧ Wv K v d
theorem wr_of {K : PySem.W.Frag} {a : Addr} {od : Option Addr} {its : Array Value} {n : Nat} {sl : Array (Option Value)} {xs : List V} (h : K.lookup a = some ⟨.type "tuple", od, .seq its n, sl⟩) (hs : its.size ≤ sizeLine) (r : Vals xs its.toList) : Wr K a xs := ⟨_, its, n, h, rfl, rfl, hs, r⟩
end Ld

namespace Ld
open PySem PySem.Spec PyProof.Rows L2 Lw

/-! ### the layer of data: what slots hold, by data alone -/
inductive Sv where
  | dat (d : PyData)
  | own (ds : List PyData)
  | well
  | fn (x : Str)
abbrev Env := List (Option Sv)
abbrev Exn := Str × List (Str × PyData)
abbrev RD := PyData → Prop
abbrev XD := Exn → Prop
abbrev TD := Env → RD → XD → Prop
abbrev TAD := Env → (List Sv → Prop) → XD → Prop
abbrev TTD := Env → (Bool → Prop) → XD → Prop
abbrev TF := List Sv → RD → XD → Prop
def slotD : Env → Nat → Option Sv
  | [], _ => none
  | x :: _, 0 => x
  | _ :: r, n + 1 => slotD r n
def putD : Env → Nat → Option Sv → Env
  | [], _, _ => []
  | _ :: r, 0, v => v :: r
  | x :: r, n + 1, v => x :: putD r n v
theorem putD_len : ∀ (ρ : Env) (i : Nat) (v : Option Sv), (putD ρ i v).length = ρ.length
  | [], _, _ => rfl
  | _ :: _, 0, _ => rfl
  | _ :: r, n + 1, v => congrArg (· + 1) (putD_len r n v)
theorem slot_put : ∀ (ρ : Env) (i j : Nat) (v y : Option Sv), slotD (putD ρ i v) j = y → y ≠ none → (j = i ∧ v = y ∧ i < ρ.length) ∨ (j ≠ i ∧ slotD ρ j = y)
  | [], i, j, v, y, h, hn => by
    cases j <;> exact absurd h.symm hn
  | x :: r, 0, 0, v, y, h, hn => .inl ⟨rfl, h, Nat.succ_pos _⟩
  | x :: r, 0, j + 1, v, y, h, hn => .inr ⟨by omega, h⟩
  | x :: r, n + 1, 0, v, y, h, hn => .inr ⟨by omega, h⟩
  | x :: r, n + 1, j + 1, v, y, h, hn => by
    rcases slot_put r n j v y h hn with ⟨a, b, c⟩ | ⟨a, b⟩
    · exact .inl ⟨by omega, b, by simp; omega⟩
    · exact .inr ⟨by omega, b⟩

/-! the well, and the tables of code objects -/
structure Wx where
  o : Option Addr
  T : List (Addr × Str) := []
def Wx.has (w : Wx) (b : Addr) : Prop := w.o = some b ∨ ∃ p ∈ w.T, p.1 = b
theorem tabs_more {T : List (Addr × Str)} {H H' : Hp} {l : Addr} (t : LamX.Tabs T H) (k : ∀ b o, b ≠ l → H b = some o → H' b = some o) (hl : H l = none ∨ ∃ ys, H l = some (.lst ys)) : LamX.Tabs T H' := fun p hp => by
  obtain ⟨ps, h1, h2, h3⟩ := t p hp
  have ne : ∀ {b o}, H b = some o → (∀ ys, o ≠ .lst ys) → b ≠ l := fun {b o} e n z => by
    rw [z] at e
    rcases hl with q | ⟨ys, q⟩
    · rw [e] at q
      cases q
    · rw [e] at q
      exact n ys (Option.some.inj q)
  refine ⟨ps, k _ _ (ne h1 (fun ys z => by cases z)) h1, h2, fun pos cv hc => ?_⟩
  obtain ⟨c, e1, e2⟩ := h3 pos cv hc
  exact ⟨c, e1, k _ _ (ne e2 (fun ys z => by unfold LamX.CodeO at z; cases z)) e2⟩
/-- a step: all but the well and the tables stays -/
structure Stp (w : Wx) (H H' : Hp) : Prop where
  kp : ∀ b u, ¬ w.has b → (∀ ps, u ≠ HO.tbl ps) → H b = some u → H' b = some u
  tp : ∀ b xs, H b = some (.tup xs) → H' b = some (.tup xs)
  wl : ∀ p, w.o = some p → WellAt H p → WellAt H' p
  tb : LamX.Tabs w.T H → LamX.Tabs w.T H'
  k0 : w.T = [] → ∀ b u, ¬ w.has b → H b = some u → H' b = some u
theorem Stp.refl (w : Wx) (H : Hp) : Stp w H H := ⟨fun _ _ _ _ q => q, fun _ _ q => q, fun _ _ q => q, fun q => q, fun _ _ _ _ q => q⟩
theorem Stp.trans {w : Wx} {H H1 H2 : Hp} (a : Stp w H H1) (b : Stp w H1 H2) : Stp w H H2 :=
  ⟨fun c u n m q => b.kp c u n m (a.kp c u n m q), fun c xs q => b.tp c xs (a.tp c xs q), fun p e q => b.wl p e (a.wl p e q), fun q => b.tb (a.tb q), fun e c u n q => b.k0 e c u n (a.k0 e c u n q)⟩
theorem Stp.of {w : Wx} {H H' : Hp} (k : Same H H') : Stp w H H' := ⟨fun b u _ _ q => k b u q, fun b xs q => k b _ q, fun p _ q => q.same k, fun q => q.ext k, fun _ b u _ q => k b u q⟩
theorem Stp.after {p : Addr} {H H' : Hp} (k : Stp ⟨some p, []⟩ H H') (h : WellAt H p) : After p H H' := by
  have no : ∀ b, Wx.has ⟨some p, []⟩ b → b = p := fun b z => by
    rcases z with z | ⟨q, hq, _⟩
    · exact (Option.some.inj z).symm
    · cases hq
  exact ⟨⟨fun b u n q => k.k0 rfl b u (fun z => n (.inl (no b z))) q, k.tp⟩, k.wl p rfl h, fun b u n q => k.k0 rfl b u (fun z => n (no b z)) q⟩
theorem Stp.ofAfter {w : Wx} {p : Addr} {H H' : Hp} (hw : w.o = some p) (h : WellAt H p) (k : After p H H') : Stp w H H' := by
  obtain ⟨a, m, c, e, _⟩ := h
  exact ⟨fun b u n _ q => k.kp b u (fun z => n (by rw [z]; exact .inl hw)) q, k.sx.tp, fun q e _ => by rw [hw] at e; cases e; exact k.well, fun t => tabs_more t (fun b o n q => k.kp b o n q) (.inr ⟨_, e⟩), fun _ b u n q => k.kp b u (fun z => n (by rw [z]; exact .inl hw)) q⟩
structure Md where
  /-- strict: lists and dicts stand apart from the modules' own -/
  y : Bool
  /-- the tables of code objects -/
  T : List (Addr × Str)
  /-- no list or dict of the data is the modules' own dict -/
  m : Bool
structure Gnd where
  base : Heap
  K : PySem.W.Frag
  sy : Md
abbrev gnd (Sy : Md) (X : Cx) : Gnd := ⟨X.base, X.K, Sy⟩
structure WlOk (base : Gnd) (w : Wx) (N : Bn) (H : Hp) : Prop where
  wl : ∀ p, w.o = some p → N p ∧ p ≠ sysModules ∧ WellAt H p
  fr : FreshB N H
  sn : base.sy.m = true → N sysModules
  sl : base.sy.y = false → ∀ p, H p = none → ¬ N p
  kk : N.K = base.K
  tn : ∀ p ∈ w.T, N p.1
  tb : LamX.Tabs w.T H
  tt : w.T = base.sy.T
  to : ∀ p ps, H p = some (.tbl ps) → ¬ w.has p → (p ≠ sysModules ∨ base.sy.y = false) → ¬ N p
theorem WlOk.has {base : Gnd} {w : Wx} {N : Bn} {H : Hp} (a : WlOk base w N H) : ∀ p, w.has p → N p := fun p h => by
  rcases h with h | ⟨q, hq, rfl⟩
  · exact (a.wl p h).1
  · exact a.tn q hq
theorem WlOk.isome {base : Gnd} {w : Wx} {N : Bn} {H : Hp} (a : WlOk base w N H) {p : Addr} (h : w.has p) : ∃ u, H p = some u := by
  rcases h with h | ⟨q, hq, rfl⟩
  · obtain ⟨_, _, x, m, c, e, _⟩ := a.wl p h
    exact ⟨_, e⟩
  · obtain ⟨ps, e, _⟩ := a.tb q hq
    exact ⟨_, e⟩
theorem WlOk.new {base : Gnd} {w : Wx} {N : Bn} {H : Hp} (a : WlOk base w N H) {l : Addr} (hl : H l = none) : ¬ w.has l := fun z => by
  obtain ⟨u, e⟩ := a.isome z
  rw [hl] at e
  cases e
theorem WlOk.step {base : Gnd} {w : Wx} {N : Bn} {H H' : Hp} (a : WlOk base w N H) (k : Stp w H H') : WlOk base w N H' := by
  have tb := k.tb a.tb
  have back : ∀ p, H' p = none → (p ≠ sysModules ∨ base.sy.y = false) → ¬ N p := fun p hp hs => by
    have c : ¬ w.has p := fun c => by
      rcases c with c | ⟨q, hq, rfl⟩
      · obtain ⟨_, _, h3⟩ := a.wl p c
        obtain ⟨x, m, y, z, _⟩ := k.wl p c h3
        rw [hp] at z
        cases z
      · obtain ⟨ps, e, _⟩ := tb q hq
        rw [hp] at e
        cases e
    cases e : H p with
    | none =>
      cases ey : base.sy.y with
      | false => exact a.sl ey p e
      | true => exact a.fr p e (hs.elim (fun z => z) fun z => by rw [ey] at z; cases z)
    | some u =>
      by_cases ct : ∃ ps, u = HO.tbl ps
      · obtain ⟨ps, rfl⟩ := ct
        exact a.to p ps e c hs
      · rw [k.kp p u c (fun ps z => ct ⟨ps, z⟩) e] at hp
        cases hp
  refine ⟨fun p e => ?_, fun p hp np => back p hp (.inl np), a.sn, fun z p hp => back p hp (.inr z), a.kk, a.tn, tb, a.tt, fun p ps hp c hs => ?_⟩
  · obtain ⟨h1, h2, h3⟩ := a.wl p e
    exact ⟨h1, h2, k.wl p e h3⟩
  · cases e : H p with
    | none =>
      cases ey : base.sy.y with
      | false => exact a.sl ey p e
      | true => exact a.fr p e (hs.elim (fun z => z) fun z => by rw [ey] at z; cases z)
    | some u =>
      by_cases ct : ∃ ps, u = HO.tbl ps
      · obtain ⟨qs, rfl⟩ := ct
        exact a.to p qs e c hs
      · rw [k.kp p u c (fun ps z => ct ⟨ps, z⟩) e] at hp
        exact absurd ⟨ps, Option.some.inj hp⟩ ct
theorem dv_step {w : Wx} {N : Bn} {H H' : Hp} {v : V} {d : PyData} (h : Dv N H v d) (hw : ∀ p, w.has p → N p) (k : Stp w H H') : Dv N H' v d :=
  Dv.mapL rfl (fun b u m n q => ⟨k.kp b u (fun z => n (hw b z)) m q, n⟩) k.tp _ _ h
theorem dvs_step {w : Wx} {N : Bn} {H H' : Hp} {vs : List V} {ds : List PyData} (h : DvAll N H vs ds) (hw : ∀ p, w.has p → N p) (k : Stp w H H') : DvAll N H' vs ds :=
  DvAll.mapL rfl (fun b u m n q => ⟨k.kp b u (fun z => n (hw b z)) m q, n⟩) k.tp _ _ h
/-- what a slot holds -/
def SvR (w : Wx) (N : Bn) (O : Nat → Option Addr) (H : Hp) (i : Nat) (v : V) : Sv → Prop
  | .dat d => Dv N H v d
  | .own ds => ∃ a xs, v = .ref a ∧ O i = some a ∧ H a = some (.lst xs) ∧ DvAll N H xs ds
  | .well => ∃ p, w.o = some p ∧ v = .ref p
  | .fn x => ∃ f, PySem.W.nsIn N.K mainGlobals x = some (some (.ref f)) ∧ v = .ref f
structure EnvR (base : Gnd) (w : Wx) (N : Bn) (O : Nat → Option Addr) (F : List (V × PyData)) (H : Hp) (σ : L2.St) (ρ : Env) : Prop where
  ok : WlOk base w N H
  len : σ.length = ρ.length
  slot : ∀ i y, slotD ρ i = some y → ∃ v, σ[i]? = some (some v) ∧ SvR w N O H i v y
  inj : ∀ i j a, O i = some a → O j = some a → i = j
  ow : ∀ i a, O i = some a → N a ∧ ¬ w.has a ∧ ∃ ys, H a = some (.lst ys)
  kept : ∀ p ∈ F, Dv N H p.1 p.2
section
variable {base : Gnd} {w : Wx} {N : Bn} {O : Nat → Option Addr} {F : List (V × PyData)} {H H' : Hp} {σ : L2.St} {ρ : Env}
theorem EnvR.hw (e : EnvR base w N O F H σ ρ) : ∀ p, w.has p → N p := e.ok.has
theorem EnvR.step (e : EnvR base w N O F H σ ρ) (k : Stp w H H') : EnvR base w N O F H' σ ρ := by
  refine ⟨e.ok.step k, e.len, fun i y h => ?_, e.inj, fun i a h => ?_, fun p hp => dv_step (e.kept p hp) e.hw k⟩
  · obtain ⟨v, h1, h2⟩ := e.slot i y h
    refine ⟨v, h1, ?_⟩
    cases y with
    | dat d => exact dv_step h2 e.hw k
    | own ds =>
      obtain ⟨a, xs, r, o, ha, hd⟩ := h2
      exact ⟨a, xs, r, o, k.kp _ _ (e.ow i a o).2.1 lst_ne ha, dvs_step hd e.hw k⟩
    | well => exact h2
    | fn x => exact h2
  · obtain ⟨h1, h2, u, h4⟩ := e.ow i a h
    exact ⟨h1, h2, u, k.kp _ _ h2 lst_ne h4⟩
/-- a slot filled with data -/
theorem EnvR.put (e : EnvR base w N O F H σ ρ) (i : Nat) {v : V} {d : PyData} (h : Dv N H v d) : EnvR base w N (fun j => if j = i then none else O j) F H (σ.set i (some v)) (putD ρ i (some (.dat d))) := by
  refine ⟨e.ok, by rw [List.length_set, putD_len, e.len], fun j y hy => ?_, fun a b c h1 h2 => ?_, fun j a h1 => ?_, e.kept⟩
  · rcases slot_put ρ i j _ _ hy (by intro z; cases z) with ⟨rfl, z, l⟩ | ⟨nj, z⟩
    · cases z
      exact ⟨v, by rw [List.getElem?_set_self (by rw [e.len]; exact l)], h⟩
    · obtain ⟨u, h1, h2⟩ := e.slot j y z
      refine ⟨u, by rw [List.getElem?_set_ne (fun z => nj z.symm)]; exact h1, ?_⟩
      cases y with
      | dat d => exact h2
      | own ds =>
        obtain ⟨a, xs, r, o, q⟩ := h2
        exact ⟨a, xs, r, by simp only [nj, if_false]; exact o, q⟩
      | well => exact h2
      | fn x => exact h2
  · try dsimp only at h1 h2
    split at h1
    · cases h1
    · split at h2
      · cases h2
      · exact e.inj a b c h1 h2
  · try dsimp only at h1
    split at h1
    · cases h1
    · exact e.ow j a h1
end
/-- an exception's class and fields -/
def ExAt (mg : Str → Option Value) (N : Bn) (H : Hp) (cls : Value) (dx : Option Addr) (x : Exn) : Prop :=
  ∃ C, mg x.1 = some (.ref C) ∧ cls = .ref C ∧ match x.2 with
    | [] => dx = none
    | [(f, d)] => ∃ a v, dx = some a ∧ H a = some (.xd [(f, v)]) ∧ Dv N H v d
    | _ => False
/-- an expression by data -/
def LE (Sy : Md) (X : Cx) (E : L2.St → XK) (t : TD) : TE := fun σ H Q => ∃ (w : Wx) (N : Bn) (O : Nat → Option Addr) (F : List (V × PyData)) (ρ : Env) (R : RD) (Ex : XD), EnvR (gnd Sy X) w N O F H σ ρ ∧ t ρ R Ex ∧
  (∀ d v H', R d → Stp w H H' → Dv N H' v d → Q v H') ∧ (∀ x cls dx H', Ex x → Stp w H H' → ExAt X.mg N H' cls dx x → E σ cls dx H')
def LT (Sy : Md) (X : Cx) (E : L2.St → XK) (t : TTD) : TT := fun σ H Q => ∃ (w : Wx) (N : Bn) (O : Nat → Option Addr) (F : List (V × PyData)) (ρ : Env) (R : Bool → Prop) (Ex : XD), EnvR (gnd Sy X) w N O F H σ ρ ∧ t ρ R Ex ∧
  (∀ b H', R b → Stp w H H' → Q b H') ∧ (∀ x cls dx H', Ex x → Stp w H H' → ExAt X.mg N H' cls dx x → E σ cls dx H')
def SaR (w : Wx) (N : Bn) (H : Hp) (v : V) : Sv → Prop
  | .dat d => Dv N H v d
  | .own _ => False
  | .well => ∃ p, w.o = some p ∧ v = .ref p
  | .fn x => ∃ f, PySem.W.nsIn N.K mainGlobals x = some (some (.ref f)) ∧ v = .ref f
def SvsR (w : Wx) (N : Bn) (H : Hp) : List V → List Sv → Prop
  | [], [] => True
  | v :: vs, u :: us => SaR w N H v u ∧ SvsR w N H vs us
  | _, _ => False
theorem SvsR.length {w : Wx} {N : Bn} {H : Hp} : ∀ {vs : List V} {us : List Sv}, SvsR w N H vs us → vs.length = us.length
  | [], [], _ => rfl
  | v :: vs, u :: us, h => congrArg (· + 1) (SvsR.length h.2)
  | [], _ :: _, h => h.elim
  | _ :: _, [], h => h.elim
theorem SaR.step {w : Wx} {N : Bn} {H H' : Hp} {v : V} {u : Sv} (h : SaR w N H v u) (hw : ∀ p, w.has p → N p) (k : Stp w H H') : SaR w N H' v u := by
  cases u with
  | dat d => exact dv_step h hw k
  | own ds => exact h
  | well => exact h
  | fn x => exact h
theorem SvsR.step {w : Wx} {N : Bn} {H H' : Hp} (hw : ∀ p, w.has p → N p) (k : Stp w H H') : ∀ {vs : List V} {us : List Sv}, SvsR w N H vs us → SvsR w N H' vs us
  | [], [], _ => trivial
  | v :: vs, u :: us, h => ⟨h.1.step hw k, SvsR.step hw k h.2⟩
  | [], _ :: _, h => h.elim
  | _ :: _, [], h => h.elim
def LA (Sy : Md) (X : Cx) (E : L2.St → XK) (n : Nat) (t : TAD) : TA := fun σ H Q => ∃ (w : Wx) (N : Bn) (O : Nat → Option Addr) (F : List (V × PyData)) (ρ : Env) (R : List Sv → Prop) (Ex : XD), EnvR (gnd Sy X) w N O F H σ ρ ∧ t ρ R Ex ∧
  (∀ us vs H', us.length = n → R us → Stp w H H' → SvsR w N H' vs us → Q vs H') ∧ (∀ x cls dx H', Ex x → Stp w H H' → ExAt X.mg N H' cls dx x → E σ cls dx H')
/-! ### the combinators -/
def dV (i : Nat) : TD := fun ρ R _ => match slotD ρ i with
  | some (.dat d) => R d
  | _ => False
def dC (d : PyData) : TD := fun _ R _ => R d
def dOp (f : PyData → PyData → RD → Prop) (ta tb : TD) : TD := fun ρ R Ex => ta ρ (fun x => tb ρ (fun y => f x y R) Ex) Ex
def dUn (f : PyData → RD → Prop) (ta : TD) : TD := fun ρ R Ex => ta ρ (fun x => f x R) Ex
def dNil : TAD := fun _ R _ => R []
def dCons (t : TD) (r : TAD) : TAD := fun ρ R Ex => t ρ (fun d => r ρ (fun us => R (.dat d :: us)) Ex) Ex
def dConsW (i : Nat) (r : TAD) : TAD := fun ρ R Ex => match slotD ρ i with
  | some .well => r ρ (fun us => R (.well :: us)) Ex
  | _ => False
def dCall (tf : TF) (ta : TAD) : TD := fun ρ R Ex => ta ρ (fun us => tf us R Ex) Ex
def datsOf : List Sv → Option (List PyData)
  | [] => some []
  | .dat d :: r => match datsOf r with
    | some ds => some (d :: ds)
    | none => none
  | _ => none
def dCB (f : List PyData → RD → Prop) (ta : TAD) : TD := fun ρ R Ex => ta ρ (fun us => match datsOf us with
  | some ds => f ds R
  | none => False) Ex
def dTup (ta : TAD) : TD := dCB (fun ds R => R (.tuple ds)) ta
def dLst (ta : TAD) : TD := dCB (fun ds R => R (.list ds)) ta
def dIf (tc : TTD) (ta tb : TD) : TD := fun ρ R Ex => tc ρ (fun b => if b = true then ta ρ R Ex else tb ρ R Ex) Ex
theorem dats_all {w : Wx} {N : Bn} {H : Hp} : ∀ {vs : List V} {us : List Sv} {ds : List PyData}, SvsR w N H vs us → datsOf us = some ds → DvAll N H vs ds ∧ ds.length = us.length
  | [], [], _, _, e => by
    cases e
    exact ⟨.nil, rfl⟩
  | v :: vs, .dat d :: us, ds, h, e => by
    unfold datsOf at e
    cases z : datsOf us with
    | none => rw [z] at e; cases e
    | some es =>
      rw [z] at e
      cases e
      obtain ⟨a, b⟩ := dats_all h.2 z
      exact ⟨.cons h.1 a, by simp [b]⟩
  | v :: vs, .own _ :: us, ds, h, e => h.1.elim
  | v :: vs, .well :: us, ds, h, e => by
    unfold datsOf at e
    cases e
  | v :: vs, .fn _ :: us, ds, h, e => by
    unfold datsOf at e
    cases e
  | [], _ :: _, _, h, _ => h.elim
  | _ :: _, [], _, h, _ => h.elim
section
variable {Sy : Md} {X : Cx} {E : L2.St → XK} {e : Expr} {es : List Expr} {pos : Pos} {i n : Nat} {ta tb : TD} {tc : TTD} {tr : TAD}
theorem d_var (h : PE X e (tVar i)) : PE X e (LE Sy X E (dV i)) := h.weak fun σ H Q ⟨w, N, O, F, ρ, R, Ex, en, t, q, _⟩ => by
  unfold dV at t
  split at t
  · rename_i d hd
    obtain ⟨v, h1, h2⟩ := en.slot i _ hd
    exact ⟨v, h1, q d v H t (.refl _ _) h2⟩
  · exact t.elim
theorem d_c {v : V} {d : PyData} (h : PE X e (tC v)) (hd : ∀ N H, Dv N H v d) : PE X e (LE Sy X E (dC d)) := h.weak fun σ H Q ⟨w, N, O, F, ρ, R, Ex, en, t, q, _⟩ => q d v H t (.refl _ _) (hd N H)
/-- a name of the text that holds data -/
theorem d_tc {x : Str} {d : PyData} {pos : Pos} (hg : Gl X x) (wd : Wd X.K X.mg x d) (hdb : (x == ("__debug__" : Str)) = false := by decide) : PE X (.Name x pos) (LE Sy X E (dC d)) := by
  obtain ⟨v, u, hm, r, wv⟩ := wd.ex
  exact (pe_glob hg hm r hdb).weak fun σ H Q ⟨w, N, O, F, ρ, R, Ex, en, t, q, _⟩ => q d v H t (.refl _ _) (wv.dv en.ok.kk)
theorem d_int {z : Int} {j : Nat} : PE X (.Constant (.int z) j pos) (LE Sy X E (dC (.int z))) := d_c pe_int fun _ _ => .int z
theorem d_bl {z : Bool} {j : Nat} : PE X (.Constant (.bool z) j pos) (LE Sy X E (dC (.bool z))) := d_c pe_bl fun _ _ => .bl z
theorem d_non {j : Nat} : PE X (.Constant .none j pos) (LE Sy X E (dC .none)) := d_c pe_non fun _ _ => .non
theorem d_str {z : Str} {j : Nat} : PE X (.Constant (.str z) j pos) (LE Sy X E (dC (.str z))) := d_c pe_str fun _ _ => .str z
/-- written data -/
theorem d_data {d : PyData} (h : PE X e (tData d)) : PE X e (LE Sy X E (dC d)) := h.weak fun σ H Q ⟨w, N, O, F, ρ, R, Ex, en, t, q, _⟩ => ⟨N, en.ok.fr, fun v H' k dv => q d v H' t (.of k) dv⟩
/-- what an operation by values does, by data -/
def OpD (Sy : Md) (X : Cx) (r : R2) (f : PyData → PyData → RD → Prop) : Prop := ∀ (N : Bn) (H : Hp) (v u : V) (x y : PyData) (R : RD) (Q : VK), f x y R → Dv N H v x → Dv N H u y → FreshB N H → (Sy.m = true → N sysModules) → N.K = X.K → (Sy.y = false → ∀ p, H p = none → ¬ N p) →
  (∀ d z H', R d → Same H H' → Dv N H' z d → Q z H') → r v u H Q
theorem d_op {r : R2} {f : PyData → PyData → RD → Prop} (h : PE X e (tOp r (LE Sy X E ta) (LE Sy X E tb))) (o : OpD Sy X r f) : PE X e (LE Sy X E (dOp f ta tb)) := h.weak fun σ H Q ⟨w, N, O, F, ρ, R, Ex, en, t, q, qx⟩ => by
  refine ⟨w, N, O, F, ρ, _, Ex, en, t, fun x v H1 r1 k1 dx => ?_, qx⟩
  have en1 := en.step k1
  refine ⟨w, N, O, F, ρ, _, Ex, en1, r1, fun y u H2 r2 k2 dy => ?_, fun x cls dx H' hx k hh => qx x cls dx H' hx (k1.trans k) hh⟩
  have en2 := en1.step k2
  exact o N H2 v u x y R Q r2 (dv_step dx en.hw k2) dy en2.ok.fr en2.ok.sn en2.ok.kk en2.ok.sl fun d z H' hr s dz => q d z H' hr ((k1.trans k2).trans (.of s)) dz
def UnD (Sy : Md) (X : Cx) (r : V → Hp → VK → Prop) (f : PyData → RD → Prop) : Prop := ∀ (N : Bn) (H : Hp) (v : V) (x : PyData) (R : RD) (Q : VK), f x R → Dv N H v x → FreshB N H → (Sy.m = true → N sysModules) → N.K = X.K → (Sy.y = false → ∀ p, H p = none → ¬ N p) →
  (∀ d z H', R d → Same H H' → Dv N H' z d → Q z H') → r v H Q
theorem d_un {r : V → Hp → VK → Prop} {f : PyData → RD → Prop} (h : PE X e (tUn r (LE Sy X E ta))) (o : UnD Sy X r f) : PE X e (LE Sy X E (dUn f ta)) := h.weak fun σ H Q ⟨w, N, O, F, ρ, R, Ex, en, t, q, qx⟩ => by
  refine ⟨w, N, O, F, ρ, _, Ex, en, t, fun x v H1 r1 k1 dx => ?_, qx⟩
  have en1 := en.step k1
  exact o N H1 v x R Q r1 dx en1.ok.fr en1.ok.sn en1.ok.kk en1.ok.sl fun d z H' hr s dz => q d z H' hr (k1.trans (.of s)) dz
theorem da_nil : PA X [] (LA Sy X E 0 dNil) := pa_nil.weak fun σ H Q ⟨w, N, O, F, ρ, R, Ex, en, t, q, qx⟩ => q [] [] H rfl t (.refl _ _) trivial
theorem da_cons (h : PE X e (LE Sy X E ta)) (r : PA X es (LA Sy X E n tr)) (hs : starEach (e :: es) X.env = (false, eval e X.env) :: starEach es X.env := by rfl) : PA X (e :: es) (LA Sy X E (n + 1) (dCons ta tr)) :=
  (pa_cons h r hs).weak fun σ H Q ⟨w, N, O, F, ρ, R, Ex, en, t, q, qx⟩ => by
    refine ⟨w, N, O, F, ρ, _, Ex, en, t, fun x v H1 r1 k1 dx => ?_, qx⟩
    refine ⟨w, N, O, F, ρ, _, Ex, en.step k1, r1, fun us vs H2 hl r2 k2 hv => ?_, fun x cls dx H' hx k hh => qx x cls dx H' hx (k1.trans k) hh⟩
    exact q (.dat x :: us) (v :: vs) H2 (by simp [hl]) r2 (k1.trans k2) ⟨dv_step dx en.hw k2, hv⟩
theorem da_well (h : PE X e (tVar i)) (r : PA X es (LA Sy X E n tr)) (hs : starEach (e :: es) X.env = (false, eval e X.env) :: starEach es X.env := by rfl) : PA X (e :: es) (LA Sy X E (n + 1) (dConsW i tr)) :=
  (pa_cons h r hs).weak fun σ H Q ⟨w, N, O, F, ρ, R, Ex, en, t, q, qx⟩ => by
    unfold dConsW at t
    split at t
    · rename_i hd
      obtain ⟨v, h1, p, hp, rfl⟩ := en.slot i _ hd
      refine ⟨_, h1, w, N, O, F, ρ, _, Ex, en, t, fun us vs H2 hl r2 k2 hv => ?_, qx⟩
      exact q (.well :: us) (.ref p :: vs) H2 (by simp [hl]) r2 k2 ⟨⟨p, hp, rfl⟩, hv⟩
    · exact t.elim
theorem d_tup {x1} (h : PA X es (LA Sy X E n tr)) (hn : n ≤ 1000 := by decide) : PE X (.Tuple es x1 pos) (LE Sy X E (dTup tr)) := (pe_tup h).weak fun σ H Q ⟨w, N, O, F, ρ, R, Ex, en, t, q, qx⟩ => by
  refine ⟨w, N, O, F, ρ, _, Ex, en, t, fun us vs H1 hl r1 k1 hv => ?_, qx⟩
  split at r1
  · rename_i ds hd
    obtain ⟨all, l2⟩ := dats_all hv hd
    have l3 := all.length
    refine ⟨by rw [sizeLine_eq]; omega, fun p hp => ?_⟩
    have s := same_new hp (.tup vs)
    exact q _ _ _ r1 (k1.trans (.of s)) (.tup (.of upd_same) (all.same s))
  · exact r1.elim
theorem d_lst (h : PA X es (LA Sy X E n tr)) (hn : n ≤ 1000 := by decide) : PE X (.List es pos) (LE Sy X E (dLst tr)) := (pe_list h).weak fun σ H Q ⟨w, N, O, F, ρ, R, Ex, en, t, q, qx⟩ => by
  refine ⟨w, N, O, F, ρ, _, Ex, en, t, fun us vs H1 hl r1 k1 hv => ?_, qx⟩
  split at r1
  · rename_i ds hd
    obtain ⟨all, l2⟩ := dats_all hv hd
    have l3 := all.length
    refine ⟨by rw [sizeLine_eq]; omega, fun p hp np => ?_⟩
    have s := same_new hp (.lst vs)
    exact q _ _ _ r1 (k1.trans (.of s)) (.lst ((en.step k1).ok.fr p hp np) upd_same (all.same s))
  · exact r1.elim
def CallD (Sy : Md) (X : Cx) (r : List V → Hp → VK → Prop) (f : List PyData → RD → Prop) : Prop := ∀ (N : Bn) (H : Hp) (vs : List V) (ds : List PyData) (R : RD) (Q : VK), f ds R → DvAll N H vs ds → FreshB N H → (Sy.m = true → N sysModules) → N.K = X.K → (Sy.y = false → ∀ p, H p = none → ¬ N p) →
  (∀ d z H', R d → Same H H' → Dv N H' z d → Q z H') → r vs H Q
theorem d_cb {r : List V → Hp → VK → Prop} {f : List PyData → RD → Prop} (h : PE X e (tCB r (LA Sy X E n tr))) (o : CallD Sy X r f) : PE X e (LE Sy X E (dCB f tr)) := h.weak fun σ H Q ⟨w, N, O, F, ρ, R, Ex, en, t, q, qx⟩ => by
  refine ⟨w, N, O, F, ρ, _, Ex, en, t, fun us vs H1 hl r1 k1 hv => ?_, qx⟩
  have en1 := en.step k1
  split at r1
  · rename_i ds hd
    exact o N H1 vs ds R Q r1 (dats_all hv hd).1 en1.ok.fr en1.ok.sn en1.ok.kk en1.ok.sl fun d z H' hr s dz => q d z H' hr (k1.trans (.of s)) dz
  · exact r1.elim
/-- isinstance(x, a built-in class) -/
theorem d_isi {T : String} {f : PyData → Bool} (h : PE X e (tCB (rIsD T f X.K) (tCons (LE Sy X E ta) (tCons (tC (.ty T)) tNil)))) : PE X e (LE Sy X E (dUn (fun d R => noE d = true ∧ R (.bool (f d))) ta)) := h.weak fun σ H Q ⟨w, N, O, F, ρ, R, Ex, en, t, q, qx⟩ => by
  refine ⟨w, N, O, F, ρ, _, Ex, en, t, fun x v H1 r1 k1 dx => ?_, qx⟩
  exact ⟨N, v, x, en.ok.kk, rfl, dx, r1.1, q _ _ H1 r1.2 k1 (.bl _)⟩
/-! ### calls of defs -/
/-- the promise of a def by data -/
def spF (base : Gnd) (mg : Str → Option Value) (n : Nat) (t : TF) : Sp := fun vs H Q E => ∃ (w : Wx) (N : Bn) (us : List Sv) (R : RD) (Ex : XD), us.length = n ∧ SvsR w N H vs us ∧ WlOk base w N H ∧ t us R Ex ∧
  (∀ d v H', R d → Stp w H H' → Dv N H' v d → Q v H') ∧ (∀ x cls dx H', Ex x → Stp w H H' → ExAt mg N H' cls dx x → E cls dx H')
theorem spF.len {base : Gnd} {mg : Str → Option Value} {n : Nat} {t : TF} {vs : List V} {H : Hp} {Q : VK} {E : XK} (h : spF base mg n t vs H Q E) : vs.length = n := by
  obtain ⟨w, N, us, R, Ex, hl, hv, _⟩ := h
  rw [hv.length, hl]
theorem d_call {tf : TF} (h : PE X e (fun σ H Q => LA Sy X E n tr σ H fun vs H1 => spF (gnd Sy X) X.mg n tf vs H1 Q (E σ))) : PE X e (LE Sy X E (dCall tf tr)) := h.weak fun σ H Q ⟨w, N, O, F, ρ, R, Ex, en, t, q, qx⟩ => by
  refine ⟨w, N, O, F, ρ, _, Ex, en, t, fun us vs H1 hl r1 k1 hv => ?_, qx⟩
  exact ⟨w, N, us, R, Ex, hl, hv, (en.step k1).ok, r1, fun d v H' hr k dv => q d v H' hr (k1.trans k) dv, fun x cls dx H' hx k hh => qx x cls dx H' hx (k1.trans k) hh⟩
/-! ### tests -/
def truK (d : PyData) (R : Bool → Prop) : Prop := match d with
  | .bool b => R b
  | .none => R false
  | .int i => R (i != 0)
  | .list ds => R (!ds.isEmpty)
  | .tuple ds => R (!ds.isEmpty)
  | .str y => y.length ≤ sizeLine ∧ R ((y.length : Int) != 0)
  | .dict [] => R false
  | _ => False
def dTst (t : TD) : TTD := fun ρ R Ex => t ρ (fun d => truK d R) Ex
def dCmp (f : PyData → PyData → (Bool → Prop) → Prop) (ta tb : TD) : TTD := fun ρ R Ex => ta ρ (fun x => tb ρ (fun y => f x y R) Ex) Ex
def dCmpV (f : PyData → PyData → (Bool → Prop) → Prop) (ta tb : TD) : TD := fun ρ R Ex => ta ρ (fun x => tb ρ (fun y => f x y fun b => R (.bool b)) Ex) Ex
def dNot (t : TTD) : TTD := fun ρ R Ex => t ρ (fun b => R (!b)) Ex
def dAnd (t u : TTD) : TTD := fun ρ R Ex => t ρ (fun b => if b = true then u ρ R Ex else R false) Ex
def dOr (t u : TTD) : TTD := fun ρ R Ex => t ρ (fun b => if b = true then R true else u ρ R Ex) Ex
theorem _root_.L2.PT.weak {X : Cx} {e : Expr} {t t' : TT} (h : PT X e t) (i : ∀ σ H Q, t' σ H Q → t σ H Q) : PT X e t' := ⟨fun pins s σ H Q I q => h.run pins s σ H Q I (i σ H Q q)⟩
theorem _root_.L2.PW.weak {X : Cx} {e : Expr} {t t' : TT} (h : PW X e t) (i : ∀ σ H Q, t' σ H Q → t σ H Q) : PW X e t' := ⟨fun wh pins s σ H Q I q => h.run wh pins s σ H Q I (i σ H Q q)⟩
theorem dvs_empty {N : Bn} {H : Hp} {xs : List V} {ds : List PyData} (h : DvAll N H xs ds) : (!xs.isEmpty) = (!ds.isEmpty) := by cases h <;> rfl
theorem tru_dv {K : PySem.W.Frag} {N : Bn} {H : Hp} {v : V} {d : PyData} {R : Bool → Prop} (hK : N.K = K) (h : Dv N H v d) (r : truK d R) : ∃ k, TruV K v H k ∧ R k := by
  cases h with
  | non => exact ⟨false, rfl, r⟩
  | bl b => exact ⟨b, rfl, r⟩
  | int z => exact ⟨_, rfl, r⟩
  | str z => exact ⟨_, ⟨r.1, rfl⟩, r.2⟩
  | lst nn ea all => exact ⟨_, .inl ⟨_, .of ea, rfl⟩, by rw [dvs_empty all]; exact r⟩
  | tup ea all => exact ⟨_, .inr (.inl ⟨_, hK ▸ ea.sq, rfl⟩), by rw [dvs_empty all]; exact r⟩
  | dct nn ea => exact ⟨_, .inr (.inr ⟨_, ea, rfl⟩), r⟩
  | exn => exact r.elim
  | exn0 => exact r.elim
theorem dt_val (h : PT X e (fun σ H Q => LE Sy X E ta σ H fun x H' => ∃ k, TruV X.K x H' k ∧ Q k H')) : PT X e (LT Sy X E (dTst ta)) := h.weak fun σ H Q ⟨w, N, O, F, ρ, R, Ex, en, t, q, qx⟩ => by
  refine ⟨w, N, O, F, ρ, _, Ex, en, t, fun x v H1 r1 k1 dx => ?_, qx⟩
  obtain ⟨k, t1, r⟩ := tru_dv en.ok.kk dx r1
  exact ⟨k, t1, q _ _ r k1⟩
/-- a comparison: no thing is made -/
def CmpD (X : Cx) (r : R2) (f : PyData → PyData → (Bool → Prop) → Prop) : Prop := ∀ (N : Bn) (H : Hp) (v u : V) (x y : PyData) (R : Bool → Prop) (Q : VK), f x y R → Dv N H v x → Dv N H u y → N.K = X.K → (∀ b, R b → Q (.bl b) H) → r v u H Q
theorem dt_cmp {r : R2} {f : PyData → PyData → (Bool → Prop) → Prop} (h : PT X e (tTest (tOp r (LE Sy X E ta) (LE Sy X E tb)))) (o : CmpD X r f) : PT X e (LT Sy X E (dCmp f ta tb)) := h.weak fun σ H Q ⟨w, N, O, F, ρ, R, Ex, en, t, q, qx⟩ => by
  refine ⟨w, N, O, F, ρ, _, Ex, en, t, fun x v H1 r1 k1 dx => ?_, qx⟩
  have en1 := en.step k1
  refine ⟨w, N, O, F, ρ, _, Ex, en1, r1, fun y u H2 r2 k2 dy => ?_, fun x cls dx H' hx k hh => qx x cls dx H' hx (k1.trans k) hh⟩
  have en2 := en1.step k2
  exact o N H2 v u x y _ _ r2 (dv_step dx en.hw k2) dy en2.ok.kk fun b hb => ⟨b, rfl, q b H2 hb (k1.trans k2)⟩
theorem d_cmp {r : R2} {f : PyData → PyData → (Bool → Prop) → Prop} (h : PE X e (tOp r (LE Sy X E ta) (LE Sy X E tb))) (o : CmpD X r f) : PE X e (LE Sy X E (dCmpV f ta tb)) := h.weak fun σ H Q ⟨w, N, O, F, ρ, R, Ex, en, t, q, qx⟩ => by
  refine ⟨w, N, O, F, ρ, _, Ex, en, t, fun x v H1 r1 k1 dx => ?_, qx⟩
  have en1 := en.step k1
  refine ⟨w, N, O, F, ρ, _, Ex, en1, r1, fun y u H2 r2 k2 dy => ?_, fun x cls dx H' hx k hh => qx x cls dx H' hx (k1.trans k) hh⟩
  have en2 := en1.step k2
  exact o N H2 v u x y _ _ r2 (dv_step dx en.hw k2) dy en2.ok.kk fun b hb => q _ _ H2 hb (k1.trans k2) (.bl b)
/-- a < b < c -/
def dChain (f g : PyData → PyData → (Bool → Prop) → Prop) (ta tb tc : TD) : TD := fun ρ R Ex => ta ρ (fun x => tb ρ (fun y => f x y fun b => if b = true then tc ρ (fun z => g y z fun b => R (.bool b)) Ex else R (.bool false)) Ex) Ex
theorem d_chain {r r' : R2} {f g : PyData → PyData → (Bool → Prop) → Prop} {tc : TD} (h : PE X e (tChain r r' (LE Sy X E ta) (LE Sy X E tb) (LE Sy X E tc))) (o : CmpD X r f) (o' : CmpD X r' g) : PE X e (LE Sy X E (dChain f g ta tb tc)) := h.weak fun σ H Q ⟨w, N, O, F, ρ, R, Ex, en, t, q, qx⟩ => by
  refine ⟨w, N, O, F, ρ, _, Ex, en, t, fun x v H1 r1 k1 dx => ?_, qx⟩
  have en1 := en.step k1
  refine ⟨w, N, O, F, ρ, _, Ex, en1, r1, fun y u H2 r2 k2 dy => ?_, fun x cls dx H' hx k hh => qx x cls dx H' hx (k1.trans k) hh⟩
  have en2 := en1.step k2
  refine o N H2 v u x y _ _ r2 (dv_step dx en.hw k2) dy en2.ok.kk fun b hb => ⟨b, rfl, ?_⟩
  cases b with
  | false => exact q _ _ H2 hb (k1.trans k2) (.bl false)
  | true =>
    refine ⟨w, N, O, F, ρ, _, Ex, en2, hb, fun z s H3 r3 k3 dz => ?_, fun x cls dx H' hx k hh => qx x cls dx H' hx ((k1.trans k2).trans k) hh⟩
    exact o' N H3 u s y z _ _ r3 (dv_step dy en.hw k3) dz en2.ok.kk fun b hb => q _ _ H3 hb ((k1.trans k2).trans k3) (.bl b)
theorem dt_not {t : TTD} (h : PT X e (tNot (LT Sy X E t))) : PT X e (LT Sy X E (dNot t)) := h.weak fun σ H Q ⟨w, N, O, F, ρ, R, Ex, en, t, q, qx⟩ =>
  ⟨w, N, O, F, ρ, _, Ex, en, t, fun b H' r k => q _ _ r k, qx⟩
theorem dw_and {t u : TTD} (h : PW X e (tAnd (LT Sy X E t) (LT Sy X E u))) : PW X e (LT Sy X E (dAnd t u)) := h.weak fun σ H Q ⟨w, N, O, F, ρ, R, Ex, en, t, q, qx⟩ => by
  refine ⟨w, N, O, F, ρ, _, Ex, en, t, fun b H1 r k => ?_, qx⟩
  cases b with
  | false => exact q _ _ r k
  | true => exact ⟨w, N, O, F, ρ, _, Ex, en.step k, r, fun b H2 r2 k2 => q _ _ r2 (k.trans k2), fun x cls dx H' hx k2 hh => qx x cls dx H' hx (k.trans k2) hh⟩
theorem dw_or {t u : TTD} (h : PW X e (tOr (LT Sy X E t) (LT Sy X E u))) : PW X e (LT Sy X E (dOr t u)) := h.weak fun σ H Q ⟨w, N, O, F, ρ, R, Ex, en, t, q, qx⟩ => by
  refine ⟨w, N, O, F, ρ, _, Ex, en, t, fun b H1 r k => ?_, qx⟩
  cases b with
  | true => exact q _ _ r k
  | false => exact ⟨w, N, O, F, ρ, _, Ex, en.step k, r, fun b H2 r2 k2 => q _ _ r2 (k.trans k2), fun x cls dx H' hx k2 hh => qx x cls dx H' hx (k.trans k2) hh⟩
theorem d_if (h : PE X e (tIf (LT Sy X E tc) (LE Sy X E ta) (LE Sy X E tb))) : PE X e (LE Sy X E (dIf tc ta tb)) := h.weak fun σ H Q ⟨w, N, O, F, ρ, R, Ex, en, t, q, qx⟩ => by
  refine ⟨w, N, O, F, ρ, _, Ex, en, t, fun b H1 r k => ?_, qx⟩
  cases b with
  | true => exact ⟨w, N, O, F, ρ, _, Ex, en.step k, r, fun b v H2 r2 k2 => q _ _ _ r2 (k.trans k2), fun x cls dx H' hx k2 hh => qx x cls dx H' hx (k.trans k2) hh⟩
  | false => exact ⟨w, N, O, F, ρ, _, Ex, en.step k, r, fun b v H2 r2 k2 => q _ _ _ r2 (k.trans k2), fun x cls dx H' hx k2 hh => qx x cls dx H' hx (k.trans k2) hh⟩
/-! and, or, not as values -/
def dAndV (ta tb : TD) : TD := fun ρ R Ex => ta ρ (fun x => truK x fun b => if b = true then tb ρ R Ex else R x) Ex
def dOrV (ta tb : TD) : TD := fun ρ R Ex => ta ρ (fun x => truK x fun b => if b = true then R x else tb ρ R Ex) Ex
theorem d_andV (h : PE X e (tAndT X.K (LE Sy X E ta) (LE Sy X E tb))) : PE X e (LE Sy X E (dAndV ta tb)) := h.weak fun σ H Q ⟨w, N, O, F, ρ, R, Ex, en, t, q, qx⟩ => by
  refine ⟨w, N, O, F, ρ, _, Ex, en, t, fun x v H1 r k dx => ?_, qx⟩
  obtain ⟨b, t1, r⟩ := tru_dv en.ok.kk dx r
  refine ⟨b, t1, ?_⟩
  cases b with
  | false => exact q _ _ _ r k dx
  | true => exact ⟨w, N, O, F, ρ, _, Ex, en.step k, r, fun b v H2 r2 k2 => q _ _ _ r2 (k.trans k2), fun x cls dx H' hx k2 hh => qx x cls dx H' hx (k.trans k2) hh⟩
theorem d_orV (h : PE X e (tOrT X.K (LE Sy X E ta) (LE Sy X E tb))) : PE X e (LE Sy X E (dOrV ta tb)) := h.weak fun σ H Q ⟨w, N, O, F, ρ, R, Ex, en, t, q, qx⟩ => by
  refine ⟨w, N, O, F, ρ, _, Ex, en, t, fun x v H1 r k dx => ?_, qx⟩
  obtain ⟨b, t1, r⟩ := tru_dv en.ok.kk dx r
  refine ⟨b, t1, ?_⟩
  cases b with
  | true => exact q _ _ _ r k dx
  | false => exact ⟨w, N, O, F, ρ, _, Ex, en.step k, r, fun b v H2 r2 k2 => q _ _ _ r2 (k.trans k2), fun x cls dx H' hx k2 hh => qx x cls dx H' hx (k.trans k2) hh⟩
theorem d_notV (h : PE X e (tNotT X.K (LE Sy X E ta))) : PE X e (LE Sy X E (dUn (fun x R => truK x fun b => R (.bool (!b))) ta)) := h.weak fun σ H Q ⟨w, N, O, F, ρ, R, Ex, en, t, q, qx⟩ => by
  refine ⟨w, N, O, F, ρ, _, Ex, en, t, fun x v H1 r k dx => ?_, qx⟩
  obtain ⟨b, t1, r⟩ := tru_dv en.ok.kk dx r
  exact ⟨b, t1, q _ _ _ r k (.bl _)⟩
end
end Ld

namespace Ld
open PySem PySem.Spec PyProof.Rows L2 Lw

/-! ### statements by data -/
structure EndsD where
  nx : Env → Prop
  rt : RD
  bk : Env → Prop := fun _ => False
  ct : Env → Prop := fun _ => False
  ex : Env → XD := fun _ _ => False
abbrev TSD := EndsD → Env → Prop
abbrev Keep := List (V × PyData)
/-- the env, over the def's entry (w, N0, H0) -/
structure EnvB (base : Gnd) (w : Wx) (N0 : Bn) (H0 : Hp) (N : Bn) (O : Nat → Option Addr) (F : Keep) (H : Hp) (σ : L2.St) (ρ : Env) : Prop where
  e : EnvR base w N O F H σ ρ
  st : Stp w H0 H
  sub : ∀ b, N0 b → N b
  new : ∀ i a, O i = some a → (∀ u, H0 a = some u → w.T ≠ [] ∧ ∃ ps, u = HO.tbl ps) ∧ a ≠ sysModules ∧ ¬ N0 a
  fr0 : FreshB N0 H0
  k0 : N0.K = base.K
section
variable {base : Gnd} {w : Wx} {N0 N : Bn} {O : Nat → Option Addr} {F : Keep} {H0 H H' : Hp} {σ : L2.St} {ρ : Env}
theorem EnvB.step (b : EnvB base w N0 H0 N O F H σ ρ) (k : Stp w H H') : EnvB base w N0 H0 N O F H' σ ρ := ⟨b.e.step k, b.st.trans k, b.sub, b.new, b.fr0, b.k0⟩
theorem EnvB.put (b : EnvB base w N0 H0 N O F H σ ρ) (i : Nat) {v : V} {d : PyData} (h : Dv N H v d) : EnvB base w N0 H0 N (fun j => if j = i then none else O j) F H (σ.set i (some v)) (putD ρ i (some (.dat d))) :=
  ⟨b.e.put i h, b.st, b.sub, fun j a z => by
    split at z
    · cases z
    · exact b.new j a z, b.fr0, b.k0⟩
theorem EnvB.less {G : Keep} (b : EnvB base w N0 H0 N O F H σ ρ) (h : ∀ p ∈ G, Dv N H p.1 p.2) : EnvB base w N0 H0 N O (G ++ F) H σ ρ :=
  ⟨⟨b.e.ok, b.e.len, b.e.slot, b.e.inj, b.e.ow, fun p hp => (List.mem_append.mp hp).elim (h p) (b.e.kept p)⟩, b.st, b.sub, b.new, b.fr0, b.k0⟩
theorem EnvB.drop {G : Keep} (b : EnvB base w N0 H0 N O (G ++ F) H σ ρ) : EnvB base w N0 H0 N O F H σ ρ :=
  ⟨⟨b.e.ok, b.e.len, b.e.slot, b.e.inj, b.e.ow, fun p hp => b.e.kept p (List.mem_append_right _ hp)⟩, b.st, b.sub, b.new, b.fr0, b.k0⟩
end
/-- what is wanted behind, by data -/
structure DnOk (Sy : Md) (X : Cx) (E : L2.St → XK) (w : Wx) (N0 : Bn) (H0 : Hp) (F : Keep) (D : Ends) (DD : EndsD) : Prop where
  nx : ∀ N O H σ ρ, DD.nx ρ → EnvB (gnd Sy X) w N0 H0 N O F H σ ρ → D.nx σ H
  rt : ∀ d v H, DD.rt d → Stp w H0 H → Dv N0 H v d → D.rt v H
  bk : ∀ N O H σ ρ, DD.bk ρ → EnvB (gnd Sy X) w N0 H0 N O F H σ ρ → D.bk σ H
  ct : ∀ N O H σ ρ, DD.ct ρ → EnvB (gnd Sy X) w N0 H0 N O F H σ ρ → D.ct σ H
  ex : ∀ N O H σ ρ x cls dx, DD.ex ρ x → EnvB (gnd Sy X) w N0 H0 N O F H σ ρ → ExAt X.mg N H cls dx x → E σ cls dx H
def LS (Sy : Md) (X : Cx) (E : L2.St → XK) (t : TSD) : TS := fun D σ H => ∃ (w : Wx) (N0 : Bn) (H0 : Hp) (N : Bn) (O : Nat → Option Addr) (F : Keep) (ρ : Env) (DD : EndsD),
  EnvB (gnd Sy X) w N0 H0 N O F H σ ρ ∧ t DD ρ ∧ DnOk Sy X E w N0 H0 F D DD
/-! combinators -/
def sSeq (t u : TSD) : TSD := fun D ρ => t { D with nx := u D } ρ
def sNx : TSD := fun D ρ => D.nx ρ
def sSet (i : Nat) (t : TD) : TSD := fun D ρ => t ρ (fun d => D.nx (putD ρ i (some (.dat d)))) (D.ex ρ)
def sRet (t : TD) : TSD := fun D ρ => t ρ D.rt (D.ex ρ)
def sRetN : TSD := fun D _ => D.rt .none
def sIf (c : TTD) (t u : TSD) : TSD := fun D ρ => c ρ (fun b => if b = true then t D ρ else u D ρ) (D.ex ρ)
def sExpr (t : TD) : TSD := fun D ρ => t ρ (fun _ => D.nx ρ) (D.ex ρ)
def sBrk : TSD := fun D ρ => D.bk ρ
def sCont : TSD := fun D ρ => D.ct ρ
def sPar (i j : Nat) (ta : TAD) : TSD := fun D ρ => ta ρ (fun us => match us with
  | [.dat a, .dat b] => D.nx (putD (putD ρ i (some (.dat a))) j (some (.dat b)))
  | _ => False) (D.ex ρ)
def sPar3 (i j l : Nat) (ta : TAD) : TSD := fun D ρ => ta ρ (fun us => match us with
  | [.dat a, .dat b, .dat c] => D.nx (putD (putD (putD ρ i (some (.dat a))) j (some (.dat b))) l (some (.dat c)))
  | _ => False) (D.ex ρ)
/-- targets -/
abbrev GD := PyData → Env → (Env → Prop) → Prop
abbrev GsD := List PyData → Env → (Env → Prop) → Prop
def gdN (i : Nat) : GD := fun d ρ K => K (putD ρ i (some (.dat d)))
def lenK : List PyData → Nat → Prop → Prop
  | [], 0, P => P
  | _ :: r, n + 1, P => lenK r n P
  | _, _, _ => False
def gdT (n : Nat) (gs : GsD) : GD := fun d ρ K => match d with
  | .tuple ds => lenK ds n (gs ds ρ K)
  | _ => False
def gdNil : GsD := fun ds ρ K => match ds with
  | [] => K ρ
  | _ => False
def gdCons (g : GD) (gs : GsD) : GsD := fun ds ρ K => match ds with
  | d :: r => g d ρ (fun ρ' => gs r ρ' K)
  | _ => False
def sAsg (t : TD) (g : GD) : TSD := fun D ρ => t ρ (fun d => g d ρ D.nx) (D.ex ρ)
def whileD (c : TTD) (tb : TSD) (D : EndsD) : Nat → Env → Prop
  | 0, _ => False
  | n + 1, ρ => c ρ (fun b => if b = true then tb { D with nx := whileD c tb D n, ct := whileD c tb D n, bk := D.nx } ρ else D.nx ρ) (D.ex ρ)
def sWhile (c : TTD) (tb : TSD) : TSD := fun D ρ => ∃ n, whileD c tb D n ρ
abbrev ID := Env → (List PyData → Prop) → XD → Prop
def forD (g : GD) (tb : TSD) (D : EndsD) : List PyData → Env → Prop
  | [], ρ => D.nx ρ
  | d :: r, ρ => g d ρ (fun ρ1 => tb { D with nx := forD g tb D r, ct := forD g tb D r, bk := D.nx } ρ1)
def sFor (ti : ID) (g : GD) (tb : TSD) : TSD := fun D ρ => ti ρ (fun ds => forD g tb D ds ρ) (D.ex ρ)
theorem _root_.L2.PS.weak {X : Cx} {e : Stmt} {t t' : TS} (h : PS X e t) (i : ∀ D σ H, t' D σ H → t D σ H) : PS X e t' := ⟨fun pins s σ H D I q => h.run pins s σ H D I (i D σ H q)⟩
theorem _root_.L2.PSs.weak {X : Cx} {e : List Stmt} {t t' : TS} (h : PSs X e t) (i : ∀ D σ H, t' D σ H → t D σ H) : PSs X e t' := ⟨fun pins s σ H D I q => h.run pins s σ H D I (i D σ H q)⟩
section
variable {Sy : Md} {X : Cx} {E : L2.St → XK} {st : Stmt} {sts : List Stmt} {pos : Pos} {i j l n : Nat} {t u : TSD} {te : TD} {tc : TTD} {tr : TAD}
/-- an expression within a statement -/
theorem le_in {w : Wx} {N0 : Bn} {H0 : Hp} {N : Bn} {O : Nat → Option Addr} {F : Keep} {ρ : Env} {σ : L2.St} {H : Hp} {R : RD} {Q : VK} {D : Ends} {DD : EndsD} (b : EnvB (gnd Sy X) w N0 H0 N O F H σ ρ) (k : DnOk Sy X E w N0 H0 F D DD) (h : te ρ R (DD.ex ρ))
    (q : ∀ d v H', R d → EnvB (gnd Sy X) w N0 H0 N O F H' σ ρ → Dv N H' v d → Q v H') : LE Sy X E te σ H Q :=
  ⟨w, N, O, F, ρ, R, _, b.e, h, fun d v H' r s dv => q d v H' r (b.step s) dv, fun x cls dx H' hx s hh => k.ex N O H' σ ρ x cls dx hx (b.step s) hh⟩
theorem lt_in {w : Wx} {N0 : Bn} {H0 : Hp} {N : Bn} {O : Nat → Option Addr} {F : Keep} {ρ : Env} {σ : L2.St} {H : Hp} {R : Bool → Prop} {Q : Bool → Hp → Prop} {D : Ends} {DD : EndsD} (b : EnvB (gnd Sy X) w N0 H0 N O F H σ ρ) (k : DnOk Sy X E w N0 H0 F D DD) (h : tc ρ R (DD.ex ρ))
    (q : ∀ c H', R c → EnvB (gnd Sy X) w N0 H0 N O F H' σ ρ → Q c H') : LT Sy X E tc σ H Q :=
  ⟨w, N, O, F, ρ, R, _, b.e, h, fun c H' r s => q c H' r (b.step s), fun x cls dx H' hx s hh => k.ex N O H' σ ρ x cls dx hx (b.step s) hh⟩
theorem la_in {w : Wx} {N0 : Bn} {H0 : Hp} {N : Bn} {O : Nat → Option Addr} {F : Keep} {ρ : Env} {σ : L2.St} {H : Hp} {R : List Sv → Prop} {Q : List V → Hp → Prop} {D : Ends} {DD : EndsD} (b : EnvB (gnd Sy X) w N0 H0 N O F H σ ρ) (k : DnOk Sy X E w N0 H0 F D DD) (h : tr ρ R (DD.ex ρ))
    (q : ∀ us vs H', us.length = n → R us → EnvB (gnd Sy X) w N0 H0 N O F H' σ ρ → SvsR w N H' vs us → Q vs H') : LA Sy X E n tr σ H Q :=
  ⟨w, N, O, F, ρ, R, _, b.e, h, fun us vs H' hl r s dv => q us vs H' hl r (b.step s) dv, fun x cls dx H' hx s hh => k.ex N O H' σ ρ x cls dx hx (b.step s) hh⟩
theorem ds_cons (h1 : PS X st (LS Sy X E t)) (h2 : PSs X sts (LS Sy X E u)) : PSs X (st :: sts) (LS Sy X E (sSeq t u)) := (pss_cons h1 h2).weak fun D σ H ⟨w, N0, H0, N, O, F, ρ, DD, b, h, k⟩ =>
  ⟨w, N0, H0, N, O, F, ρ, { DD with nx := u DD }, b, h, ⟨fun N O H σ ρ hn b => ⟨w, N0, H0, N, O, F, ρ, DD, b, hn, k⟩, k.rt, k.bk, k.ct, k.ex⟩⟩
theorem ds_one (h1 : PS X st (LS Sy X E t)) : PSs X [st] (LS Sy X E t) := pss_one h1
theorem ds_nil : PSs X [] (LS Sy X E sNx) := pss_nil.weak fun D σ H ⟨w, N0, H0, N, O, F, ρ, DD, b, h, k⟩ => k.nx N O H σ ρ h b
theorem ds_set (h : PS X st (tAsg (LE Sy X E te) (gName i))) : PS X st (LS Sy X E (sSet i te)) := h.weak fun D σ H ⟨w, N0, H0, N, O, F, ρ, DD, b, h, k⟩ =>
  le_in b k h fun d v H' r b' dv => k.nx _ _ H' _ _ r (b'.put i dv)
theorem ds_ret (h : PS X st (tRet (LE Sy X E te))) : PS X st (LS Sy X E (sRet te)) := h.weak fun D σ H ⟨w, N0, H0, N, O, F, ρ, DD, b, h, k⟩ =>
  le_in b k h fun d v H' r b' dv => k.rt d v H' r b'.st (dv.less (b'.k0.trans b'.e.ok.kk.symm) b'.sub)
theorem ds_if (h : PS X st (tIfS (LT Sy X E tc) (LS Sy X E t) (LS Sy X E u))) : PS X st (LS Sy X E (sIf tc t u)) := h.weak fun D σ H ⟨w, N0, H0, N, O, F, ρ, DD, b, h, k⟩ =>
  lt_in b k h fun c H' r b' => by
    cases c with
    | true => exact ⟨w, N0, H0, N, O, F, ρ, DD, b', r, k⟩
    | false => exact ⟨w, N0, H0, N, O, F, ρ, DD, b', r, k⟩
theorem ds_par (h : PS X st (tPar i j (LA Sy X E n tr))) : PS X st (LS Sy X E (sPar i j tr)) := h.weak fun D σ H ⟨w, N0, H0, N, O, F, ρ, DD, b, h, k⟩ =>
  la_in b k h fun us vs H' hl r b' hv => by
    match us, vs, r, hv with
    | [.dat a, .dat c], [v, u], r, hv =>
      exact ⟨v, u, rfl, k.nx _ _ H' _ _ r ((b'.put i hv.1).put j hv.2.1)⟩
end
/-- a target's reading by data; vs: the slots it may fill -/
structure GOk (K0 : PySem.W.Frag) (g : TG) (gd : GD) (sl : List Nat) : Prop where
  run : ∀ (base : Gnd) (w : Wx) (N : Bn) (O : Nat → Option Addr) (F : List (V × PyData)) (H : Hp) (σ : L2.St) (ρ : Env) (v : V) (d : PyData) (K : Env → Prop) (Q : L2.St → Hp → Prop), base.K = K0 → EnvR base w N O F H σ ρ → Dv N H v d → gd d ρ K →
    (∀ O' σ' ρ', K ρ' → EnvR base w N O' F H σ' ρ' → (∀ vs : List Nat, (∀ i ∈ sl, i ∈ vs) → wipe σ' vs = wipe σ vs) → (∀ i a, O' i = some a → O i = some a) → Q σ' H) → g v σ H Q
structure GsOk (K0 : PySem.W.Frag) (g : TGs) (gd : GsD) (sl : List Nat) : Prop where
  run : ∀ (base : Gnd) (w : Wx) (N : Bn) (O : Nat → Option Addr) (F : List (V × PyData)) (H : Hp) (σ : L2.St) (ρ : Env) (vs : List V) (ds : List PyData) (K : Env → Prop) (Q : L2.St → Hp → Prop), base.K = K0 → EnvR base w N O F H σ ρ → DvAll N H vs ds → gd ds ρ K →
    (∀ O' σ' ρ', K ρ' → EnvR base w N O' F H σ' ρ' → (∀ vs : List Nat, (∀ i ∈ sl, i ∈ vs) → wipe σ' vs = wipe σ vs) → (∀ i a, O' i = some a → O i = some a) → Q σ' H) → g vs σ H Q
theorem set_set {α : Type} (l : List α) (i : Nat) (x y : α) : (l.set i x).set i y = l.set i y := by
  apply List.ext_getElem?
  intro k
  by_cases h : k = i
  · subst h
    simp [List.getElem?_set]
  · simp [List.getElem?_set, Ne.symm h]
theorem set_swap {α : Type} (l : List α) (i j : Nat) (x y : α) (h : i ≠ j) : (l.set i x).set j y = (l.set j y).set i x := (List.set_comm x y h)
theorem wipe_set (σ : L2.St) (i : Nat) (x : Option V) : ∀ vs : List Nat, i ∈ vs → wipe (σ.set i x) vs = wipe σ vs
  | [], h => by cases h
  | v :: vs, h => by
    show (wipe (σ.set i x) vs).set v none = (wipe σ vs).set v none
    by_cases c : i ∈ vs
    · rw [wipe_set σ i x vs c]
    · have e : i = v := by
        rcases List.mem_cons.mp h with e | e
        · exact e
        · exact absurd e c
      subst e
      have z : ∀ vs : List Nat, i ∉ vs → wipe (σ.set i x) vs = (wipe σ vs).set i x := fun vs => by
        induction vs with
        | nil => intro _; rfl
        | cons u us ih =>
          intro n
          show (wipe (σ.set i x) us).set u none = ((wipe σ us).set u none).set i x
          rw [ih fun q => n (List.mem_cons_of_mem _ q), set_swap _ i u _ _ fun q => n (by rw [q]; exact List.mem_cons_self ..)]
      rw [z vs c, set_set]
theorem go_name {K0 : PySem.W.Frag} (i : Nat) : GOk K0 (gName i) (gdN i) [i] := ⟨fun base w N O F H σ ρ v d K Q _ b dv h q => q _ _ _ h (b.put i dv) (fun vs hv => wipe_set σ i _ vs (hv i (List.mem_singleton.mpr rfl))) fun j a hj => by
  split at hj
  · cases hj
  · exact hj⟩
structure Feeds (K : PySem.W.Frag) (J : It) (G : Keep) (ds : List PyData) : Prop where
  stop : ∀ N H, N.K = K → (∀ p ∈ G, Dv N H p.1 p.2) → J.stop ds.length H
  go : ∀ N H (i : Nat) d, N.K = K → (∀ p ∈ G, Dv N H p.1 p.2) → ds[i]? = some d → J.go i H ∧ ∀ x H', J.yld i H x H' → Same H H' ∧ Dv N H' x d
structure IOk (Sy : Md) (X : Cx) (E : L2.St → XK) (wi : TI) (ti : ID) : Prop where
  run : ∀ (w : Wx) (N : Bn) (O : Nat → Option Addr) (F : Keep) (ρ : Env) (σ : L2.St) (H : Hp) (R : List PyData → Prop) (Ex : XD) (Q : It → Hp → Prop), EnvR (gnd Sy X) w N O F H σ ρ → ti ρ R Ex →
    (∀ ds J G H1, R ds → Stp w H H1 → (∀ p ∈ G, Dv N H1 p.1 p.2) → Feeds X.K J G ds → Q J H1) → (∀ x cls dx H', Ex x → Stp w H H' → ExAt X.mg N H' cls dx x → E σ cls dx H') → wi σ H Q
def iSeq (t : TD) : ID := fun ρ R Ex => t ρ (fun d => match d with
  | .list ds => R ds
  | .tuple ds => R ds
  | _ => False) Ex
def iLst (t : TD) : ID := fun ρ R Ex => t ρ (fun d => match d with
  | .list ds => R ds
  | _ => False) Ex
def iTpl (t : TD) : ID := fun ρ R Ex => t ρ (fun d => match d with
  | .tuple ds => R ds
  | _ => False) Ex
def rangeD (lo : Int) (n : Nat) : List PyData := (List.range n).map fun (k : Nat) => PyData.int (lo + (k : Int))
def iRg1 (ta : TAD) : ID := fun ρ R Ex => ta ρ (fun us => match us with
  | [.dat (.int j)] => (-(2 ^ 62) ≤ j ∧ j < 2 ^ 62) ∧ R (rangeD 0 j.toNat)
  | _ => False) Ex
def iRg2 (ta : TAD) : ID := fun ρ R Ex => ta ρ (fun us => match us with
  | [.dat (.int i), .dat (.int j)] => (-(2 ^ 62) ≤ i ∧ i < 2 ^ 62 ∧ -(2 ^ 62) ≤ j ∧ j < 2 ^ 62) ∧ R (rangeD i (j - i).toNat)
  | _ => False) Ex
section
variable {Sy : Md} {X : Cx} {E : L2.St → XK} {st : Stmt} {sts : List Stmt} {pos : Pos} {t u : TD}
theorem rangeD_get {lo : Int} {n i : Nat} {d : PyData} (h : (rangeD lo n)[i]? = some d) : i < n ∧ d = .int (lo + (i : Int)) := by
  unfold rangeD at h
  rw [List.getElem?_map] at h
  by_cases c : i < n
  · rw [List.getElem?_range c] at h
    exact ⟨c, (Option.some.inj h).symm⟩
  · rw [List.getElem?_eq_none (by simp; omega)] at h
    cases h
theorem rangeD_len (lo : Int) (n : Nat) : (rangeD lo n).length = n := by simp [rangeD]
theorem feeds_range {K : PySem.W.Frag} (lo : Int) (n : Nat) : Feeds K (Itr lo n) [] (rangeD lo n) := ⟨fun N H _ _ => by rw [rangeD_len]; exact Nat.le_refl _, fun N H i d _ _ hd => by
  obtain ⟨a, rfl⟩ := rangeD_get hd
  exact ⟨a, fun x H' ⟨e1, e2⟩ => by subst e1; subst e2; exact ⟨.refl _, .int _⟩⟩⟩
theorem io_rg1 {n : Nat} {tr : TAD} : IOk Sy X E (iRng1 (LA Sy X E n tr)) (iRg1 tr) := ⟨fun w N O F ρ σ H R Ex Q en h q qx => ⟨w, N, O, F, ρ, _, Ex, en, h, fun us vs H1 hl r k hv => by
  split at r
  · rename_i j
    match vs, hv with
    | [v], hv =>
      cases hv.1
      exact ⟨j, rfl, r.1.1, r.1.2, q _ _ [] H1 r.2 k (fun p hp => by cases hp) (feeds_range 0 _)⟩
  · exact r.elim, qx⟩⟩
theorem drop_get {α : Type} {l r : List α} {d : α} {i : Nat} (h : l.drop i = d :: r) : l[i]? = some d ∧ l.drop (i + 1) = r := by
  have e : (l.drop i)[0]? = some d := by rw [h] <;> rfl
  rw [List.getElem?_drop] at e
  refine ⟨by simpa using e, ?_⟩
  have : (l.drop i).drop 1 = r := by rw [h] <;> rfl
  rw [List.drop_drop] at this
  exact this
theorem drop_end {α : Type} {l : List α} {i : Nat} (hi : i ≤ l.length) (h : l.drop i = []) : i = l.length := by
  have := congrArg List.length h
  simp at this
  omega
theorem ds_while {tc : TTD} {tb : TSD} (h : PS X st (tWhile (LT Sy X E tc) (LS Sy X E tb))) : PS X st (LS Sy X E (sWhile tc tb)) := h.weak fun D σ H ⟨w, N0, H0, N, O, F, ρ, DD, b, ⟨n, h⟩, k⟩ => by
  refine ⟨fun m σ H => ∃ N O ρ, EnvB (gnd Sy X) w N0 H0 N O F H σ ρ ∧ whileD tc tb DD m ρ, ⟨n, N, O, ρ, b, h⟩, ?_⟩
  rintro m σ H ⟨N, O, ρ, b, h⟩
  cases m with
  | zero => exact h.elim
  | succ m =>
    refine lt_in b k (R := fun c => if c = true then tb { DD with nx := whileD tc tb DD m, ct := whileD tc tb DD m, bk := DD.nx } ρ else DD.nx ρ) h fun c H' r b' => ?_
    cases c with
    | false => exact k.nx N O H' σ ρ r b'
    | true =>
      have up : ∀ N O H σ ρ, whileD tc tb DD m ρ → EnvB (gnd Sy X) w N0 H0 N O F H σ ρ → ∃ m', m' < m + 1 ∧ ∃ N O ρ, EnvB (gnd Sy X) w N0 H0 N O F H σ ρ ∧ whileD tc tb DD m' ρ := fun N O H σ ρ hw b => ⟨m, Nat.lt_succ_self _, N, O, ρ, b, hw⟩
      refine ⟨fun σ' H' => ∃ m', m' < m + 1 ∧ ∃ N O ρ, EnvB (gnd Sy X) w N0 H0 N O F H' σ' ρ ∧ whileD tc tb DD m' ρ, fun σ' H' z => z, ?_⟩
      exact ⟨w, N0, H0, N, O, F, ρ, _, b', r, ⟨up, k.rt, k.nx, up, k.ex⟩⟩
def startD : List Sv → List Str → Env
  | _, [] => []
  | [], _ :: ns => none :: startD [] ns
  | u :: us, _ :: ns => some u :: startD us ns
theorem startD_eq : ∀ (us : List Sv) (N : List Str), us.length ≤ N.length → startD us N = us.map some ++ List.replicate (N.length - us.length) none
  | [], [], _ => rfl
  | _ :: _, [], h => by simp at h
  | [], _ :: ns, _ => by
    have := startD_eq [] ns (Nat.zero_le _)
    simp [startD, List.replicate_succ] at this ⊢
    exact this
  | u :: us, _ :: ns, h => by
    have := startD_eq us ns (by simpa using h)
    simp [startD] at this ⊢
    exact this
theorem slot_none : ∀ (n i : Nat), slotD (List.replicate n none) i = none
  | 0, i => by cases i <;> rfl
  | n + 1, 0 => rfl
  | n + 1, i + 1 => slot_none n i
theorem start_slot {w : Wx} {N : Bn} {H : Hp} {n : Nat} : ∀ {vs : List V} {us : List Sv}, SvsR w N H vs us → ∀ (i : Nat) (y : Sv) (k : Nat), slotD (us.map some ++ List.replicate k none) i = some y → ∃ v, (vs.map some ++ List.replicate n (none : Option V))[i]? = some (some v) ∧ SvR w N (fun _ => none) H i v y
  | [], [], _, i, y, k, h => by
    rw [show (([] : List Sv).map some ++ List.replicate k none) = List.replicate k (none : Option Sv) from rfl, slot_none] at h
    cases h
  | v :: vs, u :: us, hh, 0, y, k, h => by
    cases (show some u = some y from h)
    refine ⟨v, rfl, ?_⟩
    cases u with
    | dat d => exact hh.1
    | own ds => exact hh.1.elim
    | well => exact hh.1
    | fn _ => exact hh.1
  | v :: vs, u :: us, hh, i + 1, y, k, h => by
    obtain ⟨z, a, b⟩ := start_slot (n := n) hh.2 i y k h
    refine ⟨z, by simpa using a, ?_⟩
    cases y with
    | dat d => exact b
    | own ds =>
      obtain ⟨_, _, _, o, _⟩ := b
      cases o
    | well => exact b
    | fn _ => exact b
  | [], _ :: _, h, _, _, _, _ => h.elim
  | _ :: _, [], h, _, _, _, _ => h.elim
end
section
variable {P : Program} {w : World} {K : PySem.W.Frag} {mg : Str → Option Value} {base : Heap}
/-- the reading of a def's body -/
def tfOf (N : List Str) (t : TSD) : TF := fun us R Ex => t { nx := fun _ => R .none, rt := R, ex := fun _ => Ex } (startD us N)
theorem Dn.data {Sy : Md} {x : Str} {st : Stmt} {N ps : List Str} {k : Nat} {t : TSD} (D : Dn K mg x st ps) (S : FnScope N ps (defScope st))
    (hbody : ∀ (f : Addr) (cdv : Value) (A : Around) (outer : List PySem.Env) (s : Shared) (H : Hp) (E : XK), Room k (A.deeper (envOfC x (defScope st) s.heap.objs.size f cdv)) → A.guards = some [] →
      PSs (cxOf (L2.CX P w) P w K mg base N x (defScope st) f cdv A outer s H E) (defBody st) (LS Sy (cxOf (L2.CX P w) P w K mg base N x (defScope st) f cdv A outer s H E) (fun _ => E) t)) :
    Cl (L2.CX P w) P w K mg base (k + 1) x (spF ⟨base, K, Sy⟩ mg ps.length (tfOf N t)) := by
  refine D.call S (fun vs H Q E h => h.len) (fun f cdv A outer s H vs Q E hr hg h => ⟨_, hbody f cdv A outer s H E hr hg, ?_⟩)
  obtain ⟨wl, Nb, us, R, Ex, hl, hv, ok, ht, q, qx⟩ := h
  refine ⟨wl, Nb, H, Nb, fun _ => none, [], _, _, ⟨⟨ok, ?_, ?_, fun i j a z _ => (nomatch z), fun i a z => (nomatch z), fun p hp => (nomatch hp)⟩, .refl _ _, fun _ z => z, fun _ _ z => (nomatch z), ok.fr, ok.kk⟩, ht, ⟨fun N O H1 σ ρ r b => q .none .non H1 r b.st .non, fun d v H1 r s dv => q d v H1 r s dv, fun _ _ _ _ _ z => z.elim, fun _ _ _ _ _ z => z.elim, ?_⟩⟩
  · have := hv.length
    have le : us.length ≤ N.length := by
      have := congrArg List.length S.pre
      rw [List.length_take] at this
      omega
    rw [startD_eq us N le]
    simp [L2.start, this]
  · have le : us.length ≤ N.length := by
      have := congrArg List.length S.pre
      rw [List.length_take] at this
      omega
    rw [startD_eq us N le]
    exact fun i y h => start_slot hv i y _ h
  · intro N O H1 σ ρ x cls dx hx b hh
    refine qx x cls dx H1 hx b.st ?_
    obtain ⟨C, h1, h2, h3⟩ := hh
    refine ⟨C, h1, h2, ?_⟩
    split
    · rename_i e
      rw [e] at h3
      exact h3
    · rename_i f d e
      rw [e] at h3
      obtain ⟨a, v, e1, e2, e3⟩ := h3
      exact ⟨a, v, e1, e2, e3.less (b.k0.trans b.e.ok.kk.symm) b.sub⟩
    · rename_i e1 e2
      split at h3
      · rename_i e
        exact absurd e e1
      · rename_i f d e
        exact absurd e (e2 f d)
      · exact h3
end
end Ld

namespace Ld
open PySem PySem.Spec PyProof.Rows L2 Lw
/-! ### a new list that grows -/
def Bn.add (N : Bn) (l : Addr) : Bn := ⟨N.K, fun b => N b ∨ b = l⟩
section
variable {base : Gnd} {w : Wx} {N : Bn} {O : Nat → Option Addr} {F : Keep} {H : Hp} {σ : L2.St} {ρ : Env} {l : Addr}
theorem dv_ban {v : V} {d : PyData} {o : HO} (h : Dv N H v d) (hl : H l = none) : Dv (Bn.add N l) (upd H l o) v d :=
  Dv.map (N := N) (N' := Bn.add N l) (H := H) (H' := upd H l o) rfl (fun b u n q => ⟨by rw [upd_ne (ne_of_none q hl)]; exact q, fun z => z.elim n (ne_of_none q hl)⟩) (fun b xs q => by rw [upd_ne (ne_of_none q hl)]; exact q) _ _ h
theorem dvs_ban {v : List V} {d : List PyData} {o : HO} (h : DvAll N H v d) (hl : H l = none) : DvAll (Bn.add N l) (upd H l o) v d :=
  DvAll.map (N := N) (N' := Bn.add N l) (H := H) (H' := upd H l o) rfl (fun b u n q => ⟨by rw [upd_ne (ne_of_none q hl)]; exact q, fun z => z.elim n (ne_of_none q hl)⟩) (fun b xs q => by rw [upd_ne (ne_of_none q hl)]; exact q) _ _ h
theorem dv_poke {v : V} {d : PyData} {o : HO} {ys : List V} (h : Dv N H v d) (hn : N l) (hl : H l = some (.lst ys)) : Dv N (upd H l o) v d :=
  h.map (N' := N) (H' := upd H l o) rfl (fun b u n q => ⟨by rw [upd_ne (fun z => n (by rw [z]; exact hn))]; exact q, n⟩) (fun b xs q => by rw [upd_ne (ne_of q hl (by intro z; cases z))]; exact q) _ _
theorem dvs_poke {v : List V} {d : List PyData} {o : HO} {ys : List V} (h : DvAll N H v d) (hn : N l) (hl : H l = some (.lst ys)) : DvAll N (upd H l o) v d :=
  h.map (N' := N) (H' := upd H l o) rfl (fun b u n q => ⟨by rw [upd_ne (fun z => n (by rw [z]; exact hn))]; exact q, n⟩) (fun b xs q => by rw [upd_ne (ne_of q hl (by intro z; cases z))]; exact q) _ _
theorem _root_.Lw.WellAt.upd {p : Addr} {o : HO} (h : WellAt H p) (hp : p ≠ l) : WellAt (upd H l o) p := by
  obtain ⟨a, m, c, e, z⟩ := h
  exact ⟨a, m, c, by rw [upd_ne hp]; exact e, z⟩
theorem WlOk.ban {o : HO} (h : WlOk base w N H) (hl : H l = none) (ho : ∀ ps, o ≠ HO.tbl ps) : WlOk base w (Bn.add N l) (upd H l o) := by
  refine ⟨fun p e => ?_, fun p hp np => ?_, fun z => .inl (h.sn z), fun z p hp q => ?_, h.kk, fun p hp => .inl (h.tn p hp), tabs_more h.tb (fun b o n q => by rw [upd_ne n]; exact q) (.inl hl), h.tt, fun p ps hp c hs => ?_⟩
  · obtain ⟨h1, h2, h3⟩ := h.wl p e
    exact ⟨.inl h1, h2, h3.upd (h3.ne hl).symm⟩
  · have nl : p ≠ l := fun z => by
      rw [z, upd_same] at hp
      cases hp
    rw [upd_ne nl] at hp
    exact fun z => z.elim (h.fr p hp np) nl
  · have nl : p ≠ l := fun z => by
      rw [z, upd_same] at hp
      cases hp
    rw [upd_ne nl] at hp
    exact q.elim (h.sl z p hp) nl
  · have nl : p ≠ l := fun z => by
      rw [z, upd_same] at hp
      exact ho ps (Option.some.inj hp)
    rw [upd_ne nl] at hp
    exact fun z => z.elim (h.to p ps hp c hs) nl
theorem WlOk.poke {o : HO} {ys : List V} (h : WlOk base w N H) (hw : ¬ w.has l) (hl : H l = some (.lst ys)) (ho : ∀ ps, o ≠ HO.tbl ps) : WlOk base w N (upd H l o) := by
  refine ⟨fun p e => ?_, fun p hp np => ?_, h.sn, fun z p hp => ?_, h.kk, h.tn, tabs_more h.tb (fun b o n q => by rw [upd_ne n]; exact q) (.inr ⟨_, hl⟩), h.tt, fun p ps hp c hs => ?_⟩
  · obtain ⟨h1, h2, h3⟩ := h.wl p e
    exact ⟨h1, h2, h3.upd fun z => hw (.inl (by rw [e, z]))⟩
  · have nl : p ≠ l := fun z => by
      rw [z, upd_same] at hp
      cases hp
    rw [upd_ne nl] at hp
    exact h.fr p hp np
  · have nl : p ≠ l := fun z => by
      rw [z, upd_same] at hp
      cases hp
    rw [upd_ne nl] at hp
    exact h.sl z p hp
  · have nl : p ≠ l := fun z => by
      rw [z, upd_same] at hp
      exact ho ps (Option.some.inj hp)
    rw [upd_ne nl] at hp
    exact h.to p ps hp c hs
theorem EnvR.ban {xs : List V} (e : EnvR base w N O F H σ ρ) (hl : H l = none) : EnvR base w (Bn.add N l) O F (upd H l (.lst xs)) σ ρ := by
  refine ⟨e.ok.ban hl lst_ne, e.len, fun i y h => ?_, e.inj, fun i a h => ?_, fun p hp => dv_ban (e.kept p hp) hl⟩
  · obtain ⟨v, h1, h2⟩ := e.slot i y h
    refine ⟨v, h1, ?_⟩
    cases y with
    | dat d => exact dv_ban h2 hl
    | own ds =>
      obtain ⟨a, xs, r, oo, ha, hd⟩ := h2
      exact ⟨a, xs, r, oo, by rw [upd_ne (ne_of_none ha hl)]; exact ha, dvs_ban hd hl⟩
    | well => exact h2
    | fn _ => exact h2
  · obtain ⟨h1, h2, u, h3⟩ := e.ow i a h
    exact ⟨.inl h1, h2, u, by rw [upd_ne (ne_of_none h3 hl)]; exact h3⟩
theorem EnvR.poke {xs ys : List V} (e : EnvR base w N O F H σ ρ) (hn : N l) (hw : ¬ w.has l) (ho : ∀ i, O i ≠ some l) (hl : H l = some (.lst ys)) : EnvR base w N O F (upd H l (.lst xs)) σ ρ := by
  refine ⟨e.ok.poke hw hl lst_ne, e.len, fun i y h => ?_, e.inj, fun i a h => ?_, fun p hp => dv_poke (e.kept p hp) hn hl⟩
  · obtain ⟨v, h1, h2⟩ := e.slot i y h
    refine ⟨v, h1, ?_⟩
    cases y with
    | dat d => exact dv_poke h2 hn hl
    | own ds =>
      obtain ⟨a, xs, r, oo, ha, hd⟩ := h2
      exact ⟨a, xs, r, oo, by rw [upd_ne (fun z => ho i (by rw [← z]; exact oo))]; exact ha, dvs_poke hd hn hl⟩
    | well => exact h2
    | fn _ => exact h2
  · obtain ⟨h1, h2, u, h3⟩ := e.ow i a h
    exact ⟨h1, h2, u, by rw [upd_ne (fun z => ho i (by rw [← z]; exact h))]; exact h3⟩
def wipeD (ρ : Env) : List Nat → Env
  | [] => ρ
  | v :: vs => putD (wipeD ρ vs) v none
theorem put_none : ∀ (ρ : Env) (v i : Nat) (y : Sv), slotD (putD ρ v none) i = some y → slotD ρ i = some y ∧ i ≠ v
  | [], v, i, y, h => by
    cases i <;> cases h
  | x :: r, 0, 0, y, h => by cases h
  | x :: r, 0, i + 1, y, h => ⟨h, by omega⟩
  | x :: r, v + 1, 0, y, h => ⟨h, by omega⟩
  | x :: r, v + 1, i + 1, y, h => by
    obtain ⟨a, b⟩ := put_none r v i y h
    exact ⟨a, by omega⟩
theorem EnvR.wipe (e : EnvR base w N O F H σ ρ) : ∀ vs : List Nat, EnvR base w N O F H (wipe σ vs) (wipeD ρ vs)
  | [] => e
  | v :: vs => by
    have b := e.wipe vs
    refine ⟨b.ok, by show ((L2.wipe σ vs).set v none).length = (putD (wipeD ρ vs) v none).length; rw [List.length_set, putD_len]; exact b.len, fun i y h => ?_, b.inj, b.ow, b.kept⟩
    obtain ⟨h1, h2⟩ := put_none _ v i y h
    obtain ⟨u, h3, h4⟩ := b.slot i y h1
    exact ⟨u, by show ((L2.wipe σ vs).set v none)[i]? = _; rw [List.getElem?_set_ne (fun z => h2 z.symm)]; exact h3, h4⟩
end
/-! ### comprehensions -/
def NoX : XD := fun _ => False
def dYes : TTD := fun _ R _ => R true
def lcD (gd : GD) (tt : TTD) (te : TD) (ρ : Env) : List PyData → (List PyData → Prop) → Prop
  | [], K => K []
  | d :: r, K => gd d ρ (fun ρ' => tt ρ' (fun b => if b = true then te ρ' (fun y => lcD gd tt te ρ r (fun ys => K (y :: ys))) NoX else lcD gd tt te ρ r K) NoX)
def dLc (ti : ID) (sl : List Nat) (gd : GD) (tt : TTD) (te : TD) : TD := fun ρ R Ex => ti ρ (fun ds => ds.length ≤ 1000 ∧ lcD gd tt te (wipeD ρ sl) ds (fun ys => R (.list ys))) Ex
/-- no exception leaves -/
abbrev EX0 : L2.St → XK := fun _ _ _ _ => False
theorem wipe_wipe (σ : L2.St) : ∀ vs us : List Nat, (∀ i ∈ us, i ∈ vs) → wipe (wipe σ us) vs = wipe σ vs
  | vs, [], _ => rfl
  | vs, u :: us, h => by
    show wipe ((wipe σ us).set u none) vs = wipe σ vs
    rw [wipe_set _ u none vs (h u (List.mem_cons_self ..)), wipe_wipe σ vs us fun i hi => h i (List.mem_cons_of_mem _ hi)]
theorem stp_new {w : Wx} {H1 H : Hp} {D : Addr} {o : HO} (k : Stp w H1 H) (hD : ∀ u, H1 D = some u → w.T ≠ [] ∧ ∃ ps, u = HO.tbl ps) (hw : ¬ w.has D) (hl : ∃ ys, H D = some (.lst ys)) : Stp w H1 (upd H D o) := by
  have ne : ∀ {b u}, H1 b = some u → (∀ ps, u ≠ HO.tbl ps) → b ≠ D := fun {b u} q m z => by
    rw [z] at q
    obtain ⟨_, ps, e⟩ := hD u q
    exact m ps e
  exact ⟨fun b u n m q => by rw [upd_ne (ne q m)]; exact k.kp b u n m q, fun b xs q => by rw [upd_ne (ne q (fun ps z => by cases z))]; exact k.tp b xs q, fun p hp q => (k.wl p hp q).upd fun z => hw (.inl (by rw [hp, z])), fun q => tabs_more (k.tb q) (fun b o n e => by rw [upd_ne n]; exact e) (.inr hl), fun ht b u n q => by
    have nb : b ≠ D := fun z => by
      rw [z] at q
      exact (hD u q).1 ht
    rw [upd_ne nb]
    exact k.k0 ht b u n q⟩
section
variable {Sy : Md} {X Y : Cx} {E : L2.St → XK} {e : Expr} {st : Stmt} {wi : TI} {ti : ID} {g : TG} {gd : GD} {tt : TTD} {te : TD} {sl vs : List Nat}
theorem _root_.L2.PTs.weak {X : Cx} {e : List Expr} {t t' : TT} (h : PTs X e t) (i : ∀ σ H Q, t' σ H Q → t σ H Q) : PTs X e t' := ⟨fun pins s σ H Q I q => h.run pins s σ H Q I (i σ H Q q)⟩
theorem dts_nil : PTs X [] (LT Sy X E dYes) := pts_nil.weak fun σ H Q ⟨w, N, O, F, ρ, R, Ex, en, t, q, qx⟩ => q true H t (.refl _ _)
end
end Ld

namespace Ld
open PySem PySem.Spec PyProof.Rows L2 Lw
/-! ### operations by data -/
theorem OpD.or {Sy : Md} {X : Cx} {r r' : R2} {f g : PyData → PyData → RD → Prop} (a : OpD Sy X r f) (b : OpD Sy X r' g) : OpD Sy X (fun x y H Q => r x y H Q ∨ r' x y H Q) (fun x y R => f x y R ∨ g x y R) := fun N H v u x y R Q h dx dy fr sn hK sl q =>
  h.elim (fun h => .inl (a N H v u x y R Q h dx dy fr sn hK sl q)) (fun h => .inr (b N H v u x y R Q h dx dy fr sn hK sl q))
theorem OpD.imp {Sy : Md} {X : Cx} {r : R2} {f g : PyData → PyData → RD → Prop} (a : OpD Sy X r f) (h : ∀ x y R, g x y R → f x y R) : OpD Sy X r g := fun N H v u x y R Q z dx dy fr sn hK sl q => a N H v u x y R Q (h x y R z) dx dy fr sn hK sl q
section
variable {Sy : Md} {X : Cx}
def fInt (g : Int → Int → Int) (C : Int → Int → Prop) : PyData → PyData → RD → Prop := fun x y R => match x, y with
  | .int i, .int j => C i j ∧ R (.int (g i j))
  | _, _ => False
def fInt0 (g : Int → Int → Int) : PyData → PyData → RD → Prop := fun x y R => match x, y with
  | .int i, .int j => R (.int (g i j))
  | _, _ => False
theorem od_int {C : Int → Int → Prop} {g : Int → Int → Int} : OpD Sy X (rI C fun i j => .int (g i j)) (fInt g C) := fun N H v u x y R Q h dx dy fr sn hK sl q => by
  unfold fInt at h
  split at h
  · cases dx
    cases dy
    exact ⟨_, _, rfl, rfl, h.1, q _ _ H h.2 (.refl _) (.int _)⟩
  · exact h.elim
theorem od_int0 {g : Int → Int → Int} : OpD Sy X (rI0 fun i j => .int (g i j)) (fInt0 g) := fun N H v u x y R Q h dx dy fr sn hK sl q => by
  unfold fInt0 at h
  split at h
  · cases dx
    cases dy
    exact ⟨_, _, rfl, rfl, q _ _ H h (.refl _) (.int _)⟩
  · exact h.elim
abbrev fAdd := fInt0 fun i j => i + j
abbrev fSub := fInt0 fun i j => i - j
abbrev fMul := fInt (fun i j => i * j) CMulX
abbrev fFdv := fInt (fun i j => i.fdiv j) fun _ j => j ≠ 0 ∧ j.natAbs < 2 ^ 9000
abbrev fMod := fInt (fun i j => i % j) fun _ j => 0 < j
abbrev fPow := fInt (fun i j => i ^ j.toNat) CPow
/-- int + int, tuple + tuple, text + text, list + list -/
def fAddG : PyData → PyData → RD → Prop := fun x y R => match x, y with
  | .int i, .int j => R (.int (i + j))
  | .tuple a, .tuple b => a.length + b.length ≤ 16000000 ∧ R (.tuple (a ++ b))
  | .str a, .str b => a.length + b.length ≤ sizeLine ∧ R (.str (a ++ b))
  | .list a, .list b => a.length + b.length ≤ 16000000 ∧ R (.list (a ++ b))
  | _, _ => False
theorem op_addG : OpR X (binaryOp .Add) (fun x y H Q => rI0 (fun i j => .int (i + j)) x y H Q ∨ (rCatA X.K x y H Q ∨ ((fun x y H Q => ∃ i j, x = V.str i ∧ y = V.str j ∧ i.length + j.length ≤ sizeLine ∧ Q (.str (i ++ j)) H) x y H Q ∨ rCat x y H Q))) := op_add.or (op_catA.or (op_add_str.or op_cat))
theorem od_addG : OpD ⟨false, Tz, mz⟩ X (fun x y H Q => rI0 (fun i j => .int (i + j)) x y H Q ∨ (rCatA X.K x y H Q ∨ ((fun x y H Q => ∃ i j, x = V.str i ∧ y = V.str j ∧ i.length + j.length ≤ sizeLine ∧ Q (.str (i ++ j)) H) x y H Q ∨ rCat x y H Q))) fAddG := fun N H v u x y R Q h dx dy fr sn hK sl q => by
  unfold fAddG at h
  split at h
  · cases dx
    cases dy
    exact .inl ⟨_, _, rfl, rfl, q _ _ H h (.refl _) (.int _)⟩
  · exact .inr (.inl (hK ▸ dv_cat (N := N) (Q := Q) dx dy h.1 fun z H' s dz => q _ z H' h.2 s dz))
  · cases dx
    cases dy
    exact .inr (.inr (.inl ⟨_, _, rfl, rfl, h.1, q _ _ H h.2 (.refl _) (.str _)⟩))
  · cases dx with
    | lst n1 e1 a1 =>
      cases dy with
      | lst n2 e2 a2 =>
        have l1 := a1.length
        have l2 := a2.length
        refine .inr (.inr (.inr ⟨_, _, _, _, rfl, rfl, e1, e2, by rw [sizeLine_eq]; omega, fun p hp => ?_⟩))
        exact q _ _ _ h.2 (same_new hp _) (.lst (sl rfl p hp) upd_same ((a1.app a2).same (same_new hp _)))
  · exact h.elim
/-- .. where lists stand apart -/
def fAddS : PyData → PyData → RD → Prop := fun x y R => match x, y with
  | .int i, .int j => R (.int (i + j))
  | .tuple a, .tuple b => a.length + b.length ≤ 16000000 ∧ R (.tuple (a ++ b))
  | .str a, .str b => a.length + b.length ≤ sizeLine ∧ R (.str (a ++ b))
  | _, _ => False
def fSubG : PyData → PyData → RD → Prop := fun x y R => match x, y with
  | .int i, .int j => R (.int (i - j))
  | .bool b, .int j => R (.int (bz b - j))
  | .int i, .bool b => R (.int (i - bz b))
  | _, _ => False
/-- 1 << k -/
def fShl : PyData → PyData → RD → Prop := fun x y R => match x, y with
  | .int i, .int j => i = 1 ∧ 0 ≤ j ∧ j ≤ 134217727 ∧ R (.int (2 ^ j.toNat))
  | _, _ => False
def fCI (g : Int → Int → Bool) : PyData → PyData → (Bool → Prop) → Prop := fun x y R => match x, y with
  | .int i, .int j => R (g i j)
  | _, _ => False
theorem cd_int {g : Int → Int → Bool} : CmpD X (rI0 fun i j => .bl (g i j)) (fCI g) := fun N H v u x y R Q h dx dy hK q => by
  unfold fCI at h
  split at h
  · cases dx
    cases dy
    exact ⟨_, _, rfl, rfl, q _ h⟩
  · exact h.elim
abbrev fLt := fCI fun i j => decide (i < j)
abbrev fLe := fCI fun i j => decide (i ≤ j)
abbrev fGt := fCI fun i j => decide (j < i)
abbrev fGe := fCI fun i j => decide (j ≤ i)
/-- ==, by data -/
def fEq : PyData → PyData → (Bool → Prop) → Prop := fun x y R => match x, y with
  | .int i, .int j => R (decide (i = j))
  | .str i, .str j => R (decide (i = j))
  | .bool i, .bool j => R (decide (i = j))
  | x, y => SeqAt.shaped x = true ∧ SeqAt.shaped y = true ∧ R (PyData.eqv x y)
def fNe : PyData → PyData → (Bool → Prop) → Prop := fun x y R => fEq x y fun b => R (!b)
mutual
theorem Dv.dp {N : Bn} {H : Hp} : ∀ (d : PyData) (v : V), Dv N H v d → d.canLay0 = true → Dp N.K H v d
  | .none, _, h, _ => by cases h; exact .non
  | .bool b, _, h, _ => by cases h; exact .bl b
  | .int i, _, h, _ => by cases h; exact .int i
  | .str x, _, h, _ => by cases h; exact .str x
  | .list ds, _, h, c => by
    cases h with
    | lst n e all => exact .lst (.of e) (DvAll.dp ds _ all (by unfold PyData.canLay0 at c; exact c))
  | .tuple ds, _, h, c => by
    cases h with
    | tup e all => exact .tup e.sq (DvAll.dp ds _ all (by unfold PyData.canLay0 at c; exact c))
  | .dict ds, _, h, c => by
    unfold PyData.canLay0 at c
    cases c
theorem DvAll.dp {N : Bn} {H : Hp} : ∀ (ds : List PyData) (vs : List V), DvAll N H vs ds → PyData.canLayAll0 ds = true → DpAll N.K H vs ds
  | [], _, h, _ => by cases h; exact .nil
  | d :: ds, _, h, c => by
    cases h with
    | cons a b =>
      unfold PyData.canLayAll0 at c
      obtain ⟨c1, c2⟩ := Bool.and_eq_true_iff.mp c
      exact .cons (Dv.dp d _ a c1) (DvAll.dp ds _ b c2)
end
theorem dp_of {K : PySem.W.Frag} {N : Bn} {H : Hp} {v : V} {d : PyData} (hK : N.K = K) (h : Dv N H v d) (s : SeqAt.shaped d = true) : Dp K H v d := hK ▸ Dv.dp d v h (SeqAt.canLay_of_shaped s)
theorem op_eqG {k : Nat} (hr : Room k X.A) : OpR X (compareOp .Eq) (fun x y H Q => rEq x y H Q ∨ rEqD X.K x y H Q) := op_eq.or (op_eqD (by have := hr.units; omega))
theorem op_neG {k : Nat} (hr : Room k X.A) : OpR X (compareOp .NotEq) (fun x y H Q => rNe x y H Q ∨ rNeD X.K x y H Q) := op_ne.or (op_neD (by have := hr.units; omega))
theorem dec_vi {i j : Int} : decide (V.int i = V.int j) = decide (i = j) := by rw [Bool.eq_iff_iff]; simp
theorem dec_vs {i j : Str} : decide (V.str i = V.str j) = decide (i = j) := by rw [Bool.eq_iff_iff]; simp
theorem dec_vb {i j : Bool} : decide (V.bl i = V.bl j) = decide (i = j) := by rw [Bool.eq_iff_iff]; simp
theorem cd_eq : CmpD X (fun x y H Q => rEq x y H Q ∨ rEqD X.K x y H Q) fEq := fun N H v u x y R Q h dx dy hK q => by
  unfold fEq at h
  split at h
  · cases dx
    cases dy
    exact .inl ⟨rfl, by rw [dec_vi]; exact q _ h⟩
  · cases dx
    cases dy
    exact .inl ⟨rfl, by rw [dec_vs]; exact q _ h⟩
  · cases dx
    cases dy
    exact .inl ⟨rfl, by rw [dec_vb]; exact q _ h⟩
  · exact .inr ⟨x, y, dp_of hK dx h.1, dp_of hK dy h.2.1, h.1, h.2.1, q _ h.2.2⟩
theorem cd_ne : CmpD X (fun x y H Q => rNe x y H Q ∨ rNeD X.K x y H Q) fNe := fun N H v u x y R Q h dx dy hK q => by
  unfold fNe fEq at h
  split at h
  · cases dx
    cases dy
    exact .inl ⟨rfl, by rw [dec_vi]; exact q _ h⟩
  · cases dx
    cases dy
    exact .inl ⟨rfl, by rw [dec_vs]; exact q _ h⟩
  · cases dx
    cases dy
    exact .inl ⟨rfl, by rw [dec_vb]; exact q _ h⟩
  · exact .inr ⟨x, y, dp_of hK dx h.1, dp_of hK dy h.2.1, h.1, h.2.1, q _ h.2.2⟩
/-- is None -/
def isNon : PyData → Bool
  | .none => true
  | _ => false
def fIsN : PyData → PyData → (Bool → Prop) → Prop := fun x y R => isNon y = true ∧ R (isNon x)
def fNotN : PyData → PyData → (Bool → Prop) → Prop := fun x y R => isNon y = true ∧ R (!isNon x)
def atD (ds : List PyData) (i : Int) : Option PyData := (ixN ds.length i).bind fun j => ds[j]?
def fIx : PyData → PyData → RD → Prop := fun x y R => match x, y with
  | .tuple ds, .int i => match atD ds i with
    | some d => R d
    | none => False
  | .list ds, .int i => match atD ds i with
    | some d => R d
    | none => False
  | _, _ => False
theorem atD_get {N : Bn} {H : Hp} {xs : List V} {ds : List PyData} {i : Int} {d : PyData} (a : DvAll N H xs ds) (h : atD ds i = some d) : ∃ v, atI xs i = some v ∧ Dv N H v d := by
  unfold atD at h
  unfold atI
  rw [a.length]
  cases e : ixN ds.length i with
  | none => rw [e] at h; cases h
  | some j =>
    rw [e] at h
    obtain ⟨v, h1, h2⟩ := a.get (i := j) h
    exact ⟨v, h1, h2⟩
theorem od_ix : OpD Sy X (rIx X.K) fIx := fun N H v u x y R Q h dx dy fr sn hK sl q => by
  unfold fIx at h
  split at h
  · split at h
    · rename_i e
      cases dy
      cases dx with
      | tup ea all =>
        obtain ⟨z, h1, h2⟩ := atD_get all e
        exact .inr (.inl ⟨_, _, _, z, rfl, rfl, hK ▸ ea.sq, h1, q _ z H h (.refl _) h2⟩)
    · exact h.elim
  · split at h
    · rename_i e
      cases dy
      cases dx with
      | lst nn ea all =>
        obtain ⟨z, h1, h2⟩ := atD_get all e
        exact .inl ⟨_, _, _, z, rfl, rfl, .of ea, h1, q _ z H h (.refl _) h2⟩
    · exact h.elim
  · exact h.elim
/-- x[k], k written, from 0 on -/
def nthL : List PyData → Nat → RD → Prop
  | [], _, _ => False
  | d :: _, 0, R => R d
  | _ :: r, n + 1, R => nthL r n R
def fNth (k : Nat) : PyData → RD → Prop := fun x R => match x with
  | .tuple ds => nthL ds k R
  | .list ds => nthL ds k R
  | _ => False
end
end Ld

namespace Ld
open PySem PySem.Spec PyProof.Rows L2 Lw
section
variable {Sy : Md} {X : Cx} {E : L2.St → XK} {e : Expr} {st : Stmt} {ta : TD} {tr : TAD} {i n : Nat}
abbrev TOD := Env → (Option Int → Prop) → XD → Prop
def dNoP : TOD := fun _ R _ => R none
def dPart (t : TD) : TOD := fun ρ R Ex => t ρ (fun d => match d with
  | .int i => R (some i)
  | _ => False) Ex
def LO (Sy : Md) (X : Cx) (E : L2.St → XK) (t : TOD) : TO := fun σ H Q => ∃ (w : Wx) (N : Bn) (O : Nat → Option Addr) (F : List (V × PyData)) (ρ : Env) (R : Option Int → Prop) (Ex : XD), EnvR (gnd Sy X) w N O F H σ ρ ∧ t ρ R Ex ∧
  (∀ b H', R b → Stp w H H' → Q b H') ∧ (∀ x cls dx H', Ex x → Stp w H H' → ExAt X.mg N H' cls dx x → E σ cls dx H')
theorem _root_.L2.PO.weak {X : Cx} {e : Option Expr} {t t' : TO} (h : PO X e t) (i : ∀ σ H Q, t' σ H Q → t σ H Q) : PO X e t' := ⟨fun pins s σ H Q I q => h.run pins s σ H Q I (i σ H Q q)⟩
theorem dp_none : PO X none (LO Sy X E dNoP) := po_none.weak fun σ H Q ⟨w, N, O, F, ρ, R, Ex, en, t, q, qx⟩ => q none H t (.refl _ _)
theorem dp_some {e : Expr} (h : PE X e (LE Sy X E ta)) : PO X (some e) (LO Sy X E (dPart ta)) := (po_some h).weak fun σ H Q ⟨w, N, O, F, ρ, R, Ex, en, t, q, qx⟩ => by
  refine ⟨w, N, O, F, ρ, _, Ex, en, t, fun x v H1 r1 k1 dx => ?_, qx⟩
  split at r1
  · cases dx
    exact ⟨_, rfl, q _ _ r1 k1⟩
  · exact r1.elim
/-- t[a:b] of a tuple or a list -/
def fSl (x : PyData) (lo hi : Option Int) (R : RD) : Prop := match x with
  | .tuple ds => R (.tuple (Lw.cutD ds lo hi))
  | .list ds => R (.list (Lw.cutD ds lo hi))
  | _ => False
def dSl (t : TD) (lo hi : TOD) : TD := fun ρ R Ex => t ρ (fun x => lo ρ (fun l => hi ρ (fun h => fSl x l h R) Ex) Ex) Ex
def fSlS (x : PyData) (lo hi : Option Int) (R : RD) : Prop := match x with
  | .tuple ds => R (.tuple (Lw.cutD ds lo hi))
  | _ => False
def dSlS (t : TD) (lo hi : TOD) : TD := fun ρ R Ex => t ρ (fun x => lo ρ (fun l => hi ρ (fun h => fSlS x l h R) Ex) Ex) Ex
def fBack : PyData → RD → Prop := fun x R => match x with
  | .tuple ds => R (.tuple ds.reverse)
  | _ => False
theorem d_backT (h : PE X e (tBackT X.K (LE Sy X E ta))) : PE X e (LE Sy X E (dUn fBack ta)) := h.weak fun σ H Q ⟨w, N, O, F, ρ, R, Ex, en, t, q, qx⟩ => by
  refine ⟨w, N, O, F, ρ, _, Ex, en, t, fun x v H1 r1 k1 dx => ?_, qx⟩
  unfold fBack at r1
  split at r1
  · cases dx with
    | tup ea all => exact ⟨_, _, rfl, (show N.K = X.K from en.ok.kk) ▸ ea.sq, fun p hp => q _ _ _ r1 (k1.trans (.of (same_new hp _))) (.tup (.of upd_same) ((all.same (same_new hp _)).rev))⟩
  · exact r1.elim
/-- .. of a list -/
def fBackL : PyData → RD → Prop := fun x R => match x with
  | .list ds => R (.list ds.reverse)
  | _ => False
def fNeg : PyData → RD → Prop := fun x R => match x with
  | .int i => R (.int (-i))
  | _ => False
def fBits : PyData → RD → Prop := fun x R => match x with
  | .int i => R (.int (Builtin.Int.intBits i : Nat))
  | _ => False
def fLen : List PyData → RD → Prop := fun ds R => match ds with
  | [.list xs] => R (.int xs.length)
  | [.tuple xs] => R (.int xs.length)
  | [.str x] => x.length ≤ sizeLine ∧ R (.int x.length)
  | _ => False
theorem bd_len : CallD Sy X (fun xs H Q => ∃ x n, xs = [x] ∧ LenV X.K x H n ∧ Q (.int n) H) fLen := fun N H vs ds R Q h dv fr sn hK sl q => by
  unfold fLen at h
  split at h
  · cases dv with
    | cons a b =>
      cases b
      cases a with
      | lst nn ea all => exact ⟨_, _, rfl, .inl ⟨_, .of ea, rfl⟩, q _ _ H h (.refl _) (by rw [all.length]; exact .int _)⟩
  · cases dv with
    | cons a b =>
      cases b
      cases a with
      | tup ea all => exact ⟨_, _, rfl, .inr ⟨_, hK ▸ ea.sq, rfl⟩, q _ _ H h (.refl _) (by rw [all.length]; exact .int _)⟩
  · cases dv with
    | cons a b =>
      cases b
      cases a
      exact ⟨_, _, rfl, ⟨h.1, rfl⟩, q _ _ H h.2 (.refl _) (.int _)⟩
  · exact h.elim
def fI1 (g : Int → Int) : List PyData → RD → Prop := fun ds R => match ds with
  | [.int i] => R (.int (g i))
  | _ => False
def fI2 (g : Int → Int → Int) : List PyData → RD → Prop := fun ds R => match ds with
  | [.int i, .int j] => R (.int (g i j))
  | _ => False
theorem bd_i1 {g : Int → Int} : CallD Sy X (fun xs H Q => ∃ i, xs = [.int i] ∧ Q (.int (g i)) H) (fI1 g) := fun N H vs ds R Q h dv fr sn hK sl q => by
  unfold fI1 at h
  split at h
  · cases dv with
    | cons a b =>
      cases a
      cases b
      exact ⟨_, rfl, q _ _ H h (.refl _) (.int _)⟩
  · exact h.elim
abbrev fAbs := fI1 fun i => if i < 0 then -i else i
abbrev fMax := fI2 fun i j => if j > i then j else i
abbrev fMin := fI2 fun i j => if j < i then j else i
abbrev fGcd := fI2 fun a b => ((Nat.gcd a.natAbs b.natAbs : Nat) : Int)
def fIntO : List PyData → RD → Prop := fun ds R => match ds with
  | [.int i] => R (.int i)
  | [.bool k] => R (.int (if k then 1 else 0))
  | _ => False
theorem bd_int : CallD Sy X (fun xs H Q => (∃ i, xs = [.int i] ∧ Q (.int i) H) ∨ ∃ k, xs = [.bl k] ∧ Q (.int (if k then 1 else 0)) H) fIntO := fun N H vs ds R Q h dv fr sn hK sl q => by
  unfold fIntO at h
  split at h
  · cases dv with
    | cons a b =>
      cases a
      cases b
      exact .inl ⟨_, rfl, q _ _ H h (.refl _) (.int _)⟩
  · cases dv with
    | cons a b =>
      cases a
      cases b
      exact .inr ⟨_, rfl, q _ _ H h (.refl _) (.int _)⟩
  · exact h.elim
def fIsqrt : List PyData → RD → Prop := fun ds R => match ds with
  | [.int a] => 0 ≤ a ∧ a.natAbs < 2 ^ 13000 ∧ R (.int (isq a))
  | _ => False
def fDivmod : List PyData → RD → Prop := fun ds R => match ds with
  | [.int i, .int j] => CDivP i j ∧ R (.tuple [.int (i / j), .int (i % j)])
  | _ => False
def shows (d : PyData) : Prop := noX d = true ∧ d.showable = true ∧ d.depth ≤ 100 ∧ d.shown.length ≤ sizeLine
def fRepr : List PyData → RD → Prop := fun ds R => match ds with
  | [d] => d.hasDict = false ∧ shows d ∧ R (.str d.shown)
  | _ => False
theorem bd_repr : CallD Sy X (rRepr X.K) fRepr := fun N H vs ds R Q h dv fr sn hK sl q => by
  unfold fRepr at h
  split at h
  · cases dv with
    | cons a b =>
      cases b
      exact ⟨N, _, _, hK, rfl, a, h.2.1.1, ⟨h.2.1.2.1, h.2.1.2.2.1, h.2.1.2.2.2, fun z => by rw [h.1] at z; cases z⟩, q _ _ H h.2.2 (.refl _) (.str _)⟩
  · exact h.elim
/-- .. where lists and dicts stand apart -/
def fReprS : List PyData → RD → Prop := fun ds R => match ds with
  | [d] => shows d ∧ R (.str d.shown)
  | _ => False
def boolsOf : List PyData → Option (List Bool)
  | [] => some []
  | .bool b :: r => match boolsOf r with
    | some bs => some (b :: bs)
    | none => none
  | _ => none
theorem bools_of {N : Bn} {H : Hp} : ∀ {vs : List V} {ds : List PyData} {bs : List Bool}, DvAll N H vs ds → boolsOf ds = some bs → vs = bs.map V.bl
  | _, [], bs, h, e => by
    cases h
    cases e
    rfl
  | _, d :: r, bs, h, e => by
    cases h with
    | cons a b =>
      unfold boolsOf at e
      split at e
      · rename_i hq
        cases hq
      · rename_i b0 r0 e0
        cases e0
        cases a
        cases z : boolsOf r with
        | none => rw [z] at e; cases e
        | some cs =>
          rw [z] at e
          cases e
          rw [bools_of b z]
          rfl
      · cases e
def fBools (g : List Bool → Bool) : List PyData → RD → Prop := fun ds R => match ds with
  | [.list xs] => match boolsOf xs with
    | some bs => R (.bool (g bs))
    | none => False
  | _ => False
theorem bd_bools {g : List Bool → Bool} : CallD Sy X (fun vs H Q => ∃ (a : Addr) (bs : List Bool), vs = [V.ref a] ∧ SqL X.K H a (bs.map V.bl) ∧ Q (.bl (g bs)) H) (fBools g) := fun N H vs ds R Q h dv fr sn hK sl q => by
  unfold fBools at h
  split at h
  · split at h
    · rename_i e
      cases dv with
      | cons a b =>
        cases b
        cases a with
        | lst nn ea all =>
          have := bools_of all e
          subst this
          exact ⟨_, _, rfl, .of ea, q _ _ H h (.refl _) (.bl _)⟩
    · exact h.elim
  · exact h.elim
abbrev fAll := fBools fun bs => bs.all id
abbrev fAny := fBools fun bs => bs.any id
/-- tuple(x) -/
def fTupO : List PyData → RD → Prop := fun ds R => match ds with
  | [.list xs] => R (.tuple xs)
  | [.tuple xs] => R (.tuple xs)
  | _ => False
def fLstO : List PyData → RD → Prop := fun ds R => match ds with
  | [.tuple xs] => R (.list xs)
  | _ => False
theorem bd_lst : CallD Sy X (fun xs H Q => ∃ p ys, xs = [.ref p] ∧ SqT X.K H p ys ∧ ∀ l, H l = none → l ≠ sysModules → Q (.ref l) (upd H l (.lst ys))) fLstO := fun N H vs ds R Q h dv fr sn hK sl q => by
  unfold fLstO at h
  split at h
  · cases dv with
    | cons a b =>
      cases b
      cases a with
      | tup ea all => exact ⟨_, _, rfl, hK ▸ ea.sq, fun p hp np => q _ _ _ h (same_new hp _) (.lst (fr p hp np) upd_same (all.same (same_new hp _)))⟩
  · exact h.elim
end
end Ld

namespace Ld
open PySem PySem.Spec PyProof.Rows L2 Lw
/-! ### a list of the def's own, in a slot -/
def sOwn (i : Nat) (ta : TAD) : TSD := fun D ρ => ta ρ (fun us => match datsOf us with
  | some ds => D.nx (putD ρ i (some (.own ds)))
  | none => False) (D.ex ρ)
def ownK (x : Option Sv) (K : List PyData → Prop) : Prop := match x with
  | some (.own ds) => K ds
  | _ => False
/-- x.append(e) -/
def sApp (i : Nat) (t : TD) : TSD := fun D ρ => ownK (slotD ρ i) fun ds => t ρ (fun d => ds.length < 16000000 ∧ D.nx (putD ρ i (some (.own (ds ++ [d]))))) (D.ex ρ)
/-- x.extend(e) -/
def sExt (i : Nat) (t : TD) : TSD := fun D ρ => ownK (slotD ρ i) fun ds => t ρ (fun d => match d with
  | .list es => ds.length + es.length < 16000000 ∧ D.nx (putD ρ i (some (.own (ds ++ es))))
  | _ => False) (D.ex ρ)
/-- x.insert(k, e) -/
def sIns (i : Nat) (ta : TAD) : TSD := fun D ρ => ownK (slotD ρ i) fun ds => ta ρ (fun us => match us with
  | [.dat (.int k), .dat d] => (ds.length < 16000000 ∧ 0 ≤ k ∧ k < 2 ^ 63) ∧ D.nx (putD ρ i (some (.own (ds.take k.toNat ++ [d] ++ ds.drop k.toNat))))
  | _ => False) (D.ex ρ)
/-- x[k] = e -/
def sPut (i : Nat) (t k : TD) : TSD := fun D ρ => t ρ (fun d => ownK (slotD ρ i) fun ds => k ρ (fun x => match x with
  | .int z => match ixN ds.length z with
    | some j => D.nx (putD ρ i (some (.own (ds.set j d))))
    | none => False
  | _ => False) (D.ex ρ)) (D.ex ρ)
/-- from now on it is data -/
def sFrz (i : Nat) : TSD := fun D ρ => ownK (slotD ρ i) fun ds => D.nx (putD ρ i (some (.dat (.list ds))))
/-- reading it -/
def dOwnLen (i : Nat) : TD := fun ρ R _ => ownK (slotD ρ i) fun ds => R (.int ds.length)
def dOwnIx (i : Nat) (t : TD) : TD := fun ρ R Ex => ownK (slotD ρ i) fun ds => t ρ (fun x => match x with
  | .int z => match atD ds z with
    | some d => R d
    | none => False
  | _ => False) Ex
section
variable {base : Gnd} {w : Wx} {N0 N : Bn} {O : Nat → Option Addr} {F : Keep} {H0 H : Hp} {σ : L2.St} {ρ : Env} {l : Addr}
/-- a new list put into a slot as the def's own -/
theorem EnvB.own (b : EnvB base w N0 H0 N O F H σ ρ) (i : Nat) {xs : List V} {ds : List PyData} (hl : H l = none) (nl : l ≠ sysModules) (all : DvAll N H xs ds) :
    EnvB base w N0 H0 (Bn.add N l) (fun j => if j = i then some l else O j) F (upd H l (.lst xs)) (σ.set i (some (.ref l))) (putD ρ i (some (.own ds))) := by
  have e := b.e.ban (xs := xs) hl
  have ho : ∀ j, O j ≠ some l := fun j z => by
    obtain ⟨_, _, u, z2⟩ := b.e.ow j l z
    rw [hl] at z2
    cases z2
  have hw : ¬ w.has l := b.e.ok.new hl
  refine ⟨⟨e.ok, by rw [List.length_set, putD_len, e.len], fun j y hy => ?_, fun a c d h1 h2 => ?_, fun j a h1 => ?_, e.kept⟩, b.st.trans (.of (same_new hl _)), fun c hc => .inl (b.sub c hc), fun j a h1 => ?_, b.fr0, b.k0⟩
  · rcases slot_put ρ i j _ _ hy (by intro z; cases z) with ⟨rfl, z, lt⟩ | ⟨nj, z⟩
    · cases z
      refine ⟨.ref l, by rw [List.getElem?_set_self (by rw [e.len]; exact lt)], l, xs, rfl, if_pos rfl, upd_same, dvs_ban all hl⟩
    · obtain ⟨u, h1, h2⟩ := e.slot j y z
      refine ⟨u, by rw [List.getElem?_set_ne (fun z => nj z.symm)]; exact h1, ?_⟩
      cases y with
      | dat d => exact h2
      | own es =>
        obtain ⟨a, ys, r, o, q⟩ := h2
        exact ⟨a, ys, r, (if_neg nj).trans o, q⟩
      | well => exact h2
      | fn _ => exact h2
  · replace h1 : (if a = i then some l else O a) = some d := h1
    replace h2 : (if c = i then some l else O c) = some d := h2
    by_cases ca : a = i
    · by_cases cc : c = i
      · rw [ca, cc]
      · rw [if_pos ca] at h1
        rw [if_neg cc] at h2
        cases h1
        exact absurd h2 (ho c)
    · rw [if_neg ca] at h1
      by_cases cc : c = i
      · rw [if_pos cc] at h2
        cases h2
        exact absurd h1 (ho a)
      · rw [if_neg cc] at h2
        exact e.inj a c d h1 h2
  · replace h1 : (if j = i then some l else O j) = some a := h1
    by_cases cj : j = i
    · rw [if_pos cj] at h1
      cases h1
      exact ⟨.inr rfl, hw, _, upd_same⟩
    · rw [if_neg cj] at h1
      exact e.ow j a h1
  · replace h1 : (if j = i then some l else O j) = some a := h1
    by_cases cj : j = i
    · rw [if_pos cj] at h1
      cases h1
      refine ⟨fun u q => ?_, nl, fun z => b.e.ok.fr _ hl nl (b.sub _ z)⟩
      constructor
      · intro ht
        have := b.st.k0 ht _ u hw q
        rw [hl] at this
        cases this
      · apply Classical.byContradiction
        intro m
        have := b.st.kp _ u hw (fun ps z => m ⟨ps, z⟩) q
        rw [hl] at this
        cases this
    · rw [if_neg cj] at h1
      exact b.new j a h1
/-- the def's own list changed -/
theorem EnvB.frz (b : EnvB base w N0 H0 N O F H σ ρ) {i : Nat} {ds : List PyData} (hs : slotD ρ i = some (.own ds)) : ∃ N' O', EnvB base w N0 H0 N' O' F H σ (putD ρ i (some (.dat (.list ds)))) := by
  obtain ⟨v, h1, a, xs, rfl, ho, ha, all⟩ := b.e.slot i _ hs
  obtain ⟨h0a, nsa, n0a⟩ := b.new i a ho
  obtain ⟨na, wa, _⟩ := b.e.ow i a ho
  let N' : Bn := ⟨N.K, fun c => N c ∧ c ≠ a⟩
  have less : ∀ {v : V} {d : PyData}, Dv N H v d → Dv N' H v d := fun h => h.less (N' := N') rfl fun c z => z.1
  have lesss : ∀ {v : List V} {d : List PyData}, DvAll N H v d → DvAll N' H v d := fun h => DvAll.map (N := N) (N' := N') rfl (fun c u n q => ⟨q, fun z => n z.1⟩) (fun _ _ q => q) _ _ h
  refine ⟨N', fun j => if j = i then none else O j, ⟨⟨⟨fun p e => ?_, fun p hp np z => b.e.ok.fr p hp np z.1, fun z => ⟨b.e.ok.sn z, nsa.symm⟩, fun z p hp q => b.e.ok.sl z p hp q.1, b.e.ok.kk, fun p hp => ⟨b.e.ok.tn p hp, fun z => wa (.inr ⟨p, hp, z⟩)⟩, b.e.ok.tb, b.e.ok.tt, fun p ps hp c hs q => b.e.ok.to p ps hp c hs q.1⟩, by rw [putD_len]; exact b.e.len, fun j y hy => ?_, fun x y c h2 h3 => ?_, fun j c h2 => ?_, fun p hp => less (b.e.kept p hp)⟩, b.st, fun c hc => ⟨b.sub c hc, fun z => ?_⟩, fun j c h2 => ?_, b.fr0, b.k0⟩⟩
  · obtain ⟨z1, z2, z3⟩ := b.e.ok.wl p e
    exact ⟨⟨z1, fun z => wa (.inl (by rw [e, z]))⟩, z2, z3⟩
  · rcases slot_put ρ i j _ _ hy (by intro z; cases z) with ⟨rfl, z, lt⟩ | ⟨nj, z⟩
    · cases z
      exact ⟨_, h1, .lst (fun z => z.2 rfl) ha (lesss all)⟩
    · obtain ⟨u, h2, h3⟩ := b.e.slot j y z
      refine ⟨u, h2, ?_⟩
      cases y with
      | dat d => exact less h3
      | own es =>
        obtain ⟨a2, ys2, r, o, q, al⟩ := h3
        exact ⟨a2, ys2, r, (if_neg nj).trans o, q, lesss al⟩
      | well => exact h3
      | fn _ => exact h3
  · split at h2
    · cases h2
    · split at h3
      · cases h3
      · exact b.e.inj x y c h2 h3
  · split at h2
    · cases h2
    · rename_i nj
      obtain ⟨z1, z2, z3⟩ := b.e.ow j c h2
      exact ⟨⟨z1, fun z => nj (b.e.inj j i a (by rw [← z]; exact h2) ho)⟩, z2, z3⟩
  · exact n0a (by rw [← z]; exact hc)
  · split at h2
    · cases h2
    · exact b.new j c h2
end
section
variable {Sy : Md} {X : Cx} {E : L2.St → XK} {e : Expr} {st : Stmt} {sts : List Stmt} {te : TD} {tr : TAD} {i n : Nat} {t u : TSD}
def tLsN (t : TA) : TE := fun σ H Q => t σ H fun xs H1 => xs.length ≤ sizeLine ∧ ∀ p, H1 p = none → p ≠ sysModules → Q (.ref p) (upd H1 p (.lst xs))
theorem pe_lsN {es : List Expr} {ta : TA} {pos : Pos} (h : PA X es ta) : PE X (.List es pos) (tLsN ta) := pe_list h
def sRaise (c f : Str) (ta : TAD) : TSD := fun D ρ => ta ρ (fun us => match us with
  | [.dat d] => D.ex ρ (c, [(f, d)])
  | _ => False) (D.ex ρ)
theorem pass_none {P : Program} {w : World} {σ : L2.St} : PassesAt (L2.CX P w) X σ (fun _ _ _ => False) := fun _ _ _ _ _ _ ⟨_, _, _, _, _, _, _, _, _, _, _, _, z⟩ => z.elim
end
/-- a def that lets no exception out -/
theorem _root_.Lw.Cl.up {P : Program} {w : World} {K : PySem.W.Frag} {mg : Str → Option Value} {base : Heap} {k : Nat} {x : Str} {sp : Sp} (c : Cl CX0 P w K mg base k x sp) : Cl (L2.CX P w) P w K mg base k x sp := by
  obtain ⟨f, fd, ps, F, a, b, d⟩ := c.ex
  refine ⟨f, fd, ps, ⟨F.len, fun A hr hg outer s H e0 args us vs hb r Q E z => codeAny_mono (F.run A hr hg outer s H e0 args us vs hb r Q E z) fun r s' h => ?_⟩, a, b, d⟩
  rcases r with er | (_ | _ | _ | u)
  · exact h.elim
  · exact h
  · exact h
  · exact h
  · exact h
end Ld
namespace Ld
open PySem PySem.Spec PyProof.Rows L2 Lw
/-! ### within a comprehension's block -/
section
variable {Sy : Md} {X : Cx} {s : Shared} {H : Hp} {scope : Scope} {cenv : PySem.Env} {fp : List Addr} {e : Expr} {es : List Expr} {t : TD} {tt : TTD}
theorem le_blk (h : PE (X.blk s H scope cenv fp) e (LE Sy (X.blk s H scope cenv fp) EX0 t)) : PE (X.blk s H scope cenv fp) e (LE Sy X EX0 t) := h
theorem lt_blk (h : PTs (X.blk s H scope cenv fp) es (LT Sy (X.blk s H scope cenv fp) EX0 tt)) : PTs (X.blk s H scope cenv fp) es (LT Sy X EX0 tt) := h
end
def dNotV (ta : TD) : TD := fun ρ R Ex => ta ρ (fun x => truK x fun b => R (.bool (!b))) Ex
def dTb (ta : TD) : TTD := fun ρ R Ex => ta ρ (fun x => match x with
  | .bool b => R b
  | _ => False) Ex
section
variable {Sy : Md} {X : Cx} {E : L2.St → XK} {e : Expr} {st : Stmt} {ta te : TD} {i : Nat}
def sAug (i : Nat) (g : Int → Int → Int) (t : TD) : TSD := fun D ρ => match slotD ρ i with
  | some (.dat (.int a)) => t ρ (fun d => match d with
    | .int b => D.nx (putD ρ i (some (.dat (.int (g a b)))))
    | _ => False) (D.ex ρ)
  | _ => False
end
section
variable {Sy : Md} {X : Cx} {E : L2.St → XK} {st : Stmt} {tr : TAD} {i j l n : Nat}
end
/-- n draws: any numbers below n -/
def t_draw : TF := fun us R _ => match us with
  | [.well, .dat (.int n)] => 0 < n ∧ n < 2 ^ 64 ∧ ∀ k, 0 ≤ k → k < n → R (.int k)
  | _ => False
end Ld

namespace Ld
open PySem L2 Lw
section
variable {R : RD} {Q : Bool → Prop} {i j : Int} {a b : List PyData} {x y : Str} {k : Nat} {d e : PyData} {s t : Bool}
theorem e_int {g : Int → Int → Int} {C : Int → Int → Prop} : fInt g C (.int i) (.int j) R = (C i j ∧ R (.int (g i j))) := rfl
theorem e_int0 {g : Int → Int → Int} : fInt0 g (.int i) (.int j) R = R (.int (g i j)) := rfl
theorem e_add : fAddG (.int i) (.int j) R = R (.int (i + j)) := rfl
theorem e_addT : fAddG (.tuple a) (.tuple b) R = (a.length + b.length ≤ 16000000 ∧ R (.tuple (a ++ b))) := rfl
theorem e_addL : fAddG (.list a) (.list b) R = (a.length + b.length ≤ 16000000 ∧ R (.list (a ++ b))) := rfl
theorem e_addSI : fAddS (.int i) (.int j) R = R (.int (i + j)) := rfl
theorem e_addST : fAddS (.tuple a) (.tuple b) R = (a.length + b.length ≤ 16000000 ∧ R (.tuple (a ++ b))) := rfl
theorem e_shl : fShl (.int i) (.int j) R = (i = 1 ∧ 0 ≤ j ∧ j ≤ 134217727 ∧ R (.int (2 ^ j.toNat))) := rfl
theorem e_ci {g : Int → Int → Bool} : fCI g (.int i) (.int j) Q = Q (g i j) := rfl
theorem e_eqI : fEq (.int i) (.int j) Q = Q (decide (i = j)) := rfl
theorem e_eqS : fEq (.str x) (.str y) Q = Q (decide (x = y)) := rfl
theorem e_eqB : fEq (.bool s) (.bool t) Q = Q (decide (s = t)) := rfl
theorem e_neI : fNe (.int i) (.int j) Q = Q (!decide (i = j)) := rfl
theorem e_neS : fNe (.str x) (.str y) Q = Q (!decide (x = y)) := rfl
theorem e_neB : fNe (.bool s) (.bool t) Q = Q (!decide (s = t)) := rfl
theorem e_isN : fIsN d .none Q = (true = true ∧ Q (isNon d)) := rfl
theorem e_notN : fNotN d .none Q = (true = true ∧ Q (!isNon d)) := rfl
theorem e_nthT : fNth k (.tuple a) R = nthL a k R := rfl
theorem e_nthL : fNth k (.list a) R = nthL a k R := rfl
theorem e_lenT : fLen [.tuple a] R = R (.int a.length) := rfl
theorem e_lenL : fLen [.list a] R = R (.int a.length) := rfl
theorem e_i1 {g : Int → Int} : fI1 g [.int i] R = R (.int (g i)) := rfl
theorem e_i2 {g : Int → Int → Int} : fI2 g [.int i, .int j] R = R (.int (g i j)) := rfl
theorem e_intO : fIntO [.int i] R = R (.int i) := rfl
theorem e_intB : fIntO [.bool s] R = R (.int (if s = true then 1 else 0)) := rfl
theorem e_isqrt : fIsqrt [.int i] R = (0 ≤ i ∧ i.natAbs < 2 ^ 13000 ∧ R (.int (isq i))) := rfl
theorem e_divmod : fDivmod [.int i, .int j] R = (CDivP i j ∧ R (.tuple [.int (i / j), .int (i % j)])) := rfl
theorem e_repr : fRepr [d] R = (d.hasDict = false ∧ shows d ∧ R (.str d.shown)) := rfl
theorem e_reprS : fReprS [d] R = (shows d ∧ R (.str d.shown)) := rfl
theorem e_tupL : fTupO [.list a] R = R (.tuple a) := rfl
theorem e_tupT : fTupO [.tuple a] R = R (.tuple a) := rfl
theorem e_lst : fLstO [.tuple a] R = R (.list a) := rfl
theorem e_truB : truK (.bool s) Q = Q s := rfl
theorem e_truI : truK (.int i) Q = Q (i != 0) := rfl
theorem e_truN : truK .none Q = Q false := rfl
theorem e_truL : truK (.list a) Q = Q (!a.isEmpty) := rfl
theorem e_truT : truK (.tuple a) Q = Q (!a.isEmpty) := rfl
theorem e_neg : fNeg (.int i) R = R (.int (-i)) := rfl
theorem e_bits : fBits (.int i) R = R (.int (Builtin.Int.intBits i : Nat)) := rfl
theorem e_back : fBack (.tuple a) R = R (.tuple a.reverse) := rfl
theorem e_backL : fBackL (.list a) R = R (.list a.reverse) := rfl
theorem e_slT {lo hi : Option Int} : fSl (.tuple a) lo hi R = R (.tuple (Lw.cutD a lo hi)) := rfl
theorem e_slL {lo hi : Option Int} : fSl (.list a) lo hi R = R (.list (Lw.cutD a lo hi)) := rfl
theorem e_slST {lo hi : Option Int} : fSlS (.tuple a) lo hi R = R (.tuple (Lw.cutD a lo hi)) := rfl
theorem e_gdT {n : Nat} {gs : GsD} {ρ : Env} {K : Env → Prop} : gdT n gs (.tuple a) ρ K = lenK a n (gs a ρ K) := rfl
theorem e_ixT {z : Int} : fIx (.tuple a) (.int z) R = match atD a z with | some d => R d | none => False := rfl
end
/-- a test, both ways -/
theorem dif {b : Bool} {A B : Prop} (h1 : b = true → A) (h0 : b = false → B) : if b = true then A else B := by
  cases b
  · rw [if_neg (by decide)]
    exact h0 rfl
  · rw [if_pos rfl]
    exact h1 rfl
end Ld

namespace Ld
open PySem L2 Lw
/-! ### loops by what stands -/
theorem whileD_by {c : TTD} {tb : TSD} {D : EndsD} (Inv : Env → Prop) (m : Env → Nat)
    (step : ∀ ρ (K : Env → Prop), Inv ρ → (∀ ρ', Inv ρ' → m ρ' < m ρ → K ρ') → c ρ (fun b => if b = true then tb { D with nx := K, ct := K, bk := D.nx } ρ else D.nx ρ) (D.ex ρ)) :
    ∀ n ρ, Inv ρ → m ρ < n → whileD c tb D n ρ
  | 0, _, _, h => absurd h (Nat.not_lt_zero _)
  | n + 1, ρ, i, h => step ρ (whileD c tb D n) i fun ρ' i' h' => whileD_by Inv m step n ρ' i' (by omega)
theorem while_d {c : TTD} {tb : TSD} {D : EndsD} {ρ : Env} (Inv : Env → Prop) (m : Env → Nat) (h : Inv ρ)
    (step : ∀ ρ (K : Env → Prop), Inv ρ → (∀ ρ', Inv ρ' → m ρ' < m ρ → K ρ') → c ρ (fun b => if b = true then tb { D with nx := K, ct := K, bk := D.nx } ρ else D.nx ρ) (D.ex ρ)) : sWhile c tb D ρ :=
  ⟨m ρ + 1, whileD_by Inv m step _ ρ h (Nat.lt_succ_self _)⟩
theorem difP {p : Prop} [Decidable p] {A B : Prop} (h1 : p → A) (h0 : ¬ p → B) : if decide p = true then A else B := dif (fun c => h1 (of_decide_eq_true c)) (fun c => h0 (of_decide_eq_false c))
theorem difN {p : Prop} [Decidable p] {A B : Prop} (h1 : ¬ p → A) (h0 : p → B) : if (!decide p) = true then A else B := dif (fun c => h1 (by simpa using c)) (fun c => h0 (by simpa using c))
theorem difT {A B : Prop} (h : A) : if true = true then A else B := by rw [if_pos rfl]; exact h
theorem difF {A B : Prop} (h : B) : if false = true then A else B := by rw [if_neg (by decide)]; exact h
/-- a call of a def whose reading stands under another name -/
theorem st {t k : TF} (e : t = k) {us : List Sv} {R : RD} {Ex : XD} (h : t us R Ex) : k us R Ex := e ▸ h
end Ld

namespace Ld
open PySem PySem.Spec PyProof.Rows L2
open Lw hiding Dv DvAll FreshB tData tDatas pd_int pd_bl pd_non pd_str pd_neg pd_pow pda_nil pda_cons pd_tup pd_lst pd_dct dv_cut dv_cat tup_at rRepr call_repr rIsD call_isD
/-! ### from the layer of data to the law's end -/
section
variable {P : Program} {w : World} {K : PySem.W.Frag} {mg : Str → Option Value} {base : Heap}
theorem _root_.Lw.Cl.down {k : Nat} {x : Str} {sp sp0 : Sp} (c : Cl (L2.CX P w) P w K mg base k x sp) (h0 : ∀ vs H Q E, sp0 vs H Q E → sp vs H Q E0) : Cl CX0 P w K mg base k x sp0 := by
  obtain ⟨f, fd, ps, F, a, b, d⟩ := c.ex
  refine ⟨f, fd, ps, ⟨fun vs H Q E z => F.len vs H Q E0 (h0 vs H Q E z), fun A hr hg outer s H e0 args us vs hb r Q E z => codeAny_mono (F.run A hr hg outer s H e0 args us vs hb r Q E0 (h0 vs H Q E z)) fun r s' h => ?_⟩, a, b, d⟩
  rcases r with er | (_ | _ | _ | u)
  · obtain ⟨_, _, _, _, _, _, _, _, _, _, _, _, z⟩ := h
    exact z.elim
  · exact h
  · exact h
  · exact h
  · exact h
/-- what a law's right tells of a well -/
def spRightD : Sp := fun vs H Q _ => ∃ p : Addr, vs = [.ref p] ∧ p ≠ sysModules ∧ WellAt H p ∧ ∀ H', After p H H' → Q (.bl true) H'
def spRightT (T : List (Addr × Str)) : Sp := fun vs H Q _ => ∃ p : Addr, vs = [.ref p] ∧ p ≠ sysModules ∧ WellAt H p ∧ LamX.Tabs T H ∧ ∀ H', Stp ⟨some p, T⟩ H H' → Q (.bl true) H'
end
end Ld

namespace Ld
open PySem L2 Lw
/-! ### data that may be told as texts -/
mutual
theorem fine_noX {B : Nat} : ∀ d : PyData, fine B d → noX d = true
  | .none, _ => rfl
  | .bool _, _ => rfl
  | .int _, _ => rfl
  | .str _, _ => rfl
  | .list ds, h => fines_noX ds h
  | .tuple ds, h => fines_noX ds h
  | .dict [], _ => rfl
  | .dict (_ :: _), h => nomatch (show (_ :: _) = [] from h)
theorem fines_noX {B : Nat} : ∀ ds : List PyData, fineAll B ds → noXs ds = true
  | [], _ => rfl
  | d :: r, h => Bool.and_eq_true_iff.mpr ⟨fine_noX d h.1, fines_noX r h.2⟩
end
theorem shows_of {B n m : Nat} {d : PyData} (h : Fit B n m d) (hB : B ≤ 1900) (hn : n ≤ 16000000) (hm : m ≤ 100) : shows d :=
  ⟨fine_noX d h.f, fine_showable hB d h.f, Nat.le_trans h.d hm, by
    have q := shown_le hB d h.f
    have z := h.w
    rw [sizeLine_eq]
    omega⟩
structure Say (n m : Nat) (d : PyData) : Prop where
  fit : Fit 1900 n m d
  nd : d.hasDict = false
theorem Say.all {n m : Nat} {d : PyData} (h : Say n m d) (hn : n ≤ 16000000) (hm : m ≤ 100) : d.hasDict = false ∧ shows d := ⟨h.nd, shows_of h.fit (by decide) hn hm⟩
theorem Say.mono {n m n' m' : Nat} {d : PyData} (h : Say n m d) (a : n ≤ n') (b : m ≤ m') : Say n' m' d := ⟨h.fit.mono (Nat.le_refl _) a b, h.nd⟩
end Ld

namespace Ld
open PySem PySem.Spec PyProof.Rows L2
open Lw hiding Dv DvAll FreshB tData tDatas pd_int pd_bl pd_non pd_str pd_neg pd_pow pda_nil pda_cons pd_tup pd_lst pd_dct dv_cut dv_cat tup_at rRepr call_repr rIsD call_isD
/-! ### told(lambda: e): what e gives, or the field of its exception -/
/-- told's reading of what it is handed: [yes, value], or [no, field] for the class C -/
def TTold (C : Addr) (fl : Str) (yes no : Str) : (XK → Hp → VK → Prop) → Hp → VK → Prop := fun tl H Q =>
  ∃ K : VK, tl (fun cls dx H' => cls = .ref C ∧ ∃ a v, dx = some a ∧ H' a = some (.xd [(fl, v)]) ∧ ∀ l, H' l = none → l ≠ sysModules → Q (.ref l) (upd H' l (.lst [.str no, v]))) H K ∧
    ∀ v H', K v H' → ∀ l, H' l = none → l ≠ sysModules → Q (.ref l) (upd H' l (.lst [.str yes, v]))
theorem _root_.L2.PE.up {X : Cx} {e : Expr} {t : TE} (h : PE X e t) : PE X e (fun σ H Q => ∃ K : VK, t σ H K ∧ ∀ v H', K v H' → Q v H') := ⟨fun pins s σ H Q I ⟨K, q, i⟩ => thn (h.run pins s σ H K I q) fun u s1 ⟨v, H1, I1, r, z⟩ => ⟨v, H1, I1, r, i _ _ z⟩⟩
def dTold (c fl yes no : Str) (t : TD) : TD := fun ρ R _ => t ρ (fun d => R (.list [.str yes, d])) (fun x => ∃ d, x = (c, [(fl, d)]) ∧ R (.list [.str no, d]))
section
variable {Sy : Md} {X : Cx} {E : L2.St → XK} {e : Expr} {t : TD}
end
/-! ### promises of defs: g tells whether no text of data may be under way -/
structure FnQ (g : Bool) (CX : CXT) (P : Program) (w : World) (K : PySem.W.Frag) (mg : Str → Option Value) (base : Heap) (k : Nat) (f : Addr) (fd : FuncData) (ps : List Str) (sp : Sp) : Prop where
  len : ∀ vs H Q E, sp vs H Q E → vs.length = ps.length
  run : ∀ (A : Around), Room k A → (g = true → A.guards = some []) → ∀ (outer : List PySem.Env) (s : Shared) (H : Hp), Env0 P w K mg base A outer s H →
    ∀ (args : Args) (us : List Value) (vs : List V), BindsTo s fd args (ps.zip us) → Vals vs us → ∀ (Q : VK) (E : XK), sp vs H Q E → codeAny (model P w) A (.call (.ref f) args) (CR CX outer P w H s Q E) s
structure Cq (g : Bool) (CX : CXT) (P : Program) (w : World) (K : PySem.W.Frag) (mg : Str → Option Value) (base : Heap) (k : Nat) (x : Str) (sp : Sp) : Prop where
  ex : ∃ f fd ps, FnQ g CX P w K mg base k f fd ps sp ∧ mg x = some (.ref f) ∧ PySem.W.keepIn K (.ref f) = true ∧ L2.Binds K fd ps []
/-- a def of the text with the code object cd -/
structure Dc (K : PySem.W.Frag) (mg : Str → Option Value) (x : Str) (st : Stmt) (ps : List Str) (cd : Value) : Prop where
  ex : ∃ (f : Addr) (oc : Value) (od : Option Addr) (kV doc pm : Value) (an : Option Addr) (ct : Value) (osl : Array (Option Value)),
    K.lookup f = some ⟨oc, od, .func (PySem.W.fnOf x x (defArgs st) (defBody st) (defScope st) .none kV doc pm an cd ct), osl⟩ ∧ PySem.W.codeIn K cd x = true ∧ PySem.W.keepIn K (.ref f) = true ∧ mg x = some (.ref f) ∧
    L2.Binds K (PySem.W.fnOf x x (defArgs st) (defBody st) (defScope st) .none kV doc pm an cd ct) ps []
section
variable {CX : CXT} {P : Program} {w : World} {K : PySem.W.Frag} {mg : Str → Option Value} {base : Heap}
theorem Cq.cl {g : Bool} {k : Nat} {x : Str} {sp : Sp} (c : Cq g CX P w K mg base k x sp) : Cl CX P w K mg base k x sp := by
  obtain ⟨f, fd, ps, F, a, b, d⟩ := c.ex
  exact ⟨f, fd, ps, ⟨F.len, fun A hr hg => F.run A hr fun _ => hg⟩, a, b, d⟩
theorem _root_.Lw.Cl.cq {k : Nat} {x : Str} {sp : Sp} (c : Cl CX P w K mg base k x sp) : Cq true CX P w K mg base k x sp := by
  obtain ⟨f, fd, ps, F, a, b, d⟩ := c.ex
  exact ⟨f, fd, ps, ⟨F.len, fun A hr hg => F.run A hr (hg rfl)⟩, a, b, d⟩
theorem _root_.Lw.Dn.dc {x : Str} {st : Stmt} {ps : List Str} (D : Dn K mg x st ps) : ∃ cd, Dc K mg x st ps cd := by
  obtain ⟨f, fd, F, hm, hb⟩ := D.ex
  have kp := F.kp
  obtain ⟨oc, od, kV, doc, pm, an, cdv, ct, osl, rfl, lk, hcd⟩ := F.ex
  exact ⟨cdv, f, oc, od, kV, doc, pm, an, ct, osl, lk, hcd, kp, hm, hb⟩
theorem Dc.call {g : Bool} {x : Str} {st : Stmt} {N ps : List Str} {k : Nat} {cd : Value} {sp : Sp} (D : Dc K mg x st ps cd) (S : FnScope N ps (defScope st)) (len : ∀ vs H Q E, sp vs H Q E → vs.length = ps.length)
    (hbody : ∀ (f : Addr) (A : Around) (outer : List PySem.Env) (s : Shared) (H : Hp) (vs : List V) (Q : VK) (E : XK), Room k (A.deeper (envOfC x (defScope st) s.heap.objs.size f cd)) → (g = true → A.guards = some []) → sp vs H Q E →
      ∃ t, PSs (cxOf CX P w K mg base N x (defScope st) f cd A outer s H E) (defBody st) t ∧ t { nx := fun _ H' => Q .non H', rt := Q } (L2.start N vs) H) : Cq g CX P w K mg base (k + 1) x sp := by
  obtain ⟨f, oc, od, kV, doc, pm, an, ct, osl, lk, hcd, kp, hm, hb⟩ := D.ex
  refine ⟨f, _, ps, ⟨len, fun A hr hg outer s H e0 args us vs bt r Q E h => ?_⟩, hm, kp, hb⟩
  have kept : ∀ b o, base.get? b = some o → s.heap.get? b = some o := fun b o q => (e0.bs b o q).1
  have inK : K.In s.heap := e0.mod.kin.keeps kept
  refine codeAny_call_function hr.depth (inK _ _ lk) rfl S.co S.gen rfl (PySem.W.codeRec_of inK hcd) (bt _ _ _ _ ?_)
  have slots : ∀ y ∈ ps.zip us, (defScope st).names.lookup y.1 = some .local ∨
      ((defScope st).names.lookup y.1 = some .cell ∧ ((cellsFrom (s.heap.objs.size + 1) (defScope st).names []).lookup y.1).isSome = true) := by
    rintro ⟨n, v⟩ hy
    exact (S.par n (List.of_mem_zip hy).1).imp (fun q => q) fun q => ⟨q, PySem.W.cellsFrom_some _ _ _ (.inl q)⟩
  refine wpAny_newFunctionEnv_cells S.kind slots fun env he s1 C => ?_
  cases he
  refine ⟨(e0.mod.nolimit.keeps kept).keeps C.toInCall.keep, codeAny_func ?_⟩
  obtain ⟨t, ht, hq⟩ := hbody f A outer s H vs Q E (hr.deeper _) hg h
  have I0 := inv_start (CX := CX) (E := E) S hr.hd e0 (len _ _ _ _ h) r C
  refine wpAny_mono (ht.run [] s1 _ H _ I0 hq) ?_ fun _ _ z => z
  rintro (_ | _ | _ | u) s' z
  · obtain ⟨σ', H', J, q⟩ := z
    exact ⟨V.non, H', J.os, J.bare, J.base, J.hok, rfl, q⟩
  · obtain ⟨_, _, _, q⟩ := z
    exact q.elim
  · obtain ⟨_, _, _, q⟩ := z
    exact q.elim
  · obtain ⟨v, σ', H', J, rv, q⟩ := z
    exact ⟨v, H', J.os, J.bare, J.base, J.hok, rv, q⟩
theorem Dc.data {g : Bool} {Sy : Md} {x : Str} {st : Stmt} {N ps : List Str} {k : Nat} {cd : Value} {t : TSD} (D : Dc K mg x st ps cd) (S : FnScope N ps (defScope st))
    (hbody : ∀ (f : Addr) (A : Around) (outer : List PySem.Env) (s : Shared) (H : Hp) (E : XK), Room k (A.deeper (envOfC x (defScope st) s.heap.objs.size f cd)) → (g = true → A.guards = some []) →
      PSs (cxOf (L2.CX P w) P w K mg base N x (defScope st) f cd A outer s H E) (defBody st) (LS Sy (cxOf (L2.CX P w) P w K mg base N x (defScope st) f cd A outer s H E) (fun _ => E) t)) :
    Cq g (L2.CX P w) P w K mg base (k + 1) x (spF ⟨base, K, Sy⟩ mg ps.length (tfOf N t)) := by
  refine D.call S (fun vs H Q E h => h.len) (fun f A outer s H vs Q E hr hg h => ⟨_, hbody f A outer s H E hr hg, ?_⟩)
  obtain ⟨wl, Nb, us, R, Ex, hl, hv, ok, ht, q, qx⟩ := h
  refine ⟨wl, Nb, H, Nb, fun _ => none, [], _, _, ⟨⟨ok, ?_, ?_, fun i j a z _ => (nomatch z), fun i a z => (nomatch z), fun p hp => (nomatch hp)⟩, .refl _ _, fun _ z => z, fun _ _ z => (nomatch z), ok.fr, ok.kk⟩, ht, ⟨fun N O H1 σ ρ r b => q .none .non H1 r b.st .non, fun d v H1 r s dv => q d v H1 r s dv, fun _ _ _ _ _ z => z.elim, fun _ _ _ _ _ z => z.elim, ?_⟩⟩
  · have := hv.length
    have le : us.length ≤ N.length := by
      have := congrArg List.length S.pre
      rw [List.length_take] at this
      omega
    rw [startD_eq us N le]
    simp [L2.start, this]
  · have le : us.length ≤ N.length := by
      have := congrArg List.length S.pre
      rw [List.length_take] at this
      omega
    rw [startD_eq us N le]
    exact fun i y h => start_slot hv i y _ h
  · intro N O H1 σ ρ x cls dx hx b hh
    refine qx x cls dx H1 hx b.st ?_
    obtain ⟨C, h1, h2, h3⟩ := hh
    refine ⟨C, h1, h2, ?_⟩
    split
    · rename_i e
      rw [e] at h3
      exact h3
    · rename_i f d e
      rw [e] at h3
      obtain ⟨a, v, e1, e2, e3⟩ := h3
      exact ⟨a, v, e1, e2, e3.less (b.k0.trans b.e.ok.kk.symm) b.sub⟩
    · rename_i e1 e2
      split at h3
      · rename_i e
        exact absurd e e1
      · rename_i f d e
        exact absurd e (e2 f d)
      · exact h3
theorem _root_.Lw.Dn.dataQ {g : Bool} {Sy : Md} {x : Str} {st : Stmt} {N ps : List Str} {k : Nat} {t : TSD} (D : Dn K mg x st ps) (S : FnScope N ps (defScope st))
    (hbody : ∀ (f : Addr) (cdv : Value) (A : Around) (outer : List PySem.Env) (s : Shared) (H : Hp) (E : XK), Room k (A.deeper (envOfC x (defScope st) s.heap.objs.size f cdv)) → (g = true → A.guards = some []) →
      PSs (cxOf (L2.CX P w) P w K mg base N x (defScope st) f cdv A outer s H E) (defBody st) (LS Sy (cxOf (L2.CX P w) P w K mg base N x (defScope st) f cdv A outer s H E) (fun _ => E) t)) :
    Cq g (L2.CX P w) P w K mg base (k + 1) x (spF ⟨base, K, Sy⟩ mg ps.length (tfOf N t)) := by
  obtain ⟨cd, C⟩ := D.dc
  exact C.data S fun f A outer s H E hr hg => hbody f cd A outer s H E hr hg
end
section
variable {X : Cx} {CX : CXT} {x : Str} {p pos : Pos} {e : Expr} {es : List Expr} {t : TA} {sp : Sp} {j k : Nat} {g : Bool}
theorem pe_clQ {E : L2.St → XK} (c : Cq g CX X.prog X.w X.K X.mg X.base k x sp) (hr : Room j X.A) (hG : g = true → X.A.guards = some []) (hx : ∀ σ, PassesAt CX X σ (E σ)) (hg : Gl X x) (ha : PA X (e :: es) t) (hk : k ≤ j := by decide)
    (hdb : (x == ("__debug__" : Str)) = false := by decide) (he : starEach (e :: es) X.env = (false, eval e X.env) :: starEach es X.env := by rfl) (hpl : (backTo pos (starEach es X.env)).any (·.1) = false := by rfl) :
    PE X (.Call (.Name x p) (e :: es) [] pos) (fun σ H Q => t σ H fun vs H1 => sp vs H1 Q (E σ)) := by
  obtain ⟨f, fd, ps, F, hm, kp, hb⟩ := c.ex
  refine ⟨fun pins s σ H Q I h => wpAny_Call_Name_kw (ld_glob I hg hm (PySem.W.callWith_K (h₀ := X.base) I.ok.mod.kin kp (thn (ha.run pos pins s σ H _ I h) ?_) he hpl) hdb)⟩
  rintro us s1 ⟨vs, H1, I1, r, q⟩
  have hl : us.length = ps.length := r.length ▸ F.len _ _ _ _ q
  have bt := hb s1 us I1.kIn (by rw [List.append_nil]; exact hl)
  rw [List.append_nil] at bt
  refine ⟨I1.kIn, wpAny_call (codeAny_mono (F.run X.A (hr.mono hk) hG X.stack s1 H1 I1.env0 ⟨us, []⟩ us vs bt r Q (E σ) q) ?_)⟩
  rintro (er | (_ | _ | _ | u)) s' z
  · exact hx σ pins H1 s1 er s' I1 z
  · exact z.elim
  · exact z.elim
  · exact z.elim
  · exact I1.after z
end
section
variable {X : Cx}
end
end Ld

namespace Ld
open PySem PySem.Spec PyProof.Rows L2
open Lw hiding Dv DvAll FreshB tData tDatas pd_int pd_bl pd_non pd_str pd_neg pd_pow pda_nil pda_cons pd_tup pd_lst pd_dct dv_cut dv_cat tup_at rRepr call_repr rIsD call_isD
section
variable {Sy : Md} {X : Cx} {E : L2.St → XK}
/-- told(lambda: body), by data -/
def fRep : PyData → PyData → RD → Prop := fun x y R => match x, y with
  | .list xs, .int k => 0 ≤ k ∧ k ≤ 1000 ∧ xs.length * k.toNat ≤ 16000000 ∧ R (.list (List.replicate k.toNat xs).flatten)
  | _, _ => False
end
end Ld

namespace Ld
open PySem PySem.Spec PyProof.Rows L2
open Lw hiding Dv DvAll FreshB tData tDatas pd_int pd_bl pd_non pd_str pd_neg pd_pow pda_nil pda_cons pd_tup pd_lst pd_dct dv_cut dv_cat tup_at rRepr call_repr rIsD call_isD
/-! ### steps that touch tables only -/
section
variable {K : PySem.W.Frag} {T : List (Addr × Str)} {H H1 H2 H3 Hx : Hp} {D p a : Addr} {xs ys : List V}
variable {g : TG} {te : TE} {vs : List Nat} {σ : L2.St} {σ' : V → L2.St}
end
/-! ### the end of a law that makes lambdas in one def -/
/-- what a law promises, with a table -/
def spLawT (K : PySem.W.Frag) (T : List (Addr × Str)) : Sp := fun vs H Q _ => ∃ (a : Addr) (ns : List Int), vs = [.ref a] ∧ SqL K H a (ns.map V.int) ∧ ns.length ≤ 63 ∧ LamX.Tabs T H ∧ ∀ H', Q (.bl true) H'
section
variable {P : Program} {w : World} {K : PySem.W.Frag} {mg mb : Str → Option Value} {k : Nat} {fa a cM Pm : Addr} {s : Shared} {vs : List Value} {ns : List Int} {q : Str}
open Classical in
noncomputable def scriptT (K : PySem.W.Frag) (a Pm : Addr) (vs : List Value) (ns : List Int) : Hp := fun b =>
  if b = Pm then some (.tbl #[]) else scriptH K a vs ns b
end
end Ld

namespace Ld
open PySem PySem.Spec PyProof.Rows L2 Lw
/-! ### an own list lent for one expression -/
mutual
/-- no list and no dict within -/
def noL : PyData → Bool
  | .list _ => false
  | .dict _ => false
  | .tuple ds => noLs ds
  | _ => true
def noLs : List PyData → Bool
  | [] => true
  | d :: r => noL d && noLs r
end
mutual
theorem dv_noL {N N' : Bn} {H : Hp} (hK : N.K = N'.K) : ∀ (d : PyData) (v : V), noL d = true → Dv N' H v d → Dv N H v d
  | .none, _, _, h => by cases h; exact .non
  | .bool _, _, _, h => by cases h; exact .bl _
  | .int _, _, _, h => by cases h; exact .int _
  | .str _, _, _, h => by cases h; exact .str _
  | .list ds, _, n, h => by unfold noL at n; cases n
  | .tuple ds, _, n, h => by
    unfold noL at n
    cases h with
    | tup e a => exact .tup (by rw [hK]; exact e) (dvs_noL hK ds _ n a)
  | .dict _, _, n, h => by unfold noL at n; cases n
theorem dvs_noL {N N' : Bn} {H : Hp} (hK : N.K = N'.K) : ∀ (ds : List PyData) (vs : List V), noLs ds = true → DvAll N' H vs ds → DvAll N H vs ds
  | [], _, _, h => by cases h; exact .nil
  | d :: ds, _, n, h => by
    unfold noLs at n
    rw [Bool.and_eq_true] at n
    cases h with
    | cons a b => exact .cons (dv_noL hK d _ n.1 a) (dvs_noL hK ds _ n.2 b)
end
def noLx (x : Exn) : Bool := x.2.all fun p => noL p.2
theorem ex_noL {mg : Str → Option Value} {N N' : Bn} {H : Hp} {cls : Value} {dx : Option Addr} (hK : N.K = N'.K) {x : Exn} (n : noLx x = true) (h : ExAt mg N' H cls dx x) : ExAt mg N H cls dx x := by
  obtain ⟨C, h1, h2, h3⟩ := h
  refine ⟨C, h1, h2, ?_⟩
  unfold noLx at n
  split at h3
  · exact h3
  · rename_i f d e
    rw [e] at n
    simp only [List.all_cons, List.all_nil, Bool.and_true] at n
    obtain ⟨a, v, e1, e2, e3⟩ := h3
    exact ⟨a, v, e1, e2, dv_noL hK d v n e3⟩
  · exact h3
section
variable {Sy : Md} {X : Cx} {E : L2.St → XK} {st : Stmt} {sts : List Stmt} {pos : Pos} {i j l n : Nat} {t u : TSD} {te : TD} {tc : TTD} {tr : TAD}
/-- an expression within a statement, an own list being lent to it -/
def sAppL (i : Nat) (t : TD) : TSD := fun D ρ => ownK (slotD ρ i) fun ds => t (putD ρ i (some (.dat (.list ds)))) (fun d => noL d = true ∧ ds.length < 16000000 ∧ D.nx (putD ρ i (some (.own (ds ++ [d]))))) (fun x => noLx x = true ∧ D.ex ρ x)
def sSetL (i j : Nat) (t : TD) : TSD := fun D ρ => ownK (slotD ρ i) fun ds => t (putD ρ i (some (.dat (.list ds)))) (fun d => noL d = true ∧ D.nx (putD ρ j (some (.dat d)))) (fun x => noLx x = true ∧ D.ex ρ x)
def sIfL (i : Nat) (c : TTD) (t u : TSD) : TSD := fun D ρ => ownK (slotD ρ i) fun ds => c (putD ρ i (some (.dat (.list ds)))) (fun b => if b = true then t D ρ else u D ρ) (fun x => noLx x = true ∧ D.ex ρ x)
end
/-! ### list(x), x a list -/
section
variable {X : Cx}
def rListL (K : PySem.W.Frag) : List V → Hp → VK → Prop := fun xs H Q => ∃ p ys, xs = [.ref p] ∧ SqL K H p ys ∧ ∀ l, H l = none → l ≠ sysModules → Q (.ref l) (upd H l (.lst ys))
variable {Sy : Md} {E : L2.St → XK} {e : Expr} {i : Nat} {te : TD}
/-- list(x), x the own list in slot i -/
def dOwnLst (i : Nat) : TD := fun ρ R _ => ownK (slotD ρ i) fun ds => R (.list ds)
def fLstL (d : PyData) (R : RD) : Prop := match d with
  | .list ds => R (.list ds)
  | _ => False
end
/-! ### // of any size, the quotient being small -/
def FdOk (i j : Int) : Prop := j ≠ 0 ∧ (j.natAbs < 2 ^ 9000 ∨ i.natAbs < j.natAbs * 2 ^ 4400)
section
variable {X : Cx}
end
abbrev fFdvB := fInt (fun i j => i.fdiv j) FdOk
end Ld

namespace Ld
open PySem PySem.Spec PyProof.Rows L2
open Lw hiding Dv DvAll FreshB tData tDatas pd_int pd_bl pd_non pd_str pd_neg pd_pow pda_nil pda_cons pd_tup pd_lst pd_dct dv_cut dv_cat tup_at rRepr call_repr rIsD call_isD
/-! ### a slot emptied -/
section
variable {base : Gnd} {w : Wx} {N0 N : Bn} {O : Nat → Option Addr} {F : Keep} {H0 H H' : Hp} {σ : L2.St} {ρ : Env}
end
/-! ### try: .. except c as e: t = [no, e.field] -/
def sTry1 (c fl : Str) (i j : Nat) (no : Str) (tb : TSD) : TSD := fun D ρ => tb { nx := D.nx, rt := D.rt, bk := D.bk, ct := D.ct, ex := fun ρ' x => ∃ d, x = (c, [(fl, d)]) ∧ D.nx (putD (putD ρ' j (some (.dat (.list [.str no, d])))) i none) } ρ
section
variable {Sy : Md} {X : Cx} {E : L2.St → XK} {i j : Nat} {tb : TSD}
def WL (X : Cx) (W : WX) : WX := fun cls d σ H => σ.length = X.N.length → W cls d σ H
end
/-! ### math.lcm -/
section
variable {X : Cx} {Sy : Md}
def rLcm : List V → Hp → VK → Prop := fun vs H Q => ∃ a b : Int, vs = [.int a, .int b] ∧ a.natAbs < 2 ^ 2000 ∧ b.natAbs < 2 ^ 2000 ∧ Q (.int ((Nat.lcm a.natAbs b.natAbs : Nat) : Int)) H
def fLcm (ds : List PyData) (R : RD) : Prop := match ds with
  | [.int a, .int b] => (a.natAbs < 2 ^ 2000 ∧ b.natAbs < 2 ^ 2000) ∧ R (.int ((Nat.lcm a.natAbs b.natAbs : Nat) : Int))
  | _ => False
end
theorem e_lcm {i j : Int} {R : RD} : fLcm [.int i, .int j] R = ((i.natAbs < 2 ^ 2000 ∧ j.natAbs < 2 ^ 2000) ∧ R (.int ((Nat.lcm i.natAbs j.natAbs : Nat) : Int))) := rfl
/-! ### zip of two tuples, of two lists -/
def zipD (ds es : List PyData) : List PyData := (ds.zip es).map fun p => .tuple [p.1, p.2]
def iZp (ta : TAD) : ID := fun ρ R Ex => ta ρ (fun us => match us with
  | [.dat (.tuple ds), .dat (.tuple es)] => R (zipD ds es)
  | [.dat (.list ds), .dat (.list es)] => R (zipD ds es)
  | _ => False) Ex
section
variable {Sy : Md} {X : Cx} {E : L2.St → XK}
end
/-! ### a list taken apart -/
def gdL (n : Nat) (gs : GsD) : GD := fun d ρ K => match d with
  | .list ds => lenK ds n (gs ds ρ K)
  | _ => False
theorem e_gdL {n : Nat} {gs : GsD} {ρ : Env} {K : Env → Prop} {a : List PyData} : gdL n gs (.list a) ρ K = lenK a n (gs a ρ K) := rfl
end Ld

namespace Ld
open PySem PySem.Spec PyProof.Rows L2
open Lw hiding Dv DvAll FreshB tData tDatas pd_int pd_bl pd_non pd_str pd_neg pd_pow pda_nil pda_cons pd_tup pd_lst pd_dct dv_cut dv_cat tup_at rRepr call_repr rIsD call_isD
/-! ### defs handed over and called -/
section
variable {CX : CXT} {P : Program} {w : World} {K : PySem.W.Frag} {mg : Str → Option Value} {base : Heap}
theorem Cq.mono {g : Bool} {k k' : Nat} {x : Str} {sp : Sp} (c : Cq g CX P w K mg base k x sp) (h : k ≤ k') : Cq g CX P w K mg base k' x sp := by
  obtain ⟨f, fd, ps, F, a, b, d⟩ := c.ex
  exact ⟨f, fd, ps, ⟨F.len, fun A hr => F.run A (hr.mono h)⟩, a, b, d⟩
theorem _root_.Lw.Dn.at {x : Str} {st : Stmt} {ps : List Str} (D : Dn K mg x st ps) : ∃ f, mg x = some (.ref f) := by
  obtain ⟨f, fd, F, hm, hb⟩ := D.ex
  exact ⟨f, hm⟩
end
def dConsF (x : Str) (r : TAD) : TAD := fun ρ R Ex => r ρ (fun us => R (.fn x :: us)) Ex
/-- a call of what the slot i holds -/
def dCallV (i : Nat) (FT : Str → TF → Prop) (ta : TAD) : TD := fun ρ R Ex => match slotD ρ i with
  | some (.fn x) => ∃ tf, FT x tf ∧ ta ρ (fun us => tf us R Ex) Ex
  | _ => False
section
variable {Sy : Md} {X : Cx} {E : L2.St → XK} {es : List Expr} {n : Nat} {tr : TAD}
end
end Ld

namespace Ld
open PySem PySem.Spec PyProof.Rows L2
open Lw hiding Dv DvAll FreshB tData tDatas pd_int pd_bl pd_non pd_str pd_neg pd_pow pda_nil pda_cons pd_tup pd_lst pd_dct dv_cut dv_cat tup_at rRepr call_repr rIsD call_isD
/-! ### comprehensions with two for -/
def lcD2 (gd : GD) (tt : TTD) (ti1 : ID) (vs1 : List Nat) (gd1 : GD) (tt1 : TTD) (te : TD) (ρ : Env) : List PyData → (List PyData → Prop) → Prop
  | [], K => K []
  | d :: r, K => gd d ρ (fun ρ' => tt ρ' (fun b => if b = true then ti1 ρ' (fun ds1 => ds1.length ≤ 1000 ∧ lcD gd1 tt1 te (wipeD ρ' vs1) ds1 (fun ys1 => lcD2 gd tt ti1 vs1 gd1 tt1 te ρ r (fun ys => K (ys1 ++ ys)))) NoX else lcD2 gd tt ti1 vs1 gd1 tt1 te ρ r K) NoX)
def dLc2 (ti : ID) (sl : List Nat) (gd : GD) (tt : TTD) (ti1 : ID) (sl1 : List Nat) (gd1 : GD) (tt1 : TTD) (te : TD) : TD := fun ρ R Ex => ti ρ (fun ds => ds.length ≤ 1000 ∧ lcD2 gd tt ti1 sl1 gd1 tt1 te (wipeD ρ sl) ds (fun ys => R (.list ys))) Ex
section
variable {Sy : Md} {X Y : Cx} {E : L2.St → XK} {e : Expr} {st : Stmt} {wi wi1 : TI} {ti ti1 : ID} {g g1 : TG} {gd gd1 : GD} {tt tt1 : TTD} {te : TD} {sl vs sl1 vs1 : List Nat}
end
/-! ### x.insert(k, e), k or e reads x -/
def sInsL (i : Nat) (ta : TAD) : TSD := fun D ρ => ownK (slotD ρ i) fun ds => ta (putD ρ i (some (.dat (.list ds)))) (fun us => match us with
  | [.dat (.int k), .dat d] => noL d = true ∧ (ds.length < 16000000 ∧ 0 ≤ k ∧ k < 2 ^ 63) ∧ D.nx (putD ρ i (some (.own (ds.take k.toNat ++ [d] ++ ds.drop k.toNat))))
  | _ => False) (fun x => noLx x = true ∧ D.ex ρ x)
section
variable {Sy : Md} {X : Cx} {E : L2.St → XK} {st : Stmt} {i n : Nat} {tr : TAD}
end
end Ld

set_option maxHeartbeats 1000000
/-! ### enumerate over a tuple, at the model's level -/
namespace Ren
open PySem
open PySem.Sem (wp)
section
variable {prog : Program} {w : World} {A : Around} {E : Value → Shared → Prop} {s : Shared}
end
abbrev mkIt (l : Addr) : Obj := { cls := .type "tuple_iterator", data := .fields #[.ref l, .int 0 0] }
abbrev mkEn (h : Heap) : Obj := { cls := .type "enumerate", data := .fields #[.none, .bool false, .ref h.objs.size, rawInt 0, .none, .none] }
end Ren
namespace Ld
open PySem PySem.Spec PyProof.Rows L2
open Lw hiding Dv DvAll FreshB tData tDatas pd_int pd_bl pd_non pd_str pd_neg pd_pow pda_nil pda_cons pd_tup pd_lst pd_dct dv_cut dv_cat tup_at rRepr call_repr rIsD call_isD
/-! ### enumerate, by data -/
/-- the tuple at a, each item with its number in a new pair -/
def ItnT (K : PySem.W.Frag) (a : Addr) : It where
  go := fun i H => ∃ (xs : List V) (x : V), SqT K H a xs ∧ xs[i]? = some x
  yld := fun i H v H' => ∃ T x, v = .ref T ∧ H T = none ∧ H' = upd H T (.tup [.int (i : Nat), x]) ∧ ∀ xs, SqT K H a xs → xs[i]? = some x
  stop := fun i H => ∃ xs : List V, SqT K H a xs ∧ xs.length ≤ i
def iEnA (K : PySem.W.Frag) (ta : TA) : TI := fun σ H R => ta σ H fun vs H1 => ∃ a xs, vs = [.ref a] ∧ ((SqL K H1 a xs ∧ R (Ite K a) H1) ∨ (SqT K H1 a xs ∧ R (ItnT K a) H1))
def numD (n : Int) : List PyData → List PyData
  | [] => []
  | d :: r => .tuple [.int n, d] :: numD (n + 1) r
def iEn (ta : TAD) : ID := fun ρ R Ex => ta ρ (fun us => match us with
  | [.dat (.tuple ds)] => R (numD 0 ds)
  | [.dat (.list ds)] => R (numD 0 ds)
  | _ => False) Ex
section
variable {Sy : Md} {X : Cx} {E : L2.St → XK}
end
end Ld

namespace Ld
open PySem PySem.Spec PyProof.Rows L2
open Lw hiding Dv DvAll FreshB tData tDatas pd_int pd_bl pd_non pd_str pd_neg pd_pow pda_nil pda_cons pd_tup pd_lst pd_dct dv_cut dv_cat tup_at rRepr call_repr rIsD call_isD
/-! ### calls by name -/
/-- the function's data of a def of the text -/
def FdAt (st : Stmt) (x : Str) (fd : FuncData) : Prop := ∃ (kV doc pm cd ct : Value) (an : Option Addr), fd = PySem.W.fnOf x x (defArgs st) (defBody st) (defScope st) .none kV doc pm an cd ct
/-- a def's promise, its parameters known -/
structure Ck (g : Bool) (CX : CXT) (P : Program) (w : World) (K : PySem.W.Frag) (mg : Str → Option Value) (base : Heap) (k : Nat) (x : Str) (st : Stmt) (ps : List Str) (sp : Sp) : Prop where
  ex : ∃ f fd, FnQ g CX P w K mg base k f fd ps sp ∧ mg x = some (.ref f) ∧ PySem.W.keepIn K (.ref f) = true ∧ L2.Binds K fd ps [] ∧ FdAt st x fd
section
variable {CX : CXT} {P : Program} {w : World} {K : PySem.W.Frag} {mg : Str → Option Value} {base : Heap}
theorem Ck.cq {g : Bool} {k : Nat} {x : Str} {st : Stmt} {ps : List Str} {sp : Sp} (c : Ck g CX P w K mg base k x st ps sp) : Cq g CX P w K mg base k x sp := by
  obtain ⟨f, fd, F, a, b, d, _⟩ := c.ex
  exact ⟨f, fd, ps, F, a, b, d⟩
end
/-- the values in the parameters' order -/
def pickD {α : Type} (z : α) (js : List Nat) (xs : List α) : List α := js.map fun j => xs.getD j z
def KwOk (st : Stmt) (x : Str) (ps ks : List Str) (js : List Nat) (n m : Nat) : Prop := ∀ (kV doc pm cd ct : Value) (an : Option Addr) (us ws : List Value), us.length = n → ws.length = m →
  bindArgs (PySem.W.fnOf x x (defArgs st) (defBody st) (defScope st) .none kV doc pm an cd ct) ⟨us, ks.zip ws⟩ = pure (ps.zip (pickD .none js (us ++ ws)))
section
variable {X : Cx} {CX : CXT} {x : Str} {st : Stmt} {p pos kpos : Pos} {e : Expr} {es : List Expr} {kws : List Keyword} {t tk : TA} {sp : Sp} {j k n m : Nat} {g : Bool} {ps ks : List Str} {js : List Nat} {nm : Option Str}
theorem _root_.L2.PK.weak {t t' : TA} (h : PK X kws t) (i : ∀ σ H Q, t' σ H Q → t σ H Q) : PK X kws t' := ⟨fun pos pins s σ H Q I q => h.run pos pins s σ H Q I (i σ H Q q)⟩
end
def dCallK (tf : TF) (js : List Nat) (ta tk : TAD) : TD := fun ρ R Ex => ta ρ (fun us => tk ρ (fun zs => tf (pickD (.dat .none) js (us ++ zs)) R Ex) Ex) Ex
section
variable {Sy : Md} {X : Cx} {E : L2.St → XK} {e : Expr} {kws : List Keyword} {kpos : Pos} {nm : Option Str} {tf : TF} {js : List Nat} {n m l : Nat} {tr tk : TAD} {ta : TD}
theorem dk_nil : PK X [] (LA Sy X E 0 dNil) := pk_nil.weak fun σ H Q ⟨w, N, O, F, ρ, R, Ex, en, t, q, qx⟩ => q [] [] H rfl t (.refl _ _) trivial
theorem dk_cons (h : PE X e (LE Sy X E ta)) (r : PK X kws (LA Sy X E n tr)) : PK X (⟨nm, e, kpos⟩ :: kws) (LA Sy X E (n + 1) (dCons ta tr)) :=
  (pk_cons h r).weak fun σ H Q ⟨w, N, O, F, ρ, R, Ex, en, t, q, qx⟩ => by
    refine ⟨w, N, O, F, ρ, _, Ex, en, t, fun x v H1 r1 k1 dx => ?_, qx⟩
    refine ⟨w, N, O, F, ρ, _, Ex, en.step k1, r1, fun us vs H2 hl r2 k2 hv => ?_, fun x cls dx H' hx k hh => qx x cls dx H' hx (k1.trans k) hh⟩
    exact q (.dat x :: us) (v :: vs) H2 (by simp [hl]) r2 (k1.trans k2) ⟨dv_step dx en.hw k2, hv⟩
end
end Ld

namespace Ld
open PySem PySem.Spec PyProof.Rows L2
open Lw hiding Dv DvAll FreshB tData tDatas pd_int pd_bl pd_non pd_str pd_neg pd_pow pda_nil pda_cons pd_tup pd_lst pd_dct dv_cut dv_cat tup_at rRepr call_repr rIsD call_isD
/-! ### a, b = [], [] : two lists of the def's own -/
def sOwn2 (i j : Nat) : TSD := fun D ρ => D.nx (putD (putD ρ i (some (.own []))) j (some (.own [])))
section
variable {Sy : Md} {X : Cx} {E : L2.St → XK} {st : Stmt} {i j : Nat}
end
theorem e_eqL {a b : List PyData} {Q : Bool → Prop} : fEq (.list a) (.list b) Q = (SeqAt.shaped (.list a) = true ∧ SeqAt.shaped (.list b) = true ∧ Q (PyData.eqv (.list a) (.list b))) := rfl
theorem e_neL {a b : List PyData} {Q : Bool → Prop} : fNe (.list a) (.list b) Q = (SeqAt.shaped (.list a) = true ∧ SeqAt.shaped (.list b) = true ∧ Q (!PyData.eqv (.list a) (.list b))) := rfl
end Ld
namespace Ld
open PySem PySem.Spec PyProof.Rows L2
open Lw hiding Dv DvAll FreshB tData tDatas pd_int pd_bl pd_non pd_str pd_neg pd_pow pda_nil pda_cons pd_tup pd_lst pd_dct dv_cut dv_cat tup_at rRepr call_repr rIsD call_isD
section
variable {Sy : Md} {X : Cx} {E : L2.St → XK} {st : Stmt} {i j : Nat}
end
end Ld
namespace Ld
open PySem PySem.Spec PyProof.Rows L2
open Lw hiding Dv DvAll FreshB tData tDatas pd_int pd_bl pd_non pd_str pd_neg pd_pow pda_nil pda_cons pd_tup pd_lst pd_dct dv_cut dv_cat tup_at rRepr call_repr rIsD call_isD
/-! ### powers of wide numbers -/
def CPowW (i j : Int) : Prop := 0 ≤ j ∧ j ≤ 100 ∧ i.natAbs < 2 ^ 40000
section
variable {X : Cx}
end
abbrev fPowW := fInt (fun i j => i ^ j.toNat) CPowW
end Ld

namespace Ld
open PySem PySem.Spec PyProof.Rows L2
open Lw hiding Dv DvAll FreshB tData tDatas pd_int pd_bl pd_non pd_str pd_neg pd_pow pda_nil pda_cons pd_tup pd_lst pd_dct dv_cut dv_cat tup_at rRepr call_repr rIsD call_isD
/-! ### texts by data -/
/-- a text by its signs -/
def sT (l : List Nat) : Str := ⟨l.toArray⟩
def tl' (x : Str) : List Nat := x.cps.toList
section
variable {Sy : Md} {X : Cx} {E : L2.St → XK} {e : Expr} {pos : Pos} {ta tb : TD}
/-- text[i] -/
def fIxS : PyData → PyData → RD → Prop := fun x y R => match x, y with
  | .str z, .int i => z.length ≤ sizeLine ∧ match atI (tl' z) i with
    | some c => R (.str (sT [c]))
    | none => False
  | _, _ => False
def fSlT (x : PyData) (lo hi : Option Int) (R : RD) : Prop := match x with
  | .str z => z.length ≤ sizeLine ∧ R (.str (cutS z lo hi))
  | _ => False
def dSlT (t : TD) (lo hi : TOD) : TD := fun ρ R Ex => t ρ (fun x => lo ρ (fun l => hi ρ (fun h => fSlT x l h R) Ex) Ex) Ex
def fInS : PyData → PyData → (Bool → Prop) → Prop := fun x y Q => match x, y with
  | .str a, .str z => match tl' a with
    | [c] => Q (decide (c ∈ tl' z))
    | _ => False
  | _, _ => False
def fNotInS : PyData → PyData → (Bool → Prop) → Prop := fun x y Q => fInS x y fun b => Q (!b)
def fStrO : List PyData → RD → Prop := fun ds R => match ds with
  | [.int i] => i.natAbs.log2 < 1920 ∧ R (.str (toString i))
  | _ => False
def fOrd : List PyData → RD → Prop := fun ds R => match ds with
  | [.str x] => match tl' x with
    | [c] => R (.int (c : Nat))
    | _ => False
  | _ => False
def fIntT : List PyData → RD → Prop := fun ds R => match ds with
  | [.str a] => ∃ n, PySem.intText? a = some n ∧ a.length ≤ 640 ∧ R (.int n)
  | _ => False
def strsOf : List PyData → Option (List Str)
  | [] => some []
  | .str x :: r => match strsOf r with
    | some xs => some (x :: xs)
    | none => none
  | _ => none
def fJoin : PyData → PyData → RD → Prop := fun x y R => match x, y with
  | .str a, .list ds => match strsOf ds with
    | some ys => (ys.map (·.length)).sum + ys.length * a.length ≤ 16777216 ∧ R (.str (Txt.join a ys))
    | none => False
  | _, _ => False
def dFmt (t : TD) : TD := fun ρ R Ex => t ρ (fun d => match d with
  | .str y => y.length ≤ sizeLine ∧ R (.str y)
  | .int i => i.natAbs.log2 < 1920 ∧ R (.str (toString i))
  | _ => False) Ex
def dJs : List TD → Str → TD
  | [], acc => fun ρ R _ => R (.str acc)
  | t :: ts, acc => fun ρ R Ex => t ρ (fun d => match d with
    | .str y => (acc ++ y).length ≤ sizeLine ∧ dJs ts (acc ++ y) ρ R Ex
    | _ => False) Ex
end
end Ld
namespace Ren
open PySem
open PySem.Sem (wp)
/-! ### enumerate over a text -/
section
variable {prog : Program} {w : World} {A : Around} {E : Value → Shared → Prop} {s : Shared}
end
end Ren
namespace Ld
open PySem PySem.Spec PyProof.Rows L2
open Lw hiding Dv DvAll FreshB tData tDatas pd_int pd_bl pd_non pd_str pd_neg pd_pow pda_nil pda_cons pd_tup pd_lst pd_dct dv_cut dv_cat tup_at rRepr call_repr rIsD call_isD
/-- a text's signs, each with its number in a new pair -/
def ItnS (x : Str) : It where
  go := fun i H => ∃ c, x.cps[i]? = some c
  yld := fun i H v H' => ∃ T c, v = .ref T ∧ H T = none ∧ H' = upd H T (.tup [.int (i : Nat), .str ⟨#[c]⟩]) ∧ x.cps[i]? = some c
  stop := fun i H => x.cps.size ≤ i
def iEnS (ta : TA) : TI := fun σ H R => ta σ H fun vs H1 => ∃ x, vs = [.str x] ∧ R (ItnS x) H1
def signsD (l : List Nat) : List PyData := l.map fun c => .str (sT [c])
def iEnT (ta : TAD) : ID := fun ρ R Ex => ta ρ (fun us => match us with
  | [.dat (.str x)] => R (numD 0 (signsD (tl' x)))
  | _ => False) Ex
section
variable {Sy : Md} {X : Cx} {E : L2.St → XK}
end
end Ld
namespace Ld
open PySem PySem.Spec PyProof.Rows L2
open Lw hiding Dv DvAll FreshB tData tDatas pd_int pd_bl pd_non pd_str pd_neg pd_pow pda_nil pda_cons pd_tup pd_lst pd_dct dv_cut dv_cat tup_at rRepr call_repr rIsD call_isD
/-! ### a, b, c = 0, 0, [] -/
def sOwn3 (i j l : Nat) (x y : Int) : TSD := fun D ρ => D.nx (putD (putD (putD ρ i (some (.dat (.int x)))) j (some (.dat (.int y)))) l (some (.own [])))
section
variable {Sy : Md} {X : Cx} {E : L2.St → XK} {st : Stmt} {i j l : Nat} {x y : Int}
end
end Ld
namespace Ld
open PySem PySem.Spec PyProof.Rows L2
end Ld

namespace Ld
open PySem PySem.Spec PyProof.Rows L2
/-! ### a try with several named clauses, all with one name, that no exception passes -/
abbrev Ts := Addr → Value → Option Addr → TS
/-- behind a clause the name in slot i is gone -/
def goneD (i : Nat) (D : Ends) : Ends := { nx := fun σ H => D.nx (σ.set i none) H, rt := D.rt, bk := fun σ H => D.bk (σ.set i none) H, ct := fun σ H => D.ct (σ.set i none) H }
def wAll (K : PySem.W.Frag) (i : Nat) (D : Ends) : List (Value × Ts) → WX
  | [] => fun _ _ _ _ => False
  | p :: r => fun cls d σ H => (PySem.W.exmOne K cls p.1 = some true ∧ ∀ a, H a = none → p.2 a cls d (goneD i D) (σ.set i (some (.ref a))) H) ∨ (PySem.W.exmOne K cls p.1 = some false ∧ wAll K i D r cls d σ H)
inductive HdsAs (X : Cx) (n : Str) : List ExceptHandler → List (Value × Ts) → Prop
  | nil : HdsAs X n [] []
  | cons {x : Str} {c : Value} {ts : Ts} {b : Stmt} {bs : List Stmt} {p q : Pos} {hds : List ExceptHandler} {l : List (Value × Ts)} (hc : Names X x c)
      (hsu : ∀ (a : Addr) (oe : Obj) (cls : Value) (d : Option Addr) (pn : List (Addr × Obj)), Zc cls d oe → (∃ vs, oe.data = .fields vs) → PSs (X.suite a ((a, oe) :: pn)) (b :: bs) (ts a cls d)) (r : HdsAs X n hds l) :
      HdsAs X n (.ExceptHandler (some (.Name x p)) (some n) (b :: bs) q :: hds) ((c, ts) :: l)
section
variable {X : Cx} {body : List Stmt} {h₀ : ExceptHandler} {hds : List ExceptHandler} {l : List (Value × Ts)} {pos : Pos} {tb : WX → TS} {n : Str} {i : Nat}
end
end Ld
namespace Ld
open PySem PySem.Spec PyProof.Rows L2
open Lw hiding Dv DvAll FreshB tData tDatas pd_int pd_bl pd_non pd_str pd_neg pd_pow pda_nil pda_cons pd_tup pd_lst pd_dct dv_cut dv_cat tup_at rRepr call_repr rIsD call_isD
/-! ### told: try: t = call(); except C as e: return (no, e.field); ..; return (yes, t) -/
abbrev Hd3 := Addr × Str × Str
def mkO (tp : Bool) (xs : List V) : HO := match tp with
  | true => .tup xs
  | false => .lst xs
/-- one of the clauses' classes, with its field; then the clause's answer -/
def xAll (tp : Bool) (Q : VK) : List Hd3 → XK
  | [] => fun _ _ _ => False
  | p :: r => fun cls dx H => (cls = .ref p.1 ∧ ∃ a v, dx = some a ∧ H a = some (.xd [(p.2.1, v)]) ∧ ∀ l, H l = none → (tp = false → l ≠ sysModules) → Q (.ref l) (upd H l (mkO tp [.str p.2.2, v]))) ∨ xAll tp Q r cls dx H
/-- the clauses' texts: none of the classes stands under one before it -/
inductive HT (X : Cx) (tp : Bool) (en : Str) : List ExceptHandler → List Hd3 → Prop
  | nil : HT X tp en [] []
  | tup {xc fl no : Str} {C fI : Addr} {st0 : Stmt} {fd : FuncData} {j kk : Nat} {p1 p2 p3 p4 p5 p6 p7 : Pos} {hds : List ExceptHandler} {l : List Hd3} (ht : tp = true) (ec : Ec X.K X.mg xc fl st0 C fI fd) (gx : Gl X xc) (d : (xc == ("__debug__" : Str)) = false)
      (ap : ∀ q ∈ l, PySem.W.exmOne X.K (.ref q.1) (.ref C) = some false) (r : HT X tp en hds l) : HT X tp en (.ExceptHandler (some (.Name xc p1)) (some en) [.Return (some (.Tuple [.Constant (.str no) j p2, .Attribute (.Name en p3) fl p4] kk p5)) p6] p7 :: hds) ((C, fl, no) :: l)
  | lst {xc fl no : Str} {C fI : Addr} {st0 : Stmt} {fd : FuncData} {j : Nat} {p1 p2 p3 p4 p5 p6 p7 : Pos} {hds : List ExceptHandler} {l : List Hd3} (ht : tp = false) (ec : Ec X.K X.mg xc fl st0 C fI fd) (gx : Gl X xc) (d : (xc == ("__debug__" : Str)) = false)
      (ap : ∀ q ∈ l, PySem.W.exmOne X.K (.ref q.1) (.ref C) = some false) (r : HT X tp en hds l) : HT X tp en (.ExceptHandler (some (.Name xc p1)) (some en) [.Return (some (.List [.Constant (.str no) j p2, .Attribute (.Name en p3) fl p4] p5)) p6] p7 :: hds) ((C, fl, no) :: l)
section
variable {X : Cx}
theorem xAll_in {tp : Bool} {Q : VK} {cls : Value} {dx : Option Addr} {H : Hp} : ∀ {l : List Hd3}, xAll tp Q l cls dx H → ∃ q ∈ l, cls = .ref q.1
  | p :: r, h => by
    rcases h with ⟨e, _⟩ | h
    · exact ⟨p, List.mem_cons_self .., e⟩
    · obtain ⟨q, a, b⟩ := xAll_in h
      exact ⟨q, List.mem_cons_of_mem _ a, b⟩
theorem HT.ok {tp : Bool} {en : Str} {i : Nat} (nd : X.N.Nodup) (hi : X.N[i]? = some en) (hl : X.env.kindOf en = some .local) (d3 : (en == ("__debug__" : Str)) = false) (d4 : (en == ("__classdict__" : Str)) = false) {hds : List ExceptHandler} {hs : List Hd3} (h : HT X tp en hds hs) :
    ∃ l, HdsAs X en hds l ∧ ∀ (D : Ends) (σ : L2.St) (H : Hp) (cls : Value) (dx : Option Addr), i < σ.length → xAll tp (fun v H => D.rt v H) hs cls dx H → wAll X.K i D l cls dx σ H := by
  induction h with
  | nil => exact ⟨[], .nil, fun D σ H cls dx _ z => z⟩
  | @tup xc fl no C fI st0 fd j kk p1 p2 p3 p4 p5 p6 p7 hds l ht ec gx d ap r ih =>
    obtain ⟨l', a, b⟩ := ih
    refine ⟨(.ref C, _) :: l', .cons ⟨gx, d, .inl ec.gC⟩ (fun a oe cls d pn hz hf => pss_one (ps_ret (pe_tup (pa_cons pe_str (pa_cons (pe_xf ec.xf ec.no hz hf (pe_var hi (.inl hl) d3 d4)) pa_nil))))) a, fun D σ H cls dx il z => ?_⟩
    rcases z with ⟨rfl, aa, v, rfl, ha, z⟩ | z
    · refine .inl ⟨ec.te, fun b hb => ⟨.ref b, ?_, rfl, rfl, aa, _, v, rfl, ha, ?_, ?_⟩⟩
      · exact List.getElem?_set_self il
      · simp
      · subst ht
        exact ⟨short2, fun l hl => z l hl (fun z => by cases z)⟩
    · obtain ⟨q, hq, rfl⟩ := xAll_in z
      exact .inr ⟨ap q hq, b D σ H _ dx il z⟩
  | @lst xc fl no C fI st0 fd j p1 p2 p3 p4 p5 p6 p7 hds l ht ec gx d ap r ih =>
    obtain ⟨l', a, b⟩ := ih
    refine ⟨(.ref C, _) :: l', .cons ⟨gx, d, .inl ec.gC⟩ (fun a oe cls d pn hz hf => pss_one (ps_ret (pe_lsN (pa_cons pe_str (pa_cons (pe_xf ec.xf ec.no hz hf (pe_var hi (.inl hl) d3 d4)) pa_nil))))) a, fun D σ H cls dx il z => ?_⟩
    rcases z with ⟨rfl, aa, v, rfl, ha, z⟩ | z
    · refine .inl ⟨ec.te, fun b hb => ⟨.ref b, ?_, rfl, rfl, aa, _, v, rfl, ha, ?_, ?_⟩⟩
      · exact List.getElem?_set_self il
      · simp
      · subst ht
        exact ⟨short2, fun l hl nl => z l hl (fun _ => nl)⟩
    · obtain ⟨q, hq, rfl⟩ := xAll_in z
      exact .inr ⟨ap q hq, b D σ H _ dx il z⟩
/-- .. with the value told in a tuple -/
def TToldA (tp : Bool) (hs : List Hd3) (yes : Str) : (XK → Hp → VK → Prop) → Hp → VK → Prop := fun tl H Q =>
  ∃ K : VK, tl (xAll tp Q hs) H K ∧ ∀ v H', K v H' → ∀ l, H' l = none → Q (.ref l) (upd H' l (.tup [.str yes, v]))
end
end Ld

namespace Ld
open PySem PySem.Spec PyProof.Rows L2
open Lw hiding Dv DvAll FreshB tData tDatas pd_int pd_bl pd_non pd_str pd_neg pd_pow pda_nil pda_cons pd_tup pd_lst pd_dct dv_cut dv_cat tup_at rRepr call_repr rIsD call_isD
/-! ### told: try: call(); except C as e: return [no, e.field]; ..; return [yes] -/
def TToldB (tp : Bool) (hs : List Hd3) (yes : Str) : (XK → Hp → VK → Prop) → Hp → VK → Prop := fun tl H Q =>
  ∃ K : VK, tl (xAll tp Q hs) H K ∧ ∀ v H', K v H' → ∀ l, H' l = none → l ≠ sysModules → Q (.ref l) (upd H' l (.lst [.str yes]))
def mkP (tp : Bool) (xs : List PyData) : PyData := match tp with
  | true => .tuple xs
  | false => .list xs
abbrev Hc3 := Str × Str × Str
def toldX (tp : Bool) (R : RD) : List Hc3 → XD
  | [] => fun _ => False
  | p :: r => fun x => (∃ d, x = (p.1, [(p.2.1, d)]) ∧ R (mkP tp [.str p.2.2, d])) ∨ toldX tp R r x
def dToldA (tp : Bool) (cs : List Hc3) (yes : Str) (t : TD) : TD := fun ρ R _ => t ρ (fun d => R (.tuple [.str yes, d])) (toldX tp R cs)
def dToldB (tp : Bool) (cs : List Hc3) (yes : Str) (t : TD) : TD := fun ρ R _ => t ρ (fun _ => R (.list [.str yes])) (toldX tp R cs)
inductive HsC (mg : Str → Option Value) : List Hd3 → List Hc3 → Prop
  | nil : HsC mg [] []
  | cons {C : Addr} {c fl no : Str} {hs : List Hd3} {cs : List Hc3} (h : mg c = some (.ref C)) (r : HsC mg hs cs) : HsC mg ((C, fl, no) :: hs) ((c, fl, no) :: cs)
section
variable {Sy : Md} {X : Cx} {E : L2.St → XK} {e : Expr} {t : TD}
end
end Ld

namespace Ld
open PySem PySem.Spec PyProof.Rows L2
end Ld

namespace Ld
open PySem PySem.Spec PyProof.Rows L2
open Lw hiding Dv DvAll FreshB tData tDatas pd_int pd_bl pd_non pd_str pd_neg pd_pow pda_nil pda_cons pd_tup pd_lst pd_dct dv_cut dv_cat tup_at rRepr call_repr rIsD call_isD
/-! ### the end of a law that makes lambdas in several defs -/
abbrev Mks := List (Addr × Addr × Str)
def tabsOf (cs : Mks) : List (Addr × Str) := cs.map fun c => c.2
section
variable {P : Program} {w : World} {K : PySem.W.Frag} {mg mb : Str → Option Value} {k : Nat} {fa a : Addr} {s : Shared} {vs : List Value} {ns : List Int} {cs : Mks} {Ps : List Addr}
open Classical in
noncomputable def scriptN (K : PySem.W.Frag) (a : Addr) (Ps : List Addr) (vs : List Value) (ns : List Int) : Hp := fun b =>
  if b ∈ Ps then some (.tbl #[]) else scriptH K a vs ns b
end
end Ld

namespace Ld
end Ld
namespace Ld
open PySem
end Ld

namespace Ld
open PySem PySem.Spec PyProof.Rows L2 StX
open Lw hiding Dv DvAll FreshB tData tDatas pd_int pd_bl pd_non pd_str pd_neg pd_pow pda_nil pda_cons pd_tup pd_lst pd_dct dv_cut dv_cat tup_at rRepr call_repr rIsD call_isD
/-! ### bits -/
abbrev fAnd := fInt0 fun i j => Builtin.bitAnd i j
abbrev fXor := fInt0 fun i j => Builtin.bitXor i j
abbrev fShr := fInt (fun i j => i / 2 ^ j.toNat) fun _ j => 0 ≤ j
/-! ### displays with stars -/
/-- a row of arguments of any length -/
def LAS (Sy : Md) (X : Cx) (E : L2.St → XK) (t : TAD) : TA := fun σ H Q => ∃ (w : Wx) (N : Bn) (O : Nat → Option Addr) (F : List (V × PyData)) (ρ : Env) (R : List Sv → Prop) (Ex : XD), EnvR (gnd Sy X) w N O F H σ ρ ∧ t ρ R Ex ∧
  (∀ us vs H', R us → Stp w H H' → SvsR w N H' vs us → Q vs H') ∧ (∀ x cls dx H', Ex x → Stp w H H' → ExAt X.mg N H' cls dx x → E σ cls dx H')
def dStar (t : TD) (r : TAD) : TAD := fun ρ R Ex => t ρ (fun d => match d with
  | .tuple ds => r ρ (fun us => R (ds.map Sv.dat ++ us)) Ex
  | .list ds => r ρ (fun us => R (ds.map Sv.dat ++ us)) Ex
  | _ => False) Ex
def dTupS (tr : TAD) : TD := dCB (fun ds R => ds.length ≤ 16000000 ∧ R (.tuple ds)) tr
def dLstS (tr : TAD) : TD := dCB (fun ds R => ds.length ≤ 16000000 ∧ R (.list ds)) tr
section
variable {Sy : Md} {X : Cx} {E : L2.St → XK} {e : Expr} {es : List Expr} {pos p : Pos} {ta : TD} {tr : TAD} {n x1 : Nat}
end
end Ld

namespace Ld
open PySem PySem.Spec PyProof.Rows L2 StX
open Lw hiding Dv DvAll FreshB tData tDatas pd_int pd_bl pd_non pd_str pd_neg pd_pow pda_nil pda_cons pd_tup pd_lst pd_dct dv_cut dv_cat tup_at rRepr call_repr rIsD call_isD
/-! ### x in a tuple or list of flat values -/
def vOf : PyData → V
  | .int i => .int i
  | .str x => .str x
  | .bool b => .bl b
  | _ => .non
def flatD : PyData → Bool
  | .int _ => true
  | .str _ => true
  | .bool _ => true
  | .none => true
  | _ => false
def fInF (neg : Bool) : PyData → PyData → (Bool → Prop) → Prop := fun x y Q => match y with
  | .tuple ds => flatD x = true ∧ ds.all flatD = true ∧ Q (if neg then !inV (vOf x) (ds.map vOf) else inV (vOf x) (ds.map vOf))
  | .list ds => flatD x = true ∧ ds.all flatD = true ∧ Q (if neg then !inV (vOf x) (ds.map vOf) else inV (vOf x) (ds.map vOf))
  | _ => False
section
variable {Sy : Md} {X : Cx} {N : Bn} {H : Hp}
end
end Ld
namespace Ld
open PySem PySem.Spec PyProof.Rows L2 StX
open Lw hiding Dv DvAll FreshB tData tDatas pd_int pd_bl pd_non pd_str pd_neg pd_pow pda_nil pda_cons pd_tup pd_lst pd_dct dv_cut dv_cat tup_at rRepr call_repr rIsD call_isD
/-! ### a walk over a list or a tuple -/
def iSq (K : PySem.W.Frag) (tl : TE) : TI := fun σ H R => tl σ H fun x H1 => ∃ a, x = .ref a ∧ (((∃ xs, SqL K H1 a xs) ∧ R (Itl K a) H1) ∨ ((∃ xs, SqT K H1 a xs) ∧ R (Itt K a) H1))
def iSqD (t : TD) : ID := fun ρ R Ex => t ρ (fun d => match d with
  | .list ds => R ds
  | .tuple ds => R ds
  | _ => False) Ex
section
variable {Sy : Md} {X : Cx} {E : L2.St → XK} {tg l : Expr} {t : TD}
end
end Ld
namespace Ld
open PySem PySem.Spec PyProof.Rows L2 StX
open Lw hiding Dv DvAll FreshB tData tDatas pd_int pd_bl pd_non pd_str pd_neg pd_pow pda_nil pda_cons pd_tup pd_lst pd_dct dv_cut dv_cat tup_at rRepr call_repr rIsD call_isD
section
variable {X : Cx} {E : L2.St → XK} {st : Stmt} {wi wi1 : TI} {ti ti1 : ID} {g g1 : TG} {gd gd1 : GD} {tt tt1 : TTD} {te : TD} {sl vs sl1 vs1 : List Nat} {Tz : List (Addr × Str)} {mz : Bool}
end
end Ld
namespace Ld
open PySem PySem.Spec PyProof.Rows L2 StX
open Lw hiding Dv DvAll FreshB tData tDatas pd_int pd_bl pd_non pd_str pd_neg pd_pow pda_nil pda_cons pd_tup pd_lst pd_dct dv_cut dv_cat tup_at rRepr call_repr rIsD call_isD
/-- a < b < c, tested -/
def dChainT (f g : PyData → PyData → (Bool → Prop) → Prop) (ta tb tc : TD) : TTD := fun ρ R Ex => ta ρ (fun x => tb ρ (fun y => f x y fun b => if b = true then tc ρ (fun z => g y z R) Ex else R false) Ex) Ex
section
variable {Sy : Md} {X : Cx} {E : L2.St → XK} {e : Expr} {ta tb tc : TD}
end
end Ld

namespace Ld
open PySem PySem.Spec PyProof.Rows L2
open Lw hiding Dv DvAll FreshB tData tDatas pd_int pd_bl pd_non pd_str pd_neg pd_pow pda_nil pda_cons pd_tup pd_lst pd_dct dv_cut dv_cat tup_at rRepr call_repr rIsD call_isD
/-! ### x, k = [], 48 : a list of the def's own beside a number -/
def sOwnC (i j : Nat) (z : Int) : TSD := fun D ρ => D.nx (putD (putD ρ i (some (.own []))) j (some (.dat (.int z))))
section
variable {Sy : Md} {X : Cx} {E : L2.St → XK} {st : Stmt} {i j : Nat} {z : Int}
end
end Ld

namespace Ld
open PySem PySem.Spec PyProof.Rows L2
open Lw hiding Dv DvAll FreshB tData tDatas pd_int pd_bl pd_non pd_str pd_neg pd_pow pda_nil pda_cons pd_tup pd_lst pd_dct dv_cut dv_cat tup_at rRepr call_repr rIsD call_isD
/-! ### text.find(sign, k) -/
def dFind (c : Nat) (ta tb : TD) : TD := fun ρ R Ex => ta ρ (fun x => match x with
  | .str a => tb ρ (fun y => match y with
    | .int i => R (.int (Txt.find3 a ⟨#[c]⟩ i))
    | _ => False) Ex
  | _ => False) Ex
section
variable {Sy : Md} {X : Cx} {E : L2.St → XK} {e : Expr} {ta tb : TD} {c : Nat} {z : Str}
def repS (a : Str) (k : Int) : Str := { cps := List.foldl (fun x1 x2 => x1 ++ x2) #[] (List.replicate k.toNat a.cps) }
def fRepS : PyData → PyData → RD → Prop := fun x y R => match x, y with
  | .str a, .int k => (2 ≤ k ∧ k ≤ 1000 ∧ 1 ≤ a.length ∧ a.length ≤ 1000) ∧ R (.str (repS a k))
  | _, _ => False
def rRepS : R2 := fun x y H Q => ∃ (a : Str) (k : Int), x = .str a ∧ y = .int k ∧ (2 ≤ k ∧ k ≤ 1000 ∧ 1 ≤ a.length ∧ a.length ≤ 1000) ∧ Q (.str (repS a k)) H
end
/-! ### texts of data with a dict and no list -/
mutual
def noK : PyData → Bool
  | .list _ => false
  | .tuple ds => noKs ds
  | _ => true
def noKs : List PyData → Bool
  | [] => true
  | d :: r => noK d && noKs r
end
section
variable {X : Cx} {pins : List (Addr × Obj)} {σ : L2.St} {H : Hp} {s : Shared}
mutual
theorem Dv.readsK (I : Inv X pins σ H s) {N : Bn} (hK : N.K = X.K) : ∀ (d : PyData) (v : V) (u : Value), noX d = true → noK d = true → Dv N H v d → RelV v u → ∃ as, Reads s.heap u d as ∧ ∀ a ∈ as, a ≠ sysModules
  | .none, _, _, _, _, h, r => by
    cases h
    cases r
    exact ⟨_, Reads.none, fun _ z => nomatch z⟩
  | .bool b, _, _, _, _, h, r => by
    cases h
    cases r
    exact ⟨_, Reads.bool b, fun _ z => nomatch z⟩
  | .int i, _, _, _, _, h, r => by
    cases h
    obtain ⟨t, rfl⟩ := r
    exact ⟨_, Reads.int i t, fun _ z => nomatch z⟩
  | .str x, _, _, _, _, h, r => by
    cases h
    obtain ⟨t, rfl⟩ := r
    exact ⟨_, Reads.str x t, fun _ z => nomatch z⟩
  | .list ds, _, _, _, nk, _, _ => by cases nk
  | .tuple ds, _, _, nx, nk, h, r => by
    cases h with
    | tup e ha =>
      cases r
      obtain ⟨its, rv, ⟨o, ho, hc, k, hd⟩, z⟩ := I.tuple (hK ▸ e.sq)
      obtain ⟨as, hr, na⟩ := DvAll.readsK I hK ds _ its (by unfold noX at nx; exact nx) nk ha rv
      exact ⟨_, Reads.tuple ho hc hd hr, na⟩
  | .dict _, _, _, nx, _, h, r => by
    cases h with
    | exn => unfold noX at nx; cases nx
    | exn0 => unfold noX at nx; cases nx
    | dct n e =>
      cases r
      obtain ⟨z, nsys, vs, rv, o, es, ep, ho, hex, hdat, hkey, hes, _⟩ := (show ObjOk X.prog X.w H s.heap _ (.dK []) from I.hok _ _ e)
      cases rv
      have he : es.toList = [] := by
        revert hes
        generalize es.toList = l
        intro hes
        cases hes
        rfl
      refine ⟨_, Reads.dict ho hex.1 hdat (as := []) (bs := []) ?_ ?_, fun b hb => ?_⟩
      · rw [he]
        exact .nil
      · rw [he]
        exact .nil
      · simp at hb
        subst hb
        intro z
        rw [z] at nsys
        cases nsys
theorem DvAll.readsK (I : Inv X pins σ H s) {N : Bn} (hK : N.K = X.K) : ∀ (ds : List PyData) (vs : List V) (us : List Value), noXs ds = true → noKs ds = true → DvAll N H vs ds → Vals vs us → ∃ as, ReadsAll s.heap us ds as ∧ ∀ a ∈ as, a ≠ sysModules
  | [], _, _, _, _, h, r => by
    cases h
    cases r
    exact ⟨_, .nil, fun _ z => nomatch z⟩
  | d :: ds, _, _, nx, nk, h, r => by
    cases h with
    | cons h1 h2 =>
      cases r with
      | cons r1 r2 =>
        obtain ⟨n1, n2⟩ := Bool.and_eq_true_iff.mp (show (noK d && noKs ds) = true from nk)
        obtain ⟨as, q1, m1⟩ := Dv.readsK I hK d _ _ (noXs_cons nx).1 n1 h1 r1
        obtain ⟨bs, q2, m2⟩ := DvAll.readsK I hK ds _ _ (noXs_cons nx).2 n2 h2 r2
        refine ⟨_, .cons q1 q2, fun b hb => ?_⟩
        rcases List.mem_append.mp hb with hb | hb
        · exact m1 b hb
        · exact m2 b hb
end
end
def rReprK (K : PySem.W.Frag) : List V → Hp → VK → Prop := fun xs H Q => ∃ (N : Bn) (v : V) (d : PyData), N.K = K ∧ xs = [v] ∧ Dv N H v d ∧ shows d ∧ (d.hasDict = false ∨ noK d = true) ∧ Q (.str d.shown) H
def fReprK : List PyData → RD → Prop := fun ds R => match ds with
  | [d] => (d.hasDict = false ∨ noK d = true) ∧ shows d ∧ R (.str d.shown)
  | _ => False
theorem e_reprK {d : PyData} {R : RD} : fReprK [d] R = ((d.hasDict = false ∨ noK d = true) ∧ shows d ∧ R (.str d.shown)) := rfl
end Ld
namespace Ld
open PySem PySem.Spec PyProof.Rows L2
open Lw hiding Dv DvAll FreshB tData tDatas pd_int pd_bl pd_non pd_str pd_neg pd_pow pda_nil pda_cons pd_tup pd_lst pd_dct dv_cut dv_cat tup_at rRepr call_repr rIsD call_isD
/-! ### a call with no arguments -/
section
variable {X : Cx} {CX : CXT} {g : Bool} {k j : Nat} {x : Str} {sp : Sp} {p pos : Pos} {Sy : Md} {E : L2.St → XK} {e : Expr} {tf : TF}
end
/-! ### a walk over a text -/
def iTx (t : TD) : ID := fun ρ R Ex => t ρ (fun d => match d with
  | .str x => R (signsD (tl' x))
  | _ => False) Ex
section
variable {Sy : Md} {X : Cx} {E : L2.St → XK} {t : TD}
end
/-! ### a, b, x, k = "..", "..", [], 0 -/
def sOwnSS (i j l m : Nat) (a b : Str) (z : Int) : TSD := fun D ρ => D.nx (putD (putD (putD (putD ρ i (some (.dat (.str a)))) j (some (.dat (.str b)))) l (some (.own []))) m (some (.dat (.int z))))
section
variable {Sy : Md} {X : Cx} {E : L2.St → XK} {st : Stmt} {i j l m : Nat} {a b : Str} {z : Int}
end
end Ld
namespace Ld
open PySem PySem.Spec PyProof.Rows L2 Lw
/-! ### a long comprehension -/
def dLcB (ti : ID) (sl : List Nat) (gd : GD) (tt : TTD) (te : TD) : TD := fun ρ R Ex => ti ρ (fun ds => ds.length ≤ 1000000 ∧ lcD gd tt te (wipeD ρ sl) ds (fun ys => R (.list ys))) Ex
section
variable {Sy : Md} {X Y : Cx} {E : L2.St → XK} {e : Expr} {st : Stmt} {wi : TI} {ti : ID} {g : TG} {gd : GD} {tt : TTD} {te : TD} {sl vs : List Nat}
end
end Ld

namespace Ld
open PySem PySem.Spec PyProof.Rows L2 Lw
/-! ### comprehensions whose list is used at once -/
section
variable {Sy : Md} {X Y : Cx} {E : L2.St → XK} {e : Expr} {st : Stmt} {wi : TI} {ti : ID} {g : TG} {gd : GD} {tt : TTD} {te : TD} {sl vs : List Nat}
theorem lc_gen {RL : List PyData → Prop} {w : Wx} {N : Bn} {O : Nat → Option Addr} {F : Keep} {ρ : Env} {σ : L2.St} {H : Hp} {Ex : XD} {Q : VK} (hb : gnd Sy Y = gnd Sy X) (hi : IOk Sy X E wi ti) (hg : GOk X.K g gd sl) (hs : ∀ i ∈ sl, i ∈ vs) (en : EnvR (gnd Sy X) w N O F H σ ρ) (h : ti ρ (fun ds => ds.length ≤ 1000000 ∧ lcD gd tt te (wipeD ρ vs) ds RL) Ex)
    (q : ∀ D acc accD H', RL accD → Stp w H H' → ¬ w.has D → EnvR (gnd Sy X) w (Bn.add N D) O F H' σ ρ → H' D = some (.lst acc) → DvAll (Bn.add N D) H' acc accD → Q (.ref D) H') (qx : ∀ x cls dx H', Ex x → Stp w H H' → ExAt X.mg N H' cls dx x → E σ cls dx H') : tLc wi g (LT Sy Y EX0 tt) (LE Sy Y EX0 te) vs σ H Q := by
  refine hi.run w N O F ρ σ H _ Ex _ en h (fun ds J G H1 r s hG fd => ?_) qx
  intro D hD
  obtain ⟨hlen, r⟩ := r
  have en1 := en.step s
  have enG : EnvR (gnd Sy X) w N O (G ++ F) H1 σ ρ := ⟨en1.ok, en1.len, en1.slot, en1.inj, en1.ow, fun p hp => (List.mem_append.mp hp).elim (hG p) (en1.kept p)⟩
  have hw : ¬ w.has D := en1.ok.new hD
  have ho : ∀ i, O i ≠ some D := fun i z => by
    obtain ⟨_, _, u, z2⟩ := en1.ow i D z
    rw [hD] at z2
    cases z2
  -- the invariant
  refine ⟨fun i m H => i + m = ds.length ∧ ∃ acc accD, Stp w H1 H ∧ EnvR (gnd Sy X) w (Bn.add N D) O (G ++ F) H σ ρ ∧ H D = some (.lst acc) ∧ DvAll (Bn.add N D) H acc accD ∧ accD.length ≤ i ∧ lcD gd tt te (wipeD ρ vs) (ds.drop i) (fun ys => RL (accD ++ ys)), ⟨ds.length, by omega, [], [], .of (same_new hD _), enG.ban hD, upd_same, .nil, Nat.le_refl 0, by rw [List.drop_zero]; exact r⟩, ?_⟩
  rintro i m H ⟨im, acc, accD, st1, en2, eD, all, al, h⟩
  have live : ∀ p ∈ G, Dv (Bn.add N D) H p.1 p.2 := fun p hp => en2.kept p (List.mem_append_left _ hp)
  cases e : ds.drop i with
  | nil =>
    rw [e] at h
    have ei := drop_end (by omega) e
    subst ei
    refine .inl ⟨fd.stop (Bn.add N D) H en1.ok.kk live, ?_⟩
    have h' : RL accD := by
      have : RL (accD ++ []) := h
      rwa [List.append_nil] at this
    exact q D acc accD H h' (s.trans st1) hw ⟨en2.ok, en2.len, en2.slot, en2.inj, en2.ow, fun p hp => en2.kept p (List.mem_append_right _ hp)⟩ eD all
  | cons d rest =>
    rw [e] at h
    obtain ⟨e1, e2⟩ := drop_get e
    have il := (List.getElem?_eq_some_iff.mp e1).1
    obtain ⟨g1, g2⟩ := fd.go (Bn.add N D) H i d en1.ok.kk live e1
    refine .inr ⟨g1, _, fun H' z => z, fun x H' hy => ?_⟩
    obtain ⟨s2, dx⟩ := g2 x H' hy
    have s2' : Stp w H H' := .of s2
    have en3 := en2.step s2'
    refine hg.run (gnd Sy X) w (Bn.add N D) O (G ++ F) H' (wipe σ vs) (wipeD ρ vs) x d _ _ rfl (en3.wipe vs) dx h fun O' σ' ρ' hb2 b3 wp _ => ?_
    refine ⟨(wp vs hs).trans (wipe_wipe σ vs vs fun _ z => z), ?_⟩
    refine ⟨w, _, O', G ++ F, ρ', _, _, hb ▸ b3, hb2, fun b H2 hb4 k2 => ?_, fun _ _ _ _ z => z.elim⟩
    have eD2 : H2 D = some (.lst acc) := k2.kp _ _ hw lst_ne (s2'.kp _ _ hw lst_ne eD)
    have all2 : DvAll (Bn.add N D) H2 acc accD := dvs_step (dvs_step all en2.hw s2') en2.hw k2
    have en4 := en3.step k2
    have st2 := (st1.trans s2').trans k2
    cases b with
    | false =>
      exact ⟨m - 1, by omega, by omega, acc, accD, st2, en4, eD2, all2, by omega, by rw [e2]; exact hb4⟩
    | true =>
      refine ⟨w, _, O', G ++ F, ρ', _, _, hb ▸ (b3.step k2), hb4, fun y u H3 hb5 k3 dy => ?_, fun _ _ _ _ z => z.elim⟩
      have eD3 := k3.kp _ _ hw lst_ne eD2
      refine ⟨acc, eD3, by rw [all.length, sizeLine_eq]; omega, m - 1, by omega, by omega, acc ++ [u], accD ++ [y], stp_new (st2.trans k3) (fun u q => by rw [hD] at q; cases q) hw ⟨_, eD3⟩, (en4.step k3).poke (.inr rfl) hw ho eD3, upd_same, ?_, by simp; omega, ?_⟩
      · exact (dvs_poke (dvs_step all2 en2.hw k3) (.inr rfl) eD3).app (.cons (dv_poke dy (.inr rfl) eD3) .nil)
      · rw [e2]
        have : (fun ys => RL (accD ++ y :: ys)) = fun ys => RL (accD ++ [y] ++ ys) := by
          funext ys
          simp
        rw [← this]
        exact hb5

def dUseC (f : List PyData → RD → Prop) (ti : ID) (sl : List Nat) (gd : GD) (tt : TTD) (te : TD) : TD := fun ρ R Ex => ti ρ (fun ds => ds.length ≤ 1000000 ∧ lcD gd tt te (wipeD ρ sl) ds (fun ys => f [.list ys] (fun d => noL d = true ∧ R d))) Ex
theorem d_useC {r : List V → Hp → VK → Prop} {f : List PyData → RD → Prop} {T : List (Addr × Str)} (hi : IOk Sy X E wi ti) (hg : GOk X.K g gd sl) (h : PE X e (tCB r (tCons (tLc wi g (LT Sy X EX0 tt) (LE Sy X EX0 te) vs) tNil))) (o : CallD ⟨false, T, false⟩ X r f) (hs : ∀ i ∈ sl, i ∈ vs := by decide) : PE X e (LE Sy X E (dUseC f ti vs gd tt te)) := h.weak fun σ H Q ⟨w, N, O, F, ρ, R, Ex, en, t, q, qx⟩ => by
  show tLc wi g (LT Sy X EX0 tt) (LE Sy X EX0 te) vs σ H (fun x H1 => r [x] H1 Q)
  refine lc_gen (Y := X) rfl hi hg hs en t (fun D acc accD H' hr s hw en2 eD all => ?_) qx
  let N2 : Bn := ⟨N.K, fun b => N b ∧ b ≠ D ∧ b ≠ sysModules⟩
  have el : DvAll N2 H' acc accD := DvAll.map (N := Bn.add N D) (N' := N2) rfl (fun b u n q => ⟨q, fun z => n (.inl z.1)⟩) (fun _ _ q => q) _ _ all
  have fr : FreshB N2 H' := fun p hp np z => en2.ok.fr p hp np (.inl z.1)
  refine o N2 H' [.ref D] [.list accD] _ Q hr (.cons (.lst (fun z => z.2.1 rfl) eD el) .nil) fr (fun z => nomatch z) en.ok.kk (fun _ p hp z => en2.ok.fr p hp z.2.2 (.inl z.1)) fun d z H2 hd s2 dz => ?_
  exact q d z H2 hd.2 (s.trans (.of s2)) (dv_noL (N := N) (N' := N2) rfl d z hd.1 dz)
/-- a, b, c = [..] -/
def sAsgC (n : Nat) (gs : GsD) (ti : ID) (sl : List Nat) (gd : GD) (tt : TTD) (te : TD) : TSD := fun D ρ => ti ρ (fun ds => ds.length ≤ 1000000 ∧ lcD gd tt te (wipeD ρ sl) ds (fun ys => lenK ys n (gs ys ρ D.nx))) (D.ex ρ)
end
/-! ### calls of defs of the common mode -/
def dCallM (tf : TF) (ta : TAD) : TD := fun ρ R Ex => ta ρ (fun us => tf us (fun d => noL d = true ∧ R d) (fun x => noLx x = true ∧ Ex x)) Ex
section
variable {Sy : Md} {X : Cx} {E : L2.St → XK} {e : Expr} {tr : TAD} {tf : TF} {n : Nat}
theorem svs_less {w : Wx} {N N' : Bn} {H : Hp} (hK : N.K = N'.K) (k : ∀ b, N' b → N b) : ∀ {vs : List V} {us : List Sv}, SvsR w N H vs us → SvsR w N' H vs us
  | [], [], _ => trivial
  | v :: vs, u :: us, h => ⟨by
    cases u with
    | dat d => exact Dv.less h.1 hK.symm k
    | own ds => exact h.1.elim
    | well => exact h.1
    | fn x =>
      obtain ⟨f, h1, h2⟩ := h.1
      exact ⟨f, hK ▸ h1, h2⟩, svs_less hK k h.2⟩
  | [], _ :: _, h => h.elim
  | _ :: _, [], h => h.elim
def noSys (w : Wx) (N : Bn) : Bn := ⟨N.K, fun b => N b ∧ (b ≠ sysModules ∨ ∃ q ∈ w.T, q.1 = b)⟩
theorem WlOk.noSys {w : Wx} {N : Bn} {H : Hp} (a : WlOk (gnd Sy X) w N H) : WlOk ⟨X.base, X.K, ⟨false, Sy.T, false⟩⟩ w (Ld.noSys w N) H := by
  refine ⟨fun p e => ?_, fun p hp np z => a.fr p hp np z.1, fun z => (nomatch z), fun _ p hp z => ?_, a.kk, fun p hp => ⟨a.tn p hp, .inr ⟨p, hp, rfl⟩⟩, a.tb, a.tt, fun p ps hp c _ z => ?_⟩
  · obtain ⟨h1, h2, h3⟩ := a.wl p e
    exact ⟨⟨h1, .inl h2⟩, h2, h3⟩
  · rcases z.2 with n | ⟨q, hq, e⟩
    · exact a.fr p hp n z.1
    · obtain ⟨ps, t, _⟩ := a.tb q hq
      rw [e, hp] at t
      cases t
  · rcases z.2 with n | ⟨q, hq, e⟩
    · exact a.to p ps hp c (.inl n) z.1
    · exact c (.inr ⟨q, hq, e⟩)
theorem d_callM (h : PE X e (fun σ H Q => LA Sy X E n tr σ H fun vs H1 => spF ⟨X.base, X.K, ⟨false, Sy.T, false⟩⟩ X.mg n tf vs H1 Q (E σ))) : PE X e (LE Sy X E (dCallM tf tr)) := h.weak fun σ H Q ⟨w, N, O, F, ρ, R, Ex, en, t, q, qx⟩ => by
  refine ⟨w, N, O, F, ρ, _, Ex, en, t, fun us vs H1 hl r1 k1 hv => ?_, qx⟩
  have en1 := en.step k1
  refine ⟨w, noSys w N, us, _, _, hl, svs_less (N := N) (N' := noSys w N) rfl (fun _ z => z.1) hv, en1.ok.noSys, r1, fun d v H' hr k dv => ?_, fun x cls dx H' hx k hh => ?_⟩
  · exact q d v H' hr.2 (k1.trans k) (dv_noL (N := N) (N' := noSys w N) rfl d v hr.1 dv)
  · exact qx x cls dx H' hx.2 (k1.trans k) (ex_noL (N := N) (N' := noSys w N) rfl hx.1 hh)
theorem bd_reprD {y : Bool} {Tz : List (Addr × Str)} : CallD ⟨y, Tz, true⟩ X (rRepr X.K) fReprS := fun N H vs ds R Q h dv fr sn hK sl q => by
  unfold fReprS at h
  split at h
  · cases dv with
    | cons a b =>
      cases b
      exact ⟨N, _, _, hK, rfl, a, h.1.1, ⟨h.1.2.1, h.1.2.2.1, h.1.2.2.2, fun _ => sn rfl⟩, q _ _ H h.2 (.refl _) (.str _)⟩
  · exact h.elim
end
end Ld

namespace Ld
open PySem PySem.Spec PyProof.Rows L2 Lw
open Lw hiding Dv DvAll FreshB tData tDatas pd_int pd_bl pd_non pd_str pd_neg pd_pow pda_nil pda_cons pd_tup pd_lst pd_dct dv_cut dv_cat tup_at rRepr call_repr rIsD call_isD
/-! ### new lists are not the modules' own dict: sums of lists and parts of lists -/
section
variable {X : Cx} {Sy : Md}
theorem big_ne {pins : List (Addr × Obj)} {σ : L2.St} {H : Hp} {s : Shared} (I : Inv X pins σ H s) : s.heap.objs.size ≠ sysModules := fun e => Nat.lt_irrefl _ (e ▸ I.big)
def rCatZ : R2 := fun x y H Q => ∃ l b xs zs, x = .ref l ∧ y = .ref b ∧ H l = some (.lst xs) ∧ H b = some (.lst zs) ∧ xs.length + zs.length ≤ sizeLine ∧ ∀ p, H p = none → p ≠ sysModules → Q (.ref p) (upd H p (.lst (xs ++ zs)))
theorem op_catZ : OpR X (binaryOp .Add) rCatZ := fun pins s σ H x y v u Q I rx ry ⟨l, b, xs, zs, ex, ey, hl, hb, hz, q⟩ => by
  subst ex ey
  cases rx
  cases ry
  obtain ⟨_, as, _, ra, na, ea⟩ := I.lstM hl
  obtain ⟨_, bs, _, rb, nb, eb⟩ := I.lstM hb
  refine PySem.P.add_list ea eb ?_ (by simp only [List.size_toArray]; omega)
  rw [show as.toArray ++ bs.toArray = (as ++ bs).toArray by simp]
  have n := big_ne I
  exact ⟨.ref _, _, I.lnew (t' := s.toks) (ra.append rb) (by simpa using hz), rfl, q _ I.fresh n⟩
def rSlZ (K : PySem.W.Frag) : V → Option Int → Option Int → Hp → VK → Prop := fun x lo hi H Q => ∃ a xs, x = .ref a ∧ SqL K H a xs ∧ ∀ p, H p = none → p ≠ sysModules → Q (.ref p) (upd H p (.lst (cutV xs lo hi)))
theorem sl_listZ : SlR X (rSlZ X.K) := fun pins s σ H x v vl vu lo hi sl Q I rx hs pl pu ⟨a, xs, ex, hx, q⟩ => by
  subst ex
  cases rx
  obtain ⟨as, r, ht, hz⟩ := I.list hx
  have n := big_ne I
  have len := r.length
  refine ⟨"list", _, slot_list_getitem.lookup, ht.isList.typeIs, wpAny_getItem_list_slice ht.isList hs pl pu .none (by simp) ?_ (by simp only [List.size_toArray]; omega)⟩
  rw [slicePick_cut, ← len]
  refine ⟨.ref _, _, I.laid (t' := s.toks) (o := .lst (cutV xs lo hi)) (fun _ _ q => Heap.get?_push_of_some _ q) (Nat.le_refl _) ⟨Nat.le_trans (cutV_length xs lo hi) hz, _, 0, ?_, Heap.get?_push_size _ rfl⟩, rfl, q _ (I.hok.fresh (Nat.le_refl _)) n⟩
  exact (r.drop _).take _
abbrev rAddZ (K : PySem.W.Frag) : R2 := fun x y H Q => rI0 (fun i j => .int (i + j)) x y H Q ∨ (rCatA K x y H Q ∨ ((fun x y H Q => ∃ i j, x = V.str i ∧ y = V.str j ∧ i.length + j.length ≤ sizeLine ∧ Q (.str (i ++ j)) H) x y H Q ∨ rCatZ x y H Q))
theorem op_addZ : OpR X (binaryOp .Add) (rAddZ X.K) := op_add.or (op_catA.or (op_add_str.or op_catZ))
theorem od_addZ : OpD Sy X (rAddZ X.K) fAddG := fun N H v u x y R Q h dx dy fr sn hK sl q => by
  unfold fAddG at h
  split at h
  · cases dx
    cases dy
    exact .inl ⟨_, _, rfl, rfl, q _ _ H h (.refl _) (.int _)⟩
  · exact .inr (.inl (hK ▸ dv_cat (N := N) (Q := Q) dx dy h.1 fun z H' s dz => q _ z H' h.2 s dz))
  · cases dx
    cases dy
    exact .inr (.inr (.inl ⟨_, _, rfl, rfl, h.1, q _ _ H h.2 (.refl _) (.str _)⟩))
  · cases dx with
    | lst n1 e1 a1 =>
      cases dy with
      | lst n2 e2 a2 =>
        have l1 := a1.length
        have l2 := a2.length
        refine .inr (.inr (.inr ⟨_, _, _, _, rfl, rfl, e1, e2, by rw [sizeLine_eq]; omega, fun p hp np => ?_⟩))
        exact q _ _ _ h.2 (same_new hp _) (.lst (fr p hp np) upd_same ((a1.app a2).same (same_new hp _)))
  · exact h.elim
abbrev rSlB (K : PySem.W.Frag) : V → Option Int → Option Int → Hp → VK → Prop := fun x lo hi H Q => rSlA K x lo hi H Q ∨ rSlZ K x lo hi H Q
theorem sl_Z : SlR X (rSlB X.K) := sl_tupA.or sl_listZ
variable {E : L2.St → XK} {e : Expr} {ta : TD}
theorem d_slZ {to th : TOD} (h : PE X e (tSl (rSlB X.K) (LE Sy X E ta) (LO Sy X E to) (LO Sy X E th))) : PE X e (LE Sy X E (dSl ta to th)) := h.weak fun σ H Q ⟨w, N, O, F, ρ, R, Ex, en, t, q, qx⟩ => by
  refine ⟨w, N, O, F, ρ, _, Ex, en, t, fun x v H1 r1 k1 dx => ?_, qx⟩
  have en1 := en.step k1
  refine ⟨w, N, O, F, ρ, _, Ex, en1, r1, fun lo H2 r2 k2 => ?_, fun x cls dx H' hx k hh => qx x cls dx H' hx (k1.trans k) hh⟩
  have en2 := en1.step k2
  refine ⟨w, N, O, F, ρ, _, Ex, en2, r2, fun hi H3 r3 k3 => ?_, fun x cls dx H' hx k hh => qx x cls dx H' hx ((k1.trans k2).trans k) hh⟩
  have en3 := en2.step k3
  have dx3 := dv_step dx en.hw (k2.trans k3)
  have k13 := (k1.trans k2).trans k3
  unfold fSl at r3
  split at r3
  · have hK : N.K = X.K := en.ok.kk
    exact .inl (hK ▸ dv_cut (N := N) (Q := Q) dx3 fun u H' s du => q _ u H' r3 (k13.trans (.of s)) du)
  · cases dx3 with
    | lst nn ea all =>
      refine .inr ⟨_, _, rfl, .of ea, fun p hp np => ?_⟩
      refine q _ _ _ r3 (k13.trans (.of (same_new hp _))) (.lst (en3.ok.fr p hp np) upd_same ?_)
      unfold Lw.cutD cutV
      rw [← all.length]
      exact ((all.same (same_new hp _)).drop _).take _
  · exact r3.elim
end
/-! ### the end of a law where lists and dicts stand apart -/
section
variable {P : Program} {w : World} {K : PySem.W.Frag} {mg : Str → Option Value} {base : Heap}
theorem right_endS {k : Nat} {x : Str} {t : TF} {T : List (Addr × Str)} (c : Cl (L2.CX P w) P w K mg base k x (spF ⟨base, K, ⟨true, T, true⟩⟩ mg 1 t)) (ht : ∀ (R : RD) (Ex : XD), R (.bool true) → t [.well] R Ex) : Cl CX0 P w K mg base k x (spRightT T) :=
  c.down fun vs H Q E h => by
    obtain ⟨p, rfl, np, wl, tb, q⟩ := h
    have hp : ∀ a, H a = none → ¬ (a = p ∨ ∃ q ∈ T, q.1 = a) := fun a ha e => by
      rcases e with e | ⟨y, hy, e⟩
      · obtain ⟨x, m, y, z, _⟩ := wl
        rw [e, z] at ha
        cases ha
      · obtain ⟨ps, z, _⟩ := tb y hy
        rw [e, ha] at z
        cases z
    refine ⟨⟨some p, T⟩, ⟨K, fun a => (a = p ∨ ∃ q ∈ T, q.1 = a) ∨ a = sysModules⟩, [.well], fun d => d = .bool true, fun _ => False, rfl, ⟨⟨p, rfl, rfl⟩, trivial⟩, ⟨fun a e => by cases e; exact ⟨.inl (.inl rfl), np, wl⟩, fun a ha ns z => z.elim (hp a ha) ns, fun _ => .inr rfl, fun z => (nomatch z), rfl, fun q hq => .inl (.inr ⟨q, hq, rfl⟩), tb, rfl, fun a ps _ c n z => ?_⟩, ht _ _ rfl, fun d v H' hd s dv => ?_, fun _ _ _ _ z => z.elim⟩
    · rcases z with z | z
      · exact c (z.elim (fun z => .inl (congrArg some z.symm)) fun ⟨q, hq, e⟩ => .inr ⟨q, hq, e⟩)
      · exact n.elim (fun n => n z) (fun n => nomatch n)
    · subst hd
      cases dv
      exact q H' s
end
end Ld

namespace Ld
open PySem PySem.Spec PyProof.Rows L2 Lw
open Lw hiding Dv DvAll FreshB tData tDatas pd_int pd_bl pd_non pd_str pd_neg pd_pow pda_nil pda_cons pd_tup pd_lst pd_dct dv_cut dv_cat tup_at rRepr call_repr rIsD call_isD
/-! ### + - * where one side may be True or False -/
section
variable {X : Cx} {Sy : Md}
def fAddT : PyData → PyData → RD → Prop := fun x y R => match x, y with
  | .int i, .int j => R (.int (i + j))
  | .bool b, .int j => R (.int (bz b + j))
  | _, _ => False
def fSubT : PyData → PyData → RD → Prop := fun x y R => match x, y with
  | .int i, .int j => R (.int (i - j))
  | .bool b, .int j => R (.int (bz b - j))
  | .int i, .bool b => R (.int (i - bz b))
  | _, _ => False
def fMulT : PyData → PyData → RD → Prop := fun x y R => match x, y with
  | .int i, .int j => CMulX i j ∧ R (.int (i * j))
  | .int i, .bool b => R (.int (i * bz b))
  | _, _ => False
abbrev rAddT : R2 := fun x y H Q => rI0 (fun i j => .int (i + j)) x y H Q ∨ (∃ b j, x = .bl b ∧ y = .int j ∧ Q (.int (bz b + j)) H)
abbrev rSubT : R2 := fun x y H Q => rI0 (fun i j => .int (i - j)) x y H Q ∨ ((fun x y H Q => ∃ b j, x = .bl b ∧ y = .int j ∧ Q (.int (bz b - j)) H) x y H Q ∨ (∃ i b, x = .int i ∧ y = .bl b ∧ Q (.int (i - bz b)) H))
abbrev rMulT : R2 := fun x y H Q => rI CMulX (fun i j => .int (i * j)) x y H Q ∨ (∃ i b, x = .int i ∧ y = .bl b ∧ Q (.int (i * bz b)) H)
theorem op_addT : OpR X (binaryOp .Add) rAddT := op_add.or op_addBI
theorem op_subT : OpR X (binaryOp .Sub) rSubT := op_sub.or (op_subBI.or op_subIB)
theorem op_mulT : OpR X (binaryOp .Mult) rMulT := op_mulX.or op_mulIB
theorem od_addT : OpD Sy X rAddT fAddT := fun N H v u x y R Q h dx dy fr sn hK sl q => by
  unfold fAddT at h
  split at h
  · cases dx
    cases dy
    exact .inl ⟨_, _, rfl, rfl, q _ _ H h (.refl _) (.int _)⟩
  · cases dx
    cases dy
    exact .inr ⟨_, _, rfl, rfl, q _ _ H h (.refl _) (.int _)⟩
  · exact h.elim
theorem od_subT : OpD Sy X rSubT fSubT := fun N H v u x y R Q h dx dy fr sn hK sl q => by
  unfold fSubT at h
  split at h
  · cases dx
    cases dy
    exact .inl ⟨_, _, rfl, rfl, q _ _ H h (.refl _) (.int _)⟩
  · cases dx
    cases dy
    exact .inr (.inl ⟨_, _, rfl, rfl, q _ _ H h (.refl _) (.int _)⟩)
  · cases dx
    cases dy
    exact .inr (.inr ⟨_, _, rfl, rfl, q _ _ H h (.refl _) (.int _)⟩)
  · exact h.elim
theorem od_mulT : OpD Sy X rMulT fMulT := fun N H v u x y R Q h dx dy fr sn hK sl q => by
  unfold fMulT at h
  split at h
  · cases dx
    cases dy
    exact .inl ⟨_, _, rfl, rfl, h.1, q _ _ H h.2 (.refl _) (.int _)⟩
  · cases dx
    cases dy
    exact .inr ⟨_, _, rfl, rfl, q _ _ H h (.refl _) (.int _)⟩
  · exact h.elim
theorem e_addII {i j : Int} {R : RD} : fAddT (.int i) (.int j) R = R (.int (i + j)) := rfl
theorem e_addBI {b : Bool} {j : Int} {R : RD} : fAddT (.bool b) (.int j) R = R (.int (bz b + j)) := rfl
theorem e_subII {i j : Int} {R : RD} : fSubT (.int i) (.int j) R = R (.int (i - j)) := rfl
theorem e_subBI {b : Bool} {j : Int} {R : RD} : fSubT (.bool b) (.int j) R = R (.int (bz b - j)) := rfl
theorem e_subIB {b : Bool} {j : Int} {R : RD} : fSubT (.int j) (.bool b) R = R (.int (j - bz b)) := rfl
theorem e_mulII {i j : Int} {R : RD} : fMulT (.int i) (.int j) R = (CMulX i j ∧ R (.int (i * j))) := rfl
theorem e_mulIB {b : Bool} {j : Int} {R : RD} : fMulT (.int j) (.bool b) R = R (.int (j * bz b)) := rfl
end
end Ld

namespace Ld
open PySem PySem.Spec PyProof.Rows L2 Lw
/-! ### in, not in, over a list of data of any depth -/
def fInD (neg : Bool) : PyData → PyData → (Bool → Prop) → Prop := fun x y Q => match y with
  | .list ds => SeqAt.shaped x = true ∧ SeqAt.shaped (.list ds) = true ∧ Q (if neg then !(ds.any fun z => PyData.eqv z x) else ds.any fun z => PyData.eqv z x)
  | _ => False
section
variable {X : Cx}
end
/-! ### l.count(k), ints -/
def intsOf : List PyData → Option (List Int)
  | [] => some []
  | .int i :: r => (intsOf r).map (i :: ·)
  | _ => none
def dCnt (ta tb : TD) : TD := fun ρ R Ex => ta ρ (fun x => match x with
  | .list ds => tb ρ (fun y => match y with
    | .int k => (match intsOf ds with
      | some ns => R (.int (ns.count k : Nat))
      | none => False)
    | _ => False) Ex
  | _ => False) Ex
section
variable {Sy : Md} {X Y : Cx} {E : L2.St → XK} {e : Expr} {st : Stmt} {wi : TI} {ti : ID} {g : TG} {gd : GD} {tt : TTD} {te ta tb : TD} {sl vs : List Nat}
def sSetLcL (i j : Nat) (ti : ID) (sl : List Nat) (gd : GD) (tt : TTD) (te : TD) : TSD := fun D ρ => ownK (slotD ρ i) fun ds => ti (putD ρ i (some (.dat (.list ds)))) (fun xs => xs.length ≤ 1000000 ∧ lcD gd tt te (wipeD (putD ρ i (some (.dat (.list ds)))) sl) xs (fun ys => noLs ys = true ∧ D.nx (putD ρ j (some (.dat (.list ys)))))) (fun x => noLx x = true ∧ D.ex ρ x)
end
end Ld

namespace Ld
open PySem PySem.Spec PyProof.Rows L2
open Lw hiding Dv DvAll FreshB tData tDatas pd_int pd_bl pd_non pd_str pd_neg pd_pow pda_nil pda_cons pd_tup pd_lst pd_dct dv_cut dv_cat tup_at rRepr call_repr rIsD call_isD
/-! ### match over tuples: strings, names and _ in one row -/
/-- an element of a pattern -/
inductive Pe
  | lit (ss : List Str)
  | cap
  | wild
inductive LitsOk : List Pattern → List Str → Prop
  | nil : LitsOk [] []
  | cons {s : Str} {j : Nat} {p q : Pos} {ps : List Pattern} {ss : List Str} (h : LitsOk ps ss) : LitsOk (.MatchValue (.Constant (.str s) j p) q :: ps) (s :: ss)
inductive PeOk : Pattern → Pe → List Str → Prop
  | lit {s : Str} {j : Nat} {p q : Pos} : PeOk (.MatchValue (.Constant (.str s) j p) q) (.lit [s]) []
  | alt {ps : List Pattern} {ss : List Str} {q : Pos} (h : LitsOk ps ss) (hn : namesOfAll (ps.take 1) = []) : PeOk (.MatchOr ps q) (.lit ss) []
  | cap {x : Str} {q : Pos} : PeOk (.MatchAs none (some x) q) .cap [x]
  | wild {q : Pos} : PeOk (.MatchAs none none q) .wild []
inductive PesOk : List Pattern → List Pe → List Str → Prop
  | nil : PesOk [] [] []
  | cons {p : Pattern} {e : Pe} {a : List Str} {ps : List Pattern} {es : List Pe} {b : List Str} (h : PeOk p e a) (hs : p.isStar = false) (t : PesOk ps es b) : PesOk (p :: ps) (e :: es) (a ++ b)
/-- what the values' match tells -/
def vmat : List Pe → List V → (Option (List V) → Prop) → Prop
  | [], [], K => K (some [])
  | .lit ss :: es, .str x :: vs, K => (x ∈ ss → vmat es vs K) ∧ (x ∉ ss → K none)
  | .cap :: es, v :: vs, K => vmat es vs fun o => K (o.map (v :: ·))
  | .wild :: es, _ :: vs, K => vmat es vs K
  | _, _, _ => False
section
variable {X : Cx} {pins : List (Addr × Obj)} {σ : L2.St} {H : Hp}
def Got (names : List Str) (K : Option (List V) → Prop) (r : Option (List (Str × Value))) : Prop := match r with
  | none => K none
  | some bs => ∃ ws, K (some ws) ∧ bs.map (·.1) = names ∧ Vals ws (bs.map (·.2))
def vpat (K : PySem.W.Frag) (H : Hp) : List (List Pe) → V → (Option (List V) → Prop) → Prop
  | [], _, Kk => Kk none
  | es :: r, v, Kk => ∃ a xs, v = .ref a ∧ SqT K H a xs ∧ (xs.length = es.length → vmat es xs (fun o => match o with
    | some b => Kk (some b)
    | none => vpat K H r v Kk)) ∧ (xs.length ≠ es.length → vpat K H r v Kk)
inductive AltsOk : List Pattern → List (List Pe) → Prop
  | nil : AltsOk [] []
  | cons {ps : List Pattern} {es : List Pe} {q : Pos} {pps : List Pattern} {ess : List (List Pe)} (pk : PesOk ps es []) (hst : ps.findIdx? (·.isStar) = none) (hw : (ps.all fun p => p.isWildcard || (p.isStar && p.names.isEmpty)) = false) (t : AltsOk pps ess) : AltsOk (.MatchSequence ps q :: pps) (es :: ess)
inductive PatOk : Pattern → List (List Pe) → List Str → Prop
  | one {ps : List Pattern} {es : List Pe} {names : List Str} {q : Pos} (pk : PesOk ps es names) (hst : ps.findIdx? (·.isStar) = none) (hw : (ps.all fun p => p.isWildcard || (p.isStar && p.names.isEmpty)) = false) : PatOk (.MatchSequence ps q) [es] names
  | alts {ps : List Pattern} {ess : List (List Pe)} {q : Pos} (h : AltsOk ps ess) (hn : namesOfAll (ps.take 1) = []) : PatOk (.MatchOr ps q) ess []
def setAll : L2.St → List Nat → List V → L2.St
  | σ, i :: is, v :: vs => setAll (σ.set i (some v)) is vs
  | σ, _, _ => σ
inductive BindOk (X : Cx) : List Str → List Nat → Prop
  | nil : BindOk X [] []
  | cons {x : Str} {i : Nat} {xs : List Str} {is : List Nat} (hi : X.N[i]? = some x) (hx : Loc X.env.scope x) (t : BindOk X xs is) (hf : X.fn x = true ∨ X.env.scope.names.lookup x = some .local := by first | exact .inl rfl | exact .inr rfl) : BindOk X (x :: xs) (i :: is)
structure VC where
  p : List (List Pe)
  is : List Nat
  t : TS
def vcase (K : PySem.W.Frag) : List VC → V → TS
  | [], _ => fun D σ H => D.nx σ H
  | c :: r, v => fun D σ H => vpat K H c.p v fun o => match o with
    | some vs => c.t D (setAll σ c.is vs) H
    | none => vcase K r v D σ H
inductive CasesOk (X : Cx) : List MatchCase → List VC → Prop
  | nil : CasesOk X [] []
  | cons {p : Pattern} {names : List Str} {body : List Stmt} {rest : List MatchCase} {c : VC} {cs : List VC} (h : PatOk p c.p names) (b : BindOk X names c.is) (hb : PSs X body c.t) (t : CasesOk X rest cs) : CasesOk X (⟨p, none, body⟩ :: rest) (c :: cs)
def tMatch (K : PySem.W.Frag) (te : TE) (cs : List VC) : TS := fun D σ H => te σ H fun v H1 => vcase K cs v D σ H1
end
/-! by data -/
def litK : List Str → Str → Prop → Prop → Prop
  | [], _, _, B => B
  | s :: ss, x, A, B => if decide (x = s) = true then A else litK ss x A B
def lenE {α β : Type} : List α → List β → Prop → Prop → Prop
  | [], [], A, _ => A
  | _ :: xs, _ :: ys, A, B => lenE xs ys A B
  | _, _, _, B => B
def matK : List Pe → List PyData → (Option (List PyData) → Prop) → Prop
  | [], [], K => K (some [])
  | .lit ss :: es, .str x :: ds, K => litK ss x (matK es ds K) (K none)
  | .cap :: es, d :: ds, K => matK es ds fun o => K (o.map (d :: ·))
  | .wild :: es, _ :: ds, K => matK es ds K
  | _, _, _ => False
def patK : List (List Pe) → PyData → (Option (List PyData) → Prop) → Prop
  | [], _, K => K none
  | es :: r, .tuple ds, K => lenE ds es (matK es ds fun o => match o with
    | some b => K (some b)
    | none => patK r (.tuple ds) K) (patK r (.tuple ds) K)
  | _ :: _, _, _ => False
def putAll : Env → List Nat → List PyData → Env
  | ρ, i :: is, d :: ds => putAll (putD ρ i (some (.dat d))) is ds
  | ρ, _, _ => ρ
structure DC where
  p : List (List Pe)
  is : List Nat
  t : TSD
def caseD : List DC → PyData → TSD
  | [], _ => fun D ρ => D.nx ρ
  | c :: r, d => fun D ρ => patK c.p d fun o => match o with
    | some ds => c.t D (putAll ρ c.is ds)
    | none => caseD r d D ρ
def sMatch (t : TD) (cs : List DC) : TSD := fun D ρ => t ρ (fun d => caseD cs d D ρ) (D.ex ρ)
section
variable {N : Bn} {H : Hp}
end
section
variable {Sy : Md} {X : Cx} {E : L2.St → XK} {w : Wx} {N0 N : Bn} {H0 H : Hp} {F : Keep}
inductive DCasesOk (Sy : Md) (X : Cx) (E : L2.St → XK) : List MatchCase → List DC → Prop
  | nil : DCasesOk Sy X E [] []
  | cons {p : Pattern} {names : List Str} {body : List Stmt} {rest : List MatchCase} {c : DC} {cs : List DC} (h : PatOk p c.p names) (b : BindOk X names c.is) (hb : PSs X body (LS Sy X E c.t)) (t : DCasesOk Sy X E rest cs) : DCasesOk Sy X E (⟨p, none, body⟩ :: rest) (c :: cs)
theorem DCasesOk.v {cases : List MatchCase} {cs : List DC} (l : DCasesOk Sy X E cases cs) : CasesOk X cases (cs.map fun c => ⟨c.p, c.is, LS Sy X E c.t⟩) := by
  induction l with
  | nil => exact .nil
  | cons h b hb _ ih => exact .cons h b hb ih
end
/-! sum of a list of whole numbers -/
def fSum : List PyData → RD → Prop := fun ds R => match ds with
  | [.list ds] => match intsOf ds with
    | some ns => R (.int ns.sum)
    | none => False
  | _ => False
end Ld

namespace Ld
open PySem PySem.Spec PyProof.Rows L2
open Lw hiding Dv DvAll FreshB tData tDatas pd_int pd_bl pd_non pd_str pd_neg pd_pow pda_nil pda_cons pd_tup pd_lst pd_dct dv_cut dv_cat tup_at rRepr call_repr rIsD call_isD
/-! ### max(x, default=d), x a list of whole numbers -/
def maxDf : List Int → Int → Int
  | [], d => d
  | n :: ns, _ => ns.foldl max n
def rMaxDf (K : PySem.W.Frag) : List V → List V → Hp → VK → Prop := fun vs zs H Q => ∃ (a : Addr) (ns : List Int) (d : Int), vs = [V.ref a] ∧ SqL K H a (ns.map V.int) ∧ zs = [.int d] ∧ Q (.int (maxDf ns d)) H
def dMaxDf (tr tk : TAD) : TD := fun ρ R Ex => tr ρ (fun us => tk ρ (fun zs => match us, zs with
  | [.dat (.list ds)], [.dat (.int d)] => match intsOf ds with
    | some ns => R (.int (maxDf ns d))
    | none => False
  | _, _ => False) Ex) Ex
section
variable {Sy : Md} {X : Cx} {E : L2.St → XK} {e : Expr} {tr tk : TAD} {n m : Nat}
end
end Ld

set_option maxHeartbeats 4000000
namespace Ld
open PySem PySem.Spec PyProof.Rows L2
open Lw hiding Dv DvAll FreshB tData tDatas pd_int pd_bl pd_non pd_str pd_neg pd_pow pda_nil pda_cons pd_tup pd_lst pd_dct dv_cut dv_cat tup_at rRepr call_repr rIsD call_isD
/-! ### exceptions as data: made, asked for their class, their field -/
def xD (c f : Str) (d : PyData) : PyData := .dict [(.str c, .tuple [.str f, d])]
def xD0 (c : Str) : PyData := .dict [(.str c, .none)]
def dNew (c f : Str) (ta : TAD) : TD := fun ρ R Ex => ta ρ (fun us => match us with
  | [.dat d] => R (xD c f d)
  | _ => False) Ex
def exK (x : PyData) (k : Str → Prop) : Prop := match x with
  | .dict [(.str c, _)] => k c
  | _ => False
def dIsX (cs : List Str) (top c' : Str) (ta : TD) : TD := fun ρ R Ex => ta ρ (fun x => exK x fun c => c ∈ cs ∧ R (.bool (c == c' || c' == top))) Ex
def dIsB (cs : List Str) (b : Bool) (ta : TD) : TD := fun ρ R Ex => ta ρ (fun x => exK x fun c => c ∈ cs ∧ R (.bool b)) Ex
def dFld (fs : List (Str × Str)) (f : Str) (ta : TD) : TD := fun ρ R Ex => ta ρ (fun x => match x with
  | .dict [(.str c, .tuple [.str g, d])] => g = f ∧ (c, f) ∈ fs ∧ R d
  | _ => False) Ex
/-- what the top says of a lot of own exceptions: cs their names, top the one that all stand under, bt the built-in classes, fs the classes with a field -/
structure XAll (K : PySem.W.Frag) (cs : List Str) (top : Str) (bt : List (String × Bool)) (fs : List (Str × Str)) : Prop where
  isx : ∀ c ∈ cs, ∀ C, PySem.W.nsIn K mainGlobals c = some (some (.ref C)) → ExcC K C
  kit : ∀ c ∈ cs, ∀ c' ∈ cs, ∀ C C', PySem.W.nsIn K mainGlobals c = some (some (.ref C)) → PySem.W.nsIn K mainGlobals c' = some (some (.ref C')) → PySem.W.kitOne K (.ref C) (.ref C') = some (c == c' || c' == top)
  kitb : ∀ c ∈ cs, ∀ C, PySem.W.nsIn K mainGlobals c = some (some (.ref C)) → ∀ p ∈ bt, PySem.W.kitOne K (.ref C) (.type p.1) = some p.2
  fld : ∀ p ∈ fs, ∀ C, PySem.W.nsIn K mainGlobals p.1 = some (some (.ref C)) → XfC K C ∧ PySem.W.findIn K (.ref C) p.2 = some none
section
variable {Sy : Md} {X : Cx} {E : L2.St → XK} {e : Expr} {pos : Pos} {ta : TD} {tr : TAD} {n : Nat} {c c' f top : Str} {C C' : Addr} {cs : List Str} {bt : List (String × Bool)} {fs : List (Str × Str)}
theorem same_two {H1 : Hp} {a d : Addr} {o u : HO} (ha : H1 a = none) (hd : H1 d = none) : Same H1 (upd (upd H1 d o) a u) := fun b z h => by
  rw [upd_ne (ne_of_none h ha), upd_ne (ne_of_none h hd)]
  exact h
theorem d_new (gK : PySem.W.nsIn X.K mainGlobals c = some (some (.ref C))) (h : PE X e (Lx.tNew C f (LA Sy X E n tr))) : PE X e (LE Sy X E (dNew c f tr)) := h.weak fun σ H Q ⟨w, N, O, F, ρ, R, Ex, en, t, q, qx⟩ => by
  refine ⟨w, N, O, F, ρ, _, Ex, en, t, fun us vs H1 hl r k hv => ?_, qx⟩
  split at r
  · match vs, hv with
    | [v], hv =>
      refine ⟨v, rfl, fun a d ha hd ne s1 s2 => ?_⟩
      have en1 := en.step k
      have s : Same H1 (upd (upd H1 d (exd d [(f, v)])) a (exo a C (some d))) := same_two ha hd
      exact q _ _ _ r (k.trans (.of s)) (.exn (en1.ok.fr a ha s1) (en1.ok.fr d hd s2) (by rw [en1.ok.kk]; exact gK) upd_same (by rw [upd_ne ne, upd_same]) (Dv.same hv.1 s))
  · exact r.elim
theorem d_new0 (gK : PySem.W.nsIn X.K mainGlobals c = some (some (.ref C))) (h : PE X e (fun σ H Q => ∀ a, H a = none → a ≠ sysModules → Q (.ref a) (upd H a (exo a C none)))) : PE X e (LE Sy X E (dC (xD0 c))) := h.weak fun σ H Q ⟨w, N, O, F, ρ, R, Ex, en, t, q, qx⟩ a ha s1 => by
  exact q _ _ _ t (.of (same_new ha _)) (.exn0 (en.ok.fr a ha s1) (by rw [en.ok.kk]; exact gK) upd_same)
theorem isx_of {N : Bn} {H : Hp} {v : V} {x : PyData} {k : Str → Prop} (h : Dv N H v x) (r : exK x k) : ∃ a C c, v = .ref a ∧ Lx.IsX H a C ∧ PySem.W.nsIn N.K mainGlobals c = some (some (.ref C)) ∧ k c := by
  unfold exK at r
  split at r
  · cases h with
    | exn n n2 g e e2 x => exact ⟨_, _, _, rfl, .inr ⟨_, _, e, e2⟩, g, r⟩
    | exn0 n g e => exact ⟨_, _, _, rfl, .inl e, g, r⟩
  · exact r.elim
theorem d_isX (A : XAll X.K cs top bt fs) (hc : c' ∈ cs) (g : PySem.W.nsIn X.K mainGlobals c' = some (some (.ref C'))) (h : PE X e (tCB (Lx.rIsX X.K) (tCons (LE Sy X E ta) (tCons (tC (.ref C')) tNil)))) : PE X e (LE Sy X E (dIsX cs top c' ta)) := h.weak fun σ H Q ⟨w, N, O, F, ρ, R, Ex, en, t, q, qx⟩ => by
  refine ⟨w, N, O, F, ρ, _, Ex, en, t, fun x v H1 r k dx => ?_, qx⟩
  obtain ⟨a, C, c, rfl, hx, gc, hm, r⟩ := isx_of dx r
  rw [en.ok.kk] at gc
  exact ⟨a, C, _, .ref C', _, rfl, hx, A.isx c hm C gc, fun u z => z, A.kit c hm c' hc C C' gc g, q _ _ H1 r k (.bl _)⟩
theorem d_isB {T : String} {b : Bool} (A : XAll X.K cs top bt fs) (hb : (T, b) ∈ bt) (h : PE X e (tCB (Lx.rIsX X.K) (tCons (LE Sy X E ta) (tCons (tC (.ty T)) tNil)))) : PE X e (LE Sy X E (dIsB cs b ta)) := h.weak fun σ H Q ⟨w, N, O, F, ρ, R, Ex, en, t, q, qx⟩ => by
  refine ⟨w, N, O, F, ρ, _, Ex, en, t, fun x v H1 r k dx => ?_, qx⟩
  obtain ⟨a, C, c, rfl, hx, gc, hm, r⟩ := isx_of dx r
  rw [en.ok.kk] at gc
  exact ⟨a, C, _, .type T, _, rfl, hx, A.isx c hm C gc, fun u z => z, A.kitb c hm C gc _ hb, q _ _ H1 r k (.bl _)⟩
theorem d_fld (A : XAll X.K cs top bt fs) (h : PE X e (Lx.tFld X.K f (LE Sy X E ta))) : PE X e (LE Sy X E (dFld fs f ta)) := h.weak fun σ H Q ⟨w, N, O, F, ρ, R, Ex, en, t, q, qx⟩ => by
  refine ⟨w, N, O, F, ρ, _, Ex, en, t, fun x v H1 r k dx => ?_, qx⟩
  split at r
  · obtain ⟨rfl, hm, r⟩ := r
    cases dx with
    | exn n n2 g e e2 x =>
      have g2 := g
      rw [en.ok.kk] at g2
      obtain ⟨z1, z2⟩ := A.fld _ hm _ g2
      exact ⟨_, _, _, _, rfl, z1, z2, e, e2, q _ _ H1 r k x⟩
  · exact r.elim
end
/-- t != (), where t is a tuple of any data -/
def rNeTE (K : PySem.W.Frag) : R2 := fun x y H Q => ∃ a b xs, x = .ref a ∧ y = .ref b ∧ SqT K H a xs ∧ SqT K H b [] ∧ Q (.bl (!xs.isEmpty)) H
theorem op_neTE {X : Cx} {k : Nat} (hr : Room k X.A) : OpR X (compareOp .NotEq) (rNeTE X.K) := by
  intro pins s σ H x y v u Q I rx ry h
  obtain ⟨a, b, xs, rfl, rfl, ha, hb, q⟩ := h
  cases rx
  cases ry
  obtain ⟨its, rv, p, _⟩ := I.tuple ha
  obtain ⟨its2, rv2, p2, _⟩ := I.tuple hb
  cases rv2
  have big := hr.units
  refine SeqAt.RcNeAt.tuples p p2 (by omega) (e := fun _ => true) (fun j _ h2 => ?_) X.prog X.w X.xe (EP X pins σ Q) ?_
  · simp at h2
  · refine ⟨.bl (!xs.isEmpty), H, I, ?_, q⟩
    have hl := rv.length
    show Value.bool _ = Value.bool _
    cases xs with
    | nil =>
      have e : its = [] := by simpa using hl.symm
      subst e
      rfl
    | cons x r =>
      cases its with
      | nil => simp at hl
      | cons y r2 => simp
def fNeTE (x y : PyData) (R : Bool → Prop) : Prop := match x, y with
  | .tuple ds, .tuple [] => R (!ds.isEmpty)
  | _, _ => False
theorem cd_neTE {X : Cx} : CmpD X (rNeTE X.K) fNeTE := fun N H v u x y R Q h dx dy hK q => by
  unfold fNeTE at h
  split at h
  · obtain ⟨a, xs, rfl, e, all⟩ := tup_at dx
    obtain ⟨b, ys, rfl, e2, all2⟩ := tup_at dy
    cases all2
    exact ⟨a, b, xs, rfl, rfl, hK ▸ e.sq, hK ▸ e2.sq, by rw [dvs_empty all]; exact q _ h⟩
  · exact h.elim
end Ld

namespace Hd
open PySem PySem.Spec PyProof.Rows L2 He
section
variable {ts : List Tst} {fn : List FnD} {tf : List Defn} {h : Heap} {K : PySem.W.Frag} {mg : Str → Option Value}
theorem glo_of (c : Says ts fn tf h K) (i : Nat) {x : Str} {st : Stmt} (e : fn[i]? = some (dOf x st)) : PySem.W.nsIn K mainGlobals x = some (some (.ref (ga K x))) := eqO_ok (ba (c.fnAt i e).2).2
theorem dn_of (X : K.In h) (G : h.Ns mainGlobals mg) (c : Says ts fn tf h K) (i : Nat) {x : Str} {st : Stmt} {ps : List Str} (e : fn[i]? = some (dOf x st))
    (hb : ∀ f fd, Fun K x x st f fd → Binds K fd ps []) : Lw.Dn K mg x st ps := by
  obtain ⟨e1, e2⟩ := c.fnAt i e
  obtain ⟨e3, e4⟩ := ba e2
  obtain ⟨oc, od, osl, kV, doc, pm, an, cdv, ct, lk, hcd⟩ := fn_ok e1 e3
  exact ⟨ga K x, _, fun_mk lk hcd (keep_of lk), PySem.W.mg_of X G (glo_of c i e), hb _ _ (fun_mk lk hcd (keep_of lk))⟩
theorem free_of (X : K.In h) (G : h.Ns mainGlobals mg) {x : Str} (c : freeB x K = true) : mg x = none := PySem.W.mg_none_of X G (eqO_ok c)
def Sd (K : PySem.W.Frag) (t : Shp) (d : PyData) : Prop := ∀ u, t K u = true → ∃ v, RelV v u ∧ Ld.Wv K v d
def SdAll (K : PySem.W.Frag) (ts : List Shp) (ds : List PyData) : Prop := ∀ us, allB K ts us = true → ∃ vs, Vals vs us ∧ Ld.WvAll K vs ds
theorem clsB_ok {K : PySem.W.Frag} {C : Addr} (e : clsB K C = true) : ∃ nm q N bs bm sn sub ab col dd k0 k1 k2 k3 k5, K.lookup C = some (excClassObj nm q C N bs bm true sn sub ab col dd k0 k1 k2 k3 k5 "ValueError.__new__") ∧ PySem.HandSPX.refsVE bm = true := by
  unfold clsB at e
  split at e
  · rename_i dd cd sl ho
    split at e
    · rename_i C' bm k0 k1 k2 k3 n k5 hm hs
      simp only [Bool.and_eq_true, beq_iff_eq, Bool.not_eq_true'] at e
      obtain ⟨⟨⟨⟨rfl, rfl⟩, hdel⟩, hdi⟩, ht⟩ := e
      obtain ⟨nm, bs, mro, ns, qn, hd, sn, sub, ab, col, del⟩ := cd
      dsimp only at hm hdel hdi
      subst hm hdel hdi
      have hsl : sl = #[k0, k1, k2, k3, some (.builtin "ValueError.__new__"), k5] := by
        obtain ⟨l⟩ := sl
        simp only at hs
        rw [hs]
      subst hsl
      exact ⟨nm, qn, ns, bs, bm, sn, sub, ab, col, dd, k0, k1, k2, k3, k5, ho, ht⟩
    · cases e
  · cases e
theorem exc_of (X : K.In h) (G : h.Ns mainGlobals mg) (c : Says ts fn tf h K) (i j : Nat) {x f : Str} {st : Stmt} (e : fn[i]? = some (dIn x st)) (e' : ts[j]? = some (excB x f))
    (hb : ∀ g fd, Fun K "__init__" (x ++ ".__init__") st g fd → Binds K fd ["self", f] []) : ∃ C fI fd, Lw.Ec K mg x f st C fI fd := by
  have t := c.at j e'
  obtain ⟨t1, t⟩ := ba t
  obtain ⟨t2, t⟩ := ba t
  obtain ⟨t3, t⟩ := ba t
  obtain ⟨t4, t⟩ := ba t
  obtain ⟨t5, t⟩ := ba t
  obtain ⟨t6, t⟩ := ba t
  obtain ⟨t7, t⟩ := ba t
  obtain ⟨t8, t⟩ := ba t
  obtain ⟨t9, t10⟩ := ba t
  have xf := xfB_ok t6
  obtain ⟨e1, e2⟩ := c.fnAt i e
  obtain ⟨e3, _⟩ := ba e2
  obtain ⟨oc, od, osl, kV, doc, pm, an, cdv, ct, lk, hcd⟩ := fn_ok e1 e3
  exact ⟨ga K x, ma K (ga K x) "__init__", _, { gC := PySem.W.mg_of X G (eqO_ok t1), ox := ⟨clsB_ok t2, eqO_ok t3, xf.exC, of_decide_eq_true t4, t5⟩, xf := xf, iC := eqO_ok t7, tI := of_decide_eq_true t8, te := of_decide_eq_true t9, no := eqO_ok t10, fn := fun_mk lk hcd (keep_of lk), bd := hb _ _ (fun_mk lk hcd (keep_of lk)) }⟩
theorem y_of (X : K.In h) (G : h.Ns mainGlobals mg) {x f : Str} (c : excB x f K = true) : PySem.W.nsIn K mainGlobals x = some (mg x) := by
  have e := eqO_ok (ba c).1
  exact e.trans (congrArg some (PySem.W.mg_of X G e).symm)
theorem y0_of (X : K.In h) (G : h.Ns mainGlobals mg) {x : Str} (c : exc0B x K = true) : PySem.W.nsIn K mainGlobals x = some (mg x) := by
  have e := eqO_ok (ba c).1
  exact e.trans (congrArg some (PySem.W.mg_of X G e).symm)
theorem exc0_of (X : K.In h) (G : h.Ns mainGlobals mg) {x : Str} (c : exc0B x K = true) : ∃ C, Lx.Ec0 K mg x C := by
  obtain ⟨t1, t⟩ := ba c
  obtain ⟨t2, t⟩ := ba t
  obtain ⟨t3, t⟩ := ba t
  obtain ⟨t4, t⟩ := ba t
  obtain ⟨t5, t⟩ := ba t
  obtain ⟨t6, t7⟩ := ba t
  exact ⟨ga K x, PySem.W.mg_of X G (eqO_ok t1), ⟨clsB_ok t2, eqO_ok t3, of_decide_eq_true t6, of_decide_eq_true t4, t5⟩, eqO_ok t7⟩
theorem isx_ok {C : Addr} (c : isxB K C = true) : ExcC K C := by
  obtain ⟨t1, t⟩ := ba c
  obtain ⟨t2, t⟩ := ba t
  obtain ⟨t3, t⟩ := ba t
  obtain ⟨t4, t⟩ := ba t
  obtain ⟨t5, t⟩ := ba t
  obtain ⟨t6, t⟩ := ba t
  obtain ⟨t7, t8⟩ := ba t
  exact ⟨eqO_ok t1, eqO_ok t2, of_decide_eq_true t3, t4, eqO_ok t5, eqO_ok t6, of_decide_eq_true t7, of_decide_eq_true t8⟩
theorem xall_of {cs : List Str} {top : Str} {bt : List (String × Bool)} {fs : List (Str × Str)} (c : xallB cs top bt fs K = true) : Ld.XAll K cs top bt fs := by
  obtain ⟨c1, c2⟩ := ba c
  have key : ∀ x ∈ cs, ∀ C, PySem.W.nsIn K mainGlobals x = some (some (.ref C)) → C = ga K x := fun x hx C e => by
    have t := eqO_ok (ba (List.all_eq_true.mp c1 x hx)).1
    rw [t] at e
    cases e
    rfl
  refine ⟨fun x hx C e => ?_, fun x hx x' hx' C C' e e' => ?_, fun x hx C e p hp => ?_, fun p hp C e => ?_⟩
  · rw [key x hx C e]
    exact isx_ok (ba (ba (List.all_eq_true.mp c1 x hx)).2).1
  · rw [key x hx C e, key x' hx' C' e']
    exact of_decide_eq_true (List.all_eq_true.mp (ba (ba (ba (List.all_eq_true.mp c1 x hx)).2).2).1 x' hx')
  · rw [key x hx C e]
    exact of_decide_eq_true (List.all_eq_true.mp (ba (ba (ba (List.all_eq_true.mp c1 x hx)).2).2).2 p hp)
  · obtain ⟨t1, t⟩ := ba (List.all_eq_true.mp c2 p hp)
    obtain ⟨t2, t3⟩ := ba t
    rw [eqO_ok t1] at e
    cases e
    exact ⟨xfB_ok t2, eqO_ok t3⟩
/-! ### the tables of the defs that make lambdas -/
theorem ne_of {p q : Defn} (c : neB p q K = true) : (cT K p).2 ≠ (cT K q).2 := fun e => by
  unfold neB at c
  rw [e, beq_self_eq_true] at c
  cases c
end
/-! ### the ends -/
theorem walk_lawE {l : PySem.W.OpenLaw} {k : Nat} {q : Program} {loose : List Str} {XP : (Str → Option Value) → Heap → Prop} {YP : World → Heap → Prop} {d : DefRec} {x : Str}
    (hn : l.most = some 63) (hx : d.name = x) (hdf : d.params.defaults = []) (hr : Room k callerA)
    (F : ∀ (w : World) (mg : Str → Option Value) (h : Heap), YP w h → h.Ns mainGlobals mg → ∃ K : PySem.W.Frag, K.In h ∧ ∀ base : Heap, K.In base → base.Ns mainGlobals mg → Lw.Cl CX0 l.prog w K mg base k x (Lw.spLaw K)) :
    PySem.W.WalkO q loose XP YP l.row.toRowW d [] (fun f vs => PySem.call f vs) := by
  refine Att.attach_call hn hdf fun w s0 s1 mg mb fa o pm cd doc a vs ns G Y ho hd hcd hm hobj hi hl hg => ?_
  obtain ⟨K, KX, F⟩ := F w mg _ Y G.T.g
  refine Lw.script_run KX G.T.g G.T.b G.T.builtins G.T.nolimit hg hobj hi hl hr fun base b1 b2 => ?_
  obtain ⟨f, fd, ps, FG, mf, _, hb⟩ := (F base b1 b2).ex
  subst hx
  rw [hm] at mf
  cases mf
  exact ⟨fd, ps, FG, hb⟩
end Hd

namespace My
open PySem L2 Lw
def topS (i : Nat) : Stmt := PySem.Challenge.pw_planehall_k01_errors_each_of_its_own.main.body.getD i (.Pass ⟨0, 0, 0, 0⟩)
def inS (i j : Nat) : Stmt := match topS i with
  | .ClassDef (body := b) .. => b.getD j (.Pass ⟨0, 0, 0, 0⟩)
  | _ => .Pass ⟨0, 0, 0, 0⟩
abbrev s_p__wall : Stmt := topS 0
abbrev N_p__wall : List Str := ["k"]
abbrev s_l_well : Stmt := topS 35
abbrev N_l_well : List Str := ["_law_script", "_law_at", "_law_mixed", "_law_cell", "_law_own"]
theorem sc_l_well : FnScope N_l_well ["_law_script", "_law_at"] (defScope s_l_well) := ⟨rfl, rfl, rfl, by decide +kernel, rfl, by decide +kernel, by decide +kernel⟩
abbrev s_l_draw : Stmt := topS 36
abbrev N_l_draw : List Str := ["_law_well_here", "_law_many", "_law_figure", "_law_seed"]
theorem sc_l_draw : FnScope N_l_draw ["_law_well_here", "_law_many"] (defScope s_l_draw) := ⟨rfl, rfl, rfl, by decide +kernel, rfl, by decide +kernel, by decide +kernel⟩
abbrev s_l_pick : Stmt := topS 37
abbrev N_l_pick : List Str := ["_law_well_here", "_law_some"]
theorem sc_l_pick : FnScope N_l_pick ["_law_well_here", "_law_some"] (defScope s_l_pick) := ⟨rfl, rfl, rfl, by decide +kernel, rfl, by decide +kernel, by decide +kernel⟩
abbrev s_l_common : Stmt := topS 38
abbrev N_l_common : List Str := ["_law_one", "_law_two", "_law_far", "_law_rest"]
theorem sc_l_common : FnScope N_l_common ["_law_one", "_law_two"] (defScope s_l_common) := ⟨rfl, rfl, rfl, by decide +kernel, rfl, by decide +kernel, by decide +kernel⟩
abbrev s_l_lean : Stmt := topS 39
abbrev N_l_lean : List Str := ["_law_top", "_law_low_here", "_law_far"]
theorem sc_l_lean : FnScope N_l_lean ["_law_top", "_law_low_here"] (defScope s_l_lean) := ⟨rfl, rfl, rfl, by decide +kernel, rfl, by decide +kernel, by decide +kernel⟩
abbrev s_l_small : Stmt := topS 40
abbrev N_l_small : List Str := ["_law_well_here"]
theorem sc_l_small : FnScope N_l_small ["_law_well_here"] (defScope s_l_small) := ⟨rfl, rfl, rfl, by decide +kernel, rfl, by decide +kernel, by decide +kernel⟩
abbrev s_l_point : Stmt := topS 41
abbrev N_l_point : List Str := ["_law_well_here", "_law_x"]
theorem sc_l_point : FnScope N_l_point ["_law_well_here"] (defScope s_l_point) := ⟨rfl, rfl, rfl, by decide +kernel, rfl, by decide +kernel, by decide +kernel⟩
abbrev s_l_odd : Stmt := topS 42
abbrev N_l_odd : List Str := ["_law_well_here"]
theorem sc_l_odd : FnScope N_l_odd ["_law_well_here"] (defScope s_l_odd) := ⟨rfl, rfl, rfl, by decide +kernel, rfl, by decide +kernel, by decide +kernel⟩
abbrev s_l_bent : Stmt := topS 43
abbrev N_l_bent : List Str := ["_law_well_here", "_law_thing", "_law_spot", "_law_branch"]
theorem sc_l_bent : FnScope N_l_bent ["_law_well_here", "_law_thing"] (defScope s_l_bent) := ⟨rfl, rfl, rfl, by decide +kernel, rfl, by decide +kernel, by decide +kernel⟩
abbrev s_l_spoilt : Stmt := topS 44
abbrev N_l_spoilt : List Str := ["_law_well_here", "_law_thing", "_law_branch"]
theorem sc_l_spoilt : FnScope N_l_spoilt ["_law_well_here", "_law_thing"] (defScope s_l_spoilt) := ⟨rfl, rfl, rfl, by decide +kernel, rfl, by decide +kernel, by decide +kernel⟩
abbrev s_l_low : Stmt := topS 45
abbrev N_l_low : List Str := ["_law_number", "_law_thing"]
theorem sc_l_low : FnScope N_l_low ["_law_number", "_law_thing"] (defScope s_l_low) := ⟨rfl, rfl, rfl, by decide +kernel, rfl, by decide +kernel, by decide +kernel⟩
abbrev s_l_by_place : Stmt := topS 46
abbrev N_l_by_place : List Str := ["_law_number", "_law_thing"]
theorem sc_l_by_place : FnScope N_l_by_place ["_law_number", "_law_thing"] (defScope s_l_by_place) := ⟨rfl, rfl, rfl, by decide +kernel, rfl, by decide +kernel, by decide +kernel⟩
abbrev s_l_low_name : Stmt := topS 47
abbrev N_l_low_name : List Str := ["_law_number", "_law_thing"]
theorem sc_l_low_name : FnScope N_l_low_name ["_law_number", "_law_thing"] (defScope s_l_low_name) := ⟨rfl, rfl, rfl, by decide +kernel, rfl, by decide +kernel, by decide +kernel⟩
abbrev s_l_by_name : Stmt := topS 48
abbrev N_l_by_name : List Str := ["_law_number", "_law_thing"]
theorem sc_l_by_name : FnScope N_l_by_name ["_law_number", "_law_thing"] (defScope s_l_by_name) := ⟨rfl, rfl, rfl, by decide +kernel, rfl, by decide +kernel, by decide +kernel⟩
abbrev s_l_truths : Stmt := topS 49
abbrev N_l_truths : List Str := ["_law_error", "_law_found"]
theorem sc_l_truths : FnScope N_l_truths ["_law_error"] (defScope s_l_truths) := ⟨rfl, rfl, rfl, by decide +kernel, rfl, by decide +kernel, by decide +kernel⟩
abbrev s_l_is_made : Stmt := topS 50
abbrev N_l_is_made : List Str := ["_law_number", "_law_thing", "_law_error", "_law_at"]
theorem sc_l_is_made : FnScope N_l_is_made ["_law_number", "_law_thing", "_law_error"] (defScope s_l_is_made) := ⟨rfl, rfl, rfl, by decide +kernel, rfl, by decide +kernel, by decide +kernel⟩
abbrev s_l_right : Stmt := topS 51
abbrev N_l_right : List Str := ["_law_well_here", "_law_thing", "_law_number"]
theorem sc_l_right : FnScope N_l_right ["_law_well_here"] (defScope s_l_right) := ⟨rfl, rfl, rfl, by decide +kernel, rfl, by decide +kernel, by decide +kernel⟩
abbrev s_l_law : Stmt := topS 52
abbrev N_l_law : List Str := ["_law_script", "_law_at"]
theorem sc_l_law : FnScope N_l_law ["_law_script"] (defScope s_l_law) := ⟨rfl, rfl, rfl, by decide +kernel, rfl, by decide +kernel, by decide +kernel⟩
abbrev s_iInvalidFraction : Stmt := inS 3 0
abbrev N_iInvalidFraction : List Str := ["self", "given"]
theorem sc_iInvalidFraction : FnScope N_iInvalidFraction ["self", "given"] (defScope s_iInvalidFraction) := ⟨rfl, rfl, rfl, by decide +kernel, rfl, by decide +kernel, by decide +kernel⟩
abbrev s_iInvalidNumber : Stmt := inS 4 0
abbrev N_iInvalidNumber : List Str := ["self", "given"]
theorem sc_iInvalidNumber : FnScope N_iInvalidNumber ["self", "given"] (defScope s_iInvalidNumber) := ⟨rfl, rfl, rfl, by decide +kernel, rfl, by decide +kernel, by decide +kernel⟩
abbrev s_iInvalidPoint : Stmt := inS 5 0
abbrev N_iInvalidPoint : List Str := ["self", "given"]
theorem sc_iInvalidPoint : FnScope N_iInvalidPoint ["self", "given"] (defScope s_iInvalidPoint) := ⟨rfl, rfl, rfl, by decide +kernel, rfl, by decide +kernel, by decide +kernel⟩
abbrev s_iInvalidPlace : Stmt := inS 6 0
abbrev N_iInvalidPlace : List Str := ["self", "given"]
theorem sc_iInvalidPlace : FnScope N_iInvalidPlace ["self", "given"] (defScope s_iInvalidPlace) := ⟨rfl, rfl, rfl, by decide +kernel, rfl, by decide +kernel, by decide +kernel⟩
abbrev s_iInvalidWay : Stmt := inS 7 0
abbrev N_iInvalidWay : List Str := ["self", "given"]
theorem sc_iInvalidWay : FnScope N_iInvalidWay ["self", "given"] (defScope s_iInvalidWay) := ⟨rfl, rfl, rfl, by decide +kernel, rfl, by decide +kernel, by decide +kernel⟩
abbrev s_iInvalidCurve : Stmt := inS 8 0
abbrev N_iInvalidCurve : List Str := ["self", "given"]
theorem sc_iInvalidCurve : FnScope N_iInvalidCurve ["self", "given"] (defScope s_iInvalidCurve) := ⟨rfl, rfl, rfl, by decide +kernel, rfl, by decide +kernel, by decide +kernel⟩
abbrev s_iInvalidLead : Stmt := inS 9 0
abbrev N_iInvalidLead : List Str := ["self", "given"]
theorem sc_iInvalidLead : FnScope N_iInvalidLead ["self", "given"] (defScope s_iInvalidLead) := ⟨rfl, rfl, rfl, by decide +kernel, rfl, by decide +kernel, by decide +kernel⟩
abbrev s_iInvalidFigure : Stmt := inS 10 0
abbrev N_iInvalidFigure : List Str := ["self", "given"]
theorem sc_iInvalidFigure : FnScope N_iInvalidFigure ["self", "given"] (defScope s_iInvalidFigure) := ⟨rfl, rfl, rfl, by decide +kernel, rfl, by decide +kernel, by decide +kernel⟩
abbrev s_iInvalidSketch : Stmt := inS 11 0
abbrev N_iInvalidSketch : List Str := ["self", "given"]
theorem sc_iInvalidSketch : FnScope N_iInvalidSketch ["self", "given"] (defScope s_iInvalidSketch) := ⟨rfl, rfl, rfl, by decide +kernel, rfl, by decide +kernel, by decide +kernel⟩
abbrev s_iInvalidScene : Stmt := inS 12 0
abbrev N_iInvalidScene : List Str := ["self", "given"]
theorem sc_iInvalidScene : FnScope N_iInvalidScene ["self", "given"] (defScope s_iInvalidScene) := ⟨rfl, rfl, rfl, by decide +kernel, rfl, by decide +kernel, by decide +kernel⟩
abbrev s_iInvalidName : Stmt := inS 13 0
abbrev N_iInvalidName : List Str := ["self", "given"]
theorem sc_iInvalidName : FnScope N_iInvalidName ["self", "given"] (defScope s_iInvalidName) := ⟨rfl, rfl, rfl, by decide +kernel, rfl, by decide +kernel, by decide +kernel⟩
abbrev s_iUnknownName : Stmt := inS 14 0
abbrev N_iUnknownName : List Str := ["self", "given"]
theorem sc_iUnknownName : FnScope N_iUnknownName ["self", "given"] (defScope s_iUnknownName) := ⟨rfl, rfl, rfl, by decide +kernel, rfl, by decide +kernel, by decide +kernel⟩
abbrev s_iNameTaken : Stmt := inS 15 0
abbrev N_iNameTaken : List Str := ["self", "given"]
theorem sc_iNameTaken : FnScope N_iNameTaken ["self", "given"] (defScope s_iNameTaken) := ⟨rfl, rfl, rfl, by decide +kernel, rfl, by decide +kernel, by decide +kernel⟩
abbrev s_iInUse : Stmt := inS 16 0
abbrev N_iInUse : List Str := ["self", "given"]
theorem sc_iInUse : FnScope N_iInUse ["self", "given"] (defScope s_iInUse) := ⟨rfl, rfl, rfl, by decide +kernel, rfl, by decide +kernel, by decide +kernel⟩
abbrev s_iComesRound : Stmt := inS 17 0
abbrev N_iComesRound : List Str := ["self", "given"]
theorem sc_iComesRound : FnScope N_iComesRound ["self", "given"] (defScope s_iComesRound) := ⟨rfl, rfl, rfl, by decide +kernel, rfl, by decide +kernel, by decide +kernel⟩
abbrev s_iTooDeep : Stmt := inS 18 0
abbrev N_iTooDeep : List Str := ["self", "given"]
theorem sc_iTooDeep : FnScope N_iTooDeep ["self", "given"] (defScope s_iTooDeep) := ⟨rfl, rfl, rfl, by decide +kernel, rfl, by decide +kernel, by decide +kernel⟩
abbrev s_iTooMany : Stmt := inS 19 0
abbrev N_iTooMany : List Str := ["self", "given"]
theorem sc_iTooMany : FnScope N_iTooMany ["self", "given"] (defScope s_iTooMany) := ⟨rfl, rfl, rfl, by decide +kernel, rfl, by decide +kernel, by decide +kernel⟩
abbrev s_iInvalidIndex : Stmt := inS 20 0
abbrev N_iInvalidIndex : List Str := ["self", "given"]
theorem sc_iInvalidIndex : FnScope N_iInvalidIndex ["self", "given"] (defScope s_iInvalidIndex) := ⟨rfl, rfl, rfl, by decide +kernel, rfl, by decide +kernel, by decide +kernel⟩
abbrev s_iInvalidCount : Stmt := inS 21 0
abbrev N_iInvalidCount : List Str := ["self", "given"]
theorem sc_iInvalidCount : FnScope N_iInvalidCount ["self", "given"] (defScope s_iInvalidCount) := ⟨rfl, rfl, rfl, by decide +kernel, rfl, by decide +kernel, by decide +kernel⟩
abbrev s_iInvalidView : Stmt := inS 22 0
abbrev N_iInvalidView : List Str := ["self", "given"]
theorem sc_iInvalidView : FnScope N_iInvalidView ["self", "given"] (defScope s_iInvalidView) := ⟨rfl, rfl, rfl, by decide +kernel, rfl, by decide +kernel, by decide +kernel⟩
abbrev s_iInvalidPicture : Stmt := inS 23 0
abbrev N_iInvalidPicture : List Str := ["self", "given"]
theorem sc_iInvalidPicture : FnScope N_iInvalidPicture ["self", "given"] (defScope s_iInvalidPicture) := ⟨rfl, rfl, rfl, by decide +kernel, rfl, by decide +kernel, by decide +kernel⟩
abbrev s_iInvalidCurves : Stmt := inS 24 0
abbrev N_iInvalidCurves : List Str := ["self", "index"]
theorem sc_iInvalidCurves : FnScope N_iInvalidCurves ["self", "index"] (defScope s_iInvalidCurves) := ⟨rfl, rfl, rfl, by decide +kernel, rfl, by decide +kernel, by decide +kernel⟩
abbrev s_iInvalidRow : Stmt := inS 25 0
abbrev N_iInvalidRow : List Str := ["self", "index"]
theorem sc_iInvalidRow : FnScope N_iInvalidRow ["self", "index"] (defScope s_iInvalidRow) := ⟨rfl, rfl, rfl, by decide +kernel, rfl, by decide +kernel, by decide +kernel⟩
abbrev s_iInvalidLines : Stmt := inS 26 0
abbrev N_iInvalidLines : List Str := ["self", "index"]
theorem sc_iInvalidLines : FnScope N_iInvalidLines ["self", "index"] (defScope s_iInvalidLines) := ⟨rfl, rfl, rfl, by decide +kernel, rfl, by decide +kernel, by decide +kernel⟩
abbrev s_iInvalidBytes : Stmt := inS 27 0
abbrev N_iInvalidBytes : List Str := ["self", "index"]
theorem sc_iInvalidBytes : FnScope N_iInvalidBytes ["self", "index"] (defScope s_iInvalidBytes) := ⟨rfl, rfl, rfl, by decide +kernel, rfl, by decide +kernel, by decide +kernel⟩
abbrev s_iBadText : Stmt := inS 28 0
abbrev N_iBadText : List Str := ["self", "spot"]
theorem sc_iBadText : FnScope N_iBadText ["self", "spot"] (defScope s_iBadText) := ⟨rfl, rfl, rfl, by decide +kernel, rfl, by decide +kernel, by decide +kernel⟩
def XCS : List PySem.Str := ["PlaneError", "InvalidFraction", "InvalidNumber", "InvalidPoint", "InvalidPlace", "InvalidWay", "InvalidCurve", "InvalidLead", "InvalidFigure", "InvalidSketch", "InvalidScene", "InvalidName", "UnknownName", "NameTaken", "InUse", "ComesRound", "TooDeep", "TooMany", "InvalidIndex", "InvalidCount", "InvalidView", "InvalidPicture", "InvalidCurves", "InvalidRow", "InvalidLines", "InvalidBytes", "BadText", "NotBounded", "NothingInside", "NotStraight", "NothingToUndo", "NothingToRedo"]
def XFS : List (PySem.Str × PySem.Str) := [("InvalidFraction", "given"), ("InvalidNumber", "given"), ("InvalidPoint", "given"), ("InvalidPlace", "given"), ("InvalidWay", "given"), ("InvalidCurve", "given"), ("InvalidLead", "given"), ("InvalidFigure", "given"), ("InvalidSketch", "given"), ("InvalidScene", "given"), ("InvalidName", "given"), ("UnknownName", "given"), ("NameTaken", "given"), ("InUse", "given"), ("ComesRound", "given"), ("TooDeep", "given"), ("TooMany", "given"), ("InvalidIndex", "given"), ("InvalidCount", "given"), ("InvalidView", "given"), ("InvalidPicture", "given"), ("InvalidCurves", "index"), ("InvalidRow", "index"), ("InvalidLines", "index"), ("InvalidBytes", "index"), ("BadText", "spot")]
def XBT : List (String × Bool) := [("ValueError", true), ("Exception", true), ("LookupError", false), ("TypeError", false), ("ArithmeticError", false), ("RuntimeError", false), ("AttributeError", false)]
structure Top (K : PySem.W.Frag) (mg : Str → Option Value) : Prop where
  d_p__wall : Dn K mg "_wall" s_p__wall ["k"]
  d_l_well : Dn K mg "_law_well" s_l_well ["_law_script", "_law_at"]
  d_l_draw : Dn K mg "_law_draw" s_l_draw ["_law_well_here", "_law_many"]
  d_l_pick : Dn K mg "_law_pick" s_l_pick ["_law_well_here", "_law_some"]
  d_l_common : Dn K mg "_law_common" s_l_common ["_law_one", "_law_two"]
  d_l_lean : Dn K mg "_law_lean" s_l_lean ["_law_top", "_law_low_here"]
  d_l_small : Dn K mg "_law_small" s_l_small ["_law_well_here"]
  d_l_point : Dn K mg "_law_point" s_l_point ["_law_well_here"]
  d_l_odd : Dn K mg "_law_odd" s_l_odd ["_law_well_here"]
  d_l_bent : Dn K mg "_law_bent" s_l_bent ["_law_well_here", "_law_thing"]
  d_l_spoilt : Dn K mg "_law_spoilt" s_l_spoilt ["_law_well_here", "_law_thing"]
  d_l_low : Dn K mg "_law_low" s_l_low ["_law_number", "_law_thing"]
  d_l_by_place : Dn K mg "_law_by_place" s_l_by_place ["_law_number", "_law_thing"]
  d_l_low_name : Dn K mg "_law_low_name" s_l_low_name ["_law_number", "_law_thing"]
  d_l_by_name : Dn K mg "_law_by_name" s_l_by_name ["_law_number", "_law_thing"]
  d_l_truths : Dn K mg "_law_truths" s_l_truths ["_law_error"]
  d_l_is_made : Dn K mg "_law_is_made" s_l_is_made ["_law_number", "_law_thing", "_law_error"]
  d_l_right : Dn K mg "_law_right" s_l_right ["_law_well_here"]
  d_l_law : Dn K mg "law" s_l_law ["_law_script"]
  z_len : mg "len" = none
  z_abs : mg "abs" = none
  z_divmod : mg "divmod" = none
  z_repr : mg "repr" = none
  z_int : mg "int" = none
  z_list : mg "list" = none
  z_tuple : mg "tuple" = none
  z_max : mg "max" = none
  z_min : mg "min" = none
  z_all : mg "all" = none
  z_isinstance : mg "isinstance" = none
  z_range : mg "range" = none
  z_ValueError : mg "ValueError" = none
  z_Exception : mg "Exception" = none
  z_LookupError : mg "LookupError" = none
  z_TypeError : mg "TypeError" = none
  z_ArithmeticError : mg "ArithmeticError" = none
  z_RuntimeError : mg "RuntimeError" = none
  z_AttributeError : mg "AttributeError" = none
  e_InvalidFraction : ∃ C fI fd, Ec K mg "InvalidFraction" "given" s_iInvalidFraction C fI fd
  e_InvalidNumber : ∃ C fI fd, Ec K mg "InvalidNumber" "given" s_iInvalidNumber C fI fd
  e_InvalidPoint : ∃ C fI fd, Ec K mg "InvalidPoint" "given" s_iInvalidPoint C fI fd
  e_InvalidPlace : ∃ C fI fd, Ec K mg "InvalidPlace" "given" s_iInvalidPlace C fI fd
  e_InvalidWay : ∃ C fI fd, Ec K mg "InvalidWay" "given" s_iInvalidWay C fI fd
  e_InvalidCurve : ∃ C fI fd, Ec K mg "InvalidCurve" "given" s_iInvalidCurve C fI fd
  e_InvalidLead : ∃ C fI fd, Ec K mg "InvalidLead" "given" s_iInvalidLead C fI fd
  e_InvalidFigure : ∃ C fI fd, Ec K mg "InvalidFigure" "given" s_iInvalidFigure C fI fd
  e_InvalidSketch : ∃ C fI fd, Ec K mg "InvalidSketch" "given" s_iInvalidSketch C fI fd
  e_InvalidScene : ∃ C fI fd, Ec K mg "InvalidScene" "given" s_iInvalidScene C fI fd
  e_InvalidName : ∃ C fI fd, Ec K mg "InvalidName" "given" s_iInvalidName C fI fd
  e_UnknownName : ∃ C fI fd, Ec K mg "UnknownName" "given" s_iUnknownName C fI fd
  e_NameTaken : ∃ C fI fd, Ec K mg "NameTaken" "given" s_iNameTaken C fI fd
  e_InUse : ∃ C fI fd, Ec K mg "InUse" "given" s_iInUse C fI fd
  e_ComesRound : ∃ C fI fd, Ec K mg "ComesRound" "given" s_iComesRound C fI fd
  e_TooDeep : ∃ C fI fd, Ec K mg "TooDeep" "given" s_iTooDeep C fI fd
  e_TooMany : ∃ C fI fd, Ec K mg "TooMany" "given" s_iTooMany C fI fd
  e_InvalidIndex : ∃ C fI fd, Ec K mg "InvalidIndex" "given" s_iInvalidIndex C fI fd
  e_InvalidCount : ∃ C fI fd, Ec K mg "InvalidCount" "given" s_iInvalidCount C fI fd
  e_InvalidView : ∃ C fI fd, Ec K mg "InvalidView" "given" s_iInvalidView C fI fd
  e_InvalidPicture : ∃ C fI fd, Ec K mg "InvalidPicture" "given" s_iInvalidPicture C fI fd
  e_InvalidCurves : ∃ C fI fd, Ec K mg "InvalidCurves" "index" s_iInvalidCurves C fI fd
  e_InvalidRow : ∃ C fI fd, Ec K mg "InvalidRow" "index" s_iInvalidRow C fI fd
  e_InvalidLines : ∃ C fI fd, Ec K mg "InvalidLines" "index" s_iInvalidLines C fI fd
  e_InvalidBytes : ∃ C fI fd, Ec K mg "InvalidBytes" "index" s_iInvalidBytes C fI fd
  e_BadText : ∃ C fI fd, Ec K mg "BadText" "spot" s_iBadText C fI fd
  y_PlaneError : PySem.W.nsIn K mainGlobals "PlaneError" = some (mg "PlaneError")
  y_InvalidFraction : PySem.W.nsIn K mainGlobals "InvalidFraction" = some (mg "InvalidFraction")
  y_InvalidNumber : PySem.W.nsIn K mainGlobals "InvalidNumber" = some (mg "InvalidNumber")
  y_InvalidPoint : PySem.W.nsIn K mainGlobals "InvalidPoint" = some (mg "InvalidPoint")
  y_InvalidPlace : PySem.W.nsIn K mainGlobals "InvalidPlace" = some (mg "InvalidPlace")
  y_InvalidWay : PySem.W.nsIn K mainGlobals "InvalidWay" = some (mg "InvalidWay")
  y_InvalidCurve : PySem.W.nsIn K mainGlobals "InvalidCurve" = some (mg "InvalidCurve")
  y_InvalidLead : PySem.W.nsIn K mainGlobals "InvalidLead" = some (mg "InvalidLead")
  y_InvalidFigure : PySem.W.nsIn K mainGlobals "InvalidFigure" = some (mg "InvalidFigure")
  y_InvalidSketch : PySem.W.nsIn K mainGlobals "InvalidSketch" = some (mg "InvalidSketch")
  y_InvalidScene : PySem.W.nsIn K mainGlobals "InvalidScene" = some (mg "InvalidScene")
  y_InvalidName : PySem.W.nsIn K mainGlobals "InvalidName" = some (mg "InvalidName")
  y_UnknownName : PySem.W.nsIn K mainGlobals "UnknownName" = some (mg "UnknownName")
  y_NameTaken : PySem.W.nsIn K mainGlobals "NameTaken" = some (mg "NameTaken")
  y_InUse : PySem.W.nsIn K mainGlobals "InUse" = some (mg "InUse")
  y_ComesRound : PySem.W.nsIn K mainGlobals "ComesRound" = some (mg "ComesRound")
  y_TooDeep : PySem.W.nsIn K mainGlobals "TooDeep" = some (mg "TooDeep")
  y_TooMany : PySem.W.nsIn K mainGlobals "TooMany" = some (mg "TooMany")
  y_InvalidIndex : PySem.W.nsIn K mainGlobals "InvalidIndex" = some (mg "InvalidIndex")
  y_InvalidCount : PySem.W.nsIn K mainGlobals "InvalidCount" = some (mg "InvalidCount")
  y_InvalidView : PySem.W.nsIn K mainGlobals "InvalidView" = some (mg "InvalidView")
  y_InvalidPicture : PySem.W.nsIn K mainGlobals "InvalidPicture" = some (mg "InvalidPicture")
  y_InvalidCurves : PySem.W.nsIn K mainGlobals "InvalidCurves" = some (mg "InvalidCurves")
  y_InvalidRow : PySem.W.nsIn K mainGlobals "InvalidRow" = some (mg "InvalidRow")
  y_InvalidLines : PySem.W.nsIn K mainGlobals "InvalidLines" = some (mg "InvalidLines")
  y_InvalidBytes : PySem.W.nsIn K mainGlobals "InvalidBytes" = some (mg "InvalidBytes")
  y_BadText : PySem.W.nsIn K mainGlobals "BadText" = some (mg "BadText")
  y_NotBounded : PySem.W.nsIn K mainGlobals "NotBounded" = some (mg "NotBounded")
  y_NothingInside : PySem.W.nsIn K mainGlobals "NothingInside" = some (mg "NothingInside")
  y_NotStraight : PySem.W.nsIn K mainGlobals "NotStraight" = some (mg "NotStraight")
  y_NothingToUndo : PySem.W.nsIn K mainGlobals "NothingToUndo" = some (mg "NothingToUndo")
  y_NothingToRedo : PySem.W.nsIn K mainGlobals "NothingToRedo" = some (mg "NothingToRedo")
  b_PlaneError : ∃ C, Lx.Ec0 K mg "PlaneError" C
  b_NotBounded : ∃ C, Lx.Ec0 K mg "NotBounded" C
  b_NothingInside : ∃ C, Lx.Ec0 K mg "NothingInside" C
  b_NotStraight : ∃ C, Lx.Ec0 K mg "NotStraight" C
  b_NothingToUndo : ∃ C, Lx.Ec0 K mg "NothingToUndo" C
  b_NothingToRedo : ∃ C, Lx.Ec0 K mg "NothingToRedo" C
  xa : Ld.XAll K XCS "PlaneError" XBT XFS
theorem j_InvalidFraction {P : Program} {w : World} {K : PySem.W.Frag} {mg : Str → Option Value} {base : Heap} {C fI : Addr} {fd : FuncData} (ec : Ec K mg "InvalidFraction" "given" s_iInvalidFraction C fI fd) : FnOk P w K mg base CX0 1 fI fd ["self", "given"] (Lx.spInit1 "given" C) := by
  refine ec.fn.ok sc_iInvalidFraction (fun vs H Q E h => ?_) (fun cdv A outer s H vs Q E hr h => ?_)
  · obtain ⟨a, v, rfl, _⟩ := h
    rfl
  obtain ⟨a, v, rfl, ha, q⟩ := h
  refine ⟨_, (pss_one (Lx.ps_ost1 (pv 0) (pv 1))), ?_⟩
  exact ⟨_, rfl, _, rfl, a, C, rfl, ec.ox, ec.no, ha, q⟩
theorem kb_InvalidFraction {K : PySem.W.Frag} {mg : Str → Option Value} {C fI : Addr} {fd : FuncData} (ec : Ec K mg "InvalidFraction" "given" s_iInvalidFraction C fI fd) (s : Shared) (us : List Value) (kin : K.In s.heap) (hl : us.length = 2) : BindsTo s fd ⟨us.take 1, (["given"] : List Str).zip (us.drop 1)⟩ ((["self", "given"] : List Str).zip us) := by
  obtain ⟨oc, od, kV, doc, pm, an, cdv, ct, osl, rfl, lk, hcd⟩ := ec.fn.ex
  match us, hl with
  | [x, y], _ => exact BindsTo.of_eq (by kernel_rfl)
theorem j_InvalidNumber {P : Program} {w : World} {K : PySem.W.Frag} {mg : Str → Option Value} {base : Heap} {C fI : Addr} {fd : FuncData} (ec : Ec K mg "InvalidNumber" "given" s_iInvalidNumber C fI fd) : FnOk P w K mg base CX0 1 fI fd ["self", "given"] (Lx.spInit1 "given" C) := by
  refine ec.fn.ok sc_iInvalidNumber (fun vs H Q E h => ?_) (fun cdv A outer s H vs Q E hr h => ?_)
  · obtain ⟨a, v, rfl, _⟩ := h
    rfl
  obtain ⟨a, v, rfl, ha, q⟩ := h
  refine ⟨_, (pss_one (Lx.ps_ost1 (pv 0) (pv 1))), ?_⟩
  exact ⟨_, rfl, _, rfl, a, C, rfl, ec.ox, ec.no, ha, q⟩
theorem kb_InvalidNumber {K : PySem.W.Frag} {mg : Str → Option Value} {C fI : Addr} {fd : FuncData} (ec : Ec K mg "InvalidNumber" "given" s_iInvalidNumber C fI fd) (s : Shared) (us : List Value) (kin : K.In s.heap) (hl : us.length = 2) : BindsTo s fd ⟨us.take 1, (["given"] : List Str).zip (us.drop 1)⟩ ((["self", "given"] : List Str).zip us) := by
  obtain ⟨oc, od, kV, doc, pm, an, cdv, ct, osl, rfl, lk, hcd⟩ := ec.fn.ex
  match us, hl with
  | [x, y], _ => exact BindsTo.of_eq (by kernel_rfl)
theorem j_InvalidPoint {P : Program} {w : World} {K : PySem.W.Frag} {mg : Str → Option Value} {base : Heap} {C fI : Addr} {fd : FuncData} (ec : Ec K mg "InvalidPoint" "given" s_iInvalidPoint C fI fd) : FnOk P w K mg base CX0 1 fI fd ["self", "given"] (Lx.spInit1 "given" C) := by
  refine ec.fn.ok sc_iInvalidPoint (fun vs H Q E h => ?_) (fun cdv A outer s H vs Q E hr h => ?_)
  · obtain ⟨a, v, rfl, _⟩ := h
    rfl
  obtain ⟨a, v, rfl, ha, q⟩ := h
  refine ⟨_, (pss_one (Lx.ps_ost1 (pv 0) (pv 1))), ?_⟩
  exact ⟨_, rfl, _, rfl, a, C, rfl, ec.ox, ec.no, ha, q⟩
theorem kb_InvalidPoint {K : PySem.W.Frag} {mg : Str → Option Value} {C fI : Addr} {fd : FuncData} (ec : Ec K mg "InvalidPoint" "given" s_iInvalidPoint C fI fd) (s : Shared) (us : List Value) (kin : K.In s.heap) (hl : us.length = 2) : BindsTo s fd ⟨us.take 1, (["given"] : List Str).zip (us.drop 1)⟩ ((["self", "given"] : List Str).zip us) := by
  obtain ⟨oc, od, kV, doc, pm, an, cdv, ct, osl, rfl, lk, hcd⟩ := ec.fn.ex
  match us, hl with
  | [x, y], _ => exact BindsTo.of_eq (by kernel_rfl)
theorem j_InvalidPlace {P : Program} {w : World} {K : PySem.W.Frag} {mg : Str → Option Value} {base : Heap} {C fI : Addr} {fd : FuncData} (ec : Ec K mg "InvalidPlace" "given" s_iInvalidPlace C fI fd) : FnOk P w K mg base CX0 1 fI fd ["self", "given"] (Lx.spInit1 "given" C) := by
  refine ec.fn.ok sc_iInvalidPlace (fun vs H Q E h => ?_) (fun cdv A outer s H vs Q E hr h => ?_)
  · obtain ⟨a, v, rfl, _⟩ := h
    rfl
  obtain ⟨a, v, rfl, ha, q⟩ := h
  refine ⟨_, (pss_one (Lx.ps_ost1 (pv 0) (pv 1))), ?_⟩
  exact ⟨_, rfl, _, rfl, a, C, rfl, ec.ox, ec.no, ha, q⟩
theorem kb_InvalidPlace {K : PySem.W.Frag} {mg : Str → Option Value} {C fI : Addr} {fd : FuncData} (ec : Ec K mg "InvalidPlace" "given" s_iInvalidPlace C fI fd) (s : Shared) (us : List Value) (kin : K.In s.heap) (hl : us.length = 2) : BindsTo s fd ⟨us.take 1, (["given"] : List Str).zip (us.drop 1)⟩ ((["self", "given"] : List Str).zip us) := by
  obtain ⟨oc, od, kV, doc, pm, an, cdv, ct, osl, rfl, lk, hcd⟩ := ec.fn.ex
  match us, hl with
  | [x, y], _ => exact BindsTo.of_eq (by kernel_rfl)
theorem j_InvalidWay {P : Program} {w : World} {K : PySem.W.Frag} {mg : Str → Option Value} {base : Heap} {C fI : Addr} {fd : FuncData} (ec : Ec K mg "InvalidWay" "given" s_iInvalidWay C fI fd) : FnOk P w K mg base CX0 1 fI fd ["self", "given"] (Lx.spInit1 "given" C) := by
  refine ec.fn.ok sc_iInvalidWay (fun vs H Q E h => ?_) (fun cdv A outer s H vs Q E hr h => ?_)
  · obtain ⟨a, v, rfl, _⟩ := h
    rfl
  obtain ⟨a, v, rfl, ha, q⟩ := h
  refine ⟨_, (pss_one (Lx.ps_ost1 (pv 0) (pv 1))), ?_⟩
  exact ⟨_, rfl, _, rfl, a, C, rfl, ec.ox, ec.no, ha, q⟩
theorem kb_InvalidWay {K : PySem.W.Frag} {mg : Str → Option Value} {C fI : Addr} {fd : FuncData} (ec : Ec K mg "InvalidWay" "given" s_iInvalidWay C fI fd) (s : Shared) (us : List Value) (kin : K.In s.heap) (hl : us.length = 2) : BindsTo s fd ⟨us.take 1, (["given"] : List Str).zip (us.drop 1)⟩ ((["self", "given"] : List Str).zip us) := by
  obtain ⟨oc, od, kV, doc, pm, an, cdv, ct, osl, rfl, lk, hcd⟩ := ec.fn.ex
  match us, hl with
  | [x, y], _ => exact BindsTo.of_eq (by kernel_rfl)
theorem j_InvalidCurve {P : Program} {w : World} {K : PySem.W.Frag} {mg : Str → Option Value} {base : Heap} {C fI : Addr} {fd : FuncData} (ec : Ec K mg "InvalidCurve" "given" s_iInvalidCurve C fI fd) : FnOk P w K mg base CX0 1 fI fd ["self", "given"] (Lx.spInit1 "given" C) := by
  refine ec.fn.ok sc_iInvalidCurve (fun vs H Q E h => ?_) (fun cdv A outer s H vs Q E hr h => ?_)
  · obtain ⟨a, v, rfl, _⟩ := h
    rfl
  obtain ⟨a, v, rfl, ha, q⟩ := h
  refine ⟨_, (pss_one (Lx.ps_ost1 (pv 0) (pv 1))), ?_⟩
  exact ⟨_, rfl, _, rfl, a, C, rfl, ec.ox, ec.no, ha, q⟩
theorem kb_InvalidCurve {K : PySem.W.Frag} {mg : Str → Option Value} {C fI : Addr} {fd : FuncData} (ec : Ec K mg "InvalidCurve" "given" s_iInvalidCurve C fI fd) (s : Shared) (us : List Value) (kin : K.In s.heap) (hl : us.length = 2) : BindsTo s fd ⟨us.take 1, (["given"] : List Str).zip (us.drop 1)⟩ ((["self", "given"] : List Str).zip us) := by
  obtain ⟨oc, od, kV, doc, pm, an, cdv, ct, osl, rfl, lk, hcd⟩ := ec.fn.ex
  match us, hl with
  | [x, y], _ => exact BindsTo.of_eq (by kernel_rfl)
theorem j_InvalidLead {P : Program} {w : World} {K : PySem.W.Frag} {mg : Str → Option Value} {base : Heap} {C fI : Addr} {fd : FuncData} (ec : Ec K mg "InvalidLead" "given" s_iInvalidLead C fI fd) : FnOk P w K mg base CX0 1 fI fd ["self", "given"] (Lx.spInit1 "given" C) := by
  refine ec.fn.ok sc_iInvalidLead (fun vs H Q E h => ?_) (fun cdv A outer s H vs Q E hr h => ?_)
  · obtain ⟨a, v, rfl, _⟩ := h
    rfl
  obtain ⟨a, v, rfl, ha, q⟩ := h
  refine ⟨_, (pss_one (Lx.ps_ost1 (pv 0) (pv 1))), ?_⟩
  exact ⟨_, rfl, _, rfl, a, C, rfl, ec.ox, ec.no, ha, q⟩
theorem kb_InvalidLead {K : PySem.W.Frag} {mg : Str → Option Value} {C fI : Addr} {fd : FuncData} (ec : Ec K mg "InvalidLead" "given" s_iInvalidLead C fI fd) (s : Shared) (us : List Value) (kin : K.In s.heap) (hl : us.length = 2) : BindsTo s fd ⟨us.take 1, (["given"] : List Str).zip (us.drop 1)⟩ ((["self", "given"] : List Str).zip us) := by
  obtain ⟨oc, od, kV, doc, pm, an, cdv, ct, osl, rfl, lk, hcd⟩ := ec.fn.ex
  match us, hl with
  | [x, y], _ => exact BindsTo.of_eq (by kernel_rfl)
theorem j_InvalidFigure {P : Program} {w : World} {K : PySem.W.Frag} {mg : Str → Option Value} {base : Heap} {C fI : Addr} {fd : FuncData} (ec : Ec K mg "InvalidFigure" "given" s_iInvalidFigure C fI fd) : FnOk P w K mg base CX0 1 fI fd ["self", "given"] (Lx.spInit1 "given" C) := by
  refine ec.fn.ok sc_iInvalidFigure (fun vs H Q E h => ?_) (fun cdv A outer s H vs Q E hr h => ?_)
  · obtain ⟨a, v, rfl, _⟩ := h
    rfl
  obtain ⟨a, v, rfl, ha, q⟩ := h
  refine ⟨_, (pss_one (Lx.ps_ost1 (pv 0) (pv 1))), ?_⟩
  exact ⟨_, rfl, _, rfl, a, C, rfl, ec.ox, ec.no, ha, q⟩
theorem kb_InvalidFigure {K : PySem.W.Frag} {mg : Str → Option Value} {C fI : Addr} {fd : FuncData} (ec : Ec K mg "InvalidFigure" "given" s_iInvalidFigure C fI fd) (s : Shared) (us : List Value) (kin : K.In s.heap) (hl : us.length = 2) : BindsTo s fd ⟨us.take 1, (["given"] : List Str).zip (us.drop 1)⟩ ((["self", "given"] : List Str).zip us) := by
  obtain ⟨oc, od, kV, doc, pm, an, cdv, ct, osl, rfl, lk, hcd⟩ := ec.fn.ex
  match us, hl with
  | [x, y], _ => exact BindsTo.of_eq (by kernel_rfl)
theorem j_InvalidSketch {P : Program} {w : World} {K : PySem.W.Frag} {mg : Str → Option Value} {base : Heap} {C fI : Addr} {fd : FuncData} (ec : Ec K mg "InvalidSketch" "given" s_iInvalidSketch C fI fd) : FnOk P w K mg base CX0 1 fI fd ["self", "given"] (Lx.spInit1 "given" C) := by
  refine ec.fn.ok sc_iInvalidSketch (fun vs H Q E h => ?_) (fun cdv A outer s H vs Q E hr h => ?_)
  · obtain ⟨a, v, rfl, _⟩ := h
    rfl
  obtain ⟨a, v, rfl, ha, q⟩ := h
  refine ⟨_, (pss_one (Lx.ps_ost1 (pv 0) (pv 1))), ?_⟩
  exact ⟨_, rfl, _, rfl, a, C, rfl, ec.ox, ec.no, ha, q⟩
theorem kb_InvalidSketch {K : PySem.W.Frag} {mg : Str → Option Value} {C fI : Addr} {fd : FuncData} (ec : Ec K mg "InvalidSketch" "given" s_iInvalidSketch C fI fd) (s : Shared) (us : List Value) (kin : K.In s.heap) (hl : us.length = 2) : BindsTo s fd ⟨us.take 1, (["given"] : List Str).zip (us.drop 1)⟩ ((["self", "given"] : List Str).zip us) := by
  obtain ⟨oc, od, kV, doc, pm, an, cdv, ct, osl, rfl, lk, hcd⟩ := ec.fn.ex
  match us, hl with
  | [x, y], _ => exact BindsTo.of_eq (by kernel_rfl)
theorem j_InvalidScene {P : Program} {w : World} {K : PySem.W.Frag} {mg : Str → Option Value} {base : Heap} {C fI : Addr} {fd : FuncData} (ec : Ec K mg "InvalidScene" "given" s_iInvalidScene C fI fd) : FnOk P w K mg base CX0 1 fI fd ["self", "given"] (Lx.spInit1 "given" C) := by
  refine ec.fn.ok sc_iInvalidScene (fun vs H Q E h => ?_) (fun cdv A outer s H vs Q E hr h => ?_)
  · obtain ⟨a, v, rfl, _⟩ := h
    rfl
  obtain ⟨a, v, rfl, ha, q⟩ := h
  refine ⟨_, (pss_one (Lx.ps_ost1 (pv 0) (pv 1))), ?_⟩
  exact ⟨_, rfl, _, rfl, a, C, rfl, ec.ox, ec.no, ha, q⟩
theorem kb_InvalidScene {K : PySem.W.Frag} {mg : Str → Option Value} {C fI : Addr} {fd : FuncData} (ec : Ec K mg "InvalidScene" "given" s_iInvalidScene C fI fd) (s : Shared) (us : List Value) (kin : K.In s.heap) (hl : us.length = 2) : BindsTo s fd ⟨us.take 1, (["given"] : List Str).zip (us.drop 1)⟩ ((["self", "given"] : List Str).zip us) := by
  obtain ⟨oc, od, kV, doc, pm, an, cdv, ct, osl, rfl, lk, hcd⟩ := ec.fn.ex
  match us, hl with
  | [x, y], _ => exact BindsTo.of_eq (by kernel_rfl)
theorem j_InvalidName {P : Program} {w : World} {K : PySem.W.Frag} {mg : Str → Option Value} {base : Heap} {C fI : Addr} {fd : FuncData} (ec : Ec K mg "InvalidName" "given" s_iInvalidName C fI fd) : FnOk P w K mg base CX0 1 fI fd ["self", "given"] (Lx.spInit1 "given" C) := by
  refine ec.fn.ok sc_iInvalidName (fun vs H Q E h => ?_) (fun cdv A outer s H vs Q E hr h => ?_)
  · obtain ⟨a, v, rfl, _⟩ := h
    rfl
  obtain ⟨a, v, rfl, ha, q⟩ := h
  refine ⟨_, (pss_one (Lx.ps_ost1 (pv 0) (pv 1))), ?_⟩
  exact ⟨_, rfl, _, rfl, a, C, rfl, ec.ox, ec.no, ha, q⟩
theorem kb_InvalidName {K : PySem.W.Frag} {mg : Str → Option Value} {C fI : Addr} {fd : FuncData} (ec : Ec K mg "InvalidName" "given" s_iInvalidName C fI fd) (s : Shared) (us : List Value) (kin : K.In s.heap) (hl : us.length = 2) : BindsTo s fd ⟨us.take 1, (["given"] : List Str).zip (us.drop 1)⟩ ((["self", "given"] : List Str).zip us) := by
  obtain ⟨oc, od, kV, doc, pm, an, cdv, ct, osl, rfl, lk, hcd⟩ := ec.fn.ex
  match us, hl with
  | [x, y], _ => exact BindsTo.of_eq (by kernel_rfl)
theorem j_UnknownName {P : Program} {w : World} {K : PySem.W.Frag} {mg : Str → Option Value} {base : Heap} {C fI : Addr} {fd : FuncData} (ec : Ec K mg "UnknownName" "given" s_iUnknownName C fI fd) : FnOk P w K mg base CX0 1 fI fd ["self", "given"] (Lx.spInit1 "given" C) := by
  refine ec.fn.ok sc_iUnknownName (fun vs H Q E h => ?_) (fun cdv A outer s H vs Q E hr h => ?_)
  · obtain ⟨a, v, rfl, _⟩ := h
    rfl
  obtain ⟨a, v, rfl, ha, q⟩ := h
  refine ⟨_, (pss_one (Lx.ps_ost1 (pv 0) (pv 1))), ?_⟩
  exact ⟨_, rfl, _, rfl, a, C, rfl, ec.ox, ec.no, ha, q⟩
theorem kb_UnknownName {K : PySem.W.Frag} {mg : Str → Option Value} {C fI : Addr} {fd : FuncData} (ec : Ec K mg "UnknownName" "given" s_iUnknownName C fI fd) (s : Shared) (us : List Value) (kin : K.In s.heap) (hl : us.length = 2) : BindsTo s fd ⟨us.take 1, (["given"] : List Str).zip (us.drop 1)⟩ ((["self", "given"] : List Str).zip us) := by
  obtain ⟨oc, od, kV, doc, pm, an, cdv, ct, osl, rfl, lk, hcd⟩ := ec.fn.ex
  match us, hl with
  | [x, y], _ => exact BindsTo.of_eq (by kernel_rfl)
theorem j_NameTaken {P : Program} {w : World} {K : PySem.W.Frag} {mg : Str → Option Value} {base : Heap} {C fI : Addr} {fd : FuncData} (ec : Ec K mg "NameTaken" "given" s_iNameTaken C fI fd) : FnOk P w K mg base CX0 1 fI fd ["self", "given"] (Lx.spInit1 "given" C) := by
  refine ec.fn.ok sc_iNameTaken (fun vs H Q E h => ?_) (fun cdv A outer s H vs Q E hr h => ?_)
  · obtain ⟨a, v, rfl, _⟩ := h
    rfl
  obtain ⟨a, v, rfl, ha, q⟩ := h
  refine ⟨_, (pss_one (Lx.ps_ost1 (pv 0) (pv 1))), ?_⟩
  exact ⟨_, rfl, _, rfl, a, C, rfl, ec.ox, ec.no, ha, q⟩
theorem kb_NameTaken {K : PySem.W.Frag} {mg : Str → Option Value} {C fI : Addr} {fd : FuncData} (ec : Ec K mg "NameTaken" "given" s_iNameTaken C fI fd) (s : Shared) (us : List Value) (kin : K.In s.heap) (hl : us.length = 2) : BindsTo s fd ⟨us.take 1, (["given"] : List Str).zip (us.drop 1)⟩ ((["self", "given"] : List Str).zip us) := by
  obtain ⟨oc, od, kV, doc, pm, an, cdv, ct, osl, rfl, lk, hcd⟩ := ec.fn.ex
  match us, hl with
  | [x, y], _ => exact BindsTo.of_eq (by kernel_rfl)
theorem j_InUse {P : Program} {w : World} {K : PySem.W.Frag} {mg : Str → Option Value} {base : Heap} {C fI : Addr} {fd : FuncData} (ec : Ec K mg "InUse" "given" s_iInUse C fI fd) : FnOk P w K mg base CX0 1 fI fd ["self", "given"] (Lx.spInit1 "given" C) := by
  refine ec.fn.ok sc_iInUse (fun vs H Q E h => ?_) (fun cdv A outer s H vs Q E hr h => ?_)
  · obtain ⟨a, v, rfl, _⟩ := h
    rfl
  obtain ⟨a, v, rfl, ha, q⟩ := h
  refine ⟨_, (pss_one (Lx.ps_ost1 (pv 0) (pv 1))), ?_⟩
  exact ⟨_, rfl, _, rfl, a, C, rfl, ec.ox, ec.no, ha, q⟩
theorem kb_InUse {K : PySem.W.Frag} {mg : Str → Option Value} {C fI : Addr} {fd : FuncData} (ec : Ec K mg "InUse" "given" s_iInUse C fI fd) (s : Shared) (us : List Value) (kin : K.In s.heap) (hl : us.length = 2) : BindsTo s fd ⟨us.take 1, (["given"] : List Str).zip (us.drop 1)⟩ ((["self", "given"] : List Str).zip us) := by
  obtain ⟨oc, od, kV, doc, pm, an, cdv, ct, osl, rfl, lk, hcd⟩ := ec.fn.ex
  match us, hl with
  | [x, y], _ => exact BindsTo.of_eq (by kernel_rfl)
theorem j_ComesRound {P : Program} {w : World} {K : PySem.W.Frag} {mg : Str → Option Value} {base : Heap} {C fI : Addr} {fd : FuncData} (ec : Ec K mg "ComesRound" "given" s_iComesRound C fI fd) : FnOk P w K mg base CX0 1 fI fd ["self", "given"] (Lx.spInit1 "given" C) := by
  refine ec.fn.ok sc_iComesRound (fun vs H Q E h => ?_) (fun cdv A outer s H vs Q E hr h => ?_)
  · obtain ⟨a, v, rfl, _⟩ := h
    rfl
  obtain ⟨a, v, rfl, ha, q⟩ := h
  refine ⟨_, (pss_one (Lx.ps_ost1 (pv 0) (pv 1))), ?_⟩
  exact ⟨_, rfl, _, rfl, a, C, rfl, ec.ox, ec.no, ha, q⟩
theorem kb_ComesRound {K : PySem.W.Frag} {mg : Str → Option Value} {C fI : Addr} {fd : FuncData} (ec : Ec K mg "ComesRound" "given" s_iComesRound C fI fd) (s : Shared) (us : List Value) (kin : K.In s.heap) (hl : us.length = 2) : BindsTo s fd ⟨us.take 1, (["given"] : List Str).zip (us.drop 1)⟩ ((["self", "given"] : List Str).zip us) := by
  obtain ⟨oc, od, kV, doc, pm, an, cdv, ct, osl, rfl, lk, hcd⟩ := ec.fn.ex
  match us, hl with
  | [x, y], _ => exact BindsTo.of_eq (by kernel_rfl)
theorem j_TooDeep {P : Program} {w : World} {K : PySem.W.Frag} {mg : Str → Option Value} {base : Heap} {C fI : Addr} {fd : FuncData} (ec : Ec K mg "TooDeep" "given" s_iTooDeep C fI fd) : FnOk P w K mg base CX0 1 fI fd ["self", "given"] (Lx.spInit1 "given" C) := by
  refine ec.fn.ok sc_iTooDeep (fun vs H Q E h => ?_) (fun cdv A outer s H vs Q E hr h => ?_)
  · obtain ⟨a, v, rfl, _⟩ := h
    rfl
  obtain ⟨a, v, rfl, ha, q⟩ := h
  refine ⟨_, (pss_one (Lx.ps_ost1 (pv 0) (pv 1))), ?_⟩
  exact ⟨_, rfl, _, rfl, a, C, rfl, ec.ox, ec.no, ha, q⟩
theorem kb_TooDeep {K : PySem.W.Frag} {mg : Str → Option Value} {C fI : Addr} {fd : FuncData} (ec : Ec K mg "TooDeep" "given" s_iTooDeep C fI fd) (s : Shared) (us : List Value) (kin : K.In s.heap) (hl : us.length = 2) : BindsTo s fd ⟨us.take 1, (["given"] : List Str).zip (us.drop 1)⟩ ((["self", "given"] : List Str).zip us) := by
  obtain ⟨oc, od, kV, doc, pm, an, cdv, ct, osl, rfl, lk, hcd⟩ := ec.fn.ex
  match us, hl with
  | [x, y], _ => exact BindsTo.of_eq (by kernel_rfl)
theorem j_TooMany {P : Program} {w : World} {K : PySem.W.Frag} {mg : Str → Option Value} {base : Heap} {C fI : Addr} {fd : FuncData} (ec : Ec K mg "TooMany" "given" s_iTooMany C fI fd) : FnOk P w K mg base CX0 1 fI fd ["self", "given"] (Lx.spInit1 "given" C) := by
  refine ec.fn.ok sc_iTooMany (fun vs H Q E h => ?_) (fun cdv A outer s H vs Q E hr h => ?_)
  · obtain ⟨a, v, rfl, _⟩ := h
    rfl
  obtain ⟨a, v, rfl, ha, q⟩ := h
  refine ⟨_, (pss_one (Lx.ps_ost1 (pv 0) (pv 1))), ?_⟩
  exact ⟨_, rfl, _, rfl, a, C, rfl, ec.ox, ec.no, ha, q⟩
theorem kb_TooMany {K : PySem.W.Frag} {mg : Str → Option Value} {C fI : Addr} {fd : FuncData} (ec : Ec K mg "TooMany" "given" s_iTooMany C fI fd) (s : Shared) (us : List Value) (kin : K.In s.heap) (hl : us.length = 2) : BindsTo s fd ⟨us.take 1, (["given"] : List Str).zip (us.drop 1)⟩ ((["self", "given"] : List Str).zip us) := by
  obtain ⟨oc, od, kV, doc, pm, an, cdv, ct, osl, rfl, lk, hcd⟩ := ec.fn.ex
  match us, hl with
  | [x, y], _ => exact BindsTo.of_eq (by kernel_rfl)
theorem j_InvalidIndex {P : Program} {w : World} {K : PySem.W.Frag} {mg : Str → Option Value} {base : Heap} {C fI : Addr} {fd : FuncData} (ec : Ec K mg "InvalidIndex" "given" s_iInvalidIndex C fI fd) : FnOk P w K mg base CX0 1 fI fd ["self", "given"] (Lx.spInit1 "given" C) := by
  refine ec.fn.ok sc_iInvalidIndex (fun vs H Q E h => ?_) (fun cdv A outer s H vs Q E hr h => ?_)
  · obtain ⟨a, v, rfl, _⟩ := h
    rfl
  obtain ⟨a, v, rfl, ha, q⟩ := h
  refine ⟨_, (pss_one (Lx.ps_ost1 (pv 0) (pv 1))), ?_⟩
  exact ⟨_, rfl, _, rfl, a, C, rfl, ec.ox, ec.no, ha, q⟩
theorem kb_InvalidIndex {K : PySem.W.Frag} {mg : Str → Option Value} {C fI : Addr} {fd : FuncData} (ec : Ec K mg "InvalidIndex" "given" s_iInvalidIndex C fI fd) (s : Shared) (us : List Value) (kin : K.In s.heap) (hl : us.length = 2) : BindsTo s fd ⟨us.take 1, (["given"] : List Str).zip (us.drop 1)⟩ ((["self", "given"] : List Str).zip us) := by
  obtain ⟨oc, od, kV, doc, pm, an, cdv, ct, osl, rfl, lk, hcd⟩ := ec.fn.ex
  match us, hl with
  | [x, y], _ => exact BindsTo.of_eq (by kernel_rfl)
theorem j_InvalidCount {P : Program} {w : World} {K : PySem.W.Frag} {mg : Str → Option Value} {base : Heap} {C fI : Addr} {fd : FuncData} (ec : Ec K mg "InvalidCount" "given" s_iInvalidCount C fI fd) : FnOk P w K mg base CX0 1 fI fd ["self", "given"] (Lx.spInit1 "given" C) := by
  refine ec.fn.ok sc_iInvalidCount (fun vs H Q E h => ?_) (fun cdv A outer s H vs Q E hr h => ?_)
  · obtain ⟨a, v, rfl, _⟩ := h
    rfl
  obtain ⟨a, v, rfl, ha, q⟩ := h
  refine ⟨_, (pss_one (Lx.ps_ost1 (pv 0) (pv 1))), ?_⟩
  exact ⟨_, rfl, _, rfl, a, C, rfl, ec.ox, ec.no, ha, q⟩
theorem kb_InvalidCount {K : PySem.W.Frag} {mg : Str → Option Value} {C fI : Addr} {fd : FuncData} (ec : Ec K mg "InvalidCount" "given" s_iInvalidCount C fI fd) (s : Shared) (us : List Value) (kin : K.In s.heap) (hl : us.length = 2) : BindsTo s fd ⟨us.take 1, (["given"] : List Str).zip (us.drop 1)⟩ ((["self", "given"] : List Str).zip us) := by
  obtain ⟨oc, od, kV, doc, pm, an, cdv, ct, osl, rfl, lk, hcd⟩ := ec.fn.ex
  match us, hl with
  | [x, y], _ => exact BindsTo.of_eq (by kernel_rfl)
theorem j_InvalidView {P : Program} {w : World} {K : PySem.W.Frag} {mg : Str → Option Value} {base : Heap} {C fI : Addr} {fd : FuncData} (ec : Ec K mg "InvalidView" "given" s_iInvalidView C fI fd) : FnOk P w K mg base CX0 1 fI fd ["self", "given"] (Lx.spInit1 "given" C) := by
  refine ec.fn.ok sc_iInvalidView (fun vs H Q E h => ?_) (fun cdv A outer s H vs Q E hr h => ?_)
  · obtain ⟨a, v, rfl, _⟩ := h
    rfl
  obtain ⟨a, v, rfl, ha, q⟩ := h
  refine ⟨_, (pss_one (Lx.ps_ost1 (pv 0) (pv 1))), ?_⟩
  exact ⟨_, rfl, _, rfl, a, C, rfl, ec.ox, ec.no, ha, q⟩
theorem kb_InvalidView {K : PySem.W.Frag} {mg : Str → Option Value} {C fI : Addr} {fd : FuncData} (ec : Ec K mg "InvalidView" "given" s_iInvalidView C fI fd) (s : Shared) (us : List Value) (kin : K.In s.heap) (hl : us.length = 2) : BindsTo s fd ⟨us.take 1, (["given"] : List Str).zip (us.drop 1)⟩ ((["self", "given"] : List Str).zip us) := by
  obtain ⟨oc, od, kV, doc, pm, an, cdv, ct, osl, rfl, lk, hcd⟩ := ec.fn.ex
  match us, hl with
  | [x, y], _ => exact BindsTo.of_eq (by kernel_rfl)
theorem j_InvalidPicture {P : Program} {w : World} {K : PySem.W.Frag} {mg : Str → Option Value} {base : Heap} {C fI : Addr} {fd : FuncData} (ec : Ec K mg "InvalidPicture" "given" s_iInvalidPicture C fI fd) : FnOk P w K mg base CX0 1 fI fd ["self", "given"] (Lx.spInit1 "given" C) := by
  refine ec.fn.ok sc_iInvalidPicture (fun vs H Q E h => ?_) (fun cdv A outer s H vs Q E hr h => ?_)
  · obtain ⟨a, v, rfl, _⟩ := h
    rfl
  obtain ⟨a, v, rfl, ha, q⟩ := h
  refine ⟨_, (pss_one (Lx.ps_ost1 (pv 0) (pv 1))), ?_⟩
  exact ⟨_, rfl, _, rfl, a, C, rfl, ec.ox, ec.no, ha, q⟩
theorem kb_InvalidPicture {K : PySem.W.Frag} {mg : Str → Option Value} {C fI : Addr} {fd : FuncData} (ec : Ec K mg "InvalidPicture" "given" s_iInvalidPicture C fI fd) (s : Shared) (us : List Value) (kin : K.In s.heap) (hl : us.length = 2) : BindsTo s fd ⟨us.take 1, (["given"] : List Str).zip (us.drop 1)⟩ ((["self", "given"] : List Str).zip us) := by
  obtain ⟨oc, od, kV, doc, pm, an, cdv, ct, osl, rfl, lk, hcd⟩ := ec.fn.ex
  match us, hl with
  | [x, y], _ => exact BindsTo.of_eq (by kernel_rfl)
theorem j_InvalidCurves {P : Program} {w : World} {K : PySem.W.Frag} {mg : Str → Option Value} {base : Heap} {C fI : Addr} {fd : FuncData} (ec : Ec K mg "InvalidCurves" "index" s_iInvalidCurves C fI fd) : FnOk P w K mg base CX0 1 fI fd ["self", "index"] (Lx.spInit1 "index" C) := by
  refine ec.fn.ok sc_iInvalidCurves (fun vs H Q E h => ?_) (fun cdv A outer s H vs Q E hr h => ?_)
  · obtain ⟨a, v, rfl, _⟩ := h
    rfl
  obtain ⟨a, v, rfl, ha, q⟩ := h
  refine ⟨_, (pss_one (Lx.ps_ost1 (pv 0) (pv 1))), ?_⟩
  exact ⟨_, rfl, _, rfl, a, C, rfl, ec.ox, ec.no, ha, q⟩
theorem kb_InvalidCurves {K : PySem.W.Frag} {mg : Str → Option Value} {C fI : Addr} {fd : FuncData} (ec : Ec K mg "InvalidCurves" "index" s_iInvalidCurves C fI fd) (s : Shared) (us : List Value) (kin : K.In s.heap) (hl : us.length = 2) : BindsTo s fd ⟨us.take 1, (["index"] : List Str).zip (us.drop 1)⟩ ((["self", "index"] : List Str).zip us) := by
  obtain ⟨oc, od, kV, doc, pm, an, cdv, ct, osl, rfl, lk, hcd⟩ := ec.fn.ex
  match us, hl with
  | [x, y], _ => exact BindsTo.of_eq (by kernel_rfl)
theorem j_InvalidRow {P : Program} {w : World} {K : PySem.W.Frag} {mg : Str → Option Value} {base : Heap} {C fI : Addr} {fd : FuncData} (ec : Ec K mg "InvalidRow" "index" s_iInvalidRow C fI fd) : FnOk P w K mg base CX0 1 fI fd ["self", "index"] (Lx.spInit1 "index" C) := by
  refine ec.fn.ok sc_iInvalidRow (fun vs H Q E h => ?_) (fun cdv A outer s H vs Q E hr h => ?_)
  · obtain ⟨a, v, rfl, _⟩ := h
    rfl
  obtain ⟨a, v, rfl, ha, q⟩ := h
  refine ⟨_, (pss_one (Lx.ps_ost1 (pv 0) (pv 1))), ?_⟩
  exact ⟨_, rfl, _, rfl, a, C, rfl, ec.ox, ec.no, ha, q⟩
theorem kb_InvalidRow {K : PySem.W.Frag} {mg : Str → Option Value} {C fI : Addr} {fd : FuncData} (ec : Ec K mg "InvalidRow" "index" s_iInvalidRow C fI fd) (s : Shared) (us : List Value) (kin : K.In s.heap) (hl : us.length = 2) : BindsTo s fd ⟨us.take 1, (["index"] : List Str).zip (us.drop 1)⟩ ((["self", "index"] : List Str).zip us) := by
  obtain ⟨oc, od, kV, doc, pm, an, cdv, ct, osl, rfl, lk, hcd⟩ := ec.fn.ex
  match us, hl with
  | [x, y], _ => exact BindsTo.of_eq (by kernel_rfl)
theorem j_InvalidLines {P : Program} {w : World} {K : PySem.W.Frag} {mg : Str → Option Value} {base : Heap} {C fI : Addr} {fd : FuncData} (ec : Ec K mg "InvalidLines" "index" s_iInvalidLines C fI fd) : FnOk P w K mg base CX0 1 fI fd ["self", "index"] (Lx.spInit1 "index" C) := by
  refine ec.fn.ok sc_iInvalidLines (fun vs H Q E h => ?_) (fun cdv A outer s H vs Q E hr h => ?_)
  · obtain ⟨a, v, rfl, _⟩ := h
    rfl
  obtain ⟨a, v, rfl, ha, q⟩ := h
  refine ⟨_, (pss_one (Lx.ps_ost1 (pv 0) (pv 1))), ?_⟩
  exact ⟨_, rfl, _, rfl, a, C, rfl, ec.ox, ec.no, ha, q⟩
theorem kb_InvalidLines {K : PySem.W.Frag} {mg : Str → Option Value} {C fI : Addr} {fd : FuncData} (ec : Ec K mg "InvalidLines" "index" s_iInvalidLines C fI fd) (s : Shared) (us : List Value) (kin : K.In s.heap) (hl : us.length = 2) : BindsTo s fd ⟨us.take 1, (["index"] : List Str).zip (us.drop 1)⟩ ((["self", "index"] : List Str).zip us) := by
  obtain ⟨oc, od, kV, doc, pm, an, cdv, ct, osl, rfl, lk, hcd⟩ := ec.fn.ex
  match us, hl with
  | [x, y], _ => exact BindsTo.of_eq (by kernel_rfl)
theorem j_InvalidBytes {P : Program} {w : World} {K : PySem.W.Frag} {mg : Str → Option Value} {base : Heap} {C fI : Addr} {fd : FuncData} (ec : Ec K mg "InvalidBytes" "index" s_iInvalidBytes C fI fd) : FnOk P w K mg base CX0 1 fI fd ["self", "index"] (Lx.spInit1 "index" C) := by
  refine ec.fn.ok sc_iInvalidBytes (fun vs H Q E h => ?_) (fun cdv A outer s H vs Q E hr h => ?_)
  · obtain ⟨a, v, rfl, _⟩ := h
    rfl
  obtain ⟨a, v, rfl, ha, q⟩ := h
  refine ⟨_, (pss_one (Lx.ps_ost1 (pv 0) (pv 1))), ?_⟩
  exact ⟨_, rfl, _, rfl, a, C, rfl, ec.ox, ec.no, ha, q⟩
theorem kb_InvalidBytes {K : PySem.W.Frag} {mg : Str → Option Value} {C fI : Addr} {fd : FuncData} (ec : Ec K mg "InvalidBytes" "index" s_iInvalidBytes C fI fd) (s : Shared) (us : List Value) (kin : K.In s.heap) (hl : us.length = 2) : BindsTo s fd ⟨us.take 1, (["index"] : List Str).zip (us.drop 1)⟩ ((["self", "index"] : List Str).zip us) := by
  obtain ⟨oc, od, kV, doc, pm, an, cdv, ct, osl, rfl, lk, hcd⟩ := ec.fn.ex
  match us, hl with
  | [x, y], _ => exact BindsTo.of_eq (by kernel_rfl)
theorem j_BadText {P : Program} {w : World} {K : PySem.W.Frag} {mg : Str → Option Value} {base : Heap} {C fI : Addr} {fd : FuncData} (ec : Ec K mg "BadText" "spot" s_iBadText C fI fd) : FnOk P w K mg base CX0 1 fI fd ["self", "spot"] (Lx.spInit1 "spot" C) := by
  refine ec.fn.ok sc_iBadText (fun vs H Q E h => ?_) (fun cdv A outer s H vs Q E hr h => ?_)
  · obtain ⟨a, v, rfl, _⟩ := h
    rfl
  obtain ⟨a, v, rfl, ha, q⟩ := h
  refine ⟨_, (pss_one (Lx.ps_ost1 (pv 0) (pv 1))), ?_⟩
  exact ⟨_, rfl, _, rfl, a, C, rfl, ec.ox, ec.no, ha, q⟩
theorem kb_BadText {K : PySem.W.Frag} {mg : Str → Option Value} {C fI : Addr} {fd : FuncData} (ec : Ec K mg "BadText" "spot" s_iBadText C fI fd) (s : Shared) (us : List Value) (kin : K.In s.heap) (hl : us.length = 2) : BindsTo s fd ⟨us.take 1, (["spot"] : List Str).zip (us.drop 1)⟩ ((["self", "spot"] : List Str).zip us) := by
  obtain ⟨oc, od, kV, doc, pm, an, cdv, ct, osl, rfl, lk, hcd⟩ := ec.fn.ex
  match us, hl with
  | [x, y], _ => exact BindsTo.of_eq (by kernel_rfl)
end My

namespace My
open PySem L2 Lw
local macro_rules | `(tactic| walk_at "side") => `(tactic| first | decide | omega | (exact .inl ⟨by decide, by decide⟩) | (exact .inr ⟨by decide, by decide⟩) | (exact .inl ⟨by omega, by omega⟩) | (exact .inr ⟨by omega, by omega⟩) | (exact ⟨by decide, by decide⟩) | (exact ⟨by omega, by omega⟩))
local macro_rules | `(tactic| walk_at "go1") => `(tactic| first
  | (refine ⟨_, _, rfl, rfl, ?_⟩)
  | (refine ⟨_, rfl, ?_⟩)
  | (refine And.intro (by walk_at "side") ?_)
  | (refine .inl ⟨_, rfl, ?_⟩)
  | (refine iteT ?_) | (refine iteF ?_))
local macro_rules | `(tactic| walk_at "go") => `(tactic| repeat (walk_at "go1"))
section
variable {P : Program} {w : World} {K : PySem.W.Frag} {mg : Str → Option Value} {base : Heap}
/-- well(script, at): a new list of three ints, the first from 0 on -/
def spWell (K : PySem.W.Frag) : Sp := fun vs H Q _ => ∃ (a : Addr) (ns : List Int) (i : Int), vs = [.ref a, .int i] ∧ SqL K H a (ns.map V.int) ∧ 0 ≤ i ∧ i < 1000 ∧
  ∀ p H', Same H H' → p ≠ sysModules → H p = none → WellAt H' p → Q (.ref p) H'
theorem cut_ints (ns : List Int) (lo hi : Option Int) : ∃ ms : List Int, cutV (ns.map V.int) lo hi = ms.map V.int := by
  refine ⟨(ns.drop (HT.sIx ns.length 0 lo)).take (HT.sIx ns.length ns.length hi - HT.sIx ns.length 0 lo), ?_⟩
  unfold cutV
  rw [List.length_map, List.map_take, List.map_drop]
theorem int_at {ns : List Int} {i : Nat} {y : V} (h : (ns.map V.int)[i]? = some y) : ∃ z : Int, y = .int z := by
  rw [List.getElem?_map] at h
  cases e : ns[i]? with
  | none => rw [e] at h; cases h
  | some z =>
    rw [e] at h
    exact ⟨z, (Option.some.inj h).symm⟩
theorem at_ints {ns : List Int} {i : Int} (h0 : 0 ≤ i) (h : i < ns.length) : ∃ z : Int, atI (ns.map V.int) i = some (.int z) := by
  have hi : i.toNat < ns.length := by omega
  refine ⟨ns[i.toNat], ?_⟩
  have e : i = ((i.toNat : Nat) : Int) := by omega
  refine at_of e ?_
  rw [List.getElem?_map, List.getElem?_eq_getElem hi]
  all_goals rfl
theorem c_l_well (T : Top K mg) : Cl CX0 P w K mg base 1 "_law_well" (spWell K) := by
  refine T.d_l_well.cal sc_l_well (fun vs H Q E h => ?_) (fun f cdv A outer s H vs Q E hr hg h => ?_)
  · obtain ⟨a, ns, i, rfl, _⟩ := h
    rfl
  obtain ⟨a, ns, i, rfl, hS, h0, h1, q⟩ := h
  refine ⟨_, (pss_cons (ps_set (i := 2) sc_l_well.nd rfl (Or.inl rfl) (pe_op op_add pe_int (pe_op op_mul pe_int (pv 1)))) (pss_cons (ps_for PassesOwn.never rfl (pi_list (pe_slice sl_list (pv 0) po_none (po_some pe_int))) (pg_name (i := 3) sc_l_well.nd rfl (Or.inl rfl)) (pss_one (ps_set (i := 2) sc_l_well.nd rfl (Or.inl rfl) (pe_op op_mod (pe_callTy call_int1 rfl T.z_int (by decide +kernel) (pa_cons (pe_op op_add (pe_op op_add (pe_op op_mul (pv 2) pe_int) (pe_op op_mod (pe_callTy call_int1 rfl T.z_int (by decide +kernel) (pa_cons (pv 3) pa_nil)) pe_int)) pe_int) pa_nil)) pe_int)))) (pss_cons (ps_set (i := 4) sc_l_well.nd rfl (Or.inl rfl) (pe_ifExp (pt_cmpR op_lt (pv 1) (pe_callB call_len_seq rfl T.z_len (by decide +kernel) (pa_cons (pv 0) pa_nil)) (nomark _)) (pe_callTy call_int1 rfl T.z_int (by decide +kernel) (pa_cons (pe_ix ix_list (pv 0) (pv 1) (fun _ _ => rfl)) pa_nil)) pe_int)) (pss_cons (ps_set (i := 2) sc_l_well.nd rfl (Or.inl rfl) (pe_op op_mod (pe_callTy call_int1 rfl T.z_int (by decide +kernel) (pa_cons (pe_op op_add (pe_op op_add (pe_op op_mul (pv 2) pe_int) (pe_op op_mul (pe_op op_mod (pe_callTy call_int1 rfl T.z_int (by decide +kernel) (pa_cons (pv 4) pa_nil)) pe_int) pe_int)) pe_int) pa_nil)) pe_int)) (pss_one (ps_ret (pe_list (pa_cons (pe_ifExp (PW.pt (pw_or (pt_cmpR op_lt (pv 4) pe_int (nomark _)) (pw_or1 (pt_cmpR op_ge (pv 4) (pe_op op_pow pe_int pe_int) (nomark _))))) (pe_callB call_abs rfl T.z_abs (by decide +kernel) (pa_cons (pv 4) pa_nil)) pe_int) (pa_cons (pv 2) (pa_cons pe_int pa_nil)))))))))), ?_⟩
  walk_at "go"
  refine ⟨a, _, rfl, hS, fun p hp => ?_⟩
  obtain ⟨ms, hms⟩ := cut_ints ns none (some 9)
  rw [hms]
  refine ⟨p, rfl, ⟨_, SqL.of upd_same⟩, for_list (K := K) (a := p) (xs := ms.map V.int) (fun _ σ H2 => ∃ (m : Int) (v : Option V), σ = [some (.ref a), some (.int i), some (.int m), v, none] ∧ H2 = upd H p (.lst (ms.map V.int)))
    ⟨_, none, rfl, rfl⟩ (fun _ σ H2 _ ⟨_, _, _, e⟩ => by rw [e]; exact SqL.of upd_same) ?_ ?_⟩
  · rintro j y σ H2 hj ⟨m, v, rfl, rfl⟩
    obtain ⟨z, rfl⟩ := int_at hj
    walk_at "go"
    exact ⟨_, _, rfl, rfl⟩
  · rintro σ H2 ⟨m, v, rfl, rfl⟩
    have k1 : Same H (upd H p (.lst (ms.map V.int))) := same_new hp _
    generalize hH : upd H p (.lst (ms.map V.int)) = H1 at k1
    have hS1 : SqL K H1 a (ns.map V.int) := k1.seq hS
    walk_at "go"
    refine ⟨_, _, rfl, .inl hS1, ?_⟩
    walk_at "go"
    refine tst (fun c => ?x) (fun c => ?y)
    case' x =>
      have c' : i < ns.length := by simpa using c
      obtain ⟨z, hz⟩ := at_ints h0 c'
      walk_at "go"
      refine ⟨a, _, _, _, rfl, rfl, hS1, hz, ?_⟩
      walk_at "go"
    case y =>
      walk_at "go"
      refine ⟨short3, fun r hr2 np => ?_⟩
      exact q r _ (k1.trans (same_new hr2 _)) np (k1.free hr2) ⟨_, _, _, upd_same, Int.le_refl 0⟩
    · refine tst (fun c2 => ?_) (fun c2 => ?_)
      · walk_at "go"
        refine ⟨short3, fun r hr2 np => ?_⟩
        refine q r _ (k1.trans (same_new hr2 _)) np (k1.free hr2) ⟨_, _, _, upd_same, ?_⟩
        split <;> omega
      · walk_at "go"
        refine tst (fun c3 => ?_) (fun c3 => ?_)
        · walk_at "go"
          refine ⟨short3, fun r hr2 np => ?_⟩
          refine q r _ (k1.trans (same_new hr2 _)) np (k1.free hr2) ⟨_, _, _, upd_same, ?_⟩
          split <;> omega
        · walk_at "go"
          refine ⟨short3, fun r hr2 np => ?_⟩
          exact q r _ (k1.trans (same_new hr2 _)) np (k1.free hr2) ⟨_, _, _, upd_same, Int.le_refl 0⟩
end
end My

namespace My
open PySem L2 Lw
local macro_rules | `(tactic| walk_at "side") => `(tactic| first | decide | omega | (exact .inl ⟨by decide, by decide⟩) | (exact .inr ⟨by decide, by decide⟩) | (exact .inl ⟨by omega, by omega⟩) | (exact .inr ⟨by omega, by omega⟩) | (exact ⟨by decide, by decide⟩) | (exact ⟨by omega, by omega⟩))
local macro_rules | `(tactic| walk_at "go1") => `(tactic| first
  | (refine ⟨_, _, rfl, rfl, ?_⟩)
  | (refine ⟨_, rfl, ?_⟩)
  | (refine And.intro (by walk_at "side") ?_)
  | (refine .inl ⟨_, rfl, ?_⟩)
  | (refine iteT ?_) | (refine iteF ?_))
local macro_rules | `(tactic| walk_at "go") => `(tactic| repeat (walk_at "go1"))
section
variable {P : Program} {w : World} {K : PySem.W.Frag} {mg : Str → Option Value} {base : Heap}
/-- draw(well, many): a number from 0 up to below many -/
def spDraw : Sp := fun vs H Q _ => ∃ (p : Addr) (n : Int), vs = [.ref p, .int n] ∧ WellAt H p ∧ 0 < n ∧ n < 2 ^ 64 ∧ ∀ (k : Int) (H' : Hp), 0 ≤ k → k < n → After p H H' → Q (.int k) H'
theorem well_put {H : Hp} {p : Addr} {a m c a' m' c' : Int} (h : H p = some (.lst [.int a, .int m, .int c])) (ha : 0 ≤ a') : After p H (upd H p (.lst [.int a', .int m', .int c'])) :=
  ⟨⟨fun b u n q => by rw [upd_ne fun z => n (.inl z)]; exact q, fun b xs q => by rw [upd_ne (ne_of q h (by intro z; cases z))]; exact q⟩, ⟨_, _, _, upd_same, ha⟩, fun b u n q => by rw [upd_ne n]; exact q⟩
theorem c_l_draw (T : Top K mg) : Cl CX0 P w K mg base 1 "_law_draw" spDraw := by
  refine T.d_l_draw.cal sc_l_draw (fun vs H Q E h => ?_) (fun f cdv A outer s H vs Q E hr hg h => ?_)
  · obtain ⟨p, n, rfl, _⟩ := h
    rfl
  obtain ⟨p, n, rfl, hW, hn, hn2, q⟩ := h
  obtain ⟨a, m, c, hp, ha⟩ := id hW
  refine ⟨_, (pss_cons (ps_if (pt_cmpR op_gt (pe_ix ix_list (pv 0) pe_int (fun _ _ => rfl)) pe_int (nomark _)) (pss_cons (ps_asg (pe_callB call_divmodW rfl T.z_divmod (by decide +kernel) (pa_cons (pe_ix ix_list (pv 0) pe_int (fun _ _ => rfl)) (pa_cons (pv 1) pa_nil))) (pg_tup rfl (pgs_cons (pg_sub (pv 0) pe_int set_list) (pgs_cons (pg_name (i := 2) sc_l_draw.nd rfl (Or.inl rfl)) pgs_nil)))) (pss_one (ps_ret (pv 2)))) pss_nil) (pss_cons (ps_asg (pe_op op_add (pe_ix ix_list (pv 0) pe_int (fun _ _ => rfl)) pe_int) (pg_sub (pv 0) pe_int set_list)) (pss_cons (ps_set (i := 3) sc_l_draw.nd rfl (Or.inl rfl) (pe_op op_mod (pe_callTy call_int1 rfl T.z_int (by decide +kernel) (pa_cons (pe_op op_add (pe_ix ix_list (pv 0) pe_int (fun _ _ => rfl)) (pe_op op_mul pe_int (pe_ix ix_list (pv 0) pe_int (fun _ _ => rfl)))) pa_nil)) pe_int)) (pss_cons (ps_asg (pe_op op_mod (pe_callTy call_int1 rfl T.z_int (by decide +kernel) (pa_cons (pe_op op_add (pe_op op_mul (pv 3) (pe_op op_add (pe_op op_mod (pe_callTy call_int1 rfl T.z_int (by decide +kernel) (pa_cons (pv 3) pa_nil)) pe_int) pe_int)) (pe_op op_mul pe_int (pe_ix ix_list (pv 0) pe_int (fun _ _ => rfl)))) pa_nil)) pe_int) (pg_sub (pv 0) pe_int set_list)) (pss_one (ps_ret (pe_op op_mod (pe_callTy call_int1 rfl T.z_int (by decide +kernel) (pa_cons (pe_op op_fdiv (pe_ix ix_list (pv 0) pe_int (fun _ _ => rfl)) pe_int) pa_nil)) (pv 1)))))))), ?_⟩
  walk_at "go"
  refine ⟨p, _, _, _, rfl, rfl, .of hp, rfl, ?_⟩
  walk_at "go"
  refine tst (fun c1 => ?_) (fun c1 => ?_)
  · walk_at "go"
    refine ⟨p, _, _, _, rfl, rfl, .of hp, rfl, ?_⟩
    walk_at "go"
    refine ⟨a, n, rfl, ⟨hn, PyProof.noPylong_of_log2 (log2_lt (by decide) (show n.natAbs < 2 ^ 9000 from Nat.lt_of_lt_of_le (show n.natAbs < 2 ^ 64 by omega) (Nat.pow_le_pow_right (by decide) (by decide))))⟩, fun r hr2 => ?_⟩
    refine ⟨r, _, rfl, .of upd_same, rfl, _, _, rfl, ?_⟩
    walk_at "go"
    have k1 : Same H (upd H r (.tup [.int (a / n), .int (a % n)])) := same_new hr2 _
    have hp1 := k1 _ _ hp
    refine ⟨p, _, _, _, rfl, rfl, hp1, rfl, _, _, rfl, rfl, ?_⟩
    walk_at "go"
    exact q _ _ (Int.emod_nonneg _ (by omega)) (Int.emod_lt_of_pos _ hn) ((After.of hW k1).trans (well_put hp1 (Int.ediv_nonneg ha (by omega))))
  · walk_at "go"
    refine ⟨p, _, _, _, rfl, rfl, .of hp, rfl, ?_⟩
    walk_at "go"
    refine ⟨p, _, _, _, rfl, rfl, hp, rfl, ?_⟩
    have p1 : After p H (upd H p (.lst [.int a, .int m, .int (c + 1)])) := well_put hp ha
    have hp1 : upd H p (.lst [.int a, .int m, .int (c + 1)]) p = _ := upd_same
    walk_at "go"
    refine ⟨p, _, _, _, rfl, rfl, .of hp1, rfl, ?_⟩
    walk_at "go"
    refine ⟨p, _, _, _, rfl, rfl, .of hp1, rfl, ?_⟩
    walk_at "go"
    refine ⟨p, _, _, _, rfl, rfl, .of hp1, rfl, ?_⟩
    walk_at "go"
    refine ⟨p, _, _, _, rfl, rfl, hp1, rfl, ?_⟩
    walk_at "go"
    refine ⟨p, _, _, _, rfl, rfl, .of upd_same, rfl, ?_⟩
    walk_at "go"
    exact q _ _ (Int.emod_nonneg _ (by omega)) (Int.emod_lt_of_pos _ hn) (p1.trans (well_put hp1 ha))
end
end My

namespace My
open PySem L2 Ld
open Lw hiding Dv DvAll FreshB tData tDatas pd_int pd_bl pd_non pd_str pd_neg pd_pow pda_nil pda_cons pd_tup pd_lst pd_dct dv_cut dv_cat tup_at rRepr call_repr rIsD call_isD
section
variable {P : Program} {w : World} {K : PySem.W.Frag} {mg : Str → Option Value} {base : Heap}
abbrev t_l_draw : TF := t_draw
theorem c_l_drawD {Sy : Md} (T : Top K mg) : Cl (L2.CX P w) P w K mg base 1 "_law_draw" (spF ⟨base, K, Sy⟩ mg 2 t_l_draw) := ((c_l_draw T).imp fun vs H Q E h => by
  obtain ⟨w, N, us, R, Ex, hl, hv, ok, ht, q, _⟩ := h
  unfold t_l_draw t_draw at ht
  split at ht
  · rename_i n
    obtain ⟨h0, h1, hk⟩ := ht
    match vs, hv with
    | [v, u], hv =>
      obtain ⟨p, hp, rfl⟩ := hv.1
      cases hv.2.1
      exact ⟨p, n, rfl, (ok.wl p hp).2.2, h0, h1, fun k H' k0 k1 af => q _ _ H' (hk k k0 k1) (.ofAfter hp (ok.wl p hp).2.2 af) (.int _)⟩
  · exact ht.elim).up
end
end My

set_option maxHeartbeats 4000000
namespace My
open PySem L2 Ld
open Lw hiding Dv DvAll FreshB tData tDatas pd_int pd_bl pd_non pd_str pd_neg pd_pow pda_nil pda_cons pd_tup pd_lst pd_dct dv_cut dv_cat tup_at rRepr call_repr rIsD call_isD
section
variable {P : Program} {w : World} {K : PySem.W.Frag} {mg : Str → Option Value} {base : Heap} {Tz : List (Addr × Str)}
def b_l_pick : TSD := (sRet (dOp fIx (dV 1) (dCall t_l_draw (dConsW 0 (dCons (dCB fLen (dCons (dV 1) dNil)) dNil)))))
def t_l_pick : TF := tfOf N_l_pick b_l_pick
theorem cz_l_pick (T : Top K mg) : Cq true (L2.CX P w) P w K mg base 2 "_law_pick" (spF ⟨base, K, ⟨true, Tz, true⟩⟩ mg 2 t_l_pick) := by
    exact Lw.Dn.dataQ T.d_l_pick sc_l_pick fun f cdv A outer s H E hr hg => (ds_one (ds_ret (ps_ret (d_op (pe_ix ix_seq (d_var (pv 1)) (d_call (pe_clQ (E := fun _ => E) ((c_l_drawD T).cq) hr hg (fun σ => passAt (takes_of rfl rfl rfl rfl) σ) rfl (da_well (pv 0) (da_cons (d_cb (pe_callB call_len rfl T.z_len (by decide +kernel) (da_cons (d_var (pv 1)) da_nil)) bd_len) da_nil)))) (fun _ _ => rfl)) od_ix))))
def b_l_common : TSD := (sSeq (sPar 2 3 (dCons (dCB fAbs (dCons (dV 0) dNil)) (dCons (dCB fAbs (dCons (dV 1) dNil)) dNil))) (sSeq (sWhile (dCmp fNe (dV 3) (dC (.int 0))) (sPar 2 3 (dCons (dV 3) (dCons (dOp fMod (dCB fIntO (dCons (dV 2) dNil)) (dV 3)) dNil)))) (sRet (dV 2))))
def t_l_common : TF := tfOf N_l_common b_l_common
theorem c_l_common {g : Bool} (T : Top K mg) : Cq g (L2.CX P w) P w K mg base 1 "_law_common" (spF ⟨base, K, ⟨false, Tz, false⟩⟩ mg 2 t_l_common) := by
  exact Lw.Dn.dataQ T.d_l_common sc_l_common fun f cdv A outer s H E hr hg => (ds_cons (ds_par (ps_par (i := 2) (j := 3) rfl sc_l_common.nd rfl rfl (by decide) rfl rfl (da_cons (d_cb (pe_callB call_abs rfl T.z_abs (by decide +kernel) (da_cons (d_var (pv 0)) da_nil)) bd_i1) (da_cons (d_cb (pe_callB call_abs rfl T.z_abs (by decide +kernel) (da_cons (d_var (pv 1)) da_nil)) bd_i1) da_nil)) rfl)) (ds_cons (ds_while (ps_while PassesOwn.leaving (dt_cmp (pt_cmpR (op_neG hr) (d_var (pv 3)) d_int (nomark _)) cd_ne) (ds_one (ds_par (ps_par (i := 2) (j := 3) rfl sc_l_common.nd rfl rfl (by decide) rfl rfl (da_cons (d_var (pv 3)) (da_cons (d_op (pe_op op_mod (d_cb (pe_callTy call_int1 rfl T.z_int (by decide +kernel) (da_cons (d_var (pv 2)) da_nil)) bd_int) (d_var (pv 3))) od_int) da_nil)) rfl))))) (ds_one (ds_ret (ps_ret (d_var (pv 2)))))))
def b_l_low : TSD := (sSeq (sIf (dCmp fLt (dV 0) (dC (.int 3))) (sRet (dIf (dCmp fEq (dV 0) (dC (.int 0))) (dNew "InvalidFraction" "given" (dCons (dV 1) dNil)) (dIf (dCmp fEq (dV 0) (dC (.int 1))) (dNew "InvalidNumber" "given" (dCons (dV 1) dNil)) (dNew "InvalidPoint" "given" (dCons (dV 1) dNil))))) sNx) (sSeq (sIf (dCmp fLt (dV 0) (dC (.int 6))) (sRet (dIf (dCmp fEq (dV 0) (dC (.int 3))) (dNew "InvalidPlace" "given" (dCons (dV 1) dNil)) (dIf (dCmp fEq (dV 0) (dC (.int 4))) (dNew "InvalidWay" "given" (dCons (dV 1) dNil)) (dNew "InvalidCurve" "given" (dCons (dV 1) dNil))))) sNx) (sSeq (sIf (dCmp fLt (dV 0) (dC (.int 9))) (sRet (dIf (dCmp fEq (dV 0) (dC (.int 6))) (dNew "InvalidLead" "given" (dCons (dV 1) dNil)) (dIf (dCmp fEq (dV 0) (dC (.int 7))) (dNew "InvalidFigure" "given" (dCons (dV 1) dNil)) (dNew "InvalidSketch" "given" (dCons (dV 1) dNil))))) sNx) (sRet (dIf (dCmp fEq (dV 0) (dC (.int 9))) (dNew "InvalidScene" "given" (dCons (dV 1) dNil)) (dNew "InvalidName" "given" (dCons (dV 1) dNil)))))))
def t_l_low : TF := tfOf N_l_low b_l_low
theorem cz_l_low {g : Bool} (T : Top K mg) : Cq g (L2.CX P w) P w K mg base 3 "_law_low" (spF ⟨base, K, ⟨true, Tz, true⟩⟩ mg 2 t_l_low) := by
    obtain ⟨C_InvalidCurve, fI_InvalidCurve, fd_InvalidCurve, ec_InvalidCurve⟩ := T.e_InvalidCurve
    obtain ⟨C_InvalidFigure, fI_InvalidFigure, fd_InvalidFigure, ec_InvalidFigure⟩ := T.e_InvalidFigure
    obtain ⟨C_InvalidFraction, fI_InvalidFraction, fd_InvalidFraction, ec_InvalidFraction⟩ := T.e_InvalidFraction
    obtain ⟨C_InvalidLead, fI_InvalidLead, fd_InvalidLead, ec_InvalidLead⟩ := T.e_InvalidLead
    obtain ⟨C_InvalidName, fI_InvalidName, fd_InvalidName, ec_InvalidName⟩ := T.e_InvalidName
    obtain ⟨C_InvalidNumber, fI_InvalidNumber, fd_InvalidNumber, ec_InvalidNumber⟩ := T.e_InvalidNumber
    obtain ⟨C_InvalidPlace, fI_InvalidPlace, fd_InvalidPlace, ec_InvalidPlace⟩ := T.e_InvalidPlace
    obtain ⟨C_InvalidPoint, fI_InvalidPoint, fd_InvalidPoint, ec_InvalidPoint⟩ := T.e_InvalidPoint
    obtain ⟨C_InvalidScene, fI_InvalidScene, fd_InvalidScene, ec_InvalidScene⟩ := T.e_InvalidScene
    obtain ⟨C_InvalidSketch, fI_InvalidSketch, fd_InvalidSketch, ec_InvalidSketch⟩ := T.e_InvalidSketch
    obtain ⟨C_InvalidWay, fI_InvalidWay, fd_InvalidWay, ec_InvalidWay⟩ := T.e_InvalidWay
    exact Lw.Dn.dataQ T.d_l_low sc_l_low fun f cdv A outer s H E hr hg => (ds_cons (ds_if (ps_if (dt_cmp (pt_cmpR op_lt (d_var (pv 0)) d_int (nomark _)) cd_int) (ds_one (ds_ret (ps_ret (d_if (pe_ifExp (dt_cmp (pt_cmpR (op_eqG hr) (d_var (pv 0)) d_int (nomark _)) cd_eq) (d_new (T.y_InvalidFraction.trans (congrArg some ec_InvalidFraction.gC)) (Lx.pe_new ec_InvalidFraction (j_InvalidFraction ec_InvalidFraction) hr rfl (da_cons (d_var (pv 1)) da_nil))) (d_if (pe_ifExp (dt_cmp (pt_cmpR (op_eqG hr) (d_var (pv 0)) d_int (nomark _)) cd_eq) (d_new (T.y_InvalidNumber.trans (congrArg some ec_InvalidNumber.gC)) (Lx.pe_new ec_InvalidNumber (j_InvalidNumber ec_InvalidNumber) hr rfl (da_cons (d_var (pv 1)) da_nil))) (d_new (T.y_InvalidPoint.trans (congrArg some ec_InvalidPoint.gC)) (Lx.pe_new ec_InvalidPoint (j_InvalidPoint ec_InvalidPoint) hr rfl (da_cons (d_var (pv 1)) da_nil)))))))))) ds_nil)) (ds_cons (ds_if (ps_if (dt_cmp (pt_cmpR op_lt (d_var (pv 0)) d_int (nomark _)) cd_int) (ds_one (ds_ret (ps_ret (d_if (pe_ifExp (dt_cmp (pt_cmpR (op_eqG hr) (d_var (pv 0)) d_int (nomark _)) cd_eq) (d_new (T.y_InvalidPlace.trans (congrArg some ec_InvalidPlace.gC)) (Lx.pe_new ec_InvalidPlace (j_InvalidPlace ec_InvalidPlace) hr rfl (da_cons (d_var (pv 1)) da_nil))) (d_if (pe_ifExp (dt_cmp (pt_cmpR (op_eqG hr) (d_var (pv 0)) d_int (nomark _)) cd_eq) (d_new (T.y_InvalidWay.trans (congrArg some ec_InvalidWay.gC)) (Lx.pe_new ec_InvalidWay (j_InvalidWay ec_InvalidWay) hr rfl (da_cons (d_var (pv 1)) da_nil))) (d_new (T.y_InvalidCurve.trans (congrArg some ec_InvalidCurve.gC)) (Lx.pe_new ec_InvalidCurve (j_InvalidCurve ec_InvalidCurve) hr rfl (da_cons (d_var (pv 1)) da_nil)))))))))) ds_nil)) (ds_cons (ds_if (ps_if (dt_cmp (pt_cmpR op_lt (d_var (pv 0)) d_int (nomark _)) cd_int) (ds_one (ds_ret (ps_ret (d_if (pe_ifExp (dt_cmp (pt_cmpR (op_eqG hr) (d_var (pv 0)) d_int (nomark _)) cd_eq) (d_new (T.y_InvalidLead.trans (congrArg some ec_InvalidLead.gC)) (Lx.pe_new ec_InvalidLead (j_InvalidLead ec_InvalidLead) hr rfl (da_cons (d_var (pv 1)) da_nil))) (d_if (pe_ifExp (dt_cmp (pt_cmpR (op_eqG hr) (d_var (pv 0)) d_int (nomark _)) cd_eq) (d_new (T.y_InvalidFigure.trans (congrArg some ec_InvalidFigure.gC)) (Lx.pe_new ec_InvalidFigure (j_InvalidFigure ec_InvalidFigure) hr rfl (da_cons (d_var (pv 1)) da_nil))) (d_new (T.y_InvalidSketch.trans (congrArg some ec_InvalidSketch.gC)) (Lx.pe_new ec_InvalidSketch (j_InvalidSketch ec_InvalidSketch) hr rfl (da_cons (d_var (pv 1)) da_nil)))))))))) ds_nil)) (ds_one (ds_ret (ps_ret (d_if (pe_ifExp (dt_cmp (pt_cmpR (op_eqG hr) (d_var (pv 0)) d_int (nomark _)) cd_eq) (d_new (T.y_InvalidScene.trans (congrArg some ec_InvalidScene.gC)) (Lx.pe_new ec_InvalidScene (j_InvalidScene ec_InvalidScene) hr rfl (da_cons (d_var (pv 1)) da_nil))) (d_new (T.y_InvalidName.trans (congrArg some ec_InvalidName.gC)) (Lx.pe_new ec_InvalidName (j_InvalidName ec_InvalidName) hr rfl (da_cons (d_var (pv 1)) da_nil)))))))))))
def b_l_low_name : TSD := (sSeq (sIf (dCmp fLt (dV 0) (dC (.int 3))) (sSeq (sIf (dCmp fEq (dV 0) (dC (.int 0))) (sRet (dNew "InvalidFraction" "given" (dCons (dV 1) dNil))) sNx) (sRet (dIf (dCmp fEq (dV 0) (dC (.int 1))) (dNew "InvalidNumber" "given" (dCons (dV 1) dNil)) (dNew "InvalidPoint" "given" (dCons (dV 1) dNil))))) sNx) (sSeq (sIf (dCmp fLt (dV 0) (dC (.int 6))) (sSeq (sIf (dCmp fEq (dV 0) (dC (.int 3))) (sRet (dNew "InvalidPlace" "given" (dCons (dV 1) dNil))) sNx) (sRet (dIf (dCmp fEq (dV 0) (dC (.int 4))) (dNew "InvalidWay" "given" (dCons (dV 1) dNil)) (dNew "InvalidCurve" "given" (dCons (dV 1) dNil))))) sNx) (sSeq (sIf (dCmp fLt (dV 0) (dC (.int 9))) (sSeq (sIf (dCmp fEq (dV 0) (dC (.int 6))) (sRet (dNew "InvalidLead" "given" (dCons (dV 1) dNil))) sNx) (sRet (dIf (dCmp fEq (dV 0) (dC (.int 7))) (dNew "InvalidFigure" "given" (dCons (dV 1) dNil)) (dNew "InvalidSketch" "given" (dCons (dV 1) dNil))))) sNx) (sRet (dIf (dCmp fEq (dV 0) (dC (.int 9))) (dNew "InvalidScene" "given" (dCons (dV 1) dNil)) (dNew "InvalidName" "given" (dCons (dV 1) dNil)))))))
def t_l_low_name : TF := tfOf N_l_low_name b_l_low_name
theorem cz_l_low_name {g : Bool} (T : Top K mg) : Cq g (L2.CX P w) P w K mg base 3 "_law_low_name" (spF ⟨base, K, ⟨true, Tz, true⟩⟩ mg 2 t_l_low_name) := by
    obtain ⟨C_InvalidCurve, fI_InvalidCurve, fd_InvalidCurve, ec_InvalidCurve⟩ := T.e_InvalidCurve
    obtain ⟨C_InvalidFigure, fI_InvalidFigure, fd_InvalidFigure, ec_InvalidFigure⟩ := T.e_InvalidFigure
    obtain ⟨C_InvalidFraction, fI_InvalidFraction, fd_InvalidFraction, ec_InvalidFraction⟩ := T.e_InvalidFraction
    obtain ⟨C_InvalidLead, fI_InvalidLead, fd_InvalidLead, ec_InvalidLead⟩ := T.e_InvalidLead
    obtain ⟨C_InvalidName, fI_InvalidName, fd_InvalidName, ec_InvalidName⟩ := T.e_InvalidName
    obtain ⟨C_InvalidNumber, fI_InvalidNumber, fd_InvalidNumber, ec_InvalidNumber⟩ := T.e_InvalidNumber
    obtain ⟨C_InvalidPlace, fI_InvalidPlace, fd_InvalidPlace, ec_InvalidPlace⟩ := T.e_InvalidPlace
    obtain ⟨C_InvalidPoint, fI_InvalidPoint, fd_InvalidPoint, ec_InvalidPoint⟩ := T.e_InvalidPoint
    obtain ⟨C_InvalidScene, fI_InvalidScene, fd_InvalidScene, ec_InvalidScene⟩ := T.e_InvalidScene
    obtain ⟨C_InvalidSketch, fI_InvalidSketch, fd_InvalidSketch, ec_InvalidSketch⟩ := T.e_InvalidSketch
    obtain ⟨C_InvalidWay, fI_InvalidWay, fd_InvalidWay, ec_InvalidWay⟩ := T.e_InvalidWay
    exact Lw.Dn.dataQ T.d_l_low_name sc_l_low_name fun f cdv A outer s H E hr hg => (ds_cons (ds_if (ps_if (dt_cmp (pt_cmpR op_lt (d_var (pv 0)) d_int (nomark _)) cd_int) (ds_cons (ds_if (ps_if (dt_cmp (pt_cmpR (op_eqG hr) (d_var (pv 0)) d_int (nomark _)) cd_eq) (ds_one (ds_ret (ps_ret (d_new (T.y_InvalidFraction.trans (congrArg some ec_InvalidFraction.gC)) (Lx.pe_newK ec_InvalidFraction (j_InvalidFraction ec_InvalidFraction) hr rfl (kb_InvalidFraction ec_InvalidFraction) (dk_cons (d_var (pv 1)) dk_nil)))))) ds_nil)) (ds_one (ds_ret (ps_ret (d_if (pe_ifExp (dt_cmp (pt_cmpR (op_eqG hr) (d_var (pv 0)) d_int (nomark _)) cd_eq) (d_new (T.y_InvalidNumber.trans (congrArg some ec_InvalidNumber.gC)) (Lx.pe_newK ec_InvalidNumber (j_InvalidNumber ec_InvalidNumber) hr rfl (kb_InvalidNumber ec_InvalidNumber) (dk_cons (d_var (pv 1)) dk_nil))) (d_new (T.y_InvalidPoint.trans (congrArg some ec_InvalidPoint.gC)) (Lx.pe_newK ec_InvalidPoint (j_InvalidPoint ec_InvalidPoint) hr rfl (kb_InvalidPoint ec_InvalidPoint) (dk_cons (d_var (pv 1)) dk_nil))))))))) ds_nil)) (ds_cons (ds_if (ps_if (dt_cmp (pt_cmpR op_lt (d_var (pv 0)) d_int (nomark _)) cd_int) (ds_cons (ds_if (ps_if (dt_cmp (pt_cmpR (op_eqG hr) (d_var (pv 0)) d_int (nomark _)) cd_eq) (ds_one (ds_ret (ps_ret (d_new (T.y_InvalidPlace.trans (congrArg some ec_InvalidPlace.gC)) (Lx.pe_newK ec_InvalidPlace (j_InvalidPlace ec_InvalidPlace) hr rfl (kb_InvalidPlace ec_InvalidPlace) (dk_cons (d_var (pv 1)) dk_nil)))))) ds_nil)) (ds_one (ds_ret (ps_ret (d_if (pe_ifExp (dt_cmp (pt_cmpR (op_eqG hr) (d_var (pv 0)) d_int (nomark _)) cd_eq) (d_new (T.y_InvalidWay.trans (congrArg some ec_InvalidWay.gC)) (Lx.pe_newK ec_InvalidWay (j_InvalidWay ec_InvalidWay) hr rfl (kb_InvalidWay ec_InvalidWay) (dk_cons (d_var (pv 1)) dk_nil))) (d_new (T.y_InvalidCurve.trans (congrArg some ec_InvalidCurve.gC)) (Lx.pe_newK ec_InvalidCurve (j_InvalidCurve ec_InvalidCurve) hr rfl (kb_InvalidCurve ec_InvalidCurve) (dk_cons (d_var (pv 1)) dk_nil))))))))) ds_nil)) (ds_cons (ds_if (ps_if (dt_cmp (pt_cmpR op_lt (d_var (pv 0)) d_int (nomark _)) cd_int) (ds_cons (ds_if (ps_if (dt_cmp (pt_cmpR (op_eqG hr) (d_var (pv 0)) d_int (nomark _)) cd_eq) (ds_one (ds_ret (ps_ret (d_new (T.y_InvalidLead.trans (congrArg some ec_InvalidLead.gC)) (Lx.pe_newK ec_InvalidLead (j_InvalidLead ec_InvalidLead) hr rfl (kb_InvalidLead ec_InvalidLead) (dk_cons (d_var (pv 1)) dk_nil)))))) ds_nil)) (ds_one (ds_ret (ps_ret (d_if (pe_ifExp (dt_cmp (pt_cmpR (op_eqG hr) (d_var (pv 0)) d_int (nomark _)) cd_eq) (d_new (T.y_InvalidFigure.trans (congrArg some ec_InvalidFigure.gC)) (Lx.pe_newK ec_InvalidFigure (j_InvalidFigure ec_InvalidFigure) hr rfl (kb_InvalidFigure ec_InvalidFigure) (dk_cons (d_var (pv 1)) dk_nil))) (d_new (T.y_InvalidSketch.trans (congrArg some ec_InvalidSketch.gC)) (Lx.pe_newK ec_InvalidSketch (j_InvalidSketch ec_InvalidSketch) hr rfl (kb_InvalidSketch ec_InvalidSketch) (dk_cons (d_var (pv 1)) dk_nil))))))))) ds_nil)) (ds_one (ds_ret (ps_ret (d_if (pe_ifExp (dt_cmp (pt_cmpR (op_eqG hr) (d_var (pv 0)) d_int (nomark _)) cd_eq) (d_new (T.y_InvalidScene.trans (congrArg some ec_InvalidScene.gC)) (Lx.pe_newK ec_InvalidScene (j_InvalidScene ec_InvalidScene) hr rfl (kb_InvalidScene ec_InvalidScene) (dk_cons (d_var (pv 1)) dk_nil))) (d_new (T.y_InvalidName.trans (congrArg some ec_InvalidName.gC)) (Lx.pe_newK ec_InvalidName (j_InvalidName ec_InvalidName) hr rfl (kb_InvalidName ec_InvalidName) (dk_cons (d_var (pv 1)) dk_nil)))))))))))
def b_l_truths : TSD := (sSeq (sSet 1 (dLst (dCons (dIsX XCS "PlaneError" "InvalidFraction" (dV 0)) (dCons (dIsX XCS "PlaneError" "InvalidNumber" (dV 0)) (dCons (dIsX XCS "PlaneError" "InvalidPoint" (dV 0)) dNil))))) (sSeq (sSet 1 (dOp fAddG (dV 1) (dLst (dCons (dIsX XCS "PlaneError" "InvalidPlace" (dV 0)) (dCons (dIsX XCS "PlaneError" "InvalidWay" (dV 0)) (dCons (dIsX XCS "PlaneError" "InvalidCurve" (dV 0)) dNil)))))) (sSeq (sSet 1 (dOp fAddG (dV 1) (dLst (dCons (dIsX XCS "PlaneError" "InvalidLead" (dV 0)) (dCons (dIsX XCS "PlaneError" "InvalidFigure" (dV 0)) dNil))))) (sSeq (sSet 1 (dOp fAddG (dV 1) (dLst (dCons (dIsX XCS "PlaneError" "InvalidSketch" (dV 0)) (dCons (dIsX XCS "PlaneError" "InvalidScene" (dV 0)) dNil))))) (sSeq (sSet 1 (dOp fAddG (dV 1) (dLst (dCons (dIsX XCS "PlaneError" "InvalidName" (dV 0)) (dCons (dIsX XCS "PlaneError" "UnknownName" (dV 0)) (dCons (dIsX XCS "PlaneError" "NameTaken" (dV 0)) dNil)))))) (sSeq (sSet 1 (dOp fAddG (dV 1) (dLst (dCons (dIsX XCS "PlaneError" "InUse" (dV 0)) (dCons (dIsX XCS "PlaneError" "ComesRound" (dV 0)) (dCons (dIsX XCS "PlaneError" "TooDeep" (dV 0)) dNil)))))) (sSeq (sSet 1 (dOp fAddG (dV 1) (dLst (dCons (dIsX XCS "PlaneError" "TooMany" (dV 0)) (dCons (dIsX XCS "PlaneError" "InvalidIndex" (dV 0)) (dCons (dIsX XCS "PlaneError" "InvalidCount" (dV 0)) dNil)))))) (sSeq (sSet 1 (dOp fAddG (dV 1) (dLst (dCons (dIsX XCS "PlaneError" "InvalidView" (dV 0)) (dCons (dIsX XCS "PlaneError" "InvalidPicture" (dV 0)) dNil))))) (sSeq (sSet 1 (dOp fAddG (dV 1) (dLst (dCons (dIsX XCS "PlaneError" "InvalidCurves" (dV 0)) (dCons (dIsX XCS "PlaneError" "InvalidRow" (dV 0)) (dCons (dIsX XCS "PlaneError" "InvalidLines" (dV 0)) dNil)))))) (sSeq (sSet 1 (dOp fAddG (dV 1) (dLst (dCons (dIsX XCS "PlaneError" "InvalidBytes" (dV 0)) (dCons (dIsX XCS "PlaneError" "BadText" (dV 0)) (dCons (dIsX XCS "PlaneError" "NotBounded" (dV 0)) dNil)))))) (sSeq (sSet 1 (dOp fAddG (dV 1) (dLst (dCons (dIsX XCS "PlaneError" "NothingInside" (dV 0)) (dCons (dIsX XCS "PlaneError" "NotStraight" (dV 0)) dNil))))) (sSeq (sSet 1 (dOp fAddG (dV 1) (dLst (dCons (dIsX XCS "PlaneError" "NothingToUndo" (dV 0)) (dCons (dIsX XCS "PlaneError" "NothingToRedo" (dV 0)) dNil))))) (sSeq (sSet 1 (dOp fAddG (dV 1) (dLst (dCons (dIsX XCS "PlaneError" "PlaneError" (dV 0)) (dCons (dIsB XCS true (dV 0)) (dCons (dIsB XCS true (dV 0)) dNil)))))) (sSeq (sSet 1 (dOp fAddG (dV 1) (dLst (dCons (dIsB XCS false (dV 0)) (dCons (dIsB XCS false (dV 0)) (dCons (dIsB XCS false (dV 0)) dNil)))))) (sRet (dOp fAddG (dV 1) (dLst (dCons (dIsB XCS false (dV 0)) (dCons (dIsB XCS false (dV 0)) dNil)))))))))))))))))))
def t_l_truths : TF := tfOf N_l_truths b_l_truths
theorem cz_l_truths {g : Bool} (T : Top K mg) : Cq g (L2.CX P w) P w K mg base 3 "_law_truths" (spF ⟨base, K, ⟨true, Tz, true⟩⟩ mg 1 t_l_truths) := by
    obtain ⟨C_BadText, fI_BadText, fd_BadText, ec_BadText⟩ := T.e_BadText
    obtain ⟨C_ComesRound, fI_ComesRound, fd_ComesRound, ec_ComesRound⟩ := T.e_ComesRound
    obtain ⟨C_InUse, fI_InUse, fd_InUse, ec_InUse⟩ := T.e_InUse
    obtain ⟨C_InvalidBytes, fI_InvalidBytes, fd_InvalidBytes, ec_InvalidBytes⟩ := T.e_InvalidBytes
    obtain ⟨C_InvalidCount, fI_InvalidCount, fd_InvalidCount, ec_InvalidCount⟩ := T.e_InvalidCount
    obtain ⟨C_InvalidCurve, fI_InvalidCurve, fd_InvalidCurve, ec_InvalidCurve⟩ := T.e_InvalidCurve
    obtain ⟨C_InvalidCurves, fI_InvalidCurves, fd_InvalidCurves, ec_InvalidCurves⟩ := T.e_InvalidCurves
    obtain ⟨C_InvalidFigure, fI_InvalidFigure, fd_InvalidFigure, ec_InvalidFigure⟩ := T.e_InvalidFigure
    obtain ⟨C_InvalidFraction, fI_InvalidFraction, fd_InvalidFraction, ec_InvalidFraction⟩ := T.e_InvalidFraction
    obtain ⟨C_InvalidIndex, fI_InvalidIndex, fd_InvalidIndex, ec_InvalidIndex⟩ := T.e_InvalidIndex
    obtain ⟨C_InvalidLead, fI_InvalidLead, fd_InvalidLead, ec_InvalidLead⟩ := T.e_InvalidLead
    obtain ⟨C_InvalidLines, fI_InvalidLines, fd_InvalidLines, ec_InvalidLines⟩ := T.e_InvalidLines
    obtain ⟨C_InvalidName, fI_InvalidName, fd_InvalidName, ec_InvalidName⟩ := T.e_InvalidName
    obtain ⟨C_InvalidNumber, fI_InvalidNumber, fd_InvalidNumber, ec_InvalidNumber⟩ := T.e_InvalidNumber
    obtain ⟨C_InvalidPicture, fI_InvalidPicture, fd_InvalidPicture, ec_InvalidPicture⟩ := T.e_InvalidPicture
    obtain ⟨C_InvalidPlace, fI_InvalidPlace, fd_InvalidPlace, ec_InvalidPlace⟩ := T.e_InvalidPlace
    obtain ⟨C_InvalidPoint, fI_InvalidPoint, fd_InvalidPoint, ec_InvalidPoint⟩ := T.e_InvalidPoint
    obtain ⟨C_InvalidRow, fI_InvalidRow, fd_InvalidRow, ec_InvalidRow⟩ := T.e_InvalidRow
    obtain ⟨C_InvalidScene, fI_InvalidScene, fd_InvalidScene, ec_InvalidScene⟩ := T.e_InvalidScene
    obtain ⟨C_InvalidSketch, fI_InvalidSketch, fd_InvalidSketch, ec_InvalidSketch⟩ := T.e_InvalidSketch
    obtain ⟨C_InvalidView, fI_InvalidView, fd_InvalidView, ec_InvalidView⟩ := T.e_InvalidView
    obtain ⟨C_InvalidWay, fI_InvalidWay, fd_InvalidWay, ec_InvalidWay⟩ := T.e_InvalidWay
    obtain ⟨C_NameTaken, fI_NameTaken, fd_NameTaken, ec_NameTaken⟩ := T.e_NameTaken
    obtain ⟨C_TooDeep, fI_TooDeep, fd_TooDeep, ec_TooDeep⟩ := T.e_TooDeep
    obtain ⟨C_TooMany, fI_TooMany, fd_TooMany, ec_TooMany⟩ := T.e_TooMany
    obtain ⟨C_UnknownName, fI_UnknownName, fd_UnknownName, ec_UnknownName⟩ := T.e_UnknownName
    obtain ⟨C_NotBounded, e0_NotBounded⟩ := T.b_NotBounded
    obtain ⟨C_NotStraight, e0_NotStraight⟩ := T.b_NotStraight
    obtain ⟨C_NothingInside, e0_NothingInside⟩ := T.b_NothingInside
    obtain ⟨C_NothingToRedo, e0_NothingToRedo⟩ := T.b_NothingToRedo
    obtain ⟨C_NothingToUndo, e0_NothingToUndo⟩ := T.b_NothingToUndo
    obtain ⟨C_PlaneError, e0_PlaneError⟩ := T.b_PlaneError
    exact Lw.Dn.dataQ T.d_l_truths sc_l_truths fun f cdv A outer s H E hr hg => (ds_cons (ds_set (ps_set (i := 1) sc_l_truths.nd rfl (Or.inl rfl) (d_lst (da_cons (d_isX T.xa (by decide +kernel) (T.y_InvalidFraction.trans (congrArg some ec_InvalidFraction.gC)) (pe_callB Lx.call_isX rfl T.z_isinstance (by decide +kernel) (pa_cons (d_var (pv 0)) (pa_cons (pe_glob (v := .ref _) rfl ec_InvalidFraction.gC rfl) pa_nil)))) (da_cons (d_isX T.xa (by decide +kernel) (T.y_InvalidNumber.trans (congrArg some ec_InvalidNumber.gC)) (pe_callB Lx.call_isX rfl T.z_isinstance (by decide +kernel) (pa_cons (d_var (pv 0)) (pa_cons (pe_glob (v := .ref _) rfl ec_InvalidNumber.gC rfl) pa_nil)))) (da_cons (d_isX T.xa (by decide +kernel) (T.y_InvalidPoint.trans (congrArg some ec_InvalidPoint.gC)) (pe_callB Lx.call_isX rfl T.z_isinstance (by decide +kernel) (pa_cons (d_var (pv 0)) (pa_cons (pe_glob (v := .ref _) rfl ec_InvalidPoint.gC rfl) pa_nil)))) da_nil)))))) (ds_cons (ds_set (ps_set (i := 1) sc_l_truths.nd rfl (Or.inl rfl) (d_op (pe_op op_addZ (d_var (pv 1)) (d_lst (da_cons (d_isX T.xa (by decide +kernel) (T.y_InvalidPlace.trans (congrArg some ec_InvalidPlace.gC)) (pe_callB Lx.call_isX rfl T.z_isinstance (by decide +kernel) (pa_cons (d_var (pv 0)) (pa_cons (pe_glob (v := .ref _) rfl ec_InvalidPlace.gC rfl) pa_nil)))) (da_cons (d_isX T.xa (by decide +kernel) (T.y_InvalidWay.trans (congrArg some ec_InvalidWay.gC)) (pe_callB Lx.call_isX rfl T.z_isinstance (by decide +kernel) (pa_cons (d_var (pv 0)) (pa_cons (pe_glob (v := .ref _) rfl ec_InvalidWay.gC rfl) pa_nil)))) (da_cons (d_isX T.xa (by decide +kernel) (T.y_InvalidCurve.trans (congrArg some ec_InvalidCurve.gC)) (pe_callB Lx.call_isX rfl T.z_isinstance (by decide +kernel) (pa_cons (d_var (pv 0)) (pa_cons (pe_glob (v := .ref _) rfl ec_InvalidCurve.gC rfl) pa_nil)))) da_nil))))) od_addZ))) (ds_cons (ds_set (ps_set (i := 1) sc_l_truths.nd rfl (Or.inl rfl) (d_op (pe_op op_addZ (d_var (pv 1)) (d_lst (da_cons (d_isX T.xa (by decide +kernel) (T.y_InvalidLead.trans (congrArg some ec_InvalidLead.gC)) (pe_callB Lx.call_isX rfl T.z_isinstance (by decide +kernel) (pa_cons (d_var (pv 0)) (pa_cons (pe_glob (v := .ref _) rfl ec_InvalidLead.gC rfl) pa_nil)))) (da_cons (d_isX T.xa (by decide +kernel) (T.y_InvalidFigure.trans (congrArg some ec_InvalidFigure.gC)) (pe_callB Lx.call_isX rfl T.z_isinstance (by decide +kernel) (pa_cons (d_var (pv 0)) (pa_cons (pe_glob (v := .ref _) rfl ec_InvalidFigure.gC rfl) pa_nil)))) da_nil)))) od_addZ))) (ds_cons (ds_set (ps_set (i := 1) sc_l_truths.nd rfl (Or.inl rfl) (d_op (pe_op op_addZ (d_var (pv 1)) (d_lst (da_cons (d_isX T.xa (by decide +kernel) (T.y_InvalidSketch.trans (congrArg some ec_InvalidSketch.gC)) (pe_callB Lx.call_isX rfl T.z_isinstance (by decide +kernel) (pa_cons (d_var (pv 0)) (pa_cons (pe_glob (v := .ref _) rfl ec_InvalidSketch.gC rfl) pa_nil)))) (da_cons (d_isX T.xa (by decide +kernel) (T.y_InvalidScene.trans (congrArg some ec_InvalidScene.gC)) (pe_callB Lx.call_isX rfl T.z_isinstance (by decide +kernel) (pa_cons (d_var (pv 0)) (pa_cons (pe_glob (v := .ref _) rfl ec_InvalidScene.gC rfl) pa_nil)))) da_nil)))) od_addZ))) (ds_cons (ds_set (ps_set (i := 1) sc_l_truths.nd rfl (Or.inl rfl) (d_op (pe_op op_addZ (d_var (pv 1)) (d_lst (da_cons (d_isX T.xa (by decide +kernel) (T.y_InvalidName.trans (congrArg some ec_InvalidName.gC)) (pe_callB Lx.call_isX rfl T.z_isinstance (by decide +kernel) (pa_cons (d_var (pv 0)) (pa_cons (pe_glob (v := .ref _) rfl ec_InvalidName.gC rfl) pa_nil)))) (da_cons (d_isX T.xa (by decide +kernel) (T.y_UnknownName.trans (congrArg some ec_UnknownName.gC)) (pe_callB Lx.call_isX rfl T.z_isinstance (by decide +kernel) (pa_cons (d_var (pv 0)) (pa_cons (pe_glob (v := .ref _) rfl ec_UnknownName.gC rfl) pa_nil)))) (da_cons (d_isX T.xa (by decide +kernel) (T.y_NameTaken.trans (congrArg some ec_NameTaken.gC)) (pe_callB Lx.call_isX rfl T.z_isinstance (by decide +kernel) (pa_cons (d_var (pv 0)) (pa_cons (pe_glob (v := .ref _) rfl ec_NameTaken.gC rfl) pa_nil)))) da_nil))))) od_addZ))) (ds_cons (ds_set (ps_set (i := 1) sc_l_truths.nd rfl (Or.inl rfl) (d_op (pe_op op_addZ (d_var (pv 1)) (d_lst (da_cons (d_isX T.xa (by decide +kernel) (T.y_InUse.trans (congrArg some ec_InUse.gC)) (pe_callB Lx.call_isX rfl T.z_isinstance (by decide +kernel) (pa_cons (d_var (pv 0)) (pa_cons (pe_glob (v := .ref _) rfl ec_InUse.gC rfl) pa_nil)))) (da_cons (d_isX T.xa (by decide +kernel) (T.y_ComesRound.trans (congrArg some ec_ComesRound.gC)) (pe_callB Lx.call_isX rfl T.z_isinstance (by decide +kernel) (pa_cons (d_var (pv 0)) (pa_cons (pe_glob (v := .ref _) rfl ec_ComesRound.gC rfl) pa_nil)))) (da_cons (d_isX T.xa (by decide +kernel) (T.y_TooDeep.trans (congrArg some ec_TooDeep.gC)) (pe_callB Lx.call_isX rfl T.z_isinstance (by decide +kernel) (pa_cons (d_var (pv 0)) (pa_cons (pe_glob (v := .ref _) rfl ec_TooDeep.gC rfl) pa_nil)))) da_nil))))) od_addZ))) (ds_cons (ds_set (ps_set (i := 1) sc_l_truths.nd rfl (Or.inl rfl) (d_op (pe_op op_addZ (d_var (pv 1)) (d_lst (da_cons (d_isX T.xa (by decide +kernel) (T.y_TooMany.trans (congrArg some ec_TooMany.gC)) (pe_callB Lx.call_isX rfl T.z_isinstance (by decide +kernel) (pa_cons (d_var (pv 0)) (pa_cons (pe_glob (v := .ref _) rfl ec_TooMany.gC rfl) pa_nil)))) (da_cons (d_isX T.xa (by decide +kernel) (T.y_InvalidIndex.trans (congrArg some ec_InvalidIndex.gC)) (pe_callB Lx.call_isX rfl T.z_isinstance (by decide +kernel) (pa_cons (d_var (pv 0)) (pa_cons (pe_glob (v := .ref _) rfl ec_InvalidIndex.gC rfl) pa_nil)))) (da_cons (d_isX T.xa (by decide +kernel) (T.y_InvalidCount.trans (congrArg some ec_InvalidCount.gC)) (pe_callB Lx.call_isX rfl T.z_isinstance (by decide +kernel) (pa_cons (d_var (pv 0)) (pa_cons (pe_glob (v := .ref _) rfl ec_InvalidCount.gC rfl) pa_nil)))) da_nil))))) od_addZ))) (ds_cons (ds_set (ps_set (i := 1) sc_l_truths.nd rfl (Or.inl rfl) (d_op (pe_op op_addZ (d_var (pv 1)) (d_lst (da_cons (d_isX T.xa (by decide +kernel) (T.y_InvalidView.trans (congrArg some ec_InvalidView.gC)) (pe_callB Lx.call_isX rfl T.z_isinstance (by decide +kernel) (pa_cons (d_var (pv 0)) (pa_cons (pe_glob (v := .ref _) rfl ec_InvalidView.gC rfl) pa_nil)))) (da_cons (d_isX T.xa (by decide +kernel) (T.y_InvalidPicture.trans (congrArg some ec_InvalidPicture.gC)) (pe_callB Lx.call_isX rfl T.z_isinstance (by decide +kernel) (pa_cons (d_var (pv 0)) (pa_cons (pe_glob (v := .ref _) rfl ec_InvalidPicture.gC rfl) pa_nil)))) da_nil)))) od_addZ))) (ds_cons (ds_set (ps_set (i := 1) sc_l_truths.nd rfl (Or.inl rfl) (d_op (pe_op op_addZ (d_var (pv 1)) (d_lst (da_cons (d_isX T.xa (by decide +kernel) (T.y_InvalidCurves.trans (congrArg some ec_InvalidCurves.gC)) (pe_callB Lx.call_isX rfl T.z_isinstance (by decide +kernel) (pa_cons (d_var (pv 0)) (pa_cons (pe_glob (v := .ref _) rfl ec_InvalidCurves.gC rfl) pa_nil)))) (da_cons (d_isX T.xa (by decide +kernel) (T.y_InvalidRow.trans (congrArg some ec_InvalidRow.gC)) (pe_callB Lx.call_isX rfl T.z_isinstance (by decide +kernel) (pa_cons (d_var (pv 0)) (pa_cons (pe_glob (v := .ref _) rfl ec_InvalidRow.gC rfl) pa_nil)))) (da_cons (d_isX T.xa (by decide +kernel) (T.y_InvalidLines.trans (congrArg some ec_InvalidLines.gC)) (pe_callB Lx.call_isX rfl T.z_isinstance (by decide +kernel) (pa_cons (d_var (pv 0)) (pa_cons (pe_glob (v := .ref _) rfl ec_InvalidLines.gC rfl) pa_nil)))) da_nil))))) od_addZ))) (ds_cons (ds_set (ps_set (i := 1) sc_l_truths.nd rfl (Or.inl rfl) (d_op (pe_op op_addZ (d_var (pv 1)) (d_lst (da_cons (d_isX T.xa (by decide +kernel) (T.y_InvalidBytes.trans (congrArg some ec_InvalidBytes.gC)) (pe_callB Lx.call_isX rfl T.z_isinstance (by decide +kernel) (pa_cons (d_var (pv 0)) (pa_cons (pe_glob (v := .ref _) rfl ec_InvalidBytes.gC rfl) pa_nil)))) (da_cons (d_isX T.xa (by decide +kernel) (T.y_BadText.trans (congrArg some ec_BadText.gC)) (pe_callB Lx.call_isX rfl T.z_isinstance (by decide +kernel) (pa_cons (d_var (pv 0)) (pa_cons (pe_glob (v := .ref _) rfl ec_BadText.gC rfl) pa_nil)))) (da_cons (d_isX T.xa (by decide +kernel) (T.y_NotBounded.trans (congrArg some e0_NotBounded.gC)) (pe_callB Lx.call_isX rfl T.z_isinstance (by decide +kernel) (pa_cons (d_var (pv 0)) (pa_cons (pe_glob (v := .ref _) rfl e0_NotBounded.gC rfl) pa_nil)))) da_nil))))) od_addZ))) (ds_cons (ds_set (ps_set (i := 1) sc_l_truths.nd rfl (Or.inl rfl) (d_op (pe_op op_addZ (d_var (pv 1)) (d_lst (da_cons (d_isX T.xa (by decide +kernel) (T.y_NothingInside.trans (congrArg some e0_NothingInside.gC)) (pe_callB Lx.call_isX rfl T.z_isinstance (by decide +kernel) (pa_cons (d_var (pv 0)) (pa_cons (pe_glob (v := .ref _) rfl e0_NothingInside.gC rfl) pa_nil)))) (da_cons (d_isX T.xa (by decide +kernel) (T.y_NotStraight.trans (congrArg some e0_NotStraight.gC)) (pe_callB Lx.call_isX rfl T.z_isinstance (by decide +kernel) (pa_cons (d_var (pv 0)) (pa_cons (pe_glob (v := .ref _) rfl e0_NotStraight.gC rfl) pa_nil)))) da_nil)))) od_addZ))) (ds_cons (ds_set (ps_set (i := 1) sc_l_truths.nd rfl (Or.inl rfl) (d_op (pe_op op_addZ (d_var (pv 1)) (d_lst (da_cons (d_isX T.xa (by decide +kernel) (T.y_NothingToUndo.trans (congrArg some e0_NothingToUndo.gC)) (pe_callB Lx.call_isX rfl T.z_isinstance (by decide +kernel) (pa_cons (d_var (pv 0)) (pa_cons (pe_glob (v := .ref _) rfl e0_NothingToUndo.gC rfl) pa_nil)))) (da_cons (d_isX T.xa (by decide +kernel) (T.y_NothingToRedo.trans (congrArg some e0_NothingToRedo.gC)) (pe_callB Lx.call_isX rfl T.z_isinstance (by decide +kernel) (pa_cons (d_var (pv 0)) (pa_cons (pe_glob (v := .ref _) rfl e0_NothingToRedo.gC rfl) pa_nil)))) da_nil)))) od_addZ))) (ds_cons (ds_set (ps_set (i := 1) sc_l_truths.nd rfl (Or.inl rfl) (d_op (pe_op op_addZ (d_var (pv 1)) (d_lst (da_cons (d_isX T.xa (by decide +kernel) (T.y_PlaneError.trans (congrArg some e0_PlaneError.gC)) (pe_callB Lx.call_isX rfl T.z_isinstance (by decide +kernel) (pa_cons (d_var (pv 0)) (pa_cons (pe_glob (v := .ref _) rfl e0_PlaneError.gC rfl) pa_nil)))) (da_cons (d_isB (T := "ValueError") T.xa (by decide +kernel) (pe_callB Lx.call_isX rfl T.z_isinstance (by decide +kernel) (pa_cons (d_var (pv 0)) (pa_cons (pe_bltn (v := .ty "ValueError") rfl T.z_ValueError (by decide +kernel) rfl) pa_nil)))) (da_cons (d_isB (T := "Exception") T.xa (by decide +kernel) (pe_callB Lx.call_isX rfl T.z_isinstance (by decide +kernel) (pa_cons (d_var (pv 0)) (pa_cons (pe_bltn (v := .ty "Exception") rfl T.z_Exception (by decide +kernel) rfl) pa_nil)))) da_nil))))) od_addZ))) (ds_cons (ds_set (ps_set (i := 1) sc_l_truths.nd rfl (Or.inl rfl) (d_op (pe_op op_addZ (d_var (pv 1)) (d_lst (da_cons (d_isB (T := "LookupError") T.xa (by decide +kernel) (pe_callB Lx.call_isX rfl T.z_isinstance (by decide +kernel) (pa_cons (d_var (pv 0)) (pa_cons (pe_bltn (v := .ty "LookupError") rfl T.z_LookupError (by decide +kernel) rfl) pa_nil)))) (da_cons (d_isB (T := "TypeError") T.xa (by decide +kernel) (pe_callB Lx.call_isX rfl T.z_isinstance (by decide +kernel) (pa_cons (d_var (pv 0)) (pa_cons (pe_bltn (v := .ty "TypeError") rfl T.z_TypeError (by decide +kernel) rfl) pa_nil)))) (da_cons (d_isB (T := "ArithmeticError") T.xa (by decide +kernel) (pe_callB Lx.call_isX rfl T.z_isinstance (by decide +kernel) (pa_cons (d_var (pv 0)) (pa_cons (pe_bltn (v := .ty "ArithmeticError") rfl T.z_ArithmeticError (by decide +kernel) rfl) pa_nil)))) da_nil))))) od_addZ))) (ds_one (ds_ret (ps_ret (d_op (pe_op op_addZ (d_var (pv 1)) (d_lst (da_cons (d_isB (T := "RuntimeError") T.xa (by decide +kernel) (pe_callB Lx.call_isX rfl T.z_isinstance (by decide +kernel) (pa_cons (d_var (pv 0)) (pa_cons (pe_bltn (v := .ty "RuntimeError") rfl T.z_RuntimeError (by decide +kernel) rfl) pa_nil)))) (da_cons (d_isB (T := "AttributeError") T.xa (by decide +kernel) (pe_callB Lx.call_isX rfl T.z_isinstance (by decide +kernel) (pa_cons (d_var (pv 0)) (pa_cons (pe_bltn (v := .ty "AttributeError") rfl T.z_AttributeError (by decide +kernel) rfl) pa_nil)))) da_nil)))) od_addZ))))))))))))))))))
def b_l_lean : TSD := (sSeq (sSet 2 (dIf (dCmp fGt (dV 1) (dC (.int 0))) (dCall t_l_common (dCons (dV 0) (dCons (dV 1) dNil))) (dOp fSub (dC (.int 0)) (dCall t_l_common (dCons (dV 0) (dCons (dV 1) dNil)))))) (sRet (dTup (dCons (dOp fFdv (dV 0) (dV 2)) (dCons (dOp fFdv (dV 1) (dV 2)) dNil)))))
def t_l_lean : TF := tfOf N_l_lean b_l_lean
theorem c_l_lean {g : Bool} (T : Top K mg) : Cq g (L2.CX P w) P w K mg base 2 "_law_lean" (spF ⟨base, K, ⟨false, Tz, false⟩⟩ mg 2 t_l_lean) := by
  exact Lw.Dn.dataQ T.d_l_lean sc_l_lean fun f cdv A outer s H E hr hg => (ds_cons (ds_set (ps_set (i := 2) sc_l_lean.nd rfl (Or.inl rfl) (d_if (pe_ifExp (dt_cmp (pt_cmpR op_gt (d_var (pv 1)) d_int (nomark _)) cd_int) (d_call (pe_clQ (E := fun _ => E) (c_l_common T) hr hg (fun σ => passAt (takes_of rfl rfl rfl rfl) σ) rfl (da_cons (d_var (pv 0)) (da_cons (d_var (pv 1)) da_nil)))) (d_op (pe_op op_sub d_int (d_call (pe_clQ (E := fun _ => E) (c_l_common T) hr hg (fun σ => passAt (takes_of rfl rfl rfl rfl) σ) rfl (da_cons (d_var (pv 0)) (da_cons (d_var (pv 1)) da_nil))))) od_int0))))) (ds_one (ds_ret (ps_ret (d_tup (da_cons (d_op (pe_op op_fdivZ (d_var (pv 0)) (d_var (pv 2))) od_int) (da_cons (d_op (pe_op op_fdivZ (d_var (pv 1)) (d_var (pv 2))) od_int) da_nil)))))))
def b_l_odd : TSD := (sRet (dCall t_l_pick (dConsW 0 (dCons (dC (.tuple [.none, (.bool true), (.bool false), (.int 0), (.int 1), (.int (-1)), (.int 3), (.int (10 ^ 25)), (.str ""), (.str "0"), (.str "line"), (.tuple []), (.tuple [(.int 0)]), (.tuple [(.int 0), (.int 1)]), (.tuple [(.int 1), (.int 1)]), (.tuple [(.int 2), (.int 2)]), (.tuple [(.int 0), (.int 3)]), (.tuple [(.int 1), (.int 0)]), (.tuple [(.int 3), (.int (-2))]), (.tuple [(.bool true), (.int 1)]), (.tuple [(.int 0), (.bool true)]), (.tuple [(.int 1), (.int 1), (.int 1)]), (.tuple [(.tuple [])]), (.tuple [(.tuple [(.int 0), (.int 1)])]), (.tuple [(.tuple [(.int 0), (.int 1)]), (.tuple [(.int 0), (.int 1)])]), (.tuple [(.tuple [(.int 0), (.int 1)]), (.tuple [(.int 1), (.int 1)]), (.tuple [(.int 0), (.int 1)])]), (.list []), (.list [(.int 0), (.int 1)]), (.list [(.tuple [(.int 0), (.int 1)])]), (.dict []), (.tuple [.none, (.int 1)]), (.tuple [(.str "0"), (.int 1)]), (.tuple [(.int 1), (.int 0), (.int (-2)), (.bool true)]), (.tuple [(.int 1), (.int 0), (.int (-2)), (.int 1)]), (.tuple [(.int 1), (.int 0), (.int (-4)), (.bool true)]), (.tuple [(.int 2), (.int 0), (.int (-4)), (.bool false)]), (.tuple [(.int 1), (.int (-2)), (.int (-1)), (.bool false)]), (.tuple [(.str "line"), (.tuple [(.int 1), (.int 1)]), (.tuple [(.int 0), (.int 1)]), (.tuple [(.int 0), (.int 1)])]), (.tuple [(.str "all")]), (.tuple [(.str "none"), (.int 1)]), (.tuple [(.str "line"), (.tuple [(.int 0), (.int 1)]), (.tuple [(.int 0), (.int 1)]), (.tuple [(.int 1), (.int 1)])]), (.tuple [(.str "circle"), (.tuple [(.int 0), (.int 1)]), (.tuple [(.int 0), (.int 1)]), (.tuple [(.int 1), (.int 1)])]), (.tuple [(.str "circle"), (.tuple [(.int 0), (.int 1)]), (.tuple [(.int 0), (.int 1)]), (.tuple [(.int 0), (.int 1)])]), (.tuple [(.tuple [(.int 1), (.int 0), (.int (-2)), (.bool true)]), (.tuple [(.int 0), (.int 1)])]), (.tuple [(.int 1), (.int 2)])])) dNil))))
def t_l_odd : TF := tfOf N_l_odd b_l_odd
theorem cz_l_odd (T : Top K mg) : Cq true (L2.CX P w) P w K mg base 3 "_law_odd" (spF ⟨base, K, ⟨true, Tz, true⟩⟩ mg 1 t_l_odd) := by
    exact Lw.Dn.dataQ T.d_l_odd sc_l_odd fun f cdv A outer s H E hr hg => (ds_one (ds_ret (ps_ret (d_call (pe_clQ (E := fun _ => E) (cz_l_pick T) hr hg (fun σ => passAt (takes_of rfl rfl rfl rfl) σ) rfl (da_well (pv 0) (da_cons (d_data (pd_tup (pda_cons pd_non (pda_cons pd_bl (pda_cons pd_bl (pda_cons pd_int (pda_cons pd_int (pda_cons (pd_neg pd_int) (pda_cons pd_int (pda_cons (pd_pow (n := 25) pd_int pd_int (by decide) (by decide)) (pda_cons pd_str (pda_cons pd_str (pda_cons pd_str (pda_cons (pd_tup pda_nil) (pda_cons (pd_tup (pda_cons pd_int pda_nil)) (pda_cons (pd_tup (pda_cons pd_int (pda_cons pd_int pda_nil))) (pda_cons (pd_tup (pda_cons pd_int (pda_cons pd_int pda_nil))) (pda_cons (pd_tup (pda_cons pd_int (pda_cons pd_int pda_nil))) (pda_cons (pd_tup (pda_cons pd_int (pda_cons pd_int pda_nil))) (pda_cons (pd_tup (pda_cons pd_int (pda_cons pd_int pda_nil))) (pda_cons (pd_tup (pda_cons pd_int (pda_cons (pd_neg pd_int) pda_nil))) (pda_cons (pd_tup (pda_cons pd_bl (pda_cons pd_int pda_nil))) (pda_cons (pd_tup (pda_cons pd_int (pda_cons pd_bl pda_nil))) (pda_cons (pd_tup (pda_cons pd_int (pda_cons pd_int (pda_cons pd_int pda_nil)))) (pda_cons (pd_tup (pda_cons (pd_tup pda_nil) pda_nil)) (pda_cons (pd_tup (pda_cons (pd_tup (pda_cons pd_int (pda_cons pd_int pda_nil))) pda_nil)) (pda_cons (pd_tup (pda_cons (pd_tup (pda_cons pd_int (pda_cons pd_int pda_nil))) (pda_cons (pd_tup (pda_cons pd_int (pda_cons pd_int pda_nil))) pda_nil))) (pda_cons (pd_tup (pda_cons (pd_tup (pda_cons pd_int (pda_cons pd_int pda_nil))) (pda_cons (pd_tup (pda_cons pd_int (pda_cons pd_int pda_nil))) (pda_cons (pd_tup (pda_cons pd_int (pda_cons pd_int pda_nil))) pda_nil)))) (pda_cons (pd_lst pda_nil) (pda_cons (pd_lst (pda_cons pd_int (pda_cons pd_int pda_nil))) (pda_cons (pd_lst (pda_cons (pd_tup (pda_cons pd_int (pda_cons pd_int pda_nil))) pda_nil)) (pda_cons pd_dct (pda_cons (pd_tup (pda_cons pd_non (pda_cons pd_int pda_nil))) (pda_cons (pd_tup (pda_cons pd_str (pda_cons pd_int pda_nil))) (pda_cons (pd_tup (pda_cons pd_int (pda_cons pd_int (pda_cons (pd_neg pd_int) (pda_cons pd_bl pda_nil))))) (pda_cons (pd_tup (pda_cons pd_int (pda_cons pd_int (pda_cons (pd_neg pd_int) (pda_cons pd_int pda_nil))))) (pda_cons (pd_tup (pda_cons pd_int (pda_cons pd_int (pda_cons (pd_neg pd_int) (pda_cons pd_bl pda_nil))))) (pda_cons (pd_tup (pda_cons pd_int (pda_cons pd_int (pda_cons (pd_neg pd_int) (pda_cons pd_bl pda_nil))))) (pda_cons (pd_tup (pda_cons pd_int (pda_cons (pd_neg pd_int) (pda_cons (pd_neg pd_int) (pda_cons pd_bl pda_nil))))) (pda_cons (pd_tup (pda_cons pd_str (pda_cons (pd_tup (pda_cons pd_int (pda_cons pd_int pda_nil))) (pda_cons (pd_tup (pda_cons pd_int (pda_cons pd_int pda_nil))) (pda_cons (pd_tup (pda_cons pd_int (pda_cons pd_int pda_nil))) pda_nil))))) (pda_cons (pd_tup (pda_cons pd_str pda_nil)) (pda_cons (pd_tup (pda_cons pd_str (pda_cons pd_int pda_nil))) (pda_cons (pd_tup (pda_cons pd_str (pda_cons (pd_tup (pda_cons pd_int (pda_cons pd_int pda_nil))) (pda_cons (pd_tup (pda_cons pd_int (pda_cons pd_int pda_nil))) (pda_cons (pd_tup (pda_cons pd_int (pda_cons pd_int pda_nil))) pda_nil))))) (pda_cons (pd_tup (pda_cons pd_str (pda_cons (pd_tup (pda_cons pd_int (pda_cons pd_int pda_nil))) (pda_cons (pd_tup (pda_cons pd_int (pda_cons pd_int pda_nil))) (pda_cons (pd_tup (pda_cons pd_int (pda_cons pd_int pda_nil))) pda_nil))))) (pda_cons (pd_tup (pda_cons pd_str (pda_cons (pd_tup (pda_cons pd_int (pda_cons pd_int pda_nil))) (pda_cons (pd_tup (pda_cons pd_int (pda_cons pd_int pda_nil))) (pda_cons (pd_tup (pda_cons pd_int (pda_cons pd_int pda_nil))) pda_nil))))) (pda_cons (pd_tup (pda_cons (pd_tup (pda_cons pd_int (pda_cons pd_int (pda_cons (pd_neg pd_int) (pda_cons pd_bl pda_nil))))) (pda_cons (pd_tup (pda_cons pd_int (pda_cons pd_int pda_nil))) pda_nil))) (pda_cons (pd_tup (pda_cons pd_int (pda_cons pd_int pda_nil))) pda_nil))))))))))))))))))))))))))))))))))))))))))))))) da_nil)))))))
def b_l_by_place : TSD := (sSeq (sIf (dCmp fLt (dV 0) (dC (.int 11))) (sRet (dCall t_l_low (dCons (dV 0) (dCons (dV 1) dNil)))) sNx) (sSeq (sIf (dCmp fLt (dV 0) (dC (.int 14))) (sRet (dIf (dCmp fEq (dV 0) (dC (.int 11))) (dNew "UnknownName" "given" (dCons (dV 1) dNil)) (dIf (dCmp fEq (dV 0) (dC (.int 12))) (dNew "NameTaken" "given" (dCons (dV 1) dNil)) (dNew "InUse" "given" (dCons (dV 1) dNil))))) sNx) (sSeq (sIf (dCmp fLt (dV 0) (dC (.int 17))) (sRet (dIf (dCmp fEq (dV 0) (dC (.int 14))) (dNew "ComesRound" "given" (dCons (dV 1) dNil)) (dIf (dCmp fEq (dV 0) (dC (.int 15))) (dNew "TooDeep" "given" (dCons (dV 1) dNil)) (dNew "TooMany" "given" (dCons (dV 1) dNil))))) sNx) (sSeq (sIf (dCmp fLt (dV 0) (dC (.int 21))) (sSeq (sIf (dCmp fLt (dV 0) (dC (.int 19))) (sRet (dIf (dCmp fEq (dV 0) (dC (.int 17))) (dNew "InvalidIndex" "given" (dCons (dV 1) dNil)) (dNew "InvalidCount" "given" (dCons (dV 1) dNil)))) sNx) (sRet (dIf (dCmp fEq (dV 0) (dC (.int 19))) (dNew "InvalidView" "given" (dCons (dV 1) dNil)) (dNew "InvalidPicture" "given" (dCons (dV 1) dNil))))) sNx) (sSeq (sIf (dCmp fLt (dV 0) (dC (.int 24))) (sRet (dIf (dCmp fEq (dV 0) (dC (.int 21))) (dNew "InvalidCurves" "index" (dCons (dV 1) dNil)) (dIf (dCmp fEq (dV 0) (dC (.int 22))) (dNew "InvalidRow" "index" (dCons (dV 1) dNil)) (dNew "InvalidLines" "index" (dCons (dV 1) dNil))))) sNx) (sSeq (sIf (dCmp fLt (dV 0) (dC (.int 26))) (sRet (dIf (dCmp fEq (dV 0) (dC (.int 24))) (dNew "InvalidBytes" "index" (dCons (dV 1) dNil)) (dNew "BadText" "spot" (dCons (dV 1) dNil)))) sNx) (sSeq (sIf (dCmp fLt (dV 0) (dC (.int 29))) (sRet (dIf (dCmp fEq (dV 0) (dC (.int 26))) (dC (xD0 "NotBounded")) (dIf (dCmp fEq (dV 0) (dC (.int 27))) (dC (xD0 "NothingInside")) (dC (xD0 "NotStraight"))))) sNx) (sRet (dIf (dCmp fEq (dV 0) (dC (.int 29))) (dC (xD0 "NothingToUndo")) (dIf (dCmp fEq (dV 0) (dC (.int 30))) (dC (xD0 "NothingToRedo")) (dC (xD0 "PlaneError"))))))))))))
def t_l_by_place : TF := tfOf N_l_by_place b_l_by_place
theorem cz_l_by_place {g : Bool} (T : Top K mg) : Cq g (L2.CX P w) P w K mg base 4 "_law_by_place" (spF ⟨base, K, ⟨true, Tz, true⟩⟩ mg 2 t_l_by_place) := by
    obtain ⟨C_BadText, fI_BadText, fd_BadText, ec_BadText⟩ := T.e_BadText
    obtain ⟨C_ComesRound, fI_ComesRound, fd_ComesRound, ec_ComesRound⟩ := T.e_ComesRound
    obtain ⟨C_InUse, fI_InUse, fd_InUse, ec_InUse⟩ := T.e_InUse
    obtain ⟨C_InvalidBytes, fI_InvalidBytes, fd_InvalidBytes, ec_InvalidBytes⟩ := T.e_InvalidBytes
    obtain ⟨C_InvalidCount, fI_InvalidCount, fd_InvalidCount, ec_InvalidCount⟩ := T.e_InvalidCount
    obtain ⟨C_InvalidCurves, fI_InvalidCurves, fd_InvalidCurves, ec_InvalidCurves⟩ := T.e_InvalidCurves
    obtain ⟨C_InvalidIndex, fI_InvalidIndex, fd_InvalidIndex, ec_InvalidIndex⟩ := T.e_InvalidIndex
    obtain ⟨C_InvalidLines, fI_InvalidLines, fd_InvalidLines, ec_InvalidLines⟩ := T.e_InvalidLines
    obtain ⟨C_InvalidPicture, fI_InvalidPicture, fd_InvalidPicture, ec_InvalidPicture⟩ := T.e_InvalidPicture
    obtain ⟨C_InvalidRow, fI_InvalidRow, fd_InvalidRow, ec_InvalidRow⟩ := T.e_InvalidRow
    obtain ⟨C_InvalidView, fI_InvalidView, fd_InvalidView, ec_InvalidView⟩ := T.e_InvalidView
    obtain ⟨C_NameTaken, fI_NameTaken, fd_NameTaken, ec_NameTaken⟩ := T.e_NameTaken
    obtain ⟨C_TooDeep, fI_TooDeep, fd_TooDeep, ec_TooDeep⟩ := T.e_TooDeep
    obtain ⟨C_TooMany, fI_TooMany, fd_TooMany, ec_TooMany⟩ := T.e_TooMany
    obtain ⟨C_UnknownName, fI_UnknownName, fd_UnknownName, ec_UnknownName⟩ := T.e_UnknownName
    obtain ⟨C_NotBounded, e0_NotBounded⟩ := T.b_NotBounded
    obtain ⟨C_NotStraight, e0_NotStraight⟩ := T.b_NotStraight
    obtain ⟨C_NothingInside, e0_NothingInside⟩ := T.b_NothingInside
    obtain ⟨C_NothingToRedo, e0_NothingToRedo⟩ := T.b_NothingToRedo
    obtain ⟨C_NothingToUndo, e0_NothingToUndo⟩ := T.b_NothingToUndo
    obtain ⟨C_PlaneError, e0_PlaneError⟩ := T.b_PlaneError
    exact Lw.Dn.dataQ T.d_l_by_place sc_l_by_place fun f cdv A outer s H E hr hg => (ds_cons (ds_if (ps_if (dt_cmp (pt_cmpR op_lt (d_var (pv 0)) d_int (nomark _)) cd_int) (ds_one (ds_ret (ps_ret (d_call (pe_clQ (E := fun _ => E) (cz_l_low T) hr hg (fun σ => passAt (takes_of rfl rfl rfl rfl) σ) rfl (da_cons (d_var (pv 0)) (da_cons (d_var (pv 1)) da_nil))))))) ds_nil)) (ds_cons (ds_if (ps_if (dt_cmp (pt_cmpR op_lt (d_var (pv 0)) d_int (nomark _)) cd_int) (ds_one (ds_ret (ps_ret (d_if (pe_ifExp (dt_cmp (pt_cmpR (op_eqG hr) (d_var (pv 0)) d_int (nomark _)) cd_eq) (d_new (T.y_UnknownName.trans (congrArg some ec_UnknownName.gC)) (Lx.pe_new ec_UnknownName (j_UnknownName ec_UnknownName) hr rfl (da_cons (d_var (pv 1)) da_nil))) (d_if (pe_ifExp (dt_cmp (pt_cmpR (op_eqG hr) (d_var (pv 0)) d_int (nomark _)) cd_eq) (d_new (T.y_NameTaken.trans (congrArg some ec_NameTaken.gC)) (Lx.pe_new ec_NameTaken (j_NameTaken ec_NameTaken) hr rfl (da_cons (d_var (pv 1)) da_nil))) (d_new (T.y_InUse.trans (congrArg some ec_InUse.gC)) (Lx.pe_new ec_InUse (j_InUse ec_InUse) hr rfl (da_cons (d_var (pv 1)) da_nil)))))))))) ds_nil)) (ds_cons (ds_if (ps_if (dt_cmp (pt_cmpR op_lt (d_var (pv 0)) d_int (nomark _)) cd_int) (ds_one (ds_ret (ps_ret (d_if (pe_ifExp (dt_cmp (pt_cmpR (op_eqG hr) (d_var (pv 0)) d_int (nomark _)) cd_eq) (d_new (T.y_ComesRound.trans (congrArg some ec_ComesRound.gC)) (Lx.pe_new ec_ComesRound (j_ComesRound ec_ComesRound) hr rfl (da_cons (d_var (pv 1)) da_nil))) (d_if (pe_ifExp (dt_cmp (pt_cmpR (op_eqG hr) (d_var (pv 0)) d_int (nomark _)) cd_eq) (d_new (T.y_TooDeep.trans (congrArg some ec_TooDeep.gC)) (Lx.pe_new ec_TooDeep (j_TooDeep ec_TooDeep) hr rfl (da_cons (d_var (pv 1)) da_nil))) (d_new (T.y_TooMany.trans (congrArg some ec_TooMany.gC)) (Lx.pe_new ec_TooMany (j_TooMany ec_TooMany) hr rfl (da_cons (d_var (pv 1)) da_nil)))))))))) ds_nil)) (ds_cons (ds_if (ps_if (dt_cmp (pt_cmpR op_lt (d_var (pv 0)) d_int (nomark _)) cd_int) (ds_cons (ds_if (ps_if (dt_cmp (pt_cmpR op_lt (d_var (pv 0)) d_int (nomark _)) cd_int) (ds_one (ds_ret (ps_ret (d_if (pe_ifExp (dt_cmp (pt_cmpR (op_eqG hr) (d_var (pv 0)) d_int (nomark _)) cd_eq) (d_new (T.y_InvalidIndex.trans (congrArg some ec_InvalidIndex.gC)) (Lx.pe_new ec_InvalidIndex (j_InvalidIndex ec_InvalidIndex) hr rfl (da_cons (d_var (pv 1)) da_nil))) (d_new (T.y_InvalidCount.trans (congrArg some ec_InvalidCount.gC)) (Lx.pe_new ec_InvalidCount (j_InvalidCount ec_InvalidCount) hr rfl (da_cons (d_var (pv 1)) da_nil)))))))) ds_nil)) (ds_one (ds_ret (ps_ret (d_if (pe_ifExp (dt_cmp (pt_cmpR (op_eqG hr) (d_var (pv 0)) d_int (nomark _)) cd_eq) (d_new (T.y_InvalidView.trans (congrArg some ec_InvalidView.gC)) (Lx.pe_new ec_InvalidView (j_InvalidView ec_InvalidView) hr rfl (da_cons (d_var (pv 1)) da_nil))) (d_new (T.y_InvalidPicture.trans (congrArg some ec_InvalidPicture.gC)) (Lx.pe_new ec_InvalidPicture (j_InvalidPicture ec_InvalidPicture) hr rfl (da_cons (d_var (pv 1)) da_nil))))))))) ds_nil)) (ds_cons (ds_if (ps_if (dt_cmp (pt_cmpR op_lt (d_var (pv 0)) d_int (nomark _)) cd_int) (ds_one (ds_ret (ps_ret (d_if (pe_ifExp (dt_cmp (pt_cmpR (op_eqG hr) (d_var (pv 0)) d_int (nomark _)) cd_eq) (d_new (T.y_InvalidCurves.trans (congrArg some ec_InvalidCurves.gC)) (Lx.pe_new ec_InvalidCurves (j_InvalidCurves ec_InvalidCurves) hr rfl (da_cons (d_var (pv 1)) da_nil))) (d_if (pe_ifExp (dt_cmp (pt_cmpR (op_eqG hr) (d_var (pv 0)) d_int (nomark _)) cd_eq) (d_new (T.y_InvalidRow.trans (congrArg some ec_InvalidRow.gC)) (Lx.pe_new ec_InvalidRow (j_InvalidRow ec_InvalidRow) hr rfl (da_cons (d_var (pv 1)) da_nil))) (d_new (T.y_InvalidLines.trans (congrArg some ec_InvalidLines.gC)) (Lx.pe_new ec_InvalidLines (j_InvalidLines ec_InvalidLines) hr rfl (da_cons (d_var (pv 1)) da_nil)))))))))) ds_nil)) (ds_cons (ds_if (ps_if (dt_cmp (pt_cmpR op_lt (d_var (pv 0)) d_int (nomark _)) cd_int) (ds_one (ds_ret (ps_ret (d_if (pe_ifExp (dt_cmp (pt_cmpR (op_eqG hr) (d_var (pv 0)) d_int (nomark _)) cd_eq) (d_new (T.y_InvalidBytes.trans (congrArg some ec_InvalidBytes.gC)) (Lx.pe_new ec_InvalidBytes (j_InvalidBytes ec_InvalidBytes) hr rfl (da_cons (d_var (pv 1)) da_nil))) (d_new (T.y_BadText.trans (congrArg some ec_BadText.gC)) (Lx.pe_new ec_BadText (j_BadText ec_BadText) hr rfl (da_cons (d_var (pv 1)) da_nil)))))))) ds_nil)) (ds_cons (ds_if (ps_if (dt_cmp (pt_cmpR op_lt (d_var (pv 0)) d_int (nomark _)) cd_int) (ds_one (ds_ret (ps_ret (d_if (pe_ifExp (dt_cmp (pt_cmpR (op_eqG hr) (d_var (pv 0)) d_int (nomark _)) cd_eq) (d_new0 (T.y_NotBounded.trans (congrArg some e0_NotBounded.gC)) (Lx.pe_new0 e0_NotBounded rfl)) (d_if (pe_ifExp (dt_cmp (pt_cmpR (op_eqG hr) (d_var (pv 0)) d_int (nomark _)) cd_eq) (d_new0 (T.y_NothingInside.trans (congrArg some e0_NothingInside.gC)) (Lx.pe_new0 e0_NothingInside rfl)) (d_new0 (T.y_NotStraight.trans (congrArg some e0_NotStraight.gC)) (Lx.pe_new0 e0_NotStraight rfl))))))))) ds_nil)) (ds_one (ds_ret (ps_ret (d_if (pe_ifExp (dt_cmp (pt_cmpR (op_eqG hr) (d_var (pv 0)) d_int (nomark _)) cd_eq) (d_new0 (T.y_NothingToUndo.trans (congrArg some e0_NothingToUndo.gC)) (Lx.pe_new0 e0_NothingToUndo rfl)) (d_if (pe_ifExp (dt_cmp (pt_cmpR (op_eqG hr) (d_var (pv 0)) d_int (nomark _)) cd_eq) (d_new0 (T.y_NothingToRedo.trans (congrArg some e0_NothingToRedo.gC)) (Lx.pe_new0 e0_NothingToRedo rfl)) (d_new0 (T.y_PlaneError.trans (congrArg some e0_PlaneError.gC)) (Lx.pe_new0 e0_PlaneError rfl))))))))))))))))
def b_l_by_name : TSD := (sSeq (sIf (dCmp fLt (dV 0) (dC (.int 11))) (sRet (dCall t_l_low_name (dCons (dV 0) (dCons (dV 1) dNil)))) sNx) (sSeq (sIf (dCmp fLt (dV 0) (dC (.int 14))) (sSeq (sIf (dCmp fEq (dV 0) (dC (.int 11))) (sRet (dNew "UnknownName" "given" (dCons (dV 1) dNil))) sNx) (sRet (dIf (dCmp fEq (dV 0) (dC (.int 12))) (dNew "NameTaken" "given" (dCons (dV 1) dNil)) (dNew "InUse" "given" (dCons (dV 1) dNil))))) sNx) (sSeq (sIf (dCmp fLt (dV 0) (dC (.int 17))) (sSeq (sIf (dCmp fEq (dV 0) (dC (.int 14))) (sRet (dNew "ComesRound" "given" (dCons (dV 1) dNil))) sNx) (sRet (dIf (dCmp fEq (dV 0) (dC (.int 15))) (dNew "TooDeep" "given" (dCons (dV 1) dNil)) (dNew "TooMany" "given" (dCons (dV 1) dNil))))) sNx) (sSeq (sIf (dCmp fLt (dV 0) (dC (.int 21))) (sSeq (sIf (dCmp fLt (dV 0) (dC (.int 19))) (sRet (dIf (dCmp fEq (dV 0) (dC (.int 17))) (dNew "InvalidIndex" "given" (dCons (dV 1) dNil)) (dNew "InvalidCount" "given" (dCons (dV 1) dNil)))) sNx) (sRet (dIf (dCmp fEq (dV 0) (dC (.int 19))) (dNew "InvalidView" "given" (dCons (dV 1) dNil)) (dNew "InvalidPicture" "given" (dCons (dV 1) dNil))))) sNx) (sSeq (sIf (dCmp fLt (dV 0) (dC (.int 23))) (sRet (dIf (dCmp fEq (dV 0) (dC (.int 21))) (dNew "InvalidCurves" "index" (dCons (dV 1) dNil)) (dNew "InvalidRow" "index" (dCons (dV 1) dNil)))) sNx) (sSeq (sIf (dCmp fLt (dV 0) (dC (.int 25))) (sRet (dIf (dCmp fEq (dV 0) (dC (.int 23))) (dNew "InvalidLines" "index" (dCons (dV 1) dNil)) (dNew "InvalidBytes" "index" (dCons (dV 1) dNil)))) sNx) (sRet (dNew "BadText" "spot" (dCons (dV 1) dNil)))))))))
def t_l_by_name : TF := tfOf N_l_by_name b_l_by_name
theorem cz_l_by_name {g : Bool} (T : Top K mg) : Cq g (L2.CX P w) P w K mg base 4 "_law_by_name" (spF ⟨base, K, ⟨true, Tz, true⟩⟩ mg 2 t_l_by_name) := by
    obtain ⟨C_BadText, fI_BadText, fd_BadText, ec_BadText⟩ := T.e_BadText
    obtain ⟨C_ComesRound, fI_ComesRound, fd_ComesRound, ec_ComesRound⟩ := T.e_ComesRound
    obtain ⟨C_InUse, fI_InUse, fd_InUse, ec_InUse⟩ := T.e_InUse
    obtain ⟨C_InvalidBytes, fI_InvalidBytes, fd_InvalidBytes, ec_InvalidBytes⟩ := T.e_InvalidBytes
    obtain ⟨C_InvalidCount, fI_InvalidCount, fd_InvalidCount, ec_InvalidCount⟩ := T.e_InvalidCount
    obtain ⟨C_InvalidCurves, fI_InvalidCurves, fd_InvalidCurves, ec_InvalidCurves⟩ := T.e_InvalidCurves
    obtain ⟨C_InvalidIndex, fI_InvalidIndex, fd_InvalidIndex, ec_InvalidIndex⟩ := T.e_InvalidIndex
    obtain ⟨C_InvalidLines, fI_InvalidLines, fd_InvalidLines, ec_InvalidLines⟩ := T.e_InvalidLines
    obtain ⟨C_InvalidPicture, fI_InvalidPicture, fd_InvalidPicture, ec_InvalidPicture⟩ := T.e_InvalidPicture
    obtain ⟨C_InvalidRow, fI_InvalidRow, fd_InvalidRow, ec_InvalidRow⟩ := T.e_InvalidRow
    obtain ⟨C_InvalidView, fI_InvalidView, fd_InvalidView, ec_InvalidView⟩ := T.e_InvalidView
    obtain ⟨C_NameTaken, fI_NameTaken, fd_NameTaken, ec_NameTaken⟩ := T.e_NameTaken
    obtain ⟨C_TooDeep, fI_TooDeep, fd_TooDeep, ec_TooDeep⟩ := T.e_TooDeep
    obtain ⟨C_TooMany, fI_TooMany, fd_TooMany, ec_TooMany⟩ := T.e_TooMany
    obtain ⟨C_UnknownName, fI_UnknownName, fd_UnknownName, ec_UnknownName⟩ := T.e_UnknownName
    exact Lw.Dn.dataQ T.d_l_by_name sc_l_by_name fun f cdv A outer s H E hr hg => (ds_cons (ds_if (ps_if (dt_cmp (pt_cmpR op_lt (d_var (pv 0)) d_int (nomark _)) cd_int) (ds_one (ds_ret (ps_ret (d_call (pe_clQ (E := fun _ => E) (cz_l_low_name T) hr hg (fun σ => passAt (takes_of rfl rfl rfl rfl) σ) rfl (da_cons (d_var (pv 0)) (da_cons (d_var (pv 1)) da_nil))))))) ds_nil)) (ds_cons (ds_if (ps_if (dt_cmp (pt_cmpR op_lt (d_var (pv 0)) d_int (nomark _)) cd_int) (ds_cons (ds_if (ps_if (dt_cmp (pt_cmpR (op_eqG hr) (d_var (pv 0)) d_int (nomark _)) cd_eq) (ds_one (ds_ret (ps_ret (d_new (T.y_UnknownName.trans (congrArg some ec_UnknownName.gC)) (Lx.pe_newK ec_UnknownName (j_UnknownName ec_UnknownName) hr rfl (kb_UnknownName ec_UnknownName) (dk_cons (d_var (pv 1)) dk_nil)))))) ds_nil)) (ds_one (ds_ret (ps_ret (d_if (pe_ifExp (dt_cmp (pt_cmpR (op_eqG hr) (d_var (pv 0)) d_int (nomark _)) cd_eq) (d_new (T.y_NameTaken.trans (congrArg some ec_NameTaken.gC)) (Lx.pe_newK ec_NameTaken (j_NameTaken ec_NameTaken) hr rfl (kb_NameTaken ec_NameTaken) (dk_cons (d_var (pv 1)) dk_nil))) (d_new (T.y_InUse.trans (congrArg some ec_InUse.gC)) (Lx.pe_newK ec_InUse (j_InUse ec_InUse) hr rfl (kb_InUse ec_InUse) (dk_cons (d_var (pv 1)) dk_nil))))))))) ds_nil)) (ds_cons (ds_if (ps_if (dt_cmp (pt_cmpR op_lt (d_var (pv 0)) d_int (nomark _)) cd_int) (ds_cons (ds_if (ps_if (dt_cmp (pt_cmpR (op_eqG hr) (d_var (pv 0)) d_int (nomark _)) cd_eq) (ds_one (ds_ret (ps_ret (d_new (T.y_ComesRound.trans (congrArg some ec_ComesRound.gC)) (Lx.pe_newK ec_ComesRound (j_ComesRound ec_ComesRound) hr rfl (kb_ComesRound ec_ComesRound) (dk_cons (d_var (pv 1)) dk_nil)))))) ds_nil)) (ds_one (ds_ret (ps_ret (d_if (pe_ifExp (dt_cmp (pt_cmpR (op_eqG hr) (d_var (pv 0)) d_int (nomark _)) cd_eq) (d_new (T.y_TooDeep.trans (congrArg some ec_TooDeep.gC)) (Lx.pe_newK ec_TooDeep (j_TooDeep ec_TooDeep) hr rfl (kb_TooDeep ec_TooDeep) (dk_cons (d_var (pv 1)) dk_nil))) (d_new (T.y_TooMany.trans (congrArg some ec_TooMany.gC)) (Lx.pe_newK ec_TooMany (j_TooMany ec_TooMany) hr rfl (kb_TooMany ec_TooMany) (dk_cons (d_var (pv 1)) dk_nil))))))))) ds_nil)) (ds_cons (ds_if (ps_if (dt_cmp (pt_cmpR op_lt (d_var (pv 0)) d_int (nomark _)) cd_int) (ds_cons (ds_if (ps_if (dt_cmp (pt_cmpR op_lt (d_var (pv 0)) d_int (nomark _)) cd_int) (ds_one (ds_ret (ps_ret (d_if (pe_ifExp (dt_cmp (pt_cmpR (op_eqG hr) (d_var (pv 0)) d_int (nomark _)) cd_eq) (d_new (T.y_InvalidIndex.trans (congrArg some ec_InvalidIndex.gC)) (Lx.pe_newK ec_InvalidIndex (j_InvalidIndex ec_InvalidIndex) hr rfl (kb_InvalidIndex ec_InvalidIndex) (dk_cons (d_var (pv 1)) dk_nil))) (d_new (T.y_InvalidCount.trans (congrArg some ec_InvalidCount.gC)) (Lx.pe_newK ec_InvalidCount (j_InvalidCount ec_InvalidCount) hr rfl (kb_InvalidCount ec_InvalidCount) (dk_cons (d_var (pv 1)) dk_nil)))))))) ds_nil)) (ds_one (ds_ret (ps_ret (d_if (pe_ifExp (dt_cmp (pt_cmpR (op_eqG hr) (d_var (pv 0)) d_int (nomark _)) cd_eq) (d_new (T.y_InvalidView.trans (congrArg some ec_InvalidView.gC)) (Lx.pe_newK ec_InvalidView (j_InvalidView ec_InvalidView) hr rfl (kb_InvalidView ec_InvalidView) (dk_cons (d_var (pv 1)) dk_nil))) (d_new (T.y_InvalidPicture.trans (congrArg some ec_InvalidPicture.gC)) (Lx.pe_newK ec_InvalidPicture (j_InvalidPicture ec_InvalidPicture) hr rfl (kb_InvalidPicture ec_InvalidPicture) (dk_cons (d_var (pv 1)) dk_nil))))))))) ds_nil)) (ds_cons (ds_if (ps_if (dt_cmp (pt_cmpR op_lt (d_var (pv 0)) d_int (nomark _)) cd_int) (ds_one (ds_ret (ps_ret (d_if (pe_ifExp (dt_cmp (pt_cmpR (op_eqG hr) (d_var (pv 0)) d_int (nomark _)) cd_eq) (d_new (T.y_InvalidCurves.trans (congrArg some ec_InvalidCurves.gC)) (Lx.pe_newK ec_InvalidCurves (j_InvalidCurves ec_InvalidCurves) hr rfl (kb_InvalidCurves ec_InvalidCurves) (dk_cons (d_var (pv 1)) dk_nil))) (d_new (T.y_InvalidRow.trans (congrArg some ec_InvalidRow.gC)) (Lx.pe_newK ec_InvalidRow (j_InvalidRow ec_InvalidRow) hr rfl (kb_InvalidRow ec_InvalidRow) (dk_cons (d_var (pv 1)) dk_nil)))))))) ds_nil)) (ds_cons (ds_if (ps_if (dt_cmp (pt_cmpR op_lt (d_var (pv 0)) d_int (nomark _)) cd_int) (ds_one (ds_ret (ps_ret (d_if (pe_ifExp (dt_cmp (pt_cmpR (op_eqG hr) (d_var (pv 0)) d_int (nomark _)) cd_eq) (d_new (T.y_InvalidLines.trans (congrArg some ec_InvalidLines.gC)) (Lx.pe_newK ec_InvalidLines (j_InvalidLines ec_InvalidLines) hr rfl (kb_InvalidLines ec_InvalidLines) (dk_cons (d_var (pv 1)) dk_nil))) (d_new (T.y_InvalidBytes.trans (congrArg some ec_InvalidBytes.gC)) (Lx.pe_newK ec_InvalidBytes (j_InvalidBytes ec_InvalidBytes) hr rfl (kb_InvalidBytes ec_InvalidBytes) (dk_cons (d_var (pv 1)) dk_nil)))))))) ds_nil)) (ds_one (ds_ret (ps_ret (d_new (T.y_BadText.trans (congrArg some ec_BadText.gC)) (Lx.pe_newK ec_BadText (j_BadText ec_BadText) hr rfl (kb_BadText ec_BadText) (dk_cons (d_var (pv 1)) dk_nil))))))))))))
def b_l_is_made : TSD := (sSeq (sIf (dCmp fNe (dCB fRepr (dCons (dCall t_l_truths (dCons (dV 2) dNil)) dNil)) (dCB fRepr (dCons (dLc (iRg1 (dCons (dC (.int 39)) dNil)) [3] (gdN 3) dYes (dOrV (dCmpV fEq (dV 3) (dV 0)) (dChain fLt fLt (dC (.int 30)) (dV 3) (dC (.int 34))))) dNil))) (sRet (dC (.bool false))) sNx) (sSeq (sIf (dCmp fLt (dV 0) (dC (.int 21))) (sRet (dCmpV fEq (dCB fRepr (dCons (dFld XFS "given" (dV 2)) dNil)) (dCB fRepr (dCons (dV 1) dNil)))) sNx) (sSeq (sIf (dCmp fLt (dV 0) (dC (.int 25))) (sRet (dCmpV fEq (dCB fRepr (dCons (dFld XFS "index" (dV 2)) dNil)) (dCB fRepr (dCons (dV 1) dNil)))) sNx) (sRet (dOrV (dCmpV fGt (dV 0) (dC (.int 25))) (dCmpV fEq (dCB fRepr (dCons (dFld XFS "spot" (dV 2)) dNil)) (dCB fRepr (dCons (dV 1) dNil))))))))
def t_l_is_made : TF := tfOf N_l_is_made b_l_is_made
def bz_l_is_made : TSD := (sSeq (sIf (dCmp fNe (dCB fReprS (dCons (dCall t_l_truths (dCons (dV 2) dNil)) dNil)) (dUseC fRepr (iRg1 (dCons (dC (.int 39)) dNil)) [3] (gdN 3) dYes (dOrV (dCmpV fEq (dV 3) (dV 0)) (dChain fLt fLt (dC (.int 30)) (dV 3) (dC (.int 34)))))) (sRet (dC (.bool false))) sNx) (sSeq (sIf (dCmp fLt (dV 0) (dC (.int 21))) (sRet (dCmpV fEq (dCB fReprS (dCons (dFld XFS "given" (dV 2)) dNil)) (dCB fReprS (dCons (dV 1) dNil)))) sNx) (sSeq (sIf (dCmp fLt (dV 0) (dC (.int 25))) (sRet (dCmpV fEq (dCB fReprS (dCons (dFld XFS "index" (dV 2)) dNil)) (dCB fReprS (dCons (dV 1) dNil)))) sNx) (sRet (dOrV (dCmpV fGt (dV 0) (dC (.int 25))) (dCmpV fEq (dCB fReprS (dCons (dFld XFS "spot" (dV 2)) dNil)) (dCB fReprS (dCons (dV 1) dNil))))))))
def tz_l_is_made : TF := tfOf N_l_is_made bz_l_is_made
theorem cz_l_is_made (T : Top K mg) : Cq true (L2.CX P w) P w K mg base 4 "_law_is_made" (spF ⟨base, K, ⟨true, Tz, true⟩⟩ mg 3 tz_l_is_made) := by
    exact Lw.Dn.dataQ T.d_l_is_made sc_l_is_made fun f cdv A outer s H E hr hg => (ds_cons (ds_if (ps_if (dt_cmp (pt_cmpR (op_neG hr) (d_cb (pe_callB (Ld.call_repr hr (hg rfl)) rfl T.z_repr (by decide +kernel) (da_cons (d_call (pe_clQ (E := fun _ => E) (cz_l_truths T) hr hg (fun σ => passAt (takes_of rfl rfl rfl rfl) σ) rfl (da_cons (d_var (pv 2)) da_nil))) da_nil)) bd_reprD) (d_useC io_rg1 (go_name 3) (pe_callB (Ld.call_repr hr (hg rfl)) rfl T.z_repr (by decide +kernel) (pa_cons (pe_lc (own := [("_law_at", 3)]) (g := (gName 3)) rfl sc_l_is_made.nd (pi_range1 rfl T.z_range (da_cons d_int da_nil)) (blkOk_by (own := [("_law_at", 3)]) (N := N_l_is_made) (sc := defScope s_l_is_made) (by decide +kernel)) (fun _ _ _ _ _ => (pg_name (i := 3) sc_l_is_made.nd rfl (Or.inl rfl))) (fun _ _ _ _ _ => lt_blk dts_nil) (fun _ _ _ _ _ => le_blk (d_orV (pe_orT (d_cmp (pe_cmpR (op_eqG hr) (d_var (pv 3)) (d_var (pv 0)) (nomark _)) cd_eq) (pe_one (d_chain (pe_chain op_lt op_lt d_int (d_var (pv 3)) d_int) cd_int cd_int)))))) pa_nil)) (bd_repr (Sy := ⟨false, Tz, false⟩))) (nomark _)) cd_ne) (ds_one (ds_ret (ps_ret d_bl))) ds_nil)) (ds_cons (ds_if (ps_if (dt_cmp (pt_cmpR op_lt (d_var (pv 0)) d_int (nomark _)) cd_int) (ds_one (ds_ret (ps_ret (d_cmp (pe_cmpR (op_eqG hr) (d_cb (pe_callB (Ld.call_repr hr (hg rfl)) rfl T.z_repr (by decide +kernel) (da_cons (d_fld T.xa (Lx.pe_fld (d_var (pv 2)))) da_nil)) bd_reprD) (d_cb (pe_callB (Ld.call_repr hr (hg rfl)) rfl T.z_repr (by decide +kernel) (da_cons (d_var (pv 1)) da_nil)) bd_reprD) (nomark _)) cd_eq)))) ds_nil)) (ds_cons (ds_if (ps_if (dt_cmp (pt_cmpR op_lt (d_var (pv 0)) d_int (nomark _)) cd_int) (ds_one (ds_ret (ps_ret (d_cmp (pe_cmpR (op_eqG hr) (d_cb (pe_callB (Ld.call_repr hr (hg rfl)) rfl T.z_repr (by decide +kernel) (da_cons (d_fld T.xa (Lx.pe_fld (d_var (pv 2)))) da_nil)) bd_reprD) (d_cb (pe_callB (Ld.call_repr hr (hg rfl)) rfl T.z_repr (by decide +kernel) (da_cons (d_var (pv 1)) da_nil)) bd_reprD) (nomark _)) cd_eq)))) ds_nil)) (ds_one (ds_ret (ps_ret (d_orV (pe_orT (d_cmp (pe_cmpR op_gt (d_var (pv 0)) d_int (nomark _)) cd_int) (pe_one (d_cmp (pe_cmpR (op_eqG hr) (d_cb (pe_callB (Ld.call_repr hr (hg rfl)) rfl T.z_repr (by decide +kernel) (da_cons (d_fld T.xa (Lx.pe_fld (d_var (pv 2)))) da_nil)) bd_reprD) (d_cb (pe_callB (Ld.call_repr hr (hg rfl)) rfl T.z_repr (by decide +kernel) (da_cons (d_var (pv 1)) da_nil)) bd_reprD) (nomark _)) cd_eq))))))))))
def b_l_small : TSD := (sSeq (sIf (dCmp fGt (dCall t_l_draw (dConsW 0 (dCons (dC (.int 6)) dNil))) (dC (.int 0))) (sRet (dTup (dCons (dOp fIx (dC (.tuple [(.int 0), (.int 1), (.int (-1)), (.int 2), (.int 1), (.int 0), (.int (-2)), (.int 3)])) (dCall t_l_draw (dConsW 0 (dCons (dC (.int 8)) dNil)))) (dCons (dC (.int 1)) dNil)))) sNx) (sRet (dCall t_l_lean (dCons (dOp fSub (dCall t_l_draw (dConsW 0 (dCons (dC (.int 13)) dNil))) (dC (.int 6))) (dCons (dOp fAddG (dC (.int 2)) (dCall t_l_draw (dConsW 0 (dCons (dC (.int 3)) dNil)))) dNil)))))
def t_l_small : TF := tfOf N_l_small b_l_small
theorem c_l_small (T : Top K mg) : Cq true (L2.CX P w) P w K mg base 3 "_law_small" (spF ⟨base, K, ⟨false, Tz, false⟩⟩ mg 1 t_l_small) := by
  exact Lw.Dn.dataQ T.d_l_small sc_l_small fun f cdv A outer s H E hr hg => (ds_cons (ds_if (ps_if (dt_cmp (pt_cmpR op_gt (d_call (pe_clQ (E := fun _ => E) ((c_l_drawD T).cq) hr hg (fun σ => passAt (takes_of rfl rfl rfl rfl) σ) rfl (da_well (pv 0) (da_cons d_int da_nil)))) d_int (nomark _)) cd_int) (ds_one (ds_ret (ps_ret (d_tup (da_cons (d_op (pe_ix ix_seq (d_data (pd_tup (pda_cons pd_int (pda_cons pd_int (pda_cons (pd_neg pd_int) (pda_cons pd_int (pda_cons pd_int (pda_cons pd_int (pda_cons (pd_neg pd_int) (pda_cons pd_int pda_nil)))))))))) (d_call (pe_clQ (E := fun _ => E) ((c_l_drawD T).cq) hr hg (fun σ => passAt (takes_of rfl rfl rfl rfl) σ) rfl (da_well (pv 0) (da_cons d_int da_nil)))) (fun _ _ => rfl)) od_ix) (da_cons d_int da_nil)))))) ds_nil)) (ds_one (ds_ret (ps_ret (d_call (pe_clQ (E := fun _ => E) (c_l_lean T) hr hg (fun σ => passAt (takes_of rfl rfl rfl rfl) σ) rfl (da_cons (d_op (pe_op op_sub (d_call (pe_clQ (E := fun _ => E) ((c_l_drawD T).cq) hr hg (fun σ => passAt (takes_of rfl rfl rfl rfl) σ) rfl (da_well (pv 0) (da_cons d_int da_nil)))) d_int) od_int0) (da_cons (d_op (pe_op op_addG d_int (d_call (pe_clQ (E := fun _ => E) ((c_l_drawD T).cq) hr hg (fun σ => passAt (takes_of rfl rfl rfl rfl) σ) rfl (da_well (pv 0) (da_cons d_int da_nil))))) od_addG) da_nil))))))))
def rb_l_bent (t_l_bent : TF) : TSD := (sSeq (sIf (dAnd (dTst (dUn (fun d R => noE d = true ∧ R (.bool (isTup d))) (dV 1))) (dAnd (dCmp fNeTE (dV 1) (dC (.tuple []))) (dCmp fGt (dCall t_l_draw (dConsW 0 (dCons (dC (.int 4)) dNil))) (dC (.int 0))))) (sSeq (sSet 2 (dCall t_l_draw (dConsW 0 (dCons (dCB fLen (dCons (dV 1) dNil)) dNil)))) (sRet (dOp fAddG (dOp fAddG (dSl (dV 1) dNoP (dPart (dV 2))) (dTup (dCons (dCall t_l_bent (dConsW 0 (dCons (dOp fIx (dV 1) (dV 2)) dNil))) dNil))) (dSl (dV 1) (dPart (dOp fAddG (dV 2) (dC (.int 1)))) dNoP)))) sNx) (sSeq (sSet 3 (dCall t_l_draw (dConsW 0 (dCons (dC (.int 9)) dNil)))) (sSeq (sIf (dAnd (dTst (dUn (fun d R => noE d = true ∧ R (.bool (isTup d))) (dV 1))) (dCmp fLt (dV 3) (dC (.int 6)))) (sRet (dOp fIx (dTup (dCons (dCB fLstO (dCons (dV 1) dNil)) (dCons (dSl (dV 1) dNoP (dPart (dC (.int (-1))))) (dCons (dOp fAddG (dV 1) (dSl (dV 1) (dPart (dC (.int (-1)))) dNoP)) (dCons (dUn fBack (dV 1)) (dCons (dSl (dV 1) (dPart (dC (.int 1))) dNoP) (dCons (dOp fAddG (dSl (dV 1) dNoP (dPart (dC (.int 1)))) (dV 1)) dNil))))))) (dV 3))) sNx) (sSeq (sIf (dAnd (dTst (dUn (fun d R => noE d = true ∧ R (.bool (isInt d))) (dV 1))) (dCmp fLt (dV 3) (dC (.int 5)))) (sRet (dOp fIx (dTup (dCons (dOp fAddT (dV 1) (dC (.int 1))) (dCons (dOp fSubT (dC (.int 0)) (dV 1)) (dCons (dOp fMulT (dC (.int 2)) (dV 1)) (dCons (dOp fSubT (dV 1) (dC (.int 2))) (dCons (dCmpV fEq (dV 1) (dC (.int 1))) dNil)))))) (dV 3))) sNx) (sRet (dCall t_l_odd (dConsW 0 dNil)))))))
def tn_l_bent : Nat → TF
  | 0 => tfOf N_l_bent (fun _ _ => False)
  | n + 1 => tfOf N_l_bent (rb_l_bent (tn_l_bent n))
def t_l_bent : TF := tn_l_bent 8
theorem cnz_l_bent (T : Top K mg) : ∀ n : Nat, Cq true (L2.CX P w) P w K mg base (4 + n) "_law_bent" (spF ⟨base, K, ⟨true, Tz, true⟩⟩ mg 2 (tn_l_bent n))
  | 0 => by exact Lw.Dn.dataQ (k := 3) T.d_l_bent sc_l_bent fun f cdv A outer s H E hr hg => ⟨fun pins s σ H D I q => by
    obtain ⟨_, _, _, _, _, _, _, _, _, h, _⟩ := q
    exact h.elim⟩
  | n + 1 => by
    have ih := cnz_l_bent T n
    exact Lw.Dn.dataQ (k := 4 + n) T.d_l_bent sc_l_bent fun f cdv A outer s H E hr hg => (ds_cons (ds_if (ps_if (PW.pt (dw_and (pw_and (dt_val (pt_truth (d_isi (pe_callB (Ld.call_isD kit_tup) rfl T.z_isinstance (by decide +kernel) (pa_cons (d_var (pv 1)) (pa_cons (pe_bltn (v := .ty "tuple") rfl T.z_tuple (by decide +kernel) rfl) pa_nil)))) (by intro _; rfl))) (dw_and (pw_and (dt_cmp (pt_cmpR (op_neTE hr) (d_var (pv 1)) (d_data (pd_tup pda_nil)) (nomark _)) cd_neTE) (pw_and1 (dt_cmp (pt_cmpR op_gt (d_call (pe_clQ (hk := by omega) (E := fun _ => E) ((c_l_drawD T).cq) hr hg (fun σ => passAt (takes_of rfl rfl rfl rfl) σ) rfl (da_well (pv 0) (da_cons d_int da_nil)))) d_int (nomark _)) cd_int))))))) (ds_cons (ds_set (ps_set (i := 2) sc_l_bent.nd rfl (Or.inl rfl) (d_call (pe_clQ (hk := by omega) (E := fun _ => E) ((c_l_drawD T).cq) hr hg (fun σ => passAt (takes_of rfl rfl rfl rfl) σ) rfl (da_well (pv 0) (da_cons (d_cb (pe_callB call_len rfl T.z_len (by decide +kernel) (da_cons (d_var (pv 1)) da_nil)) bd_len) da_nil)))))) (ds_one (ds_ret (ps_ret (d_op (pe_op op_addZ (d_op (pe_op op_addZ (d_slZ (pe_slice sl_Z (d_var (pv 1)) dp_none (dp_some (d_var (pv 2))))) (d_tup (da_cons (d_call (pe_clQ (hk := by omega) (E := fun _ => E) ih hr hg (fun σ => passAt (takes_of rfl rfl rfl rfl) σ) rfl (da_well (pv 0) (da_cons (d_op (pe_ix ix_seq (d_var (pv 1)) (d_var (pv 2)) (fun _ _ => rfl)) od_ix) da_nil)))) da_nil))) od_addZ) (d_slZ (pe_slice sl_Z (d_var (pv 1)) (dp_some (d_op (pe_op op_addZ (d_var (pv 2)) d_int) od_addZ)) dp_none))) od_addZ))))) ds_nil)) (ds_cons (ds_set (ps_set (i := 3) sc_l_bent.nd rfl (Or.inl rfl) (d_call (pe_clQ (hk := by omega) (E := fun _ => E) ((c_l_drawD T).cq) hr hg (fun σ => passAt (takes_of rfl rfl rfl rfl) σ) rfl (da_well (pv 0) (da_cons d_int da_nil)))))) (ds_cons (ds_if (ps_if (PW.pt (dw_and (pw_and (dt_val (pt_truth (d_isi (pe_callB (Ld.call_isD kit_tup) rfl T.z_isinstance (by decide +kernel) (pa_cons (d_var (pv 1)) (pa_cons (pe_bltn (v := .ty "tuple") rfl T.z_tuple (by decide +kernel) rfl) pa_nil)))) (by intro _; rfl))) (pw_and1 (dt_cmp (pt_cmpR op_lt (d_var (pv 3)) d_int (nomark _)) cd_int))))) (ds_one (ds_ret (ps_ret (d_op (pe_ix ix_seq (d_tup (da_cons (d_cb (pe_callTy call_listT rfl T.z_list (by decide +kernel) (da_cons (d_var (pv 1)) da_nil)) bd_lst) (da_cons (d_slZ (pe_slice sl_Z (d_var (pv 1)) dp_none (dp_some (d_data (pd_neg pd_int))))) (da_cons (d_op (pe_op op_addZ (d_var (pv 1)) (d_slZ (pe_slice sl_Z (d_var (pv 1)) (dp_some (d_data (pd_neg pd_int))) dp_none))) od_addZ) (da_cons (d_backT (pe_backT (d_var (pv 1)))) (da_cons (d_slZ (pe_slice sl_Z (d_var (pv 1)) (dp_some d_int) dp_none)) (da_cons (d_op (pe_op op_addZ (d_slZ (pe_slice sl_Z (d_var (pv 1)) dp_none (dp_some d_int))) (d_var (pv 1))) od_addZ) da_nil))))))) (d_var (pv 3)) (fun _ _ => rfl)) od_ix)))) ds_nil)) (ds_cons (ds_if (ps_if (PW.pt (dw_and (pw_and (dt_val (pt_truth (d_isi (pe_callB (Ld.call_isD kit_int) rfl T.z_isinstance (by decide +kernel) (pa_cons (d_var (pv 1)) (pa_cons (pe_bltn (v := .ty "int") rfl T.z_int (by decide +kernel) rfl) pa_nil)))) (by intro _; rfl))) (pw_and1 (dt_cmp (pt_cmpR op_lt (d_var (pv 3)) d_int (nomark _)) cd_int))))) (ds_one (ds_ret (ps_ret (d_op (pe_ix ix_seq (d_tup (da_cons (d_op (pe_op op_addT (d_var (pv 1)) d_int) od_addT) (da_cons (d_op (pe_op op_subT d_int (d_var (pv 1))) od_subT) (da_cons (d_op (pe_op op_mulT d_int (d_var (pv 1))) od_mulT) (da_cons (d_op (pe_op op_subT (d_var (pv 1)) d_int) od_subT) (da_cons (d_cmp (pe_cmpR (op_eqG hr) (d_var (pv 1)) d_int (nomark _)) cd_eq) da_nil)))))) (d_var (pv 3)) (fun _ _ => rfl)) od_ix)))) ds_nil)) (ds_one (ds_ret (ps_ret (d_call (pe_clQ (hk := by omega) (E := fun _ => E) (cz_l_odd T) hr hg (fun σ => passAt (takes_of rfl rfl rfl rfl) σ) rfl (da_well (pv 0) da_nil))))))))))
theorem cz_l_bent (T : Top K mg) : Cq true (L2.CX P w) P w K mg base 12 "_law_bent" (spF ⟨base, K, ⟨true, Tz, true⟩⟩ mg 2 t_l_bent) := cnz_l_bent T 8
def b_l_point : TSD := (sSeq (sSet 1 (dCall t_l_small (dConsW 0 dNil))) (sRet (dTup (dCons (dV 1) (dCons (dCall t_l_small (dConsW 0 dNil)) dNil)))))
def t_l_point : TF := tfOf N_l_point b_l_point
theorem c_l_point (T : Top K mg) : Cq true (L2.CX P w) P w K mg base 4 "_law_point" (spF ⟨base, K, ⟨false, Tz, false⟩⟩ mg 1 t_l_point) := by
  exact Lw.Dn.dataQ T.d_l_point sc_l_point fun f cdv A outer s H E hr hg => (ds_cons (ds_set (ps_set (i := 1) sc_l_point.nd rfl (Or.inl rfl) (d_call (pe_clQ (E := fun _ => E) (c_l_small T) hr hg (fun σ => passAt (takes_of rfl rfl rfl rfl) σ) rfl (da_well (pv 0) da_nil))))) (ds_one (ds_ret (ps_ret (d_tup (da_cons (d_var (pv 1)) (da_cons (d_call (pe_clQ (E := fun _ => E) (c_l_small T) hr hg (fun σ => passAt (takes_of rfl rfl rfl rfl) σ) rfl (da_well (pv 0) da_nil))) da_nil)))))))
def b_l_spoilt : TSD := (sSeq (sSet 2 (dCall t_l_draw (dConsW 0 (dCons (dC (.int 12)) dNil)))) (sSeq (sIf (dCmp fLt (dV 2) (dC (.int 7))) (sRet (dV 1)) sNx) (sRet (dIf (dCmp fLt (dV 2) (dC (.int 11))) (dCall t_l_bent (dConsW 0 (dCons (dV 1) dNil))) (dCall t_l_odd (dConsW 0 dNil))))))
def t_l_spoilt : TF := tfOf N_l_spoilt b_l_spoilt
theorem cz_l_spoilt (T : Top K mg) : Cq true (L2.CX P w) P w K mg base 13 "_law_spoilt" (spF ⟨base, K, ⟨true, Tz, true⟩⟩ mg 2 t_l_spoilt) := by
    exact Lw.Dn.dataQ T.d_l_spoilt sc_l_spoilt fun f cdv A outer s H E hr hg => (ds_cons (ds_set (ps_set (i := 2) sc_l_spoilt.nd rfl (Or.inl rfl) (d_call (pe_clQ (E := fun _ => E) ((c_l_drawD T).cq) hr hg (fun σ => passAt (takes_of rfl rfl rfl rfl) σ) rfl (da_well (pv 0) (da_cons d_int da_nil)))))) (ds_cons (ds_if (ps_if (dt_cmp (pt_cmpR op_lt (d_var (pv 2)) d_int (nomark _)) cd_int) (ds_one (ds_ret (ps_ret (d_var (pv 1))))) ds_nil)) (ds_one (ds_ret (ps_ret (d_if (pe_ifExp (dt_cmp (pt_cmpR op_lt (d_var (pv 2)) d_int (nomark _)) cd_int) (d_call (pe_clQ (E := fun _ => E) (cz_l_bent T) hr hg (fun σ => passAt (takes_of rfl rfl rfl rfl) σ) rfl (da_well (pv 0) (da_cons (d_var (pv 1)) da_nil)))) (d_call (pe_clQ (E := fun _ => E) (cz_l_odd T) hr hg (fun σ => passAt (takes_of rfl rfl rfl rfl) σ) rfl (da_well (pv 0) da_nil))))))))))
end
end My

set_option maxHeartbeats 4000000
namespace My
open PySem L2 Ld
open Lw hiding Dv DvAll FreshB tData tDatas pd_int pd_bl pd_non pd_str pd_neg pd_pow pda_nil pda_cons pd_tup pd_lst pd_dct dv_cut dv_cat tup_at rRepr call_repr rIsD call_isD
section
variable {P : Program} {w : World} {K : PySem.W.Frag} {mg : Str → Option Value} {base : Heap} {Tz : List (Addr × Str)}
def b_l_right : TSD := (sSeq (sSet 1 (dCall t_l_spoilt (dConsW 0 (dCons (dTup (dCons (dCall t_l_odd (dConsW 0 dNil)) (dCons (dCall t_l_point (dConsW 0 dNil)) dNil))) dNil)))) (sSeq (sIf (dNot (dTst (dCB fAll (dCons (dLc (iRg1 (dCons (dC (.int 32)) dNil)) [2] (gdN 2) dYes (dCall t_l_is_made (dCons (dV 2) (dCons (dV 1) (dCons (dCall t_l_by_place (dCons (dV 2) (dCons (dV 1) dNil))) dNil))))) dNil)))) (sRet (dC (.bool false))) sNx) (sRet (dCB fAll (dCons (dLc (iRg1 (dCons (dC (.int 26)) dNil)) [2] (gdN 2) dYes (dCall t_l_is_made (dCons (dV 2) (dCons (dV 1) (dCons (dCall t_l_by_name (dCons (dV 2) (dCons (dV 1) dNil))) dNil))))) dNil)))))
def t_l_right : TF := tfOf N_l_right b_l_right
def bz_l_right : TSD := (sSeq (sSet 1 (dCall t_l_spoilt (dConsW 0 (dCons (dTup (dCons (dCall t_l_odd (dConsW 0 dNil)) (dCons (dCallM t_l_point (dConsW 0 dNil)) dNil))) dNil)))) (sSeq (sIf (dNot (dTst (dUseC fAll (iRg1 (dCons (dC (.int 32)) dNil)) [2] (gdN 2) dYes (dCall tz_l_is_made (dCons (dV 2) (dCons (dV 1) (dCons (dCall t_l_by_place (dCons (dV 2) (dCons (dV 1) dNil))) dNil))))))) (sRet (dC (.bool false))) sNx) (sRet (dUseC fAll (iRg1 (dCons (dC (.int 26)) dNil)) [2] (gdN 2) dYes (dCall tz_l_is_made (dCons (dV 2) (dCons (dV 1) (dCons (dCall t_l_by_name (dCons (dV 2) (dCons (dV 1) dNil))) dNil))))))))
def tz_l_right : TF := tfOf N_l_right bz_l_right
theorem cz_l_right (T : Top K mg) : Cq true (L2.CX P w) P w K mg base 14 "_law_right" (spF ⟨base, K, ⟨true, Tz, true⟩⟩ mg 1 tz_l_right) := by
    exact Lw.Dn.dataQ T.d_l_right sc_l_right fun f cdv A outer s H E hr hg => (ds_cons (ds_set (ps_set (i := 1) sc_l_right.nd rfl (Or.inr rfl) (d_call (pe_clQ (E := fun _ => E) (cz_l_spoilt T) hr hg (fun σ => passAt (takes_of rfl rfl rfl rfl) σ) rfl (da_well (pv 0) (da_cons (d_tup (da_cons (d_call (pe_clQ (E := fun _ => E) (cz_l_odd T) hr hg (fun σ => passAt (takes_of rfl rfl rfl rfl) σ) rfl (da_well (pv 0) da_nil))) (da_cons (d_callM (pe_clQ (E := fun _ => E) (c_l_point T) hr hg (fun σ => passAt (takes_of rfl rfl rfl rfl) σ) rfl (da_well (pv 0) da_nil))) da_nil))) da_nil)))))) (ds_cons (ds_if (ps_if (dt_not (pt_not (dt_val (pt_truth (d_useC io_rg1 (go_name 2) (pe_callB (cr_all rfl) rfl T.z_all (by decide +kernel) (pa_cons (pe_lc (own := [("_law_number", 2)]) (g := (gName 2)) rfl sc_l_right.nd (pi_range1 rfl T.z_range (da_cons d_int da_nil)) (blkOk_by (own := [("_law_number", 2)]) (N := N_l_right) (sc := defScope s_l_right) (by decide +kernel)) (fun _ _ _ _ _ => (pg_name (i := 2) sc_l_right.nd rfl (Or.inl rfl))) (fun _ _ _ _ _ => lt_blk dts_nil) (fun _ _ _ _ _ => le_blk (d_call (pe_clQ (E := EX0) (cz_l_is_made T) hr hg (fun σ => pass_none) rfl (da_cons (d_var (pv 2)) (da_cons (d_var (pv 1)) (da_cons (d_call (pe_clQ (E := EX0) (cz_l_by_place T) hr hg (fun σ => pass_none) rfl (da_cons (d_var (pv 2)) (da_cons (d_var (pv 1)) da_nil)))) da_nil))))))) pa_nil)) (bd_bools (Sy := ⟨false, Tz, false⟩))) (by intro _; rfl))))) (ds_one (ds_ret (ps_ret d_bl))) ds_nil)) (ds_one (ds_ret (ps_ret (d_useC io_rg1 (go_name 2) (pe_callB (cr_all rfl) rfl T.z_all (by decide +kernel) (pa_cons (pe_lc (own := [("_law_number", 2)]) (g := (gName 2)) rfl sc_l_right.nd (pi_range1 rfl T.z_range (da_cons d_int da_nil)) (blkOk_by (own := [("_law_number", 2)]) (N := N_l_right) (sc := defScope s_l_right) (by decide +kernel)) (fun _ _ _ _ _ => (pg_name (i := 2) sc_l_right.nd rfl (Or.inl rfl))) (fun _ _ _ _ _ => lt_blk dts_nil) (fun _ _ _ _ _ => le_blk (d_call (pe_clQ (E := EX0) (cz_l_is_made T) hr hg (fun σ => pass_none) rfl (da_cons (d_var (pv 2)) (da_cons (d_var (pv 1)) (da_cons (d_call (pe_clQ (E := EX0) (cz_l_by_name T) hr hg (fun σ => pass_none) rfl (da_cons (d_var (pv 2)) (da_cons (d_var (pv 1)) da_nil)))) da_nil))))))) pa_nil)) (bd_bools (Sy := ⟨false, Tz, false⟩))))))))
end
end My

set_option maxHeartbeats 4000000
namespace My
open PySem L2 Ld
open Lw hiding Dv DvAll FreshB tData tDatas pd_int pd_bl pd_non pd_str pd_neg pd_pow pda_nil pda_cons pd_tup pd_lst pd_dct dv_cut dv_cat tup_at rRepr call_repr rIsD call_isD
local macro_rules | `(tactic| walk_at "d") => `(tactic| try dsimp only [tfOf, startD, slotD, putD, wipeD, dV, dC, dOp, dUn, dNil, dCons, dConsW, dConsF, dCallV, dCall, dCallM, dUseC, dNew, exK, dIsX, dIsB, dFld, xD, xD0, fNeTE, e_reprS, datsOf, dCB, dTup, dLst, dIf, dTst, dCmp, dCmpV, dChain, dChainT, dNot, dAnd, dOr, dAndV, dOrV, dNotV, dTb, sSeq, sNx, sSet, sRet, sRetN, sIf, sExpr, sBrk, sCont, sPar, sPar3, lenK, gdN, gdNil, gdCons, sAsg, sFor, sMatch, dMaxDf, maxDf, fSum, intsOf, caseD, patK, matK, litK, lenE, putAll, iLst, iTpl, iRg1, iRg2, iZp, iSqD, dYes, dLc, dLcB, dLc2, dNoP, dPart, dSl, dSlS, sOwn, sOwn2, sOwn3, sOwnC, sOwnSS, iTx, dSlT, fSlT, iEnT, fNotInS, dFmt, dJs, dCallK, pickD, iEn, e_eqL, e_neL, ownK, sApp, sAppL, sSetL, sIfL, sInsL, sTry1, dStar, dTupS, dLstS, dToldA, dToldB, toldX, mkP, dOwnLst, fLstL, sExt, sIns, sPut, sFrz, dOwnLen, dOwnIx, sRaise, sAug, t_draw, nthL, e_int, e_int0, e_add, e_addT, e_addL, e_addSI, e_addST, e_shl, e_ci, e_eqI, e_eqS, e_eqB, e_neI, e_neS, e_neB, e_isN, e_notN, e_nthT, e_nthL, e_lenT, e_lenL, e_i1, e_i2, e_lcm, e_intO, e_intB, e_isqrt, e_divmod, e_repr, e_reprS, e_addII, e_addBI, e_subII, e_subBI, e_subIB, e_mulII, e_mulIB, e_reprK, dFind, e_tupL, e_tupT, e_lst, e_truB, e_truI, e_truN, e_truL, e_truT, e_neg, e_bits, e_back, e_backL, e_slT, e_slL, e_slST, e_gdT, e_gdL, Ld.isNon])
local macro_rules | `(tactic| walk_at "u") => `(tactic| (dsimp only; walk_at "d"))

section
variable {R : RD} {Ex : XD}
/-! ### greatest common divisors -/
theorem w_l_common {a b : Int} (h : R (.int (gcdI a b))) : t_l_common [.dat (.int a), .dat (.int b)] R Ex := by
  unfold t_l_common b_l_common
  walk_at "d"
  refine while_d (fun ρ => ∃ f r : Int, ρ = [some (.dat (.int a)), some (.dat (.int b)), some (.dat (.int f)), some (.dat (.int r))] ∧ 0 ≤ f ∧ 0 ≤ r ∧ gcdI f r = gcdI a b)
    (fun ρ => match ρ with | [_, _, _, some (.dat (.int r))] => r.toNat | _ => 0) ⟨_, _, rfl, if_nn a, if_nn b, gcd_abs a b⟩ ?_
  rintro ρ K ⟨f, r, rfl, hf, hr, hg⟩ k
  walk_at "d"
  refine difN (fun c => ?_) (fun c => ?_)
  · have h1 := Int.emod_nonneg f c
    have h2 := Int.emod_lt_of_pos f (show 0 < r by omega)
    refine ⟨by omega, k _ ⟨_, _, rfl, hr, h1, (gcd_step hf (by omega)).trans hg⟩ ?_⟩
    show (f % r).toNat < r.toNat
    omega
  · subst c
    rw [gcd_zero hf] at hg
    rw [hg]
    exact h
theorem w_l_lean {a b : Int} (hb : b ≠ 0) (hz : b.natAbs < 2 ^ 8000) (h : R (fracD a b)) : t_l_lean [.dat (.int a), .dat (.int b)] R Ex := by
  have n0 := gz_ne (a := a) hb
  have n1 : (gz a b).natAbs < 2 ^ 9000 := gz_lt hb (Nat.lt_of_lt_of_le hz (Nat.pow_le_pow_right (by decide) (by decide)))
  unfold t_l_lean b_l_lean
  obtain ⟨k_l_common, e_l_common⟩ : ∃ k, t_l_common = k := ⟨_, rfl⟩
  rw [e_l_common]
  walk_at "d"
  refine difP (fun c => ?_) (fun c => ?_)
  · have e : gcdI a b = gz a b := by
      unfold gz
      rw [if_neg (by omega)]
    refine st e_l_common (w_l_common ?_)
    rw [e]
    walk_at "d"
    exact ⟨⟨n0, n1⟩, ⟨n0, n1⟩, h⟩
  · have e : 0 - gcdI a b = gz a b := by
      unfold gz
      rw [if_pos (by omega)]
      omega
    refine st e_l_common (w_l_common ?_)
    walk_at "d"
    rw [e]
    exact ⟨⟨n0, n1⟩, ⟨n0, n1⟩, h⟩
/-! ### whole roots -/
end

end My

set_option maxHeartbeats 4000000
namespace My
open PySem L2 Ld
open Lw hiding Dv DvAll FreshB tData tDatas pd_int pd_bl pd_non pd_str pd_neg pd_pow pda_nil pda_cons pd_tup pd_lst pd_dct dv_cut dv_cat tup_at rRepr call_repr rIsD call_isD
local macro_rules | `(tactic| walk_at "d") => `(tactic| try dsimp only [tfOf, startD, slotD, putD, wipeD, dV, dC, dOp, dUn, dNil, dCons, dConsW, dConsF, dCallV, dCall, dCallM, dUseC, dNew, exK, dIsX, dIsB, dFld, xD, xD0, fNeTE, e_reprS, datsOf, dCB, dTup, dLst, dIf, dTst, dCmp, dCmpV, dChain, dChainT, dNot, dAnd, dOr, dAndV, dOrV, dNotV, dTb, sSeq, sNx, sSet, sRet, sRetN, sIf, sExpr, sBrk, sCont, sPar, sPar3, lenK, gdN, gdNil, gdCons, sAsg, sFor, sMatch, dMaxDf, maxDf, fSum, intsOf, caseD, patK, matK, litK, lenE, putAll, iLst, iTpl, iRg1, iRg2, iZp, iSqD, dYes, dLc, dLcB, dLc2, dNoP, dPart, dSl, dSlS, sOwn, sOwn2, sOwn3, sOwnC, sOwnSS, iTx, dSlT, fSlT, iEnT, fNotInS, dFmt, dJs, dCallK, pickD, iEn, e_eqL, e_neL, ownK, sApp, sAppL, sSetL, sIfL, sInsL, sTry1, dStar, dTupS, dLstS, dToldA, dToldB, toldX, mkP, dOwnLst, fLstL, sExt, sIns, sPut, sFrz, dOwnLen, dOwnIx, sRaise, sAug, t_draw, nthL, e_int, e_int0, e_add, e_addT, e_addL, e_addSI, e_addST, e_shl, e_ci, e_eqI, e_eqS, e_eqB, e_neI, e_neS, e_neB, e_isN, e_notN, e_nthT, e_nthL, e_lenT, e_lenL, e_i1, e_i2, e_lcm, e_intO, e_intB, e_isqrt, e_divmod, e_repr, e_reprS, e_addII, e_addBI, e_subII, e_subBI, e_subIB, e_mulII, e_mulIB, e_reprK, dFind, e_tupL, e_tupT, e_lst, e_truB, e_truI, e_truN, e_truL, e_truT, e_neg, e_bits, e_back, e_backL, e_slT, e_slL, e_slST, e_gdT, e_gdL, Ld.isNon])
local macro_rules | `(tactic| walk_at "u") => `(tactic| (dsimp only; walk_at "d"))

section
variable {R : RD} {Ex : XD}
/-! ### spreads and forms -/
def d4 (a b r d : Int) : PyData := .tuple [.int a, .int b, .int r, .int d]
/-! ### order -/
end

end My

set_option maxHeartbeats 4000000
namespace My
open PySem L2 Ld
open Lw hiding Dv DvAll FreshB tData tDatas pd_int pd_bl pd_non pd_str pd_neg pd_pow pda_nil pda_cons pd_tup pd_lst pd_dct dv_cut dv_cat tup_at rRepr call_repr rIsD call_isD
local macro_rules | `(tactic| walk_at "d") => `(tactic| try dsimp only [tfOf, startD, slotD, putD, wipeD, dV, dC, dOp, dUn, dNil, dCons, dConsW, dConsF, dCallV, dCall, dCallM, dUseC, dNew, exK, dIsX, dIsB, dFld, xD, xD0, fNeTE, e_reprS, datsOf, dCB, dTup, dLst, dIf, dTst, dCmp, dCmpV, dChain, dChainT, dNot, dAnd, dOr, dAndV, dOrV, dNotV, dTb, sSeq, sNx, sSet, sRet, sRetN, sIf, sExpr, sBrk, sCont, sPar, sPar3, lenK, gdN, gdNil, gdCons, sAsg, sFor, sMatch, dMaxDf, maxDf, fSum, intsOf, caseD, patK, matK, litK, lenE, putAll, iLst, iTpl, iRg1, iRg2, iZp, iSqD, dYes, dLc, dLcB, dLc2, dNoP, dPart, dSl, dSlS, sOwn, sOwn2, sOwn3, sOwnC, sOwnSS, iTx, dSlT, fSlT, iEnT, fNotInS, dFmt, dJs, dCallK, pickD, iEn, e_eqL, e_neL, ownK, sApp, sAppL, sSetL, sIfL, sInsL, sTry1, dStar, dTupS, dLstS, dToldA, dToldB, toldX, mkP, dOwnLst, fLstL, sExt, sIns, sPut, sFrz, dOwnLen, dOwnIx, sRaise, sAug, t_draw, nthL, e_int, e_int0, e_add, e_addT, e_addL, e_addSI, e_addST, e_shl, e_ci, e_eqI, e_eqS, e_eqB, e_neI, e_neS, e_neB, e_isN, e_notN, e_nthT, e_nthL, e_lenT, e_lenL, e_i1, e_i2, e_lcm, e_intO, e_intB, e_isqrt, e_divmod, e_repr, e_reprS, e_addII, e_addBI, e_subII, e_subBI, e_subIB, e_mulII, e_mulIB, e_reprK, dFind, e_tupL, e_tupT, e_lst, e_truB, e_truI, e_truN, e_truL, e_truT, e_neg, e_bits, e_back, e_backL, e_slT, e_slL, e_slST, e_gdT, e_gdL, Ld.isNon])
local macro_rules | `(tactic| walk_at "u") => `(tactic| (dsimp only; walk_at "d"))

section
variable {R : RD} {Ex : XD}
/-! ### draws -/
theorem w_l_draw {n : Int} (h0 : 0 < n) (h1 : n < 2 ^ 64) (h : ∀ k, 0 ≤ k → k < n → R (.int k)) : t_l_draw [.well, .dat (.int n)] R Ex := ⟨h0, h1, h⟩
theorem atD_mem {ds : List PyData} {k : Int} (h0 : 0 ≤ k) (h1 : k < ds.length) : ∃ d, d ∈ ds ∧ atD ds k = some d := by
  obtain ⟨n, rfl⟩ := Int.eq_ofNat_of_zero_le h0
  have hi : n < ds.length := by omega
  refine ⟨ds[n], List.getElem_mem hi, ?_⟩
  unfold atD ixN
  rw [if_pos h0, if_pos h1]
  simp [hi]
theorem ix_any {ds : List PyData} {k : Int} (h0 : 0 ≤ k) (h1 : k < ds.length) (h : ∀ d ∈ ds, R d) : fIx (.tuple ds) (.int k) R := by
  obtain ⟨d, hd, e⟩ := atD_mem h0 h1
  rw [e_ixT, e]
  exact h d hd
theorem w_l_pick {ds : List PyData} (h0 : 0 < ds.length) (h1 : ds.length < 1000) (h : ∀ d ∈ ds, R d) : t_l_pick [.well, .dat (.tuple ds)] R Ex := by
  unfold t_l_pick b_l_pick
  obtain ⟨k_l_draw, e_l_draw⟩ : ∃ k, t_l_draw = k := ⟨_, rfl⟩
  rw [e_l_draw]
  walk_at "d"
  refine st e_l_draw <| w_l_draw (by omega) (by omega) fun k k0 k1 => ?_
  exact ix_any k0 k1 h
theorem w_l_small (h : ∀ a b : Int, IsFr a b → a.natAbs ≤ 6 → b.natAbs ≤ 4 → R (.tuple [.int a, .int b])) : t_l_small [.well] R Ex := by
  unfold t_l_small b_l_small
  obtain ⟨k_l_draw, e_l_draw⟩ : ∃ k, t_l_draw = k := ⟨_, rfl⟩
  rw [e_l_draw]
  obtain ⟨k_l_lean, e_l_lean⟩ : ∃ k, t_l_lean = k := ⟨_, rfl⟩
  rw [e_l_lean]
  walk_at "d"
  refine st e_l_draw <| w_l_draw (by decide) (by decide) fun k k0 k1 => ?_
  walk_at "d"
  refine difP (fun _ => ?_) (fun _ => ?_)
  · refine st e_l_draw <| w_l_draw (by decide) (by decide) fun j j0 j1 => ?_
    refine ix_any j0 j1 fun d hd => ?_
    simp only [List.mem_cons, List.not_mem_nil, or_false] at hd
    rcases hd with h' | h' | h' | h' | h' | h' | h' | h' <;> (subst h'; exact h _ _ ⟨by decide, by decide⟩ (by decide) (by decide))
  · refine st e_l_draw <| w_l_draw (by decide) (by decide) fun j j0 j1 => ?_
    refine st e_l_draw <| w_l_draw (by decide) (by decide) fun i i0 i1 => ?_
    have b0 : (0 : Int) < 2 + i := by omega
    have le := red_le (a := j - 6) b0
    exact st e_l_lean <| w_l_lean (by omega) (two_le (m := 60) (by omega) (by decide)) (show R (fracD (j - 6) (2 + i)) from h _ _ (red_fr b0) (by omega) (by omega))
/-- a number drawn -/
def Drawn (a b r d : Int) : Prop := a.natAbs < 2 ^ 80 ∧ b.natAbs < 2 ^ 80 ∧ r.natAbs < 2 ^ 80 ∧ d.natAbs < 2 ^ 80 ∧ 0 ≤ r ∧ 0 < d
end

end My

set_option maxHeartbeats 4000000
namespace My
open PySem L2 Ld
open Lw hiding Dv DvAll FreshB tData tDatas pd_int pd_bl pd_non pd_str pd_neg pd_pow pda_nil pda_cons pd_tup pd_lst pd_dct dv_cut dv_cat tup_at rRepr call_repr rIsD call_isD
local macro_rules | `(tactic| walk_at "d") => `(tactic| try dsimp only [tfOf, startD, slotD, putD, wipeD, dV, dC, dOp, dUn, dNil, dCons, dConsW, dConsF, dCallV, dCall, dCallM, dUseC, dNew, exK, dIsX, dIsB, dFld, xD, xD0, fNeTE, e_reprS, datsOf, dCB, dTup, dLst, dIf, dTst, dCmp, dCmpV, dChain, dChainT, dNot, dAnd, dOr, dAndV, dOrV, dNotV, dTb, sSeq, sNx, sSet, sRet, sRetN, sIf, sExpr, sBrk, sCont, sPar, sPar3, lenK, gdN, gdNil, gdCons, sAsg, sFor, sMatch, dMaxDf, maxDf, fSum, intsOf, caseD, patK, matK, litK, lenE, putAll, iLst, iTpl, iRg1, iRg2, iZp, iSqD, dYes, dLc, dLcB, dLc2, dNoP, dPart, dSl, dSlS, sOwn, sOwn2, sOwn3, sOwnC, sOwnSS, iTx, dSlT, fSlT, iEnT, fNotInS, dFmt, dJs, dCallK, pickD, iEn, e_eqL, e_neL, ownK, sApp, sAppL, sSetL, sIfL, sInsL, sTry1, dStar, dTupS, dLstS, dToldA, dToldB, toldX, mkP, dOwnLst, fLstL, sExt, sIns, sPut, sFrz, dOwnLen, dOwnIx, sRaise, sAug, t_draw, nthL, e_int, e_int0, e_add, e_addT, e_addL, e_addSI, e_addST, e_shl, e_ci, e_eqI, e_eqS, e_eqB, e_neI, e_neS, e_neB, e_isN, e_notN, e_nthT, e_nthL, e_lenT, e_lenL, e_i1, e_i2, e_lcm, e_intO, e_intB, e_isqrt, e_divmod, e_repr, e_reprS, e_addII, e_addBI, e_subII, e_subBI, e_subIB, e_mulII, e_mulIB, e_reprK, dFind, e_tupL, e_tupT, e_lst, e_truB, e_truI, e_truN, e_truL, e_truT, e_neg, e_bits, e_back, e_backL, e_slT, e_slL, e_slST, e_gdT, e_gdL, Ld.isNon])
local macro_rules | `(tactic| walk_at "u") => `(tactic| (dsimp only; walk_at "d"))

/-! ### data within bounds, things of any kind, things bent -/
mutual
def okB : PyData → Bool
  | .none => true
  | .bool _ => true
  | .int i => decide (i.natAbs < 2 ^ 194)
  | .str x => decide ((reprText x).length ≤ 100)
  | .list xs => okBs xs
  | .tuple xs => okBs xs
  | .dict kvs => kvs.isEmpty
def okBs : List PyData → Bool
  | [] => true
  | x :: xs => okB x && okBs xs
end
mutual
theorem okB_fine : ∀ {d : PyData}, okB d = true → fine 194 d
  | .none, _ => trivial
  | .bool _, _ => trivial
  | .int i, h => show i.natAbs < 2 ^ 194 from of_decide_eq_true h
  | .str x, h => show (reprText x).length ≤ 100 from of_decide_eq_true h
  | .list xs, h => okBs_fine (xs := xs) h
  | .tuple xs, h => okBs_fine (xs := xs) h
  | .dict kvs, h => by
    show kvs = []
    cases kvs with
    | nil => rfl
    | cons a b => cases h
theorem okBs_fine : ∀ {xs : List PyData}, okBs xs = true → fineAll 194 xs
  | [], _ => trivial
  | x :: xs, h => by
    obtain ⟨a, b⟩ := Bool.and_eq_true_iff.mp (show (okB x && okBs xs) = true from h)
    exact ⟨okB_fine a, okBs_fine b⟩
end
abbrev Od (d : PyData) : Prop := Fit 194 40000 6 d
def chkO (d : PyData) : Bool := okB d && (decide (wt d ≤ 40000) && decide (d.depth ≤ 6))
theorem chk_od {d : PyData} (h : chkO d = true) : Od d := by
  obtain ⟨a, b⟩ := Bool.and_eq_true_iff.mp h
  obtain ⟨b, c⟩ := Bool.and_eq_true_iff.mp b
  exact ⟨okB_fine a, of_decide_eq_true b, of_decide_eq_true c⟩
theorem od_mem {d : PyData} {l : List PyData} (hd : d ∈ l) (h : l.all chkO = true) : Od d := chk_od (List.all_eq_true.mp h d hd)
theorem od_int {x : Int} (h : x.natAbs < 2 ^ 194) : Od (.int x) := ⟨h, by show 2000 ≤ 40000; decide, by show 0 ≤ 6; decide⟩
theorem od_bool (b : Bool) : Od (.bool b) := ⟨trivial, by show 2000 ≤ 40000; decide, by show 0 ≤ 6; decide⟩
theorem fit_all {B n m : Nat} : ∀ {ds : List PyData}, (∀ d ∈ ds, Fit B n m d) → fineAll B ds ∧ wtAll ds ≤ ds.length * (n + 2) ∧ PyData.depthAll ds ≤ m
  | [], _ => ⟨trivial, by show 0 ≤ _; omega, by show 0 ≤ _; omega⟩
  | x :: r, h => by
    obtain ⟨a, b, c⟩ := fit_all (ds := r) fun y hy => h y (List.mem_cons_of_mem _ hy)
    have s := h x (List.mem_cons_self ..)
    have w := s.w
    have dd := s.d
    refine ⟨⟨s.f, a⟩, ?_, ?_⟩
    · show wt x + 2 + wtAll r ≤ (r.length + 1) * (n + 2)
      have e : (r.length + 1) * (n + 2) = r.length * (n + 2) + (n + 2) := Nat.succ_mul _ _
      omega
    · show max x.depth (PyData.depthAll r) ≤ m
      omega
theorem fit_tup {B n m k : Nat} {ds : List PyData} (h : ∀ d ∈ ds, Fit B n m d) (hk : ds.length ≤ k) : Fit B (k * (n + 2) + 2000) (m + 1) (.tuple ds) := by
  obtain ⟨a, b, c⟩ := fit_all h
  refine ⟨a, ?_, ?_⟩
  · show wtAll ds + 2000 ≤ _
    have := Nat.mul_le_mul_right (n + 2) hk
    omega
  · show PyData.depthAll ds + 1 ≤ _
    omega
theorem fit_lst {B n m k : Nat} {ds : List PyData} (h : ∀ d ∈ ds, Fit B n m d) (hk : ds.length ≤ k) : Fit B (k * (n + 2) + 2000) (m + 1) (.list ds) := by
  obtain ⟨a, b, c⟩ := fit_all h
  refine ⟨a, ?_, ?_⟩
  · show wtAll ds + 2000 ≤ _
    have := Nat.mul_le_mul_right (n + 2) hk
    omega
  · show PyData.depthAll ds + 1 ≤ _
    omega
theorem cut_len (ds : List PyData) (lo hi : Option Int) : (cutD ds lo hi).length ≤ ds.length := by
  unfold cutD
  simp only [List.length_drop, List.length_take]
  omega
theorem cut_last (ds : List PyData) : (cutD ds (some (-1)) none).length ≤ 1 := by
  unfold cutD
  have e : HT.sIx ds.length 0 (some (-1)) = ds.length - 1 := by
    show (if ((-1 : Int) < 0) then ((-1 : Int) + (ds.length : Int)).toNat else min ((-1 : Int)).toNat ds.length) = _
    rw [if_pos (by decide)]
    omega
  rw [List.length_take, List.length_drop, e]
  omega
theorem cut_first (ds : List PyData) : (cutD ds none (some 1)).length ≤ 1 := by
  unfold cutD
  have e : HT.sIx ds.length ds.length (some 1) ≤ 1 := by
    show (if ((1 : Int) < 0) then ((1 : Int) + (ds.length : Int)).toNat else min ((1 : Int)).toNat ds.length) ≤ 1
    rw [if_neg (by decide)]
    omega
  rw [List.length_take]
  omega
theorem cut_two {ds : List PyData} {k : Int} (h0 : 0 ≤ k) (h1 : k < ds.length) : (cutD ds none (some k)).length + (cutD ds (some (k + 1)) none).length + 1 ≤ ds.length := by
  unfold cutD
  have e : HT.sIx ds.length ds.length (some k) = k.toNat := by
    show (if (k < 0) then (k + (ds.length : Int)).toNat else min k.toNat ds.length) = _
    rw [if_neg (by omega)]
    omega
  have e2 : HT.sIx ds.length 0 (some (k + 1)) = k.toNat + 1 := by
    show (if (k + 1 < 0) then (k + 1 + (ds.length : Int)).toNat else min (k + 1).toNat ds.length) = _
    rw [if_neg (by omega)]
    omega
  rw [List.length_take, List.length_take, List.length_drop, List.length_drop, e, e2]
  show min (k.toNat - 0) (ds.length - 0) + min (ds.length - (k.toNat + 1)) (ds.length - (k.toNat + 1)) + 1 ≤ ds.length
  omega
theorem cut_mem {ds : List PyData} {lo hi : Option Int} {d : PyData} (h : d ∈ cutD ds lo hi) : d ∈ ds := by
  unfold cutD at h
  exact List.mem_of_mem_drop (List.mem_of_mem_take h)
/-- a bound of bent tuples -/
def up1 (n : Nat) : Nat := 6 * (n + 2) + 2000
def bB : Nat → Nat
  | 0 => 40004
  | k + 1 => up1 (bB k)
def bM : Nat → Nat
  | 0 => 6
  | k + 1 => bM k + 1
theorem bB_ge : ∀ k, 40000 ≤ bB k
  | 0 => by show 40000 ≤ 40004; decide
  | k + 1 => by
    have := bB_ge k
    show 40000 ≤ 6 * (bB k + 2) + 2000
    omega
theorem bM_ge : ∀ k, 6 ≤ bM k
  | 0 => by show 6 ≤ 6; decide
  | k + 1 => by
    have := bM_ge k
    show 6 ≤ bM k + 1
    omega
abbrev Th (k : Nat) (d : PyData) : Prop := Fit 194 (bB k) (bM k) d
theorem Th.of {k : Nat} {d : PyData} (h : Od d) : Th k d := h.mono (by decide) (bB_ge k) (bM_ge k)
/-- what may be bent k deep -/
def sm : Nat → PyData → Bool
  | 0, .tuple ds => ds.isEmpty
  | k + 1, .tuple ds => decide (ds.length ≤ 5) && ds.all (sm k)
  | _, .int i => decide (i.natAbs < 2 ^ 193)
  | _, d => chkO d
theorem sm_th : ∀ {k : Nat} {d : PyData}, sm k d = true → Th k d
  | 0, .tuple ds, h => by
    have e : ds = [] := by
      cases ds with
      | nil => rfl
      | cons a b => cases h
    subst e
    exact Th.of (chk_od (by decide +kernel))
  | k + 1, .tuple ds, h => by
    obtain ⟨a, b⟩ := Bool.and_eq_true_iff.mp (show (decide (ds.length ≤ 5) && ds.all (sm k)) = true from h)
    have z := fit_tup (k := 6) (fun d hd => sm_th (List.all_eq_true.mp b d hd)) (Nat.le_trans (of_decide_eq_true a) (by decide))
    exact z
  | 0, .int i, h => Th.of (od_int (Nat.lt_trans (of_decide_eq_true h) (by decide)))
  | k + 1, .int i, h => Th.of (od_int (Nat.lt_trans (of_decide_eq_true h) (by decide)))
  | 0, .none, h => Th.of (chk_od h)
  | k + 1, .none, h => Th.of (chk_od h)
  | 0, .bool b, h => Th.of (chk_od h)
  | k + 1, .bool b, h => Th.of (chk_od h)
  | 0, .str b, h => Th.of (chk_od h)
  | k + 1, .str b, h => Th.of (chk_od h)
  | 0, .list b, h => Th.of (chk_od h)
  | k + 1, .list b, h => Th.of (chk_od h)
  | 0, .dict b, h => Th.of (chk_od h)
  | k + 1, .dict b, h => Th.of (chk_od h)
theorem sm_int {k : Nat} {x : Int} (h : x.natAbs < 2 ^ 193) : sm k (.int x) = true := by
  cases k <;> exact decide_eq_true h
section
variable {R : RD} {Ex : XD}
theorem w_l_odd (h : ∀ d, sm 2 d = true → Od d → R d) : t_l_odd [.well] R Ex := by
  unfold t_l_odd b_l_odd
  obtain ⟨k_l_pick, e_l_pick⟩ : ∃ k, t_l_pick = k := ⟨_, rfl⟩
  rw [e_l_pick]
  walk_at "d"
  refine st e_l_pick <| w_l_pick (by decide) (by decide) fun d hd => h d ?_ (od_mem hd (by decide +kernel))
  revert d
  exact List.all_eq_true.mp (by decide +kernel)
theorem w_l_oddO (h : ∀ d, Od d → R d) : t_l_odd [.well] R Ex := w_l_odd fun d _ hd => h d hd
theorem bent_five {b : Bool} {i : Int} (i0 : 0 ≤ i) (i1 : i < 5) {a b1 c e : Int} (ha : a.natAbs < 2 ^ 194) (hb : b1.natAbs < 2 ^ 194) (hc : c.natAbs < 2 ^ 194) (he : e.natAbs < 2 ^ 194) (h : ∀ d, Od d → R d) : fIx (.tuple [.int a, .int b1, .int c, .int e, .bool b]) (.int i) R :=
  ix_any i0 (by show i < 5; exact i1) fun d hd => h d (by
    simp only [List.mem_cons, List.not_mem_nil, or_false] at hd
    rcases hd with rfl | rfl | rfl | rfl | rfl
    · exact od_int ha
    · exact od_int hb
    · exact od_int hc
    · exact od_int he
    · exact od_bool _)
theorem bent_else {n : Nat} {d : PyData} (hE : noE d = true) (ht : isTup d = false) (hi : isInt d = false) (h : ∀ d, Od d → R d) : tn_l_bent (n + 1) [.well, .dat d] R Ex := by
  show tfOf N_l_bent (rb_l_bent (tn_l_bent n)) _ _ _
  unfold rb_l_bent
  obtain ⟨k_l_draw, e_l_draw⟩ : ∃ k, t_l_draw = k := ⟨_, rfl⟩
  rw [e_l_draw]
  obtain ⟨k_l_odd, e_l_odd⟩ : ∃ k, t_l_odd = k := ⟨_, rfl⟩
  rw [e_l_odd]
  obtain ⟨k_l_bent, e_l_bent⟩ : ∃ k, tn_l_bent n = k := ⟨_, rfl⟩
  rw [e_l_bent]
  walk_at "d"
  rw [ht, hi]
  refine ⟨hE, ?_⟩
  refine difF ?_
  refine st e_l_draw <| w_l_draw (by decide) (by decide) fun i i0 i1 => ?_
  walk_at "d"
  refine ⟨hE, ?_⟩
  refine difF ?_
  refine ⟨hE, ?_⟩
  refine difF ?_
  exact st e_l_odd <| w_l_oddO h
theorem bent_int {n : Nat} {x : Int} (z : x.natAbs < 2 ^ 193) (h : ∀ d, Od d → R d) : tn_l_bent (n + 1) [.well, .dat (.int x)] R Ex := by
  show tfOf N_l_bent (rb_l_bent (tn_l_bent n)) _ _ _
  unfold rb_l_bent
  obtain ⟨k_l_draw, e_l_draw⟩ : ∃ k, t_l_draw = k := ⟨_, rfl⟩
  rw [e_l_draw]
  obtain ⟨k_l_odd, e_l_odd⟩ : ∃ k, t_l_odd = k := ⟨_, rfl⟩
  rw [e_l_odd]
  obtain ⟨k_l_bent, e_l_bent⟩ : ∃ k, tn_l_bent n = k := ⟨_, rfl⟩
  rw [e_l_bent]
  walk_at "d"
  refine ⟨rfl, ?_⟩
  refine difF ?_
  refine st e_l_draw <| w_l_draw (by decide) (by decide) fun i i0 i1 => ?_
  walk_at "d"
  refine ⟨rfl, ?_⟩
  refine difF ?_
  refine ⟨rfl, ?_⟩
  refine dif (fun _ => ?_) (fun c => by cases c)
  refine difP (fun c => ?_) (fun c => ?_)
  · exact ⟨mulx_ok (show (2 : Int).natAbs < 2 ^ 2 by decide) z (by decide), bent_five i0 c (by omega) (by omega) (by omega) (by omega) h⟩
  · exact st e_l_odd <| w_l_oddO h
theorem bent_bool {n : Nat} {b : Bool} (h : ∀ d, Od d → R d) : tn_l_bent (n + 1) [.well, .dat (.bool b)] R Ex := by
  show tfOf N_l_bent (rb_l_bent (tn_l_bent n)) _ _ _
  unfold rb_l_bent
  obtain ⟨k_l_draw, e_l_draw⟩ : ∃ k, t_l_draw = k := ⟨_, rfl⟩
  rw [e_l_draw]
  obtain ⟨k_l_odd, e_l_odd⟩ : ∃ k, t_l_odd = k := ⟨_, rfl⟩
  rw [e_l_odd]
  obtain ⟨k_l_bent, e_l_bent⟩ : ∃ k, tn_l_bent n = k := ⟨_, rfl⟩
  rw [e_l_bent]
  walk_at "d"
  refine ⟨rfl, ?_⟩
  refine difF ?_
  refine st e_l_draw <| w_l_draw (by decide) (by decide) fun i i0 i1 => ?_
  walk_at "d"
  refine ⟨rfl, ?_⟩
  refine difF ?_
  refine ⟨rfl, ?_⟩
  refine dif (fun _ => ?_) (fun c => by cases c)
  refine difP (fun c => ?_) (fun c => ?_)
  · refine ⟨rfl, rfl, ?_⟩
    cases b
    · exact bent_five i0 c (by decide) (by decide) (by decide) (by decide) h
    · exact bent_five i0 c (by decide) (by decide) (by decide) (by decide) h
  · exact st e_l_odd <| w_l_oddO h
theorem bent_tup {n N m : Nat} {ds : List PyData} (h1 : ds.length ≤ 5) (hn : 40000 ≤ up1 N) (hm : 6 ≤ m + 1) (hf : ∀ d ∈ ds, Fit 194 N m d) (h : ∀ d, Fit 194 (up1 N) (m + 1) d → R d)
    (ih : ∀ d ∈ ds, ∀ R' : RD, (∀ d, Fit 194 N m d → R' d) → tn_l_bent n [.well, .dat d] R' Ex) : tn_l_bent (n + 1) [.well, .dat (.tuple ds)] R Ex := by
  have tup : ∀ es : List PyData, es.length ≤ 6 → (∀ d ∈ es, Fit 194 N m d) → R (.tuple es) := fun es hl he => h _ (fit_tup he hl)
  have lst : ∀ es : List PyData, es.length ≤ 6 → (∀ d ∈ es, Fit 194 N m d) → R (.list es) := fun es hl he => h _ (fit_lst he hl)
  have od : ∀ d, Od d → R d := fun d z => h d (z.mono (by decide) hn hm)
  show tfOf N_l_bent (rb_l_bent (tn_l_bent n)) _ _ _
  unfold rb_l_bent
  obtain ⟨k_l_draw, e_l_draw⟩ : ∃ k, t_l_draw = k := ⟨_, rfl⟩
  rw [e_l_draw]
  obtain ⟨k_l_odd, e_l_odd⟩ : ∃ k, t_l_odd = k := ⟨_, rfl⟩
  rw [e_l_odd]
  obtain ⟨k_l_bent, e_l_bent⟩ : ∃ k, tn_l_bent n = k := ⟨_, rfl⟩
  rw [e_l_bent]
  walk_at "d"
  have cl := cut_len ds
  refine ⟨rfl, ?_⟩
  refine dif (fun _ => ?_) (fun c => by cases c)
  walk_at "d"
  refine dif (fun ne => ?aa) (fun _ => ?bb)
  case' aa =>
    refine st e_l_draw <| w_l_draw (by decide) (by decide) fun i i0 i1 => ?_
    walk_at "d"
    refine difP (fun c => ?a1) (fun c => ?b2)
  case a1 =>
    have h0 : 0 < ds.length := by
      cases ds with
      | nil => cases ne
      | cons x r => exact Nat.succ_pos _
    refine st e_l_draw <| w_l_draw (by omega) (by omega) fun k k0 k1 => ?_
    walk_at "d"
    refine ix_any k0 k1 fun d hd => ?_
    refine st e_l_bent <| ih d hd _ fun d2 f2 => ?_
    have l1 := cl none (some k)
    have l2 := cl (some (k + 1)) none
    have ll := cut_two k0 k1
    walk_at "d"
    refine ⟨by show _ + 1 ≤ 16000000; omega, ?_⟩
    refine ⟨by rw [List.length_append]; show _ + 1 + _ ≤ 16000000; omega, tup _ ?_ fun x hx => ?_⟩
    · rw [List.length_append, List.length_append]
      show _ + 1 + _ ≤ 6
      omega
    · rcases List.mem_append.mp hx with hx | hx
      · rcases List.mem_append.mp hx with hx | hx
        · exact hf x (cut_mem hx)
        · rw [List.mem_singleton.mp hx]
          exact f2
      · exact hf x (cut_mem hx)
  all_goals
    refine st e_l_draw <| w_l_draw (by decide) (by decide) fun j j0 j1 => ?_
    walk_at "d"
    refine ⟨rfl, ?_⟩
    refine dif (fun _ => ?_) (fun c => by cases c)
    refine difP (fun c => ?_) (fun c => ?_)
    · have l1 := cl (some (-1)) none
      have l2 := cl none (some 1)
      have l3 := cl none (some (-1))
      have l4 := cl (some 1) none
      refine ⟨by omega, by omega, ?_⟩
      refine ix_any j0 (by show j < 6; exact c) fun d hd => ?_
      simp only [List.mem_cons, List.not_mem_nil, or_false] at hd
      have one := cut_last ds
      have one2 := cut_first ds
      rcases hd with rfl | rfl | rfl | rfl | rfl | rfl
      · exact lst _ (by omega) hf
      · exact tup _ (by omega) fun x hx => hf x (cut_mem hx)
      · refine tup _ (by rw [List.length_append]; omega) fun x hx => ?_
        rcases List.mem_append.mp hx with hx | hx
        · exact hf x hx
        · exact hf x (cut_mem hx)
      · exact tup _ (by rw [List.length_reverse]; omega) fun x hx => hf x (List.mem_reverse.mp hx)
      · exact tup _ (by omega) fun x hx => hf x (cut_mem hx)
      · refine tup _ (by rw [List.length_append]; omega) fun x hx => ?_
        rcases List.mem_append.mp hx with hx | hx
        · exact hf x (cut_mem hx)
        · exact hf x hx
    · refine ⟨rfl, ?_⟩
      refine difF ?_
      exact st e_l_odd <| w_l_oddO od
theorem bent_sm : ∀ {k n : Nat} {d : PyData} {R : RD}, k < n → sm k d = true → (∀ d, Th k d → R d) → tn_l_bent n [.well, .dat d] R Ex
  | k, 0, _, _, hn, _, _ => absurd hn (Nat.not_lt_zero _)
  | 0, n + 1, .tuple ds, R, hn, hs, h => by
    have e : ds = [] := by
      cases ds with
      | nil => rfl
      | cons a b => cases hs
    subst e
    exact bent_tup (N := 6332) (m := 5) (by decide) (by decide) (by decide) (fun d hd => by cases hd) (fun d hd => h d (hd.mono (by decide) (by decide) (by decide))) (fun d hd => by cases hd)
  | k + 1, n + 1, .tuple ds, R, hn, hs, h => by
    obtain ⟨a, b⟩ := Bool.and_eq_true_iff.mp (show (decide (ds.length ≤ 5) && ds.all (sm k)) = true from hs)
    have b2 := List.all_eq_true.mp b
    exact bent_tup (N := bB k) (m := bM k) (of_decide_eq_true a) (bB_ge (k + 1)) (bM_ge (k + 1)) (fun d hd => sm_th (b2 d hd)) h fun d hd R' h' => bent_sm (by omega) (b2 d hd) h'
  | k, n + 1, .int i, R, hn, hs, h => by
    refine bent_int ?_ fun d hd => h d (Th.of hd)
    cases k <;> exact of_decide_eq_true hs
  | k, n + 1, .bool b, R, hn, hs, h => bent_bool fun d hd => h d (Th.of hd)
  | k, n + 1, .none, R, hn, hs, h => bent_else rfl rfl rfl fun d hd => h d (Th.of hd)
  | k, n + 1, .str b, R, hn, hs, h => bent_else rfl rfl rfl fun d hd => h d (Th.of hd)
  | k, n + 1, .list b, R, hn, hs, h => bent_else rfl rfl rfl fun d hd => h d (Th.of hd)
  | k, n + 1, .dict b, R, hn, hs, h => by
    have e : b = [] := by
      cases b with
      | nil => rfl
      | cons x y => cases k <;> cases hs
    subst e
    exact bent_else rfl rfl rfl fun d hd => h d (Th.of hd)
theorem w_l_spoilt {x : PyData} (hs : sm 3 x = true) (h : ∀ d, Th 3 d → R d) : t_l_spoilt [.well, .dat x] R Ex := by
  unfold t_l_spoilt b_l_spoilt
  obtain ⟨k_l_draw, e_l_draw⟩ : ∃ k, t_l_draw = k := ⟨_, rfl⟩
  rw [e_l_draw]
  obtain ⟨k_l_bent, e_l_bent⟩ : ∃ k, t_l_bent = k := ⟨_, rfl⟩
  rw [e_l_bent]
  obtain ⟨k_l_odd, e_l_odd⟩ : ∃ k, t_l_odd = k := ⟨_, rfl⟩
  rw [e_l_odd]
  walk_at "d"
  refine st e_l_draw <| w_l_draw (by decide) (by decide) fun i i0 i1 => ?_
  walk_at "d"
  refine difP (fun c => ?_) (fun c => ?_)
  · exact h _ (sm_th hs)
  · refine difP (fun c => ?_) (fun c => ?_)
    · refine st e_l_bent <| bent_sm (k := 3) (by decide) hs h
    · exact st e_l_odd <| w_l_oddO fun d hd => h d (Th.of hd)
theorem w_l_point (h : ∀ d, sm 2 d = true → noL d = true → R d) : t_l_point [.well] R Ex := by
  unfold t_l_point b_l_point
  obtain ⟨k_l_small, e_l_small⟩ : ∃ k, t_l_small = k := ⟨_, rfl⟩
  rw [e_l_small]
  walk_at "d"
  refine st e_l_small <| w_l_small fun a b ab la lb => ?_
  walk_at "d"
  refine st e_l_small <| w_l_small fun c d cd lc ld => ?_
  walk_at "d"
  refine h _ ?_ rfl
  have z : ∀ {x : Int}, x.natAbs ≤ 6 → sm 0 (.int x) = true := fun hx => sm_int (Nat.lt_of_le_of_lt hx (by decide))
  have y : ∀ {x y : Int}, x.natAbs ≤ 6 → y.natAbs ≤ 6 → sm 1 (.tuple [.int x, .int y]) = true := fun hx hy => by
    show (decide (2 ≤ 5) && (sm 0 _ && (sm 0 _ && true))) = true
    rw [z hx, z hy]
    rfl
  show (decide (2 ≤ 5) && (sm 1 _ && (sm 1 _ && true))) = true
  rw [y la (by omega), y lc (by omega)]
  rfl
end

end My

set_option maxHeartbeats 4000000
namespace My
open PySem L2 Ld
open Lw hiding Dv DvAll FreshB tData tDatas pd_int pd_bl pd_non pd_str pd_neg pd_pow pda_nil pda_cons pd_tup pd_lst pd_dct dv_cut dv_cat tup_at rRepr call_repr rIsD call_isD
local macro_rules | `(tactic| walk_at "d") => `(tactic| try dsimp only [tfOf, startD, slotD, putD, wipeD, dV, dC, dOp, dUn, dNil, dCons, dConsW, dConsF, dCallV, dCall, dCallM, dUseC, dNew, exK, dIsX, dIsB, dFld, fNeTE, e_reprS, datsOf, dCB, dTup, dLst, dIf, dTst, dCmp, dCmpV, dChain, dChainT, dNot, dAnd, dOr, dAndV, dOrV, dNotV, dTb, sSeq, sNx, sSet, sRet, sRetN, sIf, sExpr, sBrk, sCont, sPar, sPar3, lenK, gdN, gdNil, gdCons, sAsg, sFor, sMatch, dMaxDf, maxDf, fSum, intsOf, caseD, patK, matK, litK, lenE, putAll, iLst, iTpl, iRg1, iRg2, iZp, iSqD, dYes, dLc, dLcB, dLc2, dNoP, dPart, dSl, dSlS, sOwn, sOwn2, sOwn3, sOwnC, sOwnSS, iTx, dSlT, fSlT, iEnT, fNotInS, dFmt, dJs, dCallK, pickD, iEn, e_eqL, e_neL, ownK, sApp, sAppL, sSetL, sIfL, sInsL, sTry1, dStar, dTupS, dLstS, dToldA, dToldB, toldX, mkP, dOwnLst, fLstL, sExt, sIns, sPut, sFrz, dOwnLen, dOwnIx, sRaise, sAug, t_draw, nthL, e_int, e_int0, e_add, e_addT, e_addL, e_addSI, e_addST, e_shl, e_ci, e_eqI, e_eqS, e_eqB, e_neI, e_neS, e_neB, e_isN, e_notN, e_nthT, e_nthL, e_lenT, e_lenL, e_i1, e_i2, e_lcm, e_intO, e_intB, e_isqrt, e_divmod, e_repr, e_reprS, e_addII, e_addBI, e_subII, e_subBI, e_subIB, e_mulII, e_mulIB, e_reprK, dFind, e_tupL, e_tupT, e_lst, e_truB, e_truI, e_truN, e_truL, e_truT, e_neg, e_bits, e_back, e_backL, e_slT, e_slL, e_slST, e_gdT, e_gdL, Ld.isNon])
local macro_rules | `(tactic| walk_at "u") => `(tactic| (dsimp only; walk_at "d"))

/-! ### errors made by place and by name, and under which classes they stand -/
def bL (l : List Bool) : List PyData := l.map PyData.bool
def cN : List Str := ["InvalidFraction", "InvalidNumber", "InvalidPoint", "InvalidPlace", "InvalidWay", "InvalidCurve", "InvalidLead", "InvalidFigure", "InvalidSketch", "InvalidScene", "InvalidName", "UnknownName", "NameTaken", "InUse", "ComesRound", "TooDeep", "TooMany", "InvalidIndex", "InvalidCount", "InvalidView", "InvalidPicture", "InvalidCurves", "InvalidRow", "InvalidLines", "InvalidBytes", "BadText", "NotBounded", "NothingInside", "NotStraight", "NothingToUndo", "NothingToRedo", "PlaneError"]
def trB (c : Str) : List Bool := cN.map (fun k => c == k || k == "PlaneError") ++ [true, true, false, false, false, false, false]
def errD (n : Nat) (d : PyData) : PyData := if n < 21 then xD (cN.getD n "") "given" d else if n < 25 then xD (cN.getD n "") "index" d else if n < 26 then xD (cN.getD n "") "spot" d else xD0 (cN.getD n "")
section
variable {R : RD} {Ex : XD}
theorem w_l_truths {c : Str} {z : PyData} (hc : c ∈ XCS) (h : R (.list (bL (trB c)))) : t_l_truths [.dat (.dict [(.str c, z)])] R Ex := by
  unfold t_l_truths b_l_truths
  walk_at "d"
  repeat (first | refine ⟨hc, ?_⟩ | refine ⟨by simp only [List.length_append, List.length_cons, List.length_nil]; decide, ?_⟩)
  exact h
theorem w_l_low {n : Int} {d : PyData} (h0 : 0 ≤ n) (h1 : n < 11) (h : R (errD n.toNat d)) : t_l_low [.dat (.int n), .dat d] R Ex := by
  unfold t_l_low b_l_low
  walk_at "d"
  repeat' (refine difP (fun _ => ?_) (fun _ => ?_))
  all_goals first
    | (have e : n = 0 := by omega); subst e; exact h
    | (have e : n = 1 := by omega); subst e; exact h
    | (have e : n = 2 := by omega); subst e; exact h
    | (have e : n = 3 := by omega); subst e; exact h
    | (have e : n = 4 := by omega); subst e; exact h
    | (have e : n = 5 := by omega); subst e; exact h
    | (have e : n = 6 := by omega); subst e; exact h
    | (have e : n = 7 := by omega); subst e; exact h
    | (have e : n = 8 := by omega); subst e; exact h
    | (have e : n = 9 := by omega); subst e; exact h
    | (have e : n = 10 := by omega); subst e; exact h
theorem w_l_low_name {n : Int} {d : PyData} (h0 : 0 ≤ n) (h1 : n < 11) (h : R (errD n.toNat d)) : t_l_low_name [.dat (.int n), .dat d] R Ex := by
  unfold t_l_low_name b_l_low_name
  walk_at "d"
  repeat' (refine difP (fun _ => ?_) (fun _ => ?_))
  all_goals first
    | (have e : n = 0 := by omega); subst e; exact h
    | (have e : n = 1 := by omega); subst e; exact h
    | (have e : n = 2 := by omega); subst e; exact h
    | (have e : n = 3 := by omega); subst e; exact h
    | (have e : n = 4 := by omega); subst e; exact h
    | (have e : n = 5 := by omega); subst e; exact h
    | (have e : n = 6 := by omega); subst e; exact h
    | (have e : n = 7 := by omega); subst e; exact h
    | (have e : n = 8 := by omega); subst e; exact h
    | (have e : n = 9 := by omega); subst e; exact h
    | (have e : n = 10 := by omega); subst e; exact h
theorem w_l_by_place {n : Int} {d : PyData} (h0 : 0 ≤ n) (h1 : n < 32) (h : R (errD n.toNat d)) : t_l_by_place [.dat (.int n), .dat d] R Ex := by
  unfold t_l_by_place b_l_by_place
  obtain ⟨k_l_low, e_l_low⟩ : ∃ k, t_l_low = k := ⟨_, rfl⟩
  rw [e_l_low]
  walk_at "d"
  refine difP (fun c => st e_l_low <| w_l_low h0 c h) (fun _ => ?_)
  repeat' (refine difP (fun _ => ?_) (fun _ => ?_))
  all_goals first
    | (have e : n = 11 := by omega); subst e; exact h
    | (have e : n = 12 := by omega); subst e; exact h
    | (have e : n = 13 := by omega); subst e; exact h
    | (have e : n = 14 := by omega); subst e; exact h
    | (have e : n = 15 := by omega); subst e; exact h
    | (have e : n = 16 := by omega); subst e; exact h
    | (have e : n = 17 := by omega); subst e; exact h
    | (have e : n = 18 := by omega); subst e; exact h
    | (have e : n = 19 := by omega); subst e; exact h
    | (have e : n = 20 := by omega); subst e; exact h
    | (have e : n = 21 := by omega); subst e; exact h
    | (have e : n = 22 := by omega); subst e; exact h
    | (have e : n = 23 := by omega); subst e; exact h
    | (have e : n = 24 := by omega); subst e; exact h
    | (have e : n = 25 := by omega); subst e; exact h
    | (have e : n = 26 := by omega); subst e; exact h
    | (have e : n = 27 := by omega); subst e; exact h
    | (have e : n = 28 := by omega); subst e; exact h
    | (have e : n = 29 := by omega); subst e; exact h
    | (have e : n = 30 := by omega); subst e; exact h
    | (have e : n = 31 := by omega); subst e; exact h
theorem w_l_by_name {n : Int} {d : PyData} (h0 : 0 ≤ n) (h1 : n < 26) (h : R (errD n.toNat d)) : t_l_by_name [.dat (.int n), .dat d] R Ex := by
  unfold t_l_by_name b_l_by_name
  obtain ⟨k_l_low_name, e_l_low_name⟩ : ∃ k, t_l_low_name = k := ⟨_, rfl⟩
  rw [e_l_low_name]
  walk_at "d"
  refine difP (fun c => st e_l_low_name <| w_l_low_name h0 c h) (fun _ => ?_)
  repeat' (refine difP (fun _ => ?_) (fun _ => ?_))
  all_goals first
    | (have e : n = 11 := by omega); subst e; exact h
    | (have e : n = 12 := by omega); subst e; exact h
    | (have e : n = 13 := by omega); subst e; exact h
    | (have e : n = 14 := by omega); subst e; exact h
    | (have e : n = 15 := by omega); subst e; exact h
    | (have e : n = 16 := by omega); subst e; exact h
    | (have e : n = 17 := by omega); subst e; exact h
    | (have e : n = 18 := by omega); subst e; exact h
    | (have e : n = 19 := by omega); subst e; exact h
    | (have e : n = 20 := by omega); subst e; exact h
    | (have e : n = 21 := by omega); subst e; exact h
    | (have e : n = 22 := by omega); subst e; exact h
    | (have e : n = 23 := by omega); subst e; exact h
    | (have e : n = 24 := by omega); subst e; exact h
    | (have e : n = 25 := by omega); subst e; exact h
end

end My

set_option maxHeartbeats 4000000
namespace My
open PySem L2 Ld
open Lw hiding Dv DvAll FreshB tData tDatas pd_int pd_bl pd_non pd_str pd_neg pd_pow pda_nil pda_cons pd_tup pd_lst pd_dct dv_cut dv_cat tup_at rRepr call_repr rIsD call_isD
local macro_rules | `(tactic| walk_at "d") => `(tactic| try dsimp only [tfOf, startD, slotD, putD, wipeD, dV, dC, dOp, dUn, dNil, dCons, dConsW, dConsF, dCallV, dCall, dCallM, dUseC, dNew, exK, dIsX, dIsB, dFld, xD, xD0, fNeTE, e_reprS, datsOf, dCB, dTup, dLst, dIf, dTst, dCmp, dCmpV, dChain, dChainT, dNot, dAnd, dOr, dAndV, dOrV, dNotV, dTb, sSeq, sNx, sSet, sRet, sRetN, sIf, sExpr, sBrk, sCont, sPar, sPar3, lenK, gdN, gdNil, gdCons, sAsg, sFor, sMatch, dMaxDf, maxDf, fSum, intsOf, caseD, patK, matK, litK, lenE, putAll, iLst, iTpl, iRg1, iRg2, iZp, iSqD, dYes, dLc, dLcB, dLc2, dNoP, dPart, dSl, dSlS, sOwn, sOwn2, sOwn3, sOwnC, sOwnSS, iTx, dSlT, fSlT, iEnT, fNotInS, dFmt, dJs, dCallK, pickD, iEn, e_eqL, e_neL, ownK, sApp, sAppL, sSetL, sIfL, sInsL, sTry1, dStar, dTupS, dLstS, dToldA, dToldB, toldX, mkP, dOwnLst, fLstL, sExt, sIns, sPut, sFrz, dOwnLen, dOwnIx, sRaise, sAug, t_draw, nthL, e_int, e_int0, e_add, e_addT, e_addL, e_addSI, e_addST, e_shl, e_ci, e_eqI, e_eqS, e_eqB, e_neI, e_neS, e_neB, e_isN, e_notN, e_nthT, e_nthL, e_lenT, e_lenL, e_i1, e_i2, e_lcm, e_intO, e_intB, e_isqrt, e_divmod, e_repr, e_reprS, e_addII, e_addBI, e_subII, e_subBI, e_subIB, e_mulII, e_mulIB, e_reprK, dFind, e_tupL, e_tupT, e_lst, e_truB, e_truI, e_truN, e_truL, e_truT, e_neg, e_bits, e_back, e_backL, e_slT, e_slL, e_slST, e_gdT, e_gdL, Ld.isNon])
local macro_rules | `(tactic| walk_at "u") => `(tactic| (dsimp only; walk_at "d"))

/-! ### an error stands where it has to, and keeps what it has to -/
theorem lcD_on {α : Type} {gd : GD} {tt : TTD} {te : TD} {ρ : Ld.Env} (g f : α → PyData) : ∀ {l : List α} {K : List PyData → Prop}, (∀ x ∈ l, ∀ (K1 : RD) (K0 : Prop), K1 (f x) → gd (g x) ρ (fun ρ' => tt ρ' (fun b => if b = true then te ρ' K1 NoX else K0) NoX)) → K (l.map f) → lcD gd tt te ρ (l.map g) K
  | [], K, _, h => h
  | x :: r, K, s, h => s x (List.mem_cons_self ..) _ _ (lcD_on g f (fun y hy => s y (List.mem_cons_of_mem _ hy)) h)
theorem lcD_rg {gd : GD} {tt : TTD} {te : TD} {ρ : Ld.Env} {n : Nat} (f : Nat → PyData) {K : List PyData → Prop} (s : ∀ k < n, ∀ (K1 : RD) (K0 : Prop), K1 (f k) → gd (.int ((0 : Int) + (k : Int))) ρ (fun ρ' => tt ρ' (fun b => if b = true then te ρ' K1 NoX else K0) NoX)) (h : K ((List.range n).map f)) : lcD gd tt te ρ (rangeD 0 n) K :=
  lcD_on (fun k : Nat => .int ((0 : Int) + (k : Int))) f (fun x hx => s x (List.mem_range.mp hx)) h
def bk (n k : Nat) : Bool := decide (k = n) || (decide (30 < k) && decide (k < 34))
theorem bk_tr : ∀ n < 32, (List.range 39).map (bk n) = trB (cN.getD n "") := by decide +kernel
theorem bk_nd : ∀ n < 32, (PyData.list ((List.range 39).map fun k => PyData.bool (bk n k))).hasDict = false := by decide +kernel
theorem cN_mem : ∀ n < 32, cN.getD n "" ∈ XCS := by decide +kernel
theorem cN_given : ∀ n < 21, ((cN.getD n "", "given") : Str × Str) ∈ XFS := by decide +kernel
theorem cN_index : ∀ n < 25, 21 ≤ n → ((cN.getD n "", "index") : Str × Str) ∈ XFS := by decide +kernel
theorem bL_shows {l : List Bool} (hl : l.length ≤ 39) : shows (.list (bL l)) := by
  have z : Fit 194 (39 * (2000 + 2) + 2000) (0 + 1) (.list (bL l)) := fit_lst (fun d hd => by
    obtain ⟨b, _, rfl⟩ := List.mem_map.mp hd
    exact ⟨trivial, by show 2000 ≤ 2000; decide, by show 0 ≤ 0; decide⟩) (by unfold bL; rw [List.length_map]; exact hl)
  exact shows_of z (by decide) (by decide) (by decide)
theorem bk_list {n : Nat} (hn : n < 32) : ((List.range 39).map fun k => PyData.bool (bk n k)) = bL (trB (cN.getD n "")) := by
  rw [← bk_tr n hn]
  unfold bL
  rw [List.map_map]
  rfl
theorem trB_len {n : Nat} (hn : n < 32) : (trB (cN.getD n "")).length ≤ 39 := by
  rw [← bk_tr n hn, List.length_map, List.length_range]
  decide
theorem noL_s (x : Str) : noL (.str x) = true := rfl
theorem err_form (k : Nat) (d : PyData) : ∃ z, errD k d = .dict [(.str (cN.getD k ""), z)] := by
  unfold errD
  split
  · exact ⟨_, rfl⟩
  · split
    · exact ⟨_, rfl⟩
    · split
      · exact ⟨_, rfl⟩
      · exact ⟨_, rfl⟩
section
variable {R : RD} {Ex : XD}
theorem w_l_is_made {k : Nat} {d : PyData} (k1 : k < 32) (hd : Th 3 d) (h : R (.bool true)) : tz_l_is_made [.dat (.int (k : Int)), .dat d, .dat (errD k d)] R Ex := by
  have tr : ∀ {R' : RD} {E' : XD}, R' (.list (bL (trB (cN.getD k "")))) → t_l_truths [.dat (errD k d)] R' E' := fun h' => by
    obtain ⟨z, ez⟩ := err_form k d
    rw [ez]
    exact w_l_truths (cN_mem k k1) h'
  have sh : shows d := shows_of hd (by decide) (by decide) (by decide)
  have sl := bL_shows (trB_len k1)
  have nd : (PyData.list (bL (trB (cN.getD k "")))).hasDict = false := by
    have z := bk_nd k k1
    rw [bk_list k1] at z
    exact z
  generalize gL : bL (trB (cN.getD k "")) = L at tr sl nd
  unfold tz_l_is_made bz_l_is_made
  obtain ⟨k_l_truths, e_l_truths⟩ : ∃ k, t_l_truths = k := ⟨_, rfl⟩
  rw [e_l_truths]
  walk_at "d"
  refine st e_l_truths <| tr ?_
  refine ⟨sl, ⟨by decide, by decide⟩, by show 39 ≤ 1000000; decide, ?_⟩
  refine lcD_rg (fun j => .bool (bk k j)) (fun j hj K1 K0 g1 => ?_) ?_
  · walk_at "d"
    rw [Int.zero_add]
    refine difT ?_
    refine difP (fun c => ?_) (fun c => ?_)
    · rw [show bk k j = true by unfold bk; rw [decide_eq_true (show j = k by omega)]; rfl] at g1
      rw [decide_eq_true c]
      exact g1
    · rw [show bk k j = (decide ((30 : Int) < j) && decide ((j : Int) < 34)) by
        unfold bk
        rw [decide_eq_false (show ¬ j = k by omega), Bool.false_or]
        congr 1
        · exact decide_eq_decide.mpr (by omega)
        · exact decide_eq_decide.mpr (by omega)] at g1
      refine difP (fun c => ?_) (fun c => ?_)
      · rw [decide_eq_true c, Bool.true_and] at g1
        exact g1
      · rw [decide_eq_false c, Bool.false_and] at g1
        exact g1
  · rw [show (Int.toNat 39) = 39 from rfl, bk_list k1, gL]
    refine ⟨nd, sl, noL_s _, ?_⟩
    refine difN (fun c => (c (Eq.refl _)).elim) (fun _ => ?_)
    have fin : ∀ {x : Str}, R (.bool (decide (x = x))) := fun {x} => by
      rw [decide_eq_true rfl]
      exact h
    refine difP (fun c => ?_) (fun c => ?_)
    · rw [show errD k d = xD (cN.getD k "") "given" d from if_pos (by omega)]
      exact ⟨rfl, cN_given k (by omega), sh, sh, fin⟩
    · refine difP (fun c => ?_) (fun c => ?_)
      · rw [show errD k d = xD (cN.getD k "") "index" d from (if_neg (by omega)).trans (if_pos (by omega))]
        exact ⟨rfl, cN_index k (by omega) (by omega), sh, sh, fin⟩
      · refine difP (fun c => ?_) (fun c => ?_)
        · rw [decide_eq_true c]
          exact h
        · have e : k = 25 := by omega
          subst e
          exact ⟨rfl, by decide +kernel, sh, sh, fin⟩
end

end My

set_option maxHeartbeats 4000000
namespace My
open PySem L2 Ld
open Lw hiding Dv DvAll FreshB tData tDatas pd_int pd_bl pd_non pd_str pd_neg pd_pow pda_nil pda_cons pd_tup pd_lst pd_dct dv_cut dv_cat tup_at rRepr call_repr rIsD call_isD
local macro_rules | `(tactic| walk_at "d") => `(tactic| try dsimp only [tfOf, startD, slotD, putD, wipeD, dV, dC, dOp, dUn, dNil, dCons, dConsW, dConsF, dCallV, dCall, dCallM, dUseC, dNew, exK, dIsX, dIsB, dFld, xD, xD0, fNeTE, e_reprS, datsOf, dCB, dTup, dLst, dIf, dTst, dCmp, dCmpV, dChain, dChainT, dNot, dAnd, dOr, dAndV, dOrV, dNotV, dTb, sSeq, sNx, sSet, sRet, sRetN, sIf, sExpr, sBrk, sCont, sPar, sPar3, lenK, gdN, gdNil, gdCons, sAsg, sFor, sMatch, dMaxDf, maxDf, fSum, intsOf, caseD, patK, matK, litK, lenE, putAll, iLst, iTpl, iRg1, iRg2, iZp, iSqD, dYes, dLc, dLcB, dLc2, dNoP, dPart, dSl, dSlS, sOwn, sOwn2, sOwn3, sOwnC, sOwnSS, iTx, dSlT, fSlT, iEnT, fNotInS, dFmt, dJs, dCallK, pickD, iEn, e_eqL, e_neL, ownK, sApp, sAppL, sSetL, sIfL, sInsL, sTry1, dStar, dTupS, dLstS, dToldA, dToldB, toldX, mkP, dOwnLst, fLstL, sExt, sIns, sPut, sFrz, dOwnLen, dOwnIx, sRaise, sAug, t_draw, nthL, e_int, e_int0, e_add, e_addT, e_addL, e_addSI, e_addST, e_shl, e_ci, e_eqI, e_eqS, e_eqB, e_neI, e_neS, e_neB, e_isN, e_notN, e_nthT, e_nthL, e_lenT, e_lenL, e_i1, e_i2, e_lcm, e_intO, e_intB, e_isqrt, e_divmod, e_repr, e_reprS, e_addII, e_addBI, e_subII, e_subBI, e_subIB, e_mulII, e_mulIB, e_reprK, dFind, e_tupL, e_tupT, e_lst, e_truB, e_truI, e_truN, e_truL, e_truT, e_neg, e_bits, e_back, e_backL, e_slT, e_slL, e_slST, e_gdT, e_gdL, Ld.isNon])
local macro_rules | `(tactic| walk_at "u") => `(tactic| (dsimp only; walk_at "d"))

theorem bools_true {α : Type} : ∀ l : List α, boolsOf (l.map fun _ => PyData.bool true) = some (l.map fun _ => true)
  | [] => rfl
  | x :: r => by
    show (match boolsOf (r.map fun _ => PyData.bool true) with | some bs => some (true :: bs) | none => none) = _
    rw [bools_true r]
    rfl
theorem all_true {R : RD} {α : Type} {l : List α} (h : R (.bool true)) : fAll [.list (l.map fun _ => PyData.bool true)] R := by
  show (match boolsOf (l.map fun _ => PyData.bool true) with | some bs => R (.bool (bs.all id)) | none => False)
  rw [bools_true]
  show R (.bool ((l.map fun _ => true).all id))
  rw [show (l.map fun _ => true).all id = true by
    rw [List.all_map]
    exact List.all_eq_true.mpr fun _ _ => rfl]
  exact h
section
variable {R : RD} {Ex : XD}
theorem w_l_right (h : R (.bool true)) : tz_l_right [.well] R Ex := by
  unfold tz_l_right bz_l_right
  obtain ⟨k_l_spoilt, e_l_spoilt⟩ : ∃ k, t_l_spoilt = k := ⟨_, rfl⟩
  rw [e_l_spoilt]
  obtain ⟨k_l_odd, e_l_odd⟩ : ∃ k, t_l_odd = k := ⟨_, rfl⟩
  rw [e_l_odd]
  obtain ⟨k_l_point, e_l_point⟩ : ∃ k, t_l_point = k := ⟨_, rfl⟩
  rw [e_l_point]
  obtain ⟨k_l_is_made, e_l_is_made⟩ : ∃ k, tz_l_is_made = k := ⟨_, rfl⟩
  rw [e_l_is_made]
  obtain ⟨k_l_by_place, e_l_by_place⟩ : ∃ k, t_l_by_place = k := ⟨_, rfl⟩
  rw [e_l_by_place]
  obtain ⟨k_l_by_name, e_l_by_name⟩ : ∃ k, t_l_by_name = k := ⟨_, rfl⟩
  rw [e_l_by_name]
  walk_at "d"
  refine st e_l_odd <| w_l_odd fun o so oo => ?_
  refine st e_l_point <| w_l_point fun p sp np => ?_
  refine ⟨np, ?_⟩
  walk_at "d"
  refine st e_l_spoilt <| w_l_spoilt ?_ fun d hd => ?_
  · show (decide (2 ≤ 5) && (sm 2 o && (sm 2 p && true))) = true
    rw [so, sp]
    rfl
  walk_at "d"
  refine ⟨⟨by decide, by decide⟩, by show 32 ≤ 1000000; decide, ?_⟩
  refine lcD_rg (fun _ => .bool true) (fun j hj K1 K0 g1 => ?_) ?_
  · walk_at "d"
    rw [Int.zero_add]
    refine difT ?_
    refine st e_l_by_place <| w_l_by_place (by omega) (by omega) ?_
    exact st e_l_is_made <| w_l_is_made hj hd g1
  refine all_true ⟨rfl, ?_⟩
  walk_at "d"
  refine difF ?_
  refine ⟨⟨by decide, by decide⟩, by show 26 ≤ 1000000; decide, ?_⟩
  refine lcD_rg (fun _ => .bool true) (fun j hj K1 K0 g1 => ?_) ?_
  · walk_at "d"
    rw [Int.zero_add]
    refine difT ?_
    refine st e_l_by_name <| w_l_by_name (by omega) (by omega) ?_
    exact st e_l_is_made <| w_l_is_made (by omega) hd g1
  exact all_true ⟨rfl, h⟩
end

end My

namespace My
open PySem L2 Lw
local macro_rules | `(tactic| walk_at "side") => `(tactic| first | decide | omega | (exact .inl ⟨by decide, by decide⟩) | (exact .inr ⟨by decide, by decide⟩) | (exact .inl ⟨by omega, by omega⟩) | (exact .inr ⟨by omega, by omega⟩) | (exact ⟨by decide, by decide⟩) | (exact ⟨by omega, by omega⟩))
local macro_rules | `(tactic| walk_at "go1") => `(tactic| first
  | (refine ⟨_, _, rfl, rfl, ?_⟩)
  | (refine ⟨_, rfl, ?_⟩)
  | (refine And.intro (by walk_at "side") ?_)
  | (refine .inl ⟨_, rfl, ?_⟩)
  | (refine iteT ?_) | (refine iteF ?_))
local macro_rules | `(tactic| walk_at "go") => `(tactic| repeat (walk_at "go1"))
-- opt: omega
section
variable {P : Program} {w : World} {K : PySem.W.Frag} {mg : Str → Option Value} {base : Heap}
theorem rightE_l (T : Top K mg) : Cl CX0 P w K mg base 14 "_law_right" Ld.spRightD := (Ld.right_endS (T := []) (cz_l_right T).cl fun R Ex h => w_l_right h).imp fun vs H Q E h => by
  obtain ⟨p, rfl, np, wl, q⟩ := h
  exact ⟨p, rfl, np, wl, fun y hy => (nomatch hy), fun H' s => q H' (s.after wl)⟩
theorem c_l_law (T : Top K mg) : Cl CX0 P w K mg base 15 "law" (spLaw K) := by
  refine T.d_l_law.cal sc_l_law (fun vs H Q E h => ?_) (fun f cdv A outer s H vs Q E hr hg h => ?_)
  · obtain ⟨a, ns, rfl, _⟩ := h
    rfl
  obtain ⟨a, ns, rfl, hS, hl, q⟩ := h
  refine ⟨_, (pss_one (ps_ret (pe_callB (cr_all rfl) rfl T.z_all (by decide +kernel) (pa_cons (pe_lc (own := [("_law_at", 1)]) (g := gName 1) rfl sc_l_law.nd (pi_range1 rfl T.z_range (pa_cons (pe_callB (call_max2 rfl) rfl T.z_max (by decide +kernel) (pa_cons pe_int (pa_cons (pe_callB (call_min2 rfl) rfl T.z_min (by decide +kernel) (pa_cons (pe_callB call_len_seq rfl T.z_len (by decide +kernel) (pa_cons (pv 0) pa_nil)) (pa_cons pe_int pa_nil))) pa_nil))) pa_nil)) (blkOk_by (own := [("_law_at", 1)]) (N := N_l_law) (sc := defScope s_l_law) (by decide +kernel)) (fun _ _ _ _ _ => pg_name (i := 1) sc_l_law.nd rfl (Or.inl rfl)) (fun _ _ _ _ _ => pts_nil) (fun _ _ _ _ _ => (pe_cl (rightE_l T) hr hg rfl (pa_cons (pe_cl (c_l_well T) hr hg rfl (pa_cons (pv 0) (pa_cons (pv 1) pa_nil)) (by omega)) pa_nil) (by omega)))) pa_nil)))), ?_⟩
  refine ⟨_, rfl, a, _, rfl, .inl hS, ?_⟩
  have h63 : (ns.map V.int).length ≤ 63 := by rw [List.length_map]; exact hl
  generalize hJ : (if (if (3 : Int) < ((ns.map V.int).length : Int) then (3 : Int) else ((ns.map V.int).length : Int)) > 2 then (if (3 : Int) < ((ns.map V.int).length : Int) then (3 : Int) else ((ns.map V.int).length : Int)) else 2) = J
  have J4 : 0 ≤ J ∧ J ≤ 9 := by
    rw [← hJ]
    split <;> split <;> omega
  refine ⟨_, _, rfl, _, _, rfl, J, (by rw [← hJ]), by omega, by omega, fun D hD => lcr_true (te := fun σ H Q => tCons (fun σ H Q => tCons (tVar 0) (tCons (tVar 1) tNil) σ H fun vs H1 => spWell K vs H1 Q E0) tNil σ H fun vs H1 => Ld.spRightD vs H1 Q E0) (lo := 0) (n := J.toNat) hD (by omega) (fun x H k h => h) (fun x => rfl) ?_ ?_⟩
  · intro i Hx hi sx hd R kR
    refine ⟨_, rfl, _, rfl, a, ns, _, rfl, sx.seq hS, by omega, by omega, fun p H2 s2 np pn wl => ?_⟩
    refine ⟨p, rfl, np, wl, fun H3 a3 => kR H3 (fun b u z => ?_) ?_⟩
    · exact a3.kp b u (ne_of_none (sx _ _ z) pn) (s2 _ _ (sx _ _ z))
    · rw [hd]
      exact a3.kp D _ (ne_of_none hd pn) (s2 _ _ hd)
  · intro H7 s7 e7
    refine ⟨D, List.replicate J.toNat true, rfl, .of (by rw [trues_all]; exact e7), ?_⟩
    rw [all_trues]
    exact q _
end
end My

set_option maxHeartbeats 4000000
namespace My
open PySem L2 Lw
theorem top_mk {K : PySem.W.Frag} {h : Heap} {mg : Str → Option Value} (X : K.In h) (G : h.Ns mainGlobals mg) (c : Hd.Says tsL fnL tfL h K) : Top K mg where
  d_p__wall := Hd.dn_of X G c 0 rfl fun _ _ F => F.binds fun _ _ _ _ _ _ us hl => match us, hl with | [_], _ => rfl
  d_l_well := Hd.dn_of X G c 1 rfl fun _ _ F => F.binds fun _ _ _ _ _ _ us hl => match us, hl with | [_, _], _ => rfl
  d_l_draw := Hd.dn_of X G c 2 rfl fun _ _ F => F.binds fun _ _ _ _ _ _ us hl => match us, hl with | [_, _], _ => rfl
  d_l_pick := Hd.dn_of X G c 3 rfl fun _ _ F => F.binds fun _ _ _ _ _ _ us hl => match us, hl with | [_, _], _ => rfl
  d_l_common := Hd.dn_of X G c 4 rfl fun _ _ F => F.binds fun _ _ _ _ _ _ us hl => match us, hl with | [_, _], _ => rfl
  d_l_lean := Hd.dn_of X G c 5 rfl fun _ _ F => F.binds fun _ _ _ _ _ _ us hl => match us, hl with | [_, _], _ => rfl
  d_l_small := Hd.dn_of X G c 6 rfl fun _ _ F => F.binds fun _ _ _ _ _ _ us hl => match us, hl with | [_], _ => rfl
  d_l_point := Hd.dn_of X G c 7 rfl fun _ _ F => F.binds fun _ _ _ _ _ _ us hl => match us, hl with | [_], _ => rfl
  d_l_odd := Hd.dn_of X G c 8 rfl fun _ _ F => F.binds fun _ _ _ _ _ _ us hl => match us, hl with | [_], _ => rfl
  d_l_bent := Hd.dn_of X G c 9 rfl fun _ _ F => F.binds fun _ _ _ _ _ _ us hl => match us, hl with | [_, _], _ => rfl
  d_l_spoilt := Hd.dn_of X G c 10 rfl fun _ _ F => F.binds fun _ _ _ _ _ _ us hl => match us, hl with | [_, _], _ => rfl
  d_l_low := Hd.dn_of X G c 11 rfl fun _ _ F => F.binds fun _ _ _ _ _ _ us hl => match us, hl with | [_, _], _ => rfl
  d_l_by_place := Hd.dn_of X G c 12 rfl fun _ _ F => F.binds fun _ _ _ _ _ _ us hl => match us, hl with | [_, _], _ => rfl
  d_l_low_name := Hd.dn_of X G c 13 rfl fun _ _ F => F.binds fun _ _ _ _ _ _ us hl => match us, hl with | [_, _], _ => rfl
  d_l_by_name := Hd.dn_of X G c 14 rfl fun _ _ F => F.binds fun _ _ _ _ _ _ us hl => match us, hl with | [_, _], _ => rfl
  d_l_truths := Hd.dn_of X G c 15 rfl fun _ _ F => F.binds fun _ _ _ _ _ _ us hl => match us, hl with | [_], _ => rfl
  d_l_is_made := Hd.dn_of X G c 16 rfl fun _ _ F => F.binds fun _ _ _ _ _ _ us hl => match us, hl with | [_, _, _], _ => rfl
  d_l_right := Hd.dn_of X G c 17 rfl fun _ _ F => F.binds fun _ _ _ _ _ _ us hl => match us, hl with | [_], _ => rfl
  d_l_law := Hd.dn_of X G c 18 rfl fun _ _ F => F.binds fun _ _ _ _ _ _ us hl => match us, hl with | [_], _ => rfl
  z_len := Hd.free_of X G (c.at 0 rfl)
  z_abs := Hd.free_of X G (c.at 1 rfl)
  z_divmod := Hd.free_of X G (c.at 2 rfl)
  z_repr := Hd.free_of X G (c.at 3 rfl)
  z_int := Hd.free_of X G (c.at 4 rfl)
  z_list := Hd.free_of X G (c.at 5 rfl)
  z_tuple := Hd.free_of X G (c.at 6 rfl)
  z_max := Hd.free_of X G (c.at 7 rfl)
  z_min := Hd.free_of X G (c.at 8 rfl)
  z_all := Hd.free_of X G (c.at 9 rfl)
  z_isinstance := Hd.free_of X G (c.at 10 rfl)
  z_range := Hd.free_of X G (c.at 11 rfl)
  z_ValueError := Hd.free_of X G (c.at 12 rfl)
  z_Exception := Hd.free_of X G (c.at 13 rfl)
  z_LookupError := Hd.free_of X G (c.at 14 rfl)
  z_TypeError := Hd.free_of X G (c.at 15 rfl)
  z_ArithmeticError := Hd.free_of X G (c.at 16 rfl)
  z_RuntimeError := Hd.free_of X G (c.at 17 rfl)
  z_AttributeError := Hd.free_of X G (c.at 18 rfl)
  e_InvalidFraction := Hd.exc_of X G c 19 19 rfl rfl fun _ _ F => F.binds fun _ _ _ _ _ _ us hl => match us, hl with | [_, _], _ => rfl
  e_InvalidNumber := Hd.exc_of X G c 20 20 rfl rfl fun _ _ F => F.binds fun _ _ _ _ _ _ us hl => match us, hl with | [_, _], _ => rfl
  e_InvalidPoint := Hd.exc_of X G c 21 21 rfl rfl fun _ _ F => F.binds fun _ _ _ _ _ _ us hl => match us, hl with | [_, _], _ => rfl
  e_InvalidPlace := Hd.exc_of X G c 22 22 rfl rfl fun _ _ F => F.binds fun _ _ _ _ _ _ us hl => match us, hl with | [_, _], _ => rfl
  e_InvalidWay := Hd.exc_of X G c 23 23 rfl rfl fun _ _ F => F.binds fun _ _ _ _ _ _ us hl => match us, hl with | [_, _], _ => rfl
  e_InvalidCurve := Hd.exc_of X G c 24 24 rfl rfl fun _ _ F => F.binds fun _ _ _ _ _ _ us hl => match us, hl with | [_, _], _ => rfl
  e_InvalidLead := Hd.exc_of X G c 25 25 rfl rfl fun _ _ F => F.binds fun _ _ _ _ _ _ us hl => match us, hl with | [_, _], _ => rfl
  e_InvalidFigure := Hd.exc_of X G c 26 26 rfl rfl fun _ _ F => F.binds fun _ _ _ _ _ _ us hl => match us, hl with | [_, _], _ => rfl
  e_InvalidSketch := Hd.exc_of X G c 27 27 rfl rfl fun _ _ F => F.binds fun _ _ _ _ _ _ us hl => match us, hl with | [_, _], _ => rfl
  e_InvalidScene := Hd.exc_of X G c 28 28 rfl rfl fun _ _ F => F.binds fun _ _ _ _ _ _ us hl => match us, hl with | [_, _], _ => rfl
  e_InvalidName := Hd.exc_of X G c 29 29 rfl rfl fun _ _ F => F.binds fun _ _ _ _ _ _ us hl => match us, hl with | [_, _], _ => rfl
  e_UnknownName := Hd.exc_of X G c 30 30 rfl rfl fun _ _ F => F.binds fun _ _ _ _ _ _ us hl => match us, hl with | [_, _], _ => rfl
  e_NameTaken := Hd.exc_of X G c 31 31 rfl rfl fun _ _ F => F.binds fun _ _ _ _ _ _ us hl => match us, hl with | [_, _], _ => rfl
  e_InUse := Hd.exc_of X G c 32 32 rfl rfl fun _ _ F => F.binds fun _ _ _ _ _ _ us hl => match us, hl with | [_, _], _ => rfl
  e_ComesRound := Hd.exc_of X G c 33 33 rfl rfl fun _ _ F => F.binds fun _ _ _ _ _ _ us hl => match us, hl with | [_, _], _ => rfl
  e_TooDeep := Hd.exc_of X G c 34 34 rfl rfl fun _ _ F => F.binds fun _ _ _ _ _ _ us hl => match us, hl with | [_, _], _ => rfl
  e_TooMany := Hd.exc_of X G c 35 35 rfl rfl fun _ _ F => F.binds fun _ _ _ _ _ _ us hl => match us, hl with | [_, _], _ => rfl
  e_InvalidIndex := Hd.exc_of X G c 36 36 rfl rfl fun _ _ F => F.binds fun _ _ _ _ _ _ us hl => match us, hl with | [_, _], _ => rfl
  e_InvalidCount := Hd.exc_of X G c 37 37 rfl rfl fun _ _ F => F.binds fun _ _ _ _ _ _ us hl => match us, hl with | [_, _], _ => rfl
  e_InvalidView := Hd.exc_of X G c 38 38 rfl rfl fun _ _ F => F.binds fun _ _ _ _ _ _ us hl => match us, hl with | [_, _], _ => rfl
  e_InvalidPicture := Hd.exc_of X G c 39 39 rfl rfl fun _ _ F => F.binds fun _ _ _ _ _ _ us hl => match us, hl with | [_, _], _ => rfl
  e_InvalidCurves := Hd.exc_of X G c 40 40 rfl rfl fun _ _ F => F.binds fun _ _ _ _ _ _ us hl => match us, hl with | [_, _], _ => rfl
  e_InvalidRow := Hd.exc_of X G c 41 41 rfl rfl fun _ _ F => F.binds fun _ _ _ _ _ _ us hl => match us, hl with | [_, _], _ => rfl
  e_InvalidLines := Hd.exc_of X G c 42 42 rfl rfl fun _ _ F => F.binds fun _ _ _ _ _ _ us hl => match us, hl with | [_, _], _ => rfl
  e_InvalidBytes := Hd.exc_of X G c 43 43 rfl rfl fun _ _ F => F.binds fun _ _ _ _ _ _ us hl => match us, hl with | [_, _], _ => rfl
  e_BadText := Hd.exc_of X G c 44 44 rfl rfl fun _ _ F => F.binds fun _ _ _ _ _ _ us hl => match us, hl with | [_, _], _ => rfl
  y_PlaneError := Hd.y0_of X G (c.at 45 rfl)
  y_InvalidFraction := Hd.y_of X G (c.at 19 rfl)
  y_InvalidNumber := Hd.y_of X G (c.at 20 rfl)
  y_InvalidPoint := Hd.y_of X G (c.at 21 rfl)
  y_InvalidPlace := Hd.y_of X G (c.at 22 rfl)
  y_InvalidWay := Hd.y_of X G (c.at 23 rfl)
  y_InvalidCurve := Hd.y_of X G (c.at 24 rfl)
  y_InvalidLead := Hd.y_of X G (c.at 25 rfl)
  y_InvalidFigure := Hd.y_of X G (c.at 26 rfl)
  y_InvalidSketch := Hd.y_of X G (c.at 27 rfl)
  y_InvalidScene := Hd.y_of X G (c.at 28 rfl)
  y_InvalidName := Hd.y_of X G (c.at 29 rfl)
  y_UnknownName := Hd.y_of X G (c.at 30 rfl)
  y_NameTaken := Hd.y_of X G (c.at 31 rfl)
  y_InUse := Hd.y_of X G (c.at 32 rfl)
  y_ComesRound := Hd.y_of X G (c.at 33 rfl)
  y_TooDeep := Hd.y_of X G (c.at 34 rfl)
  y_TooMany := Hd.y_of X G (c.at 35 rfl)
  y_InvalidIndex := Hd.y_of X G (c.at 36 rfl)
  y_InvalidCount := Hd.y_of X G (c.at 37 rfl)
  y_InvalidView := Hd.y_of X G (c.at 38 rfl)
  y_InvalidPicture := Hd.y_of X G (c.at 39 rfl)
  y_InvalidCurves := Hd.y_of X G (c.at 40 rfl)
  y_InvalidRow := Hd.y_of X G (c.at 41 rfl)
  y_InvalidLines := Hd.y_of X G (c.at 42 rfl)
  y_InvalidBytes := Hd.y_of X G (c.at 43 rfl)
  y_BadText := Hd.y_of X G (c.at 44 rfl)
  y_NotBounded := Hd.y0_of X G (c.at 46 rfl)
  y_NothingInside := Hd.y0_of X G (c.at 47 rfl)
  y_NotStraight := Hd.y0_of X G (c.at 48 rfl)
  y_NothingToUndo := Hd.y0_of X G (c.at 49 rfl)
  y_NothingToRedo := Hd.y0_of X G (c.at 50 rfl)
  b_PlaneError := Hd.exc0_of X G (c.at 45 rfl)
  b_NotBounded := Hd.exc0_of X G (c.at 46 rfl)
  b_NothingInside := Hd.exc0_of X G (c.at 47 rfl)
  b_NotStraight := Hd.exc0_of X G (c.at 48 rfl)
  b_NothingToUndo := Hd.exc0_of X G (c.at 49 rfl)
  b_NothingToRedo := Hd.exc0_of X G (c.at 50 rfl)
  xa := Hd.xall_of (c.at 51 rfl)
end My
open PySem PySem.W PySem.Calls PyProof.Rows
set_option maxRecDepth 100000 in
set_option maxHeartbeats 0 in
theorem PySem.Challenge.cw_planehall_k01_errors_each_of_its_own_holds : PySem.Challenge.rw_planehall_k01_errors_each_of_its_own.Holds := by
  refine My.look fun said => My.headed said ?hc
  case hc =>
    refine Hd.walk_lawE (l := PySem.Challenge.rw_planehall_k01_errors_each_of_its_own) (k := 15) (x := "law") rfl (by kernel_rfl) rfl ⟨rfl, by decide, by decide⟩ ?F
    intro w mg h Y G
    obtain ⟨K, KX, c⟩ := Y
    exact ⟨K, KX, fun base b1 b2 => My.c_l_law (My.top_mk KX G c)⟩


