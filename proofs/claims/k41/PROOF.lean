import PyProof.Rows.All
import Wide.All
import OpenK.AllK
import Wide.FinOn
import HandS.ForExc
import HandS.ForMost
import HandS.Gcd
import HandS.Wide
import HandS.WideBits
import HandS.IsInst
import HandS.TupAny
import HandS.Style
import HandS.ExcInit
import HandS.ExcField
import PyProof.NeData
import Flt.RightSqrt
import PyProof.ReprLen
import PyProof.Rows.IntBool
import PyProof.TwoTypesSub
import PyProof.Rows.EqBoolInt
import KE.KMathG
import HandS.Rev
import HandS.Iter
import HandS.Zip
import HandS.Flow
import HandS.Deep
import HandS.Lambda
import HandS.EndTab
import HandS.TryOnly
import HandS.More
import PyProof.EnumMake
import HandS.Text
import HandS.FStr
import HandS.TryMany
import HandS.Star
import HandS.StrMore
import PySem.Challenge.RW_planehall_k41_whole_words_and_spots
set_option Elab.async false
set_option linter.all false
set_option maxRecDepth 100000
set_option exponentiation.threshold 50000
set_option maxHeartbeats 4000000
namespace Lw
open PySem PySem.Spec PyProof.Rows L2

/-! ### promises of defs that may ask for a text of data: no such asking is under way -/
structure FnG (CX : CXT) (P : Program) (w : World) (K : PySem.W.Frag) (mg : Str → Option Value) (base : Heap) (k : Nat) (f : Addr) (fd : FuncData) (ps : List Str) (sp : Sp) : Prop where
  len : ∀ vs H Q E, sp vs H Q E → vs.length = ps.length
  run : ∀ (A : Around), Room k A → A.guards = some [] → ∀ (outer : List Env) (s : Shared) (H : Hp), Env0 P w K mg base A outer s H →
    ∀ (args : Args) (us : List Value) (vs : List V), BindsTo s fd args (ps.zip us) → Vals vs us → ∀ (Q : VK) (E : XK), sp vs H Q E → codeAny (model P w) A (.call (.ref f) args) (CR CX outer P w H s Q E) s
section
variable {CX : CXT} {P : Program} {w : World} {K : PySem.W.Frag} {mg : Str → Option Value} {base : Heap}
theorem FnG.of {k : Nat} {f : Addr} {fd : FuncData} {ps : List Str} {sp : Sp} (F : FnOk P w K mg base CX k f fd ps sp) : FnG CX P w K mg base k f fd ps sp :=
  ⟨F.len, fun A hr _ outer s H e0 args us vs hb r Q E h => F.run A outer s H args us vs Q E hr e0 hb r h⟩

/-- a def of the text, by its name -/
structure Dn (K : PySem.W.Frag) (mg : Str → Option Value) (x : Str) (st : Stmt) (ps : List Str) : Prop where
  ex : ∃ f fd, Fun K x x st f fd ∧ mg x = some (.ref f) ∧ Binds K fd ps []
/-- a def that may be called by its name; CX: how an exception leaves it -/
structure Cl (CX : CXT) (P : Program) (w : World) (K : PySem.W.Frag) (mg : Str → Option Value) (base : Heap) (k : Nat) (x : Str) (sp : Sp) : Prop where
  ex : ∃ f fd ps, FnG CX P w K mg base k f fd ps sp ∧ mg x = some (.ref f) ∧ PySem.W.keepIn K (.ref f) = true ∧ Binds K fd ps []
theorem Cl.imp {k : Nat} {x : Str} {sp sp' : Sp} (c : Cl CX P w K mg base k x sp) (h : ∀ vs H Q E, sp' vs H Q E → sp vs H Q E) : Cl CX P w K mg base k x sp' := by
  obtain ⟨f, fd, ps, F, a, b, d⟩ := c.ex
  exact ⟨f, fd, ps, ⟨fun vs H Q E z => F.len vs H Q E (h vs H Q E z), fun A hr hg outer s H e0 args us vs hb r Q E z => F.run A hr hg outer s H e0 args us vs hb r Q E (h _ _ _ _ z)⟩, a, b, d⟩

theorem Dn.call {x : Str} {st : Stmt} {N ps : List Str} {k : Nat} {sp : Sp} (D : Dn K mg x st ps) (S : FnScope N ps (defScope st)) (len : ∀ vs H Q E, sp vs H Q E → vs.length = ps.length)
    (hbody : ∀ (f : Addr) (cdv : Value) (A : Around) (outer : List Env) (s : Shared) (H : Hp) (vs : List V) (Q : VK) (E : XK), Room k (A.deeper (envOfC x (defScope st) s.heap.objs.size f cdv)) → A.guards = some [] → sp vs H Q E →
      ∃ t, PSs (cxOf CX P w K mg base N x (defScope st) f cdv A outer s H E) (defBody st) t ∧ t { nx := fun _ H' => Q .non H', rt := Q } (L2.start N vs) H) : Cl CX P w K mg base (k + 1) x sp := by
  obtain ⟨f, fd, F, hm, hb⟩ := D.ex
  refine ⟨f, fd, ps, ⟨len, fun A hr hg outer s H e0 args us vs bt r Q E h => ?_⟩, hm, F.kp, hb⟩
  obtain ⟨oc, od, kV, doc, pm, an, cdv, ct, osl, rfl, lk, hcd⟩ := F.ex
  have kept : ∀ b o, base.get? b = some o → s.heap.get? b = some o := fun b o q => (e0.bs b o q).1
  have inK : K.In s.heap := e0.mod.kin.keeps kept
  refine codeAny_call_function hr.depth (inK _ _ lk) rfl S.co S.gen rfl
    (PySem.W.codeRec_of inK hcd) (bt _ _ _ _ ?_)
  have slots : ∀ y ∈ ps.zip us, (defScope st).names.lookup y.1 = some .local ∨
      ((defScope st).names.lookup y.1 = some .cell ∧ ((cellsFrom (s.heap.objs.size + 1) (defScope st).names []).lookup y.1).isSome = true) := by
    rintro ⟨n, v⟩ hy
    exact (S.par n (List.of_mem_zip hy).1).imp (fun q => q) fun q => ⟨q, PySem.W.cellsFrom_some _ _ _ (.inl q)⟩
  refine wpAny_newFunctionEnv_cells S.kind slots fun env he s1 C => ?_
  cases he
  refine ⟨(e0.mod.nolimit.keeps kept).keeps C.toInCall.keep, codeAny_func ?_⟩
  obtain ⟨t, ht, hq⟩ := hbody f cdv A outer s H vs Q E (hr.deeper _) hg h
  have I0 := inv_start (CX := CX) (E := E) S hr.hd e0 (len _ _ _ _ h) r C
  refine wpAny_mono (ht.run [] s1 _ H _ I0 hq) ?_ fun _ _ z => z
  rintro (_ | _ | _ | u) s' z
  · obtain ⟨σ', H', J, q⟩ := z
    exact ⟨V.non, H', J.os, J.bare, J.base, J.hok, rfl, q⟩
  · obtain ⟨_, _, _, q⟩ := z
    exact q.elim
  · obtain ⟨_, _, _, q⟩ := z
    exact q.elim
  · obtain ⟨v, σ', H', J, rv, q⟩ := z
    exact ⟨v, H', J.os, J.bare, J.base, J.hok, rv, q⟩
theorem Dn.cal {x : Str} {st : Stmt} {N ps : List Str} {k : Nat} {sp : Sp} (D : Dn K mg x st ps) (S : FnScope N ps (defScope st)) (len : ∀ vs H Q E, sp vs H Q E → vs.length = ps.length)
    (hbody : ∀ (f : Addr) (cdv : Value) (A : Around) (outer : List Env) (s : Shared) (H : Hp) (vs : List V) (Q : VK) (E : XK), Room k (A.deeper (envOfC x (defScope st) s.heap.objs.size f cdv)) → A.guards = some [] → sp vs H Q E →
      ∃ t, PSs (cxOf CX0 P w K mg base N x (defScope st) f cdv A outer s H E).nox (defBody st) t ∧ t { nx := fun _ H' => Q .non H', rt := Q } (L2.start N vs) H) : Cl CX0 P w K mg base (k + 1) x sp :=
  D.call S len fun f cdv A outer s H vs Q E hr hg h => by
    obtain ⟨t, ht, q⟩ := hbody f cdv A outer s H vs Q E hr hg h
    exact ⟨t, ht.nox, q⟩
end
theorem _root_.L2.PE.weak {X : Cx} {e : Expr} {t t' : TE} (h : PE X e t) (i : ∀ σ H Q, t' σ H Q → t σ H Q) : PE X e t' := ⟨fun pins s σ H Q I q => h.run pins s σ H Q I (i σ H Q q)⟩
theorem _root_.L2.PA.weak {X : Cx} {es : List Expr} {t t' : TA} (h : PA X es t) (i : ∀ σ H Q, t' σ H Q → t σ H Q) : PA X es t' := ⟨fun p pins s σ H Q I q => h.run p pins s σ H Q I (i σ H Q q)⟩
section
variable {X : Cx} {CX : CXT} {x : Str} {p pos : Pos} {e : Expr} {es : List Expr} {t : TA} {sp : Sp} {j k : Nat}
/-- what a callee's error, at the slots σ, does -/
theorem pe_clE {E : L2.St → XK} (c : Cl CX X.prog X.w X.K X.mg X.base k x sp) (hr : Room j X.A) (hG : X.A.guards = some []) (hx : ∀ σ, PassesAt CX X σ (E σ)) (hg : Gl X x) (ha : PA X (e :: es) t) (hk : k ≤ j := by decide)
    (hdb : (x == ("__debug__" : Str)) = false := by decide) (he : starEach (e :: es) X.env = (false, eval e X.env) :: starEach es X.env := by rfl) (hpl : (backTo pos (starEach es X.env)).any (·.1) = false := by rfl) :
    PE X (.Call (.Name x p) (e :: es) [] pos) (fun σ H Q => t σ H fun vs H1 => sp vs H1 Q (E σ)) := by
  obtain ⟨f, fd, ps, F, hm, kp, hb⟩ := c.ex
  refine ⟨fun pins s σ H Q I h => wpAny_Call_Name_kw (ld_glob I hg hm (PySem.W.callWith_K (h₀ := X.base) I.ok.mod.kin kp (thn (ha.run pos pins s σ H _ I h) ?_) he hpl) hdb)⟩
  rintro us s1 ⟨vs, H1, I1, r, q⟩
  have hl : us.length = ps.length := r.length ▸ F.len _ _ _ _ q
  have bt := hb s1 us I1.kIn (by rw [List.append_nil]; exact hl)
  rw [List.append_nil] at bt
  refine ⟨I1.kIn, wpAny_call (codeAny_mono (F.run X.A (hr.mono hk) hG X.stack s1 H1 I1.env0 ⟨us, []⟩ us vs bt r Q (E σ) q) ?_)⟩
  rintro (er | (_ | _ | _ | u)) s' z
  · exact hx σ pins H1 s1 er s' I1 z
  · exact z.elim
  · exact z.elim
  · exact z.elim
  · exact I1.after z
theorem pe_cl (c : Cl CX0 X.prog X.w X.K X.mg X.base k x sp) (hr : Room j X.A) (hG : X.A.guards = some []) (hg : Gl X x) (ha : PA X (e :: es) t) (hk : k ≤ j := by decide)
    (hdb : (x == ("__debug__" : Str)) = false := by decide) (he : starEach (e :: es) X.env = (false, eval e X.env) :: starEach es X.env := by rfl) (hpl : (backTo pos (starEach es X.env)).any (·.1) = false := by rfl) :
    PE X (.Call (.Name x p) (e :: es) [] pos) (fun σ H Q => t σ H fun vs H1 => sp vs H1 Q E0) :=
  pe_clE (E := fun _ => E0) c hr hG (fun _ _ _ _ _ _ _ z => z.elim) hg ha hk hdb he hpl
end
end Lw

namespace Lw
open PySem PySem.Spec PyProof.Rows L2
/-- what a law promises: a list of at most 63 ints is handed in, True comes out -/
def spLaw (K : PySem.W.Frag) : Sp := fun vs H Q _ => ∃ (a : Addr) (ns : List Int), vs = [.ref a] ∧ SqL K H a (ns.map V.int) ∧ ns.length ≤ 63 ∧ ∀ H', Q (.bl true) H'
section
variable {P : Program} {w : World} {K : PySem.W.Frag} {mg mb : Str → Option Value} {k : Nat} {fa a : Addr} {s : Shared} {vs : List Value} {ns : List Int}
/-- the script as the law finds it -/
def scriptO (vs : List Value) : Obj := { cls := .type "list", data := .seq vs.toArray }
open Classical in
noncomputable def scriptH (K : PySem.W.Frag) (a : Addr) (vs : List Value) (ns : List Int) : Hp := fun b =>
  if b = a ∧ K.lookup a = none then some (.frz (scriptO vs) (.lst (ns.map V.int))) else none
theorem scriptH_other {b : Addr} (h : ¬ (b = a ∧ K.lookup a = none)) : scriptH K a vs ns b = none := if_neg h
theorem scriptH_some {b : Addr} {u : HO} (h : scriptH K a vs ns b = some u) : b = a ∧ K.lookup a = none ∧ u = .frz (scriptO vs) (.lst (ns.map V.int)) := by
  by_cases c : b = a ∧ K.lookup a = none
  · unfold scriptH at h
    rw [if_pos c] at h
    exact ⟨c.1, c.2, (Option.some.inj h).symm⟩
  · rw [scriptH_other c] at h
    cases h
theorem scriptH_dict {b : Addr} {o : Obj} {es : Array DictEntry} {n : Nat} (ha : s.heap.get? a = some (scriptO vs)) (hb : s.heap.get? b = some o) (hd : o.data = .dict es n) : scriptH K a vs ns b = none := by
  refine scriptH_other fun c => ?_
  rw [c.1, ha] at hb
  cases hb
  cases hd
theorem script_run (hk : K.In s.heap) (hmain : s.heap.Ns mainGlobals mg) (hbi : s.heap.Ns builtinsNs mb) (hboot : ∀ x : Str, x ≠ "__name__" → mb x = bootBuiltins x) (hlim : s.heap.NoLimit) (hgens : s.gens = #[])
    (ha : s.heap.get? a = some (scriptO vs)) (hi : IntsAre vs ns) (hl : ns.length ≤ 63) (hr : Room k callerA)
    (F : ∀ base : Heap, K.In base → base.Ns mainGlobals mg → ∃ fd ps, FnG CX0 P w K mg base k fa fd ps (spLaw K) ∧ Binds K fd ps []) :
    codeAny (model P w) callerA (.call (.ref fa) ⟨[.ref a], []⟩) (fun r s' => r = .ok (.ret (.bool true)) ∧ OldK s.heap s'.heap ∧ s'.os = s.os ∧ AllBare s'.gens) s := by
  have size63 : ns.length ≤ sizeLine := Nat.le_trans hl (by decide)
  have rv : Vals (ns.map V.int) vs := vals_ints hi
  have down : ∀ {b : Addr} {m : Str → Option Value}, s.heap.Ns b m → (hidT s.heap (scriptH K a vs ns)).Ns b m := by
    rintro b m ⟨o, es, n, q, d, r⟩
    exact ⟨o, es, n, hidT_get q (scriptH_dict ha q d), d, r⟩
  have inB : K.In (hidT s.heap (scriptH K a vs ns)) := fun b o q => hidT_get (hk b o q) (scriptH_other fun c => by
    rw [c.1, c.2] at q
    cases q)
  have md : Mod K mg (hidT s.heap (scriptH K a vs ns)) := {
    kin := inB
    glob := down hmain
    blt := ⟨mb, down hbi, hboot⟩
    nolimit := by
      obtain ⟨mc, n1, n2⟩ := hlim
      exact ⟨mc, down n1, n2⟩ }
  have ok : HOk P w (scriptH K a vs ns) s.heap := fun b u q => by
    obtain ⟨rfl, _, rfl⟩ := scriptH_some q
    exact ⟨ha, by rw [List.length_map]; exact size63, vs, _, rv, ha⟩
  have e0 : Env0 P w K mg (hidT s.heap (scriptH K a vs ns)) callerA [] s (scriptH K a vs ns) := {
    frames := rfl
    mod := md
    bs := fun b o q => of_hidT q
    bsz := Nat.le_of_eq (hidT_size _ _)
    funs := trivial
    frf := fun b hb => nomatch hb
    hok := ok
    bare := .of_eq hgens }
  have sq : SqL K (scriptH K a vs ns) a (ns.map V.int) := by
    cases e : K.lookup a with
    | some o =>
      have q := hk a o e
      rw [ha] at q
      cases q
      exact .inr ⟨_, vs.toArray, _, e, rfl, rfl, rfl, by rw [List.size_toArray, hi.length]; exact size63, by simpa using rv⟩
    | none => exact .inl (.inr ⟨scriptO vs, if_pos ⟨rfl, e⟩⟩)
  obtain ⟨fd, ps, G, hb⟩ := F _ inB (down hmain)
  have hsp : spLaw K [.ref a] (scriptH K a vs ns) (fun v _ => v = .bl true) (fun _ _ _ => False) := ⟨a, ns, rfl, sq, hl, fun _ => rfl⟩
  have bt := hb s [.ref a] hk (by rw [List.append_nil]; exact G.len _ _ _ _ hsp)
  rw [List.append_nil] at bt
  refine codeAny_mono (G.run callerA hr rfl [] s _ e0 _ [.ref a] [.ref a] bt (.cons rfl .nil) _ _ hsp) ?_
  rintro (er | (_ | _ | _ | u)) s' z
  · exact z.elim
  · exact z.elim
  · exact z.elim
  · exact z.elim
  · obtain ⟨v, H', os, bare, un, ok', r', q⟩ := z
    cases (show v = .bl true from q)
    cases (show u = Value.bool true from r')
    refine ⟨rfl, OldK.of_keep fun b o q => ?_, os, bare⟩
    cases e : scriptH K a vs ns b with
    | none => exact un.keep b o q e (fun z => nomatch z) (fun z => nomatch z)
    | some u =>
      obtain ⟨rfl, _, rfl⟩ := scriptH_some e
      obtain ⟨now, _⟩ := ok' b _ (un.frzs b _ _ e)
      rw [ha] at q
      cases q
      exact now
end
/-- the law's end -/
theorem walk_law {l : PySem.W.OpenLaw} {k : Nat} {q : Program} {loose : List Str} {XP : (Str → Option Value) → Heap → Prop} {YP : World → Heap → Prop} {d : DefRec} {K : Params → PySem.W.Frag}
    (hn : l.most = some 63) (hdf : d.params.defaults = []) (hr : Room k callerA) (hY : ∀ (w : World) (h : Heap), YP w h → (K w.params).In h)
    (F : ∀ (w : World) (mg : Str → Option Value) (h : Heap), (K w.params).In h → h.Ns mainGlobals mg → ∀ base : Heap, (K w.params).In base → base.Ns mainGlobals mg → Cl CX0 l.prog w (K w.params) mg base k d.name (spLaw (K w.params))) :
    PySem.W.WalkO q loose XP YP l.row.toRowW d [] (fun f vs => PySem.call f vs) := by
  refine Att.attach_call hn hdf fun w s0 s1 mg mb fa o pm cd doc a vs ns G Y ho hd hcd hm hobj hi hl hg => ?_
  refine script_run (hY w _ Y) G.T.g G.T.b G.T.builtins G.T.nolimit hg hobj hi hl hr fun base b1 b2 => ?_
  obtain ⟨f, fd, ps, FG, mf, _, hb⟩ := (F w mg _ (hY w _ Y) G.T.g base b1 b2).ex
  rw [hm] at mf
  cases mf
  exact ⟨fd, ps, FG, hb⟩
end Lw

namespace Lw
open PySem PySem.Spec PyProof.Rows L2

/-! ### heaps: all but the forbidden addresses stay, and tuples stay -/
abbrev Ban := Addr → Prop
structure Sx (N : Ban) (H H' : Hp) : Prop where
  st : ∀ b u, ¬ N b → H b = some u → H' b = some u
  tp : ∀ b xs, H b = some (.tup xs) → H' b = some (.tup xs)
theorem Sx.refl (N : Ban) (H : Hp) : Sx N H H := ⟨fun _ _ _ q => q, fun _ _ q => q⟩
theorem Sx.trans {N : Ban} {H H1 H2 : Hp} (a : Sx N H H1) (b : Sx N H1 H2) : Sx N H H2 := ⟨fun c u n q => b.st c u n (a.st c u n q), fun c xs q => b.tp c xs (a.tp c xs q)⟩
theorem Sx.of {N : Ban} {H H1 : Hp} (a : Same H H1) : Sx N H H1 := ⟨fun c u _ q => a c u q, fun c xs q => a c _ q⟩
theorem same_new {H : Hp} {p : Addr} (h : H p = none) (o : HO) : Same H (upd H p o) := fun b u q => by rw [upd_ne (ne_of_none q h)]; exact q
theorem Sx.new {N : Ban} {p : Addr} {H : Hp} {o : HO} (h : H p = none) : Sx N H (upd H p o) := .of (same_new h o)
theorem Sx.free {N : Ban} {H H1 : Hp} (a : Sx N H H1) {l : Addr} (hn : ¬ N l) (h : H1 l = none) : H l = none := by
  cases q : H l with
  | none => rfl
  | some o =>
    rw [a.st l o hn q] at h
    cases h

/-! ### data on the heap -/
mutual
inductive Dv (N : Ban) (H : Hp) : V → PyData → Prop
  | non : Dv N H .non .none
  | bl (b : Bool) : Dv N H (.bl b) (.bool b)
  | int (i : Int) : Dv N H (.int i) (.int i)
  | str (x : Str) : Dv N H (.str x) (.str x)
  | lst {a : Addr} {xs : List V} {ds : List PyData} : ¬ N a → H a = some (.lst xs) → DvAll N H xs ds → Dv N H (.ref a) (.list ds)
  | tup {a : Addr} {xs : List V} {ds : List PyData} : H a = some (.tup xs) → DvAll N H xs ds → Dv N H (.ref a) (.tuple ds)
  | dct {a : Addr} : ¬ N a → H a = some (.dK []) → Dv N H (.ref a) (.dict [])
inductive DvAll (N : Ban) (H : Hp) : List V → List PyData → Prop
  | nil : DvAll N H [] []
  | cons {v : V} {vs : List V} {d : PyData} {ds : List PyData} : Dv N H v d → DvAll N H vs ds → DvAll N H (v :: vs) (d :: ds)
end
mutual
theorem Dv.map {N N' : Ban} {H H' : Hp} (k : ∀ b u, ¬ N b → H b = some u → H' b = some u ∧ ¬ N' b) (kt : ∀ b xs, H b = some (.tup xs) → H' b = some (.tup xs)) : ∀ (d : PyData) (v : V), Dv N H v d → Dv N' H' v d
  | .none, _, h => by cases h; exact .non
  | .bool _, _, h => by cases h; exact .bl _
  | .int _, _, h => by cases h; exact .int _
  | .str _, _, h => by cases h; exact .str _
  | .list ds, _, h => by
    cases h with
    | lst n e a => exact .lst (k _ _ n e).2 (k _ _ n e).1 (DvAll.map k kt ds _ a)
  | .tuple ds, _, h => by
    cases h with
    | tup e a => exact .tup (kt _ _ e) (DvAll.map k kt ds _ a)
  | .dict _, _, h => by
    cases h with
    | dct n e => exact .dct (k _ _ n e).2 (k _ _ n e).1
theorem DvAll.map {N N' : Ban} {H H' : Hp} (k : ∀ b u, ¬ N b → H b = some u → H' b = some u ∧ ¬ N' b) (kt : ∀ b xs, H b = some (.tup xs) → H' b = some (.tup xs)) : ∀ (ds : List PyData) (vs : List V), DvAll N H vs ds → DvAll N' H' vs ds
  | [], _, h => by cases h; exact .nil
  | d :: ds, _, h => by
    cases h with
    | cons a b => exact .cons (Dv.map k kt d _ a) (DvAll.map k kt ds _ b)
end
theorem Dv.up {N : Ban} {H H' : Hp} {d : PyData} {v : V} (h : Dv N H v d) (k : Sx N H H') : Dv N H' v d := h.map (fun b u n q => ⟨k.st b u n q, n⟩) k.tp _ _
theorem DvAll.up {N : Ban} {H H' : Hp} {ds : List PyData} {vs : List V} (h : DvAll N H vs ds) (k : Sx N H H') : DvAll N H' vs ds := h.map (fun b u n q => ⟨k.st b u n q, n⟩) k.tp _ _
theorem Dv.less {N N' : Ban} {H : Hp} {d : PyData} {v : V} (h : Dv N H v d) (k : ∀ b, N' b → N b) : Dv N' H v d := h.map (fun b u n q => ⟨q, fun z => n (k b z)⟩) (fun _ _ q => q) _ _
theorem Dv.same {N : Ban} {H H' : Hp} {d : PyData} {v : V} (h : Dv N H v d) (k : Same H H') : Dv N H' v d := h.up (.of k)
theorem DvAll.same {N : Ban} {H H' : Hp} {ds : List PyData} {vs : List V} (h : DvAll N H vs ds) (k : Same H H') : DvAll N H' vs ds := h.up (.of k)
theorem DvAll.length {N : Ban} {H : Hp} : ∀ {ds : List PyData} {vs : List V}, DvAll N H vs ds → vs.length = ds.length
  | _, _, .nil => rfl
  | _, _, .cons _ b => by simp [DvAll.length b]
theorem DvAll.get {N : Ban} {H : Hp} : ∀ {ds : List PyData} {vs : List V} {i : Nat} {d : PyData}, DvAll N H vs ds → ds[i]? = some d → ∃ v, vs[i]? = some v ∧ Dv N H v d
  | _, _, _, _, .nil, e => by simp at e
  | _, _, 0, _, .cons a _, e => by
    simp at e
    subst e
    exact ⟨_, rfl, a⟩
  | _, _, i + 1, _, .cons _ b, e => by
    obtain ⟨v, h1, h2⟩ := DvAll.get (i := i) b (by simpa using e)
    exact ⟨v, by simpa using h1, h2⟩
theorem DvAll.app {N : Ban} {H : Hp} : ∀ {ds es : List PyData} {vs us : List V}, DvAll N H vs ds → DvAll N H us es → DvAll N H (vs ++ us) (ds ++ es)
  | _, _, _, _, .nil, h => h
  | _, _, _, _, .cons a b, h => .cons a (DvAll.app b h)
theorem DvAll.take {N : Ban} {H : Hp} : ∀ {ds : List PyData} {vs : List V} (n : Nat), DvAll N H vs ds → DvAll N H (vs.take n) (ds.take n)
  | _, _, 0, _ => by simpa using .nil
  | _, _, _ + 1, .nil => .nil
  | _, _, n + 1, .cons a b => .cons a (DvAll.take n b)
theorem DvAll.drop {N : Ban} {H : Hp} : ∀ {ds : List PyData} {vs : List V} (n : Nat), DvAll N H vs ds → DvAll N H (vs.drop n) (ds.drop n)
  | _, _, 0, h => h
  | _, _, _ + 1, .nil => .nil
  | _, _, n + 1, .cons _ b => DvAll.drop n b
theorem DvAll.rev {N : Ban} {H : Hp} : ∀ {ds : List PyData} {vs : List V}, DvAll N H vs ds → DvAll N H vs.reverse ds.reverse
  | _, _, .nil => .nil
  | _, _, .cons a b => by
    rw [List.reverse_cons, List.reverse_cons]
    exact (DvAll.rev b).app (.cons a .nil)
theorem DvAll.nil_iff {N : Ban} {H : Hp} {ds : List PyData} {vs : List V} (h : DvAll N H vs ds) : vs = [] ↔ ds = [] := by
  cases h <;> simp
/-- ints -/
theorem DvAll.ints {N : Ban} {H : Hp} : ∀ ns : List Int, DvAll N H (ns.map V.int) (ns.map PyData.int)
  | [] => .nil
  | n :: r => .cons (.int n) (DvAll.ints r)

/-! ### types of data, for isinstance -/
def tyName : PyData → String
  | .none => "NoneType"
  | .bool _ => "bool"
  | .int _ => "int"
  | .str _ => "str"
  | .list _ => "list"
  | .tuple _ => "tuple"
  | .dict _ => "dict"
theorem Dv.ty {N : Ban} {K : PySem.W.Frag} {H : Hp} {v : V} {d : PyData} (h : Dv N H v d) : TyX K H v (.type (tyName d)) := by
  cases h with
  | non => exact .base .non
  | bl b => exact .base (.bl b)
  | int i => exact .base (.int i)
  | str x => exact .base (.str x)
  | lst n e a => exact .base (.lst e)
  | tup e a => exact .base (.tup e)
  | dct n e => exact .base (.dK e)
def isTup : PyData → Bool
  | .tuple _ => true
  | _ => false
def isInt : PyData → Bool
  | .int _ => true
  | .bool _ => true
  | _ => false
def isBool : PyData → Bool
  | .bool _ => true
  | _ => false
def isStr : PyData → Bool
  | .str _ => true
  | _ => false
def isWhole : PyData → Bool
  | .int _ => true
  | _ => false
theorem kit_tup (d : PyData) : kitB (tyName d) "tuple" = some (isTup d) := by cases d <;> simp only [tyName, isTup] <;> decide +kernel
theorem kit_int (d : PyData) : kitB (tyName d) "int" = some (isInt d) := by cases d <;> simp only [tyName, isInt] <;> decide +kernel
theorem kit_bool (d : PyData) : kitB (tyName d) "bool" = some (isBool d) := by cases d <;> simp only [tyName, isBool] <;> decide +kernel
theorem kit_str (d : PyData) : kitB (tyName d) "str" = some (isStr d) := by cases d <;> simp only [tyName, isStr] <;> decide +kernel
/-- isinstance(data, a built-in class) -/
def rIsD (T : String) (f : PyData → Bool) : List V → Hp → VK → Prop := fun xs H Q => ∃ (N : Ban) (v : V) (d : PyData), xs = [v, .ty T] ∧ Dv N H v d ∧ Q (.bl (f d)) H
theorem call_isD {X : Cx} {T : String} {f : PyData → Bool} (k : ∀ d, kitB (tyName d) T = some (f d)) : CallR X (.builtin "isinstance") (rIsD T f) := by
  intro pins s σ H xs us Q I r h
  obtain ⟨N, v, d, rfl, hd, q⟩ := h
  exact call_isi pins s σ H _ us Q I r ⟨v, .ty T, .type (tyName d), .type T, f d, rfl, .ty T, hd.ty, kit_ty (k d), q⟩

/-! ### a text of data -/
abbrev sysB : Ban := fun a => a = sysModules
section
variable {X : Cx} {pins : List (Addr × Obj)} {σ : L2.St} {H : Hp} {s : Shared}
mutual
theorem Dv.reads (I : Inv X pins σ H s) {N : Ban} : ∀ (d : PyData) (v : V) (u : Value), Dv N H v d → RelV v u → ∃ as, Reads s.heap u d as ∧ ∀ a ∈ as, ¬ N a
  | .none, _, _, h, r => by
    cases h
    cases r
    exact ⟨_, Reads.none, fun _ z => nomatch z⟩
  | .bool b, _, _, h, r => by
    cases h
    cases r
    exact ⟨_, Reads.bool b, fun _ z => nomatch z⟩
  | .int i, _, _, h, r => by
    cases h
    obtain ⟨t, rfl⟩ := r
    exact ⟨_, Reads.int i t, fun _ z => nomatch z⟩
  | .str x, _, _, h, r => by
    cases h
    obtain ⟨t, rfl⟩ := r
    exact ⟨_, Reads.str x t, fun _ z => nomatch z⟩
  | .list ds, _, _, h, r => by
    cases h with
    | lst n e ha =>
      cases r
      obtain ⟨z, its, k, rv, ho⟩ := (show ObjOk X.prog X.w H s.heap _ (.lst _) from I.hok _ _ e)
      obtain ⟨as, hr, na⟩ := DvAll.reads I ds _ its ha rv
      refine ⟨_, Reads.list ho rfl rfl hr, fun b hb => ?_⟩
      rcases List.mem_cons.mp hb with rfl | hb
      · exact n
      · exact na b hb
  | .tuple ds, _, _, h, r => by
    cases h with
    | tup e ha =>
      cases r
      obtain ⟨z, its, rv, o, ho, hc, k, hd⟩ := (show ObjOk X.prog X.w H s.heap _ (.tup _) from I.hok _ _ e)
      obtain ⟨as, hr, na⟩ := DvAll.reads I ds _ its ha rv
      exact ⟨_, Reads.tuple ho hc hd hr, na⟩
  | .dict _, _, _, h, r => by
    cases h with
    | dct n e =>
      cases r
      obtain ⟨z, _, vs, rv, o, es, ep, ho, hex, hdat, hkey, hes, _⟩ := (show ObjOk X.prog X.w H s.heap _ (.dK []) from I.hok _ _ e)
      cases rv
      have he : es.toList = [] := by
        revert hes
        generalize es.toList = l
        intro hes
        cases hes
        rfl
      refine ⟨_, Reads.dict ho hex.1 hdat (as := []) (bs := []) ?_ ?_, fun b hb => ?_⟩
      · rw [he]
        exact .nil
      · rw [he]
        exact .nil
      · simp at hb
        subst hb
        exact n
theorem DvAll.reads (I : Inv X pins σ H s) {N : Ban} : ∀ (ds : List PyData) (vs : List V) (us : List Value), DvAll N H vs ds → Vals vs us → ∃ as, ReadsAll s.heap us ds as ∧ ∀ a ∈ as, ¬ N a
  | [], _, _, h, r => by
    cases h
    cases r
    exact ⟨_, .nil, fun _ z => nomatch z⟩
  | d :: ds, _, _, h, r => by
    cases h with
    | cons h1 h2 =>
      cases r with
      | cons r1 r2 =>
        obtain ⟨as, q1, n1⟩ := Dv.reads I d _ _ h1 r1
        obtain ⟨bs, q2, n2⟩ := DvAll.reads I ds _ _ h2 r2
        refine ⟨_, .cons q1 q2, fun b hb => ?_⟩
        rcases List.mem_append.mp hb with hb | hb
        · exact n1 b hb
        · exact n2 b hb
end
end
/-- a text that may be told: all ints are not too great, it is not too deep, the text not too long; where there is a dict, no list or dict is the modules' own -/
def Tells (N : Ban) (d : PyData) : Prop := d.showable = true ∧ d.depth ≤ 100 ∧ d.shown.length ≤ sizeLine ∧ (d.hasDict = true → N sysModules)
def rRepr : List V → Hp → VK → Prop := fun xs H Q => ∃ (N : Ban) (v : V) (d : PyData), xs = [v] ∧ Dv N H v d ∧ Tells N d ∧ Q (.str d.shown) H
theorem call_repr {X : Cx} {k : Nat} (hr : Room k X.A) (hG : X.A.guards = some []) : CallR X (.builtin "repr") rRepr := by
  intro pins s σ H xs us Q I r h
  obtain ⟨N, v, d, rfl, hd, ⟨h1, h2, h3, h4⟩, q⟩ := h
  obtain ⟨u, rfl, rx⟩ := vals1 r
  have units := hr.un
  obtain ⟨as, rd, na⟩ := Dv.reads I d v u hd rx
  have ref : ∀ a, u = .ref a → wpAny (model X.prog X.w) X.A (call (.builtin "repr") [u]) (EP X pins σ Q) X.xe s := fun a e => by
    subst e
    refine repr_of_reads' rd h1 (fun z m => na _ m (h4 z)) hG (by omega) (fun _ _ q => q) (fun h' u' tk k => ?_) h3
    exact ⟨.str d.shown, H, I.kept k, ⟨_, rfl⟩, q⟩
  cases hd with
  | non =>
    cases rx
    exact PySem.P.repr_of_none ⟨.str _, H, I.tok _, ⟨_, rfl⟩, q⟩
  | bl b =>
    cases rx
    refine PySem.P.repr_of_bool ⟨.str _, H, I.tok _, ⟨s.toks, ?_⟩, q⟩
    cases b <;> rfl
  | int i =>
    obtain ⟨t, rfl⟩ := rx
    exact PySem.P.repr_of_int (by simpa [PyData.showable] using h1) ⟨.str _, H, I.tok _, ⟨_, rfl⟩, q⟩
  | str x =>
    obtain ⟨t, rfl⟩ := rx
    exact PySem.P.repr_of_str ⟨.str _, H, I.tok _, ⟨_, rfl⟩, q⟩ (by simpa [PyData.shown] using h3)
  | lst n e a => exact ref _ rx
  | tup e a => exact ref _ rx
  | dct n e => exact ref _ rx
end Lw

namespace Lw
open PySem PySem.Spec PyProof.Rows L2

/-! ### how long the text of data is -/
mutual
/-- leaves: ints below 2 ^ B in size, texts of short texts, no dict but the empty one -/
def fine (B : Nat) : PyData → Prop
  | .none => True
  | .bool _ => True
  | .int i => i.natAbs < 2 ^ B
  | .str x => (reprText x).length ≤ 100
  | .list xs => fineAll B xs
  | .tuple xs => fineAll B xs
  | .dict kvs => kvs = []
def fineAll (B : Nat) : List PyData → Prop
  | [] => True
  | x :: xs => fine B x ∧ fineAll B xs
end
mutual
def wt : PyData → Nat
  | .none => 2000
  | .bool _ => 2000
  | .int _ => 2000
  | .str _ => 2000
  | .list xs => wtAll xs + 2000
  | .tuple xs => wtAll xs + 2000
  | .dict _ => 2000
def wtAll : List PyData → Nat
  | [] => 0
  | x :: xs => wt x + 2 + wtAll xs
end
mutual
theorem fine_mono {B C : Nat} (h : B ≤ C) : ∀ d : PyData, fine B d → fine C d
  | .none, _ => trivial
  | .bool _, _ => trivial
  | .int i, f => Nat.lt_of_lt_of_le (show i.natAbs < 2 ^ B from f) (Nat.pow_le_pow_right (by decide) h)
  | .str _, f => f
  | .list xs, f => fineAll_mono h xs f
  | .tuple xs, f => fineAll_mono h xs f
  | .dict _, f => f
theorem fineAll_mono {B C : Nat} (h : B ≤ C) : ∀ ds : List PyData, fineAll B ds → fineAll C ds
  | [], _ => trivial
  | x :: xs, f => ⟨fine_mono h x f.1, fineAll_mono h xs f.2⟩
end
theorem log2_lt {n k : Nat} (hk : 0 < k) (h : n < 2 ^ k) : n.log2 < k := by
  by_cases z : n = 0
  · subst z
    rw [Nat.log2_zero]
    exact hk
  · exact (Nat.log2_lt z).mpr h
mutual
theorem fine_showable {B : Nat} (hB : B ≤ 1900) : ∀ d : PyData, fine B d → d.showable = true
  | .none, _ => rfl
  | .bool _, _ => rfl
  | .int i, f => by
    have h : i.natAbs < 2 ^ 1900 := Nat.lt_of_lt_of_le (show i.natAbs < 2 ^ B from f) (Nat.pow_le_pow_right (by decide) hB)
    have q := log2_lt (by decide) h
    show decide (i.natAbs.log2 < 1920) = true
    exact decide_eq_true (by omega)
  | .str _, _ => rfl
  | .list xs, f => fineAll_showable hB xs f
  | .tuple xs, f => fineAll_showable hB xs f
  | .dict kvs, f => by
    cases (show kvs = [] from f)
    rfl
theorem fineAll_showable {B : Nat} (hB : B ≤ 1900) : ∀ ds : List PyData, fineAll B ds → PyData.showableAll ds = true
  | [], _ => rfl
  | x :: xs, f => by
    show (x.showable && PyData.showableAll xs) = true
    rw [fine_showable hB x f.1, fineAll_showable hB xs f.2] <;> rfl
end
theorem shownAll_length : ∀ ds : List PyData, (PyData.shownAll ds).length = ds.length
  | [] => rfl
  | x :: xs => by
    show (PyData.shownAll xs).length + 1 = xs.length + 1
    rw [shownAll_length xs]
mutual
theorem shown_le {B : Nat} (hB : B ≤ 1900) : ∀ d : PyData, fine B d → d.shown.length ≤ wt d
  | .none, _ => by
    show (("None" : String) : Str).length ≤ 2000
    decide +kernel
  | .bool b, _ => by
    cases b
    · show (("False" : String) : Str).length ≤ 2000
      decide +kernel
    · show (("True" : String) : Str).length ≤ 2000
      decide +kernel
  | .int i, f => by
    have h : i.natAbs < 2 ^ 1900 := Nat.lt_of_lt_of_le (show i.natAbs < 2 ^ B from f) (Nat.pow_le_pow_right (by decide) hB)
    have q := int_text_length_le (a := i) (k := 1900) (by decide) (log2_lt (by decide) h)
    show (Str.ofString (toString i)).length ≤ 2000
    rw [PySem.ofString_length]
    omega
  | .str x, f => by
    have h : (reprText x).length ≤ 100 := f
    show (reprText x).length ≤ 2000
    omega
  | .list xs, f => by
    have h := shownAll_le hB xs f
    have q := listText_len_le (PyData.shownAll xs)
    rw [shownAll_length] at q
    show (listText (PyData.shownAll xs)).length ≤ wtAll xs + 2000
    omega
  | .tuple xs, f => by
    have h := shownAll_le hB xs f
    have q := tupleText_len_le (PyData.shownAll xs)
    rw [shownAll_length] at q
    show (tupleText (PyData.shownAll xs)).length ≤ wtAll xs + 2000
    omega
  | .dict kvs, f => by
    cases (show kvs = [] from f)
    show (dictText []).length ≤ 2000
    decide +kernel
theorem shownAll_le {B : Nat} (hB : B ≤ 1900) : ∀ ds : List PyData, fineAll B ds → ((PyData.shownAll ds).map (·.length)).sum + 2 * ds.length ≤ wtAll ds
  | [], _ => Nat.le_refl 0
  | x :: xs, f => by
    have h1 := shown_le hB x f.1
    have h2 := shownAll_le hB xs f.2
    show (x.shown.length :: (PyData.shownAll xs).map (·.length)).sum + 2 * (xs.length + 1) ≤ wt x + 2 + wtAll xs
    rw [List.sum_cons]
    omega
end
/-- data that may be told as a text: ints below 2 ^ B, weight n, depth m -/
structure Fit (B n m : Nat) (d : PyData) : Prop where
  f : fine B d
  w : wt d ≤ n
  d : d.depth ≤ m
theorem Fit.mono {B n m B' n' m' : Nat} {d : PyData} (h : Fit B n m d) (a : B ≤ B') (b : n ≤ n') (c : m ≤ m') : Fit B' n' m' d := ⟨fine_mono a d h.f, Nat.le_trans h.w b, Nat.le_trans h.d c⟩
theorem Fit.tells {B n m : Nat} {d : PyData} {N : Ban} (h : Fit B n m d) (hB : B ≤ 1900) (hn : n ≤ 16000000) (hm : m ≤ 100) (hN : N sysModules) : Tells N d :=
  ⟨fine_showable hB d h.f, Nat.le_trans h.d hm, by
    have q := shown_le hB d h.f
    have z := h.w
    rw [sizeLine_eq]
    omega, fun _ => hN⟩
/-! ### lists and dicts that are not the modules' own -/
section
variable {X : Cx} {e : Expr} {es : List Expr} {t : TA} {pos : Pos}
theorem pe_list (h : PA X es t) : PE X (.List es pos) (fun σ H Q => t σ H fun xs H1 => xs.length ≤ sizeLine ∧ ∀ p, H1 p = none → p ≠ sysModules → Q (.ref p) (upd H1 p (.lst xs))) := by
  constructor
  intro pins s σ H Q I hq
  apply wpAny_List_spliced
  apply thn (h.run pos pins s σ H _ I hq)
  rintro us s1 ⟨xs, H1, I1, r, z, q⟩
  refine ⟨r.length ▸ z, ?_⟩
  have fresh : H1 s1.heap.objs.size = none := I1.hok.fresh (Nat.le_refl _)
  have J := I1.laid (t' := s1.toks) (a := s1.heap.objs.size) (o := .lst xs) (h' := s1.heap.push { cls := .type "list", data := .seq us.toArray })
    (fun b u k => Heap.get?_push_of_some _ k) (Nat.le_refl _) ⟨z, us, 0, r, Heap.get?_push_size _ rfl⟩
  exact ⟨V.ref _, _, J, rfl, q _ fresh fun k => absurd I1.big (by rw [k]; exact Nat.lt_irrefl _)⟩
theorem pe_dict0 : PE X (.Dict [] [] pos) (fun _ H Q => ∀ p, H p = none → p ≠ sysModules → Q (.ref p) (upd H p (.dK []))) := by
  constructor
  intro pins s σ H Q I q
  have J := I.laid (a := s.heap.objs.size) (o := .dK []) (t' := s.toks) (fun _ _ k => Heap.get?_push_of_some _ k) (Nat.le_refl _) (dk_empty s.heap I.big)
  exact wpAny_Dict_empty ⟨V.ref _, _, J, rfl, q _ (I.hok.fresh (Nat.le_refl _)) fun k => absurd I.big (by rw [k]; exact Nat.lt_irrefl _)⟩
/-- list(t), t a tuple -/
theorem call_listT : CallR X (.type "list") (fun xs H Q => ∃ p ys, xs = [.ref p] ∧ SqT X.K H p ys ∧ ∀ l, H l = none → l ≠ sysModules → Q (.ref l) (upd H l (.lst ys))) := by
  intro pins s σ H xs us Q I r h
  obtain ⟨p, ys, rfl, ht, q⟩ := h
  obtain ⟨u, rfl, rx⟩ := vals1 r
  cases rx
  obtain ⟨its, rv, ⟨o, ho, hc, n, hd⟩, hz⟩ := I.tuple ht
  refine call_list_seq p (.inr rfl) ho hc hd (fun h' c' kp now => ?_) (by have := rv.length; simp only [List.size_toArray]; omega)
  have J := I.laid (t' := s.toks) (a := s.heap.objs.size) (o := .lst ys) kp (Nat.le_refl _) ⟨hz, its, c', rv, now⟩
  exact ⟨V.ref _, _, J, rfl, q _ (I.hok.fresh (Nat.le_refl _)) fun k => absurd I.big (by rw [k]; exact Nat.lt_irrefl _)⟩
end
/-! ### ints and bools as numbers -/
def bz (b : Bool) : Int := if b = true then 1 else 0
section
variable {X : Cx}
theorem op_addBI : OpR X (binaryOp .Add) (fun x y H Q => ∃ b j, x = .bl b ∧ y = .int j ∧ Q (.int (bz b + j)) H) := by
  intro pins s σ H x y v u Q I rx ry h
  obtain ⟨b, j, rfl, rfl, q⟩ := h
  cases rx
  obtain ⟨t, rfl⟩ := ry
  exact PySem.IntBool.add_bool_int ⟨.int (bz b + j), H, I.tok _, ⟨_, rfl⟩, q⟩
theorem op_subBI : OpR X (binaryOp .Sub) (fun x y H Q => ∃ b j, x = .bl b ∧ y = .int j ∧ Q (.int (bz b - j)) H) := by
  intro pins s σ H x y v u Q I rx ry h
  obtain ⟨b, j, rfl, rfl, q⟩ := h
  cases rx
  obtain ⟨t, rfl⟩ := ry
  exact PySem.IntBool.sub_bool_int ⟨.int (bz b - j), H, I.tok _, ⟨_, rfl⟩, q⟩
theorem op_subIB : OpR X (binaryOp .Sub) (fun x y H Q => ∃ i b, x = .int i ∧ y = .bl b ∧ Q (.int (i - bz b)) H) := by
  intro pins s σ H x y v u Q I rx ry h
  obtain ⟨i, b, rfl, rfl, q⟩ := h
  obtain ⟨t, rfl⟩ := rx
  cases ry
  exact PySem.IntBool.sub_int_bool ⟨.int (i - bz b), H, I.tok _, ⟨_, rfl⟩, q⟩
theorem op_mulIB : OpR X (binaryOp .Mult) (fun x y H Q => ∃ i b, x = .int i ∧ y = .bl b ∧ Q (.int (i * bz b)) H) := by
  intro pins s σ H x y v u Q I rx ry h
  obtain ⟨i, b, rfl, rfl, q⟩ := h
  obtain ⟨t, rfl⟩ := rx
  cases ry
  exact PySem.IntBool.mul_int_bool ⟨.int (i * bz b), H, I.tok _, ⟨_, rfl⟩, q⟩
theorem op_eqBI : OpR X (compareOp .Eq) (fun x y H Q => ∃ b j, x = .bl b ∧ y = .int j ∧ Q (.bl (bz b == j)) H) := by
  intro pins s σ H x y v u Q I rx ry h
  obtain ⟨b, j, rfl, rfl, q⟩ := h
  cases rx
  obtain ⟨t, rfl⟩ := ry
  exact PySem.EqBoolInt.eq_bool_int ⟨.bl (bz b == j), H, I, rfl, q⟩
/-- t != (), t a tuple -/
theorem op_neT0 {k : Nat} (hr : Room k X.A) : OpR X (compareOp .NotEq) (fun x y H Q => ∃ a b xs, x = .ref a ∧ y = .ref b ∧ H a = some (.tup xs) ∧ H b = some (.tup []) ∧ Q (.bl (!xs.isEmpty)) H) := by
  intro pins s σ H x y v u Q I rx ry h
  obtain ⟨a, b, xs, rfl, rfl, ha, hb, q⟩ := h
  cases rx
  cases ry
  obtain ⟨_, its, rv, p⟩ := (show ObjOk X.prog X.w H s.heap a (.tup xs) from I.hok a _ ha)
  obtain ⟨_, its2, rv2, p2⟩ := (show ObjOk X.prog X.w H s.heap b (.tup []) from I.hok b _ hb)
  cases rv2
  have big := hr.un
  refine SeqAt.RcNeAt.tuples p p2 (by omega) (e := fun _ => true) (fun j _ h2 => ?_) X.prog X.w X.xe (EP X pins σ Q) ?_
  · simp at h2
  · refine ⟨.bl (!xs.isEmpty), H, I, ?_, q⟩
    have hl := rv.length
    show Value.bool _ = Value.bool _
    cases xs with
    | nil =>
      have e : its = [] := by simpa using hl.symm
      subst e
      rfl
    | cons x r =>
      cases its with
      | nil => simp at hl
      | cons y r2 => simp
/-- math.isqrt of what is below 2 ^ 13000 -/
theorem cr_isqrt : CallR X (.builtin "math.isqrt") (fun vs H Q => ∃ a : Int, vs = [.int a] ∧ 0 ≤ a ∧ a.natAbs < 2 ^ 13000 ∧ Q (.int ((Float64.isqrt a.toNat : Nat) : Int)) H) := by
  intro pins s σ H vs us Q I r h
  obtain ⟨a, rfl, h0, h1, q⟩ := h
  obtain ⟨u, rfl, t, rfl⟩ := vals1 r
  have e : a.toNat = a.natAbs := by omega
  have l : a.toNat.log2 < 13000 := by
    rw [e]
    exact log2_lt (by decide) h1
  exact call_function_meets PySem.W.MGF.kind_isqrt PySem.W.MGF.plain_isqrt PySem.W.MGF.entry_isqrt (PySem.W.MGF.args_isqrt _) (PySem.W.mg_run_isqrt a t (by omega) (by omega) (by omega)).meets ⟨.int _, H, I.tok _, ⟨_, rfl⟩, q⟩
/-- // by any number other than 0 below 2 ^ 9000 in size -/
theorem op_fdivZ : OpR X (binaryOp .FloorDiv) (rI (fun _ j => j ≠ 0 ∧ j.natAbs < 2 ^ 9000) fun i j => .int (i.fdiv j)) :=
  opI fun i j _ _ _ _ _ hc q => floordiv_int hc.1 q (.inl (PyProof.noPylong_of_log2 (log2_lt (by decide) hc.2)))
end
end Lw

namespace Lw
open PySem PySem.Spec PyProof.Rows L2

/-! ### written data -/
def FreshB (N : Ban) (H : Hp) : Prop := ∀ p, H p = none → p ≠ sysModules → ¬ N p
theorem same_none {H H' : Hp} (k : Same H H') {p : Addr} (h : H' p = none) : H p = none := k.free h
theorem FreshB.same {N : Ban} {H H' : Hp} (f : FreshB N H) (k : Same H H') : FreshB N H' := fun p h n => f p (same_none k h) n
def tData (d : PyData) : TE := fun _ H Q => ∃ N : Ban, FreshB N H ∧ ∀ v H', Same H H' → Dv N H' v d → Q v H'
def tDatas (ds : List PyData) : TA := fun _ H Q => ∃ N : Ban, FreshB N H ∧ ∀ vs H', Same H H' → DvAll N H' vs ds → Q vs H'
section
variable {X : Cx} {e : Expr} {es : List Expr} {d : PyData} {ds : List PyData} {pos : Pos}
theorem pd_int {i : Int} {j : Nat} : PE X (.Constant (.int i) j pos) (tData (.int i)) := pe_int.weak fun _ H Q ⟨_, _, q⟩ => q _ H (Same.refl H) (.int i)
theorem pd_bl {b : Bool} {j : Nat} : PE X (.Constant (.bool b) j pos) (tData (.bool b)) := pe_bl.weak fun _ H Q ⟨_, _, q⟩ => q _ H (Same.refl H) (.bl b)
theorem pd_non {j : Nat} : PE X (.Constant .none j pos) (tData .none) := pe_non.weak fun _ H Q ⟨_, _, q⟩ => q _ H (Same.refl H) .non
theorem pd_str {x : Str} {j : Nat} : PE X (.Constant (.str x) j pos) (tData (.str x)) := pe_str.weak fun _ H Q ⟨_, _, q⟩ => q _ H (Same.refl H) (.str x)
theorem pd_neg {i : Int} (h : PE X e (tData (.int i))) : PE X (.UnaryOp .USub e pos) (tData (.int (-i))) :=
  (pe_un un_neg h).weak fun σ H Q ⟨N, f, q⟩ => ⟨N, f, fun v H' k dv => by
    cases dv
    exact ⟨i, rfl, q _ H' k (.int (-i))⟩⟩
theorem pd_pow {i : Int} {n : Nat} {e1 e2 : Expr} (h1 : PE X e1 (tData (.int i))) (h2 : PE X e2 (tData (.int (n : Int)))) (hn : n ≤ 1000000) (hi : i.natAbs < 2 ^ 64) : PE X (.BinOp e1 .Pow e2 pos) (tData (.int (i ^ n))) :=
  (pe_op op_pow h1 h2).weak fun σ H Q ⟨N, f, q⟩ => ⟨N, f, fun v H' k dv => by
    cases dv
    refine ⟨N, f.same k, fun v2 H2 k2 dv2 => ?_⟩
    cases dv2
    refine ⟨i, (n : Int), rfl, rfl, ⟨by omega, by omega, hi⟩, ?_⟩
    show Q (.int (i ^ ((n : Int)).toNat)) H2
    rw [Int.toNat_natCast]
    exact q _ H2 (k.trans k2) (.int _)⟩
theorem pda_nil : PA X [] (tDatas []) := pa_nil.weak fun _ H Q ⟨_, _, q⟩ => q [] H (Same.refl H) .nil
theorem pda_cons (h : PE X e (tData d)) (r : PA X es (tDatas ds)) (hs : starEach (e :: es) X.env = (false, eval e X.env) :: starEach es X.env := by rfl) : PA X (e :: es) (tDatas (d :: ds)) :=
  (pa_cons h r hs).weak fun σ H Q ⟨N, f, q⟩ => ⟨N, f, fun v H1 k1 dv => ⟨N, f.same k1, fun vs H2 k2 dvs => q _ H2 (k1.trans k2) (.cons (dv.same k2) dvs)⟩⟩
theorem pd_tup {x1} (h : PA X es (tDatas ds)) (hl : ds.length ≤ 1000 := by decide) : PE X (.Tuple es x1 pos) (tData (.tuple ds)) :=
  (pe_tup h).weak fun σ H Q ⟨N, f, q⟩ => ⟨N, f, fun vs H1 k1 dvs => ⟨by
    have z := dvs.length
    rw [sizeLine_eq]
    omega, fun p hp => q _ _ (k1.trans (same_new hp _)) (.tup upd_same (dvs.same (same_new hp _)))⟩⟩
theorem pd_lst (h : PA X es (tDatas ds)) (hl : ds.length ≤ 1000 := by decide) : PE X (.List es pos) (tData (.list ds)) :=
  (pe_list h).weak fun σ H Q ⟨N, f, q⟩ => ⟨N, f, fun vs H1 k1 dvs => ⟨by
    have z := dvs.length
    rw [sizeLine_eq]
    omega, fun p hp np => q _ _ (k1.trans (same_new hp _)) (.lst (f.same k1 p hp np) upd_same (dvs.same (same_new hp _)))⟩⟩
theorem pd_dct : PE X (.Dict [] [] pos) (tData (.dict [])) :=
  pe_dict0.weak fun σ H Q ⟨N, f, q⟩ p hp np => q _ _ (same_new hp _) (.dct (f p hp np) upd_same)
end

/-- a test, both ways -/
theorem tst {b : Bool} {A B : Prop} (h1 : b = true → A) (h0 : b = false → B) : if b = true then A else B := by
  cases b
  · exact iteF (h0 rfl)
  · exact iteT (h1 rfl)
theorem short3 {x y z : V} : [x, y, z].length ≤ sizeLine := by show 3 ≤ sizeLine; decide
theorem short2 {x y : V} : [x, y].length ≤ sizeLine := by show 2 ≤ sizeLine; decide
theorem short1 {x : V} : [x].length ≤ sizeLine := by show 1 ≤ sizeLine; decide
theorem short4 {x y z u : V} : [x, y, z, u].length ≤ sizeLine := by show 4 ≤ sizeLine; decide
theorem short5 {x y z u v : V} : [x, y, z, u, v].length ≤ sizeLine := by show 5 ≤ sizeLine; decide
theorem short6 {x y z u v q : V} : [x, y, z, u, v, q].length ≤ sizeLine := by show 6 ≤ sizeLine; decide

/-! ### the well of draws -/
abbrev wellN (w : Addr) : Ban := fun a => a = w ∨ a = sysModules
def WellAt (H : Hp) (w : Addr) : Prop := ∃ a m c : Int, H w = some (.lst [.int a, .int m, .int c]) ∧ 0 ≤ a
theorem WellAt.fresh {H : Hp} {w : Addr} (h : WellAt H w) : FreshB (wellN w) H := fun p hp np z => by
  obtain ⟨a, m, c, e, _⟩ := h
  rcases z with rfl | z
  · rw [hp] at e
    cases e
  · exact np z
/-- what stands behind a draw -/
structure After (w : Addr) (H H' : Hp) : Prop where
  sx : Sx (wellN w) H H'
  well : WellAt H' w
  kp : ∀ b u, b ≠ w → H b = some u → H' b = some u
theorem After.refl {w : Addr} {H : Hp} (h : WellAt H w) : After w H H := ⟨.refl _ _, h, fun _ _ _ q => q⟩
theorem After.trans {w : Addr} {H H1 H2 : Hp} (a : After w H H1) (b : After w H1 H2) : After w H H2 := ⟨a.sx.trans b.sx, b.well, fun c u n q => b.kp c u n (a.kp c u n q)⟩
theorem WellAt.same {H H' : Hp} {w : Addr} (h : WellAt H w) (k : Same H H') : WellAt H' w := by
  obtain ⟨a, m, c, e, z⟩ := h
  exact ⟨a, m, c, k _ _ e, z⟩
theorem After.of {w : Addr} {H H' : Hp} (h : WellAt H w) (k : Same H H') : After w H H' := ⟨.of k, h.same k, fun b u _ q => k b u q⟩
theorem After.keep {w : Addr} {H H1 H2 : Hp} (a : After w H H1) (k : Same H1 H2) : After w H H2 := a.trans (.of a.well k)
theorem WellAt.ne {H : Hp} {w p : Addr} (h : WellAt H w) (hp : H p = none) : p ≠ w := by
  obtain ⟨a, m, c, e, _⟩ := h
  exact (ne_of_none e hp).symm
end Lw

namespace Lw
open PySem PySem.Spec PyProof.Rows L2

/-! ### t[::-1], t a tuple -/
section
variable {prog : Program} {w : World} {A : Around} {E : Value → Shared → Prop} {s : Shared}
theorem back_adjust (n : Nat) : Builtin.Slice.sliceAdjust none none (-1) (n : Int) = ((n : Int) - 1, -1) := rfl
theorem back_places (n : Nat) : Builtin.Slice.slicePlaces ((n : Int) - 1) (-1) (-1) = n := by
  unfold Builtin.Slice.slicePlaces
  rw [if_neg (by decide : ¬ ((-1 : Int) > 0))]
  split
  · show ((((n : Int) - 1) - (-1) - 1) / 1 + 1).toNat = n
    rw [Int.ediv_one]
    omega
  · show (0 : Int).toNat = n
    omega
theorem fm_congr {α β : Type} {f g : α → Option β} : ∀ {l : List α}, (∀ m ∈ l, f m = g m) → l.filterMap f = l.filterMap g
  | [], _ => rfl
  | a :: r, h => by
    rw [List.filterMap_cons, List.filterMap_cons, h a (List.mem_cons_self ..), fm_congr fun m hm => h m (List.mem_cons_of_mem _ hm)]
theorem back_pick (xs : Array Value) : ((List.range xs.size).filterMap fun (m : Nat) => xs[(((xs.size : Int) - 1) + (m : Int) * (-1)).toNat]?).toArray = xs.toList.reverse.toArray := by
  have e : ((List.range xs.size).filterMap fun (m : Nat) => xs[(((xs.size : Int) - 1) + (m : Int) * (-1)).toNat]?) = (List.range xs.size).filterMap fun m => xs.toList.reverse[m]? := by
    refine fm_congr fun m hm => ?_
    have lt : m < xs.size := List.mem_range.mp hm
    have i : (((xs.size : Int) - 1) + (m : Int) * (-1)).toNat = xs.size - 1 - m := by omega
    rw [i, List.getElem?_reverse (by simpa using lt)]
    simp
  rw [e]
  have z : ∀ l : List Value, (List.range l.length).filterMap (fun m => l[m]?) = l := fun l => by
    induction l with
    | nil => rfl
    | cons a r ih =>
      rw [List.length_cons, List.range_succ_eq_map, List.filterMap_cons, List.filterMap_map]
      show a :: (List.range r.length).filterMap (fun m => r[m]?) = a :: r
      rw [ih]
  have l : xs.size = xs.toList.reverse.length := by simp
  rw [l, z]
theorem back_applied {sl : Addr} {vs : Value} {n : Nat} {Q : Int × Int × Nat → Shared → Prop} (hs : s.heap.IsSliceOf sl .none .none vs) (ps : IsPart vs (some (-1))) (h : Q ((n : Int) - 1, -1, n) s) :
    wpAny (model prog w) A (Builtin.Slice.sliceApplied (.ref sl) (pure (n : Int))) Q E s := by
  obtain ⟨o, ho, _, hd⟩ := hs
  unfold Builtin.Slice.sliceApplied Builtin.Slice.sliceFields
  apply wpAny_bind
  apply wpAny_bind
  refine wpAny_field ho hd (x := .none) rfl ?_
  apply wpAny_bind
  refine wpAny_field ho hd (x := .none) rfl ?_
  apply wpAny_bind
  refine wpAny_field ho hd (x := vs) rfl ?_
  apply wpAny_pure
  apply wpAny_bind
  refine HT.slicePart_ ps ?_
  show wpAny _ _ (if ((-1 : Int) == 0) = true then _ else _) _ _ s
  rw [if_neg (by decide)]
  apply wpAny_bind
  refine HT.slicePart_ .none ?_
  apply wpAny_bind
  refine HT.slicePart_ .none ?_
  apply wpAny_bind
  apply wpAny_pure
  show wpAny _ _ (pure ((n : Int) - 1, (-1 : Int), Builtin.Slice.slicePlaces ((n : Int) - 1) (-1) (-1))) _ _ s
  rw [back_places]
  exact wpAny_pure h
theorem back_item {t sl : Addr} {items : Array Value} {vs : Value} {Q : Value → Shared → Prop} (ht : IsTup s.heap t items) (hs : s.heap.IsSliceOf sl .none .none vs) (ps : IsPart vs (some (-1)))
    (h : Q (.ref s.heap.objs.size) { s with heap := s.heap.push { cls := .type "tuple", data := .seq items.toList.reverse.toArray } }) (hz : items.size ≤ sizeLine) :
    wpAny (model prog w) A (getItem (.ref t) (.ref sl)) Q E s := by
  have ok : sizeOk (.seq items.toList.reverse.toArray) := by
    show items.toList.reverse.toArray.size ≤ sizeLine
    simpa using hz
  have hT : s.TypeIs (.ref sl) "slice" := by
    obtain ⟨o, ho, hc, _⟩ := hs
    exact ⟨o, ho, hc⟩
  unfold getItem
  with_reducible refine wpAny_holding ?_
  apply wpAny_bind
  refine wpAny_sequenceKey ht.typeIs (by decide) ?_
  apply wpAny_bind
  refine wpAny_callSpecial?_slot (name := Str.ofString "__getitem__") ht.typeIs PyProof.Rows.slot_tuple_getitem ?_
  refine wpAny_call_entry PyProof.Rows.slot_tuple_getitem ht.typeIs entry_tuple_getitem ?_ (args_tuple_getitem _ _)
  show wpAny _ _ (Builtin.Tuple.tupleItemsOf (.ref t) >>= _) _ _ s
  apply wpAny_bind
  refine tupleItemsOf_ ht ?_
  apply wpAny_bind
  refine wpAny_typeOf hT ?_
  rw [if_pos (by decide)]
  apply wpAny_bind
  refine back_applied hs ps ?_
  have no : ¬ ((((items.size : Int) - 1) == 0 && (-1 : Int) == 1 && items.size == items.size) = true) := by simp
  show wpAny _ _ (if (((items.size : Int) - 1) == 0 && (-1 : Int) == 1 && items.size == items.size) = true then _ else _) _ _ s
  rw [if_neg no, back_pick]
  first
    | exact wpAny_bind (m := Builtin.Tuple.tupleExact _) (wpAny_newObj_type (wpAny_pure ⟨_, rfl, wpAny_pure h⟩) ok)
    | exact wpAny_bind (m := Builtin.Tuple.tupleExact _) (wpAny_newObj_type (wpAny_bind (wpAny_pure (wpAny_pure ⟨_, rfl, wpAny_pure h⟩))) ok)
    | exact wpAny_bind (wpAny_bind (m := Builtin.Tuple.tupleExact _) (wpAny_newObj_type (wpAny_pure (wpAny_pure ⟨_, rfl, wpAny_pure h⟩)) ok))
    | exact wpAny_bind (wpAny_bind (m := Builtin.Tuple.tupleExact _) (wpAny_newObj_type (wpAny_pure ⟨_, rfl, wpAny_pure h⟩) ok))
end
section
variable {X : Cx}
def tBackT (K : PySem.W.Frag) (te : TE) : TE := fun σ H Q => te σ H fun x H1 => ∃ a xs, x = .ref a ∧ SqT K H1 a xs ∧ ∀ p, H1 p = none → Q (.ref p) (upd H1 p (.tup xs.reverse))
theorem pe_backT {e : Expr} {te : TE} {k : Nat} {p1 p2 p3 pos : Pos} (he : PE X e te) : PE X (.Subscript e (.Slice none none (some (.UnaryOp .USub (.Constant (.int 1) k p1) p2)) p3) pos) (tBackT X.K te) := by
  have part : PO X (some (.UnaryOp .USub (.Constant (.int 1) k p1) p2)) (tPart (tUn (rU fun i => .int (-i)) (tC (.int 1)))) := po_some (pe_un un_neg pe_int)
  constructor
  intro pins s σ H Q I h
  apply Subscript_
  refine thn (he.run pins s σ H _ I h) ?_
  rintro v s1 ⟨x, H1, I1, r1, a, xs, rfl, hx, q⟩
  cases r1
  apply wpAny_Slice
  refine thn (po_none.run pins s1 σ H1 (fun o G => o = none ∧ G = H1) I1 ⟨rfl, rfl⟩) ?_
  rintro vl s2 ⟨_, _, I2, pl, rfl, rfl⟩
  refine thn (po_none.run pins s2 σ _ (fun o G => o = none ∧ G = _) I2 ⟨rfl, rfl⟩) ?_
  rintro vu s3 ⟨_, _, I3, pu, rfl, rfl⟩
  refine thn (part.run pins s3 σ _ (fun o G => o = some (-1) ∧ G = _) I3 ⟨1, rfl, -1, rfl, rfl, rfl⟩) ?_
  rintro vs s4 ⟨_, G, I4, ps, rfl, rfl⟩
  cases pl
  cases pu
  have I5 : Inv X pins σ G { s4 with heap := s4.heap.push { cls := .type "slice", data := .fields #[.none, .none, vs] } } := I4.kept (t' := s4.toks) fun _ _ z => Heap.get?_push_of_some _ z
  obtain ⟨its, r, ht, hz⟩ := I5.tuple hx
  show wpAny (model X.prog X.w) X.A (subscriptTail e (.Slice none none (some (.UnaryOp .USub (.Constant (.int 1) k p1) p2)) p3) (.ref a) (.ref s4.heap.objs.size)) (EP X pins σ Q) X.xe { s4 with heap := s4.heap.push { cls := .type "slice", data := .fields #[.none, .none, vs] } }
  refine tail_any (ops := [.ref a, .ref s4.heap.objs.size]) ht.typeIs PyProof.Rows.slot_tuple_getitem.lookup ?_ (by with_unfolding_all rfl)
  have hl := r.length
  refine back_item ht (Heap.IsSliceOf.new ..) ps ?_ (by rw [List.size_toArray]; omega)
  have J := I5.laid (t' := s4.toks) (o := .tup xs.reverse) (fun _ _ z => Heap.get?_push_of_some _ z) (Nat.le_refl _) ⟨by rw [List.length_reverse]; exact hz, _, r.reverse, IsTup.new _ _⟩
  exact ⟨.ref _, _, J, rfl, q _ (I5.hok.fresh (Nat.le_refl _))⟩
end
end Lw

namespace Lw
open PySem PySem.Spec PyProof.Rows L2

/-! ### parts of rows of data -/
theorem fineAll_iff {B : Nat} : ∀ {ds : List PyData}, fineAll B ds ↔ ∀ d ∈ ds, fine B d
  | [] => ⟨fun _ _ z => (by cases z), fun _ => trivial⟩
  | x :: r => ⟨fun h d m => by
      rcases List.mem_cons.mp m with rfl | m
      · exact h.1
      · exact fineAll_iff.mp h.2 d m, fun h => ⟨h x (List.mem_cons_self ..), fineAll_iff.mpr fun d m => h d (List.mem_cons_of_mem _ m)⟩⟩
theorem depthAll_iff {k : Nat} : ∀ {ds : List PyData}, PyData.depthAll ds ≤ k ↔ ∀ d ∈ ds, d.depth ≤ k
  | [] => ⟨fun _ _ z => (by cases z), fun _ => Nat.zero_le _⟩
  | x :: r => by
    have ih := depthAll_iff (k := k) (ds := r)
    simp only [PyData.depthAll, List.mem_cons, forall_eq_or_imp]
    rw [← ih]
    omega
theorem wtAll_app : ∀ ds es : List PyData, wtAll (ds ++ es) = wtAll ds + wtAll es
  | [], es => by simp [wtAll]
  | x :: r, es => by
    show wt x + 2 + wtAll (r ++ es) = wt x + 2 + wtAll r + wtAll es
    rw [wtAll_app r es]
    omega
theorem wtAll_rev : ∀ ds : List PyData, wtAll ds.reverse = wtAll ds
  | [] => rfl
  | x :: r => by
    rw [List.reverse_cons, wtAll_app, wtAll_rev r]
    show wtAll r + (wt x + 2 + 0) = wt x + 2 + wtAll r
    omega
theorem wtAll_len : ∀ ds : List PyData, ds.length ≤ wtAll ds
  | [] => Nat.le_refl _
  | x :: r => by
    have := wtAll_len r
    show r.length + 1 ≤ wt x + 2 + wtAll r
    omega
theorem wtAll_cut (ds : List PyData) (i j : Nat) : wtAll ((ds.drop i).take j) ≤ wtAll ds := by
  have h1 := wtAll_app ((ds.drop i).take j) ((ds.drop i).drop j)
  rw [List.take_append_drop] at h1
  have h2 := wtAll_app (ds.take i) (ds.drop i)
  rw [List.take_append_drop] at h2
  omega
theorem wtAll_hole {ds : List PyData} {i : Nat} {d : PyData} (h : ds[i]? = some d) : wtAll (ds.take i) + (wt d + 2) + wtAll (ds.drop (i + 1)) = wtAll ds := by
  obtain ⟨hi, hd⟩ := List.getElem?_eq_some_iff.mp h
  have h2 := wtAll_app (ds.take i) (ds.drop i)
  rw [List.take_append_drop, List.drop_eq_getElem_cons hi, hd] at h2
  have h3 : wtAll (d :: ds.drop (i + 1)) = wt d + 2 + wtAll (ds.drop (i + 1)) := rfl
  omega
/-- the items of ds[lo:hi] -/
def cutD (ds : List PyData) (lo hi : Option Int) : List PyData := (ds.drop (HT.sIx ds.length 0 lo)).take (HT.sIx ds.length ds.length hi - HT.sIx ds.length 0 lo)
theorem cutD_mem {ds : List PyData} {lo hi : Option Int} {d : PyData} (h : d ∈ cutD ds lo hi) : d ∈ ds := List.mem_of_mem_drop (List.mem_of_mem_take h)
theorem cutD_wt (ds : List PyData) (lo hi : Option Int) : wtAll (cutD ds lo hi) ≤ wtAll ds := wtAll_cut ds _ _
theorem cutD_to {ds : List PyData} {k : Nat} (hk : k ≤ ds.length) : cutD ds none (some (k : Int)) = ds.take k := by
  unfold cutD
  have e : HT.sIx ds.length ds.length (some (k : Int)) = k := by
    show (if ((k : Int) < 0) then ((k : Int) + (ds.length : Int)).toNat else min ((k : Int)).toNat ds.length) = k
    rw [if_neg (by omega)]
    omega
  rw [e]
  rfl
theorem cutD_from {ds : List PyData} {k : Nat} (hk : k ≤ ds.length) : cutD ds (some (k : Int)) none = ds.drop k := by
  unfold cutD
  have e : HT.sIx ds.length 0 (some (k : Int)) = k := by
    show (if ((k : Int) < 0) then ((k : Int) + (ds.length : Int)).toNat else min ((k : Int)).toNat ds.length) = k
    rw [if_neg (by omega)]
    omega
  rw [e]
  show (ds.drop k).take (ds.length - k) = ds.drop k
  rw [List.take_of_length_le (by rw [List.length_drop]; exact Nat.le_refl _)]
theorem tup_at {N : Ban} {H : Hp} {v : V} {ds : List PyData} (h : Dv N H v (.tuple ds)) : ∃ a xs, v = .ref a ∧ H a = some (.tup xs) ∧ DvAll N H xs ds := by
  cases h with
  | tup e all => exact ⟨_, _, rfl, e, all⟩
section
variable {N : Ban} {K : PySem.W.Frag} {H : Hp} {Q : VK}
theorem dv_cut {v : V} {ds : List PyData} {lo hi : Option Int} (h : Dv N H v (.tuple ds)) (q : ∀ u H', Same H H' → Dv N H' u (.tuple (cutD ds lo hi)) → Q u H') : rSlA K v lo hi H Q := by
  obtain ⟨a, xs, rfl, e, all⟩ := tup_at h
  have hl := all.length
  refine ⟨a, xs, rfl, .of e, fun z => ?_, fun z p hp => ?_⟩
  · refine q _ H (.refl H) ?_
    have c : cutD ds lo hi = ds := by
      unfold cutD
      rw [← hl, z.1, z.2]
      show (ds.take (xs.length - 0)) = ds
      rw [List.take_of_length_le (by omega)]
    rw [c]
    exact h
  · have s : Same H (upd H p (.tup (cutV xs lo hi))) := same_new hp _
    refine q _ _ s (.tup upd_same ?_)
    unfold cutD cutV
    rw [← hl]
    exact ((all.same s).drop _).take _
theorem dv_cat {v u : V} {ds es : List PyData} (h : Dv N H v (.tuple ds)) (h2 : Dv N H u (.tuple es)) (hl : ds.length + es.length ≤ 16000000) (q : ∀ y H', Same H H' → Dv N H' y (.tuple (ds ++ es)) → Q y H') : rCatA K v u H Q := by
  obtain ⟨a, xs, rfl, e, all⟩ := tup_at h
  obtain ⟨b, ys, rfl, e2, all2⟩ := tup_at h2
  have l1 := all.length
  have l2 := all2.length
  refine ⟨a, b, xs, ys, rfl, rfl, .of e, .of e2, by rw [sizeLine_eq]; omega, fun z => ?_, fun _ z => ?_, fun _ _ p hp => ?_⟩
  · have c := all.nil_iff.mp z
    subst c
    exact q _ H (.refl H) h2
  · have c := all2.nil_iff.mp z
    subst c
    rw [List.append_nil] at q
    exact q _ H (.refl H) h
  · have s : Same H (upd H p (.tup (xs ++ ys))) := same_new hp _
    exact q _ _ s (.tup upd_same ((all.app all2).same s))
/-- one of the items of a row of six (or as many) -/
theorem at_one {xs : List V} {k : Int} (h0 : 0 ≤ k) (h1 : k < xs.length) : ∃ y, atI xs k = some y ∧ y ∈ xs := by
  have hk : k.toNat < xs.length := by omega
  exact ⟨xs[k.toNat], at_of (by omega) (List.getElem?_eq_getElem hk), List.getElem_mem hk⟩
end
end Lw

namespace Lw
open PySem PySem.Spec PyProof.Rows L2

/-! ### own exceptions of one field -/
/-- what the written part says of an exception's class x -/
structure Ec (K : PySem.W.Frag) (mg : Str → Option Value) (x f : Str) (st : Stmt) (C fI : Addr) (fd : FuncData) : Prop where
  gC : mg x = some (.ref C)
  ox : OexC K C
  xf : XfC K C
  iC : PySem.W.findIn K (.ref C) "__init__" = some (some (.ref fI))
  tI : PySem.W.typeIn K (.ref fI) = some (.type "function")
  te : PySem.W.exmOne K (.ref C) (.ref C) = some true
  no : PySem.W.findIn K (.ref C) f = some none
  fn : Fun K "__init__" (x ++ ".__init__") st fI fd
  bd : Binds K fd ["self", f] []
/-- self.f = f, on a new exception -/
def spInit (f : Str) (C : Addr) : Sp := fun vs H Q _ => ∃ (a : Addr) (v : V), vs = [.ref a, v] ∧ H a = some (exo a C none) ∧ ∀ dx, H dx = none → dx ≠ a → Q .non (upd (upd H dx (exd dx [(f, v)])) a (exo a C (some dx)))
/-- a row of arguments, its end weakened -/
def tUp (ta : TA) : TA := fun σ H Q => ∃ R : List V → Hp → Prop, ta σ H R ∧ ∀ vs H1, R vs H1 → Q vs H1
theorem _root_.L2.PA.up {X : Cx} {es : List Expr} {ta : TA} (h : PA X es ta) : PA X es (tUp ta) := ⟨fun pos pins s σ H Q I ⟨R, q, i⟩ => thn (h.run pos pins s σ H R I q) fun us s1 ⟨vs, H1, I1, r, z⟩ => ⟨vs, H1, I1, r, i _ _ z⟩⟩
/-- X(v) -/
def tMk1 (C : Addr) (f : Str) (ta : TA) : L2.St → Hp → XK → Prop := fun σ H Q => ta σ H fun vs H1 => ∃ v, vs = [v] ∧ ∀ d H', Same H1 H' → H1 d = none → H' d = some (.xd [(f, v)]) → Q (.ref C) (some d) H'
section
variable {X : Cx} {CX : CXT} {x f : Str} {st : Stmt} {C fI : Addr} {fd : FuncData} {k : Nat} {e : Expr} {ta : TA} {p pos : Pos}
theorem pmk1 (T : Ec X.K X.mg x f st C fI fd) (F : FnOk X.prog X.w X.K X.mg X.base CX0 1 fI fd ["self", f] (spInit f C)) (hr : Room k X.A) (hg : Gl X x) (ha : PA X [e] ta) (hk : 2 ≤ k := by decide)
    (hdb : (x == ("__debug__" : Str)) = false := by decide) (he : starEach (e :: []) X.env = (false, eval e X.env) :: starEach [] X.env := by rfl) (hpl : (backTo pos (starEach [] X.env)).any (·.1) = false := by rfl) :
    PMk X (.Call (.Name x p) [e] [] pos) (tMk1 C f ta) := by
  intro pins s σ H Q I h
  refine pmk_oex (ds := []) (dvs := []) T.ox T.iC T.tI F (hr.mono hk) T.bd .nil pass0 hg T.gC ha.up hdb he hpl pins s σ H Q I ⟨_, h, ?_⟩
  rintro _ H1 ⟨v, rfl, q⟩
  refine ⟨(by show 1 ≤ 1000; decide), fun a an => ⟨a, v, rfl, upd_same, fun dx hdx ne => ?_⟩⟩
  have d1 : H1 dx = none := by
    rw [upd_ne ne] at hdx
    exact hdx
  refine ⟨rfl, dx, [(f, v)], upd_same, by rw [upd_ne ne, upd_same], d1, ?_⟩
  refine q dx _ (fun b u z => ?_) d1 upd_same
  have nb : b ≠ dx := ne_of_none z d1
  have na : b ≠ a := ne_of_none z an
  rw [upd_ne nb, del_ne na, upd_ne na, upd_ne nb, upd_ne na]
  exact z
end
end Lw

namespace Lw
open PySem PySem.Spec PyProof.Rows L2
/-! ### rows of Trues -/
abbrev trues (n : Nat) : List V := List.replicate n (V.bl true)
theorem trues_all (n : Nat) : (List.replicate n true).map V.bl = trues n := List.map_replicate ..
theorem all_trues (n : Nat) : (List.replicate n true).all id = true := by
  induction n with
  | zero => rfl
  | succ n ih =>
    rw [List.replicate_succ, List.all_cons, ih] <;> rfl
theorem trues_more (n : Nat) : trues n ++ [V.bl true] = trues (n + 1) := List.replicate_succ'.symm
section
variable {K : PySem.W.Frag} {g : TG} {te : TE} {vs : List Nat} {σ : L2.St} {H1 : Hp} {D : Addr} {σ' : V → L2.St}
/-- [e for x in xs], each True -/
theorem lcl_true {Qd : Hp → Prop} {a : Addr} {xs : List V} (ha : H1 a = some (.lst xs)) (hD : H1 D = none) (hl : xs.length ≤ 1000) (hg : ∀ x H (k : L2.St → Hp → Prop), k (σ' x) H → g x (wipe σ vs) H k) (hw : ∀ x, wipe (σ' x) vs = wipe σ vs)
    (turn : ∀ x H, x ∈ xs → Same H1 H → (∃ u, H D = some u) → ∀ R : V → Hp → Prop, (∀ H', Same H1 H' → H' D = H D → R (.bl true) H') → te (σ' x) H R)
    (done : ∀ H, Same H1 H → H D = some (.lst (trues xs.length)) → Qd H) :
    ∃ W : Nat → Nat → Hp → Prop, (∃ m, W 0 m (upd H1 D (HO.lst []))) ∧ ∀ (i m : Nat) (H : Hp), W i m H → (Itl K a).stop i H ∧ Qd H ∨ (Itl K a).go i H ∧ ∃ Nx : Hp → Prop, (∀ (H' : Hp), Nx H' → ∃ m', m' < m ∧ W (i + 1) m' H') ∧
      ∀ (x : V) (H' : Hp), (Itl K a).yld i H x H' → g x (wipe σ vs) H' fun σ2 H2 => wipe σ2 vs = wipe σ vs ∧ tYes σ2 H2 fun b H3 => if b = true then te σ2 H3 fun y H4 => ∃ acc, H4 D = some (HO.lst acc) ∧ acc.length < sizeLine ∧ Nx (upd H4 D (HO.lst (acc ++ [y]))) else Nx H3 := by
  refine lc_list (K := K) (a := a) (xs := xs) (te := te) (fun i H => i ≤ xs.length ∧ Same H1 H ∧ H D = some (.lst (trues i))) ⟨Nat.zero_le _, same_new hD _, upd_same⟩ (fun i H _ z => .of (z.2.1 _ _ ha)) ?_ (fun H z => done H z.2.1 z.2.2)
  rintro i x H hx ⟨hi, sm, hd⟩
  have il : i < xs.length := (List.getElem?_eq_some_iff.mp hx).1
  refine hg x H _ ⟨hw x, ?_⟩
  show te (σ' x) H _
  refine turn x H (List.mem_of_getElem? hx) sm ⟨_, hd⟩ _ fun H' s2 e2 => ?_
  refine ⟨trues i, e2.trans hd, by rw [List.length_replicate, sizeLine_eq]; omega, ⟨by omega, fun b u z => ?_, ?_⟩⟩
  · rw [upd_ne (ne_of_none z hD)]
    exact s2 b u z
  · rw [upd_same, trues_more]
/-- [e for x in range(lo, lo + n)], each True -/
theorem lcr_true {Qd : Hp → Prop} {lo : Int} {n : Nat} (hD : H1 D = none) (hl : n ≤ 1000) (hg : ∀ x H (k : L2.St → Hp → Prop), k (σ' x) H → g x (wipe σ vs) H k) (hw : ∀ x, wipe (σ' x) vs = wipe σ vs)
    (turn : ∀ (i : Nat) H, i < n → Same H1 H → H D = some (.lst (trues i)) → ∀ R : V → Hp → Prop, (∀ H', Same H1 H' → H' D = H D → R (.bl true) H') → te (σ' (.int (lo + i))) H R)
    (done : ∀ H, Same H1 H → H D = some (.lst (trues n)) → Qd H) :
    ∃ W : Nat → Nat → Hp → Prop, (∃ m, W 0 m (upd H1 D (HO.lst []))) ∧ ∀ (i m : Nat) (H : Hp), W i m H → (Itr lo n).stop i H ∧ Qd H ∨ (Itr lo n).go i H ∧ ∃ Nx : Hp → Prop, (∀ (H' : Hp), Nx H' → ∃ m', m' < m ∧ W (i + 1) m' H') ∧
      ∀ (x : V) (H' : Hp), (Itr lo n).yld i H x H' → g x (wipe σ vs) H' fun σ2 H2 => wipe σ2 vs = wipe σ vs ∧ tYes σ2 H2 fun b H3 => if b = true then te σ2 H3 fun y H4 => ∃ acc, H4 D = some (HO.lst acc) ∧ acc.length < sizeLine ∧ Nx (upd H4 D (HO.lst (acc ++ [y]))) else Nx H3 := by
  refine lc_range (te := te) (fun i H => i ≤ n ∧ Same H1 H ∧ H D = some (.lst (trues i))) ⟨Nat.zero_le _, same_new hD _, upd_same⟩ ?_ (fun H z => done H z.2.1 z.2.2)
  rintro i H il ⟨hi, sm, hd⟩
  refine hg _ H _ ⟨hw _, ?_⟩
  show te (σ' _) H _
  refine turn i H il sm hd _ fun H' s2 e2 => ?_
  refine ⟨trues i, e2.trans hd, by rw [List.length_replicate, sizeLine_eq]; omega, ⟨by omega, fun b u z => ?_, ?_⟩⟩
  · rw [upd_ne (ne_of_none z hD)]
    exact s2 b u z
  · rw [upd_same, trues_more]
end
/-- repr(x) == repr(y), both telling the same -/
theorem rEq_same {t : Str} {Q : VK} {H : Hp} (q : Q (.bl true) H) : rEq (.str t) (.str t) H Q := ⟨rfl, by rw [decide_eq_true rfl]; exact q⟩
theorem bool_tells {N : Ban} {b : Bool} : Tells N (.bool b) := ⟨rfl, by cases b <;> decide, by cases b <;> decide +kernel, fun z => by cases z⟩
end Lw

namespace Lw
open PySem PySem.Spec PyProof.Rows L2
/-! ### comprehensions over lists, item by item -/
/-- tuples stay -/
def Tk (H H' : Hp) : Prop := ∀ b xs, H b = some (.tup xs) → H' b = some (.tup xs)
theorem Tk.of {H H' : Hp} (k : Same H H') : Tk H H' := fun b xs q => k b _ q
theorem Tk.trans {H H1 H2 : Hp} (a : Tk H H1) (b : Tk H1 H2) : Tk H H2 := fun c xs q => b c xs (a c xs q)
theorem Tk.put {H : Hp} {D : Addr} {ys : List V} {o : HO} (h : H D = some (.lst ys)) : Tk H (upd H D o) := fun b xs q => by
  rw [upd_ne (ne_of q h (by intro z; cases z))]
  exact q
/-- data of tuples and small things alone, at any ban -/
abbrev allB : Ban := fun _ => True
theorem Dv.tk {H H' : Hp} {d : PyData} {v : V} (h : Dv allB H v d) (k : Tk H H') : Dv allB H' v d := h.map (fun b u n _ => absurd trivial n) k _ _
theorem Dv.every {H : Hp} {d : PyData} {v : V} (h : Dv allB H v d) (N : Ban) : Dv N H v d := h.less fun _ _ => trivial
section
variable {K : PySem.W.Frag} {g : TG} {te : TE} {vs : List Nat} {σ : L2.St} {H1 : Hp} {D : Addr} {σ' : V → L2.St}
theorem lcl_any {Qd : Hp → Prop} {a : Addr} {xs : List V} (G : Nat → V → Hp → Prop) (hG : ∀ i v H H', Tk H H' → G i v H → G i v H') (ha : H1 a = some (.lst xs)) (hD : H1 D = none) (hl : xs.length ≤ 1000) (hg : ∀ x H (k : L2.St → Hp → Prop), k (σ' x) H → g x (wipe σ vs) H k) (hw : ∀ x, wipe (σ' x) vs = wipe σ vs)
    (turn : ∀ (i : Nat) x H, xs[i]? = some x → Same H1 H → (∃ u, H D = some u) → ∀ R : V → Hp → Prop, (∀ v H', Same H1 H' → H' D = H D → Tk H H' → G i v H' → R v H') → te (σ' x) H R)
    (done : ∀ acc H, Same H1 H → H D = some (.lst acc) → acc.length = xs.length → (∀ (i : Nat) v, acc[i]? = some v → G i v H) → Qd H) :
    ∃ W : Nat → Nat → Hp → Prop, (∃ m, W 0 m (upd H1 D (HO.lst []))) ∧ ∀ (i m : Nat) (H : Hp), W i m H → (Itl K a).stop i H ∧ Qd H ∨ (Itl K a).go i H ∧ ∃ Nx : Hp → Prop, (∀ (H' : Hp), Nx H' → ∃ m', m' < m ∧ W (i + 1) m' H') ∧
      ∀ (x : V) (H' : Hp), (Itl K a).yld i H x H' → g x (wipe σ vs) H' fun σ2 H2 => wipe σ2 vs = wipe σ vs ∧ tYes σ2 H2 fun b H3 => if b = true then te σ2 H3 fun y H4 => ∃ acc, H4 D = some (HO.lst acc) ∧ acc.length < sizeLine ∧ Nx (upd H4 D (HO.lst (acc ++ [y]))) else Nx H3 := by
  refine lc_list (K := K) (a := a) (xs := xs) (te := te) (fun i H => ∃ acc, i ≤ xs.length ∧ Same H1 H ∧ H D = some (.lst acc) ∧ acc.length = i ∧ ∀ (j : Nat) v, acc[j]? = some v → G j v H) ⟨[], Nat.zero_le _, same_new hD _, upd_same, rfl, fun j v z => (by simp at z)⟩
    (fun i H _ z => by obtain ⟨acc, _, sm, _⟩ := z; exact .of (sm _ _ ha)) ?_ (fun H z => by obtain ⟨acc, _, sm, hd, hn, hG2⟩ := z; exact done acc H sm hd hn hG2)
  rintro i x H hx ⟨acc, hi, sm, hd, hn, all⟩
  have il : i < xs.length := (List.getElem?_eq_some_iff.mp hx).1
  refine hg x H _ ⟨hw x, ?_⟩
  show te (σ' x) H _
  refine turn i x H hx sm ⟨_, hd⟩ _ fun v H' s2 e2 tk gv => ?_
  have hd' := e2.trans hd
  refine ⟨acc, hd', by rw [hn, sizeLine_eq]; omega, acc ++ [v], by omega, fun b u z => ?_, upd_same, by simp [hn], fun j y z => ?_⟩
  · rw [upd_ne (ne_of_none z hD)]
    exact s2 b u z
  · have kp : Tk H' (upd H' D (HO.lst (acc ++ [v]))) := .put hd'
    rcases (by omega : j < acc.length ∨ acc.length ≤ j) with c | c
    · rw [List.getElem?_append_left c] at z
      exact hG _ _ _ _ (tk.trans kp) (all j y z)
    · rw [List.getElem?_append_right c] at z
      have e : j = i := by
        have := (List.getElem?_eq_some_iff.mp z).1
        simp at this
        omega
      subst e
      rw [hn, Nat.sub_self] at z
      cases z
      exact hG _ _ _ _ kp gv
end
end Lw

namespace Lw
open PySem
/-! ### whole roots -/
def isq (n : Int) : Int := ((Float64.isqrt n.toNat : Nat) : Int)
theorem isq_nn (n : Int) : 0 ≤ isq n := Int.natCast_nonneg _
theorem isq_le {n : Int} (h : 0 ≤ n) : isq n * isq n ≤ n := by
  have q := (PySem.Float64.isqrt_spec n.toNat).1
  unfold isq
  have : ((Float64.isqrt n.toNat * Float64.isqrt n.toNat : Nat) : Int) ≤ (n.toNat : Int) := Int.ofNat_le.mpr q
  rw [Int.natCast_mul] at this
  omega
theorem isq_lt {n : Int} (h : 0 ≤ n) : n < (isq n + 1) * (isq n + 1) := by
  have q := (PySem.Float64.isqrt_spec n.toNat).2
  unfold isq
  have : (n.toNat : Int) < (((Float64.isqrt n.toNat + 1) * (Float64.isqrt n.toNat + 1) : Nat) : Int) := Int.ofNat_lt.mpr q
  rw [Int.natCast_mul, Int.natCast_add] at this
  have e : ((1 : Nat) : Int) = 1 := rfl
  rw [e] at this
  omega
theorem sq_lt {a b : Int} (ha : 0 ≤ a) (h : a < b) : a * a < b * b := by
  have h1 : a * a ≤ a * b := Int.mul_le_mul_of_nonneg_left (Int.le_of_lt h) ha
  have h2 : a * b < b * b := Int.mul_lt_mul_of_pos_right h (by omega)
  omega
theorem sq_le {a b : Int} (ha : 0 ≤ a) (h : a ≤ b) : a * a ≤ b * b := by
  have h1 : a * a ≤ a * b := Int.mul_le_mul_of_nonneg_left h ha
  have h2 : a * b ≤ b * b := Int.mul_le_mul_of_nonneg_right h (by omega)
  omega
theorem isq_uniq {n r : Int} (h0 : 0 ≤ r) (h1 : r * r ≤ n) (h2 : n < (r + 1) * (r + 1)) : isq n = r := by
  have hn : 0 ≤ n := Int.le_trans (Int.mul_nonneg h0 h0) h1
  have a := isq_le hn
  have b := isq_lt hn
  have c := isq_nn n
  generalize isq n = s at a b c
  by_cases l : s < r
  · have := sq_le (a := s + 1) (b := r) (by omega) (by omega)
    omega
  · by_cases g : r < s
    · have := sq_le (a := r + 1) (b := s) (by omega) (by omega)
      omega
    · omega
theorem isq_neg {n : Int} (h : n < 1) : isq n = 0 := by
  unfold isq
  have e : n.toNat = 0 := by omega
  rw [e]
  decide +kernel
theorem isq_small {n : Int} {k : Nat} (h : n.natAbs < 2 ^ k) : (isq n).natAbs < 2 ^ k := by
  by_cases z : n < 1
  · rw [isq_neg z]
    exact Nat.two_pow_pos k
  · have a := isq_le (n := n) (by omega)
    have c := isq_nn n
    have d : isq n ≤ n := by
      by_cases e : isq n = 0
      · omega
      · have := Int.mul_le_mul_of_nonneg_left (show 1 ≤ isq n by omega) c
        omega
    omega
/-- one turn of Newton's -/
theorem four_le (x y : Int) : 4 * (x * y) ≤ (x + y) * (x + y) := by
  have h : 0 ≤ (x - y) * (x - y) := by
    rcases Int.le_total 0 (x - y) with d | d
    · exact Int.mul_nonneg d d
    · exact Int.mul_nonneg_of_nonpos_of_nonpos d d
  have e : (x + y) * (x + y) - 4 * (x * y) = (x - y) * (x - y) := by grind
  omega
theorem newton_up {n s x : Int} (hs : 0 ≤ s) (h1 : s * s ≤ n) (hx : 1 ≤ x) : s ≤ (x + n / x) / 2 := by
  have hq : n < x * (n / x + 1) := by
    have := Int.lt_mul_ediv_self_add (x := n) (k := x) (by omega)
    have e : x * (n / x + 1) = x * (n / x) + x := by grind
    omega
  generalize n / x = q at hq
  apply Decidable.byContradiction
  intro c
  have c1 : x + q + 1 ≤ 2 * s := by omega
  have h4 := four_le x (q + 1)
  have np : 0 < x * (q + 1) := by
    have : 0 ≤ s * s := Int.mul_nonneg hs hs
    omega
  have hq0 : 0 ≤ q + 1 := by
    apply Decidable.byContradiction
    intro d
    have : x * (q + 1) ≤ 0 := Int.mul_nonpos_of_nonneg_of_nonpos (by omega) (by omega)
    omega
  have h5 := sq_le (a := x + (q + 1)) (b := 2 * s) (by omega) (by omega)
  have e : 2 * s * (2 * s) = 4 * (s * s) := by grind
  omega
theorem newton_down {n s x : Int} (h2 : n < (s + 1) * (s + 1)) (hs : 0 ≤ s) (hx : s < x) : n / x ≤ s := by
  have hp : 0 < x := by omega
  have l : n < x * (s + 1) := by
    have := Int.mul_le_mul_of_nonneg_right (show s + 1 ≤ x by omega) (show 0 ≤ s + 1 by omega)
    omega
  have : n / x < s + 1 := Int.ediv_lt_of_lt_mul hp (by rw [Int.mul_comm]; exact l)
  omega
theorem bits_lt (n : Int) : n.natAbs < 2 ^ Builtin.Int.intBits n := by
  unfold Builtin.Int.intBits
  by_cases h : n = 0
  · subst h
    decide
  · have e : (n == 0) = false := by simpa using h
    rw [e]
    exact Nat.lt_log2_self
theorem bits_le {n : Int} {k : Nat} (h : n.natAbs < 2 ^ k) : Builtin.Int.intBits n ≤ k := PyProof.Rows.intBits_le h
/-- the first guess is not below the root -/
theorem guess {n : Int} (h : 0 ≤ n) : isq n ≤ 2 ^ (Builtin.Int.intBits n / 2 + 1) := by
  have a := isq_le h
  have c := isq_nn n
  have b := bits_lt n
  generalize Builtin.Int.intBits n = k at b
  apply Decidable.byContradiction
  intro d
  have d' : (2 : Int) ^ (k / 2 + 1) ≤ isq n := by omega
  have p0 : (0 : Int) ≤ 2 ^ (k / 2 + 1) := by
    have : (0 : Int) < 2 ^ (k / 2 + 1) := Int.pow_pos (by decide)
    omega
  have s := sq_le p0 d'
  rw [← Int.pow_add] at s
  have m : (2 : Nat) ^ k ≤ 2 ^ (k / 2 + 1 + (k / 2 + 1)) := Nat.pow_le_pow_right (by decide) (by omega)
  have m2 : ((2 ^ k : Nat) : Int) ≤ ((2 ^ (k / 2 + 1 + (k / 2 + 1)) : Nat) : Int) := Int.ofNat_le.mpr m
  have e : ((2 ^ (k / 2 + 1 + (k / 2 + 1)) : Nat) : Int) = (2 : Int) ^ (k / 2 + 1 + (k / 2 + 1)) := by simp
  rw [e] at m2
  have b2 : (n.natAbs : Int) < ((2 ^ k : Nat) : Int) := Int.ofNat_lt.mpr b
  omega
end Lw

namespace Lw
/-! ### signs of a + b root r by squares -/
def sg (x : Int) : Int := if 0 < x then 1 else if x = 0 then 0 else -1
def ab (x : Int) : Int := if x < 0 then -x else x
/-- the square, with the sign -/
def ss (x : Int) : Int := x * ab x
theorem sg_pos {x : Int} (h : 0 < x) : sg x = 1 := if_pos h
theorem sg_zero : sg 0 = 0 := rfl
theorem sg_neg {x : Int} (h : x < 0) : sg x = -1 := by
  unfold sg
  rw [if_neg (by omega), if_neg (by omega)]
theorem tri (x : Int) : x < 0 ∨ x = 0 ∨ 0 < x := by omega
theorem sg_mul (x y : Int) : sg (x * y) = sg x * sg y := by
  rcases tri x with h | h | h
  · rcases tri y with k | k | k
    · rw [sg_neg h, sg_neg k, sg_pos (Int.mul_pos_of_neg_of_neg h k)] <;> rfl
    · rw [k, Int.mul_zero, sg_zero, Int.mul_zero]
    · rw [sg_neg h, sg_pos k, sg_neg (Int.mul_neg_of_neg_of_pos h k)] <;> rfl
  · rw [h, Int.zero_mul, sg_zero, Int.zero_mul]
  · rcases tri y with k | k | k
    · rw [sg_pos h, sg_neg k, sg_neg (Int.mul_neg_of_pos_of_neg h k)] <;> rfl
    · rw [k, Int.mul_zero, sg_zero, Int.mul_zero]
    · rw [sg_pos h, sg_pos k, sg_pos (Int.mul_pos h k)] <;> rfl
theorem sg_flip (x : Int) : sg (-x) = - sg x := by
  rcases tri x with h | h | h
  · rw [sg_neg h, sg_pos (by omega)] <;> rfl
  · rw [h] <;> rfl
  · rw [sg_pos h, sg_neg (by omega)]
theorem sg_up {k : Int} (hk : 0 < k) (x : Int) : sg (k * x) = sg x := by rw [sg_mul, sg_pos hk, Int.one_mul]
theorem ab_nn {x : Int} (h : 0 ≤ x) : ab x = x := if_neg (by omega)
theorem ab_np {x : Int} (h : x ≤ 0) : ab x = -x := by
  unfold ab
  split <;> omega
theorem ab_flip (x : Int) : ab (-x) = ab x := by
  unfold ab
  split <;> split <;> omega
theorem ab_mul (x y : Int) : ab (x * y) = ab x * ab y := by
  rcases (by omega : x ≤ 0 ∨ 0 ≤ x) with h | h <;> rcases (by omega : y ≤ 0 ∨ 0 ≤ y) with k | k
  · rw [ab_np h, ab_np k, ab_nn (Int.mul_nonneg_of_nonpos_of_nonpos h k)]
    grind
  · rw [ab_np h, ab_nn k, ab_np (Int.mul_nonpos_of_nonpos_of_nonneg h k)]
    grind
  · rw [ab_nn h, ab_np k, ab_np (Int.mul_nonpos_of_nonneg_of_nonpos h k)]
    grind
  · rw [ab_nn h, ab_nn k, ab_nn (Int.mul_nonneg h k)]
theorem ab_sq (x : Int) : ab x * ab x = x * x := by
  unfold ab
  split <;> grind
theorem ab_ge (x : Int) : 0 ≤ ab x := by
  unfold ab
  split <;> omega
theorem sg_ss (x : Int) : sg (ss x) = sg x := by
  unfold ss
  rw [sg_mul]
  rcases tri x with h | h | h
  · rw [ab_np (by omega), sg_neg h, sg_pos (by omega)] <;> rfl
  · rw [h] <;> rfl
  · rw [ab_nn (by omega), sg_pos h] <;> rfl
theorem ab_ss (x : Int) : ab (ss x) = x * x := by
  unfold ss
  rw [ab_mul, ab_nn (ab_ge x), ab_sq]
theorem ss_mul (x y : Int) : ss (x * y) = ss x * ss y := by
  unfold ss
  rw [ab_mul]
  grind
theorem ss_flip (x : Int) : ss (-x) = - ss x := by
  unfold ss
  rw [ab_flip]
  grind
theorem ss_nn {x : Int} (h : 0 ≤ x) : ss x = x * x := by
  unfold ss
  rw [ab_nn h]
/-- the sign of a + root u, u with its sign -/
def S2 (a u : Int) : Int := if sg a = sg u ∨ sg u = 0 then sg a else if sg a = 0 then sg u else sg a * sg (a * a - ab u)
/-- the sign of a + root u + root v -/
def S3 (a u v : Int) : Int := if S2 a u = sg v ∨ sg v = 0 then S2 a u else if S2 a u = 0 then sg v else S2 a u * S2 (a * a + ab u - ab v) (4 * ss a * u)
theorem S2_up {k : Int} (hk : 0 < k) (a u : Int) : S2 (k * a) (k * k * u) = S2 a u := by
  have kk : 0 < k * k := Int.mul_pos hk hk
  have e : k * a * (k * a) - ab (k * k * u) = k * k * (a * a - ab u) := by
    rw [ab_mul, ab_nn (x := k * k) (by omega)]
    grind
  unfold S2
  rw [sg_up hk, sg_up kk, e, sg_up kk]
theorem S3_up {k : Int} (hk : 0 < k) (a u v : Int) : S3 (k * a) (k * k * u) (k * k * v) = S3 a u v := by
  have kk : 0 < k * k := Int.mul_pos hk hk
  have e : k * a * (k * a) + ab (k * k * u) - ab (k * k * v) = k * k * (a * a + ab u - ab v) := by
    rw [ab_mul (k * k) u, ab_mul (k * k) v, ab_nn (x := k * k) (by omega)]
    grind
  have e2 : 4 * ss (k * a) * (k * k * u) = (k * k) * (k * k) * (4 * ss a * u) := by
    rw [ss_mul, ss_nn (by omega : 0 ≤ k)]
    grind
  unfold S3
  rw [S2_up hk, sg_up kk, e, e2, S2_up kk]
theorem S2_sq (a t : Int) : S2 a (ss t) = sg (a + t) := by
  unfold S2
  rw [sg_ss, ab_ss]
  have e : a * a - t * t = (a - t) * (a + t) := by grind
  rw [e, sg_mul]
  rcases tri a with h | h | h <;> rcases tri t with k | k | k
  · rw [sg_neg h, sg_neg k, if_pos (.inl rfl), sg_neg (by omega)]
  · rw [k, sg_zero, if_pos (.inr rfl), Int.add_zero]
  · rw [sg_neg h, sg_pos k, if_neg (by decide), if_neg (by decide), sg_neg (by omega : a - t < 0)]
    grind
  · rw [h, sg_zero, sg_neg k, if_neg (by decide), if_pos rfl, Int.zero_add, sg_neg k]
  · rw [h, k] <;> rfl
  · rw [h, sg_zero, sg_pos k, if_neg (by decide), if_pos rfl, Int.zero_add, sg_pos k]
  · rw [sg_pos h, sg_neg k, if_neg (by decide), if_neg (by decide), sg_pos (by omega : 0 < a - t)]
    grind
  · rw [k, sg_zero, if_pos (.inr rfl), Int.add_zero]
  · rw [sg_pos h, sg_pos k, if_pos (.inl rfl), sg_pos (by omega)]
theorem S3_sq (a t v : Int) : S3 a (ss t) v = S2 (a + t) v := by
  have e2 : 4 * ss a * ss t = ss (2 * a * t) := by
    rw [ss_mul, ss_mul]
    show _ = ss 2 * ss a * ss t
    rw [show ss 2 = 4 from rfl]
  have e3 : a * a + t * t - ab v + 2 * a * t = (a + t) * (a + t) - ab v := by grind
  unfold S3
  rw [S2_sq, ab_ss, e2, S2_sq, e3]
  rfl
theorem S2_flip (a u : Int) : S2 (-a) (-u) = - S2 a u := by
  unfold S2
  rw [sg_flip, sg_flip, ab_flip, show -a * -a = a * a by grind]
  rcases tri a with h | h | h <;> rcases tri u with k | k | k <;> simp only [h, k, sg_neg, sg_pos, sg_zero] <;> first | rfl | decide | grind
theorem S2_pos {a u : Int} (ha : 0 ≤ a) (hu : 0 < u) : S2 a u = 1 := by
  unfold S2
  rcases (by omega : 0 < a ∨ a = 0) with h | h
  · rw [sg_pos h, sg_pos hu, if_pos (.inl rfl)]
  · rw [h, sg_zero, sg_pos hu, if_neg (by decide), if_pos rfl]
theorem S2_neg {a u : Int} (ha : a ≤ 0) (hu : u < 0) : S2 a u = -1 := by
  have h := S2_pos (a := -a) (u := -u) (by omega) (by omega)
  rw [S2_flip] at h
  omega
theorem S2_zero (a : Int) : S2 a 0 = sg a := by
  unfold S2
  rw [if_pos (.inr rfl)]
theorem S2_low {a u : Int} (ha : a < 0) (hu : 0 < u) : S2 a u = sg (u - a * a) := by
  unfold S2
  rw [sg_neg ha, sg_pos hu, if_neg (by decide), if_neg (by decide), ab_nn (by omega : 0 ≤ u), show u - a * a = -(a * a - u) by omega, sg_flip]
  omega
theorem S2_high {a u : Int} (ha : 0 < a) (hu : u < 0) : S2 a u = sg (a * a + u) := by
  unfold S2
  rw [sg_pos ha, sg_neg hu, if_neg (by decide), if_neg (by decide), ab_np (by omega : u ≤ 0), Int.one_mul, show a * a - -u = a * a + u by omega]
theorem W_up {s u : Int} (hs : 0 < s) (hu : 0 < u) : 0 < ss s * u := by
  rw [ss_nn (by omega)]
  exact Int.mul_pos (Int.mul_pos hs hs) hu
theorem W_down {s u : Int} (hs : s < 0) (hu : 0 < u) : ss s * u < 0 := by
  have h := W_up (s := -s) (u := u) (by omega) hu
  rw [ss_flip, Int.neg_mul] at h
  omega
/-- (x + root u) (y + root u), u above 0 -/
theorem S2_mul_pos {x y u : Int} (hu : 0 < u) : S2 x u * S2 y u = S2 (x * y + u) (ss (x + y) * u) := by
  have half : ∀ x y : Int, 0 ≤ x → y < 0 → S2 x u * S2 y u = S2 (x * y + u) (ss (x + y) * u) := fun x y hx hy => by
    rw [S2_pos hx hu, S2_low hy hu, Int.one_mul]
    have n1 : (x * y + u) * (x * y + u) - (x + y) * (x + y) * u = (x * x - u) * (y * y - u) := by grind
    have f : sg (y * y - u) = - sg (u - y * y) := by rw [← sg_flip, show -(u - y * y) = y * y - u by omega]
    rcases tri (x + y) with hs | hs | hs
    · have xy : y * y = x * x + (x + y) * (y - x) := by grind
      have p1 : 0 < (x + y) * (y - x) := Int.mul_pos_of_neg_of_neg hs (by omega)
      have p2 : x * y + x * x ≤ 0 := by
        have : x * (x + y) ≤ 0 := Int.mul_nonpos_of_nonneg_of_nonpos hx (by omega)
        grind
      have p3 : 0 < x * y + y * y := by
        have : 0 < y * (x + y) := Int.mul_pos_of_neg_of_neg hy hs
        grind
      have w := W_down hs hu
      rcases (by omega : x * y + u ≤ 0 ∨ 0 < x * y + u) with hz | hz
      · rw [S2_neg hz w, sg_neg (by omega)]
      · rw [S2_high hz w]
        have e : ss (x + y) * u = - ((x + y) * (x + y) * u) := by
          unfold ss
          rw [ab_np (by omega)]
          grind
        rw [e, show (x * y + u) * (x * y + u) + -((x + y) * (x + y) * u) = (x * x - u) * (y * y - u) by omega, sg_mul, sg_neg (by omega : x * x - u < 0), f]
        omega
    · rw [hs, show ss 0 = 0 from rfl, Int.zero_mul, S2_zero]
      have : x = -y := by omega
      rw [this]
      congr 1
      grind
    · have p2 : 0 ≤ x * y + x * x := by
        have : 0 ≤ x * (x + y) := Int.mul_nonneg hx (by omega)
        grind
      have p3 : x * y + y * y < 0 := by
        have : y * (x + y) < 0 := Int.mul_neg_of_neg_of_pos hy hs
        grind
      have w := W_up hs hu
      rcases (by omega : 0 ≤ x * y + u ∨ x * y + u < 0) with hz | hz
      · rw [S2_pos hz w, sg_pos (by omega)]
      · rw [S2_low hz w, ss_nn (by omega), show (x + y) * (x + y) * u - (x * y + u) * (x * y + u) = -((x * x - u) * (y * y - u)) by omega, sg_flip, sg_mul, sg_pos (by omega : 0 < x * x - u), f]
        omega
  rcases (by omega : 0 ≤ x ∨ x < 0) with hx | hx <;> rcases (by omega : 0 ≤ y ∨ y < 0) with hy | hy
  · have h1 : 0 < x * y + u := by
      have := Int.mul_nonneg hx hy
      omega
    rw [S2_pos hx hu, S2_pos hy hu]
    rcases (by omega : 0 < x + y ∨ x + y = 0) with hs | hs
    · rw [S2_pos (by omega) (W_up hs hu)] <;> rfl
    · rw [hs, show ss 0 = 0 from rfl, Int.zero_mul, S2_zero, sg_pos h1] <;> rfl
  · exact half x y hx hy
  · have h := half y x hy hx
    rw [Int.mul_comm y x, Int.add_comm y x] at h
    rw [Int.mul_comm, h]
  · have h1 : 0 < x * y + u := by
      have := Int.mul_pos_of_neg_of_neg hx hy
      omega
    have n1 : (x * y + u) * (x * y + u) - (x + y) * (x + y) * u = (x * x - u) * (y * y - u) := by grind
    have e : ss (x + y) * u = - ((x + y) * (x + y) * u) := by
      unfold ss
      rw [ab_np (by omega)]
      grind
    rw [S2_low hx hu, S2_low hy hu, S2_high h1 (W_down (by omega) hu), e, show (x * y + u) * (x * y + u) + -((x + y) * (x + y) * u) = (x * x - u) * (y * y - u) by omega, ← sg_mul]
    congr 1
    grind
theorem S2_mul (x y u : Int) : S2 x u * S2 y u = S2 (x * y + ab u) (ss (x + y) * u) := by
  rcases tri u with h | h | h
  · have q := S2_mul_pos (x := -x) (y := -y) (u := -u) (by omega)
    rw [S2_flip, S2_flip, show -x + -y = -(x + y) by omega, ss_flip, show -x * -y = x * y by grind, show - ss (x + y) * -u = ss (x + y) * u by grind] at q
    rw [ab_np (by omega), ← q]
    grind
  · rw [h, S2_zero, S2_zero, Int.mul_zero, S2_zero, show ab 0 = 0 from rfl, Int.add_zero, sg_mul]
  · rw [ab_nn (by omega)]
    exact S2_mul_pos h
theorem S2_more {x y u : Int} (h : x ≤ y) (s : S2 x u = 1) : S2 y u = 1 := by
  rcases tri u with hu | hu | hu
  · rcases (by omega : x ≤ 0 ∨ 0 < x) with hx | hx
    · rw [S2_neg hx hu] at s
      cases s
    · rw [S2_high hx hu] at s
      rw [S2_high (by omega) hu]
      have z : 0 < x * x + u := by
        rcases tri (x * x + u) with k | k | k
        · rw [sg_neg k] at s
          cases s
        · rw [k] at s
          cases s
        · exact k
      have m := Int.mul_le_mul h h (by omega) (by omega)
      exact sg_pos (by omega)
  · rw [hu, S2_zero] at s ⊢
    rcases tri x with k | k | k
    · rw [sg_neg k] at s
      cases s
    · rw [k] at s
      cases s
    · exact sg_pos (by omega)
  · rcases (by omega : 0 ≤ y ∨ y < 0) with hy | hy
    · exact S2_pos hy hu
    · rw [S2_low (by omega) hu] at s
      rw [S2_low hy hu]
      have z : 0 < u - x * x := by
        rcases tri (u - x * x) with k | k | k
        · rw [sg_neg k] at s
          cases s
        · rw [k] at s
          cases s
        · exact k
      have m := Int.mul_le_mul (a := -y) (b := -y) (c := -x) (d := -x) (by omega) (by omega) (by omega) (by omega)
      rw [show -y * -y = y * y by grind, show -x * -x = x * x by grind] at m
      exact sg_pos (by omega)
theorem S2_less {x y u : Int} (h : y ≤ x) (s : S2 x u = -1) : S2 y u = -1 := by
  have q := S2_more (x := -x) (y := -y) (u := -u) (by omega) (by rw [S2_flip, s] <;> rfl)
  rw [S2_flip] at q
  omega
theorem S2_val (a u : Int) : S2 a u = 1 ∨ S2 a u = 0 ∨ S2 a u = -1 := by
  have v : ∀ x, sg x = 1 ∨ sg x = 0 ∨ sg x = -1 := fun x => by
    rcases tri x with h | h | h
    · exact .inr (.inr (sg_neg h))
    · exact .inr (.inl (by rw [h] <;> rfl))
    · exact .inl (sg_pos h)
  unfold S2
  split
  · exact v a
  · split
    · exact v u
    · rcases v a with h | h | h <;> rcases v (a * a - ab u) with k | k | k <;> rw [h, k] <;> decide
theorem sg_val {x : Int} : (sg x = 0 → x = 0) ∧ (sg x = 1 → 0 < x) ∧ (sg x = -1 → x < 0) := by
  rcases tri x with h | h | h
  · have e := sg_neg h
    exact ⟨fun z => (by omega), fun z => (by omega), fun _ => h⟩
  · have e : sg x = 0 := by rw [h] <;> rfl
    exact ⟨fun _ => h, fun z => (by omega), fun z => (by omega)⟩
  · have e := sg_pos h
    exact ⟨fun z => (by omega), fun _ => h, fun z => (by omega)⟩
theorem S2_step' {x y u : Int} (h : x < y) (s : S2 x u = 0) : S2 y u = 1 := by
  rcases tri u with hu | hu | hu
  · rcases (by omega : x ≤ 0 ∨ 0 < x) with hx | hx
    · rw [S2_neg hx hu] at s
      cases s
    · rw [S2_high hx hu] at s
      have z := sg_val.1 s
      rw [S2_high (by omega) hu]
      have m : x * x < y * y := sq_lt (by omega) h
      exact sg_pos (by omega)
  · rw [hu, S2_zero] at s ⊢
    have z := sg_val.1 s
    exact sg_pos (by omega)
  · rcases (by omega : 0 ≤ y ∨ y < 0) with hy | hy
    · exact S2_pos hy hu
    · rw [S2_low (by omega) hu] at s
      have z := sg_val.1 s
      rw [S2_low hy hu]
      have m : -y * -y < -x * -x := sq_lt (by omega) (by omega)
      rw [show -y * -y = y * y by grind, show -x * -x = x * x by grind] at m
      exact sg_pos (by omega)
theorem S2_step {x y u : Int} (h : y < x) (s : S2 x u = 0) : S2 y u = -1 := by
  have q := S2_step' (x := -x) (y := -y) (u := -u) (by omega) (by rw [S2_flip, s] <;> rfl)
  rw [S2_flip] at q
  omega
theorem S3_sq' (a u t : Int) : S3 a u (ss t) = S2 (a + t) u := by
  have e : 4 * ss a * u = ss ((a + t) + (a - t)) * u := by
    rw [show (a + t) + (a - t) = 2 * a by omega, ss_mul]
    rfl
  have e2 : a * a + ab u - t * t = (a + t) * (a - t) + ab u := by grind
  unfold S3
  rw [sg_ss, ab_ss, e, e2, ← S2_mul]
  rcases tri t with k | k | k
  · rcases S2_val a u with h | h | h
    · have y := S2_more (y := a - t) (by omega) h
      rw [h, y, sg_neg k, if_neg (by decide), if_neg (by decide)]
      omega
    · rw [h, sg_neg k, if_neg (by decide), if_pos rfl]
      exact (S2_step (by omega) h).symm
    · rw [h, sg_neg k, if_pos (.inl rfl)]
      exact (S2_less (by omega) h).symm
  · rw [k, sg_zero, if_pos (.inr rfl), Int.add_zero]
  · rcases S2_val a u with h | h | h
    · rw [h, sg_pos k, if_pos (.inl rfl)]
      exact (S2_more (by omega) h).symm
    · rw [h, sg_pos k, if_neg (by decide), if_pos rfl]
      exact (S2_step' (by omega) h).symm
    · have y := S2_less (y := a - t) (by omega) h
      rw [h, y, sg_pos k, if_neg (by decide), if_neg (by decide)]
      omega
end Lw

namespace Lw
open PySem L2
theorem two_le {a : Int} {m n : Nat} (h : a.natAbs < 2 ^ m) (hmn : m ≤ n) : a.natAbs < 2 ^ n := Nat.lt_of_lt_of_le h (Nat.pow_le_pow_right (by decide) hmn)
theorem mul_lt {a b : Int} {m n : Nat} (h1 : a.natAbs < 2 ^ m) (h2 : b.natAbs < 2 ^ n) : (a * b).natAbs < 2 ^ (m + n) := wide_lt h1 h2
theorem add_lt {a b : Int} {m : Nat} (h1 : a.natAbs < 2 ^ m) (h2 : b.natAbs < 2 ^ m) : (a + b).natAbs < 2 ^ (m + 1) := by
  rw [Nat.pow_succ]
  omega
theorem sub_lt {a b : Int} {m : Nat} (h1 : a.natAbs < 2 ^ m) (h2 : b.natAbs < 2 ^ m) : (a - b).natAbs < 2 ^ (m + 1) := by
  rw [Nat.pow_succ]
  omega
def isSqB (n : Int) : Bool := decide (0 ≤ n) && decide (isq n * isq n = n)
def gcdI (a b : Int) : Int := ((Nat.gcd a.natAbs b.natAbs : Nat) : Int)
theorem gcd_step {f r : Int} (hf : 0 ≤ f) (hr : 0 < r) : gcdI r (f % r) = gcdI f r := by
  obtain ⟨a, rfl⟩ := Int.eq_ofNat_of_zero_le hf
  obtain ⟨b, rfl⟩ := Int.eq_ofNat_of_zero_le (Int.le_of_lt hr)
  unfold gcdI
  rw [← Int.natCast_emod, Int.natAbs_natCast, Int.natAbs_natCast, Int.natAbs_natCast, Nat.gcd_comm b (a % b), Nat.gcd_comm a b, ← Nat.gcd_rec b a]
theorem gcd_zero {f : Int} (hf : 0 ≤ f) : gcdI f 0 = f := by
  unfold gcdI
  rw [show (0 : Int).natAbs = 0 from rfl, Nat.gcd_zero_right]
  omega
theorem gcd_abs (a b : Int) : gcdI (if a < 0 then -a else a) (if b < 0 then -b else b) = gcdI a b := by
  unfold gcdI
  have e : ∀ x : Int, (if x < 0 then -x else x).natAbs = x.natAbs := fun x => by split <;> omega
  rw [e, e]
theorem if_nn (a : Int) : 0 ≤ (if a < 0 then -a else a) := by split <;> omega
def gz (a b : Int) : Int := if b < 0 then -gcdI a b else gcdI a b
def redN (a b : Int) : Int := a.fdiv (gz a b)
def redD (a b : Int) : Int := b.fdiv (gz a b)
theorem gcd_pos {a b : Int} (hb : b ≠ 0) : 0 < gcdI a b := by
  unfold gcdI
  have : 0 < Nat.gcd a.natAbs b.natAbs := Nat.gcd_pos_of_pos_right _ (by omega)
  omega
theorem gcd_le {a b : Int} (hb : b ≠ 0) : (gcdI a b).natAbs ≤ b.natAbs := by
  unfold gcdI
  rw [Int.natAbs_natCast]
  exact Nat.le_of_dvd (by omega) (Nat.gcd_dvd_right _ _)
theorem gz_ne {a b : Int} (hb : b ≠ 0) : gz a b ≠ 0 := by
  have := gcd_pos (a := a) hb
  unfold gz
  split <;> omega
theorem gz_abs (a b : Int) : (gz a b).natAbs = (gcdI a b).natAbs := by
  unfold gz
  split <;> omega
theorem gz_lt {a b : Int} (hb : b ≠ 0) {n : Nat} (h : b.natAbs < n) : (gz a b).natAbs < n := by
  rw [gz_abs]
  exact Nat.lt_of_le_of_lt (gcd_le hb) h
def quadD (p q s : Int) (up : Bool) : PyData :=
  .tuple [.int (p.fdiv (gcdI (gcdI p q) s)), .int (q.fdiv (gcdI (gcdI p q) s)), .int (s.fdiv (gcdI (gcdI p q) s)), .bool up]
def fracD (a b : Int) : PyData := .tuple [.int (redN a b), .int (redD a b)]
def formD (a b r d : Int) : PyData := if b = 0 ∨ isSqB r = true then fracD (a + b * isq r) d else quadD (d * d) (0 - 2 * a * d) (a * a - b * b * r) (decide (0 < b))
/-- n / m in its one form -/
def IsFr (a b : Int) : Prop := 0 < b ∧ gcdI a b = 1
theorem gcd_dvd_l (a b : Int) : gcdI a b ∣ a := Int.natAbs_dvd_natAbs.mp (by unfold gcdI; rw [Int.natAbs_natCast]; exact Nat.gcd_dvd_left _ _)
theorem gcd_dvd_r (a b : Int) : gcdI a b ∣ b := Int.natAbs_dvd_natAbs.mp (by unfold gcdI; rw [Int.natAbs_natCast]; exact Nat.gcd_dvd_right _ _)
theorem red_pos {a b : Int} (hb : 0 < b) : redN a b = a / gcdI a b ∧ redD a b = b / gcdI a b := by
  have g := gcd_pos (a := a) (b := b) (by omega)
  unfold redN redD gz
  rw [if_neg (by omega), Int.fdiv_eq_ediv_of_nonneg _ (by omega), Int.fdiv_eq_ediv_of_nonneg _ (by omega)]
  exact ⟨rfl, rfl⟩
theorem red_fr {a b : Int} (hb : 0 < b) : IsFr (redN a b) (redD a b) := by
  have g := gcd_pos (a := a) (b := b) (by omega)
  obtain ⟨e1, e2⟩ := red_pos (a := a) hb
  obtain ⟨x, hx⟩ := gcd_dvd_l a b
  obtain ⟨y, hy⟩ := gcd_dvd_r a b
  have x1 : a / gcdI a b = x := by
    conv => lhs; lhs; rw [hx]
    exact Int.mul_ediv_cancel_left x (by omega)
  have y1 : b / gcdI a b = y := by
    conv => lhs; lhs; rw [hy]
    exact Int.mul_ediv_cancel_left y (by omega)
  have yp : 0 < y := by
    apply Decidable.byContradiction
    intro c
    have : gcdI a b * y ≤ 0 := Int.mul_nonpos_of_nonneg_of_nonpos (by omega) (by omega)
    omega
  rw [e1, e2, x1, y1]
  refine ⟨yp, ?_⟩
  have m : gcdI a b = gcdI a b * gcdI x y := by
    have z : ∀ c u v : Int, 0 ≤ c → gcdI (c * u) (c * v) = c * gcdI u v := fun c u v hc => by
      unfold gcdI
      rw [Int.natAbs_mul, Int.natAbs_mul, Nat.gcd_mul_left, Int.natCast_mul]
      have : ((c.natAbs : Nat) : Int) = c := by omega
      rw [this]
    have q := z (gcdI a b) x y (by omega)
    rw [← hx, ← hy] at q
    exact q
  have z : gcdI a b * (gcdI x y - 1) = 0 := by
    rw [Int.mul_sub, ← m]
    omega
  rcases Int.mul_eq_zero.mp z with z | z
  · omega
  · omega
theorem red_le {a b : Int} (hb : 0 < b) : (redN a b).natAbs ≤ a.natAbs ∧ (redD a b).natAbs ≤ b.natAbs := by
  have g := gcd_pos (a := a) (b := b) (by omega)
  obtain ⟨e1, e2⟩ := red_pos (a := a) hb
  rw [e1, e2]
  have d : ∀ x : Int, (x / gcdI a b).natAbs ≤ x.natAbs := fun x => Int.natAbs_ediv_le_natAbs x _
  exact ⟨d a, d b⟩
theorem red_up {a b : Int} (ha : 0 < a) (hb : 0 < b) : 0 < redN a b := by
  obtain ⟨e1, _⟩ := red_pos (a := a) hb
  have g := gcd_pos (a := a) (b := b) (by omega)
  have k1 : gcdI a b * redN a b = a := by rw [e1]; exact Int.mul_ediv_cancel' (gcd_dvd_l _ _)
  apply Decidable.byContradiction
  intro z
  have : gcdI a b * redN a b ≤ 0 := Int.mul_nonpos_of_nonneg_of_nonpos (by omega) (by omega)
  omega
def isFrB : PyData → Bool
  | .tuple [.int a, .int b] => decide (0 < b) && decide (gcdI a b = 1)
  | _ => false
def under (p q s : Int) : Int := q * q - 4 * p * s
def isRootB : PyData → Bool
  | .tuple [.int p, .int q, .int s, .bool _] => decide (0 < p) && (decide (gcdI (gcdI p q) s = 1) && (decide (0 < under p q s) && !isSqB (under p q s)))
  | _ => false
def isNumB (d : PyData) : Bool := isFrB d || isRootB d
theorem not_tup {d : PyData} (h : isTup d = false) : isFrB d = false ∧ isRootB d = false := by
  cases d <;> first | exact ⟨rfl, rfl⟩ | cases h
theorem tup_or (d : PyData) : isTup d = false ∨ ∃ ds, d = .tuple ds := by
  cases d <;> first | exact .inl rfl | exact .inr ⟨_, rfl⟩
theorem whole_or (d : PyData) : isWhole d = false ∨ ∃ i, d = .int i := by
  cases d <;> first | exact .inl rfl | exact .inr ⟨_, rfl⟩
theorem bool_or (d : PyData) : isBool d = false ∨ ∃ b, d = .bool b := by
  cases d <;> first | exact .inl rfl | exact .inr ⟨_, rfl⟩
theorem whole_is (d : PyData) : (isInt d && !isBool d) = isWhole d := by cases d <;> rfl
theorem fr_len {ds : List PyData} (h : ds.length ≠ 2) : isFrB (.tuple ds) = false := by
  unfold isFrB
  split
  · rename_i e
    cases e
    exact absurd rfl h
  · rfl
theorem root_len {ds : List PyData} (h : ds.length ≠ 4) : isRootB (.tuple ds) = false := by
  unfold isRootB
  split
  · rename_i e
    cases e
    exact absurd rfl h
  · rfl
theorem fr_whole {x y : PyData} (h : isWhole x = false ∨ isWhole y = false) : isFrB (.tuple [x, y]) = false := by
  unfold isFrB
  split
  · rename_i e
    cases e
    rcases h with h | h <;> cases h
  · rfl
theorem root_whole {x y z u : PyData} (h : isWhole x = false ∨ isWhole y = false ∨ isWhole z = false ∨ isBool u = false) : isRootB (.tuple [x, y, z, u]) = false := by
  unfold isRootB
  split
  · rename_i e
    cases e
    rcases h with h | h | h | h <;> cases h
  · rfl
theorem gcd3 {d a b : Int} (hd : d ≠ 0) (z : d.natAbs < 2 ^ 4000) : gcdI (gcdI (d * d) a) b ≠ 0 ∧ (gcdI (gcdI (d * d) a) b).natAbs < 2 ^ 9000 := by
  have dd : d * d ≠ 0 := Int.mul_ne_zero hd hd
  have sw : ∀ x y : Int, gcdI x y = gcdI y x := fun x y => by
    unfold gcdI
    rw [Nat.gcd_comm]
  have p1 : 0 < gcdI (d * d) a := by
    rw [sw]
    exact gcd_pos dd
  have p2 : 0 < gcdI (gcdI (d * d) a) b := by
    rw [sw]
    exact gcd_pos (by omega)
  have l1 : (gcdI (d * d) a).natAbs ≤ (d * d).natAbs := by
    rw [sw]
    exact gcd_le dd
  have l2 : (gcdI (gcdI (d * d) a) b).natAbs ≤ (gcdI (d * d) a).natAbs := by
    rw [sw (gcdI (d * d) a) b]
    exact gcd_le (by omega)
  exact ⟨by omega, Nat.lt_of_le_of_lt (Nat.le_trans l2 l1) (two_le (mul_lt z z) (by decide))⟩
theorem fdiv_le {x g : Int} (hg : 0 < g) {m : Nat} (h : x.natAbs < 2 ^ m) : (x.fdiv g).natAbs < 2 ^ m := by
  rw [Int.fdiv_eq_ediv_of_nonneg _ (by omega)]
  exact Nat.lt_of_le_of_lt (Int.natAbs_ediv_le_natAbs x g) h
theorem gcd_pos3 {d a b : Int} (hd : 0 < d) : 0 < gcdI (gcdI (d * d) a) b := by
  have g := (gcd3 (d := d) (a := a) (b := b))
  have n : gcdI (gcdI (d * d) a) b ≠ 0 := by
    have dd : d * d ≠ 0 := Int.mul_ne_zero (by omega) (by omega)
    have sw : ∀ x y : Int, gcdI x y = gcdI y x := fun x y => by
      unfold gcdI
      rw [Nat.gcd_comm]
    have p1 : 0 < gcdI (d * d) a := by
      rw [sw]
      exact gcd_pos dd
    have p2 : 0 < gcdI (gcdI (d * d) a) b := by
      rw [sw]
      exact gcd_pos (by omega)
    omega
  have z : 0 ≤ gcdI (gcdI (d * d) a) b := by
    unfold gcdI
    exact Int.natCast_nonneg _
  omega
theorem S2_form {a b r : Int} (h : b = 0 ∨ 0 < r) : S2 a (ss b * r) = if sg a = sg b ∨ sg b = 0 then sg a else if sg a = 0 then sg b else sg a * sg (a * a - b * b * r) := by
  have e1 : sg (ss b * r) = sg b := by
    rw [sg_mul, sg_ss]
    rcases h with h | h
    · rw [h, sg_zero, Int.zero_mul]
    · rw [sg_pos h, Int.mul_one]
  have e2 : ab (ss b * r) = b * b * r := by
    rw [ab_mul, ab_ss]
    rcases h with h | h
    · rw [h, Int.zero_mul, Int.zero_mul, Int.zero_mul]
    · rw [ab_nn (by omega)]
  unfold S2
  rw [e1, e2]
theorem S3_form {a b r c s : Int} (h : b = 0 ∨ 0 < r) (k : c = 0 ∨ 0 < s) : S3 a (ss b * r) (ss c * s) = if S2 a (ss b * r) = sg c ∨ sg c = 0 then S2 a (ss b * r) else if S2 a (ss b * r) = 0 then sg c else S2 a (ss b * r) * S2 (a * a + b * b * r - c * c * s) (ss (2 * a * b) * r) := by
  have e0 : ∀ {b r : Int}, (b = 0 ∨ 0 < r) → sg (ss b * r) = sg b ∧ ab (ss b * r) = b * b * r := fun {b r} h => by
    rw [sg_mul, sg_ss, ab_mul, ab_ss]
    rcases h with h | h
    · rw [h, sg_zero, Int.zero_mul, Int.zero_mul, Int.zero_mul, Int.zero_mul] <;> exact ⟨rfl, rfl⟩
    · rw [sg_pos h, Int.mul_one, ab_nn (by omega)] <;> exact ⟨rfl, rfl⟩
  obtain ⟨e1, e2⟩ := e0 h
  obtain ⟨e3, e4⟩ := e0 k
  have e5 : 4 * ss a * (ss b * r) = ss (2 * a * b) * r := by
    rw [ss_mul, ss_mul, show ss 2 = 4 from rfl]
    grind
  unfold S3
  rw [e3, e4, e2, e5]
theorem S2_small (a u : Int) : (S2 a u).natAbs < 2 ^ 2 := by
  rcases S2_val a u with h | h | h <;> rw [h] <;> decide
def Okay (b r : Int) : Prop := b = 0 ∨ 0 < r
/-- how two spreads compare -/
def cmp (a b r d c e s v : Int) : Int := S3 (a * v - c * d) (ss (b * v) * r) (ss (0 - e * d) * s)
/-- a' + b' root r' over d' is a + b root r over d; where r is a square, b' may be 0 -/
def Like (a b r d a' b' r' d' : Int) : Prop := ∃ g h : Int, 0 < g ∧ 0 < h ∧ g * d' = h * d ∧
  ((g * a' = h * a ∧ g * g * (ss b' * r') = h * h * (ss b * r)) ∨ (b' = 0 ∧ r' = 0 ∧ ∃ t, ss t = ss b * r ∧ g * a' = h * (a + t)))
theorem ss_up {g : Int} (hg : 0 < g) (x : Int) : ss (g * x) = g * g * ss x := by rw [ss_mul, ss_nn (by omega)]
theorem S3_eq {g h x u v x' u' v' : Int} (hg : 0 < g) (hh : 0 < h) (e1 : g * x' = h * x) (e2 : g * g * u' = h * h * u) (e3 : g * g * v' = h * h * v) : S3 x' u' v' = S3 x u v := by
  rw [← S3_up hg x' u' v', ← S3_up hh x u v, e1, e2, e3]
theorem S2_eq {g h x u x' u' : Int} (hg : 0 < g) (hh : 0 < h) (e1 : g * x' = h * x) (e2 : g * g * u' = h * h * u) : S2 x' u' = S2 x u := by
  rw [← S2_up hg x' u', ← S2_up hh x u, e1, e2]
theorem sg_eq {g h x x' : Int} (hg : 0 < g) (hh : 0 < h) (e1 : g * x' = h * x) : sg x' = sg x := by
  rw [← sg_up hg x', ← sg_up hh x, e1]
theorem cmp_like {a b r d a' b' r' d' c e s v c' e' s' v' : Int} (l1 : Like a b r d a' b' r' d') (l2 : Like c e s v c' e' s' v') : cmp a' b' r' d' c' e' s' v' = cmp a b r d c e s v := by
  obtain ⟨g, h, hg, hh, ed, w1⟩ := l1
  obtain ⟨i, j, hi, hj, ev, w2⟩ := l2
  have gi : 0 < g * i := Int.mul_pos hg hi
  have hj' : 0 < h * j := Int.mul_pos hh hj
  unfold cmp
  have top : ∀ x x' y y' : Int, g * x' = h * x → i * y' = j * y → g * i * (x' * v' - y' * d') = h * j * (x * v - y * d) := fun x x' y y' p q => by
    have k1 : g * i * (x' * v' - y' * d') = (g * x') * (i * v') - (i * y') * (g * d') := by grind
    rw [k1, p, q, ed, ev]
    grind
  have sv : i * i * ss v' = j * j * ss v := by rw [← ss_up hi, ← ss_up hj, ev]
  have sd : g * g * ss d' = h * h * ss d := by rw [← ss_up hg, ← ss_up hh, ed]
  have mid : g * g * (ss b' * r') = h * h * (ss b * r) → g * i * (g * i) * (ss (b' * v') * r') = h * j * (h * j) * (ss (b * v) * r) := fun p => by
    rw [ss_mul, ss_mul]
    have k1 : g * i * (g * i) * (ss b' * ss v' * r') = (g * g * (ss b' * r')) * (i * i * ss v') := by grind
    rw [k1, p, sv]
    grind
  have fl : ∀ x y : Int, ss (0 - x * y) = - (ss x * ss y) := fun x y => by
    rw [show 0 - x * y = -(x * y) by omega, ss_flip, ss_mul]
  have las : i * i * (ss e' * s') = j * j * (ss e * s) → g * i * (g * i) * (ss (0 - e' * d') * s') = h * j * (h * j) * (ss (0 - e * d) * s) := fun p => by
    rw [fl, fl]
    have k1 : g * i * (g * i) * (-(ss e' * ss d') * s') = -((i * i * (ss e' * s')) * (g * g * ss d')) := by grind
    rw [k1, p, sd]
    grind
  rcases w1 with ⟨p1, p2⟩ | ⟨rfl, rfl, t, p1, p2⟩ <;> rcases w2 with ⟨q1, q2⟩ | ⟨rfl, rfl, t2, q1, q2⟩
  · exact S3_eq gi hj' (top _ _ _ _ p1 q1) (mid p2) (las q2)
  · have k1 : ss (0 - e * d) * s = ss (0 - t2 * d) := by
      rw [fl, fl, q1]
      grind
    have k2 : ss (0 - 0 * d') * 0 = ss 0 := by rw [Int.mul_zero] <;> rfl
    rw [k1, k2, S3_sq', S3_sq']
    refine S2_eq gi hj' ?_ (mid p2)
    have := top _ _ _ _ p1 q2
    rw [Int.add_zero, this]
    grind
  · have k1 : ss (b * v) * r = ss (t * v) := by
      rw [ss_mul, ss_mul, p1]
      grind
    have k2 : ss (0 * v') * 0 = ss 0 := by rw [Int.mul_zero] <;> rfl
    rw [k1, k2, S3_sq, S3_sq]
    refine S2_eq gi hj' ?_ (las q2)
    have := top _ _ _ _ p2 q1
    rw [Int.add_zero, this]
    grind
  · have k1 : ss (b * v) * r = ss (t * v) := by
      rw [ss_mul, ss_mul, p1]
      grind
    have k2 : ss (0 * v') * 0 = ss 0 := by rw [Int.mul_zero] <;> rfl
    have k3 : ss (0 - e * d) * s = ss (0 - t2 * d) := by
      rw [fl, fl, q1]
      grind
    have k4 : ss (0 - 0 * d') * 0 = ss 0 := by rw [Int.mul_zero] <;> rfl
    rw [k1, k2, k3, k4, S3_sq, S3_sq, S2_sq, S2_sq]
    refine sg_eq gi hj' ?_
    have := top _ _ _ _ p2 q2
    rw [Int.add_zero, Int.add_zero, this]
    grind
theorem fdiv_of {g x : Int} (hg : 0 < g) (h : g ∣ x) : g * x.fdiv g = x := by
  rw [Int.fdiv_eq_ediv_of_nonneg _ (by omega)]
  exact Int.mul_ediv_cancel' h
theorem isSq_of {r c : Int} (h : r = c * c) : isSqB r = true := by
  have c0 : 0 ≤ c * c := by
    rcases (by omega : 0 ≤ c ∨ c ≤ 0) with z | z
    · exact Int.mul_nonneg z z
    · exact Int.mul_nonneg_of_nonpos_of_nonpos z z
  have e : isq r = ab c := by
    refine isq_uniq (ab_ge c) (by rw [ab_sq]; omega) ?_
    have s := ab_sq c
    have n := ab_ge c
    have x : (ab c + 1) * (ab c + 1) = ab c * ab c + 2 * ab c + 1 := by grind
    omega
  unfold isSqB
  rw [e, ab_sq]
  simp only [Bool.and_eq_true, decide_eq_true_eq]
  omega
theorem sq_free {A B r : Int} (hA : A ≠ 0) (h : A * A * r = B * B) (hr : 0 ≤ r) : isSqB r = true := by
  have d : A.natAbs ∣ B.natAbs := by
    rw [← Nat.pow_dvd_pow_iff (n := 2) (by decide)]
    refine ⟨r.natAbs, ?_⟩
    have q := congrArg Int.natAbs h
    rw [Int.natAbs_mul, Int.natAbs_mul, Int.natAbs_mul] at q
    rw [Nat.pow_two, Nat.pow_two]
    exact q.symm
  obtain ⟨c, hc⟩ := Int.natAbs_dvd_natAbs.mp d
  have e : A * A * (r - c * c) = 0 := by
    rw [hc] at h
    grind
  rcases Int.mul_eq_zero.mp e with z | z
  · exact absurd z (Int.mul_ne_zero hA hA)
  · exact isSq_of (c := c) (by omega)
def sqX (b r m : Int) : Int := m * m * b * b * r
def topF (a b r m : Int) : Int := if 0 ≤ b then m * a + isq (sqX b r m) else m * a - isq (sqX b r m) - (if isq (sqX b r m) * isq (sqX b r m) = sqX b r m then 0 else 1)
theorem sqX_nn {b r m : Int} (hr : 0 ≤ r) : 0 ≤ sqX b r m := by
  unfold sqX
  have s : ∀ x : Int, 0 ≤ x * x := fun x => by
    rcases (by omega : 0 ≤ x ∨ x ≤ 0) with z | z
    · exact Int.mul_nonneg z z
    · exact Int.mul_nonneg_of_nonpos_of_nonpos z z
  have e : m * m * b * b * r = (m * b) * (m * b) * r := by grind
  rw [e]
  exact Int.mul_nonneg (s _) hr
theorem sqX_up {b r m : Int} (hm : 0 < m) (hb : 0 ≤ b) : ss (m * b) * r = sqX b r m := by
  rw [ss_nn (Int.mul_nonneg (by omega) hb)]
  unfold sqX
  grind
theorem sqX_down {b r m : Int} (hm : 0 < m) (hb : b < 0) : ss (m * b) * r = - sqX b r m := by
  have e : m * b = -(m * -b) := by grind
  rw [e, ss_flip, ss_nn (Int.mul_nonneg (by omega) (by omega))]
  unfold sqX
  grind
theorem sq_cmp {x w X : Int} (hx : 0 ≤ x) (w0 : 0 ≤ w) (w1 : w * w ≤ X) (w2 : X < (w + 1) * (w + 1)) : x * x ≤ X ↔ x ≤ w := by
  constructor
  · intro h
    apply Decidable.byContradiction
    intro c
    have := sq_le (a := w + 1) (b := x) (by omega) (by omega)
    omega
  · intro h
    have := sq_le hx h
    omega
theorem sg_low {x : Int} : sg x ≠ -1 ↔ 0 ≤ x := by
  rcases tri x with h | h | h
  · rw [sg_neg h]
    omega
  · rw [h]
    decide
  · rw [sg_pos h]
    omega
theorem top_le {a b r m x : Int} (hr : 0 ≤ r) (hm : 0 < m) : x ≤ topF a b r m ↔ S2 (m * a - x) (ss (m * b) * r) ≠ -1 := by
  have n0 := sqX_nn (b := b) (m := m) hr
  unfold topF
  rcases (by omega : 0 ≤ b ∨ b < 0) with hb | hb
  · rw [if_pos hb, sqX_up hm hb]
    generalize sqX b r m = X at *
    have w0 := isq_nn X
    have w1 := isq_le n0
    have w2 := isq_lt n0
    generalize isq X = w at *
    generalize hy : m * a - x = y
    rcases (by omega : X = 0 ∨ 0 < X) with hX | hX
    · have w3 : w = 0 := by
        rcases (by omega : w = 0 ∨ 1 ≤ w) with z | z
        · exact z
        · have := Int.mul_le_mul z z (by omega) (by omega)
          omega
      rw [hX, S2_zero, sg_low]
      omega
    · rcases (by omega : 0 ≤ y ∨ y < 0) with h | h
      · rw [S2_pos h hX]
        omega
      · rw [S2_low h hX, sg_low]
        have := sq_cmp (x := -y) (by omega) w0 w1 w2
        rw [show -y * -y = y * y by grind] at this
        omega
  · rw [if_neg (by omega), sqX_down hm hb]
    generalize sqX b r m = X at *
    have w0 := isq_nn X
    have w1 := isq_le n0
    have w2 := isq_lt n0
    generalize isq X = w at *
    generalize hy : m * a - x = y
    rcases (by omega : X = 0 ∨ 0 < X) with hX | hX
    · have w3 : w = 0 := by
        rcases (by omega : w = 0 ∨ 1 ≤ w) with z | z
        · exact z
        · have := Int.mul_le_mul z z (by omega) (by omega)
          omega
      rw [hX, w3, if_pos (by decide), show -(0 : Int) = 0 from rfl, S2_zero, sg_low]
      omega
    · have w3 : 1 ≤ w := by
        rcases (by omega : w = 0 ∨ 1 ≤ w) with z | z
        · rw [z] at w2
          omega
        · exact z
      rcases (by omega : y ≤ 0 ∨ 0 < y) with h | h
      · rw [S2_neg h (by omega)]
        split <;> omega
      · rw [S2_high h (by omega), sg_low]
        have k1 := sq_cmp (x := y) (by omega) w0 w1 w2
        have k2 := sq_cmp (x := y - 1) (by omega) w0 w1 w2
        split
        · rename_i e
          constructor
          · intro l
            have := sq_le (a := w) (b := y) w0 (by omega)
            omega
          · intro l
            apply Decidable.byContradiction
            intro c
            have := sq_lt (a := y) (b := w) (by omega) (by omega)
            omega
        · rename_i e
          constructor
          · intro l
            have : ¬ y * y ≤ X := fun z => by
              have := k1.mp z
              omega
            omega
          · intro l
            apply Decidable.byContradiction
            intro c
            have : y ≤ w := by omega
            have z := k1.mpr this
            have e2 : y * y = X := by omega
            have := isq_uniq (n := X) (r := y) (by omega) (by omega) (by have := sq_lt (a := y) (b := y + 1) (by omega) (by omega); omega)
            rcases (by omega : y = w ∨ y < w) with q | q
            · rw [q] at e2
              exact e e2
            · have := sq_lt (a := y) (b := w) (by omega) q
              omega
theorem top_eq {a b r m x : Int} (hr : 0 ≤ r) (hm : 0 < m) : (isq (sqX b r m) * isq (sqX b r m) = sqX b r m ∧ topF a b r m = x) ↔ S2 (m * a - x) (ss (m * b) * r) = 0 := by
  have n0 := sqX_nn (b := b) (m := m) hr
  unfold topF
  rcases (by omega : 0 ≤ b ∨ b < 0) with hb | hb
  · rw [if_pos hb, sqX_up hm hb]
    generalize sqX b r m = X at *
    have w0 := isq_nn X
    have w1 := isq_le n0
    have w2 := isq_lt n0
    have un : ∀ y : Int, 0 ≤ y → y * y = X → isq X = y := fun y h e => isq_uniq h (by omega) (by have := sq_lt (a := y) (b := y + 1) h (by omega); omega)
    generalize isq X = w at *
    generalize hy : m * a - x = y
    rcases (by omega : X = 0 ∨ 0 < X) with hX | hX
    · have w3 : w = 0 := un 0 (by omega) (by omega)
      rw [hX, S2_zero, w3]
      constructor
      · intro z
        rw [show y = 0 by omega] <;> rfl
      · intro z
        have := sg_val.1 z
        exact ⟨rfl, by omega⟩
    · rcases (by omega : 0 ≤ y ∨ y < 0) with h | h
      · rw [S2_pos h hX]
        constructor
        · intro z
          have : w = -y := by omega
          have : w = 0 := by omega
          rw [this] at z
          omega
        · intro z
          cases z
      · rw [S2_low h hX]
        constructor
        · intro z
          have e : w = -y := by omega
          have e2 : w * w = y * y := by rw [e]; grind
          rw [show X - y * y = 0 by omega] <;> rfl
        · intro z
          have z' := sg_val.1 z
          have e := un (-y) (by omega) (by rw [show -y * -y = y * y by grind]; omega)
          rw [e]
          refine ⟨by rw [show -y * -y = y * y by grind]; omega, by omega⟩
  · rw [if_neg (by omega), sqX_down hm hb]
    generalize sqX b r m = X at *
    have w0 := isq_nn X
    have w1 := isq_le n0
    have w2 := isq_lt n0
    have un : ∀ y : Int, 0 ≤ y → y * y = X → isq X = y := fun y h e => isq_uniq h (by omega) (by have := sq_lt (a := y) (b := y + 1) h (by omega); omega)
    generalize isq X = w at *
    generalize hy : m * a - x = y
    rcases (by omega : X = 0 ∨ 0 < X) with hX | hX
    · have w3 : w = 0 := un 0 (by omega) (by omega)
      rw [hX, show -(0 : Int) = 0 from rfl, S2_zero, w3, if_pos (by decide)]
      constructor
      · intro z
        rw [show y = 0 by omega] <;> rfl
      · intro z
        have := sg_val.1 z
        exact ⟨rfl, by omega⟩
    · rcases (by omega : y ≤ 0 ∨ 0 < y) with h | h
      · rw [S2_neg h (by omega)]
        constructor
        · rintro ⟨z1, z2⟩
          rw [if_pos z1] at z2
          have : w = 0 := by omega
          rw [this] at z1
          omega
        · intro z
          cases z
      · rw [S2_high h (by omega)]
        constructor
        · rintro ⟨z1, z2⟩
          rw [if_pos z1] at z2
          have e : w = y := by omega
          rw [e] at z1
          rw [show y * y + -X = 0 by omega] <;> rfl
        · intro z
          have z' := sg_val.1 z
          have e := un y (by omega) (by omega)
          rw [e]
          have e3 : y * y = X := by omega
          exact ⟨e3, by rw [if_pos e3]; omega⟩
/-- the floor of m (a + b root r) / d, and whether it is just that -/
def flN (a b r d m : Int) : Int := topF a b r m / d
def flB (a b r d m : Int) : Bool := decide (S2 (m * a - flN a b r d m * d) (ss (m * b) * r) = 0)
theorem like_S2 {a b r d a' b' r' d' : Int} (l : Like a b r d a' b' r' d') (m n : Int) : S2 (m * a' - n * d') (ss (m * b') * r') = S2 (m * a - n * d) (ss (m * b) * r) := by
  obtain ⟨g, h, hg, hh, ed, w⟩ := l
  have top : ∀ x x' : Int, g * x' = h * x → g * (m * x' - n * d') = h * (m * x - n * d) := fun x x' p => by
    have k : g * (m * x' - n * d') = m * (g * x') - n * (g * d') := by grind
    rw [k, p, ed]
    grind
  rcases w with ⟨p1, p2⟩ | ⟨rfl, rfl, t, p1, p2⟩
  · refine S2_eq hg hh (top _ _ p1) ?_
    rw [ss_mul, ss_mul]
    have k : g * g * (ss m * ss b' * r') = ss m * (g * g * (ss b' * r')) := by grind
    rw [k, p2]
    grind
  · have k1 : ss (m * b) * r = ss (m * t) := by
      rw [ss_mul, ss_mul, p1]
      grind
    rw [Int.mul_zero, S2_zero, k1, S2_sq]
    refine sg_eq hg hh ?_
    rw [top _ _ p2]
    grind
theorem like_fl {a b r d a' b' r' d' m : Int} (l : Like a b r d a' b' r' d') (hd : 0 < d) (hd' : 0 < d') (hr : 0 ≤ r) (hr' : 0 ≤ r') (hm : 0 < m) : flN a' b' r' d' m = flN a b r d m := by
  have e : ∀ x : Int, x ≤ flN a' b' r' d' m ↔ x ≤ flN a b r d m := fun x => by
    unfold flN
    rw [Int.le_ediv_iff_mul_le hd, Int.le_ediv_iff_mul_le hd', top_le hr' hm, top_le hr hm, like_S2 l]
  have h1 := (e _).mp (Int.le_refl _)
  have h2 := (e _).mpr (Int.le_refl _)
  omega
/-- a + b root r over d, not too great -/
def Numb (a b r d : Int) : Prop := a.natAbs < 2 ^ 160 ∧ b.natAbs < 2 ^ 160 ∧ r.natAbs < 2 ^ 160 ∧ d.natAbs < 2 ^ 160 ∧ 0 ≤ r ∧ 0 < d
theorem gcd_cut {g x y z : Int} (hg : 0 < g) (h : gcdI (gcdI (g * x) (g * y)) (g * z) = g) : gcdI (gcdI x y) z = 1 := by
  have up : ∀ u v : Int, gcdI (g * u) (g * v) = g * gcdI u v := fun u v => by
    unfold gcdI
    rw [Int.natAbs_mul, Int.natAbs_mul, Nat.gcd_mul_left, Int.natCast_mul]
    have : ((g.natAbs : Nat) : Int) = g := by omega
    rw [this]
  rw [up, up] at h
  have e : g * (gcdI (gcdI x y) z - 1) = 0 := by
    rw [Int.mul_sub, h]
    omega
  rcases Int.mul_eq_zero.mp e with k | k
  · omega
  · omega
theorem quad_num {a b r d : Int} (hd : 0 < d) (hr : 0 ≤ r) (hb : b ≠ 0) (hsq : isSqB r = false) (up : Bool) : isRootB (quadD (d * d) (0 - 2 * a * d) (a * a - b * b * r) up) = true := by
  have r0 : 0 < r := by
    rcases (by omega : 0 < r ∨ r = 0) with z | z
    · exact z
    · rw [z] at hsq
      exact absurd hsq (by decide +kernel)
  unfold quadD
  have g0 := gcd_pos3 (a := 0 - 2 * a * d) (b := a * a - b * b * r) hd
  have d1 : gcdI (gcdI (d * d) (0 - 2 * a * d)) (a * a - b * b * r) ∣ d * d := Int.dvd_trans (gcd_dvd_l _ _) (gcd_dvd_l _ _)
  have d2 : gcdI (gcdI (d * d) (0 - 2 * a * d)) (a * a - b * b * r) ∣ 0 - 2 * a * d := Int.dvd_trans (gcd_dvd_l _ _) (gcd_dvd_r _ _)
  have d3 : gcdI (gcdI (d * d) (0 - 2 * a * d)) (a * a - b * b * r) ∣ a * a - b * b * r := gcd_dvd_r _ _
  have k1 := fdiv_of g0 d1
  have k2 := fdiv_of g0 d2
  have k3 := fdiv_of g0 d3
  have one := gcd_cut (x := (d * d).fdiv (gcdI (gcdI (d * d) (0 - 2 * a * d)) (a * a - b * b * r))) (y := (0 - 2 * a * d).fdiv (gcdI (gcdI (d * d) (0 - 2 * a * d)) (a * a - b * b * r))) (z := (a * a - b * b * r).fdiv (gcdI (gcdI (d * d) (0 - 2 * a * d)) (a * a - b * b * r))) g0 (by rw [k1, k2, k3])
  generalize gcdI (gcdI (d * d) (0 - 2 * a * d)) (a * a - b * b * r) = g at *
  generalize (d * d).fdiv g = p at *
  generalize (0 - 2 * a * d).fdiv g = q at *
  generalize (a * a - b * b * r).fdiv g = s at *
  have dd : 0 < d * d := Int.mul_pos hd hd
  have p0 : 0 < p := by
    apply Decidable.byContradiction
    intro z
    have : g * p ≤ 0 := Int.mul_nonpos_of_nonneg_of_nonpos (by omega) (by omega)
    omega
  have key : g * g * (q * q - 4 * p * s) = 4 * (d * d) * (b * b * r) := by
    have x : g * g * (q * q - 4 * p * s) = (g * q) * (g * q) - 4 * (g * p) * (g * s) := by grind
    rw [x, k1, k2, k3]
    grind
  have bb : 0 < b * b := by
    rcases (by omega : 0 < b ∨ b < 0) with z | z
    · exact Int.mul_pos z z
    · exact Int.mul_pos_of_neg_of_neg z z
  have rp : 0 < q * q - 4 * p * s := by
    apply Decidable.byContradiction
    intro z
    have n1 : g * g * (q * q - 4 * p * s) ≤ 0 := Int.mul_nonpos_of_nonneg_of_nonpos (Int.mul_nonneg (by omega) (by omega)) (by omega)
    have n2 : 0 < 4 * (d * d) * (b * b * r) := Int.mul_pos (by omega) (Int.mul_pos bb r0)
    omega
  have ns : isSqB (q * q - 4 * p * s) = false := by
    cases z : isSqB (q * q - 4 * p * s)
    · rfl
    · exfalso
      unfold isSqB at z
      simp only [Bool.and_eq_true, decide_eq_true_eq] at z
      have x := sq_free (A := 2 * d * b) (B := g * isq (q * q - 4 * p * s)) (r := r) (Int.mul_ne_zero (by omega) hb) (by
        have y : g * isq (q * q - 4 * p * s) * (g * isq (q * q - 4 * p * s)) = g * g * (isq (q * q - 4 * p * s) * isq (q * q - 4 * p * s)) := by grind
        rw [y, z.2, key]
        grind) (by omega)
      rw [x] at hsq
      cases hsq
  show (decide (0 < p) && (decide (gcdI (gcdI p q) s = 1) && (decide (0 < under p q s) && !isSqB (under p q s)))) = true
  have eu : under p q s = q * q - 4 * p * s := rfl
  rw [eu, ns, decide_eq_true p0, decide_eq_true one, decide_eq_true rp] <;> rfl
theorem form_num {a b r d : Int} (hd : 0 < d) (hr : 0 ≤ r) : isNumB (formD a b r d) = true := by
  unfold formD isNumB
  split
  · have fr := red_fr (a := a + b * isq r) hd
    have e : isFrB (fracD (a + b * isq r) d) = true := by
      show (decide (0 < redD (a + b * isq r) d) && decide (gcdI (redN (a + b * isq r) d) (redD (a + b * isq r) d) = 1)) = true
      rw [decide_eq_true fr.1, decide_eq_true fr.2] <;> rfl
    rw [e, Bool.true_or]
  · rename_i c
    have hsq : isSqB r = false := by
      cases z : isSqB r
      · rfl
      · exact absurd (.inr z) c
    rw [quad_num hd hr (fun z => c (.inl z)) hsq, Bool.or_true]
theorem form_fine {a b r d : Int} (h : Numb a b r d) : fine 500 (formD a b r d) := by
  obtain ⟨za, zb, zr, zd, hr, hd⟩ := h
  unfold formD
  split
  · have zs := isq_small zr
    have m := mul_lt zb zs
    have ad := add_lt (two_le za (show 160 ≤ 320 by decide)) m
    have le := red_le (a := a + b * isq r) hd
    exact ⟨two_le (m := 321) (by omega) (by decide), two_le (m := 160) (by omega) (by decide), trivial⟩
  · have g := gcd_pos3 (a := 0 - 2 * a * d) (b := a * a - b * b * r) hd
    have w1 := mul_lt zd zd
    have w2 : (2 * a : Int).natAbs < 2 ^ (2 + 160) := mul_lt (by decide) za
    have w3 := mul_lt w2 zd
    have w4 := mul_lt za za
    have w5 := mul_lt zb zb
    have w6 := mul_lt w5 zr
    have s1 : (0 - 2 * a * d : Int).natAbs < 2 ^ (322 + 1) := sub_lt (by decide) (two_le w3 (by decide))
    have s2 : (a * a - b * b * r : Int).natAbs < 2 ^ (480 + 1) := sub_lt (two_le w4 (by decide)) (two_le w6 (by decide))
    exact ⟨fdiv_le g (two_le w1 (by decide)), fdiv_le g (two_le s1 (by decide)), fdiv_le g (two_le s2 (by decide)), trivial, trivial⟩
theorem red_uniq {p q p' q' : Int} (h : IsFr p q) (h' : IsFr p' q') (e : p * q' = p' * q) : p = p' ∧ q = q' := by
  obtain ⟨q0, g⟩ := h
  obtain ⟨q0', g'⟩ := h'
  have co : Nat.Coprime p.natAbs q.natAbs := by
    unfold gcdI at g
    show Nat.gcd _ _ = 1
    omega
  have co' : Nat.Coprime p'.natAbs q'.natAbs := by
    unfold gcdI at g'
    show Nat.gcd _ _ = 1
    omega
  have en := congrArg Int.natAbs e
  rw [Int.natAbs_mul, Int.natAbs_mul] at en
  have d1 : q.natAbs ∣ q'.natAbs := Nat.Coprime.dvd_of_dvd_mul_left (Nat.Coprime.symm co) ⟨p'.natAbs, by rw [en, Nat.mul_comm]⟩
  have d2 : q'.natAbs ∣ q.natAbs := Nat.Coprime.dvd_of_dvd_mul_left (Nat.Coprime.symm co') ⟨p.natAbs, by rw [← en, Nat.mul_comm]⟩
  have eq : q = q' := by
    have := Nat.dvd_antisymm d1 d2
    omega
  subst eq
  refine ⟨?_, rfl⟩
  have z : (p - p') * q = 0 := by
    rw [Int.sub_mul, e]
    omega
  rcases Int.mul_eq_zero.mp z with k | k <;> omega
theorem red_cross {a b : Int} (hb : 0 < b) : redN a b * b = a * redD a b := by
  obtain ⟨e1, e2⟩ := red_pos (a := a) hb
  have g := gcd_pos (a := a) (b := b) (by omega)
  have k1 : gcdI a b * redN a b = a := by rw [e1]; exact Int.mul_ediv_cancel' (gcd_dvd_l _ _)
  have k2 : gcdI a b * redD a b = b := by rw [e2]; exact Int.mul_ediv_cancel' (gcd_dvd_r _ _)
  generalize redN a b = x at *
  generalize redD a b = y at *
  generalize gcdI a b = z at *
  rw [← k1, ← k2]
  grind
theorem red_congr {a b c d : Int} (hb : 0 < b) (hd : 0 < d) (e : a * d = c * b) : redN a b = redN c d ∧ redD a b = redD c d := by
  refine red_uniq (red_fr hb) (red_fr hd) ?_
  have x := red_cross (a := a) hb
  have y := red_cross (a := c) hd
  generalize redN a b = p at *
  generalize redD a b = q at *
  generalize redN c d = p' at *
  generalize redD c d = q' at *
  have z : (b * d) * (p * q' - p' * q) = 0 := by
    have k : (b * d) * (p * q' - p' * q) = (p * b) * (d * q') - (p' * d) * (b * q) := by grind
    rw [k, x, y]
    have k2 : a * q * (d * q') - c * q' * (b * q) = (a * d - c * b) * (q * q') := by grind
    rw [k2, e]
    grind
  rcases Int.mul_eq_zero.mp z with k | k
  · exact absurd k (Int.mul_ne_zero (by omega) (by omega))
  · omega
theorem redN_neg {a b : Int} (hb : 0 < b) : redN (-a) b = - redN a b ∧ redD (-a) b = redD a b := by
  have f := red_fr (a := a) hb
  refine red_uniq (p' := - redN a b) (q' := redD a b) (red_fr (a := -a) hb) ⟨f.1, ?_⟩ ?_
  · have g := f.2
    unfold gcdI at g ⊢
    rw [Int.natAbs_neg]
    exact g
  · have x := red_cross (a := -a) hb
    have y := red_cross (a := a) hb
    generalize redN (-a) b = p at *
    generalize redD (-a) b = q at *
    generalize redN a b = p' at *
    generalize redD a b = q' at *
    have z : b * (p * q' - -p' * q) = 0 := by
      have k : b * (p * q' - -p' * q) = (p * b) * q' + (p' * b) * q := by grind
      rw [k, x, y]
      grind
    rcases Int.mul_eq_zero.mp z with k | k <;> omega
/-- a fraction in its one form is its own value -/
theorem fr_self {a b : Int} (h : IsFr a b) : redN a b = a ∧ redD a b = b := by
  have f := red_fr (a := a) h.1
  refine red_uniq f h ?_
  have x := red_cross (a := a) h.1
  rw [x]
theorem gcd_up {k : Int} (hk : 0 < k) (x y : Int) : gcdI (k * x) (k * y) = k * gcdI x y := by
  unfold gcdI
  rw [Int.natAbs_mul, Int.natAbs_mul, Nat.gcd_mul_left, Int.natCast_mul]
  have : ((k.natAbs : Nat) : Int) = k := by omega
  rw [this]
theorem gcd_nn (a b : Int) : 0 ≤ gcdI a b := by
  unfold gcdI
  exact Int.natCast_nonneg _
theorem quad_up {k p q s : Int} (u : Bool) (hk : 0 < k) : quadD (k * p) (k * q) (k * s) u = quadD p q s u := by
  have g := gcd_nn (gcdI p q) s
  have e : ∀ x : Int, (k * x).fdiv (k * gcdI (gcdI p q) s) = x.fdiv (gcdI (gcdI p q) s) := fun x => by
    rw [Int.fdiv_eq_ediv_of_nonneg _ (Int.mul_nonneg (by omega) g), Int.fdiv_eq_ediv_of_nonneg _ g, Int.mul_ediv_mul_of_pos _ _ hk]
  unfold quadD
  rw [gcd_up hk, gcd_up hk, e, e, e]
theorem quad_congr {k l p q s p' q' s' : Int} (u : Bool) (hk : 0 < k) (hl : 0 < l) (e1 : k * p = l * p') (e2 : k * q = l * q') (e3 : k * s = l * s') : quadD p q s u = quadD p' q' s' u := by
  rw [← quad_up u hk, ← quad_up (p := p') u hl, e1, e2, e3]
theorem ss_inj {x y : Int} (h : ss x = ss y) : x = y := by
  have s : sg x = sg y := by rw [← sg_ss x, ← sg_ss y, h]
  have a : x * x = y * y := by rw [← ab_ss x, ← ab_ss y, h]
  have n : (x - y) * (x + y) = 0 := by
    have : (x - y) * (x + y) = x * x - y * y := by grind
    omega
  rcases Int.mul_eq_zero.mp n with k | k
  · omega
  · have e : x = -y := by omega
    rcases tri y with z | z | z
    · rw [sg_neg z, sg_pos (by omega)] at s
      cases s
    · omega
    · rw [sg_pos z, sg_neg (by omega)] at s
      cases s
/-- the same value, each on its own root -/
def Alike (a b r d a' b' r' d' : Int) : Prop := ∃ g h : Int, 0 < g ∧ 0 < h ∧ g * d' = h * d ∧ g * a' = h * a ∧ g * g * (ss b' * r') = h * h * (ss b * r)
theorem Alike.symm {a b r d a' b' r' d' : Int} (l : Alike a b r d a' b' r' d') : Alike a' b' r' d' a b r d := by
  obtain ⟨g, h, hg, hh, e1, e2, e3⟩ := l
  exact ⟨h, g, hh, hg, e1.symm, e2.symm, e3.symm⟩
theorem isSq_root {r : Int} (h : isSqB r = true) : isq r * isq r = r := by
  unfold isSqB at h
  simp only [Bool.and_eq_true, decide_eq_true_eq] at h
  exact h.2
theorem alike_flat {a b r d a' b' r' d' : Int} (l : Alike a b r d a' b' r' d') (hr' : 0 ≤ r') (c : b = 0 ∨ isSqB r = true) : b' = 0 ∨ isSqB r' = true := by
  obtain ⟨g, h, hg, hh, e1, e2, e3⟩ := l
  rcases (by omega : b' = 0 ∨ b' ≠ 0) with k | k
  · exact .inl k
  refine .inr ?_
  have sq : ∃ t, ss b * r = ss t := by
    rcases c with c | c
    · exact ⟨0, by rw [c, show ss 0 = 0 from rfl, Int.zero_mul]⟩
    · exact ⟨b * isq r, by rw [ss_mul, ss_nn (isq_nn r), isSq_root c]⟩
  obtain ⟨t, ht⟩ := sq
  have ab2 := congrArg ab e3
  rw [ab_mul, ab_mul (ss b'), ab_ss, ht, ab_mul (h * h), ab_ss, ab_nn (x := g * g) (Int.mul_nonneg (by omega) (by omega)), ab_nn (x := h * h) (Int.mul_nonneg (by omega) (by omega)), ab_nn hr'] at ab2
  refine sq_free (A := g * b') (B := h * t) (Int.mul_ne_zero (by omega) k) ?_ hr'
  grind
theorem form_same {a b r d a' b' r' d' : Int} (l : Alike a b r d a' b' r' d') (hd : 0 < d) (hd' : 0 < d') (hr : 0 ≤ r) (hr' : 0 ≤ r') : formD a b r d = formD a' b' r' d' := by
  unfold formD
  by_cases c : b = 0 ∨ isSqB r = true
  · have c' := alike_flat l hr' c
    rw [if_pos c, if_pos c']
    obtain ⟨g, h, hg, hh, e1, e2, e3⟩ := l
    have rt : ∀ {b r : Int}, (b = 0 ∨ isSqB r = true) → ss b * r = ss (b * isq r) := fun {b r} c => by
      rcases c with c | c
      · rw [c, show ss 0 = 0 from rfl, Int.zero_mul, Int.zero_mul] <;> rfl
      · rw [ss_mul, ss_nn (isq_nn r), isSq_root c]
    rw [rt c, rt c', ← ss_up hg, ← ss_up hh] at e3
    have e4 := ss_inj e3
    generalize b * isq r = x at *
    generalize b' * isq r' = y at *
    obtain ⟨k1, k2⟩ := red_congr (a := a + x) (b := d) (c := a' + y) (d := d') hd hd' (by
      have z : g * ((a + x) * d' - (a' + y) * d) = 0 := by
        have k : g * ((a + x) * d' - (a' + y) * d) = (a + x) * (g * d') - (g * a' + g * y) * d := by grind
        rw [k, e1, e2, e4]
        grind
      rcases Int.mul_eq_zero.mp z with k | k <;> omega)
    unfold fracD
    rw [k1, k2]
  · have c' : ¬ (b' = 0 ∨ isSqB r' = true) := fun z => c (alike_flat l.symm hr z)
    rw [if_neg c, if_neg c']
    obtain ⟨g, h, hg, hh, e1, e2, e3⟩ := l
    have pos : ∀ {b r : Int}, 0 ≤ r → ¬ (b = 0 ∨ isSqB r = true) → 0 < r ∧ b ≠ 0 := fun {b r} hr c => by
      refine ⟨?_, fun z => c (.inl z)⟩
      rcases (by omega : 0 < r ∨ r = 0) with z | z
      · exact z
      · exact absurd (.inr (by rw [z]; decide +kernel)) c
    obtain ⟨r0, b0⟩ := pos hr c
    obtain ⟨r0', b0'⟩ := pos hr' c'
    have gg : 0 < g * g := Int.mul_pos hg hg
    have hhp : 0 < h * h := Int.mul_pos hh hh
    have sgb : sg b' = sg b := by
      have q := congrArg sg e3
      rw [sg_up gg, sg_up hhp, sg_mul, sg_mul, sg_ss, sg_ss, sg_pos r0, sg_pos r0', Int.mul_one, Int.mul_one] at q
      exact q
    have up : decide (0 < b) = decide (0 < b') := by
      rcases tri b with z | z | z
      · have k := sgb
        rw [sg_neg z] at k
        have := sg_val.2.2 k
        rw [Bool.eq_iff_iff]
        simp only [decide_eq_true_eq]
        omega
      · exact absurd z b0
      · have k := sgb
        rw [sg_pos z] at k
        have := sg_val.2.1 k
        rw [Bool.eq_iff_iff]
        simp only [decide_eq_true_eq]
        omega
    have ab2 := congrArg ab e3
    rw [ab_mul, ab_mul (ss b'), ab_ss, ab_mul (h * h), ab_mul (ss b), ab_ss, ab_nn (x := g * g) (by omega), ab_nn (x := h * h) (by omega), ab_nn hr, ab_nn hr'] at ab2
    rw [up]
    refine quad_congr _ hhp gg ?_ ?_ ?_
    · have k : h * h * (d * d) = (h * d) * (h * d) := by grind
      rw [k, ← e1]
      grind
    · have k : h * h * (0 - 2 * a * d) = -(2 * (h * a) * (h * d)) := by grind
      rw [k, ← e1, ← e2]
      grind
    · have k : h * h * (a * a - b * b * r) = (h * a) * (h * a) - h * h * (b * b * r) := by grind
      rw [k, ← e2, ← ab2]
      grind
end Lw

namespace Lw
open PySem L2
def Fine4 (a b r d : Int) : Prop := a.natAbs < 2 ^ 5300 ∧ b.natAbs < 2 ^ 900 ∧ r.natAbs < 2 ^ 10600 ∧ d.natAbs < 2 ^ 5300
/-- a number's form by data; its spread: a + b root r over d -/
def NumD (x : PyData) (a b r d : Int) : Prop :=
  (x = .tuple [.int a, .int d] ∧ b = 0 ∧ r = 0) ∨
  ∃ (p q s : Int) (u : Bool), x = .tuple [.int p, .int q, .int s, .bool u] ∧ a = -q ∧ b = (if u = true then 1 else -1) ∧ r = q * q - 4 * p * s ∧ d = 2 * p ∧ p.natAbs < 2 ^ 5300 ∧ q.natAbs < 2 ^ 5300 ∧ s.natAbs < 2 ^ 5300
/-- a form as a number -/
theorem form_d {a b r d : Int} (hd : 0 < d) (hr : 0 ≤ r) (za : a.natAbs < 2 ^ 2600) (zb : b.natAbs < 2 ^ 1740) (zr : r.natAbs < 2 ^ 1715) (zd : d.natAbs < 2 ^ 2600) :
    ∃ a' b' r' d', NumD (formD a b r d) a' b' r' d' ∧ Like a b r d a' b' r' d' ∧ 0 < d' ∧ Okay b' r' ∧ Fine4 a' b' r' d' ∧ (b' ≠ 0 → isSqB r' = false) := by
  unfold formD
  split
  · rename_i c
    have g0 := gcd_pos (a := a + b * isq r) (b := d) (by omega)
    obtain ⟨e1, e2⟩ := red_pos (a := a + b * isq r) hd
    have le := red_le (a := a + b * isq r) hd
    have fr := red_fr (a := a + b * isq r) hd
    have m := mul_lt zb (isq_small zr)
    have ad := add_lt (two_le za (show 2600 ≤ 3455 by decide)) (two_le m (show 1740 + 1715 ≤ 3455 by decide))
    refine ⟨_, 0, 0, _, .inl ⟨rfl, rfl, rfl⟩, ⟨_, 1, g0, by decide, ?_, .inr ⟨rfl, rfl, b * isq r, ?_, ?_⟩⟩, fr.1, .inl rfl, ⟨two_le (m := 3456) (by omega) (by decide), by decide, by decide, two_le (m := 2600) (by omega) (by decide)⟩, fun z => absurd rfl z⟩
    · rw [e2, Int.one_mul]
      exact Int.mul_ediv_cancel' (gcd_dvd_r _ _)
    · rcases c with c | c
      · rw [c, Int.zero_mul] <;> simp [show ss 0 = 0 from rfl]
      · unfold isSqB at c
        simp only [Bool.and_eq_true, decide_eq_true_eq] at c
        rw [ss_mul, ss_nn (isq_nn r), c.2]
    · rw [e1, Int.one_mul]
      exact Int.mul_ediv_cancel' (gcd_dvd_l _ _)
  · rename_i c
    have hb : b ≠ 0 := fun z => c (.inl z)
    have hsq : isSqB r = false := by
      cases z : isSqB r
      · rfl
      · exact absurd (.inr z) c
    have r0 : 0 < r := by
      rcases (by omega : 0 < r ∨ r = 0) with z | z
      · exact z
      · rw [z] at hsq
        exact absurd hsq (by decide +kernel)
    have g0 := gcd_pos3 (a := 0 - 2 * a * d) (b := a * a - b * b * r) hd
    have d1 : gcdI (gcdI (d * d) (0 - 2 * a * d)) (a * a - b * b * r) ∣ d * d := Int.dvd_trans (gcd_dvd_l _ _) (gcd_dvd_l _ _)
    have d2 : gcdI (gcdI (d * d) (0 - 2 * a * d)) (a * a - b * b * r) ∣ 0 - 2 * a * d := Int.dvd_trans (gcd_dvd_l _ _) (gcd_dvd_r _ _)
    have d3 : gcdI (gcdI (d * d) (0 - 2 * a * d)) (a * a - b * b * r) ∣ a * a - b * b * r := gcd_dvd_r _ _
    have w1 := mul_lt zd zd
    have w2 : (2 * a : Int).natAbs < 2 ^ (2 + 2600) := mul_lt (by decide) za
    have w3 := mul_lt w2 zd
    have w4 := mul_lt za za
    have w5 := mul_lt zb zb
    have w6 := mul_lt w5 zr
    have s1 : (0 - 2 * a * d : Int).natAbs < 2 ^ (5202 + 1) := sub_lt (by decide) (two_le w3 (by decide))
    have s2 : (a * a - b * b * r : Int).natAbs < 2 ^ (5200 + 1) := sub_lt (two_le w4 (by decide)) (two_le w6 (by decide))
    have f1 := fdiv_le g0 (two_le w1 (show 2600 + 2600 ≤ 5250 by decide))
    have f2 := fdiv_le g0 (two_le s1 (show 5202 + 1 ≤ 5250 by decide))
    have f3 := fdiv_le g0 (two_le s2 (show 5200 + 1 ≤ 5250 by decide))
    have k1 := fdiv_of g0 d1
    have k2 := fdiv_of g0 d2
    have k3 := fdiv_of g0 d3
    obtain ⟨p, hgp⟩ : ∃ p, (d * d).fdiv (gcdI (gcdI (d * d) (0 - 2 * a * d)) (a * a - b * b * r)) = p := ⟨_, rfl⟩
    obtain ⟨q, hgq⟩ : ∃ p, (0 - 2 * a * d).fdiv (gcdI (gcdI (d * d) (0 - 2 * a * d)) (a * a - b * b * r)) = p := ⟨_, rfl⟩
    obtain ⟨s, hgs⟩ : ∃ p, (a * a - b * b * r).fdiv (gcdI (gcdI (d * d) (0 - 2 * a * d)) (a * a - b * b * r)) = p := ⟨_, rfl⟩
    rw [hgp] at f1 k1
    rw [hgq] at f2 k2
    rw [hgs] at f3 k3
    generalize hg : gcdI (gcdI (d * d) (0 - 2 * a * d)) (a * a - b * b * r) = g at *
    have dd : 0 < d * d := Int.mul_pos hd hd
    have p0 : 0 < p := by
      apply Decidable.byContradiction
      intro z
      have : g * p ≤ 0 := Int.mul_nonpos_of_nonneg_of_nonpos (by omega) (by omega)
      omega
    have key : g * g * (q * q - 4 * p * s) = 4 * (d * d) * (b * b * r) := by
      have x : g * g * (q * q - 4 * p * s) = (g * q) * (g * q) - 4 * (g * p) * (g * s) := by grind
      rw [x, k1, k2, k3]
      grind
    have bb : 0 < b * b := by
      rcases (by omega : 0 < b ∨ b < 0) with z | z
      · exact Int.mul_pos z z
      · exact Int.mul_pos_of_neg_of_neg z z
    have rp : 0 < q * q - 4 * p * s := by
      apply Decidable.byContradiction
      intro z
      have n1 : g * g * (q * q - 4 * p * s) ≤ 0 := Int.mul_nonpos_of_nonneg_of_nonpos (Int.mul_nonneg (by omega) (by omega)) (by omega)
      have n2 : 0 < 4 * (d * d) * (b * b * r) := Int.mul_pos (by omega) (Int.mul_pos bb r0)
      omega
    have y1 := mul_lt f2 f2
    have y2 : (4 * p : Int).natAbs < 2 ^ (3 + 5250) := mul_lt (by decide) f1
    have y3 := mul_lt y2 f3
    refine ⟨-q, (if decide (0 < b) = true then 1 else -1), q * q - 4 * p * s, 2 * p, .inr ⟨p, q, s, decide (0 < b), by unfold quadD; rw [hg, hgp, hgq, hgs], rfl, rfl, rfl, rfl, two_le f1 (by decide), two_le f2 (by decide), two_le f3 (by decide)⟩,
      ⟨g, 2 * d, g0, by omega, by grind, .inl ⟨by grind, ?_⟩⟩, by omega, .inr rp, ⟨two_le (m := 5250) (by omega) (by decide), by split <;> decide, two_le (sub_lt (two_le y1 (show 5250 + 5250 ≤ 10510 by decide)) (two_le y3 (show 3 + 5250 + 5250 ≤ 10510 by decide))) (by decide), two_le (m := 5252) (by omega) (by decide)⟩, fun _ => ?_⟩
    rotate_left
    · cases z : isSqB (q * q - 4 * p * s)
      · rfl
      · exfalso
        unfold isSqB at z
        simp only [Bool.and_eq_true, decide_eq_true_eq] at z
        have x := sq_free (A := 2 * d * b) (B := g * isq (q * q - 4 * p * s)) (r := r) (Int.mul_ne_zero (by omega) hb) (by
          have y : g * isq (q * q - 4 * p * s) * (g * isq (q * q - 4 * p * s)) = g * g * (isq (q * q - 4 * p * s) * isq (q * q - 4 * p * s)) := by grind
          rw [y, z.2, key]
          grind) (by omega)
        rw [x] at hsq
        cases hsq
    rcases (by omega : 0 < b ∨ b < 0) with z | z
    · rw [if_pos (decide_eq_true z), show ss 1 = 1 from rfl, ss_nn (by omega), Int.one_mul, key]
      grind
    · have zz : ¬ decide (0 < b) = true := by simp; omega
      have sb : ss b = -(b * b) := by
        unfold ss
        rw [ab_np (by omega)]
        grind
      rw [if_neg zz, show ss (-1) = -1 from rfl, sb]
      have x : g * g * (-1 * (q * q - 4 * p * s)) = -(g * g * (q * q - 4 * p * s)) := by grind
      rw [x, key]
      grind
theorem num_bits_d {x : PyData} {a b r d : Int} (n : NumD x a b r d) (f : fine 500 x) : a.natAbs < 2 ^ 500 ∧ b.natAbs < 2 ^ 2 ∧ r.natAbs < 2 ^ 1005 ∧ d.natAbs < 2 ^ 502 := by
  rcases n with ⟨rfl, rfl, rfl⟩ | ⟨p, q, s, u, rfl, rfl, rfl, rfl, rfl, _, _, _⟩
  · exact ⟨f.1, by decide, by decide, two_le f.2.1 (by decide)⟩
  · obtain ⟨z1, z2, z3, _⟩ := f
    have z1' : p.natAbs < 2 ^ 500 := z1
    have z2' : q.natAbs < 2 ^ 500 := z2
    have z3' : s.natAbs < 2 ^ 500 := z3
    have y1 := mul_lt z2' z2'
    have y2 := mul_lt (mul_lt (show (4 : Int).natAbs < 2 ^ 3 by decide) z1') z3'
    have y3 := sub_lt (two_le y1 (show 500 + 500 ≤ 1003 by decide)) (two_le y2 (show 3 + 500 + 500 ≤ 1003 by decide))
    exact ⟨by omega, by split <;> decide, two_le y3 (by decide), two_le (mul_lt (show (2 : Int).natAbs < 2 ^ 2 by decide) z1') (by decide)⟩
theorem num_r0 {x : PyData} {a b r d : Int} (n : NumD x a b r d) (o : Okay b r) : 0 ≤ r := by
  rcases o with o | o
  · rcases n with ⟨_, _, e⟩ | ⟨p', q', s', u', _, _, e, _⟩
    · omega
    · rw [e] at o
      split at o <;> cases o
  · omega
theorem fl_wide {a b r d m : Int} (za : a.natAbs < 2 ^ 160) (zb : b.natAbs < 2 ^ 160) (zr : r.natAbs < 2 ^ 160) (zm : m.natAbs < 2 ^ 20) : (flN a b r d m).natAbs < 2 ^ 602 := by
  have e : topF a b r m = (if 0 ≤ b then m * a + isq (sqX b r m) else m * a - isq (sqX b r m) - (if isq (sqX b r m) * isq (sqX b r m) = sqX b r m then 0 else 1)) := rfl
  have w1 := mul_lt zm za
  have w2 := isq_small (mul_lt (mul_lt (mul_lt (mul_lt zm zm) zb) zb) zr)
  have w3 := two_le w1 (show 20 + 160 ≤ 600 by decide)
  have w4 := two_le w2 (show 20 + 20 + 160 + 160 + 160 ≤ 600 by decide)
  have w5 : (isq (sqX b r m)).natAbs < 2 ^ 600 := w4
  have w6 : (topF a b r m).natAbs < 2 ^ 602 := by
    rw [e]
    split
    · omega
    · split <;> omega
  have w7 : (flN a b r d m).natAbs ≤ (topF a b r m).natAbs := Int.natAbs_ediv_le_natAbs _ _
  omega
theorem like_refl (a b r d : Int) : Like a b r d a b r d := ⟨1, 1, by decide, by decide, rfl, .inl ⟨rfl, rfl⟩⟩
theorem near_cmp {n A B R W a3 b3 r3 d3 : Int} (l : Like A B R W a3 b3 r3 d3) : cmp n 0 0 1 a3 b3 r3 d3 = - S2 (A - n * W) (ss B * R) := by
  rw [cmp_like (like_refl n 0 0 1) l, ← S2_flip]
  unfold cmp
  have k2 : ss (0 * W) * 0 = ss 0 := by rw [Int.mul_zero] <;> rfl
  have k3 : ss (0 - B * 1) * R = -(ss B * R) := by
    rw [show 0 - B * 1 = -B by omega, ss_flip]
    grind
  rw [k2, S3_sq, k3]
  congr 1
  grind
end Lw

namespace Lw
open PySem L2
/-! ### numbers p + q root r over one r, their order -/
/-- p + q root r is from 0 on, by squares -/
def NN (p q r : Int) : Prop := (0 ≤ p ∧ 0 ≤ q) ∨ (0 ≤ p ∧ q * q * r ≤ p * p) ∨ (0 ≤ q ∧ p * p ≤ q * q * r)
theorem sq_mono {a b : Int} (h0 : 0 ≤ a) (h : a ≤ b) : a * a ≤ b * b := Int.mul_le_mul h h h0 (by omega)
theorem sq_back {a b : Int} (hb : 0 ≤ b) (h : a * a ≤ b * b) : a ≤ b := by
  apply Decidable.byContradiction
  intro c
  have := sq_lt hb (show b < a by omega)
  omega
theorem sq_nn (a : Int) : 0 ≤ a * a := by
  rcases (by omega : 0 ≤ a ∨ a ≤ 0) with h | h
  · exact Int.mul_nonneg h h
  · exact Int.mul_nonneg_of_nonpos_of_nonpos h h
theorem sq_pos {a : Int} (h : a ≠ 0) : 0 < a * a := by
  rcases (by omega : 0 < a ∨ a < 0) with h | h
  · exact Int.mul_pos h h
  · exact Int.mul_pos_of_neg_of_neg h h
theorem cut_sq {y a b : Int} (hy : y ≠ 0) (h : y * y * a ≤ y * y * b) : a ≤ b := Int.le_of_mul_le_mul_left h (sq_pos hy)
theorem nn_iff {p q r : Int} (hr : 0 ≤ r) : S2 p (ss q * r) ≠ -1 ↔ NN p q r := by
  rcases (by omega : r = 0 ∨ 0 < r) with h | h
  · subst h
    rw [Int.mul_zero, S2_zero, sg_low]
    unfold NN
    rw [Int.mul_zero]
    constructor
    · intro k
      exact .inr (.inl ⟨k, sq_nn p⟩)
    · rintro (k | k | k)
      · exact k.1
      · exact k.1
      · apply Decidable.byContradiction
        intro z
        have := sq_pos (a := p) (by omega)
        omega
  · rw [S2_form (.inr h)]
    unfold NN
    have hq := fun (z : q ≠ 0) => Int.mul_pos (sq_pos z) h
    rcases tri p with hp | hp | hp <;> rcases tri q with hk | hk | hk
    · rw [sg_neg hp, sg_neg hk, if_pos (.inl rfl)]
      exact ⟨fun z => absurd rfl z, fun z => by omega⟩
    · rw [hk, sg_zero, if_pos (.inr rfl), sg_neg hp]
      refine ⟨fun z => absurd rfl z, fun z => ?_⟩
      have := sq_pos (a := p) (by omega)
      rw [Int.zero_mul, Int.zero_mul] at z
      omega
    · rw [sg_neg hp, sg_pos hk, if_neg (by decide), if_neg (by decide)]
      have e : -1 * sg (p * p - q * q * r) ≠ -1 ↔ p * p ≤ q * q * r := by
        rcases tri (p * p - q * q * r) with c | c | c
        · rw [sg_neg c]
          exact ⟨fun _ => by omega, fun _ => by decide⟩
        · rw [c]
          exact ⟨fun _ => by omega, fun _ => by decide⟩
        · rw [sg_pos c]
          exact ⟨fun z => absurd rfl z, fun _ => by omega⟩
      rw [e]
      exact ⟨fun z => .inr (.inr ⟨by omega, z⟩), fun z => by rcases z with z | z | z <;> omega⟩
    · rw [hp, sg_zero, sg_neg hk, if_neg (by decide), if_pos rfl]
      refine ⟨fun z => absurd rfl z, fun z => ?_⟩
      have := hq (by omega)
      rw [Int.mul_zero] at z
      omega
    · rw [hp, hk, sg_zero, if_pos (.inl rfl)]
      exact ⟨fun _ => .inl ⟨by omega, by omega⟩, fun _ => by decide⟩
    · rw [hp, sg_zero, sg_pos hk, if_neg (by decide), if_pos rfl]
      exact ⟨fun _ => .inl ⟨by omega, by omega⟩, fun _ => by decide⟩
    · rw [sg_pos hp, sg_neg hk, if_neg (by decide), if_neg (by decide), Int.one_mul]
      rw [sg_low]
      exact ⟨fun z => .inr (.inl ⟨by omega, by omega⟩), fun z => by rcases z with z | z | z <;> omega⟩
    · rw [hk, sg_zero, if_pos (.inr rfl), sg_pos hp]
      exact ⟨fun _ => .inl ⟨by omega, by omega⟩, fun _ => by decide⟩
    · rw [sg_pos hp, sg_pos hk, if_pos (.inl rfl)]
      exact ⟨fun _ => .inl ⟨by omega, by omega⟩, fun _ => by decide⟩
theorem nn_swap {p q r p' q' : Int} (hr : 0 ≤ r) (hp : 0 ≤ p) (h : q * q * r ≤ p * p) (hq' : 0 ≤ q') (h' : p' * p' ≤ q' * q' * r) : NN (p + p') (q + q') r := by
  have key : ∀ {a b c d : Int}, 0 ≤ a → 0 ≤ b → a ≤ b → 0 ≤ c → c ≤ d → a * c ≤ b * d := fun ha hb hab hc hcd => Int.mul_le_mul hab hcd hc hb
  by_cases c1 : 0 ≤ p'
  · -- p' from 0 on
    by_cases c2 : 0 ≤ q + q'
    · exact .inl ⟨by omega, c2⟩
    · refine .inr (.inl ⟨by omega, ?_⟩)
      have m1 := sq_mono (a := -(q + q')) (b := -q) (by omega) (by omega)
      have m2 := Int.mul_le_mul_of_nonneg_right m1 hr
      have m3 := sq_mono hp (show p ≤ p + p' by omega)
      have e1 : -(q + q') * -(q + q') * r = (q + q') * (q + q') * r := by grind
      have e2 : -q * -q * r = q * q * r := by grind
      omega
  by_cases c2 : 0 ≤ q
  · by_cases c3 : 0 ≤ p + p'
    · exact .inl ⟨c3, by omega⟩
    · refine .inr (.inr ⟨by omega, ?_⟩)
      have m1 := sq_mono (a := -(p + p')) (b := -p') (by omega) (by omega)
      have m3 := Int.mul_le_mul_of_nonneg_right (sq_mono hq' (show q' ≤ q + q' by omega)) hr
      have e1 : -(p + p') * -(p + p') = (p + p') * (p + p') := by grind
      have e2 : -p' * -p' = p' * p' := by grind
      omega
  -- p' and q below 0
  obtain ⟨z, rfl⟩ : ∃ z, p' = -z := ⟨-p', by omega⟩
  obtain ⟨y, rfl⟩ : ∃ y, q = -y := ⟨-q, by omega⟩
  have hz : 0 < z := by omega
  have hy : 0 < y := by omega
  have h1 : y * y * r ≤ p * p := by
    have e : -y * -y * r = y * y * r := by grind
    omega
  have h2 : z * z ≤ q' * q' * r := by
    have e : -z * -z = z * z := by grind
    omega
  have q0 : q' ≠ 0 := fun k => by
    rw [k, Int.zero_mul, Int.zero_mul] at h2
    have := Int.mul_pos hz hz
    omega
  have yz : y * z ≤ p * q' := by
    refine sq_back (Int.mul_nonneg hp hq') ?_
    have m1 := Int.mul_le_mul_of_nonneg_left h2 (sq_nn y)
    have m2 := Int.mul_le_mul_of_nonneg_right h1 (sq_nn q')
    have e1 : y * z * (y * z) = y * y * (z * z) := by grind
    have e2 : y * y * (q' * q' * r) = y * y * r * (q' * q') := by grind
    have e3 : p * q' * (p * q') = p * p * (q' * q') := by grind
    omega
  by_cases c3 : z ≤ p <;> by_cases c4 : y ≤ q'
  · exact .inl ⟨by omega, by omega⟩
  · refine .inr (.inl ⟨by omega, ?_⟩)
    have m0 : p * (y - q') ≤ (p - z) * y := by
      have e1 : p * (y - q') = p * y - p * q' := by grind
      have e2 : (p - z) * y = p * y - y * z := by grind
      omega
    have m1 := sq_mono (Int.mul_nonneg hp (show 0 ≤ y - q' by omega)) m0
    have m2 := Int.mul_le_mul_of_nonneg_right h1 (sq_nn (y - q'))
    refine cut_sq (y := y) (by omega) ?_
    have e1 : y * y * ((-y + q') * (-y + q') * r) = y * y * r * ((y - q') * (y - q')) := by grind
    have e2 : p * (y - q') * (p * (y - q')) = p * p * ((y - q') * (y - q')) := by grind
    have e3 : (p - z) * y * ((p - z) * y) = y * y * ((p + -z) * (p + -z)) := by grind
    omega
  · refine .inr (.inr ⟨by omega, ?_⟩)
    have m0 : (z - p) * q' ≤ z * (q' - y) := by
      have e1 : (z - p) * q' = z * q' - p * q' := by grind
      have e2 : z * (q' - y) = z * q' - y * z := by grind
      omega
    have m1 := sq_mono (Int.mul_nonneg (show 0 ≤ z - p by omega) hq') m0
    have m2 := Int.mul_le_mul_of_nonneg_right h2 (sq_nn (q' - y))
    refine cut_sq (y := q') q0 ?_
    have e1 : q' * q' * ((p + -z) * (p + -z)) = (z - p) * q' * ((z - p) * q') := by grind
    have e2 : z * (q' - y) * (z * (q' - y)) = z * z * ((q' - y) * (q' - y)) := by grind
    have e3 : q' * q' * r * ((q' - y) * (q' - y)) = q' * q' * ((-y + q') * (-y + q') * r) := by grind
    omega
  · exfalso
    have m1 : p * q' < z * y := by
      have a1 : p * q' ≤ p * y := Int.mul_le_mul_of_nonneg_left (by omega) hp
      have a2 : p * y < z * y := Int.mul_lt_mul_of_pos_right (by omega) hy
      omega
    have e : z * y = y * z := Int.mul_comm _ _
    omega
theorem nn_add {p q r p' q' : Int} (hr : 0 ≤ r) (h : NN p q r) (h' : NN p' q' r) : NN (p + p') (q + q') r := by
  have c12 : ∀ {p q p' q' : Int}, 0 ≤ p → 0 ≤ q → 0 ≤ p' → q' * q' * r ≤ p' * p' → NN (p + p') (q + q') r := fun {p q p' q'} h1 h2 h3 h4 => by
    by_cases c2 : 0 ≤ q + q'
    · exact .inl ⟨by omega, c2⟩
    · refine .inr (.inl ⟨by omega, ?_⟩)
      have m2 := Int.mul_le_mul_of_nonneg_right (sq_mono (a := -(q + q')) (b := -q') (by omega) (by omega)) hr
      have m3 := sq_mono h3 (show p' ≤ p + p' by omega)
      have e1 : -(q + q') * -(q + q') * r = (q + q') * (q + q') * r := by grind
      have e2 : -q' * -q' * r = q' * q' * r := by grind
      omega
  have c13 : ∀ {p q p' q' : Int}, 0 ≤ p → 0 ≤ q → 0 ≤ q' → p' * p' ≤ q' * q' * r → NN (p + p') (q + q') r := fun {p q p' q'} h1 h2 h3 h4 => by
    by_cases c3 : 0 ≤ p + p'
    · exact .inl ⟨c3, by omega⟩
    · refine .inr (.inr ⟨by omega, ?_⟩)
      have m1 := sq_mono (a := -(p + p')) (b := -p') (by omega) (by omega)
      have m3 := Int.mul_le_mul_of_nonneg_right (sq_mono h3 (show q' ≤ q + q' by omega)) hr
      have e1 : -(p + p') * -(p + p') = (p + p') * (p + p') := by grind
      have e2 : -p' * -p' = p' * p' := by grind
      omega
  have cs : ∀ {a b : Int}, (a + b) * (a + b) = a * a + 2 * (a * b) + b * b := fun {a b} => by grind
  rcases h with ⟨h1, h2⟩ | ⟨h1, h2⟩ | ⟨h1, h2⟩ <;> rcases h' with ⟨k1, k2⟩ | ⟨k1, k2⟩ | ⟨k1, k2⟩
  · exact .inl ⟨by omega, by omega⟩
  · exact c12 h1 h2 k1 k2
  · exact c13 h1 h2 k1 k2
  · have := c12 k1 k2 h1 h2
    rw [Int.add_comm p' p, Int.add_comm q' q] at this
    exact this
  · refine .inr (.inl ⟨by omega, ?_⟩)
    have m : q * q' * r ≤ p * p' := by
      refine sq_back (Int.mul_nonneg h1 k1) ?_
      have m1 := Int.mul_le_mul h2 k2 (Int.mul_nonneg (sq_nn q') hr) (sq_nn p)
      have e1 : q * q' * r * (q * q' * r) = q * q * r * (q' * q' * r) := by grind
      have e2 : p * p' * (p * p') = p * p * (p' * p') := by grind
      omega
    have e1 : (q + q') * (q + q') * r = q * q * r + 2 * (q * q' * r) + q' * q' * r := by grind
    rw [e1, cs]
    omega
  · exact nn_swap hr h1 h2 k1 k2
  · have := c13 k1 k2 h1 h2
    rw [Int.add_comm p' p, Int.add_comm q' q] at this
    exact this
  · have := nn_swap hr k1 k2 h1 h2
    rw [Int.add_comm p' p, Int.add_comm q' q] at this
    exact this
  · refine .inr (.inr ⟨by omega, ?_⟩)
    have m : p * p' ≤ q * q' * r := by
      refine sq_back (Int.mul_nonneg (Int.mul_nonneg h1 k1) hr) ?_
      have m1 := Int.mul_le_mul h2 k2 (sq_nn p') (Int.mul_nonneg (sq_nn q) hr)
      have e1 : q * q' * r * (q * q' * r) = q * q * r * (q' * q' * r) := by grind
      have e2 : p * p' * (p * p') = p * p * (p' * p') := by grind
      omega
    have e1 : (q + q') * (q + q') * r = q * q * r + 2 * (q * q' * r) + q' * q' * r := by grind
    rw [e1, cs]
    omega
theorem S2_opp (p q r : Int) : S2 (-p) (ss (-q) * r) = - S2 p (ss q * r) := by rw [ss_flip, Int.neg_mul, S2_flip]
theorem pos_iff {p q r : Int} (hr : 0 ≤ r) : S2 p (ss q * r) = 1 ↔ ¬ NN (-p) (-q) r := by
  rw [← nn_iff hr, S2_opp]
  rcases S2_val p (ss q * r) with h | h | h <;> rw [h] <;> decide
theorem pos_add {p q r p' q' : Int} (hr : 0 ≤ r) (h : S2 p (ss q * r) = 1) (h' : NN p' q' r) : S2 (p + p') (ss (q + q') * r) = 1 := by
  rw [pos_iff hr] at h ⊢
  intro z
  refine h ?_
  have := nn_add hr z h'
  rw [show -(p + p') + p' = -p by omega, show -(q + q') + q' = -q by omega] at this
  exact this
/-- a root from below: x1 + root u and x2 + root v from 0 on, then so their sum -/
theorem S3_sum {x1 x2 u v : Int} (h1 : S2 x1 u ≠ -1) (h2 : S2 x2 v ≠ -1) : S3 (x1 + x2) u v ≠ -1 := by
  have e4 : ∀ x : Int, ss (2 * x) = 4 * ss x := fun x => by rw [ss_mul] <;> rfl
  have m := S2_mul x1 (x1 + x2 + x2) u
  have ea : x1 * (x1 + x2 + x2) + ab u = (x1 + x2) * (x1 + x2) + ab u - x2 * x2 := by grind
  rw [ea, show x1 + (x1 + x2 + x2) = 2 * (x1 + x2) by omega, e4] at m
  unfold S3
  rcases tri v with hv | hv | hv
  · have p2 : 0 < x2 := by
      apply Decidable.byContradiction
      intro z
      exact h2 (S2_neg (by omega) hv)
    rw [S2_high p2 hv, sg_low] at h2
    have f : ∀ y, x1 < y → S2 y u = 1 := fun y hy => by
      rcases S2_val x1 u with k | k | k
      · exact S2_more (by omega) k
      · exact S2_step' hy k
      · exact absurd k h1
    rw [f _ (show x1 < x1 + x2 by omega), sg_neg hv, if_neg (by decide), if_neg (by decide), Int.one_mul]
    rw [f _ (show x1 < x1 + x2 + x2 by omega), Int.mul_one] at m
    intro z
    have l := S2_less (y := (x1 + x2) * (x1 + x2) + ab u - x2 * x2) (by rw [ab_np (show v ≤ 0 by omega)]; omega) z
    rw [l] at m
    exact h1 m
  · rw [hv, S2_zero, sg_low] at h2
    rw [hv, sg_zero, if_pos (.inr rfl)]
    exact fun z => h1 (S2_less (by omega) z)
  · rcases S2_val (x1 + x2) u with k | k | k
    · rw [k, sg_pos hv, if_pos (.inl rfl)]
      decide
    · rw [k, sg_pos hv, if_neg (by decide), if_pos rfl]
      decide
    · rw [k, sg_pos hv, if_neg (by decide), if_neg (by decide)]
      have n2 : x2 < 0 := by
        apply Decidable.byContradiction
        intro z
        exact h1 (S2_less (by omega) k)
      rw [S2_low n2 hv, sg_low] at h2
      rw [S2_less (y := x1 + x2 + x2) (by omega) k] at m
      intro z
      have z1 : S2 ((x1 + x2) * (x1 + x2) + ab u - ab v) (4 * ss (x1 + x2) * u) = 1 := by omega
      have l := S2_more (y := (x1 + x2) * (x1 + x2) + ab u - x2 * x2) (by rw [ab_nn (show 0 ≤ v by omega)]; omega) z1
      rw [l] at m
      omega
/-! ### gaps: what is above 0 is above D / M -/
theorem gap1 {A u M D : Int} (hD : 1 ≤ D) (hM : 2 * D * ab A + D < M) (h : S2 A u = 1) : S2 (M * A - D) (M * M * u) = 1 := by
  have a0 := ab_ge A
  have da : 0 ≤ D * ab A := Int.mul_nonneg (by omega) a0
  have e0 : 2 * D * ab A = 2 * (D * ab A) := by grind
  have M0 : D < M := by omega
  have MM : 0 < M * M := Int.mul_pos (by omega) (by omega)
  have MD : D * D < M * M := sq_lt (by omega) M0
  rcases tri u with hu | hu | hu
  · have p : 0 < A := by
      apply Decidable.byContradiction
      intro z
      rw [S2_neg (by omega) hu] at h
      cases h
    rw [S2_high p hu] at h
    have h' := sg_val.2.1 h
    rw [ab_nn (by omega)] at hM e0
    have k1 : M ≤ M * A := by
      have := Int.mul_le_mul_of_nonneg_left (show 1 ≤ A by omega) (show 0 ≤ M by omega)
      omega
    have k2 : M * M * u < 0 := by
      have := Int.mul_neg_of_pos_of_neg MM hu
      exact this
    rw [S2_high (by omega) k2]
    refine sg_pos ?_
    have k3 := Int.mul_le_mul_of_nonneg_left (show 1 ≤ A * A + u by omega) (show 0 ≤ M * M by omega)
    have k4 : 0 ≤ M * (M - 2 * D * A) := Int.mul_nonneg (by omega) (by omega)
    have k5 : 0 < D * D := Int.mul_pos (by omega) (by omega)
    have e1 : (M * A - D) * (M * A - D) + M * M * u = M * M * (A * A + u) - M * M + M * (M - 2 * D * A) + D * D := by grind
    omega
  · rw [hu, S2_zero] at h
    rw [hu, Int.mul_zero, S2_zero]
    have h' := sg_val.2.1 h
    have k1 : M ≤ M * A := by
      have := Int.mul_le_mul_of_nonneg_left (show 1 ≤ A by omega) (show 0 ≤ M by omega)
      omega
    exact sg_pos (by omega)
  · have k2 : 0 < M * M * u := Int.mul_pos MM hu
    rcases (by omega : 1 ≤ A ∨ A = 0 ∨ A < 0) with c | c | c
    · have k1 : M ≤ M * A := by
        have := Int.mul_le_mul_of_nonneg_left c (show 0 ≤ M by omega)
        omega
      exact S2_pos (by omega) k2
    · rw [c, Int.mul_zero, S2_low (by omega) k2]
      refine sg_pos ?_
      have := Int.mul_le_mul_of_nonneg_left (show 1 ≤ u by omega) (show 0 ≤ M * M by omega)
      have e1 : (0 - D) * (0 - D) = D * D := by grind
      omega
    · rw [S2_low c hu] at h
      have h' := sg_val.2.1 h
      rw [ab_np (by omega)] at hM e0
      have k1 : M * A < 0 := Int.mul_neg_of_pos_of_neg (by omega) c
      rw [S2_low (by omega) k2]
      refine sg_pos ?_
      have k3 := Int.mul_le_mul_of_nonneg_left (show 1 ≤ u - A * A by omega) (show 0 ≤ M * M by omega)
      have e2 : 2 * D * -A = -(2 * D * A) := by grind
      have k4 := Int.mul_le_mul (show D + 1 ≤ M by omega) (show D + 1 ≤ M + 2 * D * A by omega) (by omega) (by omega)
      have e1 : M * M * u - (M * A - D) * (M * A - D) = M * M * (u - A * A) - M * M + M * (M + 2 * D * A) - D * D := by grind
      have e3 : (D + 1) * (D + 1) = D * D + 2 * D + 1 := by grind
      omega
/-- the same with two roots -/
theorem gap2 {A q r v M D L : Int} (hr : 0 ≤ r) (hD : 1 ≤ D) (hL : L = ab A + q * q * r) (hM : 2 * D * ab A + D < M) (hM2 : 2 * (2 * D * L + D * D) * ab (A * A + q * q * r - ab v) + (2 * D * L + D * D) < M) (h : S3 A (ss q * r) v = 1) :
    S3 (M * A - D) (M * M * (ss q * r)) (M * M * v) = 1 := by
  have a0 := ab_ge A
  have da : 0 ≤ D * ab A := Int.mul_nonneg (by omega) a0
  have e0 : 2 * D * ab A = 2 * (D * ab A) := by grind
  have M0 : D < M := by omega
  have MM : 0 < M * M := Int.mul_pos (by omega) (by omega)
  have MD : D * D < M * M := sq_lt (by omega) M0
  have n0 : 0 ≤ q * q * r := Int.mul_nonneg (sq_nn q) hr
  have eab : ab (ss q * r) = q * q * r := by rw [ab_mul, ab_ss, ab_nn hr]
  have up : ∀ x : Int, S2 (M * x) (M * M * (ss q * r)) = S2 x (ss q * r) := fun x => S2_up (by omega) _ _
  have abM : ∀ x : Int, ab (M * M * x) = M * M * ab x := fun x => by rw [ab_mul, ab_nn (show 0 ≤ M * M by omega)]
  have sgM : sg (M * M * v) = sg v := sg_up MM v
  have hL0 : 0 ≤ L := by omega
  have DL : 0 ≤ D * L := Int.mul_nonneg (by omega) hL0
  have DD : 0 < D * D := Int.mul_pos (by omega) (by omega)
  have e6 : 2 * D * L = 2 * (D * L) := by grind
  -- |root u| is at most L less |A|
  have nl : ∀ x y : Int, ab x ≤ L - q * q * r → y * y = q * q → NN (L + x) y r := fun x y hx hy => by
    have ax := ab_ge x
    have lx : -(ab x) ≤ x := by
      unfold ab
      split <;> omega
    have : 0 ≤ L + x := by omega
    by_cases c : 0 ≤ y
    · exact .inl ⟨this, c⟩
    · refine .inr (.inl ⟨this, ?_⟩)
      rw [hy]
      have k1 := sq_mono n0 (show q * q * r ≤ L + x by omega)
      have k2 : q * q * r ≤ q * q * r * (q * q * r) := by
        rcases (by omega : q * q * r = 0 ∨ 1 ≤ q * q * r) with z | z
        · rw [z]
          decide
        · have := Int.mul_le_mul_of_nonneg_left z n0
          omega
      omega
  have e4 : 4 * ss A * (ss q * r) = ss (2 * A * q) * r := by
    rw [ss_mul, ss_mul, show ss 2 = 4 from rfl]
    grind
  have e5 : 4 * ss (M * A - D) * (M * M * (ss q * r)) = ss (M * M * (2 * A * q) - 2 * M * D * q) * r := by
    have k : M * M * (2 * A * q) - 2 * M * D * q = 2 * (M * A - D) * (M * q) := by grind
    rw [k, ss_mul, ss_mul, ss_up (show 0 < M by omega), show ss 2 = 4 from rfl]
    grind
  unfold S3 at h ⊢
  rw [sgM, abM, abM, eab, e5]
  rw [eab, e4] at h
  have mono1 : S2 A (ss q * r) = 1 → S2 (M * A - D) (M * M * (ss q * r)) = 1 := gap1 hD hM
  rcases tri v with hv | hv | hv
  · rw [sg_neg hv] at h ⊢
    have f1 : S2 A (ss q * r) = 1 := by
      rcases S2_val A (ss q * r) with k | k | k
      · exact k
      · rw [k, if_neg (by decide), if_pos rfl] at h
        cases h
      · rw [k, if_pos (.inl rfl)] at h
        cases h
    rw [f1, if_neg (by decide), if_neg (by decide), Int.one_mul] at h
    rw [mono1 f1, if_neg (by decide), if_neg (by decide), Int.one_mul]
    have g := gap1 (D := 2 * D * L + D * D) (by omega) hM2 h
    rw [← S2_up (show 0 < M by omega)] at g
    have ey : M * M * (M * M * (ss (2 * A * q) * r)) = ss (M * M * (2 * A * q)) * r := by
      rw [ss_mul (M * M), ss_nn (show 0 ≤ M * M by omega)]
      grind
    rw [ey] at g
    have n1 := nl (-A) (-q) (by rw [ab_flip]; omega) (by grind)
    have n2 : NN (2 * M * D * (L + -A)) (2 * M * D * -q) r := by
      rw [← nn_iff hr] at n1 ⊢
      have md : 0 < 2 * M * D := Int.mul_pos (by omega) (by omega)
      have k : ss (2 * M * D * -q) * r = 2 * M * D * (2 * M * D) * (ss (-q) * r) := by
        rw [ss_up md]
        grind
      rw [k, S2_up md]
      exact n1
    have n3 : NN (M * (D * D) + D * D) 0 r := .inl ⟨by have := Int.mul_nonneg (show 0 ≤ M by omega) (show 0 ≤ D * D by omega); omega, by decide⟩
    have fin := pos_add hr (pos_add hr g n2) n3
    have ep : M * (M * (A * A + q * q * r - ab v) - (2 * D * L + D * D)) + 2 * M * D * (L + -A) + (M * (D * D) + D * D) = (M * A - D) * (M * A - D) + M * M * (q * q * r) - M * M * ab v := by grind
    have eq : M * M * (2 * A * q) + 2 * M * D * -q + 0 = M * M * (2 * A * q) - 2 * M * D * q := by grind
    rw [ep, eq] at fin
    exact fin
  · rw [hv, sg_zero, if_pos (.inr rfl)] at h ⊢
    exact mono1 h
  · rw [sg_pos hv] at h ⊢
    rcases S2_val (M * A - D) (M * M * (ss q * r)) with g | g | g
    · rw [g, if_pos (.inl rfl)]
    · rw [g, if_neg (by decide), if_pos rfl]
    rw [g, if_neg (by decide), if_neg (by decide)]
    suffices k : S2 ((M * A - D) * (M * A - D) + M * M * (q * q * r) - M * M * ab v) (ss (M * M * (2 * A * q) - 2 * M * D * q) * r) = -1 by
      rw [k] <;> rfl
    rw [ab_nn (show 0 ≤ v by omega)] at *
    rcases S2_val A (ss q * r) with f | f | f
    · rw [mono1 f] at g
      cases g
    · -- A + root u is 0
      have m := S2_mul (M * A) (M * A - 2 * D) (M * M * (ss q * r))
      rw [up, f, Int.zero_mul, abM, eab] at m
      have k1 : M * A * (M * A - 2 * D) + M * M * (q * q * r) = (M * A - D) * (M * A - D) + M * M * (q * q * r) - D * D := by grind
      have k2 : ss (M * A + (M * A - 2 * D)) * (M * M * (ss q * r)) = ss (M * M * (2 * A * q) - 2 * M * D * q) * r := by
        rw [← e5, show M * A + (M * A - 2 * D) = 2 * (M * A - D) by grind, ss_mul] <;> rfl
      rw [k1, k2] at m
      have k3 := Int.mul_le_mul_of_nonneg_left (show 1 ≤ v by omega) (show 0 ≤ M * M by omega)
      exact S2_step (by omega) m.symm
    · rw [f, if_neg (by decide), if_neg (by decide)] at h
      have h1 : S2 (A * A + q * q * r - v) (ss (2 * A * q) * r) = -1 := by omega
      have h2 : S2 (-(A * A + q * q * r - v)) (ss (-(2 * A * q)) * r) = 1 := by
        rw [S2_opp, h1] <;> rfl
      have gg := gap1 (D := 2 * D * L + D * D) (M := M) (by omega) (by rw [ab_flip]; exact hM2) h2
      rw [← S2_up (show 0 < M by omega)] at gg
      have ey : M * M * (M * M * (ss (-(2 * A * q)) * r)) = ss (M * M * -(2 * A * q)) * r := by
        rw [ss_mul (M * M), ss_nn (show 0 ≤ M * M by omega)]
        grind
      rw [ey] at gg
      have n1 := nl A q (by omega) rfl
      have n2 : NN (2 * M * D * (L + A)) (2 * M * D * q) r := by
        rw [← nn_iff hr] at n1 ⊢
        have md : 0 < 2 * M * D := Int.mul_pos (by omega) (by omega)
        have k : ss (2 * M * D * q) * r = 2 * M * D * (2 * M * D) * (ss q * r) := by
          rw [ss_up md]
          grind
        rw [k, S2_up md]
        exact n1
      have n3 : NN (M * (D * D) - D * D) 0 r := .inl ⟨by have := Int.mul_le_mul_of_nonneg_right (show 1 ≤ M by omega) (show 0 ≤ D * D by omega); omega, by decide⟩
      have fin := pos_add hr (pos_add hr gg n2) n3
      have ep : M * (M * -(A * A + q * q * r - v) - (2 * D * L + D * D)) + 2 * M * D * (L + A) + (M * (D * D) - D * D) = -((M * A - D) * (M * A - D) + M * M * (q * q * r) - M * M * v) := by grind
      have eq : M * M * -(2 * A * q) + 2 * M * D * q + 0 = -(M * M * (2 * A * q) - 2 * M * D * q) := by grind
      rw [ep, eq, S2_opp] at fin
      omega
end Lw

namespace Lw
open PySem L2
/-! ### the order of a + root u + root v, turned over -/
theorem S3_flip (x u v : Int) : S3 (-x) (-u) (-v) = - S3 x u v := by
  have e : 4 * ss (-x) * -u = 4 * ss x * u := by
    rw [ss_flip]
    grind
  unfold S3
  rw [S2_flip, sg_flip, ab_flip, ab_flip, e, show -x * -x = x * x by grind]
  by_cases c1 : S2 x u = sg v ∨ sg v = 0
  · rw [if_pos c1, if_pos (by omega)]
  · rw [if_neg c1, if_neg (by omega)]
    by_cases c2 : S2 x u = 0
    · rw [if_pos c2, if_pos (by omega)]
    · rw [if_neg c2, if_neg (by omega), Int.neg_mul]
theorem S3_comm (x u v : Int) : S3 x u v = S3 x v u := by
  -- with x from 0 on
  have z0 : ∀ x u : Int, S3 x u 0 = S2 x u := fun x u => by
    unfold S3
    rw [sg_zero, if_pos (.inr rfl)]
  have z1 : ∀ x v : Int, S3 x 0 v = S2 x v := fun x v => by
    unfold S3
    rw [S2_zero, Int.mul_zero, S2_zero]
    conv => rhs; unfold S2
    rw [show ab 0 = 0 from rfl, Int.add_zero]
  have sqp : ∀ {q a b : Int}, 0 ≤ q → q < a → q ≤ b → 0 < b → q * q - 4 * b * a < 0 := fun {q a b} h0 h1 h2 h3 => by
    have k1 : q * q ≤ q * a := Int.mul_le_mul_of_nonneg_left (by omega) h0
    have k2 : q * a ≤ b * a := Int.mul_le_mul_of_nonneg_right h2 (by omega)
    have k3 : 0 < b * a := Int.mul_pos h3 (by omega)
    have e : 4 * b * a = 4 * (b * a) := by grind
    omega
  have four : ∀ {x : Int}, 0 < x → ∀ u : Int, 4 * ss x * u = 4 * (x * x) * u := fun {x} hx u => by rw [ss_nn (by omega)]
  have pm : ∀ {x u v : Int}, 0 < x → 0 < u → v < 0 → S3 x u v = S3 x v u := fun {x u v} hx hu hv => by
    have X0 : 0 < x * x := Int.mul_pos hx hx
    have pu : 0 < 4 * (x * x) * u := Int.mul_pos (by omega) hu
    have pv : 4 * (x * x) * v < 0 := Int.mul_neg_of_pos_of_neg (by omega) hv
    unfold S3
    rw [four hx, four hx, ab_nn (show 0 ≤ u by omega), ab_np (show v ≤ 0 by omega), S2_pos (by omega) hu, sg_neg hv, sg_pos hu, if_neg (by decide), if_neg (by decide), Int.one_mul, S2_high hx hv]
    generalize hX : x * x = X at *
    obtain ⟨b, hb⟩ : ∃ b, v = -b := ⟨-v, by omega⟩
    subst hb
    rw [Int.neg_neg]
    rcases tri (X + -b) with c | c | c
    · rw [sg_neg c, if_neg (by decide), if_neg (by decide)]
      rcases (by omega : 0 ≤ X + u - b ∨ X + u - b < 0) with q | q
      · rw [S2_pos q pu]
        rcases (by omega : X + b - u ≤ 0 ∨ 0 < X + b - u) with p | p
        · rw [S2_neg p pv] <;> rfl
        · rw [S2_high p pv]
          have k : (X + b - u) * (X + b - u) + 4 * X * -b = (X + u - b) * (X + u - b) - 4 * X * u := by grind
          have l : (X + u - b) * (X + u - b) - 4 * X * u < 0 := by
            rcases (by omega : X + u - b ≤ X ∨ X < X + u - b) with y | y
            · exact sqp q (by omega) y X0
            · have k1 : (X + u - b) * (X + u - b) ≤ (X + u - b) * u := Int.mul_le_mul_of_nonneg_left (by omega) q
              have k2 : (X + u - b) * u ≤ (2 * X) * u := Int.mul_le_mul_of_nonneg_right (by omega) (by omega)
              have k3 : 0 < X * u := Int.mul_pos X0 hu
              have e1 : 4 * X * u = 4 * (X * u) := by grind
              have e2 : 2 * X * u = 2 * (X * u) := by grind
              omega
          rw [k, sg_neg l] <;> rfl
      · rw [S2_low q pu, S2_high (by omega) pv]
        have k : (X + b - u) * (X + b - u) + 4 * X * -b = -(4 * X * u - (X + u - b) * (X + u - b)) := by grind
        rw [k, sg_flip]
        omega
    · rw [c, sg_zero, if_neg (by decide), if_pos rfl, S2_pos (by omega) pu]
    · rw [sg_pos c, if_pos (.inl rfl), S2_pos (by omega) pu]
  have mm : ∀ {x u v : Int}, 0 < x → u < 0 → v < 0 → S3 x u v = S3 x v u := fun {x u v} hx hu hv => by
    have X0 : 0 < x * x := Int.mul_pos hx hx
    have pu : 4 * (x * x) * u < 0 := Int.mul_neg_of_pos_of_neg (by omega) hu
    have pv : 4 * (x * x) * v < 0 := Int.mul_neg_of_pos_of_neg (by omega) hv
    unfold S3
    rw [four hx, four hx, ab_np (show u ≤ 0 by omega), ab_np (show v ≤ 0 by omega), S2_high hx hu, S2_high hx hv, sg_neg hu, sg_neg hv]
    generalize hX : x * x = X at *
    obtain ⟨b, hb⟩ : ∃ b, v = -b := ⟨-v, by omega⟩
    obtain ⟨a, ha⟩ : ∃ a, u = -a := ⟨-u, by omega⟩
    subst hb
    subst ha
    rw [Int.neg_neg, Int.neg_neg]
    have val : ∀ {p o : Int}, 0 < p → p < X → X ≤ o → S2 (X + p - o) (4 * X * -p) = -1 := fun {p o} h0 h1 h2 => by
      have pa : 4 * X * -p < 0 := Int.mul_neg_of_pos_of_neg (by omega) (by omega)
      rcases (by omega : X + p - o ≤ 0 ∨ 0 < X + p - o) with c | c
      · exact S2_neg c pa
      · rw [S2_high c pa]
        refine sg_neg ?_
        have k1 : (X + p - o) * (X + p - o) ≤ (X + p - o) * p := Int.mul_le_mul_of_nonneg_left (by omega) (by omega)
        have k2 : (X + p - o) * p ≤ X * p := Int.mul_le_mul_of_nonneg_right (by omega) (by omega)
        have k3 : 0 < X * p := Int.mul_pos X0 h0
        have e : 4 * X * -p = -(4 * (X * p)) := by grind
        omega
    have lo : ∀ {y z : Int}, y ≤ 0 → (if sg y = -1 ∨ (-1 : Int) = 0 then sg y else if sg y = 0 then (-1 : Int) else sg y * z) = -1 := fun {y z} hy => by
      rcases (by omega : y < 0 ∨ y = 0) with k | k
      · rw [sg_neg k, if_pos (.inl rfl)]
      · rw [k, sg_zero, if_neg (by decide), if_pos rfl]
    have hi : ∀ {y z : Int}, 0 < y → (if sg y = -1 ∨ (-1 : Int) = 0 then sg y else if sg y = 0 then (-1 : Int) else sg y * z) = z := fun {y z} hy => by
      rw [sg_pos hy, if_neg (by decide), if_neg (by decide), Int.one_mul]
    rcases (by omega : X + -a ≤ 0 ∨ 0 < X + -a) with c | c <;> rcases (by omega : X + -b ≤ 0 ∨ 0 < X + -b) with e | e
    · rw [lo c, lo e]
    · rw [lo c, hi e, val (by omega) (by omega) (by omega)]
    · rw [hi c, lo e, val (by omega) (by omega) (by omega)]
    · rw [hi c, hi e, S2_high (by omega) pu, S2_high (by omega) pv]
      congr 1
      grind
  have pos : ∀ {x u v : Int}, 0 < x → S3 x u v = S3 x v u := fun {x u v} hx => by
    rcases tri u with hu | hu | hu <;> rcases tri v with hv | hv | hv
    · exact mm hx hu hv
    · rw [hv, z0, z1]
    · exact (pm hx hv hu).symm
    · rw [hu, z0, z1]
    · rw [hu, hv]
    · rw [hu, z0, z1]
    · exact pm hx hu hv
    · rw [hv, z0, z1]
    · unfold S3
      rw [S2_pos (by omega) hu, S2_pos (by omega) hv, sg_pos hu, sg_pos hv, if_pos (.inl rfl)] <;> rfl
  rcases tri x with h | h | h
  · have := pos (x := -x) (u := -u) (v := -v) (by omega)
    rw [S3_flip, S3_flip] at this
    omega
  · subst h
    have s0 : ∀ u : Int, S2 0 u = sg u := fun u => by
      unfold S2
      rw [sg_zero]
      split
      · rename_i k
        rcases k with k | k <;> omega
      · rw [if_pos rfl]
    unfold S3
    simp only [s0, show ss 0 = 0 from rfl, Int.mul_zero, Int.zero_mul, S2_zero, Int.zero_add]
    have fl : sg (ab v - ab u) = - sg (ab u - ab v) := by rw [← sg_flip, show -(ab u - ab v) = ab v - ab u by omega]
    rw [fl]
    have abp : ∀ y : Int, y ≠ 0 → 0 < ab y := fun y hy => by
      unfold ab
      split <;> omega
    rcases tri u with hu | hu | hu <;> rcases tri v with hv | hv | hv <;> simp only [hu, hv, sg_neg, sg_pos, sg_zero] <;> first | rfl | decide | (simp; try omega)
  · exact pos h
theorem ss_sub (x : Int) : ss (0 - x) = - ss x := by rw [show 0 - x = -x by omega, ss_flip]
theorem cmp_swap (a b r d c e s v : Int) : cmp c e s v a b r d = - cmp a b r d c e s v := by
  unfold cmp
  rw [S3_comm (c * d - a * v), ← S3_flip, ss_sub, ss_sub]
  have e1 : -(a * v - c * d) = c * d - a * v := by omega
  have e2 : -(ss (b * v) * r) = -ss (b * v) * r := by grind
  have e3 : -(-ss (e * d) * s) = ss (e * d) * s := by grind
  rw [e1, e2, e3]
theorem ab_nat (x : Int) : (ab x).natAbs = x.natAbs := by
  unfold ab
  split <;> omega
theorem cmp_whole (t m c e s v : Int) : cmp t 0 0 m c e s v = S2 (t * v - c * m) (ss (0 - e * m) * s) := by
  unfold cmp
  have k2 : ss (0 * v) * 0 = ss 0 := by rw [Int.mul_zero] <;> rfl
  rw [k2, S3_sq, Int.add_zero]
theorem cmp_whole' (a b r d t m : Int) : cmp a b r d t 0 0 m = S2 (a * m - t * d) (ss (b * m) * r) := by
  unfold cmp
  have k2 : ss (0 - 0 * d) * 0 = ss 0 := by rw [Int.mul_zero] <;> rfl
  rw [k2, S3_sq', Int.add_zero]
/-- the first step above a number lies below each greater one, once the steps are small -/
theorem above_ok {a b r d c e s v M : Int} (h1 : Numb a b r d) (h2 : Numb c e s v) (hM : 2 ^ 2000 ≤ M) (h : cmp a b r d c e s v = -1) : cmp (flN a b r d M + 1) 0 0 M c e s v = -1 := by
  obtain ⟨za, zb, zr, zd, hr, hd⟩ := h1
  obtain ⟨zc, ze, zs, zv, hs, hv⟩ := h2
  have hM0 : 0 < M := by
    have : (0 : Int) < 2 ^ 2000 := Int.pow_pos (by decide)
    omega
  have e0 : cmp (flN a b r d M + 1) 0 0 M c e s v = -1 ∨ S2 ((flN a b r d M + 1) * v - c * M) (ss (0 - e * M) * s) ≠ -1 := by
    rw [cmp_whole]
    exact Decidable.em _
  rcases e0 with e0 | e0
  · exact e0
  exfalso
  have f1 : S2 (M * a - flN a b r d M * d) (ss (M * b) * r) ≠ -1 := (top_le hr hM0).mp (by
    unfold flN
    exact Int.ediv_mul_le _ (by omega))
  generalize flN a b r d M = n at *
  rw [← S2_up hv] at f1
  rw [← S2_up hd] at e0
  have sum := S3_sum f1 e0
  have dv : 0 < d * v := Int.mul_pos hd hv
  have k1 : v * (M * a - n * d) + d * ((n + 1) * v - c * M) = -(M * -(a * v - c * d) - d * v) := by grind
  have k2 : v * v * (ss (M * b) * r) = -(M * M * (ss (-(b * v)) * r)) := by
    rw [ss_flip, ss_mul, ss_mul, ss_nn (show 0 ≤ M by omega), ss_nn (show 0 ≤ v by omega)]
    grind
  have k3 : d * d * (ss (0 - e * M) * s) = -(M * M * (ss (e * d) * s)) := by
    rw [ss_sub, ss_mul, ss_mul, ss_nn (show 0 ≤ M by omega), ss_nn (show 0 ≤ d by omega)]
    grind
  rw [k1, k2, k3, S3_flip] at sum
  have hc : S3 (-(a * v - c * d)) (ss (-(b * v)) * r) (ss (e * d) * s) = 1 := by
    have e1 : ss (-(b * v)) * r = -(ss (b * v) * r) := by
      rw [ss_flip]
      grind
    have e2 : ss (e * d) * s = -(ss (0 - e * d) * s) := by
      rw [ss_sub]
      grind
    rw [e1, e2, S3_flip]
    unfold cmp at h
    rw [h] <;> rfl
  -- how great all is
  have w1 := mul_lt za zv
  have w2 := mul_lt zc zd
  have wA : (-(a * v - c * d)).natAbs < 2 ^ 321 := by
    have := sub_lt w1 w2
    omega
  have wq : (-(b * v)).natAbs < 2 ^ 320 := by
    have := mul_lt zb zv
    omega
  have wD := mul_lt zd zv
  have we := mul_lt ze zd
  have wv := mul_lt (show (ss (e * d)).natAbs < 2 ^ 640 by
    unfold ss
    have := mul_lt we (show (ab (e * d)).natAbs < 2 ^ (160 + 160) by rw [ab_nat]; exact we)
    exact two_le this (by decide)) zs
  generalize -(a * v - c * d) = A at *
  generalize -(b * v) = q at *
  generalize d * v = D at *
  generalize ss (e * d) * s = w at *
  have wqq := mul_lt (mul_lt wq wq) zr
  have wAA := mul_lt wA wA
  have wab : (ab A).natAbs < 2 ^ 321 := by rw [ab_nat]; exact wA
  have wL := add_lt (two_le wab (show 321 ≤ 800 by decide)) wqq
  have wDL := mul_lt (mul_lt (show (2 : Int).natAbs < 2 ^ 2 by decide) wD) wL
  have wDD := mul_lt wD wD
  have wD2 := add_lt wDL (two_le wDD (show 160 + 160 + (160 + 160) ≤ 2 + (160 + 160) + (800 + 1) by decide))
  have wy := add_lt (two_le wAA (show 321 + 321 ≤ 800 by decide)) wqq
  have wz : (ab (A * A + q * q * r - ab w)).natAbs < 2 ^ 802 := by
    have k := sub_lt wy (show (ab w).natAbs < 2 ^ (800 + 1) by rw [ab_nat]; exact two_le wv (by decide))
    rw [ab_nat]
    exact two_le k (by decide)
  have wt := mul_lt (mul_lt (show (2 : Int).natAbs < 2 ^ 2 by decide) wD2) wz
  have wu := mul_lt (mul_lt (show (2 : Int).natAbs < 2 ^ 2 by decide) wD) wab
  have wt' := add_lt (two_le wt (show 2 + (2 + (160 + 160) + (800 + 1) + 1) + 802 ≤ 1930 by decide)) (two_le wD2 (show 2 + (160 + 160) + (800 + 1) + 1 ≤ 1930 by decide))
  have wu' := add_lt (two_le wu (show 2 + (160 + 160) + 321 ≤ 1930 by decide)) (two_le wD (show 160 + 160 ≤ 1930 by decide))
  have lt : ∀ x : Int, x.natAbs < 2 ^ (1930 + 1) → x < M := fun x hx => by
    have := two_le hx (show 1930 + 1 ≤ 2000 by decide)
    omega
  have g := gap2 (A := A) (q := q) (r := r) (v := w) (M := M) (D := D) (L := ab A + q * q * r) hr (by omega) rfl (lt _ wu') (lt _ wt') hc
  rw [g] at sum
  exact sum rfl
end Lw

namespace Lw
open PySem L2
/-! ### numbers of one root: sums and products of forms -/
theorem form_flat {a b r d : Int} (c : b = 0 ∨ isSqB r = true) : formD a b r d = fracD (a + b * isq r) d := if_pos c
theorem form_zero (a r d : Int) : formD a 0 r d = fracD a d := by
  rw [form_flat (.inl rfl), Int.zero_mul, Int.add_zero]
theorem form_zz (a r s d : Int) : formD a 0 r d = formD a 0 s d := by rw [form_zero, form_zero]
theorem form_sq {a b r d : Int} (c : isSqB r = true) : formD a b r d = formD (a + b * isq r) 0 r d := by rw [form_flat (.inr c), form_zero]
theorem frac_congr {a b c d : Int} (hb : 0 < b) (hd : 0 < d) (e : a * d = c * b) : fracD a b = fracD c d := by
  obtain ⟨h1, h2⟩ := red_congr hb hd e
  unfold fracD
  rw [h1, h2]
/-- bounds of a number that is worked with -/
def Bd (a b r d : Int) : Prop := a.natAbs < 2 ^ 450 ∧ b.natAbs < 2 ^ 200 ∧ r.natAbs < 2 ^ 450 ∧ d.natAbs < 2 ^ 450
/-- a root's form as a number: spread and bounds -/
theorem quad_d {a b r d : Int} (z : Bd a b r d) (hd : 0 < d) (hr : 0 ≤ r) (hb : b ≠ 0) (hsq : isSqB r = false) :
    ∃ a' b' r' d' g h : Int, NumD (formD a b r d) a' b' r' d' ∧ 0 < g ∧ 0 < h ∧ g * d' = h * d ∧ g * a' = h * a ∧ g * g * (ss b' * r') = h * h * (ss b * r) ∧ 0 < d' ∧ 0 < r' ∧ b' ≠ 0 ∧ isSqB r' = false ∧
      a'.natAbs < 2 ^ 903 ∧ b'.natAbs < 2 ^ 2 ∧ r'.natAbs < 2 ^ 1808 ∧ d'.natAbs < 2 ^ 903 := by
  obtain ⟨za, zb, zr, zd⟩ := z
  have c : ¬ (b = 0 ∨ isSqB r = true) := fun z => z.elim hb fun z => by rw [hsq] at z; cases z
  have r0 : 0 < r := by
    rcases (by omega : 0 < r ∨ r = 0) with z | z
    · exact z
    · rw [z] at hsq
      exact absurd hsq (by decide +kernel)
  have g0 := gcd_pos3 (a := 0 - 2 * a * d) (b := a * a - b * b * r) hd
  have d1 : gcdI (gcdI (d * d) (0 - 2 * a * d)) (a * a - b * b * r) ∣ d * d := Int.dvd_trans (gcd_dvd_l _ _) (gcd_dvd_l _ _)
  have d2 : gcdI (gcdI (d * d) (0 - 2 * a * d)) (a * a - b * b * r) ∣ 0 - 2 * a * d := Int.dvd_trans (gcd_dvd_l _ _) (gcd_dvd_r _ _)
  have d3 : gcdI (gcdI (d * d) (0 - 2 * a * d)) (a * a - b * b * r) ∣ a * a - b * b * r := gcd_dvd_r _ _
  have w1 := mul_lt zd zd
  have w2 : (2 * a : Int).natAbs < 2 ^ (2 + 450) := mul_lt (by decide) za
  have w3 := mul_lt w2 zd
  have w4 := mul_lt za za
  have w5 := mul_lt zb zb
  have w6 := mul_lt w5 zr
  have s1 : (0 - 2 * a * d : Int).natAbs < 2 ^ 902 := by omega
  have s2 : (a * a - b * b * r : Int).natAbs < 2 ^ (900 + 1) := sub_lt (two_le w4 (by decide)) (two_le w6 (by decide))
  have f1 := fdiv_le g0 (two_le w1 (show 450 + 450 ≤ 900 by decide))
  have f2 := fdiv_le g0 s1
  have f3 := fdiv_le g0 s2
  have k1 := fdiv_of g0 d1
  have k2 := fdiv_of g0 d2
  have k3 := fdiv_of g0 d3
  have eF : formD a b r d = quadD (d * d) (0 - 2 * a * d) (a * a - b * b * r) (decide (0 < b)) := if_neg c
  rw [eF]
  unfold quadD
  generalize (d * d).fdiv (gcdI (gcdI (d * d) (0 - 2 * a * d)) (a * a - b * b * r)) = p at *
  generalize (0 - 2 * a * d).fdiv (gcdI (gcdI (d * d) (0 - 2 * a * d)) (a * a - b * b * r)) = q at *
  generalize (a * a - b * b * r).fdiv (gcdI (gcdI (d * d) (0 - 2 * a * d)) (a * a - b * b * r)) = s at *
  generalize gcdI (gcdI (d * d) (0 - 2 * a * d)) (a * a - b * b * r) = g at *
  have dd : 0 < d * d := Int.mul_pos hd hd
  have p0 : 0 < p := by
    apply Decidable.byContradiction
    intro z
    have : g * p ≤ 0 := Int.mul_nonpos_of_nonneg_of_nonpos (by omega) (by omega)
    omega
  have key : g * g * (q * q - 4 * p * s) = 4 * (d * d) * (b * b * r) := by
    have x : g * g * (q * q - 4 * p * s) = (g * q) * (g * q) - 4 * (g * p) * (g * s) := by grind
    rw [x, k1, k2, k3]
    grind
  have bb : 0 < b * b := by
    rcases (by omega : 0 < b ∨ b < 0) with z | z
    · exact Int.mul_pos z z
    · exact Int.mul_pos_of_neg_of_neg z z
  have rp : 0 < q * q - 4 * p * s := by
    apply Decidable.byContradiction
    intro z
    have n1 : g * g * (q * q - 4 * p * s) ≤ 0 := Int.mul_nonpos_of_nonneg_of_nonpos (Int.mul_nonneg (by omega) (by omega)) (by omega)
    have n2 : 0 < 4 * (d * d) * (b * b * r) := Int.mul_pos (by omega) (Int.mul_pos bb r0)
    omega
  have y1 := mul_lt f2 f2
  have y2 : (4 * p : Int).natAbs < 2 ^ (3 + 900) := mul_lt (by decide) f1
  have y3 := mul_lt y2 f3
  refine ⟨-q, (if decide (0 < b) = true then 1 else -1), q * q - 4 * p * s, 2 * p, g, 2 * d, .inr ⟨p, q, s, decide (0 < b), rfl, rfl, rfl, rfl, rfl, two_le f1 (by decide), two_le f2 (by decide), two_le f3 (by decide)⟩,
    g0, by omega, by grind, by grind, ?_, by omega, rp, by split <;> decide, ?_, by omega, by split <;> decide, two_le (sub_lt (two_le y1 (show 902 + 902 ≤ 1807 by decide)) (two_le y3 (show 3 + 900 + (900 + 1) ≤ 1807 by decide))) (by decide), by omega⟩
  · rcases (by omega : 0 < b ∨ b < 0) with z | z
    · rw [if_pos (decide_eq_true z), show ss 1 = 1 from rfl, ss_nn (by omega), Int.one_mul, key]
      grind
    · have zz : ¬ decide (0 < b) = true := by simp; omega
      have sb : ss b = -(b * b) := by
        unfold ss
        rw [ab_np (by omega)]
        grind
      rw [if_neg zz, show ss (-1) = -1 from rfl, sb]
      have x : g * g * (-1 * (q * q - 4 * p * s)) = -(g * g * (q * q - 4 * p * s)) := by grind
      rw [x, key]
      grind
  · cases z : isSqB (q * q - 4 * p * s)
    · rfl
    · exfalso
      unfold isSqB at z
      simp only [Bool.and_eq_true, decide_eq_true_eq] at z
      have x := sq_free (A := 2 * d * b) (B := g * isq (q * q - 4 * p * s)) (r := r) (Int.mul_ne_zero (by omega) hb) (by
        have y : g * isq (q * q - 4 * p * s) * (g * isq (q * q - 4 * p * s)) = g * g * (isq (q * q - 4 * p * s) * isq (q * q - 4 * p * s)) := by grind
        rw [y, z.2, key]
        grind) (by omega)
      rw [x] at hsq
      cases hsq
/-- a fraction's form as a number -/
theorem frac_d {a d : Int} (hd : 0 < d) (za : a.natAbs < 2 ^ 900) (zd : d.natAbs < 2 ^ 900) :
    ∃ a' d' g : Int, NumD (fracD a d) a' 0 0 d' ∧ 0 < g ∧ g * d' = d ∧ g * a' = a ∧ 0 < d' ∧ a'.natAbs < 2 ^ 900 ∧ d'.natAbs < 2 ^ 900 := by
  obtain ⟨e1, e2⟩ := red_pos (a := a) hd
  have le := red_le (a := a) hd
  refine ⟨redN a d, redD a d, gcdI a d, .inl ⟨rfl, rfl, rfl⟩, gcd_pos (by omega), ?_, ?_, (red_fr hd).1, by omega, by omega⟩
  · rw [e2]
    exact Int.mul_ediv_cancel' (gcd_dvd_r _ _)
  · rw [e1]
    exact Int.mul_ediv_cancel' (gcd_dvd_l _ _)

theorem isq_half {n : Int} {k : Nat} (h : n.natAbs < 2 ^ (k + k)) : (isq n).natAbs < 2 ^ k := by
  rcases (by omega : n < 1 ∨ 1 ≤ n) with c | c
  · rw [isq_neg c]
    exact Nat.pow_pos (by decide)
  · have h0 := isq_nn n
    have h1 := isq_le (n := n) (by omega)
    have h2 := Int.mul_nonneg h0 h0
    apply Decidable.byContradiction
    intro z
    have l : 2 ^ k ≤ (isq n).natAbs := by omega
    have m := Nat.mul_le_mul l l
    rw [← Nat.pow_add] at m
    have e : ((isq n).natAbs * (isq n).natAbs : Nat) = (isq n * isq n).natAbs := (Int.natAbs_mul _ _).symm
    omega
/-- two numbers over one root -/
def one7 (a b r w c d s v : Int) : List Int := if r = 0 then [a, b, w, c, d, v, s] else [a, b, w, c * r, d * isq (r * s), v * r, r]
/-- what is told of two spreads over one root -/
structure TwoOk (a b r d c e v a1 b1 w1 c1 d1 v1 r1 : Int) : Prop where
  x1 : a1.natAbs < 2 ^ 20000
  x2 : b1.natAbs < 2 ^ 20000
  x3 : w1.natAbs < 2 ^ 20000
  x4 : c1.natAbs < 2 ^ 20000
  x5 : d1.natAbs < 2 ^ 20000
  x6 : v1.natAbs < 2 ^ 20000
  x7 : r1.natAbs < 2 ^ 4000
  s1 : (a1 * v1 + c1 * w1).natAbs < 2 ^ 4000
  s2 : (b1 * v1 + d1 * w1).natAbs < 2 ^ 4000
  m1 : (a1 * c1 + b1 * d1 * r1).natAbs < 2 ^ 4000
  m2 : (a1 * d1 + b1 * c1).natAbs < 2 ^ 4000
  dd : (w1 * v1).natAbs < 2 ^ 4000
  nz : w1 * v1 ≠ 0
  sq1 : b1 * v1 + d1 * w1 ≠ 0 → isSqB r1 = false
  sq2 : a1 * d1 + b1 * c1 ≠ 0 → isSqB r1 = false
  sum : formD (a1 * v1 + c1 * w1) (b1 * v1 + d1 * w1) r1 (w1 * v1) = formD (a * v + c * d) (b * v + e * d) r (d * v)
  mul : formD (a1 * c1 + b1 * d1 * r1) (a1 * d1 + b1 * c1) r1 (w1 * v1) = formD (a * c + b * e * r) (a * e + b * c) r (d * v)
/-- both over one root, by their values -/
theorem one_sum {a b r d c e v a1 b1 w1 c1 d1 v1 r1 k l : Int} (hd : 0 < d) (hv : 0 < v) (hr : 0 ≤ r) (hw : 0 < w1) (hv1 : 0 < v1) (hr1 : 0 ≤ r1) (ea : a1 * d = a * w1) (ec : c1 * v = c * v1) (hk : 0 < k) (hl : 0 < l) (kl : k * k * r = l * l * r1) (eb : b1 * d * k = b * w1 * l) (ee : d1 * v * k = e * v1 * l) :
    formD (a1 * v1 + c1 * w1) (b1 * v1 + d1 * w1) r1 (w1 * v1) = formD (a * v + c * d) (b * v + e * d) r (d * v) := by
  have p1 := Int.mul_pos hd hv
  have p2 := Int.mul_pos hw hv1
  refine (form_same ⟨d * v, w1 * v1, p1, p2, by grind, ?_, ?_⟩ p1 p2 hr hr1).symm
  · have x : d * v * (a1 * v1 + c1 * w1) = (a1 * d) * v * v1 + (c1 * v) * d * w1 := by grind
    rw [x, ea, ec]
    grind
  · have kk : 0 < k * k := Int.mul_pos hk hk
    have x : k * (d * v * (b1 * v1 + d1 * w1)) = l * (w1 * v1 * (b * v + e * d)) := by
      have y : k * (d * v * (b1 * v1 + d1 * w1)) = (b1 * d * k) * v * v1 + (d1 * v * k) * d * w1 := by grind
      rw [y, eb, ee]
      grind
    have y := congrArg ss x
    rw [ss_up hk, ss_up hl, ss_up p1, ss_up p2] at y
    refine Int.eq_of_mul_eq_mul_left (show k * k ≠ 0 by omega) ?_
    have z : k * k * (d * v * (d * v) * (ss (b1 * v1 + d1 * w1) * r1)) = k * k * (d * v * (d * v) * ss (b1 * v1 + d1 * w1)) * r1 := by grind
    rw [z, y]
    have z2 : l * l * (w1 * v1 * (w1 * v1) * ss (b * v + e * d)) * r1 = (l * l * r1) * (w1 * v1 * (w1 * v1) * ss (b * v + e * d)) := by grind
    rw [z2, ← kl]
    grind
theorem one_mul {a b r d c e v a1 b1 w1 c1 d1 v1 r1 k l : Int} (hd : 0 < d) (hv : 0 < v) (hr : 0 ≤ r) (hw : 0 < w1) (hv1 : 0 < v1) (hr1 : 0 ≤ r1) (ea : a1 * d = a * w1) (ec : c1 * v = c * v1) (hk : 0 < k) (hl : 0 < l) (kl : k * k * r = l * l * r1) (eb : b1 * d * k = b * w1 * l) (ee : d1 * v * k = e * v1 * l) :
    formD (a1 * c1 + b1 * d1 * r1) (a1 * d1 + b1 * c1) r1 (w1 * v1) = formD (a * c + b * e * r) (a * e + b * c) r (d * v) := by
  have p1 := Int.mul_pos hd hv
  have p2 := Int.mul_pos hw hv1
  have kk : 0 < k * k := Int.mul_pos hk hk
  refine (form_same ⟨d * v, w1 * v1, p1, p2, by grind, ?_, ?_⟩ p1 p2 hr hr1).symm
  · refine Int.eq_of_mul_eq_mul_left (show k * k ≠ 0 by omega) ?_
    have x : k * k * (d * v * (a1 * c1 + b1 * d1 * r1)) = k * k * ((a1 * d) * (c1 * v)) + (b1 * d * k) * (d1 * v * k) * r1 := by grind
    rw [x, ea, ec, eb, ee]
    have y : b * w1 * l * (e * v1 * l) * r1 = b * w1 * (e * v1) * (l * l * r1) := by grind
    rw [y, ← kl]
    grind
  · have x : k * (d * v * (a1 * d1 + b1 * c1)) = l * (w1 * v1 * (a * e + b * c)) := by
      have y : k * (d * v * (a1 * d1 + b1 * c1)) = (a1 * d) * (d1 * v * k) + (b1 * d * k) * (c1 * v) := by grind
      rw [y, ea, ec, eb, ee]
      grind
    have y := congrArg ss x
    rw [ss_up hk, ss_up hl, ss_up p1, ss_up p2] at y
    refine Int.eq_of_mul_eq_mul_left (show k * k ≠ 0 by omega) ?_
    have z : k * k * (d * v * (d * v) * (ss (a1 * d1 + b1 * c1) * r1)) = k * k * (d * v * (d * v) * ss (a1 * d1 + b1 * c1)) * r1 := by grind
    rw [z, y]
    have z2 : l * l * (w1 * v1 * (w1 * v1) * ss (a * e + b * c)) * r1 = (l * l * r1) * (w1 * v1 * (w1 * v1) * ss (a * e + b * c)) := by grind
    rw [z2, ← kl]
    grind
/-- two fractions -/
theorem two_flat {a d c v : Int} (za : a.natAbs < 2 ^ 900) (zd : d.natAbs < 2 ^ 900) (zc : c.natAbs < 2 ^ 900) (zv : v.natAbs < 2 ^ 900) (hd : 0 < d) (hv : 0 < v) :
    ∃ a' b' r' d' c' e' s' v' a1 b1 w1 c1 d1 v1 r1 : Int, NumD (fracD a d) a' b' r' d' ∧ NumD (fracD c v) c' e' s' v' ∧ Fine4 a' b' r' d' ∧ Fine4 c' e' s' v' ∧ (r' ≠ 0 → 0 ≤ r' * s' ∧ (r' * s').natAbs < 2 ^ 13000) ∧
      one7 a' b' r' d' c' e' s' v' = [a1, b1, w1, c1, d1, v1, r1] ∧ TwoOk a 0 0 d c 0 v a1 b1 w1 c1 d1 v1 r1 := by
  obtain ⟨a', d', g, n1, hg, e1, e2, p1, y1, y2⟩ := frac_d hd za zd
  obtain ⟨c', v', i, n2, hi, e3, e4, p2, y3, y4⟩ := frac_d hv zc zv
  refine ⟨a', 0, 0, d', c', 0, 0, v', a', 0, d', c', 0, v', 0, n1, n2, ⟨two_le y1 (by decide), by decide, by decide, two_le y2 (by decide)⟩, ⟨two_le y3 (by decide), by decide, by decide, two_le y4 (by decide)⟩, fun z => absurd rfl z, if_pos rfl, ?_⟩
  have m1 := mul_lt y1 y4
  have m2 := mul_lt y3 y2
  have q1 : (a' * c' + 0 * 0 * 0 : Int) = a' * c' := by grind
  have q2 : (a' * 0 + 0 * c' : Int) = 0 := by grind
  have q3 : (0 * v' + 0 * d' : Int) = 0 := by grind
  refine ⟨two_le y1 (by decide), by decide, two_le y2 (by decide), two_le y3 (by decide), by decide, two_le y4 (by decide), by decide, two_le (add_lt m1 (two_le m2 (show 900 + 900 ≤ 900 + 900 by decide))) (by decide), by rw [q3]; decide, by rw [q1]; exact two_le (mul_lt y1 y3) (by decide), by rw [q2]; decide, two_le (mul_lt y2 y4) (by decide), by have := Int.mul_pos p1 p2; omega, fun z => absurd q3 z, fun z => absurd q2 z, ?_, ?_⟩
  · exact one_sum (k := 1) (l := 1) hd hv (by decide) p1 p2 (by decide) (by rw [← e1, ← e2]; grind) (by rw [← e3, ← e4]; grind) (by decide) (by decide) rfl (by grind) (by grind)
  · exact one_mul (k := 1) (l := 1) hd hv (by decide) p1 p2 (by decide) (by rw [← e1, ← e2]; grind) (by rw [← e3, ← e4]; grind) (by decide) (by decide) rfl (by grind) (by grind)

theorem sg_ab {x y : Int} (h : sg x = sg y) : x * ab y = y * ab x := by
  rcases tri y with k | k | k
  · rw [sg_neg k] at h
    have hx := sg_val.2.2 h
    rw [ab_np (by omega), ab_np (by omega)]
    grind
  · rw [k, sg_zero] at h
    rw [k, sg_val.1 h]
  · rw [sg_pos k] at h
    have hx := sg_val.2.1 h
    rw [ab_nn (by omega), ab_nn (by omega)]
    grind
/-- what a root's spread says: its sign and its square -/
theorem root_facts {g h b b' r r' : Int} (hg : 0 < g) (hh : 0 < h) (hr : 0 < r) (hr' : 0 < r') (e : g * g * (ss b' * r') = h * h * (ss b * r)) : sg b' = sg b ∧ g * ab b' * (g * ab b') * r' = h * ab b * (h * ab b) * r := by
  have gg := Int.mul_pos hg hg
  have hhp := Int.mul_pos hh hh
  constructor
  · have q := congrArg sg e
    rw [sg_up gg, sg_up hhp, sg_mul, sg_mul, sg_ss, sg_ss, sg_pos hr, sg_pos hr', Int.mul_one, Int.mul_one] at q
    exact q
  · have q := congrArg ab e
    rw [ab_mul, ab_mul (ss b'), ab_ss, ab_mul (h * h), ab_mul (ss b), ab_ss, ab_nn (x := g * g) (by omega), ab_nn (x := h * h) (by omega), ab_nn (x := r) (by omega), ab_nn (x := r') (by omega)] at q
    have x : g * ab b' * (g * ab b') * r' = g * g * ((ab b' * ab b') * r') := by grind
    have y : h * ab b * (h * ab b) * r = h * h * ((ab b * ab b) * r) := by grind
    rw [x, y, ab_sq, ab_sq, q]
theorem ab_pos {x : Int} (h : x ≠ 0) : 0 < ab x := by
  unfold ab
  split <;> omega
/-- a fraction and a root -/
theorem two_fq {a c e r d v : Int} (za : a.natAbs < 2 ^ 900) (zd : d.natAbs < 2 ^ 900) (hd : 0 < d) (z : Bd c e r v) (hv : 0 < v) (hr : 0 ≤ r) (he : e ≠ 0) (hsq : isSqB r = false) :
    ∃ a' b' r' d' c' e' s' v' a1 b1 w1 c1 d1 v1 r1 : Int, NumD (fracD a d) a' b' r' d' ∧ NumD (formD c e r v) c' e' s' v' ∧ Fine4 a' b' r' d' ∧ Fine4 c' e' s' v' ∧ (r' ≠ 0 → 0 ≤ r' * s' ∧ (r' * s').natAbs < 2 ^ 13000) ∧
      one7 a' b' r' d' c' e' s' v' = [a1, b1, w1, c1, d1, v1, r1] ∧ TwoOk a 0 r d c e v a1 b1 w1 c1 d1 v1 r1 := by
  obtain ⟨a', d', g, n1, hg, e1, e2, p1, y1, y2⟩ := frac_d hd za zd
  obtain ⟨c', e', s', v', i, j, n2, hi, hj, e3, e4, e5, p2, hs, he', nsq, y3, y4, y5, y6⟩ := quad_d z hv hr he hsq
  have r0 : 0 < r := by
    rcases (by omega : 0 < r ∨ r = 0) with z | z
    · exact z
    · rw [z] at hsq
      exact absurd hsq (by decide +kernel)
  obtain ⟨sgn, kl⟩ := root_facts hi hj r0 hs e5
  refine ⟨a', 0, 0, d', c', e', s', v', a', 0, d', c', e', v', s', n1, n2, ⟨two_le y1 (by decide), by decide, by decide, two_le y2 (by decide)⟩, ⟨two_le y3 (by decide), two_le y4 (by decide), two_le y5 (by decide), two_le y6 (by decide)⟩, fun z => absurd rfl z, if_pos rfl, ?_⟩
  have q1 : a' * c' + 0 * e' * s' = a' * c' := by grind
  have q2 : a' * e' + 0 * c' = a' * e' := by grind
  have q3 : 0 * v' + e' * d' = e' * d' := by grind
  have kp := Int.mul_pos hj (ab_pos he)
  have lp := Int.mul_pos hi (ab_pos he')
  have ee : e' * v * (j * ab e) = e * v' * (i * ab e') := by
    have x : e' * v * (j * ab e) = (j * v) * (e' * ab e) := by grind
    rw [x, ← e3, sg_ab sgn]
    grind
  have ec : c' * v = c * v' := by
    refine Int.eq_of_mul_eq_mul_left (show i ≠ 0 by omega) ?_
    have x : i * (c' * v) = (i * c') * v := by grind
    have x2 : i * (c * v') = c * (i * v') := by grind
    rw [x, x2, e4, e3]
    grind
  refine ⟨two_le y1 (by decide), by decide, two_le y2 (by decide), two_le y3 (by decide), two_le y4 (by decide), two_le y6 (by decide), two_le y5 (by decide), two_le (add_lt (two_le (mul_lt y1 y6) (show 900 + 903 ≤ 1803 by decide)) (two_le (mul_lt y3 y2) (show 903 + 900 ≤ 1803 by decide))) (by decide), by rw [q3]; exact two_le (mul_lt y4 y2) (by decide), by rw [q1]; exact two_le (mul_lt y1 y3) (by decide), by rw [q2]; exact two_le (mul_lt y1 y4) (by decide), two_le (mul_lt y2 y6) (by decide), by have := Int.mul_pos p1 p2; omega, fun _ => nsq, fun _ => nsq, ?_, ?_⟩
  · exact one_sum hd hv hr p1 p2 (by omega) (by rw [← e1, ← e2]; grind) ec kp lp kl.symm (by grind) ee
  · exact one_mul hd hv hr p1 p2 (by omega) (by rw [← e1, ← e2]; grind) ec kp lp kl.symm (by grind) ee
/-- a root and a fraction -/
theorem two_qf {a b c r d v : Int} (zc : c.natAbs < 2 ^ 900) (zv : v.natAbs < 2 ^ 900) (hv : 0 < v) (z : Bd a b r d) (hd : 0 < d) (hr : 0 ≤ r) (hb : b ≠ 0) (hsq : isSqB r = false) :
    ∃ a' b' r' d' c' e' s' v' a1 b1 w1 c1 d1 v1 r1 : Int, NumD (formD a b r d) a' b' r' d' ∧ NumD (fracD c v) c' e' s' v' ∧ Fine4 a' b' r' d' ∧ Fine4 c' e' s' v' ∧ (r' ≠ 0 → 0 ≤ r' * s' ∧ (r' * s').natAbs < 2 ^ 13000) ∧
      one7 a' b' r' d' c' e' s' v' = [a1, b1, w1, c1, d1, v1, r1] ∧ TwoOk a b r d c 0 v a1 b1 w1 c1 d1 v1 r1 := by
  obtain ⟨c', v', i, n2, hi, e1, e2, p2, y3, y4⟩ := frac_d hv zc zv
  obtain ⟨a', b', r', d', g, h, n1, hg, hh, e3, e4, e5, p1, hs, hb', nsq, y1, y2, y5, y6⟩ := quad_d z hd hr hb hsq
  have r0 : 0 < r := by
    rcases (by omega : 0 < r ∨ r = 0) with z | z
    · exact z
    · rw [z] at hsq
      exact absurd hsq (by decide +kernel)
  obtain ⟨sgn, kl⟩ := root_facts hg hh r0 hs e5
  have z0 : (0 * isq (r' * 0) : Int) = 0 := by grind
  refine ⟨a', b', r', d', c', 0, 0, v', a', b', d', c' * r', 0, v' * r', r', n1, n2, ⟨two_le y1 (by decide), two_le y2 (by decide), two_le y5 (by decide), two_le y6 (by decide)⟩, ⟨two_le y3 (by decide), by decide, by decide, two_le y4 (by decide)⟩, fun _ => by rw [Int.mul_zero]; exact ⟨by decide, by decide⟩, by unfold one7; rw [if_neg (by omega), z0], ?_⟩
  have m1 := mul_lt y3 y5
  have m2 := mul_lt y4 y5
  have q1 : a' * (c' * r') + b' * 0 * r' = a' * (c' * r') := by grind
  have q2 : a' * 0 + b' * (c' * r') = b' * (c' * r') := by grind
  have q3 : b' * (v' * r') + 0 * d' = b' * (v' * r') := by grind
  have kp := Int.mul_pos hh (ab_pos hb)
  have lp := Int.mul_pos hg (ab_pos hb')
  have pv := Int.mul_pos p2 hs
  have eb : b' * d * (h * ab b) = b * d' * (g * ab b') := by
    have x : b' * d * (h * ab b) = (h * d) * (b' * ab b) := by grind
    rw [x, ← e3, sg_ab sgn]
    grind
  have ea : a' * d = a * d' := by
    refine Int.eq_of_mul_eq_mul_left (show g ≠ 0 by omega) ?_
    have x : g * (a' * d) = (g * a') * d := by grind
    have x2 : g * (a * d') = a * (g * d') := by grind
    rw [x, x2, e4, e3]
    grind
  have ec : c' * r' * v = c * (v' * r') := by
    rw [← e1, ← e2]
    grind
  refine ⟨two_le y1 (by decide), two_le y2 (by decide), two_le y6 (by decide), two_le m1 (by decide), by decide, two_le m2 (by decide), two_le y5 (by decide), two_le (add_lt (two_le (mul_lt y1 m2) (show 903 + (900 + 1808) ≤ 3611 by decide)) (two_le (mul_lt m1 y6) (show 900 + 1808 + 903 ≤ 3611 by decide))) (by decide), by rw [q3]; exact two_le (mul_lt y2 m2) (by decide), by rw [q1]; exact two_le (mul_lt y1 m1) (by decide), by rw [q2]; exact two_le (mul_lt y2 m1) (by decide), two_le (mul_lt y6 m2) (by decide), by have := Int.mul_pos p1 pv; omega, fun _ => nsq, fun _ => nsq, ?_, ?_⟩
  · exact one_sum hd hv hr p1 pv (by omega) ea ec kp lp kl.symm eb (by grind)
  · exact one_mul hd hv hr p1 pv (by omega) ea ec kp lp kl.symm eb (by grind)
/-- two roots -/
theorem two_qq {a b c e r d v : Int} (z : Bd a b r d) (z2 : Bd c e r v) (hd : 0 < d) (hv : 0 < v) (hr : 0 ≤ r) (hb : b ≠ 0) (he : e ≠ 0) (hsq : isSqB r = false) :
    ∃ a' b' r' d' c' e' s' v' a1 b1 w1 c1 d1 v1 r1 : Int, NumD (formD a b r d) a' b' r' d' ∧ NumD (formD c e r v) c' e' s' v' ∧ Fine4 a' b' r' d' ∧ Fine4 c' e' s' v' ∧ (r' ≠ 0 → 0 ≤ r' * s' ∧ (r' * s').natAbs < 2 ^ 13000) ∧
      one7 a' b' r' d' c' e' s' v' = [a1, b1, w1, c1, d1, v1, r1] ∧ TwoOk a b r d c e v a1 b1 w1 c1 d1 v1 r1 := by
  obtain ⟨a', b', r', d', g, h, n1, hg, hh, e3, e4, e5, p1, hs, hb', nsq, y1, y2, y5, y6⟩ := quad_d z hd hr hb hsq
  obtain ⟨c', e', s', v', i, j, n2, hi, hj, f3, f4, f5, p2, ht, he', nsq2, x1, x2, x5, x6⟩ := quad_d z2 hv hr he hsq
  have r0 : 0 < r := by
    rcases (by omega : 0 < r ∨ r = 0) with z | z
    · exact z
    · rw [z] at hsq
      exact absurd hsq (by decide +kernel)
  obtain ⟨sgn, kl⟩ := root_facts hg hh r0 hs e5
  obtain ⟨sgn2, kl2⟩ := root_facts hi hj r0 ht f5
  have rs0 : 0 < r' * s' := Int.mul_pos hs ht
  have rsz := mul_lt y5 x5
  have iz := isq_half rsz
  have isn := isq_nn (r' * s')
  have sqr : isSqB (r' * s') = true := by
    refine sq_free (A := g * ab b' * (i * ab e')) (B := h * ab b * (j * ab e) * r) ?_ ?_ (by omega)
    · have k1 := Int.mul_pos (Int.mul_pos hg (ab_pos hb')) (Int.mul_pos hi (ab_pos he'))
      omega
    · have x : g * ab b' * (i * ab e') * (g * ab b' * (i * ab e')) * (r' * s') = (g * ab b' * (g * ab b') * r') * (i * ab e' * (i * ab e') * s') := by grind
      rw [x, kl, kl2]
      grind
  have ii := isSq_root sqr
  refine ⟨a', b', r', d', c', e', s', v', a', b', d', c' * r', e' * isq (r' * s'), v' * r', r', n1, n2, ⟨two_le y1 (by decide), two_le y2 (by decide), two_le y5 (by decide), two_le y6 (by decide)⟩, ⟨two_le x1 (by decide), two_le x2 (by decide), two_le x5 (by decide), two_le x6 (by decide)⟩, fun _ => ⟨by omega, two_le rsz (by decide)⟩, by unfold one7; rw [if_neg (by omega)], ?_⟩
  generalize isq (r' * s') = t at *
  have m1 := mul_lt x1 y5
  have m2 := mul_lt x6 y5
  have m3 := mul_lt x2 iz
  have kp := Int.mul_pos hh (ab_pos hb)
  have lp := Int.mul_pos hg (ab_pos hb')
  have pv := Int.mul_pos p2 hs
  have eb : b' * d * (h * ab b) = b * d' * (g * ab b') := by
    have x : b' * d * (h * ab b) = (h * d) * (b' * ab b) := by grind
    rw [x, ← e3, sg_ab sgn]
    grind
  have ea : a' * d = a * d' := by
    refine Int.eq_of_mul_eq_mul_left (show g ≠ 0 by omega) ?_
    have x : g * (a' * d) = (g * a') * d := by grind
    have x2 : g * (a * d') = a * (g * d') := by grind
    rw [x, x2, e4, e3]
    grind
  have ec : c' * r' * v = c * (v' * r') := by
    refine Int.eq_of_mul_eq_mul_left (show i ≠ 0 by omega) ?_
    have x : i * (c' * r' * v) = (i * c') * r' * v := by grind
    have x2 : i * (c * (v' * r')) = c * r' * (i * v') := by grind
    rw [x, x2, f4, f3]
    grind
  have key : e' * t * (h * ab b) * i = e * r' * (g * ab b') * j := by
    apply ss_inj
    have kp' : 0 ≤ h * ab b := by omega
    have lp' : 0 ≤ g * ab b' := by omega
    rw [ss_mul, ss_mul, ss_mul, ss_mul (e * r' * (g * ab b')), ss_mul (e * r'), ss_mul e, ss_nn isn, ss_nn kp', ss_nn (x := i) (by omega), ss_nn (x := r') (by omega), ss_nn lp', ss_nn (x := j) (by omega), ii]
    have x : ss e' * (r' * s') * (h * ab b * (h * ab b)) * (i * i) = (i * i * (ss e' * s')) * r' * (h * ab b * (h * ab b)) := by grind
    rw [x, f5]
    have y : ss e * (r' * r') * (g * ab b' * (g * ab b')) * (j * j) = ss e * r' * (j * j) * (g * ab b' * (g * ab b') * r') := by grind
    rw [y, kl]
    grind
  have ee : e' * t * v * (h * ab b) = e * (v' * r') * (g * ab b') := by
    refine Int.eq_of_mul_eq_mul_left (show i ≠ 0 by omega) ?_
    have x : i * (e' * t * v * (h * ab b)) = (e' * t * (h * ab b) * i) * v := by grind
    have x2 : i * (e * (v' * r') * (g * ab b')) = e * r' * (g * ab b') * (i * v') := by grind
    rw [x, x2, key, f3]
    grind
  refine ⟨two_le y1 (by decide), two_le y2 (by decide), two_le y6 (by decide), two_le m1 (by decide), two_le m3 (by decide), two_le m2 (by decide), two_le y5 (by decide), two_le (add_lt (two_le (mul_lt y1 m2) (show 903 + (903 + 1808) ≤ 3614 by decide)) (two_le (mul_lt m1 y6) (show 903 + 1808 + 903 ≤ 3614 by decide))) (by decide), two_le (add_lt (two_le (mul_lt y2 m2) (show 2 + (903 + 1808) ≤ 2713 by decide)) (two_le (mul_lt m3 y6) (show 2 + 1808 + 903 ≤ 2713 by decide))) (by decide), two_le (add_lt (two_le (mul_lt y1 m1) (show 903 + (903 + 1808) ≤ 3620 by decide)) (two_le (mul_lt (mul_lt y2 m3) y5) (show 2 + (2 + 1808) + 1808 ≤ 3620 by decide))) (by decide), two_le (add_lt (two_le (mul_lt y1 m3) (show 903 + (2 + 1808) ≤ 2713 by decide)) (two_le (mul_lt y2 m1) (show 2 + (903 + 1808) ≤ 2713 by decide))) (by decide), two_le (mul_lt y6 m2) (by decide), by have := Int.mul_pos p1 pv; omega, fun _ => nsq, fun _ => nsq, ?_, ?_⟩
  · exact one_sum hd hv hr p1 pv (by omega) ea ec kp lp kl.symm eb ee
  · exact one_mul hd hv hr p1 pv (by omega) ea ec kp lp kl.symm eb ee
/-- any two numbers of one root -/
theorem two_d {a b c e r d v : Int} (z : Bd a b r d) (z2 : Bd c e r v) (hd : 0 < d) (hv : 0 < v) (hr : 0 ≤ r) :
    ∃ a' b' r' d' c' e' s' v' a1 b1 w1 c1 d1 v1 r1 : Int, NumD (formD a b r d) a' b' r' d' ∧ NumD (formD c e r v) c' e' s' v' ∧ Fine4 a' b' r' d' ∧ Fine4 c' e' s' v' ∧ (r' ≠ 0 → 0 ≤ r' * s' ∧ (r' * s').natAbs < 2 ^ 13000) ∧
      one7 a' b' r' d' c' e' s' v' = [a1, b1, w1, c1, d1, v1, r1] ∧ TwoOk a b r d c e v a1 b1 w1 c1 d1 v1 r1 := by
  obtain ⟨za, zb, zr, zd⟩ := id z
  obtain ⟨zc, ze, _, zv⟩ := id z2
  cases hsq : isSqB r with
  | true =>
    have sz := isq_small zr
    have ss2 := isSq_root hsq
    rw [form_sq hsq, form_sq (a := c) hsq, form_zero, form_zero]
    have w1 := two_le (add_lt (two_le za (show 450 ≤ 200 + 450 by decide)) (mul_lt zb sz)) (show 200 + 450 + 1 ≤ 900 by decide)
    have w2 := two_le (add_lt (two_le zc (show 450 ≤ 200 + 450 by decide)) (mul_lt ze sz)) (show 200 + 450 + 1 ≤ 900 by decide)
    obtain ⟨a', b', r', d', c', e', s', v', a1, b1, w1, c1, d1, v1, r1, h1, h2, h3, h4, h5, h6, t⟩ := two_flat w1 (two_le zd (by decide)) w2 (two_le zv (by decide)) hd hv
    refine ⟨a', b', r', d', c', e', s', v', a1, b1, w1, c1, d1, v1, r1, h1, h2, h3, h4, h5, h6, { t with sum := ?_, mul := ?_ }⟩
    · rw [t.sum, form_sq (b := b * v + e * d) hsq, form_zz _ r 0]
      congr 1 <;> grind
    · rw [t.mul, form_sq (b := a * e + b * c) hsq, form_zz _ r 0]
      generalize isq r = s at *
      rw [← ss2]
      congr 1 <;> grind
  | false =>
    by_cases cb : b = 0 <;> by_cases ce : e = 0
    · subst cb
      subst ce
      rw [form_zero, form_zero]
      obtain ⟨a', b', r', d', c', e', s', v', a1, b1, w1, c1, d1, v1, r1, h1, h2, h3, h4, h5, h6, t⟩ := two_flat (two_le za (show 450 ≤ 900 by decide)) (two_le zd (by decide)) (two_le zc (show 450 ≤ 900 by decide)) (two_le zv (by decide)) hd hv
      refine ⟨a', b', r', d', c', e', s', v', a1, b1, w1, c1, d1, v1, r1, h1, h2, h3, h4, h5, h6, { t with sum := ?_, mul := ?_ }⟩
      · have q : (0 * v + 0 * d : Int) = 0 := by grind
        rw [t.sum, q, form_zz _ r 0]
      · have q : (a * 0 + 0 * c : Int) = 0 := by grind
        have q2 : (0 * 0 * r : Int) = 0 * 0 * 0 := by grind
        rw [t.mul, q, q2, form_zz _ r 0]
    · subst cb
      rw [form_zero]
      exact two_fq (two_le za (by decide)) (two_le zd (by decide)) hd z2 hv hr ce hsq
    · subst ce
      rw [form_zero c]
      exact two_qf (two_le zc (by decide)) (two_le zv (by decide)) hv z hd hr cb hsq
    · exact two_qq z z2 hd hv hr cb ce hsq

/-- a form told by other parts -/
theorem form_to {a b r d A B D : Int} (hd : 0 < d) (hD : 0 < D) (hr : 0 ≤ r) (e1 : a * D = A * d) (e2 : b * D = B * d) : formD a b r d = formD A B r D := by
  refine form_same ⟨d, D, hd, hD, Int.mul_comm _ _, by grind, ?_⟩ hd hD hr hr
  have x : d * B = D * b := by grind
  have y := congrArg ss x
  rw [ss_up hd, ss_up hD] at y
  have z : d * d * (ss B * r) = d * d * ss B * r := by grind
  rw [z, y]
  grind
theorem fdiv_neg {x g : Int} (hg : 0 < g) (h : g ∣ x) : (-x).fdiv g = - x.fdiv g := by
  obtain ⟨k, rfl⟩ := h
  rw [Int.fdiv_eq_ediv_of_nonneg _ (by omega), Int.fdiv_eq_ediv_of_nonneg _ (by omega), show -(g * k) = g * -k by grind, Int.mul_ediv_cancel_left _ (by omega), Int.mul_ediv_cancel_left _ (by omega)]
theorem gcd_negL (x y : Int) : gcdI (-x) y = gcdI x y := by
  unfold gcdI
  rw [Int.natAbs_neg]
theorem gcd_negR (x y : Int) : gcdI x (-y) = gcdI x y := by
  unfold gcdI
  rw [Int.natAbs_neg]
/-- a fraction told over a number below 0 -/
theorem frac_flip {a b : Int} (hb : b ≠ 0) : fracD (-a) (-b) = fracD a b := by
  unfold fracD redN redD gz
  rw [gcd_negL, gcd_negR]
  have g0 := gcd_pos (a := a) hb
  have da := gcd_dvd_l a b
  have db := gcd_dvd_r a b
  obtain ⟨g, hg⟩ : ∃ g, gcdI a b = g := ⟨_, rfl⟩
  rw [hg] at g0 da db ⊢
  obtain ⟨k, rfl⟩ := da
  obtain ⟨l, rfl⟩ := db
  have e1 : ∀ k : Int, (-(g * k)).fdiv g = -k := fun k => by rw [fdiv_neg g0 ⟨k, rfl⟩, Int.fdiv_eq_ediv_of_nonneg _ (by omega), Int.mul_ediv_cancel_left _ (by omega)]
  have e2 : ∀ k : Int, (g * k).fdiv (-g) = -k := fun k => by
    have : g * k = -g * -k := by grind
    rw [this]
    exact Int.mul_fdiv_cancel_left _ (by omega)
  have e3 : ∀ k : Int, (-(g * k)).fdiv (-g) = k := fun k => by
    have : -(g * k) = -g * k := by grind
    rw [this]
    exact Int.mul_fdiv_cancel_left _ (by omega)
  have e4 : ∀ k : Int, (g * k).fdiv g = k := fun k => Int.mul_fdiv_cancel_left _ (by omega)
  rcases (by omega : 0 < g * l ∨ g * l < 0) with c | c
  · rw [if_pos (by omega), if_neg (by omega), e3, e3, e4, e4]
  · rw [if_neg (by omega), if_pos (by omega), e1, e1, e2, e2]
/-- the opposite of a form -/
def negD : PyData → PyData
  | .tuple [.int a, .int b] => .tuple [.int (-a), .int b]
  | .tuple [.int p, .int q, .int s, .bool u] => .tuple [.int p, .int (-q), .int s, .bool (!u)]
  | x => x
theorem form_neg {a b r d : Int} (hd : 0 < d) : negD (formD a b r d) = formD (-a) (-b) r d := by
  by_cases c : b = 0 ∨ isSqB r = true
  · rw [form_flat c, form_flat (by rcases c with c | c; exact .inl (by omega); exact .inr c)]
    have e : -a + -b * isq r = -(a + b * isq r) := by grind
    rw [e]
    obtain ⟨h1, h2⟩ := redN_neg (a := a + b * isq r) hd
    unfold fracD
    rw [h1, h2]
    rfl
  · have c' : ¬ (-b = 0 ∨ isSqB r = true) := fun z => z.elim (fun z => c (.inl (by omega))) fun z => c (.inr z)
    unfold formD
    rw [if_neg c, if_neg c']
    have e1 : 0 - 2 * -a * d = -(0 - 2 * a * d) := by grind
    have e2 : -a * -a - -b * -b * r = a * a - b * b * r := by grind
    have g0 := gcd_pos3 (a := 0 - 2 * a * d) (b := a * a - b * b * r) hd
    have d2 : gcdI (gcdI (d * d) (0 - 2 * a * d)) (a * a - b * b * r) ∣ 0 - 2 * a * d := Int.dvd_trans (gcd_dvd_l _ _) (gcd_dvd_r _ _)
    have b0 : b ≠ 0 := fun z => c (.inl z)
    have u : decide (0 < -b) = !decide (0 < b) := by
      by_cases k : 0 < b
      · rw [decide_eq_true k, decide_eq_false (by omega)] <;> rfl
      · rw [decide_eq_false k, decide_eq_true (by omega)] <;> rfl
    unfold quadD
    rw [e1, e2, gcd_negR, fdiv_neg g0 d2, u]
    rfl
theorem neg_num {x : PyData} {a b r d : Int} (hn : NumD x a b r d) : NumD (negD x) (-a) (-b) r d := by
  rcases hn with ⟨rfl, rfl, rfl⟩ | ⟨p, q, s, u, rfl, rfl, rfl, rfl, rfl, z1, z2, z3⟩
  · exact .inl ⟨rfl, rfl, rfl⟩
  · refine .inr ⟨p, -q, s, !u, rfl, by omega, ?_, by grind, rfl, z1, by omega, z3⟩
    cases u <;> rfl
/-- a tuple of two or of four: a number's form -/
theorem Bd.neg {a b r d : Int} (z : Bd a b r d) : Bd (-a) (-b) r d := ⟨by have := z.1; omega, by have := z.2.1; omega, z.2.2.1, z.2.2.2⟩
theorem Bd.fr {a d r : Int} (z1 : a.natAbs < 2 ^ 450) (z2 : d.natAbs < 2 ^ 450) (zr : r.natAbs < 2 ^ 450) : Bd a 0 r d := ⟨z1, by decide, zr, z2⟩
end Lw

namespace Lw
open PySem L2
/-! ### wide numbers: as in Num6 with wider bounds -/
def Bw (a b r d : Int) : Prop := a.natAbs < 2 ^ 1500 ∧ b.natAbs < 2 ^ 1100 ∧ r.natAbs < 2 ^ 800 ∧ d.natAbs < 2 ^ 1500
theorem quad_dW {a b r d : Int} (z : Bw a b r d) (hd : 0 < d) (hr : 0 ≤ r) (hb : b ≠ 0) (hsq : isSqB r = false) :
    ∃ a' b' r' d' g h : Int, NumD (formD a b r d) a' b' r' d' ∧ 0 < g ∧ 0 < h ∧ g * d' = h * d ∧ g * a' = h * a ∧ g * g * (ss b' * r') = h * h * (ss b * r) ∧ 0 < d' ∧ 0 < r' ∧ b' ≠ 0 ∧ isSqB r' = false ∧
      a'.natAbs < 2 ^ 3003 ∧ b'.natAbs < 2 ^ 2 ∧ r'.natAbs < 2 ^ 6008 ∧ d'.natAbs < 2 ^ 3003 := by
  obtain ⟨za, zb, zr, zd⟩ := z
  have c : ¬ (b = 0 ∨ isSqB r = true) := fun z => z.elim hb fun z => by rw [hsq] at z; cases z
  have r0 : 0 < r := by
    rcases (by omega : 0 < r ∨ r = 0) with z | z
    · exact z
    · rw [z] at hsq
      exact absurd hsq (by decide +kernel)
  have g0 := gcd_pos3 (a := 0 - 2 * a * d) (b := a * a - b * b * r) hd
  have d1 : gcdI (gcdI (d * d) (0 - 2 * a * d)) (a * a - b * b * r) ∣ d * d := Int.dvd_trans (gcd_dvd_l _ _) (gcd_dvd_l _ _)
  have d2 : gcdI (gcdI (d * d) (0 - 2 * a * d)) (a * a - b * b * r) ∣ 0 - 2 * a * d := Int.dvd_trans (gcd_dvd_l _ _) (gcd_dvd_r _ _)
  have d3 : gcdI (gcdI (d * d) (0 - 2 * a * d)) (a * a - b * b * r) ∣ a * a - b * b * r := gcd_dvd_r _ _
  have w1 := mul_lt zd zd
  have w2 : (2 * a : Int).natAbs < 2 ^ (2 + 1500) := mul_lt (by decide) za
  have w3 := mul_lt w2 zd
  have w4 := mul_lt za za
  have w5 := mul_lt zb zb
  have w6 := mul_lt w5 zr
  have s1 : (0 - 2 * a * d : Int).natAbs < 2 ^ 3002 := by omega
  have s2 : (a * a - b * b * r : Int).natAbs < 2 ^ (3000 + 1) := sub_lt (two_le w4 (by decide)) (two_le w6 (by decide))
  have f1 := fdiv_le g0 (two_le w1 (show 1500 + 1500 ≤ 3000 by decide))
  have f2 := fdiv_le g0 s1
  have f3 := fdiv_le g0 s2
  have k1 := fdiv_of g0 d1
  have k2 := fdiv_of g0 d2
  have k3 := fdiv_of g0 d3
  have eF : formD a b r d = quadD (d * d) (0 - 2 * a * d) (a * a - b * b * r) (decide (0 < b)) := if_neg c
  rw [eF]
  unfold quadD
  generalize (d * d).fdiv (gcdI (gcdI (d * d) (0 - 2 * a * d)) (a * a - b * b * r)) = p at *
  generalize (0 - 2 * a * d).fdiv (gcdI (gcdI (d * d) (0 - 2 * a * d)) (a * a - b * b * r)) = q at *
  generalize (a * a - b * b * r).fdiv (gcdI (gcdI (d * d) (0 - 2 * a * d)) (a * a - b * b * r)) = s at *
  generalize gcdI (gcdI (d * d) (0 - 2 * a * d)) (a * a - b * b * r) = g at *
  have dd : 0 < d * d := Int.mul_pos hd hd
  have p0 : 0 < p := by
    apply Decidable.byContradiction
    intro z
    have : g * p ≤ 0 := Int.mul_nonpos_of_nonneg_of_nonpos (by omega) (by omega)
    omega
  have key : g * g * (q * q - 4 * p * s) = 4 * (d * d) * (b * b * r) := by
    have x : g * g * (q * q - 4 * p * s) = (g * q) * (g * q) - 4 * (g * p) * (g * s) := by grind
    rw [x, k1, k2, k3]
    grind
  have bb : 0 < b * b := by
    rcases (by omega : 0 < b ∨ b < 0) with z | z
    · exact Int.mul_pos z z
    · exact Int.mul_pos_of_neg_of_neg z z
  have rp : 0 < q * q - 4 * p * s := by
    apply Decidable.byContradiction
    intro z
    have n1 : g * g * (q * q - 4 * p * s) ≤ 0 := Int.mul_nonpos_of_nonneg_of_nonpos (Int.mul_nonneg (by omega) (by omega)) (by omega)
    have n2 : 0 < 4 * (d * d) * (b * b * r) := Int.mul_pos (by omega) (Int.mul_pos bb r0)
    omega
  have y1 := mul_lt f2 f2
  have y2 : (4 * p : Int).natAbs < 2 ^ (3 + 3000) := mul_lt (by decide) f1
  have y3 := mul_lt y2 f3
  refine ⟨-q, (if decide (0 < b) = true then 1 else -1), q * q - 4 * p * s, 2 * p, g, 2 * d, .inr ⟨p, q, s, decide (0 < b), rfl, rfl, rfl, rfl, rfl, two_le f1 (by decide), two_le f2 (by decide), two_le f3 (by decide)⟩,
    g0, by omega, by grind, by grind, ?_, by omega, rp, by split <;> decide, ?_, by omega, by split <;> decide, two_le (sub_lt (two_le y1 (show 3002 + 3002 ≤ 6007 by decide)) (two_le y3 (show 3 + 3000 + (3000 + 1) ≤ 6007 by decide))) (by decide), by omega⟩
  · rcases (by omega : 0 < b ∨ b < 0) with z | z
    · rw [if_pos (decide_eq_true z), show ss 1 = 1 from rfl, ss_nn (by omega), Int.one_mul, key]
      grind
    · have zz : ¬ decide (0 < b) = true := by simp; omega
      have sb : ss b = -(b * b) := by
        unfold ss
        rw [ab_np (by omega)]
        grind
      rw [if_neg zz, show ss (-1) = -1 from rfl, sb]
      have x : g * g * (-1 * (q * q - 4 * p * s)) = -(g * g * (q * q - 4 * p * s)) := by grind
      rw [x, key]
      grind
  · cases z : isSqB (q * q - 4 * p * s)
    · rfl
    · exfalso
      unfold isSqB at z
      simp only [Bool.and_eq_true, decide_eq_true_eq] at z
      have x := sq_free (A := 2 * d * b) (B := g * isq (q * q - 4 * p * s)) (r := r) (Int.mul_ne_zero (by omega) hb) (by
        have y : g * isq (q * q - 4 * p * s) * (g * isq (q * q - 4 * p * s)) = g * g * (isq (q * q - 4 * p * s) * isq (q * q - 4 * p * s)) := by grind
        rw [y, z.2, key]
        grind) (by omega)
      rw [x] at hsq
      cases hsq
theorem frac_dW {a d : Int} (hd : 0 < d) (za : a.natAbs < 2 ^ 3000) (zd : d.natAbs < 2 ^ 3000) :
    ∃ a' d' g : Int, NumD (fracD a d) a' 0 0 d' ∧ 0 < g ∧ g * d' = d ∧ g * a' = a ∧ 0 < d' ∧ a'.natAbs < 2 ^ 3000 ∧ d'.natAbs < 2 ^ 3000 := by
  obtain ⟨e1, e2⟩ := red_pos (a := a) hd
  have le := red_le (a := a) hd
  refine ⟨redN a d, redD a d, gcdI a d, .inl ⟨rfl, rfl, rfl⟩, gcd_pos (by omega), ?_, ?_, (red_fr hd).1, by omega, by omega⟩
  · rw [e2]
    exact Int.mul_ediv_cancel' (gcd_dvd_r _ _)
  · rw [e1]
    exact Int.mul_ediv_cancel' (gcd_dvd_l _ _)
structure TwoOkW (a b r d c e v a1 b1 w1 c1 d1 v1 r1 : Int) : Prop where
  x1 : a1.natAbs < 2 ^ 20000
  x2 : b1.natAbs < 2 ^ 20000
  x3 : w1.natAbs < 2 ^ 20000
  x4 : c1.natAbs < 2 ^ 20000
  x5 : d1.natAbs < 2 ^ 20000
  x6 : v1.natAbs < 2 ^ 20000
  x7 : r1.natAbs < 2 ^ 12200
  s1 : (a1 * v1 + c1 * w1).natAbs < 2 ^ 12200
  s2 : (b1 * v1 + d1 * w1).natAbs < 2 ^ 12200
  m1 : (a1 * c1 + b1 * d1 * r1).natAbs < 2 ^ 12200
  m2 : (a1 * d1 + b1 * c1).natAbs < 2 ^ 12200
  dd : (w1 * v1).natAbs < 2 ^ 12200
  nz : w1 * v1 ≠ 0
  sq1 : b1 * v1 + d1 * w1 ≠ 0 → isSqB r1 = false
  sq2 : a1 * d1 + b1 * c1 ≠ 0 → isSqB r1 = false
  sum : formD (a1 * v1 + c1 * w1) (b1 * v1 + d1 * w1) r1 (w1 * v1) = formD (a * v + c * d) (b * v + e * d) r (d * v)
  mul : formD (a1 * c1 + b1 * d1 * r1) (a1 * d1 + b1 * c1) r1 (w1 * v1) = formD (a * c + b * e * r) (a * e + b * c) r (d * v)
theorem two_flatW {a d c v : Int} (za : a.natAbs < 2 ^ 3000) (zd : d.natAbs < 2 ^ 3000) (zc : c.natAbs < 2 ^ 3000) (zv : v.natAbs < 2 ^ 3000) (hd : 0 < d) (hv : 0 < v) :
    ∃ a' b' r' d' c' e' s' v' a1 b1 w1 c1 d1 v1 r1 : Int, NumD (fracD a d) a' b' r' d' ∧ NumD (fracD c v) c' e' s' v' ∧ Fine4 a' b' r' d' ∧ Fine4 c' e' s' v' ∧ (r' ≠ 0 → 0 ≤ r' * s' ∧ (r' * s').natAbs < 2 ^ 13000) ∧
      one7 a' b' r' d' c' e' s' v' = [a1, b1, w1, c1, d1, v1, r1] ∧ TwoOkW a 0 0 d c 0 v a1 b1 w1 c1 d1 v1 r1 := by
  obtain ⟨a', d', g, n1, hg, e1, e2, p1, y1, y2⟩ := frac_dW hd za zd
  obtain ⟨c', v', i, n2, hi, e3, e4, p2, y3, y4⟩ := frac_dW hv zc zv
  refine ⟨a', 0, 0, d', c', 0, 0, v', a', 0, d', c', 0, v', 0, n1, n2, ⟨two_le y1 (by decide), by decide, by decide, two_le y2 (by decide)⟩, ⟨two_le y3 (by decide), by decide, by decide, two_le y4 (by decide)⟩, fun z => absurd rfl z, if_pos rfl, ?_⟩
  have m1 := mul_lt y1 y4
  have m2 := mul_lt y3 y2
  have q1 : (a' * c' + 0 * 0 * 0 : Int) = a' * c' := by grind
  have q2 : (a' * 0 + 0 * c' : Int) = 0 := by grind
  have q3 : (0 * v' + 0 * d' : Int) = 0 := by grind
  refine ⟨two_le y1 (by decide), by decide, two_le y2 (by decide), two_le y3 (by decide), by decide, two_le y4 (by decide), by decide, two_le (add_lt m1 (two_le m2 (show 3000 + 3000 ≤ 3000 + 3000 by decide))) (by decide), by rw [q3]; decide, by rw [q1]; exact two_le (mul_lt y1 y3) (by decide), by rw [q2]; decide, two_le (mul_lt y2 y4) (by decide), by have := Int.mul_pos p1 p2; omega, fun z => absurd q3 z, fun z => absurd q2 z, ?_, ?_⟩
  · exact one_sum (k := 1) (l := 1) hd hv (by decide) p1 p2 (by decide) (by rw [← e1, ← e2]; grind) (by rw [← e3, ← e4]; grind) (by decide) (by decide) rfl (by grind) (by grind)
  · exact one_mul (k := 1) (l := 1) hd hv (by decide) p1 p2 (by decide) (by rw [← e1, ← e2]; grind) (by rw [← e3, ← e4]; grind) (by decide) (by decide) rfl (by grind) (by grind)
theorem two_fqW {a c e r d v : Int} (za : a.natAbs < 2 ^ 3000) (zd : d.natAbs < 2 ^ 3000) (hd : 0 < d) (z : Bw c e r v) (hv : 0 < v) (hr : 0 ≤ r) (he : e ≠ 0) (hsq : isSqB r = false) :
    ∃ a' b' r' d' c' e' s' v' a1 b1 w1 c1 d1 v1 r1 : Int, NumD (fracD a d) a' b' r' d' ∧ NumD (formD c e r v) c' e' s' v' ∧ Fine4 a' b' r' d' ∧ Fine4 c' e' s' v' ∧ (r' ≠ 0 → 0 ≤ r' * s' ∧ (r' * s').natAbs < 2 ^ 13000) ∧
      one7 a' b' r' d' c' e' s' v' = [a1, b1, w1, c1, d1, v1, r1] ∧ TwoOkW a 0 r d c e v a1 b1 w1 c1 d1 v1 r1 := by
  obtain ⟨a', d', g, n1, hg, e1, e2, p1, y1, y2⟩ := frac_dW hd za zd
  obtain ⟨c', e', s', v', i, j, n2, hi, hj, e3, e4, e5, p2, hs, he', nsq, y3, y4, y5, y6⟩ := quad_dW z hv hr he hsq
  have r0 : 0 < r := by
    rcases (by omega : 0 < r ∨ r = 0) with z | z
    · exact z
    · rw [z] at hsq
      exact absurd hsq (by decide +kernel)
  obtain ⟨sgn, kl⟩ := root_facts hi hj r0 hs e5
  refine ⟨a', 0, 0, d', c', e', s', v', a', 0, d', c', e', v', s', n1, n2, ⟨two_le y1 (by decide), by decide, by decide, two_le y2 (by decide)⟩, ⟨two_le y3 (by decide), two_le y4 (by decide), two_le y5 (by decide), two_le y6 (by decide)⟩, fun z => absurd rfl z, if_pos rfl, ?_⟩
  have q1 : a' * c' + 0 * e' * s' = a' * c' := by grind
  have q2 : a' * e' + 0 * c' = a' * e' := by grind
  have q3 : 0 * v' + e' * d' = e' * d' := by grind
  have kp := Int.mul_pos hj (ab_pos he)
  have lp := Int.mul_pos hi (ab_pos he')
  have ee : e' * v * (j * ab e) = e * v' * (i * ab e') := by
    have x : e' * v * (j * ab e) = (j * v) * (e' * ab e) := by grind
    rw [x, ← e3, sg_ab sgn]
    grind
  have ec : c' * v = c * v' := by
    refine Int.eq_of_mul_eq_mul_left (show i ≠ 0 by omega) ?_
    have x : i * (c' * v) = (i * c') * v := by grind
    have x2 : i * (c * v') = c * (i * v') := by grind
    rw [x, x2, e4, e3]
    grind
  refine ⟨two_le y1 (by decide), by decide, two_le y2 (by decide), two_le y3 (by decide), two_le y4 (by decide), two_le y6 (by decide), two_le y5 (by decide), two_le (add_lt (two_le (mul_lt y1 y6) (show 3000 + 3003 ≤ 6003 by decide)) (two_le (mul_lt y3 y2) (show 3003 + 3000 ≤ 6003 by decide))) (by decide), by rw [q3]; exact two_le (mul_lt y4 y2) (by decide), by rw [q1]; exact two_le (mul_lt y1 y3) (by decide), by rw [q2]; exact two_le (mul_lt y1 y4) (by decide), two_le (mul_lt y2 y6) (by decide), by have := Int.mul_pos p1 p2; omega, fun _ => nsq, fun _ => nsq, ?_, ?_⟩
  · exact one_sum hd hv hr p1 p2 (by omega) (by rw [← e1, ← e2]; grind) ec kp lp kl.symm (by grind) ee
  · exact one_mul hd hv hr p1 p2 (by omega) (by rw [← e1, ← e2]; grind) ec kp lp kl.symm (by grind) ee
theorem two_qfW {a b c r d v : Int} (zc : c.natAbs < 2 ^ 3000) (zv : v.natAbs < 2 ^ 3000) (hv : 0 < v) (z : Bw a b r d) (hd : 0 < d) (hr : 0 ≤ r) (hb : b ≠ 0) (hsq : isSqB r = false) :
    ∃ a' b' r' d' c' e' s' v' a1 b1 w1 c1 d1 v1 r1 : Int, NumD (formD a b r d) a' b' r' d' ∧ NumD (fracD c v) c' e' s' v' ∧ Fine4 a' b' r' d' ∧ Fine4 c' e' s' v' ∧ (r' ≠ 0 → 0 ≤ r' * s' ∧ (r' * s').natAbs < 2 ^ 13000) ∧
      one7 a' b' r' d' c' e' s' v' = [a1, b1, w1, c1, d1, v1, r1] ∧ TwoOkW a b r d c 0 v a1 b1 w1 c1 d1 v1 r1 := by
  obtain ⟨c', v', i, n2, hi, e1, e2, p2, y3, y4⟩ := frac_dW hv zc zv
  obtain ⟨a', b', r', d', g, h, n1, hg, hh, e3, e4, e5, p1, hs, hb', nsq, y1, y2, y5, y6⟩ := quad_dW z hd hr hb hsq
  have r0 : 0 < r := by
    rcases (by omega : 0 < r ∨ r = 0) with z | z
    · exact z
    · rw [z] at hsq
      exact absurd hsq (by decide +kernel)
  obtain ⟨sgn, kl⟩ := root_facts hg hh r0 hs e5
  have z0 : (0 * isq (r' * 0) : Int) = 0 := by grind
  refine ⟨a', b', r', d', c', 0, 0, v', a', b', d', c' * r', 0, v' * r', r', n1, n2, ⟨two_le y1 (by decide), two_le y2 (by decide), two_le y5 (by decide), two_le y6 (by decide)⟩, ⟨two_le y3 (by decide), by decide, by decide, two_le y4 (by decide)⟩, fun _ => by rw [Int.mul_zero]; exact ⟨by decide, by decide⟩, by unfold one7; rw [if_neg (by omega), z0], ?_⟩
  have m1 := mul_lt y3 y5
  have m2 := mul_lt y4 y5
  have q1 : a' * (c' * r') + b' * 0 * r' = a' * (c' * r') := by grind
  have q2 : a' * 0 + b' * (c' * r') = b' * (c' * r') := by grind
  have q3 : b' * (v' * r') + 0 * d' = b' * (v' * r') := by grind
  have kp := Int.mul_pos hh (ab_pos hb)
  have lp := Int.mul_pos hg (ab_pos hb')
  have pv := Int.mul_pos p2 hs
  have eb : b' * d * (h * ab b) = b * d' * (g * ab b') := by
    have x : b' * d * (h * ab b) = (h * d) * (b' * ab b) := by grind
    rw [x, ← e3, sg_ab sgn]
    grind
  have ea : a' * d = a * d' := by
    refine Int.eq_of_mul_eq_mul_left (show g ≠ 0 by omega) ?_
    have x : g * (a' * d) = (g * a') * d := by grind
    have x2 : g * (a * d') = a * (g * d') := by grind
    rw [x, x2, e4, e3]
    grind
  have ec : c' * r' * v = c * (v' * r') := by
    rw [← e1, ← e2]
    grind
  refine ⟨two_le y1 (by decide), two_le y2 (by decide), two_le y6 (by decide), two_le m1 (by decide), by decide, two_le m2 (by decide), two_le y5 (by decide), two_le (add_lt (two_le (mul_lt y1 m2) (show 3003 + (3000 + 6008) ≤ 12011 by decide)) (two_le (mul_lt m1 y6) (show 3000 + 6008 + 3003 ≤ 12011 by decide))) (by decide), by rw [q3]; exact two_le (mul_lt y2 m2) (by decide), by rw [q1]; exact two_le (mul_lt y1 m1) (by decide), by rw [q2]; exact two_le (mul_lt y2 m1) (by decide), two_le (mul_lt y6 m2) (by decide), by have := Int.mul_pos p1 pv; omega, fun _ => nsq, fun _ => nsq, ?_, ?_⟩
  · exact one_sum hd hv hr p1 pv (by omega) ea ec kp lp kl.symm eb (by grind)
  · exact one_mul hd hv hr p1 pv (by omega) ea ec kp lp kl.symm eb (by grind)
theorem two_qqW {a b c e r d v : Int} (z : Bw a b r d) (z2 : Bw c e r v) (hd : 0 < d) (hv : 0 < v) (hr : 0 ≤ r) (hb : b ≠ 0) (he : e ≠ 0) (hsq : isSqB r = false) :
    ∃ a' b' r' d' c' e' s' v' a1 b1 w1 c1 d1 v1 r1 : Int, NumD (formD a b r d) a' b' r' d' ∧ NumD (formD c e r v) c' e' s' v' ∧ Fine4 a' b' r' d' ∧ Fine4 c' e' s' v' ∧ (r' ≠ 0 → 0 ≤ r' * s' ∧ (r' * s').natAbs < 2 ^ 13000) ∧
      one7 a' b' r' d' c' e' s' v' = [a1, b1, w1, c1, d1, v1, r1] ∧ TwoOkW a b r d c e v a1 b1 w1 c1 d1 v1 r1 := by
  obtain ⟨a', b', r', d', g, h, n1, hg, hh, e3, e4, e5, p1, hs, hb', nsq, y1, y2, y5, y6⟩ := quad_dW z hd hr hb hsq
  obtain ⟨c', e', s', v', i, j, n2, hi, hj, f3, f4, f5, p2, ht, he', nsq2, x1, x2, x5, x6⟩ := quad_dW z2 hv hr he hsq
  have r0 : 0 < r := by
    rcases (by omega : 0 < r ∨ r = 0) with z | z
    · exact z
    · rw [z] at hsq
      exact absurd hsq (by decide +kernel)
  obtain ⟨sgn, kl⟩ := root_facts hg hh r0 hs e5
  obtain ⟨sgn2, kl2⟩ := root_facts hi hj r0 ht f5
  have rs0 : 0 < r' * s' := Int.mul_pos hs ht
  have rsz := mul_lt y5 x5
  have iz := isq_half rsz
  have isn := isq_nn (r' * s')
  have sqr : isSqB (r' * s') = true := by
    refine sq_free (A := g * ab b' * (i * ab e')) (B := h * ab b * (j * ab e) * r) ?_ ?_ (by omega)
    · have k1 := Int.mul_pos (Int.mul_pos hg (ab_pos hb')) (Int.mul_pos hi (ab_pos he'))
      omega
    · have x : g * ab b' * (i * ab e') * (g * ab b' * (i * ab e')) * (r' * s') = (g * ab b' * (g * ab b') * r') * (i * ab e' * (i * ab e') * s') := by grind
      rw [x, kl, kl2]
      grind
  have ii := isSq_root sqr
  refine ⟨a', b', r', d', c', e', s', v', a', b', d', c' * r', e' * isq (r' * s'), v' * r', r', n1, n2, ⟨two_le y1 (by decide), two_le y2 (by decide), two_le y5 (by decide), two_le y6 (by decide)⟩, ⟨two_le x1 (by decide), two_le x2 (by decide), two_le x5 (by decide), two_le x6 (by decide)⟩, fun _ => ⟨by omega, two_le rsz (by decide)⟩, by unfold one7; rw [if_neg (by omega)], ?_⟩
  generalize isq (r' * s') = t at *
  have m1 := mul_lt x1 y5
  have m2 := mul_lt x6 y5
  have m3 := mul_lt x2 iz
  have kp := Int.mul_pos hh (ab_pos hb)
  have lp := Int.mul_pos hg (ab_pos hb')
  have pv := Int.mul_pos p2 hs
  have eb : b' * d * (h * ab b) = b * d' * (g * ab b') := by
    have x : b' * d * (h * ab b) = (h * d) * (b' * ab b) := by grind
    rw [x, ← e3, sg_ab sgn]
    grind
  have ea : a' * d = a * d' := by
    refine Int.eq_of_mul_eq_mul_left (show g ≠ 0 by omega) ?_
    have x : g * (a' * d) = (g * a') * d := by grind
    have x2 : g * (a * d') = a * (g * d') := by grind
    rw [x, x2, e4, e3]
    grind
  have ec : c' * r' * v = c * (v' * r') := by
    refine Int.eq_of_mul_eq_mul_left (show i ≠ 0 by omega) ?_
    have x : i * (c' * r' * v) = (i * c') * r' * v := by grind
    have x2 : i * (c * (v' * r')) = c * r' * (i * v') := by grind
    rw [x, x2, f4, f3]
    grind
  have key : e' * t * (h * ab b) * i = e * r' * (g * ab b') * j := by
    apply ss_inj
    have kp' : 0 ≤ h * ab b := by omega
    have lp' : 0 ≤ g * ab b' := by omega
    rw [ss_mul, ss_mul, ss_mul, ss_mul (e * r' * (g * ab b')), ss_mul (e * r'), ss_mul e, ss_nn isn, ss_nn kp', ss_nn (x := i) (by omega), ss_nn (x := r') (by omega), ss_nn lp', ss_nn (x := j) (by omega), ii]
    have x : ss e' * (r' * s') * (h * ab b * (h * ab b)) * (i * i) = (i * i * (ss e' * s')) * r' * (h * ab b * (h * ab b)) := by grind
    rw [x, f5]
    have y : ss e * (r' * r') * (g * ab b' * (g * ab b')) * (j * j) = ss e * r' * (j * j) * (g * ab b' * (g * ab b') * r') := by grind
    rw [y, kl]
    grind
  have ee : e' * t * v * (h * ab b) = e * (v' * r') * (g * ab b') := by
    refine Int.eq_of_mul_eq_mul_left (show i ≠ 0 by omega) ?_
    have x : i * (e' * t * v * (h * ab b)) = (e' * t * (h * ab b) * i) * v := by grind
    have x2 : i * (e * (v' * r') * (g * ab b')) = e * r' * (g * ab b') * (i * v') := by grind
    rw [x, x2, key, f3]
    grind
  refine ⟨two_le y1 (by decide), two_le y2 (by decide), two_le y6 (by decide), two_le m1 (by decide), two_le m3 (by decide), two_le m2 (by decide), two_le y5 (by decide), two_le (add_lt (two_le (mul_lt y1 m2) (show 3003 + (3003 + 6008) ≤ 12014 by decide)) (two_le (mul_lt m1 y6) (show 3003 + 6008 + 3003 ≤ 12014 by decide))) (by decide), two_le (add_lt (two_le (mul_lt y2 m2) (show 2 + (3003 + 6008) ≤ 9013 by decide)) (two_le (mul_lt m3 y6) (show 2 + 6008 + 3003 ≤ 9013 by decide))) (by decide), two_le (add_lt (two_le (mul_lt y1 m1) (show 3003 + (3003 + 6008) ≤ 12020 by decide)) (two_le (mul_lt (mul_lt y2 m3) y5) (show 2 + (2 + 6008) + 6008 ≤ 12020 by decide))) (by decide), two_le (add_lt (two_le (mul_lt y1 m3) (show 3003 + (2 + 6008) ≤ 9013 by decide)) (two_le (mul_lt y2 m1) (show 2 + (3003 + 6008) ≤ 9013 by decide))) (by decide), two_le (mul_lt y6 m2) (by decide), by have := Int.mul_pos p1 pv; omega, fun _ => nsq, fun _ => nsq, ?_, ?_⟩
  · exact one_sum hd hv hr p1 pv (by omega) ea ec kp lp kl.symm eb ee
  · exact one_mul hd hv hr p1 pv (by omega) ea ec kp lp kl.symm eb ee
theorem two_dW {a b c e r d v : Int} (z : Bw a b r d) (z2 : Bw c e r v) (hd : 0 < d) (hv : 0 < v) (hr : 0 ≤ r) :
    ∃ a' b' r' d' c' e' s' v' a1 b1 w1 c1 d1 v1 r1 : Int, NumD (formD a b r d) a' b' r' d' ∧ NumD (formD c e r v) c' e' s' v' ∧ Fine4 a' b' r' d' ∧ Fine4 c' e' s' v' ∧ (r' ≠ 0 → 0 ≤ r' * s' ∧ (r' * s').natAbs < 2 ^ 13000) ∧
      one7 a' b' r' d' c' e' s' v' = [a1, b1, w1, c1, d1, v1, r1] ∧ TwoOkW a b r d c e v a1 b1 w1 c1 d1 v1 r1 := by
  obtain ⟨za, zb, zr, zd⟩ := id z
  obtain ⟨zc, ze, _, zv⟩ := id z2
  cases hsq : isSqB r with
  | true =>
    have sz := isq_small zr
    have ss2 := isSq_root hsq
    rw [form_sq hsq, form_sq (a := c) hsq, form_zero, form_zero]
    have w1 := two_le (add_lt (two_le za (show 1500 ≤ 1100 + 800 by decide)) (mul_lt zb sz)) (show 1100 + 800 + 1 ≤ 3000 by decide)
    have w2 := two_le (add_lt (two_le zc (show 1500 ≤ 1100 + 800 by decide)) (mul_lt ze sz)) (show 1100 + 800 + 1 ≤ 3000 by decide)
    obtain ⟨a', b', r', d', c', e', s', v', a1, b1, w1, c1, d1, v1, r1, h1, h2, h3, h4, h5, h6, t⟩ := two_flatW w1 (two_le zd (by decide)) w2 (two_le zv (by decide)) hd hv
    refine ⟨a', b', r', d', c', e', s', v', a1, b1, w1, c1, d1, v1, r1, h1, h2, h3, h4, h5, h6, { t with sum := ?_, mul := ?_ }⟩
    · rw [t.sum, form_sq (b := b * v + e * d) hsq, form_zz _ r 0]
      congr 1 <;> grind
    · rw [t.mul, form_sq (b := a * e + b * c) hsq, form_zz _ r 0]
      generalize isq r = s at *
      rw [← ss2]
      congr 1 <;> grind
  | false =>
    by_cases cb : b = 0 <;> by_cases ce : e = 0
    · subst cb
      subst ce
      rw [form_zero, form_zero]
      obtain ⟨a', b', r', d', c', e', s', v', a1, b1, w1, c1, d1, v1, r1, h1, h2, h3, h4, h5, h6, t⟩ := two_flatW (two_le za (show 1500 ≤ 3000 by decide)) (two_le zd (by decide)) (two_le zc (show 1500 ≤ 3000 by decide)) (two_le zv (by decide)) hd hv
      refine ⟨a', b', r', d', c', e', s', v', a1, b1, w1, c1, d1, v1, r1, h1, h2, h3, h4, h5, h6, { t with sum := ?_, mul := ?_ }⟩
      · have q : (0 * v + 0 * d : Int) = 0 := by grind
        rw [t.sum, q, form_zz _ r 0]
      · have q : (a * 0 + 0 * c : Int) = 0 := by grind
        have q2 : (0 * 0 * r : Int) = 0 * 0 * 0 := by grind
        rw [t.mul, q, q2, form_zz _ r 0]
    · subst cb
      rw [form_zero]
      exact two_fqW (two_le za (by decide)) (two_le zd (by decide)) hd z2 hv hr ce hsq
    · subst ce
      rw [form_zero c]
      exact two_qfW (two_le zc (by decide)) (two_le zv (by decide)) hv z hd hr cb hsq
    · exact two_qqW z z2 hd hv hr cb ce hsq
theorem Bw.neg {a b r d : Int} (z : Bw a b r d) : Bw (-a) (-b) r d := ⟨by have := z.1; omega, by have := z.2.1; omega, z.2.2.1, z.2.2.2⟩
theorem Bw.fr {a d r : Int} (z1 : a.natAbs < 2 ^ 1500) (z2 : d.natAbs < 2 ^ 1500) (zr : r.natAbs < 2 ^ 800) : Bw a 0 r d := ⟨z1, by decide, zr, z2⟩
end Lw

namespace Lw
open PySem L2
/-! ### the sign of a wide number's form -/
def Bx (a b r d : Int) : Prop := a.natAbs < 2 ^ 1800 ∧ b.natAbs < 2 ^ 1400 ∧ r.natAbs < 2 ^ 800 ∧ d.natAbs < 2 ^ 1800
theorem quad_dX {a b r d : Int} (z : Bx a b r d) (hd : 0 < d) (hr : 0 ≤ r) (hb : b ≠ 0) (hsq : isSqB r = false) :
    ∃ a' b' r' d' g h : Int, NumD (formD a b r d) a' b' r' d' ∧ 0 < g ∧ 0 < h ∧ g * d' = h * d ∧ g * a' = h * a ∧ g * g * (ss b' * r') = h * h * (ss b * r) ∧ 0 < d' ∧ 0 < r' ∧ b' ≠ 0 ∧ isSqB r' = false ∧
      a'.natAbs < 2 ^ 3603 ∧ b'.natAbs < 2 ^ 2 ∧ r'.natAbs < 2 ^ 7208 ∧ d'.natAbs < 2 ^ 3603 := by
  obtain ⟨za, zb, zr, zd⟩ := z
  have c : ¬ (b = 0 ∨ isSqB r = true) := fun z => z.elim hb fun z => by rw [hsq] at z; cases z
  have r0 : 0 < r := by
    rcases (by omega : 0 < r ∨ r = 0) with z | z
    · exact z
    · rw [z] at hsq
      exact absurd hsq (by decide +kernel)
  have g0 := gcd_pos3 (a := 0 - 2 * a * d) (b := a * a - b * b * r) hd
  have d1 : gcdI (gcdI (d * d) (0 - 2 * a * d)) (a * a - b * b * r) ∣ d * d := Int.dvd_trans (gcd_dvd_l _ _) (gcd_dvd_l _ _)
  have d2 : gcdI (gcdI (d * d) (0 - 2 * a * d)) (a * a - b * b * r) ∣ 0 - 2 * a * d := Int.dvd_trans (gcd_dvd_l _ _) (gcd_dvd_r _ _)
  have d3 : gcdI (gcdI (d * d) (0 - 2 * a * d)) (a * a - b * b * r) ∣ a * a - b * b * r := gcd_dvd_r _ _
  have w1 := mul_lt zd zd
  have w2 : (2 * a : Int).natAbs < 2 ^ (2 + 1800) := mul_lt (by decide) za
  have w3 := mul_lt w2 zd
  have w4 := mul_lt za za
  have w5 := mul_lt zb zb
  have w6 := mul_lt w5 zr
  have s1 : (0 - 2 * a * d : Int).natAbs < 2 ^ 3602 := by omega
  have s2 : (a * a - b * b * r : Int).natAbs < 2 ^ (3600 + 1) := sub_lt (two_le w4 (by decide)) (two_le w6 (by decide))
  have f1 := fdiv_le g0 (two_le w1 (show 1800 + 1800 ≤ 3600 by decide))
  have f2 := fdiv_le g0 s1
  have f3 := fdiv_le g0 s2
  have k1 := fdiv_of g0 d1
  have k2 := fdiv_of g0 d2
  have k3 := fdiv_of g0 d3
  have eF : formD a b r d = quadD (d * d) (0 - 2 * a * d) (a * a - b * b * r) (decide (0 < b)) := if_neg c
  rw [eF]
  unfold quadD
  generalize (d * d).fdiv (gcdI (gcdI (d * d) (0 - 2 * a * d)) (a * a - b * b * r)) = p at *
  generalize (0 - 2 * a * d).fdiv (gcdI (gcdI (d * d) (0 - 2 * a * d)) (a * a - b * b * r)) = q at *
  generalize (a * a - b * b * r).fdiv (gcdI (gcdI (d * d) (0 - 2 * a * d)) (a * a - b * b * r)) = s at *
  generalize gcdI (gcdI (d * d) (0 - 2 * a * d)) (a * a - b * b * r) = g at *
  have dd : 0 < d * d := Int.mul_pos hd hd
  have p0 : 0 < p := by
    apply Decidable.byContradiction
    intro z
    have : g * p ≤ 0 := Int.mul_nonpos_of_nonneg_of_nonpos (by omega) (by omega)
    omega
  have key : g * g * (q * q - 4 * p * s) = 4 * (d * d) * (b * b * r) := by
    have x : g * g * (q * q - 4 * p * s) = (g * q) * (g * q) - 4 * (g * p) * (g * s) := by grind
    rw [x, k1, k2, k3]
    grind
  have bb : 0 < b * b := by
    rcases (by omega : 0 < b ∨ b < 0) with z | z
    · exact Int.mul_pos z z
    · exact Int.mul_pos_of_neg_of_neg z z
  have rp : 0 < q * q - 4 * p * s := by
    apply Decidable.byContradiction
    intro z
    have n1 : g * g * (q * q - 4 * p * s) ≤ 0 := Int.mul_nonpos_of_nonneg_of_nonpos (Int.mul_nonneg (by omega) (by omega)) (by omega)
    have n2 : 0 < 4 * (d * d) * (b * b * r) := Int.mul_pos (by omega) (Int.mul_pos bb r0)
    omega
  have y1 := mul_lt f2 f2
  have y2 : (4 * p : Int).natAbs < 2 ^ (3 + 3600) := mul_lt (by decide) f1
  have y3 := mul_lt y2 f3
  refine ⟨-q, (if decide (0 < b) = true then 1 else -1), q * q - 4 * p * s, 2 * p, g, 2 * d, .inr ⟨p, q, s, decide (0 < b), rfl, rfl, rfl, rfl, rfl, two_le f1 (by decide), two_le f2 (by decide), two_le f3 (by decide)⟩,
    g0, by omega, by grind, by grind, ?_, by omega, rp, by split <;> decide, ?_, by omega, by split <;> decide, two_le (sub_lt (two_le y1 (show 3602 + 3602 ≤ 7207 by decide)) (two_le y3 (show 3 + 3600 + (3600 + 1) ≤ 7207 by decide))) (by decide), by omega⟩
  · rcases (by omega : 0 < b ∨ b < 0) with z | z
    · rw [if_pos (decide_eq_true z), show ss 1 = 1 from rfl, ss_nn (by omega), Int.one_mul, key]
      grind
    · have zz : ¬ decide (0 < b) = true := by simp; omega
      have sb : ss b = -(b * b) := by
        unfold ss
        rw [ab_np (by omega)]
        grind
      rw [if_neg zz, show ss (-1) = -1 from rfl, sb]
      have x : g * g * (-1 * (q * q - 4 * p * s)) = -(g * g * (q * q - 4 * p * s)) := by grind
      rw [x, key]
      grind
  · cases z : isSqB (q * q - 4 * p * s)
    · rfl
    · exfalso
      unfold isSqB at z
      simp only [Bool.and_eq_true, decide_eq_true_eq] at z
      have x := sq_free (A := 2 * d * b) (B := g * isq (q * q - 4 * p * s)) (r := r) (Int.mul_ne_zero (by omega) hb) (by
        have y : g * isq (q * q - 4 * p * s) * (g * isq (q * q - 4 * p * s)) = g * g * (isq (q * q - 4 * p * s) * isq (q * q - 4 * p * s)) := by grind
        rw [y, z.2, key]
        grind) (by omega)
      rw [x] at hsq
      cases hsq
theorem num_sgn {a b r d : Int} (z : Bx a b r d) (hd : 0 < d) (hr : 0 ≤ r) :
    ∃ a' b' r' d' : Int, NumD (formD a b r d) a' b' r' d' ∧ S2 a' (ss b' * r') = S2 a (ss b * r) ∧ a'.natAbs < 2 ^ 40000 ∧ b'.natAbs < 2 ^ 40000 ∧ r'.natAbs < 2 ^ 40000 ∧ Okay b' r' := by
  have flat : ∀ t, b * t = b * isq r → (b = 0 ∨ t * t = r) → 0 ≤ t → ∃ a' b' r' d' : Int, NumD (fracD (a + b * isq r) d) a' b' r' d' ∧ S2 a' (ss b' * r') = S2 a (ss b * r) ∧ a'.natAbs < 2 ^ 40000 ∧ b'.natAbs < 2 ^ 40000 ∧ r'.natAbs < 2 ^ 40000 ∧ Okay b' r' := by
    intro t ht hc t0
    obtain ⟨za, zb, zr, zd⟩ := z
    have sz := isq_small zr
    have w1 := two_le (add_lt (two_le za (show 1800 ≤ 1400 + 800 by decide)) (mul_lt zb sz)) (show 1400 + 800 + 1 ≤ 3000 by decide)
    obtain ⟨a', d', g, n1, hg, e1, e2, p1, y1, y2⟩ := frac_dW hd w1 (two_le zd (by decide))
    refine ⟨a', 0, 0, d', n1, ?_, two_le y1 (by decide), by decide, by decide, .inl rfl⟩
    have e3 : ss b * r = ss (b * t) := by
      rw [ss_mul, ss_nn t0]
      rcases hc with c | c
      · rw [c]
        show ss 0 * r = ss 0 * (t * t)
        rw [show ss 0 = 0 from rfl, Int.zero_mul, Int.zero_mul]
      · rw [c]
    rw [e3, S2_sq, ht, ← e2, show ss 0 * 0 = 0 from rfl, S2_zero, sg_up hg]
  by_cases hb : b = 0
  · have f := flat (isq r) rfl (.inl hb) (isq_nn r)
    rw [← form_flat (.inl hb)] at f
    exact f
  cases hsq : isSqB r with
  | true =>
    have f := flat (isq r) rfl (.inr (isSq_root hsq)) (isq_nn r)
    rw [← form_flat (.inr hsq)] at f
    exact f
  | false =>
    obtain ⟨a', b', r', d', g, h, n1, hg, hh, e3, e4, e5, p1, hs, hb', nsq, y1, y2, y5, y6⟩ := quad_dX z hd hr hb hsq
    refine ⟨a', b', r', d', n1, ?_, two_le y1 (by decide), two_le y2 (by decide), two_le y5 (by decide), .inr hs⟩
    rw [← S2_up hg, e4, e5, S2_up hh]
/-! ### wide places -/
def Bp (a b r d : Int) : Prop := a.natAbs < 2 ^ 700 ∧ b.natAbs < 2 ^ 300 ∧ r.natAbs < 2 ^ 800 ∧ d.natAbs < 2 ^ 700
theorem quad_dP {a b r d : Int} (z : Bp a b r d) (hd : 0 < d) (hr : 0 ≤ r) (hb : b ≠ 0) (hsq : isSqB r = false) :
    ∃ a' b' r' d' g h : Int, NumD (formD a b r d) a' b' r' d' ∧ 0 < g ∧ 0 < h ∧ g * d' = h * d ∧ g * a' = h * a ∧ g * g * (ss b' * r') = h * h * (ss b * r) ∧ 0 < d' ∧ 0 < r' ∧ b' ≠ 0 ∧ isSqB r' = false ∧
      a'.natAbs < 2 ^ 1403 ∧ b'.natAbs < 2 ^ 2 ∧ r'.natAbs < 2 ^ 2808 ∧ d'.natAbs < 2 ^ 1403 := by
  obtain ⟨za, zb, zr, zd⟩ := z
  have c : ¬ (b = 0 ∨ isSqB r = true) := fun z => z.elim hb fun z => by rw [hsq] at z; cases z
  have r0 : 0 < r := by
    rcases (by omega : 0 < r ∨ r = 0) with z | z
    · exact z
    · rw [z] at hsq
      exact absurd hsq (by decide +kernel)
  have g0 := gcd_pos3 (a := 0 - 2 * a * d) (b := a * a - b * b * r) hd
  have d1 : gcdI (gcdI (d * d) (0 - 2 * a * d)) (a * a - b * b * r) ∣ d * d := Int.dvd_trans (gcd_dvd_l _ _) (gcd_dvd_l _ _)
  have d2 : gcdI (gcdI (d * d) (0 - 2 * a * d)) (a * a - b * b * r) ∣ 0 - 2 * a * d := Int.dvd_trans (gcd_dvd_l _ _) (gcd_dvd_r _ _)
  have d3 : gcdI (gcdI (d * d) (0 - 2 * a * d)) (a * a - b * b * r) ∣ a * a - b * b * r := gcd_dvd_r _ _
  have w1 := mul_lt zd zd
  have w2 : (2 * a : Int).natAbs < 2 ^ (2 + 700) := mul_lt (by decide) za
  have w3 := mul_lt w2 zd
  have w4 := mul_lt za za
  have w5 := mul_lt zb zb
  have w6 := mul_lt w5 zr
  have s1 : (0 - 2 * a * d : Int).natAbs < 2 ^ 1402 := by omega
  have s2 : (a * a - b * b * r : Int).natAbs < 2 ^ (1400 + 1) := sub_lt (two_le w4 (by decide)) (two_le w6 (by decide))
  have f1 := fdiv_le g0 (two_le w1 (show 700 + 700 ≤ 1400 by decide))
  have f2 := fdiv_le g0 s1
  have f3 := fdiv_le g0 s2
  have k1 := fdiv_of g0 d1
  have k2 := fdiv_of g0 d2
  have k3 := fdiv_of g0 d3
  have eF : formD a b r d = quadD (d * d) (0 - 2 * a * d) (a * a - b * b * r) (decide (0 < b)) := if_neg c
  rw [eF]
  unfold quadD
  generalize (d * d).fdiv (gcdI (gcdI (d * d) (0 - 2 * a * d)) (a * a - b * b * r)) = p at *
  generalize (0 - 2 * a * d).fdiv (gcdI (gcdI (d * d) (0 - 2 * a * d)) (a * a - b * b * r)) = q at *
  generalize (a * a - b * b * r).fdiv (gcdI (gcdI (d * d) (0 - 2 * a * d)) (a * a - b * b * r)) = s at *
  generalize gcdI (gcdI (d * d) (0 - 2 * a * d)) (a * a - b * b * r) = g at *
  have dd : 0 < d * d := Int.mul_pos hd hd
  have p0 : 0 < p := by
    apply Decidable.byContradiction
    intro z
    have : g * p ≤ 0 := Int.mul_nonpos_of_nonneg_of_nonpos (by omega) (by omega)
    omega
  have key : g * g * (q * q - 4 * p * s) = 4 * (d * d) * (b * b * r) := by
    have x : g * g * (q * q - 4 * p * s) = (g * q) * (g * q) - 4 * (g * p) * (g * s) := by grind
    rw [x, k1, k2, k3]
    grind
  have bb : 0 < b * b := by
    rcases (by omega : 0 < b ∨ b < 0) with z | z
    · exact Int.mul_pos z z
    · exact Int.mul_pos_of_neg_of_neg z z
  have rp : 0 < q * q - 4 * p * s := by
    apply Decidable.byContradiction
    intro z
    have n1 : g * g * (q * q - 4 * p * s) ≤ 0 := Int.mul_nonpos_of_nonneg_of_nonpos (Int.mul_nonneg (by omega) (by omega)) (by omega)
    have n2 : 0 < 4 * (d * d) * (b * b * r) := Int.mul_pos (by omega) (Int.mul_pos bb r0)
    omega
  have y1 := mul_lt f2 f2
  have y2 : (4 * p : Int).natAbs < 2 ^ (3 + 1400) := mul_lt (by decide) f1
  have y3 := mul_lt y2 f3
  refine ⟨-q, (if decide (0 < b) = true then 1 else -1), q * q - 4 * p * s, 2 * p, g, 2 * d, .inr ⟨p, q, s, decide (0 < b), rfl, rfl, rfl, rfl, rfl, two_le f1 (by decide), two_le f2 (by decide), two_le f3 (by decide)⟩,
    g0, by omega, by grind, by grind, ?_, by omega, rp, by split <;> decide, ?_, by omega, by split <;> decide, two_le (sub_lt (two_le y1 (show 1402 + 1402 ≤ 2807 by decide)) (two_le y3 (show 3 + 1400 + (1400 + 1) ≤ 2807 by decide))) (by decide), by omega⟩
  · rcases (by omega : 0 < b ∨ b < 0) with z | z
    · rw [if_pos (decide_eq_true z), show ss 1 = 1 from rfl, ss_nn (by omega), Int.one_mul, key]
      grind
    · have zz : ¬ decide (0 < b) = true := by simp; omega
      have sb : ss b = -(b * b) := by
        unfold ss
        rw [ab_np (by omega)]
        grind
      rw [if_neg zz, show ss (-1) = -1 from rfl, sb]
      have x : g * g * (-1 * (q * q - 4 * p * s)) = -(g * g * (q * q - 4 * p * s)) := by grind
      rw [x, key]
      grind
  · cases z : isSqB (q * q - 4 * p * s)
    · rfl
    · exfalso
      unfold isSqB at z
      simp only [Bool.and_eq_true, decide_eq_true_eq] at z
      have x := sq_free (A := 2 * d * b) (B := g * isq (q * q - 4 * p * s)) (r := r) (Int.mul_ne_zero (by omega) hb) (by
        have y : g * isq (q * q - 4 * p * s) * (g * isq (q * q - 4 * p * s)) = g * g * (isq (q * q - 4 * p * s) * isq (q * q - 4 * p * s)) := by grind
        rw [y, z.2, key]
        grind) (by omega)
      rw [x] at hsq
      cases hsq
theorem num_P {a b r d : Int} (z : Bp a b r d) (hd : 0 < d) (hr : 0 ≤ r) :
    ∃ a' b' r' d' : Int, NumD (formD a b r d) a' b' r' d' ∧ r'.natAbs < 2 ^ 5000 ∧ 0 ≤ r' ∧ (r' = 0 ∨ ∃ A B : Int, 0 < A ∧ A * A * r' = B * B * r) := by
  have flat : ∃ a' b' r' d' : Int, NumD (fracD (a + b * isq r) d) a' b' r' d' ∧ r'.natAbs < 2 ^ 5000 ∧ 0 ≤ r' ∧ (r' = 0 ∨ ∃ A B : Int, 0 < A ∧ A * A * r' = B * B * r) := by
    obtain ⟨za, zb, zr, zd⟩ := z
    have w1 := two_le (add_lt (two_le za (show 700 ≤ 300 + 800 by decide)) (mul_lt zb (isq_small zr))) (show 300 + 800 + 1 ≤ 3000 by decide)
    obtain ⟨a', d', g, n1, _⟩ := frac_dW hd w1 (two_le zd (by decide))
    exact ⟨a', 0, 0, d', n1, by decide, by decide, .inl rfl⟩
  by_cases hb : b = 0
  · rw [form_flat (.inl hb)]
    exact flat
  cases hsq : isSqB r with
  | true =>
    rw [form_flat (.inr hsq)]
    exact flat
  | false =>
    obtain ⟨a', b', r', d', g, h, n1, hg, hh, e3, e4, e5, p1, hs, hb', nsq, y1, y2, y5, y6⟩ := quad_dP z hd hr hb hsq
    have r0 : 0 < r := by
      rcases (by omega : 0 < r ∨ r = 0) with z | z
      · exact z
      · rw [z] at hsq
        exact absurd hsq (by decide +kernel)
    obtain ⟨_, kl⟩ := root_facts hg hh r0 hs e5
    exact ⟨a', b', r', d', n1, two_le y5 (by decide), by omega, .inr ⟨g * ab b', h * ab b, Int.mul_pos hg (ab_pos hb'), kl⟩⟩
theorem field_P {a b c e r d v : Int} (z : Bp a b r d) (z2 : Bp c e r v) (hd : 0 < d) (hv : 0 < v) (hr : 0 ≤ r) :
    ∃ a' b' r' d' c' e' s' v' : Int, NumD (formD a b r d) a' b' r' d' ∧ NumD (formD c e r v) c' e' s' v' ∧ r'.natAbs < 2 ^ 5000 ∧ s'.natAbs < 2 ^ 5000 ∧ 0 ≤ r' ∧ 0 ≤ s' ∧ isSqB (r' * s') = true := by
  obtain ⟨a', b', r', d', n1, y1, g1, k1⟩ := num_P z hd hr
  obtain ⟨c', e', s', v', n2, y2, g2, k2⟩ := num_P z2 hv hr
  refine ⟨a', b', r', d', c', e', s', v', n1, n2, y1, y2, g1, g2, ?_⟩
  rcases k1 with h1 | ⟨A, B, hA, h1⟩
  · exact isSq_of (c := 0) (by rw [h1]; grind)
  rcases k2 with h2 | ⟨C, D, hC, h2⟩
  · exact isSq_of (c := 0) (by rw [h2]; grind)
  refine sq_free (A := A * C) (B := B * D * r) ?_ ?_ (Int.mul_nonneg g1 g2)
  · have := Int.mul_pos hA hC
    omega
  · have x : A * C * (A * C) * (r' * s') = (A * A * r') * (C * C * s') := by grind
    rw [x, h1, h2]
    grind
theorem form_fineP {a b r d : Int} (h : Bp a b r d) (hd : 0 < d) : fine 1600 (formD a b r d) := by
  obtain ⟨za, zb, zr, zd⟩ := h
  unfold formD
  split
  · have m := mul_lt zb (isq_small zr)
    have ad := add_lt (two_le za (show 700 ≤ 1100 by decide)) m
    have le := red_le (a := a + b * isq r) hd
    exact ⟨two_le (m := 1101) (by omega) (by decide), two_le (m := 700) (by omega) (by decide), trivial⟩
  · have g := gcd_pos3 (a := 0 - 2 * a * d) (b := a * a - b * b * r) hd
    have w1 := mul_lt zd zd
    have w2 : (2 * a : Int).natAbs < 2 ^ (2 + 700) := mul_lt (by decide) za
    have w3 := mul_lt w2 zd
    have w4 := mul_lt za za
    have w5 := mul_lt zb zb
    have w6 := mul_lt w5 zr
    have s1 : (0 - 2 * a * d : Int).natAbs < 2 ^ (1402 + 1) := sub_lt (by decide) (two_le w3 (by decide))
    have s2 : (a * a - b * b * r : Int).natAbs < 2 ^ (1400 + 1) := sub_lt (two_le w4 (by decide)) (two_le w6 (by decide))
    exact ⟨fdiv_le g (two_le w1 (by decide)), fdiv_le g (two_le s1 (by decide)), fdiv_le g (two_le s2 (by decide)), trivial, trivial⟩
end Lw

namespace Ld
open PySem PySem.Spec PyProof.Rows L2 Lw
/-! ### data on the heap, also in written tuples -/
structure Bn where
  K : PySem.W.Frag
  b : Addr → Prop
instance : CoeFun Bn (fun _ => Addr → Prop) := ⟨Bn.b⟩
/-- a written tuple -/
def Wr (K : PySem.W.Frag) (a : Addr) (xs : List V) : Prop := ∃ (o : Obj) (its : Array Value) (n : Nat), K.lookup a = some o ∧ o.cls = .type "tuple" ∧ o.data = .seq its n ∧ its.size ≤ sizeLine ∧ Vals xs its.toList
def Tp (K : PySem.W.Frag) (H : Hp) (a : Addr) (xs : List V) : Prop := H a = some (.tup xs) ∨ Wr K a xs
theorem Tp.sq {K : PySem.W.Frag} {H : Hp} {a : Addr} {xs : List V} (h : Tp K H a xs) : SqT K H a xs := h.elim (fun h => .of h) .inr
theorem Tp.of {K : PySem.W.Frag} {H : Hp} {a : Addr} {xs : List V} (h : H a = some (.tup xs)) : Tp K H a xs := .inl h
theorem Tp.up {K : PySem.W.Frag} {H H' : Hp} {a : Addr} {xs : List V} (h : Tp K H a xs) (k : ∀ b xs, H b = some (.tup xs) → H' b = some (.tup xs)) : Tp K H' a xs := h.elim (fun h => .inl (k _ _ h)) .inr
mutual
inductive Dv (N : Bn) (H : Hp) : V → PyData → Prop
  | non : Dv N H .non .none
  | bl (b : Bool) : Dv N H (.bl b) (.bool b)
  | int (i : Int) : Dv N H (.int i) (.int i)
  | str (x : Str) : Dv N H (.str x) (.str x)
  | lst {a : Addr} {xs : List V} {ds : List PyData} : ¬ N a → H a = some (.lst xs) → DvAll N H xs ds → Dv N H (.ref a) (.list ds)
  | tup {a : Addr} {xs : List V} {ds : List PyData} : Tp N.K H a xs → DvAll N H xs ds → Dv N H (.ref a) (.tuple ds)
  | dct {a : Addr} : ¬ N a → H a = some (.dK []) → Dv N H (.ref a) (.dict [])
inductive DvAll (N : Bn) (H : Hp) : List V → List PyData → Prop
  | nil : DvAll N H [] []
  | cons {v : V} {vs : List V} {d : PyData} {ds : List PyData} : Dv N H v d → DvAll N H vs ds → DvAll N H (v :: vs) (d :: ds)
end
theorem lst_ne {xs : List V} : ∀ ps, HO.lst xs ≠ HO.tbl ps := fun ps z => by cases z
theorem dK_ne {xs} : ∀ ps, HO.dK xs ≠ HO.tbl ps := fun ps z => by cases z
mutual
theorem Dv.mapL {N N' : Bn} {H H' : Hp} (hK : N'.K = N.K) (k : ∀ b u, (∀ ps, u ≠ HO.tbl ps) → ¬ N b → H b = some u → H' b = some u ∧ ¬ N' b) (kt : ∀ b xs, H b = some (.tup xs) → H' b = some (.tup xs)) : ∀ (d : PyData) (v : V), Dv N H v d → Dv N' H' v d
  | .none, _, h => by cases h; exact .non
  | .bool _, _, h => by cases h; exact .bl _
  | .int _, _, h => by cases h; exact .int _
  | .str _, _, h => by cases h; exact .str _
  | .list ds, _, h => by
    cases h with
    | lst n e a => exact .lst (k _ _ lst_ne n e).2 (k _ _ lst_ne n e).1 (DvAll.mapL hK k kt ds _ a)
  | .tuple ds, _, h => by
    cases h with
    | tup e a => exact .tup (by rw [hK]; exact e.up kt) (DvAll.mapL hK k kt ds _ a)
  | .dict _, _, h => by
    cases h with
    | dct n e => exact .dct (k _ _ dK_ne n e).2 (k _ _ dK_ne n e).1
theorem DvAll.mapL {N N' : Bn} {H H' : Hp} (hK : N'.K = N.K) (k : ∀ b u, (∀ ps, u ≠ HO.tbl ps) → ¬ N b → H b = some u → H' b = some u ∧ ¬ N' b) (kt : ∀ b xs, H b = some (.tup xs) → H' b = some (.tup xs)) : ∀ (ds : List PyData) (vs : List V), DvAll N H vs ds → DvAll N' H' vs ds
  | [], _, h => by cases h; exact .nil
  | d :: ds, _, h => by
    cases h with
    | cons a b => exact .cons (Dv.mapL hK k kt d _ a) (DvAll.mapL hK k kt ds _ b)
end
theorem Dv.map {N N' : Bn} {H H' : Hp} (hK : N'.K = N.K) (k : ∀ b u, ¬ N b → H b = some u → H' b = some u ∧ ¬ N' b) (kt : ∀ b xs, H b = some (.tup xs) → H' b = some (.tup xs)) (d : PyData) (v : V) (h : Dv N H v d) : Dv N' H' v d := Dv.mapL hK (fun b u _ n q => k b u n q) kt d v h
theorem DvAll.map {N N' : Bn} {H H' : Hp} (hK : N'.K = N.K) (k : ∀ b u, ¬ N b → H b = some u → H' b = some u ∧ ¬ N' b) (kt : ∀ b xs, H b = some (.tup xs) → H' b = some (.tup xs)) (d : List PyData) (v : List V) (h : DvAll N H v d) : DvAll N' H' v d := DvAll.mapL hK (fun b u _ n q => k b u n q) kt d v h
theorem Dv.up {N : Bn} {H H' : Hp} {d : PyData} {v : V} (h : Dv N H v d) (k : Sx N.b H H') : Dv N H' v d := h.map rfl (fun b u n q => ⟨k.st b u n q, n⟩) k.tp _ _
theorem DvAll.up {N : Bn} {H H' : Hp} {ds : List PyData} {vs : List V} (h : DvAll N H vs ds) (k : Sx N.b H H') : DvAll N H' vs ds := h.map rfl (fun b u n q => ⟨k.st b u n q, n⟩) k.tp _ _
theorem Dv.less {N N' : Bn} {H : Hp} {d : PyData} {v : V} (h : Dv N H v d) (hK : N'.K = N.K) (k : ∀ b, N' b → N b) : Dv N' H v d := h.map hK (fun b u n q => ⟨q, fun z => n (k b z)⟩) (fun _ _ q => q) _ _
theorem Dv.same {N : Bn} {H H' : Hp} {d : PyData} {v : V} (h : Dv N H v d) (k : Same H H') : Dv N H' v d := h.up (.of k)
theorem DvAll.same {N : Bn} {H H' : Hp} {ds : List PyData} {vs : List V} (h : DvAll N H vs ds) (k : Same H H') : DvAll N H' vs ds := h.up (.of k)
theorem DvAll.length {N : Bn} {H : Hp} : ∀ {ds : List PyData} {vs : List V}, DvAll N H vs ds → vs.length = ds.length
  | _, _, .nil => rfl
  | _, _, .cons _ b => by simp [DvAll.length b]
theorem DvAll.get {N : Bn} {H : Hp} : ∀ {ds : List PyData} {vs : List V} {i : Nat} {d : PyData}, DvAll N H vs ds → ds[i]? = some d → ∃ v, vs[i]? = some v ∧ Dv N H v d
  | _, _, _, _, .nil, e => by simp at e
  | _, _, 0, _, .cons a _, e => by
    simp at e
    subst e
    exact ⟨_, rfl, a⟩
  | _, _, i + 1, _, .cons _ b, e => by
    obtain ⟨v, h1, h2⟩ := DvAll.get (i := i) b (by simpa using e)
    exact ⟨v, by simpa using h1, h2⟩
theorem DvAll.app {N : Bn} {H : Hp} : ∀ {ds es : List PyData} {vs us : List V}, DvAll N H vs ds → DvAll N H us es → DvAll N H (vs ++ us) (ds ++ es)
  | _, _, _, _, .nil, h => h
  | _, _, _, _, .cons a b, h => .cons a (DvAll.app b h)
theorem DvAll.take {N : Bn} {H : Hp} : ∀ {ds : List PyData} {vs : List V} (n : Nat), DvAll N H vs ds → DvAll N H (vs.take n) (ds.take n)
  | _, _, 0, _ => by simpa using .nil
  | _, _, _ + 1, .nil => .nil
  | _, _, n + 1, .cons a b => .cons a (DvAll.take n b)
theorem DvAll.drop {N : Bn} {H : Hp} : ∀ {ds : List PyData} {vs : List V} (n : Nat), DvAll N H vs ds → DvAll N H (vs.drop n) (ds.drop n)
  | _, _, 0, h => h
  | _, _, _ + 1, .nil => .nil
  | _, _, n + 1, .cons _ b => DvAll.drop n b
theorem DvAll.rev {N : Bn} {H : Hp} : ∀ {ds : List PyData} {vs : List V}, DvAll N H vs ds → DvAll N H vs.reverse ds.reverse
  | _, _, .nil => .nil
  | _, _, .cons a b => by
    rw [List.reverse_cons, List.reverse_cons]
    exact (DvAll.rev b).app (.cons a .nil)
theorem DvAll.nil_iff {N : Bn} {H : Hp} {ds : List PyData} {vs : List V} (h : DvAll N H vs ds) : vs = [] ↔ ds = [] := by
  cases h <;> simp
/-- ints -/
theorem DvAll.ints {N : Bn} {H : Hp} : ∀ ns : List Int, DvAll N H (ns.map V.int) (ns.map PyData.int)
  | [] => .nil
  | n :: r => .cons (.int n) (DvAll.ints r)


theorem Dv.ty {N : Bn} {H : Hp} {v : V} {d : PyData} (h : Dv N H v d) : TyX N.K H v (.type (tyName d)) := by
  cases h with
  | non => exact .base .non
  | bl b => exact .base (.bl b)
  | int i => exact .base (.int i)
  | str x => exact .base (.str x)
  | lst n e a => exact .base (.lst e)
  | tup e a =>
    rcases e with e | ⟨o, its, n, h1, h2, _⟩
    · exact .base (.tup e)
    · exact .kTuple h1 h2
  | dct n e => exact .base (.dK e)
/-- isinstance(data, a built-in class) -/
def rIsD (T : String) (f : PyData → Bool) (K : PySem.W.Frag) : List V → Hp → VK → Prop := fun xs H Q => ∃ (N : Bn) (v : V) (d : PyData), N.K = K ∧ xs = [v, .ty T] ∧ Dv N H v d ∧ Q (.bl (f d)) H
theorem call_isD {X : Cx} {T : String} {f : PyData → Bool} (k : ∀ d, kitB (tyName d) T = some (f d)) : CallR X (.builtin "isinstance") (rIsD T f X.K) := by
  intro pins s σ H xs us Q I r h
  obtain ⟨N, v, d, hK, rfl, hd, q⟩ := h
  have ht := hd.ty
  rw [hK] at ht
  exact call_isi pins s σ H _ us Q I r ⟨v, .ty T, .type (tyName d), .type T, f d, rfl, .ty T, ht, kit_ty (k d), q⟩
/-! ### a text of data -/
section
variable {X : Cx} {pins : List (Addr × Obj)} {σ : L2.St} {H : Hp} {s : Shared}
mutual
theorem Dv.reads (I : Inv X pins σ H s) {N : Bn} (hK : N.K = X.K) : ∀ (d : PyData) (v : V) (u : Value), Dv N H v d → RelV v u → ∃ as, Reads s.heap u d as ∧ ∀ a ∈ as, ¬ N a
  | .none, _, _, h, r => by
    cases h
    cases r
    exact ⟨_, Reads.none, fun _ z => nomatch z⟩
  | .bool b, _, _, h, r => by
    cases h
    cases r
    exact ⟨_, Reads.bool b, fun _ z => nomatch z⟩
  | .int i, _, _, h, r => by
    cases h
    obtain ⟨t, rfl⟩ := r
    exact ⟨_, Reads.int i t, fun _ z => nomatch z⟩
  | .str x, _, _, h, r => by
    cases h
    obtain ⟨t, rfl⟩ := r
    exact ⟨_, Reads.str x t, fun _ z => nomatch z⟩
  | .list ds, _, _, h, r => by
    cases h with
    | lst n e ha =>
      cases r
      obtain ⟨z, its, k, rv, ho⟩ := (show ObjOk X.prog X.w H s.heap _ (.lst _) from I.hok _ _ e)
      obtain ⟨as, hr, na⟩ := DvAll.reads I hK ds _ its ha rv
      refine ⟨_, Reads.list ho rfl rfl hr, fun b hb => ?_⟩
      rcases List.mem_cons.mp hb with rfl | hb
      · exact n
      · exact na b hb
  | .tuple ds, _, _, h, r => by
    cases h with
    | tup e ha =>
      cases r
      obtain ⟨its, rv, ⟨o, ho, hc, k, hd⟩, z⟩ := I.tuple (hK ▸ e.sq)
      obtain ⟨as, hr, na⟩ := DvAll.reads I hK ds _ its ha rv
      exact ⟨_, Reads.tuple ho hc hd hr, na⟩
  | .dict _, _, _, h, r => by
    cases h with
    | dct n e =>
      cases r
      obtain ⟨z, _, vs, rv, o, es, ep, ho, hex, hdat, hkey, hes, _⟩ := (show ObjOk X.prog X.w H s.heap _ (.dK []) from I.hok _ _ e)
      cases rv
      have he : es.toList = [] := by
        revert hes
        generalize es.toList = l
        intro hes
        cases hes
        rfl
      refine ⟨_, Reads.dict ho hex.1 hdat (as := []) (bs := []) ?_ ?_, fun b hb => ?_⟩
      · rw [he]
        exact .nil
      · rw [he]
        exact .nil
      · simp at hb
        subst hb
        exact n
theorem DvAll.reads (I : Inv X pins σ H s) {N : Bn} (hK : N.K = X.K) : ∀ (ds : List PyData) (vs : List V) (us : List Value), DvAll N H vs ds → Vals vs us → ∃ as, ReadsAll s.heap us ds as ∧ ∀ a ∈ as, ¬ N a
  | [], _, _, h, r => by
    cases h
    cases r
    exact ⟨_, .nil, fun _ z => nomatch z⟩
  | d :: ds, _, _, h, r => by
    cases h with
    | cons h1 h2 =>
      cases r with
      | cons r1 r2 =>
        obtain ⟨as, q1, n1⟩ := Dv.reads I hK d _ _ h1 r1
        obtain ⟨bs, q2, n2⟩ := DvAll.reads I hK ds _ _ h2 r2
        refine ⟨_, .cons q1 q2, fun b hb => ?_⟩
        rcases List.mem_append.mp hb with hb | hb
        · exact n1 b hb
        · exact n2 b hb
end
end
def rRepr (K : PySem.W.Frag) : List V → Hp → VK → Prop := fun xs H Q => ∃ (N : Bn) (v : V) (d : PyData), N.K = K ∧ xs = [v] ∧ Dv N H v d ∧ Tells N.b d ∧ Q (.str d.shown) H
theorem call_repr {X : Cx} {k : Nat} (hr : Room k X.A) (hG : X.A.guards = some []) : CallR X (.builtin "repr") (rRepr X.K) := by
  intro pins s σ H xs us Q I r h
  obtain ⟨N, v, d, hK, rfl, hd, ⟨h1, h2, h3, h4⟩, q⟩ := h
  obtain ⟨u, rfl, rx⟩ := vals1 r
  have units := hr.un
  obtain ⟨as, rd, na⟩ := Dv.reads I hK d v u hd rx
  have ref : ∀ a, u = .ref a → wpAny (model X.prog X.w) X.A (call (.builtin "repr") [u]) (EP X pins σ Q) X.xe s := fun a e => by
    subst e
    refine repr_of_reads' rd h1 (fun z m => na _ m (h4 z)) hG (by omega) (fun _ _ q => q) (fun h' u' tk k => ?_) h3
    exact ⟨.str d.shown, H, I.kept k, ⟨_, rfl⟩, q⟩
  cases hd with
  | non =>
    cases rx
    exact PySem.P.repr_of_none ⟨.str _, H, I.tok _, ⟨_, rfl⟩, q⟩
  | bl b =>
    cases rx
    refine PySem.P.repr_of_bool ⟨.str _, H, I.tok _, ⟨s.toks, ?_⟩, q⟩
    cases b <;> rfl
  | int i =>
    obtain ⟨t, rfl⟩ := rx
    exact PySem.P.repr_of_int (by simpa [PyData.showable] using h1) ⟨.str _, H, I.tok _, ⟨_, rfl⟩, q⟩
  | str x =>
    obtain ⟨t, rfl⟩ := rx
    exact PySem.P.repr_of_str ⟨.str _, H, I.tok _, ⟨_, rfl⟩, q⟩ (by simpa [PyData.shown] using h3)
  | lst n e a => exact ref _ rx
  | tup e a => exact ref _ rx
  | dct n e => exact ref _ rx
def FreshB (N : Bn) (H : Hp) : Prop := ∀ p, H p = none → p ≠ sysModules → ¬ N p
theorem FreshB.same {N : Bn} {H H' : Hp} (f : FreshB N H) (k : Same H H') : FreshB N H' := fun p h n => f p (same_none k h) n
def tData (d : PyData) : TE := fun _ H Q => ∃ N : Bn, FreshB N H ∧ ∀ v H', Same H H' → Dv N H' v d → Q v H'
def tDatas (ds : List PyData) : TA := fun _ H Q => ∃ N : Bn, FreshB N H ∧ ∀ vs H', Same H H' → DvAll N H' vs ds → Q vs H'
section
variable {X : Cx} {e : Expr} {es : List Expr} {d : PyData} {ds : List PyData} {pos : Pos}
theorem pd_int {i : Int} {j : Nat} : PE X (.Constant (.int i) j pos) (tData (.int i)) := pe_int.weak fun _ H Q ⟨_, _, q⟩ => q _ H (Same.refl H) (.int i)
theorem pd_bl {b : Bool} {j : Nat} : PE X (.Constant (.bool b) j pos) (tData (.bool b)) := pe_bl.weak fun _ H Q ⟨_, _, q⟩ => q _ H (Same.refl H) (.bl b)
theorem pd_non {j : Nat} : PE X (.Constant .none j pos) (tData .none) := pe_non.weak fun _ H Q ⟨_, _, q⟩ => q _ H (Same.refl H) .non
theorem pd_str {x : Str} {j : Nat} : PE X (.Constant (.str x) j pos) (tData (.str x)) := pe_str.weak fun _ H Q ⟨_, _, q⟩ => q _ H (Same.refl H) (.str x)
theorem pd_neg {i : Int} (h : PE X e (tData (.int i))) : PE X (.UnaryOp .USub e pos) (tData (.int (-i))) :=
  (pe_un un_neg h).weak fun σ H Q ⟨N, f, q⟩ => ⟨N, f, fun v H' k dv => by
    cases dv
    exact ⟨i, rfl, q _ H' k (.int (-i))⟩⟩
theorem pd_pow {i : Int} {n : Nat} {e1 e2 : Expr} (h1 : PE X e1 (tData (.int i))) (h2 : PE X e2 (tData (.int (n : Int)))) (hn : n ≤ 1000000) (hi : i.natAbs < 2 ^ 64) : PE X (.BinOp e1 .Pow e2 pos) (tData (.int (i ^ n))) :=
  (pe_op op_pow h1 h2).weak fun σ H Q ⟨N, f, q⟩ => ⟨N, f, fun v H' k dv => by
    cases dv
    refine ⟨N, f.same k, fun v2 H2 k2 dv2 => ?_⟩
    cases dv2
    refine ⟨i, (n : Int), rfl, rfl, ⟨by omega, by omega, hi⟩, ?_⟩
    show Q (.int (i ^ ((n : Int)).toNat)) H2
    rw [Int.toNat_natCast]
    exact q _ H2 (k.trans k2) (.int _)⟩
theorem pda_nil : PA X [] (tDatas []) := pa_nil.weak fun _ H Q ⟨_, _, q⟩ => q [] H (Same.refl H) .nil
theorem pda_cons (h : PE X e (tData d)) (r : PA X es (tDatas ds)) (hs : starEach (e :: es) X.env = (false, eval e X.env) :: starEach es X.env := by rfl) : PA X (e :: es) (tDatas (d :: ds)) :=
  (pa_cons h r hs).weak fun σ H Q ⟨N, f, q⟩ => ⟨N, f, fun v H1 k1 dv => ⟨N, f.same k1, fun vs H2 k2 dvs => q _ H2 (k1.trans k2) (.cons (dv.same k2) dvs)⟩⟩
theorem pd_tup {x1} (h : PA X es (tDatas ds)) (hl : ds.length ≤ 1000 := by decide) : PE X (.Tuple es x1 pos) (tData (.tuple ds)) :=
  (pe_tup h).weak fun σ H Q ⟨N, f, q⟩ => ⟨N, f, fun vs H1 k1 dvs => ⟨by
    have z := dvs.length
    rw [sizeLine_eq]
    omega, fun p hp => q _ _ (k1.trans (same_new hp _)) (.tup (.of upd_same) (dvs.same (same_new hp _)))⟩⟩
theorem pd_lst (h : PA X es (tDatas ds)) (hl : ds.length ≤ 1000 := by decide) : PE X (.List es pos) (tData (.list ds)) :=
  (pe_list h).weak fun σ H Q ⟨N, f, q⟩ => ⟨N, f, fun vs H1 k1 dvs => ⟨by
    have z := dvs.length
    rw [sizeLine_eq]
    omega, fun p hp np => q _ _ (k1.trans (same_new hp _)) (.lst (f.same k1 p hp np) upd_same (dvs.same (same_new hp _)))⟩⟩
theorem pd_dct : PE X (.Dict [] [] pos) (tData (.dict [])) :=
  pe_dict0.weak fun σ H Q ⟨N, f, q⟩ p hp np => q _ _ (same_new hp _) (.dct (f p hp np) upd_same)
end
theorem tup_at {N : Bn} {H : Hp} {v : V} {ds : List PyData} (h : Dv N H v (.tuple ds)) : ∃ a xs, v = .ref a ∧ Tp N.K H a xs ∧ DvAll N H xs ds := by
  cases h with
  | tup e all => exact ⟨_, _, rfl, e, all⟩
section
variable {N : Bn} {H : Hp} {Q : VK}
theorem dv_cut {v : V} {ds : List PyData} {lo hi : Option Int} (h : Dv N H v (.tuple ds)) (q : ∀ u H', Same H H' → Dv N H' u (.tuple (Lw.cutD ds lo hi)) → Q u H') : rSlA N.K v lo hi H Q := by
  obtain ⟨a, xs, rfl, e, all⟩ := tup_at h
  have hl := all.length
  refine ⟨a, xs, rfl, e.sq, fun z => ?_, fun z p hp => ?_⟩
  · refine q _ H (.refl H) ?_
    have c : Lw.cutD ds lo hi = ds := by
      unfold Lw.cutD
      rw [← hl, z.1, z.2]
      show (ds.take (xs.length - 0)) = ds
      rw [List.take_of_length_le (by omega)]
    rw [c]
    exact h
  · have s : Same H (upd H p (.tup (cutV xs lo hi))) := same_new hp _
    refine q _ _ s (.tup (.of upd_same) ?_)
    unfold Lw.cutD cutV
    rw [← hl]
    exact ((all.same s).drop _).take _
theorem dv_cat {v u : V} {ds es : List PyData} (h : Dv N H v (.tuple ds)) (h2 : Dv N H u (.tuple es)) (hl : ds.length + es.length ≤ 16000000) (q : ∀ y H', Same H H' → Dv N H' y (.tuple (ds ++ es)) → Q y H') : rCatA N.K v u H Q := by
  obtain ⟨a, xs, rfl, e, all⟩ := tup_at h
  obtain ⟨b, ys, rfl, e2, all2⟩ := tup_at h2
  have l1 := all.length
  have l2 := all2.length
  refine ⟨a, b, xs, ys, rfl, rfl, e.sq, e2.sq, by rw [sizeLine_eq]; omega, fun z => ?_, fun _ z => ?_, fun _ _ p hp => ?_⟩
  · have c := all.nil_iff.mp z
    subst c
    exact q _ H (.refl H) h2
  · have c := all2.nil_iff.mp z
    subst c
    rw [List.append_nil] at q
    exact q _ H (.refl H) h
  · have s : Same H (upd H p (.tup (xs ++ ys))) := same_new hp _
    exact q _ _ s (.tup (.of upd_same) ((all.app all2).same s))
end
end Ld

namespace Ld
open PySem PySem.Spec PyProof.Rows L2 Lw
/-! ### data that a name of the text holds -/
mutual
inductive Wv (K : PySem.W.Frag) : V → PyData → Prop
  | non : Wv K .non .none
  | bl (b : Bool) : Wv K (.bl b) (.bool b)
  | int (i : Int) : Wv K (.int i) (.int i)
  | str (x : Str) : Wv K (.str x) (.str x)
  | tup {a : Addr} {xs : List V} {ds : List PyData} : Wr K a xs → WvAll K xs ds → Wv K (.ref a) (.tuple ds)
inductive WvAll (K : PySem.W.Frag) : List V → List PyData → Prop
  | nil : WvAll K [] []
  | cons {v : V} {vs : List V} {d : PyData} {ds : List PyData} : Wv K v d → WvAll K vs ds → WvAll K (v :: vs) (d :: ds)
end
mutual
theorem Wv.dv {K : PySem.W.Frag} {N : Bn} {H : Hp} (hK : N.K = K) : ∀ (d : PyData) (v : V), Wv K v d → Dv N H v d
  | .none, _, h => by cases h; exact .non
  | .bool _, _, h => by cases h; exact .bl _
  | .int _, _, h => by cases h; exact .int _
  | .str _, _, h => by cases h; exact .str _
  | .list _, _, h => by cases h
  | .tuple ds, _, h => by
    cases h with
    | tup w a => exact .tup (.inr (hK ▸ w)) (WvAll.dv hK ds _ a)
  | .dict _, _, h => by cases h
theorem WvAll.dv {K : PySem.W.Frag} {N : Bn} {H : Hp} (hK : N.K = K) : ∀ (ds : List PyData) (vs : List V), WvAll K vs ds → DvAll N H vs ds
  | [], _, h => by cases h; exact .nil
  | d :: ds, _, h => by
    cases h with
    | cons a b => exact .cons (Wv.dv hK d _ a) (WvAll.dv hK ds _ b)
end
/-- the name x holds d -/
structure Wd (K : PySem.W.Frag) (mg : Str → Option Value) (x : Str) (d : PyData) : Prop where
  ex : ∃ (v : V) (u : Value), mg x = some u ∧ RelV v u ∧ Wv K v d
theorem wr_of {K : PySem.W.Frag} {a : Addr} {od : Option Addr} {its : Array Value} {n : Nat} {sl : Array (Option Value)} {xs : List V} (h : K.lookup a = some ⟨.type "tuple", od, .seq its n, sl⟩) (hs : its.size ≤ sizeLine) (r : Vals xs its.toList) : Wr K a xs := ⟨_, its, n, h, rfl, rfl, hs, r⟩
end Ld

namespace Ld
open PySem PySem.Spec PyProof.Rows L2 Lw

/-! ### the layer of data: what slots hold, by data alone -/
inductive Sv where
  | dat (d : PyData)
  | own (ds : List PyData)
  | well
  | fn (x : Str)
abbrev Env := List (Option Sv)
abbrev Exn := Str × List (Str × PyData)
abbrev RD := PyData → Prop
abbrev XD := Exn → Prop
abbrev TD := Env → RD → XD → Prop
abbrev TAD := Env → (List Sv → Prop) → XD → Prop
abbrev TTD := Env → (Bool → Prop) → XD → Prop
abbrev TF := List Sv → RD → XD → Prop
def slotD : Env → Nat → Option Sv
  | [], _ => none
  | x :: _, 0 => x
  | _ :: r, n + 1 => slotD r n
def putD : Env → Nat → Option Sv → Env
  | [], _, _ => []
  | _ :: r, 0, v => v :: r
  | x :: r, n + 1, v => x :: putD r n v
theorem putD_len : ∀ (ρ : Env) (i : Nat) (v : Option Sv), (putD ρ i v).length = ρ.length
  | [], _, _ => rfl
  | _ :: _, 0, _ => rfl
  | _ :: r, n + 1, v => congrArg (· + 1) (putD_len r n v)
theorem slot_put : ∀ (ρ : Env) (i j : Nat) (v y : Option Sv), slotD (putD ρ i v) j = y → y ≠ none → (j = i ∧ v = y ∧ i < ρ.length) ∨ (j ≠ i ∧ slotD ρ j = y)
  | [], i, j, v, y, h, hn => by
    cases j <;> exact absurd h.symm hn
  | x :: r, 0, 0, v, y, h, hn => .inl ⟨rfl, h, Nat.succ_pos _⟩
  | x :: r, 0, j + 1, v, y, h, hn => .inr ⟨by omega, h⟩
  | x :: r, n + 1, 0, v, y, h, hn => .inr ⟨by omega, h⟩
  | x :: r, n + 1, j + 1, v, y, h, hn => by
    rcases slot_put r n j v y h hn with ⟨a, b, c⟩ | ⟨a, b⟩
    · exact .inl ⟨by omega, b, by simp; omega⟩
    · exact .inr ⟨by omega, b⟩

/-! the well, and the tables of code objects -/
structure Wx where
  o : Option Addr
  T : List (Addr × Str) := []
def Wx.has (w : Wx) (b : Addr) : Prop := w.o = some b ∨ ∃ p ∈ w.T, p.1 = b
theorem tabs_more {T : List (Addr × Str)} {H H' : Hp} {l : Addr} (t : LamX.Tabs T H) (k : ∀ b o, b ≠ l → H b = some o → H' b = some o) (hl : H l = none ∨ ∃ ys, H l = some (.lst ys)) : LamX.Tabs T H' := fun p hp => by
  obtain ⟨ps, h1, h2, h3⟩ := t p hp
  have ne : ∀ {b o}, H b = some o → (∀ ys, o ≠ .lst ys) → b ≠ l := fun {b o} e n z => by
    rw [z] at e
    rcases hl with q | ⟨ys, q⟩
    · rw [e] at q
      cases q
    · rw [e] at q
      exact n ys (Option.some.inj q)
  refine ⟨ps, k _ _ (ne h1 (fun ys z => by cases z)) h1, h2, fun pos cv hc => ?_⟩
  obtain ⟨c, e1, e2⟩ := h3 pos cv hc
  exact ⟨c, e1, k _ _ (ne e2 (fun ys z => by unfold LamX.CodeO at z; cases z)) e2⟩
/-- a step: all but the well and the tables stays -/
structure Stp (w : Wx) (H H' : Hp) : Prop where
  kp : ∀ b u, ¬ w.has b → (∀ ps, u ≠ HO.tbl ps) → H b = some u → H' b = some u
  tp : ∀ b xs, H b = some (.tup xs) → H' b = some (.tup xs)
  wl : ∀ p, w.o = some p → WellAt H p → WellAt H' p
  tb : LamX.Tabs w.T H → LamX.Tabs w.T H'
  k0 : w.T = [] → ∀ b u, ¬ w.has b → H b = some u → H' b = some u
theorem Stp.refl (w : Wx) (H : Hp) : Stp w H H := ⟨fun _ _ _ _ q => q, fun _ _ q => q, fun _ _ q => q, fun q => q, fun _ _ _ _ q => q⟩
theorem Stp.trans {w : Wx} {H H1 H2 : Hp} (a : Stp w H H1) (b : Stp w H1 H2) : Stp w H H2 :=
  ⟨fun c u n m q => b.kp c u n m (a.kp c u n m q), fun c xs q => b.tp c xs (a.tp c xs q), fun p e q => b.wl p e (a.wl p e q), fun q => b.tb (a.tb q), fun e c u n q => b.k0 e c u n (a.k0 e c u n q)⟩
theorem Stp.of {w : Wx} {H H' : Hp} (k : Same H H') : Stp w H H' := ⟨fun b u _ _ q => k b u q, fun b xs q => k b _ q, fun p _ q => q.same k, fun q => q.ext k, fun _ b u _ q => k b u q⟩
theorem Stp.after {p : Addr} {H H' : Hp} (k : Stp ⟨some p, []⟩ H H') (h : WellAt H p) : After p H H' := by
  have no : ∀ b, Wx.has ⟨some p, []⟩ b → b = p := fun b z => by
    rcases z with z | ⟨q, hq, _⟩
    · exact (Option.some.inj z).symm
    · cases hq
  exact ⟨⟨fun b u n q => k.k0 rfl b u (fun z => n (.inl (no b z))) q, k.tp⟩, k.wl p rfl h, fun b u n q => k.k0 rfl b u (fun z => n (no b z)) q⟩
theorem Stp.ofAfter {w : Wx} {p : Addr} {H H' : Hp} (hw : w.o = some p) (h : WellAt H p) (k : After p H H') : Stp w H H' := by
  obtain ⟨a, m, c, e, _⟩ := h
  exact ⟨fun b u n _ q => k.kp b u (fun z => n (by rw [z]; exact .inl hw)) q, k.sx.tp, fun q e _ => by rw [hw] at e; cases e; exact k.well, fun t => tabs_more t (fun b o n q => k.kp b o n q) (.inr ⟨_, e⟩), fun _ b u n q => k.kp b u (fun z => n (by rw [z]; exact .inl hw)) q⟩
structure Md where
  /-- strict: lists and dicts stand apart from the modules' own -/
  y : Bool
  /-- the tables of code objects -/
  T : List (Addr × Str)
  /-- no list or dict of the data is the modules' own dict -/
  m : Bool
structure Gnd where
  base : Heap
  K : PySem.W.Frag
  sy : Md
abbrev gnd (Sy : Md) (X : Cx) : Gnd := ⟨X.base, X.K, Sy⟩
structure WlOk (base : Gnd) (w : Wx) (N : Bn) (H : Hp) : Prop where
  wl : ∀ p, w.o = some p → N p ∧ p ≠ sysModules ∧ WellAt H p
  fr : FreshB N H
  sn : base.sy.m = true → N sysModules
  sl : base.sy.y = false → ∀ p, H p = none → ¬ N p
  kk : N.K = base.K
  tn : ∀ p ∈ w.T, N p.1
  tb : LamX.Tabs w.T H
  tt : w.T = base.sy.T
  to : ∀ p ps, H p = some (.tbl ps) → ¬ w.has p → (p ≠ sysModules ∨ base.sy.y = false) → ¬ N p
theorem WlOk.has {base : Gnd} {w : Wx} {N : Bn} {H : Hp} (a : WlOk base w N H) : ∀ p, w.has p → N p := fun p h => by
  rcases h with h | ⟨q, hq, rfl⟩
  · exact (a.wl p h).1
  · exact a.tn q hq
theorem WlOk.isome {base : Gnd} {w : Wx} {N : Bn} {H : Hp} (a : WlOk base w N H) {p : Addr} (h : w.has p) : ∃ u, H p = some u := by
  rcases h with h | ⟨q, hq, rfl⟩
  · obtain ⟨_, _, x, m, c, e, _⟩ := a.wl p h
    exact ⟨_, e⟩
  · obtain ⟨ps, e, _⟩ := a.tb q hq
    exact ⟨_, e⟩
theorem WlOk.new {base : Gnd} {w : Wx} {N : Bn} {H : Hp} (a : WlOk base w N H) {l : Addr} (hl : H l = none) : ¬ w.has l := fun z => by
  obtain ⟨u, e⟩ := a.isome z
  rw [hl] at e
  cases e
theorem WlOk.step {base : Gnd} {w : Wx} {N : Bn} {H H' : Hp} (a : WlOk base w N H) (k : Stp w H H') : WlOk base w N H' := by
  have tb := k.tb a.tb
  have back : ∀ p, H' p = none → (p ≠ sysModules ∨ base.sy.y = false) → ¬ N p := fun p hp hs => by
    have c : ¬ w.has p := fun c => by
      rcases c with c | ⟨q, hq, rfl⟩
      · obtain ⟨_, _, h3⟩ := a.wl p c
        obtain ⟨x, m, y, z, _⟩ := k.wl p c h3
        rw [hp] at z
        cases z
      · obtain ⟨ps, e, _⟩ := tb q hq
        rw [hp] at e
        cases e
    cases e : H p with
    | none =>
      cases ey : base.sy.y with
      | false => exact a.sl ey p e
      | true => exact a.fr p e (hs.elim (fun z => z) fun z => by rw [ey] at z; cases z)
    | some u =>
      by_cases ct : ∃ ps, u = HO.tbl ps
      · obtain ⟨ps, rfl⟩ := ct
        exact a.to p ps e c hs
      · rw [k.kp p u c (fun ps z => ct ⟨ps, z⟩) e] at hp
        cases hp
  refine ⟨fun p e => ?_, fun p hp np => back p hp (.inl np), a.sn, fun z p hp => back p hp (.inr z), a.kk, a.tn, tb, a.tt, fun p ps hp c hs => ?_⟩
  · obtain ⟨h1, h2, h3⟩ := a.wl p e
    exact ⟨h1, h2, k.wl p e h3⟩
  · cases e : H p with
    | none =>
      cases ey : base.sy.y with
      | false => exact a.sl ey p e
      | true => exact a.fr p e (hs.elim (fun z => z) fun z => by rw [ey] at z; cases z)
    | some u =>
      by_cases ct : ∃ ps, u = HO.tbl ps
      · obtain ⟨qs, rfl⟩ := ct
        exact a.to p qs e c hs
      · rw [k.kp p u c (fun ps z => ct ⟨ps, z⟩) e] at hp
        exact absurd ⟨ps, Option.some.inj hp⟩ ct
theorem dv_step {w : Wx} {N : Bn} {H H' : Hp} {v : V} {d : PyData} (h : Dv N H v d) (hw : ∀ p, w.has p → N p) (k : Stp w H H') : Dv N H' v d :=
  Dv.mapL rfl (fun b u m n q => ⟨k.kp b u (fun z => n (hw b z)) m q, n⟩) k.tp _ _ h
theorem dvs_step {w : Wx} {N : Bn} {H H' : Hp} {vs : List V} {ds : List PyData} (h : DvAll N H vs ds) (hw : ∀ p, w.has p → N p) (k : Stp w H H') : DvAll N H' vs ds :=
  DvAll.mapL rfl (fun b u m n q => ⟨k.kp b u (fun z => n (hw b z)) m q, n⟩) k.tp _ _ h
/-- what a slot holds -/
def SvR (w : Wx) (N : Bn) (O : Nat → Option Addr) (H : Hp) (i : Nat) (v : V) : Sv → Prop
  | .dat d => Dv N H v d
  | .own ds => ∃ a xs, v = .ref a ∧ O i = some a ∧ H a = some (.lst xs) ∧ DvAll N H xs ds
  | .well => ∃ p, w.o = some p ∧ v = .ref p
  | .fn x => ∃ f, PySem.W.nsIn N.K mainGlobals x = some (some (.ref f)) ∧ v = .ref f
structure EnvR (base : Gnd) (w : Wx) (N : Bn) (O : Nat → Option Addr) (F : List (V × PyData)) (H : Hp) (σ : L2.St) (ρ : Env) : Prop where
  ok : WlOk base w N H
  len : σ.length = ρ.length
  slot : ∀ i y, slotD ρ i = some y → ∃ v, σ[i]? = some (some v) ∧ SvR w N O H i v y
  inj : ∀ i j a, O i = some a → O j = some a → i = j
  ow : ∀ i a, O i = some a → N a ∧ ¬ w.has a ∧ ∃ ys, H a = some (.lst ys)
  kept : ∀ p ∈ F, Dv N H p.1 p.2
section
variable {base : Gnd} {w : Wx} {N : Bn} {O : Nat → Option Addr} {F : List (V × PyData)} {H H' : Hp} {σ : L2.St} {ρ : Env}
theorem EnvR.hw (e : EnvR base w N O F H σ ρ) : ∀ p, w.has p → N p := e.ok.has
theorem EnvR.step (e : EnvR base w N O F H σ ρ) (k : Stp w H H') : EnvR base w N O F H' σ ρ := by
  refine ⟨e.ok.step k, e.len, fun i y h => ?_, e.inj, fun i a h => ?_, fun p hp => dv_step (e.kept p hp) e.hw k⟩
  · obtain ⟨v, h1, h2⟩ := e.slot i y h
    refine ⟨v, h1, ?_⟩
    cases y with
    | dat d => exact dv_step h2 e.hw k
    | own ds =>
      obtain ⟨a, xs, r, o, ha, hd⟩ := h2
      exact ⟨a, xs, r, o, k.kp _ _ (e.ow i a o).2.1 lst_ne ha, dvs_step hd e.hw k⟩
    | well => exact h2
    | fn x => exact h2
  · obtain ⟨h1, h2, u, h4⟩ := e.ow i a h
    exact ⟨h1, h2, u, k.kp _ _ h2 lst_ne h4⟩
/-- a slot filled with data -/
theorem EnvR.put (e : EnvR base w N O F H σ ρ) (i : Nat) {v : V} {d : PyData} (h : Dv N H v d) : EnvR base w N (fun j => if j = i then none else O j) F H (σ.set i (some v)) (putD ρ i (some (.dat d))) := by
  refine ⟨e.ok, by rw [List.length_set, putD_len, e.len], fun j y hy => ?_, fun a b c h1 h2 => ?_, fun j a h1 => ?_, e.kept⟩
  · rcases slot_put ρ i j _ _ hy (by intro z; cases z) with ⟨rfl, z, l⟩ | ⟨nj, z⟩
    · cases z
      exact ⟨v, by rw [List.getElem?_set_self (by rw [e.len]; exact l)], h⟩
    · obtain ⟨u, h1, h2⟩ := e.slot j y z
      refine ⟨u, by rw [List.getElem?_set_ne (fun z => nj z.symm)]; exact h1, ?_⟩
      cases y with
      | dat d => exact h2
      | own ds =>
        obtain ⟨a, xs, r, o, q⟩ := h2
        exact ⟨a, xs, r, by simp only [nj, if_false]; exact o, q⟩
      | well => exact h2
      | fn x => exact h2
  · try dsimp only at h1 h2
    split at h1
    · cases h1
    · split at h2
      · cases h2
      · exact e.inj a b c h1 h2
  · try dsimp only at h1
    split at h1
    · cases h1
    · exact e.ow j a h1
end
/-- an exception's class and fields -/
def ExAt (mg : Str → Option Value) (N : Bn) (H : Hp) (cls : Value) (dx : Option Addr) (x : Exn) : Prop :=
  ∃ C, mg x.1 = some (.ref C) ∧ cls = .ref C ∧ match x.2 with
    | [] => dx = none
    | [(f, d)] => ∃ a v, dx = some a ∧ H a = some (.xd [(f, v)]) ∧ Dv N H v d
    | _ => False
/-- an expression by data -/
def LE (Sy : Md) (X : Cx) (E : L2.St → XK) (t : TD) : TE := fun σ H Q => ∃ (w : Wx) (N : Bn) (O : Nat → Option Addr) (F : List (V × PyData)) (ρ : Env) (R : RD) (Ex : XD), EnvR (gnd Sy X) w N O F H σ ρ ∧ t ρ R Ex ∧
  (∀ d v H', R d → Stp w H H' → Dv N H' v d → Q v H') ∧ (∀ x cls dx H', Ex x → Stp w H H' → ExAt X.mg N H' cls dx x → E σ cls dx H')
def LT (Sy : Md) (X : Cx) (E : L2.St → XK) (t : TTD) : TT := fun σ H Q => ∃ (w : Wx) (N : Bn) (O : Nat → Option Addr) (F : List (V × PyData)) (ρ : Env) (R : Bool → Prop) (Ex : XD), EnvR (gnd Sy X) w N O F H σ ρ ∧ t ρ R Ex ∧
  (∀ b H', R b → Stp w H H' → Q b H') ∧ (∀ x cls dx H', Ex x → Stp w H H' → ExAt X.mg N H' cls dx x → E σ cls dx H')
def SaR (w : Wx) (N : Bn) (H : Hp) (v : V) : Sv → Prop
  | .dat d => Dv N H v d
  | .own _ => False
  | .well => ∃ p, w.o = some p ∧ v = .ref p
  | .fn x => ∃ f, PySem.W.nsIn N.K mainGlobals x = some (some (.ref f)) ∧ v = .ref f
def SvsR (w : Wx) (N : Bn) (H : Hp) : List V → List Sv → Prop
  | [], [] => True
  | v :: vs, u :: us => SaR w N H v u ∧ SvsR w N H vs us
  | _, _ => False
theorem SvsR.length {w : Wx} {N : Bn} {H : Hp} : ∀ {vs : List V} {us : List Sv}, SvsR w N H vs us → vs.length = us.length
  | [], [], _ => rfl
  | v :: vs, u :: us, h => congrArg (· + 1) (SvsR.length h.2)
  | [], _ :: _, h => h.elim
  | _ :: _, [], h => h.elim
theorem SaR.step {w : Wx} {N : Bn} {H H' : Hp} {v : V} {u : Sv} (h : SaR w N H v u) (hw : ∀ p, w.has p → N p) (k : Stp w H H') : SaR w N H' v u := by
  cases u with
  | dat d => exact dv_step h hw k
  | own ds => exact h
  | well => exact h
  | fn x => exact h
theorem SvsR.step {w : Wx} {N : Bn} {H H' : Hp} (hw : ∀ p, w.has p → N p) (k : Stp w H H') : ∀ {vs : List V} {us : List Sv}, SvsR w N H vs us → SvsR w N H' vs us
  | [], [], _ => trivial
  | v :: vs, u :: us, h => ⟨h.1.step hw k, SvsR.step hw k h.2⟩
  | [], _ :: _, h => h.elim
  | _ :: _, [], h => h.elim
def LA (Sy : Md) (X : Cx) (E : L2.St → XK) (n : Nat) (t : TAD) : TA := fun σ H Q => ∃ (w : Wx) (N : Bn) (O : Nat → Option Addr) (F : List (V × PyData)) (ρ : Env) (R : List Sv → Prop) (Ex : XD), EnvR (gnd Sy X) w N O F H σ ρ ∧ t ρ R Ex ∧
  (∀ us vs H', us.length = n → R us → Stp w H H' → SvsR w N H' vs us → Q vs H') ∧ (∀ x cls dx H', Ex x → Stp w H H' → ExAt X.mg N H' cls dx x → E σ cls dx H')
/-! ### the combinators -/
def dV (i : Nat) : TD := fun ρ R _ => match slotD ρ i with
  | some (.dat d) => R d
  | _ => False
def dC (d : PyData) : TD := fun _ R _ => R d
def dOp (f : PyData → PyData → RD → Prop) (ta tb : TD) : TD := fun ρ R Ex => ta ρ (fun x => tb ρ (fun y => f x y R) Ex) Ex
def dUn (f : PyData → RD → Prop) (ta : TD) : TD := fun ρ R Ex => ta ρ (fun x => f x R) Ex
def dNil : TAD := fun _ R _ => R []
def dCons (t : TD) (r : TAD) : TAD := fun ρ R Ex => t ρ (fun d => r ρ (fun us => R (.dat d :: us)) Ex) Ex
def dConsW (i : Nat) (r : TAD) : TAD := fun ρ R Ex => match slotD ρ i with
  | some .well => r ρ (fun us => R (.well :: us)) Ex
  | _ => False
def dCall (tf : TF) (ta : TAD) : TD := fun ρ R Ex => ta ρ (fun us => tf us R Ex) Ex
def datsOf : List Sv → Option (List PyData)
  | [] => some []
  | .dat d :: r => match datsOf r with
    | some ds => some (d :: ds)
    | none => none
  | _ => none
def dCB (f : List PyData → RD → Prop) (ta : TAD) : TD := fun ρ R Ex => ta ρ (fun us => match datsOf us with
  | some ds => f ds R
  | none => False) Ex
def dTup (ta : TAD) : TD := dCB (fun ds R => R (.tuple ds)) ta
def dLst (ta : TAD) : TD := dCB (fun ds R => R (.list ds)) ta
def dIf (tc : TTD) (ta tb : TD) : TD := fun ρ R Ex => tc ρ (fun b => if b = true then ta ρ R Ex else tb ρ R Ex) Ex
theorem dats_all {w : Wx} {N : Bn} {H : Hp} : ∀ {vs : List V} {us : List Sv} {ds : List PyData}, SvsR w N H vs us → datsOf us = some ds → DvAll N H vs ds ∧ ds.length = us.length
  | [], [], _, _, e => by
    cases e
    exact ⟨.nil, rfl⟩
  | v :: vs, .dat d :: us, ds, h, e => by
    unfold datsOf at e
    cases z : datsOf us with
    | none => rw [z] at e; cases e
    | some es =>
      rw [z] at e
      cases e
      obtain ⟨a, b⟩ := dats_all h.2 z
      exact ⟨.cons h.1 a, by simp [b]⟩
  | v :: vs, .own _ :: us, ds, h, e => h.1.elim
  | v :: vs, .well :: us, ds, h, e => by
    unfold datsOf at e
    cases e
  | v :: vs, .fn _ :: us, ds, h, e => by
    unfold datsOf at e
    cases e
  | [], _ :: _, _, h, _ => h.elim
  | _ :: _, [], _, h, _ => h.elim
section
variable {Sy : Md} {X : Cx} {E : L2.St → XK} {e : Expr} {es : List Expr} {pos : Pos} {i n : Nat} {ta tb : TD} {tc : TTD} {tr : TAD}
theorem d_var (h : PE X e (tVar i)) : PE X e (LE Sy X E (dV i)) := h.weak fun σ H Q ⟨w, N, O, F, ρ, R, Ex, en, t, q, _⟩ => by
  unfold dV at t
  split at t
  · rename_i d hd
    obtain ⟨v, h1, h2⟩ := en.slot i _ hd
    exact ⟨v, h1, q d v H t (.refl _ _) h2⟩
  · exact t.elim
theorem d_c {v : V} {d : PyData} (h : PE X e (tC v)) (hd : ∀ N H, Dv N H v d) : PE X e (LE Sy X E (dC d)) := h.weak fun σ H Q ⟨w, N, O, F, ρ, R, Ex, en, t, q, _⟩ => q d v H t (.refl _ _) (hd N H)
/-- a name of the text that holds data -/
theorem d_tc {x : Str} {d : PyData} {pos : Pos} (hg : Gl X x) (wd : Wd X.K X.mg x d) (hdb : (x == ("__debug__" : Str)) = false := by decide) : PE X (.Name x pos) (LE Sy X E (dC d)) := by
  obtain ⟨v, u, hm, r, wv⟩ := wd.ex
  exact (pe_glob hg hm r hdb).weak fun σ H Q ⟨w, N, O, F, ρ, R, Ex, en, t, q, _⟩ => q d v H t (.refl _ _) (wv.dv en.ok.kk)
theorem d_int {z : Int} {j : Nat} : PE X (.Constant (.int z) j pos) (LE Sy X E (dC (.int z))) := d_c pe_int fun _ _ => .int z
theorem d_bl {z : Bool} {j : Nat} : PE X (.Constant (.bool z) j pos) (LE Sy X E (dC (.bool z))) := d_c pe_bl fun _ _ => .bl z
theorem d_non {j : Nat} : PE X (.Constant .none j pos) (LE Sy X E (dC .none)) := d_c pe_non fun _ _ => .non
theorem d_str {z : Str} {j : Nat} : PE X (.Constant (.str z) j pos) (LE Sy X E (dC (.str z))) := d_c pe_str fun _ _ => .str z
/-- written data -/
theorem d_data {d : PyData} (h : PE X e (tData d)) : PE X e (LE Sy X E (dC d)) := h.weak fun σ H Q ⟨w, N, O, F, ρ, R, Ex, en, t, q, _⟩ => ⟨N, en.ok.fr, fun v H' k dv => q d v H' t (.of k) dv⟩
/-- what an operation by values does, by data -/
def OpD (Sy : Md) (X : Cx) (r : R2) (f : PyData → PyData → RD → Prop) : Prop := ∀ (N : Bn) (H : Hp) (v u : V) (x y : PyData) (R : RD) (Q : VK), f x y R → Dv N H v x → Dv N H u y → FreshB N H → (Sy.m = true → N sysModules) → N.K = X.K → (Sy.y = false → ∀ p, H p = none → ¬ N p) →
  (∀ d z H', R d → Same H H' → Dv N H' z d → Q z H') → r v u H Q
theorem d_op {r : R2} {f : PyData → PyData → RD → Prop} (h : PE X e (tOp r (LE Sy X E ta) (LE Sy X E tb))) (o : OpD Sy X r f) : PE X e (LE Sy X E (dOp f ta tb)) := h.weak fun σ H Q ⟨w, N, O, F, ρ, R, Ex, en, t, q, qx⟩ => by
  refine ⟨w, N, O, F, ρ, _, Ex, en, t, fun x v H1 r1 k1 dx => ?_, qx⟩
  have en1 := en.step k1
  refine ⟨w, N, O, F, ρ, _, Ex, en1, r1, fun y u H2 r2 k2 dy => ?_, fun x cls dx H' hx k hh => qx x cls dx H' hx (k1.trans k) hh⟩
  have en2 := en1.step k2
  exact o N H2 v u x y R Q r2 (dv_step dx en.hw k2) dy en2.ok.fr en2.ok.sn en2.ok.kk en2.ok.sl fun d z H' hr s dz => q d z H' hr ((k1.trans k2).trans (.of s)) dz
def UnD (Sy : Md) (X : Cx) (r : V → Hp → VK → Prop) (f : PyData → RD → Prop) : Prop := ∀ (N : Bn) (H : Hp) (v : V) (x : PyData) (R : RD) (Q : VK), f x R → Dv N H v x → FreshB N H → (Sy.m = true → N sysModules) → N.K = X.K → (Sy.y = false → ∀ p, H p = none → ¬ N p) →
  (∀ d z H', R d → Same H H' → Dv N H' z d → Q z H') → r v H Q
theorem d_un {r : V → Hp → VK → Prop} {f : PyData → RD → Prop} (h : PE X e (tUn r (LE Sy X E ta))) (o : UnD Sy X r f) : PE X e (LE Sy X E (dUn f ta)) := h.weak fun σ H Q ⟨w, N, O, F, ρ, R, Ex, en, t, q, qx⟩ => by
  refine ⟨w, N, O, F, ρ, _, Ex, en, t, fun x v H1 r1 k1 dx => ?_, qx⟩
  have en1 := en.step k1
  exact o N H1 v x R Q r1 dx en1.ok.fr en1.ok.sn en1.ok.kk en1.ok.sl fun d z H' hr s dz => q d z H' hr (k1.trans (.of s)) dz
theorem da_nil : PA X [] (LA Sy X E 0 dNil) := pa_nil.weak fun σ H Q ⟨w, N, O, F, ρ, R, Ex, en, t, q, qx⟩ => q [] [] H rfl t (.refl _ _) trivial
theorem da_cons (h : PE X e (LE Sy X E ta)) (r : PA X es (LA Sy X E n tr)) (hs : starEach (e :: es) X.env = (false, eval e X.env) :: starEach es X.env := by rfl) : PA X (e :: es) (LA Sy X E (n + 1) (dCons ta tr)) :=
  (pa_cons h r hs).weak fun σ H Q ⟨w, N, O, F, ρ, R, Ex, en, t, q, qx⟩ => by
    refine ⟨w, N, O, F, ρ, _, Ex, en, t, fun x v H1 r1 k1 dx => ?_, qx⟩
    refine ⟨w, N, O, F, ρ, _, Ex, en.step k1, r1, fun us vs H2 hl r2 k2 hv => ?_, fun x cls dx H' hx k hh => qx x cls dx H' hx (k1.trans k) hh⟩
    exact q (.dat x :: us) (v :: vs) H2 (by simp [hl]) r2 (k1.trans k2) ⟨dv_step dx en.hw k2, hv⟩
theorem da_well (h : PE X e (tVar i)) (r : PA X es (LA Sy X E n tr)) (hs : starEach (e :: es) X.env = (false, eval e X.env) :: starEach es X.env := by rfl) : PA X (e :: es) (LA Sy X E (n + 1) (dConsW i tr)) :=
  (pa_cons h r hs).weak fun σ H Q ⟨w, N, O, F, ρ, R, Ex, en, t, q, qx⟩ => by
    unfold dConsW at t
    split at t
    · rename_i hd
      obtain ⟨v, h1, p, hp, rfl⟩ := en.slot i _ hd
      refine ⟨_, h1, w, N, O, F, ρ, _, Ex, en, t, fun us vs H2 hl r2 k2 hv => ?_, qx⟩
      exact q (.well :: us) (.ref p :: vs) H2 (by simp [hl]) r2 k2 ⟨⟨p, hp, rfl⟩, hv⟩
    · exact t.elim
theorem d_tup {x1} (h : PA X es (LA Sy X E n tr)) (hn : n ≤ 1000 := by decide) : PE X (.Tuple es x1 pos) (LE Sy X E (dTup tr)) := (pe_tup h).weak fun σ H Q ⟨w, N, O, F, ρ, R, Ex, en, t, q, qx⟩ => by
  refine ⟨w, N, O, F, ρ, _, Ex, en, t, fun us vs H1 hl r1 k1 hv => ?_, qx⟩
  split at r1
  · rename_i ds hd
    obtain ⟨all, l2⟩ := dats_all hv hd
    have l3 := all.length
    refine ⟨by rw [sizeLine_eq]; omega, fun p hp => ?_⟩
    have s := same_new hp (.tup vs)
    exact q _ _ _ r1 (k1.trans (.of s)) (.tup (.of upd_same) (all.same s))
  · exact r1.elim
theorem d_lst (h : PA X es (LA Sy X E n tr)) (hn : n ≤ 1000 := by decide) : PE X (.List es pos) (LE Sy X E (dLst tr)) := (pe_list h).weak fun σ H Q ⟨w, N, O, F, ρ, R, Ex, en, t, q, qx⟩ => by
  refine ⟨w, N, O, F, ρ, _, Ex, en, t, fun us vs H1 hl r1 k1 hv => ?_, qx⟩
  split at r1
  · rename_i ds hd
    obtain ⟨all, l2⟩ := dats_all hv hd
    have l3 := all.length
    refine ⟨by rw [sizeLine_eq]; omega, fun p hp np => ?_⟩
    have s := same_new hp (.lst vs)
    exact q _ _ _ r1 (k1.trans (.of s)) (.lst ((en.step k1).ok.fr p hp np) upd_same (all.same s))
  · exact r1.elim
def CallD (Sy : Md) (X : Cx) (r : List V → Hp → VK → Prop) (f : List PyData → RD → Prop) : Prop := ∀ (N : Bn) (H : Hp) (vs : List V) (ds : List PyData) (R : RD) (Q : VK), f ds R → DvAll N H vs ds → FreshB N H → (Sy.m = true → N sysModules) → N.K = X.K → (Sy.y = false → ∀ p, H p = none → ¬ N p) →
  (∀ d z H', R d → Same H H' → Dv N H' z d → Q z H') → r vs H Q
theorem d_cb {r : List V → Hp → VK → Prop} {f : List PyData → RD → Prop} (h : PE X e (tCB r (LA Sy X E n tr))) (o : CallD Sy X r f) : PE X e (LE Sy X E (dCB f tr)) := h.weak fun σ H Q ⟨w, N, O, F, ρ, R, Ex, en, t, q, qx⟩ => by
  refine ⟨w, N, O, F, ρ, _, Ex, en, t, fun us vs H1 hl r1 k1 hv => ?_, qx⟩
  have en1 := en.step k1
  split at r1
  · rename_i ds hd
    exact o N H1 vs ds R Q r1 (dats_all hv hd).1 en1.ok.fr en1.ok.sn en1.ok.kk en1.ok.sl fun d z H' hr s dz => q d z H' hr (k1.trans (.of s)) dz
  · exact r1.elim
/-- isinstance(x, a built-in class) -/
theorem d_isi {T : String} {f : PyData → Bool} (h : PE X e (tCB (rIsD T f X.K) (tCons (LE Sy X E ta) (tCons (tC (.ty T)) tNil)))) : PE X e (LE Sy X E (dUn (fun d R => R (.bool (f d))) ta)) := h.weak fun σ H Q ⟨w, N, O, F, ρ, R, Ex, en, t, q, qx⟩ => by
  refine ⟨w, N, O, F, ρ, _, Ex, en, t, fun x v H1 r1 k1 dx => ?_, qx⟩
  exact ⟨N, v, x, en.ok.kk, rfl, dx, q _ _ H1 r1 k1 (.bl _)⟩
/-! ### calls of defs -/
/-- the promise of a def by data -/
def spF (base : Gnd) (mg : Str → Option Value) (n : Nat) (t : TF) : Sp := fun vs H Q E => ∃ (w : Wx) (N : Bn) (us : List Sv) (R : RD) (Ex : XD), us.length = n ∧ SvsR w N H vs us ∧ WlOk base w N H ∧ t us R Ex ∧
  (∀ d v H', R d → Stp w H H' → Dv N H' v d → Q v H') ∧ (∀ x cls dx H', Ex x → Stp w H H' → ExAt mg N H' cls dx x → E cls dx H')
theorem spF.len {base : Gnd} {mg : Str → Option Value} {n : Nat} {t : TF} {vs : List V} {H : Hp} {Q : VK} {E : XK} (h : spF base mg n t vs H Q E) : vs.length = n := by
  obtain ⟨w, N, us, R, Ex, hl, hv, _⟩ := h
  rw [hv.length, hl]
theorem d_call {tf : TF} (h : PE X e (fun σ H Q => LA Sy X E n tr σ H fun vs H1 => spF (gnd Sy X) X.mg n tf vs H1 Q (E σ))) : PE X e (LE Sy X E (dCall tf tr)) := h.weak fun σ H Q ⟨w, N, O, F, ρ, R, Ex, en, t, q, qx⟩ => by
  refine ⟨w, N, O, F, ρ, _, Ex, en, t, fun us vs H1 hl r1 k1 hv => ?_, qx⟩
  exact ⟨w, N, us, R, Ex, hl, hv, (en.step k1).ok, r1, fun d v H' hr k dv => q d v H' hr (k1.trans k) dv, fun x cls dx H' hx k hh => qx x cls dx H' hx (k1.trans k) hh⟩
/-! ### tests -/
def truK (d : PyData) (R : Bool → Prop) : Prop := match d with
  | .bool b => R b
  | .none => R false
  | .int i => R (i != 0)
  | .list ds => R (!ds.isEmpty)
  | .tuple ds => R (!ds.isEmpty)
  | .str y => y.length ≤ sizeLine ∧ R ((y.length : Int) != 0)
  | .dict [] => R false
  | _ => False
def dTst (t : TD) : TTD := fun ρ R Ex => t ρ (fun d => truK d R) Ex
def dCmp (f : PyData → PyData → (Bool → Prop) → Prop) (ta tb : TD) : TTD := fun ρ R Ex => ta ρ (fun x => tb ρ (fun y => f x y R) Ex) Ex
def dCmpV (f : PyData → PyData → (Bool → Prop) → Prop) (ta tb : TD) : TD := fun ρ R Ex => ta ρ (fun x => tb ρ (fun y => f x y fun b => R (.bool b)) Ex) Ex
def dNot (t : TTD) : TTD := fun ρ R Ex => t ρ (fun b => R (!b)) Ex
def dAnd (t u : TTD) : TTD := fun ρ R Ex => t ρ (fun b => if b = true then u ρ R Ex else R false) Ex
def dOr (t u : TTD) : TTD := fun ρ R Ex => t ρ (fun b => if b = true then R true else u ρ R Ex) Ex
theorem _root_.L2.PT.weak {X : Cx} {e : Expr} {t t' : TT} (h : PT X e t) (i : ∀ σ H Q, t' σ H Q → t σ H Q) : PT X e t' := ⟨fun pins s σ H Q I q => h.run pins s σ H Q I (i σ H Q q)⟩
theorem _root_.L2.PW.weak {X : Cx} {e : Expr} {t t' : TT} (h : PW X e t) (i : ∀ σ H Q, t' σ H Q → t σ H Q) : PW X e t' := ⟨fun wh pins s σ H Q I q => h.run wh pins s σ H Q I (i σ H Q q)⟩
theorem dvs_empty {N : Bn} {H : Hp} {xs : List V} {ds : List PyData} (h : DvAll N H xs ds) : (!xs.isEmpty) = (!ds.isEmpty) := by cases h <;> rfl
theorem tru_dv {K : PySem.W.Frag} {N : Bn} {H : Hp} {v : V} {d : PyData} {R : Bool → Prop} (hK : N.K = K) (h : Dv N H v d) (r : truK d R) : ∃ k, TruV K v H k ∧ R k := by
  cases h with
  | non => exact ⟨false, rfl, r⟩
  | bl b => exact ⟨b, rfl, r⟩
  | int z => exact ⟨_, rfl, r⟩
  | str z => exact ⟨_, ⟨r.1, rfl⟩, r.2⟩
  | lst nn ea all => exact ⟨_, .inl ⟨_, .of ea, rfl⟩, by rw [dvs_empty all]; exact r⟩
  | tup ea all => exact ⟨_, .inr (.inl ⟨_, hK ▸ ea.sq, rfl⟩), by rw [dvs_empty all]; exact r⟩
  | dct nn ea => exact ⟨_, .inr (.inr ⟨_, ea, rfl⟩), r⟩
theorem dt_val (h : PT X e (fun σ H Q => LE Sy X E ta σ H fun x H' => ∃ k, TruV X.K x H' k ∧ Q k H')) : PT X e (LT Sy X E (dTst ta)) := h.weak fun σ H Q ⟨w, N, O, F, ρ, R, Ex, en, t, q, qx⟩ => by
  refine ⟨w, N, O, F, ρ, _, Ex, en, t, fun x v H1 r1 k1 dx => ?_, qx⟩
  obtain ⟨k, t1, r⟩ := tru_dv en.ok.kk dx r1
  exact ⟨k, t1, q _ _ r k1⟩
/-- a comparison: no thing is made -/
def CmpD (X : Cx) (r : R2) (f : PyData → PyData → (Bool → Prop) → Prop) : Prop := ∀ (N : Bn) (H : Hp) (v u : V) (x y : PyData) (R : Bool → Prop) (Q : VK), f x y R → Dv N H v x → Dv N H u y → N.K = X.K → (∀ b, R b → Q (.bl b) H) → r v u H Q
theorem dt_cmp {r : R2} {f : PyData → PyData → (Bool → Prop) → Prop} (h : PT X e (tTest (tOp r (LE Sy X E ta) (LE Sy X E tb)))) (o : CmpD X r f) : PT X e (LT Sy X E (dCmp f ta tb)) := h.weak fun σ H Q ⟨w, N, O, F, ρ, R, Ex, en, t, q, qx⟩ => by
  refine ⟨w, N, O, F, ρ, _, Ex, en, t, fun x v H1 r1 k1 dx => ?_, qx⟩
  have en1 := en.step k1
  refine ⟨w, N, O, F, ρ, _, Ex, en1, r1, fun y u H2 r2 k2 dy => ?_, fun x cls dx H' hx k hh => qx x cls dx H' hx (k1.trans k) hh⟩
  have en2 := en1.step k2
  exact o N H2 v u x y _ _ r2 (dv_step dx en.hw k2) dy en2.ok.kk fun b hb => ⟨b, rfl, q b H2 hb (k1.trans k2)⟩
theorem d_cmp {r : R2} {f : PyData → PyData → (Bool → Prop) → Prop} (h : PE X e (tOp r (LE Sy X E ta) (LE Sy X E tb))) (o : CmpD X r f) : PE X e (LE Sy X E (dCmpV f ta tb)) := h.weak fun σ H Q ⟨w, N, O, F, ρ, R, Ex, en, t, q, qx⟩ => by
  refine ⟨w, N, O, F, ρ, _, Ex, en, t, fun x v H1 r1 k1 dx => ?_, qx⟩
  have en1 := en.step k1
  refine ⟨w, N, O, F, ρ, _, Ex, en1, r1, fun y u H2 r2 k2 dy => ?_, fun x cls dx H' hx k hh => qx x cls dx H' hx (k1.trans k) hh⟩
  have en2 := en1.step k2
  exact o N H2 v u x y _ _ r2 (dv_step dx en.hw k2) dy en2.ok.kk fun b hb => q _ _ H2 hb (k1.trans k2) (.bl b)
/-- a < b < c -/
def dChain (f g : PyData → PyData → (Bool → Prop) → Prop) (ta tb tc : TD) : TD := fun ρ R Ex => ta ρ (fun x => tb ρ (fun y => f x y fun b => if b = true then tc ρ (fun z => g y z fun b => R (.bool b)) Ex else R (.bool false)) Ex) Ex
theorem d_chain {r r' : R2} {f g : PyData → PyData → (Bool → Prop) → Prop} {tc : TD} (h : PE X e (tChain r r' (LE Sy X E ta) (LE Sy X E tb) (LE Sy X E tc))) (o : CmpD X r f) (o' : CmpD X r' g) : PE X e (LE Sy X E (dChain f g ta tb tc)) := h.weak fun σ H Q ⟨w, N, O, F, ρ, R, Ex, en, t, q, qx⟩ => by
  refine ⟨w, N, O, F, ρ, _, Ex, en, t, fun x v H1 r1 k1 dx => ?_, qx⟩
  have en1 := en.step k1
  refine ⟨w, N, O, F, ρ, _, Ex, en1, r1, fun y u H2 r2 k2 dy => ?_, fun x cls dx H' hx k hh => qx x cls dx H' hx (k1.trans k) hh⟩
  have en2 := en1.step k2
  refine o N H2 v u x y _ _ r2 (dv_step dx en.hw k2) dy en2.ok.kk fun b hb => ⟨b, rfl, ?_⟩
  cases b with
  | false => exact q _ _ H2 hb (k1.trans k2) (.bl false)
  | true =>
    refine ⟨w, N, O, F, ρ, _, Ex, en2, hb, fun z s H3 r3 k3 dz => ?_, fun x cls dx H' hx k hh => qx x cls dx H' hx ((k1.trans k2).trans k) hh⟩
    exact o' N H3 u s y z _ _ r3 (dv_step dy en.hw k3) dz en2.ok.kk fun b hb => q _ _ H3 hb ((k1.trans k2).trans k3) (.bl b)
theorem dt_not {t : TTD} (h : PT X e (tNot (LT Sy X E t))) : PT X e (LT Sy X E (dNot t)) := h.weak fun σ H Q ⟨w, N, O, F, ρ, R, Ex, en, t, q, qx⟩ =>
  ⟨w, N, O, F, ρ, _, Ex, en, t, fun b H' r k => q _ _ r k, qx⟩
theorem dw_and {t u : TTD} (h : PW X e (tAnd (LT Sy X E t) (LT Sy X E u))) : PW X e (LT Sy X E (dAnd t u)) := h.weak fun σ H Q ⟨w, N, O, F, ρ, R, Ex, en, t, q, qx⟩ => by
  refine ⟨w, N, O, F, ρ, _, Ex, en, t, fun b H1 r k => ?_, qx⟩
  cases b with
  | false => exact q _ _ r k
  | true => exact ⟨w, N, O, F, ρ, _, Ex, en.step k, r, fun b H2 r2 k2 => q _ _ r2 (k.trans k2), fun x cls dx H' hx k2 hh => qx x cls dx H' hx (k.trans k2) hh⟩
theorem dw_or {t u : TTD} (h : PW X e (tOr (LT Sy X E t) (LT Sy X E u))) : PW X e (LT Sy X E (dOr t u)) := h.weak fun σ H Q ⟨w, N, O, F, ρ, R, Ex, en, t, q, qx⟩ => by
  refine ⟨w, N, O, F, ρ, _, Ex, en, t, fun b H1 r k => ?_, qx⟩
  cases b with
  | true => exact q _ _ r k
  | false => exact ⟨w, N, O, F, ρ, _, Ex, en.step k, r, fun b H2 r2 k2 => q _ _ r2 (k.trans k2), fun x cls dx H' hx k2 hh => qx x cls dx H' hx (k.trans k2) hh⟩
theorem d_if (h : PE X e (tIf (LT Sy X E tc) (LE Sy X E ta) (LE Sy X E tb))) : PE X e (LE Sy X E (dIf tc ta tb)) := h.weak fun σ H Q ⟨w, N, O, F, ρ, R, Ex, en, t, q, qx⟩ => by
  refine ⟨w, N, O, F, ρ, _, Ex, en, t, fun b H1 r k => ?_, qx⟩
  cases b with
  | true => exact ⟨w, N, O, F, ρ, _, Ex, en.step k, r, fun b v H2 r2 k2 => q _ _ _ r2 (k.trans k2), fun x cls dx H' hx k2 hh => qx x cls dx H' hx (k.trans k2) hh⟩
  | false => exact ⟨w, N, O, F, ρ, _, Ex, en.step k, r, fun b v H2 r2 k2 => q _ _ _ r2 (k.trans k2), fun x cls dx H' hx k2 hh => qx x cls dx H' hx (k.trans k2) hh⟩
/-! and, or, not as values -/
def dAndV (ta tb : TD) : TD := fun ρ R Ex => ta ρ (fun x => truK x fun b => if b = true then tb ρ R Ex else R x) Ex
def dOrV (ta tb : TD) : TD := fun ρ R Ex => ta ρ (fun x => truK x fun b => if b = true then R x else tb ρ R Ex) Ex
theorem d_andV (h : PE X e (tAndT X.K (LE Sy X E ta) (LE Sy X E tb))) : PE X e (LE Sy X E (dAndV ta tb)) := h.weak fun σ H Q ⟨w, N, O, F, ρ, R, Ex, en, t, q, qx⟩ => by
  refine ⟨w, N, O, F, ρ, _, Ex, en, t, fun x v H1 r k dx => ?_, qx⟩
  obtain ⟨b, t1, r⟩ := tru_dv en.ok.kk dx r
  refine ⟨b, t1, ?_⟩
  cases b with
  | false => exact q _ _ _ r k dx
  | true => exact ⟨w, N, O, F, ρ, _, Ex, en.step k, r, fun b v H2 r2 k2 => q _ _ _ r2 (k.trans k2), fun x cls dx H' hx k2 hh => qx x cls dx H' hx (k.trans k2) hh⟩
theorem d_orV (h : PE X e (tOrT X.K (LE Sy X E ta) (LE Sy X E tb))) : PE X e (LE Sy X E (dOrV ta tb)) := h.weak fun σ H Q ⟨w, N, O, F, ρ, R, Ex, en, t, q, qx⟩ => by
  refine ⟨w, N, O, F, ρ, _, Ex, en, t, fun x v H1 r k dx => ?_, qx⟩
  obtain ⟨b, t1, r⟩ := tru_dv en.ok.kk dx r
  refine ⟨b, t1, ?_⟩
  cases b with
  | true => exact q _ _ _ r k dx
  | false => exact ⟨w, N, O, F, ρ, _, Ex, en.step k, r, fun b v H2 r2 k2 => q _ _ _ r2 (k.trans k2), fun x cls dx H' hx k2 hh => qx x cls dx H' hx (k.trans k2) hh⟩
theorem d_notV (h : PE X e (tNotT X.K (LE Sy X E ta))) : PE X e (LE Sy X E (dUn (fun x R => truK x fun b => R (.bool (!b))) ta)) := h.weak fun σ H Q ⟨w, N, O, F, ρ, R, Ex, en, t, q, qx⟩ => by
  refine ⟨w, N, O, F, ρ, _, Ex, en, t, fun x v H1 r k dx => ?_, qx⟩
  obtain ⟨b, t1, r⟩ := tru_dv en.ok.kk dx r
  exact ⟨b, t1, q _ _ _ r k (.bl _)⟩
end
end Ld

namespace Ld
open PySem PySem.Spec PyProof.Rows L2 Lw

/-! ### statements by data -/
structure EndsD where
  nx : Env → Prop
  rt : RD
  bk : Env → Prop := fun _ => False
  ct : Env → Prop := fun _ => False
  ex : Env → XD := fun _ _ => False
abbrev TSD := EndsD → Env → Prop
abbrev Keep := List (V × PyData)
/-- the env, over the def's entry (w, N0, H0) -/
structure EnvB (base : Gnd) (w : Wx) (N0 : Bn) (H0 : Hp) (N : Bn) (O : Nat → Option Addr) (F : Keep) (H : Hp) (σ : L2.St) (ρ : Env) : Prop where
  e : EnvR base w N O F H σ ρ
  st : Stp w H0 H
  sub : ∀ b, N0 b → N b
  new : ∀ i a, O i = some a → (∀ u, H0 a = some u → w.T ≠ [] ∧ ∃ ps, u = HO.tbl ps) ∧ a ≠ sysModules ∧ ¬ N0 a
  fr0 : FreshB N0 H0
  k0 : N0.K = base.K
section
variable {base : Gnd} {w : Wx} {N0 N : Bn} {O : Nat → Option Addr} {F : Keep} {H0 H H' : Hp} {σ : L2.St} {ρ : Env}
theorem EnvB.step (b : EnvB base w N0 H0 N O F H σ ρ) (k : Stp w H H') : EnvB base w N0 H0 N O F H' σ ρ := ⟨b.e.step k, b.st.trans k, b.sub, b.new, b.fr0, b.k0⟩
theorem EnvB.put (b : EnvB base w N0 H0 N O F H σ ρ) (i : Nat) {v : V} {d : PyData} (h : Dv N H v d) : EnvB base w N0 H0 N (fun j => if j = i then none else O j) F H (σ.set i (some v)) (putD ρ i (some (.dat d))) :=
  ⟨b.e.put i h, b.st, b.sub, fun j a z => by
    split at z
    · cases z
    · exact b.new j a z, b.fr0, b.k0⟩
theorem EnvB.less {G : Keep} (b : EnvB base w N0 H0 N O F H σ ρ) (h : ∀ p ∈ G, Dv N H p.1 p.2) : EnvB base w N0 H0 N O (G ++ F) H σ ρ :=
  ⟨⟨b.e.ok, b.e.len, b.e.slot, b.e.inj, b.e.ow, fun p hp => (List.mem_append.mp hp).elim (h p) (b.e.kept p)⟩, b.st, b.sub, b.new, b.fr0, b.k0⟩
theorem EnvB.drop {G : Keep} (b : EnvB base w N0 H0 N O (G ++ F) H σ ρ) : EnvB base w N0 H0 N O F H σ ρ :=
  ⟨⟨b.e.ok, b.e.len, b.e.slot, b.e.inj, b.e.ow, fun p hp => b.e.kept p (List.mem_append_right _ hp)⟩, b.st, b.sub, b.new, b.fr0, b.k0⟩
end
/-- what is wanted behind, by data -/
structure DnOk (Sy : Md) (X : Cx) (E : L2.St → XK) (w : Wx) (N0 : Bn) (H0 : Hp) (F : Keep) (D : Ends) (DD : EndsD) : Prop where
  nx : ∀ N O H σ ρ, DD.nx ρ → EnvB (gnd Sy X) w N0 H0 N O F H σ ρ → D.nx σ H
  rt : ∀ d v H, DD.rt d → Stp w H0 H → Dv N0 H v d → D.rt v H
  bk : ∀ N O H σ ρ, DD.bk ρ → EnvB (gnd Sy X) w N0 H0 N O F H σ ρ → D.bk σ H
  ct : ∀ N O H σ ρ, DD.ct ρ → EnvB (gnd Sy X) w N0 H0 N O F H σ ρ → D.ct σ H
  ex : ∀ N O H σ ρ x cls dx, DD.ex ρ x → EnvB (gnd Sy X) w N0 H0 N O F H σ ρ → ExAt X.mg N H cls dx x → E σ cls dx H
def LS (Sy : Md) (X : Cx) (E : L2.St → XK) (t : TSD) : TS := fun D σ H => ∃ (w : Wx) (N0 : Bn) (H0 : Hp) (N : Bn) (O : Nat → Option Addr) (F : Keep) (ρ : Env) (DD : EndsD),
  EnvB (gnd Sy X) w N0 H0 N O F H σ ρ ∧ t DD ρ ∧ DnOk Sy X E w N0 H0 F D DD
/-! combinators -/
def sSeq (t u : TSD) : TSD := fun D ρ => t { D with nx := u D } ρ
def sNx : TSD := fun D ρ => D.nx ρ
def sSet (i : Nat) (t : TD) : TSD := fun D ρ => t ρ (fun d => D.nx (putD ρ i (some (.dat d)))) (D.ex ρ)
def sRet (t : TD) : TSD := fun D ρ => t ρ D.rt (D.ex ρ)
def sRetN : TSD := fun D _ => D.rt .none
def sIf (c : TTD) (t u : TSD) : TSD := fun D ρ => c ρ (fun b => if b = true then t D ρ else u D ρ) (D.ex ρ)
def sExpr (t : TD) : TSD := fun D ρ => t ρ (fun _ => D.nx ρ) (D.ex ρ)
def sBrk : TSD := fun D ρ => D.bk ρ
def sCont : TSD := fun D ρ => D.ct ρ
def sPar (i j : Nat) (ta : TAD) : TSD := fun D ρ => ta ρ (fun us => match us with
  | [.dat a, .dat b] => D.nx (putD (putD ρ i (some (.dat a))) j (some (.dat b)))
  | _ => False) (D.ex ρ)
def sPar3 (i j l : Nat) (ta : TAD) : TSD := fun D ρ => ta ρ (fun us => match us with
  | [.dat a, .dat b, .dat c] => D.nx (putD (putD (putD ρ i (some (.dat a))) j (some (.dat b))) l (some (.dat c)))
  | _ => False) (D.ex ρ)
/-- targets -/
abbrev GD := PyData → Env → (Env → Prop) → Prop
abbrev GsD := List PyData → Env → (Env → Prop) → Prop
def gdN (i : Nat) : GD := fun d ρ K => K (putD ρ i (some (.dat d)))
def lenK : List PyData → Nat → Prop → Prop
  | [], 0, P => P
  | _ :: r, n + 1, P => lenK r n P
  | _, _, _ => False
theorem lenK_of : ∀ {ds : List PyData} {n : Nat} {P : Prop}, lenK ds n P → ds.length = n ∧ P
  | [], 0, _, h => ⟨rfl, h⟩
  | _ :: r, n + 1, P, h => by
    obtain ⟨a, b⟩ := lenK_of (ds := r) h
    exact ⟨by simp [a], b⟩
  | [], _ + 1, _, h => h.elim
  | _ :: _, 0, _, h => h.elim
def gdT (n : Nat) (gs : GsD) : GD := fun d ρ K => match d with
  | .tuple ds => lenK ds n (gs ds ρ K)
  | _ => False
def gdNil : GsD := fun ds ρ K => match ds with
  | [] => K ρ
  | _ => False
def gdCons (g : GD) (gs : GsD) : GsD := fun ds ρ K => match ds with
  | d :: r => g d ρ (fun ρ' => gs r ρ' K)
  | _ => False
def sAsg (t : TD) (g : GD) : TSD := fun D ρ => t ρ (fun d => g d ρ D.nx) (D.ex ρ)
def whileD (c : TTD) (tb : TSD) (D : EndsD) : Nat → Env → Prop
  | 0, _ => False
  | n + 1, ρ => c ρ (fun b => if b = true then tb { D with nx := whileD c tb D n, ct := whileD c tb D n, bk := D.nx } ρ else D.nx ρ) (D.ex ρ)
def sWhile (c : TTD) (tb : TSD) : TSD := fun D ρ => ∃ n, whileD c tb D n ρ
abbrev ID := Env → (List PyData → Prop) → XD → Prop
def forD (g : GD) (tb : TSD) (D : EndsD) : List PyData → Env → Prop
  | [], ρ => D.nx ρ
  | d :: r, ρ => g d ρ (fun ρ1 => tb { D with nx := forD g tb D r, ct := forD g tb D r, bk := D.nx } ρ1)
def sFor (ti : ID) (g : GD) (tb : TSD) : TSD := fun D ρ => ti ρ (fun ds => forD g tb D ds ρ) (D.ex ρ)
theorem _root_.L2.PS.weak {X : Cx} {e : Stmt} {t t' : TS} (h : PS X e t) (i : ∀ D σ H, t' D σ H → t D σ H) : PS X e t' := ⟨fun pins s σ H D I q => h.run pins s σ H D I (i D σ H q)⟩
theorem _root_.L2.PSs.weak {X : Cx} {e : List Stmt} {t t' : TS} (h : PSs X e t) (i : ∀ D σ H, t' D σ H → t D σ H) : PSs X e t' := ⟨fun pins s σ H D I q => h.run pins s σ H D I (i D σ H q)⟩
section
variable {Sy : Md} {X : Cx} {E : L2.St → XK} {st : Stmt} {sts : List Stmt} {pos : Pos} {i j l n : Nat} {t u : TSD} {te : TD} {tc : TTD} {tr : TAD}
/-- an expression within a statement -/
theorem le_in {w : Wx} {N0 : Bn} {H0 : Hp} {N : Bn} {O : Nat → Option Addr} {F : Keep} {ρ : Env} {σ : L2.St} {H : Hp} {R : RD} {Q : VK} {D : Ends} {DD : EndsD} (b : EnvB (gnd Sy X) w N0 H0 N O F H σ ρ) (k : DnOk Sy X E w N0 H0 F D DD) (h : te ρ R (DD.ex ρ))
    (q : ∀ d v H', R d → EnvB (gnd Sy X) w N0 H0 N O F H' σ ρ → Dv N H' v d → Q v H') : LE Sy X E te σ H Q :=
  ⟨w, N, O, F, ρ, R, _, b.e, h, fun d v H' r s dv => q d v H' r (b.step s) dv, fun x cls dx H' hx s hh => k.ex N O H' σ ρ x cls dx hx (b.step s) hh⟩
theorem lt_in {w : Wx} {N0 : Bn} {H0 : Hp} {N : Bn} {O : Nat → Option Addr} {F : Keep} {ρ : Env} {σ : L2.St} {H : Hp} {R : Bool → Prop} {Q : Bool → Hp → Prop} {D : Ends} {DD : EndsD} (b : EnvB (gnd Sy X) w N0 H0 N O F H σ ρ) (k : DnOk Sy X E w N0 H0 F D DD) (h : tc ρ R (DD.ex ρ))
    (q : ∀ c H', R c → EnvB (gnd Sy X) w N0 H0 N O F H' σ ρ → Q c H') : LT Sy X E tc σ H Q :=
  ⟨w, N, O, F, ρ, R, _, b.e, h, fun c H' r s => q c H' r (b.step s), fun x cls dx H' hx s hh => k.ex N O H' σ ρ x cls dx hx (b.step s) hh⟩
theorem la_in {w : Wx} {N0 : Bn} {H0 : Hp} {N : Bn} {O : Nat → Option Addr} {F : Keep} {ρ : Env} {σ : L2.St} {H : Hp} {R : List Sv → Prop} {Q : List V → Hp → Prop} {D : Ends} {DD : EndsD} (b : EnvB (gnd Sy X) w N0 H0 N O F H σ ρ) (k : DnOk Sy X E w N0 H0 F D DD) (h : tr ρ R (DD.ex ρ))
    (q : ∀ us vs H', us.length = n → R us → EnvB (gnd Sy X) w N0 H0 N O F H' σ ρ → SvsR w N H' vs us → Q vs H') : LA Sy X E n tr σ H Q :=
  ⟨w, N, O, F, ρ, R, _, b.e, h, fun us vs H' hl r s dv => q us vs H' hl r (b.step s) dv, fun x cls dx H' hx s hh => k.ex N O H' σ ρ x cls dx hx (b.step s) hh⟩
theorem ds_cons (h1 : PS X st (LS Sy X E t)) (h2 : PSs X sts (LS Sy X E u)) : PSs X (st :: sts) (LS Sy X E (sSeq t u)) := (pss_cons h1 h2).weak fun D σ H ⟨w, N0, H0, N, O, F, ρ, DD, b, h, k⟩ =>
  ⟨w, N0, H0, N, O, F, ρ, { DD with nx := u DD }, b, h, ⟨fun N O H σ ρ hn b => ⟨w, N0, H0, N, O, F, ρ, DD, b, hn, k⟩, k.rt, k.bk, k.ct, k.ex⟩⟩
theorem ds_one (h1 : PS X st (LS Sy X E t)) : PSs X [st] (LS Sy X E t) := pss_one h1
theorem ds_nil : PSs X [] (LS Sy X E sNx) := pss_nil.weak fun D σ H ⟨w, N0, H0, N, O, F, ρ, DD, b, h, k⟩ => k.nx N O H σ ρ h b
theorem ds_set (h : PS X st (tAsg (LE Sy X E te) (gName i))) : PS X st (LS Sy X E (sSet i te)) := h.weak fun D σ H ⟨w, N0, H0, N, O, F, ρ, DD, b, h, k⟩ =>
  le_in b k h fun d v H' r b' dv => k.nx _ _ H' _ _ r (b'.put i dv)
theorem ds_ret (h : PS X st (tRet (LE Sy X E te))) : PS X st (LS Sy X E (sRet te)) := h.weak fun D σ H ⟨w, N0, H0, N, O, F, ρ, DD, b, h, k⟩ =>
  le_in b k h fun d v H' r b' dv => k.rt d v H' r b'.st (dv.less (b'.k0.trans b'.e.ok.kk.symm) b'.sub)
theorem ds_retN (h : PS X st tRetN) : PS X st (LS Sy X E sRetN) := h.weak fun D σ H ⟨w, N0, H0, N, O, F, ρ, DD, b, h, k⟩ => k.rt .none .non H h b.st .non
theorem ds_if (h : PS X st (tIfS (LT Sy X E tc) (LS Sy X E t) (LS Sy X E u))) : PS X st (LS Sy X E (sIf tc t u)) := h.weak fun D σ H ⟨w, N0, H0, N, O, F, ρ, DD, b, h, k⟩ =>
  lt_in b k h fun c H' r b' => by
    cases c with
    | true => exact ⟨w, N0, H0, N, O, F, ρ, DD, b', r, k⟩
    | false => exact ⟨w, N0, H0, N, O, F, ρ, DD, b', r, k⟩
theorem ds_expr (h : PS X st (tDrop (LE Sy X E te))) : PS X st (LS Sy X E (sExpr te)) := h.weak fun D σ H ⟨w, N0, H0, N, O, F, ρ, DD, b, h, k⟩ =>
  le_in b k h fun d v H' r b' dv => k.nx N O H' σ ρ r b'
theorem ds_brk (h : PS X st tBreak) : PS X st (LS Sy X E sBrk) := h.weak fun D σ H ⟨w, N0, H0, N, O, F, ρ, DD, b, h, k⟩ => k.bk N O H σ ρ h b
theorem ds_cont (h : PS X st tCont) : PS X st (LS Sy X E sCont) := h.weak fun D σ H ⟨w, N0, H0, N, O, F, ρ, DD, b, h, k⟩ => k.ct N O H σ ρ h b
theorem ds_par (h : PS X st (tPar i j (LA Sy X E n tr))) : PS X st (LS Sy X E (sPar i j tr)) := h.weak fun D σ H ⟨w, N0, H0, N, O, F, ρ, DD, b, h, k⟩ =>
  la_in b k h fun us vs H' hl r b' hv => by
    match us, vs, r, hv with
    | [.dat a, .dat c], [v, u], r, hv =>
      exact ⟨v, u, rfl, k.nx _ _ H' _ _ r ((b'.put i hv.1).put j hv.2.1)⟩
end
/-- a target's reading by data; vs: the slots it may fill -/
structure GOk (K0 : PySem.W.Frag) (g : TG) (gd : GD) (sl : List Nat) : Prop where
  run : ∀ (base : Gnd) (w : Wx) (N : Bn) (O : Nat → Option Addr) (F : List (V × PyData)) (H : Hp) (σ : L2.St) (ρ : Env) (v : V) (d : PyData) (K : Env → Prop) (Q : L2.St → Hp → Prop), base.K = K0 → EnvR base w N O F H σ ρ → Dv N H v d → gd d ρ K →
    (∀ O' σ' ρ', K ρ' → EnvR base w N O' F H σ' ρ' → (∀ vs : List Nat, (∀ i ∈ sl, i ∈ vs) → wipe σ' vs = wipe σ vs) → (∀ i a, O' i = some a → O i = some a) → Q σ' H) → g v σ H Q
structure GsOk (K0 : PySem.W.Frag) (g : TGs) (gd : GsD) (sl : List Nat) : Prop where
  run : ∀ (base : Gnd) (w : Wx) (N : Bn) (O : Nat → Option Addr) (F : List (V × PyData)) (H : Hp) (σ : L2.St) (ρ : Env) (vs : List V) (ds : List PyData) (K : Env → Prop) (Q : L2.St → Hp → Prop), base.K = K0 → EnvR base w N O F H σ ρ → DvAll N H vs ds → gd ds ρ K →
    (∀ O' σ' ρ', K ρ' → EnvR base w N O' F H σ' ρ' → (∀ vs : List Nat, (∀ i ∈ sl, i ∈ vs) → wipe σ' vs = wipe σ vs) → (∀ i a, O' i = some a → O i = some a) → Q σ' H) → g vs σ H Q
theorem set_set {α : Type} (l : List α) (i : Nat) (x y : α) : (l.set i x).set i y = l.set i y := by
  apply List.ext_getElem?
  intro k
  by_cases h : k = i
  · subst h
    simp [List.getElem?_set]
  · simp [List.getElem?_set, Ne.symm h]
theorem set_swap {α : Type} (l : List α) (i j : Nat) (x y : α) (h : i ≠ j) : (l.set i x).set j y = (l.set j y).set i x := (List.set_comm x y h)
theorem wipe_set (σ : L2.St) (i : Nat) (x : Option V) : ∀ vs : List Nat, i ∈ vs → wipe (σ.set i x) vs = wipe σ vs
  | [], h => by cases h
  | v :: vs, h => by
    show (wipe (σ.set i x) vs).set v none = (wipe σ vs).set v none
    by_cases c : i ∈ vs
    · rw [wipe_set σ i x vs c]
    · have e : i = v := by
        rcases List.mem_cons.mp h with e | e
        · exact e
        · exact absurd e c
      subst e
      have z : ∀ vs : List Nat, i ∉ vs → wipe (σ.set i x) vs = (wipe σ vs).set i x := fun vs => by
        induction vs with
        | nil => intro _; rfl
        | cons u us ih =>
          intro n
          show (wipe (σ.set i x) us).set u none = ((wipe σ us).set u none).set i x
          rw [ih fun q => n (List.mem_cons_of_mem _ q), set_swap _ i u _ _ fun q => n (by rw [q]; exact List.mem_cons_self ..)]
      rw [z vs c, set_set]
theorem go_name {K0 : PySem.W.Frag} (i : Nat) : GOk K0 (gName i) (gdN i) [i] := ⟨fun base w N O F H σ ρ v d K Q _ b dv h q => q _ _ _ h (b.put i dv) (fun vs hv => wipe_set σ i _ vs (hv i (List.mem_singleton.mpr rfl))) fun j a hj => by
  split at hj
  · cases hj
  · exact hj⟩
theorem gos_nil {K0 : PySem.W.Frag} : GsOk K0 gNil gdNil [] := ⟨fun base w N O F H σ ρ vs ds K Q _ b dv h q => by
    cases dv with
    | nil => exact ⟨rfl, q _ _ _ h b (fun _ _ => rfl) fun _ _ z => z⟩
    | cons _ _ => exact h.elim⟩
theorem gos_cons {K0 : PySem.W.Frag} {g : TG} {gd : GD} {gs : TGs} {gds : GsD} {s1 s2 : List Nat} (a : GOk K0 g gd s1) (b : GsOk K0 gs gds s2) : GsOk K0 (gCons g gs) (gdCons gd gds) (s1 ++ s2) := ⟨fun base w N O F H σ ρ vs ds K Q hK bb dv h q => by
    cases dv with
    | nil => exact h.elim
    | cons d1 d2 => 
      refine ⟨_, _, rfl, a.run base w N O F H σ ρ _ _ _ _ hK bb d1 h fun O1 σ1 ρ1 h1 b1 w1 o1 => ?_⟩
      refine b.run base w N O1 F H σ1 ρ1 _ _ _ _ hK b1 d2 h1 fun O2 σ2 ρ2 h2 b2 w2 o2 => ?_
      exact q _ _ _ h2 b2 (fun vs hv => (w2 vs fun i hi => hv i (List.mem_append_right _ hi)).trans (w1 vs fun i hi => hv i (List.mem_append_left _ hi))) fun i a hi => o1 i a (o2 i a hi)⟩
theorem go_tup {gs : TGs} {gds : GsD} {sl : List Nat} {n : Nat} {K : PySem.W.Frag} (b : GsOk K gs gds sl) : GOk K (gTup K n gs) (gdT n gds) sl := ⟨fun base w N O F H σ ρ v d K Q hK bb dv h q => by
  cases dv with
  | tup ea all =>
    obtain ⟨l, h⟩ := lenK_of h
    exact ⟨_, _, rfl, by rw [← hK, ← bb.ok.kk]; exact ea.sq, all.length.trans l, b.run base w N O F H σ ρ _ _ _ _ hK bb all h q⟩
  | _ => exact h.elim⟩
theorem EnvB.tgt {base : Gnd} {w : Wx} {N0 N : Bn} {O O' : Nat → Option Addr} {F : Keep} {H0 H : Hp} {σ σ' : L2.St} {ρ ρ' : Env} (b : EnvB base w N0 H0 N O F H σ ρ) (e : EnvR base w N O' F H σ' ρ') (h : ∀ i a, O' i = some a → O i = some a) : EnvB base w N0 H0 N O' F H σ' ρ' :=
  ⟨e, b.st, b.sub, fun i a z => b.new i a (h i a z), b.fr0, b.k0⟩
theorem ds_asg {Sy : Md} {X : Cx} {E : L2.St → XK} {st : Stmt} {te : TD} {g : TG} {gd : GD} {sl : List Nat} (hg : GOk X.K g gd sl) (h : PS X st (tAsg (LE Sy X E te) g)) : PS X st (LS Sy X E (sAsg te gd)) := h.weak fun D σ H ⟨w, N0, H0, N, O, F, ρ, DD, b, h, k⟩ =>
  le_in b k h fun d v H' r b' dv => hg.run (gnd Sy X) w N O F H' σ ρ v d DD.nx D.nx rfl b'.e dv r fun O' σ' ρ' hn b2 _ ho => k.nx N O' H' σ' ρ' hn (b'.tgt b2 ho)
/-! ### what is walked -/
/-- J walks the items ds, while what G tells stands -/
structure Feeds (K : PySem.W.Frag) (J : It) (G : Keep) (ds : List PyData) : Prop where
  stop : ∀ N H, N.K = K → (∀ p ∈ G, Dv N H p.1 p.2) → J.stop ds.length H
  go : ∀ N H (i : Nat) d, N.K = K → (∀ p ∈ G, Dv N H p.1 p.2) → ds[i]? = some d → J.go i H ∧ ∀ x H', J.yld i H x H' → Same H H' ∧ Dv N H' x d
structure IOk (Sy : Md) (X : Cx) (E : L2.St → XK) (wi : TI) (ti : ID) : Prop where
  run : ∀ (w : Wx) (N : Bn) (O : Nat → Option Addr) (F : Keep) (ρ : Env) (σ : L2.St) (H : Hp) (R : List PyData → Prop) (Ex : XD) (Q : It → Hp → Prop), EnvR (gnd Sy X) w N O F H σ ρ → ti ρ R Ex →
    (∀ ds J G H1, R ds → Stp w H H1 → (∀ p ∈ G, Dv N H1 p.1 p.2) → Feeds X.K J G ds → Q J H1) → (∀ x cls dx H', Ex x → Stp w H H' → ExAt X.mg N H' cls dx x → E σ cls dx H') → wi σ H Q
def iSeq (t : TD) : ID := fun ρ R Ex => t ρ (fun d => match d with
  | .list ds => R ds
  | .tuple ds => R ds
  | _ => False) Ex
def iLst (t : TD) : ID := fun ρ R Ex => t ρ (fun d => match d with
  | .list ds => R ds
  | _ => False) Ex
def iTpl (t : TD) : ID := fun ρ R Ex => t ρ (fun d => match d with
  | .tuple ds => R ds
  | _ => False) Ex
def rangeD (lo : Int) (n : Nat) : List PyData := (List.range n).map fun (k : Nat) => PyData.int (lo + (k : Int))
def iRg1 (ta : TAD) : ID := fun ρ R Ex => ta ρ (fun us => match us with
  | [.dat (.int j)] => (-(2 ^ 62) ≤ j ∧ j < 2 ^ 62) ∧ R (rangeD 0 j.toNat)
  | _ => False) Ex
def iRg2 (ta : TAD) : ID := fun ρ R Ex => ta ρ (fun us => match us with
  | [.dat (.int i), .dat (.int j)] => (-(2 ^ 62) ≤ i ∧ i < 2 ^ 62 ∧ -(2 ^ 62) ≤ j ∧ j < 2 ^ 62) ∧ R (rangeD i (j - i).toNat)
  | _ => False) Ex
section
variable {Sy : Md} {X : Cx} {E : L2.St → XK} {st : Stmt} {sts : List Stmt} {pos : Pos} {t u : TD}
theorem io_list : IOk Sy X E (iList X.K (LE Sy X E t)) (iLst t) := ⟨fun w N O F ρ σ H R Ex Q en h q qx => ⟨w, N, O, F, ρ, _, Ex, en, h, fun d v H1 r k dv => by
  cases dv with
  | @lst a xs ds nn ea all =>
    refine ⟨_, rfl, ⟨_, .of ea⟩, q ds _ [(.ref a, .list ds)] H1 r k (fun p hp => by cases List.mem_singleton.mp hp; exact .lst nn ea all) ⟨fun N2 H2 hK g => ?_, fun N2 H2 i d hK g hd => ?_⟩⟩
    · cases g _ (List.mem_singleton.mpr rfl) with
      | lst _ e2 a2 => exact ⟨_, .of e2, by rw [a2.length]; exact Nat.le_refl _⟩
    · cases g _ (List.mem_singleton.mpr rfl) with
      | lst _ e2 a2 =>
        obtain ⟨x, hx, dx⟩ := a2.get hd
        exact ⟨⟨_, x, .of e2, hx⟩, fun y H' ⟨e, hy⟩ => by
          subst e
          have := hy _ (.of e2)
          rw [hx] at this
          cases this
          exact ⟨.refl _, dx⟩⟩
  | _ => exact r.elim, qx⟩⟩
theorem io_tup : IOk Sy X E (iTup X.K (LE Sy X E t)) (iTpl t) := ⟨fun w N O F ρ σ H R Ex Q en h q qx => ⟨w, N, O, F, ρ, _, Ex, en, h, fun d v H1 r k dv => by
  cases dv with
  | @tup a xs ds ea all =>
    refine ⟨_, rfl, ⟨_, en.ok.kk ▸ ea.sq⟩, q ds _ [(.ref a, .tuple ds)] H1 r k (fun p hp => by cases List.mem_singleton.mp hp; exact .tup ea all) ⟨fun N2 H2 hK g => ?_, fun N2 H2 i d hK g hd => ?_⟩⟩
    · cases g _ (List.mem_singleton.mpr rfl) with
      | tup e2 a2 => exact ⟨_, hK ▸ e2.sq, by rw [a2.length]; exact Nat.le_refl _⟩
    · cases g _ (List.mem_singleton.mpr rfl) with
      | tup e2 a2 =>
        obtain ⟨x, hx, dx⟩ := a2.get hd
        exact ⟨⟨_, x, hK ▸ e2.sq, hx⟩, fun y H' ⟨e, hy⟩ => by
          subst e
          have := hy _ (hK ▸ e2.sq)
          rw [hx] at this
          cases this
          exact ⟨.refl _, dx⟩⟩
  | _ => exact r.elim, qx⟩⟩
theorem rangeD_get {lo : Int} {n i : Nat} {d : PyData} (h : (rangeD lo n)[i]? = some d) : i < n ∧ d = .int (lo + (i : Int)) := by
  unfold rangeD at h
  rw [List.getElem?_map] at h
  by_cases c : i < n
  · rw [List.getElem?_range c] at h
    exact ⟨c, (Option.some.inj h).symm⟩
  · rw [List.getElem?_eq_none (by simp; omega)] at h
    cases h
theorem rangeD_len (lo : Int) (n : Nat) : (rangeD lo n).length = n := by simp [rangeD]
theorem feeds_range {K : PySem.W.Frag} (lo : Int) (n : Nat) : Feeds K (Itr lo n) [] (rangeD lo n) := ⟨fun N H _ _ => by rw [rangeD_len]; exact Nat.le_refl _, fun N H i d _ _ hd => by
  obtain ⟨a, rfl⟩ := rangeD_get hd
  exact ⟨a, fun x H' ⟨e1, e2⟩ => by subst e1; subst e2; exact ⟨.refl _, .int _⟩⟩⟩
theorem io_rg1 {n : Nat} {tr : TAD} : IOk Sy X E (iRng1 (LA Sy X E n tr)) (iRg1 tr) := ⟨fun w N O F ρ σ H R Ex Q en h q qx => ⟨w, N, O, F, ρ, _, Ex, en, h, fun us vs H1 hl r k hv => by
  split at r
  · rename_i j
    match vs, hv with
    | [v], hv =>
      cases hv.1
      exact ⟨j, rfl, r.1.1, r.1.2, q _ _ [] H1 r.2 k (fun p hp => by cases hp) (feeds_range 0 _)⟩
  · exact r.elim, qx⟩⟩
theorem io_rg2 {n : Nat} {tr : TAD} : IOk Sy X E (iRng2 (LA Sy X E n tr)) (iRg2 tr) := ⟨fun w N O F ρ σ H R Ex Q en h q qx => ⟨w, N, O, F, ρ, _, Ex, en, h, fun us vs H1 hl r k hv => by
  split at r
  · rename_i i j
    match vs, hv with
    | [v, u], hv =>
      cases hv.1
      cases hv.2.1
      exact ⟨i, j, rfl, r.1, q _ _ [] H1 r.2 k (fun p hp => by cases hp) (feeds_range i _)⟩
  · exact r.elim, qx⟩⟩
/-! ### loops -/
theorem drop_get {α : Type} {l r : List α} {d : α} {i : Nat} (h : l.drop i = d :: r) : l[i]? = some d ∧ l.drop (i + 1) = r := by
  have e : (l.drop i)[0]? = some d := by rw [h] <;> rfl
  rw [List.getElem?_drop] at e
  refine ⟨by simpa using e, ?_⟩
  have : (l.drop i).drop 1 = r := by rw [h] <;> rfl
  rw [List.drop_drop] at this
  exact this
theorem drop_end {α : Type} {l : List α} {i : Nat} (hi : i ≤ l.length) (h : l.drop i = []) : i = l.length := by
  have := congrArg List.length h
  simp at this
  omega
theorem ds_while {tc : TTD} {tb : TSD} (h : PS X st (tWhile (LT Sy X E tc) (LS Sy X E tb))) : PS X st (LS Sy X E (sWhile tc tb)) := h.weak fun D σ H ⟨w, N0, H0, N, O, F, ρ, DD, b, ⟨n, h⟩, k⟩ => by
  refine ⟨fun m σ H => ∃ N O ρ, EnvB (gnd Sy X) w N0 H0 N O F H σ ρ ∧ whileD tc tb DD m ρ, ⟨n, N, O, ρ, b, h⟩, ?_⟩
  rintro m σ H ⟨N, O, ρ, b, h⟩
  cases m with
  | zero => exact h.elim
  | succ m =>
    refine lt_in b k (R := fun c => if c = true then tb { DD with nx := whileD tc tb DD m, ct := whileD tc tb DD m, bk := DD.nx } ρ else DD.nx ρ) h fun c H' r b' => ?_
    cases c with
    | false => exact k.nx N O H' σ ρ r b'
    | true =>
      have up : ∀ N O H σ ρ, whileD tc tb DD m ρ → EnvB (gnd Sy X) w N0 H0 N O F H σ ρ → ∃ m', m' < m + 1 ∧ ∃ N O ρ, EnvB (gnd Sy X) w N0 H0 N O F H σ ρ ∧ whileD tc tb DD m' ρ := fun N O H σ ρ hw b => ⟨m, Nat.lt_succ_self _, N, O, ρ, b, hw⟩
      refine ⟨fun σ' H' => ∃ m', m' < m + 1 ∧ ∃ N O ρ, EnvB (gnd Sy X) w N0 H0 N O F H' σ' ρ ∧ whileD tc tb DD m' ρ, fun σ' H' z => z, ?_⟩
      exact ⟨w, N0, H0, N, O, F, ρ, _, b', r, ⟨up, k.rt, k.nx, up, k.ex⟩⟩
theorem ds_for {wi : TI} {ti : ID} {g : TG} {gd : GD} {tb : TSD} {sl : List Nat} (hi : IOk Sy X E wi ti) (hg : GOk X.K g gd sl) (h : PS X st (tFor wi g (LS Sy X E tb))) : PS X st (LS Sy X E (sFor ti gd tb)) := h.weak fun D σ H ⟨w, N0, H0, N, O, F, ρ, DD, b, h, k⟩ => by
  refine hi.run w N O F ρ σ H _ (DD.ex ρ) _ b.e h (fun ds J G H1 r s hG fd => ?_) fun x cls dx H' hx s hh => k.ex N O H' σ ρ x cls dx hx (b.step s) hh
  have b1 := (b.step s).less hG
  refine ⟨fun i m σ H => i + m = ds.length ∧ ∃ N O ρ, EnvB (gnd Sy X) w N0 H0 N O (G ++ F) H σ ρ ∧ forD gd tb DD (ds.drop i) ρ, ⟨ds.length, by omega, N, O, ρ, b1, by rw [List.drop_zero]; exact r⟩, ?_⟩
  rintro i m σ H ⟨im, N, O, ρ, b, h⟩
  have live : ∀ p ∈ G, Dv N H p.1 p.2 := fun p hp => b.e.kept p (List.mem_append_left _ hp)
  cases e : ds.drop i with
  | nil =>
    rw [e] at h
    have ei := drop_end (by omega) e
    subst ei
    exact .inl ⟨fd.stop N H b.e.ok.kk live, k.nx N O H σ ρ h b.drop⟩
  | cons d rest =>
    rw [e] at h
    obtain ⟨e1, e2⟩ := drop_get e
    have il := (List.getElem?_eq_some_iff.mp e1).1
    obtain ⟨g1, g2⟩ := fd.go N H i d b.e.ok.kk live e1
    have up : ∀ N O H σ ρ, forD gd tb DD rest ρ → EnvB (gnd Sy X) w N0 H0 N O (G ++ F) H σ ρ → ∃ m', m' < m ∧ i + 1 + m' = ds.length ∧ ∃ N O ρ, EnvB (gnd Sy X) w N0 H0 N O (G ++ F) H σ ρ ∧ forD gd tb DD (ds.drop (i + 1)) ρ := fun N O H σ ρ hw b => ⟨m - 1, by omega, by omega, N, O, ρ, b, by rw [e2]; exact hw⟩
    refine .inr ⟨g1, fun σ' H' => ∃ m', m' < m ∧ i + 1 + m' = ds.length ∧ ∃ N O ρ, EnvB (gnd Sy X) w N0 H0 N O (G ++ F) H' σ' ρ ∧ forD gd tb DD (ds.drop (i + 1)) ρ, fun σ' H' z => z, fun x H' hy => ?_⟩
    obtain ⟨s2, dx⟩ := g2 x H' hy
    refine hg.run (gnd Sy X) w N O (G ++ F) H' σ ρ x d _ _ rfl (b.step (.of s2)).e dx h fun O' σ' ρ' hb b2 _ ho => ?_
    have b' := (b.step (.of s2)).tgt b2 ho
    refine ⟨w, N0, H0, N, O', G ++ F, ρ', _, b', hb, ⟨up, k.rt, fun N O H σ ρ hn b => k.nx N O H σ ρ hn b.drop, up, fun N O H σ ρ x cls dx hx b hh => k.ex N O H σ ρ x cls dx hx b.drop hh⟩⟩
/-! ### the link of defs -/
def startD : List Sv → List Str → Env
  | _, [] => []
  | [], _ :: ns => none :: startD [] ns
  | u :: us, _ :: ns => some u :: startD us ns
theorem startD_eq : ∀ (us : List Sv) (N : List Str), us.length ≤ N.length → startD us N = us.map some ++ List.replicate (N.length - us.length) none
  | [], [], _ => rfl
  | _ :: _, [], h => by simp at h
  | [], _ :: ns, _ => by
    have := startD_eq [] ns (Nat.zero_le _)
    simp [startD, List.replicate_succ] at this ⊢
    exact this
  | u :: us, _ :: ns, h => by
    have := startD_eq us ns (by simpa using h)
    simp [startD] at this ⊢
    exact this
theorem slot_none : ∀ (n i : Nat), slotD (List.replicate n none) i = none
  | 0, i => by cases i <;> rfl
  | n + 1, 0 => rfl
  | n + 1, i + 1 => slot_none n i
theorem start_slot {w : Wx} {N : Bn} {H : Hp} {n : Nat} : ∀ {vs : List V} {us : List Sv}, SvsR w N H vs us → ∀ (i : Nat) (y : Sv) (k : Nat), slotD (us.map some ++ List.replicate k none) i = some y → ∃ v, (vs.map some ++ List.replicate n (none : Option V))[i]? = some (some v) ∧ SvR w N (fun _ => none) H i v y
  | [], [], _, i, y, k, h => by
    rw [show (([] : List Sv).map some ++ List.replicate k none) = List.replicate k (none : Option Sv) from rfl, slot_none] at h
    cases h
  | v :: vs, u :: us, hh, 0, y, k, h => by
    cases (show some u = some y from h)
    refine ⟨v, rfl, ?_⟩
    cases u with
    | dat d => exact hh.1
    | own ds => exact hh.1.elim
    | well => exact hh.1
    | fn _ => exact hh.1
  | v :: vs, u :: us, hh, i + 1, y, k, h => by
    obtain ⟨z, a, b⟩ := start_slot (n := n) hh.2 i y k h
    refine ⟨z, by simpa using a, ?_⟩
    cases y with
    | dat d => exact b
    | own ds =>
      obtain ⟨_, _, _, o, _⟩ := b
      cases o
    | well => exact b
    | fn _ => exact b
  | [], _ :: _, h, _, _, _, _ => h.elim
  | _ :: _, [], h, _, _, _, _ => h.elim
end
section
variable {P : Program} {w : World} {K : PySem.W.Frag} {mg : Str → Option Value} {base : Heap}
/-- the reading of a def's body -/
def tfOf (N : List Str) (t : TSD) : TF := fun us R Ex => t { nx := fun _ => R .none, rt := R, ex := fun _ => Ex } (startD us N)
theorem Dn.data {Sy : Md} {x : Str} {st : Stmt} {N ps : List Str} {k : Nat} {t : TSD} (D : Dn K mg x st ps) (S : FnScope N ps (defScope st))
    (hbody : ∀ (f : Addr) (cdv : Value) (A : Around) (outer : List PySem.Env) (s : Shared) (H : Hp) (E : XK), Room k (A.deeper (envOfC x (defScope st) s.heap.objs.size f cdv)) → A.guards = some [] →
      PSs (cxOf (L2.CX P w) P w K mg base N x (defScope st) f cdv A outer s H E) (defBody st) (LS Sy (cxOf (L2.CX P w) P w K mg base N x (defScope st) f cdv A outer s H E) (fun _ => E) t)) :
    Cl (L2.CX P w) P w K mg base (k + 1) x (spF ⟨base, K, Sy⟩ mg ps.length (tfOf N t)) := by
  refine D.call S (fun vs H Q E h => h.len) (fun f cdv A outer s H vs Q E hr hg h => ⟨_, hbody f cdv A outer s H E hr hg, ?_⟩)
  obtain ⟨wl, Nb, us, R, Ex, hl, hv, ok, ht, q, qx⟩ := h
  refine ⟨wl, Nb, H, Nb, fun _ => none, [], _, _, ⟨⟨ok, ?_, ?_, fun i j a z _ => (nomatch z), fun i a z => (nomatch z), fun p hp => (nomatch hp)⟩, .refl _ _, fun _ z => z, fun _ _ z => (nomatch z), ok.fr, ok.kk⟩, ht, ⟨fun N O H1 σ ρ r b => q .none .non H1 r b.st .non, fun d v H1 r s dv => q d v H1 r s dv, fun _ _ _ _ _ z => z.elim, fun _ _ _ _ _ z => z.elim, ?_⟩⟩
  · have := hv.length
    have le : us.length ≤ N.length := by
      have := congrArg List.length S.pre
      rw [List.length_take] at this
      omega
    rw [startD_eq us N le]
    simp [L2.start, this]
  · have le : us.length ≤ N.length := by
      have := congrArg List.length S.pre
      rw [List.length_take] at this
      omega
    rw [startD_eq us N le]
    exact fun i y h => start_slot hv i y _ h
  · intro N O H1 σ ρ x cls dx hx b hh
    refine qx x cls dx H1 hx b.st ?_
    obtain ⟨C, h1, h2, h3⟩ := hh
    refine ⟨C, h1, h2, ?_⟩
    split
    · rename_i e
      rw [e] at h3
      exact h3
    · rename_i f d e
      rw [e] at h3
      obtain ⟨a, v, e1, e2, e3⟩ := h3
      exact ⟨a, v, e1, e2, e3.less (b.k0.trans b.e.ok.kk.symm) b.sub⟩
    · rename_i e1 e2
      split at h3
      · rename_i e
        exact absurd e e1
      · rename_i f d e
        exact absurd e (e2 f d)
      · exact h3
end
end Ld

namespace Ld
open PySem PySem.Spec PyProof.Rows L2 Lw
/-! ### a new list that grows -/
def Bn.add (N : Bn) (l : Addr) : Bn := ⟨N.K, fun b => N b ∨ b = l⟩
section
variable {base : Gnd} {w : Wx} {N : Bn} {O : Nat → Option Addr} {F : Keep} {H : Hp} {σ : L2.St} {ρ : Env} {l : Addr}
theorem dv_ban {v : V} {d : PyData} {o : HO} (h : Dv N H v d) (hl : H l = none) : Dv (Bn.add N l) (upd H l o) v d :=
  Dv.map (N := N) (N' := Bn.add N l) (H := H) (H' := upd H l o) rfl (fun b u n q => ⟨by rw [upd_ne (ne_of_none q hl)]; exact q, fun z => z.elim n (ne_of_none q hl)⟩) (fun b xs q => by rw [upd_ne (ne_of_none q hl)]; exact q) _ _ h
theorem dvs_ban {v : List V} {d : List PyData} {o : HO} (h : DvAll N H v d) (hl : H l = none) : DvAll (Bn.add N l) (upd H l o) v d :=
  DvAll.map (N := N) (N' := Bn.add N l) (H := H) (H' := upd H l o) rfl (fun b u n q => ⟨by rw [upd_ne (ne_of_none q hl)]; exact q, fun z => z.elim n (ne_of_none q hl)⟩) (fun b xs q => by rw [upd_ne (ne_of_none q hl)]; exact q) _ _ h
theorem dv_poke {v : V} {d : PyData} {o : HO} {ys : List V} (h : Dv N H v d) (hn : N l) (hl : H l = some (.lst ys)) : Dv N (upd H l o) v d :=
  h.map (N' := N) (H' := upd H l o) rfl (fun b u n q => ⟨by rw [upd_ne (fun z => n (by rw [z]; exact hn))]; exact q, n⟩) (fun b xs q => by rw [upd_ne (ne_of q hl (by intro z; cases z))]; exact q) _ _
theorem dvs_poke {v : List V} {d : List PyData} {o : HO} {ys : List V} (h : DvAll N H v d) (hn : N l) (hl : H l = some (.lst ys)) : DvAll N (upd H l o) v d :=
  h.map (N' := N) (H' := upd H l o) rfl (fun b u n q => ⟨by rw [upd_ne (fun z => n (by rw [z]; exact hn))]; exact q, n⟩) (fun b xs q => by rw [upd_ne (ne_of q hl (by intro z; cases z))]; exact q) _ _
theorem _root_.Lw.WellAt.upd {p : Addr} {o : HO} (h : WellAt H p) (hp : p ≠ l) : WellAt (upd H l o) p := by
  obtain ⟨a, m, c, e, z⟩ := h
  exact ⟨a, m, c, by rw [upd_ne hp]; exact e, z⟩
theorem WlOk.ban {o : HO} (h : WlOk base w N H) (hl : H l = none) (ho : ∀ ps, o ≠ HO.tbl ps) : WlOk base w (Bn.add N l) (upd H l o) := by
  refine ⟨fun p e => ?_, fun p hp np => ?_, fun z => .inl (h.sn z), fun z p hp q => ?_, h.kk, fun p hp => .inl (h.tn p hp), tabs_more h.tb (fun b o n q => by rw [upd_ne n]; exact q) (.inl hl), h.tt, fun p ps hp c hs => ?_⟩
  · obtain ⟨h1, h2, h3⟩ := h.wl p e
    exact ⟨.inl h1, h2, h3.upd (h3.ne hl).symm⟩
  · have nl : p ≠ l := fun z => by
      rw [z, upd_same] at hp
      cases hp
    rw [upd_ne nl] at hp
    exact fun z => z.elim (h.fr p hp np) nl
  · have nl : p ≠ l := fun z => by
      rw [z, upd_same] at hp
      cases hp
    rw [upd_ne nl] at hp
    exact q.elim (h.sl z p hp) nl
  · have nl : p ≠ l := fun z => by
      rw [z, upd_same] at hp
      exact ho ps (Option.some.inj hp)
    rw [upd_ne nl] at hp
    exact fun z => z.elim (h.to p ps hp c hs) nl
theorem WlOk.poke {o : HO} {ys : List V} (h : WlOk base w N H) (hw : ¬ w.has l) (hl : H l = some (.lst ys)) (ho : ∀ ps, o ≠ HO.tbl ps) : WlOk base w N (upd H l o) := by
  refine ⟨fun p e => ?_, fun p hp np => ?_, h.sn, fun z p hp => ?_, h.kk, h.tn, tabs_more h.tb (fun b o n q => by rw [upd_ne n]; exact q) (.inr ⟨_, hl⟩), h.tt, fun p ps hp c hs => ?_⟩
  · obtain ⟨h1, h2, h3⟩ := h.wl p e
    exact ⟨h1, h2, h3.upd fun z => hw (.inl (by rw [e, z]))⟩
  · have nl : p ≠ l := fun z => by
      rw [z, upd_same] at hp
      cases hp
    rw [upd_ne nl] at hp
    exact h.fr p hp np
  · have nl : p ≠ l := fun z => by
      rw [z, upd_same] at hp
      cases hp
    rw [upd_ne nl] at hp
    exact h.sl z p hp
  · have nl : p ≠ l := fun z => by
      rw [z, upd_same] at hp
      exact ho ps (Option.some.inj hp)
    rw [upd_ne nl] at hp
    exact h.to p ps hp c hs
theorem EnvR.ban {xs : List V} (e : EnvR base w N O F H σ ρ) (hl : H l = none) : EnvR base w (Bn.add N l) O F (upd H l (.lst xs)) σ ρ := by
  refine ⟨e.ok.ban hl lst_ne, e.len, fun i y h => ?_, e.inj, fun i a h => ?_, fun p hp => dv_ban (e.kept p hp) hl⟩
  · obtain ⟨v, h1, h2⟩ := e.slot i y h
    refine ⟨v, h1, ?_⟩
    cases y with
    | dat d => exact dv_ban h2 hl
    | own ds =>
      obtain ⟨a, xs, r, oo, ha, hd⟩ := h2
      exact ⟨a, xs, r, oo, by rw [upd_ne (ne_of_none ha hl)]; exact ha, dvs_ban hd hl⟩
    | well => exact h2
    | fn _ => exact h2
  · obtain ⟨h1, h2, u, h3⟩ := e.ow i a h
    exact ⟨.inl h1, h2, u, by rw [upd_ne (ne_of_none h3 hl)]; exact h3⟩
theorem EnvR.poke {xs ys : List V} (e : EnvR base w N O F H σ ρ) (hn : N l) (hw : ¬ w.has l) (ho : ∀ i, O i ≠ some l) (hl : H l = some (.lst ys)) : EnvR base w N O F (upd H l (.lst xs)) σ ρ := by
  refine ⟨e.ok.poke hw hl lst_ne, e.len, fun i y h => ?_, e.inj, fun i a h => ?_, fun p hp => dv_poke (e.kept p hp) hn hl⟩
  · obtain ⟨v, h1, h2⟩ := e.slot i y h
    refine ⟨v, h1, ?_⟩
    cases y with
    | dat d => exact dv_poke h2 hn hl
    | own ds =>
      obtain ⟨a, xs, r, oo, ha, hd⟩ := h2
      exact ⟨a, xs, r, oo, by rw [upd_ne (fun z => ho i (by rw [← z]; exact oo))]; exact ha, dvs_poke hd hn hl⟩
    | well => exact h2
    | fn _ => exact h2
  · obtain ⟨h1, h2, u, h3⟩ := e.ow i a h
    exact ⟨h1, h2, u, by rw [upd_ne (fun z => ho i (by rw [← z]; exact h))]; exact h3⟩
def wipeD (ρ : Env) : List Nat → Env
  | [] => ρ
  | v :: vs => putD (wipeD ρ vs) v none
theorem put_none : ∀ (ρ : Env) (v i : Nat) (y : Sv), slotD (putD ρ v none) i = some y → slotD ρ i = some y ∧ i ≠ v
  | [], v, i, y, h => by
    cases i <;> cases h
  | x :: r, 0, 0, y, h => by cases h
  | x :: r, 0, i + 1, y, h => ⟨h, by omega⟩
  | x :: r, v + 1, 0, y, h => ⟨h, by omega⟩
  | x :: r, v + 1, i + 1, y, h => by
    obtain ⟨a, b⟩ := put_none r v i y h
    exact ⟨a, by omega⟩
theorem EnvR.wipe (e : EnvR base w N O F H σ ρ) : ∀ vs : List Nat, EnvR base w N O F H (wipe σ vs) (wipeD ρ vs)
  | [] => e
  | v :: vs => by
    have b := e.wipe vs
    refine ⟨b.ok, by show ((L2.wipe σ vs).set v none).length = (putD (wipeD ρ vs) v none).length; rw [List.length_set, putD_len]; exact b.len, fun i y h => ?_, b.inj, b.ow, b.kept⟩
    obtain ⟨h1, h2⟩ := put_none _ v i y h
    obtain ⟨u, h3, h4⟩ := b.slot i y h1
    exact ⟨u, by show ((L2.wipe σ vs).set v none)[i]? = _; rw [List.getElem?_set_ne (fun z => h2 z.symm)]; exact h3, h4⟩
end
/-! ### comprehensions -/
def NoX : XD := fun _ => False
def dYes : TTD := fun _ R _ => R true
def lcD (gd : GD) (tt : TTD) (te : TD) (ρ : Env) : List PyData → (List PyData → Prop) → Prop
  | [], K => K []
  | d :: r, K => gd d ρ (fun ρ' => tt ρ' (fun b => if b = true then te ρ' (fun y => lcD gd tt te ρ r (fun ys => K (y :: ys))) NoX else lcD gd tt te ρ r K) NoX)
def dLc (ti : ID) (sl : List Nat) (gd : GD) (tt : TTD) (te : TD) : TD := fun ρ R Ex => ti ρ (fun ds => ds.length ≤ 1000 ∧ lcD gd tt te (wipeD ρ sl) ds (fun ys => R (.list ys))) Ex
/-- no exception leaves -/
abbrev EX0 : L2.St → XK := fun _ _ _ _ => False
theorem wipe_wipe (σ : L2.St) : ∀ vs us : List Nat, (∀ i ∈ us, i ∈ vs) → wipe (wipe σ us) vs = wipe σ vs
  | vs, [], _ => rfl
  | vs, u :: us, h => by
    show wipe ((wipe σ us).set u none) vs = wipe σ vs
    rw [wipe_set _ u none vs (h u (List.mem_cons_self ..)), wipe_wipe σ vs us fun i hi => h i (List.mem_cons_of_mem _ hi)]
theorem stp_new {w : Wx} {H1 H : Hp} {D : Addr} {o : HO} (k : Stp w H1 H) (hD : ∀ u, H1 D = some u → w.T ≠ [] ∧ ∃ ps, u = HO.tbl ps) (hw : ¬ w.has D) (hl : ∃ ys, H D = some (.lst ys)) : Stp w H1 (upd H D o) := by
  have ne : ∀ {b u}, H1 b = some u → (∀ ps, u ≠ HO.tbl ps) → b ≠ D := fun {b u} q m z => by
    rw [z] at q
    obtain ⟨_, ps, e⟩ := hD u q
    exact m ps e
  exact ⟨fun b u n m q => by rw [upd_ne (ne q m)]; exact k.kp b u n m q, fun b xs q => by rw [upd_ne (ne q (fun ps z => by cases z))]; exact k.tp b xs q, fun p hp q => (k.wl p hp q).upd fun z => hw (.inl (by rw [hp, z])), fun q => tabs_more (k.tb q) (fun b o n e => by rw [upd_ne n]; exact e) (.inr hl), fun ht b u n q => by
    have nb : b ≠ D := fun z => by
      rw [z] at q
      exact (hD u q).1 ht
    rw [upd_ne nb]
    exact k.k0 ht b u n q⟩
section
variable {Sy : Md} {X Y : Cx} {E : L2.St → XK} {e : Expr} {st : Stmt} {wi : TI} {ti : ID} {g : TG} {gd : GD} {tt : TTD} {te : TD} {sl vs : List Nat}
theorem lc_in {w : Wx} {N : Bn} {O : Nat → Option Addr} {F : Keep} {ρ : Env} {σ : L2.St} {H : Hp} {R : RD} {Ex : XD} {Q : VK} (hy : Sy.y = false) (hb : gnd Sy Y = gnd Sy X) (hi : IOk Sy X E wi ti) (hg : GOk X.K g gd sl) (hs : ∀ i ∈ sl, i ∈ vs) (en : EnvR (gnd Sy X) w N O F H σ ρ) (h : dLc ti vs gd tt te ρ R Ex)
    (q : ∀ d v H', R d → Stp w H H' → Dv N H' v d → Q v H') (qx : ∀ x cls dx H', Ex x → Stp w H H' → ExAt X.mg N H' cls dx x → E σ cls dx H') : tLc wi g (LT Sy Y EX0 tt) (LE Sy Y EX0 te) vs σ H Q := by
  refine hi.run w N O F ρ σ H _ Ex _ en h (fun ds J G H1 r s hG fd => ?_) qx
  intro D hD
  obtain ⟨hlen, r⟩ := r
  have en1 := en.step s
  have enG : EnvR (gnd Sy X) w N O (G ++ F) H1 σ ρ := ⟨en1.ok, en1.len, en1.slot, en1.inj, en1.ow, fun p hp => (List.mem_append.mp hp).elim (hG p) (en1.kept p)⟩
  have hw : ¬ w.has D := en1.ok.new hD
  have ho : ∀ i, O i ≠ some D := fun i z => by
    obtain ⟨_, _, u, z2⟩ := en1.ow i D z
    rw [hD] at z2
    cases z2
  -- the invariant
  refine ⟨fun i m H => i + m = ds.length ∧ ∃ acc accD, Stp w H1 H ∧ EnvR (gnd Sy X) w (Bn.add N D) O (G ++ F) H σ ρ ∧ H D = some (.lst acc) ∧ DvAll (Bn.add N D) H acc accD ∧ accD.length ≤ i ∧ lcD gd tt te (wipeD ρ vs) (ds.drop i) (fun ys => R (.list (accD ++ ys))), ⟨ds.length, by omega, [], [], .of (same_new hD _), enG.ban hD, upd_same, .nil, Nat.le_refl 0, by rw [List.drop_zero]; exact r⟩, ?_⟩
  rintro i m H ⟨im, acc, accD, st1, en2, eD, all, al, h⟩
  have live : ∀ p ∈ G, Dv (Bn.add N D) H p.1 p.2 := fun p hp => en2.kept p (List.mem_append_left _ hp)
  cases e : ds.drop i with
  | nil =>
    rw [e] at h
    have ei := drop_end (by omega) e
    subst ei
    refine .inl ⟨fd.stop (Bn.add N D) H en1.ok.kk live, ?_⟩
    have h' : R (.list accD) := by
      have : R (.list (accD ++ [])) := h
      rwa [List.append_nil] at this
    exact q _ _ H h' (s.trans st1) (.lst (en1.ok.sl hy D hD) eD (DvAll.map (N := Bn.add N D) (N' := N) rfl (fun b u n q => ⟨q, fun z => n (.inl z)⟩) (fun _ _ q => q) _ _ all))
  | cons d rest =>
    rw [e] at h
    obtain ⟨e1, e2⟩ := drop_get e
    have il := (List.getElem?_eq_some_iff.mp e1).1
    obtain ⟨g1, g2⟩ := fd.go (Bn.add N D) H i d en1.ok.kk live e1
    refine .inr ⟨g1, _, fun H' z => z, fun x H' hy => ?_⟩
    obtain ⟨s2, dx⟩ := g2 x H' hy
    have s2' : Stp w H H' := .of s2
    have en3 := en2.step s2'
    refine hg.run (gnd Sy X) w (Bn.add N D) O (G ++ F) H' (wipe σ vs) (wipeD ρ vs) x d _ _ rfl (en3.wipe vs) dx h fun O' σ' ρ' hb2 b3 wp _ => ?_
    refine ⟨(wp vs hs).trans (wipe_wipe σ vs vs fun _ z => z), ?_⟩
    refine ⟨w, _, O', G ++ F, ρ', _, _, hb ▸ b3, hb2, fun b H2 hb4 k2 => ?_, fun _ _ _ _ z => z.elim⟩
    have eD2 : H2 D = some (.lst acc) := k2.kp _ _ hw lst_ne (s2'.kp _ _ hw lst_ne eD)
    have all2 : DvAll (Bn.add N D) H2 acc accD := dvs_step (dvs_step all en2.hw s2') en2.hw k2
    have en4 := en3.step k2
    have st2 := (st1.trans s2').trans k2
    cases b with
    | false =>
      exact ⟨m - 1, by omega, by omega, acc, accD, st2, en4, eD2, all2, by omega, by rw [e2]; exact hb4⟩
    | true =>
      refine ⟨w, _, O', G ++ F, ρ', _, _, hb ▸ (b3.step k2), hb4, fun y u H3 hb5 k3 dy => ?_, fun _ _ _ _ z => z.elim⟩
      have eD3 := k3.kp _ _ hw lst_ne eD2
      refine ⟨acc, eD3, by rw [all.length, sizeLine_eq]; omega, m - 1, by omega, by omega, acc ++ [u], accD ++ [y], stp_new (st2.trans k3) (fun u q => by rw [hD] at q; cases q) hw ⟨_, eD3⟩, (en4.step k3).poke (.inr rfl) hw ho eD3, upd_same, ?_, by simp; omega, ?_⟩
      · exact (dvs_poke (dvs_step all2 en2.hw k3) (.inr rfl) eD3).app (.cons (dv_poke dy (.inr rfl) eD3) .nil)
      · rw [e2]
        have : (fun ys => R (.list (accD ++ y :: ys))) = fun ys => R (.list (accD ++ [y] ++ ys)) := by
          funext ys
          simp
        rw [← this]
        exact hb5
theorem d_lc (hi : IOk ⟨false, Tz, mz⟩ X E wi ti) (hg : GOk X.K g gd sl) (h : PE X e (tLc wi g (LT ⟨false, Tz, mz⟩ X EX0 tt) (LE ⟨false, Tz, mz⟩ X EX0 te) vs)) (hs : ∀ i ∈ sl, i ∈ vs := by decide) : PE X e (LE ⟨false, Tz, mz⟩ X E (dLc ti vs gd tt te)) := h.weak fun σ H Q ⟨w, N, O, F, ρ, R, Ex, en, t, q, qx⟩ =>
  lc_in (Y := X) rfl rfl hi hg hs en t (q) qx
theorem ds_setLc {i : Nat} (hi : IOk ⟨false, Tz, mz⟩ X E wi ti) (hg : GOk X.K g gd sl) (h : PS X st (tAsg (tLc wi g (LT ⟨false, Tz, mz⟩ X EX0 tt) (LE ⟨false, Tz, mz⟩ X EX0 te) vs) (gName i))) (hs : ∀ i ∈ sl, i ∈ vs := by decide) : PS X st (LS ⟨false, Tz, mz⟩ X E (sSet i (dLc ti vs gd tt te))) := h.weak fun D σ H ⟨w, N0, H0, N, O, F, ρ, DD, b, h, k⟩ =>
  lc_in (Y := X) rfl rfl hi hg hs b.e h (fun d v H' r s dv => k.nx _ _ H' _ _ r ((b.step s).put i dv)) fun x cls dx H' hx s hh => k.ex N O H' σ ρ x cls dx hx (b.step s) hh
theorem _root_.L2.PTs.weak {X : Cx} {e : List Expr} {t t' : TT} (h : PTs X e t) (i : ∀ σ H Q, t' σ H Q → t σ H Q) : PTs X e t' := ⟨fun pins s σ H Q I q => h.run pins s σ H Q I (i σ H Q q)⟩
theorem dts_nil : PTs X [] (LT Sy X E dYes) := pts_nil.weak fun σ H Q ⟨w, N, O, F, ρ, R, Ex, en, t, q, qx⟩ => q true H t (.refl _ _)
end
end Ld

namespace Ld
open PySem PySem.Spec PyProof.Rows L2 Lw
/-! ### operations by data -/
theorem OpD.or {Sy : Md} {X : Cx} {r r' : R2} {f g : PyData → PyData → RD → Prop} (a : OpD Sy X r f) (b : OpD Sy X r' g) : OpD Sy X (fun x y H Q => r x y H Q ∨ r' x y H Q) (fun x y R => f x y R ∨ g x y R) := fun N H v u x y R Q h dx dy fr sn hK sl q =>
  h.elim (fun h => .inl (a N H v u x y R Q h dx dy fr sn hK sl q)) (fun h => .inr (b N H v u x y R Q h dx dy fr sn hK sl q))
theorem OpD.imp {Sy : Md} {X : Cx} {r : R2} {f g : PyData → PyData → RD → Prop} (a : OpD Sy X r f) (h : ∀ x y R, g x y R → f x y R) : OpD Sy X r g := fun N H v u x y R Q z dx dy fr sn hK sl q => a N H v u x y R Q (h x y R z) dx dy fr sn hK sl q
theorem OpD.fst {Sy : Md} {X : Cx} {r r' : R2} {f : PyData → PyData → RD → Prop} (a : OpD Sy X r f) : OpD Sy X (fun x y H Q => r x y H Q ∨ r' x y H Q) f := fun N H v u x y R Q h dx dy fr sn hK sl q => .inl (a N H v u x y R Q h dx dy fr sn hK sl q)
theorem OpD.snd {Sy : Md} {X : Cx} {r r' : R2} {f : PyData → PyData → RD → Prop} (a : OpD Sy X r' f) : OpD Sy X (fun x y H Q => r x y H Q ∨ r' x y H Q) f := fun N H v u x y R Q h dx dy fr sn hK sl q => .inr (a N H v u x y R Q h dx dy fr sn hK sl q)
section
variable {Sy : Md} {X : Cx}
def fInt (g : Int → Int → Int) (C : Int → Int → Prop) : PyData → PyData → RD → Prop := fun x y R => match x, y with
  | .int i, .int j => C i j ∧ R (.int (g i j))
  | _, _ => False
def fInt0 (g : Int → Int → Int) : PyData → PyData → RD → Prop := fun x y R => match x, y with
  | .int i, .int j => R (.int (g i j))
  | _, _ => False
theorem od_int {C : Int → Int → Prop} {g : Int → Int → Int} : OpD Sy X (rI C fun i j => .int (g i j)) (fInt g C) := fun N H v u x y R Q h dx dy fr sn hK sl q => by
  unfold fInt at h
  split at h
  · cases dx
    cases dy
    exact ⟨_, _, rfl, rfl, h.1, q _ _ H h.2 (.refl _) (.int _)⟩
  · exact h.elim
theorem od_int0 {g : Int → Int → Int} : OpD Sy X (rI0 fun i j => .int (g i j)) (fInt0 g) := fun N H v u x y R Q h dx dy fr sn hK sl q => by
  unfold fInt0 at h
  split at h
  · cases dx
    cases dy
    exact ⟨_, _, rfl, rfl, q _ _ H h (.refl _) (.int _)⟩
  · exact h.elim
abbrev fAdd := fInt0 fun i j => i + j
abbrev fSub := fInt0 fun i j => i - j
abbrev fMul := fInt (fun i j => i * j) CMulX
abbrev fFdv := fInt (fun i j => i.fdiv j) fun _ j => j ≠ 0 ∧ j.natAbs < 2 ^ 9000
abbrev fMod := fInt (fun i j => i % j) fun _ j => 0 < j
abbrev fPow := fInt (fun i j => i ^ j.toNat) CPow
/-- int + int, tuple + tuple, text + text, list + list -/
def fAddG : PyData → PyData → RD → Prop := fun x y R => match x, y with
  | .int i, .int j => R (.int (i + j))
  | .tuple a, .tuple b => a.length + b.length ≤ 16000000 ∧ R (.tuple (a ++ b))
  | .str a, .str b => a.length + b.length ≤ sizeLine ∧ R (.str (a ++ b))
  | .list a, .list b => a.length + b.length ≤ 16000000 ∧ R (.list (a ++ b))
  | _, _ => False
theorem rCatA_imp {K : PySem.W.Frag} {x y : V} {H : Hp} {Q Q' : VK} (i : ∀ z H', Q z H' → Q' z H') (h : rCatA K x y H Q) : rCatA K x y H Q' := by
  obtain ⟨a, b, xs, ys, h1, h2, h3, h4, h5, h6, h7, h8⟩ := h
  exact ⟨a, b, xs, ys, h1, h2, h3, h4, h5, fun z => i _ _ (h6 z), fun z z2 => i _ _ (h7 z z2), fun z z2 p hp => i _ _ (h8 z z2 p hp)⟩
theorem op_addG : OpR X (binaryOp .Add) (fun x y H Q => rI0 (fun i j => .int (i + j)) x y H Q ∨ (rCatA X.K x y H Q ∨ ((fun x y H Q => ∃ i j, x = V.str i ∧ y = V.str j ∧ i.length + j.length ≤ sizeLine ∧ Q (.str (i ++ j)) H) x y H Q ∨ rCat x y H Q))) := op_add.or (op_catA.or (op_add_str.or op_cat))
theorem od_addG : OpD ⟨false, Tz, mz⟩ X (fun x y H Q => rI0 (fun i j => .int (i + j)) x y H Q ∨ (rCatA X.K x y H Q ∨ ((fun x y H Q => ∃ i j, x = V.str i ∧ y = V.str j ∧ i.length + j.length ≤ sizeLine ∧ Q (.str (i ++ j)) H) x y H Q ∨ rCat x y H Q))) fAddG := fun N H v u x y R Q h dx dy fr sn hK sl q => by
  unfold fAddG at h
  split at h
  · cases dx
    cases dy
    exact .inl ⟨_, _, rfl, rfl, q _ _ H h (.refl _) (.int _)⟩
  · exact .inr (.inl (hK ▸ dv_cat (N := N) (Q := Q) dx dy h.1 fun z H' s dz => q _ z H' h.2 s dz))
  · cases dx
    cases dy
    exact .inr (.inr (.inl ⟨_, _, rfl, rfl, h.1, q _ _ H h.2 (.refl _) (.str _)⟩))
  · cases dx with
    | lst n1 e1 a1 =>
      cases dy with
      | lst n2 e2 a2 =>
        have l1 := a1.length
        have l2 := a2.length
        refine .inr (.inr (.inr ⟨_, _, _, _, rfl, rfl, e1, e2, by rw [sizeLine_eq]; omega, fun p hp => ?_⟩))
        exact q _ _ _ h.2 (same_new hp _) (.lst (sl rfl p hp) upd_same ((a1.app a2).same (same_new hp _)))
  · exact h.elim
/-- .. where lists stand apart -/
def fAddS : PyData → PyData → RD → Prop := fun x y R => match x, y with
  | .int i, .int j => R (.int (i + j))
  | .tuple a, .tuple b => a.length + b.length ≤ 16000000 ∧ R (.tuple (a ++ b))
  | .str a, .str b => a.length + b.length ≤ sizeLine ∧ R (.str (a ++ b))
  | _, _ => False
theorem od_addS : OpD Sy X (fun x y H Q => rI0 (fun i j => .int (i + j)) x y H Q ∨ (rCatA X.K x y H Q ∨ ((fun x y H Q => ∃ i j, x = V.str i ∧ y = V.str j ∧ i.length + j.length ≤ sizeLine ∧ Q (.str (i ++ j)) H) x y H Q ∨ rCat x y H Q))) fAddS := fun N H v u x y R Q h dx dy fr sn hK sl q => by
  unfold fAddS at h
  split at h
  · cases dx
    cases dy
    exact .inl ⟨_, _, rfl, rfl, q _ _ H h (.refl _) (.int _)⟩
  · exact .inr (.inl (hK ▸ dv_cat (N := N) (Q := Q) dx dy h.1 fun z H' s dz => q _ z H' h.2 s dz))
  · cases dx
    cases dy
    exact .inr (.inr (.inl ⟨_, _, rfl, rfl, h.1, q _ _ H h.2 (.refl _) (.str _)⟩))
  · exact h.elim
/-- numbers, with True and False -/
def fSubG : PyData → PyData → RD → Prop := fun x y R => match x, y with
  | .int i, .int j => R (.int (i - j))
  | .bool b, .int j => R (.int (bz b - j))
  | .int i, .bool b => R (.int (i - bz b))
  | _, _ => False
/-- 1 << k -/
def fShl : PyData → PyData → RD → Prop := fun x y R => match x, y with
  | .int i, .int j => i = 1 ∧ 0 ≤ j ∧ j ≤ 134217727 ∧ R (.int (2 ^ j.toNat))
  | _, _ => False
theorem od_shl : OpD Sy X (fun x y H Q => ∃ k : Nat, x = .int 1 ∧ y = .int (k : Int) ∧ k ≤ 134217727 ∧ Q (.int (2 ^ k)) H) fShl := fun N H v u x y R Q h dx dy fr sn hK sl q => by
  unfold fShl at h
  split at h
  · rename_i i j
    obtain ⟨rfl, h0, h1, h⟩ := h
    cases dx
    cases dy
    obtain ⟨k, rfl⟩ := Int.eq_ofNat_of_zero_le h0
    exact ⟨k, rfl, rfl, by omega, q _ _ H h (.refl _) (.int _)⟩
  · exact h.elim
/-! comparisons -/
def fCI (g : Int → Int → Bool) : PyData → PyData → (Bool → Prop) → Prop := fun x y R => match x, y with
  | .int i, .int j => R (g i j)
  | _, _ => False
theorem cd_int {g : Int → Int → Bool} : CmpD X (rI0 fun i j => .bl (g i j)) (fCI g) := fun N H v u x y R Q h dx dy hK q => by
  unfold fCI at h
  split at h
  · cases dx
    cases dy
    exact ⟨_, _, rfl, rfl, q _ h⟩
  · exact h.elim
abbrev fLt := fCI fun i j => decide (i < j)
abbrev fLe := fCI fun i j => decide (i ≤ j)
abbrev fGt := fCI fun i j => decide (j < i)
abbrev fGe := fCI fun i j => decide (j ≤ i)
/-- ==, by data -/
def fEq : PyData → PyData → (Bool → Prop) → Prop := fun x y R => match x, y with
  | .int i, .int j => R (decide (i = j))
  | .str i, .str j => R (decide (i = j))
  | .bool i, .bool j => R (decide (i = j))
  | x, y => SeqAt.shaped x = true ∧ SeqAt.shaped y = true ∧ R (PyData.eqv x y)
def fNe : PyData → PyData → (Bool → Prop) → Prop := fun x y R => fEq x y fun b => R (!b)
mutual
theorem Dv.dp {N : Bn} {H : Hp} : ∀ (d : PyData) (v : V), Dv N H v d → d.canLay0 = true → Dp N.K H v d
  | .none, _, h, _ => by cases h; exact .non
  | .bool b, _, h, _ => by cases h; exact .bl b
  | .int i, _, h, _ => by cases h; exact .int i
  | .str x, _, h, _ => by cases h; exact .str x
  | .list ds, _, h, c => by
    cases h with
    | lst n e all => exact .lst (.of e) (DvAll.dp ds _ all (by unfold PyData.canLay0 at c; exact c))
  | .tuple ds, _, h, c => by
    cases h with
    | tup e all => exact .tup e.sq (DvAll.dp ds _ all (by unfold PyData.canLay0 at c; exact c))
  | .dict ds, _, h, c => by
    unfold PyData.canLay0 at c
    cases c
theorem DvAll.dp {N : Bn} {H : Hp} : ∀ (ds : List PyData) (vs : List V), DvAll N H vs ds → PyData.canLayAll0 ds = true → DpAll N.K H vs ds
  | [], _, h, _ => by cases h; exact .nil
  | d :: ds, _, h, c => by
    cases h with
    | cons a b =>
      unfold PyData.canLayAll0 at c
      obtain ⟨c1, c2⟩ := Bool.and_eq_true_iff.mp c
      exact .cons (Dv.dp d _ a c1) (DvAll.dp ds _ b c2)
end
theorem dp_of {K : PySem.W.Frag} {N : Bn} {H : Hp} {v : V} {d : PyData} (hK : N.K = K) (h : Dv N H v d) (s : SeqAt.shaped d = true) : Dp K H v d := hK ▸ Dv.dp d v h (SeqAt.canLay_of_shaped s)
theorem op_eqG {k : Nat} (hr : Room k X.A) : OpR X (compareOp .Eq) (fun x y H Q => rEq x y H Q ∨ rEqD X.K x y H Q) := op_eq.or (op_eqD (by have := hr.units; omega))
theorem op_neG {k : Nat} (hr : Room k X.A) : OpR X (compareOp .NotEq) (fun x y H Q => rNe x y H Q ∨ rNeD X.K x y H Q) := op_ne.or (op_neD (by have := hr.units; omega))
theorem dec_vi {i j : Int} : decide (V.int i = V.int j) = decide (i = j) := by rw [Bool.eq_iff_iff]; simp
theorem dec_vs {i j : Str} : decide (V.str i = V.str j) = decide (i = j) := by rw [Bool.eq_iff_iff]; simp
theorem dec_vb {i j : Bool} : decide (V.bl i = V.bl j) = decide (i = j) := by rw [Bool.eq_iff_iff]; simp
theorem cd_eq : CmpD X (fun x y H Q => rEq x y H Q ∨ rEqD X.K x y H Q) fEq := fun N H v u x y R Q h dx dy hK q => by
  unfold fEq at h
  split at h
  · cases dx
    cases dy
    exact .inl ⟨rfl, by rw [dec_vi]; exact q _ h⟩
  · cases dx
    cases dy
    exact .inl ⟨rfl, by rw [dec_vs]; exact q _ h⟩
  · cases dx
    cases dy
    exact .inl ⟨rfl, by rw [dec_vb]; exact q _ h⟩
  · exact .inr ⟨x, y, dp_of hK dx h.1, dp_of hK dy h.2.1, h.1, h.2.1, q _ h.2.2⟩
theorem cd_ne : CmpD X (fun x y H Q => rNe x y H Q ∨ rNeD X.K x y H Q) fNe := fun N H v u x y R Q h dx dy hK q => by
  unfold fNe fEq at h
  split at h
  · cases dx
    cases dy
    exact .inl ⟨rfl, by rw [dec_vi]; exact q _ h⟩
  · cases dx
    cases dy
    exact .inl ⟨rfl, by rw [dec_vs]; exact q _ h⟩
  · cases dx
    cases dy
    exact .inl ⟨rfl, by rw [dec_vb]; exact q _ h⟩
  · exact .inr ⟨x, y, dp_of hK dx h.1, dp_of hK dy h.2.1, h.1, h.2.1, q _ h.2.2⟩
/-- is None -/
def isNon : PyData → Bool
  | .none => true
  | _ => false
def fIsN : PyData → PyData → (Bool → Prop) → Prop := fun x y R => isNon y = true ∧ R (isNon x)
def fNotN : PyData → PyData → (Bool → Prop) → Prop := fun x y R => isNon y = true ∧ R (!isNon x)
theorem non_dec {N : Bn} {H : Hp} {v : V} {d : PyData} (h : Dv N H v d) : decide (v = .non) = isNon d := by
  cases h <;> first | rfl | (rw [Bool.eq_iff_iff]; simp [isNon])
theorem cd_isN : CmpD X (fun x y H Q => y = .non ∧ Q (.bl (decide (x = .non))) H) fIsN := fun N H v u x y R Q h dx dy hK q => by
  cases dy <;> first | (exact ⟨rfl, by rw [non_dec dx]; exact q _ h.2⟩) | cases h.1
theorem cd_notN : CmpD X (fun x y H Q => y = .non ∧ Q (.bl (!decide (x = .non))) H) fNotN := fun N H v u x y R Q h dx dy hK q => by
  cases dy <;> first | (exact ⟨rfl, by rw [non_dec dx]; exact q _ h.2⟩) | cases h.1
/-! subscripts -/
def atD (ds : List PyData) (i : Int) : Option PyData := (ixN ds.length i).bind fun j => ds[j]?
def fIx : PyData → PyData → RD → Prop := fun x y R => match x, y with
  | .tuple ds, .int i => match atD ds i with
    | some d => R d
    | none => False
  | .list ds, .int i => match atD ds i with
    | some d => R d
    | none => False
  | _, _ => False
theorem atD_get {N : Bn} {H : Hp} {xs : List V} {ds : List PyData} {i : Int} {d : PyData} (a : DvAll N H xs ds) (h : atD ds i = some d) : ∃ v, atI xs i = some v ∧ Dv N H v d := by
  unfold atD at h
  unfold atI
  rw [a.length]
  cases e : ixN ds.length i with
  | none => rw [e] at h; cases h
  | some j =>
    rw [e] at h
    obtain ⟨v, h1, h2⟩ := a.get (i := j) h
    exact ⟨v, h1, h2⟩
theorem od_ix : OpD Sy X (rIx X.K) fIx := fun N H v u x y R Q h dx dy fr sn hK sl q => by
  unfold fIx at h
  split at h
  · split at h
    · rename_i e
      cases dy
      cases dx with
      | tup ea all =>
        obtain ⟨z, h1, h2⟩ := atD_get all e
        exact .inr (.inl ⟨_, _, _, z, rfl, rfl, hK ▸ ea.sq, h1, q _ z H h (.refl _) h2⟩)
    · exact h.elim
  · split at h
    · rename_i e
      cases dy
      cases dx with
      | lst nn ea all =>
        obtain ⟨z, h1, h2⟩ := atD_get all e
        exact .inl ⟨_, _, _, z, rfl, rfl, .of ea, h1, q _ z H h (.refl _) h2⟩
    · exact h.elim
  · exact h.elim
/-- x[k], k written, from 0 on -/
def nthL : List PyData → Nat → RD → Prop
  | [], _, _ => False
  | d :: _, 0, R => R d
  | _ :: r, n + 1, R => nthL r n R
def fNth (k : Nat) : PyData → RD → Prop := fun x R => match x with
  | .tuple ds => nthL ds k R
  | .list ds => nthL ds k R
  | _ => False
theorem nthL_get : ∀ {ds : List PyData} {k : Nat} {R : RD}, nthL ds k R → ∃ d, ds[k]? = some d ∧ R d
  | d :: r, 0, R, h => ⟨d, rfl, h⟩
  | _ :: r, n + 1, R, h => by
    obtain ⟨d, a, b⟩ := nthL_get (ds := r) h
    exact ⟨d, by simpa using a, b⟩
theorem nth_ix {k : Nat} {x : PyData} {R : RD} (h : fNth k x R) : fIx x (.int (k : Int)) R := by
  have at_ : ∀ ds : List PyData, nthL ds k R → ∃ d, atD ds (k : Int) = some d ∧ R d := fun ds h => by
    obtain ⟨d, a, b⟩ := nthL_get h
    refine ⟨d, ?_, b⟩
    have hk := (List.getElem?_eq_some_iff.mp a).1
    unfold atD
    have e : ixN ds.length (k : Int) = some k := by
      unfold ixN
      rw [if_pos (by omega), if_pos (by omega), Int.toNat_natCast]
    rw [e]
    exact a
  unfold fNth at h
  split at h
  · obtain ⟨d, a, b⟩ := at_ _ h
    show (match atD _ (k : Int) with | some d => R d | none => False)
    rw [a]
    exact b
  · obtain ⟨d, a, b⟩ := at_ _ h
    show (match atD _ (k : Int) with | some d => R d | none => False)
    rw [a]
    exact b
  · exact h.elim
end
end Ld

namespace Ld
open PySem PySem.Spec PyProof.Rows L2 Lw
section
variable {Sy : Md} {X : Cx} {E : L2.St → XK} {e : Expr} {st : Stmt} {ta : TD} {tr : TAD} {i n : Nat}
theorem d_nth {z : Int} {k : Nat} (h : PE X e (tOp (rIx X.K) (LE Sy X E ta) (tC (.int z)))) (hz : z = (k : Int) := by rfl) : PE X e (LE Sy X E (dUn (fNth k) ta)) := h.weak fun σ H Q ⟨w, N, O, F, ρ, R, Ex, en, t, q, qx⟩ => by
  refine ⟨w, N, O, F, ρ, _, Ex, en, t, fun x v H1 r1 k1 dx => ?_, qx⟩
  have en1 := en.step k1
  subst hz
  exact od_ix N H1 v (.int k) x (.int k) R Q (nth_ix r1) dx (.int _) en1.ok.fr en1.ok.sn en1.ok.kk en1.ok.sl fun d z H' hr s dz => q d z H' hr (k1.trans (.of s)) dz
/-! slices -/
abbrev TOD := Env → (Option Int → Prop) → XD → Prop
def dNoP : TOD := fun _ R _ => R none
def dPart (t : TD) : TOD := fun ρ R Ex => t ρ (fun d => match d with
  | .int i => R (some i)
  | _ => False) Ex
def LO (Sy : Md) (X : Cx) (E : L2.St → XK) (t : TOD) : TO := fun σ H Q => ∃ (w : Wx) (N : Bn) (O : Nat → Option Addr) (F : List (V × PyData)) (ρ : Env) (R : Option Int → Prop) (Ex : XD), EnvR (gnd Sy X) w N O F H σ ρ ∧ t ρ R Ex ∧
  (∀ b H', R b → Stp w H H' → Q b H') ∧ (∀ x cls dx H', Ex x → Stp w H H' → ExAt X.mg N H' cls dx x → E σ cls dx H')
theorem _root_.L2.PO.weak {X : Cx} {e : Option Expr} {t t' : TO} (h : PO X e t) (i : ∀ σ H Q, t' σ H Q → t σ H Q) : PO X e t' := ⟨fun pins s σ H Q I q => h.run pins s σ H Q I (i σ H Q q)⟩
theorem dp_none : PO X none (LO Sy X E dNoP) := po_none.weak fun σ H Q ⟨w, N, O, F, ρ, R, Ex, en, t, q, qx⟩ => q none H t (.refl _ _)
theorem dp_some {e : Expr} (h : PE X e (LE Sy X E ta)) : PO X (some e) (LO Sy X E (dPart ta)) := (po_some h).weak fun σ H Q ⟨w, N, O, F, ρ, R, Ex, en, t, q, qx⟩ => by
  refine ⟨w, N, O, F, ρ, _, Ex, en, t, fun x v H1 r1 k1 dx => ?_, qx⟩
  split at r1
  · cases dx
    exact ⟨_, rfl, q _ _ r1 k1⟩
  · exact r1.elim
/-- t[a:b] of a tuple or a list -/
def fSl (x : PyData) (lo hi : Option Int) (R : RD) : Prop := match x with
  | .tuple ds => R (.tuple (Lw.cutD ds lo hi))
  | .list ds => R (.list (Lw.cutD ds lo hi))
  | _ => False
def dSl (t : TD) (lo hi : TOD) : TD := fun ρ R Ex => t ρ (fun x => lo ρ (fun l => hi ρ (fun h => fSl x l h R) Ex) Ex) Ex
theorem sl_G : SlR X (fun x lo hi H Q => rSlA X.K x lo hi H Q ∨ rSlL X.K x lo hi H Q) := sl_tupA.or sl_list
theorem d_sl {to th : TOD} (h : PE X e (tSl (fun x lo hi H Q => rSlA X.K x lo hi H Q ∨ rSlL X.K x lo hi H Q) (LE ⟨false, Tz, mz⟩ X E ta) (LO ⟨false, Tz, mz⟩ X E to) (LO ⟨false, Tz, mz⟩ X E th))) : PE X e (LE ⟨false, Tz, mz⟩ X E (dSl ta to th)) := h.weak fun σ H Q ⟨w, N, O, F, ρ, R, Ex, en, t, q, qx⟩ => by
  refine ⟨w, N, O, F, ρ, _, Ex, en, t, fun x v H1 r1 k1 dx => ?_, qx⟩
  have en1 := en.step k1
  refine ⟨w, N, O, F, ρ, _, Ex, en1, r1, fun lo H2 r2 k2 => ?_, fun x cls dx H' hx k hh => qx x cls dx H' hx (k1.trans k) hh⟩
  have en2 := en1.step k2
  refine ⟨w, N, O, F, ρ, _, Ex, en2, r2, fun hi H3 r3 k3 => ?_, fun x cls dx H' hx k hh => qx x cls dx H' hx ((k1.trans k2).trans k) hh⟩
  have en3 := en2.step k3
  have dx3 := dv_step dx en.hw (k2.trans k3)
  have k13 := (k1.trans k2).trans k3
  unfold fSl at r3
  split at r3
  · have hK : N.K = X.K := en.ok.kk
    exact .inl (hK ▸ dv_cut (N := N) (Q := Q) dx3 fun u H' s du => q _ u H' r3 (k13.trans (.of s)) du)
  · cases dx3 with
    | lst nn ea all =>
      refine .inr ⟨_, _, rfl, .of ea, fun p hp => ?_⟩
      refine q _ _ _ r3 (k13.trans (.of (same_new hp _))) (.lst (en3.ok.sl rfl p hp) upd_same ?_)
      unfold Lw.cutD cutV
      rw [← all.length]
      exact ((all.same (same_new hp _)).drop _).take _
  · exact r3.elim
def fSlS (x : PyData) (lo hi : Option Int) (R : RD) : Prop := match x with
  | .tuple ds => R (.tuple (Lw.cutD ds lo hi))
  | _ => False
def dSlS (t : TD) (lo hi : TOD) : TD := fun ρ R Ex => t ρ (fun x => lo ρ (fun l => hi ρ (fun h => fSlS x l h R) Ex) Ex) Ex
theorem d_slS {to th : TOD} (h : PE X e (tSl (rSlA X.K) (LE Sy X E ta) (LO Sy X E to) (LO Sy X E th))) : PE X e (LE Sy X E (dSlS ta to th)) := h.weak fun σ H Q ⟨w, N, O, F, ρ, R, Ex, en, t, q, qx⟩ => by
  refine ⟨w, N, O, F, ρ, _, Ex, en, t, fun x v H1 r1 k1 dx => ?_, qx⟩
  have en1 := en.step k1
  refine ⟨w, N, O, F, ρ, _, Ex, en1, r1, fun lo H2 r2 k2 => ?_, fun x cls dx H' hx k hh => qx x cls dx H' hx (k1.trans k) hh⟩
  have en2 := en1.step k2
  refine ⟨w, N, O, F, ρ, _, Ex, en2, r2, fun hi H3 r3 k3 => ?_, fun x cls dx H' hx k hh => qx x cls dx H' hx ((k1.trans k2).trans k) hh⟩
  have en3 := en2.step k3
  have dx3 := dv_step dx en.hw (k2.trans k3)
  have k13 := (k1.trans k2).trans k3
  unfold fSlS at r3
  split at r3
  · have hK : N.K = X.K := en.ok.kk
    exact (hK ▸ dv_cut (N := N) (Q := Q) dx3 fun u H' s du => q _ u H' r3 (k13.trans (.of s)) du)
  · exact r3.elim
/-- t[::-1] of a tuple -/
def fBack : PyData → RD → Prop := fun x R => match x with
  | .tuple ds => R (.tuple ds.reverse)
  | _ => False
theorem d_backT (h : PE X e (tBackT X.K (LE Sy X E ta))) : PE X e (LE Sy X E (dUn fBack ta)) := h.weak fun σ H Q ⟨w, N, O, F, ρ, R, Ex, en, t, q, qx⟩ => by
  refine ⟨w, N, O, F, ρ, _, Ex, en, t, fun x v H1 r1 k1 dx => ?_, qx⟩
  unfold fBack at r1
  split at r1
  · cases dx with
    | tup ea all => exact ⟨_, _, rfl, (show N.K = X.K from en.ok.kk) ▸ ea.sq, fun p hp => q _ _ _ r1 (k1.trans (.of (same_new hp _))) (.tup (.of upd_same) ((all.same (same_new hp _)).rev))⟩
  · exact r1.elim
/-- .. of a list -/
def fBackL : PyData → RD → Prop := fun x R => match x with
  | .list ds => R (.list ds.reverse)
  | _ => False
theorem d_backL (h : PE X e (tRevL X.K (LE ⟨false, Tz, mz⟩ X E ta))) : PE X e (LE ⟨false, Tz, mz⟩ X E (dUn fBackL ta)) := h.weak fun σ H Q ⟨w, N, O, F, ρ, R, Ex, en, t, q, qx⟩ => by
  refine ⟨w, N, O, F, ρ, _, Ex, en, t, fun x v H1 r1 k1 dx => ?_, qx⟩
  unfold fBackL at r1
  split at r1
  · cases dx with
    | lst nn ea all => exact ⟨_, _, rfl, .of ea, fun p hp => q _ _ _ r1 (k1.trans (.of (same_new hp _))) (.lst ((en.step k1).ok.sl rfl p hp) upd_same ((all.same (same_new hp _)).rev))⟩
  · exact r1.elim
def fNeg : PyData → RD → Prop := fun x R => match x with
  | .int i => R (.int (-i))
  | _ => False
theorem ud_negI : UnD Sy X (rU fun i => .int (-i)) fNeg := fun N H v x R Q h dx fr sn hK sl q => by
  unfold fNeg at h
  split at h
  · cases dx
    exact ⟨_, rfl, q _ _ H h (.refl _) (.int _)⟩
  · exact h.elim
def fBits : PyData → RD → Prop := fun x R => match x with
  | .int i => R (.int (Builtin.Int.intBits i : Nat))
  | _ => False
theorem d_bits (h : PE X e (tBits (LE Sy X E ta))) : PE X e (LE Sy X E (dUn fBits ta)) := h.weak fun σ H Q ⟨w, N, O, F, ρ, R, Ex, en, t, q, qx⟩ => by
  refine ⟨w, N, O, F, ρ, _, Ex, en, t, fun x v H1 r1 k1 dx => ?_, qx⟩
  unfold fBits at r1
  split at r1
  · cases dx
    exact ⟨_, rfl, q _ _ _ r1 k1 (.int _)⟩
  · exact r1.elim
/-! ### built-ins -/
def fLen : List PyData → RD → Prop := fun ds R => match ds with
  | [.list xs] => R (.int xs.length)
  | [.tuple xs] => R (.int xs.length)
  | [.str x] => x.length ≤ sizeLine ∧ R (.int x.length)
  | _ => False
theorem bd_len : CallD Sy X (fun xs H Q => ∃ x n, xs = [x] ∧ LenV X.K x H n ∧ Q (.int n) H) fLen := fun N H vs ds R Q h dv fr sn hK sl q => by
  unfold fLen at h
  split at h
  · cases dv with
    | cons a b =>
      cases b
      cases a with
      | lst nn ea all => exact ⟨_, _, rfl, .inl ⟨_, .of ea, rfl⟩, q _ _ H h (.refl _) (by rw [all.length]; exact .int _)⟩
  · cases dv with
    | cons a b =>
      cases b
      cases a with
      | tup ea all => exact ⟨_, _, rfl, .inr ⟨_, hK ▸ ea.sq, rfl⟩, q _ _ H h (.refl _) (by rw [all.length]; exact .int _)⟩
  · cases dv with
    | cons a b =>
      cases b
      cases a
      exact ⟨_, _, rfl, ⟨h.1, rfl⟩, q _ _ H h.2 (.refl _) (.int _)⟩
  · exact h.elim
def fI1 (g : Int → Int) : List PyData → RD → Prop := fun ds R => match ds with
  | [.int i] => R (.int (g i))
  | _ => False
def fI2 (g : Int → Int → Int) : List PyData → RD → Prop := fun ds R => match ds with
  | [.int i, .int j] => R (.int (g i j))
  | _ => False
theorem bd_i2 {g : Int → Int → Int} : CallD Sy X (fun xs H Q => ∃ i j, xs = [.int i, .int j] ∧ Q (.int (g i j)) H) (fI2 g) := fun N H vs ds R Q h dv fr sn hK sl q => by
  unfold fI2 at h
  split at h
  · cases dv with
    | cons a b =>
      cases a
      cases b with
      | cons a b =>
        cases a
        cases b
        exact ⟨_, _, rfl, q _ _ H h (.refl _) (.int _)⟩
  · exact h.elim
theorem bd_i1 {g : Int → Int} : CallD Sy X (fun xs H Q => ∃ i, xs = [.int i] ∧ Q (.int (g i)) H) (fI1 g) := fun N H vs ds R Q h dv fr sn hK sl q => by
  unfold fI1 at h
  split at h
  · cases dv with
    | cons a b =>
      cases a
      cases b
      exact ⟨_, rfl, q _ _ H h (.refl _) (.int _)⟩
  · exact h.elim
abbrev fAbs := fI1 fun i => if i < 0 then -i else i
abbrev fMax := fI2 fun i j => if j > i then j else i
abbrev fMin := fI2 fun i j => if j < i then j else i
abbrev fGcd := fI2 fun a b => ((Nat.gcd a.natAbs b.natAbs : Nat) : Int)
def fIntO : List PyData → RD → Prop := fun ds R => match ds with
  | [.int i] => R (.int i)
  | [.bool k] => R (.int (if k then 1 else 0))
  | _ => False
theorem bd_int : CallD Sy X (fun xs H Q => (∃ i, xs = [.int i] ∧ Q (.int i) H) ∨ ∃ k, xs = [.bl k] ∧ Q (.int (if k then 1 else 0)) H) fIntO := fun N H vs ds R Q h dv fr sn hK sl q => by
  unfold fIntO at h
  split at h
  · cases dv with
    | cons a b =>
      cases a
      cases b
      exact .inl ⟨_, rfl, q _ _ H h (.refl _) (.int _)⟩
  · cases dv with
    | cons a b =>
      cases a
      cases b
      exact .inr ⟨_, rfl, q _ _ H h (.refl _) (.int _)⟩
  · exact h.elim
def fIsqrt : List PyData → RD → Prop := fun ds R => match ds with
  | [.int a] => 0 ≤ a ∧ a.natAbs < 2 ^ 13000 ∧ R (.int (isq a))
  | _ => False
theorem bd_isqrt : CallD Sy X (fun vs H Q => ∃ a : Int, vs = [.int a] ∧ 0 ≤ a ∧ a.natAbs < 2 ^ 13000 ∧ Q (.int ((Float64.isqrt a.toNat : Nat) : Int)) H) fIsqrt := fun N H vs ds R Q h dv fr sn hK sl q => by
  unfold fIsqrt at h
  split at h
  · cases dv with
    | cons a b =>
      cases a
      cases b
      exact ⟨_, rfl, h.1, h.2.1, q _ _ H h.2.2 (.refl _) (.int _)⟩
  · exact h.elim
def fDivmod : List PyData → RD → Prop := fun ds R => match ds with
  | [.int i, .int j] => CDivP i j ∧ R (.tuple [.int (i / j), .int (i % j)])
  | _ => False
theorem bd_divmod : CallD Sy X (fun xs H Q => ∃ i j, xs = [.int i, .int j] ∧ CDivP i j ∧ ∀ p, H p = none → Q (.ref p) (upd H p (.tup [.int (i / j), .int (i % j)]))) fDivmod := fun N H vs ds R Q h dv fr sn hK sl q => by
  unfold fDivmod at h
  split at h
  · cases dv with
    | cons a b =>
      cases a
      cases b with
      | cons a b =>
        cases a
        cases b
        exact ⟨_, _, rfl, h.1, fun p hp => q _ _ _ h.2 (same_new hp _) (.tup (.of upd_same) (.cons (.int _) (.cons (.int _) .nil)))⟩
  · exact h.elim
/-- what may be told as a text -/
def shows (d : PyData) : Prop := d.showable = true ∧ d.depth ≤ 100 ∧ d.shown.length ≤ sizeLine
def fRepr : List PyData → RD → Prop := fun ds R => match ds with
  | [d] => d.hasDict = false ∧ shows d ∧ R (.str d.shown)
  | _ => False
theorem bd_repr : CallD Sy X (rRepr X.K) fRepr := fun N H vs ds R Q h dv fr sn hK sl q => by
  unfold fRepr at h
  split at h
  · cases dv with
    | cons a b =>
      cases b
      exact ⟨N, _, _, hK, rfl, a, ⟨h.2.1.1, h.2.1.2.1, h.2.1.2.2, fun z => by rw [h.1] at z; cases z⟩, q _ _ H h.2.2 (.refl _) (.str _)⟩
  · exact h.elim
/-- .. where lists and dicts stand apart -/
def fReprS : List PyData → RD → Prop := fun ds R => match ds with
  | [d] => shows d ∧ R (.str d.shown)
  | _ => False
theorem bd_reprS : CallD ⟨true, Tz, true⟩ X (rRepr X.K) fReprS := fun N H vs ds R Q h dv fr sn hK sl q => by
  unfold fReprS at h
  split at h
  · cases dv with
    | cons a b =>
      cases b
      exact ⟨N, _, _, hK, rfl, a, ⟨h.1.1, h.1.2.1, h.1.2.2, fun _ => sn rfl⟩, q _ _ H h.2 (.refl _) (.str _)⟩
  · exact h.elim
def boolsOf : List PyData → Option (List Bool)
  | [] => some []
  | .bool b :: r => match boolsOf r with
    | some bs => some (b :: bs)
    | none => none
  | _ => none
theorem bools_of {N : Bn} {H : Hp} : ∀ {vs : List V} {ds : List PyData} {bs : List Bool}, DvAll N H vs ds → boolsOf ds = some bs → vs = bs.map V.bl
  | _, [], bs, h, e => by
    cases h
    cases e
    rfl
  | _, d :: r, bs, h, e => by
    cases h with
    | cons a b =>
      unfold boolsOf at e
      split at e
      · rename_i hq
        cases hq
      · rename_i b0 r0 e0
        cases e0
        cases a
        cases z : boolsOf r with
        | none => rw [z] at e; cases e
        | some cs =>
          rw [z] at e
          cases e
          rw [bools_of b z]
          rfl
      · cases e
def fBools (g : List Bool → Bool) : List PyData → RD → Prop := fun ds R => match ds with
  | [.list xs] => match boolsOf xs with
    | some bs => R (.bool (g bs))
    | none => False
  | _ => False
theorem bd_bools {g : List Bool → Bool} : CallD Sy X (fun vs H Q => ∃ (a : Addr) (bs : List Bool), vs = [V.ref a] ∧ SqL X.K H a (bs.map V.bl) ∧ Q (.bl (g bs)) H) (fBools g) := fun N H vs ds R Q h dv fr sn hK sl q => by
  unfold fBools at h
  split at h
  · split at h
    · rename_i e
      cases dv with
      | cons a b =>
        cases b
        cases a with
        | lst nn ea all =>
          have := bools_of all e
          subst this
          exact ⟨_, _, rfl, .of ea, q _ _ H h (.refl _) (.bl _)⟩
    · exact h.elim
  · exact h.elim
abbrev fAll := fBools fun bs => bs.all id
abbrev fAny := fBools fun bs => bs.any id
/-- tuple(x) -/
def fTupO : List PyData → RD → Prop := fun ds R => match ds with
  | [.list xs] => R (.tuple xs)
  | [.tuple xs] => R (.tuple xs)
  | _ => False
theorem bd_tup : CallD Sy X (fun xs H Q => ∃ p ys, xs = [.ref p] ∧ ((SqL X.K H p ys ∧ ∀ l, H l = none → Q (.ref l) (upd H l (.tup ys))) ∨ (SqT X.K H p ys ∧ Q (.ref p) H))) fTupO := fun N H vs ds R Q h dv fr sn hK sl q => by
  unfold fTupO at h
  split at h
  · cases dv with
    | cons a b =>
      cases b
      cases a with
      | lst nn ea all => exact ⟨_, _, rfl, .inl ⟨.of ea, fun p hp => q _ _ _ h (same_new hp _) (.tup (.of upd_same) (all.same (same_new hp _)))⟩⟩
  · cases dv with
    | cons a b =>
      cases b
      cases a with
      | tup ea all => exact ⟨_, _, rfl, .inr ⟨hK ▸ ea.sq, q _ _ _ h (.refl _) (.tup ea all)⟩⟩
  · exact h.elim
/-- list(t) -/
def fLstO : List PyData → RD → Prop := fun ds R => match ds with
  | [.tuple xs] => R (.list xs)
  | _ => False
theorem bd_lst : CallD Sy X (fun xs H Q => ∃ p ys, xs = [.ref p] ∧ SqT X.K H p ys ∧ ∀ l, H l = none → l ≠ sysModules → Q (.ref l) (upd H l (.lst ys))) fLstO := fun N H vs ds R Q h dv fr sn hK sl q => by
  unfold fLstO at h
  split at h
  · cases dv with
    | cons a b =>
      cases b
      cases a with
      | tup ea all => exact ⟨_, _, rfl, hK ▸ ea.sq, fun p hp np => q _ _ _ h (same_new hp _) (.lst (fr p hp np) upd_same (all.same (same_new hp _)))⟩
  · exact h.elim
end
end Ld

namespace Ld
open PySem PySem.Spec PyProof.Rows L2 Lw
/-! ### a list of the def's own, in a slot -/
def sOwn (i : Nat) (ta : TAD) : TSD := fun D ρ => ta ρ (fun us => match datsOf us with
  | some ds => D.nx (putD ρ i (some (.own ds)))
  | none => False) (D.ex ρ)
def ownK (x : Option Sv) (K : List PyData → Prop) : Prop := match x with
  | some (.own ds) => K ds
  | _ => False
/-- x.append(e) -/
def sApp (i : Nat) (t : TD) : TSD := fun D ρ => ownK (slotD ρ i) fun ds => t ρ (fun d => ds.length < 16000000 ∧ D.nx (putD ρ i (some (.own (ds ++ [d]))))) (D.ex ρ)
/-- x.extend(e) -/
def sExt (i : Nat) (t : TD) : TSD := fun D ρ => ownK (slotD ρ i) fun ds => t ρ (fun d => match d with
  | .list es => ds.length + es.length < 16000000 ∧ D.nx (putD ρ i (some (.own (ds ++ es))))
  | _ => False) (D.ex ρ)
/-- x.insert(k, e) -/
def sIns (i : Nat) (ta : TAD) : TSD := fun D ρ => ownK (slotD ρ i) fun ds => ta ρ (fun us => match us with
  | [.dat (.int k), .dat d] => (ds.length < 16000000 ∧ 0 ≤ k ∧ k < 2 ^ 63) ∧ D.nx (putD ρ i (some (.own (ds.take k.toNat ++ [d] ++ ds.drop k.toNat))))
  | _ => False) (D.ex ρ)
/-- x[k] = e -/
def sPut (i : Nat) (t k : TD) : TSD := fun D ρ => t ρ (fun d => ownK (slotD ρ i) fun ds => k ρ (fun x => match x with
  | .int z => match ixN ds.length z with
    | some j => D.nx (putD ρ i (some (.own (ds.set j d))))
    | none => False
  | _ => False) (D.ex ρ)) (D.ex ρ)
/-- from now on it is data -/
def sFrz (i : Nat) : TSD := fun D ρ => ownK (slotD ρ i) fun ds => D.nx (putD ρ i (some (.dat (.list ds))))
/-- reading it -/
def dOwnLen (i : Nat) : TD := fun ρ R _ => ownK (slotD ρ i) fun ds => R (.int ds.length)
def dOwnIx (i : Nat) (t : TD) : TD := fun ρ R Ex => ownK (slotD ρ i) fun ds => t ρ (fun x => match x with
  | .int z => match atD ds z with
    | some d => R d
    | none => False
  | _ => False) Ex
theorem ownK_of {x : Option Sv} {K : List PyData → Prop} (h : ownK x K) : ∃ ds, x = some (.own ds) ∧ K ds := by
  unfold ownK at h
  split at h
  · exact ⟨_, rfl, h⟩
  · exact h.elim
section
variable {base : Gnd} {w : Wx} {N0 N : Bn} {O : Nat → Option Addr} {F : Keep} {H0 H : Hp} {σ : L2.St} {ρ : Env} {l : Addr}
/-- a new list put into a slot as the def's own -/
theorem EnvB.own (b : EnvB base w N0 H0 N O F H σ ρ) (i : Nat) {xs : List V} {ds : List PyData} (hl : H l = none) (nl : l ≠ sysModules) (all : DvAll N H xs ds) :
    EnvB base w N0 H0 (Bn.add N l) (fun j => if j = i then some l else O j) F (upd H l (.lst xs)) (σ.set i (some (.ref l))) (putD ρ i (some (.own ds))) := by
  have e := b.e.ban (xs := xs) hl
  have ho : ∀ j, O j ≠ some l := fun j z => by
    obtain ⟨_, _, u, z2⟩ := b.e.ow j l z
    rw [hl] at z2
    cases z2
  have hw : ¬ w.has l := b.e.ok.new hl
  refine ⟨⟨e.ok, by rw [List.length_set, putD_len, e.len], fun j y hy => ?_, fun a c d h1 h2 => ?_, fun j a h1 => ?_, e.kept⟩, b.st.trans (.of (same_new hl _)), fun c hc => .inl (b.sub c hc), fun j a h1 => ?_, b.fr0, b.k0⟩
  · rcases slot_put ρ i j _ _ hy (by intro z; cases z) with ⟨rfl, z, lt⟩ | ⟨nj, z⟩
    · cases z
      refine ⟨.ref l, by rw [List.getElem?_set_self (by rw [e.len]; exact lt)], l, xs, rfl, if_pos rfl, upd_same, dvs_ban all hl⟩
    · obtain ⟨u, h1, h2⟩ := e.slot j y z
      refine ⟨u, by rw [List.getElem?_set_ne (fun z => nj z.symm)]; exact h1, ?_⟩
      cases y with
      | dat d => exact h2
      | own es =>
        obtain ⟨a, ys, r, o, q⟩ := h2
        exact ⟨a, ys, r, (if_neg nj).trans o, q⟩
      | well => exact h2
      | fn _ => exact h2
  · replace h1 : (if a = i then some l else O a) = some d := h1
    replace h2 : (if c = i then some l else O c) = some d := h2
    by_cases ca : a = i
    · by_cases cc : c = i
      · rw [ca, cc]
      · rw [if_pos ca] at h1
        rw [if_neg cc] at h2
        cases h1
        exact absurd h2 (ho c)
    · rw [if_neg ca] at h1
      by_cases cc : c = i
      · rw [if_pos cc] at h2
        cases h2
        exact absurd h1 (ho a)
      · rw [if_neg cc] at h2
        exact e.inj a c d h1 h2
  · replace h1 : (if j = i then some l else O j) = some a := h1
    by_cases cj : j = i
    · rw [if_pos cj] at h1
      cases h1
      exact ⟨.inr rfl, hw, _, upd_same⟩
    · rw [if_neg cj] at h1
      exact e.ow j a h1
  · replace h1 : (if j = i then some l else O j) = some a := h1
    by_cases cj : j = i
    · rw [if_pos cj] at h1
      cases h1
      refine ⟨fun u q => ?_, nl, fun z => b.e.ok.fr _ hl nl (b.sub _ z)⟩
      constructor
      · intro ht
        have := b.st.k0 ht _ u hw q
        rw [hl] at this
        cases this
      · apply Classical.byContradiction
        intro m
        have := b.st.kp _ u hw (fun ps z => m ⟨ps, z⟩) q
        rw [hl] at this
        cases this
    · rw [if_neg cj] at h1
      exact b.new j a h1
/-- the def's own list changed -/
theorem EnvB.ownSet (b : EnvB base w N0 H0 N O F H σ ρ) {i : Nat} {ds es : List PyData} (hs : slotD ρ i = some (.own ds)) {a : Addr} {xs ys : List V} (ho : O i = some a) (ha : H a = some (.lst xs)) (all : DvAll N H ys es) :
    EnvB base w N0 H0 N O F (upd H a (.lst ys)) σ (putD ρ i (some (.own es))) := by
  obtain ⟨na, wa, _⟩ := b.e.ow i a ho
  have hw0 : WlOk base w N (upd H a (.lst ys)) := b.e.ok.poke wa ha lst_ne
  refine ⟨⟨hw0, by rw [putD_len]; exact b.e.len, fun j y hy => ?_, b.e.inj, fun j c h1 => ?_, fun p hp => dv_poke (b.e.kept p hp) na ha⟩, ?_, b.sub, b.new, b.fr0, b.k0⟩
  · rcases slot_put ρ i j _ _ hy (by intro z; cases z) with ⟨rfl, z, lt⟩ | ⟨nj, z⟩
    · cases z
      obtain ⟨u, h1, a2, xs2, r, o2, _⟩ := b.e.slot j _ hs
      rw [ho] at o2
      cases o2
      exact ⟨u, h1, a, ys, r, ho, upd_same, dvs_poke all na ha⟩
    · obtain ⟨u, h1, h2⟩ := b.e.slot j y z
      refine ⟨u, h1, ?_⟩
      cases y with
      | dat d => exact dv_poke h2 na ha
      | own es =>
        obtain ⟨a2, ys2, r, o, q, al⟩ := h2
        have ne : a2 ≠ a := fun z => nj (b.e.inj j i a (by rw [← z]; exact o) ho)
        exact ⟨a2, ys2, r, o, by rw [upd_ne ne]; exact q, dvs_poke al na ha⟩
      | well => exact h2
      | fn _ => exact h2
  · obtain ⟨h2, h3, u, h4⟩ := b.e.ow j c h1
    by_cases cc : c = a
    · exact ⟨h2, h3, _, by rw [cc]; exact upd_same⟩
    · exact ⟨h2, h3, u, by rw [upd_ne cc]; exact h4⟩
  · exact stp_new b.st (b.new i a ho).1 wa ⟨_, ha⟩
/-- .. told as data from now on -/
theorem EnvB.frz (b : EnvB base w N0 H0 N O F H σ ρ) {i : Nat} {ds : List PyData} (hs : slotD ρ i = some (.own ds)) : ∃ N' O', EnvB base w N0 H0 N' O' F H σ (putD ρ i (some (.dat (.list ds)))) := by
  obtain ⟨v, h1, a, xs, rfl, ho, ha, all⟩ := b.e.slot i _ hs
  obtain ⟨h0a, nsa, n0a⟩ := b.new i a ho
  obtain ⟨na, wa, _⟩ := b.e.ow i a ho
  let N' : Bn := ⟨N.K, fun c => N c ∧ c ≠ a⟩
  have less : ∀ {v : V} {d : PyData}, Dv N H v d → Dv N' H v d := fun h => h.less (N' := N') rfl fun c z => z.1
  have lesss : ∀ {v : List V} {d : List PyData}, DvAll N H v d → DvAll N' H v d := fun h => DvAll.map (N := N) (N' := N') rfl (fun c u n q => ⟨q, fun z => n z.1⟩) (fun _ _ q => q) _ _ h
  refine ⟨N', fun j => if j = i then none else O j, ⟨⟨⟨fun p e => ?_, fun p hp np z => b.e.ok.fr p hp np z.1, fun z => ⟨b.e.ok.sn z, nsa.symm⟩, fun z p hp q => b.e.ok.sl z p hp q.1, b.e.ok.kk, fun p hp => ⟨b.e.ok.tn p hp, fun z => wa (.inr ⟨p, hp, z⟩)⟩, b.e.ok.tb, b.e.ok.tt, fun p ps hp c hs q => b.e.ok.to p ps hp c hs q.1⟩, by rw [putD_len]; exact b.e.len, fun j y hy => ?_, fun x y c h2 h3 => ?_, fun j c h2 => ?_, fun p hp => less (b.e.kept p hp)⟩, b.st, fun c hc => ⟨b.sub c hc, fun z => ?_⟩, fun j c h2 => ?_, b.fr0, b.k0⟩⟩
  · obtain ⟨z1, z2, z3⟩ := b.e.ok.wl p e
    exact ⟨⟨z1, fun z => wa (.inl (by rw [e, z]))⟩, z2, z3⟩
  · rcases slot_put ρ i j _ _ hy (by intro z; cases z) with ⟨rfl, z, lt⟩ | ⟨nj, z⟩
    · cases z
      exact ⟨_, h1, .lst (fun z => z.2 rfl) ha (lesss all)⟩
    · obtain ⟨u, h2, h3⟩ := b.e.slot j y z
      refine ⟨u, h2, ?_⟩
      cases y with
      | dat d => exact less h3
      | own es =>
        obtain ⟨a2, ys2, r, o, q, al⟩ := h3
        exact ⟨a2, ys2, r, (if_neg nj).trans o, q, lesss al⟩
      | well => exact h3
      | fn _ => exact h3
  · split at h2
    · cases h2
    · split at h3
      · cases h3
      · exact b.e.inj x y c h2 h3
  · split at h2
    · cases h2
    · rename_i nj
      obtain ⟨z1, z2, z3⟩ := b.e.ow j c h2
      exact ⟨⟨z1, fun z => nj (b.e.inj j i a (by rw [← z]; exact h2) ho)⟩, z2, z3⟩
  · exact n0a (by rw [← z]; exact hc)
  · split at h2
    · cases h2
    · exact b.new j c h2
end
section
variable {Sy : Md} {X : Cx} {E : L2.St → XK} {e : Expr} {st : Stmt} {sts : List Stmt} {te : TD} {tr : TAD} {i n : Nat} {t u : TSD}
def tLsN (t : TA) : TE := fun σ H Q => t σ H fun xs H1 => xs.length ≤ sizeLine ∧ ∀ p, H1 p = none → p ≠ sysModules → Q (.ref p) (upd H1 p (.lst xs))
theorem pe_lsN {es : List Expr} {ta : TA} {pos : Pos} (h : PA X es ta) : PE X (.List es pos) (tLsN ta) := pe_list h
theorem ds_own (h : PS X st (tAsg (tLsN (LA Sy X E n tr)) (gName i))) (hn : n ≤ 1000 := by decide) : PS X st (LS Sy X E (sOwn i tr)) := h.weak fun D σ H ⟨w, N0, H0, N, O, F, ρ, DD, b, h, k⟩ =>
  la_in b k h fun us vs H' hl r b' hv => by
    split at r
    · rename_i ds hd
      obtain ⟨all, l2⟩ := dats_all hv hd
      have l3 := all.length
      exact ⟨by rw [sizeLine_eq]; omega, fun p hp np => k.nx _ _ _ _ _ r (b'.own i hp np all)⟩
    · exact r.elim
theorem ds_app (h : PS X st (tDrop (tBM X.K "list" rAppend (tVar i) (LA Sy X E 1 (dCons te dNil))))) : PS X st (LS Sy X E (sApp i te)) := h.weak fun D σ H ⟨w, N0, H0, N, O, F, ρ, DD, b, h, k⟩ => by
  obtain ⟨ds, hs, h⟩ := ownK_of h
  obtain ⟨v, h1, a, xs, rfl, ho, ha, all⟩ := b.e.slot i _ hs
  refine ⟨_, h1, .inl ⟨rfl, _, .of ha⟩, ?_⟩
  refine la_in (tr := dCons te dNil) (R := fun us => match us with
    | [.dat d] => ds.length < 16000000 ∧ DD.nx (putD ρ i (some (.own (ds ++ [d]))))
    | _ => False) b k h fun us vs H' hl r b' hv => ?_
  split at r
  · rename_i d
    obtain ⟨hlen, r⟩ := r
    match vs, hv with
    | [v], hv =>
      obtain ⟨v2, h2, a2, xs2, e2, ho2, ha2, all2⟩ := b'.e.slot i _ hs
      rw [ho] at ho2
      cases ho2
      refine ⟨a, xs2, v, rfl, rfl, ha2, by rw [all2.length, sizeLine_eq]; omega, ?_⟩
      exact k.nx _ _ _ _ _ r (b'.ownSet hs ho ha2 (all2.app (.cons hv.1 .nil)))
  · exact r.elim
theorem ds_ext (h : PS X st (tDrop (tBM X.K "list" rExtend (tVar i) (LA Sy X E 1 (dCons te dNil))))) : PS X st (LS Sy X E (sExt i te)) := h.weak fun D σ H ⟨w, N0, H0, N, O, F, ρ, DD, b, h, k⟩ => by
  obtain ⟨ds, hs, h⟩ := ownK_of h
  obtain ⟨v, h1, a, xs, rfl, ho, ha, all⟩ := b.e.slot i _ hs
  refine ⟨_, h1, .inl ⟨rfl, _, .of ha⟩, ?_⟩
  refine la_in (tr := dCons te dNil) (R := fun us => match us with
    | [.dat (.list es)] => ds.length + es.length < 16000000 ∧ DD.nx (putD ρ i (some (.own (ds ++ es))))
    | _ => False) b k ?_ fun us vs H' hl r b' hv => ?_
  · show te ρ (fun d => match [Sv.dat d] with
      | [.dat (.list es)] => ds.length + es.length < 16000000 ∧ DD.nx (putD ρ i (some (.own (ds ++ es))))
      | _ => False) (DD.ex ρ)
    have e : (fun d => match [Sv.dat d] with
      | [.dat (.list es)] => ds.length + es.length < 16000000 ∧ DD.nx (putD ρ i (some (.own (ds ++ es))))
      | _ => False) = fun d => match d with
      | .list es => ds.length + es.length < 16000000 ∧ DD.nx (putD ρ i (some (.own (ds ++ es))))
      | _ => False := funext fun d => by cases d <;> rfl
    rw [e]
    exact h
  split at r
  · obtain ⟨hlen, r⟩ := r
    match vs, hv with
    | [v], hv =>
      obtain ⟨v2, h2, a2, xs2, e2, ho2, ha2, all2⟩ := b'.e.slot i _ hs
      rw [ho] at ho2
      cases ho2
      cases hv.1 with
      | lst nn ea all3 =>
        refine ⟨a, _, xs2, _, rfl, rfl, ha2, ea, by rw [all2.length, all3.length, sizeLine_eq]; omega, ?_⟩
        exact k.nx _ _ _ _ _ r (b'.ownSet hs ho ha2 (all2.app all3))
  · exact r.elim
theorem ds_ins (h : PS X st (tDrop (tBM X.K "list" (fun x vs H Q => ∃ (l : Addr) (xs : List V) (i : Int) (y : V), x = .ref l ∧ vs = [.int i, y] ∧ H l = some (.lst xs) ∧ xs.length < sizeLine ∧ 0 ≤ i ∧ i < 2 ^ 63 ∧ Q .non (upd H l (.lst (xs.take i.toNat ++ [y] ++ xs.drop i.toNat)))) (tVar i) (LA Sy X E n tr)))) : PS X st (LS Sy X E (sIns i tr)) := h.weak fun D σ H ⟨w, N0, H0, N, O, F, ρ, DD, b, h, k⟩ => by
  obtain ⟨ds, hs, h⟩ := ownK_of h
  obtain ⟨v, h1, a, xs, rfl, ho, ha, all⟩ := b.e.slot i _ hs
  refine ⟨_, h1, .inl ⟨rfl, _, .of ha⟩, ?_⟩
  refine la_in (tr := tr) b k h fun us vs H' hl r b' hv => ?_
  split at r
  · obtain ⟨⟨hlen, z0, z1⟩, r⟩ := r
    match vs, hv with
    | [v, u], hv =>
      obtain ⟨v2, h2, a2, xs2, e2, ho2, ha2, all2⟩ := b'.e.slot i _ hs
      rw [ho] at ho2
      cases ho2
      cases hv.1
      refine ⟨a, xs2, _, u, rfl, rfl, ha2, by rw [all2.length, sizeLine_eq]; omega, z0, z1, ?_⟩
      exact k.nx _ _ _ _ _ r (b'.ownSet hs ho ha2 (((all2.take _).app (.cons hv.2.1 .nil)).app (all2.drop _)))
  · exact r.elim
theorem dvs_set {N : Bn} {H : Hp} : ∀ {xs : List V} {ds : List PyData} {j : Nat} {v : V} {d : PyData}, DvAll N H xs ds → Dv N H v d → DvAll N H (xs.set j v) (ds.set j d)
  | _, _, _, _, _, .nil, _ => .nil
  | _, _, 0, _, _, .cons a b, h => .cons h b
  | _, _, j + 1, _, _, .cons a b, h => .cons a (dvs_set b h)
theorem ds_put {tk : TD} (h : PS X st (tAsg (LE Sy X E te) (gSub (tVar i) (LE Sy X E tk) rSetL))) : PS X st (LS Sy X E (sPut i te tk)) := h.weak fun D σ H ⟨w, N0, H0, N, O, F, ρ, DD, b, h, k⟩ =>
  le_in b k h fun d v H1 r b1 dv => by
    obtain ⟨ds, hs, r⟩ := ownK_of r
    obtain ⟨v0, h1, a, xs, rfl, ho, ha, all⟩ := b1.e.slot i _ hs
    refine ⟨_, h1, ?_⟩
    refine ⟨w, N, O, F, ρ, _, _, b1.e, r, fun x u H2 r2 s2 du => ?_, fun x cls dx H' hx s hh => k.ex N O H' σ ρ x cls dx hx (b1.step s) hh⟩
    have b2 := b1.step s2
    split at r2
    · split at r2
      · rename_i e
        cases du
        obtain ⟨v2, h2, a2, xs2, e2, ho2, ha2, all2⟩ := b2.e.slot i _ hs
        rw [ho] at ho2
        cases ho2
        have k12 : Dv N H2 v d := dv_step dv b1.e.hw s2
        exact ⟨a, xs2, _, _, rfl, rfl, ha2, by rw [all2.length]; exact e, k.nx _ _ _ _ _ r2 (b2.ownSet hs ho ha2 (dvs_set all2 k12))⟩
      · exact r2.elim
    · exact r2.elim
theorem ds_frz (h : PSs X sts (LS Sy X E t)) : PSs X sts (LS Sy X E (sSeq (sFrz i) t)) := h.weak fun D σ H ⟨w, N0, H0, N, O, F, ρ, DD, b, h, k⟩ => by
  obtain ⟨ds, hs, h⟩ := ownK_of (show ownK (slotD ρ i) fun ds => t DD (putD ρ i (some (.dat (.list ds)))) from h)
  obtain ⟨N', O', b'⟩ := b.frz hs
  exact ⟨w, N0, H0, N', O', F, _, DD, b', h, k⟩
theorem d_ownLen (h : PE X e (tCB (fun xs H Q => ∃ x n, xs = [x] ∧ LenV X.K x H n ∧ Q (.int n) H) (tCons (tVar i) tNil))) : PE X e (LE Sy X E (dOwnLen i)) := h.weak fun σ H Q ⟨w, N, O, F, ρ, R, Ex, en, t, q, qx⟩ => by
  obtain ⟨ds, hs, r⟩ := ownK_of t
  obtain ⟨v, h1, a, xs, rfl, ho, ha, all⟩ := en.slot i _ hs
  exact ⟨_, h1, _, _, rfl, .inl ⟨_, .of ha, rfl⟩, q _ _ H r (.refl _ _) (by rw [all.length]; exact .int _)⟩
theorem d_ownIx (h : PE X e (tOp (rIx X.K) (tVar i) (LE Sy X E te))) : PE X e (LE Sy X E (dOwnIx i te)) := h.weak fun σ H Q ⟨w, N, O, F, ρ, R, Ex, en, t, q, qx⟩ => by
  obtain ⟨ds, hs, r⟩ := ownK_of t
  obtain ⟨v, h1, a, xs, rfl, ho, ha, all⟩ := en.slot i _ hs
  refine ⟨_, h1, w, N, O, F, ρ, _, Ex, en, r, fun x u H1 r1 k1 dx => ?_, qx⟩
  have en1 := en.step k1
  obtain ⟨v2, h2, a2, xs2, e2, ho2, ha2, all2⟩ := en1.slot i _ hs
  rw [ho] at ho2
  cases ho2
  split at r1
  · split at r1
    · rename_i e
      cases dx
      obtain ⟨z, z1, z2⟩ := atD_get all2 e
      exact .inl ⟨_, _, _, z, rfl, rfl, .of ha2, z1, q _ z H1 r1 k1 z2⟩
    · exact r1.elim
  · exact r1.elim
/-! ### raise -/
def sRaise (c f : Str) (ta : TAD) : TSD := fun D ρ => ta ρ (fun us => match us with
  | [.dat d] => D.ex ρ (c, [(f, d)])
  | _ => False) (D.ex ρ)
theorem ds_raise {c f : Str} {st0 : Stmt} {C fI : Addr} {fd : FuncData} (ec : Ec X.K X.mg c f st0 C fI fd) (h : PS X st (fun _ σ H => tMk1 C f (LA Sy X E n tr) σ H fun cls d H' => E σ cls d H')) : PS X st (LS Sy X E (sRaise c f tr)) := h.weak fun D σ H ⟨w, N0, H0, N, O, F, ρ, DD, b, h, k⟩ =>
  la_in b k h fun us vs H' hl r b' hv => by
    split at r
    · match vs, hv with
      | [v], hv =>
        refine ⟨v, rfl, fun d H2 s hd e => ?_⟩
        exact k.ex _ _ H2 _ _ _ _ _ r (b'.step (.of s)) ⟨C, ec.gC, rfl, d, v, rfl, e, dv_step hv.1 b'.e.hw (.of s)⟩
    · exact r.elim
/-! ### calls -/
theorem pass_none {P : Program} {w : World} {σ : L2.St} : PassesAt (L2.CX P w) X σ (fun _ _ _ => False) := fun _ _ _ _ _ _ ⟨_, _, _, _, _, _, _, _, _, _, _, _, z⟩ => z.elim
end
/-- a def that lets no exception out -/
theorem _root_.Lw.Cl.up {P : Program} {w : World} {K : PySem.W.Frag} {mg : Str → Option Value} {base : Heap} {k : Nat} {x : Str} {sp : Sp} (c : Cl CX0 P w K mg base k x sp) : Cl (L2.CX P w) P w K mg base k x sp := by
  obtain ⟨f, fd, ps, F, a, b, d⟩ := c.ex
  refine ⟨f, fd, ps, ⟨F.len, fun A hr hg outer s H e0 args us vs hb r Q E z => codeAny_mono (F.run A hr hg outer s H e0 args us vs hb r Q E z) fun r s' h => ?_⟩, a, b, d⟩
  rcases r with er | (_ | _ | _ | u)
  · exact h.elim
  · exact h
  · exact h
  · exact h
  · exact h
end Ld
namespace Ld
open PySem PySem.Spec PyProof.Rows L2 Lw
/-! ### within a comprehension's block -/
section
variable {Sy : Md} {X : Cx} {s : Shared} {H : Hp} {scope : Scope} {cenv : PySem.Env} {fp : List Addr} {e : Expr} {es : List Expr} {t : TD} {tt : TTD}
theorem le_blk (h : PE (X.blk s H scope cenv fp) e (LE Sy (X.blk s H scope cenv fp) EX0 t)) : PE (X.blk s H scope cenv fp) e (LE Sy X EX0 t) := h
theorem lt_blk (h : PTs (X.blk s H scope cenv fp) es (LT Sy (X.blk s H scope cenv fp) EX0 tt)) : PTs (X.blk s H scope cenv fp) es (LT Sy X EX0 tt) := h
end
def dNotV (ta : TD) : TD := fun ρ R Ex => ta ρ (fun x => truK x fun b => R (.bool (!b))) Ex
def dTb (ta : TD) : TTD := fun ρ R Ex => ta ρ (fun x => match x with
  | .bool b => R b
  | _ => False) Ex
section
variable {Sy : Md} {X : Cx} {E : L2.St → XK} {e : Expr} {st : Stmt} {ta te : TD} {i : Nat}
theorem d_notW (h : PE X e (tNotT X.K (LE Sy X E ta))) : PE X e (LE Sy X E (dNotV ta)) := d_notV h
theorem dt_bl (h : PT X e (tB (LE Sy X E ta))) : PT X e (LT Sy X E (dTb ta)) := h.weak fun σ H Q ⟨w, N, O, F, ρ, R, Ex, en, t, q, qx⟩ => by
  refine ⟨w, N, O, F, ρ, _, Ex, en, t, fun x v H1 r k dx => ?_, qx⟩
  split at r
  · cases dx
    exact ⟨_, rfl, q _ _ r k⟩
  · exact r.elim
/-- x op= e, of numbers -/
def sAug (i : Nat) (g : Int → Int → Int) (t : TD) : TSD := fun D ρ => match slotD ρ i with
  | some (.dat (.int a)) => t ρ (fun d => match d with
    | .int b => D.nx (putD ρ i (some (.dat (.int (g a b)))))
    | _ => False) (D.ex ρ)
  | _ => False
theorem ds_aug {g : Int → Int → Int} (h : PS X st (tAug i (LE Sy X E te) (ipI g))) : PS X st (LS Sy X E (sAug i g te)) := h.weak fun D σ H ⟨w, N0, H0, N, O, F, ρ, DD, b, h, k⟩ => by
  unfold sAug at h
  split at h
  · rename_i a hs
    obtain ⟨v, h1, h2⟩ := b.e.slot i _ hs
    cases h2
    refine ⟨_, h1, le_in b k h fun d u H1 r b1 du => ?_⟩
    split at r
    · cases du
      exact ⟨_, _, rfl, rfl, k.nx _ _ H1 _ _ r (b1.put i (.int _))⟩
    · exact r.elim
  · exact h.elim
end
section
variable {Sy : Md} {X : Cx} {E : L2.St → XK} {st : Stmt} {tr : TAD} {i j l n : Nat}
theorem ds_par3 (h : PS X st (tPar3 i j l (LA Sy X E n tr))) : PS X st (LS Sy X E (sPar3 i j l tr)) := h.weak fun D σ H ⟨w, N0, H0, N, O, F, ρ, DD, b, h, k⟩ =>
  la_in b k h fun us vs H' hl r b' hv => by
    match us, vs, r, hv with
    | [.dat a, .dat c, .dat d], [v, u, x], r, hv =>
      exact ⟨v, u, x, rfl, k.nx _ _ H' _ _ r (((b'.put i hv.1).put j hv.2.1).put l hv.2.2.1)⟩
end
/-- n draws: any numbers below n -/
def t_draw : TF := fun us R _ => match us with
  | [.well, .dat (.int n)] => 0 < n ∧ n < 2 ^ 64 ∧ ∀ k, 0 ≤ k → k < n → R (.int k)
  | _ => False
end Ld

namespace Ld
open PySem L2 Lw
section
variable {R : RD} {Q : Bool → Prop} {i j : Int} {a b : List PyData} {x y : Str} {k : Nat} {d e : PyData} {s t : Bool}
theorem e_int {g : Int → Int → Int} {C : Int → Int → Prop} : fInt g C (.int i) (.int j) R = (C i j ∧ R (.int (g i j))) := rfl
theorem e_int0 {g : Int → Int → Int} : fInt0 g (.int i) (.int j) R = R (.int (g i j)) := rfl
theorem e_add : fAddG (.int i) (.int j) R = R (.int (i + j)) := rfl
theorem e_addT : fAddG (.tuple a) (.tuple b) R = (a.length + b.length ≤ 16000000 ∧ R (.tuple (a ++ b))) := rfl
theorem e_addL : fAddG (.list a) (.list b) R = (a.length + b.length ≤ 16000000 ∧ R (.list (a ++ b))) := rfl
theorem e_addSI : fAddS (.int i) (.int j) R = R (.int (i + j)) := rfl
theorem e_addST : fAddS (.tuple a) (.tuple b) R = (a.length + b.length ≤ 16000000 ∧ R (.tuple (a ++ b))) := rfl
theorem e_shl : fShl (.int i) (.int j) R = (i = 1 ∧ 0 ≤ j ∧ j ≤ 134217727 ∧ R (.int (2 ^ j.toNat))) := rfl
theorem e_ci {g : Int → Int → Bool} : fCI g (.int i) (.int j) Q = Q (g i j) := rfl
theorem e_eqI : fEq (.int i) (.int j) Q = Q (decide (i = j)) := rfl
theorem e_eqS : fEq (.str x) (.str y) Q = Q (decide (x = y)) := rfl
theorem e_eqB : fEq (.bool s) (.bool t) Q = Q (decide (s = t)) := rfl
theorem e_eqT : fEq (.tuple a) (.tuple b) Q = (SeqAt.shaped (.tuple a) = true ∧ SeqAt.shaped (.tuple b) = true ∧ Q (PyData.eqv (.tuple a) (.tuple b))) := rfl
theorem e_neI : fNe (.int i) (.int j) Q = Q (!decide (i = j)) := rfl
theorem e_neS : fNe (.str x) (.str y) Q = Q (!decide (x = y)) := rfl
theorem e_neB : fNe (.bool s) (.bool t) Q = Q (!decide (s = t)) := rfl
theorem e_neT : fNe (.tuple a) (.tuple b) Q = (SeqAt.shaped (.tuple a) = true ∧ SeqAt.shaped (.tuple b) = true ∧ Q (!PyData.eqv (.tuple a) (.tuple b))) := rfl
theorem e_isN : fIsN d .none Q = (true = true ∧ Q (isNon d)) := rfl
theorem e_notN : fNotN d .none Q = (true = true ∧ Q (!isNon d)) := rfl
theorem e_nthT : fNth k (.tuple a) R = nthL a k R := rfl
theorem e_nthL : fNth k (.list a) R = nthL a k R := rfl
theorem e_lenT : fLen [.tuple a] R = R (.int a.length) := rfl
theorem e_lenL : fLen [.list a] R = R (.int a.length) := rfl
theorem e_lenS : fLen [.str x] R = (x.length ≤ sizeLine ∧ R (.int x.length)) := rfl
theorem e_i1 {g : Int → Int} : fI1 g [.int i] R = R (.int (g i)) := rfl
theorem e_i2 {g : Int → Int → Int} : fI2 g [.int i, .int j] R = R (.int (g i j)) := rfl
theorem e_intO : fIntO [.int i] R = R (.int i) := rfl
theorem e_intB : fIntO [.bool s] R = R (.int (if s = true then 1 else 0)) := rfl
theorem e_isqrt : fIsqrt [.int i] R = (0 ≤ i ∧ i.natAbs < 2 ^ 13000 ∧ R (.int (isq i))) := rfl
theorem e_divmod : fDivmod [.int i, .int j] R = (CDivP i j ∧ R (.tuple [.int (i / j), .int (i % j)])) := rfl
theorem e_repr : fRepr [d] R = (d.hasDict = false ∧ shows d ∧ R (.str d.shown)) := rfl
theorem e_reprS : fReprS [d] R = (shows d ∧ R (.str d.shown)) := rfl
theorem e_bools {g : List Bool → Bool} : fBools g [.list a] R = match boolsOf a with | some bs => R (.bool (g bs)) | none => False := rfl
theorem e_tupL : fTupO [.list a] R = R (.tuple a) := rfl
theorem e_tupT : fTupO [.tuple a] R = R (.tuple a) := rfl
theorem e_lst : fLstO [.tuple a] R = R (.list a) := rfl
theorem e_truB : truK (.bool s) Q = Q s := rfl
theorem e_truI : truK (.int i) Q = Q (i != 0) := rfl
theorem e_truN : truK .none Q = Q false := rfl
theorem e_truL : truK (.list a) Q = Q (!a.isEmpty) := rfl
theorem e_truT : truK (.tuple a) Q = Q (!a.isEmpty) := rfl
theorem e_neg : fNeg (.int i) R = R (.int (-i)) := rfl
theorem e_bits : fBits (.int i) R = R (.int (Builtin.Int.intBits i : Nat)) := rfl
theorem e_back : fBack (.tuple a) R = R (.tuple a.reverse) := rfl
theorem e_backL : fBackL (.list a) R = R (.list a.reverse) := rfl
theorem e_slT {lo hi : Option Int} : fSl (.tuple a) lo hi R = R (.tuple (Lw.cutD a lo hi)) := rfl
theorem e_slL {lo hi : Option Int} : fSl (.list a) lo hi R = R (.list (Lw.cutD a lo hi)) := rfl
theorem e_slST {lo hi : Option Int} : fSlS (.tuple a) lo hi R = R (.tuple (Lw.cutD a lo hi)) := rfl
theorem e_gdT {n : Nat} {gs : GsD} {ρ : Env} {K : Env → Prop} : gdT n gs (.tuple a) ρ K = lenK a n (gs a ρ K) := rfl
theorem e_ixT {z : Int} : fIx (.tuple a) (.int z) R = match atD a z with | some d => R d | none => False := rfl
theorem e_ixL {z : Int} : fIx (.list a) (.int z) R = match atD a z with | some d => R d | none => False := rfl
end
/-- a test, both ways -/
theorem dif {b : Bool} {A B : Prop} (h1 : b = true → A) (h0 : b = false → B) : if b = true then A else B := by
  cases b
  · rw [if_neg (by decide)]
    exact h0 rfl
  · rw [if_pos rfl]
    exact h1 rfl
end Ld

namespace Ld
open PySem L2 Lw
/-! ### loops by what stands -/
theorem whileD_by {c : TTD} {tb : TSD} {D : EndsD} (Inv : Env → Prop) (m : Env → Nat)
    (step : ∀ ρ (K : Env → Prop), Inv ρ → (∀ ρ', Inv ρ' → m ρ' < m ρ → K ρ') → c ρ (fun b => if b = true then tb { D with nx := K, ct := K, bk := D.nx } ρ else D.nx ρ) (D.ex ρ)) :
    ∀ n ρ, Inv ρ → m ρ < n → whileD c tb D n ρ
  | 0, _, _, h => absurd h (Nat.not_lt_zero _)
  | n + 1, ρ, i, h => step ρ (whileD c tb D n) i fun ρ' i' h' => whileD_by Inv m step n ρ' i' (by omega)
theorem while_d {c : TTD} {tb : TSD} {D : EndsD} {ρ : Env} (Inv : Env → Prop) (m : Env → Nat) (h : Inv ρ)
    (step : ∀ ρ (K : Env → Prop), Inv ρ → (∀ ρ', Inv ρ' → m ρ' < m ρ → K ρ') → c ρ (fun b => if b = true then tb { D with nx := K, ct := K, bk := D.nx } ρ else D.nx ρ) (D.ex ρ)) : sWhile c tb D ρ :=
  ⟨m ρ + 1, whileD_by Inv m step _ ρ h (Nat.lt_succ_self _)⟩
theorem forD_by {g : GD} {tb : TSD} {D : EndsD} (Inv : List PyData → Env → Prop)
    (step : ∀ d r ρ (K : Env → Prop), Inv (d :: r) ρ → (∀ ρ', Inv r ρ' → K ρ') → g d ρ (fun ρ1 => tb { D with nx := K, ct := K, bk := D.nx } ρ1))
    (last : ∀ ρ, Inv [] ρ → D.nx ρ) : ∀ ds ρ, Inv ds ρ → forD g tb D ds ρ
  | [], ρ, h => last ρ h
  | d :: r, ρ, h => step d r ρ (forD g tb D r) h fun ρ' h' => forD_by Inv step last r ρ' h'
theorem for_d {g : GD} {tb : TSD} {D : EndsD} {ds : List PyData} {ρ : Env} (Inv : List PyData → Env → Prop) (h : Inv ds ρ)
    (step : ∀ d r ρ (K : Env → Prop), Inv (d :: r) ρ → (∀ ρ', Inv r ρ' → K ρ') → g d ρ (fun ρ1 => tb { D with nx := K, ct := K, bk := D.nx } ρ1))
    (last : ∀ ρ, Inv [] ρ → D.nx ρ) : forD g tb D ds ρ := forD_by Inv step last ds ρ h
/-- a walk over whole numbers -/
theorem range_d {g : GD} {tb : TSD} {D : EndsD} {lo : Int} {n : Nat} {ρ : Env} (Inv : Nat → Env → Prop) (h : Inv 0 ρ)
    (step : ∀ i ρ (K : Env → Prop), i < n → Inv i ρ → (∀ ρ', Inv (i + 1) ρ' → K ρ') → g (.int (lo + (i : Int))) ρ (fun ρ1 => tb { D with nx := K, ct := K, bk := D.nx } ρ1))
    (last : ∀ ρ, Inv n ρ → D.nx ρ) : forD g tb D (rangeD lo n) ρ := by
  refine for_d (fun ds ρ => ∃ i, i ≤ n ∧ ds = (rangeD lo n).drop i ∧ Inv i ρ) ⟨0, Nat.zero_le _, rfl, h⟩ ?_ ?_
  · rintro d r ρ K ⟨i, hi, e, h⟩ k
    obtain ⟨e1, e2⟩ := drop_get e.symm
    obtain ⟨hn, rfl⟩ := rangeD_get e1
    exact step i ρ K hn h fun ρ' h' => k ρ' ⟨i + 1, hn, e2.symm, h'⟩
  · rintro ρ ⟨i, hi, e, h⟩
    have := drop_end (l := rangeD lo n) (i := i) (by rw [rangeD_len]; exact hi) e.symm
    rw [rangeD_len] at this
    subst this
    exact last ρ h
/-! ### tests -/
theorem difP {p : Prop} [Decidable p] {A B : Prop} (h1 : p → A) (h0 : ¬ p → B) : if decide p = true then A else B := dif (fun c => h1 (of_decide_eq_true c)) (fun c => h0 (of_decide_eq_false c))
theorem difN {p : Prop} [Decidable p] {A B : Prop} (h1 : ¬ p → A) (h0 : p → B) : if (!decide p) = true then A else B := dif (fun c => h1 (by simpa using c)) (fun c => h0 (by simpa using c))
theorem difT {A B : Prop} (h : A) : if true = true then A else B := by rw [if_pos rfl]; exact h
theorem difF {A B : Prop} (h : B) : if false = true then A else B := by rw [if_neg (by decide)]; exact h
/-- a call of a def whose reading stands under another name -/
theorem st {t k : TF} (e : t = k) {us : List Sv} {R : RD} {Ex : XD} (h : t us R Ex) : k us R Ex := e ▸ h
theorem tf_at {N : List Str} {t : TSD} {us : List Sv} {R : RD} {Ex : XD} {e : Env} (h : startD us N = e) (k : t { nx := fun _ => R .none, rt := R, ex := fun _ => Ex } e) : tfOf N t us R Ex := by
  unfold tfOf
  rw [h]
  exact k
end Ld

namespace Ld
open PySem PySem.Spec PyProof.Rows L2
open Lw hiding Dv DvAll FreshB tData tDatas pd_int pd_bl pd_non pd_str pd_neg pd_pow pda_nil pda_cons pd_tup pd_lst pd_dct dv_cut dv_cat tup_at rRepr call_repr rIsD call_isD
/-! ### from the layer of data to the law's end -/
section
variable {P : Program} {w : World} {K : PySem.W.Frag} {mg : Str → Option Value} {base : Heap}
theorem _root_.Lw.Cl.down {k : Nat} {x : Str} {sp sp0 : Sp} (c : Cl (L2.CX P w) P w K mg base k x sp) (h0 : ∀ vs H Q E, sp0 vs H Q E → sp vs H Q E0) : Cl CX0 P w K mg base k x sp0 := by
  obtain ⟨f, fd, ps, F, a, b, d⟩ := c.ex
  refine ⟨f, fd, ps, ⟨fun vs H Q E z => F.len vs H Q E0 (h0 vs H Q E z), fun A hr hg outer s H e0 args us vs hb r Q E z => codeAny_mono (F.run A hr hg outer s H e0 args us vs hb r Q E0 (h0 vs H Q E z)) fun r s' h => ?_⟩, a, b, d⟩
  rcases r with er | (_ | _ | _ | u)
  · obtain ⟨_, _, _, _, _, _, _, _, _, _, _, _, z⟩ := h
    exact z.elim
  · exact h
  · exact h
  · exact h
  · exact h
/-- what a law's right tells of a well -/
def spRightD : Sp := fun vs H Q _ => ∃ p : Addr, vs = [.ref p] ∧ p ≠ sysModules ∧ WellAt H p ∧ ∀ H', After p H H' → Q (.bl true) H'
theorem right_end {k : Nat} {x : Str} {t : TF} (c : Cl (L2.CX P w) P w K mg base k x (spF ⟨base, K, ⟨false, [], false⟩⟩ mg 1 t)) (ht : ∀ (R : RD) (Ex : XD), R (.bool true) → t [.well] R Ex) : Cl CX0 P w K mg base k x spRightD :=
  c.down fun vs H Q E h => by
    obtain ⟨p, rfl, np, wl, q⟩ := h
    have hp : ∀ a, H a = none → ¬ a = p := fun a ha e => by
      obtain ⟨x, m, y, z, _⟩ := wl
      rw [e, z] at ha
      cases ha
    refine ⟨⟨some p, []⟩, ⟨K, fun a => a = p⟩, [.well], fun d => d = .bool true, fun _ => False, rfl, ⟨⟨p, rfl, rfl⟩, trivial⟩, ⟨fun a e => by cases e; exact ⟨rfl, np, wl⟩, fun a ha _ => hp a ha, fun z => (nomatch z), fun _ a ha => hp a ha, rfl, fun q hq => (nomatch hq), fun q hq => (nomatch hq), rfl, fun a ps _ c _ z => c (.inl (congrArg some z.symm))⟩, ht _ _ rfl, fun d v H' hd s dv => ?_, fun _ _ _ _ z => z.elim⟩
    subst hd
    cases dv
    exact q H' (s.after wl)
/-- .. with tables of code objects -/
def spRightT (T : List (Addr × Str)) : Sp := fun vs H Q _ => ∃ p : Addr, vs = [.ref p] ∧ p ≠ sysModules ∧ WellAt H p ∧ LamX.Tabs T H ∧ ∀ H', Stp ⟨some p, T⟩ H H' → Q (.bl true) H'
theorem right_endT {k : Nat} {x : Str} {t : TF} {T : List (Addr × Str)} (c : Cl (L2.CX P w) P w K mg base k x (spF ⟨base, K, ⟨false, T, false⟩⟩ mg 1 t)) (ht : ∀ (R : RD) (Ex : XD), R (.bool true) → t [.well] R Ex) : Cl CX0 P w K mg base k x (spRightT T) :=
  c.down fun vs H Q E h => by
    obtain ⟨p, rfl, np, wl, tb, q⟩ := h
    have hp : ∀ a, H a = none → ¬ (a = p ∨ ∃ q ∈ T, q.1 = a) := fun a ha e => by
      rcases e with e | ⟨y, hy, e⟩
      · obtain ⟨x, m, y, z, _⟩ := wl
        rw [e, z] at ha
        cases ha
      · obtain ⟨ps, z, _⟩ := tb y hy
        rw [e, ha] at z
        cases z
    refine ⟨⟨some p, T⟩, ⟨K, fun a => a = p ∨ ∃ q ∈ T, q.1 = a⟩, [.well], fun d => d = .bool true, fun _ => False, rfl, ⟨⟨p, rfl, rfl⟩, trivial⟩, ⟨fun a e => by cases e; exact ⟨.inl rfl, np, wl⟩, fun a ha _ => hp a ha, fun z => (nomatch z), fun _ a ha => hp a ha, rfl, fun q hq => .inr ⟨q, hq, rfl⟩, tb, rfl, fun a ps _ c _ z => c (z.elim (fun z => .inl (congrArg some z.symm)) fun ⟨q, hq, e⟩ => .inr ⟨q, hq, e⟩)⟩, ht _ _ rfl, fun d v H' hd s dv => ?_, fun _ _ _ _ z => z.elim⟩
    subst hd
    cases dv
    exact q H' s
end
end Ld

namespace Ld
open PySem L2 Lw
/-! ### data that may be told as texts -/
theorem shows_of {B n m : Nat} {d : PyData} (h : Fit B n m d) (hB : B ≤ 1900) (hn : n ≤ 16000000) (hm : m ≤ 100) : shows d :=
  ⟨fine_showable hB d h.f, Nat.le_trans h.d hm, by
    have q := shown_le hB d h.f
    have z := h.w
    rw [sizeLine_eq]
    omega⟩
structure Say (n m : Nat) (d : PyData) : Prop where
  fit : Fit 1900 n m d
  nd : d.hasDict = false
theorem Say.all {n m : Nat} {d : PyData} (h : Say n m d) (hn : n ≤ 16000000) (hm : m ≤ 100) : d.hasDict = false ∧ shows d := ⟨h.nd, shows_of h.fit (by decide) hn hm⟩
theorem Say.mono {n m n' m' : Nat} {d : PyData} (h : Say n m d) (a : n ≤ n') (b : m ≤ m') : Say n' m' d := ⟨h.fit.mono (Nat.le_refl _) a b, h.nd⟩
theorem say_int {i : Int} (h : i.natAbs < 2 ^ 1900) : Say 2000 0 (.int i) := ⟨⟨h, Nat.le_refl _, Nat.le_refl _⟩, rfl⟩
theorem say_bool (b : Bool) : Say 2000 0 (.bool b) := ⟨⟨trivial, Nat.le_refl _, Nat.le_refl _⟩, rfl⟩
theorem say_none : Say 2000 0 .none := ⟨⟨trivial, Nat.le_refl _, Nat.le_refl _⟩, rfl⟩
theorem say_str {x : Str} (h : (reprText x).length ≤ 100) : Say 2000 0 (.str x) := ⟨⟨h, Nat.le_refl _, Nat.le_refl _⟩, rfl⟩
theorem say_list {n m : Nat} : ∀ {ds : List PyData}, (∀ d ∈ ds, Say n m d) → fineAll 1900 ds ∧ wtAll ds ≤ ds.length * (n + 2) ∧ PyData.depthAll ds ≤ m ∧ PyData.hasDictAll ds = false
  | [], _ => ⟨trivial, by show 0 ≤ _; omega, by show 0 ≤ _; omega, rfl⟩
  | x :: r, h => by
    obtain ⟨a, b, c, d⟩ := say_list (ds := r) fun y hy => h y (List.mem_cons_of_mem _ hy)
    have s := h x (List.mem_cons_self ..)
    have w := s.fit.w
    have dd := s.fit.d
    refine ⟨⟨s.fit.f, a⟩, ?_, ?_, ?_⟩
    · show wt x + 2 + wtAll r ≤ (r.length + 1) * (n + 2)
      have e : (r.length + 1) * (n + 2) = r.length * (n + 2) + (n + 2) := Nat.succ_mul _ _
      omega
    · show max x.depth (PyData.depthAll r) ≤ m
      omega
    · show (x.hasDict || PyData.hasDictAll r) = false
      rw [s.nd, d] <;> rfl
theorem say_tup {n m k : Nat} {ds : List PyData} (h : ∀ d ∈ ds, Say n m d) (hk : ds.length ≤ k) : Say (k * (n + 2) + 2000) (m + 1) (.tuple ds) := by
  obtain ⟨a, b, c, d⟩ := say_list h
  refine ⟨⟨a, ?_, ?_⟩, d⟩
  · show wtAll ds + 2000 ≤ _
    have := Nat.mul_le_mul_right (n + 2) hk
    omega
  · show PyData.depthAll ds + 1 ≤ _
    omega
theorem say_lst {n m k : Nat} {ds : List PyData} (h : ∀ d ∈ ds, Say n m d) (hk : ds.length ≤ k) : Say (k * (n + 2) + 2000) (m + 1) (.list ds) := by
  obtain ⟨a, b, c, d⟩ := say_list h
  refine ⟨⟨a, ?_, ?_⟩, d⟩
  · show wtAll ds + 2000 ≤ _
    have := Nat.mul_le_mul_right (n + 2) hk
    omega
  · show PyData.depthAll ds + 1 ≤ _
    omega
theorem say_two {n m : Nat} {x y : PyData} (h1 : Say n m x) (h2 : Say n m y) : Say (2 * (n + 2) + 2000) (m + 1) (.tuple [x, y]) := say_tup (fun d hd => by
  simp only [List.mem_cons, List.not_mem_nil, or_false] at hd
  rcases hd with rfl | rfl
  · exact h1
  · exact h2) (Nat.le_refl 2)
theorem say_quad {p q s : Int} {u : Bool} (z1 : p.natAbs < 2 ^ 1900) (z2 : q.natAbs < 2 ^ 1900) (z3 : s.natAbs < 2 ^ 1900) : Say 10100 1 (.tuple [.int p, .int q, .int s, .bool u]) := (say_tup (n := 2000) (m := 0) (k := 4) (fun d hd => by
  simp only [List.mem_cons, List.not_mem_nil, or_false] at hd
  rcases hd with rfl | rfl | rfl | rfl
  · exact say_int z1
  · exact say_int z2
  · exact say_int z3
  · exact say_bool u) (by simp)).mono (by decide) (by decide)
theorem say_frac {a b : Int} (hb : 0 < b) (z1 : a.natAbs < 2 ^ 1900) (z2 : b.natAbs < 2 ^ 1900) : Say 10100 1 (fracD a b) := by
  have le := red_le (a := a) hb
  exact (say_two (n := 2000) (m := 0) (say_int (by omega)) (say_int (by omega))).mono (by decide) (by decide)
/-- a number's form -/
theorem say_num {a b r d : Int} (hd : 0 < d) (hr : 0 ≤ r) (za : a.natAbs < 2 ^ 900) (zb : b.natAbs < 2 ^ 500) (zr : r.natAbs < 2 ^ 800) (zd : d.natAbs < 2 ^ 900) : Say 10100 1 (formD a b r d) := by
  by_cases c : b = 0 ∨ isSqB r = true
  · rw [form_flat c]
    have m := mul_lt zb (isq_small zr)
    have ad := add_lt (two_le za (show 900 ≤ 1300 by decide)) (two_le m (show 500 + 800 ≤ 1300 by decide))
    exact say_frac hd (two_le ad (by decide)) (two_le zd (by decide))
  · have hb : b ≠ 0 := fun z => c (.inl z)
    have g0 := gcd_pos3 (a := 0 - 2 * a * d) (b := a * a - b * b * r) hd
    have w1 := mul_lt zd zd
    have w2 : (2 * a : Int).natAbs < 2 ^ (2 + 900) := mul_lt (by decide) za
    have w3 := mul_lt w2 zd
    have w4 := mul_lt za za
    have w6 := mul_lt (mul_lt zb zb) zr
    have s1 : (0 - 2 * a * d : Int).natAbs < 2 ^ 1802 := by omega
    have s2 : (a * a - b * b * r : Int).natAbs < 2 ^ (1800 + 1) := sub_lt (two_le w4 (by decide)) (two_le w6 (by decide))
    have f1 := fdiv_le g0 (two_le w1 (show 900 + 900 ≤ 1900 by decide))
    have f2 := fdiv_le g0 (two_le s1 (show 1802 ≤ 1900 by decide))
    have f3 := fdiv_le g0 (two_le s2 (show 1800 + 1 ≤ 1900 by decide))
    have e : formD a b r d = quadD (d * d) (0 - 2 * a * d) (a * a - b * b * r) (decide (0 < b)) := if_neg c
    rw [e]
    exact say_quad f1 f2 f3
end Ld

namespace Ld
open PySem PySem.Spec PyProof.Rows L2
open Lw hiding Dv DvAll FreshB tData tDatas pd_int pd_bl pd_non pd_str pd_neg pd_pow pda_nil pda_cons pd_tup pd_lst pd_dct dv_cut dv_cat tup_at rRepr call_repr rIsD call_isD
/-! ### told(lambda: e): what e gives, or the field of its exception -/
/-- told's reading of what it is handed: [yes, value], or [no, field] for the class C -/
def TTold (C : Addr) (fl : Str) (yes no : Str) : (XK → Hp → VK → Prop) → Hp → VK → Prop := fun tl H Q =>
  ∃ K : VK, tl (fun cls dx H' => cls = .ref C ∧ ∃ a v, dx = some a ∧ H' a = some (.xd [(fl, v)]) ∧ ∀ l, H' l = none → l ≠ sysModules → Q (.ref l) (upd H' l (.lst [.str no, v]))) H K ∧
    ∀ v H', K v H' → ∀ l, H' l = none → l ≠ sysModules → Q (.ref l) (upd H' l (.lst [.str yes, v]))
theorem _root_.L2.PE.up {X : Cx} {e : Expr} {t : TE} (h : PE X e t) : PE X e (fun σ H Q => ∃ K : VK, t σ H K ∧ ∀ v H', K v H' → Q v H') := ⟨fun pins s σ H Q I ⟨K, q, i⟩ => thn (h.run pins s σ H K I q) fun u s1 ⟨v, H1, I1, r, z⟩ => ⟨v, H1, I1, r, i _ _ z⟩⟩
def dTold (c fl yes no : Str) (t : TD) : TD := fun ρ R _ => t ρ (fun d => R (.list [.str yes, d])) (fun x => ∃ d, x = (c, [(fl, d)]) ∧ R (.list [.str no, d]))
section
variable {Sy : Md} {X : Cx} {E : L2.St → XK} {e : Expr} {t : TD}
theorem d_told {c fl yes no : Str} {C : Addr} {T : List (Addr × Str)} (hT : T = Sy.T) (hne : T ≠ []) (hC : X.mg c = some (.ref C)) (h : PE X e (LamX.tLam T (TTold C fl yes no) (fun Ek => LE Sy X (fun _ => Ek) t))) : PE X e (LE Sy X E (dTold c fl yes no t)) := h.weak fun σ H Q ⟨w, N, O, F, ρ, R, Ex, en, ht, q, qx⟩ => by
  subst hT
  have tb := en.ok.tb
  have tt : w.T = Sy.T := en.ok.tt
  refine ⟨tt ▸ tb, fun H1 eN T1 => ?_⟩
  have s1 : Stp w H H1 := ⟨fun b u _ m z => eN b u z m, fun b xs z => eN b _ z (fun ps z => by cases z), fun p _ ⟨x, m, y, z, r⟩ => ⟨x, m, y, eN _ _ z lst_ne, r⟩, fun _ => tt ▸ T1, fun ht b u n z => by
    exact absurd (tt.symm.trans ht) hne⟩
  have en1 := en.step s1
  have new : ∀ {x : Str} {v : V} {d : PyData} {H' : Hp} {l : Addr}, Dv N H' v d → Stp w H1 H' → H' l = none → l ≠ sysModules → R (.list [.str x, d]) → Q (.ref l) (upd H' l (.lst [.str x, v])) := fun {x v d H' l} dv s2 hl nl r => by
    have s3 := same_new hl (.lst [.str x, v])
    refine q _ _ _ r ((s1.trans s2).trans (.of s3)) (.lst ((en1.step s2).ok.fr l hl nl) upd_same (.cons (.str _) (.cons (dv.same s3) .nil)))
  refine ⟨fun v H' => ∃ d, R (.list [.str yes, d]) ∧ Stp w H1 H' ∧ Dv N H' v d, ⟨w, N, O, F, ρ, _, _, en1, ht, fun d v H' r s2 dv => ⟨d, r, s2, dv⟩, fun x cls dx H' hx s2 hh => ?_⟩, fun v H' ⟨d, r, s2, dv⟩ l hl nl => new dv s2 hl nl r⟩
  obtain ⟨d, rfl, r⟩ := hx
  obtain ⟨C', g1, g2, a, v, g3, g4, g5⟩ := hh
  have g1 : X.mg c = some (.ref C') := g1
  rw [hC] at g1
  cases g1
  exact ⟨g2, a, v, g3, g4, fun l hl nl => new g5 s2 hl nl r⟩
end
/-! ### promises of defs: g tells whether no text of data may be under way -/
structure FnQ (g : Bool) (CX : CXT) (P : Program) (w : World) (K : PySem.W.Frag) (mg : Str → Option Value) (base : Heap) (k : Nat) (f : Addr) (fd : FuncData) (ps : List Str) (sp : Sp) : Prop where
  len : ∀ vs H Q E, sp vs H Q E → vs.length = ps.length
  run : ∀ (A : Around), Room k A → (g = true → A.guards = some []) → ∀ (outer : List PySem.Env) (s : Shared) (H : Hp), Env0 P w K mg base A outer s H →
    ∀ (args : Args) (us : List Value) (vs : List V), BindsTo s fd args (ps.zip us) → Vals vs us → ∀ (Q : VK) (E : XK), sp vs H Q E → codeAny (model P w) A (.call (.ref f) args) (CR CX outer P w H s Q E) s
structure Cq (g : Bool) (CX : CXT) (P : Program) (w : World) (K : PySem.W.Frag) (mg : Str → Option Value) (base : Heap) (k : Nat) (x : Str) (sp : Sp) : Prop where
  ex : ∃ f fd ps, FnQ g CX P w K mg base k f fd ps sp ∧ mg x = some (.ref f) ∧ PySem.W.keepIn K (.ref f) = true ∧ L2.Binds K fd ps []
/-- a def of the text with the code object cd -/
structure Dc (K : PySem.W.Frag) (mg : Str → Option Value) (x : Str) (st : Stmt) (ps : List Str) (cd : Value) : Prop where
  ex : ∃ (f : Addr) (oc : Value) (od : Option Addr) (kV doc pm : Value) (an : Option Addr) (ct : Value) (osl : Array (Option Value)),
    K.lookup f = some ⟨oc, od, .func (PySem.W.fnOf x x (defArgs st) (defBody st) (defScope st) .none kV doc pm an cd ct), osl⟩ ∧ PySem.W.codeIn K cd x = true ∧ PySem.W.keepIn K (.ref f) = true ∧ mg x = some (.ref f) ∧
    L2.Binds K (PySem.W.fnOf x x (defArgs st) (defBody st) (defScope st) .none kV doc pm an cd ct) ps []
section
variable {CX : CXT} {P : Program} {w : World} {K : PySem.W.Frag} {mg : Str → Option Value} {base : Heap}
theorem Cq.cl {g : Bool} {k : Nat} {x : Str} {sp : Sp} (c : Cq g CX P w K mg base k x sp) : Cl CX P w K mg base k x sp := by
  obtain ⟨f, fd, ps, F, a, b, d⟩ := c.ex
  exact ⟨f, fd, ps, ⟨F.len, fun A hr hg => F.run A hr fun _ => hg⟩, a, b, d⟩
theorem _root_.Lw.Cl.cq {k : Nat} {x : Str} {sp : Sp} (c : Cl CX P w K mg base k x sp) : Cq true CX P w K mg base k x sp := by
  obtain ⟨f, fd, ps, F, a, b, d⟩ := c.ex
  exact ⟨f, fd, ps, ⟨F.len, fun A hr hg => F.run A hr (hg rfl)⟩, a, b, d⟩
theorem _root_.Lw.Dn.dc {x : Str} {st : Stmt} {ps : List Str} (D : Dn K mg x st ps) : ∃ cd, Dc K mg x st ps cd := by
  obtain ⟨f, fd, F, hm, hb⟩ := D.ex
  have kp := F.kp
  obtain ⟨oc, od, kV, doc, pm, an, cdv, ct, osl, rfl, lk, hcd⟩ := F.ex
  exact ⟨cdv, f, oc, od, kV, doc, pm, an, ct, osl, lk, hcd, kp, hm, hb⟩
theorem Dc.call {g : Bool} {x : Str} {st : Stmt} {N ps : List Str} {k : Nat} {cd : Value} {sp : Sp} (D : Dc K mg x st ps cd) (S : FnScope N ps (defScope st)) (len : ∀ vs H Q E, sp vs H Q E → vs.length = ps.length)
    (hbody : ∀ (f : Addr) (A : Around) (outer : List PySem.Env) (s : Shared) (H : Hp) (vs : List V) (Q : VK) (E : XK), Room k (A.deeper (envOfC x (defScope st) s.heap.objs.size f cd)) → (g = true → A.guards = some []) → sp vs H Q E →
      ∃ t, PSs (cxOf CX P w K mg base N x (defScope st) f cd A outer s H E) (defBody st) t ∧ t { nx := fun _ H' => Q .non H', rt := Q } (L2.start N vs) H) : Cq g CX P w K mg base (k + 1) x sp := by
  obtain ⟨f, oc, od, kV, doc, pm, an, ct, osl, lk, hcd, kp, hm, hb⟩ := D.ex
  refine ⟨f, _, ps, ⟨len, fun A hr hg outer s H e0 args us vs bt r Q E h => ?_⟩, hm, kp, hb⟩
  have kept : ∀ b o, base.get? b = some o → s.heap.get? b = some o := fun b o q => (e0.bs b o q).1
  have inK : K.In s.heap := e0.mod.kin.keeps kept
  refine codeAny_call_function hr.depth (inK _ _ lk) rfl S.co S.gen rfl (PySem.W.codeRec_of inK hcd) (bt _ _ _ _ ?_)
  have slots : ∀ y ∈ ps.zip us, (defScope st).names.lookup y.1 = some .local ∨
      ((defScope st).names.lookup y.1 = some .cell ∧ ((cellsFrom (s.heap.objs.size + 1) (defScope st).names []).lookup y.1).isSome = true) := by
    rintro ⟨n, v⟩ hy
    exact (S.par n (List.of_mem_zip hy).1).imp (fun q => q) fun q => ⟨q, PySem.W.cellsFrom_some _ _ _ (.inl q)⟩
  refine wpAny_newFunctionEnv_cells S.kind slots fun env he s1 C => ?_
  cases he
  refine ⟨(e0.mod.nolimit.keeps kept).keeps C.toInCall.keep, codeAny_func ?_⟩
  obtain ⟨t, ht, hq⟩ := hbody f A outer s H vs Q E (hr.deeper _) hg h
  have I0 := inv_start (CX := CX) (E := E) S hr.hd e0 (len _ _ _ _ h) r C
  refine wpAny_mono (ht.run [] s1 _ H _ I0 hq) ?_ fun _ _ z => z
  rintro (_ | _ | _ | u) s' z
  · obtain ⟨σ', H', J, q⟩ := z
    exact ⟨V.non, H', J.os, J.bare, J.base, J.hok, rfl, q⟩
  · obtain ⟨_, _, _, q⟩ := z
    exact q.elim
  · obtain ⟨_, _, _, q⟩ := z
    exact q.elim
  · obtain ⟨v, σ', H', J, rv, q⟩ := z
    exact ⟨v, H', J.os, J.bare, J.base, J.hok, rv, q⟩
theorem Dc.data {g : Bool} {Sy : Md} {x : Str} {st : Stmt} {N ps : List Str} {k : Nat} {cd : Value} {t : TSD} (D : Dc K mg x st ps cd) (S : FnScope N ps (defScope st))
    (hbody : ∀ (f : Addr) (A : Around) (outer : List PySem.Env) (s : Shared) (H : Hp) (E : XK), Room k (A.deeper (envOfC x (defScope st) s.heap.objs.size f cd)) → (g = true → A.guards = some []) →
      PSs (cxOf (L2.CX P w) P w K mg base N x (defScope st) f cd A outer s H E) (defBody st) (LS Sy (cxOf (L2.CX P w) P w K mg base N x (defScope st) f cd A outer s H E) (fun _ => E) t)) :
    Cq g (L2.CX P w) P w K mg base (k + 1) x (spF ⟨base, K, Sy⟩ mg ps.length (tfOf N t)) := by
  refine D.call S (fun vs H Q E h => h.len) (fun f A outer s H vs Q E hr hg h => ⟨_, hbody f A outer s H E hr hg, ?_⟩)
  obtain ⟨wl, Nb, us, R, Ex, hl, hv, ok, ht, q, qx⟩ := h
  refine ⟨wl, Nb, H, Nb, fun _ => none, [], _, _, ⟨⟨ok, ?_, ?_, fun i j a z _ => (nomatch z), fun i a z => (nomatch z), fun p hp => (nomatch hp)⟩, .refl _ _, fun _ z => z, fun _ _ z => (nomatch z), ok.fr, ok.kk⟩, ht, ⟨fun N O H1 σ ρ r b => q .none .non H1 r b.st .non, fun d v H1 r s dv => q d v H1 r s dv, fun _ _ _ _ _ z => z.elim, fun _ _ _ _ _ z => z.elim, ?_⟩⟩
  · have := hv.length
    have le : us.length ≤ N.length := by
      have := congrArg List.length S.pre
      rw [List.length_take] at this
      omega
    rw [startD_eq us N le]
    simp [L2.start, this]
  · have le : us.length ≤ N.length := by
      have := congrArg List.length S.pre
      rw [List.length_take] at this
      omega
    rw [startD_eq us N le]
    exact fun i y h => start_slot hv i y _ h
  · intro N O H1 σ ρ x cls dx hx b hh
    refine qx x cls dx H1 hx b.st ?_
    obtain ⟨C, h1, h2, h3⟩ := hh
    refine ⟨C, h1, h2, ?_⟩
    split
    · rename_i e
      rw [e] at h3
      exact h3
    · rename_i f d e
      rw [e] at h3
      obtain ⟨a, v, e1, e2, e3⟩ := h3
      exact ⟨a, v, e1, e2, e3.less (b.k0.trans b.e.ok.kk.symm) b.sub⟩
    · rename_i e1 e2
      split at h3
      · rename_i e
        exact absurd e e1
      · rename_i f d e
        exact absurd e (e2 f d)
      · exact h3
theorem _root_.Lw.Dn.dataQ {g : Bool} {Sy : Md} {x : Str} {st : Stmt} {N ps : List Str} {k : Nat} {t : TSD} (D : Dn K mg x st ps) (S : FnScope N ps (defScope st))
    (hbody : ∀ (f : Addr) (cdv : Value) (A : Around) (outer : List PySem.Env) (s : Shared) (H : Hp) (E : XK), Room k (A.deeper (envOfC x (defScope st) s.heap.objs.size f cdv)) → (g = true → A.guards = some []) →
      PSs (cxOf (L2.CX P w) P w K mg base N x (defScope st) f cdv A outer s H E) (defBody st) (LS Sy (cxOf (L2.CX P w) P w K mg base N x (defScope st) f cdv A outer s H E) (fun _ => E) t)) :
    Cq g (L2.CX P w) P w K mg base (k + 1) x (spF ⟨base, K, Sy⟩ mg ps.length (tfOf N t)) := by
  obtain ⟨cd, C⟩ := D.dc
  exact C.data S fun f A outer s H E hr hg => hbody f cd A outer s H E hr hg
end
section
variable {X : Cx} {CX : CXT} {x : Str} {p pos : Pos} {e : Expr} {es : List Expr} {t : TA} {sp : Sp} {j k : Nat} {g : Bool}
theorem pe_clQ {E : L2.St → XK} (c : Cq g CX X.prog X.w X.K X.mg X.base k x sp) (hr : Room j X.A) (hG : g = true → X.A.guards = some []) (hx : ∀ σ, PassesAt CX X σ (E σ)) (hg : Gl X x) (ha : PA X (e :: es) t) (hk : k ≤ j := by decide)
    (hdb : (x == ("__debug__" : Str)) = false := by decide) (he : starEach (e :: es) X.env = (false, eval e X.env) :: starEach es X.env := by rfl) (hpl : (backTo pos (starEach es X.env)).any (·.1) = false := by rfl) :
    PE X (.Call (.Name x p) (e :: es) [] pos) (fun σ H Q => t σ H fun vs H1 => sp vs H1 Q (E σ)) := by
  obtain ⟨f, fd, ps, F, hm, kp, hb⟩ := c.ex
  refine ⟨fun pins s σ H Q I h => wpAny_Call_Name_kw (ld_glob I hg hm (PySem.W.callWith_K (h₀ := X.base) I.ok.mod.kin kp (thn (ha.run pos pins s σ H _ I h) ?_) he hpl) hdb)⟩
  rintro us s1 ⟨vs, H1, I1, r, q⟩
  have hl : us.length = ps.length := r.length ▸ F.len _ _ _ _ q
  have bt := hb s1 us I1.kIn (by rw [List.append_nil]; exact hl)
  rw [List.append_nil] at bt
  refine ⟨I1.kIn, wpAny_call (codeAny_mono (F.run X.A (hr.mono hk) hG X.stack s1 H1 I1.env0 ⟨us, []⟩ us vs bt r Q (E σ) q) ?_)⟩
  rintro (er | (_ | _ | _ | u)) s' z
  · exact hx σ pins H1 s1 er s' I1 z
  · exact z.elim
  · exact z.elim
  · exact z.elim
  · exact I1.after z
end
theorem takes_len {X : Cx} {W : WX} (tk : Takes X W) : Takes X (fun cls d σ H => σ.length = X.N.length → W cls d σ H) := fun u s' ⟨a, B, sI, pins, σ, H, cls, d, e, I, nb, up, sky, na, os, ag, z⟩ =>
  tk u s' ⟨a, B, sI, pins, σ, H, cls, d, e, I, nb, up, sky, na, os, ag, z I.len⟩
section
variable {X : Cx}
/-- told: try: t = [yes, call()]; except C as e: t = [no, e.field]; return t -/
theorem told_gives2 {Ng : List Str} {x a th en xc fl yes no q : Str} {sg : Scope} {g C fI : Addr} {cdg : Value} {st0 : Stmt} {fd : FuncData} {j1 j2 : Nat} {p1 p2 p3 p4 p5 p6 p7 p8 p9 p10 p11 p12 p13 p14 p15 p16 p17 : Pos}
    (ec : Ec X.K X.mg xc fl st0 C fI fd) (nd : Ng.Nodup) (h0 : ∀ f : Addr, (L2.start Ng [V.ref f]) = [some (.ref f), none, none]) (h1 : Ng[1]? = some th) (h2 : Ng[2]? = some en) (l1 : sg.names.lookup th = some .local) (l2 : sg.names.lookup en = some .local) (gx : sg.names.lookup xc = some .globalImplicit)
    (d1 : (th == ("__debug__" : Str)) = false) (d2 : (th == ("__classdict__" : Str)) = false) (d3 : (en == ("__debug__" : Str)) = false) (d4 : (en == ("__classdict__" : Str)) = false) (d5 : (xc == ("__debug__" : Str)) = false)
    : LamX.GivesTo X Ng x sg g cdg [.Try [.Assign [.Name th p1] (.List [.Constant (.str yes) j1 p2, .Call (.Name a p3) [] [] p4] p5) p6] [.ExceptHandler (some (.Name xc p7)) (some en) [.Assign [.Name th p8] (.List [.Constant (.str no) j2 p9, .Attribute (.Name en p10) fl p11] p12) p13] p14] [] [] p15, .Return (some (.Name th p16)) p17] a q (TTold C fl yes no) := by
  intro f c' s H0 Q tl act hc h
  refine ⟨_, pss_cons (ps_try_as (X := (cxOf C8.CX0 X.prog X.w X.K X.mg X.base Ng x sg g cdg X.A X.stack s H0 C8.E0).nox) (i := 2) (c := .ref C)
      (tb := fun W D σ H => ∃ Ech : XK, (∀ cls d σ' H', Ech cls d H' → σ'.length = Ng.length → W cls d σ' H') ∧ σ[0]? = some (some (.ref f)) ∧ H c' = some (LamX.CodeO c' q) ∧ ∃ K : VK, tl Ech H K ∧ ∀ v H', K v H' → ∀ l, H' l = none → l ≠ sysModules → D.nx (σ.set 1 (some (.ref l))) (upd H' l (.lst [.str yes, v])))
      rfl rfl nd h2 l2 ⟨gx, d5, .inl ec.gC⟩ LamX.takes0 (fun W pn xe tk _ => ?_) (fun a oe cls d pn hz hf => pss_one (ps_set (i := 1) nd h1 (.inl l1) (pe_lsN (pa_cons pe_str (pa_cons (pe_xf ec.xf ec.no hz hf (pe_var h2 (.inl l2) d3 d4)) pa_nil))))))
    (pss_one (ps_ret (pe_var h1 (.inl l1) d1 d2))), ?_⟩
  · refine ⟨fun pins s' σ H D I h' => ?_⟩
    obtain ⟨Ech, hW, h1', h2', K, h3, h4⟩ := h'
    have hp := act _ pn xe Ech p3 p4 (takes_len tk) hW
    have hq : PSs ((cxOf C8.CX0 X.prog X.w X.K X.mg X.base Ng x sg g cdg X.A X.stack s H0 C8.E0).nox.tr pn xe) [.Assign [.Name th p1] (.List [.Constant (.str yes) j1 p2, .Call (.Name a p3) [] [] p4] p5) p6] _ := pss_one (ps_set (i := 1) nd h1 (.inl l1) (pe_lsN (pa_cons pe_str (pa_cons hp.up pa_nil))))
    exact hq.run pins s' σ H D I ⟨K, ⟨h1', h2', h3⟩, fun v H' z => ⟨short2, fun l hl nl => h4 v H' z l hl nl⟩⟩
  · rw [h0 f]
    obtain ⟨K, h3, h4⟩ := h
    have n3 : Ng.length = 3 := by
      have := congrArg List.length (h0 0)
      simp [L2.start] at this
      omega
    refine ⟨fun cls dx H' => cls = .ref C ∧ ∃ a v, dx = some a ∧ H' a = some (.xd [(fl, v)]) ∧ ∀ l, H' l = none → l ≠ sysModules → Q (.ref l) (upd H' l (.lst [.str no, v])), fun cls d σ' H' z len => ?_, rfl, hc, ?_⟩
    · obtain ⟨rfl, aa, v, rfl, ha, z⟩ := z
      refine ⟨true, ec.te, fun _ b hb => ?_, fun z => Bool.noConfusion z⟩
      rw [n3] at len
      match σ', len with
      | [x0, x1, x2], _ =>
        refine ⟨.ref b, rfl, rfl, rfl, aa, _, v, rfl, ha, ?_, ?_⟩
        · simp
        · exact ⟨short2, fun l hl nl => ⟨_, rfl, z l hl nl⟩⟩
    · exact ⟨K, h3, fun v H' z l hl nl => ⟨_, rfl, h4 v H' z l hl nl⟩⟩
end
end Ld

namespace Ld
open PySem PySem.Spec PyProof.Rows L2
open Lw hiding Dv DvAll FreshB tData tDatas pd_int pd_bl pd_non pd_str pd_neg pd_pow pda_nil pda_cons pd_tup pd_lst pd_dct dv_cut dv_cat tup_at rRepr call_repr rIsD call_isD
section
variable {Sy : Md} {X : Cx} {E : L2.St → XK}
/-- told(lambda: body), by data -/
theorem d_lam {x a c fl yes no : Str} {C : Addr} {st : Stmt} {Ng : List Str} {cO P : Addr} {k : Nat} {params : Arguments} {body : Expr} {scope : Scope} {p lpos pos : Pos} {t : TD}
    (D : Dn X.K X.mg x st [a]) (Sg : FnScope Ng [a] (defScope st)) (hNg : Ng[0]? = some a) (hva : Vis (defScope st) a)
    (hG : ∀ (g : Addr) (cdg : Value), LamX.GivesTo X Ng x (defScope st) g cdg (defBody st) a (X.env.qual ++ "<lambda>") (TTold C fl yes no))
    (hC : X.mg c = some (.ref C)) (hg : Gl X x) (TB : LamX.TabB X.base X.mg cO P) (hcode : X.env.code = .ref cO) (hT : Sy.T = [(P, X.env.qual ++ "<lambda>")]) (hr : Room (k + 2) X.A) (L : LamX.LamS X.env.scope scope)
    (hdef : defaultsOf params X.env = ([], []))
    (bd : ∀ (qn : Str) (cs : List (Str × Addr)) (m0 m1 m2 : Value), bindArgs (PySem.W.kla_fn "<lambda>" qn params body scope cs m0 m1 m2) ⟨[], []⟩ = pure [])
    (hbody : ∀ (A : Around) (outer : List PySem.Env) (s : Shared) (H : Hp) (Ek : XK) (f c' : Addr), Room k (A.deeper (LamX.lamEnv X scope s.heap.objs.size f c')) →
      PE (LamX.lamCx X A outer s H Ek scope f c') body (LE Sy (LamX.lamCx X A outer s H Ek scope f c') (fun _ => Ek) t))
    (no1 : (x == ("__debug__" : Str)) = false := by decide) (no2 : (a == ("__debug__" : Str)) = false := by decide) (no3 : (a == ("__classdict__" : Str)) = false := by decide) :
    PE X (.Call (.Name x p) [.Lambda params body scope lpos] [] pos) (LE Sy X E (dTold c fl yes no t)) := by
  obtain ⟨cd, g, oc, od, kV, doc, pm, an, ct, osl, lk, hcg, hk, hm, hb⟩ := D.dc
  refine d_told (C := C) hT.symm (fun z => ?_) hC (LamX.pe_lamcall (T := [(P, X.env.qual ++ "<lambda>")]) hg hm hk lk hcg hb Sg hNg hva (hG g cd) TB hcode (List.mem_singleton.mpr rfl) (fun q hq _ => ?_) hr L hdef bd (fun A outer s H Ek f c' hr2 => ?_) no1 no2 no3)
  · cases z
  · rw [List.mem_singleton.mp hq]
  · exact hbody A outer s H Ek f c' hr2
/-- a list times an int -/
def fRep : PyData → PyData → RD → Prop := fun x y R => match x, y with
  | .list xs, .int k => 0 ≤ k ∧ k ≤ 1000 ∧ xs.length * k.toNat ≤ 16000000 ∧ R (.list (List.replicate k.toNat xs).flatten)
  | _, _ => False
theorem op_repG : OpR X (binaryOp .Mult) rRep := op_rep
theorem dv_times {N : Bn} {H : Hp} {vs : List V} {xs : List PyData} (a : DvAll N H vs xs) : ∀ n : Nat, DvAll N H (List.replicate n vs).flatten (List.replicate n xs).flatten
  | 0 => .nil
  | n + 1 => by
    simp only [List.replicate_succ, List.flatten_cons]
    exact a.app (dv_times a n)
theorem od_rep {Tz : List (Addr × Str)} : OpD ⟨false, Tz, mz⟩ X rRep fRep := fun N H v u x y R Q h dx dy fr sn hK sl q => by
  unfold fRep at h
  split at h
  · cases dx with
    | lst n1 e1 a1 =>
      cases dy
      have l1 := a1.length
      obtain ⟨h1, h2, h3, h4⟩ := h
      refine ⟨_, _, _, rfl, rfl, e1, by omega, by omega, by rw [sizeLine_eq, l1]; omega, fun p hp => ?_⟩
      exact q _ _ _ h4 (same_new hp _) (.lst (sl rfl p hp) upd_same ((dv_times a1 _).same (same_new hp _)))
  · exact h.elim
end
end Ld

namespace Ld
open PySem PySem.Spec PyProof.Rows L2
open Lw hiding Dv DvAll FreshB tData tDatas pd_int pd_bl pd_non pd_str pd_neg pd_pow pda_nil pda_cons pd_tup pd_lst pd_dct dv_cut dv_cat tup_at rRepr call_repr rIsD call_isD
/-! ### steps that touch tables only -/
section
variable {K : PySem.W.Frag} {T : List (Addr × Str)} {H H1 H2 H3 Hx : Hp} {D p a : Addr} {xs ys : List V}
theorem not_tab {b : Addr} {u : HO} (t : LamX.Tabs T H) (z : H b = some u) (m : ∀ ps, u ≠ .tbl ps) : ¬ ∃ q ∈ T, q.1 = b := fun ⟨q, hq, e⟩ => by
  obtain ⟨ps, h1, _⟩ := t q hq
  rw [e, z] at h1
  exact m ps (Option.some.inj h1)
theorem sqL_stp (t : LamX.Tabs T H) (s : Stp ⟨none, T⟩ H H') (q : SqL K H a xs) : SqL K H' a xs := by
  have no : ∀ {u : HO}, H a = some u → (∀ ps, u ≠ .tbl ps) → H' a = some u := fun {u} z m => s.kp a u (fun w => w.elim (fun e => by cases e) fun w => not_tab t z m w) m z
  rcases q with (z | ⟨o, z⟩) | z
  · exact .inl (.inl (no z fun ps e => by cases e))
  · exact .inl (.inr ⟨o, no z fun ps e => by cases e⟩)
  · exact .inr z
theorem stp_app (t1 : LamX.Tabs T H1) (hD : H1 D = none) (s : Stp ⟨none, T⟩ H1 H) (hd : H D = some (.lst xs)) : Stp ⟨none, T⟩ H1 (upd H D (.lst ys)) where
  kp := fun b u n m z => by
    rw [upd_ne (ne_of_none z hD)]
    exact s.kp b u n m z
  tp := fun b zs z => by
    rw [upd_ne (ne_of_none z hD)]
    exact s.tp b zs z
  wl := fun p e => by cases e
  tb := fun _ => tabs_more (s.tb t1) (fun b o n z => by rw [upd_ne n]; exact z) (.inr ⟨_, hd⟩)
  k0 := fun e b u n z => by
    rw [upd_ne (ne_of_none z hD)]
    exact s.k0 e b u n z
theorem no_p {b : Addr} {u : HO} (pn : Hx p = none) (z : Hx b = some u) : ¬ some p = some b := fun e => by
  cases e
  rw [pn] at z
  cases z
theorem stp_turn (s1 : Stp ⟨none, T⟩ H1 Hx) (s2 : Same Hx H2) (pn : Hx p = none) (s3 : Stp ⟨some p, T⟩ H2 H3) : Stp ⟨none, T⟩ H1 H3 where
  kp := fun b u n m z => by
    have z1 := s1.kp b u n m z
    exact s3.kp b u (fun w => w.elim (no_p pn z1) fun w => n (.inr w)) m (s2 _ _ z1)
  tp := fun b zs z => s3.tp b zs (s2 _ _ (s1.tp b zs z))
  wl := fun p e => by cases e
  tb := fun t => s3.tb ((s1.tb t).ext s2)
  k0 := fun e b u n z => by
    have z1 := s1.k0 e b u n z
    exact s3.k0 e b u (fun w => w.elim (no_p pn z1) fun w => n (.inr w)) (s2 _ _ z1)
theorem stp_keep (tx : LamX.Tabs T Hx) (hd : Hx D = some (.lst xs)) (s2 : Same Hx H2) (pn : Hx p = none) (s3 : Stp ⟨some p, T⟩ H2 H3) : H3 D = Hx D := by
  rw [hd]
  exact s3.kp D _ (fun w => w.elim (no_p pn hd) fun w => not_tab tx hd (fun ps e => by cases e) w) (fun ps e => by cases e) (s2 _ _ hd)
variable {g : TG} {te : TE} {vs : List Nat} {σ : L2.St} {σ' : V → L2.St}
/-- [e for x in range(lo, lo + n)], each True; tables may grow -/
theorem lcr_trueT {Qd : Hp → Prop} {lo : Int} {n : Nat} (t1 : LamX.Tabs T H1) (hD : H1 D = none) (hl : n ≤ 1000) (hg : ∀ x H (k : L2.St → Hp → Prop), k (σ' x) H → g x (wipe σ vs) H k) (hw : ∀ x, wipe (σ' x) vs = wipe σ vs)
    (turn : ∀ (i : Nat) H, i < n → Stp ⟨none, T⟩ H1 H → H D = some (.lst (trues i)) → ∀ R : V → Hp → Prop, (∀ H', Stp ⟨none, T⟩ H1 H' → H' D = H D → R (.bl true) H') → te (σ' (.int (lo + i))) H R)
    (done : ∀ H, Stp ⟨none, T⟩ H1 H → H D = some (.lst (trues n)) → Qd H) :
    ∃ W : Nat → Nat → Hp → Prop, (∃ m, W 0 m (upd H1 D (HO.lst []))) ∧ ∀ (i m : Nat) (H : Hp), W i m H → (Itr lo n).stop i H ∧ Qd H ∨ (Itr lo n).go i H ∧ ∃ Nx : Hp → Prop, (∀ (H' : Hp), Nx H' → ∃ m', m' < m ∧ W (i + 1) m' H') ∧
      ∀ (x : V) (H' : Hp), (Itr lo n).yld i H x H' → g x (wipe σ vs) H' fun σ2 H2 => wipe σ2 vs = wipe σ vs ∧ tYes σ2 H2 fun b H3 => if b = true then te σ2 H3 fun y H4 => ∃ acc, H4 D = some (HO.lst acc) ∧ acc.length < sizeLine ∧ Nx (upd H4 D (HO.lst (acc ++ [y]))) else Nx H3 := by
  refine lc_range (te := te) (fun i H => i ≤ n ∧ Stp ⟨none, T⟩ H1 H ∧ H D = some (.lst (trues i))) ⟨Nat.zero_le _, .of (same_new hD _), upd_same⟩ ?_ (fun H z => done H z.2.1 z.2.2)
  rintro i H il ⟨hi, sm, hd⟩
  refine hg _ H _ ⟨hw _, ?_⟩
  show te (σ' _) H _
  refine turn i H il sm hd _ fun H' s2 e2 => ?_
  refine ⟨trues i, e2.trans hd, by rw [List.length_replicate, sizeLine_eq]; omega, ⟨by omega, stp_app t1 hD s2 (e2.trans hd), ?_⟩⟩
  rw [upd_same, trues_more]
end
/-! ### the end of a law that makes lambdas in one def -/
/-- what a law promises, with a table -/
def spLawT (K : PySem.W.Frag) (T : List (Addr × Str)) : Sp := fun vs H Q _ => ∃ (a : Addr) (ns : List Int), vs = [.ref a] ∧ SqL K H a (ns.map V.int) ∧ ns.length ≤ 63 ∧ LamX.Tabs T H ∧ ∀ H', Q (.bl true) H'
section
variable {P : Program} {w : World} {K : PySem.W.Frag} {mg mb : Str → Option Value} {k : Nat} {fa a cM Pm : Addr} {s : Shared} {vs : List Value} {ns : List Int} {q : Str}
open Classical in
noncomputable def scriptT (K : PySem.W.Frag) (a Pm : Addr) (vs : List Value) (ns : List Int) : Hp := fun b =>
  if b = Pm then some (.tbl #[]) else scriptH K a vs ns b
theorem scriptT_tab : scriptT K a Pm vs ns Pm = some (.tbl #[]) := if_pos rfl
theorem scriptT_other {b : Addr} (h : b ≠ Pm) : scriptT K a Pm vs ns b = scriptH K a vs ns b := if_neg h
theorem script_runT (hk : K.In s.heap) (hmain : s.heap.Ns mainGlobals mg) (hbi : s.heap.Ns builtinsNs mb) (hboot : ∀ x : Str, x ≠ "__name__" → mb x = bootBuiltins x) (hlim : s.heap.NoLimit) (hgens : s.gens = #[])
    (hP : s.heap.get? Pm = some { cls := .none, data := .fields #[] }) (nP : K.lookup Pm = none) (hC : PySem.W.CodeHd s.heap cM Pm)
    (hbm : ∃ (bm : Addr) (ob : Obj), mg "__builtins__" = some (.ref bm) ∧ bm ≠ builtinsNs ∧ s.heap.get? bm = some ob ∧ ob.cls = .type "module" ∧ ob.dict = some builtinsNs ∧ ob.data = .plain)
    (ha : s.heap.get? a = some (scriptO vs)) (hi : IntsAre vs ns) (hl : ns.length ≤ 63) (hr : Room k callerA)
    (F : ∀ base : Heap, K.In base → base.Ns mainGlobals mg → LamX.TabB base mg cM Pm → ∃ fd ps, FnG CX0 P w K mg base k fa fd ps (spLawT K [(Pm, q)]) ∧ Binds K fd ps []) :
    codeAny (model P w) callerA (.call (.ref fa) ⟨[.ref a], []⟩) (fun r s' => r = .ok (.ret (.bool true)) ∧ OldK s.heap s'.heap ∧ s'.os = s.os ∧ AllBare s'.gens) s := by
  have size63 : ns.length ≤ sizeLine := Nat.le_trans hl (by decide)
  have rv : Vals (ns.map V.int) vs := vals_ints hi
  have aP : a ≠ Pm := fun e => by
    rw [e, hP] at ha
    exact nomatch (congrArg Obj.data (Option.some.inj ha))
  -- what isn't a list's row nor a table's is not told of
  have out : ∀ {b : Addr} {o : Obj}, s.heap.get? b = some o → (∀ us n, o.data ≠ .seq us n) → o.data ≠ .fields #[] → scriptT K a Pm vs ns b = none := fun {b o} e h1 h2 => by
    rw [scriptT_other fun z => by
      rw [z, hP] at e
      cases e
      exact h2 rfl]
    refine scriptH_other fun c => ?_
    rw [c.1, ha] at e
    cases e
    exact h1 _ _ rfl
  have down : ∀ {b : Addr} {m : Str → Option Value}, s.heap.Ns b m → (hidT s.heap (scriptT K a Pm vs ns)).Ns b m := by
    rintro b m ⟨o, es, n, q, d, r⟩
    exact ⟨o, es, n, hidT_get q (out q (fun us n z => by rw [d] at z; cases z) fun z => by rw [d] at z; cases z), d, r⟩
  have inB : K.In (hidT s.heap (scriptT K a Pm vs ns)) := fun b o q => hidT_get (hk b o q) (by
    rw [scriptT_other fun z => by
      rw [z, nP] at q
      cases q]
    refine scriptH_other fun c => ?_
    rw [c.1, c.2] at q
    cases q)
  have md : Mod K mg (hidT s.heap (scriptT K a Pm vs ns)) := {
    kin := inB
    glob := down hmain
    blt := ⟨mb, down hbi, hboot⟩
    nolimit := by
      obtain ⟨mc, n1, n2⟩ := hlim
      exact ⟨mc, down n1, n2⟩ }
  have ok : HOk P w (scriptT K a Pm vs ns) s.heap := fun b u q => by
    by_cases hb : b = Pm
    · rw [hb, scriptT_tab] at q
      cases q
      rw [hb]
      exact hP
    · rw [scriptT_other hb] at q
      obtain ⟨rfl, _, rfl⟩ := scriptH_some q
      exact ⟨ha, by rw [List.length_map]; exact size63, vs, _, rv, ha⟩
  have e0 : Env0 P w K mg (hidT s.heap (scriptT K a Pm vs ns)) callerA [] s (scriptT K a Pm vs ns) := {
    frames := rfl
    mod := md
    bs := fun b o q => of_hidT q
    bsz := Nat.le_of_eq (hidT_size _ _)
    funs := trivial
    frf := fun b hb => nomatch hb
    hok := ok
    bare := .of_eq hgens }
  have sq : SqL K (scriptT K a Pm vs ns) a (ns.map V.int) := by
    cases e : K.lookup a with
    | some o =>
      have q := hk a o e
      rw [ha] at q
      cases q
      exact .inr ⟨_, vs.toArray, _, e, rfl, rfl, rfl, by rw [List.size_toArray, hi.length]; exact size63, by simpa using rv⟩
    | none => exact .inl (.inr ⟨scriptO vs, (scriptT_other aP).trans (if_pos ⟨rfl, e⟩)⟩)
  have TB : LamX.TabB (hidT s.heap (scriptT K a Pm vs ns)) mg cM Pm := by
    refine ⟨?_, ?_, fun z => ?_⟩
    · obtain ⟨o, us, file, tf, flags, tg, inF, text, tt, e1, r1, r2, r3, r4, r5, r6, r7, r8, hne⟩ := hC
      refine ⟨o, us, file, tf, flags, tg, inF, text, tt, hidT_get e1 (out e1 (fun vs n z => ?_) fun z => ?_), r1, r2, r3, r4, r5, r6, r7, r8, hne⟩
      · rw [r2] at z
        cases z
      · rw [r2] at z
        cases z
        simp at r3
    · obtain ⟨mo, oo, b1, b2, b3, b4, b5, b6⟩ := hbm
      have nG : mo ≠ mainGlobals := fun z => by
        obtain ⟨o, es, n, e, d, _⟩ := hmain
        rw [z, e] at b3
        cases b3
        rw [d] at b6
        cases b6
      have nQ : mo ≠ Pm := fun z => by
        rw [z, hP] at b3
        cases b3
        cases b6
      refine ⟨mo, oo, b1, b2, nG, nQ, hidT_get b3 (out b3 (fun us n z => ?_) fun z => ?_), b4, b5, b6⟩
      · rw [b6] at z
        cases z
      · rw [b6] at z
        cases z
    · obtain ⟨o, es, n, e, d, _⟩ := hmain
      rw [z, hP] at e
      cases e
      cases d
  obtain ⟨fd, ps, G, hb⟩ := F _ inB (down hmain) TB
  have hsp : spLawT K [(Pm, q)] [.ref a] (scriptT K a Pm vs ns) (fun v _ => v = .bl true) (fun _ _ _ => False) := ⟨a, ns, rfl, sq, hl, fun p hp => by
    rw [List.mem_singleton.mp hp]
    exact LamX.TabS.nil scriptT_tab, fun _ => rfl⟩
  have bt := hb s [.ref a] hk (by rw [List.append_nil]; exact G.len _ _ _ _ hsp)
  rw [List.append_nil] at bt
  refine codeAny_mono (G.run callerA hr rfl [] s _ e0 _ [.ref a] [.ref a] bt (.cons rfl .nil) _ _ hsp) ?_
  rintro (er | (_ | _ | _ | u)) s' z
  · exact z.elim
  · exact z.elim
  · exact z.elim
  · exact z.elim
  · obtain ⟨v, H', os, bare, un, ok', r', q⟩ := z
    cases (show v = .bl true from q)
    cases (show u = Value.bool true from r')
    obtain ⟨more, hm⟩ := un.tbls Pm #[] scriptT_tab
    have hm2 := ok' Pm _ hm
    have key : ∀ b o, b ≠ Pm → s.heap.get? b = some o → s'.heap.get? b = some o := fun b o nb q => by
      cases e : scriptH K a vs ns b with
      | none => exact un.keep b o q ((scriptT_other nb).trans e) (fun z => nomatch z) (fun z => nomatch z)
      | some u =>
        have e2 := (scriptT_other nb).trans e
        obtain ⟨rfl, _, rfl⟩ := scriptH_some e
        obtain ⟨now, _⟩ := ok' b _ (un.frzs b _ _ e2)
        rw [ha] at q
        cases q
        exact now
    refine ⟨rfl, ⟨fun u z e => ?_, fun u z e => ?_⟩, os, bare⟩
    · by_cases hb : u = Pm
      · rw [hb] at e ⊢
        rw [hP] at e
        cases e
        exact .inr (.inl ⟨(hC.tab hP).isCodeTable, rfl, #[], _, rfl, hm2⟩)
      · exact .inl (key u z hb e)
    · by_cases hb : u = Pm
      · rw [hb]
        exact ⟨_, hm2⟩
      · exact ⟨z, key u z hb e⟩
/-- the law's end: c and P are the code object and the table of the def that makes lambdas -/
theorem walk_lawT {l : PySem.W.OpenLaw} {k : Nat} {pr : Program} {loose : List Str} {XP : (Str → Option Value) → Heap → Prop} {YP : World → Heap → Prop} {d : DefRec} {K : Params → PySem.W.Frag} {q : Str}
    (hn : l.most = some 63) (hdf : d.params.defaults = []) (hr : Room k callerA) (hY : ∀ (w : World) (h : Heap), YP w h → (K w.params).In h)
    (F : ∀ (w : World) (mg : Str → Option Value) (h : Heap), YP w h → (K w.params).In h → h.Ns mainGlobals mg → ∃ cM Pm : Addr, h.get? Pm = some { cls := .none, data := .fields #[] } ∧ (K w.params).lookup Pm = none ∧ PySem.W.CodeHd h cM Pm ∧
      ∀ base : Heap, (K w.params).In base → base.Ns mainGlobals mg → LamX.TabB base mg cM Pm → Cl CX0 l.prog w (K w.params) mg base k d.name (spLawT (K w.params) [(Pm, q)])) :
    PySem.W.WalkO pr loose XP YP l.row.toRowW d [] (fun f vs => PySem.call f vs) := by
  refine Att.attach_call hn hdf fun w s0 s1 mg mb fa o pm cd doc a vs ns G Y ho hd hcd hm hobj hi hl hg => ?_
  obtain ⟨cM, Pm, h1, h2, h3, F⟩ := F w mg _ Y (hY w _ Y) G.T.g
  refine script_runT (q := q) (hY w _ Y) G.T.g G.T.b G.T.builtins G.T.nolimit hg h1 h2 h3 G.T.bmain hobj hi hl hr fun base b1 b2 b3 => ?_
  obtain ⟨f, fd, ps, FG, mf, _, hb⟩ := (F base b1 b2 b3).ex
  rw [hm] at mf
  cases mf
  exact ⟨fd, ps, FG, hb⟩
/-- the maker's def, its table and its code object, put together -/
theorem ends_at {h : Heap} {x : Str} {st : Stmt} {ps : List Str} {c : Addr} {G : Addr → Addr → Heap → Prop} (M : Dc K mg x st ps (.ref c)) (h1 : h.get? Pm = some { cls := .none, data := .fields #[] }) (h2 : K.lookup Pm = none) (h3 : PySem.W.CodeHd h c Pm)
    (F : ∀ base : Heap, K.In base → base.Ns mainGlobals mg → Dc K mg x st ps (.ref c) → LamX.TabB base mg c Pm → G c Pm base) :
    ∃ cM Pm : Addr, h.get? Pm = some { cls := .none, data := .fields #[] } ∧ K.lookup Pm = none ∧ PySem.W.CodeHd h cM Pm ∧ ∀ base : Heap, K.In base → base.Ns mainGlobals mg → LamX.TabB base mg cM Pm → G cM Pm base :=
  ⟨c, Pm, h1, h2, h3, fun base b1 b2 b3 => F base b1 b2 M b3⟩
end
end Ld

namespace Ld
open PySem PySem.Spec PyProof.Rows L2 Lw
/-! ### an own list lent for one expression -/
mutual
/-- no list and no dict within -/
def noL : PyData → Bool
  | .list _ => false
  | .dict _ => false
  | .tuple ds => noLs ds
  | _ => true
def noLs : List PyData → Bool
  | [] => true
  | d :: r => noL d && noLs r
end
mutual
theorem dv_noL {N N' : Bn} {H : Hp} (hK : N.K = N'.K) : ∀ (d : PyData) (v : V), noL d = true → Dv N' H v d → Dv N H v d
  | .none, _, _, h => by cases h; exact .non
  | .bool _, _, _, h => by cases h; exact .bl _
  | .int _, _, _, h => by cases h; exact .int _
  | .str _, _, _, h => by cases h; exact .str _
  | .list ds, _, n, h => by unfold noL at n; cases n
  | .tuple ds, _, n, h => by
    unfold noL at n
    cases h with
    | tup e a => exact .tup (by rw [hK]; exact e) (dvs_noL hK ds _ n a)
  | .dict _, _, n, h => by unfold noL at n; cases n
theorem dvs_noL {N N' : Bn} {H : Hp} (hK : N.K = N'.K) : ∀ (ds : List PyData) (vs : List V), noLs ds = true → DvAll N' H vs ds → DvAll N H vs ds
  | [], _, _, h => by cases h; exact .nil
  | d :: ds, _, n, h => by
    unfold noLs at n
    rw [Bool.and_eq_true] at n
    cases h with
    | cons a b => exact .cons (dv_noL hK d _ n.1 a) (dvs_noL hK ds _ n.2 b)
end
def noLx (x : Exn) : Bool := x.2.all fun p => noL p.2
theorem ex_noL {mg : Str → Option Value} {N N' : Bn} {H : Hp} {cls : Value} {dx : Option Addr} (hK : N.K = N'.K) {x : Exn} (n : noLx x = true) (h : ExAt mg N' H cls dx x) : ExAt mg N H cls dx x := by
  obtain ⟨C, h1, h2, h3⟩ := h
  refine ⟨C, h1, h2, ?_⟩
  unfold noLx at n
  split at h3
  · exact h3
  · rename_i f d e
    rw [e] at n
    simp only [List.all_cons, List.all_nil, Bool.and_true] at n
    obtain ⟨a, v, e1, e2, e3⟩ := h3
    exact ⟨a, v, e1, e2, dv_noL hK d v n e3⟩
  · exact h3
section
variable {Sy : Md} {X : Cx} {E : L2.St → XK} {st : Stmt} {sts : List Stmt} {pos : Pos} {i j l n : Nat} {t u : TSD} {te : TD} {tc : TTD} {tr : TAD}
/-- an expression within a statement, an own list being lent to it -/
theorem le_lend {w : Wx} {N0 : Bn} {H0 : Hp} {N : Bn} {O : Nat → Option Addr} {F : Keep} {ρ : Env} {σ : L2.St} {H : Hp} {R : RD} {Q : VK} {D : Ends} {DD : EndsD} {ds : List PyData} (b : EnvB (gnd Sy X) w N0 H0 N O F H σ ρ) (k : DnOk Sy X E w N0 H0 F D DD)
    (hs : slotD ρ i = some (.own ds)) (h : te (putD ρ i (some (.dat (.list ds)))) (fun d => noL d = true ∧ R d) (fun x => noLx x = true ∧ DD.ex ρ x))
    (q : ∀ d v H', R d → EnvB (gnd Sy X) w N0 H0 N O F H' σ ρ → Dv N H' v d → Q v H') : LE Sy X E te σ H Q := by
  obtain ⟨N', O', b'⟩ := b.frz hs
  have hK : N.K = N'.K := b.e.ok.kk.trans b'.e.ok.kk.symm
  exact ⟨w, N', O', F, _, _, _, b'.e, h, fun d v H' r s dv => q d v H' r.2 (b.step s) (dv_noL hK d v r.1 dv), fun x cls dx H' hx s hh => k.ex N O H' σ ρ x cls dx hx.2 (b.step s) (ex_noL hK hx.1 hh)⟩
theorem lt_lend {w : Wx} {N0 : Bn} {H0 : Hp} {N : Bn} {O : Nat → Option Addr} {F : Keep} {ρ : Env} {σ : L2.St} {H : Hp} {R : Bool → Prop} {Q : Bool → Hp → Prop} {D : Ends} {DD : EndsD} {ds : List PyData} (b : EnvB (gnd Sy X) w N0 H0 N O F H σ ρ) (k : DnOk Sy X E w N0 H0 F D DD)
    (hs : slotD ρ i = some (.own ds)) (h : tc (putD ρ i (some (.dat (.list ds)))) R (fun x => noLx x = true ∧ DD.ex ρ x))
    (q : ∀ c H', R c → EnvB (gnd Sy X) w N0 H0 N O F H' σ ρ → Q c H') : LT Sy X E tc σ H Q := by
  obtain ⟨N', O', b'⟩ := b.frz hs
  have hK : N.K = N'.K := b.e.ok.kk.trans b'.e.ok.kk.symm
  exact ⟨w, N', O', F, _, _, _, b'.e, h, fun c H' r s => q c H' r (b.step s), fun x cls dx H' hx s hh => k.ex N O H' σ ρ x cls dx hx.2 (b.step s) (ex_noL hK hx.1 hh)⟩
/-- x.append(e), e reads x -/
def sAppL (i : Nat) (t : TD) : TSD := fun D ρ => ownK (slotD ρ i) fun ds => t (putD ρ i (some (.dat (.list ds)))) (fun d => noL d = true ∧ ds.length < 16000000 ∧ D.nx (putD ρ i (some (.own (ds ++ [d]))))) (fun x => noLx x = true ∧ D.ex ρ x)
theorem ds_appL (h : PS X st (tDrop (tBM X.K "list" rAppend (tVar i) (LA Sy X E 1 (dCons te dNil))))) : PS X st (LS Sy X E (sAppL i te)) := h.weak fun D σ H ⟨w, N0, H0, N, O, F, ρ, DD, b, h, k⟩ => by
  obtain ⟨ds, hs, h⟩ := ownK_of h
  obtain ⟨v, h1, a, xs, rfl, ho, ha, all⟩ := b.e.slot i _ hs
  refine ⟨_, h1, .inl ⟨rfl, _, .of ha⟩, ?_⟩
  obtain ⟨N', O', b'⟩ := b.frz hs
  have hK : N.K = N'.K := b.e.ok.kk.trans b'.e.ok.kk.symm
  refine ⟨w, N', O', F, _, (fun us => match us with
    | [.dat d] => noL d = true ∧ ds.length < 16000000 ∧ DD.nx (putD ρ i (some (.own (ds ++ [d]))))
    | _ => False), _, b'.e, h, fun us vs H' hl r s hv => ?_, fun x cls dx H' hx s hh => k.ex N O H' σ ρ x cls dx hx.2 (b.step s) (ex_noL hK hx.1 hh)⟩
  dsimp only at r
  split at r
  · rename_i d
    obtain ⟨hn, hlen, r⟩ := r
    match vs, hv with
    | [v], hv =>
      have bs := b.step s
      obtain ⟨v2, h2, a2, xs2, e2, ho2, ha2, all2⟩ := bs.e.slot i _ hs
      rw [ho] at ho2
      cases ho2
      refine ⟨a, xs2, v, rfl, rfl, ha2, by rw [all2.length, sizeLine_eq]; omega, ?_⟩
      exact k.nx _ _ _ _ _ r (bs.ownSet hs ho ha2 (all2.app (.cons (dv_noL hK d _ hn hv.1) .nil)))
  · exact r.elim
/-- x = e, e reads the own list in slot i -/
def sSetL (i j : Nat) (t : TD) : TSD := fun D ρ => ownK (slotD ρ i) fun ds => t (putD ρ i (some (.dat (.list ds)))) (fun d => noL d = true ∧ D.nx (putD ρ j (some (.dat d)))) (fun x => noLx x = true ∧ D.ex ρ x)
theorem ds_setL (h : PS X st (tAsg (LE Sy X E te) (gName j))) : PS X st (LS Sy X E (sSetL i j te)) := h.weak fun D σ H ⟨w, N0, H0, N, O, F, ρ, DD, b, h, k⟩ => by
  obtain ⟨ds, hs, h⟩ := ownK_of h
  exact le_lend b k hs h fun d v H' r b' dv => k.nx _ _ H' _ _ r (b'.put j dv)
/-- if e, e reads the own list in slot i -/
def sIfL (i : Nat) (c : TTD) (t u : TSD) : TSD := fun D ρ => ownK (slotD ρ i) fun ds => c (putD ρ i (some (.dat (.list ds)))) (fun b => if b = true then t D ρ else u D ρ) (fun x => noLx x = true ∧ D.ex ρ x)
theorem ds_ifL (h : PS X st (tIfS (LT Sy X E tc) (LS Sy X E t) (LS Sy X E u))) : PS X st (LS Sy X E (sIfL i tc t u)) := h.weak fun D σ H ⟨w, N0, H0, N, O, F, ρ, DD, b, h, k⟩ => by
  obtain ⟨ds, hs, h⟩ := ownK_of h
  refine lt_lend b k hs h fun c H' r b' => ?_
  cases c with
  | true => exact ⟨w, N0, H0, N, O, F, ρ, DD, b', r, k⟩
  | false => exact ⟨w, N0, H0, N, O, F, ρ, DD, b', r, k⟩
end
/-! ### list(x), x a list -/
section
variable {X : Cx}
theorem call_listL : CallR X (.type "list") (fun xs H Q => ∃ p ys, xs = [.ref p] ∧ SqL X.K H p ys ∧ ∀ l, H l = none → l ≠ sysModules → Q (.ref l) (upd H l (.lst ys))) := by
  intro pins s σ H xs us Q I r h
  obtain ⟨p, ys, rfl, ht, q⟩ := h
  obtain ⟨u, rfl, rx⟩ := vals1 r
  cases rx
  obtain ⟨its, rv, ⟨o, n, ho, hc, _, hd⟩, hz⟩ := I.list ht
  refine call_list_seq p (.inl rfl) ho hc hd (fun h' c' kp now => ?_) (by have := rv.length; simp only [List.size_toArray]; omega)
  have J := I.laid (t' := s.toks) (a := s.heap.objs.size) (o := .lst ys) kp (Nat.le_refl _) ⟨hz, its, c', rv, now⟩
  exact ⟨V.ref _, _, J, rfl, q _ (I.hok.fresh (Nat.le_refl _)) fun k => absurd I.big (by rw [k]; exact Nat.lt_irrefl _)⟩
def rListL (K : PySem.W.Frag) : List V → Hp → VK → Prop := fun xs H Q => ∃ p ys, xs = [.ref p] ∧ SqL K H p ys ∧ ∀ l, H l = none → l ≠ sysModules → Q (.ref l) (upd H l (.lst ys))
variable {Sy : Md} {E : L2.St → XK} {e : Expr} {i : Nat} {te : TD}
/-- list(x), x the own list in slot i -/
def dOwnLst (i : Nat) : TD := fun ρ R _ => ownK (slotD ρ i) fun ds => R (.list ds)
theorem d_ownLst (h : PE X e (tCB (rListL X.K) (tCons (tVar i) tNil))) : PE X e (LE Sy X E (dOwnLst i)) := h.weak fun σ H Q ⟨w, N, O, F, ρ, R, Ex, en, t, q, qx⟩ => by
  obtain ⟨ds, hs, r⟩ := ownK_of t
  obtain ⟨v, h1, a, xs, rfl, ho, ha, all⟩ := en.slot i _ hs
  refine ⟨_, h1, a, xs, rfl, .inl (.of ha), fun l hl nl => ?_⟩
  have s := same_new hl (.lst xs)
  exact q _ _ _ r (.of s) (.lst (en.ok.fr l hl nl) upd_same (all.same s))
/-- list(x), x told as a list -/
def fLstL (d : PyData) (R : RD) : Prop := match d with
  | .list ds => R (.list ds)
  | _ => False
theorem d_lstL (h : PE X e (tCB (rListL X.K) (tCons (LE Sy X E te) tNil))) : PE X e (LE Sy X E (dUn fLstL te)) := h.weak fun σ H Q ⟨w, N, O, F, ρ, R, Ex, en, t, q, qx⟩ => by
  refine ⟨w, N, O, F, ρ, _, Ex, en, t, fun x v H1 r1 k1 dx => ?_, qx⟩
  have en1 := en.step k1
  unfold fLstL at r1
  cases dx with
  | @lst a xs ds nn ea all =>
    refine ⟨a, xs, rfl, .inl (.of ea), fun l hl nl => ?_⟩
    have s := same_new hl (.lst xs)
    exact q _ _ _ r1 (k1.trans (.of s)) (.lst (en1.ok.fr l hl nl) upd_same (all.same s))
  | _ => exact r1.elim
end
/-! ### // of any size, the quotient being small -/
theorem noPylong_quot {x y : Int} (h : x.natAbs < y.natAbs * 2 ^ 4400) : Builtin.divisionGoesByPylong x y = false := by
  have hy : y.natAbs ≠ 0 := fun z => by rw [z, Nat.zero_mul] at h; exact absurd h (Nat.not_lt_zero _)
  have y0 : (y == 0) = false := by simp; omega
  have key : (if x == 0 then 0 else x.natAbs.log2 / 30 + 1) ≤ (if y == 0 then 0 else y.natAbs.log2 / 30 + 1) + 150 := by
    rw [y0]
    by_cases hx : (x == 0) = true
    · rw [if_pos hx]; exact Nat.zero_le _
    · rw [if_neg hx]
      have x0 : x.natAbs ≠ 0 := by simp at hx; omega
      have ly : y.natAbs < 2 ^ (y.natAbs.log2 + 1) := (Nat.log2_lt hy).mp (Nat.lt_succ_self _)
      have lx : x.natAbs.log2 < y.natAbs.log2 + 1 + 4400 := (Nat.log2_lt x0).mpr (by
        rw [Nat.pow_add]
        exact Nat.lt_of_lt_of_le h (Nat.mul_le_mul_right _ (Nat.le_of_lt ly)))
      show x.natAbs.log2 / 30 + 1 ≤ y.natAbs.log2 / 30 + 1 + 150
      omega
  show (decide ((if y == 0 then 0 else y.natAbs.log2 / 30 + 1) > 300) && decide ((if x == 0 then 0 else x.natAbs.log2 / 30 + 1) > (if y == 0 then 0 else y.natAbs.log2 / 30 + 1) + 150)) = false
  rw [decide_eq_false (p := _ > _ + 150) (Nat.not_lt.mpr key), Bool.and_false]
def FdOk (i j : Int) : Prop := j ≠ 0 ∧ (j.natAbs < 2 ^ 9000 ∨ i.natAbs < j.natAbs * 2 ^ 4400)
section
variable {X : Cx}
theorem op_fdivB : OpR X (binaryOp .FloorDiv) (rI FdOk fun i j => .int (i.fdiv j)) :=
  opI fun i j _ _ _ _ _ hc q => floordiv_int hc.1 q (.inl (hc.2.elim (fun z => PyProof.noPylong_of_log2 (log2_lt (by decide) z)) noPylong_quot))
end
abbrev fFdvB := fInt (fun i j => i.fdiv j) FdOk
theorem FdOk.low {i j : Int} (h : j ≠ 0) (z : j.natAbs < 2 ^ 9000) : FdOk i j := ⟨h, .inl z⟩
end Ld

namespace Ld
open PySem PySem.Spec PyProof.Rows L2
open Lw hiding Dv DvAll FreshB tData tDatas pd_int pd_bl pd_non pd_str pd_neg pd_pow pda_nil pda_cons pd_tup pd_lst pd_dct dv_cut dv_cat tup_at rRepr call_repr rIsD call_isD
/-! ### a slot emptied -/
section
variable {base : Gnd} {w : Wx} {N0 N : Bn} {O : Nat → Option Addr} {F : Keep} {H0 H H' : Hp} {σ : L2.St} {ρ : Env}
theorem EnvR.clr (e : EnvR base w N O F H σ ρ) (i : Nat) : EnvR base w N (fun j => if j = i then none else O j) F H (σ.set i none) (putD ρ i none) := by
  refine ⟨e.ok, by rw [List.length_set, putD_len, e.len], fun j y hy => ?_, fun a b c h1 h2 => ?_, fun j a h1 => ?_, e.kept⟩
  · rcases slot_put ρ i j _ _ hy (by intro z; cases z) with ⟨rfl, z, l⟩ | ⟨nj, z⟩
    · cases z
    · obtain ⟨u, h1, h2⟩ := e.slot j y z
      refine ⟨u, by rw [List.getElem?_set_ne (fun z => nj z.symm)]; exact h1, ?_⟩
      cases y with
      | dat d => exact h2
      | own ds =>
        obtain ⟨a, xs, r, o, q⟩ := h2
        exact ⟨a, xs, r, by simp only [nj, if_false]; exact o, q⟩
      | well => exact h2
      | fn _ => exact h2
  · try dsimp only at h1 h2
    split at h1
    · cases h1
    · split at h2
      · cases h2
      · exact e.inj a b c h1 h2
  · try dsimp only at h1
    split at h1
    · cases h1
    · exact e.ow j a h1
theorem EnvB.clr (b : EnvB base w N0 H0 N O F H σ ρ) (i : Nat) : EnvB base w N0 H0 N (fun j => if j = i then none else O j) F H (σ.set i none) (putD ρ i none) :=
  ⟨b.e.clr i, b.st, b.sub, fun j a z => by
    split at z
    · cases z
    · exact b.new j a z, b.fr0, b.k0⟩
end
/-! ### try: .. except c as e: t = [no, e.field] -/
def sTry1 (c fl : Str) (i j : Nat) (no : Str) (tb : TSD) : TSD := fun D ρ => tb { nx := D.nx, rt := D.rt, bk := D.bk, ct := D.ct, ex := fun ρ' x => ∃ d, x = (c, [(fl, d)]) ∧ D.nx (putD (putD ρ' j (some (.dat (.list [.str no, d])))) i none) } ρ
section
variable {Sy : Md} {X : Cx} {E : L2.St → XK} {i j : Nat} {tb : TSD}
def WL (X : Cx) (W : WX) : WX := fun cls d σ H => σ.length = X.N.length → W cls d σ H
theorem ds_try1 {xc fl no en th : Str} {C fI : Addr} {fd : FuncData} {st0 : Stmt} {body : List Stmt} {p1 p2 p3 p4 p5 p6 p7 p8 pos : Pos} {j2 : Nat}
    (ec : Ec X.K X.mg xc fl st0 C fI fd) (hs : X.stack = X.env :: X.outer) (hf : X.env.frame = some X.env.locals) (nd : X.N.Nodup) (hi : X.N[i]? = some en) (hj : X.N[j]? = some th) (ij : i ≠ j)
    (li : X.env.kindOf en = some .local) (lj : X.env.kindOf th = some .local) (gx : Gl X xc)
    (d3 : (en == ("__debug__" : Str)) = false) (d4 : (en == ("__classdict__" : Str)) = false) (d5 : (xc == ("__debug__" : Str)) = false)
    (hb : ∀ (W : WX) (pn : List (Addr × Obj)) (xe : Value → Shared → Prop), Takes (X.tr pn xe) W → PSs (X.tr pn xe) body (LS Sy (X.tr pn xe) (fun σ => WE (WL (X.tr pn xe) W) σ) tb))
    (hh : ∀ (a : Addr) (oe : Obj) (cls : Value) (d : Option Addr) (pn : List (Addr × Obj)) (te : TE), PE (X.suite a ((a, oe) :: pn)) (.List [.Constant (.str no) j2 p1, .Attribute (.Name en p2) fl p3] p4) te → PS (X.suite a ((a, oe) :: pn)) (.Assign [.Name th p5] (.List [.Constant (.str no) j2 p1, .Attribute (.Name en p2) fl p3] p4) p6) (tAsg te (gName j)))
    (hv : ∀ (a : Addr) (oe : Obj) (pn : List (Addr × Obj)), PE (X.suite a ((a, oe) :: pn)) (.Name en p2) (tVar i)) :
    PS X (.Try body [.ExceptHandler (some (.Name xc p7)) (some en) [.Assign [.Name th p5] (.List [.Constant (.str no) j2 p1, .Attribute (.Name en p2) fl p3] p4) p6] p8] [] [] pos) (LS Sy X E (sTry1 xc fl i j no tb)) := by
  refine (ps_try_as (X := X) (i := i) (c := .ref C) (tb := fun W => LS Sy X (fun σ => WE (WL X W) σ) tb) (Wout := fun _ _ _ _ => False) hs hf nd hi li ⟨gx, d5, .inl ec.gC⟩ LamX.takes0 (fun W pn xe tk _ => (hb W pn xe tk).weak fun D σ H ⟨w, N0, H0, N, O, F, ρ, DD, b, h, k⟩ => ⟨w, N0, H0, N, O, F, ρ, DD, b, h, ⟨k.nx, k.rt, k.bk, k.ct, k.ex⟩⟩)
    (fun a oe cls d pn hz hf => pss_one (hh a oe cls d pn _ (pe_lsN (pa_cons pe_str (pa_cons (pe_xf ec.xf ec.no hz hf (hv a oe pn)) pa_nil)))))).weak fun D σ H ⟨w, N0, H0, N, O, F, ρ, DD, b, h, k⟩ => ?_
  refine ⟨w, N0, H0, N, O, F, ρ, _, b, h, ⟨k.nx, k.rt, k.bk, k.ct, fun N O H σ ρ x cls dx hx b hh => ?_⟩⟩
  intro len
  obtain ⟨d, rfl, r⟩ := hx
  obtain ⟨C', g1, g2, a, v, g3, g4, g5⟩ := hh
  have g1 : X.mg xc = some (.ref C') := g1
  rw [ec.gC] at g1
  cases g1
  subst g2
  refine ⟨true, ec.te, fun _ bb hbb => ?_, fun z => Bool.noConfusion z⟩
  have li' : i < σ.length := by
    rw [len]
    exact (List.getElem?_eq_some_iff.mp hi).1
  refine ⟨.ref bb, by rw [List.getElem?_set_self li'], rfl, rfl, a, _, v, g3, g4, ?_, ?_⟩
  · simp
  · refine ⟨by rw [sizeLine_eq]; show 2 ≤ 16777216; decide, fun l hl nl => ?_⟩
    have s3 := same_new hl (.lst [.str no, v])
    have b3 := ((b.step (.of s3)).put j (v := .ref l) (d := .list [.str no, d]) (.lst (b.e.ok.fr l hl nl) upd_same (.cons (.str _) (.cons (g5.same s3) .nil)))).clr i
    have e : (((σ.set i (some (.ref bb))).set j (some (.ref l))).set i none) = (σ.set j (some (.ref l))).set i none := by
      rw [set_swap _ i j _ _ ij, set_set]
    show D.nx (((σ.set i (some (.ref bb))).set j (some (.ref l))).set i none) _
    rw [e]
    exact k.nx _ _ _ _ _ r b3
end
/-! ### math.lcm -/
section
variable {X : Cx} {Sy : Md}
def rLcm : List V → Hp → VK → Prop := fun vs H Q => ∃ a b : Int, vs = [.int a, .int b] ∧ a.natAbs < 2 ^ 2000 ∧ b.natAbs < 2 ^ 2000 ∧ Q (.int ((Nat.lcm a.natAbs b.natAbs : Nat) : Int)) H
theorem cr_lcm : CallR X (.builtin "math.lcm") rLcm := by
  intro pins s σ H vs us Q I r h
  obtain ⟨a, b, rfl, ha, hb, q⟩ := h
  obtain ⟨t, u, rfl⟩ := Vals.int2 r
  have l1 : (max 1 a.natAbs).log2 < 2001 := log2_lt (by decide) (by
    rcases Nat.le_total 1 a.natAbs with z | z
    · rw [Nat.max_eq_right z]
      exact Nat.lt_trans ha (Nat.pow_lt_pow_right (by decide) (by decide))
    · rw [Nat.max_eq_left z]
      exact Nat.one_lt_two_pow (by decide))
  have l2 : (max a.natAbs b.natAbs).log2 < 2001 := log2_lt (by decide) (by
    rcases Nat.le_total a.natAbs b.natAbs with z | z
    · rw [Nat.max_eq_right z]
      exact Nat.lt_trans hb (Nat.pow_lt_pow_right (by decide) (by decide))
    · rw [Nat.max_eq_left z]
      exact Nat.lt_trans ha (Nat.pow_lt_pow_right (by decide) (by decide)))
  have one : Nat.lcm 1 a.natAbs = a.natAbs := by simp [Nat.lcm]
  have le : a.natAbs.lcm b.natAbs ≤ a.natAbs * b.natAbs := by
    unfold Nat.lcm
    exact Nat.div_le_self _ _
  have hsz : ((((Nat.lcm 1 a.natAbs).lcm b.natAbs : Nat) : Int)).natAbs.log2 < bitsLine := by
    rw [one, Int.natAbs_natCast]
    have : a.natAbs.lcm b.natAbs < 2 ^ 4000 := by
      have := Nat.mul_lt_mul'' ha hb
      rw [← Nat.pow_add] at this
      exact Nat.lt_of_le_of_lt le this
    have := log2_lt (by decide) this
    exact Nat.lt_trans this (by decide)
  refine call_function_meets PySem.W.MGF.kind_lcm PySem.W.MGF.plain_lcm PySem.W.MGF.entry_lcm (PySem.W.MGF.args_lcm _ _) (PySem.W.mg_run_lcm a t b u (by omega) (by omega) hsz).meets ?_
  rw [one]
  exact ⟨.int _, H, I.tok _, ⟨_, rfl⟩, q⟩
def fLcm (ds : List PyData) (R : RD) : Prop := match ds with
  | [.int a, .int b] => (a.natAbs < 2 ^ 2000 ∧ b.natAbs < 2 ^ 2000) ∧ R (.int ((Nat.lcm a.natAbs b.natAbs : Nat) : Int))
  | _ => False
theorem bd_lcm : CallD Sy X rLcm fLcm := fun N H vs ds R Q h dv fr sn hK sl q => by
  unfold fLcm at h
  split at h
  · rename_i a b
    match vs, dv with
    | [x, y], .cons h1 (.cons h2 .nil) =>
      cases h1
      cases h2
      exact ⟨a, b, rfl, h.1.1, h.1.2, q _ _ H h.2 (.refl _) (.int _)⟩
  · exact h.elim
end
theorem e_lcm {i j : Int} {R : RD} : fLcm [.int i, .int j] R = ((i.natAbs < 2 ^ 2000 ∧ j.natAbs < 2 ^ 2000) ∧ R (.int ((Nat.lcm i.natAbs j.natAbs : Nat) : Int))) := rfl
/-! ### zip of two tuples, of two lists -/
def zipD (ds es : List PyData) : List PyData := (ds.zip es).map fun p => .tuple [p.1, p.2]
def iZp (ta : TAD) : ID := fun ρ R Ex => ta ρ (fun us => match us with
  | [.dat (.tuple ds), .dat (.tuple es)] => R (zipD ds es)
  | [.dat (.list ds), .dat (.list es)] => R (zipD ds es)
  | _ => False) Ex
theorem zip_get {ds es : List PyData} {i : Nat} {d : PyData} (h : (zipD ds es)[i]? = some d) : ∃ x y, ds[i]? = some x ∧ es[i]? = some y ∧ d = .tuple [x, y] := by
  unfold zipD at h
  rw [List.getElem?_map] at h
  cases e : (ds.zip es)[i]? with
  | none => rw [e] at h; cases h
  | some p =>
    rw [e] at h
    rw [List.getElem?_zip_eq_some] at e
    exact ⟨p.1, p.2, e.1, e.2, (Option.some.inj h).symm⟩
theorem zip_len (ds es : List PyData) : (zipD ds es).length = min ds.length es.length := by
  unfold zipD
  rw [List.length_map, List.length_zip]
section
variable {Sy : Md} {X : Cx} {E : L2.St → XK}
theorem io_zip {tr : TAD} : IOk Sy X E (RZ.iZipA X.K (LA Sy X E 2 tr)) (iZp tr) := ⟨fun w N O F ρ σ H R Ex Q en h q qx => ⟨w, N, O, F, ρ, _, Ex, en, h, fun us vs H1 hl r k hv => by
  have en1 := en.step k
  split at r
  · rename_i ds es
    match vs, hv with
    | [v, u], hv =>
      cases hv.1 with
      | @tup a xs _ ea all =>
        cases hv.2.1 with
        | @tup b ys _ eb all2 =>
          have kk : N.K = X.K := en.ok.kk
          refine ⟨a, b, xs, ys, rfl, .inr ⟨kk ▸ ea.sq, kk ▸ eb.sq, q _ _ [(.ref a, .tuple ds), (.ref b, .tuple es)] H1 r k (fun p hp => ?_) ⟨fun N2 H2 hK g => ?_, fun N2 H2 i d hK g hd => ?_⟩⟩⟩
          · rcases List.mem_cons.mp hp with rfl | hp
            · exact .tup ea all
            · cases List.mem_singleton.mp hp
              exact .tup eb all2
          · cases g (.ref a, .tuple ds) (List.mem_cons_self ..) with
            | tup e2 a2 =>
              cases g (.ref b, .tuple es) (List.mem_cons_of_mem _ (List.mem_cons_self ..)) with
              | tup e3 a3 =>
                refine ⟨_, _, hK ▸ e2.sq, hK ▸ e3.sq, ?_⟩
                rw [a2.length, a3.length, zip_len]
                omega
          · cases g (.ref a, .tuple ds) (List.mem_cons_self ..) with
            | tup e2 a2 =>
              cases g (.ref b, .tuple es) (List.mem_cons_of_mem _ (List.mem_cons_self ..)) with
              | tup e3 a3 =>
                obtain ⟨x, y, gx, gy, rfl⟩ := zip_get hd
                obtain ⟨x', hx, dx⟩ := a2.get gx
                obtain ⟨y', hy, dy⟩ := a3.get gy
                refine ⟨⟨_, _, x', y', hK ▸ e2.sq, hK ▸ e3.sq, hx, hy⟩, fun z H' hz => ?_⟩
                obtain ⟨T, x2, y2, rfl, hT, rfl, f1, f2⟩ := hz
                have q1 := f1 _ (hK ▸ e2.sq)
                have q2 := f2 _ (hK ▸ e3.sq)
                rw [hx] at q1
                rw [hy] at q2
                cases q1
                cases q2
                have s := same_new hT (.tup [x', y'])
                exact ⟨s, .tup (.of upd_same) (.cons (dx.same s) (.cons (dy.same s) .nil))⟩
  · rename_i ds es
    match vs, hv with
    | [v, u], hv =>
      cases hv.1 with
      | @lst a xs _ na ea all =>
        cases hv.2.1 with
        | @lst b ys _ nb eb all2 =>
          refine ⟨a, b, xs, ys, rfl, .inl ⟨.inl (.of ea), .inl (.of eb), q _ _ [(.ref a, .list ds), (.ref b, .list es)] H1 r k (fun p hp => ?_) ⟨fun N2 H2 hK g => ?_, fun N2 H2 i d hK g hd => ?_⟩⟩⟩
          · rcases List.mem_cons.mp hp with rfl | hp
            · exact .lst na ea all
            · cases List.mem_singleton.mp hp
              exact .lst nb eb all2
          · cases g (.ref a, .list ds) (List.mem_cons_self ..) with
            | lst n2 e2 a2 =>
              cases g (.ref b, .list es) (List.mem_cons_of_mem _ (List.mem_cons_self ..)) with
              | lst n3 e3 a3 =>
                refine ⟨_, _, .inl (.of e2), .inl (.of e3), ?_⟩
                rw [a2.length, a3.length, zip_len]
                omega
          · cases g (.ref a, .list ds) (List.mem_cons_self ..) with
            | lst n2 e2 a2 =>
              cases g (.ref b, .list es) (List.mem_cons_of_mem _ (List.mem_cons_self ..)) with
              | lst n3 e3 a3 =>
                obtain ⟨x, y, gx, gy, rfl⟩ := zip_get hd
                obtain ⟨x', hx, dx⟩ := a2.get gx
                obtain ⟨y', hy, dy⟩ := a3.get gy
                refine ⟨⟨_, _, x', y', .inl (.of e2), .inl (.of e3), hx, hy⟩, fun z H' hz => ?_⟩
                obtain ⟨T, x2, y2, rfl, hT, rfl, f1, f2⟩ := hz
                have q1 := f1 _ (.inl (.of e2))
                have q2 := f2 _ (.inl (.of e3))
                rw [hx] at q1
                rw [hy] at q2
                cases q1
                cases q2
                have s := same_new hT (.tup [x', y'])
                exact ⟨s, .tup (.of upd_same) (.cons (dx.same s) (.cons (dy.same s) .nil))⟩
  · exact r.elim, qx⟩⟩
end
/-! ### a list taken apart -/
def gdL (n : Nat) (gs : GsD) : GD := fun d ρ K => match d with
  | .list ds => lenK ds n (gs ds ρ K)
  | _ => False
theorem go_lst {gs : TGs} {gds : GsD} {sl : List Nat} {n : Nat} {K : PySem.W.Frag} (b : GsOk K gs gds sl) : GOk K (gLst K n gs) (gdL n gds) sl := ⟨fun base w N O F H σ ρ v d K Q hK bb dv h q => by
  cases dv with
  | lst na ea all =>
    obtain ⟨l, h⟩ := lenK_of h
    exact ⟨_, _, rfl, .inl (.of ea), all.length.trans l, b.run base w N O F H σ ρ _ _ _ _ hK bb all h q⟩
  | _ => exact h.elim⟩
theorem e_gdL {n : Nat} {gs : GsD} {ρ : Env} {K : Env → Prop} {a : List PyData} : gdL n gs (.list a) ρ K = lenK a n (gs a ρ K) := rfl
end Ld

namespace Ld
open PySem PySem.Spec PyProof.Rows L2
open Lw hiding Dv DvAll FreshB tData tDatas pd_int pd_bl pd_non pd_str pd_neg pd_pow pda_nil pda_cons pd_tup pd_lst pd_dct dv_cut dv_cat tup_at rRepr call_repr rIsD call_isD
/-! ### defs handed over and called -/
section
variable {CX : CXT} {P : Program} {w : World} {K : PySem.W.Frag} {mg : Str → Option Value} {base : Heap}
theorem Cq.mono {g : Bool} {k k' : Nat} {x : Str} {sp : Sp} (c : Cq g CX P w K mg base k x sp) (h : k ≤ k') : Cq g CX P w K mg base k' x sp := by
  obtain ⟨f, fd, ps, F, a, b, d⟩ := c.ex
  exact ⟨f, fd, ps, ⟨F.len, fun A hr => F.run A (hr.mono h)⟩, a, b, d⟩
theorem _root_.Lw.Dn.at {x : Str} {st : Stmt} {ps : List Str} (D : Dn K mg x st ps) : ∃ f, mg x = some (.ref f) := by
  obtain ⟨f, fd, F, hm, hb⟩ := D.ex
  exact ⟨f, hm⟩
end
def dConsF (x : Str) (r : TAD) : TAD := fun ρ R Ex => r ρ (fun us => R (.fn x :: us)) Ex
/-- a call of what the slot i holds -/
def dCallV (i : Nat) (FT : Str → TF → Prop) (ta : TAD) : TD := fun ρ R Ex => match slotD ρ i with
  | some (.fn x) => ∃ tf, FT x tf ∧ ta ρ (fun us => tf us R Ex) Ex
  | _ => False
section
variable {Sy : Md} {X : Cx} {E : L2.St → XK} {es : List Expr} {n : Nat} {tr : TAD}
theorem da_fn {x : Str} {p : Pos} (hg : Gl X x) (D : ∃ f, X.mg x = some (.ref f)) (hn : PySem.W.nsIn X.K mainGlobals x = some (X.mg x)) (r : PA X es (LA Sy X E n tr)) (hdb : (x == ("__debug__" : Str)) = false := by decide)
    (hs : starEach (.Name x p :: es) X.env = (false, eval (.Name x p) X.env) :: starEach es X.env := by rfl) : PA X (.Name x p :: es) (LA Sy X E (n + 1) (dConsF x tr)) := by
  obtain ⟨f, hm⟩ := D
  have h : PE X (.Name x p) (fun _ H Q => Q (.ref f) H) := ⟨fun pins s σ H Q I h => ld_glob I hg hm ⟨.ref f, H, I, rfl, h⟩ hdb⟩
  refine (pa_cons h r hs).weak fun σ H Q ⟨w, N, O, F, ρ, R, Ex, en, t, q, qx⟩ => ?_
  refine ⟨w, N, O, F, ρ, _, Ex, en, t, fun us vs H2 hl r2 k2 hv => ?_, qx⟩
  have kk : N.K = X.K := en.ok.kk
  exact q (.fn x :: us) (.ref f :: vs) H2 (by simp [hl]) r2 k2 ⟨⟨f, by rw [kk, hn, hm], rfl⟩, hv⟩
theorem d_callV {g : Bool} {y : Str} {p pos : Pos} {e : Expr} {i j k : Nat} {FT : Str → TF → Prop} (hv : PE X (.Name y p) (tVar i))
    (hF : ∀ x tf, FT x tf → Cq g (L2.CX X.prog X.w) X.prog X.w X.K X.mg X.base k x (spF (gnd Sy X) X.mg n tf) ∧ PySem.W.nsIn X.K mainGlobals x = some (X.mg x)) (hr : Room j X.A) (hG : g = true → X.A.guards = some []) (hx : ∀ σ, PassesAt (L2.CX X.prog X.w) X σ (E σ))
    (ha : PA X (e :: es) (LA Sy X E n tr)) (hk : k ≤ j := by decide) (he : starEach (e :: es) X.env = (false, eval e X.env) :: starEach es X.env := by rfl) (hpl : (backTo pos (starEach es X.env)).any (·.1) = false := by rfl) :
    PE X (.Call (.Name y p) (e :: es) [] pos) (LE Sy X E (dCallV i FT tr)) := by
  refine ⟨fun pins s σ H Q I h => ?_⟩
  obtain ⟨w, N, O, F, ρ, R, Ex, en, t, q, qx⟩ := h
  unfold dCallV at t
  split at t
  · rename_i x hd
    obtain ⟨tf, ft, t⟩ := t
    obtain ⟨c, hn⟩ := hF x tf ft
    obtain ⟨v, h1, f0, h2, rfl⟩ := en.slot i _ hd
    obtain ⟨f, fd, ps, Fn, hm, kp, hb⟩ := c.ex
    have kk : N.K = X.K := en.ok.kk
    rw [kk, hn, hm] at h2
    cases h2
    refine wpAny_Call_Name_kw (thn (hv.run pins s σ H (fun v H' => v = .ref f0 ∧ H' = H) I ⟨.ref f0, h1, rfl, rfl⟩) ?_)
    rintro u s0 ⟨v, H0, I0, rv, rfl, rfl⟩
    cases rv
    refine PySem.W.callWith_K (h₀ := X.base) I0.ok.mod.kin kp (thn (ha.run pos pins s0 σ H0 (fun vs H1 => spF (gnd Sy X) X.mg n tf vs H1 Q (E σ)) I0 ?_) ?_) he hpl
    · refine ⟨w, N, O, F, ρ, _, Ex, en, t, fun us vs H1 hl r1 k1 hv => ?_, qx⟩
      exact ⟨w, N, us, R, Ex, hl, hv, (en.step k1).ok, r1, fun d v H' hr k dv => q d v H' hr (k1.trans k) dv, fun x cls dx H' hx k hh => qx x cls dx H' hx (k1.trans k) hh⟩
    · rintro us s1 ⟨vs, H1, I1, r, q1⟩
      have hl : us.length = ps.length := r.length ▸ Fn.len _ _ _ _ q1
      have bt := hb s1 us I1.kIn (by rw [List.append_nil]; exact hl)
      rw [List.append_nil] at bt
      refine ⟨I1.kIn, wpAny_call (codeAny_mono (Fn.run X.A (hr.mono hk) hG X.stack s1 H1 I1.env0 ⟨us, []⟩ us vs bt r Q (E σ) q1) ?_)⟩
      rintro (er | (_ | _ | _ | u)) s' z
      · exact hx σ pins H1 s1 er s' I1 z
      · exact z.elim
      · exact z.elim
      · exact z.elim
      · exact I1.after z
  · exact t.elim
end
end Ld

namespace Ld
open PySem PySem.Spec PyProof.Rows L2
open Lw hiding Dv DvAll FreshB tData tDatas pd_int pd_bl pd_non pd_str pd_neg pd_pow pda_nil pda_cons pd_tup pd_lst pd_dct dv_cut dv_cat tup_at rRepr call_repr rIsD call_isD
/-! ### comprehensions with two for -/
def lcD2 (gd : GD) (tt : TTD) (ti1 : ID) (vs1 : List Nat) (gd1 : GD) (tt1 : TTD) (te : TD) (ρ : Env) : List PyData → (List PyData → Prop) → Prop
  | [], K => K []
  | d :: r, K => gd d ρ (fun ρ' => tt ρ' (fun b => if b = true then ti1 ρ' (fun ds1 => ds1.length ≤ 1000 ∧ lcD gd1 tt1 te (wipeD ρ' vs1) ds1 (fun ys1 => lcD2 gd tt ti1 vs1 gd1 tt1 te ρ r (fun ys => K (ys1 ++ ys)))) NoX else lcD2 gd tt ti1 vs1 gd1 tt1 te ρ r K) NoX)
def dLc2 (ti : ID) (sl : List Nat) (gd : GD) (tt : TTD) (ti1 : ID) (sl1 : List Nat) (gd1 : GD) (tt1 : TTD) (te : TD) : TD := fun ρ R Ex => ti ρ (fun ds => ds.length ≤ 1000 ∧ lcD2 gd tt ti1 sl1 gd1 tt1 te (wipeD ρ sl) ds (fun ys => R (.list ys))) Ex
section
variable {Sy : Md} {X Y : Cx} {E : L2.St → XK} {e : Expr} {st : Stmt} {wi wi1 : TI} {ti ti1 : ID} {g g1 : TG} {gd gd1 : GD} {tt tt1 : TTD} {te : TD} {sl vs sl1 vs1 : List Nat}
theorem lc2_in {w : Wx} {N : Bn} {O : Nat → Option Addr} {F : Keep} {ρ : Env} {σ : L2.St} {H : Hp} {R : RD} {Ex : XD} {Q : VK} (hy : Sy.y = false) (hb : gnd Sy Y = gnd Sy X) (hi : IOk Sy X E wi ti) (hg : GOk X.K g gd sl) (hs : ∀ i ∈ sl, i ∈ vs)
    (hi1 : IOk Sy Y EX0 wi1 ti1) (hg1 : GOk X.K g1 gd1 sl1) (hs1 : ∀ i ∈ sl1, i ∈ vs1) (en : EnvR (gnd Sy X) w N O F H σ ρ) (h : dLc2 ti vs gd tt ti1 vs1 gd1 tt1 te ρ R Ex)
    (q : ∀ d v H', R d → Stp w H H' → Dv N H' v d → Q v H') (qx : ∀ x cls dx H', Ex x → Stp w H H' → ExAt X.mg N H' cls dx x → E σ cls dx H') : tLc2 wi g (LT Sy Y EX0 tt) wi1 g1 (LT Sy Y EX0 tt1) (LE Sy Y EX0 te) vs vs1 σ H Q := by
  refine hi.run w N O F ρ σ H _ Ex _ en h (fun ds J G H1 r s hG fd => ?_) qx
  intro D hD
  obtain ⟨hlen, r⟩ := r
  have en1 := en.step s
  have enG : EnvR (gnd Sy X) w N O (G ++ F) H1 σ ρ := ⟨en1.ok, en1.len, en1.slot, en1.inj, en1.ow, fun p hp => (List.mem_append.mp hp).elim (hG p) (en1.kept p)⟩
  have hw : ¬ w.has D := en1.ok.new hD
  have ho : ∀ i, O i ≠ some D := fun i z => by
    obtain ⟨_, _, u, z2⟩ := en1.ow i D z
    rw [hD] at z2
    cases z2
  have hYK : Y.K = X.K := congrArg Gnd.K hb
  refine ⟨fun i m H => i + m = ds.length ∧ ∃ acc accD, Stp w H1 H ∧ EnvR (gnd Sy X) w (Bn.add N D) O (G ++ F) H σ ρ ∧ H D = some (.lst acc) ∧ DvAll (Bn.add N D) H acc accD ∧ accD.length ≤ i * 1000 ∧ lcD2 gd tt ti1 vs1 gd1 tt1 te (wipeD ρ vs) (ds.drop i) (fun ys => R (.list (accD ++ ys))), ⟨ds.length, by omega, [], [], .of (same_new hD _), enG.ban hD, upd_same, .nil, Nat.le_refl 0, by rw [List.drop_zero]; exact r⟩, ?_⟩
  rintro i m H ⟨im, acc, accD, st1, en2, eD, all, al, h⟩
  have live : ∀ p ∈ G, Dv (Bn.add N D) H p.1 p.2 := fun p hp => en2.kept p (List.mem_append_left _ hp)
  cases e : ds.drop i with
  | nil =>
    rw [e] at h
    have ei := drop_end (by omega) e
    subst ei
    refine .inl ⟨fd.stop (Bn.add N D) H en1.ok.kk live, ?_⟩
    have h' : R (.list accD) := by
      have : R (.list (accD ++ [])) := h
      rwa [List.append_nil] at this
    exact q _ _ H h' (s.trans st1) (.lst (en1.ok.sl hy D hD) eD (DvAll.map (N := Bn.add N D) (N' := N) rfl (fun b u n q => ⟨q, fun z => n (.inl z)⟩) (fun _ _ q => q) _ _ all))
  | cons d rest =>
    rw [e] at h
    obtain ⟨e1, e2⟩ := drop_get e
    have il := (List.getElem?_eq_some_iff.mp e1).1
    obtain ⟨g1', g2⟩ := fd.go (Bn.add N D) H i d en1.ok.kk live e1
    refine .inr ⟨g1', _, fun H' z => z, fun x H' hyl => ?_⟩
    obtain ⟨s2, dx⟩ := g2 x H' hyl
    have s2' : Stp w H H' := .of s2
    have en3 := en2.step s2'
    refine hg.run (gnd Sy X) w (Bn.add N D) O (G ++ F) H' (wipe σ vs) (wipeD ρ vs) x d _ _ rfl (en3.wipe vs) dx h fun O' σ' ρ' hb2 b3 wp oo => ?_
    refine ⟨(wp vs hs).trans (wipe_wipe σ vs vs fun _ z => z), ?_⟩
    have ho' : ∀ i, O' i ≠ some D := fun i z => ho i (oo i D z)
    refine ⟨w, _, O', G ++ F, ρ', _, _, hb ▸ b3, hb2, fun b H2 hb4 k2 => ?_, fun _ _ _ _ z => z.elim⟩
    have eD2 : H2 D = some (.lst acc) := k2.kp _ _ hw lst_ne (s2'.kp _ _ hw lst_ne eD)
    have all2 : DvAll (Bn.add N D) H2 acc accD := dvs_step (dvs_step all en2.hw s2') en2.hw k2
    have en4 := en3.step k2
    have st2 := (st1.trans s2').trans k2
    cases b with
    | false =>
      exact ⟨m - 1, by omega, by omega, acc, accD, st2, en4, eD2, all2, by omega, by rw [e2]; exact hb4⟩
    | true =>
      have b4 := b3.step k2
      refine hi1.run w (Bn.add N D) O' (G ++ F) ρ' σ' H2 _ _ _ (hb ▸ b4) hb4 (fun ds1 J1 G1 H4 r1 s4 hG1 fd1 => ?_) (fun _ _ _ _ z => z.elim)
      obtain ⟨hlen1, r1⟩ := r1
      have b5 := b4.step s4
      have b5G : EnvR (gnd Sy X) w (Bn.add N D) O' (G1 ++ (G ++ F)) H4 σ' ρ' := ⟨b5.ok, b5.len, b5.slot, b5.inj, b5.ow, fun p hp => (List.mem_append.mp hp).elim (hG1 p) (b5.kept p)⟩
      have eD4 := s4.kp _ _ hw lst_ne eD2
      refine ⟨fun j k H => j + k = ds1.length ∧ ∃ acc accE, Stp w H1 H ∧ EnvR (gnd Sy X) w (Bn.add N D) O (G ++ F) H σ ρ ∧ EnvR (gnd Sy X) w (Bn.add N D) O' (G1 ++ (G ++ F)) H σ' ρ' ∧ H D = some (.lst acc) ∧ DvAll (Bn.add N D) H acc (accD ++ accE) ∧ accE.length ≤ j ∧ lcD gd1 tt1 te (wipeD ρ' vs1) (ds1.drop j) (fun ys1 => lcD2 gd tt ti1 vs1 gd1 tt1 te (wipeD ρ vs) rest (fun ys => R (.list (accD ++ ((accE ++ ys1) ++ ys))))),
        ⟨ds1.length, by omega, acc, [], st2.trans s4, en4.step s4, b5G, eD4, by rw [List.append_nil]; exact dvs_step all2 en2.hw s4, Nat.le_refl 0, by rw [List.drop_zero]; exact r1⟩, ?_⟩
      rintro j k H5 ⟨jk, acc5, accE, st5, en5, b6, eD5, all5, al5, h5⟩
      have live1 : ∀ p ∈ G1, Dv (Bn.add N D) H5 p.1 p.2 := fun p hp => b6.kept p (List.mem_append_left _ hp)
      cases e5 : ds1.drop j with
      | nil =>
        rw [e5] at h5
        have ej := drop_end (by omega) e5
        subst ej
        refine .inl ⟨fd1.stop (Bn.add N D) H5 (en1.ok.kk.trans hYK.symm) live1, m - 1, by omega, by omega, acc5, accD ++ accE, st5, en5, eD5, all5, by rw [List.length_append]; omega, ?_⟩
        rw [e2]
        have h5' : lcD2 gd tt ti1 vs1 gd1 tt1 te (wipeD ρ vs) rest (fun ys => R (.list (accD ++ ((accE ++ []) ++ ys)))) := h5
        simp only [List.append_nil] at h5'
        simp only [List.append_assoc]
        exact h5'
      | cons d1 rest1 =>
        rw [e5] at h5
        obtain ⟨f1, f2⟩ := drop_get e5
        have jl := (List.getElem?_eq_some_iff.mp f1).1
        obtain ⟨g3, g4⟩ := fd1.go (Bn.add N D) H5 j d1 (en1.ok.kk.trans hYK.symm) live1 f1
        refine .inr ⟨g3, _, fun H' z => z, fun x1 H6 hyl1 => ?_⟩
        obtain ⟨s6, dx1⟩ := g4 x1 H6 hyl1
        have s6' : Stp w H5 H6 := .of s6
        have b7 := b6.step s6'
        refine hg1.run (gnd Sy X) w (Bn.add N D) O' (G1 ++ (G ++ F)) H6 (wipe σ' vs1) (wipeD ρ' vs1) x1 d1 _ _ rfl (b7.wipe vs1) dx1 h5 fun O2 σ2 ρ2 hb8 b8 wp8 _ => ?_
        refine ⟨(wp8 vs1 hs1).trans (wipe_wipe σ' vs1 vs1 fun _ z => z), ?_⟩
        refine ⟨w, _, O2, G1 ++ (G ++ F), ρ2, _, _, hb ▸ b8, hb8, fun b H7 hb9 k7 => ?_, fun _ _ _ _ z => z.elim⟩
        have eD7 : H7 D = some (.lst acc5) := k7.kp _ _ hw lst_ne (s6'.kp _ _ hw lst_ne eD5)
        have all7 : DvAll (Bn.add N D) H7 acc5 (accD ++ accE) := dvs_step (dvs_step all5 en2.hw s6') en2.hw k7
        have en7 := (en5.step s6').step k7
        have b9 := b7.step k7
        have st7 := (st5.trans s6').trans k7
        cases b with
        | false => exact ⟨k - 1, by omega, by omega, acc5, accE, st7, en7, b9, eD7, all7, by omega, by rw [f2]; exact hb9⟩
        | true =>
          refine ⟨w, _, O2, G1 ++ (G ++ F), ρ2, _, _, hb ▸ (b8.step k7), hb9, fun y u H8 hb10 k8 dy => ?_, fun _ _ _ _ z => z.elim⟩
          have eD8 := k8.kp _ _ hw lst_ne eD7
          refine ⟨acc5, eD8, by rw [all5.length, List.length_append, sizeLine_eq]; omega, k - 1, by omega, by omega, acc5 ++ [u], accE ++ [y], stp_new (st7.trans k8) (fun u q => by rw [hD] at q; cases q) hw ⟨_, eD8⟩, (en7.step k8).poke (.inr rfl) hw ho eD8, (b9.step k8).poke (.inr rfl) hw ho' eD8, upd_same, ?_, by simp; omega, ?_⟩
          · rw [← List.append_assoc]
            exact (dvs_poke (dvs_step all7 en2.hw k8) (.inr rfl) eD8).app (.cons (dv_poke dy (.inr rfl) eD8) .nil)
          · rw [f2]
            have : (fun ys1 => lcD2 gd tt ti1 vs1 gd1 tt1 te (wipeD ρ vs) rest (fun ys => R (.list (accD ++ ((accE ++ y :: ys1) ++ ys))))) = fun ys1 => lcD2 gd tt ti1 vs1 gd1 tt1 te (wipeD ρ vs) rest (fun ys => R (.list (accD ++ ((accE ++ [y] ++ ys1) ++ ys)))) := by
              funext ys1
              simp
            rw [← this]
            exact hb10
theorem d_lc2 (hi : IOk ⟨false, Tz, mz⟩ X E wi ti) (hg : GOk X.K g gd sl) (hi1 : IOk ⟨false, Tz, mz⟩ X EX0 wi1 ti1) (hg1 : GOk X.K g1 gd1 sl1) (h : PE X e (tLc2 wi g (LT ⟨false, Tz, mz⟩ X EX0 tt) wi1 g1 (LT ⟨false, Tz, mz⟩ X EX0 tt1) (LE ⟨false, Tz, mz⟩ X EX0 te) vs vs1)) (hs : ∀ i ∈ sl, i ∈ vs := by decide) (hs1 : ∀ i ∈ sl1, i ∈ vs1 := by decide) : PE X e (LE ⟨false, Tz, mz⟩ X E (dLc2 ti vs gd tt ti1 vs1 gd1 tt1 te)) := h.weak fun σ H Q ⟨w, N, O, F, ρ, R, Ex, en, t, q, qx⟩ =>
  lc2_in (Y := X) rfl rfl hi hg hs hi1 hg1 hs1 en t (q) qx
end
/-! ### x.insert(k, e), k or e reads x -/
def sInsL (i : Nat) (ta : TAD) : TSD := fun D ρ => ownK (slotD ρ i) fun ds => ta (putD ρ i (some (.dat (.list ds)))) (fun us => match us with
  | [.dat (.int k), .dat d] => noL d = true ∧ (ds.length < 16000000 ∧ 0 ≤ k ∧ k < 2 ^ 63) ∧ D.nx (putD ρ i (some (.own (ds.take k.toNat ++ [d] ++ ds.drop k.toNat))))
  | _ => False) (fun x => noLx x = true ∧ D.ex ρ x)
section
variable {Sy : Md} {X : Cx} {E : L2.St → XK} {st : Stmt} {i n : Nat} {tr : TAD}
theorem ds_insL (h : PS X st (tDrop (tBM X.K "list" (fun x vs H Q => ∃ (l : Addr) (xs : List V) (i : Int) (y : V), x = .ref l ∧ vs = [.int i, y] ∧ H l = some (.lst xs) ∧ xs.length < sizeLine ∧ 0 ≤ i ∧ i < 2 ^ 63 ∧ Q .non (upd H l (.lst (xs.take i.toNat ++ [y] ++ xs.drop i.toNat)))) (tVar i) (LA Sy X E n tr)))) : PS X st (LS Sy X E (sInsL i tr)) := h.weak fun D σ H ⟨w, N0, H0, N, O, F, ρ, DD, b, h, k⟩ => by
  obtain ⟨ds, hs, h⟩ := ownK_of h
  obtain ⟨v, h1, a, xs, rfl, ho, ha, all⟩ := b.e.slot i _ hs
  refine ⟨_, h1, .inl ⟨rfl, _, .of ha⟩, ?_⟩
  obtain ⟨N', O', b'⟩ := b.frz hs
  have hK : N.K = N'.K := b.e.ok.kk.trans b'.e.ok.kk.symm
  refine ⟨w, N', O', F, _, _, _, b'.e, h, fun us vs H' hl r s hv => ?_, fun x cls dx H' hx s hh => k.ex N O H' σ ρ x cls dx hx.2 (b.step s) (ex_noL hK hx.1 hh)⟩
  split at r
  · rename_i kk d
    obtain ⟨hn, ⟨hlen, z0, z1⟩, r⟩ := r
    match vs, hv with
    | [v, u], hv =>
      have bs := b.step s
      obtain ⟨v2, h2, a2, xs2, e2, ho2, ha2, all2⟩ := bs.e.slot i _ hs
      rw [ho] at ho2
      cases ho2
      cases hv.1
      refine ⟨a, xs2, _, u, rfl, rfl, ha2, by rw [all2.length, sizeLine_eq]; omega, z0, z1, ?_⟩
      exact k.nx _ _ _ _ _ r (bs.ownSet hs ho ha2 (((all2.take _).app (.cons (dv_noL hK d _ hn hv.2.1) .nil)).app (all2.drop _)))
  · exact r.elim
end
end Ld

set_option maxHeartbeats 1000000
/-! ### enumerate over a tuple, at the model's level -/
namespace Ren
open PySem
open PySem.Sem (wp)
section
variable {prog : Program} {w : World} {A : Around} {E : Value → Shared → Prop} {s : Shared}
/-- one step of enumerate, whatever stands behind its iterator -/
theorem step_item {z j : Addr} {n tk : Nat} {x old : Value} {good : Heap → Prop} {Q : Value → Shared → Prop} (hz : IsEnum s.heap z j n old) (ne : z ≠ j)
    (nx : ∀ Q' : Value → Shared → Prop, (∀ h1, good h1 → Heap.SameBut j s.heap h1 → Q' x { s with heap := h1, toks := tk }) → wpAny (model prog w) A (Builtin.SmallTypes.nextOf (.ref j)) Q' E s)
    (out : ∀ h1 h2, good h1 → (∀ c o, c ≠ z → h1.get? c = some o → h2.get? c = some o) → IsEnumOut h2 z j ((n : Int) + 1) x s.heap.objs.size →
      h2.get? s.heap.objs.size = some { cls := .type "tuple", data := .seq #[.int n tk, x] } → (∀ c o, c ≠ z → c ≠ j → s.heap.get? c = some o → h2.get? c = some o) → Q (.ref s.heap.objs.size) { s with heap := h2, toks := tk + 1 }) :
    wpAny (model prog w) A (Builtin.«enumerate.__next__» ⟨[.ref z], []⟩) (fun fin s' => ∃ v, fin = .done (.ret v) ∧ Q v s') E s := by
  obtain ⟨g0, gg, gd, gt, go⟩ := s
  show wpAny _ _ (field (.ref z) 2 >>= _) _ _ _
  refine wpAny_bind (wpAny_field hz rfl (x := .ref j) rfl ?_)
  refine wpAny_bind (nx _ fun g1 ok1 sb1 => ?_)
  replace sb1 : Heap.SameBut j g0 g1 := sb1
  have z1 : IsEnum g1 z j n old := (sb1.2 z ne).trans hz
  show wpAny _ _ (field (.ref z) 3 >>= _) _ _ ⟨g1, gg, gd, tk, go⟩
  refine wpAny_bind (wpAny_field z1 rfl (x := rawInt n) rfl ?_)
  show wpAny _ _ (field (.ref z) 4 >>= _) _ _ ⟨g1, gg, gd, tk, go⟩
  refine wpAny_bind (wpAny_field z1 rfl (x := .none) rfl ?_)
  show wpAny _ _ (mkInt n >>= _) _ _ ⟨g1, gg, gd, tk, go⟩
  refine wpAny_bind (wpAny_mkInt ?_)
  show wpAny _ _ (setField (.ref z) 3 (rawInt ((n : Int) + 1)) >>= _) _ _ ⟨g1, gg, gd, tk + 1, go⟩
  refine wpAny_bind (wpAny_setField_rec z1 (by simp) fun g2 z2 sb2 => ?_)
  replace sb2 : Heap.SameBut z g1 g2 := sb2
  replace z2 : IsEnum g2 z j ((n : Int) + 1) old := z2
  show wpAny _ _ (setField (.ref z) 4 .none >>= _) _ _ ⟨g2, gg, gd, tk + 1, go⟩
  refine wpAny_bind (wpAny_setField_rec z2 (by simp) fun g3 z3 sb3 => ?_)
  replace sb3 : Heap.SameBut z g2 g3 := sb3
  replace z3 : IsEnum g3 z j ((n : Int) + 1) old := z3
  show wpAny _ _ (newTuple [.int n tk, x] >>= _) _ _ ⟨g3, gg, gd, tk + 1, go⟩
  refine wpAny_bind (wpAny_newTuple ?_)
  let T : Obj := { cls := .type "tuple", data := .seq #[.int n tk, x] }
  have z4 : IsEnum (g3.push T) z j ((n : Int) + 1) old := Heap.get?_push_of_some _ z3
  generalize e4 : g3.push T = g4 at z4
  have sz : g3.objs.size = g0.objs.size := by rw [sb3.1, sb2.1, sb1.1]
  have zl : z < g0.objs.size := Heap.lt_size hz
  have t4 : g4.get? g0.objs.size = some T := by rw [← e4, ← sz]; exact Heap.get?_push_size _ rfl
  have k4 : ∀ c o, c ≠ z → g1.get? c = some o → g4.get? c = some o := fun c o cz q => by
    rw [← e4]; exact Heap.get?_push_of_some _ (sb3.extBut c o cz (sb2.extBut c o cz q))
  show wpAny _ _ (Builtin.SmallTypes.ownedTupleIsFree (.ref z) >>= _) _ _ ⟨g4, gg, gd, tk + 1, go⟩
  rw [sz]
  clear e4 z3 sb3 z2 sb2 sz g3 g2
  refine wpAny_bind ?_
  unfold Builtin.SmallTypes.ownedTupleIsFree
  refine wpAny_bind (wpAny_field z4 rfl (x := .none) rfl (wpAny_pure ?_))
  simp only [if_true]
  refine wpAny_bind (wpAny_rule ?_)
  refine wpAny_bind (wpAny_field z4 rfl (x := old) rfl ?_)
  refine wpAny_bind (wpAny_setField_rec z4 (by simp) fun g5 z5 sb5 => ?_)
  replace sb5 : Heap.SameBut z g4 g5 := sb5
  replace z5 : IsEnum g5 z j ((n : Int) + 1) x := z5
  show wpAny _ _ (Builtin.SmallTypes.ownedTupleHandOut (.ref z) (.ref g0.objs.size) >>= _) _ _ ⟨g5, gg, gd, tk + 1, go⟩
  refine wpAny_bind ?_
  unfold Builtin.SmallTypes.ownedTupleHandOut
  refine wpAny_bind (wpAny_setField_rec z5 (by simp) fun g6 z6 sb6 => ?_)
  replace sb6 : Heap.SameBut z g5 g6 := sb6
  replace z6 : IsEnumOut g6 z j ((n : Int) + 1) x g0.objs.size := z6
  refine wpAny_setField_rec z6 (by simp) fun g7 z7 sb7 => ?_
  replace sb7 : Heap.SameBut z g6 g7 := sb7
  replace z7 : IsEnumOut g7 z j ((n : Int) + 1) x g0.objs.size := z7
  have k7 : ∀ c o, c ≠ z → g4.get? c = some o → g7.get? c = some o := fun c o cz q => sb7.extBut c o cz (sb6.extBut c o cz (sb5.extBut c o cz q))
  refine wpAny_bind (wpAny_letGo (wpAny_pure ⟨_, rfl, out g1 g7 ok1 (fun c o cz q => k7 c o cz (k4 c o cz q)) z7 (k7 _ _ (Nat.ne_of_gt zl) t4) fun c o cz cj q => k7 c o cz (k4 c o cz (sb1.extBut c o cj q))⟩))
theorem next_item {z j l : Addr} {n : Nat} {items : Array Value} {x old : Value} {Q : Option Value → Shared → Prop} (hz : IsEnum s.heap z j n old) (hj : s.heap.IsTupleIter j l n) (hl : s.heap.IsTuple l items) (hx : items[n]? = some x) (ne : z ≠ j)
    (out : ∀ h2, IsEnumOut h2 z j ((n : Int) + 1) x s.heap.objs.size → h2.IsTupleIter j l (n + 1) → h2.get? s.heap.objs.size = some { cls := .type "tuple", data := .seq #[.int n s.toks, x] } →
      (∀ c o, c ≠ z → c ≠ j → s.heap.get? c = some o → h2.get? c = some o) → Q (some (.ref s.heap.objs.size)) { s with heap := h2, toks := s.toks + 1 }) :
    wpAny (model prog w) A (pyNext (.ref z)) Q E s := by
  have ty : s.TypeIs (.ref z) "enumerate" := ⟨_, hz, rfl⟩
  unfold pyNext
  refine wpAny_bind (wpAny_attempt (wpAny_callSpecial?_slot (name := Str.ofString "__next__") ty F.slot_enumerate_next (wpAny_call_entry F.slot_enumerate_next ty F.entry_enumerate_next ?_ (F.args_enumerate_next_1 _))))
  refine step_item (good := fun h => h.IsTupleIter j l (n + 1)) hz ne (fun Q' q => RZ.nextOf_tuple_item hj hl hx fun h1 a b => q h1 a b) fun h1 h2 ok k a b c => wpAny_pure (out h2 a (ok.at fun o q => k j o (Ne.symm ne) q) b c)
theorem next_end {z j l : Addr} {n : Nat} {items : Array Value} {old : Value} {Q : Option Value → Shared → Prop} (hh : A.handled = none) (hz : IsEnum s.heap z j n old) (hj : s.heap.IsTupleIter j l n) (hl : s.heap.IsTuple l items) (hx : items[n]? = none)
    (out : ∀ h2, Heap.ExtBut j s.heap h2 → Q none { s with heap := h2 }) : wpAny (model prog w) A (pyNext (.ref z)) Q E s := by
  have ty : s.TypeIs (.ref z) "enumerate" := ⟨_, hz, rfl⟩
  unfold pyNext
  refine wpAny_bind (wpAny_attempt (wpAny_callSpecial?_slot (name := Str.ofString "__next__") ty F.slot_enumerate_next (wpAny_call_entry F.slot_enumerate_next ty F.entry_enumerate_next ?_ (F.args_enumerate_next_1 _))))
  show wpAny _ _ (field (.ref z) 2 >>= _) _ _ _
  refine wpAny_bind (wpAny_field hz rfl (x := .ref j) rfl ?_)
  refine wpAny_bind (RZ.nextOf_tuple_end hh hj hl hx fun h2 x k ⟨o, ho, hc⟩ => ?_)
  exact wpAny_bind (wpAny_isInstance (T := "StopIteration") (b := true) ⟨o, ho, hc⟩ isSubtype_stop (wpAny_pure (out _ k)))
end
abbrev mkIt (l : Addr) : Obj := { cls := .type "tuple_iterator", data := .fields #[.ref l, .int 0 0] }
abbrev mkEn (h : Heap) : Obj := { cls := .type "enumerate", data := .fields #[.none, .bool false, .ref h.objs.size, rawInt 0, .none, .none] }
theorem meets_new (l : Addr) (items : Array Value) : Meets (Builtin.«enumerate.__new__» ⟨[.type "enumerate", .ref l], []⟩) (fun _ R s => s.heap.IsTuple l items ∧
    R (.ok (.ret (.ref (s.heap.push (mkIt l)).objs.size))) { s with heap := (s.heap.push (mkIt l)).push (mkEn s.heap) }) :=
  .of_wp fun prog w A R s q => by
    obtain ⟨g0, gg, gd, gt, go⟩ := s
    obtain ⟨hl, q⟩ := q
    have sub := sub_enumerate
    have hL : Heap.IsTuple (Shared.heap ⟨g0, gg, gd, gt, go⟩) l items := hl
    obtain ⟨ol, hol, hcl, nl, hdl⟩ := id hL
    obtain ⟨cc, dd, da, sl⟩ := ol
    cases hcl
    cases hdl
    wp_walk using AutoSeq1.wpAny_loadPart' hol
    refine wpAny_stack_any fun st => wpAny_pure ?_
    split
    · rename_i c _ _ _ _ _
      cases (c == Value.type "enumerate")
      · wp_walk using AutoSeq1.wpAny_loadPart' hol, wpAny_pyIter_tuple hL
        exact ⟨_, rfl, q⟩
      · wp_walk using AutoSeq1.wpAny_loadPart' hol, wpAny_pyIter_tuple hL
        exact ⟨_, rfl, q⟩
    · wp_walk using AutoSeq1.wpAny_loadPart' hol, wpAny_pyIter_tuple hL
      exact ⟨_, rfl, q⟩
theorem call_tuple {prog : Program} {w : World} {A : Around} {E : Value → Shared → Prop} {s : Shared} {l : Addr} {items : Array Value} {Q : Value → Shared → Prop} (hl : s.heap.IsTuple l items)
    (out : ∀ h2, IsEnum h2 (s.heap.objs.size + 1) s.heap.objs.size 0 .none → h2.IsTupleIter s.heap.objs.size l 0 → (∀ c o, s.heap.get? c = some o → h2.get? c = some o) → Q (.ref (s.heap.objs.size + 1)) { s with heap := h2 }) :
    wpAny (model prog w) A (call (.type "enumerate") [.ref l]) Q E s := by
  refine callType_new F.called_enumerate (by decide) (F.typeCall_enumerate_1 _) (F.newCall_enumerate_1 _) (fun obj => F.args_object_init_2 obj _) F.entry_enumerate_new (meets_new l items) ⟨hl, ?_⟩
  have sz : (s.heap.push (mkIt l)).objs.size = s.heap.objs.size + 1 := Heap.size_push ..
  have g2 := Heap.get?_push_size (s.heap.push (mkIt l)) (o := mkEn s.heap) rfl
  rw [sz] at g2
  show _ ∧ _
  rw [sz]
  exact ⟨⟨_, g2, rfl⟩, out _ g2 ⟨_, Heap.get?_push_of_some _ (Heap.get?_push_size _ rfl), rfl, rfl⟩ fun c o q => Heap.get?_push_of_some _ (Heap.get?_push_of_some _ q)⟩
end Ren
namespace Ld
open PySem PySem.Spec PyProof.Rows L2
open Lw hiding Dv DvAll FreshB tData tDatas pd_int pd_bl pd_non pd_str pd_neg pd_pow pda_nil pda_cons pd_tup pd_lst pd_dct dv_cut dv_cat tup_at rRepr call_repr rIsD call_isD
/-! ### enumerate, by data -/
/-- the tuple at a, each item with its number in a new pair -/
def ItnT (K : PySem.W.Frag) (a : Addr) : It where
  go := fun i H => ∃ (xs : List V) (x : V), SqT K H a xs ∧ xs[i]? = some x
  yld := fun i H v H' => ∃ T x, v = .ref T ∧ H T = none ∧ H' = upd H T (.tup [.int (i : Nat), x]) ∧ ∀ xs, SqT K H a xs → xs[i]? = some x
  stop := fun i H => ∃ xs : List V, SqT K H a xs ∧ xs.length ≤ i
theorem turn_enT {P : Program} {w : World} {K : PySem.W.Frag} {elts : List Expr} {kk : Nat} {tpos : Pos} (a z j : Addr) :
    Turn P w K (.Tuple elts kk tpos) (ItnT K a) [z, j] z (fun i h => (∃ old, IsEnum h z j ((i : Nat) : Int) old) ∧ h.IsTupleIter j a i ∧ z ≠ j) where
  mem := by simp
  obj := fun i h st b hb => by
    obtain ⟨⟨old, hz⟩, ⟨o, ho, hc, hd⟩, _⟩ := st
    rcases (show b = z ∨ b = j by simpa using hb) with q | q
    · rw [q]; exact ⟨_, hz, fun v q => nomatch q⟩
    · rw [q]; exact ⟨o, ho, fun v q => by rw [hd] at q; cases q⟩
  keep := fun i h h' st k => ⟨⟨st.1.choose, k z (by simp) _ st.1.choose_spec⟩, st.2.1.at fun o q => k j (by simp) o q, st.2.2⟩
  item := by
    intro X hP hw hK hc i pins s σ H E I hf st hg
    subst hP hw hK
    obtain ⟨⟨old, hz⟩, hj, ne⟩ := st
    obtain ⟨xs, x, hq, hx⟩ := hg
    obtain ⟨its, rv, p, hsz⟩ := I.tuple hq
    obtain ⟨u, hu, ru⟩ := rv.get hx
    have zl : z < s.heap.objs.size := Heap.lt_size hz
    have jl : j < s.heap.objs.size := by obtain ⟨_, q, _⟩ := hj; exact Heap.lt_size q
    refine Ren.next_item hz hj p (x := u) (by simpa using hu) ne fun h1 o1 j1 T1 k1 => ?_
    refine ⟨_, rfl, wpAny_letOwnedTupleGo_enum (s := { s with heap := h1, toks := s.toks + 1 }) o1 fun h2 z2 sb => ?_⟩
    have T2 : h2.get? s.heap.objs.size = some { cls := .type "tuple", data := .seq #[.int i s.toks, u] } := (sb.2 _ (Nat.ne_of_gt zl)).trans T1
    have new : ObjOk X.prog X.w (upd H s.heap.objs.size (.tup [.int (i : Nat), x])) h2 s.heap.objs.size (.tup [.int (i : Nat), x]) :=
      ⟨by show 2 ≤ sizeLine; decide, [.int i s.toks, u], .cons ⟨_, rfl⟩ (.cons ru .nil), ⟨_, T2, rfl, _, rfl⟩⟩
    have J : Inv X pins σ (upd H s.heap.objs.size (.tup [.int (i : Nat), x])) { s with heap := h2, toks := s.toks + 1 } :=
      I.turnedNew (ch := [z, j]) (fun b ob hb q => (sb.2 b (fun y => hb (by simp [y]))).trans (k1 b ob (fun y => hb (by simp [y])) (fun y => hb (by simp [y])) q)) hf (Nat.le_refl _) new
    refine ⟨.ref s.heap.objs.size, _, J, rfl, ⟨_, x, rfl, I.hok.fresh (Nat.le_refl _), rfl, fun ys hy => by rw [I.tuple_inj hy hq]; exact hx⟩, ⟨⟨u, ?_⟩, j1.at fun o q => (sb.2 j (Ne.symm ne)).trans q, ne⟩, fun b hb => ?_⟩
    · rw [show ((i + 1 : Nat) : Int) = (i : Int) + 1 by omega]
      exact z2
    · have bl : b < s.heap.objs.size := by
        rcases (show b = z ∨ b = j by simpa using hb) with q | q
        · rw [q]; exact zl
        · rw [q]; exact jl
      rw [upd_ne (Nat.ne_of_lt bl)]
      exact (hf b hb).1
  done := by
    intro X hP hw hK hc i pins s σ H E I hf st hg
    subst hP hw hK
    obtain ⟨⟨old, hz⟩, hj, ne⟩ := st
    obtain ⟨xs, hq, hx⟩ := hg
    obtain ⟨its, rv, p, hsz⟩ := I.tuple hq
    obtain ⟨f0, f1, f2, f3, f4, f5⟩ := hf j (by simp)
    have ll := rv.length
    exact Ren.next_end (I.ok.hd hc) hz hj p (by simp; omega) fun h2 k => ⟨rfl, I.turned (t' := s.toks) (fun b o hb q => k b o hb q) f0 f1 f3 f4 f5⟩
  self := fun A i s Q E st h => by
    obtain ⟨⟨_, hz⟩, _⟩ := st
    exact wpAny_pyIter_enum hz h
def iEnA (K : PySem.W.Frag) (ta : TA) : TI := fun σ H R => ta σ H fun vs H1 => ∃ a xs, vs = [.ref a] ∧ ((SqL K H1 a xs ∧ R (Ite K a) H1) ∨ (SqT K H1 a xs ∧ R (ItnT K a) H1))
theorem pi_enA {X : Cx} {e : Expr} {ta : TA} {p pos tpos : Pos} {elts : List Expr} {kk : Nat} (hg : Gl X "enumerate") (hm : X.mg "enumerate" = none) (ha : PA X [e] ta) (hs : starEach [e] X.env = [(false, eval e X.env)] := by rfl) :
    PI X (.Tuple elts kk tpos) (.Call (.Name "enumerate" p) [e] [] pos) (iEnA X.K ta) := by
  refine ⟨fun pins s σ H R I h => Call_ (ld_blt I hg hm boot_enumerate (PyProof.Rows.callWith_type1 (thn (ha.run pos pins s σ H _ I h) fun us s1 ⟨vs, H1, I1, r1, a, xs, ex, q1⟩ => ?_) hs rfl))⟩
  subst ex
  obtain ⟨u, rfl, r⟩ := vals1 r1
  cases r
  have new : ∀ b, b ∈ [s1.heap.objs.size + 1, s1.heap.objs.size] → FpOk X pins H1 b := fun b hb => by
    have le : s1.heap.objs.size ≤ b := by
      rcases (show b = s1.heap.objs.size + 1 ∨ b = s1.heap.objs.size by simpa using hb) with q | q <;> omega
    exact I1.fpOk le (I1.hok.fresh le)
  rcases q1 with ⟨hq, q⟩ | ⟨hq, q⟩
  · obtain ⟨its, rv, p', hz⟩ := I1.list hq
    refine call_enumerate_list p'.isList fun h2 hen hit hsz hk => wpAny_pyIter_enum hen ?_
    exact ⟨_, [s1.heap.objs.size + 1, s1.heap.objs.size], _, _, H1, rfl, I1.kept (t' := s1.toks) hk, turn_enum a (s1.heap.objs.size + 1) s1.heap.objs.size, ⟨⟨.none, hen⟩, hit, Nat.succ_ne_self _⟩, new, q⟩
  · obtain ⟨its, rv, p', hz⟩ := I1.tuple hq
    refine Ren.call_tuple p' fun h2 hen hit hk => wpAny_pyIter_enum hen ?_
    exact ⟨_, [s1.heap.objs.size + 1, s1.heap.objs.size], _, _, H1, rfl, I1.kept (t' := s1.toks) hk, turn_enT a (s1.heap.objs.size + 1) s1.heap.objs.size, ⟨⟨.none, hen⟩, hit, Nat.succ_ne_self _⟩, new, q⟩
/-- numbered -/
def numD (n : Int) : List PyData → List PyData
  | [] => []
  | d :: r => .tuple [.int n, d] :: numD (n + 1) r
theorem numD_len : ∀ (n : Int) (ds : List PyData), (numD n ds).length = ds.length
  | _, [] => rfl
  | n, d :: r => congrArg (· + 1) (numD_len (n + 1) r)
theorem numD_get : ∀ {n : Int} {ds : List PyData} {i : Nat} {x : PyData}, (numD n ds)[i]? = some x → ∃ d, ds[i]? = some d ∧ x = .tuple [.int (n + (i : Int)), d]
  | n, [], i, x, h => by simp [numD] at h
  | n, d :: r, 0, x, h => ⟨d, rfl, by cases h; simp⟩
  | n, d :: r, i + 1, x, h => by
    obtain ⟨d', a, b⟩ := numD_get (n := n + 1) (ds := r) (i := i) (by simpa [numD] using h)
    refine ⟨d', by simpa using a, ?_⟩
    rw [b, show n + 1 + (i : Int) = n + ((i + 1 : Nat) : Int) by omega]
def iEn (ta : TAD) : ID := fun ρ R Ex => ta ρ (fun us => match us with
  | [.dat (.tuple ds)] => R (numD 0 ds)
  | [.dat (.list ds)] => R (numD 0 ds)
  | _ => False) Ex
section
variable {Sy : Md} {X : Cx} {E : L2.St → XK}
theorem io_enum {tr : TAD} : IOk Sy X E (iEnA X.K (LA Sy X E 1 tr)) (iEn tr) := ⟨fun w N O F ρ σ H R Ex Q en h q qx => ⟨w, N, O, F, ρ, _, Ex, en, h, fun us vs H1 hl r k hv => by
  split at r
  · rename_i ds
    match vs, hv with
    | [v], hv =>
      cases hv.1 with
      | @tup a xs _ ea all =>
        have kk : N.K = X.K := en.ok.kk
        refine ⟨a, xs, rfl, .inr ⟨kk ▸ ea.sq, q _ _ [(.ref a, .tuple ds)] H1 r k (fun p hp => by cases List.mem_singleton.mp hp; exact .tup ea all) ⟨fun N2 H2 hK g => ?_, fun N2 H2 i d hK g hd => ?_⟩⟩⟩
        · cases g _ (List.mem_singleton.mpr rfl) with
          | tup e2 a2 => exact ⟨_, hK ▸ e2.sq, by rw [a2.length, numD_len]; exact Nat.le_refl _⟩
        · cases g _ (List.mem_singleton.mpr rfl) with
          | tup e2 a2 =>
            obtain ⟨d', hd', rfl⟩ := numD_get hd
            obtain ⟨x, hx, dx⟩ := a2.get hd'
            refine ⟨⟨_, x, hK ▸ e2.sq, hx⟩, fun y H' ⟨T, x2, e1, hT, e3, f⟩ => ?_⟩
            subst e1 e3
            have fx := f _ (hK ▸ e2.sq)
            rw [hx] at fx
            cases fx
            have s := same_new hT (.tup [.int (i : Nat), x])
            exact ⟨s, .tup (.of upd_same) (.cons (by rw [Int.zero_add]; exact .int _) (.cons (dx.same s) .nil))⟩
  · rename_i ds
    match vs, hv with
    | [v], hv =>
      cases hv.1 with
      | @lst a xs _ nn ea all =>
        refine ⟨a, xs, rfl, .inl ⟨.inl (.of ea), q _ _ [(.ref a, .list ds)] H1 r k (fun p hp => by cases List.mem_singleton.mp hp; exact .lst nn ea all) ⟨fun N2 H2 hK g => ?_, fun N2 H2 i d hK g hd => ?_⟩⟩⟩
        · cases g _ (List.mem_singleton.mpr rfl) with
          | lst n2 e2 a2 => exact ⟨_, .inl (.of e2), by rw [a2.length, numD_len]; exact Nat.le_refl _⟩
        · cases g _ (List.mem_singleton.mpr rfl) with
          | lst n2 e2 a2 =>
            obtain ⟨d', hd', rfl⟩ := numD_get hd
            obtain ⟨x, hx, dx⟩ := a2.get hd'
            refine ⟨⟨_, x, .inl (.of e2), hx⟩, fun y H' ⟨T, x2, e1, hT, e3, f⟩ => ?_⟩
            subst e1 e3
            have fx := f _ (.inl (.of e2))
            rw [hx] at fx
            cases fx
            have s := same_new hT (.tup [.int (i : Nat), x])
            exact ⟨s, .tup (.of upd_same) (.cons (by rw [Int.zero_add]; exact .int _) (.cons (dx.same s) .nil))⟩
  · exact r.elim, qx⟩⟩
end
end Ld

namespace Ld
open PySem PySem.Spec PyProof.Rows L2
open Lw hiding Dv DvAll FreshB tData tDatas pd_int pd_bl pd_non pd_str pd_neg pd_pow pda_nil pda_cons pd_tup pd_lst pd_dct dv_cut dv_cat tup_at rRepr call_repr rIsD call_isD
/-! ### calls by name -/
/-- the function's data of a def of the text -/
def FdAt (st : Stmt) (x : Str) (fd : FuncData) : Prop := ∃ (kV doc pm cd ct : Value) (an : Option Addr), fd = PySem.W.fnOf x x (defArgs st) (defBody st) (defScope st) .none kV doc pm an cd ct
/-- a def's promise, its parameters known -/
structure Ck (g : Bool) (CX : CXT) (P : Program) (w : World) (K : PySem.W.Frag) (mg : Str → Option Value) (base : Heap) (k : Nat) (x : Str) (st : Stmt) (ps : List Str) (sp : Sp) : Prop where
  ex : ∃ f fd, FnQ g CX P w K mg base k f fd ps sp ∧ mg x = some (.ref f) ∧ PySem.W.keepIn K (.ref f) = true ∧ L2.Binds K fd ps [] ∧ FdAt st x fd
section
variable {CX : CXT} {P : Program} {w : World} {K : PySem.W.Frag} {mg : Str → Option Value} {base : Heap}
theorem Ck.cq {g : Bool} {k : Nat} {x : Str} {st : Stmt} {ps : List Str} {sp : Sp} (c : Ck g CX P w K mg base k x st ps sp) : Cq g CX P w K mg base k x sp := by
  obtain ⟨f, fd, F, a, b, d, _⟩ := c.ex
  exact ⟨f, fd, ps, F, a, b, d⟩
theorem Dc.callK {g : Bool} {x : Str} {st : Stmt} {N ps : List Str} {k : Nat} {cd : Value} {sp : Sp} (D : Dc K mg x st ps cd) (S : FnScope N ps (defScope st)) (len : ∀ vs H Q E, sp vs H Q E → vs.length = ps.length)
    (hbody : ∀ (f : Addr) (A : Around) (outer : List PySem.Env) (s : Shared) (H : Hp) (vs : List V) (Q : VK) (E : XK), Room k (A.deeper (envOfC x (defScope st) s.heap.objs.size f cd)) → (g = true → A.guards = some []) → sp vs H Q E →
      ∃ t, PSs (cxOf CX P w K mg base N x (defScope st) f cd A outer s H E) (defBody st) t ∧ t { nx := fun _ H' => Q .non H', rt := Q } (L2.start N vs) H) : Ck g CX P w K mg base (k + 1) x st ps sp := by
  obtain ⟨f, oc, od, kV, doc, pm, an, ct, osl, lk, hcd, kp, hm, hb⟩ := D.ex
  refine ⟨f, _, ⟨len, fun A hr hg outer s H e0 args us vs bt r Q E h => ?_⟩, hm, kp, hb, kV, doc, pm, cd, ct, an, rfl⟩
  have kept : ∀ b o, base.get? b = some o → s.heap.get? b = some o := fun b o q => (e0.bs b o q).1
  have inK : K.In s.heap := e0.mod.kin.keeps kept
  refine codeAny_call_function hr.depth (inK _ _ lk) rfl S.co S.gen rfl (PySem.W.codeRec_of inK hcd) (bt _ _ _ _ ?_)
  have slots : ∀ y ∈ ps.zip us, (defScope st).names.lookup y.1 = some .local ∨
      ((defScope st).names.lookup y.1 = some .cell ∧ ((cellsFrom (s.heap.objs.size + 1) (defScope st).names []).lookup y.1).isSome = true) := by
    rintro ⟨n, v⟩ hy
    exact (S.par n (List.of_mem_zip hy).1).imp (fun q => q) fun q => ⟨q, PySem.W.cellsFrom_some _ _ _ (.inl q)⟩
  refine wpAny_newFunctionEnv_cells S.kind slots fun env he s1 C => ?_
  cases he
  refine ⟨(e0.mod.nolimit.keeps kept).keeps C.toInCall.keep, codeAny_func ?_⟩
  obtain ⟨t, ht, hq⟩ := hbody f A outer s H vs Q E (hr.deeper _) hg h
  have I0 := inv_start (CX := CX) (E := E) S hr.hd e0 (len _ _ _ _ h) r C
  refine wpAny_mono (ht.run [] s1 _ H _ I0 hq) ?_ fun _ _ z => z
  rintro (_ | _ | _ | u) s' z
  · obtain ⟨σ', H', J, q⟩ := z
    exact ⟨V.non, H', J.os, J.bare, J.base, J.hok, rfl, q⟩
  · obtain ⟨_, _, _, q⟩ := z
    exact q.elim
  · obtain ⟨_, _, _, q⟩ := z
    exact q.elim
  · obtain ⟨v, σ', H', J, rv, q⟩ := z
    exact ⟨v, H', J.os, J.bare, J.base, J.hok, rv, q⟩
theorem Dc.dataK {g : Bool} {Sy : Md} {x : Str} {st : Stmt} {N ps : List Str} {k : Nat} {cd : Value} {t : TSD} (D : Dc K mg x st ps cd) (S : FnScope N ps (defScope st))
    (hbody : ∀ (f : Addr) (A : Around) (outer : List PySem.Env) (s : Shared) (H : Hp) (E : XK), Room k (A.deeper (envOfC x (defScope st) s.heap.objs.size f cd)) → (g = true → A.guards = some []) →
      PSs (cxOf (L2.CX P w) P w K mg base N x (defScope st) f cd A outer s H E) (defBody st) (LS Sy (cxOf (L2.CX P w) P w K mg base N x (defScope st) f cd A outer s H E) (fun _ => E) t)) :
    Ck g (L2.CX P w) P w K mg base (k + 1) x st ps (spF ⟨base, K, Sy⟩ mg ps.length (tfOf N t)) := by
  refine D.callK S (fun vs H Q E h => h.len) (fun f A outer s H vs Q E hr hg h => ⟨_, hbody f A outer s H E hr hg, ?_⟩)
  obtain ⟨wl, Nb, us, R, Ex, hl, hv, ok, ht, q, qx⟩ := h
  refine ⟨wl, Nb, H, Nb, fun _ => none, [], _, _, ⟨⟨ok, ?_, ?_, fun i j a z _ => (nomatch z), fun i a z => (nomatch z), fun p hp => (nomatch hp)⟩, .refl _ _, fun _ z => z, fun _ _ z => (nomatch z), ok.fr, ok.kk⟩, ht, ⟨fun N O H1 σ ρ r b => q .none .non H1 r b.st .non, fun d v H1 r s dv => q d v H1 r s dv, fun _ _ _ _ _ z => z.elim, fun _ _ _ _ _ z => z.elim, ?_⟩⟩
  · have := hv.length
    have le : us.length ≤ N.length := by
      have := congrArg List.length S.pre
      rw [List.length_take] at this
      omega
    rw [startD_eq us N le]
    simp [L2.start, this]
  · have le : us.length ≤ N.length := by
      have := congrArg List.length S.pre
      rw [List.length_take] at this
      omega
    rw [startD_eq us N le]
    exact fun i y h => start_slot hv i y _ h
  · intro N O H1 σ ρ x cls dx hx b hh
    refine qx x cls dx H1 hx b.st ?_
    obtain ⟨C, h1, h2, h3⟩ := hh
    refine ⟨C, h1, h2, ?_⟩
    split
    · rename_i e
      rw [e] at h3
      exact h3
    · rename_i f d e
      rw [e] at h3
      obtain ⟨a, v, e1, e2, e3⟩ := h3
      exact ⟨a, v, e1, e2, e3.less (b.k0.trans b.e.ok.kk.symm) b.sub⟩
    · rename_i e1 e2
      split at h3
      · rename_i e
        exact absurd e e1
      · rename_i f d e
        exact absurd e (e2 f d)
      · exact h3
theorem _root_.Lw.Dn.dataK {g : Bool} {Sy : Md} {x : Str} {st : Stmt} {N ps : List Str} {k : Nat} {t : TSD} (D : Dn K mg x st ps) (S : FnScope N ps (defScope st))
    (hbody : ∀ (f : Addr) (cdv : Value) (A : Around) (outer : List PySem.Env) (s : Shared) (H : Hp) (E : XK), Room k (A.deeper (envOfC x (defScope st) s.heap.objs.size f cdv)) → (g = true → A.guards = some []) →
      PSs (cxOf (L2.CX P w) P w K mg base N x (defScope st) f cdv A outer s H E) (defBody st) (LS Sy (cxOf (L2.CX P w) P w K mg base N x (defScope st) f cdv A outer s H E) (fun _ => E) t)) :
    Ck g (L2.CX P w) P w K mg base (k + 1) x st ps (spF ⟨base, K, Sy⟩ mg ps.length (tfOf N t)) := by
  obtain ⟨cd, C⟩ := D.dc
  exact C.dataK S fun f A outer s H E hr hg => hbody f cd A outer s H E hr hg
end
/-- the values in the parameters' order -/
def pickD {α : Type} (z : α) (js : List Nat) (xs : List α) : List α := js.map fun j => xs.getD j z
theorem vals_at {vs : List V} {us : List Value} (r : Vals vs us) : ∀ j, RelV (vs.getD j .non) (us.getD j .none) := by
  induction r with
  | nil => intro j; cases j <;> exact rfl
  | cons a b ih =>
    intro j
    cases j with
    | zero => exact a
    | succ j => simpa using ih j
theorem vals_pick {vs : List V} {us : List Value} (r : Vals vs us) : ∀ js : List Nat, Vals (pickD .non js vs) (pickD .none js us)
  | [] => .nil
  | j :: js => .cons (vals_at r j) (vals_pick r js)
theorem svs_at {w : Wx} {N : Bn} {H : Hp} : ∀ {vs : List V} {us : List Sv}, SvsR w N H vs us → ∀ j, SaR w N H (vs.getD j .non) (us.getD j (.dat .none))
  | [], [], _, j => by cases j <;> exact Dv.non
  | v :: vs, u :: us, h, 0 => h.1
  | v :: vs, u :: us, h, j + 1 => by simpa using svs_at h.2 j
  | [], _ :: _, h, _ => h.elim
  | _ :: _, [], h, _ => h.elim
theorem svs_pick {w : Wx} {N : Bn} {H : Hp} {vs : List V} {us : List Sv} (h : SvsR w N H vs us) : ∀ js : List Nat, SvsR w N H (pickD .non js vs) (pickD (.dat .none) js us)
  | [] => trivial
  | j :: js => ⟨svs_at h j, svs_pick h js⟩
theorem svs_app {w : Wx} {N : Bn} {H : Hp} : ∀ {vs zs : List V} {us ys : List Sv}, SvsR w N H vs us → SvsR w N H zs ys → SvsR w N H (vs ++ zs) (us ++ ys)
  | [], _, [], _, _, b => b
  | v :: vs, zs, u :: us, ys, a, b => ⟨a.1, svs_app a.2 b⟩
  | [], _, _ :: _, _, h, _ => h.elim
  | _ :: _, _, [], _, h, _ => h.elim
theorem vals_app {vs zs : List V} {us ws : List Value} (a : Vals vs us) (b : Vals zs ws) : Vals (vs ++ zs) (us ++ ws) := by
  induction a with
  | nil => exact b
  | cons x y ih => exact .cons x ih
def KwOk (st : Stmt) (x : Str) (ps ks : List Str) (js : List Nat) (n m : Nat) : Prop := ∀ (kV doc pm cd ct : Value) (an : Option Addr) (us ws : List Value), us.length = n → ws.length = m →
  bindArgs (PySem.W.fnOf x x (defArgs st) (defBody st) (defScope st) .none kV doc pm an cd ct) ⟨us, ks.zip ws⟩ = pure (ps.zip (pickD .none js (us ++ ws)))
section
variable {X : Cx} {CX : CXT} {x : Str} {st : Stmt} {p pos kpos : Pos} {e : Expr} {es : List Expr} {kws : List Keyword} {t tk : TA} {sp : Sp} {j k n m : Nat} {g : Bool} {ps ks : List Str} {js : List Nat} {nm : Option Str}
theorem _root_.L2.PK.weak {t t' : TA} (h : PK X kws t) (i : ∀ σ H Q, t' σ H Q → t σ H Q) : PK X kws t' := ⟨fun pos pins s σ H Q I q => h.run pos pins s σ H Q I (i σ H Q q)⟩
theorem kw_run {E : XK} {pins : List (Addr × Obj)} {s : Shared} {σ : L2.St} {H : Hp} {Q : VK} {us ws : List Value} {vs zs : List V} (c : Ck g CX X.prog X.w X.K X.mg X.base k x st ps sp) (hr : Room j X.A) (hG : g = true → X.A.guards = some []) (hx : PassesAt CX X σ E) (hk : k ≤ j)
    (bd : KwOk st x ps ks js n m) (I : Inv X pins σ H s) (r : Vals vs us) (rz : Vals zs ws) (h : vs.length = n ∧ zs.length = m ∧ sp (pickD .non js (vs ++ zs)) H Q E) :
    ∃ f, X.mg x = some (.ref f) ∧ wpAny (model X.prog X.w) X.A (call (.ref f) us (ks.zip ws)) (EP X pins σ Q) X.xe s := by
  obtain ⟨f, fd, F, hm, kp, hb, kV, doc, pm, cd, ct, an, rfl⟩ := c.ex
  refine ⟨f, hm, ?_⟩
  have bt := BindsTo.of_eq (s := s) (bd kV doc pm cd ct an us ws (r.length ▸ h.1) (rz.length ▸ h.2.1))
  refine wpAny_call (codeAny_mono (F.run X.A (hr.mono hk) hG X.stack s H I.env0 _ _ _ bt (vals_pick (vals_app r rz) js) Q E h.2.2) ?_)
  rintro (er | (_ | _ | _ | u)) s' z
  · exact hx pins H s er s' I z
  · exact z.elim
  · exact z.elim
  · exact z.elim
  · exact I.after z
/-- f(k = e, ..) -/
theorem pe_clK0 {E : L2.St → XK} (c : Ck g CX X.prog X.w X.K X.mg X.base k x st ps sp) (bd : KwOk st x ps ks js 0 m) (hr : Room j X.A) (hG : g = true → X.A.guards = some []) (hx : ∀ σ, PassesAt CX X σ (E σ)) (hg : Gl X x) (hkw : PK X kws tk) (hk : k ≤ j := by decide)
    (hdb : (x == ("__debug__" : Str)) = false := by decide) (hall : (backToKw pos (keywordEach kws X.env)).all (·.1.isSome) = true := by rfl) (hks : (backToKw pos (keywordEach kws X.env)).filterMap (·.1) = ks := by rfl)
    (hpl : ((backTo pos (starEach [] X.env)).any (·.1) || (backToKw pos (keywordEach kws X.env)).any (·.1.isNone)) = false := by rfl) :
    PE X (.Call (.Name x p) [] kws pos) (fun σ H Q => tk σ H fun zs H1 => zs.length = m ∧ sp (pickD .non js zs) H1 Q (E σ)) := by
  obtain ⟨f, fd, F, hm, kp, hb, _⟩ := c.ex
  refine ⟨fun pins s σ H Q I h => wpAny_Call_Name_kw (ld_glob I hg hm (PySem.W.callWith_KW0 (h₀ := X.base) I.ok.mod.kin kp hall (thn (hkw.run pos pins s σ H _ I h) ?_) hpl) hdb)⟩
  rintro ws s1 ⟨zs, H1, I1, rz, l, q⟩
  refine ⟨I1.kIn, ?_⟩
  rw [hks]
  obtain ⟨f', hm', run⟩ := kw_run (vs := []) (us := []) (E := E σ) (js := js) c hr hG (hx σ) hk bd I1 .nil rz ⟨rfl, l, q⟩
  rw [hm] at hm'
  cases hm'
  exact run
/-- f(e, .., k = e, ..) -/
theorem pe_clK1 {E : L2.St → XK} (c : Ck g CX X.prog X.w X.K X.mg X.base k x st ps sp) (bd : KwOk st x ps ks js n m) (hr : Room j X.A) (hG : g = true → X.A.guards = some []) (hx : ∀ σ, PassesAt CX X σ (E σ)) (hg : Gl X x) (ha : PA X (e :: es) t) (hkw : PK X kws tk) (hk : k ≤ j := by decide)
    (hdb : (x == ("__debug__" : Str)) = false := by decide) (hall : (backToKw pos (keywordEach kws X.env)).all (·.1.isSome) = true := by rfl) (hks : (backToKw pos (keywordEach kws X.env)).filterMap (·.1) = ks := by rfl)
    (he : starEach (e :: es) X.env = (false, eval e X.env) :: starEach es X.env := by rfl) (hpl : ((backTo pos (starEach (e :: es) X.env)).any (·.1) || (backToKw pos (keywordEach kws X.env)).any (·.1.isNone)) = false := by rfl) :
    PE X (.Call (.Name x p) (e :: es) kws pos) (fun σ H Q => t σ H fun vs H1 => tk σ H1 fun zs H2 => vs.length = n ∧ zs.length = m ∧ sp (pickD .non js (vs ++ zs)) H2 Q (E σ)) := by
  obtain ⟨f, fd, F, hm, kp, hb, _⟩ := c.ex
  refine ⟨fun pins s σ H Q I h => wpAny_Call_Name_kw (ld_glob I hg hm (PySem.W.callWith_KW (h₀ := X.base) I.ok.mod.kin kp hall (thn (ha.run pos pins s σ H _ I h) ?_) hpl he) hdb)⟩
  rintro us s1 ⟨vs, H1, I1, r, q⟩
  refine thn (hkw.run pos pins s1 σ H1 _ I1 q) ?_
  rintro ws s2 ⟨zs, H2, I2, rz, l⟩
  refine ⟨I2.kIn, ?_⟩
  rw [hks]
  obtain ⟨f', hm', run⟩ := kw_run (E := E σ) (js := js) c hr hG (hx σ) hk bd I2 r rz l
  rw [hm] at hm'
  cases hm'
  exact run
end
def dCallK (tf : TF) (js : List Nat) (ta tk : TAD) : TD := fun ρ R Ex => ta ρ (fun us => tk ρ (fun zs => tf (pickD (.dat .none) js (us ++ zs)) R Ex) Ex) Ex
section
variable {Sy : Md} {X : Cx} {E : L2.St → XK} {e : Expr} {kws : List Keyword} {kpos : Pos} {nm : Option Str} {tf : TF} {js : List Nat} {n m l : Nat} {tr tk : TAD} {ta : TD}
theorem dk_nil : PK X [] (LA Sy X E 0 dNil) := pk_nil.weak fun σ H Q ⟨w, N, O, F, ρ, R, Ex, en, t, q, qx⟩ => q [] [] H rfl t (.refl _ _) trivial
theorem dk_cons (h : PE X e (LE Sy X E ta)) (r : PK X kws (LA Sy X E n tr)) : PK X (⟨nm, e, kpos⟩ :: kws) (LA Sy X E (n + 1) (dCons ta tr)) :=
  (pk_cons h r).weak fun σ H Q ⟨w, N, O, F, ρ, R, Ex, en, t, q, qx⟩ => by
    refine ⟨w, N, O, F, ρ, _, Ex, en, t, fun x v H1 r1 k1 dx => ?_, qx⟩
    refine ⟨w, N, O, F, ρ, _, Ex, en.step k1, r1, fun us vs H2 hl r2 k2 hv => ?_, fun x cls dx H' hx k hh => qx x cls dx H' hx (k1.trans k) hh⟩
    exact q (.dat x :: us) (v :: vs) H2 (by simp [hl]) r2 (k1.trans k2) ⟨dv_step dx en.hw k2, hv⟩
theorem d_callK0 (h : PE X e (fun σ H Q => LA Sy X E m tk σ H fun zs H1 => zs.length = m ∧ spF (gnd Sy X) X.mg l tf (pickD .non js zs) H1 Q (E σ))) (hl : js.length = l := by rfl) : PE X e (LE Sy X E (dCallK tf js dNil tk)) := h.weak fun σ H Q ⟨w, N, O, F, ρ, R, Ex, en, t, q, qx⟩ => by
  refine ⟨w, N, O, F, ρ, _, Ex, en, t, fun us vs H1 hu r1 k1 hv => ?_, qx⟩
  exact ⟨by rw [hv.length, hu], w, N, _, R, Ex, by unfold pickD; rw [List.length_map]; exact hl, svs_pick hv js, (en.step k1).ok, r1, fun d v H' hr k dv => q d v H' hr (k1.trans k) dv, fun x cls dx H' hx k hh => qx x cls dx H' hx (k1.trans k) hh⟩
theorem d_callK1 (h : PE X e (fun σ H Q => LA Sy X E n tr σ H fun vs H1 => LA Sy X E m tk σ H1 fun zs H2 => vs.length = n ∧ zs.length = m ∧ spF (gnd Sy X) X.mg l tf (pickD .non js (vs ++ zs)) H2 Q (E σ))) (hl : js.length = l := by rfl) : PE X e (LE Sy X E (dCallK tf js tr tk)) := h.weak fun σ H Q ⟨w, N, O, F, ρ, R, Ex, en, t, q, qx⟩ => by
  refine ⟨w, N, O, F, ρ, _, Ex, en, t, fun us vs H1 hu r1 k1 hv => ?_, qx⟩
  have en1 := en.step k1
  refine ⟨w, N, O, F, ρ, _, Ex, en1, r1, fun ys zs H2 hy r2 k2 hz => ?_, fun x cls dx H' hx k hh => qx x cls dx H' hx (k1.trans k) hh⟩
  exact ⟨by rw [hv.length, hu], by rw [hz.length, hy], w, N, _, R, Ex, by unfold pickD; rw [List.length_map]; exact hl, svs_pick (svs_app (hv.step en1.hw k2) hz) js, (en1.step k2).ok, r2, fun d v H' hr k dv => q d v H' hr ((k1.trans k2).trans k) dv, fun x cls dx H' hx k hh => qx x cls dx H' hx ((k1.trans k2).trans k) hh⟩
end
end Ld

namespace Ld
open PySem PySem.Spec PyProof.Rows L2
open Lw hiding Dv DvAll FreshB tData tDatas pd_int pd_bl pd_non pd_str pd_neg pd_pow pda_nil pda_cons pd_tup pd_lst pd_dct dv_cut dv_cat tup_at rRepr call_repr rIsD call_isD
/-! ### a, b = [], [] : two lists of the def's own -/
def sOwn2 (i j : Nat) : TSD := fun D ρ => D.nx (putD (putD ρ i (some (.own []))) j (some (.own [])))
section
variable {Sy : Md} {X : Cx} {E : L2.St → XK} {st : Stmt} {i j : Nat}
theorem ds_own2 (h : PS X st (tPar i j (tCons (tLsN tNil) (tCons (tLsN tNil) tNil)))) : PS X st (LS Sy X E (sOwn2 i j)) := h.weak fun D σ H ⟨w, N0, H0, N, O, F, ρ, DD, b, h, k⟩ => by
  refine ⟨Nat.zero_le _, fun p hp np => ⟨Nat.zero_le _, fun q hq nq => ⟨_, _, rfl, ?_⟩⟩⟩
  exact k.nx _ _ _ _ _ h ((b.own i hp np .nil).own j hq nq .nil)
end
theorem e_eqL {a b : List PyData} {Q : Bool → Prop} : fEq (.list a) (.list b) Q = (SeqAt.shaped (.list a) = true ∧ SeqAt.shaped (.list b) = true ∧ Q (PyData.eqv (.list a) (.list b))) := rfl
theorem e_neL {a b : List PyData} {Q : Bool → Prop} : fNe (.list a) (.list b) Q = (SeqAt.shaped (.list a) = true ∧ SeqAt.shaped (.list b) = true ∧ Q (!PyData.eqv (.list a) (.list b))) := rfl
end Ld
namespace Ld
open PySem PySem.Spec PyProof.Rows L2
open Lw hiding Dv DvAll FreshB tData tDatas pd_int pd_bl pd_non pd_str pd_neg pd_pow pda_nil pda_cons pd_tup pd_lst pd_dct dv_cut dv_cat tup_at rRepr call_repr rIsD call_isD
section
variable {Sy : Md} {X : Cx} {E : L2.St → XK} {st : Stmt} {i j : Nat}
/-- .. where one of them is a cell -/
theorem ds_own2c (h : PS X st (tAsg (tTup (tCons (tLsN tNil) (tCons (tLsN tNil) tNil))) (gTup X.K 2 (gCons (gName i) (gCons (gName j) gNil))))) : PS X st (LS Sy X E (sOwn2 i j)) := h.weak fun D σ H ⟨w, N0, H0, N, O, F, ρ, DD, b, h, k⟩ => by
  refine ⟨Nat.zero_le _, fun p hp np => ⟨Nat.zero_le _, fun q hq nq => ⟨short2, fun r hr => ?_⟩⟩⟩
  refine ⟨_, _, rfl, (Tp.of upd_same).sq, rfl, _, _, rfl, _, _, rfl, rfl, ?_⟩
  exact k.nx _ _ _ _ _ h (((b.own i hp np .nil).own j hq nq .nil).step (.of (same_new hr _)))
end
end Ld
namespace Ld
open PySem PySem.Spec PyProof.Rows L2
open Lw hiding Dv DvAll FreshB tData tDatas pd_int pd_bl pd_non pd_str pd_neg pd_pow pda_nil pda_cons pd_tup pd_lst pd_dct dv_cut dv_cat tup_at rRepr call_repr rIsD call_isD
/-! ### powers of wide numbers -/
def CPowW (i j : Int) : Prop := 0 ≤ j ∧ j ≤ 100 ∧ i.natAbs < 2 ^ 40000
section
variable {X : Cx}
theorem op_powW : OpR X (binaryOp .Pow) (rI CPowW fun i j => .int (i ^ j.toNat)) := opI fun i j _ _ _ _ _ hc q => PyProof.Rows.pow_int hc.1 (by
  have b := bits_le hc.2.2
  have m := Int.mul_le_mul (Int.ofNat_le.mpr b) hc.2.1 hc.1 (by decide)
  exact Int.le_trans m (by decide)) q
end
abbrev fPowW := fInt (fun i j => i ^ j.toNat) CPowW
end Ld

namespace Ld
open PySem PySem.Spec PyProof.Rows L2
open Lw hiding Dv DvAll FreshB tData tDatas pd_int pd_bl pd_non pd_str pd_neg pd_pow pda_nil pda_cons pd_tup pd_lst pd_dct dv_cut dv_cat tup_at rRepr call_repr rIsD call_isD
/-! ### texts by data -/
/-- a text by its signs -/
def sT (l : List Nat) : Str := ⟨l.toArray⟩
def tl' (x : Str) : List Nat := x.cps.toList
theorem tl_sT (l : List Nat) : tl' (sT l) = l := rfl
theorem sT_tl (x : Str) : sT (tl' x) = x := rfl
theorem len_sT (l : List Nat) : (sT l).length = l.length := by show l.toArray.size = l.length; simp
theorem sT_inj {a b : List Nat} (h : sT a = sT b) : a = b := congrArg tl' h
theorem sT_app (a b : List Nat) : sT a ++ sT b = sT (a ++ b) := by
  show (⟨a.toArray ++ b.toArray⟩ : Str) = ⟨(a ++ b).toArray⟩
  simp
section
variable {Sy : Md} {X : Cx} {E : L2.St → XK} {e : Expr} {pos : Pos} {ta tb : TD}
/-- text[i] -/
def fIxS : PyData → PyData → RD → Prop := fun x y R => match x, y with
  | .str z, .int i => z.length ≤ sizeLine ∧ match atI (tl' z) i with
    | some c => R (.str (sT [c]))
    | none => False
  | _, _ => False
theorem od_ixS : OpD Sy X (rIx X.K) fIxS := fun N H v u x y R Q h dx dy fr sn hK sl q => by
  unfold fIxS at h
  split at h
  · obtain ⟨hz, h⟩ := h
    split at h
    · rename_i c ec
      cases dx
      cases dy
      exact .inr (.inr ⟨_, _, c, rfl, rfl, hz, ec, q _ _ H h (.refl _) (.str _)⟩)
    · exact h.elim
  · exact h.elim
/-- text[a:b] -/
def fSlT (x : PyData) (lo hi : Option Int) (R : RD) : Prop := match x with
  | .str z => z.length ≤ sizeLine ∧ R (.str (cutS z lo hi))
  | _ => False
def dSlT (t : TD) (lo hi : TOD) : TD := fun ρ R Ex => t ρ (fun x => lo ρ (fun l => hi ρ (fun h => fSlT x l h R) Ex) Ex) Ex
theorem d_slT {to th : TOD} (h : PE X e (tSl rSlS (LE Sy X E ta) (LO Sy X E to) (LO Sy X E th))) : PE X e (LE Sy X E (dSlT ta to th)) := h.weak fun σ H Q ⟨w, N, O, F, ρ, R, Ex, en, t, q, qx⟩ => by
  refine ⟨w, N, O, F, ρ, _, Ex, en, t, fun x v H1 r1 k1 dx => ?_, qx⟩
  have en1 := en.step k1
  refine ⟨w, N, O, F, ρ, _, Ex, en1, r1, fun lo H2 r2 k2 => ?_, fun x cls dx H' hx k hh => qx x cls dx H' hx (k1.trans k) hh⟩
  have en2 := en1.step k2
  refine ⟨w, N, O, F, ρ, _, Ex, en2, r2, fun hi H3 r3 k3 => ?_, fun x cls dx H' hx k hh => qx x cls dx H' hx ((k1.trans k2).trans k) hh⟩
  unfold fSlT at r3
  split at r3
  · cases dx
    exact ⟨_, rfl, r3.1, q _ _ H3 r3.2 ((k1.trans k2).trans k3) (.str _)⟩
  · exact r3.elim
/-- one sign in a text -/
def fInS : PyData → PyData → (Bool → Prop) → Prop := fun x y Q => match x, y with
  | .str a, .str z => match tl' a with
    | [c] => Q (decide (c ∈ tl' z))
    | _ => False
  | _, _ => False
def fNotInS : PyData → PyData → (Bool → Prop) → Prop := fun x y Q => fInS x y fun b => Q (!b)
theorem one_sign {a : Str} {c : Nat} (h : tl' a = [c]) : a = ⟨#[c]⟩ := by
  rw [← sT_tl a, h]
  rfl
theorem cd_inS : CmpD X (fun x y H Q => ∃ (c : Nat) (z : Str), x = .str ⟨#[c]⟩ ∧ y = .str z ∧ Q (.bl (decide (c ∈ z.cps.toList))) H) fInS := fun N H v u x y R Q h dx dy hK q => by
  unfold fInS at h
  split at h
  · split at h
    · rename_i c ec
      cases dx
      cases dy
      exact ⟨c, _, by rw [one_sign ec], rfl, q _ h⟩
    · exact h.elim
  · exact h.elim
theorem cd_notInS : CmpD X (fun x y H Q => ∃ (c : Nat) (z : Str), x = .str ⟨#[c]⟩ ∧ y = .str z ∧ Q (.bl (!decide (c ∈ z.cps.toList))) H) fNotInS := fun N H v u x y R Q h dx dy hK q => by
  unfold fNotInS fInS at h
  split at h
  · split at h
    · rename_i c ec
      cases dx
      cases dy
      exact ⟨c, _, by rw [one_sign ec], rfl, q _ h⟩
    · exact h.elim
  · exact h.elim
/-! built-ins -/
def fStrO : List PyData → RD → Prop := fun ds R => match ds with
  | [.int i] => i.natAbs.log2 < 1920 ∧ R (.str (toString i))
  | _ => False
theorem bd_str : CallD Sy X (fun xs H Q => ∃ i, xs = [.int i] ∧ i.natAbs.log2 < 1920 ∧ Q (.str (toString i)) H) fStrO := fun N H vs ds R Q h dv fr sn hK sl q => by
  unfold fStrO at h
  split at h
  · cases dv with
    | cons a b =>
      cases a
      cases b
      exact ⟨_, rfl, h.1, q _ _ H h.2 (.refl _) (.str _)⟩
  · exact h.elim
def fOrd : List PyData → RD → Prop := fun ds R => match ds with
  | [.str x] => match tl' x with
    | [c] => R (.int (c : Nat))
    | _ => False
  | _ => False
theorem bd_ord : CallD Sy X (fun xs H Q => ∃ x, xs = [.str x] ∧ x.length = 1 ∧ Q (.int (x.cps.getD 0 0 : Nat)) H) fOrd := fun N H vs ds R Q h dv fr sn hK sl q => by
  unfold fOrd at h
  split at h
  · split at h
    · rename_i c ec
      cases dv with
      | cons a b =>
        cases a
        cases b
        refine ⟨_, rfl, by rw [one_sign ec] <;> rfl, ?_⟩
        rw [one_sign ec]
        exact q _ _ H h (.refl _) (.int _)
    · exact h.elim
  · exact h.elim
/-- int(text) -/
def fIntT : List PyData → RD → Prop := fun ds R => match ds with
  | [.str a] => ∃ n, PySem.intText? a = some n ∧ a.length ≤ 640 ∧ R (.int n)
  | _ => False
theorem bd_intT : CallD Sy X (fun xs H Q => ∃ a n, xs = [.str a] ∧ PySem.intText? a = some n ∧ a.length ≤ 640 ∧ Q (.int n) H) fIntT := fun N H vs ds R Q h dv fr sn hK sl q => by
  unfold fIntT at h
  split at h
  · obtain ⟨n, h1, h2, h3⟩ := h
    cases dv with
    | cons a b =>
      cases a
      cases b
      exact ⟨_, n, rfl, h1, h2, q _ _ H h3 (.refl _) (.int _)⟩
  · exact h.elim
/-! join -/
def strsOf : List PyData → Option (List Str)
  | [] => some []
  | .str x :: r => match strsOf r with
    | some xs => some (x :: xs)
    | none => none
  | _ => none
theorem strs_of {N : Bn} {H : Hp} : ∀ {vs : List V} {ds : List PyData} {ys : List Str}, DvAll N H vs ds → strsOf ds = some ys → vs = ys.map V.str
  | _, [], ys, h, e => by
    cases h
    cases e
    rfl
  | _, d :: r, ys, h, e => by
    cases h with
    | cons a b =>
      unfold strsOf at e
      split at e
      · rename_i hq
        cases hq
      · rename_i b0 r0 e0
        cases e0
        cases a
        cases z : strsOf r with
        | none => rw [z] at e; cases e
        | some cs =>
          rw [z] at e
          cases e
          rw [strs_of b z]
          rfl
      · cases e
def fJoin : PyData → PyData → RD → Prop := fun x y R => match x, y with
  | .str a, .list ds => match strsOf ds with
    | some ys => (ys.map (·.length)).sum + ys.length * a.length ≤ 16777216 ∧ R (.str (Txt.join a ys))
    | none => False
  | _, _ => False
theorem d_join (h : PE X e (tM1 (fun x xs H Q => ∃ a p, ∃ ys : List Str, x = .str a ∧ xs = [.ref p] ∧ (SqL X.K H p (ys.map V.str) ∨ SqT X.K H p (ys.map V.str)) ∧
    (ys.map (·.length)).sum + ys.length * a.length ≤ 16777216 ∧ Q (.str (Txt.join a ys)) H) (LE Sy X E (dC (.str z))) (LE Sy X E tb))) : PE X e (LE Sy X E (dOp fJoin (dC (.str z)) tb)) := h.weak fun σ H Q ⟨w, N, O, F, ρ, R, Ex, en, t, q, qx⟩ => by
  refine ⟨w, N, O, F, ρ, fun d => d = .str z ∧ tb ρ (fun y => fJoin d y R) Ex, Ex, en, ⟨rfl, t⟩, fun x v H1 r1 k1 dx => ?_, qx⟩
  obtain ⟨rfl, r1⟩ := r1
  cases dx
  have en1 := en.step k1
  refine ⟨⟨z, rfl⟩, w, N, O, F, ρ, _, Ex, en1, r1, fun y u H2 r2 k2 dy => ?_, fun x cls dx H' hx k hh => qx x cls dx H' hx (k1.trans k) hh⟩
  unfold fJoin at r2
  split at r2
  · rename_i a0 ds ea
    cases ea
    split at r2
    · rename_i ys es
      cases dy with
      | lst nn ea all =>
        have := strs_of all es
        subst this
        exact ⟨_, _, ys, rfl, rfl, .inl (.inl (.of ea)), r2.1, q _ _ H2 r2.2 (k1.trans k2) (.str _)⟩
    · exact r2.elim
  · exact r2.elim
/-! f-strings -/
def dFmt (t : TD) : TD := fun ρ R Ex => t ρ (fun d => match d with
  | .str y => y.length ≤ sizeLine ∧ R (.str y)
  | .int i => i.natAbs.log2 < 1920 ∧ R (.str (toString i))
  | _ => False) Ex
theorem d_fmt (h : PE X e (tFmt (LE Sy X E ta))) : PE X e (LE Sy X E (dFmt ta)) := h.weak fun σ H Q ⟨w, N, O, F, ρ, R, Ex, en, t, q, qx⟩ => by
  refine ⟨w, N, O, F, ρ, _, Ex, en, t, fun x v H1 r1 k1 dx => ?_, qx⟩
  split at r1
  · cases dx
    exact .inl ⟨_, rfl, r1.1, q _ _ H1 r1.2 k1 (.str _)⟩
  · cases dx
    exact .inr ⟨_, rfl, r1.1, q _ _ H1 r1.2 k1 (.str _)⟩
  · exact r1.elim
def dJs : List TD → Str → TD
  | [], acc => fun ρ R _ => R (.str acc)
  | t :: ts, acc => fun ρ R Ex => t ρ (fun d => match d with
    | .str y => (acc ++ y).length ≤ sizeLine ∧ dJs ts (acc ++ y) ρ R Ex
    | _ => False) Ex
theorem js_in {w : Wx} {N : Bn} {O : Nat → Option Addr} {F : Keep} {ρ : Env} {σ : L2.St} {R : RD} {Ex : XD} {H0 : Hp} {Q : VK} : ∀ (ts : List TD) (acc : Str) (H : Hp), EnvR (gnd Sy X) w N O F H σ ρ → Stp w H0 H → dJs ts acc ρ R Ex →
    (∀ d v H', R d → Stp w H0 H' → Dv N H' v d → Q v H') → (∀ x cls dx H', Ex x → Stp w H0 H' → ExAt X.mg N H' cls dx x → E σ cls dx H') → tJs (ts.map fun t => LE Sy X E t) acc σ H fun out H1 => Q (.str out) H1
  | [], acc, H, en, k, h, q, qx => q _ _ H h k (.str acc)
  | t :: ts, acc, H, en, k, h, q, qx => by
    refine ⟨w, N, O, F, ρ, _, Ex, en, h, fun d v H1 r1 k1 dx => ?_, fun x cls dx H' hx k2 hh => qx x cls dx H' hx (k.trans k2) hh⟩
    split at r1
    · cases dx
      exact ⟨_, rfl, r1.1, js_in ts _ H1 (en.step k1) (k.trans k1) r1.2 q qx⟩
    · exact r1.elim
theorem d_joined {ts : List TD} (h : PE X e (fun σ H Q => tJs (ts.map fun t => LE Sy X E t) Str.empty σ H fun out H1 => Q (.str out) H1)) : PE X e (LE Sy X E (dJs ts Str.empty)) := h.weak fun σ H Q ⟨w, N, O, F, ρ, R, Ex, en, t, q, qx⟩ =>
  js_in ts Str.empty H en (.refl _ _) t q qx
end
end Ld
namespace Ren
open PySem
open PySem.Sem (wp)
/-! ### enumerate over a text -/
section
variable {prog : Program} {w : World} {A : Around} {E : Value → Shared → Prop} {s : Shared}
theorem it_type (x : Str) : strIterType x = "str_ascii_iterator" ∨ strIterType x = "str_iterator" := by
  unfold strIterType
  split
  · exact .inl rfl
  · exact .inr rfl
theorem sign_item {j : Addr} {ty : String} {x : Str} {t : Tok} {i c : Nat} {Q : Value → Shared → Prop} (hy : ty = "str_ascii_iterator" ∨ ty = "str_iterator") (hj : s.heap.IsStrIter j ty x t i) (hx : x.cps[i]? = some c)
    (q : ∀ h1, h1.IsStrIter j ty x t (i + 1) → Heap.SameBut j s.heap h1 → Q (.str ⟨#[c]⟩ s.toks) { s with heap := h1, toks := s.toks + 1 }) : wpAny (model prog w) A (Builtin.SmallTypes.nextOf (.ref j)) Q E s := by
  rcases hy with rfl | rfl
  · exact wpAny_nextOf_ascii_item hj hx q
  · exact wpAny_nextOf_wide_item hj hx q
theorem sign_end {j : Addr} {ty : String} {x : Str} {t : Tok} {i : Nat} {Q : Value → Shared → Prop} (hh : A.handled = none) (hy : ty = "str_ascii_iterator" ∨ ty = "str_iterator") (hj : s.heap.IsStrIter j ty x t i) (hx : x.cps[i]? = none)
    (q : ∀ h1 e, Heap.ExtBut j s.heap h1 → (∃ o, h1.get? e = some o ∧ o.cls = .type "StopIteration") → E (.ref e) { s with heap := h1 }) : wpAny (model prog w) A (Builtin.SmallTypes.nextOf (.ref j)) Q E s := by
  rcases hy with rfl | rfl
  · exact wpAny_nextOf_ascii_end hh hj hx q
  · exact wpAny_nextOf_wide_end hh hj hx q
theorem next_sign {z j : Addr} {ty : String} {n c : Nat} {y : Str} {t : Tok} {old : Value} {Q : Option Value → Shared → Prop} (hy : ty = "str_ascii_iterator" ∨ ty = "str_iterator") (hz : IsEnum s.heap z j n old) (hj : s.heap.IsStrIter j ty y t n) (hx : y.cps[n]? = some c) (ne : z ≠ j)
    (out : ∀ h2 tk tx, IsEnumOut h2 z j ((n : Int) + 1) (.str ⟨#[c]⟩ tx) s.heap.objs.size → h2.IsStrIter j ty y t (n + 1) → h2.get? s.heap.objs.size = some { cls := .type "tuple", data := .seq #[.int n tk, .str ⟨#[c]⟩ tx] } →
      (∀ c o, c ≠ z → c ≠ j → s.heap.get? c = some o → h2.get? c = some o) → Q (some (.ref s.heap.objs.size)) { s with heap := h2, toks := tk + 1 }) :
    wpAny (model prog w) A (pyNext (.ref z)) Q E s := by
  have tz : s.TypeIs (.ref z) "enumerate" := ⟨_, hz, rfl⟩
  unfold pyNext
  refine wpAny_bind (wpAny_attempt (wpAny_callSpecial?_slot (name := Str.ofString "__next__") tz F.slot_enumerate_next (wpAny_call_entry F.slot_enumerate_next tz F.entry_enumerate_next ?_ (F.args_enumerate_next_1 _))))
  refine step_item (tk := s.toks + 1) (good := fun h => h.IsStrIter j ty y t (n + 1)) hz ne (fun Q' q => sign_item hy hj hx fun h1 a b => q h1 a b) fun h1 h2 ok k a b c => wpAny_pure (out h2 _ _ a ?_ b c)
  obtain ⟨o, e1, e2⟩ := ok
  exact ⟨o, k j o (Ne.symm ne) e1, e2⟩
theorem end_sign {z j : Addr} {ty : String} {n : Nat} {y : Str} {t : Tok} {old : Value} {Q : Option Value → Shared → Prop} (hh : A.handled = none) (hy : ty = "str_ascii_iterator" ∨ ty = "str_iterator") (hz : IsEnum s.heap z j n old) (hj : s.heap.IsStrIter j ty y t n) (hx : y.cps[n]? = none)
    (out : ∀ h2, Heap.ExtBut j s.heap h2 → Q none { s with heap := h2 }) : wpAny (model prog w) A (pyNext (.ref z)) Q E s := by
  have tz : s.TypeIs (.ref z) "enumerate" := ⟨_, hz, rfl⟩
  unfold pyNext
  refine wpAny_bind (wpAny_attempt (wpAny_callSpecial?_slot (name := Str.ofString "__next__") tz F.slot_enumerate_next (wpAny_call_entry F.slot_enumerate_next tz F.entry_enumerate_next ?_ (F.args_enumerate_next_1 _))))
  show wpAny _ _ (field (.ref z) 2 >>= _) _ _ _
  refine wpAny_bind (wpAny_field hz rfl (x := .ref j) rfl ?_)
  refine wpAny_bind (sign_end hh hy hj hx fun h2 x k ⟨o, ho, hc⟩ => ?_)
  exact wpAny_bind (wpAny_isInstance (T := "StopIteration") (b := true) ⟨o, ho, hc⟩ isSubtype_stop (wpAny_pure (out _ k)))
end
end Ren
namespace Ld
open PySem PySem.Spec PyProof.Rows L2
open Lw hiding Dv DvAll FreshB tData tDatas pd_int pd_bl pd_non pd_str pd_neg pd_pow pda_nil pda_cons pd_tup pd_lst pd_dct dv_cut dv_cat tup_at rRepr call_repr rIsD call_isD
/-- a text's signs, each with its number in a new pair -/
def ItnS (x : Str) : It where
  go := fun i H => ∃ c, x.cps[i]? = some c
  yld := fun i H v H' => ∃ T c, v = .ref T ∧ H T = none ∧ H' = upd H T (.tup [.int (i : Nat), .str ⟨#[c]⟩]) ∧ x.cps[i]? = some c
  stop := fun i H => x.cps.size ≤ i
theorem turn_enS {P : Program} {w : World} {K : PySem.W.Frag} {elts : List Expr} {kk : Nat} {tpos : Pos} (x : Str) (t : Tok) (ty : String) (hy : ty = "str_ascii_iterator" ∨ ty = "str_iterator") (z j : Addr) :
    Turn P w K (.Tuple elts kk tpos) (ItnS x) [z, j] z (fun i h => (∃ old, IsEnum h z j ((i : Nat) : Int) old) ∧ h.IsStrIter j ty x t i ∧ z ≠ j) where
  mem := by simp
  obj := fun i h st b hb => by
    obtain ⟨⟨old, hz⟩, ⟨o, ho, hc, hd⟩, _⟩ := st
    rcases (show b = z ∨ b = j by simpa using hb) with q | q
    · rw [q]; exact ⟨_, hz, fun v q => nomatch q⟩
    · rw [q]; exact ⟨o, ho, fun v q => by rw [hd] at q; cases q⟩
  keep := fun i h h' st k => by
    obtain ⟨⟨old, hz⟩, ⟨o, ho, hc⟩, ne⟩ := st
    exact ⟨⟨old, k z (by simp) _ hz⟩, ⟨o, k j (by simp) _ ho, hc⟩, ne⟩
  item := by
    intro X hP hw hK hc i pins s σ H E I hf st hg
    subst hP hw hK
    obtain ⟨⟨old, hz⟩, hj, ne⟩ := st
    obtain ⟨c, hx⟩ := hg
    have zl : z < s.heap.objs.size := Heap.lt_size hz
    have jl : j < s.heap.objs.size := by obtain ⟨_, q, _⟩ := hj; exact Heap.lt_size q
    refine Ren.next_sign hy hz hj hx ne fun h1 tk tx o1 j1 T1 k1 => ?_
    refine ⟨_, rfl, wpAny_letOwnedTupleGo_enum (s := { s with heap := h1, toks := tk + 1 }) o1 fun h2 z2 sb => ?_⟩
    have T2 : h2.get? s.heap.objs.size = some { cls := .type "tuple", data := .seq #[.int i tk, .str ⟨#[c]⟩ tx] } := (sb.2 _ (Nat.ne_of_gt zl)).trans T1
    have new : ObjOk X.prog X.w (upd H s.heap.objs.size (.tup [.int (i : Nat), .str ⟨#[c]⟩])) h2 s.heap.objs.size (.tup [.int (i : Nat), .str ⟨#[c]⟩]) :=
      ⟨by show 2 ≤ sizeLine; decide, [.int i tk, .str ⟨#[c]⟩ tx], .cons ⟨_, rfl⟩ (.cons ⟨_, rfl⟩ .nil), ⟨_, T2, rfl, _, rfl⟩⟩
    have J : Inv X pins σ (upd H s.heap.objs.size (.tup [.int (i : Nat), .str ⟨#[c]⟩])) { s with heap := h2, toks := tk + 1 } :=
      I.turnedNew (ch := [z, j]) (fun b ob hb q => (sb.2 b (fun y => hb (by simp [y]))).trans (k1 b ob (fun y => hb (by simp [y])) (fun y => hb (by simp [y])) q)) hf (Nat.le_refl _) new
    refine ⟨.ref s.heap.objs.size, _, J, rfl, ⟨_, c, rfl, I.hok.fresh (Nat.le_refl _), rfl, hx⟩, ⟨⟨.str ⟨#[c]⟩ tx, ?_⟩, ?_, ne⟩, fun b hb => ?_⟩
    · rw [show ((i + 1 : Nat) : Int) = (i : Int) + 1 by omega]
      exact z2
    · obtain ⟨o, e1, e2⟩ := j1
      exact ⟨o, (sb.2 j (Ne.symm ne)).trans e1, e2⟩
    · have bl : b < s.heap.objs.size := by
        rcases (show b = z ∨ b = j by simpa using hb) with q | q
        · rw [q]; exact zl
        · rw [q]; exact jl
      rw [upd_ne (Nat.ne_of_lt bl)]
      exact (hf b hb).1
  done := by
    intro X hP hw hK hc i pins s σ H E I hf st hg
    subst hP hw hK
    obtain ⟨⟨old, hz⟩, hj, ne⟩ := st
    obtain ⟨f0, f1, f2, f3, f4, f5⟩ := hf j (by simp)
    exact Ren.end_sign (I.ok.hd hc) hy hz hj (Array.getElem?_eq_none_iff.mpr hg) fun h2 k => ⟨rfl, I.turned (t' := s.toks) (fun b o hb q => k b o hb q) f0 f1 f3 f4 f5⟩
  self := fun A i s Q E st h => by
    obtain ⟨⟨_, hz⟩, _⟩ := st
    exact wpAny_pyIter_enum hz h
def iEnS (ta : TA) : TI := fun σ H R => ta σ H fun vs H1 => ∃ x, vs = [.str x] ∧ R (ItnS x) H1
theorem pi_enS {X : Cx} {e : Expr} {ta : TA} {p pos tpos : Pos} {elts : List Expr} {kk : Nat} (hg : Gl X "enumerate") (hm : X.mg "enumerate" = none) (ha : PA X [e] ta) (hs : starEach [e] X.env = [(false, eval e X.env)] := by rfl) :
    PI X (.Tuple elts kk tpos) (.Call (.Name "enumerate" p) [e] [] pos) (iEnS ta) := by
  refine ⟨fun pins s σ H R I h => Call_ (ld_blt I hg hm boot_enumerate (PyProof.Rows.callWith_type1 (thn (ha.run pos pins s σ H _ I h) fun us s1 ⟨vs, H1, I1, r1, x, ex, q1⟩ => ?_) hs rfl))⟩
  subst ex
  obtain ⟨u, rfl, t, rfl⟩ := vals1 r1
  have new : ∀ b, b ∈ [s1.heap.objs.size + 1, s1.heap.objs.size] → FpOk X pins H1 b := fun b hb => by
    have le : s1.heap.objs.size ≤ b := by
      rcases (show b = s1.heap.objs.size + 1 ∨ b = s1.heap.objs.size by simpa using hb) with q | q <;> omega
    exact I1.fpOk le (I1.hok.fresh le)
  refine call_enumerate_str fun h2 hen hit hsz hk => wpAny_pyIter_enum hen ?_
  exact ⟨_, [s1.heap.objs.size + 1, s1.heap.objs.size], _, _, H1, rfl, I1.kept (t' := s1.toks) hk, turn_enS x t (strIterType x) (Ren.it_type x) (s1.heap.objs.size + 1) s1.heap.objs.size, ⟨⟨.none, hen⟩, hit, Nat.succ_ne_self _⟩, new, q1⟩
/-- a text's signs as texts -/
def signsD (l : List Nat) : List PyData := l.map fun c => .str (sT [c])
def iEnT (ta : TAD) : ID := fun ρ R Ex => ta ρ (fun us => match us with
  | [.dat (.str x)] => R (numD 0 (signsD (tl' x)))
  | _ => False) Ex
section
variable {Sy : Md} {X : Cx} {E : L2.St → XK}
theorem io_enumS {tr : TAD} : IOk Sy X E (iEnS (LA Sy X E 1 tr)) (iEnT tr) := ⟨fun w N O F ρ σ H R Ex Q en h q qx => ⟨w, N, O, F, ρ, _, Ex, en, h, fun us vs H1 hl r k hv => by
  split at r
  · rename_i x
    match vs, hv with
    | [v], hv =>
      cases hv.1
      refine ⟨x, rfl, q _ _ [] H1 r k (fun p hp => by cases hp) ⟨fun N2 H2 hK g => ?_, fun N2 H2 i d hK g hd => ?_⟩⟩
      · show x.cps.size ≤ _
        rw [numD_len]
        unfold signsD tl'
        simp
      · obtain ⟨d', hd', rfl⟩ := numD_get hd
        unfold signsD at hd'
        rw [List.getElem?_map] at hd'
        cases g1 : (tl' x)[i]? with
        | none => rw [g1] at hd'; cases hd'
        | some c =>
          rw [g1] at hd'
          cases hd'
          have gx : x.cps[i]? = some c := by
            rw [← Array.getElem?_toList]
            exact g1
          refine ⟨⟨c, gx⟩, fun y H' ⟨T, c2, e1, hT, e3, f⟩ => ?_⟩
          subst e1 e3
          rw [gx] at f
          cases f
          have s := same_new hT (.tup [.int (i : Nat), .str ⟨#[c]⟩])
          exact ⟨s, .tup (.of upd_same) (.cons (by rw [Int.zero_add]; exact .int _) (.cons (.str _) .nil))⟩
  · exact r.elim, qx⟩⟩
end
end Ld
namespace Ld
open PySem PySem.Spec PyProof.Rows L2
open Lw hiding Dv DvAll FreshB tData tDatas pd_int pd_bl pd_non pd_str pd_neg pd_pow pda_nil pda_cons pd_tup pd_lst pd_dct dv_cut dv_cat tup_at rRepr call_repr rIsD call_isD
/-! ### a, b, c = 0, 0, [] -/
def sOwn3 (i j l : Nat) (x y : Int) : TSD := fun D ρ => D.nx (putD (putD (putD ρ i (some (.dat (.int x)))) j (some (.dat (.int y)))) l (some (.own [])))
section
variable {Sy : Md} {X : Cx} {E : L2.St → XK} {st : Stmt} {i j l : Nat} {x y : Int}
theorem ds_own3 (h : PS X st (tPar3 i j l (tCons (tC (.int x)) (tCons (tC (.int y)) (tCons (tLsN tNil) tNil))))) : PS X st (LS Sy X E (sOwn3 i j l x y)) := h.weak fun D σ H ⟨w, N0, H0, N, O, F, ρ, DD, b, h, k⟩ => by
  refine ⟨Nat.zero_le _, fun p hp np => ⟨_, _, _, rfl, ?_⟩⟩
  exact k.nx _ _ _ _ _ h (((b.put i (.int _)).put j (.int _)).own l hp np .nil)
end
end Ld
namespace Ld
open PySem PySem.Spec PyProof.Rows L2
/-- a block within a block, with no name of the def's cells -/
theorem blkOk_any {N : List Str} {sc scope : Scope} {own : List (Str × Nat)} (h : blkC N { kind := .function, names := [], isGenerator := false, isCoroutine := false } scope own = true) : BlkOk N sc scope own := by
  have b := blkOk_by h
  exact ⟨b.kind, b.uniq, b.ix, fun y hy e => (b.free y hy e).elim (fun h => nomatch h) (fun h => nomatch h), b.own⟩
end Ld

namespace Ld
open PySem PySem.Spec PyProof.Rows L2
/-! ### a try with several named clauses, all with one name, that no exception passes -/
abbrev Ts := Addr → Value → Option Addr → TS
/-- behind a clause the name in slot i is gone -/
def goneD (i : Nat) (D : Ends) : Ends := { nx := fun σ H => D.nx (σ.set i none) H, rt := D.rt, bk := fun σ H => D.bk (σ.set i none) H, ct := fun σ H => D.ct (σ.set i none) H }
def wAll (K : PySem.W.Frag) (i : Nat) (D : Ends) : List (Value × Ts) → WX
  | [] => fun _ _ _ _ => False
  | p :: r => fun cls d σ H => (PySem.W.exmOne K cls p.1 = some true ∧ ∀ a, H a = none → p.2 a cls d (goneD i D) (σ.set i (some (.ref a))) H) ∨ (PySem.W.exmOne K cls p.1 = some false ∧ wAll K i D r cls d σ H)
inductive HdsAs (X : Cx) (n : Str) : List ExceptHandler → List (Value × Ts) → Prop
  | nil : HdsAs X n [] []
  | cons {x : Str} {c : Value} {ts : Ts} {b : Stmt} {bs : List Stmt} {p q : Pos} {hds : List ExceptHandler} {l : List (Value × Ts)} (hc : Names X x c)
      (hsu : ∀ (a : Addr) (oe : Obj) (cls : Value) (d : Option Addr) (pn : List (Addr × Obj)), Zc cls d oe → (∃ vs, oe.data = .fields vs) → PSs (X.suite a ((a, oe) :: pn)) (b :: bs) (ts a cls d)) (r : HdsAs X n hds l) :
      HdsAs X n (.ExceptHandler (some (.Name x p)) (some n) (b :: bs) q :: hds) ((c, ts) :: l)
section
variable {X : Cx} {body : List Stmt} {h₀ : ExceptHandler} {hds : List ExceptHandler} {l : List (Value × Ts)} {pos : Pos} {tb : WX → TS} {n : Str} {i : Nat}
theorem ps_try_all (hs : X.stack = X.env :: X.outer) (hf : X.env.frame = some X.env.locals) (hN : X.N.Nodup) (hi : X.N[i]? = some n) (hln : X.env.kindOf n = some .local)
    (hb : ∀ (W : WX) (pn : List (Addr × Obj)) (xe : Value → Shared → Prop), Takes (X.tr pn xe) W → PSs (X.tr pn xe) body (tb W))
    (hh : HdsAs X n (h₀ :: hds) l) : PS X (.Try body (h₀ :: hds) [] [] pos) (fun D σ H => tb (wAll X.K i D l) D σ H) := by
  constructor
  intro pins s σ H D I h
  have ok := I.ok
  have fr : X.A.frames = some (X.env :: X.outer) := by rw [ok.frames, hs]
  apply wpAny_Try_except
  have run := (hb (wAll X.K i D l) (X.pn ++ pins) (fun e s₁ => wpAny (model X.prog X.w) X.A (noteFrame e X.env) (fun _ s₂ => wpAny (model X.prog X.w) X.A (setFlight e none) (fun _ s₃ =>
    wpAny (model X.prog X.w) X.A (handleBy e X.env (h₀ :: hds)) (SP X pins D) X.xe s₃) X.xe s₂) X.xe s₁) ?caught).run [] s σ H D (I.toTry _) h
  case caught =>
    rintro u s' ⟨a, B, sI, pins', σ', H', cls, d, rfl, J', nb, up, sky, na, os, ag, w⟩
    have J := J'.ofTry ok
    rw [show (X.tr (X.pn ++ pins) _).stack = X.env :: X.outer from hs] at sky
    show wpAny (model X.prog X.w) X.A (noteFrame (.ref a) X.env) _ _ _
    refine Sky.land Zc.steady fr hf sky fun h3 fl up3 => ?_
    have J3 : L2.Inv X pins σ' H' { s' with heap := h3 } := J.landed nb fl.1 (up.trans up3) os ag
    obtain ⟨oe, vs, he, hz, hd⟩ := fl.there
    have apart : ∀ e : PySem.Env, e ∈ X.env :: X.outer → e.frame ≠ some a := fun e he' z => by
      obtain ⟨_, o', e', hn⟩ := fl.2.2.1.mem (List.mem_filterMap.mpr ⟨e, he', z⟩)
      rw [he] at e'
      cases e'
      exact hn _ hd
    have nL : a ≠ X.env.locals := fun z => apart _ (List.mem_cons_self ..) (by rw [hf, z])
    have nF : a ∉ X.fs := fun hm => by
      obtain ⟨e, he', q⟩ := List.mem_filterMap.mp hm
      exact apart e (List.mem_cons_of_mem _ he') q
    have S3 := J3.suite he hd na nL nF
    clear hb h
    generalize h₀ :: hds = hl at hh
    induction hh with
    | nil => exact w.elim
    | @cons x c ts b bs p q hds2 l2 hc hsu r ih =>
      refine wpAny_handleBy_cons (codeAny_handlers_test ?_) (by intro z; cases z)
      have sees : ∀ {Q : Value → Shared → Prop} {E : Value → Shared → Prop}, Q c { s' with heap := h3 } → wpAny (model X.prog X.w) (X.A.mark (some (.ref a))) (eval (.Name x p) X.env) Q E { s' with heap := h3 } := fun z => by
        obtain ⟨g1, g2, g3 | ⟨g3, g4, g5⟩⟩ := hc
        · exact ld_glob (X := X.suite a ((a, oe) :: (X.pn ++ pins))) S3 g1 g3 z g2
        · exact ld_blt (X := X.suite a ((a, oe) :: (X.pn ++ pins))) S3 g1 g3 g4 z g5 g2
      have LT : PySem.W.Looks (model X.prog X.w) h3 (typeOf (.ref a)) cls := fun A Q E s k z => wpAny_typeOf_ref (k _ _ he) (by rw [hz.1]; exact z)
      apply sees
      rcases w with ⟨w1, w2⟩ | ⟨w1, w2⟩
      · refine (PySem.W.exm_one (M := model X.prog X.w) J3.kIn LT w1).here (codeAny_handlers_suite_as (HandSPX.lands_againZ fl fun h4 fl4 up4 => ?_))
        have J4 : L2.Inv X pins σ' H' { s' with heap := h4 } := J.landed nb fl4.1 ((up.trans up3).trans up4) os ag
        obtain ⟨oe4, vs4, he4, hz4, hd4⟩ := fl4.there
        have S4 := J4.suite he4 hd4 na nL nF
        refine store_ok (X := X.suite a ((a, oe4) :: (X.pn ++ pins))) (v := .ref a) S4 hN hi (.inl hln) rfl (fun s5 S5 => ?_) (.inr hln)
        refine wpAny_mono ((hsu a oe4 cls d (X.pn ++ pins) hz4 ⟨_, hd4⟩).run [] s5 _ H' _ S5 (w2 a na)) (fun f s6 z => ?_) (fun _ _ z => z.elim)
        rcases f with _ | _ | _ | u
        · obtain ⟨σ6, H6, S6, z⟩ := z
          exact gone_ok (S6.unsuite ok) hN hi hln fun s7 J7 => ⟨_, _, J7, z⟩
        · obtain ⟨σ6, H6, S6, z⟩ := z
          exact gone_ok (S6.unsuite ok) hN hi hln fun s7 J7 => ⟨_, _, J7, z⟩
        · obtain ⟨σ6, H6, S6, z⟩ := z
          exact gone_ok (S6.unsuite ok) hN hi hln fun s7 J7 => ⟨_, _, J7, z⟩
        · obtain ⟨v6, σ6, H6, S6, r6, z⟩ := z
          exact gone_ok (S6.unsuite ok) hN hi hln fun s7 J7 => ⟨_, _, _, J7, r6, z⟩
      · exact (PySem.W.exm_one (M := model X.prog X.w) J3.kIn LT w1).here (ih w2)
  refine wpAny_mono run (fun f s1 z => ?_) (fun _ _ z => z)
  rcases f with _ | _ | _ | u
  · obtain ⟨σ', H', J', q⟩ := z
    exact wpAny_execs_nil ⟨σ', H', J'.ofTry ok, q⟩
  · obtain ⟨σ', H', J', q⟩ := z
    exact ⟨σ', H', J'.ofTry ok, q⟩
  · obtain ⟨σ', H', J', q⟩ := z
    exact ⟨σ', H', J'.ofTry ok, q⟩
  · obtain ⟨v, σ', H', J', r, q⟩ := z
    exact ⟨v, σ', H', J'.ofTry ok, r, q⟩
end
end Ld
namespace Ld
open PySem PySem.Spec PyProof.Rows L2
open Lw hiding Dv DvAll FreshB tData tDatas pd_int pd_bl pd_non pd_str pd_neg pd_pow pda_nil pda_cons pd_tup pd_lst pd_dct dv_cut dv_cat tup_at rRepr call_repr rIsD call_isD
/-! ### told: try: t = call(); except C as e: return (no, e.field); ..; return (yes, t) -/
abbrev Hd3 := Addr × Str × Str
def mkO (tp : Bool) (xs : List V) : HO := match tp with
  | true => .tup xs
  | false => .lst xs
/-- one of the clauses' classes, with its field; then the clause's answer -/
def xAll (tp : Bool) (Q : VK) : List Hd3 → XK
  | [] => fun _ _ _ => False
  | p :: r => fun cls dx H => (cls = .ref p.1 ∧ ∃ a v, dx = some a ∧ H a = some (.xd [(p.2.1, v)]) ∧ ∀ l, H l = none → (tp = false → l ≠ sysModules) → Q (.ref l) (upd H l (mkO tp [.str p.2.2, v]))) ∨ xAll tp Q r cls dx H
/-- the clauses' texts: none of the classes stands under one before it -/
inductive HT (X : Cx) (tp : Bool) (en : Str) : List ExceptHandler → List Hd3 → Prop
  | nil : HT X tp en [] []
  | tup {xc fl no : Str} {C fI : Addr} {st0 : Stmt} {fd : FuncData} {j kk : Nat} {p1 p2 p3 p4 p5 p6 p7 : Pos} {hds : List ExceptHandler} {l : List Hd3} (ht : tp = true) (ec : Ec X.K X.mg xc fl st0 C fI fd) (gx : Gl X xc) (d : (xc == ("__debug__" : Str)) = false)
      (ap : ∀ q ∈ l, PySem.W.exmOne X.K (.ref q.1) (.ref C) = some false) (r : HT X tp en hds l) : HT X tp en (.ExceptHandler (some (.Name xc p1)) (some en) [.Return (some (.Tuple [.Constant (.str no) j p2, .Attribute (.Name en p3) fl p4] kk p5)) p6] p7 :: hds) ((C, fl, no) :: l)
  | lst {xc fl no : Str} {C fI : Addr} {st0 : Stmt} {fd : FuncData} {j : Nat} {p1 p2 p3 p4 p5 p6 p7 : Pos} {hds : List ExceptHandler} {l : List Hd3} (ht : tp = false) (ec : Ec X.K X.mg xc fl st0 C fI fd) (gx : Gl X xc) (d : (xc == ("__debug__" : Str)) = false)
      (ap : ∀ q ∈ l, PySem.W.exmOne X.K (.ref q.1) (.ref C) = some false) (r : HT X tp en hds l) : HT X tp en (.ExceptHandler (some (.Name xc p1)) (some en) [.Return (some (.List [.Constant (.str no) j p2, .Attribute (.Name en p3) fl p4] p5)) p6] p7 :: hds) ((C, fl, no) :: l)
section
variable {X : Cx}
theorem xAll_in {tp : Bool} {Q : VK} {cls : Value} {dx : Option Addr} {H : Hp} : ∀ {l : List Hd3}, xAll tp Q l cls dx H → ∃ q ∈ l, cls = .ref q.1
  | p :: r, h => by
    rcases h with ⟨e, _⟩ | h
    · exact ⟨p, List.mem_cons_self .., e⟩
    · obtain ⟨q, a, b⟩ := xAll_in h
      exact ⟨q, List.mem_cons_of_mem _ a, b⟩
theorem HT.ok {tp : Bool} {en : Str} {i : Nat} (nd : X.N.Nodup) (hi : X.N[i]? = some en) (hl : X.env.kindOf en = some .local) (d3 : (en == ("__debug__" : Str)) = false) (d4 : (en == ("__classdict__" : Str)) = false) {hds : List ExceptHandler} {hs : List Hd3} (h : HT X tp en hds hs) :
    ∃ l, HdsAs X en hds l ∧ ∀ (D : Ends) (σ : L2.St) (H : Hp) (cls : Value) (dx : Option Addr), i < σ.length → xAll tp (fun v H => D.rt v H) hs cls dx H → wAll X.K i D l cls dx σ H := by
  induction h with
  | nil => exact ⟨[], .nil, fun D σ H cls dx _ z => z⟩
  | @tup xc fl no C fI st0 fd j kk p1 p2 p3 p4 p5 p6 p7 hds l ht ec gx d ap r ih =>
    obtain ⟨l', a, b⟩ := ih
    refine ⟨(.ref C, _) :: l', .cons ⟨gx, d, .inl ec.gC⟩ (fun a oe cls d pn hz hf => pss_one (ps_ret (pe_tup (pa_cons pe_str (pa_cons (pe_xf ec.xf ec.no hz hf (pe_var hi (.inl hl) d3 d4)) pa_nil))))) a, fun D σ H cls dx il z => ?_⟩
    rcases z with ⟨rfl, aa, v, rfl, ha, z⟩ | z
    · refine .inl ⟨ec.te, fun b hb => ⟨.ref b, ?_, rfl, rfl, aa, _, v, rfl, ha, ?_, ?_⟩⟩
      · exact List.getElem?_set_self il
      · simp
      · subst ht
        exact ⟨short2, fun l hl => z l hl (fun z => by cases z)⟩
    · obtain ⟨q, hq, rfl⟩ := xAll_in z
      exact .inr ⟨ap q hq, b D σ H _ dx il z⟩
  | @lst xc fl no C fI st0 fd j p1 p2 p3 p4 p5 p6 p7 hds l ht ec gx d ap r ih =>
    obtain ⟨l', a, b⟩ := ih
    refine ⟨(.ref C, _) :: l', .cons ⟨gx, d, .inl ec.gC⟩ (fun a oe cls d pn hz hf => pss_one (ps_ret (pe_lsN (pa_cons pe_str (pa_cons (pe_xf ec.xf ec.no hz hf (pe_var hi (.inl hl) d3 d4)) pa_nil))))) a, fun D σ H cls dx il z => ?_⟩
    rcases z with ⟨rfl, aa, v, rfl, ha, z⟩ | z
    · refine .inl ⟨ec.te, fun b hb => ⟨.ref b, ?_, rfl, rfl, aa, _, v, rfl, ha, ?_, ?_⟩⟩
      · exact List.getElem?_set_self il
      · simp
      · subst ht
        exact ⟨short2, fun l hl nl => z l hl (fun _ => nl)⟩
    · obtain ⟨q, hq, rfl⟩ := xAll_in z
      exact .inr ⟨ap q hq, b D σ H _ dx il z⟩
/-- .. with the value told in a tuple -/
def TToldA (tp : Bool) (hs : List Hd3) (yes : Str) : (XK → Hp → VK → Prop) → Hp → VK → Prop := fun tl H Q =>
  ∃ K : VK, tl (xAll tp Q hs) H K ∧ ∀ v H', K v H' → ∀ l, H' l = none → Q (.ref l) (upd H' l (.tup [.str yes, v]))
theorem told_givesA {Ng : List Str} {tp : Bool} {x a th en yes q : Str} {sg : Scope} {g : Addr} {cdg : Value} {j1 kk : Nat} {p1 p2 p3 p4 p5 p6 p7 p8 p9 : Pos} {h0 : ExceptHandler} {hds : List ExceptHandler} {hs : List Hd3}
    (nd : Ng.Nodup) (hst : ∀ f : Addr, (L2.start Ng [V.ref f]) = [some (.ref f), none, none]) (h1 : Ng[1]? = some th) (h2 : Ng[2]? = some en) (l1 : sg.names.lookup th = some .local) (l2 : sg.names.lookup en = some .local)
    (d1 : (th == ("__debug__" : Str)) = false) (d2 : (th == ("__classdict__" : Str)) = false) (d3 : (en == ("__debug__" : Str)) = false) (d4 : (en == ("__classdict__" : Str)) = false)
    (hh : ∀ (s : Shared) (H : Hp), HT (cxOf C8.CX0 X.prog X.w X.K X.mg X.base Ng x sg g cdg X.A X.stack s H C8.E0).nox tp en (h0 :: hds) hs) :
    LamX.GivesTo X Ng x sg g cdg [.Try [.Assign [.Name th p1] (.Call (.Name a p2) [] [] p3) p4] (h0 :: hds) [] [] p5, .Return (some (.Tuple [.Constant (.str yes) j1 p6, .Name th p7] kk p8)) p9] a q (TToldA tp hs yes) := by
  intro f c' s H0 Q tl act hc h
  obtain ⟨l, hl, hw⟩ := HT.ok (X := (cxOf C8.CX0 X.prog X.w X.K X.mg X.base Ng x sg g cdg X.A X.stack s H0 C8.E0).nox) (i := 2) nd h2 l2 d3 d4 (hh s H0)
  refine ⟨_, pss_cons (ps_try_all (X := (cxOf C8.CX0 X.prog X.w X.K X.mg X.base Ng x sg g cdg X.A X.stack s H0 C8.E0).nox) (i := 2)
      (tb := fun W D σ H => ∃ Ech : XK, (∀ cls d σ' H', Ech cls d H' → σ'.length = Ng.length → W cls d σ' H') ∧ σ[0]? = some (some (.ref f)) ∧ H c' = some (LamX.CodeO c' q) ∧ ∃ K : VK, tl Ech H K ∧ ∀ v H', K v H' → D.nx (σ.set 1 (some v)) H')
      rfl rfl nd h2 l2 (fun W pn xe tk => ?_) hl)
    (pss_one (ps_ret (pe_tup (pa_cons pe_str (pa_cons (pe_var h1 (.inl l1) d1 d2) pa_nil))))), ?_⟩
  · refine ⟨fun pins s' σ H D I h' => ?_⟩
    obtain ⟨Ech, hW, h1', h2', K, h3, h4⟩ := h'
    have hp := act _ pn xe Ech p2 p3 (takes_len tk) hW
    have hq : PSs ((cxOf C8.CX0 X.prog X.w X.K X.mg X.base Ng x sg g cdg X.A X.stack s H0 C8.E0).nox.tr pn xe) [.Assign [.Name th p1] (.Call (.Name a p2) [] [] p3) p4] _ := pss_one (ps_set (i := 1) nd h1 (.inl l1) hp.up)
    exact hq.run pins s' σ H D I ⟨K, ⟨h1', h2', h3⟩, fun v H' z => h4 v H' z⟩
  · rw [hst f]
    obtain ⟨K, h3, h4⟩ := h
    have n3 : Ng.length = 3 := by
      have := congrArg List.length (hst 0)
      simp [L2.start] at this
      omega
    refine ⟨xAll tp Q hs, fun cls dx σ' H' z len => hw _ σ' H' cls dx (by omega) z, rfl, hc, K, h3, fun v H' z => ⟨_, rfl, short2, fun l hl => h4 v H' z l hl⟩⟩
theorem told_givesA2 {Ng : List Str} {tp : Bool} {x a th en yes q : Str} {sg : Scope} {g : Addr} {cdg : Value} {j1 kk : Nat} {p1 p2 p3 p4 p5 p6 p7 p8 p9 : Pos} {h0 : ExceptHandler} {hds : List ExceptHandler} {hs : List Hd3}
    (nd : Ng.Nodup) (hst : ∀ f : Addr, (L2.start Ng [V.ref f]) = [some (.ref f), none, none]) (h1 : Ng[2]? = some th) (h2 : Ng[1]? = some en) (l1 : sg.names.lookup th = some .local) (l2 : sg.names.lookup en = some .local)
    (d1 : (th == ("__debug__" : Str)) = false) (d2 : (th == ("__classdict__" : Str)) = false) (d3 : (en == ("__debug__" : Str)) = false) (d4 : (en == ("__classdict__" : Str)) = false)
    (hh : ∀ (s : Shared) (H : Hp), HT (cxOf C8.CX0 X.prog X.w X.K X.mg X.base Ng x sg g cdg X.A X.stack s H C8.E0).nox tp en (h0 :: hds) hs) :
    LamX.GivesTo X Ng x sg g cdg [.Try [.Assign [.Name th p1] (.Call (.Name a p2) [] [] p3) p4] (h0 :: hds) [] [] p5, .Return (some (.Tuple [.Constant (.str yes) j1 p6, .Name th p7] kk p8)) p9] a q (TToldA tp hs yes) := by
  intro f c' s H0 Q tl act hc h
  obtain ⟨l, hl, hw⟩ := HT.ok (X := (cxOf C8.CX0 X.prog X.w X.K X.mg X.base Ng x sg g cdg X.A X.stack s H0 C8.E0).nox) (i := 1) nd h2 l2 d3 d4 (hh s H0)
  refine ⟨_, pss_cons (ps_try_all (X := (cxOf C8.CX0 X.prog X.w X.K X.mg X.base Ng x sg g cdg X.A X.stack s H0 C8.E0).nox) (i := 1)
      (tb := fun W D σ H => ∃ Ech : XK, (∀ cls d σ' H', Ech cls d H' → σ'.length = Ng.length → W cls d σ' H') ∧ σ[0]? = some (some (.ref f)) ∧ H c' = some (LamX.CodeO c' q) ∧ ∃ K : VK, tl Ech H K ∧ ∀ v H', K v H' → D.nx (σ.set 2 (some v)) H')
      rfl rfl nd h2 l2 (fun W pn xe tk => ?_) hl)
    (pss_one (ps_ret (pe_tup (pa_cons pe_str (pa_cons (pe_var h1 (.inl l1) d1 d2) pa_nil))))), ?_⟩
  · refine ⟨fun pins s' σ H D I h' => ?_⟩
    obtain ⟨Ech, hW, h1', h2', K, h3, h4⟩ := h'
    have hp := act _ pn xe Ech p2 p3 (takes_len tk) hW
    have hq : PSs ((cxOf C8.CX0 X.prog X.w X.K X.mg X.base Ng x sg g cdg X.A X.stack s H0 C8.E0).nox.tr pn xe) [.Assign [.Name th p1] (.Call (.Name a p2) [] [] p3) p4] _ := pss_one (ps_set (i := 2) nd h1 (.inl l1) hp.up)
    exact hq.run pins s' σ H D I ⟨K, ⟨h1', h2', h3⟩, fun v H' z => h4 v H' z⟩
  · rw [hst f]
    obtain ⟨K, h3, h4⟩ := h
    have n3 : Ng.length = 3 := by
      have := congrArg List.length (hst 0)
      simp [L2.start] at this
      omega
    refine ⟨xAll tp Q hs, fun cls dx σ' H' z len => hw _ σ' H' cls dx (by omega) z, rfl, hc, K, h3, fun v H' z => ⟨_, rfl, short2, fun l hl => h4 v H' z l hl⟩⟩
end
end Ld

namespace Ld
open PySem PySem.Spec PyProof.Rows L2
open Lw hiding Dv DvAll FreshB tData tDatas pd_int pd_bl pd_non pd_str pd_neg pd_pow pda_nil pda_cons pd_tup pd_lst pd_dct dv_cut dv_cat tup_at rRepr call_repr rIsD call_isD
/-! ### told: try: call(); except C as e: return [no, e.field]; ..; return [yes] -/
def TToldB (tp : Bool) (hs : List Hd3) (yes : Str) : (XK → Hp → VK → Prop) → Hp → VK → Prop := fun tl H Q =>
  ∃ K : VK, tl (xAll tp Q hs) H K ∧ ∀ v H', K v H' → ∀ l, H' l = none → l ≠ sysModules → Q (.ref l) (upd H' l (.lst [.str yes]))
theorem told_givesB {X : Cx} {Ng : List Str} {tp : Bool} {x a en yes q : Str} {sg : Scope} {g : Addr} {cdg : Value} {j1 : Nat} {p2 p3 p4 p5 p6 p8 p9 : Pos} {h0 : ExceptHandler} {hds : List ExceptHandler} {hs : List Hd3}
    (nd : Ng.Nodup) (hst : ∀ f : Addr, (L2.start Ng [V.ref f]) = [some (.ref f), none]) (h2 : Ng[1]? = some en) (l2 : sg.names.lookup en = some .local)
    (d3 : (en == ("__debug__" : Str)) = false) (d4 : (en == ("__classdict__" : Str)) = false)
    (hh : ∀ (s : Shared) (H : Hp), HT (cxOf C8.CX0 X.prog X.w X.K X.mg X.base Ng x sg g cdg X.A X.stack s H C8.E0).nox tp en (h0 :: hds) hs) :
    LamX.GivesTo X Ng x sg g cdg [.Try [.Expr (.Call (.Name a p2) [] [] p3) p4] (h0 :: hds) [] [] p5, .Return (some (.List [.Constant (.str yes) j1 p6] p8)) p9] a q (TToldB tp hs yes) := by
  intro f c' s H0 Q tl act hc h
  obtain ⟨l, hl, hw⟩ := HT.ok (X := (cxOf C8.CX0 X.prog X.w X.K X.mg X.base Ng x sg g cdg X.A X.stack s H0 C8.E0).nox) (i := 1) nd h2 l2 d3 d4 (hh s H0)
  refine ⟨_, pss_cons (ps_try_all (X := (cxOf C8.CX0 X.prog X.w X.K X.mg X.base Ng x sg g cdg X.A X.stack s H0 C8.E0).nox) (i := 1)
      (tb := fun W D σ H => ∃ Ech : XK, (∀ cls d σ' H', Ech cls d H' → σ'.length = Ng.length → W cls d σ' H') ∧ σ[0]? = some (some (.ref f)) ∧ H c' = some (LamX.CodeO c' q) ∧ ∃ K : VK, tl Ech H K ∧ ∀ v H', K v H' → D.nx σ H')
      rfl rfl nd h2 l2 (fun W pn xe tk => ?_) hl)
    (pss_one (ps_ret (pe_lsN (pa_cons pe_str pa_nil)))), ?_⟩
  · refine ⟨fun pins s' σ H D I h' => ?_⟩
    obtain ⟨Ech, hW, h1', h2', K, h3, h4⟩ := h'
    have hp := act _ pn xe Ech p2 p3 (takes_len tk) hW
    have hq : PSs ((cxOf C8.CX0 X.prog X.w X.K X.mg X.base Ng x sg g cdg X.A X.stack s H0 C8.E0).nox.tr pn xe) [.Expr (.Call (.Name a p2) [] [] p3) p4] _ := pss_one (ps_expr hp.up)
    exact hq.run pins s' σ H D I ⟨K, ⟨h1', h2', h3⟩, fun v H' z => h4 v H' z⟩
  · rw [hst f]
    obtain ⟨K, h3, h4⟩ := h
    have n3 : Ng.length = 2 := by
      have := congrArg List.length (hst 0)
      simp [L2.start] at this
      omega
    refine ⟨xAll tp Q hs, fun cls dx σ' H' z len => hw _ σ' H' cls dx (by omega) z, rfl, hc, K, h3, fun v H' z => ⟨by show 1 ≤ sizeLine; decide, fun l hl nl => h4 v H' z l hl nl⟩⟩
/-! ### by data -/
def mkP (tp : Bool) (xs : List PyData) : PyData := match tp with
  | true => .tuple xs
  | false => .list xs
abbrev Hc3 := Str × Str × Str
def toldX (tp : Bool) (R : RD) : List Hc3 → XD
  | [] => fun _ => False
  | p :: r => fun x => (∃ d, x = (p.1, [(p.2.1, d)]) ∧ R (mkP tp [.str p.2.2, d])) ∨ toldX tp R r x
def dToldA (tp : Bool) (cs : List Hc3) (yes : Str) (t : TD) : TD := fun ρ R _ => t ρ (fun d => R (.tuple [.str yes, d])) (toldX tp R cs)
def dToldB (tp : Bool) (cs : List Hc3) (yes : Str) (t : TD) : TD := fun ρ R _ => t ρ (fun _ => R (.list [.str yes])) (toldX tp R cs)
inductive HsC (mg : Str → Option Value) : List Hd3 → List Hc3 → Prop
  | nil : HsC mg [] []
  | cons {C : Addr} {c fl no : Str} {hs : List Hd3} {cs : List Hc3} (h : mg c = some (.ref C)) (r : HsC mg hs cs) : HsC mg ((C, fl, no) :: hs) ((c, fl, no) :: cs)
section
variable {Sy : Md} {X : Cx} {E : L2.St → XK} {e : Expr} {t : TD}
theorem toldX_at {tp : Bool} {R : RD} {Q : VK} {N : Bn} {H : Hp} {cls : Value} {dx : Option Addr} {x : _} {hs : List Hd3} {cs : List Hc3} (hc : HsC X.mg hs cs) (h : toldX tp R cs x) (hx : ExAt X.mg N H cls dx x)
    (new : ∀ {no : Str} {v : V} {d : PyData} {l : Addr}, Dv N H v d → H l = none → (tp = false → l ≠ sysModules) → R (mkP tp [.str no, d]) → Q (.ref l) (upd H l (mkO tp [.str no, v]))) : xAll tp Q hs cls dx H := by
  induction hc with
  | nil => exact h.elim
  | @cons C c fl no hs cs hm r ih =>
    rcases h with ⟨d, rfl, h⟩ | h
    · obtain ⟨C', g1, g2, a, v, g3, g4, g5⟩ := hx
      have g1 : X.mg c = some (.ref C') := g1
      rw [hm] at g1
      cases g1
      exact .inl ⟨g2, a, v, g3, g4, fun l hl nl => new g5 hl nl h⟩
    · exact .inr (ih h)
theorem d_toldA {tp : Bool} {hs : List Hd3} {cs : List Hc3} {yes : Str} (hne : Sy.T ≠ []) (hC : HsC X.mg hs cs) (h : PE X e (LamX.tLam Sy.T (TToldA tp hs yes) (fun Ek => LE Sy X (fun _ => Ek) t))) : PE X e (LE Sy X E (dToldA tp cs yes t)) := h.weak fun σ H Q ⟨w, N, O, F, ρ, R, Ex, en, ht, q, qx⟩ => by
  have tb := en.ok.tb
  have tt : w.T = Sy.T := en.ok.tt
  refine ⟨tt ▸ tb, fun H1 eN T1 => ?_⟩
  have s1 : Stp w H H1 := ⟨fun b u _ m z => eN b u z m, fun b xs z => eN b _ z (fun ps z => by cases z), fun p _ ⟨x, m, y, z, r⟩ => ⟨x, m, y, eN _ _ z lst_ne, r⟩, fun _ => tt ▸ T1, fun ht b u n z => by
    exact absurd (tt.symm.trans ht) hne⟩
  have en1 := en.step s1
  refine ⟨fun v H' => ∃ d, R (.tuple [.str yes, d]) ∧ Stp w H1 H' ∧ Dv N H' v d, ⟨w, N, O, F, ρ, _, _, en1, ht, fun d v H' r s2 dv => ⟨d, r, s2, dv⟩, fun x cls dx H' hx s2 hh => toldX_at hC hx hh fun {no v d l} dv hl nl r => ?_⟩, fun v H' ⟨d, r, s2, dv⟩ l hl => ?_⟩
  · have s3 := same_new hl (mkO tp [.str no, v])
    refine q _ _ _ r ((s1.trans s2).trans (.of s3)) ?_
    cases tp with
    | true => exact .tup (.of upd_same) (.cons (.str _) (.cons (dv.same s3) .nil))
    | false => exact .lst ((en1.step s2).ok.fr l hl (nl rfl)) upd_same (.cons (.str _) (.cons (dv.same s3) .nil))
  · have s3 := same_new hl (.tup [.str yes, v])
    exact q _ _ _ r ((s1.trans s2).trans (.of s3)) (.tup (.of upd_same) (.cons (.str _) (.cons (dv.same s3) .nil)))
theorem d_toldB {tp : Bool} {hs : List Hd3} {cs : List Hc3} {yes : Str} (hne : Sy.T ≠ []) (hC : HsC X.mg hs cs) (h : PE X e (LamX.tLam Sy.T (TToldB tp hs yes) (fun Ek => LE Sy X (fun _ => Ek) t))) : PE X e (LE Sy X E (dToldB tp cs yes t)) := h.weak fun σ H Q ⟨w, N, O, F, ρ, R, Ex, en, ht, q, qx⟩ => by
  have tb := en.ok.tb
  have tt : w.T = Sy.T := en.ok.tt
  refine ⟨tt ▸ tb, fun H1 eN T1 => ?_⟩
  have s1 : Stp w H H1 := ⟨fun b u _ m z => eN b u z m, fun b xs z => eN b _ z (fun ps z => by cases z), fun p _ ⟨x, m, y, z, r⟩ => ⟨x, m, y, eN _ _ z lst_ne, r⟩, fun _ => tt ▸ T1, fun ht b u n z => by
    exact absurd (tt.symm.trans ht) hne⟩
  have en1 := en.step s1
  refine ⟨fun v H' => R (.list [.str yes]) ∧ Stp w H1 H', ⟨w, N, O, F, ρ, _, _, en1, ht, fun d v H' r s2 dv => ⟨r, s2⟩, fun x cls dx H' hx s2 hh => toldX_at hC hx hh fun {no v d l} dv hl nl r => ?_⟩, fun v H' ⟨r, s2⟩ l hl nl => ?_⟩
  · have s3 := same_new hl (mkO tp [.str no, v])
    refine q _ _ _ r ((s1.trans s2).trans (.of s3)) ?_
    cases tp with
    | true => exact .tup (.of upd_same) (.cons (.str _) (.cons (dv.same s3) .nil))
    | false => exact .lst ((en1.step s2).ok.fr l hl (nl rfl)) upd_same (.cons (.str _) (.cons (dv.same s3) .nil))
  · have s3 := same_new hl (.lst [.str yes])
    exact q _ _ _ r ((s1.trans s2).trans (.of s3)) (.lst ((en1.step s2).ok.fr l hl nl) upd_same (.cons (.str _) .nil))
/-- told(lambda: body), by data, for any reading of told -/
theorem d_lamT {TT : (XK → Hp → VK → Prop) → Hp → VK → Prop} {td : TD → TD} (dt : PE X e (LamX.tLam Sy.T TT (fun Ek => LE Sy X (fun _ => Ek) t)) → PE X e (LE Sy X E (td t)))
    {x a : Str} {st : Stmt} {Ng : List Str} {cO P : Addr} {k : Nat} {params : Arguments} {body : Expr} {scope : Scope} {p lpos pos : Pos}
    (he : e = .Call (.Name x p) [.Lambda params body scope lpos] [] pos) (D : Dn X.K X.mg x st [a]) (Sg : FnScope Ng [a] (defScope st)) (hNg : Ng[0]? = some a) (hva : Vis (defScope st) a)
    (hG : ∀ (g : Addr) (cdg : Value), LamX.GivesTo X Ng x (defScope st) g cdg (defBody st) a (X.env.qual ++ "<lambda>") TT)
    (hg : Gl X x) (TB : LamX.TabB X.base X.mg cO P) (hcode : X.env.code = .ref cO) (hmT : (P, X.env.qual ++ "<lambda>") ∈ Sy.T) (hu : ∀ q ∈ Sy.T, q.1 = P → q.2 = X.env.qual ++ "<lambda>") (hr : Room (k + 2) X.A) (L : LamX.LamS X.env.scope scope)
    (hdef : defaultsOf params X.env = ([], []))
    (bd : ∀ (qn : Str) (cs : List (Str × Addr)) (m0 m1 m2 : Value), bindArgs (PySem.W.kla_fn "<lambda>" qn params body scope cs m0 m1 m2) ⟨[], []⟩ = pure [])
    (hbody : ∀ (A : Around) (outer : List PySem.Env) (s : Shared) (H : Hp) (Ek : XK) (f c' : Addr), Room k (A.deeper (LamX.lamEnv X scope s.heap.objs.size f c')) →
      PE (LamX.lamCx X A outer s H Ek scope f c') body (LE Sy (LamX.lamCx X A outer s H Ek scope f c') (fun _ => Ek) t))
    (no1 : (x == ("__debug__" : Str)) = false := by decide) (no2 : (a == ("__debug__" : Str)) = false := by decide) (no3 : (a == ("__classdict__" : Str)) = false := by decide) :
    PE X e (LE Sy X E (td t)) := by
  subst he
  obtain ⟨cd, g, oc, od, kV, doc, pm, an, ct, osl, lk, hcg, hk, hm, hb⟩ := D.dc
  exact dt (LamX.pe_lamcall (T := Sy.T) hg hm hk lk hcg hb Sg hNg hva (hG g cd) TB hcode hmT hu hr L hdef bd (fun A outer s H Ek f c' hr2 => hbody A outer s H Ek f c' hr2) no1 no2 no3)
end
end Ld

namespace Ld
open PySem PySem.Spec PyProof.Rows L2
theorem ap_cons {K : PySem.W.Frag} {C : Addr} {p : Hd3} {l : List Hd3} (h : PySem.W.exmOne K (.ref p.1) (.ref C) = some false) (r : ∀ q ∈ l, PySem.W.exmOne K (.ref q.1) (.ref C) = some false) : ∀ q ∈ p :: l, PySem.W.exmOne K (.ref q.1) (.ref C) = some false := fun q hq => by
  rcases List.mem_cons.mp hq with e | e
  · rw [e]
    exact h
  · exact r q e
end Ld

namespace Ld
open PySem PySem.Spec PyProof.Rows L2
open Lw hiding Dv DvAll FreshB tData tDatas pd_int pd_bl pd_non pd_str pd_neg pd_pow pda_nil pda_cons pd_tup pd_lst pd_dct dv_cut dv_cat tup_at rRepr call_repr rIsD call_isD
/-! ### the end of a law that makes lambdas in several defs -/
abbrev Mks := List (Addr × Addr × Str)
def tabsOf (cs : Mks) : List (Addr × Str) := cs.map fun c => c.2
section
variable {P : Program} {w : World} {K : PySem.W.Frag} {mg mb : Str → Option Value} {k : Nat} {fa a : Addr} {s : Shared} {vs : List Value} {ns : List Int} {cs : Mks} {Ps : List Addr}
open Classical in
noncomputable def scriptN (K : PySem.W.Frag) (a : Addr) (Ps : List Addr) (vs : List Value) (ns : List Int) : Hp := fun b =>
  if b ∈ Ps then some (.tbl #[]) else scriptH K a vs ns b
theorem scriptN_tab {b : Addr} (h : b ∈ Ps) : scriptN K a Ps vs ns b = some (.tbl #[]) := if_pos h
theorem scriptN_other {b : Addr} (h : b ∉ Ps) : scriptN K a Ps vs ns b = scriptH K a vs ns b := if_neg h
theorem script_runN (hk : K.In s.heap) (hmain : s.heap.Ns mainGlobals mg) (hbi : s.heap.Ns builtinsNs mb) (hboot : ∀ x : Str, x ≠ "__name__" → mb x = bootBuiltins x) (hlim : s.heap.NoLimit) (hgens : s.gens = #[])
    (hP : ∀ c ∈ cs, s.heap.get? c.2.1 = some { cls := .none, data := .fields #[] }) (nP : ∀ c ∈ cs, K.lookup c.2.1 = none) (hC : ∀ c ∈ cs, PySem.W.CodeHd s.heap c.1 c.2.1)
    (hbm : ∃ (bm : Addr) (ob : Obj), mg "__builtins__" = some (.ref bm) ∧ bm ≠ builtinsNs ∧ s.heap.get? bm = some ob ∧ ob.cls = .type "module" ∧ ob.dict = some builtinsNs ∧ ob.data = .plain)
    (ha : s.heap.get? a = some (scriptO vs)) (hi : IntsAre vs ns) (hl : ns.length ≤ 63) (hr : Room k callerA)
    (F : ∀ base : Heap, K.In base → base.Ns mainGlobals mg → (∀ c ∈ cs, LamX.TabB base mg c.1 c.2.1) → ∃ fd ps, FnG CX0 P w K mg base k fa fd ps (spLawT K (tabsOf cs)) ∧ Binds K fd ps []) :
    codeAny (model P w) callerA (.call (.ref fa) ⟨[.ref a], []⟩) (fun r s' => r = .ok (.ret (.bool true)) ∧ OldK s.heap s'.heap ∧ s'.os = s.os ∧ AllBare s'.gens) s := by
  generalize hPs : cs.map (fun c => c.2.1) = Ps
  have hP' : ∀ p ∈ Ps, s.heap.get? p = some { cls := .none, data := .fields #[] } := fun p hp => by
    rw [← hPs] at hp
    obtain ⟨c, hc, rfl⟩ := List.mem_map.mp hp
    exact hP c hc
  have nP' : ∀ p ∈ Ps, K.lookup p = none := fun p hp => by
    rw [← hPs] at hp
    obtain ⟨c, hc, rfl⟩ := List.mem_map.mp hp
    exact nP c hc
  have inPs : ∀ c ∈ cs, c.2.1 ∈ Ps := fun c hc => by
    rw [← hPs]
    exact List.mem_map_of_mem (f := fun c : Addr × Addr × Str => c.2.1) hc
  have size63 : ns.length ≤ sizeLine := Nat.le_trans hl (by decide)
  have rv : Vals (ns.map V.int) vs := vals_ints hi
  have aP : a ∉ Ps := fun e => by
    rw [hP' a e] at ha
    exact nomatch (congrArg Obj.data (Option.some.inj ha))
  -- what isn't a list's row nor a table's is not told of
  have out : ∀ {b : Addr} {o : Obj}, s.heap.get? b = some o → (∀ us n, o.data ≠ .seq us n) → o.data ≠ .fields #[] → scriptN K a Ps vs ns b = none := fun {b o} e h1 h2 => by
    rw [scriptN_other fun z => by
      rw [hP' b z] at e
      cases e
      exact h2 rfl]
    refine scriptH_other fun c => ?_
    rw [c.1, ha] at e
    cases e
    exact h1 _ _ rfl
  have down : ∀ {b : Addr} {m : Str → Option Value}, s.heap.Ns b m → (hidT s.heap (scriptN K a Ps vs ns)).Ns b m := by
    rintro b m ⟨o, es, n, q, d, r⟩
    exact ⟨o, es, n, hidT_get q (out q (fun us n z => by rw [d] at z; cases z) fun z => by rw [d] at z; cases z), d, r⟩
  have inB : K.In (hidT s.heap (scriptN K a Ps vs ns)) := fun b o q => hidT_get (hk b o q) (by
    rw [scriptN_other fun z => by
      rw [nP' b z] at q
      cases q]
    refine scriptH_other fun c => ?_
    rw [c.1, c.2] at q
    cases q)
  have md : Mod K mg (hidT s.heap (scriptN K a Ps vs ns)) := {
    kin := inB
    glob := down hmain
    blt := ⟨mb, down hbi, hboot⟩
    nolimit := by
      obtain ⟨mc, n1, n2⟩ := hlim
      exact ⟨mc, down n1, n2⟩ }
  have ok : HOk P w (scriptN K a Ps vs ns) s.heap := fun b u q => by
    by_cases hb : b ∈ Ps
    · rw [scriptN_tab hb] at q
      cases q
      exact hP' b hb
    · rw [scriptN_other hb] at q
      obtain ⟨rfl, _, rfl⟩ := scriptH_some q
      exact ⟨ha, by rw [List.length_map]; exact size63, vs, _, rv, ha⟩
  have e0 : Env0 P w K mg (hidT s.heap (scriptN K a Ps vs ns)) callerA [] s (scriptN K a Ps vs ns) := {
    frames := rfl
    mod := md
    bs := fun b o q => of_hidT q
    bsz := Nat.le_of_eq (hidT_size _ _)
    funs := trivial
    frf := fun b hb => nomatch hb
    hok := ok
    bare := .of_eq hgens }
  have sq : SqL K (scriptN K a Ps vs ns) a (ns.map V.int) := by
    cases e : K.lookup a with
    | some o =>
      have q := hk a o e
      rw [ha] at q
      cases q
      exact .inr ⟨_, vs.toArray, _, e, rfl, rfl, rfl, by rw [List.size_toArray, hi.length]; exact size63, by simpa using rv⟩
    | none => exact .inl (.inr ⟨scriptO vs, (scriptN_other aP).trans (if_pos ⟨rfl, e⟩)⟩)
  have TB : ∀ c ∈ cs, LamX.TabB (hidT s.heap (scriptN K a Ps vs ns)) mg c.1 c.2.1 := fun c hc => by
    refine ⟨?_, ?_, fun z => ?_⟩
    · obtain ⟨o, us, file, tf, flags, tg, inF, text, tt, e1, r1, r2, r3, r4, r5, r6, r7, r8, hne⟩ := hC c hc
      refine ⟨o, us, file, tf, flags, tg, inF, text, tt, hidT_get e1 (out e1 (fun vs n z => ?_) fun z => ?_), r1, r2, r3, r4, r5, r6, r7, r8, hne⟩
      · rw [r2] at z
        cases z
      · rw [r2] at z
        cases z
        simp at r3
    · obtain ⟨mo, oo, b1, b2, b3, b4, b5, b6⟩ := hbm
      have nG : mo ≠ mainGlobals := fun z => by
        obtain ⟨o, es, n, e, d, _⟩ := hmain
        rw [z, e] at b3
        cases b3
        rw [d] at b6
        cases b6
      have nQ : mo ≠ c.2.1 := fun z => by
        rw [z, hP c hc] at b3
        cases b3
        cases b6
      refine ⟨mo, oo, b1, b2, nG, nQ, hidT_get b3 (out b3 (fun us n z => ?_) fun z => ?_), b4, b5, b6⟩
      · rw [b6] at z
        cases z
      · rw [b6] at z
        cases z
    · obtain ⟨o, es, n, e, d, _⟩ := hmain
      rw [z, hP c hc] at e
      cases e
      cases d
  obtain ⟨fd, ps, G, hb⟩ := F _ inB (down hmain) TB
  have hsp : spLawT K (tabsOf cs) [.ref a] (scriptN K a Ps vs ns) (fun v _ => v = .bl true) (fun _ _ _ => False) := ⟨a, ns, rfl, sq, hl, fun p hp => by
    obtain ⟨c, hc, rfl⟩ := List.mem_map.mp hp
    exact LamX.TabS.nil (scriptN_tab (inPs c hc)), fun _ => rfl⟩
  have bt := hb s [.ref a] hk (by rw [List.append_nil]; exact G.len _ _ _ _ hsp)
  rw [List.append_nil] at bt
  refine codeAny_mono (G.run callerA hr rfl [] s _ e0 _ [.ref a] [.ref a] bt (.cons rfl .nil) _ _ hsp) ?_
  rintro (er | (_ | _ | _ | u)) s' z
  · exact z.elim
  · exact z.elim
  · exact z.elim
  · exact z.elim
  · obtain ⟨v, H', os, bare, un, ok', r', q⟩ := z
    cases (show v = .bl true from q)
    cases (show u = Value.bool true from r')
    have key : ∀ b o, b ∉ Ps → s.heap.get? b = some o → s'.heap.get? b = some o := fun b o nb q => by
      cases e : scriptH K a vs ns b with
      | none => exact un.keep b o q ((scriptN_other nb).trans e) (fun z => nomatch z) (fun z => nomatch z)
      | some u =>
        have e2 := (scriptN_other nb).trans e
        obtain ⟨rfl, _, rfl⟩ := scriptH_some e
        obtain ⟨now, _⟩ := ok' b _ (un.frzs b _ _ e2)
        rw [ha] at q
        cases q
        exact now
    have tab : ∀ b ∈ Ps, ∃ more, s'.heap.get? b = some { cls := .none, data := .fields (#[] ++ more) } := fun b hb => by
      obtain ⟨more, hm⟩ := un.tbls b #[] (scriptN_tab hb)
      exact ⟨more, ok' b _ hm⟩
    refine ⟨rfl, ⟨fun u z e => ?_, fun u z e => ?_⟩, os, bare⟩
    · by_cases hb : u ∈ Ps
      · obtain ⟨more, hm2⟩ := tab u hb
        rw [hP' u hb] at e
        cases e
        rw [← hPs] at hb
        obtain ⟨c, hc, rfl⟩ := List.mem_map.mp hb
        exact .inr (.inl ⟨((hC c hc).tab (hP c hc)).isCodeTable, rfl, #[], _, rfl, hm2⟩)
      · exact .inl (key u z hb e)
    · by_cases hb : u ∈ Ps
      · obtain ⟨more, hm2⟩ := tab u hb
        exact ⟨_, hm2⟩
      · exact ⟨z, key u z hb e⟩
/-- the law's end: the code objects and tables of the defs that make lambdas -/
theorem walk_lawN {l : PySem.W.OpenLaw} {k : Nat} {pr : Program} {loose : List Str} {XP : (Str → Option Value) → Heap → Prop} {YP : World → Heap → Prop} {d : DefRec} {K : Params → PySem.W.Frag}
    (hn : l.most = some 63) (hdf : d.params.defaults = []) (hr : Room k callerA) (hY : ∀ (w : World) (h : Heap), YP w h → (K w.params).In h)
    (F : ∀ (w : World) (mg : Str → Option Value) (h : Heap), YP w h → (K w.params).In h → h.Ns mainGlobals mg → ∃ cs : Mks, (∀ c ∈ cs, h.get? c.2.1 = some { cls := .none, data := .fields #[] }) ∧ (∀ c ∈ cs, (K w.params).lookup c.2.1 = none) ∧ (∀ c ∈ cs, PySem.W.CodeHd h c.1 c.2.1) ∧
      ∀ base : Heap, (K w.params).In base → base.Ns mainGlobals mg → (∀ c ∈ cs, LamX.TabB base mg c.1 c.2.1) → Cl CX0 l.prog w (K w.params) mg base k d.name (spLawT (K w.params) (tabsOf cs))) :
    PySem.W.WalkO pr loose XP YP l.row.toRowW d [] (fun f vs => PySem.call f vs) := by
  refine Att.attach_call hn hdf fun w s0 s1 mg mb fa o pm cd doc a vs ns G Y ho hd hcd hm hobj hi hl hg => ?_
  obtain ⟨cs, h1, h2, h3, F⟩ := F w mg _ Y (hY w _ Y) G.T.g
  refine script_runN (cs := cs) (hY w _ Y) G.T.g G.T.b G.T.builtins G.T.nolimit hg h1 h2 h3 G.T.bmain hobj hi hl hr fun base b1 b2 b3 => ?_
  obtain ⟨f, fd, ps, FG, mf, _, hb⟩ := (F base b1 b2 b3).ex
  rw [hm] at mf
  cases mf
  exact ⟨fd, ps, FG, hb⟩
end
end Ld

namespace Ld
theorem al_nil {α : Type} {p : α → Prop} : ∀ c ∈ ([] : List α), p c := fun _ h => absurd h List.not_mem_nil
theorem al_cons {α : Type} {p : α → Prop} {x : α} {l : List α} (h : p x) (r : ∀ c ∈ l, p c) : ∀ c ∈ x :: l, p c := fun c hc => by
  rcases List.mem_cons.mp hc with e | e
  · rw [e]
    exact h
  · exact r c e
end Ld
namespace Ld
open PySem
theorem hu_nil {P : Addr} {n : Str} : ∀ q ∈ ([] : List (Addr × Str)), q.1 = P → q.2 = n := fun _ h => absurd h List.not_mem_nil
theorem hu_eq {P : Addr} {n : Str} {l : List (Addr × Str)} (r : ∀ q ∈ l, q.1 = P → q.2 = n) : ∀ q ∈ (P, n) :: l, q.1 = P → q.2 = n := fun q hq e => by
  rcases List.mem_cons.mp hq with z | z
  · rw [z]
  · exact r q z e
theorem hu_ne {P P' : Addr} {n n' : Str} {l : List (Addr × Str)} (h : P' ≠ P) (r : ∀ q ∈ l, q.1 = P → q.2 = n) : ∀ q ∈ (P', n') :: l, q.1 = P → q.2 = n := fun q hq e => by
  rcases List.mem_cons.mp hq with z | z
  · rw [z] at e
    exact absurd e h
  · exact r q z e
end Ld

namespace Ld
open PySem PySem.Spec PyProof.Rows L2 StX
open Lw hiding Dv DvAll FreshB tData tDatas pd_int pd_bl pd_non pd_str pd_neg pd_pow pda_nil pda_cons pd_tup pd_lst pd_dct dv_cut dv_cat tup_at rRepr call_repr rIsD call_isD
/-! ### bits -/
abbrev fAnd := fInt0 fun i j => Builtin.bitAnd i j
abbrev fXor := fInt0 fun i j => Builtin.bitXor i j
abbrev fShr := fInt (fun i j => i / 2 ^ j.toNat) fun _ j => 0 ≤ j
/-! ### displays with stars -/
/-- a row of arguments of any length -/
def LAS (Sy : Md) (X : Cx) (E : L2.St → XK) (t : TAD) : TA := fun σ H Q => ∃ (w : Wx) (N : Bn) (O : Nat → Option Addr) (F : List (V × PyData)) (ρ : Env) (R : List Sv → Prop) (Ex : XD), EnvR (gnd Sy X) w N O F H σ ρ ∧ t ρ R Ex ∧
  (∀ us vs H', R us → Stp w H H' → SvsR w N H' vs us → Q vs H') ∧ (∀ x cls dx H', Ex x → Stp w H H' → ExAt X.mg N H' cls dx x → E σ cls dx H')
def dStar (t : TD) (r : TAD) : TAD := fun ρ R Ex => t ρ (fun d => match d with
  | .tuple ds => r ρ (fun us => R (ds.map Sv.dat ++ us)) Ex
  | .list ds => r ρ (fun us => R (ds.map Sv.dat ++ us)) Ex
  | _ => False) Ex
def dTupS (tr : TAD) : TD := dCB (fun ds R => ds.length ≤ 16000000 ∧ R (.tuple ds)) tr
def dLstS (tr : TAD) : TD := dCB (fun ds R => ds.length ≤ 16000000 ∧ R (.list ds)) tr
section
variable {Sy : Md} {X : Cx} {E : L2.St → XK} {e : Expr} {es : List Expr} {pos p : Pos} {ta : TD} {tr : TAD} {n x1 : Nat}
theorem svs_dats {w : Wx} {N : Bn} {H : Hp} : ∀ {vs : List V} {ds : List PyData} {us : List V} {ss : List Sv}, DvAll N H vs ds → SvsR w N H us ss → SvsR w N H (vs ++ us) (ds.map Sv.dat ++ ss)
  | _, [], us, ss, h, k => by
    cases h
    exact k
  | _, d :: r, us, ss, h, k => by
    cases h with
    | cons a b => exact ⟨a, svs_dats b k⟩
theorem da_any (h : PA X es (LA Sy X E n tr)) : PA X es (LAS Sy X E tr) := h.weak fun σ H Q ⟨w, N, O, F, ρ, R, Ex, en, t, q, qx⟩ => ⟨w, N, O, F, ρ, R, Ex, en, t, fun us vs H' _ r k hv => q us vs H' r k hv, qx⟩
theorem da_consS (h : PE X e (LE Sy X E ta)) (r : PA X es (LAS Sy X E tr)) (hs : starEach (e :: es) X.env = (false, eval e X.env) :: starEach es X.env := by rfl) : PA X (e :: es) (LAS Sy X E (dCons ta tr)) :=
  (pa_cons h r hs).weak fun σ H Q ⟨w, N, O, F, ρ, R, Ex, en, t, q, qx⟩ => by
    refine ⟨w, N, O, F, ρ, _, Ex, en, t, fun x v H1 r1 k1 dx => ?_, qx⟩
    refine ⟨w, N, O, F, ρ, _, Ex, en.step k1, r1, fun us vs H2 r2 k2 hv => ?_, fun x cls dx H' hx k hh => qx x cls dx H' hx (k1.trans k) hh⟩
    exact q (.dat x :: us) (v :: vs) H2 r2 (k1.trans k2) ⟨dv_step dx en.hw k2, hv⟩
theorem da_star (h : PE X e (LE Sy X E ta)) (r : PA X es (LAS Sy X E tr)) (hs : starEach (.Starred e p :: es) X.env = (true, eval e X.env) :: starEach es X.env := by rfl) : PA X (.Starred e p :: es) (LAS Sy X E (dStar ta tr)) :=
  (pa_star h r hs).weak fun σ H Q ⟨w, N, O, F, ρ, R, Ex, en, t, q, qx⟩ => by
    refine ⟨w, N, O, F, ρ, _, Ex, en, t, fun x v H1 r1 k1 dx => ?_, qx⟩
    split at r1
    · rename_i ds
      cases dx with
      | tup ea all =>
        refine ⟨_, _, rfl, .inl ((show N.K = X.K from en.ok.kk) ▸ ea.sq), w, N, O, F, ρ, _, Ex, en.step k1, r1, fun us vs H2 r2 k2 hv => ?_, fun x cls dx H' hx k hh => qx x cls dx H' hx (k1.trans k) hh⟩
        exact q _ _ H2 r2 (k1.trans k2) (svs_dats (dvs_step all en.hw k2) hv)
    · rename_i ds
      cases dx with
      | lst nn ea all =>
        refine ⟨_, _, rfl, .inr (.inl (.of ea)), w, N, O, F, ρ, _, Ex, en.step k1, r1, fun us vs H2 r2 k2 hv => ?_, fun x cls dx H' hx k hh => qx x cls dx H' hx (k1.trans k) hh⟩
        exact q _ _ H2 r2 (k1.trans k2) (svs_dats (dvs_step all en.hw k2) hv)
    · exact r1.elim
theorem d_tupS (h : PA X es (LAS Sy X E tr)) : PE X (.Tuple es x1 pos) (LE Sy X E (dTupS tr)) := (pe_tup h).weak fun σ H Q ⟨w, N, O, F, ρ, R, Ex, en, t, q, qx⟩ => by
  refine ⟨w, N, O, F, ρ, _, Ex, en, t, fun us vs H1 r1 k1 hv => ?_, qx⟩
  split at r1
  · rename_i ds hd
    obtain ⟨all, l2⟩ := dats_all hv hd
    have l3 := all.length
    refine ⟨by rw [sizeLine_eq]; have := r1.1; omega, fun p hp => ?_⟩
    have s := same_new hp (.tup vs)
    exact q _ _ _ r1.2 (k1.trans (.of s)) (.tup (.of upd_same) (all.same s))
  · exact r1.elim
theorem d_lstS (h : PA X es (LAS Sy X E tr)) : PE X (.List es pos) (LE Sy X E (dLstS tr)) := (pe_list h).weak fun σ H Q ⟨w, N, O, F, ρ, R, Ex, en, t, q, qx⟩ => by
  refine ⟨w, N, O, F, ρ, _, Ex, en, t, fun us vs H1 r1 k1 hv => ?_, qx⟩
  split at r1
  · rename_i ds hd
    obtain ⟨all, l2⟩ := dats_all hv hd
    have l3 := all.length
    refine ⟨by rw [sizeLine_eq]; have := r1.1; omega, fun p hp np => ?_⟩
    have s := same_new hp (.lst vs)
    exact q _ _ _ r1.2 (k1.trans (.of s)) (.lst ((en.step k1).ok.fr p hp np) upd_same (all.same s))
  · exact r1.elim
end
end Ld

namespace Ld
open PySem PySem.Spec PyProof.Rows L2 StX
open Lw hiding Dv DvAll FreshB tData tDatas pd_int pd_bl pd_non pd_str pd_neg pd_pow pda_nil pda_cons pd_tup pd_lst pd_dct dv_cut dv_cat tup_at rRepr call_repr rIsD call_isD
/-! ### x in a tuple or list of flat values -/
def vOf : PyData → V
  | .int i => .int i
  | .str x => .str x
  | .bool b => .bl b
  | _ => .non
def flatD : PyData → Bool
  | .int _ => true
  | .str _ => true
  | .bool _ => true
  | .none => true
  | _ => false
def fInF (neg : Bool) : PyData → PyData → (Bool → Prop) → Prop := fun x y Q => match y with
  | .tuple ds => flatD x = true ∧ ds.all flatD = true ∧ Q (if neg then !inV (vOf x) (ds.map vOf) else inV (vOf x) (ds.map vOf))
  | .list ds => flatD x = true ∧ ds.all flatD = true ∧ Q (if neg then !inV (vOf x) (ds.map vOf) else inV (vOf x) (ds.map vOf))
  | _ => False
section
variable {Sy : Md} {X : Cx} {N : Bn} {H : Hp}
theorem dv_flat {d : PyData} {v : V} (f : flatD d = true) (h : Dv N H v d) : v = vOf d ∧ flatV v = true := by
  cases d with
  | int i => cases h; exact ⟨rfl, rfl⟩
  | str x => cases h; exact ⟨rfl, rfl⟩
  | bool b => cases h; exact ⟨rfl, rfl⟩
  | none => cases h; exact ⟨rfl, rfl⟩
  | list _ => cases f
  | tuple _ => cases f
  | dict _ => cases f
theorem dvs_flat : ∀ {ds : List PyData} {vs : List V}, ds.all flatD = true → DvAll N H vs ds → vs = ds.map vOf ∧ vs.all flatV = true
  | [], _, _, h => by cases h; exact ⟨rfl, rfl⟩
  | d :: r, _, f, h => by
    rw [List.all_cons, Bool.and_eq_true] at f
    cases h with
    | cons a b =>
      obtain ⟨e1, g1⟩ := dv_flat f.1 a
      obtain ⟨e2, g2⟩ := dvs_flat f.2 b
      exact ⟨by rw [e1, e2]; rfl, by rw [List.all_cons, g1, g2] <;> rfl⟩
theorem cd_inF {neg : Bool} : CmpD X (rIn X.K neg) (fInF neg) := fun N H v u x y R Q h dx dy hK q => by
  unfold fInF at h
  split at h
  · cases dy with
    | tup ea all =>
      obtain ⟨e1, g1⟩ := dv_flat h.1 dx
      obtain ⟨e2, g2⟩ := dvs_flat h.2.1 all
      refine ⟨_, _, rfl, .inr (hK ▸ ea.sq), g1, g2, ?_⟩
      rw [e1, e2]
      exact q _ h.2.2
  · cases dy with
    | lst nn ea all =>
      obtain ⟨e1, g1⟩ := dv_flat h.1 dx
      obtain ⟨e2, g2⟩ := dvs_flat h.2.1 all
      refine ⟨_, _, rfl, .inl (.inl (.of ea)), g1, g2, ?_⟩
      rw [e1, e2]
      exact q _ h.2.2
  · exact h.elim
end
end Ld
namespace Ld
open PySem PySem.Spec PyProof.Rows L2 StX
open Lw hiding Dv DvAll FreshB tData tDatas pd_int pd_bl pd_non pd_str pd_neg pd_pow pda_nil pda_cons pd_tup pd_lst pd_dct dv_cut dv_cat tup_at rRepr call_repr rIsD call_isD
/-! ### a walk over a list or a tuple -/
def iSq (K : PySem.W.Frag) (tl : TE) : TI := fun σ H R => tl σ H fun x H1 => ∃ a, x = .ref a ∧ (((∃ xs, SqL K H1 a xs) ∧ R (Itl K a) H1) ∨ ((∃ xs, SqT K H1 a xs) ∧ R (Itt K a) H1))
def iSqD (t : TD) : ID := fun ρ R Ex => t ρ (fun d => match d with
  | .list ds => R ds
  | .tuple ds => R ds
  | _ => False) Ex
section
variable {Sy : Md} {X : Cx} {E : L2.St → XK} {tg l : Expr} {t : TD}
theorem pi_sq {tl : TE} (hl : PE X l tl) : PI X tg l (iSq X.K tl) := ⟨fun pins s σ H R I h => thn (hl.run pins s σ H _ I h) fun v s1 ⟨x, H1, I1, r1, a, ex, q⟩ => by
  subst ex
  cases r1
  have new : ∀ b, b ∈ [s1.heap.objs.size] → FpOk X pins H1 b := fun b hb => by
    rw [List.mem_singleton.mp hb]
    exact I1.fpOk (Nat.le_refl _) (I1.hok.fresh (Nat.le_refl _))
  rcases q with ⟨⟨xs, hq⟩, q⟩ | ⟨⟨xs, hq⟩, q⟩
  · obtain ⟨its, rv, p, hz⟩ := I1.list hq
    exact wpAny_pyIter_list p.isList ⟨_, [s1.heap.objs.size], _, _, H1, rfl, I1.kept (t' := s1.toks) fun b o e => Heap.get?_push_of_some _ e, turn_list a _, ⟨_, Heap.get?_push_size _ rfl, rfl, rfl⟩, new, q⟩
  · obtain ⟨its, rv, p, hz⟩ := I1.tuple hq
    exact wpAny_pyIter_tuple (show s1.heap.IsTuple a its.toArray from p) ⟨_, [s1.heap.objs.size], _, _, H1, rfl, I1.kept (t' := s1.toks) fun b o e => Heap.get?_push_of_some _ e, turn_tuple a _, ⟨_, Heap.get?_push_size _ rfl, rfl, rfl⟩, new, q⟩⟩
theorem io_sq : IOk Sy X E (iSq X.K (LE Sy X E t)) (iSqD t) := ⟨fun w N O F ρ σ H R Ex Q en h q qx => ⟨w, N, O, F, ρ, _, Ex, en, h, fun d v H1 r k dv => by
  cases dv with
  | @lst a xs ds nn ea all =>
    refine ⟨_, rfl, .inl ⟨⟨_, .of ea⟩, q ds _ [(.ref a, .list ds)] H1 r k (fun p hp => by cases List.mem_singleton.mp hp; exact .lst nn ea all) ⟨fun N2 H2 hK g => ?_, fun N2 H2 i d hK g hd => ?_⟩⟩⟩
    · cases g _ (List.mem_singleton.mpr rfl) with
      | lst _ e2 a2 => exact ⟨_, .of e2, by rw [a2.length]; exact Nat.le_refl _⟩
    · cases g _ (List.mem_singleton.mpr rfl) with
      | lst _ e2 a2 =>
        obtain ⟨x, hx, dx⟩ := a2.get hd
        exact ⟨⟨_, x, .of e2, hx⟩, fun y H' ⟨e, hy⟩ => by
          subst e
          have := hy _ (.of e2)
          rw [hx] at this
          cases this
          exact ⟨.refl _, dx⟩⟩
  | @tup a xs ds ea all =>
    refine ⟨_, rfl, .inr ⟨⟨_, en.ok.kk ▸ ea.sq⟩, q ds _ [(.ref a, .tuple ds)] H1 r k (fun p hp => by cases List.mem_singleton.mp hp; exact .tup ea all) ⟨fun N2 H2 hK g => ?_, fun N2 H2 i d hK g hd => ?_⟩⟩⟩
    · cases g _ (List.mem_singleton.mpr rfl) with
      | tup e2 a2 => exact ⟨_, hK ▸ e2.sq, by rw [a2.length]; exact Nat.le_refl _⟩
    · cases g _ (List.mem_singleton.mpr rfl) with
      | tup e2 a2 =>
        obtain ⟨x, hx, dx⟩ := a2.get hd
        exact ⟨⟨_, x, hK ▸ e2.sq, hx⟩, fun y H' ⟨e, hy⟩ => by
          subst e
          have := hy _ (hK ▸ e2.sq)
          rw [hx] at this
          cases this
          exact ⟨.refl _, dx⟩⟩
  | _ => exact r.elim, qx⟩⟩
end
end Ld
namespace Ld
open PySem PySem.Spec PyProof.Rows L2 StX
open Lw hiding Dv DvAll FreshB tData tDatas pd_int pd_bl pd_non pd_str pd_neg pd_pow pda_nil pda_cons pd_tup pd_lst pd_dct dv_cut dv_cat tup_at rRepr call_repr rIsD call_isD
section
variable {X : Cx} {E : L2.St → XK} {st : Stmt} {wi wi1 : TI} {ti ti1 : ID} {g g1 : TG} {gd gd1 : GD} {tt tt1 : TTD} {te : TD} {sl vs sl1 vs1 : List Nat} {Tz : List (Addr × Str)} {mz : Bool}
theorem ds_setLc2 {i : Nat} (hi : IOk ⟨false, Tz, mz⟩ X E wi ti) (hg : GOk X.K g gd sl) (hi1 : IOk ⟨false, Tz, mz⟩ X EX0 wi1 ti1) (hg1 : GOk X.K g1 gd1 sl1) (h : PS X st (tAsg (tLc2 wi g (LT ⟨false, Tz, mz⟩ X EX0 tt) wi1 g1 (LT ⟨false, Tz, mz⟩ X EX0 tt1) (LE ⟨false, Tz, mz⟩ X EX0 te) vs vs1) (gName i)))
    (hs : ∀ i ∈ sl, i ∈ vs := by decide) (hs1 : ∀ i ∈ sl1, i ∈ vs1 := by decide) : PS X st (LS ⟨false, Tz, mz⟩ X E (sSet i (dLc2 ti vs gd tt ti1 vs1 gd1 tt1 te))) := h.weak fun D σ H ⟨w, N0, H0, N, O, F, ρ, DD, b, h, k⟩ =>
  lc2_in (Y := X) rfl rfl hi hg hs hi1 hg1 hs1 b.e h (fun d v H' r s dv => k.nx _ _ H' _ _ r ((b.step s).put i dv)) fun x cls dx H' hx s hh => k.ex N O H' σ ρ x cls dx hx (b.step s) hh
end
end Ld
namespace Ld
open PySem PySem.Spec PyProof.Rows L2 StX
open Lw hiding Dv DvAll FreshB tData tDatas pd_int pd_bl pd_non pd_str pd_neg pd_pow pda_nil pda_cons pd_tup pd_lst pd_dct dv_cut dv_cat tup_at rRepr call_repr rIsD call_isD
/-- a < b < c, tested -/
def dChainT (f g : PyData → PyData → (Bool → Prop) → Prop) (ta tb tc : TD) : TTD := fun ρ R Ex => ta ρ (fun x => tb ρ (fun y => f x y fun b => if b = true then tc ρ (fun z => g y z R) Ex else R false) Ex) Ex
section
variable {Sy : Md} {X : Cx} {E : L2.St → XK} {e : Expr} {ta tb tc : TD}
theorem dt_chain {r r' : R2} {f g : PyData → PyData → (Bool → Prop) → Prop} (h : PT X e (tTest (tChain r r' (LE Sy X E ta) (LE Sy X E tb) (LE Sy X E tc)))) (o : CmpD X r f) (o' : CmpD X r' g) : PT X e (LT Sy X E (dChainT f g ta tb tc)) := h.weak fun σ H Q ⟨w, N, O, F, ρ, R, Ex, en, t, q, qx⟩ => by
  refine ⟨w, N, O, F, ρ, _, Ex, en, t, fun x v H1 r1 k1 dx => ?_, qx⟩
  have en1 := en.step k1
  refine ⟨w, N, O, F, ρ, _, Ex, en1, r1, fun y u H2 r2 k2 dy => ?_, fun x cls dx H' hx k hh => qx x cls dx H' hx (k1.trans k) hh⟩
  have en2 := en1.step k2
  refine o N H2 v u x y _ _ r2 (dv_step dx en.hw k2) dy en2.ok.kk fun b hb => ⟨b, rfl, ?_⟩
  cases b with
  | false => exact ⟨_, rfl, q _ H2 hb (k1.trans k2)⟩
  | true =>
    refine ⟨w, N, O, F, ρ, _, Ex, en2, hb, fun z s H3 r3 k3 dz => ?_, fun x cls dx H' hx k hh => qx x cls dx H' hx ((k1.trans k2).trans k) hh⟩
    exact o' N H3 u s y z _ _ r3 (dv_step dy en.hw k3) dz en2.ok.kk fun b hb => ⟨_, rfl, q _ H3 hb ((k1.trans k2).trans k3)⟩
end
end Ld

namespace Ld
open PySem PySem.Spec PyProof.Rows L2
open Lw hiding Dv DvAll FreshB tData tDatas pd_int pd_bl pd_non pd_str pd_neg pd_pow pda_nil pda_cons pd_tup pd_lst pd_dct dv_cut dv_cat tup_at rRepr call_repr rIsD call_isD
/-! ### x, k = [], 48 : a list of the def's own beside a number -/
def sOwnC (i j : Nat) (z : Int) : TSD := fun D ρ => D.nx (putD (putD ρ i (some (.own []))) j (some (.dat (.int z))))
section
variable {Sy : Md} {X : Cx} {E : L2.St → XK} {st : Stmt} {i j : Nat} {z : Int}
theorem ds_ownC (h : PS X st (tPar i j (tCons (tLsN tNil) (tCons (tC (.int z)) tNil)))) : PS X st (LS Sy X E (sOwnC i j z)) := h.weak fun D σ H ⟨w, N0, H0, N, O, F, ρ, DD, b, h, k⟩ => by
  refine ⟨Nat.zero_le _, fun p hp np => ⟨_, _, rfl, ?_⟩⟩
  exact k.nx _ _ _ _ _ h ((b.own i hp np .nil).put j (.int _))
theorem ds_ownCc (h : PS X st (tAsg (tTup (tCons (tLsN tNil) (tCons (tC (.int z)) tNil))) (gTup X.K 2 (gCons (gName i) (gCons (gName j) gNil))))) : PS X st (LS Sy X E (sOwnC i j z)) := h.weak fun D σ H ⟨w, N0, H0, N, O, F, ρ, DD, b, h, k⟩ => by
  refine ⟨Nat.zero_le _, fun p hp np => ⟨short2, fun r hr => ?_⟩⟩
  refine ⟨_, _, rfl, (Tp.of upd_same).sq, rfl, _, _, rfl, _, _, rfl, rfl, ?_⟩
  exact k.nx _ _ _ _ _ h (((b.own i hp np .nil).put j (.int _)).step (.of (same_new hr _)))
end
end Ld

namespace Ld
open PySem PySem.Spec PyProof.Rows L2
open Lw hiding Dv DvAll FreshB tData tDatas pd_int pd_bl pd_non pd_str pd_neg pd_pow pda_nil pda_cons pd_tup pd_lst pd_dct dv_cut dv_cat tup_at rRepr call_repr rIsD call_isD
/-! ### text.find(sign, k) -/
def dFind (c : Nat) (ta tb : TD) : TD := fun ρ R Ex => ta ρ (fun x => match x with
  | .str a => tb ρ (fun y => match y with
    | .int i => R (.int (Txt.find3 a ⟨#[c]⟩ i))
    | _ => False) Ex
  | _ => False) Ex
section
variable {Sy : Md} {X : Cx} {E : L2.St → XK} {e : Expr} {ta tb : TD} {c : Nat} {z : Str}
theorem d_find (hz : z = ⟨#[c]⟩) (h : PE X e (tBM X.K "str" (fun x xs H Q => ∃ (a b : Str) (i : Int), x = .str a ∧ xs = [.str b, .int i] ∧ Q (.int (Txt.find3 a b i)) H) (LE Sy X E ta) (tCons (tC (.str z)) (tCons (LE Sy X E tb) tNil)))) : PE X e (LE Sy X E (dFind c ta tb)) := h.weak fun σ H Q ⟨w, N, O, F, ρ, R, Ex, en, t, q, qx⟩ => by
  refine ⟨w, N, O, F, ρ, _, Ex, en, t, fun x v H1 r1 k1 dx => ?_, qx⟩
  split at r1
  · rename_i a
    cases dx
    refine ⟨rfl, ?_⟩
    refine ⟨w, N, O, F, ρ, _, Ex, en.step k1, r1, fun y u H2 r2 k2 dy => ?_, fun x cls dx H' hx k hh => qx x cls dx H' hx (k1.trans k) hh⟩
    split at r2
    · cases dy
      exact ⟨a, z, _, rfl, rfl, by rw [hz]; exact q _ _ H2 r2 (k1.trans k2) (.int _)⟩
    · exact r2.elim
  · exact r1.elim
/-! ### text * number -/
def repS (a : Str) (k : Int) : Str := { cps := List.foldl (fun x1 x2 => x1 ++ x2) #[] (List.replicate k.toNat a.cps) }
theorem rep_size (x : Array Nat) : ∀ (n : Nat) (acc : Array Nat), (List.foldl (fun x1 x2 => x1 ++ x2) acc (List.replicate n x)).size = acc.size + n * x.size
  | 0, acc => by simp
  | n + 1, acc => by
    rw [List.replicate_succ, List.foldl_cons, rep_size x n, Array.size_append, Nat.succ_mul]
    omega
theorem rep_list (x : Array Nat) : ∀ (n : Nat) (acc : Array Nat), (List.foldl (fun x1 x2 => x1 ++ x2) acc (List.replicate n x)).toList = acc.toList ++ (List.replicate n x.toList).flatten
  | 0, acc => by simp
  | n + 1, acc => by
    rw [List.replicate_succ, List.foldl_cons, rep_list x n, Array.toList_append, List.replicate_succ, List.flatten_cons, List.append_assoc]
def fRepS : PyData → PyData → RD → Prop := fun x y R => match x, y with
  | .str a, .int k => (2 ≤ k ∧ k ≤ 1000 ∧ 1 ≤ a.length ∧ a.length ≤ 1000) ∧ R (.str (repS a k))
  | _, _ => False
def rRepS : R2 := fun x y H Q => ∃ (a : Str) (k : Int), x = .str a ∧ y = .int k ∧ (2 ≤ k ∧ k ≤ 1000 ∧ 1 ≤ a.length ∧ a.length ≤ 1000) ∧ Q (.str (repS a k)) H
theorem op_repS : OpR X (binaryOp .Mult) rRepS := by
  intro pins s σ H x y v u Q I rx ry h
  obtain ⟨a, k, rfl, rfl, ⟨k0, k1, a0, a1⟩, q⟩ := h
  obtain ⟨t, rfl⟩ := rx
  obtain ⟨t', rfl⟩ := ry
  have hk : ¬ k < 1 := by omega
  have h1 : (k == 1 || a.length == 0) = false := by
    rw [Bool.or_eq_false_iff]
    exact ⟨by rw [beq_eq_false_iff_ne]; omega, by rw [beq_eq_false_iff_ne]; omega⟩
  refine PySem.P.mul_str ?_ (fun _ _ => ?_) (fun _ _ => ?_) ?_
  · rw [Bool.or_eq_false_iff]
    exact ⟨decide_eq_false (by omega), decide_eq_false (by omega)⟩
  · have : (1000 : Int) ≤ (2 ^ 63 - 1) / k := by
      rw [Int.le_ediv_iff_mul_le (by omega)]
      have := Int.mul_le_mul_of_nonneg_left k1 (show (0 : Int) ≤ 1000 by decide)
      omega
    omega
  · have m : a.length * k.toNat ≤ 1000 * 1000 := Nat.mul_le_mul a1 (by omega)
    unfold Builtin.Str.tooLong
    apply decide_eq_false
    have e : sizeLine = 16777216 := sizeLine_eq
    omega
  · rw [if_neg hk, h1, if_neg (by decide)]
    have m : k.toNat * a.cps.size ≤ 1000 * 1000 := Nat.mul_le_mul (by omega) a1
    refine ⟨?_, .str (repS a k), H, I.tok _, ⟨_, rfl⟩, q⟩
    show (List.foldl (fun x1 x2 => x1 ++ x2) #[] (List.replicate k.toNat a.cps)).size ≤ sizeLine
    rw [rep_size, sizeLine_eq]
    simp only [Array.size_empty]
    omega
theorem od_repS : OpD Sy X rRepS fRepS := fun N H v u x y R Q h dx dy fr sn hK sl q => by
  unfold fRepS at h
  split at h
  · cases dx
    cases dy
    exact ⟨_, _, rfl, rfl, h.1, q _ _ H h.2 (.refl _) (.str _)⟩
  · exact h.elim
end
/-! ### texts of data with a dict and no list -/
mutual
def noK : PyData → Bool
  | .list _ => false
  | .tuple ds => noKs ds
  | _ => true
def noKs : List PyData → Bool
  | [] => true
  | d :: r => noK d && noKs r
end
section
variable {X : Cx} {pins : List (Addr × Obj)} {σ : L2.St} {H : Hp} {s : Shared}
mutual
theorem Dv.readsK (I : Inv X pins σ H s) {N : Bn} (hK : N.K = X.K) : ∀ (d : PyData) (v : V) (u : Value), noK d = true → Dv N H v d → RelV v u → ∃ as, Reads s.heap u d as ∧ ∀ a ∈ as, a ≠ sysModules
  | .none, _, _, _, h, r => by
    cases h
    cases r
    exact ⟨_, Reads.none, fun _ z => nomatch z⟩
  | .bool b, _, _, _, h, r => by
    cases h
    cases r
    exact ⟨_, Reads.bool b, fun _ z => nomatch z⟩
  | .int i, _, _, _, h, r => by
    cases h
    obtain ⟨t, rfl⟩ := r
    exact ⟨_, Reads.int i t, fun _ z => nomatch z⟩
  | .str x, _, _, _, h, r => by
    cases h
    obtain ⟨t, rfl⟩ := r
    exact ⟨_, Reads.str x t, fun _ z => nomatch z⟩
  | .list ds, _, _, nk, _, _ => by cases nk
  | .tuple ds, _, _, nk, h, r => by
    cases h with
    | tup e ha =>
      cases r
      obtain ⟨its, rv, ⟨o, ho, hc, k, hd⟩, z⟩ := I.tuple (hK ▸ e.sq)
      obtain ⟨as, hr, na⟩ := DvAll.readsK I hK ds _ its nk ha rv
      exact ⟨_, Reads.tuple ho hc hd hr, na⟩
  | .dict _, _, _, _, h, r => by
    cases h with
    | dct n e =>
      cases r
      obtain ⟨z, nsys, vs, rv, o, es, ep, ho, hex, hdat, hkey, hes, _⟩ := (show ObjOk X.prog X.w H s.heap _ (.dK []) from I.hok _ _ e)
      cases rv
      have he : es.toList = [] := by
        revert hes
        generalize es.toList = l
        intro hes
        cases hes
        rfl
      refine ⟨_, Reads.dict ho hex.1 hdat (as := []) (bs := []) ?_ ?_, fun b hb => ?_⟩
      · rw [he]
        exact .nil
      · rw [he]
        exact .nil
      · simp at hb
        subst hb
        intro z
        rw [z] at nsys
        cases nsys
theorem DvAll.readsK (I : Inv X pins σ H s) {N : Bn} (hK : N.K = X.K) : ∀ (ds : List PyData) (vs : List V) (us : List Value), noKs ds = true → DvAll N H vs ds → Vals vs us → ∃ as, ReadsAll s.heap us ds as ∧ ∀ a ∈ as, a ≠ sysModules
  | [], _, _, _, h, r => by
    cases h
    cases r
    exact ⟨_, .nil, fun _ z => nomatch z⟩
  | d :: ds, _, _, nk, h, r => by
    cases h with
    | cons h1 h2 =>
      cases r with
      | cons r1 r2 =>
        obtain ⟨n1, n2⟩ := Bool.and_eq_true_iff.mp (show (noK d && noKs ds) = true from nk)
        obtain ⟨as, q1, m1⟩ := Dv.readsK I hK d _ _ n1 h1 r1
        obtain ⟨bs, q2, m2⟩ := DvAll.readsK I hK ds _ _ n2 h2 r2
        refine ⟨_, .cons q1 q2, fun b hb => ?_⟩
        rcases List.mem_append.mp hb with hb | hb
        · exact m1 b hb
        · exact m2 b hb
end
end
def rReprK (K : PySem.W.Frag) : List V → Hp → VK → Prop := fun xs H Q => ∃ (N : Bn) (v : V) (d : PyData), N.K = K ∧ xs = [v] ∧ Dv N H v d ∧ shows d ∧ (d.hasDict = false ∨ noK d = true) ∧ Q (.str d.shown) H
theorem call_reprK {X : Cx} {k : Nat} (hr : Room k X.A) (hG : X.A.guards = some []) : CallR X (.builtin "repr") (rReprK X.K) := by
  intro pins s σ H xs us Q I r h
  obtain ⟨N, v, d, hK, rfl, hd, hs, hn, q⟩ := h
  rcases hn with hn | hn
  · exact call_repr hr hG pins s σ H _ us Q I r ⟨N, v, d, hK, rfl, hd, ⟨hs.1, hs.2.1, hs.2.2, fun z => by rw [hn] at z; cases z⟩, q⟩
  · obtain ⟨u, rfl, rx⟩ := vals1 r
    have units := hr.un
    obtain ⟨as, rd, na⟩ := Dv.readsK I hK d v u hn hd rx
    have ref : ∀ a, u = .ref a → wpAny (model X.prog X.w) X.A (call (.builtin "repr") [u]) (EP X pins σ Q) X.xe s := fun a e => by
      subst e
      have h2 := hs.2.1
      refine repr_of_reads' rd hs.1 (fun z m => na _ m rfl) hG (by omega) (fun _ _ q => q) (fun h' u' tk k => ?_) hs.2.2
      exact ⟨.str d.shown, H, I.kept k, ⟨_, rfl⟩, q⟩
    cases hd with
    | non =>
      cases rx
      exact PySem.P.repr_of_none ⟨.str _, H, I.tok _, ⟨_, rfl⟩, q⟩
    | bl b =>
      cases rx
      refine PySem.P.repr_of_bool ⟨.str _, H, I.tok _, ⟨s.toks, ?_⟩, q⟩
      cases b <;> rfl
    | int i =>
      obtain ⟨t, rfl⟩ := rx
      exact PySem.P.repr_of_int (by simpa [PyData.showable] using hs.1) ⟨.str _, H, I.tok _, ⟨_, rfl⟩, q⟩
    | str x =>
      obtain ⟨t, rfl⟩ := rx
      exact PySem.P.repr_of_str ⟨.str _, H, I.tok _, ⟨_, rfl⟩, q⟩ (by simpa [PyData.shown] using hs.2.2)
    | lst n e a => exact ref _ rx
    | tup e a => exact ref _ rx
    | dct n e => exact ref _ rx
def fReprK : List PyData → RD → Prop := fun ds R => match ds with
  | [d] => (d.hasDict = false ∨ noK d = true) ∧ shows d ∧ R (.str d.shown)
  | _ => False
theorem e_reprK {d : PyData} {R : RD} : fReprK [d] R = ((d.hasDict = false ∨ noK d = true) ∧ shows d ∧ R (.str d.shown)) := rfl
theorem bd_reprK {Sy : Md} {X : Cx} : CallD Sy X (rReprK X.K) fReprK := fun N H vs ds R Q h dv fr sn hK sl q => by
  unfold fReprK at h
  split at h
  · cases dv with
    | cons a b =>
      cases b
      exact ⟨N, _, _, hK, rfl, a, h.2.1, h.1, q _ _ H h.2.2 (.refl _) (.str _)⟩
  · exact h.elim
end Ld
namespace Ld
open PySem PySem.Spec PyProof.Rows L2
open Lw hiding Dv DvAll FreshB tData tDatas pd_int pd_bl pd_non pd_str pd_neg pd_pow pda_nil pda_cons pd_tup pd_lst pd_dct dv_cut dv_cat tup_at rRepr call_repr rIsD call_isD
/-! ### a call with no arguments -/
section
variable {X : Cx} {CX : CXT} {g : Bool} {k j : Nat} {x : Str} {sp : Sp} {p pos : Pos} {Sy : Md} {E : L2.St → XK} {e : Expr} {tf : TF}
theorem pe_clQ0 {E : L2.St → XK} (c : Cq g CX X.prog X.w X.K X.mg X.base k x sp) (hr : Room j X.A) (hG : g = true → X.A.guards = some []) (hx : ∀ σ, PassesAt CX X σ (E σ)) (hg : Gl X x) (hk : k ≤ j := by decide)
    (hdb : (x == ("__debug__" : Str)) = false := by decide) :
    PE X (.Call (.Name x p) [] [] pos) (fun σ H Q => sp [] H Q (E σ)) := by
  obtain ⟨f, fd, ps, F, hm, kp, hb⟩ := c.ex
  refine ⟨fun pins s σ H Q I q => wpAny_Call_Name_kw (ld_glob I hg hm (PySem.W.callWith_K0 I.kIn kp ?_) hdb)⟩
  have hl : ([] : List Value).length = ps.length := F.len _ _ _ _ q
  have bt := hb s [] I.kIn (by rw [List.append_nil]; exact hl)
  rw [List.append_nil] at bt
  refine wpAny_call (codeAny_mono (F.run X.A (hr.mono hk) hG X.stack s H I.env0 ⟨[], []⟩ [] [] bt .nil Q (E σ) q) ?_)
  rintro (er | (_ | _ | _ | u)) s' z
  · exact hx σ pins H s er s' I z
  · exact z.elim
  · exact z.elim
  · exact z.elim
  · exact I.after z
theorem d_call0 (h : PE X e (fun σ H Q => spF (gnd Sy X) X.mg 0 tf [] H Q (E σ))) : PE X e (LE Sy X E (dCall tf dNil)) := h.weak fun σ H Q ⟨w, N, O, F, ρ, R, Ex, en, t, q, qx⟩ =>
  ⟨w, N, [], R, Ex, rfl, trivial, en.ok, t, q, qx⟩
end
/-! ### a walk over a text -/
def iTx (t : TD) : ID := fun ρ R Ex => t ρ (fun d => match d with
  | .str x => R (signsD (tl' x))
  | _ => False) Ex
section
variable {Sy : Md} {X : Cx} {E : L2.St → XK} {t : TD}
theorem io_str : IOk Sy X E (iStr (LE Sy X E t)) (iTx t) := ⟨fun w N O F ρ σ H R Ex Q en h q qx => ⟨w, N, O, F, ρ, _, Ex, en, h, fun d v H1 r k dv => by
  split at r
  · rename_i x
    cases dv
    refine ⟨x, rfl, q _ _ [] H1 r k (fun p hp => by cases hp) ⟨fun N2 H2 hK g => ?_, fun N2 H2 i d hK g hd => ?_⟩⟩
    · show x.cps.size ≤ _
      unfold signsD tl'
      simp
    · unfold signsD at hd
      rw [List.getElem?_map] at hd
      cases g1 : (tl' x)[i]? with
      | none => rw [g1] at hd; cases hd
      | some c =>
        rw [g1] at hd
        cases hd
        have gx : x.cps[i]? = some c := by
          rw [← Array.getElem?_toList]
          exact g1
        have lt := (Array.getElem?_eq_some_iff.mp gx).1
        refine ⟨lt, fun y H' ⟨e1, c2, e2, e3⟩ => ?_⟩
        subst e1 e3
        rw [gx] at e2
        cases e2
        exact ⟨.refl _, .str _⟩
  · exact r.elim, qx⟩⟩
end
/-! ### a, b, x, k = "..", "..", [], 0 -/
def sOwnSS (i j l m : Nat) (a b : Str) (z : Int) : TSD := fun D ρ => D.nx (putD (putD (putD (putD ρ i (some (.dat (.str a)))) j (some (.dat (.str b)))) l (some (.own []))) m (some (.dat (.int z))))
section
variable {Sy : Md} {X : Cx} {E : L2.St → XK} {st : Stmt} {i j l m : Nat} {a b : Str} {z : Int}
theorem ds_ownSS (h : PS X st (tAsg (tTup (tCons (tC (.str a)) (tCons (tC (.str b)) (tCons (tLsN tNil) (tCons (tC (.int z)) tNil))))) (gTup X.K 4 (gCons (gName i) (gCons (gName j) (gCons (gName l) (gCons (gName m) gNil))))))) : PS X st (LS Sy X E (sOwnSS i j l m a b z)) := h.weak fun D σ H ⟨w, N0, H0, N, O, F, ρ, DD, b, h, k⟩ => by
  refine ⟨Nat.zero_le _, fun p hp np => ⟨by rw [sizeLine_eq]; show 4 ≤ _; decide, fun r hr => ?_⟩⟩
  refine ⟨_, _, rfl, (Tp.of upd_same).sq, rfl, _, _, rfl, _, _, rfl, _, _, rfl, _, _, rfl, rfl, ?_⟩
  exact k.nx _ _ _ _ _ h (((((b.put i (.str _)).put j (.str _)).own l hp np .nil).put m (.int _)).step (.of (same_new hr _)))
end
end Ld
namespace Ld
open PySem PySem.Spec PyProof.Rows L2 Lw
/-! ### a long comprehension -/
def dLcB (ti : ID) (sl : List Nat) (gd : GD) (tt : TTD) (te : TD) : TD := fun ρ R Ex => ti ρ (fun ds => ds.length ≤ 1000000 ∧ lcD gd tt te (wipeD ρ sl) ds (fun ys => R (.list ys))) Ex
section
variable {Sy : Md} {X Y : Cx} {E : L2.St → XK} {e : Expr} {st : Stmt} {wi : TI} {ti : ID} {g : TG} {gd : GD} {tt : TTD} {te : TD} {sl vs : List Nat}
theorem lc_inB {w : Wx} {N : Bn} {O : Nat → Option Addr} {F : Keep} {ρ : Env} {σ : L2.St} {H : Hp} {R : RD} {Ex : XD} {Q : VK} (hy : Sy.y = false) (hb : gnd Sy Y = gnd Sy X) (hi : IOk Sy X E wi ti) (hg : GOk X.K g gd sl) (hs : ∀ i ∈ sl, i ∈ vs) (en : EnvR (gnd Sy X) w N O F H σ ρ) (h : dLcB ti vs gd tt te ρ R Ex)
    (q : ∀ d v H', R d → Stp w H H' → Dv N H' v d → Q v H') (qx : ∀ x cls dx H', Ex x → Stp w H H' → ExAt X.mg N H' cls dx x → E σ cls dx H') : tLc wi g (LT Sy Y EX0 tt) (LE Sy Y EX0 te) vs σ H Q := by
  refine hi.run w N O F ρ σ H _ Ex _ en h (fun ds J G H1 r s hG fd => ?_) qx
  intro D hD
  obtain ⟨hlen, r⟩ := r
  have en1 := en.step s
  have enG : EnvR (gnd Sy X) w N O (G ++ F) H1 σ ρ := ⟨en1.ok, en1.len, en1.slot, en1.inj, en1.ow, fun p hp => (List.mem_append.mp hp).elim (hG p) (en1.kept p)⟩
  have hw : ¬ w.has D := en1.ok.new hD
  have ho : ∀ i, O i ≠ some D := fun i z => by
    obtain ⟨_, _, u, z2⟩ := en1.ow i D z
    rw [hD] at z2
    cases z2
  -- the invariant
  refine ⟨fun i m H => i + m = ds.length ∧ ∃ acc accD, Stp w H1 H ∧ EnvR (gnd Sy X) w (Bn.add N D) O (G ++ F) H σ ρ ∧ H D = some (.lst acc) ∧ DvAll (Bn.add N D) H acc accD ∧ accD.length ≤ i ∧ lcD gd tt te (wipeD ρ vs) (ds.drop i) (fun ys => R (.list (accD ++ ys))), ⟨ds.length, by omega, [], [], .of (same_new hD _), enG.ban hD, upd_same, .nil, Nat.le_refl 0, by rw [List.drop_zero]; exact r⟩, ?_⟩
  rintro i m H ⟨im, acc, accD, st1, en2, eD, all, al, h⟩
  have live : ∀ p ∈ G, Dv (Bn.add N D) H p.1 p.2 := fun p hp => en2.kept p (List.mem_append_left _ hp)
  cases e : ds.drop i with
  | nil =>
    rw [e] at h
    have ei := drop_end (by omega) e
    subst ei
    refine .inl ⟨fd.stop (Bn.add N D) H en1.ok.kk live, ?_⟩
    have h' : R (.list accD) := by
      have : R (.list (accD ++ [])) := h
      rwa [List.append_nil] at this
    exact q _ _ H h' (s.trans st1) (.lst (en1.ok.sl hy D hD) eD (DvAll.map (N := Bn.add N D) (N' := N) rfl (fun b u n q => ⟨q, fun z => n (.inl z)⟩) (fun _ _ q => q) _ _ all))
  | cons d rest =>
    rw [e] at h
    obtain ⟨e1, e2⟩ := drop_get e
    have il := (List.getElem?_eq_some_iff.mp e1).1
    obtain ⟨g1, g2⟩ := fd.go (Bn.add N D) H i d en1.ok.kk live e1
    refine .inr ⟨g1, _, fun H' z => z, fun x H' hy => ?_⟩
    obtain ⟨s2, dx⟩ := g2 x H' hy
    have s2' : Stp w H H' := .of s2
    have en3 := en2.step s2'
    refine hg.run (gnd Sy X) w (Bn.add N D) O (G ++ F) H' (wipe σ vs) (wipeD ρ vs) x d _ _ rfl (en3.wipe vs) dx h fun O' σ' ρ' hb2 b3 wp _ => ?_
    refine ⟨(wp vs hs).trans (wipe_wipe σ vs vs fun _ z => z), ?_⟩
    refine ⟨w, _, O', G ++ F, ρ', _, _, hb ▸ b3, hb2, fun b H2 hb4 k2 => ?_, fun _ _ _ _ z => z.elim⟩
    have eD2 : H2 D = some (.lst acc) := k2.kp _ _ hw lst_ne (s2'.kp _ _ hw lst_ne eD)
    have all2 : DvAll (Bn.add N D) H2 acc accD := dvs_step (dvs_step all en2.hw s2') en2.hw k2
    have en4 := en3.step k2
    have st2 := (st1.trans s2').trans k2
    cases b with
    | false =>
      exact ⟨m - 1, by omega, by omega, acc, accD, st2, en4, eD2, all2, by omega, by rw [e2]; exact hb4⟩
    | true =>
      refine ⟨w, _, O', G ++ F, ρ', _, _, hb ▸ (b3.step k2), hb4, fun y u H3 hb5 k3 dy => ?_, fun _ _ _ _ z => z.elim⟩
      have eD3 := k3.kp _ _ hw lst_ne eD2
      refine ⟨acc, eD3, by rw [all.length, sizeLine_eq]; omega, m - 1, by omega, by omega, acc ++ [u], accD ++ [y], stp_new (st2.trans k3) (fun u q => by rw [hD] at q; cases q) hw ⟨_, eD3⟩, (en4.step k3).poke (.inr rfl) hw ho eD3, upd_same, ?_, by simp; omega, ?_⟩
      · exact (dvs_poke (dvs_step all2 en2.hw k3) (.inr rfl) eD3).app (.cons (dv_poke dy (.inr rfl) eD3) .nil)
      · rw [e2]
        have : (fun ys => R (.list (accD ++ y :: ys))) = fun ys => R (.list (accD ++ [y] ++ ys)) := by
          funext ys
          simp
        rw [← this]
        exact hb5
theorem d_lcB (hi : IOk ⟨false, Tz, mz⟩ X E wi ti) (hg : GOk X.K g gd sl) (h : PE X e (tLc wi g (LT ⟨false, Tz, mz⟩ X EX0 tt) (LE ⟨false, Tz, mz⟩ X EX0 te) vs)) (hs : ∀ i ∈ sl, i ∈ vs := by decide) : PE X e (LE ⟨false, Tz, mz⟩ X E (dLcB ti vs gd tt te)) := h.weak fun σ H Q ⟨w, N, O, F, ρ, R, Ex, en, t, q, qx⟩ =>
  lc_inB (Y := X) rfl rfl hi hg hs en t (q) qx
end
end Ld

namespace My
open PySem L2 Lw
def topS (i : Nat) : Stmt := PySem.Challenge.pw_planehall_k41_whole_words_and_spots.main.body.getD i (.Pass ⟨0, 0, 0, 0⟩)
def inS (i j : Nat) : Stmt := match topS i with
  | .ClassDef (body := b) .. => b.getD j (.Pass ⟨0, 0, 0, 0⟩)
  | _ => .Pass ⟨0, 0, 0, 0⟩
abbrev s_p__wall : Stmt := topS 1
abbrev N_p__wall : List Str := ["k"]
theorem sc_p__wall : FnScope N_p__wall ["k"] (defScope s_p__wall) := ⟨rfl, rfl, rfl, by decide +kernel, rfl, by decide +kernel, by decide +kernel⟩
abbrev s_p_is_whole : Stmt := topS 7
abbrev N_p_is_whole : List Str := ["value"]
theorem sc_p_is_whole : FnScope N_p_is_whole ["value"] (defScope s_p_is_whole) := ⟨rfl, rfl, rfl, by decide +kernel, rfl, by decide +kernel, by decide +kernel⟩
abbrev s_p_is_fraction : Stmt := topS 8
abbrev N_p_is_fraction : List Str := ["value"]
theorem sc_p_is_fraction : FnScope N_p_is_fraction ["value"] (defScope s_p_is_fraction) := ⟨rfl, rfl, rfl, by decide +kernel, rfl, by decide +kernel, by decide +kernel⟩
abbrev s_p_check_fraction : Stmt := topS 9
abbrev N_p_check_fraction : List Str := ["fraction"]
theorem sc_p_check_fraction : FnScope N_p_check_fraction ["fraction"] (defScope s_p_check_fraction) := ⟨rfl, rfl, rfl, by decide +kernel, rfl, by decide +kernel, by decide +kernel⟩
abbrev s_p_words_of : Stmt := topS 17
abbrev N_p_words_of : List Str := ["text", "words", "at", "end"]
theorem sc_p_words_of : FnScope N_p_words_of ["text"] (defScope s_p_words_of) := ⟨rfl, rfl, rfl, by decide +kernel, rfl, by decide +kernel, by decide +kernel⟩
abbrev s_p_end_at : Stmt := topS 18
abbrev N_p_end_at : List Str := ["text", "at", "end", "signs"]
theorem sc_p_end_at : FnScope N_p_end_at ["text", "at"] (defScope s_p_end_at) := ⟨rfl, rfl, rfl, by decide +kernel, rfl, by decide +kernel, by decide +kernel⟩
abbrev s_p_is_free_name : Stmt := topS 19
abbrev N_p_is_free_name : List Str := ["value", "sign"]
theorem sc_p_is_free_name : FnScope N_p_is_free_name ["value"] (defScope s_p_is_free_name) := ⟨rfl, rfl, rfl, by decide +kernel, rfl, by decide +kernel, by decide +kernel⟩
abbrev s_p_fraction_text : Stmt := topS 20
abbrev N_p_fraction_text : List Str := ["fraction"]
theorem sc_p_fraction_text : FnScope N_p_fraction_text ["fraction"] (defScope s_p_fraction_text) := ⟨rfl, rfl, rfl, by decide +kernel, rfl, by decide +kernel, by decide +kernel⟩
abbrev s_p_plain_text : Stmt := topS 21
abbrev N_p_plain_text : List Str := ["fraction", "top", "bottom"]
theorem sc_p_plain_text : FnScope N_p_plain_text ["fraction"] (defScope s_p_plain_text) := ⟨rfl, rfl, rfl, by decide +kernel, rfl, by decide +kernel, by decide +kernel⟩
abbrev s_l_well : Stmt := topS 23
abbrev N_l_well : List Str := ["_law_script", "_law_lap", "_law_mixed", "_law_cell", "_law_own"]
theorem sc_l_well : FnScope N_l_well ["_law_script", "_law_lap"] (defScope s_l_well) := ⟨rfl, rfl, rfl, by decide +kernel, rfl, by decide +kernel, by decide +kernel⟩
abbrev s_l_draw : Stmt := topS 24
abbrev N_l_draw : List Str := ["_law_well_here", "_law_most", "_law_digit", "_law_seed"]
theorem sc_l_draw : FnScope N_l_draw ["_law_well_here", "_law_most"] (defScope s_l_draw) := ⟨rfl, rfl, rfl, by decide +kernel, rfl, by decide +kernel, by decide +kernel⟩
abbrev s_l_pick : Stmt := topS 25
abbrev N_l_pick : List Str := ["_law_well_here", "_law_some"]
theorem sc_l_pick : FnScope N_l_pick ["_law_well_here", "_law_some"] (defScope s_l_pick) := ⟨rfl, rfl, rfl, by decide +kernel, rfl, by decide +kernel, by decide +kernel⟩
abbrev s_l_shared : Stmt := topS 26
abbrev N_l_shared : List Str := ["_law_one", "_law_two"]
theorem sc_l_shared : FnScope N_l_shared ["_law_one", "_law_two"] (defScope s_l_shared) := ⟨rfl, rfl, rfl, by decide +kernel, rfl, by decide +kernel, by decide +kernel⟩
abbrev s_l_lean : Stmt := topS 27
abbrev N_l_lean : List Str := ["_law_top", "_law_low", "_law_by"]
theorem sc_l_lean : FnScope N_l_lean ["_law_top", "_law_low"] (defScope s_l_lean) := ⟨rfl, rfl, rfl, by decide +kernel, rfl, by decide +kernel, by decide +kernel⟩
abbrev s_l_kept : Stmt := topS 28
abbrev N_l_kept : List Str := []
theorem sc_l_kept : FnScope N_l_kept [] (defScope s_l_kept) := ⟨rfl, rfl, rfl, by decide +kernel, rfl, by decide +kernel, by decide +kernel⟩
abbrev s_l_name : Stmt := topS 29
abbrev N_l_name : List Str := ["_law_well_here", "_law_az", "_law_found", "_law_lap"]
theorem sc_l_name : FnScope N_l_name ["_law_well_here"] (defScope s_l_name) := ⟨rfl, rfl, rfl, by decide +kernel, rfl, by decide +kernel, by decide +kernel⟩
abbrev s_l_piece : Stmt := topS 30
abbrev N_l_piece : List Str := ["_law_well_here", "_law_signs", "_law_kind"]
theorem sc_l_piece : FnScope N_l_piece ["_law_well_here"] (defScope s_l_piece) := ⟨rfl, rfl, rfl, by decide +kernel, rfl, by decide +kernel, by decide +kernel⟩
abbrev s_l_scan : Stmt := topS 31
abbrev N_l_scan : List Str := ["_law_text", "_law_az", "_law_nine", "_law_found", "_law_at", "_law_lap", "_law_ahead", "_law_sign", "_law_end", "_law_more"]
theorem sc_l_scan : FnScope N_l_scan ["_law_text"] (defScope s_l_scan) := ⟨rfl, rfl, rfl, by decide +kernel, rfl, by decide +kernel, by decide +kernel⟩
abbrev s_l_is_name : Stmt := topS 32
abbrev N_l_is_name : List Str := ["_law_thing", "_law_more", "_law_sign"]
theorem sc_l_is_name : FnScope N_l_is_name ["_law_thing"] (defScope s_l_is_name) := ⟨rfl, rfl, rfl, by decide +kernel, rfl, by decide +kernel, by decide +kernel⟩
abbrev s_l_part : Stmt := topS 33
abbrev N_l_part : List Str := ["_law_well_here"]
theorem sc_l_part : FnScope N_l_part ["_law_well_here"] (defScope s_l_part) := ⟨rfl, rfl, rfl, by decide +kernel, rfl, by decide +kernel, by decide +kernel⟩
abbrev s_l_told : Stmt := topS 34
abbrev N_l_told : List Str := ["_law_call", "e", "_law_told_here"]
theorem sc_l_told : FnScope N_l_told ["_law_call"] (defScope s_l_told) := ⟨rfl, rfl, rfl, by decide +kernel, rfl, by decide +kernel, by decide +kernel⟩
abbrev s_l_are_fractions_right : Stmt := topS 35
abbrev N_l_are_fractions_right : List Str := ["_law_well_here", "_law_odd", "_law_n", "_law_m", "_law_is_part", "_law_each"]
theorem sc_l_are_fractions_right : FnScope N_l_are_fractions_right ["_law_well_here", "_law_odd"] (defScope s_l_are_fractions_right) := ⟨rfl, rfl, rfl, by decide +kernel, rfl, by decide +kernel, by decide +kernel⟩
abbrev s_l_is_right : Stmt := topS 36
abbrev N_l_is_right : List Str := ["_law_well_here", "_law_text", "_law_lap", "_law_due", "_law_again", "_law_ahead", "_law_spot", "_law_word", "_law_odd", "_law_each"]
theorem sc_l_is_right : FnScope N_l_is_right ["_law_well_here"] (defScope s_l_is_right) := ⟨rfl, rfl, rfl, by decide +kernel, rfl, by decide +kernel, by decide +kernel⟩
abbrev s_l_law : Stmt := topS 37
abbrev N_l_law : List Str := ["_law_script"]
theorem sc_l_law : FnScope N_l_law ["_law_script"] (defScope s_l_law) := ⟨rfl, rfl, rfl, by decide +kernel, rfl, by decide +kernel, by decide +kernel⟩
abbrev s_iInvalidFraction : Stmt := inS 4 0
abbrev N_iInvalidFraction : List Str := ["self", "given"]
theorem sc_iInvalidFraction : FnScope N_iInvalidFraction ["self", "given"] (defScope s_iInvalidFraction) := ⟨rfl, rfl, rfl, by decide +kernel, rfl, by decide +kernel, by decide +kernel⟩
abbrev s_iBadText : Stmt := inS 5 0
abbrev N_iBadText : List Str := ["self", "spot"]
theorem sc_iBadText : FnScope N_iBadText ["self", "spot"] (defScope s_iBadText) := ⟨rfl, rfl, rfl, by decide +kernel, rfl, by decide +kernel, by decide +kernel⟩
structure Top (K : PySem.W.Frag) (mg : Str → Option Value) : Prop where
  d_p__wall : Dn K mg "_wall" s_p__wall ["k"]
  d_p_is_whole : Dn K mg "is_whole" s_p_is_whole ["value"]
  d_p_is_fraction : Dn K mg "is_fraction" s_p_is_fraction ["value"]
  d_p_check_fraction : Dn K mg "check_fraction" s_p_check_fraction ["fraction"]
  d_p_words_of : Dn K mg "words_of" s_p_words_of ["text"]
  d_p_end_at : Dn K mg "end_at" s_p_end_at ["text", "at"]
  d_p_is_free_name : Dn K mg "is_free_name" s_p_is_free_name ["value"]
  d_p_fraction_text : Dn K mg "fraction_text" s_p_fraction_text ["fraction"]
  d_p_plain_text : Dn K mg "plain_text" s_p_plain_text ["fraction"]
  d_l_well : Dn K mg "_law_well" s_l_well ["_law_script", "_law_lap"]
  d_l_draw : Dn K mg "_law_draw" s_l_draw ["_law_well_here", "_law_most"]
  d_l_pick : Dn K mg "_law_pick" s_l_pick ["_law_well_here", "_law_some"]
  d_l_shared : Dn K mg "_law_shared" s_l_shared ["_law_one", "_law_two"]
  d_l_lean : Dn K mg "_law_lean" s_l_lean ["_law_top", "_law_low"]
  d_l_kept : Dn K mg "_law_kept" s_l_kept []
  d_l_name : Dn K mg "_law_name" s_l_name ["_law_well_here"]
  d_l_piece : Dn K mg "_law_piece" s_l_piece ["_law_well_here"]
  d_l_scan : Dn K mg "_law_scan" s_l_scan ["_law_text"]
  d_l_is_name : Dn K mg "_law_is_name" s_l_is_name ["_law_thing"]
  d_l_part : Dn K mg "_law_part" s_l_part ["_law_well_here"]
  d_l_told : Dn K mg "_law_told" s_l_told ["_law_call"]
  d_l_are_fractions_right : Dn K mg "_law_are_fractions_right" s_l_are_fractions_right ["_law_well_here", "_law_odd"]
  d_l_is_right : Dn K mg "_law_is_right" s_l_is_right ["_law_well_here"]
  d_l_law : Dn K mg "law" s_l_law ["_law_script"]
  z_len : mg "len" = none
  z_abs : mg "abs" = none
  z_divmod : mg "divmod" = none
  z_repr : mg "repr" = none
  z_int : mg "int" = none
  z_tuple : mg "tuple" = none
  z_all : mg "all" = none
  z_any : mg "any" = none
  z_isinstance : mg "isinstance" = none
  z_bool : mg "bool" = none
  z_range : mg "range" = none
  z_str : mg "str" = none
  z_ValueError : mg "ValueError" = none
  g_gcd : mg "gcd" = some (.builtin "math.gcd")
  k_BLANKS : ∃ t, mg "BLANKS" = some (.str " \n" t)
  k_DIGITS : ∃ t, mg "DIGITS" = some (.str "0123456789" t)
  k_SMALL_LETTERS : ∃ t, mg "SMALL_LETTERS" = some (.str "abcdefghijklmnopqrstuvwxyz" t)
  k_NAME_SIGNS : ∃ t, mg "NAME_SIGNS" = some (.str "abcdefghijklmnopqrstuvwxyz0123456789_" t)
  k_MOST_NAME_SIGNS : ∃ t, mg "MOST_NAME_SIGNS" = some (.int 24 t)
  k_KEPT_NAMES : Ld.Wd K mg "KEPT_NAMES" (.tuple [(.str "all"), (.str "none"), (.str "half"), (.str "disc"), (.str "box"), (.str "polygon"), (.str "not"), (.str "move"), (.str "scale"), (.str "turn"), (.str "mirror"), (.str "lead"), (.str "flip"), (.str "repeat"), (.str "let")])
  e_InvalidFraction : ∃ C fI fd, Ec K mg "InvalidFraction" "given" s_iInvalidFraction C fI fd
  e_BadText : ∃ C fI fd, Ec K mg "BadText" "spot" s_iBadText C fI fd
  x_BadText_InvalidFraction : ∀ A B : Addr, mg "BadText" = some (.ref A) → mg "InvalidFraction" = some (.ref B) → PySem.W.exmOne K (.ref B) (.ref A) = some false
theorem i_InvalidFraction {P : Program} {w : World} {K : PySem.W.Frag} {mg : Str → Option Value} {base : Heap} {C fI : Addr} {fd : FuncData} (ec : Ec K mg "InvalidFraction" "given" s_iInvalidFraction C fI fd) : FnOk P w K mg base CX0 1 fI fd ["self", "given"] (spInit "given" C) := by
  refine ec.fn.ok sc_iInvalidFraction (fun vs H Q E h => ?_) (fun cdv A outer s H vs Q E hr h => ?_)
  · obtain ⟨a, v, rfl, _⟩ := h
    rfl
  obtain ⟨a, v, rfl, ha, q⟩ := h
  refine ⟨_, (pss_one (ps_ost (pv 0) (pv 1))), ?_⟩
  exact ⟨_, rfl, _, rfl, a, C, rfl, ec.ox, ec.no, .inl ⟨ha, q⟩⟩
theorem i_BadText {P : Program} {w : World} {K : PySem.W.Frag} {mg : Str → Option Value} {base : Heap} {C fI : Addr} {fd : FuncData} (ec : Ec K mg "BadText" "spot" s_iBadText C fI fd) : FnOk P w K mg base CX0 1 fI fd ["self", "spot"] (spInit "spot" C) := by
  refine ec.fn.ok sc_iBadText (fun vs H Q E h => ?_) (fun cdv A outer s H vs Q E hr h => ?_)
  · obtain ⟨a, v, rfl, _⟩ := h
    rfl
  obtain ⟨a, v, rfl, ha, q⟩ := h
  refine ⟨_, (pss_one (ps_ost (pv 0) (pv 1))), ?_⟩
  exact ⟨_, rfl, _, rfl, a, C, rfl, ec.ox, ec.no, .inl ⟨ha, q⟩⟩
end My

namespace My
open PySem L2 Lw
local macro_rules | `(tactic| walk_at "side") => `(tactic| first | decide | omega | (exact .inl ⟨by decide, by decide⟩) | (exact .inr ⟨by decide, by decide⟩) | (exact .inl ⟨by omega, by omega⟩) | (exact .inr ⟨by omega, by omega⟩) | (exact ⟨by decide, by decide⟩) | (exact ⟨by omega, by omega⟩))
local macro_rules | `(tactic| walk_at "go1") => `(tactic| first
  | (refine ⟨_, _, rfl, rfl, ?_⟩)
  | (refine ⟨_, rfl, ?_⟩)
  | (refine And.intro (by walk_at "side") ?_)
  | (refine .inl ⟨_, rfl, ?_⟩)
  | (refine iteT ?_) | (refine iteF ?_))
local macro_rules | `(tactic| walk_at "go") => `(tactic| repeat (walk_at "go1"))
section
variable {P : Program} {w : World} {K : PySem.W.Frag} {mg : Str → Option Value} {base : Heap}
/-- well(script, at): a new list of three ints, the first from 0 on -/
def spWell (K : PySem.W.Frag) : Sp := fun vs H Q _ => ∃ (a : Addr) (ns : List Int) (i : Int), vs = [.ref a, .int i] ∧ SqL K H a (ns.map V.int) ∧ 0 ≤ i ∧ i < 1000 ∧
  ∀ p H', Same H H' → p ≠ sysModules → H p = none → WellAt H' p → Q (.ref p) H'
theorem cut_ints (ns : List Int) (lo hi : Option Int) : ∃ ms : List Int, cutV (ns.map V.int) lo hi = ms.map V.int := by
  refine ⟨(ns.drop (HT.sIx ns.length 0 lo)).take (HT.sIx ns.length ns.length hi - HT.sIx ns.length 0 lo), ?_⟩
  unfold cutV
  rw [List.length_map, List.map_take, List.map_drop]
theorem int_at {ns : List Int} {i : Nat} {y : V} (h : (ns.map V.int)[i]? = some y) : ∃ z : Int, y = .int z := by
  rw [List.getElem?_map] at h
  cases e : ns[i]? with
  | none => rw [e] at h; cases h
  | some z =>
    rw [e] at h
    exact ⟨z, (Option.some.inj h).symm⟩
theorem at_ints {ns : List Int} {i : Int} (h0 : 0 ≤ i) (h : i < ns.length) : ∃ z : Int, atI (ns.map V.int) i = some (.int z) := by
  have hi : i.toNat < ns.length := by omega
  refine ⟨ns[i.toNat], ?_⟩
  have e : i = ((i.toNat : Nat) : Int) := by omega
  refine at_of e ?_
  rw [List.getElem?_map, List.getElem?_eq_getElem hi]
  all_goals rfl
theorem c_l_well (T : Top K mg) : Cl CX0 P w K mg base 1 "_law_well" (spWell K) := by
  refine T.d_l_well.cal sc_l_well (fun vs H Q E h => ?_) (fun f cdv A outer s H vs Q E hr hg h => ?_)
  · obtain ⟨a, ns, i, rfl, _⟩ := h
    rfl
  obtain ⟨a, ns, i, rfl, hS, h0, h1, q⟩ := h
  refine ⟨_, (pss_cons (ps_set (i := 2) sc_l_well.nd rfl (Or.inl rfl) (pe_op op_add pe_int (pe_op op_mul pe_int (pv 1)))) (pss_cons (ps_for PassesOwn.never rfl (pi_list (pe_slice sl_list (pv 0) po_none (po_some pe_int))) (pg_name (i := 3) sc_l_well.nd rfl (Or.inl rfl)) (pss_one (ps_set (i := 2) sc_l_well.nd rfl (Or.inl rfl) (pe_op op_mod (pe_callTy call_int1 rfl T.z_int (by decide +kernel) (pa_cons (pe_op op_add (pe_op op_add (pe_op op_mul (pv 2) pe_int) (pe_op op_mod (pe_callTy call_int1 rfl T.z_int (by decide +kernel) (pa_cons (pv 3) pa_nil)) pe_int)) pe_int) pa_nil)) pe_int)))) (pss_cons (ps_set (i := 4) sc_l_well.nd rfl (Or.inl rfl) (pe_ifExp (pt_cmpR op_lt (pv 1) (pe_callB call_len_seq rfl T.z_len (by decide +kernel) (pa_cons (pv 0) pa_nil)) (nomark _)) (pe_callTy call_int1 rfl T.z_int (by decide +kernel) (pa_cons (pe_ix ix_list (pv 0) (pv 1) (fun _ _ => rfl)) pa_nil)) pe_int)) (pss_cons (ps_set (i := 2) sc_l_well.nd rfl (Or.inl rfl) (pe_op op_mod (pe_callTy call_int1 rfl T.z_int (by decide +kernel) (pa_cons (pe_op op_add (pe_op op_add (pe_op op_mul (pv 2) pe_int) (pe_op op_mul (pe_op op_mod (pe_callTy call_int1 rfl T.z_int (by decide +kernel) (pa_cons (pv 4) pa_nil)) pe_int) pe_int)) pe_int) pa_nil)) pe_int)) (pss_one (ps_ret (pe_list (pa_cons (pe_ifExp (PW.pt (pw_or (pt_cmpR op_lt (pv 4) pe_int (nomark _)) (pw_or1 (pt_cmpR op_ge (pv 4) (pe_op op_pow pe_int pe_int) (nomark _))))) (pe_callB call_abs rfl T.z_abs (by decide +kernel) (pa_cons (pv 4) pa_nil)) pe_int) (pa_cons (pv 2) (pa_cons pe_int pa_nil)))))))))), ?_⟩
  walk_at "go"
  refine ⟨a, _, rfl, hS, fun p hp => ?_⟩
  obtain ⟨ms, hms⟩ := cut_ints ns none (some 9)
  rw [hms]
  refine ⟨p, rfl, ⟨_, SqL.of upd_same⟩, for_list (K := K) (a := p) (xs := ms.map V.int) (fun _ σ H2 => ∃ (m : Int) (v : Option V), σ = [some (.ref a), some (.int i), some (.int m), v, none] ∧ H2 = upd H p (.lst (ms.map V.int)))
    ⟨_, none, rfl, rfl⟩ (fun _ σ H2 _ ⟨_, _, _, e⟩ => by rw [e]; exact SqL.of upd_same) ?_ ?_⟩
  · rintro j y σ H2 hj ⟨m, v, rfl, rfl⟩
    obtain ⟨z, rfl⟩ := int_at hj
    walk_at "go"
    exact ⟨_, _, rfl, rfl⟩
  · rintro σ H2 ⟨m, v, rfl, rfl⟩
    have k1 : Same H (upd H p (.lst (ms.map V.int))) := same_new hp _
    generalize hH : upd H p (.lst (ms.map V.int)) = H1 at k1
    have hS1 : SqL K H1 a (ns.map V.int) := k1.seq hS
    walk_at "go"
    refine ⟨_, _, rfl, .inl hS1, ?_⟩
    walk_at "go"
    refine tst (fun c => ?x) (fun c => ?y)
    case' x =>
      have c' : i < ns.length := by simpa using c
      obtain ⟨z, hz⟩ := at_ints h0 c'
      walk_at "go"
      refine ⟨a, _, _, _, rfl, rfl, hS1, hz, ?_⟩
      walk_at "go"
    case y =>
      walk_at "go"
      refine ⟨short3, fun r hr2 np => ?_⟩
      exact q r _ (k1.trans (same_new hr2 _)) np (k1.free hr2) ⟨_, _, _, upd_same, Int.le_refl 0⟩
    · refine tst (fun c2 => ?_) (fun c2 => ?_)
      · walk_at "go"
        refine ⟨short3, fun r hr2 np => ?_⟩
        refine q r _ (k1.trans (same_new hr2 _)) np (k1.free hr2) ⟨_, _, _, upd_same, ?_⟩
        split <;> omega
      · walk_at "go"
        refine tst (fun c3 => ?_) (fun c3 => ?_)
        · walk_at "go"
          refine ⟨short3, fun r hr2 np => ?_⟩
          refine q r _ (k1.trans (same_new hr2 _)) np (k1.free hr2) ⟨_, _, _, upd_same, ?_⟩
          split <;> omega
        · walk_at "go"
          refine ⟨short3, fun r hr2 np => ?_⟩
          exact q r _ (k1.trans (same_new hr2 _)) np (k1.free hr2) ⟨_, _, _, upd_same, Int.le_refl 0⟩
end
end My

namespace My
open PySem L2 Lw
local macro_rules | `(tactic| walk_at "side") => `(tactic| first | decide | omega | (exact .inl ⟨by decide, by decide⟩) | (exact .inr ⟨by decide, by decide⟩) | (exact .inl ⟨by omega, by omega⟩) | (exact .inr ⟨by omega, by omega⟩) | (exact ⟨by decide, by decide⟩) | (exact ⟨by omega, by omega⟩))
local macro_rules | `(tactic| walk_at "go1") => `(tactic| first
  | (refine ⟨_, _, rfl, rfl, ?_⟩)
  | (refine ⟨_, rfl, ?_⟩)
  | (refine And.intro (by walk_at "side") ?_)
  | (refine .inl ⟨_, rfl, ?_⟩)
  | (refine iteT ?_) | (refine iteF ?_))
local macro_rules | `(tactic| walk_at "go") => `(tactic| repeat (walk_at "go1"))
section
variable {P : Program} {w : World} {K : PySem.W.Frag} {mg : Str → Option Value} {base : Heap}
/-- draw(well, many): a number from 0 up to below many -/
def spDraw : Sp := fun vs H Q _ => ∃ (p : Addr) (n : Int), vs = [.ref p, .int n] ∧ WellAt H p ∧ 0 < n ∧ n < 2 ^ 64 ∧ ∀ (k : Int) (H' : Hp), 0 ≤ k → k < n → After p H H' → Q (.int k) H'
theorem well_put {H : Hp} {p : Addr} {a m c a' m' c' : Int} (h : H p = some (.lst [.int a, .int m, .int c])) (ha : 0 ≤ a') : After p H (upd H p (.lst [.int a', .int m', .int c'])) :=
  ⟨⟨fun b u n q => by rw [upd_ne fun z => n (.inl z)]; exact q, fun b xs q => by rw [upd_ne (ne_of q h (by intro z; cases z))]; exact q⟩, ⟨_, _, _, upd_same, ha⟩, fun b u n q => by rw [upd_ne n]; exact q⟩
theorem c_l_draw (T : Top K mg) : Cl CX0 P w K mg base 1 "_law_draw" spDraw := by
  refine T.d_l_draw.cal sc_l_draw (fun vs H Q E h => ?_) (fun f cdv A outer s H vs Q E hr hg h => ?_)
  · obtain ⟨p, n, rfl, _⟩ := h
    rfl
  obtain ⟨p, n, rfl, hW, hn, hn2, q⟩ := h
  obtain ⟨a, m, c, hp, ha⟩ := id hW
  refine ⟨_, (pss_cons (ps_if (pt_cmpR op_gt (pe_ix ix_list (pv 0) pe_int (fun _ _ => rfl)) pe_int (nomark _)) (pss_cons (ps_asg (pe_callB call_divmodW rfl T.z_divmod (by decide +kernel) (pa_cons (pe_ix ix_list (pv 0) pe_int (fun _ _ => rfl)) (pa_cons (pv 1) pa_nil))) (pg_tup rfl (pgs_cons (pg_sub (pv 0) pe_int set_list) (pgs_cons (pg_name (i := 2) sc_l_draw.nd rfl (Or.inl rfl)) pgs_nil)))) (pss_one (ps_ret (pv 2)))) pss_nil) (pss_cons (ps_asg (pe_op op_add (pe_ix ix_list (pv 0) pe_int (fun _ _ => rfl)) pe_int) (pg_sub (pv 0) pe_int set_list)) (pss_cons (ps_set (i := 3) sc_l_draw.nd rfl (Or.inl rfl) (pe_op op_mod (pe_callTy call_int1 rfl T.z_int (by decide +kernel) (pa_cons (pe_op op_add (pe_ix ix_list (pv 0) pe_int (fun _ _ => rfl)) (pe_op op_mul pe_int (pe_ix ix_list (pv 0) pe_int (fun _ _ => rfl)))) pa_nil)) pe_int)) (pss_cons (ps_asg (pe_op op_mod (pe_callTy call_int1 rfl T.z_int (by decide +kernel) (pa_cons (pe_op op_add (pe_op op_mul (pv 3) (pe_op op_add (pe_op op_mod (pe_callTy call_int1 rfl T.z_int (by decide +kernel) (pa_cons (pv 3) pa_nil)) pe_int) pe_int)) (pe_op op_mul pe_int (pe_ix ix_list (pv 0) pe_int (fun _ _ => rfl)))) pa_nil)) pe_int) (pg_sub (pv 0) pe_int set_list)) (pss_one (ps_ret (pe_op op_mod (pe_callTy call_int1 rfl T.z_int (by decide +kernel) (pa_cons (pe_op op_fdiv (pe_ix ix_list (pv 0) pe_int (fun _ _ => rfl)) pe_int) pa_nil)) (pv 1)))))))), ?_⟩
  walk_at "go"
  refine ⟨p, _, _, _, rfl, rfl, .of hp, rfl, ?_⟩
  walk_at "go"
  refine tst (fun c1 => ?_) (fun c1 => ?_)
  · walk_at "go"
    refine ⟨p, _, _, _, rfl, rfl, .of hp, rfl, ?_⟩
    walk_at "go"
    refine ⟨a, n, rfl, ⟨hn, PyProof.noPylong_of_log2 (log2_lt (by decide) (show n.natAbs < 2 ^ 9000 from Nat.lt_of_lt_of_le (show n.natAbs < 2 ^ 64 by omega) (Nat.pow_le_pow_right (by decide) (by decide))))⟩, fun r hr2 => ?_⟩
    refine ⟨r, _, rfl, .of upd_same, rfl, _, _, rfl, ?_⟩
    walk_at "go"
    have k1 : Same H (upd H r (.tup [.int (a / n), .int (a % n)])) := same_new hr2 _
    have hp1 := k1 _ _ hp
    refine ⟨p, _, _, _, rfl, rfl, hp1, rfl, _, _, rfl, rfl, ?_⟩
    walk_at "go"
    exact q _ _ (Int.emod_nonneg _ (by omega)) (Int.emod_lt_of_pos _ hn) ((After.of hW k1).trans (well_put hp1 (Int.ediv_nonneg ha (by omega))))
  · walk_at "go"
    refine ⟨p, _, _, _, rfl, rfl, .of hp, rfl, ?_⟩
    walk_at "go"
    refine ⟨p, _, _, _, rfl, rfl, hp, rfl, ?_⟩
    have p1 : After p H (upd H p (.lst [.int a, .int m, .int (c + 1)])) := well_put hp ha
    have hp1 : upd H p (.lst [.int a, .int m, .int (c + 1)]) p = _ := upd_same
    walk_at "go"
    refine ⟨p, _, _, _, rfl, rfl, .of hp1, rfl, ?_⟩
    walk_at "go"
    refine ⟨p, _, _, _, rfl, rfl, .of hp1, rfl, ?_⟩
    walk_at "go"
    refine ⟨p, _, _, _, rfl, rfl, .of hp1, rfl, ?_⟩
    walk_at "go"
    refine ⟨p, _, _, _, rfl, rfl, hp1, rfl, ?_⟩
    walk_at "go"
    refine ⟨p, _, _, _, rfl, rfl, .of upd_same, rfl, ?_⟩
    walk_at "go"
    exact q _ _ (Int.emod_nonneg _ (by omega)) (Int.emod_lt_of_pos _ hn) (p1.trans (well_put hp1 ha))
end
end My

namespace My
open PySem L2 Ld
open Lw hiding Dv DvAll FreshB tData tDatas pd_int pd_bl pd_non pd_str pd_neg pd_pow pda_nil pda_cons pd_tup pd_lst pd_dct dv_cut dv_cat tup_at rRepr call_repr rIsD call_isD
section
variable {P : Program} {w : World} {K : PySem.W.Frag} {mg : Str → Option Value} {base : Heap}
abbrev t_l_draw : TF := t_draw
theorem c_l_drawD {Sy : Md} (T : Top K mg) : Cl (L2.CX P w) P w K mg base 1 "_law_draw" (spF ⟨base, K, Sy⟩ mg 2 t_l_draw) := ((c_l_draw T).imp fun vs H Q E h => by
  obtain ⟨w, N, us, R, Ex, hl, hv, ok, ht, q, _⟩ := h
  unfold t_l_draw t_draw at ht
  split at ht
  · rename_i n
    obtain ⟨h0, h1, hk⟩ := ht
    match vs, hv with
    | [v, u], hv =>
      obtain ⟨p, hp, rfl⟩ := hv.1
      cases hv.2.1
      exact ⟨p, n, rfl, (ok.wl p hp).2.2, h0, h1, fun k H' k0 k1 af => q _ _ H' (hk k k0 k1) (.ofAfter hp (ok.wl p hp).2.2 af) (.int _)⟩
  · exact ht.elim).up
end
end My

set_option maxHeartbeats 4000000
namespace My
open PySem L2 Ld
open Lw hiding Dv DvAll FreshB tData tDatas pd_int pd_bl pd_non pd_str pd_neg pd_pow pda_nil pda_cons pd_tup pd_lst pd_dct dv_cut dv_cat tup_at rRepr call_repr rIsD call_isD
section
variable {P : Program} {w : World} {K : PySem.W.Frag} {mg : Str → Option Value} {base : Heap} {Tz : List (Addr × Str)}
def b_p_is_whole : TSD := (sRet (dAndV (dUn (fun d R => R (.bool (isInt d))) (dV 0)) (dNotV (dUn (fun d R => R (.bool (isBool d))) (dV 0)))))
def t_p_is_whole : TF := tfOf N_p_is_whole b_p_is_whole
theorem c_p_is_whole {g : Bool} (T : Top K mg) : Cq g (L2.CX P w) P w K mg base 1 "is_whole" (spF ⟨base, K, ⟨false, Tz, false⟩⟩ mg 1 t_p_is_whole) := by
  exact Lw.Dn.dataQ T.d_p_is_whole sc_p_is_whole fun f cdv A outer s H E hr hg => (ds_one (ds_ret (ps_ret (d_andV (pe_andT (d_isi (pe_callB (Ld.call_isD kit_int) rfl T.z_isinstance (by decide +kernel) (pa_cons (d_var (pv 0)) (pa_cons (pe_bltn (v := .ty "int") rfl T.z_int (by decide +kernel) rfl) pa_nil)))) (pe_one (d_notW (pe_notT (d_isi (pe_callB (Ld.call_isD kit_bool) rfl T.z_isinstance (by decide +kernel) (pa_cons (d_var (pv 0)) (pa_cons (pe_bltn (v := .ty "bool") rfl T.z_bool (by decide +kernel) rfl) pa_nil))))))))))))
def b_p_end_at : TSD := (sSeq (sIf (dCmp fEq (dOp fIxS (dV 0) (dV 1)) (dC (.str "#"))) (sSeq (sSet 2 (dFind 10 (dV 0) (dV 1))) (sRet (dIf (dCmp fLt (dV 2) (dC (.int 0))) (dCB fLen (dCons (dV 0) dNil)) (dV 2)))) sNx) (sSeq (sSet 3 (dC (.str ""))) (sSeq (sIf (dCmp fInS (dOp fIxS (dV 0) (dV 1)) (dC (.str "0123456789"))) (sSet 3 (dC (.str "0123456789"))) (sIf (dCmp fInS (dOp fIxS (dV 0) (dV 1)) (dC (.str "abcdefghijklmnopqrstuvwxyz"))) (sSet 3 (dC (.str "abcdefghijklmnopqrstuvwxyz0123456789_"))) sNx)) (sSeq (sSet 2 (dOp fAddG (dV 1) (dC (.int 1)))) (sSeq (sWhile (dAnd (dCmp fLt (dV 2) (dCB fLen (dCons (dV 0) dNil))) (dCmp fInS (dOp fIxS (dV 0) (dV 2)) (dV 3))) (sAug 2 (fun i j => i + j) (dC (.int 1)))) (sRet (dV 2)))))))
def t_p_end_at : TF := tfOf N_p_end_at b_p_end_at
theorem c_p_end_at {g : Bool} (T : Top K mg) : Cq g (L2.CX P w) P w K mg base 1 "end_at" (spF ⟨base, K, ⟨false, Tz, false⟩⟩ mg 2 t_p_end_at) := by
  obtain ⟨tk_DIGITS, gl_DIGITS⟩ := T.k_DIGITS
  obtain ⟨tk_SMALL_LETTERS, gl_SMALL_LETTERS⟩ := T.k_SMALL_LETTERS
  obtain ⟨tk_NAME_SIGNS, gl_NAME_SIGNS⟩ := T.k_NAME_SIGNS
  exact Lw.Dn.dataQ T.d_p_end_at sc_p_end_at fun f cdv A outer s H E hr hg => (ds_cons (ds_if (ps_if (dt_cmp (pt_cmpR (op_eqG hr) (d_op (pe_ix ix_seq (d_var (pv 0)) (d_var (pv 1)) (fun _ _ => rfl)) od_ixS) d_str (nomark _)) cd_eq) (ds_cons (ds_set (ps_set (i := 2) sc_p_end_at.nd rfl (Or.inl rfl) (d_find (z := "\n") (by decide +kernel) (pe_bm PySem.F.plainAttrs_str PySem.F.slot_str_find PySem.F.type_str_find mt_find3 (d_var (pv 0)) (pa_cons pe_str (pa_cons (d_var (pv 1)) pa_nil)))))) (ds_one (ds_ret (ps_ret (d_if (pe_ifExp (dt_cmp (pt_cmpR op_lt (d_var (pv 2)) d_int (nomark _)) cd_int) (d_cb (pe_callB call_len rfl T.z_len (by decide +kernel) (da_cons (d_var (pv 0)) da_nil)) bd_len) (d_var (pv 2)))))))) ds_nil)) (ds_cons (ds_set (ps_set (i := 3) sc_p_end_at.nd rfl (Or.inl rfl) d_str)) (ds_cons (ds_if (ps_if (dt_cmp (pt_cmpR op_in_sign (d_op (pe_ix ix_seq (d_var (pv 0)) (d_var (pv 1)) (fun _ _ => rfl)) od_ixS) (d_c (pe_glob (v := .str "0123456789") rfl gl_DIGITS ⟨_, rfl⟩) fun _ _ => .str _) rfl) cd_inS) (ds_one (ds_set (ps_set (i := 3) sc_p_end_at.nd rfl (Or.inl rfl) (d_c (pe_glob (v := .str "0123456789") rfl gl_DIGITS ⟨_, rfl⟩) fun _ _ => .str _)))) (ds_one (ds_if (ps_if (dt_cmp (pt_cmpR op_in_sign (d_op (pe_ix ix_seq (d_var (pv 0)) (d_var (pv 1)) (fun _ _ => rfl)) od_ixS) (d_c (pe_glob (v := .str "abcdefghijklmnopqrstuvwxyz") rfl gl_SMALL_LETTERS ⟨_, rfl⟩) fun _ _ => .str _) rfl) cd_inS) (ds_one (ds_set (ps_set (i := 3) sc_p_end_at.nd rfl (Or.inl rfl) (d_c (pe_glob (v := .str "abcdefghijklmnopqrstuvwxyz0123456789_") rfl gl_NAME_SIGNS ⟨_, rfl⟩) fun _ _ => .str _)))) ds_nil))))) (ds_cons (ds_set (ps_set (i := 2) sc_p_end_at.nd rfl (Or.inl rfl) (d_op (pe_op op_addG (d_var (pv 1)) d_int) od_addG))) (ds_cons (ds_while (ps_while PassesOwn.leaving (PW.pt (dw_and (pw_and (dt_cmp (pt_cmpR op_lt (d_var (pv 2)) (d_cb (pe_callB call_len rfl T.z_len (by decide +kernel) (da_cons (d_var (pv 0)) da_nil)) bd_len) (nomark _)) cd_int) (pw_and1 (dt_cmp (pt_cmpR op_in_sign (d_op (pe_ix ix_seq (d_var (pv 0)) (d_var (pv 2)) (fun _ _ => rfl)) od_ixS) (d_var (pv 3)) rfl) cd_inS))))) (ds_one (ds_aug (ps_aug (i := 2) sc_p_end_at.nd rfl (Or.inl rfl) d_int ip_add))))) (ds_one (ds_ret (ps_ret (d_var (pv 2))))))))))
def b_p_is_free_name : TSD := (sSeq (sIf (dOr (dNot (dTst (dUn (fun d R => R (.bool (isStr d))) (dV 0)))) (dOr (dNot (dTst (dV 0))) (dOr (dCmp fGt (dCB fLen (dCons (dV 0) dNil)) (dC (.int 24))) (dCmp (fInF false) (dV 0) (dC (.tuple [(.str "all"), (.str "none"), (.str "half"), (.str "disc"), (.str "box"), (.str "polygon"), (.str "not"), (.str "move"), (.str "scale"), (.str "turn"), (.str "mirror"), (.str "lead"), (.str "flip"), (.str "repeat"), (.str "let")])))))) (sRet (dC (.bool false))) sNx) (sRet (dAndV (dCmpV fInS (dOp fIxS (dV 0) (dC (.int 0))) (dC (.str "abcdefghijklmnopqrstuvwxyz"))) (dCB fAll (dCons (dLc (iTx (dV 0)) [1] (gdN 1) dYes (dCmpV fInS (dV 1) (dC (.str "abcdefghijklmnopqrstuvwxyz0123456789_")))) dNil)))))
def t_p_is_free_name : TF := tfOf N_p_is_free_name b_p_is_free_name
theorem c_p_is_free_name {g : Bool} (T : Top K mg) : Cq g (L2.CX P w) P w K mg base 1 "is_free_name" (spF ⟨base, K, ⟨false, Tz, false⟩⟩ mg 1 t_p_is_free_name) := by
  obtain ⟨tk_SMALL_LETTERS, gl_SMALL_LETTERS⟩ := T.k_SMALL_LETTERS
  obtain ⟨tk_NAME_SIGNS, gl_NAME_SIGNS⟩ := T.k_NAME_SIGNS
  obtain ⟨tk_MOST_NAME_SIGNS, gl_MOST_NAME_SIGNS⟩ := T.k_MOST_NAME_SIGNS
  exact Lw.Dn.dataQ T.d_p_is_free_name sc_p_is_free_name fun f cdv A outer s H E hr hg => (ds_cons (ds_if (ps_if (PW.pt (dw_or (pw_or (dt_not (pt_not (dt_val (pt_truth (d_isi (pe_callB (Ld.call_isD kit_str) rfl T.z_isinstance (by decide +kernel) (pa_cons (d_var (pv 0)) (pa_cons (pe_bltn (v := .ty "str") rfl T.z_str (by decide +kernel) rfl) pa_nil)))) (by intro _; rfl))))) (dw_or (pw_or (dt_not (pt_not (dt_val (pt_truth (d_var (pv 0)) (by intro _; rfl))))) (dw_or (pw_or (dt_cmp (pt_cmpR op_gt (d_cb (pe_callB call_len rfl T.z_len (by decide +kernel) (da_cons (d_var (pv 0)) da_nil)) bd_len) (d_c (pe_glob (v := .int 24) rfl gl_MOST_NAME_SIGNS ⟨_, rfl⟩) fun _ _ => .int _) (nomark _)) cd_int) (pw_or1 (dt_cmp (pt_cmpR op_in_seq (d_var (pv 0)) (d_tc rfl (T.k_KEPT_NAMES)) rfl) cd_inF))))))))) (ds_one (ds_ret (ps_ret d_bl))) ds_nil)) (ds_one (ds_ret (ps_ret (d_andV (pe_andT (d_cmp (pe_cmpR op_in_sign (d_op (pe_ix ix_seq (d_var (pv 0)) d_int (fun _ _ => rfl)) od_ixS) (d_c (pe_glob (v := .str "abcdefghijklmnopqrstuvwxyz") rfl gl_SMALL_LETTERS ⟨_, rfl⟩) fun _ _ => .str _) rfl) cd_inS) (pe_one (d_cb (pe_callB (cr_all rfl) rfl T.z_all (by decide +kernel) (da_cons (d_lc io_str (go_name 1) (pe_lc (own := [("sign", 1)]) (g := (gName 1)) rfl sc_p_is_free_name.nd (pi_str (d_var (pv 0))) (blkOk_by (own := [("sign", 1)]) (N := N_p_is_free_name) (sc := defScope s_p_is_free_name) (by decide +kernel)) (fun _ _ _ _ _ => (pg_name (i := 1) sc_p_is_free_name.nd rfl (Or.inl rfl))) (fun _ _ _ _ _ => lt_blk dts_nil) (fun _ _ _ _ _ => le_blk (d_cmp (pe_cmpR op_in_sign (d_var (pv 1)) (d_c (pe_glob (v := .str "abcdefghijklmnopqrstuvwxyz0123456789_") rfl gl_NAME_SIGNS ⟨_, rfl⟩) fun _ _ => .str _) rfl) cd_inS)))) da_nil)) bd_bools))))))))
def b_p_plain_text : TSD := (sSeq (sAsg (dV 0) (gdT 2 (gdCons (gdN 1) (gdCons (gdN 2) gdNil)))) (sRet (dIf (dCmp fEq (dV 2) (dC (.int 1))) (dCB fStrO (dCons (dV 1) dNil)) (dJs [(dFmt (dV 1)), (dC (.str "/")), (dFmt (dV 2))] Str.empty))))
def t_p_plain_text : TF := tfOf N_p_plain_text b_p_plain_text
theorem c_p_plain_text {g : Bool} (T : Top K mg) : Cq g (L2.CX P w) P w K mg base 1 "plain_text" (spF ⟨base, K, ⟨false, Tz, false⟩⟩ mg 1 t_p_plain_text) := by
  exact Lw.Dn.dataQ T.d_p_plain_text sc_p_plain_text fun f cdv A outer s H E hr hg => (ds_cons (ds_asg (go_tup (gos_cons (go_name 1) (gos_cons (go_name 2) gos_nil))) (ps_asg (d_var (pv 0)) (pg_tup rfl (pgs_cons (pg_name (i := 1) sc_p_plain_text.nd rfl (Or.inl rfl)) (pgs_cons (pg_name (i := 2) sc_p_plain_text.nd rfl (Or.inl rfl)) pgs_nil))))) (ds_one (ds_ret (ps_ret (d_if (pe_ifExp (dt_cmp (pt_cmpR (op_eqG hr) (d_var (pv 2)) d_int (nomark _)) cd_eq) (d_cb (pe_callTy call_str_int rfl T.z_str (by decide +kernel) (da_cons (d_var (pv 1)) da_nil)) bd_str) (d_joined (ts := [(dFmt (dV 1)), (dC (.str "/")), (dFmt (dV 2))]) (pe_joined (.cons (d_fmt (pe_fmt (d_var (pv 1)))) (.cons d_str (.cons (d_fmt (pe_fmt (d_var (pv 2)))) .nil)))))))))))
def b_l_pick : TSD := (sRet (dOp fIx (dV 1) (dCall t_l_draw (dConsW 0 (dCons (dCB fLen (dCons (dV 1) dNil)) dNil)))))
def t_l_pick : TF := tfOf N_l_pick b_l_pick
theorem c_l_pick (T : Top K mg) : Cq true (L2.CX P w) P w K mg base 2 "_law_pick" (spF ⟨base, K, ⟨false, Tz, false⟩⟩ mg 2 t_l_pick) := by
  exact Lw.Dn.dataQ T.d_l_pick sc_l_pick fun f cdv A outer s H E hr hg => (ds_one (ds_ret (ps_ret (d_op (pe_ix ix_seq (d_var (pv 1)) (d_call (pe_clQ (E := fun _ => E) ((c_l_drawD T).cq) hr hg (fun σ => passAt (takes_of rfl rfl rfl rfl) σ) rfl (da_well (pv 0) (da_cons (d_cb (pe_callB call_len rfl T.z_len (by decide +kernel) (da_cons (d_var (pv 1)) da_nil)) bd_len) da_nil)))) (fun _ _ => rfl)) od_ix))))
def b_l_shared : TSD := (sSeq (sPar 0 1 (dCons (dCB fAbs (dCons (dV 0) dNil)) (dCons (dCB fAbs (dCons (dV 1) dNil)) dNil))) (sSeq (sWhile (dCmp fNe (dV 1) (dC (.int 0))) (sPar 0 1 (dCons (dV 1) (dCons (dOp fMod (dCB fIntO (dCons (dV 0) dNil)) (dV 1)) dNil)))) (sRet (dV 0))))
def t_l_shared : TF := tfOf N_l_shared b_l_shared
theorem c_l_shared {g : Bool} (T : Top K mg) : Cq g (L2.CX P w) P w K mg base 1 "_law_shared" (spF ⟨base, K, ⟨false, Tz, false⟩⟩ mg 2 t_l_shared) := by
  exact Lw.Dn.dataQ T.d_l_shared sc_l_shared fun f cdv A outer s H E hr hg => (ds_cons (ds_par (ps_par (i := 0) (j := 1) rfl sc_l_shared.nd rfl rfl (by decide) rfl rfl (da_cons (d_cb (pe_callB call_abs rfl T.z_abs (by decide +kernel) (da_cons (d_var (pv 0)) da_nil)) bd_i1) (da_cons (d_cb (pe_callB call_abs rfl T.z_abs (by decide +kernel) (da_cons (d_var (pv 1)) da_nil)) bd_i1) da_nil)) rfl)) (ds_cons (ds_while (ps_while PassesOwn.leaving (dt_cmp (pt_cmpR (op_neG hr) (d_var (pv 1)) d_int (nomark _)) cd_ne) (ds_one (ds_par (ps_par (i := 0) (j := 1) rfl sc_l_shared.nd rfl rfl (by decide) rfl rfl (da_cons (d_var (pv 1)) (da_cons (d_op (pe_op op_mod (d_cb (pe_callTy call_int1 rfl T.z_int (by decide +kernel) (da_cons (d_var (pv 0)) da_nil)) bd_int) (d_var (pv 1))) od_int) da_nil)) rfl))))) (ds_one (ds_ret (ps_ret (d_var (pv 0)))))))
def b_l_kept : TSD := (sRet (dC (.tuple [(.str "all"), (.str "none"), (.str "half"), (.str "disc"), (.str "box"), (.str "polygon"), (.str "not"), (.str "move"), (.str "scale"), (.str "turn"), (.str "mirror"), (.str "lead"), (.str "flip"), (.str "repeat"), (.str "let")])))
def t_l_kept : TF := tfOf N_l_kept b_l_kept
theorem c_l_kept {g : Bool} (T : Top K mg) : Cq g (L2.CX P w) P w K mg base 1 "_law_kept" (spF ⟨base, K, ⟨false, Tz, false⟩⟩ mg 0 t_l_kept) := by
  exact Lw.Dn.dataQ T.d_l_kept sc_l_kept fun f cdv A outer s H E hr hg => (ds_one (ds_ret (ps_ret (d_data (pd_tup (pda_cons pd_str (pda_cons pd_str (pda_cons pd_str (pda_cons pd_str (pda_cons pd_str (pda_cons pd_str (pda_cons pd_str (pda_cons pd_str (pda_cons pd_str (pda_cons pd_str (pda_cons pd_str (pda_cons pd_str (pda_cons pd_str (pda_cons pd_str (pda_cons pd_str pda_nil))))))))))))))))))))
def b_l_scan : TSD := (sSeq (sOwnSS 1 2 3 4 "abcdefghijklmnopqrstuvwxyz" "0123456789" 0) (sSeq (sFor (iRg1 (dCons (dCB fLen (dCons (dV 0) dNil)) dNil)) (gdN 5) (sSeq (sIf (dCmp fGe (dV 4) (dCB fLen (dCons (dV 0) dNil))) sBrk sNx) (sSeq (sPar3 6 7 4 (dCons (dV 4) (dCons (dOp fIxS (dV 0) (dV 4)) (dCons (dOp fAddG (dV 4) (dC (.int 1))) dNil)))) (sIf (dCmp fEq (dV 7) (dC (.str "#"))) (sSeq (sSet 8 (dFind 10 (dV 0) (dV 6))) (sSet 4 (dIf (dCmp fGe (dV 8) (dC (.int 0))) (dV 8) (dCB fLen (dCons (dV 0) dNil))))) (sIf (dCmp fNotInS (dV 7) (dC (.str " \n"))) (sSeq (sSet 9 (dIf (dCmp fInS (dV 7) (dV 2)) (dV 2) (dIf (dCmp fInS (dV 7) (dV 1)) (dOp fAddG (dOp fAddG (dV 1) (dV 2)) (dC (.str "_"))) (dC (.str ""))))) (sSeq (sWhile (dAnd (dCmp fLt (dV 4) (dCB fLen (dCons (dV 0) dNil))) (dCmp fInS (dOp fIxS (dV 0) (dV 4)) (dV 9))) (sSet 4 (dOp fAddG (dV 4) (dC (.int 1))))) (sApp 3 (dTup (dCons (dV 6) (dCons (dSlT (dV 0) (dPart (dV 6)) (dPart (dV 4))) dNil)))))) sNx))))) (sSeq (sFrz 3) (sRet (dV 3)))))
def t_l_scan : TF := tfOf N_l_scan b_l_scan
theorem c_l_scan {g : Bool} (T : Top K mg) : Cq g (L2.CX P w) P w K mg base 1 "_law_scan" (spF ⟨base, K, ⟨false, Tz, false⟩⟩ mg 1 t_l_scan) := by
  exact Lw.Dn.dataQ T.d_l_scan sc_l_scan fun f cdv A outer s H E hr hg => (ds_cons (ds_ownSS (ps_asg (pe_tup (pa_cons pe_str (pa_cons pe_str (pa_cons (pe_lsN pa_nil) (pa_cons pe_int pa_nil))))) (pg_tup rfl (pgs_cons (pg_name (i := 1) sc_l_scan.nd rfl (Or.inl rfl)) (pgs_cons (pg_name (i := 2) sc_l_scan.nd rfl (Or.inl rfl)) (pgs_cons (pg_name (i := 3) sc_l_scan.nd rfl (Or.inl rfl)) (pgs_cons (pg_name (i := 4) sc_l_scan.nd rfl (Or.inl rfl)) pgs_nil))))))) (ds_cons (ds_for io_rg1 (go_name 5) (ps_for PassesOwn.leaving rfl (pi_range1 rfl T.z_range (da_cons (d_cb (pe_callB call_len rfl T.z_len (by decide +kernel) (da_cons (d_var (pv 0)) da_nil)) bd_len) da_nil)) (pg_name (i := 5) sc_l_scan.nd rfl (Or.inl rfl)) (ds_cons (ds_if (ps_if (dt_cmp (pt_cmpR op_ge (d_var (pv 4)) (d_cb (pe_callB call_len rfl T.z_len (by decide +kernel) (da_cons (d_var (pv 0)) da_nil)) bd_len) (nomark _)) cd_int) (ds_one (ds_brk ps_break)) ds_nil)) (ds_cons (ds_par3 (ps_par3 (i := 6) (j := 7) (l := 4) rfl sc_l_scan.nd rfl rfl rfl (by decide) (by decide) (by decide) rfl rfl rfl (da_cons (d_var (pv 4)) (da_cons (d_op (pe_ix ix_seq (d_var (pv 0)) (d_var (pv 4)) (fun _ _ => rfl)) od_ixS) (da_cons (d_op (pe_op op_addG (d_var (pv 4)) d_int) od_addG) da_nil))) rfl)) (ds_one (ds_if (ps_if (dt_cmp (pt_cmpR (op_eqG hr) (d_var (pv 7)) d_str (nomark _)) cd_eq) (ds_cons (ds_set (ps_set (i := 8) sc_l_scan.nd rfl (Or.inl rfl) (d_find (z := "\n") (by decide +kernel) (pe_bm PySem.F.plainAttrs_str PySem.F.slot_str_find PySem.F.type_str_find mt_find3 (d_var (pv 0)) (pa_cons pe_str (pa_cons (d_var (pv 6)) pa_nil)))))) (ds_one (ds_set (ps_set (i := 4) sc_l_scan.nd rfl (Or.inl rfl) (d_if (pe_ifExp (dt_cmp (pt_cmpR op_ge (d_var (pv 8)) d_int (nomark _)) cd_int) (d_var (pv 8)) (d_cb (pe_callB call_len rfl T.z_len (by decide +kernel) (da_cons (d_var (pv 0)) da_nil)) bd_len))))))) (ds_one (ds_if (ps_if (dt_cmp (pt_cmpR op_notIn_sign (d_var (pv 7)) d_str rfl) cd_notInS) (ds_cons (ds_set (ps_set (i := 9) sc_l_scan.nd rfl (Or.inl rfl) (d_if (pe_ifExp (dt_cmp (pt_cmpR op_in_sign (d_var (pv 7)) (d_var (pv 2)) rfl) cd_inS) (d_var (pv 2)) (d_if (pe_ifExp (dt_cmp (pt_cmpR op_in_sign (d_var (pv 7)) (d_var (pv 1)) rfl) cd_inS) (d_op (pe_op op_addG (d_op (pe_op op_addG (d_var (pv 1)) (d_var (pv 2))) od_addG) d_str) od_addG) d_str)))))) (ds_cons (ds_while (ps_while PassesOwn.leaving (PW.pt (dw_and (pw_and (dt_cmp (pt_cmpR op_lt (d_var (pv 4)) (d_cb (pe_callB call_len rfl T.z_len (by decide +kernel) (da_cons (d_var (pv 0)) da_nil)) bd_len) (nomark _)) cd_int) (pw_and1 (dt_cmp (pt_cmpR op_in_sign (d_op (pe_ix ix_seq (d_var (pv 0)) (d_var (pv 4)) (fun _ _ => rfl)) od_ixS) (d_var (pv 9)) rfl) cd_inS))))) (ds_one (ds_set (ps_set (i := 4) sc_l_scan.nd rfl (Or.inl rfl) (d_op (pe_op op_addG (d_var (pv 4)) d_int) od_addG)))))) (ds_one (ds_app (ps_expr (pe_bm PySem.F.plainAttrs_list PySem.F.slot_list_append PySem.F.type_list_append mt_append (pv 3) (da_cons (d_tup (da_cons (d_var (pv 6)) (da_cons (d_slT (pe_slice sl_str (d_var (pv 0)) (dp_some (d_var (pv 6))) (dp_some (d_var (pv 4))))) da_nil))) da_nil))))))) ds_nil)))))))))) (ds_frz (ds_one (ds_ret (ps_ret (d_var (pv 3))))))))
def b_p_is_fraction : TSD := (sSeq (sIf (dOr (dNot (dTst (dUn (fun d R => R (.bool (isTup d))) (dV 0)))) (dCmp fNe (dCB fLen (dCons (dV 0) dNil)) (dC (.int 2)))) (sRet (dC (.bool false))) sNx) (sSeq (sIf (dOr (dNot (dTst (dCall t_p_is_whole (dCons (dUn (fNth 0) (dV 0)) dNil)))) (dNot (dTst (dCall t_p_is_whole (dCons (dUn (fNth 1) (dV 0)) dNil))))) (sRet (dC (.bool false))) sNx) (sRet (dAndV (dCmpV fGt (dUn (fNth 1) (dV 0)) (dC (.int 0))) (dCmpV fEq (dCB fGcd (dCons (dUn (fNth 0) (dV 0)) (dCons (dUn (fNth 1) (dV 0)) dNil))) (dC (.int 1)))))))
def t_p_is_fraction : TF := tfOf N_p_is_fraction b_p_is_fraction
theorem c_p_is_fraction {g : Bool} (T : Top K mg) : Cq g (L2.CX P w) P w K mg base 2 "is_fraction" (spF ⟨base, K, ⟨false, Tz, false⟩⟩ mg 1 t_p_is_fraction) := by
  exact Lw.Dn.dataQ T.d_p_is_fraction sc_p_is_fraction fun f cdv A outer s H E hr hg => (ds_cons (ds_if (ps_if (PW.pt (dw_or (pw_or (dt_not (pt_not (dt_val (pt_truth (d_isi (pe_callB (Ld.call_isD kit_tup) rfl T.z_isinstance (by decide +kernel) (pa_cons (d_var (pv 0)) (pa_cons (pe_bltn (v := .ty "tuple") rfl T.z_tuple (by decide +kernel) rfl) pa_nil)))) (by intro _; rfl))))) (pw_or1 (dt_cmp (pt_cmpR (op_neG hr) (d_cb (pe_callB call_len rfl T.z_len (by decide +kernel) (da_cons (d_var (pv 0)) da_nil)) bd_len) d_int (nomark _)) cd_ne))))) (ds_one (ds_ret (ps_ret d_bl))) ds_nil)) (ds_cons (ds_if (ps_if (PW.pt (dw_or (pw_or (dt_not (pt_not (dt_val (pt_truth (d_call (pe_clQ (E := fun _ => E) (c_p_is_whole T) hr hg (fun σ => passAt (takes_of rfl rfl rfl rfl) σ) rfl (da_cons (d_nth (pe_ix ix_seq (d_var (pv 0)) pe_int (fun _ _ => rfl))) da_nil))) (by intro _; rfl))))) (pw_or1 (dt_not (pt_not (dt_val (pt_truth (d_call (pe_clQ (E := fun _ => E) (c_p_is_whole T) hr hg (fun σ => passAt (takes_of rfl rfl rfl rfl) σ) rfl (da_cons (d_nth (pe_ix ix_seq (d_var (pv 0)) pe_int (fun _ _ => rfl))) da_nil))) (by intro _; rfl))))))))) (ds_one (ds_ret (ps_ret d_bl))) ds_nil)) (ds_one (ds_ret (ps_ret (d_andV (pe_andT (d_cmp (pe_cmpR op_gt (d_nth (pe_ix ix_seq (d_var (pv 0)) pe_int (fun _ _ => rfl))) d_int (nomark _)) cd_int) (pe_one (d_cmp (pe_cmpR (op_eqG hr) (d_cb (pe_callBfun cr_gcd rfl T.g_gcd (da_cons (d_nth (pe_ix ix_seq (d_var (pv 0)) pe_int (fun _ _ => rfl))) (da_cons (d_nth (pe_ix ix_seq (d_var (pv 0)) pe_int (fun _ _ => rfl))) da_nil))) bd_i2) d_int (nomark _)) cd_eq)))))))))
def b_p_words_of : TSD := (sSeq (sIf (dNot (dTst (dUn (fun d R => R (.bool (isStr d))) (dV 0)))) (sRaise "BadText" "spot" (dCons (dC .none) dNil)) sNx) (sSeq (sOwnC 1 2 0) (sSeq (sWhile (dCmp fLt (dV 2) (dCB fLen (dCons (dV 0) dNil))) (sSeq (sSet 3 (dCall t_p_end_at (dCons (dV 0) (dCons (dV 2) dNil)))) (sSeq (sIf (dAnd (dCmp fNe (dOp fIxS (dV 0) (dV 2)) (dC (.str "#"))) (dCmp fNotInS (dOp fIxS (dV 0) (dV 2)) (dC (.str " \n")))) (sApp 1 (dTup (dCons (dV 2) (dCons (dSlT (dV 0) (dPart (dV 2)) (dPart (dV 3))) dNil)))) sNx) (sSet 2 (dV 3))))) (sSeq (sFrz 1) (sRet (dCB fTupO (dCons (dV 1) dNil)))))))
def t_p_words_of : TF := tfOf N_p_words_of b_p_words_of
theorem c_p_words_of {g : Bool} (T : Top K mg) : Cq g (L2.CX P w) P w K mg base 3 "words_of" (spF ⟨base, K, ⟨false, Tz, false⟩⟩ mg 1 t_p_words_of) := by
  obtain ⟨C_BadText, fI_BadText, fd_BadText, ec_BadText⟩ := T.e_BadText
  obtain ⟨tk_BLANKS, gl_BLANKS⟩ := T.k_BLANKS
  exact Lw.Dn.dataQ T.d_p_words_of sc_p_words_of fun f cdv A outer s H E hr hg => (ds_cons (ds_if (ps_if (dt_not (pt_not (dt_val (pt_truth (d_isi (pe_callB (Ld.call_isD kit_str) rfl T.z_isinstance (by decide +kernel) (pa_cons (d_var (pv 0)) (pa_cons (pe_bltn (v := .ty "str") rfl T.z_str (by decide +kernel) rfl) pa_nil)))) (by intro _; rfl))))) (ds_one (ds_raise ec_BadText (ps_raise (W := fun cls d _ H => E cls d H) rfl (takes_of rfl rfl rfl rfl) (pmk1 ec_BadText (i_BadText ec_BadText) hr rfl (da_cons d_non da_nil))))) ds_nil)) (ds_cons (ds_ownC (ps_par (i := 1) (j := 2) rfl sc_p_words_of.nd rfl rfl (by decide) rfl rfl (pa_cons (pe_lsN pa_nil) (pa_cons pe_int pa_nil)) rfl)) (ds_cons (ds_while (ps_while PassesOwn.leaving (dt_cmp (pt_cmpR op_lt (d_var (pv 2)) (d_cb (pe_callB call_len rfl T.z_len (by decide +kernel) (da_cons (d_var (pv 0)) da_nil)) bd_len) (nomark _)) cd_int) (ds_cons (ds_set (ps_set (i := 3) sc_p_words_of.nd rfl (Or.inl rfl) (d_call (pe_clQ (E := fun _ => E) (c_p_end_at T) hr hg (fun σ => passAt (takes_of rfl rfl rfl rfl) σ) rfl (da_cons (d_var (pv 0)) (da_cons (d_var (pv 2)) da_nil)))))) (ds_cons (ds_if (ps_if (PW.pt (dw_and (pw_and (dt_cmp (pt_cmpR (op_neG hr) (d_op (pe_ix ix_seq (d_var (pv 0)) (d_var (pv 2)) (fun _ _ => rfl)) od_ixS) d_str (nomark _)) cd_ne) (pw_and1 (dt_cmp (pt_cmpR op_notIn_sign (d_op (pe_ix ix_seq (d_var (pv 0)) (d_var (pv 2)) (fun _ _ => rfl)) od_ixS) (d_c (pe_glob (v := .str " \n") rfl gl_BLANKS ⟨_, rfl⟩) fun _ _ => .str _) rfl) cd_notInS))))) (ds_one (ds_app (ps_expr (pe_bm PySem.F.plainAttrs_list PySem.F.slot_list_append PySem.F.type_list_append mt_append (pv 1) (da_cons (d_tup (da_cons (d_var (pv 2)) (da_cons (d_slT (pe_slice sl_str (d_var (pv 0)) (dp_some (d_var (pv 2))) (dp_some (d_var (pv 3))))) da_nil))) da_nil))))) ds_nil)) (ds_one (ds_set (ps_set (i := 2) sc_p_words_of.nd rfl (Or.inl rfl) (d_var (pv 3))))))))) (ds_frz (ds_one (ds_ret (ps_ret (d_cb (pe_callTy call_tuple_of rfl T.z_tuple (by decide +kernel) (da_cons (d_var (pv 1)) da_nil)) bd_tup))))))))
def b_l_lean : TSD := (sSeq (sSet 2 (dCall t_l_shared (dCons (dV 0) (dCons (dV 1) dNil)))) (sSeq (sSet 2 (dIf (dCmp fGt (dV 1) (dC (.int 0))) (dV 2) (dOp fSub (dC (.int 0)) (dV 2)))) (sRet (dTup (dCons (dOp fFdv (dV 0) (dV 2)) (dCons (dOp fFdv (dV 1) (dV 2)) dNil))))))
def t_l_lean : TF := tfOf N_l_lean b_l_lean
theorem c_l_lean {g : Bool} (T : Top K mg) : Cq g (L2.CX P w) P w K mg base 2 "_law_lean" (spF ⟨base, K, ⟨false, Tz, false⟩⟩ mg 2 t_l_lean) := by
  exact Lw.Dn.dataQ T.d_l_lean sc_l_lean fun f cdv A outer s H E hr hg => (ds_cons (ds_set (ps_set (i := 2) sc_l_lean.nd rfl (Or.inl rfl) (d_call (pe_clQ (E := fun _ => E) (c_l_shared T) hr hg (fun σ => passAt (takes_of rfl rfl rfl rfl) σ) rfl (da_cons (d_var (pv 0)) (da_cons (d_var (pv 1)) da_nil)))))) (ds_cons (ds_set (ps_set (i := 2) sc_l_lean.nd rfl (Or.inl rfl) (d_if (pe_ifExp (dt_cmp (pt_cmpR op_gt (d_var (pv 1)) d_int (nomark _)) cd_int) (d_var (pv 2)) (d_op (pe_op op_sub d_int (d_var (pv 2))) od_int0))))) (ds_one (ds_ret (ps_ret (d_tup (da_cons (d_op (pe_op op_fdivZ (d_var (pv 0)) (d_var (pv 2))) od_int) (da_cons (d_op (pe_op op_fdivZ (d_var (pv 1)) (d_var (pv 2))) od_int) da_nil))))))))
def b_l_name : TSD := (sSeq (sSet 1 (dC (.str "abcdefghijklmnopqrstuvwxyz"))) (sSeq (sSet 2 (dOp fIxS (dV 1) (dCall t_l_draw (dConsW 0 (dCons (dC (.int 26)) dNil))))) (sSeq (sFor (iRg1 (dCons (dCall t_l_draw (dConsW 0 (dCons (dC (.int 4)) dNil))) dNil)) (gdN 3) (sSet 2 (dOp fAddG (dV 2) (dOp fIxS (dOp fAddG (dV 1) (dC (.str "0123456789_"))) (dCall t_l_draw (dConsW 0 (dCons (dC (.int 37)) dNil))))))) (sRet (dIf (dCmp (fInF false) (dV 2) (dCall t_l_kept dNil)) (dOp fAddG (dV 2) (dC (.str "_"))) (dV 2))))))
def t_l_name : TF := tfOf N_l_name b_l_name
theorem c_l_name (T : Top K mg) : Cq true (L2.CX P w) P w K mg base 2 "_law_name" (spF ⟨base, K, ⟨false, Tz, false⟩⟩ mg 1 t_l_name) := by
  exact Lw.Dn.dataQ T.d_l_name sc_l_name fun f cdv A outer s H E hr hg => (ds_cons (ds_set (ps_set (i := 1) sc_l_name.nd rfl (Or.inl rfl) d_str)) (ds_cons (ds_set (ps_set (i := 2) sc_l_name.nd rfl (Or.inl rfl) (d_op (pe_ix ix_seq (d_var (pv 1)) (d_call (pe_clQ (E := fun _ => E) ((c_l_drawD T).cq) hr hg (fun σ => passAt (takes_of rfl rfl rfl rfl) σ) rfl (da_well (pv 0) (da_cons d_int da_nil)))) (fun _ _ => rfl)) od_ixS))) (ds_cons (ds_for io_rg1 (go_name 3) (ps_for PassesOwn.leaving rfl (pi_range1 rfl T.z_range (da_cons (d_call (pe_clQ (E := fun _ => E) ((c_l_drawD T).cq) hr hg (fun σ => passAt (takes_of rfl rfl rfl rfl) σ) rfl (da_well (pv 0) (da_cons d_int da_nil)))) da_nil)) (pg_name (i := 3) sc_l_name.nd rfl (Or.inl rfl)) (ds_one (ds_set (ps_set (i := 2) sc_l_name.nd rfl (Or.inl rfl) (d_op (pe_op op_addG (d_var (pv 2)) (d_op (pe_ix ix_seq (d_op (pe_op op_addG (d_var (pv 1)) d_str) od_addG) (d_call (pe_clQ (E := fun _ => E) ((c_l_drawD T).cq) hr hg (fun σ => passAt (takes_of rfl rfl rfl rfl) σ) rfl (da_well (pv 0) (da_cons d_int da_nil)))) (fun _ _ => rfl)) od_ixS)) od_addG)))))) (ds_one (ds_ret (ps_ret (d_if (pe_ifExp (dt_cmp (pt_cmpR op_in_seq (d_var (pv 2)) (d_call0 (pe_clQ0 (E := fun _ => E) (c_l_kept T) hr hg (fun σ => passAt (takes_of rfl rfl rfl rfl) σ) rfl)) rfl) cd_inF) (d_op (pe_op op_addG (d_var (pv 2)) d_str) od_addG) (d_var (pv 2))))))))))
def b_l_is_name : TSD := (sSeq (sIf (dOr (dNot (dTst (dUn (fun d R => R (.bool (isStr d))) (dV 0)))) (dOr (dNot (dChainT fLt fLt (dC (.int 0)) (dCB fLen (dCons (dV 0) dNil)) (dC (.int 25)))) (dCmp (fInF false) (dV 0) (dCall t_l_kept dNil)))) (sRet (dC (.bool false))) sNx) (sSeq (sSet 1 (dC (.str "abcdefghijklmnopqrstuvwxyz0123456789_"))) (sRet (dAndV (dCmpV fInS (dOp fIxS (dV 0) (dC (.int 0))) (dSlT (dV 1) dNoP (dPart (dC (.int 26))))) (dCB fAll (dCons (dLc (iTx (dV 0)) [2] (gdN 2) dYes (dCmpV fInS (dV 2) (dV 1))) dNil))))))
def t_l_is_name : TF := tfOf N_l_is_name b_l_is_name
theorem c_l_is_name {g : Bool} (T : Top K mg) : Cq g (L2.CX P w) P w K mg base 2 "_law_is_name" (spF ⟨base, K, ⟨false, Tz, false⟩⟩ mg 1 t_l_is_name) := by
  exact Lw.Dn.dataQ T.d_l_is_name sc_l_is_name fun f cdv A outer s H E hr hg => (ds_cons (ds_if (ps_if (PW.pt (dw_or (pw_or (dt_not (pt_not (dt_val (pt_truth (d_isi (pe_callB (Ld.call_isD kit_str) rfl T.z_isinstance (by decide +kernel) (pa_cons (d_var (pv 0)) (pa_cons (pe_bltn (v := .ty "str") rfl T.z_str (by decide +kernel) rfl) pa_nil)))) (by intro _; rfl))))) (dw_or (pw_or (dt_not (pt_not (dt_chain (pt_chain op_lt op_lt d_int (d_cb (pe_callB call_len rfl T.z_len (by decide +kernel) (da_cons (d_var (pv 0)) da_nil)) bd_len) d_int) cd_int cd_int))) (pw_or1 (dt_cmp (pt_cmpR op_in_seq (d_var (pv 0)) (d_call0 (pe_clQ0 (E := fun _ => E) (c_l_kept T) hr hg (fun σ => passAt (takes_of rfl rfl rfl rfl) σ) rfl)) rfl) cd_inF))))))) (ds_one (ds_ret (ps_ret d_bl))) ds_nil)) (ds_cons (ds_set (ps_set (i := 1) sc_l_is_name.nd rfl (Or.inr rfl) d_str)) (ds_one (ds_ret (ps_ret (d_andV (pe_andT (d_cmp (pe_cmpR op_in_sign (d_op (pe_ix ix_seq (d_var (pv 0)) d_int (fun _ _ => rfl)) od_ixS) (d_slT (pe_slice sl_str (d_var (pv 1)) dp_none (dp_some d_int))) rfl) cd_inS) (pe_one (d_cb (pe_callB (cr_all rfl) rfl T.z_all (by decide +kernel) (da_cons (d_lc io_str (go_name 2) (pe_lc (own := [("_law_sign", 2)]) (g := (gName 2)) rfl sc_l_is_name.nd (pi_str (d_var (pv 0))) (blkOk_by (own := [("_law_sign", 2)]) (N := N_l_is_name) (sc := defScope s_l_is_name) (by decide +kernel)) (fun _ _ _ _ _ => (pg_name (i := 2) sc_l_is_name.nd rfl (Or.inl rfl))) (fun _ _ _ _ _ => lt_blk dts_nil) (fun _ _ _ _ _ => le_blk (d_cmp (pe_cmpR op_in_sign (d_var (pv 2)) (d_var (pv 1)) rfl) cd_inS)))) da_nil)) bd_bools)))))))))
def b_p_check_fraction : TSD := (sIf (dNot (dTst (dCall t_p_is_fraction (dCons (dV 0) dNil)))) (sRaise "InvalidFraction" "given" (dCons (dV 0) dNil)) sNx)
def t_p_check_fraction : TF := tfOf N_p_check_fraction b_p_check_fraction
theorem c_p_check_fraction {g : Bool} (T : Top K mg) : Cq g (L2.CX P w) P w K mg base 3 "check_fraction" (spF ⟨base, K, ⟨false, Tz, false⟩⟩ mg 1 t_p_check_fraction) := by
  obtain ⟨C_InvalidFraction, fI_InvalidFraction, fd_InvalidFraction, ec_InvalidFraction⟩ := T.e_InvalidFraction
  exact Lw.Dn.dataQ T.d_p_check_fraction sc_p_check_fraction fun f cdv A outer s H E hr hg => (ds_one (ds_if (ps_if (dt_not (pt_not (dt_val (pt_truth (d_call (pe_clQ (E := fun _ => E) (c_p_is_fraction T) hr hg (fun σ => passAt (takes_of rfl rfl rfl rfl) σ) rfl (da_cons (d_var (pv 0)) da_nil))) (by intro _; rfl))))) (ds_one (ds_raise ec_InvalidFraction (ps_raise (W := fun cls d _ H => E cls d H) rfl (takes_of rfl rfl rfl rfl) (pmk1 ec_InvalidFraction (i_InvalidFraction ec_InvalidFraction) hr rfl (da_cons (d_var (pv 0)) da_nil))))) ds_nil)))
end
end My

set_option maxHeartbeats 4000000
namespace My
open PySem L2 Ld
open Lw hiding Dv DvAll FreshB tData tDatas pd_int pd_bl pd_non pd_str pd_neg pd_pow pda_nil pda_cons pd_tup pd_lst pd_dct dv_cut dv_cat tup_at rRepr call_repr rIsD call_isD
section
variable {P : Program} {w : World} {K : PySem.W.Frag} {mg : Str → Option Value} {base : Heap} {Tz : List (Addr × Str)}
def b_l_piece : TSD := (sSeq (sSet 1 (dC (.str " \n#abcxyz0159_AZ!|&-()=;,/.:*<>?\x40[]^{}~+$'\"\\`q7"))) (sSeq (sSet 2 (dCall t_l_draw (dConsW 0 (dCons (dC (.int 30)) dNil)))) (sSeq (sIf (dCmp fLt (dV 2) (dC (.int 16))) (sRet (dOp fIxS (dV 1) (dCall t_l_draw (dConsW 0 (dCons (dCB fLen (dCons (dV 1) dNil)) dNil))))) sNx) (sSeq (sIf (dCmp fLt (dV 2) (dC (.int 19))) (sRet (dCall t_l_name (dConsW 0 dNil))) sNx) (sSeq (sIf (dCmp fLt (dV 2) (dC (.int 22))) (sRet (dCB fStrO (dCons (dCall t_l_draw (dConsW 0 (dCons (dC (.int 10000)) dNil))) dNil))) sNx) (sSeq (sIf (dCmp fLt (dV 2) (dC (.int 25))) (sRet (dCall t_l_pick (dConsW 0 (dCons (dCall t_l_kept dNil) dNil)))) sNx) (sSeq (sIf (dCmp fLt (dV 2) (dC (.int 29))) (sRet (dOp fIx (dC (.tuple [(.str " "), (.str "  "), (.str "\n"), (.str "# x y_1 9\n")])) (dOp fSub (dV 2) (dC (.int 25))))) sNx) (sRet (dOp fRepS (dCall t_l_pick (dConsW 0 (dCons (dC (.tuple [(.str "a"), (.str "7"), (.str "_"), (.str "z9")])) dNil))) (dCall t_l_pick (dConsW 0 (dCons (dC (.tuple [(.int 24), (.int 25), (.int 12), (.int 400), (.int 401)])) dNil))))))))))))
def t_l_piece : TF := tfOf N_l_piece b_l_piece
theorem c_l_piece (T : Top K mg) : Cq true (L2.CX P w) P w K mg base 3 "_law_piece" (spF ⟨base, K, ⟨false, Tz, false⟩⟩ mg 1 t_l_piece) := by
  exact Lw.Dn.dataQ T.d_l_piece sc_l_piece fun f cdv A outer s H E hr hg => (ds_cons (ds_set (ps_set (i := 1) sc_l_piece.nd rfl (Or.inl rfl) d_str)) (ds_cons (ds_set (ps_set (i := 2) sc_l_piece.nd rfl (Or.inl rfl) (d_call (pe_clQ (E := fun _ => E) ((c_l_drawD T).cq) hr hg (fun σ => passAt (takes_of rfl rfl rfl rfl) σ) rfl (da_well (pv 0) (da_cons d_int da_nil)))))) (ds_cons (ds_if (ps_if (dt_cmp (pt_cmpR op_lt (d_var (pv 2)) d_int (nomark _)) cd_int) (ds_one (ds_ret (ps_ret (d_op (pe_ix ix_seq (d_var (pv 1)) (d_call (pe_clQ (E := fun _ => E) ((c_l_drawD T).cq) hr hg (fun σ => passAt (takes_of rfl rfl rfl rfl) σ) rfl (da_well (pv 0) (da_cons (d_cb (pe_callB call_len rfl T.z_len (by decide +kernel) (da_cons (d_var (pv 1)) da_nil)) bd_len) da_nil)))) (fun _ _ => rfl)) od_ixS)))) ds_nil)) (ds_cons (ds_if (ps_if (dt_cmp (pt_cmpR op_lt (d_var (pv 2)) d_int (nomark _)) cd_int) (ds_one (ds_ret (ps_ret (d_call (pe_clQ (E := fun _ => E) (c_l_name T) hr hg (fun σ => passAt (takes_of rfl rfl rfl rfl) σ) rfl (da_well (pv 0) da_nil)))))) ds_nil)) (ds_cons (ds_if (ps_if (dt_cmp (pt_cmpR op_lt (d_var (pv 2)) d_int (nomark _)) cd_int) (ds_one (ds_ret (ps_ret (d_cb (pe_callTy call_str_int rfl T.z_str (by decide +kernel) (da_cons (d_call (pe_clQ (E := fun _ => E) ((c_l_drawD T).cq) hr hg (fun σ => passAt (takes_of rfl rfl rfl rfl) σ) rfl (da_well (pv 0) (da_cons d_int da_nil)))) da_nil)) bd_str)))) ds_nil)) (ds_cons (ds_if (ps_if (dt_cmp (pt_cmpR op_lt (d_var (pv 2)) d_int (nomark _)) cd_int) (ds_one (ds_ret (ps_ret (d_call (pe_clQ (E := fun _ => E) (c_l_pick T) hr hg (fun σ => passAt (takes_of rfl rfl rfl rfl) σ) rfl (da_well (pv 0) (da_cons (d_call0 (pe_clQ0 (E := fun _ => E) (c_l_kept T) hr hg (fun σ => passAt (takes_of rfl rfl rfl rfl) σ) rfl)) da_nil))))))) ds_nil)) (ds_cons (ds_if (ps_if (dt_cmp (pt_cmpR op_lt (d_var (pv 2)) d_int (nomark _)) cd_int) (ds_one (ds_ret (ps_ret (d_op (pe_ix ix_seq (d_data (pd_tup (pda_cons pd_str (pda_cons pd_str (pda_cons pd_str (pda_cons pd_str pda_nil)))))) (d_op (pe_op op_sub (d_var (pv 2)) d_int) od_int0) (fun _ _ => rfl)) od_ix)))) ds_nil)) (ds_one (ds_ret (ps_ret (d_op (pe_op op_repS (d_call (pe_clQ (E := fun _ => E) (c_l_pick T) hr hg (fun σ => passAt (takes_of rfl rfl rfl rfl) σ) rfl (da_well (pv 0) (da_cons (d_data (pd_tup (pda_cons pd_str (pda_cons pd_str (pda_cons pd_str (pda_cons pd_str pda_nil)))))) da_nil)))) (d_call (pe_clQ (E := fun _ => E) (c_l_pick T) hr hg (fun σ => passAt (takes_of rfl rfl rfl rfl) σ) rfl (da_well (pv 0) (da_cons (d_data (pd_tup (pda_cons pd_int (pda_cons pd_int (pda_cons pd_int (pda_cons pd_int (pda_cons pd_int pda_nil))))))) da_nil))))) od_repS)))))))))))
def b_l_part : TSD := (sSeq (sIf (dCmp fEq (dCall t_l_draw (dConsW 0 (dCons (dC (.int 9)) dNil))) (dC (.int 0))) (sRet (dCall t_l_lean (dCons (dOp fSub (dCall t_l_draw (dConsW 0 (dCons (dOp fPow (dC (.int 10)) (dC (.int 12))) dNil))) (dOp fPow (dC (.int 10)) (dC (.int 11)))) (dCons (dOp fAddG (dC (.int 1)) (dCall t_l_draw (dConsW 0 (dCons (dOp fPow (dC (.int 10)) (dC (.int 9))) dNil)))) dNil)))) sNx) (sRet (dCall t_l_lean (dCons (dOp fSub (dCall t_l_draw (dConsW 0 (dCons (dC (.int 41)) dNil))) (dC (.int 20))) (dCons (dOp fAddG (dC (.int 1)) (dCall t_l_draw (dConsW 0 (dCons (dC (.int 9)) dNil)))) dNil)))))
def t_l_part : TF := tfOf N_l_part b_l_part
theorem c_l_part (T : Top K mg) : Cq true (L2.CX P w) P w K mg base 3 "_law_part" (spF ⟨base, K, ⟨false, Tz, false⟩⟩ mg 1 t_l_part) := by
  exact Lw.Dn.dataQ T.d_l_part sc_l_part fun f cdv A outer s H E hr hg => (ds_cons (ds_if (ps_if (dt_cmp (pt_cmpR (op_eqG hr) (d_call (pe_clQ (E := fun _ => E) ((c_l_drawD T).cq) hr hg (fun σ => passAt (takes_of rfl rfl rfl rfl) σ) rfl (da_well (pv 0) (da_cons d_int da_nil)))) d_int (nomark _)) cd_eq) (ds_one (ds_ret (ps_ret (d_call (pe_clQ (E := fun _ => E) (c_l_lean T) hr hg (fun σ => passAt (takes_of rfl rfl rfl rfl) σ) rfl (da_cons (d_op (pe_op op_sub (d_call (pe_clQ (E := fun _ => E) ((c_l_drawD T).cq) hr hg (fun σ => passAt (takes_of rfl rfl rfl rfl) σ) rfl (da_well (pv 0) (da_cons (d_op (pe_op op_pow d_int d_int) od_int) da_nil)))) (d_op (pe_op op_pow d_int d_int) od_int)) od_int0) (da_cons (d_op (pe_op op_addG d_int (d_call (pe_clQ (E := fun _ => E) ((c_l_drawD T).cq) hr hg (fun σ => passAt (takes_of rfl rfl rfl rfl) σ) rfl (da_well (pv 0) (da_cons (d_op (pe_op op_pow d_int d_int) od_int) da_nil))))) od_addG) da_nil))))))) ds_nil)) (ds_one (ds_ret (ps_ret (d_call (pe_clQ (E := fun _ => E) (c_l_lean T) hr hg (fun σ => passAt (takes_of rfl rfl rfl rfl) σ) rfl (da_cons (d_op (pe_op op_sub (d_call (pe_clQ (E := fun _ => E) ((c_l_drawD T).cq) hr hg (fun σ => passAt (takes_of rfl rfl rfl rfl) σ) rfl (da_well (pv 0) (da_cons d_int da_nil)))) d_int) od_int0) (da_cons (d_op (pe_op op_addG d_int (d_call (pe_clQ (E := fun _ => E) ((c_l_drawD T).cq) hr hg (fun σ => passAt (takes_of rfl rfl rfl rfl) σ) rfl (da_well (pv 0) (da_cons d_int da_nil))))) od_addG) da_nil))))))))
def b_p_fraction_text : TSD := (sSeq (sExpr (dCall t_p_check_fraction (dCons (dV 0) dNil))) (sRet (dCall t_p_plain_text (dCons (dV 0) dNil))))
def t_p_fraction_text : TF := tfOf N_p_fraction_text b_p_fraction_text
theorem c_p_fraction_text {g : Bool} (T : Top K mg) : Cq g (L2.CX P w) P w K mg base 4 "fraction_text" (spF ⟨base, K, ⟨false, Tz, false⟩⟩ mg 1 t_p_fraction_text) := by
  exact Lw.Dn.dataQ T.d_p_fraction_text sc_p_fraction_text fun f cdv A outer s H E hr hg => (ds_cons (ds_expr (ps_expr (d_call (pe_clQ (E := fun _ => E) (c_p_check_fraction T) hr hg (fun σ => passAt (takes_of rfl rfl rfl rfl) σ) rfl (da_cons (d_var (pv 0)) da_nil))))) (ds_one (ds_ret (ps_ret (d_call (pe_clQ (E := fun _ => E) (c_p_plain_text T) hr hg (fun σ => passAt (takes_of rfl rfl rfl rfl) σ) rfl (da_cons (d_var (pv 0)) da_nil)))))))
def b_l_are_fractions_right : TSD := (sSeq (sAsg (dCall t_l_part (dConsW 0 dNil)) (gdT 2 (gdCons (gdN 2) (gdCons (gdN 3) gdNil)))) (sSeq (sIf (dCmp fNe (dCB fReprK (dCons (dCall t_p_fraction_text (dCons (dTup (dCons (dV 2) (dCons (dV 3) dNil))) dNil)) dNil)) (dCB fReprK (dCons (dIf (dCmp fGt (dV 3) (dC (.int 1))) (dJs [(dFmt (dV 2)), (dC (.str "/")), (dFmt (dV 3))] Str.empty) (dFmt (dV 2))) dNil))) (sRet (dC (.bool false))) sNx) (sSeq (sSet 1 (dCall t_l_pick (dConsW 0 (dCons (dTup (dCons (dV 1) (dCons (dTup (dCons (dOp fMul (dC (.int 2)) (dV 2)) (dCons (dOp fMul (dC (.int 2)) (dV 3)) dNil))) (dCons (dTup (dCons (dV 2) (dCons (dOp fSub (dC (.int 0)) (dV 3)) dNil))) (dCons (dLst (dCons (dV 2) (dCons (dV 3) dNil))) (dCons (dTup (dCons (dV 2) (dCons (dV 3) (dCons (dC (.int 1)) dNil)))) (dCons (dTup (dCons (dC (.bool true)) (dCons (dV 3) dNil))) (dCons (dV 2) (dCons (dTup (dCons (dV 2) dNil)) (dCons (dCB fStrO (dCons (dV 2) dNil)) (dCons (dC (.tuple [(.int 1), (.int 0)])) dNil))))))))))) dNil)))) (sSeq (sSet 4 (dAndV (dUn (fun d R => R (.bool (isTup d))) (dV 1)) (dAndV (dCmpV fEq (dCB fLen (dCons (dV 1) dNil)) (dC (.int 2))) (dCB fAll (dCons (dLc (iTpl (dV 1)) [5] (gdN 5) dYes (dUn (fun d R => R (.bool (isInt d))) (dV 5))) dNil))))) (sSeq (sSet 4 (dAndV (dV 4) (dNotV (dCB fAny (dCons (dLc (iTpl (dV 1)) [5] (gdN 5) dYes (dUn (fun d R => R (.bool (isBool d))) (dV 5))) dNil))))) (sSeq (sIf (dAnd (dTst (dV 4)) (dAnd (dCmp fGt (dUn (fNth 1) (dV 1)) (dC (.int 0))) (dCmp fEq (dCall t_l_shared (dCons (dUn (fNth 0) (dV 1)) (dCons (dUn (fNth 1) (dV 1)) dNil))) (dC (.int 1))))) (sRet (dC (.bool true))) sNx) (sRet (dCmpV fEq (dCB fReprK (dCons (dToldA true [("BadText", "spot", "spot"), ("InvalidFraction", "given", "fraction")] "value" (dCall t_p_fraction_text (dCons (dV 1) dNil))) dNil)) (dCB fReprK (dCons (dTup (dCons (dC (.str "fraction")) (dCons (dV 1) dNil))) dNil))))))))))
def t_l_are_fractions_right : TF := tfOf N_l_are_fractions_right b_l_are_fractions_right
theorem g_l_told {X : Cx} {C0 fI0 : Addr} {fd0 : FuncData} (e0 : Ec X.K X.mg "BadText" "spot" s_iBadText C0 fI0 fd0) {C1 fI1 : Addr} {fd1 : FuncData} (e1 : Ec X.K X.mg "InvalidFraction" "given" s_iInvalidFraction C1 fI1 fd1) (x0_1 : PySem.W.exmOne X.K (.ref C1) (.ref C0) = some false) (q : Str) (g : Addr) (cdg : Value) : LamX.GivesTo X N_l_told "_law_told" (defScope s_l_told) g cdg (defBody s_l_told) "_law_call" q (TToldA true [(C0, "spot", "spot"), (C1, "given", "fraction")] "value") := told_givesA2 (tp := true) sc_l_told.nd (fun _ => rfl) rfl rfl rfl rfl (by decide) (by decide) (by decide) (by decide) (fun s H => (HT.tup (X := (cxOf C8.CX0 X.prog X.w X.K X.mg X.base N_l_told "_law_told" (defScope s_l_told) g cdg X.A X.stack s H C8.E0).nox) rfl e0 rfl (by decide) (ap_cons x0_1 (fun q hq => absurd hq List.not_mem_nil)) (HT.tup (X := (cxOf C8.CX0 X.prog X.w X.K X.mg X.base N_l_told "_law_told" (defScope s_l_told) g cdg X.A X.stack s H C8.E0).nox) rfl e1 rfl (by decide) (fun q hq => absurd hq List.not_mem_nil) .nil)))
theorem c_l_are_fractions_right (T : Top K mg) {cM0 Pm0 cM1 Pm1 : Addr} (M0 : Dc K mg "_law_are_fractions_right" s_l_are_fractions_right ["_law_well_here", "_law_odd"] (.ref cM0)) (TB0 : LamX.TabB base mg cM0 Pm0) (M1 : Dc K mg "_law_is_right" s_l_is_right ["_law_well_here"] (.ref cM1)) (TB1 : LamX.TabB base mg cM1 Pm1) (ne01 : Pm0 ≠ Pm1) : Cq true (L2.CX P w) P w K mg base 7 "_law_are_fractions_right" (spF ⟨base, K, ⟨false, [(Pm0, (("_law_are_fractions_right" : Str) ++ (".<locals>." : Str)) ++ ("<lambda>" : Str)), (Pm1, (("_law_is_right" : Str) ++ (".<locals>." : Str)) ++ ("<lambda>" : Str))], false⟩⟩ mg 2 t_l_are_fractions_right) := by
  have hu0 : ∀ q ∈ ([(Pm0, (("_law_are_fractions_right" : Str) ++ (".<locals>." : Str)) ++ ("<lambda>" : Str)), (Pm1, (("_law_is_right" : Str) ++ (".<locals>." : Str)) ++ ("<lambda>" : Str))] : List (Addr × Str)), q.1 = Pm0 → q.2 = (("_law_are_fractions_right" : Str) ++ (".<locals>." : Str)) ++ ("<lambda>" : Str) := (Ld.hu_eq (Ld.hu_ne ne01.symm Ld.hu_nil))
  obtain ⟨C_BadText, fI_BadText, fd_BadText, ec_BadText⟩ := T.e_BadText
  obtain ⟨C_InvalidFraction, fI_InvalidFraction, fd_InvalidFraction, ec_InvalidFraction⟩ := T.e_InvalidFraction
  exact M0.data sc_l_are_fractions_right fun f A outer s H E hr hg => (ds_cons (ds_asg (go_tup (gos_cons (go_name 2) (gos_cons (go_name 3) gos_nil))) (ps_asg (d_call (pe_clQ (E := fun _ => E) (c_l_part T) hr hg (fun σ => passAt (takes_of rfl rfl rfl rfl) σ) rfl (da_well (pv 0) da_nil))) (pg_tup rfl (pgs_cons (pg_name (i := 2) sc_l_are_fractions_right.nd rfl (Or.inl rfl)) (pgs_cons (pg_name (i := 3) sc_l_are_fractions_right.nd rfl (Or.inl rfl)) pgs_nil))))) (ds_cons (ds_if (ps_if (dt_cmp (pt_cmpR (op_neG hr) (d_cb (pe_callB (call_reprK hr (hg rfl)) rfl T.z_repr (by decide +kernel) (da_cons (d_call (pe_clQ (E := fun _ => E) (c_p_fraction_text T) hr hg (fun σ => passAt (takes_of rfl rfl rfl rfl) σ) rfl (da_cons (d_tup (da_cons (d_var (pv 2)) (da_cons (d_var (pv 3)) da_nil))) da_nil))) da_nil)) bd_reprK) (d_cb (pe_callB (call_reprK hr (hg rfl)) rfl T.z_repr (by decide +kernel) (da_cons (d_if (pe_ifExp (dt_cmp (pt_cmpR op_gt (d_var (pv 3)) d_int (nomark _)) cd_int) (d_joined (ts := [(dFmt (dV 2)), (dC (.str "/")), (dFmt (dV 3))]) (pe_joined (.cons (d_fmt (pe_fmt (d_var (pv 2)))) (.cons d_str (.cons (d_fmt (pe_fmt (d_var (pv 3)))) .nil))))) (pe_joined1 (d_fmt (pe_fmt (d_var (pv 2))))))) da_nil)) bd_reprK) (nomark _)) cd_ne) (ds_one (ds_ret (ps_ret d_bl))) ds_nil)) (ds_cons (ds_set (ps_set (i := 1) sc_l_are_fractions_right.nd rfl (Or.inr rfl) (d_call (pe_clQ (E := fun _ => E) (c_l_pick T) hr hg (fun σ => passAt (takes_of rfl rfl rfl rfl) σ) rfl (da_well (pv 0) (da_cons (d_tup (da_cons (d_var (pv 1)) (da_cons (d_tup (da_cons (d_op (pe_op op_mulX d_int (d_var (pv 2))) od_int) (da_cons (d_op (pe_op op_mulX d_int (d_var (pv 3))) od_int) da_nil))) (da_cons (d_tup (da_cons (d_var (pv 2)) (da_cons (d_op (pe_op op_sub d_int (d_var (pv 3))) od_int0) da_nil))) (da_cons (d_lst (da_cons (d_var (pv 2)) (da_cons (d_var (pv 3)) da_nil))) (da_cons (d_tup (da_cons (d_var (pv 2)) (da_cons (d_var (pv 3)) (da_cons d_int da_nil)))) (da_cons (d_tup (da_cons d_bl (da_cons (d_var (pv 3)) da_nil))) (da_cons (d_var (pv 2)) (da_cons (d_tup (da_cons (d_var (pv 2)) da_nil)) (da_cons (d_cb (pe_callTy call_str_int rfl T.z_str (by decide +kernel) (da_cons (d_var (pv 2)) da_nil)) bd_str) (da_cons (d_data (pd_tup (pda_cons pd_int (pda_cons pd_int pda_nil)))) da_nil))))))))))) da_nil)))))) (ds_cons (ds_set (ps_set (i := 4) sc_l_are_fractions_right.nd rfl (Or.inl rfl) (d_andV (pe_andT (d_isi (pe_callB (Ld.call_isD kit_tup) rfl T.z_isinstance (by decide +kernel) (pa_cons (d_var (pv 1)) (pa_cons (pe_bltn (v := .ty "tuple") rfl T.z_tuple (by decide +kernel) rfl) pa_nil)))) (d_andV (pe_andT (d_cmp (pe_cmpR (op_eqG hr) (d_cb (pe_callB call_len rfl T.z_len (by decide +kernel) (da_cons (d_var (pv 1)) da_nil)) bd_len) d_int (nomark _)) cd_eq) (pe_one (d_cb (pe_callB (cr_all rfl) rfl T.z_all (by decide +kernel) (da_cons (d_lc io_tup (go_name 5) (pe_lc (own := [("_law_each", 5)]) (g := (gName 5)) rfl sc_l_are_fractions_right.nd (pi_tup (d_var (pv 1))) (blkOk_by (own := [("_law_each", 5)]) (N := N_l_are_fractions_right) (sc := defScope s_l_are_fractions_right) (by decide +kernel)) (fun _ _ _ _ _ => (pg_name (i := 5) sc_l_are_fractions_right.nd rfl (Or.inl rfl))) (fun _ _ _ _ _ => lt_blk dts_nil) (fun _ _ _ _ _ => le_blk (d_isi (pe_callB (Ld.call_isD kit_int) rfl T.z_isinstance (by decide +kernel) (pa_cons (d_var (pv 5)) (pa_cons (pe_bltn (v := .ty "int") rfl T.z_int (by decide +kernel) rfl) pa_nil))))))) da_nil)) bd_bools)))))))) (ds_cons (ds_set (ps_set (i := 4) sc_l_are_fractions_right.nd rfl (Or.inl rfl) (d_andV (pe_andT (d_var (pv 4)) (pe_one (d_notW (pe_notT (d_cb (pe_callB (cr_any rfl) rfl T.z_any (by decide +kernel) (da_cons (d_lc io_tup (go_name 5) (pe_lc (own := [("_law_each", 5)]) (g := (gName 5)) rfl sc_l_are_fractions_right.nd (pi_tup (d_var (pv 1))) (blkOk_by (own := [("_law_each", 5)]) (N := N_l_are_fractions_right) (sc := defScope s_l_are_fractions_right) (by decide +kernel)) (fun _ _ _ _ _ => (pg_name (i := 5) sc_l_are_fractions_right.nd rfl (Or.inl rfl))) (fun _ _ _ _ _ => lt_blk dts_nil) (fun _ _ _ _ _ => le_blk (d_isi (pe_callB (Ld.call_isD kit_bool) rfl T.z_isinstance (by decide +kernel) (pa_cons (d_var (pv 5)) (pa_cons (pe_bltn (v := .ty "bool") rfl T.z_bool (by decide +kernel) rfl) pa_nil))))))) da_nil)) bd_bools)))))))) (ds_cons (ds_if (ps_if (PW.pt (dw_and (pw_and (dt_val (pt_truth (d_var (pv 4)) (by intro _; rfl))) (dw_and (pw_and (dt_cmp (pt_cmpR op_gt (d_nth (pe_ix ix_seq (d_var (pv 1)) pe_int (fun _ _ => rfl))) d_int (nomark _)) cd_int) (pw_and1 (dt_cmp (pt_cmpR (op_eqG hr) (d_call (pe_clQ (E := fun _ => E) (c_l_shared T) hr hg (fun σ => passAt (takes_of rfl rfl rfl rfl) σ) rfl (da_cons (d_nth (pe_ix ix_seq (d_var (pv 1)) pe_int (fun _ _ => rfl))) (da_cons (d_nth (pe_ix ix_seq (d_var (pv 1)) pe_int (fun _ _ => rfl))) da_nil)))) d_int (nomark _)) cd_eq))))))) (ds_one (ds_ret (ps_ret d_bl))) ds_nil)) (ds_one (ds_ret (ps_ret (d_cmp (pe_cmpR (op_eqG hr) (d_cb (pe_callB (call_reprK hr (hg rfl)) rfl T.z_repr (by decide +kernel) (da_cons (d_lamT (td := (dToldA true [("BadText", "spot", "spot"), ("InvalidFraction", "given", "fraction")] "value")) (fun h => d_toldA (fun z => by cases z) (.cons ec_BadText.gC (.cons ec_InvalidFraction.gC .nil)) h) (k := 4) rfl T.d_l_told sc_l_told rfl (Or.inl rfl) (g_l_told ec_BadText ec_InvalidFraction (T.x_BadText_InvalidFraction _ _ ec_BadText.gC ec_InvalidFraction.gC) _) rfl TB0 rfl (.head _) hu0 (hr.mono (by decide)) (LamX.lamS_by (show LamX.lamSB (defScope s_l_are_fractions_right) _ = true by decide +kernel)) rfl (fun _ _ _ _ _ => rfl) (fun A outer s H E f c' hr => (d_call (pe_clQ (E := fun _ => E) (c_p_fraction_text T) hr (fun z : false = true => Bool.noConfusion z) (fun σ => passAt (takes_of rfl rfl rfl rfl) σ) rfl (da_cons (d_var (pv 1)) da_nil))))) da_nil)) bd_reprK) (d_cb (pe_callB (call_reprK hr (hg rfl)) rfl T.z_repr (by decide +kernel) (da_cons (d_tup (da_cons d_str (da_cons (d_var (pv 1)) da_nil))) da_nil)) bd_reprK) (nomark _)) cd_eq))))))))))
def b_l_is_right : TSD := (sSeq (sSet 1 (dC (.str ""))) (sSeq (sFor (iRg1 (dCons (dCall t_l_draw (dConsW 0 (dCons (dC (.int 61)) dNil))) dNil)) (gdN 2) (sSet 1 (dIf (dCmp fLt (dCB fLen (dCons (dV 1) dNil)) (dC (.int 1500))) (dOp fAddG (dV 1) (dCall t_l_piece (dConsW 0 dNil))) (dV 1)))) (sSeq (sSet 3 (dCall t_l_scan (dCons (dV 1) dNil))) (sSeq (sIf (dCmp fNe (dCB fReprK (dCons (dCall t_p_words_of (dCons (dV 1) dNil)) dNil)) (dCB fReprK (dCons (dCB fTupO (dCons (dV 3) dNil)) dNil))) (sRet (dC (.bool false))) sNx) (sSeq (sOwnC 4 5 0) (sSeq (sFor (iLst (dV 3)) (gdT 2 (gdCons (gdN 6) (gdCons (gdN 7) gdNil))) (sSeq (sApp 4 (dTup (dCons (dV 5) (dCons (dV 7) dNil)))) (sSet 5 (dOp fAddG (dOp fAddG (dV 5) (dCB fLen (dCons (dV 7) dNil))) (dC (.int 1)))))) (sSeq (sFrz 4) (sSeq (sIf (dCmp fNe (dCB fReprK (dCons (dCall t_p_words_of (dCons (dOp fJoin (dC (.str " ")) (dLcB (iLst (dV 3)) [6, 7] (gdT 2 (gdCons (gdN 6) (gdCons (gdN 7) gdNil))) dYes (dV 7))) dNil)) dNil)) (dCB fReprK (dCons (dCB fTupO (dCons (dV 4) dNil)) dNil))) (sRet (dC (.bool false))) sNx) (sSeq (sSet 8 (dCall t_l_pick (dConsW 0 (dCons (dC (.tuple [.none, (.bool true), (.int 0), (.int 7), (.tuple []), (.tuple [(.str "a")]), (.list [(.str "a")]), (.dict []), (.str ""), (.str "a b"), (.str " a"), (.str "a\n"), (.str "Ab"), (.str "a-b"), (.str "_a"), (.tuple [(.int 1), (.int 2)])])) dNil)))) (sSeq (sFor (iLst (dOp fAddG (dLc (iLst (dSl (dV 3) dNoP (dPart (dC (.int 9))))) [6, 7] (gdT 2 (gdCons (gdN 6) (gdCons (gdN 7) gdNil))) dYes (dV 7)) (dLst (dCons (dV 8) (dCons (dCall t_l_name (dConsW 0 dNil)) (dCons (dSlT (dV 1) dNoP (dPart (dC (.int 3)))) dNil)))))) (gdN 9) (sIf (dCmp fNe (dCB fReprK (dCons (dCall t_p_is_free_name (dCons (dV 9) dNil)) dNil)) (dCB fReprK (dCons (dCall t_l_is_name (dCons (dV 9) dNil)) dNil))) (sRet (dC (.bool false))) sNx)) (sSeq (sIf (dAnd (dNot (dTst (dUn (fun d R => R (.bool (isStr d))) (dV 8)))) (dCmp fNe (dCB fReprK (dCons (dToldA true [("BadText", "spot", "spot"), ("InvalidFraction", "given", "fraction")] "value" (dCall t_p_words_of (dCons (dV 8) dNil))) dNil)) (dCB fReprK (dCons (dC (.tuple [(.str "spot"), .none])) dNil)))) (sRet (dC (.bool false))) sNx) (sRet (dCall t_l_are_fractions_right (dConsW 0 (dCons (dV 8) dNil)))))))))))))))
def t_l_is_right : TF := tfOf N_l_is_right b_l_is_right
theorem c_l_is_right (T : Top K mg) {cM0 Pm0 cM1 Pm1 : Addr} (M0 : Dc K mg "_law_are_fractions_right" s_l_are_fractions_right ["_law_well_here", "_law_odd"] (.ref cM0)) (TB0 : LamX.TabB base mg cM0 Pm0) (M1 : Dc K mg "_law_is_right" s_l_is_right ["_law_well_here"] (.ref cM1)) (TB1 : LamX.TabB base mg cM1 Pm1) (ne01 : Pm0 ≠ Pm1) : Cq true (L2.CX P w) P w K mg base 8 "_law_is_right" (spF ⟨base, K, ⟨false, [(Pm0, (("_law_are_fractions_right" : Str) ++ (".<locals>." : Str)) ++ ("<lambda>" : Str)), (Pm1, (("_law_is_right" : Str) ++ (".<locals>." : Str)) ++ ("<lambda>" : Str))], false⟩⟩ mg 1 t_l_is_right) := by
  have hu1 : ∀ q ∈ ([(Pm0, (("_law_are_fractions_right" : Str) ++ (".<locals>." : Str)) ++ ("<lambda>" : Str)), (Pm1, (("_law_is_right" : Str) ++ (".<locals>." : Str)) ++ ("<lambda>" : Str))] : List (Addr × Str)), q.1 = Pm1 → q.2 = (("_law_is_right" : Str) ++ (".<locals>." : Str)) ++ ("<lambda>" : Str) := (Ld.hu_ne ne01 (Ld.hu_eq Ld.hu_nil))
  obtain ⟨C_BadText, fI_BadText, fd_BadText, ec_BadText⟩ := T.e_BadText
  obtain ⟨C_InvalidFraction, fI_InvalidFraction, fd_InvalidFraction, ec_InvalidFraction⟩ := T.e_InvalidFraction
  exact M1.data sc_l_is_right fun f A outer s H E hr hg => (ds_cons (ds_set (ps_set (i := 1) sc_l_is_right.nd rfl (Or.inl rfl) d_str)) (ds_cons (ds_for io_rg1 (go_name 2) (ps_for PassesOwn.leaving rfl (pi_range1 rfl T.z_range (da_cons (d_call (pe_clQ (E := fun _ => E) ((c_l_drawD T).cq) hr hg (fun σ => passAt (takes_of rfl rfl rfl rfl) σ) rfl (da_well (pv 0) (da_cons d_int da_nil)))) da_nil)) (pg_name (i := 2) sc_l_is_right.nd rfl (Or.inl rfl)) (ds_one (ds_set (ps_set (i := 1) sc_l_is_right.nd rfl (Or.inl rfl) (d_if (pe_ifExp (dt_cmp (pt_cmpR op_lt (d_cb (pe_callB call_len rfl T.z_len (by decide +kernel) (da_cons (d_var (pv 1)) da_nil)) bd_len) d_int (nomark _)) cd_int) (d_op (pe_op op_addG (d_var (pv 1)) (d_call (pe_clQ (E := fun _ => E) (c_l_piece T) hr hg (fun σ => passAt (takes_of rfl rfl rfl rfl) σ) rfl (da_well (pv 0) da_nil)))) od_addG) (d_var (pv 1))))))))) (ds_cons (ds_set (ps_set (i := 3) sc_l_is_right.nd rfl (Or.inl rfl) (d_call (pe_clQ (E := fun _ => E) (c_l_scan T) hr hg (fun σ => passAt (takes_of rfl rfl rfl rfl) σ) rfl (da_cons (d_var (pv 1)) da_nil))))) (ds_cons (ds_if (ps_if (dt_cmp (pt_cmpR (op_neG hr) (d_cb (pe_callB (call_reprK hr (hg rfl)) rfl T.z_repr (by decide +kernel) (da_cons (d_call (pe_clQ (E := fun _ => E) (c_p_words_of T) hr hg (fun σ => passAt (takes_of rfl rfl rfl rfl) σ) rfl (da_cons (d_var (pv 1)) da_nil))) da_nil)) bd_reprK) (d_cb (pe_callB (call_reprK hr (hg rfl)) rfl T.z_repr (by decide +kernel) (da_cons (d_cb (pe_callTy call_tuple_of rfl T.z_tuple (by decide +kernel) (da_cons (d_var (pv 3)) da_nil)) bd_tup) da_nil)) bd_reprK) (nomark _)) cd_ne) (ds_one (ds_ret (ps_ret d_bl))) ds_nil)) (ds_cons (ds_ownC (ps_par (i := 4) (j := 5) rfl sc_l_is_right.nd rfl rfl (by decide) rfl rfl (pa_cons (pe_lsN pa_nil) (pa_cons pe_int pa_nil)) rfl)) (ds_cons (ds_for io_list (go_tup (gos_cons (go_name 6) (gos_cons (go_name 7) gos_nil))) (ps_for PassesOwn.leaving rfl (pi_list (d_var (pv 3))) (pg_tup rfl (pgs_cons (pg_name (i := 6) sc_l_is_right.nd rfl (Or.inl rfl)) (pgs_cons (pg_name (i := 7) sc_l_is_right.nd rfl (Or.inl rfl)) pgs_nil))) (ds_cons (ds_app (ps_expr (pe_bm PySem.F.plainAttrs_list PySem.F.slot_list_append PySem.F.type_list_append mt_append (pv 4) (da_cons (d_tup (da_cons (d_var (pv 5)) (da_cons (d_var (pv 7)) da_nil))) da_nil)))) (ds_one (ds_set (ps_set (i := 5) sc_l_is_right.nd rfl (Or.inl rfl) (d_op (pe_op op_addG (d_op (pe_op op_addG (d_var (pv 5)) (d_cb (pe_callB call_len rfl T.z_len (by decide +kernel) (da_cons (d_var (pv 7)) da_nil)) bd_len)) od_addG) d_int) od_addG))))))) (ds_frz (ds_cons (ds_if (ps_if (dt_cmp (pt_cmpR (op_neG hr) (d_cb (pe_callB (call_reprK hr (hg rfl)) rfl T.z_repr (by decide +kernel) (da_cons (d_call (pe_clQ (E := fun _ => E) (c_p_words_of T) hr hg (fun σ => passAt (takes_of rfl rfl rfl rfl) σ) rfl (da_cons (d_join (pe_join d_str (d_lcB io_list (go_tup (gos_cons (go_name 6) (gos_cons (go_name 7) gos_nil))) (pe_lc (own := [("_law_spot", 6), ("_law_word", 7)]) (g := (gTup K 2 (gCons (gName 6) (gCons (gName 7) gNil)))) rfl sc_l_is_right.nd (pi_list (d_var (pv 3))) (blkOk_by (own := [("_law_spot", 6), ("_law_word", 7)]) (N := N_l_is_right) (sc := defScope s_l_is_right) (by decide +kernel)) (fun _ _ _ _ _ => (pg_tup rfl (pgs_cons (pg_name (i := 6) sc_l_is_right.nd rfl (Or.inl rfl)) (pgs_cons (pg_name (i := 7) sc_l_is_right.nd rfl (Or.inl rfl)) pgs_nil)))) (fun _ _ _ _ _ => lt_blk dts_nil) (fun _ _ _ _ _ => le_blk (d_var (pv 7))))))) da_nil))) da_nil)) bd_reprK) (d_cb (pe_callB (call_reprK hr (hg rfl)) rfl T.z_repr (by decide +kernel) (da_cons (d_cb (pe_callTy call_tuple_of rfl T.z_tuple (by decide +kernel) (da_cons (d_var (pv 4)) da_nil)) bd_tup) da_nil)) bd_reprK) (nomark _)) cd_ne) (ds_one (ds_ret (ps_ret d_bl))) ds_nil)) (ds_cons (ds_set (ps_set (i := 8) sc_l_is_right.nd rfl (Or.inr rfl) (d_call (pe_clQ (E := fun _ => E) (c_l_pick T) hr hg (fun σ => passAt (takes_of rfl rfl rfl rfl) σ) rfl (da_well (pv 0) (da_cons (d_data (pd_tup (pda_cons pd_non (pda_cons pd_bl (pda_cons pd_int (pda_cons pd_int (pda_cons (pd_tup pda_nil) (pda_cons (pd_tup (pda_cons pd_str pda_nil)) (pda_cons (pd_lst (pda_cons pd_str pda_nil)) (pda_cons pd_dct (pda_cons pd_str (pda_cons pd_str (pda_cons pd_str (pda_cons pd_str (pda_cons pd_str (pda_cons pd_str (pda_cons pd_str (pda_cons (pd_tup (pda_cons pd_int (pda_cons pd_int pda_nil))) pda_nil)))))))))))))))))) da_nil)))))) (ds_cons (ds_for io_list (go_name 9) (ps_for PassesOwn.leaving rfl (pi_list (d_op (pe_op op_addG (d_lc io_list (go_tup (gos_cons (go_name 6) (gos_cons (go_name 7) gos_nil))) (pe_lc (own := [("_law_spot", 6), ("_law_word", 7)]) (g := (gTup K 2 (gCons (gName 6) (gCons (gName 7) gNil)))) rfl sc_l_is_right.nd (pi_list (d_sl (pe_slice sl_G (d_var (pv 3)) dp_none (dp_some d_int)))) (blkOk_by (own := [("_law_spot", 6), ("_law_word", 7)]) (N := N_l_is_right) (sc := defScope s_l_is_right) (by decide +kernel)) (fun _ _ _ _ _ => (pg_tup rfl (pgs_cons (pg_name (i := 6) sc_l_is_right.nd rfl (Or.inl rfl)) (pgs_cons (pg_name (i := 7) sc_l_is_right.nd rfl (Or.inl rfl)) pgs_nil)))) (fun _ _ _ _ _ => lt_blk dts_nil) (fun _ _ _ _ _ => le_blk (d_var (pv 7))))) (d_lst (da_cons (d_var (pv 8)) (da_cons (d_call (pe_clQ (E := fun _ => E) (c_l_name T) hr hg (fun σ => passAt (takes_of rfl rfl rfl rfl) σ) rfl (da_well (pv 0) da_nil))) (da_cons (d_slT (pe_slice sl_str (d_var (pv 1)) dp_none (dp_some d_int))) da_nil))))) od_addG)) (pg_name (i := 9) sc_l_is_right.nd rfl (Or.inl rfl)) (ds_one (ds_if (ps_if (dt_cmp (pt_cmpR (op_neG hr) (d_cb (pe_callB (call_reprK hr (hg rfl)) rfl T.z_repr (by decide +kernel) (da_cons (d_call (pe_clQ (E := fun _ => E) (c_p_is_free_name T) hr hg (fun σ => passAt (takes_of rfl rfl rfl rfl) σ) rfl (da_cons (d_var (pv 9)) da_nil))) da_nil)) bd_reprK) (d_cb (pe_callB (call_reprK hr (hg rfl)) rfl T.z_repr (by decide +kernel) (da_cons (d_call (pe_clQ (E := fun _ => E) (c_l_is_name T) hr hg (fun σ => passAt (takes_of rfl rfl rfl rfl) σ) rfl (da_cons (d_var (pv 9)) da_nil))) da_nil)) bd_reprK) (nomark _)) cd_ne) (ds_one (ds_ret (ps_ret d_bl))) ds_nil))))) (ds_cons (ds_if (ps_if (PW.pt (dw_and (pw_and (dt_not (pt_not (dt_val (pt_truth (d_isi (pe_callB (Ld.call_isD kit_str) rfl T.z_isinstance (by decide +kernel) (pa_cons (d_var (pv 8)) (pa_cons (pe_bltn (v := .ty "str") rfl T.z_str (by decide +kernel) rfl) pa_nil)))) (by intro _; rfl))))) (pw_and1 (dt_cmp (pt_cmpR (op_neG hr) (d_cb (pe_callB (call_reprK hr (hg rfl)) rfl T.z_repr (by decide +kernel) (da_cons (d_lamT (td := (dToldA true [("BadText", "spot", "spot"), ("InvalidFraction", "given", "fraction")] "value")) (fun h => d_toldA (fun z => by cases z) (.cons ec_BadText.gC (.cons ec_InvalidFraction.gC .nil)) h) (k := 3) rfl T.d_l_told sc_l_told rfl (Or.inl rfl) (g_l_told ec_BadText ec_InvalidFraction (T.x_BadText_InvalidFraction _ _ ec_BadText.gC ec_InvalidFraction.gC) _) rfl TB1 rfl (.tail _ (.head _)) hu1 (hr.mono (by decide)) (LamX.lamS_by (show LamX.lamSB (defScope s_l_is_right) _ = true by decide +kernel)) rfl (fun _ _ _ _ _ => rfl) (fun A outer s H E f c' hr => (d_call (pe_clQ (E := fun _ => E) (c_p_words_of T) hr (fun z : false = true => Bool.noConfusion z) (fun σ => passAt (takes_of rfl rfl rfl rfl) σ) rfl (da_cons (d_var (pv 8)) da_nil))))) da_nil)) bd_reprK) (d_cb (pe_callB (call_reprK hr (hg rfl)) rfl T.z_repr (by decide +kernel) (da_cons (d_data (pd_tup (pda_cons pd_str (pda_cons pd_non pda_nil)))) da_nil)) bd_reprK) (nomark _)) cd_ne))))) (ds_one (ds_ret (ps_ret d_bl))) ds_nil)) (ds_one (ds_ret (ps_ret (d_call (pe_clQ (E := fun _ => E) (c_l_are_fractions_right T M0 TB0 M1 TB1 ne01) hr hg (fun σ => passAt (takes_of rfl rfl rfl rfl) σ) rfl (da_well (pv 0) (da_cons (d_var (pv 8)) da_nil))))))))))))))))))
end
end My

set_option maxHeartbeats 4000000
namespace My
open PySem L2 Ld
open Lw hiding Dv DvAll FreshB tData tDatas pd_int pd_bl pd_non pd_str pd_neg pd_pow pda_nil pda_cons pd_tup pd_lst pd_dct dv_cut dv_cat tup_at rRepr call_repr rIsD call_isD
local macro_rules | `(tactic| walk_at "d") => `(tactic| try dsimp only [tfOf, startD, slotD, putD, wipeD, dV, dC, dOp, dUn, dNil, dCons, dConsW, dConsF, dCallV, dCall, datsOf, dCB, dTup, dLst, dIf, dTst, dCmp, dCmpV, dChain, dChainT, dNot, dAnd, dOr, dAndV, dOrV, dNotV, dTb, sSeq, sNx, sSet, sRet, sRetN, sIf, sExpr, sBrk, sCont, sPar, sPar3, lenK, gdN, gdNil, gdCons, sAsg, sFor, iLst, iTpl, iRg1, iRg2, iZp, iSqD, dYes, dLc, dLcB, dLc2, dNoP, dPart, dSl, dSlS, sOwn, sOwn2, sOwn3, sOwnC, sOwnSS, iTx, dSlT, fSlT, iEnT, fNotInS, dFmt, dJs, dCallK, pickD, iEn, e_eqL, e_neL, ownK, sApp, sAppL, sSetL, sIfL, sInsL, sTry1, dStar, dTupS, dLstS, dToldA, dToldB, toldX, mkP, dOwnLst, fLstL, sExt, sIns, sPut, sFrz, dOwnLen, dOwnIx, sRaise, sAug, t_draw, nthL, e_int, e_int0, e_add, e_addT, e_addL, e_addSI, e_addST, e_shl, e_ci, e_eqI, e_eqS, e_eqB, e_neI, e_neS, e_neB, e_isN, e_notN, e_nthT, e_nthL, e_lenT, e_lenL, e_i1, e_i2, e_lcm, e_intO, e_intB, e_isqrt, e_divmod, e_repr, e_reprS, e_reprK, dFind, e_tupL, e_tupT, e_lst, e_truB, e_truI, e_truN, e_truL, e_truT, e_neg, e_bits, e_back, e_backL, e_slT, e_slL, e_slST, e_gdT, e_gdL, Ld.isNon])
local macro_rules | `(tactic| walk_at "u") => `(tactic| (dsimp only; walk_at "d"))

section
variable {R : RD} {Ex : XD}
/-! ### texts by signs; draws; fractions -/
structure Sf (l : List Nat) (i : Nat) (s : List Nat) : Prop where
  len : i + s.length = l.length
  dr : l.drop i = s
theorem Sf.start (l : List Nat) : Sf l 0 l := ⟨by omega, rfl⟩
theorem Sf.next {l : List Nat} {i x : Nat} {s : List Nat} (h : Sf l i (x :: s)) : Sf l (i + 1) s := ⟨by have := h.len; simp only [List.length_cons] at this; omega, by
  have := h.dr
  rw [← List.drop_drop, this]
  rfl⟩
theorem Sf.get {l : List Nat} {i x : Nat} {s : List Nat} (h : Sf l i (x :: s)) : l[i]? = some x := by
  have := congrArg (·[0]?) h.dr
  simpa using this
theorem Sf.lt {l : List Nat} {i x : Nat} {s : List Nat} (h : Sf l i (x :: s)) : i < l.length := by
  have := h.len
  simp only [List.length_cons] at this
  omega
theorem Sf.eq {l : List Nat} {i : Nat} (h : Sf l i []) : i = l.length := by
  have := h.len
  simp only [List.length_nil] at this
  omega
theorem Sf.le {l : List Nat} {i : Nat} {s : List Nat} (h : Sf l i s) : i ≤ l.length := by
  have := h.len
  omega
theorem sT_ne {a b : List Nat} : (sT a = sT b) = (a = b) := propext ⟨sT_inj, fun h => by rw [h]⟩
theorem lenT {l : List Nat} (h : l.length ≤ 10000) : (sT l).length ≤ sizeLine := by
  rw [len_sT, sizeLine_eq]
  omega
theorem at_sT {l : List Nat} {i c : Nat} {s : List Nat} (h : Sf l i (c :: s)) : atI (tl' (sT l)) (i : Int) = some c := by
  rw [tl_sT]
  show (ixN l.length (i : Int)).bind _ = _
  rw [show ixN l.length (i : Int) = some i by
    unfold ixN
    have := h.lt
    rw [if_pos (by omega), if_pos (by omega)]
    simp]
  exact h.get
theorem ix_sT {l : List Nat} {i c : Nat} {s : List Nat} (h : Sf l i (c :: s)) (hl : l.length ≤ 10000) (k : R (.str (sT [c]))) : fIxS (.str (sT l)) (.int i) R := by
  unfold fIxS
  refine ⟨lenT hl, ?_⟩
  rw [at_sT h]
  exact k
theorem w_l_draw {n : Int} (h0 : 0 < n) (h1 : n < 2 ^ 64) (h : ∀ k, 0 ≤ k → k < n → R (.int k)) : t_l_draw [.well, .dat (.int n)] R Ex := ⟨h0, h1, h⟩
theorem drawN {n : Nat} (h0 : 0 < n) (h1 : n < 20000) (h : ∀ k : Nat, k < n → R (.int k)) : t_l_draw [.well, .dat (.int n)] R Ex := w_l_draw (by omega) (by omega) fun k k0 k1 => by
  obtain ⟨m, rfl⟩ := Int.eq_ofNat_of_zero_le k0
  exact h m (by omega)
theorem atD_mem {ds : List PyData} {k : Int} (h0 : 0 ≤ k) (h1 : k < ds.length) : ∃ d, d ∈ ds ∧ atD ds k = some d := by
  obtain ⟨n, rfl⟩ := Int.eq_ofNat_of_zero_le h0
  have hi : n < ds.length := by omega
  refine ⟨ds[n], List.getElem_mem hi, ?_⟩
  unfold atD ixN
  rw [if_pos h0, if_pos h1]
  simp [hi]
theorem ix_any {ds : List PyData} {k : Int} (h0 : 0 ≤ k) (h1 : k < ds.length) (h : ∀ d ∈ ds, R d) : fIx (.tuple ds) (.int k) R := by
  obtain ⟨d, hd, e⟩ := atD_mem h0 h1
  rw [e_ixT, e]
  exact h d hd
theorem w_l_pick {ds : List PyData} (h0 : 0 < ds.length) (h1 : ds.length < 1000) (h : ∀ d ∈ ds, R d) : t_l_pick [.well, .dat (.tuple ds)] R Ex := by
  unfold t_l_pick b_l_pick
  obtain ⟨k_l_draw, e_l_draw⟩ : ∃ k, t_l_draw = k := ⟨_, rfl⟩
  rw [e_l_draw]
  walk_at "d"
  refine st e_l_draw <| w_l_draw (by omega) (by omega) fun k k0 k1 => ?_
  exact ix_any k0 k1 h
theorem w_p_is_whole {d : PyData} (h : R (.bool (isWhole d))) : t_p_is_whole [.dat d] R Ex := by
  unfold t_p_is_whole b_p_is_whole
  walk_at "d"
  cases d <;> exact h
theorem w_p_is_fraction {d : PyData} (h : R (.bool (isFrB d))) : t_p_is_fraction [.dat d] R Ex := by
  unfold t_p_is_fraction b_p_is_fraction
  obtain ⟨k_p_is_whole, e_p_is_whole⟩ : ∃ k, t_p_is_whole = k := ⟨_, rfl⟩
  rw [e_p_is_whole]
  walk_at "d"
  rcases tup_or d with c | ⟨ds, rfl⟩
  · rw [(not_tup c).1] at h
    rw [c]
    exact difT (difT h)
  refine difF ?_
  walk_at "d"
  rcases ds with _ | ⟨x, _ | ⟨y, _ | ⟨z, r⟩⟩⟩
  · exact difT h
  · rw [fr_len (by simp)] at h
    exact difT h
  rotate_left
  · refine difN (fun _ => ?_) (fun c => ?_)
    · rw [fr_len (by simp)] at h
      exact h
    · simp at c
      omega
  refine difF ?_
  walk_at "d"
  refine st e_p_is_whole <| w_p_is_whole ?_
  walk_at "d"
  rcases whole_or x with c | ⟨i, rfl⟩
  · rw [c]
    rw [fr_whole (.inl c)] at h
    exact difT h
  refine difF ?_
  refine st e_p_is_whole <| w_p_is_whole ?_
  walk_at "d"
  rcases whole_or y with c | ⟨j, rfl⟩
  · rw [c]
    rw [fr_whole (.inr c)] at h
    exact difT h
  refine difF ?_
  have e : isFrB (.tuple [.int i, .int j]) = (decide (0 < j) && decide (gcdI i j = 1)) := rfl
  rw [e] at h
  refine difP (fun c => ?_) (fun c => ?_)
  · rw [decide_eq_true c, Bool.true_and] at h
    exact h
  · dsimp only
    rw [decide_eq_false c] at h ⊢
    exact h
theorem w_l_shared {a b : Int} (h : R (.int (gcdI a b))) : t_l_shared [.dat (.int a), .dat (.int b)] R Ex := by
  unfold t_l_shared b_l_shared
  walk_at "d"
  refine while_d (fun ρ => ∃ f r : Int, ρ = [some (.dat (.int f)), some (.dat (.int r))] ∧ 0 ≤ f ∧ 0 ≤ r ∧ gcdI f r = gcdI a b)
    (fun ρ => match ρ with | [_, some (.dat (.int r))] => r.toNat | _ => 0) ⟨_, _, rfl, if_nn a, if_nn b, gcd_abs a b⟩ ?_
  rintro ρ K ⟨f, r, rfl, hf, hr, hg⟩ k
  walk_at "d"
  refine difN (fun c => ?_) (fun c => ?_)
  · have h1 := Int.emod_nonneg f c
    have h2 := Int.emod_lt_of_pos f (show 0 < r by omega)
    refine ⟨by omega, k _ ⟨_, _, rfl, hr, h1, (gcd_step hf (by omega)).trans hg⟩ ?_⟩
    show (f % r).toNat < r.toNat
    omega
  · subst c
    rw [gcd_zero hf] at hg
    rw [hg]
    exact h
theorem w_l_lean {a b : Int} (hb : b ≠ 0) (hz : b.natAbs < 2 ^ 8000) (h : R (fracD a b)) : t_l_lean [.dat (.int a), .dat (.int b)] R Ex := by
  have n0 := gz_ne (a := a) hb
  have n1 : (gz a b).natAbs < 2 ^ 9000 := gz_lt hb (Nat.lt_of_lt_of_le hz (Nat.pow_le_pow_right (by decide) (by decide)))
  unfold t_l_lean b_l_lean
  obtain ⟨k_l_shared, e_l_shared⟩ : ∃ k, t_l_shared = k := ⟨_, rfl⟩
  rw [e_l_shared]
  walk_at "d"
  refine st e_l_shared (w_l_shared ?_)
  walk_at "d"
  refine difP (fun c => ?_) (fun c => ?_)
  · have e : gcdI a b = gz a b := by
      unfold gz
      rw [if_neg (by omega)]
    rw [e]
    exact ⟨⟨n0, n1⟩, ⟨n0, n1⟩, h⟩
  · have e : 0 - gcdI a b = gz a b := by
      unfold gz
      rw [if_pos (by omega)]
      omega
    rw [e]
    exact ⟨⟨n0, n1⟩, ⟨n0, n1⟩, h⟩
end

end My

set_option maxHeartbeats 4000000
namespace My
open PySem L2 Ld
open Lw hiding Dv DvAll FreshB tData tDatas pd_int pd_bl pd_non pd_str pd_neg pd_pow pda_nil pda_cons pd_tup pd_lst pd_dct dv_cut dv_cat tup_at rRepr call_repr rIsD call_isD
local macro_rules | `(tactic| walk_at "d") => `(tactic| try dsimp only [tfOf, startD, slotD, putD, wipeD, dV, dC, dOp, dUn, dNil, dCons, dConsW, dConsF, dCallV, dCall, datsOf, dCB, dTup, dLst, dIf, dTst, dCmp, dCmpV, dChain, dChainT, dNot, dAnd, dOr, dAndV, dOrV, dNotV, dTb, sSeq, sNx, sSet, sRet, sRetN, sIf, sExpr, sBrk, sCont, sPar, sPar3, lenK, gdN, gdNil, gdCons, sAsg, sFor, iLst, iTpl, iRg1, iRg2, iZp, iSqD, dYes, dLc, dLcB, dLc2, dNoP, dPart, dSl, dSlS, sOwn, sOwn2, sOwn3, sOwnC, sOwnSS, iTx, dSlT, fSlT, iEnT, fNotInS, dFmt, dJs, dCallK, pickD, iEn, e_eqL, e_neL, ownK, sApp, sAppL, sSetL, sIfL, sInsL, sTry1, dStar, dTupS, dLstS, dToldA, dToldB, toldX, mkP, dOwnLst, fLstL, sExt, sIns, sPut, sFrz, dOwnLen, dOwnIx, sRaise, sAug, t_draw, nthL, e_int, e_int0, e_add, e_addT, e_addL, e_addSI, e_addST, e_shl, e_ci, e_eqI, e_eqS, e_eqB, e_neI, e_neS, e_neB, e_isN, e_notN, e_nthT, e_nthL, e_lenT, e_lenL, e_i1, e_i2, e_lcm, e_intO, e_intB, e_isqrt, e_divmod, e_repr, e_reprS, e_reprK, dFind, e_tupL, e_tupT, e_lst, e_truB, e_truI, e_truN, e_truL, e_truT, e_neg, e_bits, e_back, e_backL, e_slT, e_slL, e_slST, e_gdT, e_gdL, Ld.isNon])
local macro_rules | `(tactic| walk_at "u") => `(tactic| (dsimp only; walk_at "d"))

section
variable {R : RD} {Ex : XD}
/-! ### words of a text -/
def dgS : Str := "0123456789"
def azS : Str := "abcdefghijklmnopqrstuvwxyz"
def nmS : Str := "abcdefghijklmnopqrstuvwxyz0123456789_"
def sgS (c : Nat) : Str := if c ∈ tl' dgS then dgS else if c ∈ tl' azS then nmS else ""
def mo (c x : Nat) : Bool := decide (x ∈ tl' (sgS c))
def no10 (x : Nat) : Bool := decide (x ≠ 10)
def nlen (c : Nat) (r : List Nat) : Nat := if c = 35 then (r.takeWhile no10).length else (r.takeWhile (mo c)).length
def isW (c : Nat) : Bool := decide (c ≠ 35 ∧ c ≠ 32 ∧ c ≠ 10)
def wds : Nat → Nat → List Nat → List (Nat × List Nat)
  | 0, _, _ => []
  | _ + 1, _, [] => []
  | f + 1, i, c :: r => (if isW c = true then [(i, c :: r.take (nlen c r))] else []) ++ wds f (i + 1 + nlen c r) (r.drop (nlen c r))
def wdD (p : Nat × List Nat) : PyData := .tuple [.int (p.1 : Nat), .str (sT p.2)]
theorem sg1 {c : Nat} (d : c ∈ tl' dgS) : dgS = sgS c := (if_pos d).symm
theorem sg2 {c : Nat} (d : ¬ c ∈ tl' dgS) (a : c ∈ tl' azS) : nmS = sgS c := by
  unfold sgS
  rw [if_neg d, if_pos a]
theorem sg3 {c : Nat} (d : ¬ c ∈ tl' dgS) (a : ¬ c ∈ tl' azS) : ("" : Str) = sgS c := by
  unfold sgS
  rw [if_neg d, if_neg a]
theorem tw_len (p : Nat → Bool) (r : List Nat) : (r.takeWhile p).length ≤ r.length := (List.takeWhile_sublist p).length_le
theorem nlen_le (c : Nat) (r : List Nat) : nlen c r ≤ r.length := by
  unfold nlen
  split
  · exact tw_len _ _
  · exact tw_len _ _
theorem wds_nil (f i : Nat) : wds f i [] = [] := by cases f <;> rfl
theorem wds_enough : ∀ {f g i : Nat} {s : List Nat}, s.length ≤ f → s.length ≤ g → wds f i s = wds g i s
  | f, g, i, [], _, _ => by rw [wds_nil, wds_nil]
  | 0, g, i, c :: r, h, _ => absurd h (by simp)
  | f + 1, 0, i, c :: r, _, h => absurd h (by simp)
  | f + 1, g + 1, i, c :: r, h1, h2 => by
    have ih := wds_enough (f := f) (g := g) (i := i + 1 + nlen c r) (s := r.drop (nlen c r)) (by rw [List.length_drop]; simp only [List.length_cons] at h1; omega) (by rw [List.length_drop]; simp only [List.length_cons] at h2; omega)
    show _ ++ wds f _ _ = _ ++ wds g _ _
    rw [ih]
theorem wds_cons {i c : Nat} {r : List Nat} : wds (c :: r).length i (c :: r) = (if isW c = true then [(i, c :: r.take (nlen c r))] else []) ++ wds (r.drop (nlen c r)).length (i + 1 + nlen c r) (r.drop (nlen c r)) := by
  show _ ++ wds r.length _ _ = _
  rw [wds_enough (f := r.length) (g := (r.drop (nlen c r)).length) (by rw [List.length_drop]; omega) (Nat.le_refl _)]
theorem Sf.drop {l : List Nat} {i : Nat} {s : List Nat} (h : Sf l i s) {k : Nat} (hk : k ≤ s.length) : Sf l (i + k) (s.drop k) := ⟨by have := h.len; rw [List.length_drop]; omega, by rw [← List.drop_drop, h.dr]⟩
/-! the first line feed -/
theorem tw_lt {p : Nat → Bool} : ∀ {r : List Nat} {j : Nat} (h : j < (r.takeWhile p).length) (h2 : j < r.length), p r[j] = true
  | [], j, h, _ => absurd h (by simp)
  | x :: r, j, h, h2 => by
    rw [List.takeWhile_cons] at h
    split at h
    · rename_i c
      cases j with
      | zero => exact c
      | succ j => exact tw_lt (r := r) (j := j) (by simpa using h) (by simpa using h2)
    · simp at h
theorem tw_at {p : Nat → Bool} : ∀ {r : List Nat} (h : (r.takeWhile p).length < r.length), p r[(r.takeWhile p).length] = false
  | [], h => absurd h (by simp)
  | x :: r, h => by
    by_cases c : p x = true
    · have e : (x :: r).takeWhile p = x :: r.takeWhile p := by rw [List.takeWhile_cons, if_pos c]
      have h' : (r.takeWhile p).length < r.length := by
        rw [e] at h
        simpa using h
      have ih := tw_at (p := p) (r := r) h'
      simp only [e, List.length_cons, List.getElem_cons_succ]
      exact ih
    · have e : (x :: r).takeWhile p = [] := by rw [List.takeWhile_cons, if_neg c]
      simp only [e, List.length_nil, List.getElem_cons_zero]
      simpa using c
theorem tw_uniq {p : Nat → Bool} {r : List Nat} {k : Nat} (hk : k < r.length) (h1 : ∀ j (h : j < r.length), j < k → p r[j] = true) (h2 : p r[k] = false) : (r.takeWhile p).length = k := by
  rcases Nat.lt_trichotomy (r.takeWhile p).length k with c | c | c
  · have := tw_at (p := p) (r := r) (by omega)
    rw [h1 _ (by omega) c] at this
    cases this
  · exact c
  · have := tw_lt (p := p) (r := r) c hk
    rw [h2] at this
    cases this
theorem tw_all {p : Nat → Bool} {r : List Nat} (h1 : ∀ j (h : j < r.length), p r[j] = true) : (r.takeWhile p).length = r.length := by
  by_cases c : (r.takeWhile p).length < r.length
  · have := tw_at (p := p) (r := r) c
    rw [h1 _ c] at this
    cases this
  · have := tw_len p r
    omega
theorem from_i {n i : Nat} (h : i ≤ n) : fromIndex n (i : Int) = i := by
  show (max 0 (if (i : Int) < 0 then (i : Int) + (n : Int) else (i : Int))).toNat = i
  rw [if_neg (by omega)]
  omega
theorem find_10 {l : List Nat} {i : Nat} {r : List Nat} (hs : Sf l i (35 :: r)) : (Txt.find3 (sT l) ⟨#[10]⟩ (i : Int) = -1 ∧ nlen 35 r = r.length) ∨ Txt.find3 (sT l) ⟨#[10]⟩ (i : Int) = ((i + 1 + nlen 35 r : Nat) : Int) := by
  have ln := hs.len
  simp only [List.length_cons] at ln
  have gd : ∀ v, (sT l).cps.getD v 0 = l.getD v 0 := fun v => by
    show l.toArray.getD v 0 = _
    simp
  have at_ : ∀ j (h : j < r.length), l.getD (i + 1 + j) 0 = r[j] := fun j h => by
    have e : (l.drop (i + 1))[j]? = r[j]? := by rw [hs.next.dr]
    rw [List.getElem?_drop, List.getElem?_eq_getElem h] at e
    rw [List.getD_eq_getElem?_getD, e]
    rfl
  have a0 : l.getD i 0 = 35 := by
    rw [List.getD_eq_getElem?_getD, hs.get]
    rfl
  have en : nlen 35 r = (r.takeWhile no10).length := if_pos rfl
  rcases PySem.StrLaws.find3_spec (sT l) 10 (i : Int) with ⟨e, h⟩ | ⟨k, e, k0, k1, k2, h⟩
  · rw [len_sT, from_i (by omega)] at h
    refine .inl ⟨e, ?_⟩
    rw [en]
    refine tw_all fun j hj => ?_
    have := h (i + 1 + j) (by omega) (by omega)
    rw [gd, at_ j hj] at this
    exact decide_eq_true this
  · rw [len_sT] at k0 k1 h
    rw [from_i (by omega)] at k0 h
    refine .inr ?_
    rw [e, en]
    have ki : k ≠ i := fun z => by
      rw [z, gd, a0] at k2
      cases k2
    have hk : k - (i + 1) < r.length := by omega
    have hu : (r.takeWhile no10).length = k - (i + 1) := tw_uniq hk (fun j hj lt => by
      have := h (i + 1 + j) (by omega) (by omega)
      rw [gd, at_ j hj] at this
      exact decide_eq_true this) (by
      have := at_ _ hk
      rw [show i + 1 + (k - (i + 1)) = k by omega, ← gd, k2] at this
      rw [← this]
      rfl)
    rw [hu]
    omega
theorem hash_dec (c : Nat) : decide (sT [c] = ("#" : Str)) = decide (c = 35) := by
  rw [decide_eq_decide, show ("#" : Str) = sT [35] by decide +kernel]
  exact ⟨fun z => by simpa using sT_inj z, fun z => by rw [z]⟩
theorem in_S {c : Nat} {S : Str} {Q : Bool → Prop} (h : Q (decide (c ∈ tl' S))) : fInS (.str (sT [c])) (.str S) Q := h
theorem w_p_end_at {l : List Nat} {i c : Nat} {r : List Nat} (hs : Sf l i (c :: r)) (hl : l.length ≤ 10000) (h : R (.int ((i + 1 + nlen c r : Nat) : Int))) : t_p_end_at [.dat (.str (sT l)), .dat (.int i)] R Ex := by
  have ln := hs.len
  simp only [List.length_cons] at ln
  unfold t_p_end_at b_p_end_at
  walk_at "d"
  have key : ∀ S, S = sgS c → c ≠ 35 → ((sSeq (sSet 2 (dOp fAddG (dV 1) (dC (.int 1)))) (sSeq (sWhile (dAnd (dCmp fLt (dV 2) (dCB fLen (dCons (dV 0) dNil))) (dCmp fInS (dOp fIxS (dV 0) (dV 2)) (dV 3))) (sAug 2 (fun i j => i + j) (dC (.int 1)))) (sRet (dV 2))))) { nx := fun _ => R .none, rt := R, ex := fun _ => Ex } [some (.dat (.str (sT l))), some (.dat (.int i)), none, some (.dat (.str S))] := by
    intro S hS hc
    subst hS
    walk_at "d"
    have en : nlen c r = (r.takeWhile (mo c)).length := if_neg hc
    refine while_d (fun ρ => ∃ (j : Nat) (t : List Nat), ρ = [some (.dat (.str (sT l))), some (.dat (.int i)), some (.dat (.int ((i + 1 + j : Nat) : Int))), some (.dat (.str (sgS c)))] ∧ Sf l (i + 1 + j) t ∧ nlen c r = j + (t.takeWhile (mo c)).length)
      (fun ρ => match ρ with | [_, _, some (.dat (.int j)), _] => l.length - j.toNat | _ => 0) ⟨0, r, rfl, hs.next, by rw [en]; omega⟩ ?_
    rintro ρ K ⟨j, t, rfl, st, e⟩ go
    have lt := st.len
    walk_at "d"
    refine ⟨lenT hl, ?_⟩
    rw [len_sT]
    cases t with
    | nil =>
      refine difP (fun z => ?_) (fun _ => difF ?_)
      · simp at lt
        omega
      · rw [show nlen c r = j by simpa using e] at h
        exact h
    | cons x t =>
      simp only [List.length_cons] at lt
      refine difP (fun _ => ix_sT st hl (in_S ?_)) (fun z => absurd z (by omega))
      refine difP (fun m => ?_) (fun m => ?_)
      · refine go _ ⟨j + 1, t, ?_, st.next, ?_⟩ ?_
        · rfl
        · rw [e, List.takeWhile_cons, if_pos (show mo c x = true from decide_eq_true m), List.length_cons]
          omega
        · show l.length - (((i + 1 + j : Nat) : Int) + 1).toNat < l.length - ((i + 1 + j : Nat) : Int).toNat
          omega
      · rw [List.takeWhile_cons, if_neg (show ¬ mo c x = true by rw [show mo c x = false from decide_eq_false m]; decide)] at e
        rw [show nlen c r = j by simpa using e] at h
        exact h
  refine ix_sT hs hl ?_
  walk_at "d"
  rw [hash_dec]
  refine difP (fun z => ?_) (fun z => ?_)
  · subst z
    rcases find_10 hs with ⟨e, en⟩ | e
    · rw [e]
      refine difP (fun _ => ⟨lenT hl, ?_⟩) (fun z => absurd (show (-1 : Int) < 0 by decide) z)
      rw [len_sT, show l.length = i + 1 + nlen 35 r by omega]
      exact h
    · rw [e]
      exact difP (fun z => absurd z (by omega)) (fun _ => h)
  · refine ix_sT hs hl (in_S (difP (fun d => ?_) (fun d => ix_sT hs hl (in_S (difP (fun a => ?_) (fun a => ?_))))))
    · exact key _ (sg1 d) z
    · exact key _ (sg2 d a) z
    · exact key _ (sg3 d a) z
end

end My

set_option maxHeartbeats 4000000
namespace My
open PySem L2 Ld
open Lw hiding Dv DvAll FreshB tData tDatas pd_int pd_bl pd_non pd_str pd_neg pd_pow pda_nil pda_cons pd_tup pd_lst pd_dct dv_cut dv_cat tup_at rRepr call_repr rIsD call_isD
local macro_rules | `(tactic| walk_at "d") => `(tactic| try dsimp only [tfOf, startD, slotD, putD, wipeD, dV, dC, dOp, dUn, dNil, dCons, dConsW, dConsF, dCallV, dCall, datsOf, dCB, dTup, dLst, dIf, dTst, dCmp, dCmpV, dChain, dChainT, dNot, dAnd, dOr, dAndV, dOrV, dNotV, dTb, sSeq, sNx, sSet, sRet, sRetN, sIf, sExpr, sBrk, sCont, sPar, sPar3, lenK, gdN, gdNil, gdCons, sAsg, sFor, iLst, iTpl, iRg1, iRg2, iZp, iSqD, dYes, dLc, dLcB, dLc2, dNoP, dPart, dSl, dSlS, sOwn, sOwn2, sOwn3, sOwnC, sOwnSS, iTx, dSlT, fSlT, iEnT, fNotInS, dFmt, dJs, dCallK, pickD, iEn, e_eqL, e_neL, ownK, sApp, sAppL, sSetL, sIfL, sInsL, sTry1, dStar, dTupS, dLstS, dToldA, dToldB, toldX, mkP, dOwnLst, fLstL, sExt, sIns, sPut, sFrz, dOwnLen, dOwnIx, sRaise, sAug, t_draw, nthL, e_int, e_int0, e_add, e_addT, e_addL, e_addSI, e_addST, e_shl, e_ci, e_eqI, e_eqS, e_eqB, e_neI, e_neS, e_neB, e_isN, e_notN, e_nthT, e_nthL, e_lenT, e_lenL, e_i1, e_i2, e_lcm, e_intO, e_intB, e_isqrt, e_divmod, e_repr, e_reprS, e_reprK, dFind, e_tupL, e_tupT, e_lst, e_truB, e_truI, e_truN, e_truL, e_truT, e_neg, e_bits, e_back, e_backL, e_slT, e_slL, e_slST, e_gdT, e_gdL, Ld.isNon])
local macro_rules | `(tactic| walk_at "u") => `(tactic| (dsimp only; walk_at "d"))

section
variable {R : RD} {Ex : XD}
/-! ### words of a text, by program and law -/
theorem add_sT {a b : List Nat} (h : a.length + b.length ≤ 20000) (k : R (.str (sT (a ++ b)))) : fAddG (.str (sT a)) (.str (sT b)) R := by
  show (sT a).length + (sT b).length ≤ sizeLine ∧ R (.str (sT a ++ sT b))
  rw [len_sT, len_sT, sizeLine_eq, sT_app]
  exact ⟨by omega, k⟩
theorem cut_ij {l : List Nat} {i j : Nat} (h1 : i ≤ l.length) (h2 : j ≤ l.length) : cutS (sT l) (some (i : Int)) (some (j : Int)) = sT ((l.drop i).take (j - i)) := by
  unfold cutS
  rw [HT.sIx_nat, HT.sIx_nat, len_sT, Nat.min_eq_left h1, Nat.min_eq_left h2]
  rfl
theorem cut_word {l : List Nat} {i c n : Nat} {r : List Nat} (hs : Sf l i (c :: r)) (hn : n ≤ r.length) : cutS (sT l) (some (i : Int)) (some ((i + 1 + n : Nat) : Int)) = sT (c :: r.take n) := by
  have ln := hs.len
  simp only [List.length_cons] at ln
  rw [cut_ij (by omega) (by omega), hs.dr, show i + 1 + n - i = n + 1 by omega, List.take_succ_cons]
theorem bl_dec (c : Nat) : decide (c ∈ tl' (" \n" : Str)) = decide (c = 32 ∨ c = 10) := by
  rw [decide_eq_decide, show tl' (" \n" : Str) = [32, 10] by decide +kernel]
  simp
theorem no_sign {c : Nat} {S : Str} {Q : Bool → Prop} (h : Q (!decide (c ∈ tl' S))) : fNotInS (.str (sT [c])) (.str S) Q := h
theorem isW_iff (c : Nat) : isW c = true ↔ c ≠ 35 ∧ ¬ (c = 32 ∨ c = 10) := by
  unfold isW
  rw [decide_eq_true_iff]
  omega
theorem w_p_words_ofN {d : PyData} (hd : isStr d = false) (h : Ex ("BadText", [("spot", .none)])) : t_p_words_of [.dat d] R Ex := by
  unfold t_p_words_of b_p_words_of
  obtain ⟨k_p_end_at, e_p_end_at⟩ : ∃ k, t_p_end_at = k := ⟨_, rfl⟩
  rw [e_p_end_at]
  walk_at "d"
  rw [hd]
  exact difT h
def allW (l : List Nat) : List (Nat × List Nat) := wds l.length 0 l
theorem w_p_words_of {l : List Nat} (hl : l.length ≤ 10000) (h : R (.tuple ((allW l).map wdD))) : t_p_words_of [.dat (.str (sT l))] R Ex := by
  unfold t_p_words_of b_p_words_of
  obtain ⟨k_p_end_at, e_p_end_at⟩ : ∃ k, t_p_end_at = k := ⟨_, rfl⟩
  rw [e_p_end_at]
  walk_at "d"
  refine difF ?_
  refine while_d (fun ρ => ∃ (i : Nat) (s : List Nat) (acc : List (Nat × List Nat)) (v3 : Option Sv), ρ = [some (.dat (.str (sT l))), some (.own (acc.map wdD)), some (.dat (.int (i : Nat))), v3] ∧ Sf l i s ∧ acc ++ wds s.length i s = allW l ∧ acc.length ≤ i)
    (fun ρ => match ρ with | [_, _, some (.dat (.int j)), _] => l.length - j.toNat | _ => 0) ⟨0, l, [], _, rfl, Sf.start l, rfl, Nat.le_refl _⟩ ?_
  rintro ρ K ⟨i, s, acc, v3, rfl, hs, e, la⟩ go
  have ln := hs.len
  walk_at "d"
  refine ⟨lenT hl, ?_⟩
  rw [len_sT]
  cases s with
  | nil =>
    refine difP (fun z => ?_) (fun _ => ?_)
    · simp at ln
      omega
    · rw [wds_nil, List.append_nil] at e
      walk_at "d"
      rw [e]
      exact h
  | cons c r =>
    simp only [List.length_cons] at ln
    have nl := nlen_le c r
    rw [wds_cons] at e
    refine difP (fun _ => ?_) (fun z => absurd z (by omega))
    refine st e_p_end_at (w_p_end_at hs hl ?_)
    walk_at "d"
    refine ix_sT hs hl ?_
    walk_at "d"
    rw [hash_dec]
    have last : ∀ acc2, acc2 = acc ++ (if isW c = true then [(i, c :: r.take (nlen c r))] else []) → K [some (.dat (.str (sT l))), some (.own (acc2.map wdD)), some (.dat (.int ((i + 1 + nlen c r : Nat) : Int))), some (.dat (.int ((i + 1 + nlen c r : Nat) : Int)))] := fun acc2 z => by
      refine go _ ⟨i + 1 + nlen c r, r.drop (nlen c r), acc2, _, rfl, hs.next.drop nl, by rw [z, List.append_assoc]; exact e, ?_⟩ ?_
      · rw [z, List.length_append]
        split
        · rw [List.length_singleton]
          omega
        · rw [List.length_nil]
          omega
      · show l.length - ((i + 1 + nlen c r : Nat) : Int).toNat < l.length - ((i : Nat) : Int).toNat
        omega
    refine difN (fun n35 => ix_sT hs hl (in_S ?_)) (fun e35 => difF ?_)
    · rw [bl_dec]
      refine difN (fun nb => ?_) (fun b => ?_)
      · have w : isW c = true := (isW_iff c).mpr ⟨n35, nb⟩
        walk_at "d"
        refine ⟨lenT hl, ?_⟩
        rw [cut_word hs nl]
        have := last (acc ++ [(i, c :: r.take (nlen c r))]) (by rw [if_pos w])
        rw [List.map_append] at this
        exact ⟨by rw [List.length_map]; omega, this⟩
      · exact last acc (by rw [if_neg (fun w => ((isW_iff c).mp w).2 b), List.append_nil])
    · exact last acc (by rw [if_neg (fun w => ((isW_iff c).mp w).1 e35), List.append_nil])
theorem while_more {l : List Nat} {i c : Nat} {r : List Nat} (hs : Sf l i (c :: r)) (hl : l.length ≤ 10000) (hc : c ≠ 35) {S : Str} (hS : S = sgS c) {D : EndsD} {v1 v2 v3 v5 v6 v7 v8 : Option Sv} (h : D.nx [some (.dat (.str (sT l))), v1, v2, v3, some (.dat (.int ((i + 1 + nlen c r : Nat) : Int))), v5, v6, v7, v8, some (.dat (.str S))]) :
    sWhile (dAnd (dCmp fLt (dV 4) (dCB fLen (dCons (dV 0) dNil))) (dCmp fInS (dOp fIxS (dV 0) (dV 4)) (dV 9))) (sSet 4 (dOp fAddG (dV 4) (dC (.int 1)))) D [some (.dat (.str (sT l))), v1, v2, v3, some (.dat (.int ((i : Int) + 1))), v5, v6, v7, v8, some (.dat (.str S))] := by
  subst hS
  have en : nlen c r = (r.takeWhile (mo c)).length := if_neg hc
  refine while_d (fun ρ => ∃ (j : Nat) (t : List Nat), ρ = [some (.dat (.str (sT l))), v1, v2, v3, some (.dat (.int ((i + 1 + j : Nat) : Int))), v5, v6, v7, v8, some (.dat (.str (sgS c)))] ∧ Sf l (i + 1 + j) t ∧ nlen c r = j + (t.takeWhile (mo c)).length)
    (fun ρ => match ρ with | [_, _, _, _, some (.dat (.int j)), _, _, _, _, _] => l.length - j.toNat | _ => 0) ⟨0, r, rfl, hs.next, by rw [en]; omega⟩ ?_
  rintro ρ K ⟨j, t, rfl, st, e⟩ go
  have lt := st.len
  walk_at "d"
  refine ⟨lenT hl, ?_⟩
  rw [len_sT]
  cases t with
  | nil =>
    refine difP (fun z => ?_) (fun _ => difF ?_)
    · simp at lt
      omega
    · rw [show nlen c r = j by simpa using e] at h
      exact h
  | cons x t =>
    simp only [List.length_cons] at lt
    refine difP (fun _ => ix_sT st hl (in_S ?_)) (fun z => absurd z (by omega))
    refine difP (fun m => ?_) (fun m => ?_)
    · refine go _ ⟨j + 1, t, ?_, st.next, ?_⟩ ?_
      · rfl
      · rw [e, List.takeWhile_cons, if_pos (show mo c x = true from decide_eq_true m), List.length_cons]
        omega
      · show l.length - (((i + 1 + j : Nat) : Int) + 1).toNat < l.length - ((i + 1 + j : Nat) : Int).toNat
        omega
    · rw [List.takeWhile_cons, if_neg (show ¬ mo c x = true by rw [show mo c x = false from decide_eq_false m]; decide)] at e
      rw [show nlen c r = j by simpa using e] at h
      exact h
theorem nlen_bl {c : Nat} (h : c = 32 ∨ c = 10) (r : List Nat) : nlen c r = 0 := by
  have z : ∀ x, mo c x = false := fun x => by
    rcases h with rfl | rfl
    · exact decide_eq_false (by rw [show tl' (sgS 32) = [] by decide +kernel]; exact List.not_mem_nil)
    · exact decide_eq_false (by rw [show tl' (sgS 10) = [] by decide +kernel]; exact List.not_mem_nil)
  unfold nlen
  rw [if_neg (by omega)]
  cases r with
  | nil => rfl
  | cons x r => rw [List.takeWhile_cons, if_neg (by rw [z]; decide)]; rfl
theorem name_add {Q : RD} (h : Q (.str nmS)) : fAddG (.str azS) (.str dgS) (fun x => fAddG x (.str ("_" : Str)) Q) := by
  have e1 : azS = sT [97, 98, 99, 100, 101, 102, 103, 104, 105, 106, 107, 108, 109, 110, 111, 112, 113, 114, 115, 116, 117, 118, 119, 120, 121, 122] := by decide +kernel
  have e2 : dgS = sT [48, 49, 50, 51, 52, 53, 54, 55, 56, 57] := by decide +kernel
  have e3 : ("_" : Str) = sT [95] := by decide +kernel
  have e4 : nmS = sT ([97, 98, 99, 100, 101, 102, 103, 104, 105, 106, 107, 108, 109, 110, 111, 112, 113, 114, 115, 116, 117, 118, 119, 120, 121, 122] ++ [48, 49, 50, 51, 52, 53, 54, 55, 56, 57] ++ [95]) := by decide +kernel
  rw [e1, e2, e3]
  rw [e4] at h
  exact add_sT (by decide) (add_sT (by decide) h)
theorem w_l_scan {l : List Nat} (hl : l.length ≤ 10000) (h : R (.list ((allW l).map wdD))) : t_l_scan [.dat (.str (sT l))] R Ex := by
  unfold t_l_scan b_l_scan
  walk_at "d"
  refine ⟨lenT hl, ?_⟩
  rw [len_sT]
  walk_at "d"
  rw [Int.toNat_natCast]
  have fin : ∀ (i : Nat) (acc : List (Nat × List Nat)) (v5 v6 v7 v8 v9 : Option Sv), Sf l i [] → acc ++ wds 0 i [] = allW l → ((sSeq (sFrz 3) (sRet (dV 3)))) { nx := fun _ => R .none, rt := R, ex := fun _ => Ex } [some (.dat (.str (sT l))), some (.dat (.str azS)), some (.dat (.str dgS)), some (.own (acc.map wdD)), some (.dat (.int (i : Nat))), v5, v6, v7, v8, v9] := fun i acc v5 v6 v7 v8 v9 hs e => by
    rw [wds_nil, List.append_nil] at e
    walk_at "d"
    rw [e]
    exact h
  refine ⟨by omega, range_d (n := l.length) (fun lap ρ => ∃ (i : Nat) (s : List Nat) (acc : List (Nat × List Nat)) (v5 v6 v7 v8 v9 : Option Sv), ρ = [some (.dat (.str (sT l))), some (.dat (.str azS)), some (.dat (.str dgS)), some (.own (acc.map wdD)), some (.dat (.int (i : Nat))), v5, v6, v7, v8, v9] ∧ Sf l i s ∧ acc ++ wds s.length i s = allW l ∧ acc.length ≤ i ∧ lap ≤ i) ⟨0, l, [], _, _, _, _, _, rfl, Sf.start l, rfl, Nat.le_refl _, Nat.le_refl _⟩ ?_ ?_⟩
  · rintro lap ρ K hlap ⟨i, s, acc, v5, v6, v7, v8, v9, rfl, hs, e, la, lp⟩ go
    have ln := hs.len
    walk_at "d"
    refine ⟨lenT hl, ?_⟩
    rw [len_sT]
    cases s with
    | nil =>
      refine difP (fun _ => fin i acc v5 v6 v7 v8 v9 hs e) (fun z => ?_)
      simp at ln
      omega
    | cons c r =>
      simp only [List.length_cons] at ln
      have nl := nlen_le c r
      rw [wds_cons] at e
      refine difP (fun z => absurd z (by omega)) (fun _ => ix_sT hs hl ?_)
      walk_at "d"
      rw [hash_dec]
      have step : ∀ (acc2 : List (Nat × List Nat)) (v5 v6 v7 v8 v9 : Option Sv), acc2 = acc ++ (if isW c = true then [(i, c :: r.take (nlen c r))] else []) → K [some (.dat (.str (sT l))), some (.dat (.str azS)), some (.dat (.str dgS)), some (.own (acc2.map wdD)), some (.dat (.int ((i + 1 + nlen c r : Nat) : Int))), v5, v6, v7, v8, v9] := fun acc2 v5 v6 v7 v8 v9 z => by
        refine go _ ⟨i + 1 + nlen c r, r.drop (nlen c r), acc2, v5, v6, v7, v8, v9, rfl, hs.next.drop nl, by rw [z, List.append_assoc]; exact e, ?_, by omega⟩
        rw [z, List.length_append]
        split
        · rw [List.length_singleton]
          omega
        · rw [List.length_nil]
          omega
      refine difP (fun z => ?_) (fun n35 => in_S ?_)
      · subst z
        have nw : ¬ isW 35 = true := by decide
        rcases find_10 hs with ⟨e1, en⟩ | e1
        · rw [e1]
          refine difP (fun z => absurd z (by decide)) (fun _ => ⟨lenT hl, ?_⟩)
          rw [len_sT, show l.length = i + 1 + nlen 35 r by omega]
          exact step acc _ _ _ _ _ (by rw [if_neg nw, List.append_nil])
        · rw [e1]
          exact difP (fun _ => step acc _ _ _ _ _ (by rw [if_neg nw, List.append_nil])) (fun z => absurd z (by omega))
      · rw [bl_dec]
        refine difN (fun nb => ?_) (fun b => ?_)
        · have w : isW c = true := (isW_iff c).mpr ⟨n35, nb⟩
          have put : ∀ {D : EndsD} {v8 v9 : Option Sv}, D.nx = K → (sApp 3 (dTup (dCons (dV 6) (dCons (dSlT (dV 0) (dPart (dV 6)) (dPart (dV 4))) dNil)))) D [some (.dat (.str (sT l))), some (.dat (.str azS)), some (.dat (.str dgS)), some (.own (acc.map wdD)), some (.dat (.int ((i + 1 + nlen c r : Nat) : Int))), some (.dat (.int (0 + (lap : Int)))), some (.dat (.int (i : Nat))), some (.dat (.str (sT [c]))), v8, v9] := fun {D v8 v9} hD => by
            walk_at "d"
            refine ⟨lenT hl, ?_⟩
            rw [cut_word hs nl, hD]
            have := step (acc ++ [(i, c :: r.take (nlen c r))]) (some (.dat (.int (0 + (lap : Int))))) (some (.dat (.int (i : Nat)))) (some (.dat (.str (sT [c])))) v8 v9 (by rw [if_pos w])
            rw [List.map_append] at this
            exact ⟨by rw [List.length_map]; omega, this⟩
          refine in_S (difP (fun d => ?_) (fun d => in_S (difP (fun a => ?_) (fun a => ?_))))
          · exact while_more hs hl n35 (sg1 d) (put rfl)
          · exact name_add (while_more hs hl n35 (sg2 d a) (put rfl))
          · exact while_more hs hl n35 (sg3 d a) (put rfl)
        · have := step acc (some (.dat (.int (0 + (lap : Int))))) (some (.dat (.int (i : Nat)))) (some (.dat (.str (sT [c])))) v8 v9 (by rw [if_neg (fun w => ((isW_iff c).mp w).2 b), List.append_nil])
          rw [nlen_bl b] at this
          exact this
  · rintro ρ ⟨i, s, acc, v5, v6, v7, v8, v9, rfl, hs, e, la, lp⟩
    have ln := hs.len
    have : s = [] := List.length_eq_zero_iff.mp (by omega)
    subst this
    exact fin i acc v5 v6 v7 v8 v9 hs e
end

end My

set_option maxHeartbeats 4000000
namespace My
open PySem L2 Ld
open Lw hiding Dv DvAll FreshB tData tDatas pd_int pd_bl pd_non pd_str pd_neg pd_pow pda_nil pda_cons pd_tup pd_lst pd_dct dv_cut dv_cat tup_at rRepr call_repr rIsD call_isD
local macro_rules | `(tactic| walk_at "d") => `(tactic| try dsimp only [tfOf, startD, slotD, putD, wipeD, dV, dC, dOp, dUn, dNil, dCons, dConsW, dConsF, dCallV, dCall, datsOf, dCB, dTup, dLst, dIf, dTst, dCmp, dCmpV, dChain, dChainT, dNot, dAnd, dOr, dAndV, dOrV, dNotV, dTb, sSeq, sNx, sSet, sRet, sRetN, sIf, sExpr, sBrk, sCont, sPar, sPar3, lenK, gdN, gdNil, gdCons, sAsg, sFor, iLst, iTpl, iRg1, iRg2, iZp, iSqD, dYes, dLc, dLcB, dLc2, dNoP, dPart, dSl, dSlS, sOwn, sOwn2, sOwn3, sOwnC, sOwnSS, iTx, dSlT, fSlT, iEnT, fNotInS, dFmt, dJs, dCallK, pickD, iEn, e_eqL, e_neL, ownK, sApp, sAppL, sSetL, sIfL, sInsL, sTry1, dStar, dTupS, dLstS, dToldA, dToldB, toldX, mkP, dOwnLst, fLstL, sExt, sIns, sPut, sFrz, dOwnLen, dOwnIx, sRaise, sAug, t_draw, nthL, e_int, e_int0, e_add, e_addT, e_addL, e_addSI, e_addST, e_shl, e_ci, e_eqI, e_eqS, e_eqB, e_neI, e_neS, e_neB, e_isN, e_notN, e_nthT, e_nthL, e_lenT, e_lenL, e_i1, e_i2, e_lcm, e_intO, e_intB, e_isqrt, e_divmod, e_repr, e_reprS, e_reprK, dFind, e_tupL, e_tupT, e_lst, e_truB, e_truI, e_truN, e_truL, e_truT, e_neg, e_bits, e_back, e_backL, e_slT, e_slL, e_slST, e_gdT, e_gdL, Ld.isNon])
local macro_rules | `(tactic| walk_at "u") => `(tactic| (dsimp only; walk_at "d"))

section
variable {R : RD} {Ex : XD}
/-! ### words joined, and scanned again -/
theorem lcD_on {α : Type} {gd : GD} {tt : TTD} {te : TD} {ρ : Ld.Env} (g f : α → PyData) : ∀ {l : List α} {K : List PyData → Prop}, (∀ x ∈ l, ∀ (K1 : RD) (K0 : Prop), K1 (f x) → gd (g x) ρ (fun ρ' => tt ρ' (fun b => if b = true then te ρ' K1 NoX else K0) NoX)) → K (l.map f) → lcD gd tt te ρ (l.map g) K
  | [], K, _, h => h
  | x :: r, K, s, h => s x (List.mem_cons_self ..) _ _ (lcD_on g f (fun y hy => s y (List.mem_cons_of_mem _ hy)) h)
theorem join_sT (a : List Nat) (ys : List (List Nat)) : Txt.join (sT a) (ys.map sT) = sT (TL.joinL a ys) := by
  have e := TL.tl_join (sT a) (ys.map sT)
  rw [show (ys.map sT).map TL.tl = ys by rw [List.map_map]; exact List.map_id'' (fun x => rfl) ys] at e
  exact TL.ext_tl ((congrArg TL.tl (TL.join_eq (sT a) (ys.map sT))).trans e)
theorem strs_sT : ∀ ys : List (List Nat), strsOf (ys.map fun y => PyData.str (sT y)) = some (ys.map sT)
  | [] => rfl
  | y :: r => by
    show (match strsOf (r.map fun y => PyData.str (sT y)) with | some xs => some (sT y :: xs) | none => none) = _
    rw [strs_sT r]
    rfl
theorem join_d {a : List Nat} {ys : List (List Nat)} (h1 : (ys.map (·.length)).sum + ys.length * a.length ≤ 100000) (h : R (.str (sT (TL.joinL a ys)))) : fJoin (.str (sT a)) (.list (ys.map fun y => PyData.str (sT y))) R := by
  show (match strsOf (ys.map fun y => PyData.str (sT y)) with | some ys => (ys.map (·.length)).sum + ys.length * (sT a).length ≤ 16777216 ∧ R (.str (Txt.join (sT a) ys)) | none => False)
  rw [strs_sT]
  refine ⟨?_, by rw [join_sT]; exact h⟩
  have e : (ys.map sT).map (·.length) = ys.map (·.length) := by
    rw [List.map_map]
    exact List.map_congr_left fun y _ => len_sT y
  rw [e, List.length_map, len_sT]
  omega
def IsWd (w : List Nat) : Prop := ∃ c t, w = c :: t ∧ isW c = true ∧ ∀ x ∈ t, mo c x = true
theorem tw_take (p : Nat → Bool) : ∀ r : List Nat, r.take (r.takeWhile p).length = r.takeWhile p
  | [] => rfl
  | x :: r => by
    rw [List.takeWhile_cons]
    split
    · rw [List.length_cons, List.take_succ_cons, tw_take p r]
    · rfl
theorem tw_mem {p : Nat → Bool} : ∀ {r : List Nat} {x : Nat}, x ∈ r.takeWhile p → p x = true
  | [], _, h => absurd h (by simp)
  | y :: r, x, h => by
    rw [List.takeWhile_cons] at h
    split at h
    · rename_i c
      rcases List.mem_cons.mp h with rfl | h
      · exact c
      · exact tw_mem h
    · exact absurd h (by simp)
theorem wd_one {c : Nat} (h : isW c = true) (r : List Nat) : IsWd (c :: r.take (nlen c r)) := by
  have n35 := ((isW_iff c).mp h).1
  refine ⟨c, _, rfl, h, fun x hx => ?_⟩
  unfold nlen at hx
  rw [if_neg n35, tw_take] at hx
  exact tw_mem hx
theorem wds_wd : ∀ {f i : Nat} {s : List Nat}, ∀ p ∈ wds f i s, IsWd p.2
  | 0, i, s, p, h => absurd h List.not_mem_nil
  | f + 1, i, [], p, h => absurd h List.not_mem_nil
  | f + 1, i, c :: r, p, h => by
    rcases List.mem_append.mp (show p ∈ (if isW c = true then [(i, c :: r.take (nlen c r))] else []) ++ wds f (i + 1 + nlen c r) (r.drop (nlen c r)) from h) with h | h
    · split at h
      · rename_i w
        rw [List.mem_singleton.mp h]
        exact wd_one w r
      · exact absurd h List.not_mem_nil
    · exact wds_wd p h
/-- the words take no more than the text -/
theorem wds_sum : ∀ {f i : Nat} {s : List Nat}, ((wds f i s).map (·.2.length)).sum ≤ s.length
  | 0, i, s => Nat.zero_le _
  | f + 1, i, [] => Nat.zero_le _
  | f + 1, i, c :: r => by
    have ih := wds_sum (f := f) (i := i + 1 + nlen c r) (s := r.drop (nlen c r))
    have nl := nlen_le c r
    rw [List.length_drop] at ih
    show (((if isW c = true then [(i, c :: r.take (nlen c r))] else []) ++ wds f (i + 1 + nlen c r) (r.drop (nlen c r))).map (·.2.length)).sum ≤ _
    rw [List.map_append, List.sum_append, List.length_cons]
    split
    · simp only [List.map_cons, List.map_nil, List.sum_cons, List.sum_nil, List.length_cons, List.length_take]
      omega
    · simp only [List.map_nil, List.sum_nil]
      omega
theorem wds_spot : ∀ {f i : Nat} {s : List Nat}, ∀ p ∈ wds f i s, p.1 ≤ i + s.length ∧ ∀ x ∈ p.2, x ∈ s
  | 0, i, s, p, h => absurd h List.not_mem_nil
  | f + 1, i, [], p, h => absurd h List.not_mem_nil
  | f + 1, i, c :: r, p, h => by
    have nl := nlen_le c r
    rcases List.mem_append.mp (show p ∈ (if isW c = true then [(i, c :: r.take (nlen c r))] else []) ++ wds f (i + 1 + nlen c r) (r.drop (nlen c r)) from h) with h | h
    · split at h
      · rw [List.mem_singleton.mp h]
        refine ⟨by show i ≤ _; omega, fun x hx => ?_⟩
        rcases List.mem_cons.mp hx with rfl | hx
        · exact List.mem_cons_self ..
        · exact List.mem_cons_of_mem _ (List.mem_of_mem_take hx)
      · exact absurd h List.not_mem_nil
    · obtain ⟨a, b⟩ := wds_spot p h
      rw [List.length_drop] at a
      exact ⟨by rw [List.length_cons]; omega, fun x hx => List.mem_cons_of_mem _ (List.mem_of_mem_drop (b x hx))⟩
theorem wd_pos {w : List Nat} (h : IsWd w) : 1 ≤ w.length := by
  obtain ⟨c, t, rfl, _⟩ := h
  rw [List.length_cons]
  omega
theorem cnt_le : ∀ {ws : List (Nat × List Nat)}, (∀ p ∈ ws, IsWd p.2) → ws.length ≤ (ws.map (·.2.length)).sum
  | [], _ => Nat.zero_le _
  | p :: r, h => by
    have := cnt_le (ws := r) fun q hq => h q (List.mem_cons_of_mem _ hq)
    have := wd_pos (h p (List.mem_cons_self ..))
    rw [List.length_cons, List.map_cons, List.sum_cons]
    omega
def ag : Nat → List (List Nat) → List (Nat × List Nat)
  | _, [] => []
  | a, w :: r => (a, w) :: ag (a + w.length + 1) r
theorem mo_32 (c : Nat) : mo c 32 = false := by
  unfold mo sgS
  split
  · decide +kernel
  · split
    · decide +kernel
    · decide +kernel
theorem tw_pre {p : Nat → Bool} : ∀ {t s : List Nat}, (∀ x ∈ t, p x = true) → (s.takeWhile p) = [] → (t ++ s).takeWhile p = t
  | [], s, _, h => h
  | x :: t, s, h, hs => by
    rw [List.cons_append, List.takeWhile_cons, if_pos (h x (List.mem_cons_self ..)), tw_pre (fun y hy => h y (List.mem_cons_of_mem _ hy)) hs]
theorem wds_join : ∀ {ws : List (List Nat)} {i : Nat}, (∀ w ∈ ws, IsWd w) → wds (TL.joinL [32] ws).length i (TL.joinL [32] ws) = ag i ws
  | [], i, _ => by rw [show TL.joinL [32] [] = [] from rfl]; rfl
  | [w], i, h => by
    obtain ⟨c, t, rfl, hc, ht⟩ := h w (List.mem_cons_self ..)
    rw [show TL.joinL [32] [c :: t] = c :: t by simp [TL.joinL]]
    have n35 := ((isW_iff c).mp hc).1
    have en : nlen c t = t.length := by
      unfold nlen
      rw [if_neg n35]
      have := tw_pre (t := t) (s := []) ht rfl
      rw [List.append_nil] at this
      rw [this]
    rw [wds_cons, en, if_pos hc, List.take_length, List.drop_length, wds_nil]
    rfl
  | w :: v :: r, i, h => by
    have ih := fun j => wds_join (ws := v :: r) (i := j) fun x hx => h x (List.mem_cons_of_mem _ hx)
    obtain ⟨c, t, rfl, hc, ht⟩ := h w (List.mem_cons_self ..)
    have ej : TL.joinL [32] ((c :: t) :: v :: r) = c :: (t ++ (32 :: TL.joinL [32] (v :: r))) := by simp [TL.joinL]
    generalize TL.joinL [32] (v :: r) = J at *
    have n35 := ((isW_iff c).mp hc).1
    have en : nlen c (t ++ 32 :: J) = t.length := by
      unfold nlen
      rw [if_neg n35, tw_pre ht (by rw [List.takeWhile_cons, if_neg (by rw [mo_32]; decide)])]
    rw [ej, wds_cons, en, if_pos hc, List.take_left, List.drop_left, wds_cons, if_neg (show ¬ isW 32 = true by decide), nlen_bl (.inl rfl), List.drop_zero, List.nil_append, ih]
    show (i, c :: t) :: _ = (i, c :: t) :: ag (i + (c :: t).length + 1) (v :: r)
    rw [List.length_cons, show i + 1 + t.length + 1 + 0 = i + (t.length + 1) + 1 by omega]
    rfl
theorem join_len : ∀ {ws : List (List Nat)}, (TL.joinL [32] ws).length ≤ (ws.map (·.length)).sum + ws.length
  | [] => Nat.zero_le _
  | [w] => by
    rw [show TL.joinL [32] [w] = w by simp [TL.joinL]]
    simp
  | w :: v :: r => by
    have ih := join_len (ws := v :: r)
    have ej : TL.joinL [32] (w :: v :: r) = w ++ (32 :: TL.joinL [32] (v :: r)) := by simp [TL.joinL]
    rw [ej, List.length_append, List.length_cons, List.map_cons, List.sum_cons, List.length_cons]
    omega
theorem join_mem : ∀ {ws : List (List Nat)} {x : Nat}, x ∈ TL.joinL [32] ws → x = 32 ∨ ∃ w ∈ ws, x ∈ w
  | [], x, h => absurd h (by rw [show TL.joinL [32] [] = [] from rfl]; exact List.not_mem_nil)
  | [w], x, h => by
    rw [show TL.joinL [32] [w] = w by simp [TL.joinL]] at h
    exact .inr ⟨w, List.mem_cons_self .., h⟩
  | w :: v :: r, x, h => by
    have ej : TL.joinL [32] (w :: v :: r) = w ++ (32 :: TL.joinL [32] (v :: r)) := by simp [TL.joinL]
    rw [ej] at h
    rcases List.mem_append.mp h with h | h
    · exact .inr ⟨w, List.mem_cons_self .., h⟩
    · rcases List.mem_cons.mp h with h | h
      · exact .inl h
      · rcases join_mem h with h | ⟨u, hu, h⟩
        · exact .inl h
        · exact .inr ⟨u, List.mem_cons_of_mem _ hu, h⟩
end

end My

set_option maxHeartbeats 4000000
namespace My
open PySem L2 Ld
open Lw hiding Dv DvAll FreshB tData tDatas pd_int pd_bl pd_non pd_str pd_neg pd_pow pda_nil pda_cons pd_tup pd_lst pd_dct dv_cut dv_cat tup_at rRepr call_repr rIsD call_isD
local macro_rules | `(tactic| walk_at "d") => `(tactic| try dsimp only [tfOf, startD, slotD, putD, wipeD, dV, dC, dOp, dUn, dNil, dCons, dConsW, dConsF, dCallV, dCall, datsOf, dCB, dTup, dLst, dIf, dTst, dCmp, dCmpV, dChain, dChainT, dNot, dAnd, dOr, dAndV, dOrV, dNotV, dTb, sSeq, sNx, sSet, sRet, sRetN, sIf, sExpr, sBrk, sCont, sPar, sPar3, lenK, gdN, gdNil, gdCons, sAsg, sFor, iLst, iTpl, iRg1, iRg2, iZp, iSqD, dYes, dLc, dLcB, dLc2, dNoP, dPart, dSl, dSlS, sOwn, sOwn2, sOwn3, sOwnC, sOwnSS, iTx, dSlT, fSlT, iEnT, fNotInS, dFmt, dJs, dCallK, pickD, iEn, e_eqL, e_neL, ownK, sApp, sAppL, sSetL, sIfL, sInsL, sTry1, dStar, dTupS, dLstS, dToldA, dToldB, toldX, mkP, dOwnLst, fLstL, sExt, sIns, sPut, sFrz, dOwnLen, dOwnIx, sRaise, sAug, t_draw, nthL, e_int, e_int0, e_add, e_addT, e_addL, e_addSI, e_addST, e_shl, e_ci, e_eqI, e_eqS, e_eqB, e_neI, e_neS, e_neB, e_isN, e_notN, e_nthT, e_nthL, e_lenT, e_lenL, e_i1, e_i2, e_lcm, e_intO, e_intB, e_isqrt, e_divmod, e_repr, e_reprS, e_reprK, dFind, e_tupL, e_tupT, e_lst, e_truB, e_truI, e_truN, e_truL, e_truT, e_neg, e_bits, e_back, e_backL, e_slT, e_slL, e_slST, e_gdT, e_gdL, Ld.isNon])
local macro_rules | `(tactic| walk_at "u") => `(tactic| (dsimp only; walk_at "d"))

section
variable {R : RD} {Ex : XD}
/-! ### free names -/
def keptD : List PyData := [.str "all", .str "none", .str "half", .str "disc", .str "box", .str "polygon", .str "not", .str "move", .str "scale", .str "turn", .str "mirror", .str "lead", .str "flip", .str "repeat", .str "let"]
def isKept (d : PyData) : Bool := inV (vOf d) (keptD.map vOf)
def nmB (l : List Nat) : Bool := l.all fun c => decide (c ∈ tl' nmS)
def frB : PyData → Bool
  | .str x => match tl' x with
    | [] => false
    | c :: r => !(decide (24 < (c :: r).length)) && (!(isKept (.str x)) && (decide (c ∈ tl' azS) && nmB (c :: r)))
  | _ => false
theorem w_l_kept (h : R (.tuple keptD)) : t_l_kept [] R Ex := by
  unfold t_l_kept b_l_kept
  walk_at "d"
  exact h
theorem in_kept {x : Str} {Q : Bool → Prop} (h : Q (isKept (.str x))) : fInF false (.str x) (.tuple keptD) Q := ⟨rfl, by decide +kernel, by rw [if_neg (by decide)]; exact h⟩
theorem bools_map (f : Nat → Bool) : ∀ l : List Nat, boolsOf (l.map fun c => PyData.bool (f c)) = some (l.map f)
  | [] => rfl
  | x :: r => by
    show (match boolsOf (r.map fun c => PyData.bool (f c)) with | some bs => some (f x :: bs) | none => none) = _
    rw [bools_map f r]
    rfl
theorem all_map {f : Nat → Bool} {l : List Nat} (h : R (.bool (l.all f))) : fAll [.list (l.map fun c => PyData.bool (f c))] R := by
  show (match boolsOf (l.map fun c => PyData.bool (f c)) with | some bs => R (.bool (bs.all id)) | none => False)
  rw [bools_map]
  show R (.bool ((l.map f).all id))
  rw [List.all_map]
  exact h
theorem tru_nil {Q : Bool → Prop} (h : Q false) : truK (.str (sT [])) Q := ⟨by rw [len_sT, sizeLine_eq]; decide, h⟩
theorem tru_cons {c : Nat} {r : List Nat} {Q : Bool → Prop} (hl : (c :: r).length ≤ 10000) (h : Q true) : truK (.str (sT (c :: r))) Q := ⟨lenT hl, by
  have e : (((sT (c :: r)).length : Int) != 0) = true := by
    rw [len_sT, List.length_cons]
    exact bne_iff_ne.mpr (by omega)
  rw [e]
  exact h⟩
theorem ix_0 {c : Nat} {r : List Nat} (hl : (c :: r).length ≤ 10000) (k : R (.str (sT [c]))) : fIxS (.str (sT (c :: r))) (.int 0) R := ix_sT (i := 0) (Sf.start _) hl k
theorem frB_cons (c : Nat) (r : List Nat) : frB (.str (sT (c :: r))) = (!(decide (24 < (c :: r).length)) && (!(isKept (.str (sT (c :: r)))) && (decide (c ∈ tl' azS) && nmB (c :: r)))) := rfl
theorem w_p_is_free_name {d : PyData} (hl : ∀ x, d = .str x → (tl' x).length ≤ 10000) (h : R (.bool (frB d))) : t_p_is_free_name [.dat d] R Ex := by
  unfold t_p_is_free_name b_p_is_free_name
  walk_at "d"
  cases hd : isStr d with
  | false =>
    have : frB d = false := by cases d <;> first | rfl | cases hd
    rw [this] at h
    exact difT h
  | true =>
    cases d with
    | str x =>
      have hl := hl x rfl
      have ex : x = sT (tl' x) := rfl
      refine difF ?_
      generalize hx : tl' x = l at *
      subst ex
      walk_at "d"
      have hl : l.length ≤ 10000 := by assumption
      cases l with
      | nil => exact tru_nil (difT (difT h))
      | cons c r =>
        rw [frB_cons] at h
        refine tru_cons hl (difF ⟨lenT hl, ?_⟩)
        rw [len_sT]
        walk_at "d"
        refine difP (fun z => difT ?_) (fun z => in_kept ?_)
        · rw [decide_eq_true (by omega)] at h
          exact h
        · rw [decide_eq_false (by omega)] at h
          cases hk : isKept (.str (sT (c :: r))) with
          | true =>
            rw [hk] at h
            exact difT h
          | false =>
            rw [hk] at h
            refine difF (ix_0 hl (in_S (difP (fun (a : c ∈ tl' azS) => ?_) (fun (a : ¬ c ∈ tl' azS) => ?_))))
            · rw [decide_eq_true a] at h
              exact ⟨by show ((c :: r).map _).length ≤ 1000; rw [List.length_map]; omega, lcD_on (l := c :: r) (fun x => .str (sT [x])) (fun x => .bool (decide (x ∈ tl' nmS))) (fun x hx K1 K0 k => by walk_at "d"; exact difT (in_S k)) (all_map (f := fun x => decide (x ∈ tl' nmS)) h)⟩
            · rw [decide_eq_false a] at h
              show R (.bool (decide (c ∈ tl' azS)))
              rw [decide_eq_false a]
              exact h
    | _ => cases hd
theorem cut_26 : cutS nmS none (some 26) = azS := by decide +kernel
theorem w_l_is_name {d : PyData} (hl : ∀ x, d = .str x → (tl' x).length ≤ 10000) (h : R (.bool (frB d))) : t_l_is_name [.dat d] R Ex := by
  unfold t_l_is_name b_l_is_name
  obtain ⟨k_l_kept, e_l_kept⟩ : ∃ k, t_l_kept = k := ⟨_, rfl⟩
  rw [e_l_kept]
  walk_at "d"
  cases hd : isStr d with
  | false =>
    have : frB d = false := by cases d <;> first | rfl | cases hd
    rw [this] at h
    exact difT (difT h)
  | true =>
    cases d with
    | str x =>
      have hl := hl x rfl
      have ex : x = sT (tl' x) := rfl
      refine difF ?_
      generalize hx : tl' x = l at *
      subst ex
      walk_at "d"
      have hl : l.length ≤ 10000 := by assumption
      refine ⟨lenT hl, ?_⟩
      rw [len_sT]
      walk_at "d"
      cases l with
      | nil => exact difP (fun z => absurd z (by decide)) (fun _ => difT (difT h))
      | cons c r =>
        rw [frB_cons] at h
        refine difP (fun _ => difN (fun z => difT ?_) (fun z => st e_l_kept (w_l_kept (in_kept ?_)))) (fun z => absurd (by rw [List.length_cons]; omega) z)
        · rw [decide_eq_true (by omega)] at h
          exact h
        · rw [decide_eq_false (by omega)] at h
          cases hk : isKept (.str (sT (c :: r))) with
          | true =>
            rw [hk] at h
            exact difT h
          | false =>
            rw [hk] at h
            walk_at "d"
            refine difF (ix_0 hl ⟨by rw [sizeLine_eq]; decide +kernel, ?_⟩)
            show fInS _ (.str (cutS nmS none (some 26))) _
            rw [cut_26]
            refine in_S (difP (fun (a : c ∈ tl' azS) => ?_) (fun (a : ¬ c ∈ tl' azS) => ?_))
            · rw [decide_eq_true a] at h
              exact ⟨by show ((c :: r).map _).length ≤ 1000; rw [List.length_map]; omega, lcD_on (l := c :: r) (fun x => .str (sT [x])) (fun x => .bool (decide (x ∈ tl' nmS))) (fun x hx K1 K0 k => by walk_at "d"; exact difT (in_S k)) (all_map (f := fun x => decide (x ∈ tl' nmS)) h)⟩
            · rw [decide_eq_false a] at h
              rw [decide_eq_false a]
              exact h
    | _ => cases hd
end

end My

set_option maxHeartbeats 4000000
namespace My
open PySem L2 Ld
open Lw hiding Dv DvAll FreshB tData tDatas pd_int pd_bl pd_non pd_str pd_neg pd_pow pda_nil pda_cons pd_tup pd_lst pd_dct dv_cut dv_cat tup_at rRepr call_repr rIsD call_isD
local macro_rules | `(tactic| walk_at "d") => `(tactic| try dsimp only [tfOf, startD, slotD, putD, wipeD, dV, dC, dOp, dUn, dNil, dCons, dConsW, dConsF, dCallV, dCall, datsOf, dCB, dTup, dLst, dIf, dTst, dCmp, dCmpV, dChain, dChainT, dNot, dAnd, dOr, dAndV, dOrV, dNotV, dTb, sSeq, sNx, sSet, sRet, sRetN, sIf, sExpr, sBrk, sCont, sPar, sPar3, lenK, gdN, gdNil, gdCons, sAsg, sFor, iLst, iTpl, iRg1, iRg2, iZp, iSqD, dYes, dLc, dLcB, dLc2, dNoP, dPart, dSl, dSlS, sOwn, sOwn2, sOwn3, sOwnC, sOwnSS, iTx, dSlT, fSlT, iEnT, fNotInS, dFmt, dJs, dCallK, pickD, iEn, e_eqL, e_neL, ownK, sApp, sAppL, sSetL, sIfL, sInsL, sTry1, dStar, dTupS, dLstS, dToldA, dToldB, toldX, mkP, dOwnLst, fLstL, sExt, sIns, sPut, sFrz, dOwnLen, dOwnIx, sRaise, sAug, t_draw, nthL, e_int, e_int0, e_add, e_addT, e_addL, e_addSI, e_addST, e_shl, e_ci, e_eqI, e_eqS, e_eqB, e_neI, e_neS, e_neB, e_isN, e_notN, e_nthT, e_nthL, e_lenT, e_lenL, e_i1, e_i2, e_lcm, e_intO, e_intB, e_isqrt, e_divmod, e_repr, e_reprS, e_reprK, dFind, e_tupL, e_tupT, e_lst, e_truB, e_truI, e_truN, e_truL, e_truT, e_neg, e_bits, e_back, e_backL, e_slT, e_slL, e_slST, e_gdT, e_gdL, Ld.isNon])
local macro_rules | `(tactic| walk_at "u") => `(tactic| (dsimp only; walk_at "d"))

section
variable {R : RD} {Ex : XD}
/-! ### pieces of texts, drawn -/
def Asc (l : List Nat) : Prop := ∀ c ∈ l, c < 128
theorem Asc.app {a b : List Nat} (h1 : Asc a) (h2 : Asc b) : Asc (a ++ b) := fun c hc => (List.mem_append.mp hc).elim (h1 c) (h2 c)
theorem ix_some {l : List Nat} {k : Nat} (hk : k < l.length) (hl : l.length ≤ 10000) (h : ∀ c ∈ l, R (.str (sT [c]))) : fIxS (.str (sT l)) (.int (k : Nat)) R := by
  have hs : Sf l k (l[k] :: l.drop (k + 1)) := ⟨by rw [List.length_cons, List.length_drop]; omega, List.drop_eq_getElem_cons hk⟩
  exact ix_sT hs hl (h _ (List.getElem_mem hk))
theorem az_sT : azS = sT (tl' azS) := rfl
theorem add_S {A B : Str} (hl : (tl' A).length + (tl' B).length ≤ 20000) (k : R (.str (sT (tl' A ++ tl' B)))) : fAddG (.str A) (.str B) R := add_sT (a := tl' A) (b := tl' B) hl k
theorem num_asc (n : Nat) : Asc (tl' (toString (n : Int) : Str)) := fun c hc => by
  rw [show tl' (toString (n : Int) : Str) = (Str.ofString (toString (n : Int))).cps.toList from rfl, PySem.W.KIN.signs_num] at hc
  obtain ⟨ch, hm, rfl⟩ := List.mem_map.mp hc
  have d := Nat.isDigit_of_mem_toDigits (by decide) (by decide) hm
  unfold Char.isDigit at d
  simp only [ge_iff_le, Bool.and_eq_true, decide_eq_true_eq] at d
  have := d.2
  have h2 : ch.val.toNat ≤ (57 : UInt32).toNat := UInt32.le_iff_toNat_le.mp this
  show ch.val.toNat < 128
  have e : (57 : UInt32).toNat = 57 := rfl
  omega
theorem str_O {n : Nat} (hn : n < 10 ^ 10) (h : ∀ l : List Nat, l.length ≤ 10 → Asc l → R (.str (sT l))) : fStrO [.int n] R := by
  show (n : Int).natAbs.log2 < 1920 ∧ R (.str (toString (n : Int)))
  refine ⟨?_, h (tl' (toString (n : Int) : Str)) ?_ (num_asc n)⟩
  · have := log2_lt (n := (n : Int).natAbs) (k := 1900) (by decide) (Nat.lt_of_lt_of_le (show (n : Int).natAbs < 2 ^ 40 by omega) (Nat.pow_le_pow_right (by decide) (by decide)))
    omega
  · have := PySem.W.KT.len_num (n := (n : Int)) (by omega) (by omega)
    rw [show (Str.ofString (toString (n : Int))) = sT (tl' (toString (n : Int) : Str)) from rfl, len_sT] at this
    exact this
theorem rep_sT (l : List Nat) (k : Int) : repS (sT l) k = sT (List.replicate k.toNat l).flatten := by
  have e := rep_list l.toArray k.toNat #[]
  have : tl' (repS (sT l) k) = (List.replicate k.toNat l).flatten := by
    show (List.foldl (fun x1 x2 => x1 ++ x2) #[] (List.replicate k.toNat l.toArray)).toList = _
    rw [e]
    simp
  rw [← this]
  rfl
theorem rep_len (l : List Nat) : ∀ n : Nat, (List.replicate n l).flatten.length = n * l.length
  | 0 => by simp
  | n + 1 => by rw [List.replicate_succ, List.flatten_cons, List.length_append, rep_len l n, Nat.succ_mul]; omega
theorem rep_asc {l : List Nat} (h : Asc l) (n : Nat) : Asc (List.replicate n l).flatten := fun c hc => by
  obtain ⟨x, hx, hc⟩ := List.mem_flatten.mp hc
  rw [List.eq_of_mem_replicate hx] at hc
  exact h c hc
theorem w_l_name (h : ∀ l : List Nat, 1 ≤ l.length → l.length ≤ 5 → Asc l → R (.str (sT l))) : t_l_name [.well] R Ex := by
  unfold t_l_name b_l_name
  obtain ⟨k_l_draw, e_l_draw⟩ : ∃ k, t_l_draw = k := ⟨_, rfl⟩
  rw [e_l_draw]
  obtain ⟨k_l_kept, e_l_kept⟩ : ∃ k, t_l_kept = k := ⟨_, rfl⟩
  rw [e_l_kept]
  walk_at "d"
  refine st e_l_draw (drawN (n := 26) (by decide) (by decide) fun k hk => ?_)
  have a26 : (tl' azS).length = 26 := by decide +kernel
  have asc : Asc (tl' azS) := by unfold Asc; decide +kernel
  show fIxS (.str (sT (tl' azS))) (.int (k : Nat)) _
  refine ix_some (by omega) (by omega) fun c hc => ?_
  have ac := asc c hc
  walk_at "d"
  refine st e_l_draw (drawN (n := 4) (by decide) (by decide) fun n hn => ?_)
  walk_at "d"
  rw [Int.toNat_natCast]
  refine ⟨by omega, range_d (n := n) (fun i ρ => ∃ (l : List Nat) (v3 : Option Sv), ρ = [some .well, some (.dat (.str azS)), some (.dat (.str (sT l))), v3] ∧ l.length = i + 1 ∧ Asc l) ⟨[c], _, rfl, rfl, fun x hx => by rw [List.mem_singleton.mp hx]; exact ac⟩ ?_ ?_⟩
  · rintro i ρ K hi ⟨l, v3, rfl, ll, al⟩ go
    walk_at "d"
    refine add_S (by decide +kernel) ?_
    have e37 : (tl' azS ++ tl' ("0123456789_" : Str)).length = 37 := by decide +kernel
    have asc2 : Asc (tl' azS ++ tl' ("0123456789_" : Str)) := by unfold Asc; decide +kernel
    refine st e_l_draw (drawN (n := 37) (by decide) (by decide) fun j hj => ix_some (by omega) (by omega) fun x hx => ?_)
    refine add_sT (by rw [List.length_singleton]; omega) (go _ ⟨l ++ [x], _, rfl, by rw [List.length_append, ll]; rfl, al.app fun y hy => by rw [List.mem_singleton.mp hy]; exact asc2 x hx⟩)
  · rintro ρ ⟨l, v3, rfl, ll, al⟩
    walk_at "d"
    refine st e_l_kept (w_l_kept (in_kept ?_))
    cases isKept (.str (sT l)) with
    | true => exact difT (by
        rw [show ("_" : Str) = sT [95] by decide +kernel]
        exact add_sT (by rw [List.length_singleton]; omega) (h _ (by rw [List.length_append]; omega) (by rw [List.length_append, List.length_singleton]; omega) (al.app (by unfold Asc; decide))))
    | false => exact difF (h l (by omega) (by omega) al)
theorem w_l_piece (h : ∀ l : List Nat, l.length ≤ 900 → Asc l → R (.str (sT l))) : t_l_piece [.well] R Ex := by
  unfold t_l_piece b_l_piece
  obtain ⟨k_l_draw, e_l_draw⟩ : ∃ k, t_l_draw = k := ⟨_, rfl⟩
  rw [e_l_draw]
  obtain ⟨k_l_name, e_l_name⟩ : ∃ k, t_l_name = k := ⟨_, rfl⟩
  rw [e_l_name]
  obtain ⟨k_l_pick, e_l_pick⟩ : ∃ k, t_l_pick = k := ⟨_, rfl⟩
  rw [e_l_pick]
  obtain ⟨k_l_kept, e_l_kept⟩ : ∃ k, t_l_kept = k := ⟨_, rfl⟩
  rw [e_l_kept]
  walk_at "d"
  refine st e_l_draw (drawN (n := 30) (by decide) (by decide) fun k hk => ?_)
  walk_at "d"
  refine difP (fun _ => ?_) (fun _ => difP (fun _ => st e_l_name (w_l_name fun l _ l2 al => h l (by omega) al)) (fun _ => difP (fun _ => ?_) (fun _ => difP (fun _ => ?_) (fun _ => difP (fun _ => ?_) (fun _ => ?_)))))
  · obtain ⟨S, hS⟩ : ∃ S, S = (" \n#abcxyz0159_AZ!|&-()=;,/.:*<>?\x40[]^{}~+$'\"\\`q7" : Str) := ⟨_, rfl⟩
    have s1 : 0 < (tl' S).length ∧ (tl' S).length ≤ 100 := by
      rw [hS]
      decide +kernel
    have s2 : Asc (tl' S) := by
      rw [hS]
      unfold Asc
      decide +kernel
    rw [← hS]
    show fLen [.str (sT (tl' S))] _
    walk_at "d"
    refine ⟨lenT (by omega), ?_⟩
    rw [len_sT]
    exact st e_l_draw (drawN s1.1 (by omega) fun j hj => ix_some (l := tl' S) hj (by omega) fun c hc => h [c] (by rw [List.length_singleton]; decide) fun x hx => by rw [List.mem_singleton.mp hx]; exact s2 c hc)
  · exact st e_l_draw (drawN (n := 10000) (by decide) (by decide) fun j hj => str_O (by omega) fun l ll al => h l (by omega) al)
  · refine st e_l_kept (w_l_kept (st e_l_pick (w_l_pick (by decide) (by decide) fun d hd => ?_)))
    simp only [keptD, List.mem_cons, List.not_mem_nil, or_false] at hd
    have g : ∀ x : Str, (tl' x).length ≤ 900 → Asc (tl' x) → R (.str x) := fun x => h (tl' x)
    rcases hd with rfl | rfl | rfl | rfl | rfl | rfl | rfl | rfl | rfl | rfl | rfl | rfl | rfl | rfl | rfl <;> exact g _ (by decide +kernel) (by unfold Asc; decide +kernel)
  · refine ix_any (by omega) (by show _ < (4 : Int); omega) fun d hd => ?_
    have g : ∀ x : Str, (tl' x).length ≤ 900 → Asc (tl' x) → R (.str x) := fun x => h (tl' x)
    simp only [List.mem_cons, List.not_mem_nil, or_false] at hd
    rcases hd with rfl | rfl | rfl | rfl <;> exact g _ (by decide +kernel) (by unfold Asc; decide +kernel)
  · refine st e_l_pick (w_l_pick (by decide) (by decide) fun d hd => ?_)
    have hd2 : ∃ l, d = .str (sT l) ∧ 1 ≤ l.length ∧ l.length ≤ 2 ∧ Asc l := by
      simp only [List.mem_cons, List.not_mem_nil, or_false] at hd
      rcases hd with rfl | rfl | rfl | rfl
      · exact ⟨tl' ("a" : Str), rfl, by decide +kernel, by decide +kernel, by unfold Asc; decide +kernel⟩
      · exact ⟨tl' ("7" : Str), rfl, by decide +kernel, by decide +kernel, by unfold Asc; decide +kernel⟩
      · exact ⟨tl' ("_" : Str), rfl, by decide +kernel, by decide +kernel, by unfold Asc; decide +kernel⟩
      · exact ⟨tl' ("z9" : Str), rfl, by decide +kernel, by decide +kernel, by unfold Asc; decide +kernel⟩
    obtain ⟨l, rfl, l1, l2, al⟩ := hd2
    refine st e_l_pick (w_l_pick (by decide) (by decide) fun e he => ?_)
    have he2 : ∃ n : Nat, e = .int n ∧ 2 ≤ n ∧ n ≤ 401 := by
      simp only [List.mem_cons, List.not_mem_nil, or_false] at he
      rcases he with rfl | rfl | rfl | rfl | rfl
      · exact ⟨24, rfl, by decide, by decide⟩
      · exact ⟨25, rfl, by decide, by decide⟩
      · exact ⟨12, rfl, by decide, by decide⟩
      · exact ⟨400, rfl, by decide, by decide⟩
      · exact ⟨401, rfl, by decide, by decide⟩
    obtain ⟨n, rfl, n1, n2⟩ := he2
    refine ⟨⟨by omega, by omega, by rw [len_sT]; omega, by rw [len_sT]; omega⟩, ?_⟩
    rw [rep_sT, Int.toNat_natCast]
    have m : n * l.length ≤ 401 * 2 := Nat.mul_le_mul n2 l2
    exact h _ (by rw [rep_len]; omega) (rep_asc al n)
end

end My

set_option maxHeartbeats 4000000
namespace My
open PySem L2 Ld
open Lw hiding Dv DvAll FreshB tData tDatas pd_int pd_bl pd_non pd_str pd_neg pd_pow pda_nil pda_cons pd_tup pd_lst pd_dct dv_cut dv_cat tup_at rRepr call_repr rIsD call_isD
local macro_rules | `(tactic| walk_at "d") => `(tactic| try dsimp only [tfOf, startD, slotD, putD, wipeD, dV, dC, dOp, dUn, dNil, dCons, dConsW, dConsF, dCallV, dCall, datsOf, dCB, dTup, dLst, dIf, dTst, dCmp, dCmpV, dChain, dChainT, dNot, dAnd, dOr, dAndV, dOrV, dNotV, dTb, sSeq, sNx, sSet, sRet, sRetN, sIf, sExpr, sBrk, sCont, sPar, sPar3, lenK, gdN, gdNil, gdCons, sAsg, sFor, iLst, iTpl, iRg1, iRg2, iZp, iSqD, dYes, dLc, dLcB, dLc2, dNoP, dPart, dSl, dSlS, sOwn, sOwn2, sOwn3, sOwnC, sOwnSS, iTx, dSlT, fSlT, iEnT, fNotInS, dFmt, dJs, dCallK, pickD, iEn, e_eqL, e_neL, ownK, sApp, sAppL, sSetL, sIfL, sInsL, sTry1, dStar, dTupS, dLstS, dToldA, dToldB, toldX, mkP, dOwnLst, fLstL, sExt, sIns, sPut, sFrz, dOwnLen, dOwnIx, sRaise, sAug, t_draw, nthL, e_int, e_int0, e_add, e_addT, e_addL, e_addSI, e_addST, e_shl, e_ci, e_eqI, e_eqS, e_eqB, e_neI, e_neS, e_neB, e_isN, e_notN, e_nthT, e_nthL, e_lenT, e_lenL, e_i1, e_i2, e_lcm, e_intO, e_intB, e_isqrt, e_divmod, e_repr, e_reprS, e_reprK, dFind, e_tupL, e_tupT, e_lst, e_truB, e_truI, e_truN, e_truL, e_truT, e_neg, e_bits, e_back, e_backL, e_slT, e_slL, e_slST, e_gdT, e_gdL, Ld.isNon])
local macro_rules | `(tactic| walk_at "u") => `(tactic| (dsimp only; walk_at "d"))

section
variable {R : RD} {Ex : XD}
/-! ### fractions as texts -/
theorem int_asc (i : Int) : Asc (tl' (toString i : Str)) := fun c hc => by
  by_cases h : c ≠ 45 ∧ (c < 48 ∨ 57 < c)
  · exact absurd hc (PyProof.Rows.int_text_free' c h i)
  · omega
theorem int_len {i : Int} (h : i.natAbs < 10 ^ 15) : (tl' (toString i : Str)).length ≤ 20 := by
  have e : (Str.ofString (toString i)).length = (tl' (toString i : Str)).length := by
    exact len_sT (tl' (toString i : Str))
  by_cases c : i < 0
  · have a := PyProof.Rows.len_text_neg c
    have b := PyProof.Rows.toString_length_le (v := 0 - i) (by omega) (k := 15) (by decide) (by omega)
    omega
  · have b := PyProof.Rows.toString_length_le (v := i) (by omega) (k := 15) (by decide) (by omega)
    omega
theorem int_log {i : Int} (h : i.natAbs < 10 ^ 15) : i.natAbs.log2 < 1920 := by
  have := log2_lt (n := i.natAbs) (k := 1900) (by decide) (Nat.lt_of_lt_of_le (show i.natAbs < 2 ^ 60 by omega) (Nat.pow_le_pow_right (by decide) (by decide)))
  omega
/-! data told -/
structure Sk (n m : Nat) (d : PyData) : Prop where
  sh : d.showable = true
  dp : d.depth ≤ m
  ln : d.shown.length ≤ n
theorem Sk.all {n m : Nat} {d : PyData} (h : Sk n m d) (hn : n ≤ 16000000) (hm : m ≤ 100) : shows d := ⟨h.sh, Nat.le_trans h.dp hm, by
  have := h.ln
  rw [sizeLine_eq]
  omega⟩
theorem Sk.mono {n m n' m' : Nat} {d : PyData} (h : Sk n m d) (a : n ≤ n') (b : m ≤ m') : Sk n' m' d := ⟨h.sh, Nat.le_trans h.dp b, Nat.le_trans h.ln a⟩
theorem sk_str {l : List Nat} {n : Nat} (h : Asc l) (hl : 10 * l.length + 2 ≤ n) : Sk n 0 (.str (sT l)) := ⟨rfl, Nat.le_refl _, by
  have e := StrLaws.reprText_len (sT l) fun c hc => Nat.lt_of_lt_of_le (h c hc) (by decide)
  show (reprText (sT l)).length ≤ n
  rw [len_sT] at e
  omega⟩
theorem sk_say {n m : Nat} {d : PyData} (h : Say n m d) : Sk n m d := ⟨fine_showable (by decide) d h.fit.f, h.fit.d, Nat.le_trans (shown_le (by decide) d h.fit.f) h.fit.w⟩
theorem sk_int {i : Int} (h : i.natAbs < 10 ^ 15) : Sk 2000 0 (.int i) := sk_say (say_int (Nat.lt_of_lt_of_le (show i.natAbs < 2 ^ 60 by omega) (Nat.pow_le_pow_right (by decide) (by decide))))
theorem sk_list {m : Nat} (f : PyData → Nat) : ∀ {ds : List PyData}, (∀ d ∈ ds, Sk (f d) m d) → PyData.showableAll ds = true ∧ PyData.depthAll ds ≤ m ∧ ((PyData.shownAll ds).map (·.length)).sum ≤ (ds.map f).sum
  | [], _ => ⟨rfl, Nat.zero_le _, Nat.zero_le _⟩
  | x :: r, h => by
    obtain ⟨a, c, d⟩ := sk_list f (ds := r) fun y hy => h y (List.mem_cons_of_mem _ hy)
    have s := h x (List.mem_cons_self ..)
    have w := s.ln
    have dd := s.dp
    refine ⟨?_, ?_, ?_⟩
    · show (x.showable && PyData.showableAll r) = true
      rw [s.sh, a] <;> rfl
    · show max x.depth (PyData.depthAll r) ≤ m
      omega
    · show (x.shown.length :: (PyData.shownAll r).map (·.length)).sum ≤ _
      rw [List.sum_cons, List.map_cons, List.sum_cons]
      omega
theorem sk_tup {m : Nat} {ds : List PyData} (f : PyData → Nat) (h : ∀ d ∈ ds, Sk (f d) m d) {n : Nat} (hn : (ds.map f).sum + 2 * ds.length + 3 ≤ n) : Sk n (m + 1) (.tuple ds) := by
  obtain ⟨a, c, d⟩ := sk_list f h
  have q := tupleText_len_le (PyData.shownAll ds)
  rw [shownAll_length] at q
  refine ⟨a, ?_, ?_⟩
  · show PyData.depthAll ds + 1 ≤ _
    omega
  · show (tupleText (PyData.shownAll ds)).length ≤ _
    omega
theorem sk_lst {m : Nat} {ds : List PyData} (f : PyData → Nat) (h : ∀ d ∈ ds, Sk (f d) m d) {n : Nat} (hn : (ds.map f).sum + 2 * ds.length + 10 ≤ n) : Sk n (m + 1) (.list ds) := by
  obtain ⟨a, c, d⟩ := sk_list f h
  have q := listText_len_le (PyData.shownAll ds)
  rw [shownAll_length] at q
  refine ⟨a, ?_, ?_⟩
  · show PyData.depthAll ds + 1 ≤ _
    omega
  · show (listText (PyData.shownAll ds)).length ≤ _
    omega
/-- a value of any kind -/
structure Od (d : PyData) : Prop where
  k : d.hasDict = false ∨ noK d = true
  s : Sk 9000 2 d
  t : ∀ x, d = .str x → (tl' x).length ≤ 10000
theorem Od.pair {d : PyData} (h : Od d) : ((PyData.tuple [.str "fraction", d]).hasDict = false ∨ noK (.tuple [.str "fraction", d]) = true) ∧ shows (.tuple [.str "fraction", d]) := by
  refine ⟨?_, (sk_tup (m := 2) (fun _ => 9000) (fun x hx => ?_) (n := 20000) (by show 9000 + (9000 + 0) + 2 * 2 + 3 ≤ 20000; decide)).all (by decide) (by decide)⟩
  · rcases h.k with k | k
    · refine .inl ?_
      show (false || (d.hasDict || false)) = false
      rw [k] <;> rfl
    · refine .inr ?_
      show (true && (noK d && true)) = true
      rw [k] <;> rfl
  · simp only [List.mem_cons, List.not_mem_nil, or_false] at hx
    rcases hx with rfl | rfl
    · exact ⟨by decide +kernel, by decide +kernel, by decide +kernel⟩
    · exact h.s
theorem od_ints {ds : List PyData} (hl : ds.length ≤ 3) (h : ∀ d ∈ ds, (∃ i : Int, i.natAbs < 10 ^ 15 ∧ d = .int i) ∨ ∃ b, d = .bool b) : Od (.tuple ds) ∧ Od (.list ds) := by
  have a : ∀ d ∈ ds, Sk 2000 0 d ∧ d.hasDict = false := fun d hd => by
    rcases h d hd with ⟨i, hi, rfl⟩ | ⟨b, rfl⟩
    · exact ⟨sk_int hi, rfl⟩
    · exact ⟨sk_say (say_bool b), rfl⟩
  have n : PyData.hasDictAll ds = false := by
    have : ∀ l : List PyData, (∀ d ∈ l, d.hasDict = false) → PyData.hasDictAll l = false := fun l => by
      induction l with
      | nil => intro _; rfl
      | cons x r ih =>
        intro h
        show (x.hasDict || PyData.hasDictAll r) = false
        rw [h x (List.mem_cons_self ..), ih fun d hd => h d (List.mem_cons_of_mem _ hd)] <;> rfl
    exact this ds fun d hd => (a d hd).2
  have s : (ds.map fun _ => 2000).sum ≤ 6000 := by
    have : ∀ l : List PyData, (l.map fun _ => 2000).sum = l.length * 2000 := fun l => by
      induction l with
      | nil => rfl
      | cons x r ih => rw [List.map_cons, List.sum_cons, ih, List.length_cons]; omega
    rw [this]
    omega
  exact ⟨⟨.inl n, (sk_tup (fun _ => 2000) (fun d hd => (a d hd).1) (n := 9000) (by omega)).mono (by decide) (by decide), fun x e => by cases e⟩, ⟨.inl n, (sk_lst (fun _ => 2000) (fun d hd => (a d hd).1) (n := 9000) (by omega)).mono (by decide) (by decide), fun x e => by cases e⟩⟩
theorem w_p_check_fraction {d : PyData} (h1 : isFrB d = true → R .none) (h2 : isFrB d = false → Ex ("InvalidFraction", [("given", d)])) : t_p_check_fraction [.dat d] R Ex := by
  unfold t_p_check_fraction b_p_check_fraction
  obtain ⟨k_p_is_fraction, e_p_is_fraction⟩ : ∃ k, t_p_is_fraction = k := ⟨_, rfl⟩
  rw [e_p_is_fraction]
  walk_at "d"
  refine st e_p_is_fraction (w_p_is_fraction ?_)
  walk_at "d"
  cases c : isFrB d with
  | true => exact difF (h1 c)
  | false => exact difT (h2 c)
def frT (p q : Int) : List Nat := if q = 1 then tl' (toString p : Str) else tl' (toString p : Str) ++ [47] ++ tl' (toString q : Str)
theorem frT_ok {p q : Int} (hp : p.natAbs < 10 ^ 15) (hq : q.natAbs < 10 ^ 15) : Asc (frT p q) ∧ (frT p q).length ≤ 50 := by
  have a := int_len hp
  have b := int_len hq
  unfold frT
  split
  · exact ⟨int_asc p, by omega⟩
  · exact ⟨((int_asc p).app (by unfold Asc; decide)).app (int_asc q), by rw [List.length_append, List.length_append, List.length_singleton]; omega⟩
theorem sl_sT : ("/" : Str) = sT [47] := by decide +kernel
theorem lenS {X : Str} (h : (tl' X).length ≤ 10000) : X.length ≤ sizeLine := lenT (l := tl' X) h
theorem js_ok {p q : Int} (hp : p.natAbs < 10 ^ 15) (hq : q.natAbs < 10 ^ 15) (hn : q ≠ 1) {Q : RD} (h : Q (.str (sT (frT p q)))) : (Str.empty ++ (toString p : Str)).length ≤ sizeLine ∧ (Str.empty ++ (toString p : Str) ++ ("/" : Str)).length ≤ sizeLine ∧ (Str.empty ++ (toString p : Str) ++ ("/" : Str) ++ (toString q : Str)).length ≤ sizeLine ∧ Q (.str (Str.empty ++ (toString p : Str) ++ ("/" : Str) ++ (toString q : Str))) := by
  have a := int_len hp
  have b := int_len hq
  have e0 : Str.empty = sT [] := rfl
  have e1 : (toString p : Str) = sT (tl' (toString p : Str)) := rfl
  have e2 : (toString q : Str) = sT (tl' (toString q : Str)) := rfl
  have ef : frT p q = tl' (toString p : Str) ++ [47] ++ tl' (toString q : Str) := if_neg hn
  rw [ef] at h
  generalize tl' (toString p : Str) = P at *
  generalize tl' (toString q : Str) = W at *
  rw [e1, e2, e0, sl_sT, sT_app, sT_app, sT_app, List.nil_append]
  exact ⟨lenT (by omega), lenT (by rw [List.length_append, List.length_singleton]; omega), lenT (by rw [List.length_append, List.length_append, List.length_singleton]; omega), h⟩
theorem w_p_plain_text {p q : Int} (hp : p.natAbs < 10 ^ 15) (hq : q.natAbs < 10 ^ 15) (h : R (.str (sT (frT p q)))) : t_p_plain_text [.dat (.tuple [.int p, .int q])] R Ex := by
  unfold t_p_plain_text b_p_plain_text
  walk_at "d"
  change (if decide (q = 1) = true then _ else _)
  refine difP (fun c => ⟨int_log hp, ?_⟩) (fun c => ?_)
  · rw [show frT p q = tl' (toString p : Str) from if_pos c] at h
    exact h
  · obtain ⟨j1, j2, j3, j4⟩ := js_ok hp hq c h
    exact ⟨int_log hp, j1, j2, int_log hq, j3, j4⟩
theorem w_p_fraction_text {p q : Int} (hf : IsFr p q) (hp : p.natAbs < 10 ^ 15) (hq : q.natAbs < 10 ^ 15) (h : R (.str (sT (frT p q)))) : t_p_fraction_text [.dat (.tuple [.int p, .int q])] R Ex := by
  have e : isFrB (.tuple [.int p, .int q]) = true := by
    show (decide (0 < q) && decide (gcdI p q = 1)) = true
    rw [decide_eq_true hf.1, decide_eq_true hf.2] <;> rfl
  unfold t_p_fraction_text b_p_fraction_text
  obtain ⟨k_p_check_fraction, e_p_check_fraction⟩ : ∃ k, t_p_check_fraction = k := ⟨_, rfl⟩
  rw [e_p_check_fraction]
  obtain ⟨k_p_plain_text, e_p_plain_text⟩ : ∃ k, t_p_plain_text = k := ⟨_, rfl⟩
  rw [e_p_plain_text]
  walk_at "d"
  exact st e_p_check_fraction (w_p_check_fraction (fun _ => st e_p_plain_text (w_p_plain_text hp hq h)) fun z => by rw [e] at z; cases z)
theorem w_p_fraction_textN {d : PyData} (hd : isFrB d = false) (h : Ex ("InvalidFraction", [("given", d)])) : t_p_fraction_text [.dat d] R Ex := by
  unfold t_p_fraction_text b_p_fraction_text
  obtain ⟨k_p_check_fraction, e_p_check_fraction⟩ : ∃ k, t_p_check_fraction = k := ⟨_, rfl⟩
  rw [e_p_check_fraction]
  obtain ⟨k_p_plain_text, e_p_plain_text⟩ : ∃ k, t_p_plain_text = k := ⟨_, rfl⟩
  rw [e_p_plain_text]
  walk_at "d"
  exact st e_p_check_fraction (w_p_check_fraction (fun z => by rw [hd] at z; cases z) fun _ => h)
theorem w_l_part (h : ∀ p q : Int, IsFr p q → p.natAbs ≤ 10 ^ 13 → q.natAbs ≤ 10 ^ 13 → R (.tuple [.int p, .int q])) : t_l_part [.well] R Ex := by
  unfold t_l_part b_l_part
  obtain ⟨k_l_draw, e_l_draw⟩ : ∃ k, t_l_draw = k := ⟨_, rfl⟩
  rw [e_l_draw]
  obtain ⟨k_l_lean, e_l_lean⟩ : ∃ k, t_l_lean = k := ⟨_, rfl⟩
  rw [e_l_lean]
  walk_at "d"
  refine st e_l_draw (drawN (n := 9) (by decide) (by decide) fun k hk => ?_)
  walk_at "d"
  refine difP (fun _ => ?_) (fun _ => ?_)
  · refine ⟨⟨by decide, by decide, by decide⟩, st e_l_draw (w_l_draw (n := 1000000000000) (by decide) (by decide) fun a a0 a1 => ⟨⟨by decide, by decide, by decide⟩, ⟨by decide, by decide, by decide⟩, st e_l_draw (w_l_draw (n := 1000000000) (by decide) (by decide) fun b b0 b1 => ?_)⟩)⟩
    have c0 : (0 : Int) < 1 + b := by omega
    have le := red_le (a := a - 100000000000) c0
    exact st e_l_lean (w_l_lean (by omega) (two_le (m := 60) (by omega) (by decide)) (show R (fracD (a - 100000000000) (1 + b)) from h _ _ (red_fr c0) (by omega) (by omega)))
  · refine st e_l_draw (drawN (n := 41) (by decide) (by decide) fun a ha => ?_)
    walk_at "d"
    refine st e_l_draw (drawN (n := 9) (by decide) (by decide) fun b hb => ?_)
    walk_at "d"
    have b0 : (0 : Int) < 1 + b := by omega
    have le := red_le (a := (a : Int) - 20) b0
    exact st e_l_lean (w_l_lean (by omega) (two_le (m := 60) (by omega) (by decide)) (show R (fracD ((a : Int) - 20) (1 + b)) from h _ _ (red_fr b0) (by omega) (by omega)))
theorem all_two {a b : Bool} {Q : RD} (h : Q (.bool (a && b))) : fAll [.list [.bool a, .bool b]] Q := by cases a <;> cases b <;> exact h
theorem any_two {a b : Bool} {Q : RD} (h : Q (.bool (a || b))) : fAny [.list [.bool a, .bool b]] Q := by cases a <;> cases b <;> exact h
theorem fr_no {x y : PyData} (h : ∀ a b, ¬ (x = .int a ∧ y = .int b)) : isFrB (.tuple [x, y]) = false := by
  cases x with
  | int a =>
    cases y with
    | int b => exact absurd ⟨rfl, rfl⟩ (h a b)
    | _ => rfl
  | _ => rfl
theorem w_l_are_fractions_right {d0 : PyData} (hd : Od d0) (h : R (.bool true)) : t_l_are_fractions_right [.well, .dat d0] R Ex := by
  unfold t_l_are_fractions_right b_l_are_fractions_right
  obtain ⟨k_l_part, e_l_part⟩ : ∃ k, t_l_part = k := ⟨_, rfl⟩
  rw [e_l_part]
  obtain ⟨k_p_fraction_text, e_p_fraction_text⟩ : ∃ k, t_p_fraction_text = k := ⟨_, rfl⟩
  rw [e_p_fraction_text]
  obtain ⟨k_l_pick, e_l_pick⟩ : ∃ k, t_l_pick = k := ⟨_, rfl⟩
  rw [e_l_pick]
  obtain ⟨k_l_shared, e_l_shared⟩ : ∃ k, t_l_shared = k := ⟨_, rfl⟩
  rw [e_l_shared]
  walk_at "d"
  refine st e_l_part (w_l_part fun p q hf hp hq => ?_)
  have hp2 : p.natAbs < 10 ^ 15 := by omega
  have hq2 : q.natAbs < 10 ^ 15 := by omega
  have q0 := hf.1
  have fin : ∀ (d : PyData) (v4 v5 : Option Sv), Od d → isFrB d = false → ((sRet (dCmpV fEq (dCB fReprK (dCons (dToldA true [("BadText", "spot", "spot"), ("InvalidFraction", "given", "fraction")] "value" (dCall k_p_fraction_text (dCons (dV 1) dNil))) dNil)) (dCB fReprK (dCons (dTup (dCons (dC (.str "fraction")) (dCons (dV 1) dNil))) dNil))))) { nx := fun _ => R .none, rt := R, ex := fun _ => Ex } [some .well, some (.dat d), some (.dat (.int p)), some (.dat (.int q)), v4, v5] := fun d v4 v5 od nf => by
    have z := od.pair
    walk_at "d"
    refine st e_p_fraction_text (w_p_fraction_textN nf (.inr (.inl ⟨_, rfl, z.1, z.2, z.1, z.2, ?_⟩)))
    generalize PyData.shown (.tuple [.str "fraction", d]) = w
    rw [decide_eq_true rfl]
    exact h
  have no5 : ∀ (d : PyData) (v5 : Option Sv), Od d → isFrB d = false → ((sSeq (sIf (dAnd (dTst (dV 4)) (dAnd (dCmp fGt (dUn (fNth 1) (dV 1)) (dC (.int 0))) (dCmp fEq (dCall k_l_shared (dCons (dUn (fNth 0) (dV 1)) (dCons (dUn (fNth 1) (dV 1)) dNil))) (dC (.int 1))))) (sRet (dC (.bool true))) sNx) (sRet (dCmpV fEq (dCB fReprK (dCons (dToldA true [("BadText", "spot", "spot"), ("InvalidFraction", "given", "fraction")] "value" (dCall k_p_fraction_text (dCons (dV 1) dNil))) dNil)) (dCB fReprK (dCons (dTup (dCons (dC (.str "fraction")) (dCons (dV 1) dNil))) dNil)))))) { nx := fun _ => R .none, rt := R, ex := fun _ => Ex } [some .well, some (.dat d), some (.dat (.int p)), some (.dat (.int q)), some (.dat (.bool false)), v5] := fun d v5 od nf => by
    have := fin d (some (.dat (.bool false))) v5 od nf
    walk_at "d"
    exact difF (difF this)
  have key : ∀ (d : PyData), Od d → ((sSeq (sSet 4 (dAndV (dUn (fun d R => R (.bool (isTup d))) (dV 1)) (dAndV (dCmpV fEq (dCB fLen (dCons (dV 1) dNil)) (dC (.int 2))) (dCB fAll (dCons (dLc (iTpl (dV 1)) [5] (gdN 5) dYes (dUn (fun d R => R (.bool (isInt d))) (dV 5))) dNil))))) (sSeq (sSet 4 (dAndV (dV 4) (dNotV (dCB fAny (dCons (dLc (iTpl (dV 1)) [5] (gdN 5) dYes (dUn (fun d R => R (.bool (isBool d))) (dV 5))) dNil))))) (sSeq (sIf (dAnd (dTst (dV 4)) (dAnd (dCmp fGt (dUn (fNth 1) (dV 1)) (dC (.int 0))) (dCmp fEq (dCall k_l_shared (dCons (dUn (fNth 0) (dV 1)) (dCons (dUn (fNth 1) (dV 1)) dNil))) (dC (.int 1))))) (sRet (dC (.bool true))) sNx) (sRet (dCmpV fEq (dCB fReprK (dCons (dToldA true [("BadText", "spot", "spot"), ("InvalidFraction", "given", "fraction")] "value" (dCall k_p_fraction_text (dCons (dV 1) dNil))) dNil)) (dCB fReprK (dCons (dTup (dCons (dC (.str "fraction")) (dCons (dV 1) dNil))) dNil)))))))) { nx := fun _ => R .none, rt := R, ex := fun _ => Ex } [some .well, some (.dat d), some (.dat (.int p)), some (.dat (.int q)), none, none] := fun d od => by
    cases ht : isTup d with
    | false =>
      have nf : isFrB d = false := by cases d <;> first | rfl | cases ht
      have := no5 d none od nf
      walk_at "d"
      rw [ht]
      exact difF this
    | true =>
      cases d with
      | tuple ds =>
        rcases ds with _ | ⟨x, _ | ⟨y, _ | ⟨z, r⟩⟩⟩
        · have := no5 _ none od rfl
          walk_at "d"
          exact difT (difP (fun z => absurd z (by decide)) (fun _ => this))
        · have := no5 _ none od (fr_len (by simp))
          walk_at "d"
          exact difT (difP (fun z => absurd z (by simp)) (fun _ => this))
        · have nof : isFrB (.tuple [x, y]) = false → _ := fun nf => no5 _ none od nf
          walk_at "d"
          simp only [lcD]
          walk_at "d"
          refine difT (difP (fun _ => ⟨Nat.le_trans (Nat.le_refl 2) (by decide), difT (difT (all_two ?_))⟩) (fun z => absurd rfl z))
          walk_at "d"
          refine dif (fun c => ⟨Nat.le_trans (Nat.le_refl 2) (by decide), difT (difT (any_two ?_))⟩) (fun c => ?_)
          · walk_at "d"
            refine dif (fun e => ?_) (fun e => ?_)
            · have xi : ∃ a, x = .int a := by
                cases x with
                | int a => exact ⟨a, rfl⟩
                | bool b => cases e
                | _ => cases c
              obtain ⟨a, rfl⟩ := xi
              have yi : ∃ b, y = .int b := by
                cases y with
                | int b => exact ⟨b, rfl⟩
                | bool b => cases e
                | _ => cases c
              obtain ⟨b, rfl⟩ := yi
              walk_at "d"
              refine difP (fun b0 => st e_l_shared (w_l_shared ?_)) (fun b0 => difF ?_)
              · walk_at "d"
                refine difP (fun g => h) (fun g => ?_)
                exact fin _ none none od (by show (decide (0 < b) && decide (gcdI a b = 1)) = false; rw [decide_eq_false g]; exact Bool.and_false _)
              · exact fin _ none none od (by show (decide (0 < b) && decide (gcdI a b = 1)) = false; rw [decide_eq_false b0]; exact Bool.false_and _)
            · have nf : isFrB (.tuple [x, y]) = false := fr_no fun a b z => by
                rw [z.1, z.2] at e
                cases e
              exact difF (fin _ none none od nf)
          · have nf : isFrB (.tuple [x, y]) = false := fr_no fun a b z => by
              rw [z.1, z.2] at c
              cases c
            have := no5 _ none od nf
            rw [c]
            exact this
        · have := no5 _ none od (fr_len (by simp))
          walk_at "d"
          exact difT (difP (fun z => absurd z (by simp; omega)) (fun _ => this))
      | _ => cases ht
  have ci : ∀ i : Int, i.natAbs < 10 ^ 15 → (∃ j : Int, j.natAbs < 10 ^ 15 ∧ PyData.int i = .int j) ∨ ∃ b, PyData.int i = .bool b := fun i hi => .inl ⟨i, hi, rfl⟩
  have rest : ((sSeq (sSet 1 (dCall k_l_pick (dConsW 0 (dCons (dTup (dCons (dV 1) (dCons (dTup (dCons (dOp fMul (dC (.int 2)) (dV 2)) (dCons (dOp fMul (dC (.int 2)) (dV 3)) dNil))) (dCons (dTup (dCons (dV 2) (dCons (dOp fSub (dC (.int 0)) (dV 3)) dNil))) (dCons (dLst (dCons (dV 2) (dCons (dV 3) dNil))) (dCons (dTup (dCons (dV 2) (dCons (dV 3) (dCons (dC (.int 1)) dNil)))) (dCons (dTup (dCons (dC (.bool true)) (dCons (dV 3) dNil))) (dCons (dV 2) (dCons (dTup (dCons (dV 2) dNil)) (dCons (dCB fStrO (dCons (dV 2) dNil)) (dCons (dC (.tuple [(.int 1), (.int 0)])) dNil))))))))))) dNil)))) (sSeq (sSet 4 (dAndV (dUn (fun d R => R (.bool (isTup d))) (dV 1)) (dAndV (dCmpV fEq (dCB fLen (dCons (dV 1) dNil)) (dC (.int 2))) (dCB fAll (dCons (dLc (iTpl (dV 1)) [5] (gdN 5) dYes (dUn (fun d R => R (.bool (isInt d))) (dV 5))) dNil))))) (sSeq (sSet 4 (dAndV (dV 4) (dNotV (dCB fAny (dCons (dLc (iTpl (dV 1)) [5] (gdN 5) dYes (dUn (fun d R => R (.bool (isBool d))) (dV 5))) dNil))))) (sSeq (sIf (dAnd (dTst (dV 4)) (dAnd (dCmp fGt (dUn (fNth 1) (dV 1)) (dC (.int 0))) (dCmp fEq (dCall k_l_shared (dCons (dUn (fNth 0) (dV 1)) (dCons (dUn (fNth 1) (dV 1)) dNil))) (dC (.int 1))))) (sRet (dC (.bool true))) sNx) (sRet (dCmpV fEq (dCB fReprK (dCons (dToldA true [("BadText", "spot", "spot"), ("InvalidFraction", "given", "fraction")] "value" (dCall k_p_fraction_text (dCons (dV 1) dNil))) dNil)) (dCB fReprK (dCons (dTup (dCons (dC (.str "fraction")) (dCons (dV 1) dNil))) dNil))))))))) { nx := fun _ => R .none, rt := R, ex := fun _ => Ex } [some .well, some (.dat d0), some (.dat (.int p)), some (.dat (.int q)), none, none] := by
    walk_at "d"
    refine ⟨mulx_ok (show (2 : Int).natAbs < 2 ^ 10 by decide) (show p.natAbs < 2 ^ 60 by omega) (by decide), mulx_ok (show (2 : Int).natAbs < 2 ^ 10 by decide) (show q.natAbs < 2 ^ 60 by omega) (by decide), int_log hp2, ?_⟩
    refine st e_l_pick (w_l_pick (by show 0 < 10; decide) (by show 10 < 1000; decide) fun d hd2 => key d ?_)
    simp only [List.mem_cons, List.not_mem_nil, or_false] at hd2
    have two : ∀ {a b : PyData}, ((∃ j : Int, j.natAbs < 10 ^ 15 ∧ a = .int j) ∨ ∃ v, a = .bool v) → ((∃ j : Int, j.natAbs < 10 ^ 15 ∧ b = .int j) ∨ ∃ v, b = .bool v) → Od (.tuple [a, b]) ∧ Od (.list [a, b]) := fun {a b} ha hb => od_ints (ds := [a, b]) (by show 2 ≤ 3; decide) fun d hd => by
      simp only [List.mem_cons, List.not_mem_nil, or_false] at hd
      rcases hd with rfl | rfl
      · exact ha
      · exact hb
    rcases hd2 with rfl | rfl | rfl | rfl | rfl | rfl | rfl | rfl | rfl | rfl
    · exact hd
    · exact (two (ci _ (by omega)) (ci _ (by omega))).1
    · exact (two (ci _ (by omega)) (ci _ (by omega))).1
    · exact (two (ci _ (by omega)) (ci _ (by omega))).2
    · exact (od_ints (ds := [.int p, .int q, .int 1]) (by show 3 ≤ 3; decide) fun d hd => by
        simp only [List.mem_cons, List.not_mem_nil, or_false] at hd
        rcases hd with rfl | rfl | rfl
        · exact ci _ hp2
        · exact ci _ hq2
        · exact ci _ (by decide)).1
    · exact (two (.inr ⟨true, rfl⟩) (ci _ (by omega))).1
    · exact ⟨.inl rfl, (sk_int hp2).mono (by decide) (by decide), fun x e => by cases e⟩
    · exact (od_ints (ds := [.int p]) (by show 1 ≤ 3; decide) fun d hd => by rw [List.mem_singleton.mp hd]; exact ci _ hp2).1
    · exact ⟨.inl rfl, (sk_str (l := tl' (toString p : Str)) (n := 9000) (int_asc p) (by have := int_len hp2; omega)).mono (by decide) (by decide), fun x e => by have := int_len hp2; rw [← PyData.str.inj e]; omega⟩
    · exact (two (ci _ (by decide)) (ci _ (by decide))).1
  have ft := frT_ok hp2 hq2
  have sh : shows (.str (sT (frT p q))) := (sk_str (n := 9000) ft.1 (by omega)).all (by decide) (by decide)
  walk_at "d"
  change k_p_fraction_text _ _ _
  refine st e_p_fraction_text (w_p_fraction_text hf hp2 hq2 ⟨.inl rfl, sh, difP (fun c => ?_) (fun c => ?_)⟩)
  · obtain ⟨j1, j2, j3, j4⟩ := js_ok hp2 hq2 (by omega) (Q := fun z => z = .str (sT (frT p q))) rfl
    refine ⟨int_log hp2, j1, j2, int_log hq2, j3, ?_⟩
    rw [j4]
    refine ⟨.inl rfl, sh, ?_⟩
    generalize PyData.shown (.str (sT (frT p q))) = w
    rw [decide_eq_true rfl]
    exact difF rest
  · have e : (.str (toString p : Str) : PyData) = .str (sT (frT p q)) := by
      rw [show frT p q = tl' (toString p : Str) from if_pos (by omega)]
      rfl
    refine ⟨int_log hp2, ?_⟩
    rw [e]
    refine ⟨.inl rfl, sh, ?_⟩
    generalize PyData.shown (.str (sT (frT p q))) = w
    rw [decide_eq_true rfl]
    exact difF rest
end

end My

set_option maxHeartbeats 4000000
namespace My
open PySem L2 Ld
open Lw hiding Dv DvAll FreshB tData tDatas pd_int pd_bl pd_non pd_str pd_neg pd_pow pda_nil pda_cons pd_tup pd_lst pd_dct dv_cut dv_cat tup_at rRepr call_repr rIsD call_isD
local macro_rules | `(tactic| walk_at "d") => `(tactic| try dsimp only [tfOf, startD, slotD, putD, wipeD, dV, dC, dOp, dUn, dNil, dCons, dConsW, dConsF, dCallV, dCall, datsOf, dCB, dTup, dLst, dIf, dTst, dCmp, dCmpV, dChain, dChainT, dNot, dAnd, dOr, dAndV, dOrV, dNotV, dTb, sSeq, sNx, sSet, sRet, sRetN, sIf, sExpr, sBrk, sCont, sPar, sPar3, lenK, gdN, gdNil, gdCons, sAsg, sFor, iLst, iTpl, iRg1, iRg2, iZp, iSqD, dYes, dLc, dLcB, dLc2, dNoP, dPart, dSl, dSlS, sOwn, sOwn2, sOwn3, sOwnC, sOwnSS, iTx, dSlT, fSlT, iEnT, fNotInS, dFmt, dJs, dCallK, pickD, iEn, e_eqL, e_neL, ownK, sApp, sAppL, sSetL, sIfL, sInsL, sTry1, dStar, dTupS, dLstS, dToldA, dToldB, toldX, mkP, dOwnLst, fLstL, sExt, sIns, sPut, sFrz, dOwnLen, dOwnIx, sRaise, sAug, t_draw, nthL, e_int, e_int0, e_add, e_addT, e_addL, e_addSI, e_addST, e_shl, e_ci, e_eqI, e_eqS, e_eqB, e_neI, e_neS, e_neB, e_isN, e_notN, e_nthT, e_nthL, e_lenT, e_lenL, e_i1, e_i2, e_lcm, e_intO, e_intB, e_isqrt, e_divmod, e_repr, e_reprS, e_reprK, dFind, e_tupL, e_tupT, e_lst, e_truB, e_truI, e_truN, e_truL, e_truT, e_neg, e_bits, e_back, e_backL, e_slT, e_slL, e_slST, e_gdT, e_gdL, Ld.isNon])
local macro_rules | `(tactic| walk_at "u") => `(tactic| (dsimp only; walk_at "d"))

section
variable {R : RD} {Ex : XD}
/-! ### the law -/
theorem same_no {x : Str} {A B : Prop} (h : B) : if (!decide (x = x)) = true then A else B := by
  rw [decide_eq_true rfl]
  exact difF h
theorem sum_add {α : Type} (l : List α) (f : α → Nat) (k : Nat) : (l.map fun x => f x + k).sum = (l.map f).sum + k * l.length := by
  induction l with
  | nil => rfl
  | cons x r ih =>
    rw [List.map_cons, List.sum_cons, ih, List.map_cons, List.sum_cons, List.length_cons, Nat.mul_succ]
    omega
theorem sum_mul {α : Type} (l : List α) (f : α → Nat) (k : Nat) : (l.map fun x => k * f x).sum = k * (l.map f).sum := by
  induction l with
  | nil => rfl
  | cons x r ih => rw [List.map_cons, List.sum_cons, ih, List.map_cons, List.sum_cons, Nat.mul_add]
theorem sk_listF {α : Type} {m : Nat} (g : α → PyData) (f : α → Nat) : ∀ {l : List α}, (∀ x ∈ l, Sk (f x) m (g x)) → PyData.showableAll (l.map g) = true ∧ PyData.depthAll (l.map g) ≤ m ∧ ((PyData.shownAll (l.map g)).map (·.length)).sum ≤ (l.map f).sum
  | [], _ => ⟨rfl, Nat.zero_le _, Nat.zero_le _⟩
  | x :: r, h => by
    obtain ⟨a, c, d⟩ := sk_listF g f (l := r) fun y hy => h y (List.mem_cons_of_mem _ hy)
    have s := h x (List.mem_cons_self ..)
    have w := s.ln
    have dd := s.dp
    refine ⟨?_, ?_, ?_⟩
    · show ((g x).showable && PyData.showableAll (r.map g)) = true
      rw [s.sh, a] <;> rfl
    · show max (g x).depth (PyData.depthAll (r.map g)) ≤ m
      omega
    · show ((g x).shown.length :: (PyData.shownAll (r.map g)).map (·.length)).sum ≤ _
      rw [List.sum_cons, List.map_cons, List.sum_cons]
      omega
/-- words with their spots can be told -/
theorem ws_shows {ws : List (Nat × List Nat)} (h : ∀ p ∈ ws, p.1 ≤ 10000 ∧ Asc p.2) (hs : (ws.map (·.2.length)).sum ≤ 10000) (hl : ws.length ≤ 5000) : (PyData.tuple (ws.map wdD)).hasDict = false ∧ shows (.tuple (ws.map wdD)) := by
  obtain ⟨a, c, d⟩ := sk_listF (m := 1) wdD (fun p => 10 * p.2.length + 2010) (l := ws) fun p hp => by
    obtain ⟨h1, h2⟩ := h p hp
    have e1 : Sk 2000 0 (.int (p.1 : Nat)) := sk_int (by omega)
    have e2 : Sk (10 * p.2.length + 2) 0 (.str (sT p.2)) := sk_str h2 (Nat.le_refl _)
    refine sk_tup (m := 0) (ds := [.int (p.1 : Nat), .str (sT p.2)]) (fun d => d.shown.length) (fun d hd => ?_) ?_
    · simp only [List.mem_cons, List.not_mem_nil, or_false] at hd
      rcases hd with rfl | rfl
      · exact ⟨e1.sh, e1.dp, Nat.le_refl _⟩
      · exact ⟨e2.sh, e2.dp, Nat.le_refl _⟩
    · have := e1.ln
      have := e2.ln
      show (PyData.int (p.1 : Nat)).shown.length + ((PyData.str (sT p.2)).shown.length + 0) + 2 * 2 + 3 ≤ _
      omega
  rw [sum_add, sum_mul] at d
  have q := tupleText_len_le (PyData.shownAll (ws.map wdD))
  rw [shownAll_length, List.length_map] at q
  refine ⟨?_, a, ?_, ?_⟩
  · have : ∀ l : List (Nat × List Nat), PyData.hasDictAll (l.map wdD) = false := fun l => by
      induction l with
      | nil => rfl
      | cons x r ih =>
        show ((wdD x).hasDict || PyData.hasDictAll (r.map wdD)) = false
        rw [ih] <;> rfl
    exact this ws
  · show PyData.depthAll (ws.map wdD) + 1 ≤ _
    omega
  · show (tupleText (PyData.shownAll (ws.map wdD))).length ≤ _
    rw [sizeLine_eq]
    omega
theorem ag_len : ∀ {ws : List (List Nat)} {a : Nat}, (ag a ws).length = ws.length
  | [], _ => rfl
  | w :: r, a => by
    show (ag (a + w.length + 1) r).length + 1 = _
    rw [ag_len, List.length_cons]
theorem ag_snd : ∀ {ws : List (List Nat)} {a : Nat}, (ag a ws).map (·.2) = ws
  | [], _ => rfl
  | w :: r, a => by
    show w :: (ag (a + w.length + 1) r).map (·.2) = _
    rw [ag_snd]
theorem ag_spot : ∀ {ws : List (List Nat)} {a : Nat}, ∀ p ∈ ag a ws, p.1 ≤ a + (ws.map (·.length)).sum + ws.length
  | [], _, p, h => absurd h List.not_mem_nil
  | w :: r, a, p, h => by
    rw [List.map_cons, List.sum_cons, List.length_cons]
    rcases List.mem_cons.mp (show p ∈ (a, w) :: ag (a + w.length + 1) r from h) with h | h
    · rw [h]
      show a ≤ _
      omega
    · have := ag_spot p h
      omega
theorem mem_le : ∀ {ws : List (Nat × List Nat)} {p : Nat × List Nat}, p ∈ ws → p.2.length ≤ (ws.map (·.2.length)).sum
  | q :: r, p, h => by
    rw [List.map_cons, List.sum_cons]
    rcases List.mem_cons.mp h with h | h
    · rw [h]
      omega
    · have := mem_le h
      omega
theorem od_lit {d : PyData} (h1 : (d.hasDict = false ∨ noK d = true)) (h2 : d.showable = true) (h3 : d.depth ≤ 2) (h4 : d.shown.length ≤ 9000) (h5 : ∀ x, d = .str x → (tl' x).length ≤ 10000) : Od d := ⟨h1, ⟨h2, h3, h4⟩, h5⟩
theorem cut9 (ds : List PyData) : Lw.cutD ds none (some 9) = ds.take 9 := by
  have e : HT.sIx ds.length ds.length (some ((9 : Nat) : Int)) = min 9 ds.length := HT.sIx_nat ..
  unfold Lw.cutD
  rw [show (some (9 : Int)) = some ((9 : Nat) : Int) from rfl, e]
  show (ds.drop 0).take (min 9 ds.length - 0) = _
  rw [List.drop_zero, Nat.sub_zero]
  rcases Nat.le_total 9 ds.length with h | h
  · rw [Nat.min_eq_left h]
  · rw [Nat.min_eq_right h, List.take_length, List.take_of_length_le h]
theorem cut_len {x : Str} {a b : Option Int} : (tl' (cutS x a b)).length ≤ (tl' x).length := by
  unfold cutS
  show (((tl' x).drop _).take _).length ≤ _
  rw [List.length_take, List.length_drop]
  omega
theorem sh_bool (b : Bool) : shows (.bool b) := (sk_say (say_bool b)).all (by decide) (by decide)
theorem w_l_is_right (h : R (.bool true)) : t_l_is_right [.well] R Ex := by
  unfold t_l_is_right b_l_is_right
  obtain ⟨k_l_draw, e_l_draw⟩ : ∃ k, t_l_draw = k := ⟨_, rfl⟩
  rw [e_l_draw]
  obtain ⟨k_l_piece, e_l_piece⟩ : ∃ k, t_l_piece = k := ⟨_, rfl⟩
  rw [e_l_piece]
  obtain ⟨k_l_scan, e_l_scan⟩ : ∃ k, t_l_scan = k := ⟨_, rfl⟩
  rw [e_l_scan]
  obtain ⟨k_p_words_of, e_p_words_of⟩ : ∃ k, t_p_words_of = k := ⟨_, rfl⟩
  rw [e_p_words_of]
  obtain ⟨k_l_pick, e_l_pick⟩ : ∃ k, t_l_pick = k := ⟨_, rfl⟩
  rw [e_l_pick]
  obtain ⟨k_l_name, e_l_name⟩ : ∃ k, t_l_name = k := ⟨_, rfl⟩
  rw [e_l_name]
  obtain ⟨k_p_is_free_name, e_p_is_free_name⟩ : ∃ k, t_p_is_free_name = k := ⟨_, rfl⟩
  rw [e_p_is_free_name]
  obtain ⟨k_l_is_name, e_l_is_name⟩ : ∃ k, t_l_is_name = k := ⟨_, rfl⟩
  rw [e_l_is_name]
  obtain ⟨k_l_are_fractions_right, e_l_are_fractions_right⟩ : ∃ k, t_l_are_fractions_right = k := ⟨_, rfl⟩
  rw [e_l_are_fractions_right]
  walk_at "d"
  have key : ∀ (l : List Nat) (v2 : Option Sv), Asc l → l.length ≤ 2400 → ((sSeq (sSet 3 (dCall k_l_scan (dCons (dV 1) dNil))) (sSeq (sIf (dCmp fNe (dCB fReprK (dCons (dCall k_p_words_of (dCons (dV 1) dNil)) dNil)) (dCB fReprK (dCons (dCB fTupO (dCons (dV 3) dNil)) dNil))) (sRet (dC (.bool false))) sNx) (sSeq (sOwnC 4 5 0) (sSeq (sFor (iLst (dV 3)) (gdT 2 (gdCons (gdN 6) (gdCons (gdN 7) gdNil))) (sSeq (sApp 4 (dTup (dCons (dV 5) (dCons (dV 7) dNil)))) (sSet 5 (dOp fAddG (dOp fAddG (dV 5) (dCB fLen (dCons (dV 7) dNil))) (dC (.int 1)))))) (sSeq (sFrz 4) (sSeq (sIf (dCmp fNe (dCB fReprK (dCons (dCall k_p_words_of (dCons (dOp fJoin (dC (.str " ")) (dLcB (iLst (dV 3)) [6, 7] (gdT 2 (gdCons (gdN 6) (gdCons (gdN 7) gdNil))) dYes (dV 7))) dNil)) dNil)) (dCB fReprK (dCons (dCB fTupO (dCons (dV 4) dNil)) dNil))) (sRet (dC (.bool false))) sNx) (sSeq (sSet 8 (dCall k_l_pick (dConsW 0 (dCons (dC (.tuple [.none, (.bool true), (.int 0), (.int 7), (.tuple []), (.tuple [(.str "a")]), (.list [(.str "a")]), (.dict []), (.str ""), (.str "a b"), (.str " a"), (.str "a\n"), (.str "Ab"), (.str "a-b"), (.str "_a"), (.tuple [(.int 1), (.int 2)])])) dNil)))) (sSeq (sFor (iLst (dOp fAddG (dLc (iLst (dSl (dV 3) dNoP (dPart (dC (.int 9))))) [6, 7] (gdT 2 (gdCons (gdN 6) (gdCons (gdN 7) gdNil))) dYes (dV 7)) (dLst (dCons (dV 8) (dCons (dCall k_l_name (dConsW 0 dNil)) (dCons (dSlT (dV 1) dNoP (dPart (dC (.int 3)))) dNil)))))) (gdN 9) (sIf (dCmp fNe (dCB fReprK (dCons (dCall k_p_is_free_name (dCons (dV 9) dNil)) dNil)) (dCB fReprK (dCons (dCall k_l_is_name (dCons (dV 9) dNil)) dNil))) (sRet (dC (.bool false))) sNx)) (sSeq (sIf (dAnd (dNot (dTst (dUn (fun d R => R (.bool (isStr d))) (dV 8)))) (dCmp fNe (dCB fReprK (dCons (dToldA true [("BadText", "spot", "spot"), ("InvalidFraction", "given", "fraction")] "value" (dCall k_p_words_of (dCons (dV 8) dNil))) dNil)) (dCB fReprK (dCons (dC (.tuple [(.str "spot"), .none])) dNil)))) (sRet (dC (.bool false))) sNx) (sRet (dCall k_l_are_fractions_right (dConsW 0 (dCons (dV 8) dNil)))))))))))))) { nx := fun _ => R .none, rt := R, ex := fun _ => Ex } [some .well, some (.dat (.str (sT l))), v2, none, none, none, none, none, none, none] := by
    intro l v2 al hl
    have wd := fun p hp => wds_wd (f := l.length) (i := 0) (s := l) p hp
    have sp := fun p hp => wds_spot (f := l.length) (i := 0) (s := l) p hp
    have sm := wds_sum (f := l.length) (i := 0) (s := l)
    have ct := cnt_le wd
    rw [show wds l.length 0 l = allW l from rfl] at wd sp sm ct
    have q1 := ws_shows (ws := allW l) (fun p hp => ⟨by have := (sp p hp).1; omega, fun c hc => al c ((sp p hp).2 c hc)⟩) (by omega) (by omega)
    refine st e_l_scan (w_l_scan (by omega) ?_)
    walk_at "d"
    refine st e_p_words_of (w_p_words_of (by omega) ⟨.inl q1.1, q1.2, .inl q1.1, q1.2, ?_⟩)
    generalize PyData.shown (.tuple ((allW l).map wdD)) = z
    refine same_no ?_
    clear z
    walk_at "d"
    refine for_d (fun ds ρ => ∃ (rest acc : List (Nat × List Nat)) (a : Nat) (v6 v7 : Option Sv), ds = rest.map wdD ∧ ρ = [some .well, some (.dat (.str (sT l))), v2, some (.dat (.list ((allW l).map wdD))), some (.own (acc.map wdD)), some (.dat (.int (a : Nat))), v6, v7, none, none] ∧ acc ++ ag a (rest.map (·.2)) = ag 0 ((allW l).map (·.2)) ∧ (∀ p ∈ rest, p ∈ allW l) ∧ acc.length + rest.length = (allW l).length) ⟨allW l, [], 0, _, _, rfl, rfl, rfl, fun _ h => h, by simp⟩ ?_ ?_
    · rintro d r ρ K ⟨rest, acc, a, v6, v7, e1, rfl, e2, e3, e4⟩ go
      cases rest with
      | nil => cases e1
      | cons p rest =>
        obtain ⟨i, w⟩ := p
        cases e1
        have lw := mem_le (e3 _ (List.mem_cons_self ..))
        have lw : w.length ≤ 2400 := by
          have : w.length ≤ _ := lw
          omega
        show gdT 2 _ (.tuple [.int (i : Nat), .str (sT w)]) _ _
        walk_at "d"
        simp only [List.length_cons] at e4
        refine (show _ ∧ fLen _ _ from ⟨by rw [List.length_map]; omega, ?_⟩)
        walk_at "d"
        refine ⟨lenT (by omega), ?_⟩
        rw [len_sT]
        walk_at "d"
        have g := go _ ⟨rest, acc ++ [(a, w)], a + w.length + 1, some (.dat (.int (i : Nat))), some (.dat (.str (sT w))), rfl, rfl, by rw [List.append_assoc]; exact e2, fun p hp => e3 p (List.mem_cons_of_mem _ hp), by rw [List.length_append, List.length_singleton]; omega⟩
        rw [List.map_append, show ((a + w.length + 1 : Nat) : Int) = (a : Int) + (w.length : Int) + 1 by omega] at g
        exact g
    · rintro ρ ⟨rest, acc, a, v6, v7, e1, rfl, e2, e3, e4⟩
      cases rest with
      | cons p rest => cases e1
      | nil =>
        have e5 : acc = ag 0 ((allW l).map (·.2)) := by
          rw [← e2]
          exact (List.append_nil _).symm
        subst e5
        clear e2 e1
        generalize hJ : TL.joinL [32] ((allW l).map (·.2)) = J
        have jl : J.length ≤ 5000 := by
          have := join_len (ws := (allW l).map (·.2))
          rw [hJ, List.length_map, List.map_map] at this
          have e : (allW l).map ((·.length) ∘ (·.2)) = (allW l).map (·.2.length) := rfl
          rw [e] at this
          omega
        have ja : Asc J := fun c hc => by
          rw [← hJ] at hc
          rcases join_mem hc with rfl | ⟨w, hw, hc⟩
          · decide
          · obtain ⟨p, hp, rfl⟩ := List.mem_map.mp hw
            exact al c ((sp p hp).2 c hc)
        have jw : allW J = ag 0 ((allW l).map (·.2)) := by
          rw [← hJ]
          exact wds_join fun w hw => by
            obtain ⟨p, hp, rfl⟩ := List.mem_map.mp hw
            exact wd p hp
        have q2 := ws_shows (ws := ag 0 ((allW l).map (·.2))) (fun p hp => ⟨by
            have := ag_spot p hp
            rw [List.length_map, List.map_map, show (allW l).map ((·.length) ∘ (·.2)) = (allW l).map (·.2.length) from rfl] at this
            omega, fun c hc => by
            have m : p.2 ∈ (ag 0 ((allW l).map (·.2))).map (·.2) := List.mem_map_of_mem hp
            rw [ag_snd] at m
            obtain ⟨q, hq, e⟩ := List.mem_map.mp m
            rw [← e] at hc
            exact al c ((sp q hq).2 c hc)⟩) (by
            have e : (ag 0 ((allW l).map (·.2))).map (·.2.length) = (allW l).map (·.2.length) := by
              have := congrArg (List.map (·.length)) (ag_snd (ws := (allW l).map (·.2)) (a := 0))
              rw [List.map_map, List.map_map] at this
              exact this
            rw [e]
            omega) (by rw [ag_len, List.length_map]; omega)
        walk_at "d"
        refine ⟨by rw [List.length_map]; omega, lcD_on (l := allW l) wdD (fun p => .str (sT p.2)) (fun p hp K1 K0 k1 => ?_) ?_⟩
        · show gdT 2 _ (.tuple [.int (p.1 : Nat), .str (sT p.2)]) _ _
          walk_at "d"
          exact difT k1
        · have sp32 : (" " : Str) = sT [32] := by decide +kernel
          have em : (allW l).map (fun p => PyData.str (sT p.2)) = ((allW l).map (·.2)).map (fun y => PyData.str (sT y)) := by
            rw [List.map_map]
            rfl
          rw [sp32, em]
          refine join_d (by
            rw [List.map_map, List.length_map, List.length_singleton, show (allW l).map ((·.length) ∘ (·.2)) = (allW l).map (·.2.length) from rfl]
            omega) ?_
          rw [hJ]
          refine st e_p_words_of (w_p_words_of (by omega) ?_)
          rw [jw]
          refine ⟨.inl q2.1, q2.2, .inl q2.1, q2.2, ?_⟩
          generalize PyData.shown (.tuple ((ag 0 ((allW l).map (·.2))).map wdD)) = z
          refine same_no (st e_l_pick (w_l_pick (by decide) (by decide) fun d hd => ?_))
          have od : Od d := by
            simp only [List.mem_cons, List.not_mem_nil, or_false] at hd
            have ns : ∀ {d : PyData}, isStr d = false → ∀ x, d = .str x → (tl' x).length ≤ 10000 := fun hn x e => by
              rw [e] at hn
              cases hn
            have os : ∀ {y : Str}, (tl' y).length ≤ 10000 → ∀ x, PyData.str y = .str x → (tl' x).length ≤ 10000 := fun hy x e => by
              rw [← PyData.str.inj e]
              exact hy
            rcases hd with rfl | rfl | rfl | rfl | rfl | rfl | rfl | rfl | rfl | rfl | rfl | rfl | rfl | rfl | rfl | rfl
            · exact od_lit (.inl rfl) rfl (by decide +kernel) (by decide +kernel) (ns rfl)
            · exact od_lit (.inl rfl) rfl (by decide +kernel) (by decide +kernel) (ns rfl)
            · exact od_lit (.inl rfl) (by decide +kernel) (by decide +kernel) (by decide +kernel) (ns rfl)
            · exact od_lit (.inl rfl) (by decide +kernel) (by decide +kernel) (by decide +kernel) (ns rfl)
            · exact od_lit (.inl rfl) rfl (by decide +kernel) (by decide +kernel) (ns rfl)
            · exact od_lit (.inl rfl) rfl (by decide +kernel) (by decide +kernel) (ns rfl)
            · exact od_lit (.inl rfl) rfl (by decide +kernel) (by decide +kernel) (ns rfl)
            · exact od_lit (.inr rfl) rfl (by decide +kernel) (by decide +kernel) (ns rfl)
            · exact od_lit (.inl rfl) rfl (by decide +kernel) (by decide +kernel) (os (by decide +kernel))
            · exact od_lit (.inl rfl) rfl (by decide +kernel) (by decide +kernel) (os (by decide +kernel))
            · exact od_lit (.inl rfl) rfl (by decide +kernel) (by decide +kernel) (os (by decide +kernel))
            · exact od_lit (.inl rfl) rfl (by decide +kernel) (by decide +kernel) (os (by decide +kernel))
            · exact od_lit (.inl rfl) rfl (by decide +kernel) (by decide +kernel) (os (by decide +kernel))
            · exact od_lit (.inl rfl) rfl (by decide +kernel) (by decide +kernel) (os (by decide +kernel))
            · exact od_lit (.inl rfl) rfl (by decide +kernel) (by decide +kernel) (os (by decide +kernel))
            · exact od_lit (.inl rfl) (by decide +kernel) (by decide +kernel) (by decide +kernel) (ns rfl)
          walk_at "d"
          rw [cut9, ← List.map_take]
          refine ⟨by rw [List.length_map, List.length_take]; omega, lcD_on (l := (allW l).take 9) wdD (fun p => .str (sT p.2)) (fun p hp K1 K0 k1 => ?_) ?_⟩
          · show gdT 2 _ (.tuple [.int (p.1 : Nat), .str (sT p.2)]) _ _
            walk_at "d"
            exact difT k1
          · refine st e_l_name (w_l_name fun nm n1 n2 na => ⟨lenT (by omega), by rw [List.length_map, List.length_take]; show _ + 3 ≤ _; omega, ?_⟩)
            refine for_d (fun xs ρ => ∃ (v9 : Option Sv), ρ = [some .well, some (.dat (.str (sT l))), v2, some (.dat (.list ((allW l).map wdD))), some (.dat (.list ((ag 0 ((allW l).map (·.2))).map wdD))), some (.dat (.int (a : Nat))), v6, v7, some (.dat d), v9] ∧ ∀ e ∈ xs, ∀ x, e = .str x → (tl' x).length ≤ 10000) ⟨_, rfl, fun e he x ex => ?_⟩ ?_ ?_
            · rcases List.mem_append.mp he with he | he
              · obtain ⟨p, hp, rfl⟩ := List.mem_map.mp he
                have := mem_le (List.mem_of_mem_take hp)
                rw [← PyData.str.inj ex]
                show p.2.length ≤ 10000
                omega
              · simp only [List.mem_cons, List.not_mem_nil, or_false] at he
                rcases he with rfl | rfl | rfl
                · exact od.t x ex
                · rw [← PyData.str.inj ex]
                  show nm.length ≤ 10000
                  omega
                · rw [← PyData.str.inj ex]
                  have := cut_len (x := sT l) (a := none) (b := some 3)
                  rw [tl_sT] at this
                  omega
            · rintro e r ρ K ⟨v9, rfl, hp⟩ go
              have pe := hp e (List.mem_cons_self ..)
              walk_at "d"
              refine st e_p_is_free_name (w_p_is_free_name pe ⟨.inl rfl, sh_bool _, st e_l_is_name (w_l_is_name pe ⟨.inl rfl, sh_bool _, ?_⟩)⟩)
              generalize PyData.shown (.bool (frB e)) = z
              exact same_no (go _ ⟨_, rfl, fun y hy => hp y (List.mem_cons_of_mem _ hy)⟩)
            · rintro ρ ⟨v9, rfl, _⟩
              have fin := w_l_are_fractions_right (R := R) (Ex := Ex) od h
              walk_at "d"
              have z : ((PyData.tuple [.str "spot", .none]).hasDict = false ∨ noK (.tuple [.str "spot", .none]) = true) ∧ shows (.tuple [.str "spot", .none]) := ⟨.inl rfl, (Sk.mk (n := 9000) (m := 2) rfl (by decide +kernel) (by decide +kernel)).all (by decide) (by decide)⟩
              refine dif (fun c => ?_) (fun c => difF (st e_l_are_fractions_right fin))
              refine st e_p_words_of (w_p_words_ofN (by simpa using c) (.inl ⟨_, rfl, z.1, z.2, z.1, z.2, ?_⟩))
              generalize PyData.shown (.tuple [.str "spot", .none]) = w
              exact same_no (st e_l_are_fractions_right fin)
  refine st e_l_draw (drawN (n := 61) (by decide) (by decide) fun n hn => ?_)
  walk_at "d"
  rw [Int.toNat_natCast]
  refine ⟨by omega, range_d (n := n) (fun i ρ => ∃ (l : List Nat) (v2 : Option Sv), ρ = [some .well, some (.dat (.str (sT l))), v2, none, none, none, none, none, none, none] ∧ Asc l ∧ l.length ≤ 2400) ⟨[], _, rfl, fun c hc => absurd hc List.not_mem_nil, by decide⟩ ?_ ?_⟩
  · rintro i ρ K hi ⟨l, v2, rfl, al, hl⟩ go
    walk_at "d"
    refine ⟨lenT (by omega), ?_⟩
    rw [len_sT]
    refine difP (fun c => st e_l_piece (w_l_piece fun t lt at_ => add_sT (by omega) (go _ ⟨l ++ t, _, rfl, al.app at_, by rw [List.length_append]; omega⟩))) (fun _ => go _ ⟨l, _, rfl, al, hl⟩)
  · rintro ρ ⟨l, v2, rfl, al, hl⟩
    exact key l v2 al hl
end

end My

namespace My
open PySem L2 Lw
local macro_rules | `(tactic| walk_at "side") => `(tactic| first | decide | omega | (exact .inl ⟨by decide, by decide⟩) | (exact .inr ⟨by decide, by decide⟩) | (exact .inl ⟨by omega, by omega⟩) | (exact .inr ⟨by omega, by omega⟩) | (exact ⟨by decide, by decide⟩) | (exact ⟨by omega, by omega⟩))
local macro_rules | `(tactic| walk_at "go1") => `(tactic| first
  | (refine ⟨_, _, rfl, rfl, ?_⟩)
  | (refine ⟨_, rfl, ?_⟩)
  | (refine And.intro (by walk_at "side") ?_)
  | (refine .inl ⟨_, rfl, ?_⟩)
  | (refine iteT ?_) | (refine iteF ?_))
local macro_rules | `(tactic| walk_at "go") => `(tactic| repeat (walk_at "go1"))
-- opt: omega
section
variable {P : Program} {w : World} {K : PySem.W.Frag} {mg : Str → Option Value} {base : Heap}
theorem rightE_l {cM0 Pm0 cM1 Pm1 : Addr} (T : Top K mg) (M0 : Ld.Dc K mg "_law_are_fractions_right" s_l_are_fractions_right ["_law_well_here", "_law_odd"] (.ref cM0)) (TB0 : LamX.TabB base mg cM0 Pm0) (M1 : Ld.Dc K mg "_law_is_right" s_l_is_right ["_law_well_here"] (.ref cM1)) (TB1 : LamX.TabB base mg cM1 Pm1) (ne01 : Pm0 ≠ Pm1) : Cl CX0 P w K mg base 8 "_law_is_right" (Ld.spRightT [(Pm0, (("_law_are_fractions_right" : Str) ++ (".<locals>." : Str)) ++ ("<lambda>" : Str)), (Pm1, (("_law_is_right" : Str) ++ (".<locals>." : Str)) ++ ("<lambda>" : Str))]) := Ld.right_endT (c_l_is_right T M0 TB0 M1 TB1 ne01).cl fun R Ex h => w_l_is_right h
theorem c_l_law {cM0 Pm0 cM1 Pm1 : Addr} (T : Top K mg) (M0 : Ld.Dc K mg "_law_are_fractions_right" s_l_are_fractions_right ["_law_well_here", "_law_odd"] (.ref cM0)) (TB0 : LamX.TabB base mg cM0 Pm0) (M1 : Ld.Dc K mg "_law_is_right" s_l_is_right ["_law_well_here"] (.ref cM1)) (TB1 : LamX.TabB base mg cM1 Pm1) (ne01 : Pm0 ≠ Pm1) : Cl CX0 P w K mg base 9 "law" (Ld.spLawT K [(Pm0, (("_law_are_fractions_right" : Str) ++ (".<locals>." : Str)) ++ ("<lambda>" : Str)), (Pm1, (("_law_is_right" : Str) ++ (".<locals>." : Str)) ++ ("<lambda>" : Str))]) := by
  refine T.d_l_law.cal sc_l_law (fun vs H Q E h => ?_) (fun f cdv A outer s H vs Q E hr hg h => ?_)
  · obtain ⟨a, ns, rfl, _⟩ := h
    rfl
  obtain ⟨a, ns, rfl, hS, hl, tH, q⟩ := h
  refine ⟨_, (pss_one (ps_ret (pe_cl (rightE_l T M0 TB0 M1 TB1 ne01) hr hg rfl (pa_cons (pe_cl (c_l_well T) hr hg rfl (pa_cons (pv 0) (pa_cons pe_int pa_nil)) (by omega)) pa_nil) (by omega)))), ?_⟩
  refine ⟨_, rfl, a, ns, _, rfl, hS, by omega, by omega, fun p H2 s2 np pn wl => ?_⟩
  exact ⟨p, rfl, np, wl, tH.ext s2, fun H3 s3 => q _⟩
end
end My

set_option maxHeartbeats 4000000
namespace My
open PySem L2 Lw
theorem top_mk {K : PySem.W.Frag} {h : Heap} {mg : Str → Option Value} {f0 f1 f2 f3 f4 f5 f6 f7 f8 f9 f10 f11 f12 f13 f14 f15 f16 f17 f18 f19 f20 f21 f22 f23 : Addr} (X : K.In h) (G : h.Ns mainGlobals mg)
    {od0 an0 od1 an1 od2 an2 od3 an3 od4 an4 od5 an5 od6 an6 od7 an7 od8 an8 od9 an9 od10 an10 od11 an11 od12 an12 od13 an13 od14 an14 od15 an15 od16 an16 od17 an17 od18 an18 od19 an19 od20 an20 od21 an21 od22 an22 od23 an23 : Option Addr} {sl0 sl1 sl2 sl3 sl4 sl5 sl6 sl7 sl8 sl9 sl10 sl11 sl12 sl13 sl14 sl15 sl16 sl17 sl18 sl19 sl20 sl21 sl22 sl23 : Array (Option Value)} {oc0 kV0 dc0 pm0 cd0 ct0 oc1 kV1 dc1 pm1 cd1 ct1 oc2 kV2 dc2 pm2 cd2 ct2 oc3 kV3 dc3 pm3 cd3 ct3 oc4 kV4 dc4 pm4 cd4 ct4 oc5 kV5 dc5 pm5 cd5 ct5 oc6 kV6 dc6 pm6 cd6 ct6 oc7 kV7 dc7 pm7 cd7 ct7 oc8 kV8 dc8 pm8 cd8 ct8 oc9 kV9 dc9 pm9 cd9 ct9 oc10 kV10 dc10 pm10 cd10 ct10 oc11 kV11 dc11 pm11 cd11 ct11 oc12 kV12 dc12 pm12 cd12 ct12 oc13 kV13 dc13 pm13 cd13 ct13 oc14 kV14 dc14 pm14 cd14 ct14 oc15 kV15 dc15 pm15 cd15 ct15 oc16 kV16 dc16 pm16 cd16 ct16 oc17 kV17 dc17 pm17 cd17 ct17 oc18 kV18 dc18 pm18 cd18 ct18 oc19 kV19 dc19 pm19 cd19 ct19 oc20 kV20 dc20 pm20 cd20 ct20 oc21 kV21 dc21 pm21 cd21 ct21 oc22 kV22 dc22 pm22 cd22 ct22 oc23 kV23 dc23 pm23 cd23 ct23 : Value}
    {tk_BLANKS : Tok}
    {tk_DIGITS : Tok}
    {tk_SMALL_LETTERS : Tok}
    {tk_NAME_SIGNS : Tok}
    {tk_MOST_NAME_SIGNS : Tok}
    {t_KEPT_NAMES : Addr} {od_KEPT_NAMES : Option Addr} {n_KEPT_NAMES : Nat} {sl_KEPT_NAMES : Array (Option Value)} {tk_KEPT_NAMES_0 tk_KEPT_NAMES_1 tk_KEPT_NAMES_2 tk_KEPT_NAMES_3 tk_KEPT_NAMES_4 tk_KEPT_NAMES_5 tk_KEPT_NAMES_6 tk_KEPT_NAMES_7 tk_KEPT_NAMES_8 tk_KEPT_NAMES_9 tk_KEPT_NAMES_10 tk_KEPT_NAMES_11 tk_KEPT_NAMES_12 tk_KEPT_NAMES_13 tk_KEPT_NAMES_14 : Tok}
    {C_InvalidFraction fI_InvalidFraction : Addr} {nm_InvalidFraction q_InvalidFraction : Str} {Nn_InvalidFraction : Addr} {bs_InvalidFraction bm_InvalidFraction : List Value} {sn_InvalidFraction : List Str} {sub_InvalidFraction : List Value} {ab_InvalidFraction : Bool} {col_InvalidFraction : Option Bool} {dd_InvalidFraction : Option Addr} {ma_InvalidFraction mb_InvalidFraction mc_InvalidFraction md_InvalidFraction me_InvalidFraction : Option Value} {odX_InvalidFraction anX_InvalidFraction : Option Addr} {slX_InvalidFraction : Array (Option Value)} {ocX_InvalidFraction kVX_InvalidFraction dcX_InvalidFraction pmX_InvalidFraction cdX_InvalidFraction ctX_InvalidFraction : Value}
    {C_BadText fI_BadText : Addr} {nm_BadText q_BadText : Str} {Nn_BadText : Addr} {bs_BadText bm_BadText : List Value} {sn_BadText : List Str} {sub_BadText : List Value} {ab_BadText : Bool} {col_BadText : Option Bool} {dd_BadText : Option Addr} {ma_BadText mb_BadText mc_BadText md_BadText me_BadText : Option Value} {odX_BadText anX_BadText : Option Addr} {slX_BadText : Array (Option Value)} {ocX_BadText kVX_BadText dcX_BadText pmX_BadText cdX_BadText ctX_BadText : Value}
    (a0 : PySem.W.nsIn K mainGlobals "_wall" = some (some (.ref f0))) (l0 : K.lookup f0 = some ⟨oc0, od0, .func (PySem.W.fnOf "_wall" "_wall" (defArgs s_p__wall) (defBody s_p__wall) (defScope s_p__wall) .none kV0 dc0 pm0 an0 cd0 ct0), sl0⟩) (c0 : PySem.W.codeIn K cd0 "_wall" = true) (k0 : PySem.W.keepIn K (.ref f0) = true)
    (a1 : PySem.W.nsIn K mainGlobals "is_whole" = some (some (.ref f1))) (l1 : K.lookup f1 = some ⟨oc1, od1, .func (PySem.W.fnOf "is_whole" "is_whole" (defArgs s_p_is_whole) (defBody s_p_is_whole) (defScope s_p_is_whole) .none kV1 dc1 pm1 an1 cd1 ct1), sl1⟩) (c1 : PySem.W.codeIn K cd1 "is_whole" = true) (k1 : PySem.W.keepIn K (.ref f1) = true)
    (a2 : PySem.W.nsIn K mainGlobals "is_fraction" = some (some (.ref f2))) (l2 : K.lookup f2 = some ⟨oc2, od2, .func (PySem.W.fnOf "is_fraction" "is_fraction" (defArgs s_p_is_fraction) (defBody s_p_is_fraction) (defScope s_p_is_fraction) .none kV2 dc2 pm2 an2 cd2 ct2), sl2⟩) (c2 : PySem.W.codeIn K cd2 "is_fraction" = true) (k2 : PySem.W.keepIn K (.ref f2) = true)
    (a3 : PySem.W.nsIn K mainGlobals "check_fraction" = some (some (.ref f3))) (l3 : K.lookup f3 = some ⟨oc3, od3, .func (PySem.W.fnOf "check_fraction" "check_fraction" (defArgs s_p_check_fraction) (defBody s_p_check_fraction) (defScope s_p_check_fraction) .none kV3 dc3 pm3 an3 cd3 ct3), sl3⟩) (c3 : PySem.W.codeIn K cd3 "check_fraction" = true) (k3 : PySem.W.keepIn K (.ref f3) = true)
    (a4 : PySem.W.nsIn K mainGlobals "words_of" = some (some (.ref f4))) (l4 : K.lookup f4 = some ⟨oc4, od4, .func (PySem.W.fnOf "words_of" "words_of" (defArgs s_p_words_of) (defBody s_p_words_of) (defScope s_p_words_of) .none kV4 dc4 pm4 an4 cd4 ct4), sl4⟩) (c4 : PySem.W.codeIn K cd4 "words_of" = true) (k4 : PySem.W.keepIn K (.ref f4) = true)
    (a5 : PySem.W.nsIn K mainGlobals "end_at" = some (some (.ref f5))) (l5 : K.lookup f5 = some ⟨oc5, od5, .func (PySem.W.fnOf "end_at" "end_at" (defArgs s_p_end_at) (defBody s_p_end_at) (defScope s_p_end_at) .none kV5 dc5 pm5 an5 cd5 ct5), sl5⟩) (c5 : PySem.W.codeIn K cd5 "end_at" = true) (k5 : PySem.W.keepIn K (.ref f5) = true)
    (a6 : PySem.W.nsIn K mainGlobals "is_free_name" = some (some (.ref f6))) (l6 : K.lookup f6 = some ⟨oc6, od6, .func (PySem.W.fnOf "is_free_name" "is_free_name" (defArgs s_p_is_free_name) (defBody s_p_is_free_name) (defScope s_p_is_free_name) .none kV6 dc6 pm6 an6 cd6 ct6), sl6⟩) (c6 : PySem.W.codeIn K cd6 "is_free_name" = true) (k6 : PySem.W.keepIn K (.ref f6) = true)
    (a7 : PySem.W.nsIn K mainGlobals "fraction_text" = some (some (.ref f7))) (l7 : K.lookup f7 = some ⟨oc7, od7, .func (PySem.W.fnOf "fraction_text" "fraction_text" (defArgs s_p_fraction_text) (defBody s_p_fraction_text) (defScope s_p_fraction_text) .none kV7 dc7 pm7 an7 cd7 ct7), sl7⟩) (c7 : PySem.W.codeIn K cd7 "fraction_text" = true) (k7 : PySem.W.keepIn K (.ref f7) = true)
    (a8 : PySem.W.nsIn K mainGlobals "plain_text" = some (some (.ref f8))) (l8 : K.lookup f8 = some ⟨oc8, od8, .func (PySem.W.fnOf "plain_text" "plain_text" (defArgs s_p_plain_text) (defBody s_p_plain_text) (defScope s_p_plain_text) .none kV8 dc8 pm8 an8 cd8 ct8), sl8⟩) (c8 : PySem.W.codeIn K cd8 "plain_text" = true) (k8 : PySem.W.keepIn K (.ref f8) = true)
    (a9 : PySem.W.nsIn K mainGlobals "_law_well" = some (some (.ref f9))) (l9 : K.lookup f9 = some ⟨oc9, od9, .func (PySem.W.fnOf "_law_well" "_law_well" (defArgs s_l_well) (defBody s_l_well) (defScope s_l_well) .none kV9 dc9 pm9 an9 cd9 ct9), sl9⟩) (c9 : PySem.W.codeIn K cd9 "_law_well" = true) (k9 : PySem.W.keepIn K (.ref f9) = true)
    (a10 : PySem.W.nsIn K mainGlobals "_law_draw" = some (some (.ref f10))) (l10 : K.lookup f10 = some ⟨oc10, od10, .func (PySem.W.fnOf "_law_draw" "_law_draw" (defArgs s_l_draw) (defBody s_l_draw) (defScope s_l_draw) .none kV10 dc10 pm10 an10 cd10 ct10), sl10⟩) (c10 : PySem.W.codeIn K cd10 "_law_draw" = true) (k10 : PySem.W.keepIn K (.ref f10) = true)
    (a11 : PySem.W.nsIn K mainGlobals "_law_pick" = some (some (.ref f11))) (l11 : K.lookup f11 = some ⟨oc11, od11, .func (PySem.W.fnOf "_law_pick" "_law_pick" (defArgs s_l_pick) (defBody s_l_pick) (defScope s_l_pick) .none kV11 dc11 pm11 an11 cd11 ct11), sl11⟩) (c11 : PySem.W.codeIn K cd11 "_law_pick" = true) (k11 : PySem.W.keepIn K (.ref f11) = true)
    (a12 : PySem.W.nsIn K mainGlobals "_law_shared" = some (some (.ref f12))) (l12 : K.lookup f12 = some ⟨oc12, od12, .func (PySem.W.fnOf "_law_shared" "_law_shared" (defArgs s_l_shared) (defBody s_l_shared) (defScope s_l_shared) .none kV12 dc12 pm12 an12 cd12 ct12), sl12⟩) (c12 : PySem.W.codeIn K cd12 "_law_shared" = true) (k12 : PySem.W.keepIn K (.ref f12) = true)
    (a13 : PySem.W.nsIn K mainGlobals "_law_lean" = some (some (.ref f13))) (l13 : K.lookup f13 = some ⟨oc13, od13, .func (PySem.W.fnOf "_law_lean" "_law_lean" (defArgs s_l_lean) (defBody s_l_lean) (defScope s_l_lean) .none kV13 dc13 pm13 an13 cd13 ct13), sl13⟩) (c13 : PySem.W.codeIn K cd13 "_law_lean" = true) (k13 : PySem.W.keepIn K (.ref f13) = true)
    (a14 : PySem.W.nsIn K mainGlobals "_law_kept" = some (some (.ref f14))) (l14 : K.lookup f14 = some ⟨oc14, od14, .func (PySem.W.fnOf "_law_kept" "_law_kept" (defArgs s_l_kept) (defBody s_l_kept) (defScope s_l_kept) .none kV14 dc14 pm14 an14 cd14 ct14), sl14⟩) (c14 : PySem.W.codeIn K cd14 "_law_kept" = true) (k14 : PySem.W.keepIn K (.ref f14) = true)
    (a15 : PySem.W.nsIn K mainGlobals "_law_name" = some (some (.ref f15))) (l15 : K.lookup f15 = some ⟨oc15, od15, .func (PySem.W.fnOf "_law_name" "_law_name" (defArgs s_l_name) (defBody s_l_name) (defScope s_l_name) .none kV15 dc15 pm15 an15 cd15 ct15), sl15⟩) (c15 : PySem.W.codeIn K cd15 "_law_name" = true) (k15 : PySem.W.keepIn K (.ref f15) = true)
    (a16 : PySem.W.nsIn K mainGlobals "_law_piece" = some (some (.ref f16))) (l16 : K.lookup f16 = some ⟨oc16, od16, .func (PySem.W.fnOf "_law_piece" "_law_piece" (defArgs s_l_piece) (defBody s_l_piece) (defScope s_l_piece) .none kV16 dc16 pm16 an16 cd16 ct16), sl16⟩) (c16 : PySem.W.codeIn K cd16 "_law_piece" = true) (k16 : PySem.W.keepIn K (.ref f16) = true)
    (a17 : PySem.W.nsIn K mainGlobals "_law_scan" = some (some (.ref f17))) (l17 : K.lookup f17 = some ⟨oc17, od17, .func (PySem.W.fnOf "_law_scan" "_law_scan" (defArgs s_l_scan) (defBody s_l_scan) (defScope s_l_scan) .none kV17 dc17 pm17 an17 cd17 ct17), sl17⟩) (c17 : PySem.W.codeIn K cd17 "_law_scan" = true) (k17 : PySem.W.keepIn K (.ref f17) = true)
    (a18 : PySem.W.nsIn K mainGlobals "_law_is_name" = some (some (.ref f18))) (l18 : K.lookup f18 = some ⟨oc18, od18, .func (PySem.W.fnOf "_law_is_name" "_law_is_name" (defArgs s_l_is_name) (defBody s_l_is_name) (defScope s_l_is_name) .none kV18 dc18 pm18 an18 cd18 ct18), sl18⟩) (c18 : PySem.W.codeIn K cd18 "_law_is_name" = true) (k18 : PySem.W.keepIn K (.ref f18) = true)
    (a19 : PySem.W.nsIn K mainGlobals "_law_part" = some (some (.ref f19))) (l19 : K.lookup f19 = some ⟨oc19, od19, .func (PySem.W.fnOf "_law_part" "_law_part" (defArgs s_l_part) (defBody s_l_part) (defScope s_l_part) .none kV19 dc19 pm19 an19 cd19 ct19), sl19⟩) (c19 : PySem.W.codeIn K cd19 "_law_part" = true) (k19 : PySem.W.keepIn K (.ref f19) = true)
    (a20 : PySem.W.nsIn K mainGlobals "_law_told" = some (some (.ref f20))) (l20 : K.lookup f20 = some ⟨oc20, od20, .func (PySem.W.fnOf "_law_told" "_law_told" (defArgs s_l_told) (defBody s_l_told) (defScope s_l_told) .none kV20 dc20 pm20 an20 cd20 ct20), sl20⟩) (c20 : PySem.W.codeIn K cd20 "_law_told" = true) (k20 : PySem.W.keepIn K (.ref f20) = true)
    (a21 : PySem.W.nsIn K mainGlobals "_law_are_fractions_right" = some (some (.ref f21))) (l21 : K.lookup f21 = some ⟨oc21, od21, .func (PySem.W.fnOf "_law_are_fractions_right" "_law_are_fractions_right" (defArgs s_l_are_fractions_right) (defBody s_l_are_fractions_right) (defScope s_l_are_fractions_right) .none kV21 dc21 pm21 an21 cd21 ct21), sl21⟩) (c21 : PySem.W.codeIn K cd21 "_law_are_fractions_right" = true) (k21 : PySem.W.keepIn K (.ref f21) = true)
    (a22 : PySem.W.nsIn K mainGlobals "_law_is_right" = some (some (.ref f22))) (l22 : K.lookup f22 = some ⟨oc22, od22, .func (PySem.W.fnOf "_law_is_right" "_law_is_right" (defArgs s_l_is_right) (defBody s_l_is_right) (defScope s_l_is_right) .none kV22 dc22 pm22 an22 cd22 ct22), sl22⟩) (c22 : PySem.W.codeIn K cd22 "_law_is_right" = true) (k22 : PySem.W.keepIn K (.ref f22) = true)
    (a23 : PySem.W.nsIn K mainGlobals "law" = some (some (.ref f23))) (l23 : K.lookup f23 = some ⟨oc23, od23, .func (PySem.W.fnOf "law" "law" (defArgs s_l_law) (defBody s_l_law) (defScope s_l_law) .none kV23 dc23 pm23 an23 cd23 ct23), sl23⟩) (c23 : PySem.W.codeIn K cd23 "law" = true) (k23 : PySem.W.keepIn K (.ref f23) = true)
    (z_len : PySem.W.nsIn K mainGlobals "len" = some none)
    (z_abs : PySem.W.nsIn K mainGlobals "abs" = some none)
    (z_divmod : PySem.W.nsIn K mainGlobals "divmod" = some none)
    (z_repr : PySem.W.nsIn K mainGlobals "repr" = some none)
    (z_int : PySem.W.nsIn K mainGlobals "int" = some none)
    (z_tuple : PySem.W.nsIn K mainGlobals "tuple" = some none)
    (z_all : PySem.W.nsIn K mainGlobals "all" = some none)
    (z_any : PySem.W.nsIn K mainGlobals "any" = some none)
    (z_isinstance : PySem.W.nsIn K mainGlobals "isinstance" = some none)
    (z_bool : PySem.W.nsIn K mainGlobals "bool" = some none)
    (z_range : PySem.W.nsIn K mainGlobals "range" = some none)
    (z_str : PySem.W.nsIn K mainGlobals "str" = some none)
    (z_ValueError : PySem.W.nsIn K mainGlobals "ValueError" = some none)
    (g_gcd : PySem.W.nsIn K mainGlobals "gcd" = some (some (.builtin "math.gcd")))
    (k_BLANKS : PySem.W.nsIn K mainGlobals "BLANKS" = some (some (.str " \n" tk_BLANKS)))
    (k_DIGITS : PySem.W.nsIn K mainGlobals "DIGITS" = some (some (.str "0123456789" tk_DIGITS)))
    (k_SMALL_LETTERS : PySem.W.nsIn K mainGlobals "SMALL_LETTERS" = some (some (.str "abcdefghijklmnopqrstuvwxyz" tk_SMALL_LETTERS)))
    (k_NAME_SIGNS : PySem.W.nsIn K mainGlobals "NAME_SIGNS" = some (some (.str "abcdefghijklmnopqrstuvwxyz0123456789_" tk_NAME_SIGNS)))
    (k_MOST_NAME_SIGNS : PySem.W.nsIn K mainGlobals "MOST_NAME_SIGNS" = some (some (.int 24 tk_MOST_NAME_SIGNS)))
    (k_KEPT_NAMES : PySem.W.nsIn K mainGlobals "KEPT_NAMES" = some (some (.ref t_KEPT_NAMES)))
    (q_KEPT_NAMES : K.lookup t_KEPT_NAMES = some ⟨.type "tuple", od_KEPT_NAMES, .seq #[.str "all" tk_KEPT_NAMES_0, .str "none" tk_KEPT_NAMES_1, .str "half" tk_KEPT_NAMES_2, .str "disc" tk_KEPT_NAMES_3, .str "box" tk_KEPT_NAMES_4, .str "polygon" tk_KEPT_NAMES_5, .str "not" tk_KEPT_NAMES_6, .str "move" tk_KEPT_NAMES_7, .str "scale" tk_KEPT_NAMES_8, .str "turn" tk_KEPT_NAMES_9, .str "mirror" tk_KEPT_NAMES_10, .str "lead" tk_KEPT_NAMES_11, .str "flip" tk_KEPT_NAMES_12, .str "repeat" tk_KEPT_NAMES_13, .str "let" tk_KEPT_NAMES_14] n_KEPT_NAMES, sl_KEPT_NAMES⟩)
    (gC_InvalidFraction : PySem.W.nsIn K mainGlobals "InvalidFraction" = some (some (.ref C_InvalidFraction))) (xL_InvalidFraction : K.lookup C_InvalidFraction = some (excClassObj nm_InvalidFraction q_InvalidFraction C_InvalidFraction Nn_InvalidFraction bs_InvalidFraction bm_InvalidFraction true sn_InvalidFraction sub_InvalidFraction ab_InvalidFraction col_InvalidFraction dd_InvalidFraction ma_InvalidFraction mb_InvalidFraction mc_InvalidFraction md_InvalidFraction me_InvalidFraction "ValueError.__new__")) (rv_InvalidFraction : PySem.HandSPX.refsVE bm_InvalidFraction = true) (sa_InvalidFraction : PySem.W.findIn K (.ref C_InvalidFraction) "__setattr__" = some (some (.builtin "object.__setattr__"))) (ga_InvalidFraction : PySem.W.findIn K (.ref C_InvalidFraction) "__getattribute__" = some (some (.builtin "BaseException.__getattribute__"))) (gg_InvalidFraction : PySem.W.findIn K (.ref C_InvalidFraction) "__getattr__" = some none) (no_InvalidFraction : PySem.W.findIn K (.ref C_InvalidFraction) "given" = some none) (iC_InvalidFraction : PySem.W.findIn K (.ref C_InvalidFraction) "__init__" = some (some (.ref fI_InvalidFraction))) (tI_InvalidFraction : PySem.W.typeIn K (.ref fI_InvalidFraction) = some (.type "function")) (lI_InvalidFraction : K.lookup fI_InvalidFraction = some ⟨ocX_InvalidFraction, odX_InvalidFraction, .func (PySem.W.fnOf "__init__" "InvalidFraction.__init__" (defArgs s_iInvalidFraction) (defBody s_iInvalidFraction) (defScope s_iInvalidFraction) .none kVX_InvalidFraction dcX_InvalidFraction pmX_InvalidFraction anX_InvalidFraction cdX_InvalidFraction ctX_InvalidFraction), slX_InvalidFraction⟩) (cI_InvalidFraction : PySem.W.codeIn K cdX_InvalidFraction "InvalidFraction.__init__" = true) (kI_InvalidFraction : PySem.W.keepIn K (.ref fI_InvalidFraction) = true) (kC_InvalidFraction : PySem.W.keepIn K (.ref C_InvalidFraction) = true) (eC_InvalidFraction : PySem.W.subIn K (.ref C_InvalidFraction) (.type "BaseException") = some true) (tC_InvalidFraction : PySem.W.typeIn K (.ref C_InvalidFraction) = some (.type "type")) (hC_InvalidFraction : PySem.W.hasDictIn K C_InvalidFraction = true) (te_InvalidFraction : PySem.W.exmOne K (.ref C_InvalidFraction) (.ref C_InvalidFraction) = some true)
    (gC_BadText : PySem.W.nsIn K mainGlobals "BadText" = some (some (.ref C_BadText))) (xL_BadText : K.lookup C_BadText = some (excClassObj nm_BadText q_BadText C_BadText Nn_BadText bs_BadText bm_BadText true sn_BadText sub_BadText ab_BadText col_BadText dd_BadText ma_BadText mb_BadText mc_BadText md_BadText me_BadText "ValueError.__new__")) (rv_BadText : PySem.HandSPX.refsVE bm_BadText = true) (sa_BadText : PySem.W.findIn K (.ref C_BadText) "__setattr__" = some (some (.builtin "object.__setattr__"))) (ga_BadText : PySem.W.findIn K (.ref C_BadText) "__getattribute__" = some (some (.builtin "BaseException.__getattribute__"))) (gg_BadText : PySem.W.findIn K (.ref C_BadText) "__getattr__" = some none) (no_BadText : PySem.W.findIn K (.ref C_BadText) "spot" = some none) (iC_BadText : PySem.W.findIn K (.ref C_BadText) "__init__" = some (some (.ref fI_BadText))) (tI_BadText : PySem.W.typeIn K (.ref fI_BadText) = some (.type "function")) (lI_BadText : K.lookup fI_BadText = some ⟨ocX_BadText, odX_BadText, .func (PySem.W.fnOf "__init__" "BadText.__init__" (defArgs s_iBadText) (defBody s_iBadText) (defScope s_iBadText) .none kVX_BadText dcX_BadText pmX_BadText anX_BadText cdX_BadText ctX_BadText), slX_BadText⟩) (cI_BadText : PySem.W.codeIn K cdX_BadText "BadText.__init__" = true) (kI_BadText : PySem.W.keepIn K (.ref fI_BadText) = true) (kC_BadText : PySem.W.keepIn K (.ref C_BadText) = true) (eC_BadText : PySem.W.subIn K (.ref C_BadText) (.type "BaseException") = some true) (tC_BadText : PySem.W.typeIn K (.ref C_BadText) = some (.type "type")) (hC_BadText : PySem.W.hasDictIn K C_BadText = true) (te_BadText : PySem.W.exmOne K (.ref C_BadText) (.ref C_BadText) = some true)
    (xx_BadText_InvalidFraction : PySem.W.exmOne K (.ref C_InvalidFraction) (.ref C_BadText) = some false) : Top K mg where
  d_p__wall := ⟨_, _, fun_mk (st := s_p__wall) l0 c0 k0, PySem.W.mg_of X G a0, (fun_mk (st := s_p__wall) l0 c0 k0).binds fun _ _ _ _ _ _ us hl => match us, hl with | [_], _ => rfl⟩
  d_p_is_whole := ⟨_, _, fun_mk (st := s_p_is_whole) l1 c1 k1, PySem.W.mg_of X G a1, (fun_mk (st := s_p_is_whole) l1 c1 k1).binds fun _ _ _ _ _ _ us hl => match us, hl with | [_], _ => rfl⟩
  d_p_is_fraction := ⟨_, _, fun_mk (st := s_p_is_fraction) l2 c2 k2, PySem.W.mg_of X G a2, (fun_mk (st := s_p_is_fraction) l2 c2 k2).binds fun _ _ _ _ _ _ us hl => match us, hl with | [_], _ => rfl⟩
  d_p_check_fraction := ⟨_, _, fun_mk (st := s_p_check_fraction) l3 c3 k3, PySem.W.mg_of X G a3, (fun_mk (st := s_p_check_fraction) l3 c3 k3).binds fun _ _ _ _ _ _ us hl => match us, hl with | [_], _ => rfl⟩
  d_p_words_of := ⟨_, _, fun_mk (st := s_p_words_of) l4 c4 k4, PySem.W.mg_of X G a4, (fun_mk (st := s_p_words_of) l4 c4 k4).binds fun _ _ _ _ _ _ us hl => match us, hl with | [_], _ => rfl⟩
  d_p_end_at := ⟨_, _, fun_mk (st := s_p_end_at) l5 c5 k5, PySem.W.mg_of X G a5, (fun_mk (st := s_p_end_at) l5 c5 k5).binds fun _ _ _ _ _ _ us hl => match us, hl with | [_, _], _ => rfl⟩
  d_p_is_free_name := ⟨_, _, fun_mk (st := s_p_is_free_name) l6 c6 k6, PySem.W.mg_of X G a6, (fun_mk (st := s_p_is_free_name) l6 c6 k6).binds fun _ _ _ _ _ _ us hl => match us, hl with | [_], _ => rfl⟩
  d_p_fraction_text := ⟨_, _, fun_mk (st := s_p_fraction_text) l7 c7 k7, PySem.W.mg_of X G a7, (fun_mk (st := s_p_fraction_text) l7 c7 k7).binds fun _ _ _ _ _ _ us hl => match us, hl with | [_], _ => rfl⟩
  d_p_plain_text := ⟨_, _, fun_mk (st := s_p_plain_text) l8 c8 k8, PySem.W.mg_of X G a8, (fun_mk (st := s_p_plain_text) l8 c8 k8).binds fun _ _ _ _ _ _ us hl => match us, hl with | [_], _ => rfl⟩
  d_l_well := ⟨_, _, fun_mk (st := s_l_well) l9 c9 k9, PySem.W.mg_of X G a9, (fun_mk (st := s_l_well) l9 c9 k9).binds fun _ _ _ _ _ _ us hl => match us, hl with | [_, _], _ => rfl⟩
  d_l_draw := ⟨_, _, fun_mk (st := s_l_draw) l10 c10 k10, PySem.W.mg_of X G a10, (fun_mk (st := s_l_draw) l10 c10 k10).binds fun _ _ _ _ _ _ us hl => match us, hl with | [_, _], _ => rfl⟩
  d_l_pick := ⟨_, _, fun_mk (st := s_l_pick) l11 c11 k11, PySem.W.mg_of X G a11, (fun_mk (st := s_l_pick) l11 c11 k11).binds fun _ _ _ _ _ _ us hl => match us, hl with | [_, _], _ => rfl⟩
  d_l_shared := ⟨_, _, fun_mk (st := s_l_shared) l12 c12 k12, PySem.W.mg_of X G a12, (fun_mk (st := s_l_shared) l12 c12 k12).binds fun _ _ _ _ _ _ us hl => match us, hl with | [_, _], _ => rfl⟩
  d_l_lean := ⟨_, _, fun_mk (st := s_l_lean) l13 c13 k13, PySem.W.mg_of X G a13, (fun_mk (st := s_l_lean) l13 c13 k13).binds fun _ _ _ _ _ _ us hl => match us, hl with | [_, _], _ => rfl⟩
  d_l_kept := ⟨_, _, fun_mk (st := s_l_kept) l14 c14 k14, PySem.W.mg_of X G a14, (fun_mk (st := s_l_kept) l14 c14 k14).binds fun _ _ _ _ _ _ us hl => match us, hl with | [], _ => rfl⟩
  d_l_name := ⟨_, _, fun_mk (st := s_l_name) l15 c15 k15, PySem.W.mg_of X G a15, (fun_mk (st := s_l_name) l15 c15 k15).binds fun _ _ _ _ _ _ us hl => match us, hl with | [_], _ => rfl⟩
  d_l_piece := ⟨_, _, fun_mk (st := s_l_piece) l16 c16 k16, PySem.W.mg_of X G a16, (fun_mk (st := s_l_piece) l16 c16 k16).binds fun _ _ _ _ _ _ us hl => match us, hl with | [_], _ => rfl⟩
  d_l_scan := ⟨_, _, fun_mk (st := s_l_scan) l17 c17 k17, PySem.W.mg_of X G a17, (fun_mk (st := s_l_scan) l17 c17 k17).binds fun _ _ _ _ _ _ us hl => match us, hl with | [_], _ => rfl⟩
  d_l_is_name := ⟨_, _, fun_mk (st := s_l_is_name) l18 c18 k18, PySem.W.mg_of X G a18, (fun_mk (st := s_l_is_name) l18 c18 k18).binds fun _ _ _ _ _ _ us hl => match us, hl with | [_], _ => rfl⟩
  d_l_part := ⟨_, _, fun_mk (st := s_l_part) l19 c19 k19, PySem.W.mg_of X G a19, (fun_mk (st := s_l_part) l19 c19 k19).binds fun _ _ _ _ _ _ us hl => match us, hl with | [_], _ => rfl⟩
  d_l_told := ⟨_, _, fun_mk (st := s_l_told) l20 c20 k20, PySem.W.mg_of X G a20, (fun_mk (st := s_l_told) l20 c20 k20).binds fun _ _ _ _ _ _ us hl => match us, hl with | [_], _ => rfl⟩
  d_l_are_fractions_right := ⟨_, _, fun_mk (st := s_l_are_fractions_right) l21 c21 k21, PySem.W.mg_of X G a21, (fun_mk (st := s_l_are_fractions_right) l21 c21 k21).binds fun _ _ _ _ _ _ us hl => match us, hl with | [_, _], _ => rfl⟩
  d_l_is_right := ⟨_, _, fun_mk (st := s_l_is_right) l22 c22 k22, PySem.W.mg_of X G a22, (fun_mk (st := s_l_is_right) l22 c22 k22).binds fun _ _ _ _ _ _ us hl => match us, hl with | [_], _ => rfl⟩
  d_l_law := ⟨_, _, fun_mk (st := s_l_law) l23 c23 k23, PySem.W.mg_of X G a23, (fun_mk (st := s_l_law) l23 c23 k23).binds fun _ _ _ _ _ _ us hl => match us, hl with | [_], _ => rfl⟩
  z_len := PySem.W.mg_none_of X G z_len
  z_abs := PySem.W.mg_none_of X G z_abs
  z_divmod := PySem.W.mg_none_of X G z_divmod
  z_repr := PySem.W.mg_none_of X G z_repr
  z_int := PySem.W.mg_none_of X G z_int
  z_tuple := PySem.W.mg_none_of X G z_tuple
  z_all := PySem.W.mg_none_of X G z_all
  z_any := PySem.W.mg_none_of X G z_any
  z_isinstance := PySem.W.mg_none_of X G z_isinstance
  z_bool := PySem.W.mg_none_of X G z_bool
  z_range := PySem.W.mg_none_of X G z_range
  z_str := PySem.W.mg_none_of X G z_str
  z_ValueError := PySem.W.mg_none_of X G z_ValueError
  g_gcd := PySem.W.mg_of X G g_gcd
  k_BLANKS := ⟨_, PySem.W.mg_of X G k_BLANKS⟩
  k_DIGITS := ⟨_, PySem.W.mg_of X G k_DIGITS⟩
  k_SMALL_LETTERS := ⟨_, PySem.W.mg_of X G k_SMALL_LETTERS⟩
  k_NAME_SIGNS := ⟨_, PySem.W.mg_of X G k_NAME_SIGNS⟩
  k_MOST_NAME_SIGNS := ⟨_, PySem.W.mg_of X G k_MOST_NAME_SIGNS⟩
  k_KEPT_NAMES := ⟨.ref t_KEPT_NAMES, .ref t_KEPT_NAMES, PySem.W.mg_of X G k_KEPT_NAMES, rfl, (.tup (xs := [.str "all", .str "none", .str "half", .str "disc", .str "box", .str "polygon", .str "not", .str "move", .str "scale", .str "turn", .str "mirror", .str "lead", .str "flip", .str "repeat", .str "let"]) (Ld.wr_of q_KEPT_NAMES (by show 15 ≤ sizeLine; decide) (.cons ⟨_, rfl⟩ (.cons ⟨_, rfl⟩ (.cons ⟨_, rfl⟩ (.cons ⟨_, rfl⟩ (.cons ⟨_, rfl⟩ (.cons ⟨_, rfl⟩ (.cons ⟨_, rfl⟩ (.cons ⟨_, rfl⟩ (.cons ⟨_, rfl⟩ (.cons ⟨_, rfl⟩ (.cons ⟨_, rfl⟩ (.cons ⟨_, rfl⟩ (.cons ⟨_, rfl⟩ (.cons ⟨_, rfl⟩ (.cons ⟨_, rfl⟩ .nil)))))))))))))))) (.cons (.str _) (.cons (.str _) (.cons (.str _) (.cons (.str _) (.cons (.str _) (.cons (.str _) (.cons (.str _) (.cons (.str _) (.cons (.str _) (.cons (.str _) (.cons (.str _) (.cons (.str _) (.cons (.str _) (.cons (.str _) (.cons (.str _) .nil))))))))))))))))⟩
  e_InvalidFraction := ⟨C_InvalidFraction, fI_InvalidFraction, _, { gC := PySem.W.mg_of X G gC_InvalidFraction, ox := ⟨⟨nm_InvalidFraction, q_InvalidFraction, Nn_InvalidFraction, bs_InvalidFraction, bm_InvalidFraction, sn_InvalidFraction, sub_InvalidFraction, ab_InvalidFraction, col_InvalidFraction, dd_InvalidFraction, ma_InvalidFraction, mb_InvalidFraction, mc_InvalidFraction, md_InvalidFraction, me_InvalidFraction, xL_InvalidFraction, rv_InvalidFraction⟩, sa_InvalidFraction, eC_InvalidFraction, tC_InvalidFraction, kC_InvalidFraction⟩, xf := ⟨ga_InvalidFraction, gg_InvalidFraction, eC_InvalidFraction, hC_InvalidFraction⟩, iC := iC_InvalidFraction, tI := tI_InvalidFraction, te := te_InvalidFraction, no := no_InvalidFraction, fn := fun_mk (st := s_iInvalidFraction) lI_InvalidFraction cI_InvalidFraction kI_InvalidFraction, bd := (fun_mk (st := s_iInvalidFraction) lI_InvalidFraction cI_InvalidFraction kI_InvalidFraction).binds fun _ _ _ _ _ _ us hl => match us, hl with | [_, _], _ => rfl }⟩
  e_BadText := ⟨C_BadText, fI_BadText, _, { gC := PySem.W.mg_of X G gC_BadText, ox := ⟨⟨nm_BadText, q_BadText, Nn_BadText, bs_BadText, bm_BadText, sn_BadText, sub_BadText, ab_BadText, col_BadText, dd_BadText, ma_BadText, mb_BadText, mc_BadText, md_BadText, me_BadText, xL_BadText, rv_BadText⟩, sa_BadText, eC_BadText, tC_BadText, kC_BadText⟩, xf := ⟨ga_BadText, gg_BadText, eC_BadText, hC_BadText⟩, iC := iC_BadText, tI := tI_BadText, te := te_BadText, no := no_BadText, fn := fun_mk (st := s_iBadText) lI_BadText cI_BadText kI_BadText, bd := (fun_mk (st := s_iBadText) lI_BadText cI_BadText kI_BadText).binds fun _ _ _ _ _ _ us hl => match us, hl with | [_, _], _ => rfl }⟩
  x_BadText_InvalidFraction := fun A B h1 h2 => by
    rw [PySem.W.mg_of X G gC_BadText] at h1
    rw [PySem.W.mg_of X G gC_InvalidFraction] at h2
    cases h1
    cases h2
    exact xx_BadText_InvalidFraction
end My
open PySem PySem.W PyProof.Rows
namespace My
open PySem L2 Lw
theorem mk_mk0 {K : PySem.W.Frag} {h : Heap} {mg : Str → Option Value} {f cM : Addr} {od an : Option Addr} {sl : Array (Option Value)} {oc kV dc pm ct : Value} (X : K.In h) (G : h.Ns mainGlobals mg)
    (a : PySem.W.nsIn K mainGlobals "_law_are_fractions_right" = some (some (.ref f))) (l : K.lookup f = some ⟨oc, od, .func (PySem.W.fnOf "_law_are_fractions_right" "_law_are_fractions_right" (defArgs s_l_are_fractions_right) (defBody s_l_are_fractions_right) (defScope s_l_are_fractions_right) .none kV dc pm an (.ref cM) ct), sl⟩) (c : PySem.W.codeIn K (.ref cM) "_law_are_fractions_right" = true) (k : PySem.W.keepIn K (.ref f) = true) :
    Ld.Dc K mg "_law_are_fractions_right" s_l_are_fractions_right ["_law_well_here", "_law_odd"] (.ref cM) := ⟨f, oc, od, kV, dc, pm, an, ct, sl, l, c, k, PySem.W.mg_of X G a, (fun_mk (st := s_l_are_fractions_right) l c k).binds fun _ _ _ _ _ _ us hl => match us, hl with | [_, _], _ => rfl⟩
theorem mk_mk1 {K : PySem.W.Frag} {h : Heap} {mg : Str → Option Value} {f cM : Addr} {od an : Option Addr} {sl : Array (Option Value)} {oc kV dc pm ct : Value} (X : K.In h) (G : h.Ns mainGlobals mg)
    (a : PySem.W.nsIn K mainGlobals "_law_is_right" = some (some (.ref f))) (l : K.lookup f = some ⟨oc, od, .func (PySem.W.fnOf "_law_is_right" "_law_is_right" (defArgs s_l_is_right) (defBody s_l_is_right) (defScope s_l_is_right) .none kV dc pm an (.ref cM) ct), sl⟩) (c : PySem.W.codeIn K (.ref cM) "_law_is_right" = true) (k : PySem.W.keepIn K (.ref f) = true) :
    Ld.Dc K mg "_law_is_right" s_l_is_right ["_law_well_here"] (.ref cM) := ⟨f, oc, od, kV, dc, pm, an, ct, sl, l, c, k, PySem.W.mg_of X G a, (fun_mk (st := s_l_is_right) l c k).binds fun _ _ _ _ _ _ us hl => match us, hl with | [_], _ => rfl⟩
theorem ends_my {K : PySem.W.Frag} {mg : Str → Option Value} {h : Heap} {Pr : Program} {w : World} {k : Nat} {x : Str} {c0 P0 c1 P1 : Addr}
    (M0 : Ld.Dc K mg "_law_are_fractions_right" s_l_are_fractions_right ["_law_well_here", "_law_odd"] (.ref c0)) (M1 : Ld.Dc K mg "_law_is_right" s_l_is_right ["_law_well_here"] (.ref c1)) (t0 : h.get? P0 = some { cls := .none, data := .fields #[] }) (t1 : h.get? P1 = some { cls := .none, data := .fields #[] }) (n0 : K.lookup P0 = none) (n1 : K.lookup P1 = none) (h0 : PySem.W.CodeHd h c0 P0) (h1 : PySem.W.CodeHd h c1 P1) (ne01 : P0 ≠ P1)
    (F : ∀ base : Heap, K.In base → base.Ns mainGlobals mg → Ld.Dc K mg "_law_are_fractions_right" s_l_are_fractions_right ["_law_well_here", "_law_odd"] (.ref c0) → LamX.TabB base mg c0 P0 → Ld.Dc K mg "_law_is_right" s_l_is_right ["_law_well_here"] (.ref c1) → LamX.TabB base mg c1 P1 → P0 ≠ P1 → Cl CX0 Pr w K mg base k x (Ld.spLawT K (Ld.tabsOf [(c0, P0, (("_law_are_fractions_right" : Str) ++ (".<locals>." : Str)) ++ ("<lambda>" : Str)), (c1, P1, (("_law_is_right" : Str) ++ (".<locals>." : Str)) ++ ("<lambda>" : Str))]))) :
    ∃ cs : Ld.Mks, (∀ c ∈ cs, h.get? c.2.1 = some { cls := .none, data := .fields #[] }) ∧ (∀ c ∈ cs, K.lookup c.2.1 = none) ∧ (∀ c ∈ cs, PySem.W.CodeHd h c.1 c.2.1) ∧ ∀ base : Heap, K.In base → base.Ns mainGlobals mg → (∀ c ∈ cs, LamX.TabB base mg c.1 c.2.1) → Cl CX0 Pr w K mg base k x (Ld.spLawT K (Ld.tabsOf cs)) :=
  ⟨[(c0, P0, (("_law_are_fractions_right" : Str) ++ (".<locals>." : Str)) ++ ("<lambda>" : Str)), (c1, P1, (("_law_is_right" : Str) ++ (".<locals>." : Str)) ++ ("<lambda>" : Str))], (Ld.al_cons t0 (Ld.al_cons t1 Ld.al_nil)), (Ld.al_cons n0 (Ld.al_cons n1 Ld.al_nil)), (Ld.al_cons h0 (Ld.al_cons h1 Ld.al_nil)), fun base b1 b2 TB => F base b1 b2 M0 (TB _ (.head _)) M1 (TB _ (.tail _ (.head _))) ne01⟩
end My
set_option maxRecDepth 100000 in
set_option maxHeartbeats 0 in
theorem PySem.Challenge.cw_planehall_k41_whole_words_and_spots_holds : PySem.Challenge.rw_planehall_k41_whole_words_and_spots.Holds := by
  w_on; o_law; k_head; (case hw => w_witness2)
  k_fill
  refine Ld.walk_lawN (l := PySem.Challenge.rw_planehall_k41_whole_words_and_spots) (k := 9) rfl rfl ⟨rfl, by decide, by decide⟩ (fun w h Y => PySem.W.km_in_of Y) ?F
  case F =>
    intro w mg h Y KX G
    refine' My.ends_my (My.mk_mk0 KX G ?ma0 ?ml0 ?mc0 ?mk0) (My.mk_mk1 KX G ?ma1 ?ml1 ?mc1 ?mk1) (PySem.W.km_tabs_of Y _ (.head _)) (PySem.W.km_tabs_of Y _ (.tail _ (.head _))) ?tn0 ?tn1 (PySem.W.codeHd_of_K KX ?tc0) (PySem.W.codeHd_of_K KX ?tc1) ?ne01 (fun base b1 b2 M0 TB0 M1 TB1 ne01 => ?G)
    (case ma0 => k_is)
    (case ml0 => k_is)
    (case mc0 => k_is)
    (case mk0 => k_is)
    (case ma1 => k_is)
    (case ml1 => k_is)
    (case mc1 => k_is)
    (case mk1 => k_is)
    (case tn0 => kernel_rfl)
    (case tc0 => kernel_rfl)
    (case tn1 => kernel_rfl)
    (case tc1 => kernel_rfl)
    (case ne01 => decide)
    refine My.c_l_law ?T M0 TB0 M1 TB1 ne01
    refine' My.top_mk KX G ?a0 ?l0 ?c0 ?k0 ?a1 ?l1 ?c1 ?k1 ?a2 ?l2 ?c2 ?k2 ?a3 ?l3 ?c3 ?k3 ?a4 ?l4 ?c4 ?k4 ?a5 ?l5 ?c5 ?k5 ?a6 ?l6 ?c6 ?k6 ?a7 ?l7 ?c7 ?k7 ?a8 ?l8 ?c8 ?k8 ?a9 ?l9 ?c9 ?k9 ?a10 ?l10 ?c10 ?k10 ?a11 ?l11 ?c11 ?k11 ?a12 ?l12 ?c12 ?k12 ?a13 ?l13 ?c13 ?k13 ?a14 ?l14 ?c14 ?k14 ?a15 ?l15 ?c15 ?k15 ?a16 ?l16 ?c16 ?k16 ?a17 ?l17 ?c17 ?k17 ?a18 ?l18 ?c18 ?k18 ?a19 ?l19 ?c19 ?k19 ?a20 ?l20 ?c20 ?k20 ?a21 ?l21 ?c21 ?k21 ?a22 ?l22 ?c22 ?k22 ?a23 ?l23 ?c23 ?k23 ?z_len ?z_abs ?z_divmod ?z_repr ?z_int ?z_tuple ?z_all ?z_any ?z_isinstance ?z_bool ?z_range ?z_str ?z_ValueError ?g_gcd ?k_BLANKS ?k_DIGITS ?k_SMALL_LETTERS ?k_NAME_SIGNS ?k_MOST_NAME_SIGNS ?k_KEPT_NAMES ?q_KEPT_NAMES ?gC_InvalidFraction ?xL_InvalidFraction ?rv_InvalidFraction ?sa_InvalidFraction ?ga_InvalidFraction ?gg_InvalidFraction ?no_InvalidFraction ?iC_InvalidFraction ?tI_InvalidFraction ?lI_InvalidFraction ?cI_InvalidFraction ?kI_InvalidFraction ?kC_InvalidFraction ?eC_InvalidFraction ?tC_InvalidFraction ?hC_InvalidFraction ?te_InvalidFraction ?gC_BadText ?xL_BadText ?rv_BadText ?sa_BadText ?ga_BadText ?gg_BadText ?no_BadText ?iC_BadText ?tI_BadText ?lI_BadText ?cI_BadText ?kI_BadText ?kC_BadText ?eC_BadText ?tC_BadText ?hC_BadText ?te_BadText ?xx_BadText_InvalidFraction
    (case a0 => k_is)
    (case l0 => k_is)
    (case c0 => k_is)
    (case k0 => k_is)
    (case a1 => k_is)
    (case l1 => k_is)
    (case c1 => k_is)
    (case k1 => k_is)
    (case a2 => k_is)
    (case l2 => k_is)
    (case c2 => k_is)
    (case k2 => k_is)
    (case a3 => k_is)
    (case l3 => k_is)
    (case c3 => k_is)
    (case k3 => k_is)
    (case a4 => k_is)
    (case l4 => k_is)
    (case c4 => k_is)
    (case k4 => k_is)
    (case a5 => k_is)
    (case l5 => k_is)
    (case c5 => k_is)
    (case k5 => k_is)
    (case a6 => k_is)
    (case l6 => k_is)
    (case c6 => k_is)
    (case k6 => k_is)
    (case a7 => k_is)
    (case l7 => k_is)
    (case c7 => k_is)
    (case k7 => k_is)
    (case a8 => k_is)
    (case l8 => k_is)
    (case c8 => k_is)
    (case k8 => k_is)
    (case a9 => k_is)
    (case l9 => k_is)
    (case c9 => k_is)
    (case k9 => k_is)
    (case a10 => k_is)
    (case l10 => k_is)
    (case c10 => k_is)
    (case k10 => k_is)
    (case a11 => k_is)
    (case l11 => k_is)
    (case c11 => k_is)
    (case k11 => k_is)
    (case a12 => k_is)
    (case l12 => k_is)
    (case c12 => k_is)
    (case k12 => k_is)
    (case a13 => k_is)
    (case l13 => k_is)
    (case c13 => k_is)
    (case k13 => k_is)
    (case a14 => k_is)
    (case l14 => k_is)
    (case c14 => k_is)
    (case k14 => k_is)
    (case a15 => k_is)
    (case l15 => k_is)
    (case c15 => k_is)
    (case k15 => k_is)
    (case a16 => k_is)
    (case l16 => k_is)
    (case c16 => k_is)
    (case k16 => k_is)
    (case a17 => k_is)
    (case l17 => k_is)
    (case c17 => k_is)
    (case k17 => k_is)
    (case a18 => k_is)
    (case l18 => k_is)
    (case c18 => k_is)
    (case k18 => k_is)
    (case a19 => k_is)
    (case l19 => k_is)
    (case c19 => k_is)
    (case k19 => k_is)
    (case a20 => k_is)
    (case l20 => k_is)
    (case c20 => k_is)
    (case k20 => k_is)
    (case a21 => k_is)
    (case l21 => k_is)
    (case c21 => k_is)
    (case k21 => k_is)
    (case a22 => k_is)
    (case l22 => k_is)
    (case c22 => k_is)
    (case k22 => k_is)
    (case a23 => k_is)
    (case l23 => k_is)
    (case c23 => k_is)
    (case k23 => k_is)
    (case z_len => k_is)
    (case z_abs => k_is)
    (case z_divmod => k_is)
    (case z_repr => k_is)
    (case z_int => k_is)
    (case z_tuple => k_is)
    (case z_all => k_is)
    (case z_any => k_is)
    (case z_isinstance => k_is)
    (case z_bool => k_is)
    (case z_range => k_is)
    (case z_str => k_is)
    (case z_ValueError => k_is)
    (case g_gcd => k_is)
    (case k_BLANKS => k_is)
    (case k_DIGITS => k_is)
    (case k_SMALL_LETTERS => k_is)
    (case k_NAME_SIGNS => k_is)
    (case k_MOST_NAME_SIGNS => k_is)
    (case k_KEPT_NAMES => k_is)
    (case q_KEPT_NAMES => k_is)
    (case gC_InvalidFraction => k_is)
    (case xL_InvalidFraction => k_is)
    (case rv_InvalidFraction => decide +kernel)
    (case sa_InvalidFraction => k_is)
    (case ga_InvalidFraction => k_is)
    (case gg_InvalidFraction => k_is)
    (case no_InvalidFraction => k_is)
    (case iC_InvalidFraction => k_is)
    (case tI_InvalidFraction => k_is)
    (case lI_InvalidFraction => k_is)
    (case cI_InvalidFraction => k_is)
    (case kI_InvalidFraction => k_is)
    (case kC_InvalidFraction => k_is)
    (case eC_InvalidFraction => k_is)
    (case tC_InvalidFraction => k_is)
    (case hC_InvalidFraction => k_is)
    (case te_InvalidFraction => first | rfl | k_is)
    (case gC_BadText => k_is)
    (case xL_BadText => k_is)
    (case rv_BadText => decide +kernel)
    (case sa_BadText => k_is)
    (case ga_BadText => k_is)
    (case gg_BadText => k_is)
    (case no_BadText => k_is)
    (case iC_BadText => k_is)
    (case tI_BadText => k_is)
    (case lI_BadText => k_is)
    (case cI_BadText => k_is)
    (case kI_BadText => k_is)
    (case kC_BadText => k_is)
    (case eC_BadText => k_is)
    (case tC_BadText => k_is)
    (case hC_BadText => k_is)
    (case te_BadText => first | rfl | k_is)
    (case xx_BadText_InvalidFraction => first | rfl | k_is)


