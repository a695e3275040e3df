import PyProof.Rows.All
import Wide.All
import OpenK.AllK
import Wide.FinOn
import HandS.ForExc
import HandS.ForMost
import HandS.Gcd
import HandS.Wide
import HandS.WideBits
import HandS.IsInst
import HandS.TupAny
import HandS.Style
import HandS.ExcInit
import HandS.ExcField
import PyProof.NeData
import Flt.RightSqrt
import PyProof.ReprLen
import PyProof.Rows.IntBool
import PyProof.TwoTypesSub
import PyProof.Rows.EqBoolInt
import KE.KMathG
import HandS.Rev
import HandS.Iter
import HandS.Zip
import HandS.Flow
import HandS.Deep
import HandS.Lambda
import HandS.EndTab
import HandS.TryOnly
import HandS.More
import PySem.Challenge.RW_planehall_k08_whole_sides_of_places
set_option Elab.async false
set_option linter.all false
set_option maxRecDepth 100000
set_option exponentiation.threshold 50000
set_option maxHeartbeats 4000000
namespace Lw
open PySem PySem.Spec PyProof.Rows L2

/-! ### promises of defs that may ask for a text of data: no such asking is under way -/
structure FnG (CX : CXT) (P : Program) (w : World) (K : PySem.W.Frag) (mg : Str → Option Value) (base : Heap) (k : Nat) (f : Addr) (fd : FuncData) (ps : List Str) (sp : Sp) : Prop where
  len : ∀ vs H Q E, sp vs H Q E → vs.length = ps.length
  run : ∀ (A : Around), Room k A → A.guards = some [] → ∀ (outer : List Env) (s : Shared) (H : Hp), Env0 P w K mg base A outer s H →
    ∀ (args : Args) (us : List Value) (vs : List V), BindsTo s fd args (ps.zip us) → Vals vs us → ∀ (Q : VK) (E : XK), sp vs H Q E → codeAny (model P w) A (.call (.ref f) args) (CR CX outer P w H s Q E) s
section
variable {CX : CXT} {P : Program} {w : World} {K : PySem.W.Frag} {mg : Str → Option Value} {base : Heap}
theorem FnG.of {k : Nat} {f : Addr} {fd : FuncData} {ps : List Str} {sp : Sp} (F : FnOk P w K mg base CX k f fd ps sp) : FnG CX P w K mg base k f fd ps sp :=
  ⟨F.len, fun A hr _ outer s H e0 args us vs hb r Q E h => F.run A outer s H args us vs Q E hr e0 hb r h⟩

/-- a def of the text, by its name -/
structure Dn (K : PySem.W.Frag) (mg : Str → Option Value) (x : Str) (st : Stmt) (ps : List Str) : Prop where
  ex : ∃ f fd, Fun K x x st f fd ∧ mg x = some (.ref f) ∧ Binds K fd ps []
/-- a def that may be called by its name; CX: how an exception leaves it -/
structure Cl (CX : CXT) (P : Program) (w : World) (K : PySem.W.Frag) (mg : Str → Option Value) (base : Heap) (k : Nat) (x : Str) (sp : Sp) : Prop where
  ex : ∃ f fd ps, FnG CX P w K mg base k f fd ps sp ∧ mg x = some (.ref f) ∧ PySem.W.keepIn K (.ref f) = true ∧ Binds K fd ps []
theorem Cl.imp {k : Nat} {x : Str} {sp sp' : Sp} (c : Cl CX P w K mg base k x sp) (h : ∀ vs H Q E, sp' vs H Q E → sp vs H Q E) : Cl CX P w K mg base k x sp' := by
  obtain ⟨f, fd, ps, F, a, b, d⟩ := c.ex
  exact ⟨f, fd, ps, ⟨fun vs H Q E z => F.len vs H Q E (h vs H Q E z), fun A hr hg outer s H e0 args us vs hb r Q E z => F.run A hr hg outer s H e0 args us vs hb r Q E (h _ _ _ _ z)⟩, a, b, d⟩

theorem Dn.call {x : Str} {st : Stmt} {N ps : List Str} {k : Nat} {sp : Sp} (D : Dn K mg x st ps) (S : FnScope N ps (defScope st)) (len : ∀ vs H Q E, sp vs H Q E → vs.length = ps.length)
    (hbody : ∀ (f : Addr) (cdv : Value) (A : Around) (outer : List Env) (s : Shared) (H : Hp) (vs : List V) (Q : VK) (E : XK), Room k (A.deeper (envOfC x (defScope st) s.heap.objs.size f cdv)) → A.guards = some [] → sp vs H Q E →
      ∃ t, PSs (cxOf CX P w K mg base N x (defScope st) f cdv A outer s H E) (defBody st) t ∧ t { nx := fun _ H' => Q .non H', rt := Q } (L2.start N vs) H) : Cl CX P w K mg base (k + 1) x sp := by
  obtain ⟨f, fd, F, hm, hb⟩ := D.ex
  refine ⟨f, fd, ps, ⟨len, fun A hr hg outer s H e0 args us vs bt r Q E h => ?_⟩, hm, F.kp, hb⟩
  obtain ⟨oc, od, kV, doc, pm, an, cdv, ct, osl, rfl, lk, hcd⟩ := F.ex
  have kept : ∀ b o, base.get? b = some o → s.heap.get? b = some o := fun b o q => (e0.bs b o q).1
  have inK : K.In s.heap := e0.mod.kin.keeps kept
  refine codeAny_call_function hr.depth (inK _ _ lk) rfl S.co S.gen rfl
    (PySem.W.codeRec_of inK hcd) (bt _ _ _ _ ?_)
  have slots : ∀ y ∈ ps.zip us, (defScope st).names.lookup y.1 = some .local ∨
      ((defScope st).names.lookup y.1 = some .cell ∧ ((cellsFrom (s.heap.objs.size + 1) (defScope st).names []).lookup y.1).isSome = true) := by
    rintro ⟨n, v⟩ hy
    exact (S.par n (List.of_mem_zip hy).1).imp (fun q => q) fun q => ⟨q, PySem.W.cellsFrom_some _ _ _ (.inl q)⟩
  refine wpAny_newFunctionEnv_cells S.kind slots fun env he s1 C => ?_
  cases he
  refine ⟨(e0.mod.nolimit.keeps kept).keeps C.toInCall.keep, codeAny_func ?_⟩
  obtain ⟨t, ht, hq⟩ := hbody f cdv A outer s H vs Q E (hr.deeper _) hg h
  have I0 := inv_start (CX := CX) (E := E) S hr.hd e0 (len _ _ _ _ h) r C
  refine wpAny_mono (ht.run [] s1 _ H _ I0 hq) ?_ fun _ _ z => z
  rintro (_ | _ | _ | u) s' z
  · obtain ⟨σ', H', J, q⟩ := z
    exact ⟨V.non, H', J.os, J.bare, J.base, J.hok, rfl, q⟩
  · obtain ⟨_, _, _, q⟩ := z
    exact q.elim
  · obtain ⟨_, _, _, q⟩ := z
    exact q.elim
  · obtain ⟨v, σ', H', J, rv, q⟩ := z
    exact ⟨v, H', J.os, J.bare, J.base, J.hok, rv, q⟩
theorem Dn.cal {x : Str} {st : Stmt} {N ps : List Str} {k : Nat} {sp : Sp} (D : Dn K mg x st ps) (S : FnScope N ps (defScope st)) (len : ∀ vs H Q E, sp vs H Q E → vs.length = ps.length)
    (hbody : ∀ (f : Addr) (cdv : Value) (A : Around) (outer : List Env) (s : Shared) (H : Hp) (vs : List V) (Q : VK) (E : XK), Room k (A.deeper (envOfC x (defScope st) s.heap.objs.size f cdv)) → A.guards = some [] → sp vs H Q E →
      ∃ t, PSs (cxOf CX0 P w K mg base N x (defScope st) f cdv A outer s H E).nox (defBody st) t ∧ t { nx := fun _ H' => Q .non H', rt := Q } (L2.start N vs) H) : Cl CX0 P w K mg base (k + 1) x sp :=
  D.call S len fun f cdv A outer s H vs Q E hr hg h => by
    obtain ⟨t, ht, q⟩ := hbody f cdv A outer s H vs Q E hr hg h
    exact ⟨t, ht.nox, q⟩
end
theorem _root_.L2.PE.weak {X : Cx} {e : Expr} {t t' : TE} (h : PE X e t) (i : ∀ σ H Q, t' σ H Q → t σ H Q) : PE X e t' := ⟨fun pins s σ H Q I q => h.run pins s σ H Q I (i σ H Q q)⟩
theorem _root_.L2.PA.weak {X : Cx} {es : List Expr} {t t' : TA} (h : PA X es t) (i : ∀ σ H Q, t' σ H Q → t σ H Q) : PA X es t' := ⟨fun p pins s σ H Q I q => h.run p pins s σ H Q I (i σ H Q q)⟩
section
variable {X : Cx} {CX : CXT} {x : Str} {p pos : Pos} {e : Expr} {es : List Expr} {t : TA} {sp : Sp} {j k : Nat}
/-- what a callee's error, at the slots σ, does -/
theorem pe_clE {E : L2.St → XK} (c : Cl CX X.prog X.w X.K X.mg X.base k x sp) (hr : Room j X.A) (hG : X.A.guards = some []) (hx : ∀ σ, PassesAt CX X σ (E σ)) (hg : Gl X x) (ha : PA X (e :: es) t) (hk : k ≤ j := by decide)
    (hdb : (x == ("__debug__" : Str)) = false := by decide) (he : starEach (e :: es) X.env = (false, eval e X.env) :: starEach es X.env := by rfl) (hpl : (backTo pos (starEach es X.env)).any (·.1) = false := by rfl) :
    PE X (.Call (.Name x p) (e :: es) [] pos) (fun σ H Q => t σ H fun vs H1 => sp vs H1 Q (E σ)) := by
  obtain ⟨f, fd, ps, F, hm, kp, hb⟩ := c.ex
  refine ⟨fun pins s σ H Q I h => wpAny_Call_Name_kw (ld_glob I hg hm (PySem.W.callWith_K (h₀ := X.base) I.ok.mod.kin kp (thn (ha.run pos pins s σ H _ I h) ?_) he hpl) hdb)⟩
  rintro us s1 ⟨vs, H1, I1, r, q⟩
  have hl : us.length = ps.length := r.length ▸ F.len _ _ _ _ q
  have bt := hb s1 us I1.kIn (by rw [List.append_nil]; exact hl)
  rw [List.append_nil] at bt
  refine ⟨I1.kIn, wpAny_call (codeAny_mono (F.run X.A (hr.mono hk) hG X.stack s1 H1 I1.env0 ⟨us, []⟩ us vs bt r Q (E σ) q) ?_)⟩
  rintro (er | (_ | _ | _ | u)) s' z
  · exact hx σ pins H1 s1 er s' I1 z
  · exact z.elim
  · exact z.elim
  · exact z.elim
  · exact I1.after z
theorem pe_cl (c : Cl CX0 X.prog X.w X.K X.mg X.base k x sp) (hr : Room j X.A) (hG : X.A.guards = some []) (hg : Gl X x) (ha : PA X (e :: es) t) (hk : k ≤ j := by decide)
    (hdb : (x == ("__debug__" : Str)) = false := by decide) (he : starEach (e :: es) X.env = (false, eval e X.env) :: starEach es X.env := by rfl) (hpl : (backTo pos (starEach es X.env)).any (·.1) = false := by rfl) :
    PE X (.Call (.Name x p) (e :: es) [] pos) (fun σ H Q => t σ H fun vs H1 => sp vs H1 Q E0) :=
  pe_clE (E := fun _ => E0) c hr hG (fun _ _ _ _ _ _ _ z => z.elim) hg ha hk hdb he hpl
end
end Lw

namespace Lw
open PySem PySem.Spec PyProof.Rows L2
/-- what a law promises: a list of at most 63 ints is handed in, True comes out -/
def spLaw (K : PySem.W.Frag) : Sp := fun vs H Q _ => ∃ (a : Addr) (ns : List Int), vs = [.ref a] ∧ SqL K H a (ns.map V.int) ∧ ns.length ≤ 63 ∧ ∀ H', Q (.bl true) H'
section
variable {P : Program} {w : World} {K : PySem.W.Frag} {mg mb : Str → Option Value} {k : Nat} {fa a : Addr} {s : Shared} {vs : List Value} {ns : List Int}
/-- the script as the law finds it -/
def scriptO (vs : List Value) : Obj := { cls := .type "list", data := .seq vs.toArray }
open Classical in
noncomputable def scriptH (K : PySem.W.Frag) (a : Addr) (vs : List Value) (ns : List Int) : Hp := fun b =>
  if b = a ∧ K.lookup a = none then some (.frz (scriptO vs) (.lst (ns.map V.int))) else none
theorem scriptH_other {b : Addr} (h : ¬ (b = a ∧ K.lookup a = none)) : scriptH K a vs ns b = none := if_neg h
theorem scriptH_some {b : Addr} {u : HO} (h : scriptH K a vs ns b = some u) : b = a ∧ K.lookup a = none ∧ u = .frz (scriptO vs) (.lst (ns.map V.int)) := by
  by_cases c : b = a ∧ K.lookup a = none
  · unfold scriptH at h
    rw [if_pos c] at h
    exact ⟨c.1, c.2, (Option.some.inj h).symm⟩
  · rw [scriptH_other c] at h
    cases h
theorem scriptH_dict {b : Addr} {o : Obj} {es : Array DictEntry} {n : Nat} (ha : s.heap.get? a = some (scriptO vs)) (hb : s.heap.get? b = some o) (hd : o.data = .dict es n) : scriptH K a vs ns b = none := by
  refine scriptH_other fun c => ?_
  rw [c.1, ha] at hb
  cases hb
  cases hd
theorem script_run (hk : K.In s.heap) (hmain : s.heap.Ns mainGlobals mg) (hbi : s.heap.Ns builtinsNs mb) (hboot : ∀ x : Str, x ≠ "__name__" → mb x = bootBuiltins x) (hlim : s.heap.NoLimit) (hgens : s.gens = #[])
    (ha : s.heap.get? a = some (scriptO vs)) (hi : IntsAre vs ns) (hl : ns.length ≤ 63) (hr : Room k callerA)
    (F : ∀ base : Heap, K.In base → base.Ns mainGlobals mg → ∃ fd ps, FnG CX0 P w K mg base k fa fd ps (spLaw K) ∧ Binds K fd ps []) :
    codeAny (model P w) callerA (.call (.ref fa) ⟨[.ref a], []⟩) (fun r s' => r = .ok (.ret (.bool true)) ∧ OldK s.heap s'.heap ∧ s'.os = s.os ∧ AllBare s'.gens) s := by
  have size63 : ns.length ≤ sizeLine := Nat.le_trans hl (by decide)
  have rv : Vals (ns.map V.int) vs := vals_ints hi
  have down : ∀ {b : Addr} {m : Str → Option Value}, s.heap.Ns b m → (hidT s.heap (scriptH K a vs ns)).Ns b m := by
    rintro b m ⟨o, es, n, q, d, r⟩
    exact ⟨o, es, n, hidT_get q (scriptH_dict ha q d), d, r⟩
  have inB : K.In (hidT s.heap (scriptH K a vs ns)) := fun b o q => hidT_get (hk b o q) (scriptH_other fun c => by
    rw [c.1, c.2] at q
    cases q)
  have md : Mod K mg (hidT s.heap (scriptH K a vs ns)) := {
    kin := inB
    glob := down hmain
    blt := ⟨mb, down hbi, hboot⟩
    nolimit := by
      obtain ⟨mc, n1, n2⟩ := hlim
      exact ⟨mc, down n1, n2⟩ }
  have ok : HOk P w (scriptH K a vs ns) s.heap := fun b u q => by
    obtain ⟨rfl, _, rfl⟩ := scriptH_some q
    exact ⟨ha, by rw [List.length_map]; exact size63, vs, _, rv, ha⟩
  have e0 : Env0 P w K mg (hidT s.heap (scriptH K a vs ns)) callerA [] s (scriptH K a vs ns) := {
    frames := rfl
    mod := md
    bs := fun b o q => of_hidT q
    bsz := Nat.le_of_eq (hidT_size _ _)
    funs := trivial
    frf := fun b hb => nomatch hb
    hok := ok
    bare := .of_eq hgens }
  have sq : SqL K (scriptH K a vs ns) a (ns.map V.int) := by
    cases e : K.lookup a with
    | some o =>
      have q := hk a o e
      rw [ha] at q
      cases q
      exact .inr ⟨_, vs.toArray, _, e, rfl, rfl, rfl, by rw [List.size_toArray, hi.length]; exact size63, by simpa using rv⟩
    | none => exact .inl (.inr ⟨scriptO vs, if_pos ⟨rfl, e⟩⟩)
  obtain ⟨fd, ps, G, hb⟩ := F _ inB (down hmain)
  have hsp : spLaw K [.ref a] (scriptH K a vs ns) (fun v _ => v = .bl true) (fun _ _ _ => False) := ⟨a, ns, rfl, sq, hl, fun _ => rfl⟩
  have bt := hb s [.ref a] hk (by rw [List.append_nil]; exact G.len _ _ _ _ hsp)
  rw [List.append_nil] at bt
  refine codeAny_mono (G.run callerA hr rfl [] s _ e0 _ [.ref a] [.ref a] bt (.cons rfl .nil) _ _ hsp) ?_
  rintro (er | (_ | _ | _ | u)) s' z
  · exact z.elim
  · exact z.elim
  · exact z.elim
  · exact z.elim
  · obtain ⟨v, H', os, bare, un, ok', r', q⟩ := z
    cases (show v = .bl true from q)
    cases (show u = Value.bool true from r')
    refine ⟨rfl, OldK.of_keep fun b o q => ?_, os, bare⟩
    cases e : scriptH K a vs ns b with
    | none => exact un.keep b o q e (fun z => nomatch z) (fun z => nomatch z)
    | some u =>
      obtain ⟨rfl, _, rfl⟩ := scriptH_some e
      obtain ⟨now, _⟩ := ok' b _ (un.frzs b _ _ e)
      rw [ha] at q
      cases q
      exact now
end
/-- the law's end -/
theorem walk_law {l : PySem.W.OpenLaw} {k : Nat} {q : Program} {loose : List Str} {XP : (Str → Option Value) → Heap → Prop} {YP : World → Heap → Prop} {d : DefRec} {K : Params → PySem.W.Frag}
    (hn : l.most = some 63) (hdf : d.params.defaults = []) (hr : Room k callerA) (hY : ∀ (w : World) (h : Heap), YP w h → (K w.params).In h)
    (F : ∀ (w : World) (mg : Str → Option Value) (h : Heap), (K w.params).In h → h.Ns mainGlobals mg → ∀ base : Heap, (K w.params).In base → base.Ns mainGlobals mg → Cl CX0 l.prog w (K w.params) mg base k d.name (spLaw (K w.params))) :
    PySem.W.WalkO q loose XP YP l.row.toRowW d [] (fun f vs => PySem.call f vs) := by
  refine Att.attach_call hn hdf fun w s0 s1 mg mb fa o pm cd doc a vs ns G Y ho hd hcd hm hobj hi hl hg => ?_
  refine script_run (hY w _ Y) G.T.g G.T.b G.T.builtins G.T.nolimit hg hobj hi hl hr fun base b1 b2 => ?_
  obtain ⟨f, fd, ps, FG, mf, _, hb⟩ := (F w mg _ (hY w _ Y) G.T.g base b1 b2).ex
  rw [hm] at mf
  cases mf
  exact ⟨fd, ps, FG, hb⟩
end Lw

namespace Lw
open PySem PySem.Spec PyProof.Rows L2

/-! ### heaps: all but the forbidden addresses stay, and tuples stay -/
abbrev Ban := Addr → Prop
structure Sx (N : Ban) (H H' : Hp) : Prop where
  st : ∀ b u, ¬ N b → H b = some u → H' b = some u
  tp : ∀ b xs, H b = some (.tup xs) → H' b = some (.tup xs)
theorem Sx.refl (N : Ban) (H : Hp) : Sx N H H := ⟨fun _ _ _ q => q, fun _ _ q => q⟩
theorem Sx.trans {N : Ban} {H H1 H2 : Hp} (a : Sx N H H1) (b : Sx N H1 H2) : Sx N H H2 := ⟨fun c u n q => b.st c u n (a.st c u n q), fun c xs q => b.tp c xs (a.tp c xs q)⟩
theorem Sx.of {N : Ban} {H H1 : Hp} (a : Same H H1) : Sx N H H1 := ⟨fun c u _ q => a c u q, fun c xs q => a c _ q⟩
theorem same_new {H : Hp} {p : Addr} (h : H p = none) (o : HO) : Same H (upd H p o) := fun b u q => by rw [upd_ne (ne_of_none q h)]; exact q
theorem Sx.new {N : Ban} {p : Addr} {H : Hp} {o : HO} (h : H p = none) : Sx N H (upd H p o) := .of (same_new h o)
theorem Sx.free {N : Ban} {H H1 : Hp} (a : Sx N H H1) {l : Addr} (hn : ¬ N l) (h : H1 l = none) : H l = none := by
  cases q : H l with
  | none => rfl
  | some o =>
    rw [a.st l o hn q] at h
    cases h

/-! ### data on the heap -/
mutual
inductive Dv (N : Ban) (H : Hp) : V → PyData → Prop
  | non : Dv N H .non .none
  | bl (b : Bool) : Dv N H (.bl b) (.bool b)
  | int (i : Int) : Dv N H (.int i) (.int i)
  | str (x : Str) : Dv N H (.str x) (.str x)
  | lst {a : Addr} {xs : List V} {ds : List PyData} : ¬ N a → H a = some (.lst xs) → DvAll N H xs ds → Dv N H (.ref a) (.list ds)
  | tup {a : Addr} {xs : List V} {ds : List PyData} : H a = some (.tup xs) → DvAll N H xs ds → Dv N H (.ref a) (.tuple ds)
  | dct {a : Addr} : ¬ N a → H a = some (.dK []) → Dv N H (.ref a) (.dict [])
inductive DvAll (N : Ban) (H : Hp) : List V → List PyData → Prop
  | nil : DvAll N H [] []
  | cons {v : V} {vs : List V} {d : PyData} {ds : List PyData} : Dv N H v d → DvAll N H vs ds → DvAll N H (v :: vs) (d :: ds)
end
mutual
theorem Dv.map {N N' : Ban} {H H' : Hp} (k : ∀ b u, ¬ N b → H b = some u → H' b = some u ∧ ¬ N' b) (kt : ∀ b xs, H b = some (.tup xs) → H' b = some (.tup xs)) : ∀ (d : PyData) (v : V), Dv N H v d → Dv N' H' v d
  | .none, _, h => by cases h; exact .non
  | .bool _, _, h => by cases h; exact .bl _
  | .int _, _, h => by cases h; exact .int _
  | .str _, _, h => by cases h; exact .str _
  | .list ds, _, h => by
    cases h with
    | lst n e a => exact .lst (k _ _ n e).2 (k _ _ n e).1 (DvAll.map k kt ds _ a)
  | .tuple ds, _, h => by
    cases h with
    | tup e a => exact .tup (kt _ _ e) (DvAll.map k kt ds _ a)
  | .dict _, _, h => by
    cases h with
    | dct n e => exact .dct (k _ _ n e).2 (k _ _ n e).1
theorem DvAll.map {N N' : Ban} {H H' : Hp} (k : ∀ b u, ¬ N b → H b = some u → H' b = some u ∧ ¬ N' b) (kt : ∀ b xs, H b = some (.tup xs) → H' b = some (.tup xs)) : ∀ (ds : List PyData) (vs : List V), DvAll N H vs ds → DvAll N' H' vs ds
  | [], _, h => by cases h; exact .nil
  | d :: ds, _, h => by
    cases h with
    | cons a b => exact .cons (Dv.map k kt d _ a) (DvAll.map k kt ds _ b)
end
theorem Dv.up {N : Ban} {H H' : Hp} {d : PyData} {v : V} (h : Dv N H v d) (k : Sx N H H') : Dv N H' v d := h.map (fun b u n q => ⟨k.st b u n q, n⟩) k.tp _ _
theorem DvAll.up {N : Ban} {H H' : Hp} {ds : List PyData} {vs : List V} (h : DvAll N H vs ds) (k : Sx N H H') : DvAll N H' vs ds := h.map (fun b u n q => ⟨k.st b u n q, n⟩) k.tp _ _
theorem Dv.less {N N' : Ban} {H : Hp} {d : PyData} {v : V} (h : Dv N H v d) (k : ∀ b, N' b → N b) : Dv N' H v d := h.map (fun b u n q => ⟨q, fun z => n (k b z)⟩) (fun _ _ q => q) _ _
theorem Dv.same {N : Ban} {H H' : Hp} {d : PyData} {v : V} (h : Dv N H v d) (k : Same H H') : Dv N H' v d := h.up (.of k)
theorem DvAll.same {N : Ban} {H H' : Hp} {ds : List PyData} {vs : List V} (h : DvAll N H vs ds) (k : Same H H') : DvAll N H' vs ds := h.up (.of k)
theorem DvAll.length {N : Ban} {H : Hp} : ∀ {ds : List PyData} {vs : List V}, DvAll N H vs ds → vs.length = ds.length
  | _, _, .nil => rfl
  | _, _, .cons _ b => by simp [DvAll.length b]
theorem DvAll.get {N : Ban} {H : Hp} : ∀ {ds : List PyData} {vs : List V} {i : Nat} {d : PyData}, DvAll N H vs ds → ds[i]? = some d → ∃ v, vs[i]? = some v ∧ Dv N H v d
  | _, _, _, _, .nil, e => by simp at e
  | _, _, 0, _, .cons a _, e => by
    simp at e
    subst e
    exact ⟨_, rfl, a⟩
  | _, _, i + 1, _, .cons _ b, e => by
    obtain ⟨v, h1, h2⟩ := DvAll.get (i := i) b (by simpa using e)
    exact ⟨v, by simpa using h1, h2⟩
theorem DvAll.app {N : Ban} {H : Hp} : ∀ {ds es : List PyData} {vs us : List V}, DvAll N H vs ds → DvAll N H us es → DvAll N H (vs ++ us) (ds ++ es)
  | _, _, _, _, .nil, h => h
  | _, _, _, _, .cons a b, h => .cons a (DvAll.app b h)
theorem DvAll.take {N : Ban} {H : Hp} : ∀ {ds : List PyData} {vs : List V} (n : Nat), DvAll N H vs ds → DvAll N H (vs.take n) (ds.take n)
  | _, _, 0, _ => by simpa using .nil
  | _, _, _ + 1, .nil => .nil
  | _, _, n + 1, .cons a b => .cons a (DvAll.take n b)
theorem DvAll.drop {N : Ban} {H : Hp} : ∀ {ds : List PyData} {vs : List V} (n : Nat), DvAll N H vs ds → DvAll N H (vs.drop n) (ds.drop n)
  | _, _, 0, h => h
  | _, _, _ + 1, .nil => .nil
  | _, _, n + 1, .cons _ b => DvAll.drop n b
theorem DvAll.rev {N : Ban} {H : Hp} : ∀ {ds : List PyData} {vs : List V}, DvAll N H vs ds → DvAll N H vs.reverse ds.reverse
  | _, _, .nil => .nil
  | _, _, .cons a b => by
    rw [List.reverse_cons, List.reverse_cons]
    exact (DvAll.rev b).app (.cons a .nil)
theorem DvAll.nil_iff {N : Ban} {H : Hp} {ds : List PyData} {vs : List V} (h : DvAll N H vs ds) : vs = [] ↔ ds = [] := by
  cases h <;> simp
/-- ints -/
theorem DvAll.ints {N : Ban} {H : Hp} : ∀ ns : List Int, DvAll N H (ns.map V.int) (ns.map PyData.int)
  | [] => .nil
  | n :: r => .cons (.int n) (DvAll.ints r)

/-! ### types of data, for isinstance -/
def tyName : PyData → String
  | .none => "NoneType"
  | .bool _ => "bool"
  | .int _ => "int"
  | .str _ => "str"
  | .list _ => "list"
  | .tuple _ => "tuple"
  | .dict _ => "dict"
theorem Dv.ty {N : Ban} {K : PySem.W.Frag} {H : Hp} {v : V} {d : PyData} (h : Dv N H v d) : TyX K H v (.type (tyName d)) := by
  cases h with
  | non => exact .base .non
  | bl b => exact .base (.bl b)
  | int i => exact .base (.int i)
  | str x => exact .base (.str x)
  | lst n e a => exact .base (.lst e)
  | tup e a => exact .base (.tup e)
  | dct n e => exact .base (.dK e)
def isTup : PyData → Bool
  | .tuple _ => true
  | _ => false
def isInt : PyData → Bool
  | .int _ => true
  | .bool _ => true
  | _ => false
def isBool : PyData → Bool
  | .bool _ => true
  | _ => false
def isStr : PyData → Bool
  | .str _ => true
  | _ => false
def isWhole : PyData → Bool
  | .int _ => true
  | _ => false
theorem kit_tup (d : PyData) : kitB (tyName d) "tuple" = some (isTup d) := by cases d <;> simp only [tyName, isTup] <;> decide +kernel
theorem kit_int (d : PyData) : kitB (tyName d) "int" = some (isInt d) := by cases d <;> simp only [tyName, isInt] <;> decide +kernel
theorem kit_bool (d : PyData) : kitB (tyName d) "bool" = some (isBool d) := by cases d <;> simp only [tyName, isBool] <;> decide +kernel
theorem kit_str (d : PyData) : kitB (tyName d) "str" = some (isStr d) := by cases d <;> simp only [tyName, isStr] <;> decide +kernel
/-- isinstance(data, a built-in class) -/
def rIsD (T : String) (f : PyData → Bool) : List V → Hp → VK → Prop := fun xs H Q => ∃ (N : Ban) (v : V) (d : PyData), xs = [v, .ty T] ∧ Dv N H v d ∧ Q (.bl (f d)) H
theorem call_isD {X : Cx} {T : String} {f : PyData → Bool} (k : ∀ d, kitB (tyName d) T = some (f d)) : CallR X (.builtin "isinstance") (rIsD T f) := by
  intro pins s σ H xs us Q I r h
  obtain ⟨N, v, d, rfl, hd, q⟩ := h
  exact call_isi pins s σ H _ us Q I r ⟨v, .ty T, .type (tyName d), .type T, f d, rfl, .ty T, hd.ty, kit_ty (k d), q⟩

/-! ### a text of data -/
abbrev sysB : Ban := fun a => a = sysModules
section
variable {X : Cx} {pins : List (Addr × Obj)} {σ : L2.St} {H : Hp} {s : Shared}
mutual
theorem Dv.reads (I : Inv X pins σ H s) {N : Ban} : ∀ (d : PyData) (v : V) (u : Value), Dv N H v d → RelV v u → ∃ as, Reads s.heap u d as ∧ ∀ a ∈ as, ¬ N a
  | .none, _, _, h, r => by
    cases h
    cases r
    exact ⟨_, Reads.none, fun _ z => nomatch z⟩
  | .bool b, _, _, h, r => by
    cases h
    cases r
    exact ⟨_, Reads.bool b, fun _ z => nomatch z⟩
  | .int i, _, _, h, r => by
    cases h
    obtain ⟨t, rfl⟩ := r
    exact ⟨_, Reads.int i t, fun _ z => nomatch z⟩
  | .str x, _, _, h, r => by
    cases h
    obtain ⟨t, rfl⟩ := r
    exact ⟨_, Reads.str x t, fun _ z => nomatch z⟩
  | .list ds, _, _, h, r => by
    cases h with
    | lst n e ha =>
      cases r
      obtain ⟨z, its, k, rv, ho⟩ := (show ObjOk X.prog X.w H s.heap _ (.lst _) from I.hok _ _ e)
      obtain ⟨as, hr, na⟩ := DvAll.reads I ds _ its ha rv
      refine ⟨_, Reads.list ho rfl rfl hr, fun b hb => ?_⟩
      rcases List.mem_cons.mp hb with rfl | hb
      · exact n
      · exact na b hb
  | .tuple ds, _, _, h, r => by
    cases h with
    | tup e ha =>
      cases r
      obtain ⟨z, its, rv, o, ho, hc, k, hd⟩ := (show ObjOk X.prog X.w H s.heap _ (.tup _) from I.hok _ _ e)
      obtain ⟨as, hr, na⟩ := DvAll.reads I ds _ its ha rv
      exact ⟨_, Reads.tuple ho hc hd hr, na⟩
  | .dict _, _, _, h, r => by
    cases h with
    | dct n e =>
      cases r
      obtain ⟨z, _, vs, rv, o, es, ep, ho, hex, hdat, hkey, hes, _⟩ := (show ObjOk X.prog X.w H s.heap _ (.dK []) from I.hok _ _ e)
      cases rv
      have he : es.toList = [] := by
        revert hes
        generalize es.toList = l
        intro hes
        cases hes
        rfl
      refine ⟨_, Reads.dict ho hex.1 hdat (as := []) (bs := []) ?_ ?_, fun b hb => ?_⟩
      · rw [he]
        exact .nil
      · rw [he]
        exact .nil
      · simp at hb
        subst hb
        exact n
theorem DvAll.reads (I : Inv X pins σ H s) {N : Ban} : ∀ (ds : List PyData) (vs : List V) (us : List Value), DvAll N H vs ds → Vals vs us → ∃ as, ReadsAll s.heap us ds as ∧ ∀ a ∈ as, ¬ N a
  | [], _, _, h, r => by
    cases h
    cases r
    exact ⟨_, .nil, fun _ z => nomatch z⟩
  | d :: ds, _, _, h, r => by
    cases h with
    | cons h1 h2 =>
      cases r with
      | cons r1 r2 =>
        obtain ⟨as, q1, n1⟩ := Dv.reads I d _ _ h1 r1
        obtain ⟨bs, q2, n2⟩ := DvAll.reads I ds _ _ h2 r2
        refine ⟨_, .cons q1 q2, fun b hb => ?_⟩
        rcases List.mem_append.mp hb with hb | hb
        · exact n1 b hb
        · exact n2 b hb
end
end
/-- a text that may be told: all ints are not too great, it is not too deep, the text not too long; where there is a dict, no list or dict is the modules' own -/
def Tells (N : Ban) (d : PyData) : Prop := d.showable = true ∧ d.depth ≤ 100 ∧ d.shown.length ≤ sizeLine ∧ (d.hasDict = true → N sysModules)
def rRepr : List V → Hp → VK → Prop := fun xs H Q => ∃ (N : Ban) (v : V) (d : PyData), xs = [v] ∧ Dv N H v d ∧ Tells N d ∧ Q (.str d.shown) H
theorem call_repr {X : Cx} {k : Nat} (hr : Room k X.A) (hG : X.A.guards = some []) : CallR X (.builtin "repr") rRepr := by
  intro pins s σ H xs us Q I r h
  obtain ⟨N, v, d, rfl, hd, ⟨h1, h2, h3, h4⟩, q⟩ := h
  obtain ⟨u, rfl, rx⟩ := vals1 r
  have units := hr.un
  obtain ⟨as, rd, na⟩ := Dv.reads I d v u hd rx
  have ref : ∀ a, u = .ref a → wpAny (model X.prog X.w) X.A (call (.builtin "repr") [u]) (EP X pins σ Q) X.xe s := fun a e => by
    subst e
    refine repr_of_reads' rd h1 (fun z m => na _ m (h4 z)) hG (by omega) (fun _ _ q => q) (fun h' u' tk k => ?_) h3
    exact ⟨.str d.shown, H, I.kept k, ⟨_, rfl⟩, q⟩
  cases hd with
  | non =>
    cases rx
    exact PySem.P.repr_of_none ⟨.str _, H, I.tok _, ⟨_, rfl⟩, q⟩
  | bl b =>
    cases rx
    refine PySem.P.repr_of_bool ⟨.str _, H, I.tok _, ⟨s.toks, ?_⟩, q⟩
    cases b <;> rfl
  | int i =>
    obtain ⟨t, rfl⟩ := rx
    exact PySem.P.repr_of_int (by simpa [PyData.showable] using h1) ⟨.str _, H, I.tok _, ⟨_, rfl⟩, q⟩
  | str x =>
    obtain ⟨t, rfl⟩ := rx
    exact PySem.P.repr_of_str ⟨.str _, H, I.tok _, ⟨_, rfl⟩, q⟩ (by simpa [PyData.shown] using h3)
  | lst n e a => exact ref _ rx
  | tup e a => exact ref _ rx
  | dct n e => exact ref _ rx
end Lw

namespace Lw
open PySem PySem.Spec PyProof.Rows L2

/-! ### how long the text of data is -/
mutual
/-- leaves: ints below 2 ^ B in size, texts of short texts, no dict but the empty one -/
def fine (B : Nat) : PyData → Prop
  | .none => True
  | .bool _ => True
  | .int i => i.natAbs < 2 ^ B
  | .str x => (reprText x).length ≤ 100
  | .list xs => fineAll B xs
  | .tuple xs => fineAll B xs
  | .dict kvs => kvs = []
def fineAll (B : Nat) : List PyData → Prop
  | [] => True
  | x :: xs => fine B x ∧ fineAll B xs
end
mutual
def wt : PyData → Nat
  | .none => 2000
  | .bool _ => 2000
  | .int _ => 2000
  | .str _ => 2000
  | .list xs => wtAll xs + 2000
  | .tuple xs => wtAll xs + 2000
  | .dict _ => 2000
def wtAll : List PyData → Nat
  | [] => 0
  | x :: xs => wt x + 2 + wtAll xs
end
mutual
theorem fine_mono {B C : Nat} (h : B ≤ C) : ∀ d : PyData, fine B d → fine C d
  | .none, _ => trivial
  | .bool _, _ => trivial
  | .int i, f => Nat.lt_of_lt_of_le (show i.natAbs < 2 ^ B from f) (Nat.pow_le_pow_right (by decide) h)
  | .str _, f => f
  | .list xs, f => fineAll_mono h xs f
  | .tuple xs, f => fineAll_mono h xs f
  | .dict _, f => f
theorem fineAll_mono {B C : Nat} (h : B ≤ C) : ∀ ds : List PyData, fineAll B ds → fineAll C ds
  | [], _ => trivial
  | x :: xs, f => ⟨fine_mono h x f.1, fineAll_mono h xs f.2⟩
end
theorem log2_lt {n k : Nat} (hk : 0 < k) (h : n < 2 ^ k) : n.log2 < k := by
  by_cases z : n = 0
  · subst z
    rw [Nat.log2_zero]
    exact hk
  · exact (Nat.log2_lt z).mpr h
mutual
theorem fine_showable {B : Nat} (hB : B ≤ 1900) : ∀ d : PyData, fine B d → d.showable = true
  | .none, _ => rfl
  | .bool _, _ => rfl
  | .int i, f => by
    have h : i.natAbs < 2 ^ 1900 := Nat.lt_of_lt_of_le (show i.natAbs < 2 ^ B from f) (Nat.pow_le_pow_right (by decide) hB)
    have q := log2_lt (by decide) h
    show decide (i.natAbs.log2 < 1920) = true
    exact decide_eq_true (by omega)
  | .str _, _ => rfl
  | .list xs, f => fineAll_showable hB xs f
  | .tuple xs, f => fineAll_showable hB xs f
  | .dict kvs, f => by
    cases (show kvs = [] from f)
    rfl
theorem fineAll_showable {B : Nat} (hB : B ≤ 1900) : ∀ ds : List PyData, fineAll B ds → PyData.showableAll ds = true
  | [], _ => rfl
  | x :: xs, f => by
    show (x.showable && PyData.showableAll xs) = true
    rw [fine_showable hB x f.1, fineAll_showable hB xs f.2] <;> rfl
end
theorem shownAll_length : ∀ ds : List PyData, (PyData.shownAll ds).length = ds.length
  | [] => rfl
  | x :: xs => by
    show (PyData.shownAll xs).length + 1 = xs.length + 1
    rw [shownAll_length xs]
mutual
theorem shown_le {B : Nat} (hB : B ≤ 1900) : ∀ d : PyData, fine B d → d.shown.length ≤ wt d
  | .none, _ => by
    show (("None" : String) : Str).length ≤ 2000
    decide +kernel
  | .bool b, _ => by
    cases b
    · show (("False" : String) : Str).length ≤ 2000
      decide +kernel
    · show (("True" : String) : Str).length ≤ 2000
      decide +kernel
  | .int i, f => by
    have h : i.natAbs < 2 ^ 1900 := Nat.lt_of_lt_of_le (show i.natAbs < 2 ^ B from f) (Nat.pow_le_pow_right (by decide) hB)
    have q := int_text_length_le (a := i) (k := 1900) (by decide) (log2_lt (by decide) h)
    show (Str.ofString (toString i)).length ≤ 2000
    rw [PySem.ofString_length]
    omega
  | .str x, f => by
    have h : (reprText x).length ≤ 100 := f
    show (reprText x).length ≤ 2000
    omega
  | .list xs, f => by
    have h := shownAll_le hB xs f
    have q := listText_len_le (PyData.shownAll xs)
    rw [shownAll_length] at q
    show (listText (PyData.shownAll xs)).length ≤ wtAll xs + 2000
    omega
  | .tuple xs, f => by
    have h := shownAll_le hB xs f
    have q := tupleText_len_le (PyData.shownAll xs)
    rw [shownAll_length] at q
    show (tupleText (PyData.shownAll xs)).length ≤ wtAll xs + 2000
    omega
  | .dict kvs, f => by
    cases (show kvs = [] from f)
    show (dictText []).length ≤ 2000
    decide +kernel
theorem shownAll_le {B : Nat} (hB : B ≤ 1900) : ∀ ds : List PyData, fineAll B ds → ((PyData.shownAll ds).map (·.length)).sum + 2 * ds.length ≤ wtAll ds
  | [], _ => Nat.le_refl 0
  | x :: xs, f => by
    have h1 := shown_le hB x f.1
    have h2 := shownAll_le hB xs f.2
    show (x.shown.length :: (PyData.shownAll xs).map (·.length)).sum + 2 * (xs.length + 1) ≤ wt x + 2 + wtAll xs
    rw [List.sum_cons]
    omega
end
/-- data that may be told as a text: ints below 2 ^ B, weight n, depth m -/
structure Fit (B n m : Nat) (d : PyData) : Prop where
  f : fine B d
  w : wt d ≤ n
  d : d.depth ≤ m
theorem Fit.mono {B n m B' n' m' : Nat} {d : PyData} (h : Fit B n m d) (a : B ≤ B') (b : n ≤ n') (c : m ≤ m') : Fit B' n' m' d := ⟨fine_mono a d h.f, Nat.le_trans h.w b, Nat.le_trans h.d c⟩
theorem Fit.tells {B n m : Nat} {d : PyData} {N : Ban} (h : Fit B n m d) (hB : B ≤ 1900) (hn : n ≤ 16000000) (hm : m ≤ 100) (hN : N sysModules) : Tells N d :=
  ⟨fine_showable hB d h.f, Nat.le_trans h.d hm, by
    have q := shown_le hB d h.f
    have z := h.w
    rw [sizeLine_eq]
    omega, fun _ => hN⟩
/-! ### lists and dicts that are not the modules' own -/
section
variable {X : Cx} {e : Expr} {es : List Expr} {t : TA} {pos : Pos}
theorem pe_list (h : PA X es t) : PE X (.List es pos) (fun σ H Q => t σ H fun xs H1 => xs.length ≤ sizeLine ∧ ∀ p, H1 p = none → p ≠ sysModules → Q (.ref p) (upd H1 p (.lst xs))) := by
  constructor
  intro pins s σ H Q I hq
  apply wpAny_List_spliced
  apply thn (h.run pos pins s σ H _ I hq)
  rintro us s1 ⟨xs, H1, I1, r, z, q⟩
  refine ⟨r.length ▸ z, ?_⟩
  have fresh : H1 s1.heap.objs.size = none := I1.hok.fresh (Nat.le_refl _)
  have J := I1.laid (t' := s1.toks) (a := s1.heap.objs.size) (o := .lst xs) (h' := s1.heap.push { cls := .type "list", data := .seq us.toArray })
    (fun b u k => Heap.get?_push_of_some _ k) (Nat.le_refl _) ⟨z, us, 0, r, Heap.get?_push_size _ rfl⟩
  exact ⟨V.ref _, _, J, rfl, q _ fresh fun k => absurd I1.big (by rw [k]; exact Nat.lt_irrefl _)⟩
theorem pe_dict0 : PE X (.Dict [] [] pos) (fun _ H Q => ∀ p, H p = none → p ≠ sysModules → Q (.ref p) (upd H p (.dK []))) := by
  constructor
  intro pins s σ H Q I q
  have J := I.laid (a := s.heap.objs.size) (o := .dK []) (t' := s.toks) (fun _ _ k => Heap.get?_push_of_some _ k) (Nat.le_refl _) (dk_empty s.heap I.big)
  exact wpAny_Dict_empty ⟨V.ref _, _, J, rfl, q _ (I.hok.fresh (Nat.le_refl _)) fun k => absurd I.big (by rw [k]; exact Nat.lt_irrefl _)⟩
/-- list(t), t a tuple -/
theorem call_listT : CallR X (.type "list") (fun xs H Q => ∃ p ys, xs = [.ref p] ∧ SqT X.K H p ys ∧ ∀ l, H l = none → l ≠ sysModules → Q (.ref l) (upd H l (.lst ys))) := by
  intro pins s σ H xs us Q I r h
  obtain ⟨p, ys, rfl, ht, q⟩ := h
  obtain ⟨u, rfl, rx⟩ := vals1 r
  cases rx
  obtain ⟨its, rv, ⟨o, ho, hc, n, hd⟩, hz⟩ := I.tuple ht
  refine call_list_seq p (.inr rfl) ho hc hd (fun h' c' kp now => ?_) (by have := rv.length; simp only [List.size_toArray]; omega)
  have J := I.laid (t' := s.toks) (a := s.heap.objs.size) (o := .lst ys) kp (Nat.le_refl _) ⟨hz, its, c', rv, now⟩
  exact ⟨V.ref _, _, J, rfl, q _ (I.hok.fresh (Nat.le_refl _)) fun k => absurd I.big (by rw [k]; exact Nat.lt_irrefl _)⟩
end
/-! ### ints and bools as numbers -/
def bz (b : Bool) : Int := if b = true then 1 else 0
section
variable {X : Cx}
theorem op_addBI : OpR X (binaryOp .Add) (fun x y H Q => ∃ b j, x = .bl b ∧ y = .int j ∧ Q (.int (bz b + j)) H) := by
  intro pins s σ H x y v u Q I rx ry h
  obtain ⟨b, j, rfl, rfl, q⟩ := h
  cases rx
  obtain ⟨t, rfl⟩ := ry
  exact PySem.IntBool.add_bool_int ⟨.int (bz b + j), H, I.tok _, ⟨_, rfl⟩, q⟩
theorem op_subBI : OpR X (binaryOp .Sub) (fun x y H Q => ∃ b j, x = .bl b ∧ y = .int j ∧ Q (.int (bz b - j)) H) := by
  intro pins s σ H x y v u Q I rx ry h
  obtain ⟨b, j, rfl, rfl, q⟩ := h
  cases rx
  obtain ⟨t, rfl⟩ := ry
  exact PySem.IntBool.sub_bool_int ⟨.int (bz b - j), H, I.tok _, ⟨_, rfl⟩, q⟩
theorem op_subIB : OpR X (binaryOp .Sub) (fun x y H Q => ∃ i b, x = .int i ∧ y = .bl b ∧ Q (.int (i - bz b)) H) := by
  intro pins s σ H x y v u Q I rx ry h
  obtain ⟨i, b, rfl, rfl, q⟩ := h
  obtain ⟨t, rfl⟩ := rx
  cases ry
  exact PySem.IntBool.sub_int_bool ⟨.int (i - bz b), H, I.tok _, ⟨_, rfl⟩, q⟩
theorem op_mulIB : OpR X (binaryOp .Mult) (fun x y H Q => ∃ i b, x = .int i ∧ y = .bl b ∧ Q (.int (i * bz b)) H) := by
  intro pins s σ H x y v u Q I rx ry h
  obtain ⟨i, b, rfl, rfl, q⟩ := h
  obtain ⟨t, rfl⟩ := rx
  cases ry
  exact PySem.IntBool.mul_int_bool ⟨.int (i * bz b), H, I.tok _, ⟨_, rfl⟩, q⟩
theorem op_eqBI : OpR X (compareOp .Eq) (fun x y H Q => ∃ b j, x = .bl b ∧ y = .int j ∧ Q (.bl (bz b == j)) H) := by
  intro pins s σ H x y v u Q I rx ry h
  obtain ⟨b, j, rfl, rfl, q⟩ := h
  cases rx
  obtain ⟨t, rfl⟩ := ry
  exact PySem.EqBoolInt.eq_bool_int ⟨.bl (bz b == j), H, I, rfl, q⟩
/-- t != (), t a tuple -/
theorem op_neT0 {k : Nat} (hr : Room k X.A) : OpR X (compareOp .NotEq) (fun x y H Q => ∃ a b xs, x = .ref a ∧ y = .ref b ∧ H a = some (.tup xs) ∧ H b = some (.tup []) ∧ Q (.bl (!xs.isEmpty)) H) := by
  intro pins s σ H x y v u Q I rx ry h
  obtain ⟨a, b, xs, rfl, rfl, ha, hb, q⟩ := h
  cases rx
  cases ry
  obtain ⟨_, its, rv, p⟩ := (show ObjOk X.prog X.w H s.heap a (.tup xs) from I.hok a _ ha)
  obtain ⟨_, its2, rv2, p2⟩ := (show ObjOk X.prog X.w H s.heap b (.tup []) from I.hok b _ hb)
  cases rv2
  have big := hr.un
  refine SeqAt.RcNeAt.tuples p p2 (by omega) (e := fun _ => true) (fun j _ h2 => ?_) X.prog X.w X.xe (EP X pins σ Q) ?_
  · simp at h2
  · refine ⟨.bl (!xs.isEmpty), H, I, ?_, q⟩
    have hl := rv.length
    show Value.bool _ = Value.bool _
    cases xs with
    | nil =>
      have e : its = [] := by simpa using hl.symm
      subst e
      rfl
    | cons x r =>
      cases its with
      | nil => simp at hl
      | cons y r2 => simp
/-- math.isqrt of what is below 2 ^ 13000 -/
theorem cr_isqrt : CallR X (.builtin "math.isqrt") (fun vs H Q => ∃ a : Int, vs = [.int a] ∧ 0 ≤ a ∧ a.natAbs < 2 ^ 13000 ∧ Q (.int ((Float64.isqrt a.toNat : Nat) : Int)) H) := by
  intro pins s σ H vs us Q I r h
  obtain ⟨a, rfl, h0, h1, q⟩ := h
  obtain ⟨u, rfl, t, rfl⟩ := vals1 r
  have e : a.toNat = a.natAbs := by omega
  have l : a.toNat.log2 < 13000 := by
    rw [e]
    exact log2_lt (by decide) h1
  exact call_function_meets PySem.W.MGF.kind_isqrt PySem.W.MGF.plain_isqrt PySem.W.MGF.entry_isqrt (PySem.W.MGF.args_isqrt _) (PySem.W.mg_run_isqrt a t (by omega) (by omega) (by omega)).meets ⟨.int _, H, I.tok _, ⟨_, rfl⟩, q⟩
/-- // by any number other than 0 below 2 ^ 9000 in size -/
theorem op_fdivZ : OpR X (binaryOp .FloorDiv) (rI (fun _ j => j ≠ 0 ∧ j.natAbs < 2 ^ 9000) fun i j => .int (i.fdiv j)) :=
  opI fun i j _ _ _ _ _ hc q => floordiv_int hc.1 q (.inl (PyProof.noPylong_of_log2 (log2_lt (by decide) hc.2)))
end
end Lw

namespace Lw
open PySem PySem.Spec PyProof.Rows L2

/-! ### written data -/
def FreshB (N : Ban) (H : Hp) : Prop := ∀ p, H p = none → p ≠ sysModules → ¬ N p
theorem same_none {H H' : Hp} (k : Same H H') {p : Addr} (h : H' p = none) : H p = none := k.free h
theorem FreshB.same {N : Ban} {H H' : Hp} (f : FreshB N H) (k : Same H H') : FreshB N H' := fun p h n => f p (same_none k h) n
def tData (d : PyData) : TE := fun _ H Q => ∃ N : Ban, FreshB N H ∧ ∀ v H', Same H H' → Dv N H' v d → Q v H'
def tDatas (ds : List PyData) : TA := fun _ H Q => ∃ N : Ban, FreshB N H ∧ ∀ vs H', Same H H' → DvAll N H' vs ds → Q vs H'
section
variable {X : Cx} {e : Expr} {es : List Expr} {d : PyData} {ds : List PyData} {pos : Pos}
theorem pd_int {i : Int} {j : Nat} : PE X (.Constant (.int i) j pos) (tData (.int i)) := pe_int.weak fun _ H Q ⟨_, _, q⟩ => q _ H (Same.refl H) (.int i)
theorem pd_bl {b : Bool} {j : Nat} : PE X (.Constant (.bool b) j pos) (tData (.bool b)) := pe_bl.weak fun _ H Q ⟨_, _, q⟩ => q _ H (Same.refl H) (.bl b)
theorem pd_non {j : Nat} : PE X (.Constant .none j pos) (tData .none) := pe_non.weak fun _ H Q ⟨_, _, q⟩ => q _ H (Same.refl H) .non
theorem pd_str {x : Str} {j : Nat} : PE X (.Constant (.str x) j pos) (tData (.str x)) := pe_str.weak fun _ H Q ⟨_, _, q⟩ => q _ H (Same.refl H) (.str x)
theorem pd_neg {i : Int} (h : PE X e (tData (.int i))) : PE X (.UnaryOp .USub e pos) (tData (.int (-i))) :=
  (pe_un un_neg h).weak fun σ H Q ⟨N, f, q⟩ => ⟨N, f, fun v H' k dv => by
    cases dv
    exact ⟨i, rfl, q _ H' k (.int (-i))⟩⟩
theorem pd_pow {i : Int} {n : Nat} {e1 e2 : Expr} (h1 : PE X e1 (tData (.int i))) (h2 : PE X e2 (tData (.int (n : Int)))) (hn : n ≤ 1000000) (hi : i.natAbs < 2 ^ 64) : PE X (.BinOp e1 .Pow e2 pos) (tData (.int (i ^ n))) :=
  (pe_op op_pow h1 h2).weak fun σ H Q ⟨N, f, q⟩ => ⟨N, f, fun v H' k dv => by
    cases dv
    refine ⟨N, f.same k, fun v2 H2 k2 dv2 => ?_⟩
    cases dv2
    refine ⟨i, (n : Int), rfl, rfl, ⟨by omega, by omega, hi⟩, ?_⟩
    show Q (.int (i ^ ((n : Int)).toNat)) H2
    rw [Int.toNat_natCast]
    exact q _ H2 (k.trans k2) (.int _)⟩
theorem pda_nil : PA X [] (tDatas []) := pa_nil.weak fun _ H Q ⟨_, _, q⟩ => q [] H (Same.refl H) .nil
theorem pda_cons (h : PE X e (tData d)) (r : PA X es (tDatas ds)) (hs : starEach (e :: es) X.env = (false, eval e X.env) :: starEach es X.env := by rfl) : PA X (e :: es) (tDatas (d :: ds)) :=
  (pa_cons h r hs).weak fun σ H Q ⟨N, f, q⟩ => ⟨N, f, fun v H1 k1 dv => ⟨N, f.same k1, fun vs H2 k2 dvs => q _ H2 (k1.trans k2) (.cons (dv.same k2) dvs)⟩⟩
theorem pd_tup {x1} (h : PA X es (tDatas ds)) (hl : ds.length ≤ 1000 := by decide) : PE X (.Tuple es x1 pos) (tData (.tuple ds)) :=
  (pe_tup h).weak fun σ H Q ⟨N, f, q⟩ => ⟨N, f, fun vs H1 k1 dvs => ⟨by
    have z := dvs.length
    rw [sizeLine_eq]
    omega, fun p hp => q _ _ (k1.trans (same_new hp _)) (.tup upd_same (dvs.same (same_new hp _)))⟩⟩
theorem pd_lst (h : PA X es (tDatas ds)) (hl : ds.length ≤ 1000 := by decide) : PE X (.List es pos) (tData (.list ds)) :=
  (pe_list h).weak fun σ H Q ⟨N, f, q⟩ => ⟨N, f, fun vs H1 k1 dvs => ⟨by
    have z := dvs.length
    rw [sizeLine_eq]
    omega, fun p hp np => q _ _ (k1.trans (same_new hp _)) (.lst (f.same k1 p hp np) upd_same (dvs.same (same_new hp _)))⟩⟩
theorem pd_dct : PE X (.Dict [] [] pos) (tData (.dict [])) :=
  pe_dict0.weak fun σ H Q ⟨N, f, q⟩ p hp np => q _ _ (same_new hp _) (.dct (f p hp np) upd_same)
end

/-- a test, both ways -/
theorem tst {b : Bool} {A B : Prop} (h1 : b = true → A) (h0 : b = false → B) : if b = true then A else B := by
  cases b
  · exact iteF (h0 rfl)
  · exact iteT (h1 rfl)
theorem short3 {x y z : V} : [x, y, z].length ≤ sizeLine := by show 3 ≤ sizeLine; decide
theorem short2 {x y : V} : [x, y].length ≤ sizeLine := by show 2 ≤ sizeLine; decide
theorem short1 {x : V} : [x].length ≤ sizeLine := by show 1 ≤ sizeLine; decide
theorem short4 {x y z u : V} : [x, y, z, u].length ≤ sizeLine := by show 4 ≤ sizeLine; decide
theorem short5 {x y z u v : V} : [x, y, z, u, v].length ≤ sizeLine := by show 5 ≤ sizeLine; decide
theorem short6 {x y z u v q : V} : [x, y, z, u, v, q].length ≤ sizeLine := by show 6 ≤ sizeLine; decide

/-! ### the well of draws -/
abbrev wellN (w : Addr) : Ban := fun a => a = w ∨ a = sysModules
def WellAt (H : Hp) (w : Addr) : Prop := ∃ a m c : Int, H w = some (.lst [.int a, .int m, .int c]) ∧ 0 ≤ a
theorem WellAt.fresh {H : Hp} {w : Addr} (h : WellAt H w) : FreshB (wellN w) H := fun p hp np z => by
  obtain ⟨a, m, c, e, _⟩ := h
  rcases z with rfl | z
  · rw [hp] at e
    cases e
  · exact np z
/-- what stands behind a draw -/
structure After (w : Addr) (H H' : Hp) : Prop where
  sx : Sx (wellN w) H H'
  well : WellAt H' w
  kp : ∀ b u, b ≠ w → H b = some u → H' b = some u
theorem After.refl {w : Addr} {H : Hp} (h : WellAt H w) : After w H H := ⟨.refl _ _, h, fun _ _ _ q => q⟩
theorem After.trans {w : Addr} {H H1 H2 : Hp} (a : After w H H1) (b : After w H1 H2) : After w H H2 := ⟨a.sx.trans b.sx, b.well, fun c u n q => b.kp c u n (a.kp c u n q)⟩
theorem WellAt.same {H H' : Hp} {w : Addr} (h : WellAt H w) (k : Same H H') : WellAt H' w := by
  obtain ⟨a, m, c, e, z⟩ := h
  exact ⟨a, m, c, k _ _ e, z⟩
theorem After.of {w : Addr} {H H' : Hp} (h : WellAt H w) (k : Same H H') : After w H H' := ⟨.of k, h.same k, fun b u _ q => k b u q⟩
theorem After.keep {w : Addr} {H H1 H2 : Hp} (a : After w H H1) (k : Same H1 H2) : After w H H2 := a.trans (.of a.well k)
theorem WellAt.ne {H : Hp} {w p : Addr} (h : WellAt H w) (hp : H p = none) : p ≠ w := by
  obtain ⟨a, m, c, e, _⟩ := h
  exact (ne_of_none e hp).symm
end Lw

namespace Lw
open PySem PySem.Spec PyProof.Rows L2

/-! ### t[::-1], t a tuple -/
section
variable {prog : Program} {w : World} {A : Around} {E : Value → Shared → Prop} {s : Shared}
theorem back_adjust (n : Nat) : Builtin.Slice.sliceAdjust none none (-1) (n : Int) = ((n : Int) - 1, -1) := rfl
theorem back_places (n : Nat) : Builtin.Slice.slicePlaces ((n : Int) - 1) (-1) (-1) = n := by
  unfold Builtin.Slice.slicePlaces
  rw [if_neg (by decide : ¬ ((-1 : Int) > 0))]
  split
  · show ((((n : Int) - 1) - (-1) - 1) / 1 + 1).toNat = n
    rw [Int.ediv_one]
    omega
  · show (0 : Int).toNat = n
    omega
theorem fm_congr {α β : Type} {f g : α → Option β} : ∀ {l : List α}, (∀ m ∈ l, f m = g m) → l.filterMap f = l.filterMap g
  | [], _ => rfl
  | a :: r, h => by
    rw [List.filterMap_cons, List.filterMap_cons, h a (List.mem_cons_self ..), fm_congr fun m hm => h m (List.mem_cons_of_mem _ hm)]
theorem back_pick (xs : Array Value) : ((List.range xs.size).filterMap fun (m : Nat) => xs[(((xs.size : Int) - 1) + (m : Int) * (-1)).toNat]?).toArray = xs.toList.reverse.toArray := by
  have e : ((List.range xs.size).filterMap fun (m : Nat) => xs[(((xs.size : Int) - 1) + (m : Int) * (-1)).toNat]?) = (List.range xs.size).filterMap fun m => xs.toList.reverse[m]? := by
    refine fm_congr fun m hm => ?_
    have lt : m < xs.size := List.mem_range.mp hm
    have i : (((xs.size : Int) - 1) + (m : Int) * (-1)).toNat = xs.size - 1 - m := by omega
    rw [i, List.getElem?_reverse (by simpa using lt)]
    simp
  rw [e]
  have z : ∀ l : List Value, (List.range l.length).filterMap (fun m => l[m]?) = l := fun l => by
    induction l with
    | nil => rfl
    | cons a r ih =>
      rw [List.length_cons, List.range_succ_eq_map, List.filterMap_cons, List.filterMap_map]
      show a :: (List.range r.length).filterMap (fun m => r[m]?) = a :: r
      rw [ih]
  have l : xs.size = xs.toList.reverse.length := by simp
  rw [l, z]
theorem back_applied {sl : Addr} {vs : Value} {n : Nat} {Q : Int × Int × Nat → Shared → Prop} (hs : s.heap.IsSliceOf sl .none .none vs) (ps : IsPart vs (some (-1))) (h : Q ((n : Int) - 1, -1, n) s) :
    wpAny (model prog w) A (Builtin.Slice.sliceApplied (.ref sl) (pure (n : Int))) Q E s := by
  obtain ⟨o, ho, _, hd⟩ := hs
  unfold Builtin.Slice.sliceApplied Builtin.Slice.sliceFields
  apply wpAny_bind
  apply wpAny_bind
  refine wpAny_field ho hd (x := .none) rfl ?_
  apply wpAny_bind
  refine wpAny_field ho hd (x := .none) rfl ?_
  apply wpAny_bind
  refine wpAny_field ho hd (x := vs) rfl ?_
  apply wpAny_pure
  apply wpAny_bind
  refine HT.slicePart_ ps ?_
  show wpAny _ _ (if ((-1 : Int) == 0) = true then _ else _) _ _ s
  rw [if_neg (by decide)]
  apply wpAny_bind
  refine HT.slicePart_ .none ?_
  apply wpAny_bind
  refine HT.slicePart_ .none ?_
  apply wpAny_bind
  apply wpAny_pure
  show wpAny _ _ (pure ((n : Int) - 1, (-1 : Int), Builtin.Slice.slicePlaces ((n : Int) - 1) (-1) (-1))) _ _ s
  rw [back_places]
  exact wpAny_pure h
theorem back_item {t sl : Addr} {items : Array Value} {vs : Value} {Q : Value → Shared → Prop} (ht : IsTup s.heap t items) (hs : s.heap.IsSliceOf sl .none .none vs) (ps : IsPart vs (some (-1)))
    (h : Q (.ref s.heap.objs.size) { s with heap := s.heap.push { cls := .type "tuple", data := .seq items.toList.reverse.toArray } }) (hz : items.size ≤ sizeLine) :
    wpAny (model prog w) A (getItem (.ref t) (.ref sl)) Q E s := by
  have ok : sizeOk (.seq items.toList.reverse.toArray) := by
    show items.toList.reverse.toArray.size ≤ sizeLine
    simpa using hz
  have hT : s.TypeIs (.ref sl) "slice" := by
    obtain ⟨o, ho, hc, _⟩ := hs
    exact ⟨o, ho, hc⟩
  unfold getItem
  with_reducible refine wpAny_holding ?_
  apply wpAny_bind
  refine wpAny_sequenceKey ht.typeIs (by decide) ?_
  apply wpAny_bind
  refine wpAny_callSpecial?_slot (name := Str.ofString "__getitem__") ht.typeIs PyProof.Rows.slot_tuple_getitem ?_
  refine wpAny_call_entry PyProof.Rows.slot_tuple_getitem ht.typeIs entry_tuple_getitem ?_ (args_tuple_getitem _ _)
  show wpAny _ _ (Builtin.Tuple.tupleItemsOf (.ref t) >>= _) _ _ s
  apply wpAny_bind
  refine tupleItemsOf_ ht ?_
  apply wpAny_bind
  refine wpAny_typeOf hT ?_
  rw [if_pos (by decide)]
  apply wpAny_bind
  refine back_applied hs ps ?_
  have no : ¬ ((((items.size : Int) - 1) == 0 && (-1 : Int) == 1 && items.size == items.size) = true) := by simp
  show wpAny _ _ (if (((items.size : Int) - 1) == 0 && (-1 : Int) == 1 && items.size == items.size) = true then _ else _) _ _ s
  rw [if_neg no, back_pick]
  first
    | exact wpAny_bind (m := Builtin.Tuple.tupleExact _) (wpAny_newObj_type (wpAny_pure ⟨_, rfl, wpAny_pure h⟩) ok)
    | exact wpAny_bind (m := Builtin.Tuple.tupleExact _) (wpAny_newObj_type (wpAny_bind (wpAny_pure (wpAny_pure ⟨_, rfl, wpAny_pure h⟩))) ok)
    | exact wpAny_bind (wpAny_bind (m := Builtin.Tuple.tupleExact _) (wpAny_newObj_type (wpAny_pure (wpAny_pure ⟨_, rfl, wpAny_pure h⟩)) ok))
    | exact wpAny_bind (wpAny_bind (m := Builtin.Tuple.tupleExact _) (wpAny_newObj_type (wpAny_pure ⟨_, rfl, wpAny_pure h⟩) ok))
end
section
variable {X : Cx}
def tBackT (K : PySem.W.Frag) (te : TE) : TE := fun σ H Q => te σ H fun x H1 => ∃ a xs, x = .ref a ∧ SqT K H1 a xs ∧ ∀ p, H1 p = none → Q (.ref p) (upd H1 p (.tup xs.reverse))
theorem pe_backT {e : Expr} {te : TE} {k : Nat} {p1 p2 p3 pos : Pos} (he : PE X e te) : PE X (.Subscript e (.Slice none none (some (.UnaryOp .USub (.Constant (.int 1) k p1) p2)) p3) pos) (tBackT X.K te) := by
  have part : PO X (some (.UnaryOp .USub (.Constant (.int 1) k p1) p2)) (tPart (tUn (rU fun i => .int (-i)) (tC (.int 1)))) := po_some (pe_un un_neg pe_int)
  constructor
  intro pins s σ H Q I h
  apply Subscript_
  refine thn (he.run pins s σ H _ I h) ?_
  rintro v s1 ⟨x, H1, I1, r1, a, xs, rfl, hx, q⟩
  cases r1
  apply wpAny_Slice
  refine thn (po_none.run pins s1 σ H1 (fun o G => o = none ∧ G = H1) I1 ⟨rfl, rfl⟩) ?_
  rintro vl s2 ⟨_, _, I2, pl, rfl, rfl⟩
  refine thn (po_none.run pins s2 σ _ (fun o G => o = none ∧ G = _) I2 ⟨rfl, rfl⟩) ?_
  rintro vu s3 ⟨_, _, I3, pu, rfl, rfl⟩
  refine thn (part.run pins s3 σ _ (fun o G => o = some (-1) ∧ G = _) I3 ⟨1, rfl, -1, rfl, rfl, rfl⟩) ?_
  rintro vs s4 ⟨_, G, I4, ps, rfl, rfl⟩
  cases pl
  cases pu
  have I5 : Inv X pins σ G { s4 with heap := s4.heap.push { cls := .type "slice", data := .fields #[.none, .none, vs] } } := I4.kept (t' := s4.toks) fun _ _ z => Heap.get?_push_of_some _ z
  obtain ⟨its, r, ht, hz⟩ := I5.tuple hx
  show wpAny (model X.prog X.w) X.A (subscriptTail e (.Slice none none (some (.UnaryOp .USub (.Constant (.int 1) k p1) p2)) p3) (.ref a) (.ref s4.heap.objs.size)) (EP X pins σ Q) X.xe { s4 with heap := s4.heap.push { cls := .type "slice", data := .fields #[.none, .none, vs] } }
  refine tail_any (ops := [.ref a, .ref s4.heap.objs.size]) ht.typeIs PyProof.Rows.slot_tuple_getitem.lookup ?_ (by with_unfolding_all rfl)
  have hl := r.length
  refine back_item ht (Heap.IsSliceOf.new ..) ps ?_ (by rw [List.size_toArray]; omega)
  have J := I5.laid (t' := s4.toks) (o := .tup xs.reverse) (fun _ _ z => Heap.get?_push_of_some _ z) (Nat.le_refl _) ⟨by rw [List.length_reverse]; exact hz, _, r.reverse, IsTup.new _ _⟩
  exact ⟨.ref _, _, J, rfl, q _ (I5.hok.fresh (Nat.le_refl _))⟩
end
end Lw

namespace Lw
open PySem PySem.Spec PyProof.Rows L2

/-! ### parts of rows of data -/
theorem fineAll_iff {B : Nat} : ∀ {ds : List PyData}, fineAll B ds ↔ ∀ d ∈ ds, fine B d
  | [] => ⟨fun _ _ z => (by cases z), fun _ => trivial⟩
  | x :: r => ⟨fun h d m => by
      rcases List.mem_cons.mp m with rfl | m
      · exact h.1
      · exact fineAll_iff.mp h.2 d m, fun h => ⟨h x (List.mem_cons_self ..), fineAll_iff.mpr fun d m => h d (List.mem_cons_of_mem _ m)⟩⟩
theorem depthAll_iff {k : Nat} : ∀ {ds : List PyData}, PyData.depthAll ds ≤ k ↔ ∀ d ∈ ds, d.depth ≤ k
  | [] => ⟨fun _ _ z => (by cases z), fun _ => Nat.zero_le _⟩
  | x :: r => by
    have ih := depthAll_iff (k := k) (ds := r)
    simp only [PyData.depthAll, List.mem_cons, forall_eq_or_imp]
    rw [← ih]
    omega
theorem wtAll_app : ∀ ds es : List PyData, wtAll (ds ++ es) = wtAll ds + wtAll es
  | [], es => by simp [wtAll]
  | x :: r, es => by
    show wt x + 2 + wtAll (r ++ es) = wt x + 2 + wtAll r + wtAll es
    rw [wtAll_app r es]
    omega
theorem wtAll_rev : ∀ ds : List PyData, wtAll ds.reverse = wtAll ds
  | [] => rfl
  | x :: r => by
    rw [List.reverse_cons, wtAll_app, wtAll_rev r]
    show wtAll r + (wt x + 2 + 0) = wt x + 2 + wtAll r
    omega
theorem wtAll_len : ∀ ds : List PyData, ds.length ≤ wtAll ds
  | [] => Nat.le_refl _
  | x :: r => by
    have := wtAll_len r
    show r.length + 1 ≤ wt x + 2 + wtAll r
    omega
theorem wtAll_cut (ds : List PyData) (i j : Nat) : wtAll ((ds.drop i).take j) ≤ wtAll ds := by
  have h1 := wtAll_app ((ds.drop i).take j) ((ds.drop i).drop j)
  rw [List.take_append_drop] at h1
  have h2 := wtAll_app (ds.take i) (ds.drop i)
  rw [List.take_append_drop] at h2
  omega
theorem wtAll_hole {ds : List PyData} {i : Nat} {d : PyData} (h : ds[i]? = some d) : wtAll (ds.take i) + (wt d + 2) + wtAll (ds.drop (i + 1)) = wtAll ds := by
  obtain ⟨hi, hd⟩ := List.getElem?_eq_some_iff.mp h
  have h2 := wtAll_app (ds.take i) (ds.drop i)
  rw [List.take_append_drop, List.drop_eq_getElem_cons hi, hd] at h2
  have h3 : wtAll (d :: ds.drop (i + 1)) = wt d + 2 + wtAll (ds.drop (i + 1)) := rfl
  omega
/-- the items of ds[lo:hi] -/
def cutD (ds : List PyData) (lo hi : Option Int) : List PyData := (ds.drop (HT.sIx ds.length 0 lo)).take (HT.sIx ds.length ds.length hi - HT.sIx ds.length 0 lo)
theorem cutD_mem {ds : List PyData} {lo hi : Option Int} {d : PyData} (h : d ∈ cutD ds lo hi) : d ∈ ds := List.mem_of_mem_drop (List.mem_of_mem_take h)
theorem cutD_wt (ds : List PyData) (lo hi : Option Int) : wtAll (cutD ds lo hi) ≤ wtAll ds := wtAll_cut ds _ _
theorem cutD_to {ds : List PyData} {k : Nat} (hk : k ≤ ds.length) : cutD ds none (some (k : Int)) = ds.take k := by
  unfold cutD
  have e : HT.sIx ds.length ds.length (some (k : Int)) = k := by
    show (if ((k : Int) < 0) then ((k : Int) + (ds.length : Int)).toNat else min ((k : Int)).toNat ds.length) = k
    rw [if_neg (by omega)]
    omega
  rw [e]
  rfl
theorem cutD_from {ds : List PyData} {k : Nat} (hk : k ≤ ds.length) : cutD ds (some (k : Int)) none = ds.drop k := by
  unfold cutD
  have e : HT.sIx ds.length 0 (some (k : Int)) = k := by
    show (if ((k : Int) < 0) then ((k : Int) + (ds.length : Int)).toNat else min ((k : Int)).toNat ds.length) = k
    rw [if_neg (by omega)]
    omega
  rw [e]
  show (ds.drop k).take (ds.length - k) = ds.drop k
  rw [List.take_of_length_le (by rw [List.length_drop]; exact Nat.le_refl _)]
theorem tup_at {N : Ban} {H : Hp} {v : V} {ds : List PyData} (h : Dv N H v (.tuple ds)) : ∃ a xs, v = .ref a ∧ H a = some (.tup xs) ∧ DvAll N H xs ds := by
  cases h with
  | tup e all => exact ⟨_, _, rfl, e, all⟩
section
variable {N : Ban} {K : PySem.W.Frag} {H : Hp} {Q : VK}
theorem dv_cut {v : V} {ds : List PyData} {lo hi : Option Int} (h : Dv N H v (.tuple ds)) (q : ∀ u H', Same H H' → Dv N H' u (.tuple (cutD ds lo hi)) → Q u H') : rSlA K v lo hi H Q := by
  obtain ⟨a, xs, rfl, e, all⟩ := tup_at h
  have hl := all.length
  refine ⟨a, xs, rfl, .of e, fun z => ?_, fun z p hp => ?_⟩
  · refine q _ H (.refl H) ?_
    have c : cutD ds lo hi = ds := by
      unfold cutD
      rw [← hl, z.1, z.2]
      show (ds.take (xs.length - 0)) = ds
      rw [List.take_of_length_le (by omega)]
    rw [c]
    exact h
  · have s : Same H (upd H p (.tup (cutV xs lo hi))) := same_new hp _
    refine q _ _ s (.tup upd_same ?_)
    unfold cutD cutV
    rw [← hl]
    exact ((all.same s).drop _).take _
theorem dv_cat {v u : V} {ds es : List PyData} (h : Dv N H v (.tuple ds)) (h2 : Dv N H u (.tuple es)) (hl : ds.length + es.length ≤ 16000000) (q : ∀ y H', Same H H' → Dv N H' y (.tuple (ds ++ es)) → Q y H') : rCatA K v u H Q := by
  obtain ⟨a, xs, rfl, e, all⟩ := tup_at h
  obtain ⟨b, ys, rfl, e2, all2⟩ := tup_at h2
  have l1 := all.length
  have l2 := all2.length
  refine ⟨a, b, xs, ys, rfl, rfl, .of e, .of e2, by rw [sizeLine_eq]; omega, fun z => ?_, fun _ z => ?_, fun _ _ p hp => ?_⟩
  · have c := all.nil_iff.mp z
    subst c
    exact q _ H (.refl H) h2
  · have c := all2.nil_iff.mp z
    subst c
    rw [List.append_nil] at q
    exact q _ H (.refl H) h
  · have s : Same H (upd H p (.tup (xs ++ ys))) := same_new hp _
    exact q _ _ s (.tup upd_same ((all.app all2).same s))
/-- one of the items of a row of six (or as many) -/
theorem at_one {xs : List V} {k : Int} (h0 : 0 ≤ k) (h1 : k < xs.length) : ∃ y, atI xs k = some y ∧ y ∈ xs := by
  have hk : k.toNat < xs.length := by omega
  exact ⟨xs[k.toNat], at_of (by omega) (List.getElem?_eq_getElem hk), List.getElem_mem hk⟩
end
end Lw

namespace Lw
open PySem PySem.Spec PyProof.Rows L2

/-! ### own exceptions of one field -/
/-- what the written part says of an exception's class x -/
structure Ec (K : PySem.W.Frag) (mg : Str → Option Value) (x f : Str) (st : Stmt) (C fI : Addr) (fd : FuncData) : Prop where
  gC : mg x = some (.ref C)
  ox : OexC K C
  xf : XfC K C
  iC : PySem.W.findIn K (.ref C) "__init__" = some (some (.ref fI))
  tI : PySem.W.typeIn K (.ref fI) = some (.type "function")
  te : PySem.W.exmOne K (.ref C) (.ref C) = some true
  no : PySem.W.findIn K (.ref C) f = some none
  fn : Fun K "__init__" (x ++ ".__init__") st fI fd
  bd : Binds K fd ["self", f] []
/-- self.f = f, on a new exception -/
def spInit (f : Str) (C : Addr) : Sp := fun vs H Q _ => ∃ (a : Addr) (v : V), vs = [.ref a, v] ∧ H a = some (exo a C none) ∧ ∀ dx, H dx = none → dx ≠ a → Q .non (upd (upd H dx (exd dx [(f, v)])) a (exo a C (some dx)))
/-- a row of arguments, its end weakened -/
def tUp (ta : TA) : TA := fun σ H Q => ∃ R : List V → Hp → Prop, ta σ H R ∧ ∀ vs H1, R vs H1 → Q vs H1
theorem _root_.L2.PA.up {X : Cx} {es : List Expr} {ta : TA} (h : PA X es ta) : PA X es (tUp ta) := ⟨fun pos pins s σ H Q I ⟨R, q, i⟩ => thn (h.run pos pins s σ H R I q) fun us s1 ⟨vs, H1, I1, r, z⟩ => ⟨vs, H1, I1, r, i _ _ z⟩⟩
/-- X(v) -/
def tMk1 (C : Addr) (f : Str) (ta : TA) : L2.St → Hp → XK → Prop := fun σ H Q => ta σ H fun vs H1 => ∃ v, vs = [v] ∧ ∀ d H', Same H1 H' → H1 d = none → H' d = some (.xd [(f, v)]) → Q (.ref C) (some d) H'
section
variable {X : Cx} {CX : CXT} {x f : Str} {st : Stmt} {C fI : Addr} {fd : FuncData} {k : Nat} {e : Expr} {ta : TA} {p pos : Pos}
theorem pmk1 (T : Ec X.K X.mg x f st C fI fd) (F : FnOk X.prog X.w X.K X.mg X.base CX0 1 fI fd ["self", f] (spInit f C)) (hr : Room k X.A) (hg : Gl X x) (ha : PA X [e] ta) (hk : 2 ≤ k := by decide)
    (hdb : (x == ("__debug__" : Str)) = false := by decide) (he : starEach (e :: []) X.env = (false, eval e X.env) :: starEach [] X.env := by rfl) (hpl : (backTo pos (starEach [] X.env)).any (·.1) = false := by rfl) :
    PMk X (.Call (.Name x p) [e] [] pos) (tMk1 C f ta) := by
  intro pins s σ H Q I h
  refine pmk_oex (ds := []) (dvs := []) T.ox T.iC T.tI F (hr.mono hk) T.bd .nil pass0 hg T.gC ha.up hdb he hpl pins s σ H Q I ⟨_, h, ?_⟩
  rintro _ H1 ⟨v, rfl, q⟩
  refine ⟨(by show 1 ≤ 1000; decide), fun a an => ⟨a, v, rfl, upd_same, fun dx hdx ne => ?_⟩⟩
  have d1 : H1 dx = none := by
    rw [upd_ne ne] at hdx
    exact hdx
  refine ⟨rfl, dx, [(f, v)], upd_same, by rw [upd_ne ne, upd_same], d1, ?_⟩
  refine q dx _ (fun b u z => ?_) d1 upd_same
  have nb : b ≠ dx := ne_of_none z d1
  have na : b ≠ a := ne_of_none z an
  rw [upd_ne nb, del_ne na, upd_ne na, upd_ne nb, upd_ne na]
  exact z
end
end Lw

namespace Lw
open PySem PySem.Spec PyProof.Rows L2
/-! ### rows of Trues -/
abbrev trues (n : Nat) : List V := List.replicate n (V.bl true)
theorem trues_all (n : Nat) : (List.replicate n true).map V.bl = trues n := List.map_replicate ..
theorem all_trues (n : Nat) : (List.replicate n true).all id = true := by
  induction n with
  | zero => rfl
  | succ n ih =>
    rw [List.replicate_succ, List.all_cons, ih] <;> rfl
theorem trues_more (n : Nat) : trues n ++ [V.bl true] = trues (n + 1) := List.replicate_succ'.symm
section
variable {K : PySem.W.Frag} {g : TG} {te : TE} {vs : List Nat} {σ : L2.St} {H1 : Hp} {D : Addr} {σ' : V → L2.St}
/-- [e for x in xs], each True -/
theorem lcl_true {Qd : Hp → Prop} {a : Addr} {xs : List V} (ha : H1 a = some (.lst xs)) (hD : H1 D = none) (hl : xs.length ≤ 1000) (hg : ∀ x H (k : L2.St → Hp → Prop), k (σ' x) H → g x (wipe σ vs) H k) (hw : ∀ x, wipe (σ' x) vs = wipe σ vs)
    (turn : ∀ x H, x ∈ xs → Same H1 H → (∃ u, H D = some u) → ∀ R : V → Hp → Prop, (∀ H', Same H1 H' → H' D = H D → R (.bl true) H') → te (σ' x) H R)
    (done : ∀ H, Same H1 H → H D = some (.lst (trues xs.length)) → Qd H) :
    ∃ W : Nat → Nat → Hp → Prop, (∃ m, W 0 m (upd H1 D (HO.lst []))) ∧ ∀ (i m : Nat) (H : Hp), W i m H → (Itl K a).stop i H ∧ Qd H ∨ (Itl K a).go i H ∧ ∃ Nx : Hp → Prop, (∀ (H' : Hp), Nx H' → ∃ m', m' < m ∧ W (i + 1) m' H') ∧
      ∀ (x : V) (H' : Hp), (Itl K a).yld i H x H' → g x (wipe σ vs) H' fun σ2 H2 => wipe σ2 vs = wipe σ vs ∧ tYes σ2 H2 fun b H3 => if b = true then te σ2 H3 fun y H4 => ∃ acc, H4 D = some (HO.lst acc) ∧ acc.length < sizeLine ∧ Nx (upd H4 D (HO.lst (acc ++ [y]))) else Nx H3 := by
  refine lc_list (K := K) (a := a) (xs := xs) (te := te) (fun i H => i ≤ xs.length ∧ Same H1 H ∧ H D = some (.lst (trues i))) ⟨Nat.zero_le _, same_new hD _, upd_same⟩ (fun i H _ z => .of (z.2.1 _ _ ha)) ?_ (fun H z => done H z.2.1 z.2.2)
  rintro i x H hx ⟨hi, sm, hd⟩
  have il : i < xs.length := (List.getElem?_eq_some_iff.mp hx).1
  refine hg x H _ ⟨hw x, ?_⟩
  show te (σ' x) H _
  refine turn x H (List.mem_of_getElem? hx) sm ⟨_, hd⟩ _ fun H' s2 e2 => ?_
  refine ⟨trues i, e2.trans hd, by rw [List.length_replicate, sizeLine_eq]; omega, ⟨by omega, fun b u z => ?_, ?_⟩⟩
  · rw [upd_ne (ne_of_none z hD)]
    exact s2 b u z
  · rw [upd_same, trues_more]
/-- [e for x in range(lo, lo + n)], each True -/
theorem lcr_true {Qd : Hp → Prop} {lo : Int} {n : Nat} (hD : H1 D = none) (hl : n ≤ 1000) (hg : ∀ x H (k : L2.St → Hp → Prop), k (σ' x) H → g x (wipe σ vs) H k) (hw : ∀ x, wipe (σ' x) vs = wipe σ vs)
    (turn : ∀ (i : Nat) H, i < n → Same H1 H → H D = some (.lst (trues i)) → ∀ R : V → Hp → Prop, (∀ H', Same H1 H' → H' D = H D → R (.bl true) H') → te (σ' (.int (lo + i))) H R)
    (done : ∀ H, Same H1 H → H D = some (.lst (trues n)) → Qd H) :
    ∃ W : Nat → Nat → Hp → Prop, (∃ m, W 0 m (upd H1 D (HO.lst []))) ∧ ∀ (i m : Nat) (H : Hp), W i m H → (Itr lo n).stop i H ∧ Qd H ∨ (Itr lo n).go i H ∧ ∃ Nx : Hp → Prop, (∀ (H' : Hp), Nx H' → ∃ m', m' < m ∧ W (i + 1) m' H') ∧
      ∀ (x : V) (H' : Hp), (Itr lo n).yld i H x H' → g x (wipe σ vs) H' fun σ2 H2 => wipe σ2 vs = wipe σ vs ∧ tYes σ2 H2 fun b H3 => if b = true then te σ2 H3 fun y H4 => ∃ acc, H4 D = some (HO.lst acc) ∧ acc.length < sizeLine ∧ Nx (upd H4 D (HO.lst (acc ++ [y]))) else Nx H3 := by
  refine lc_range (te := te) (fun i H => i ≤ n ∧ Same H1 H ∧ H D = some (.lst (trues i))) ⟨Nat.zero_le _, same_new hD _, upd_same⟩ ?_ (fun H z => done H z.2.1 z.2.2)
  rintro i H il ⟨hi, sm, hd⟩
  refine hg _ H _ ⟨hw _, ?_⟩
  show te (σ' _) H _
  refine turn i H il sm hd _ fun H' s2 e2 => ?_
  refine ⟨trues i, e2.trans hd, by rw [List.length_replicate, sizeLine_eq]; omega, ⟨by omega, fun b u z => ?_, ?_⟩⟩
  · rw [upd_ne (ne_of_none z hD)]
    exact s2 b u z
  · rw [upd_same, trues_more]
end
/-- repr(x) == repr(y), both telling the same -/
theorem rEq_same {t : Str} {Q : VK} {H : Hp} (q : Q (.bl true) H) : rEq (.str t) (.str t) H Q := ⟨rfl, by rw [decide_eq_true rfl]; exact q⟩
theorem bool_tells {N : Ban} {b : Bool} : Tells N (.bool b) := ⟨rfl, by cases b <;> decide, by cases b <;> decide +kernel, fun z => by cases z⟩
end Lw

namespace Lw
open PySem PySem.Spec PyProof.Rows L2
/-! ### comprehensions over lists, item by item -/
/-- tuples stay -/
def Tk (H H' : Hp) : Prop := ∀ b xs, H b = some (.tup xs) → H' b = some (.tup xs)
theorem Tk.of {H H' : Hp} (k : Same H H') : Tk H H' := fun b xs q => k b _ q
theorem Tk.trans {H H1 H2 : Hp} (a : Tk H H1) (b : Tk H1 H2) : Tk H H2 := fun c xs q => b c xs (a c xs q)
theorem Tk.put {H : Hp} {D : Addr} {ys : List V} {o : HO} (h : H D = some (.lst ys)) : Tk H (upd H D o) := fun b xs q => by
  rw [upd_ne (ne_of q h (by intro z; cases z))]
  exact q
/-- data of tuples and small things alone, at any ban -/
abbrev allB : Ban := fun _ => True
theorem Dv.tk {H H' : Hp} {d : PyData} {v : V} (h : Dv allB H v d) (k : Tk H H') : Dv allB H' v d := h.map (fun b u n _ => absurd trivial n) k _ _
theorem Dv.every {H : Hp} {d : PyData} {v : V} (h : Dv allB H v d) (N : Ban) : Dv N H v d := h.less fun _ _ => trivial
section
variable {K : PySem.W.Frag} {g : TG} {te : TE} {vs : List Nat} {σ : L2.St} {H1 : Hp} {D : Addr} {σ' : V → L2.St}
theorem lcl_any {Qd : Hp → Prop} {a : Addr} {xs : List V} (G : Nat → V → Hp → Prop) (hG : ∀ i v H H', Tk H H' → G i v H → G i v H') (ha : H1 a = some (.lst xs)) (hD : H1 D = none) (hl : xs.length ≤ 1000) (hg : ∀ x H (k : L2.St → Hp → Prop), k (σ' x) H → g x (wipe σ vs) H k) (hw : ∀ x, wipe (σ' x) vs = wipe σ vs)
    (turn : ∀ (i : Nat) x H, xs[i]? = some x → Same H1 H → (∃ u, H D = some u) → ∀ R : V → Hp → Prop, (∀ v H', Same H1 H' → H' D = H D → Tk H H' → G i v H' → R v H') → te (σ' x) H R)
    (done : ∀ acc H, Same H1 H → H D = some (.lst acc) → acc.length = xs.length → (∀ (i : Nat) v, acc[i]? = some v → G i v H) → Qd H) :
    ∃ W : Nat → Nat → Hp → Prop, (∃ m, W 0 m (upd H1 D (HO.lst []))) ∧ ∀ (i m : Nat) (H : Hp), W i m H → (Itl K a).stop i H ∧ Qd H ∨ (Itl K a).go i H ∧ ∃ Nx : Hp → Prop, (∀ (H' : Hp), Nx H' → ∃ m', m' < m ∧ W (i + 1) m' H') ∧
      ∀ (x : V) (H' : Hp), (Itl K a).yld i H x H' → g x (wipe σ vs) H' fun σ2 H2 => wipe σ2 vs = wipe σ vs ∧ tYes σ2 H2 fun b H3 => if b = true then te σ2 H3 fun y H4 => ∃ acc, H4 D = some (HO.lst acc) ∧ acc.length < sizeLine ∧ Nx (upd H4 D (HO.lst (acc ++ [y]))) else Nx H3 := by
  refine lc_list (K := K) (a := a) (xs := xs) (te := te) (fun i H => ∃ acc, i ≤ xs.length ∧ Same H1 H ∧ H D = some (.lst acc) ∧ acc.length = i ∧ ∀ (j : Nat) v, acc[j]? = some v → G j v H) ⟨[], Nat.zero_le _, same_new hD _, upd_same, rfl, fun j v z => (by simp at z)⟩
    (fun i H _ z => by obtain ⟨acc, _, sm, _⟩ := z; exact .of (sm _ _ ha)) ?_ (fun H z => by obtain ⟨acc, _, sm, hd, hn, hG2⟩ := z; exact done acc H sm hd hn hG2)
  rintro i x H hx ⟨acc, hi, sm, hd, hn, all⟩
  have il : i < xs.length := (List.getElem?_eq_some_iff.mp hx).1
  refine hg x H _ ⟨hw x, ?_⟩
  show te (σ' x) H _
  refine turn i x H hx sm ⟨_, hd⟩ _ fun v H' s2 e2 tk gv => ?_
  have hd' := e2.trans hd
  refine ⟨acc, hd', by rw [hn, sizeLine_eq]; omega, acc ++ [v], by omega, fun b u z => ?_, upd_same, by simp [hn], fun j y z => ?_⟩
  · rw [upd_ne (ne_of_none z hD)]
    exact s2 b u z
  · have kp : Tk H' (upd H' D (HO.lst (acc ++ [v]))) := .put hd'
    rcases (by omega : j < acc.length ∨ acc.length ≤ j) with c | c
    · rw [List.getElem?_append_left c] at z
      exact hG _ _ _ _ (tk.trans kp) (all j y z)
    · rw [List.getElem?_append_right c] at z
      have e : j = i := by
        have := (List.getElem?_eq_some_iff.mp z).1
        simp at this
        omega
      subst e
      rw [hn, Nat.sub_self] at z
      cases z
      exact hG _ _ _ _ kp gv
end
end Lw

namespace Lw
open PySem
/-! ### whole roots -/
def isq (n : Int) : Int := ((Float64.isqrt n.toNat : Nat) : Int)
theorem isq_nn (n : Int) : 0 ≤ isq n := Int.natCast_nonneg _
theorem isq_le {n : Int} (h : 0 ≤ n) : isq n * isq n ≤ n := by
  have q := (PySem.Float64.isqrt_spec n.toNat).1
  unfold isq
  have : ((Float64.isqrt n.toNat * Float64.isqrt n.toNat : Nat) : Int) ≤ (n.toNat : Int) := Int.ofNat_le.mpr q
  rw [Int.natCast_mul] at this
  omega
theorem isq_lt {n : Int} (h : 0 ≤ n) : n < (isq n + 1) * (isq n + 1) := by
  have q := (PySem.Float64.isqrt_spec n.toNat).2
  unfold isq
  have : (n.toNat : Int) < (((Float64.isqrt n.toNat + 1) * (Float64.isqrt n.toNat + 1) : Nat) : Int) := Int.ofNat_lt.mpr q
  rw [Int.natCast_mul, Int.natCast_add] at this
  have e : ((1 : Nat) : Int) = 1 := rfl
  rw [e] at this
  omega
theorem sq_lt {a b : Int} (ha : 0 ≤ a) (h : a < b) : a * a < b * b := by
  have h1 : a * a ≤ a * b := Int.mul_le_mul_of_nonneg_left (Int.le_of_lt h) ha
  have h2 : a * b < b * b := Int.mul_lt_mul_of_pos_right h (by omega)
  omega
theorem sq_le {a b : Int} (ha : 0 ≤ a) (h : a ≤ b) : a * a ≤ b * b := by
  have h1 : a * a ≤ a * b := Int.mul_le_mul_of_nonneg_left h ha
  have h2 : a * b ≤ b * b := Int.mul_le_mul_of_nonneg_right h (by omega)
  omega
theorem isq_uniq {n r : Int} (h0 : 0 ≤ r) (h1 : r * r ≤ n) (h2 : n < (r + 1) * (r + 1)) : isq n = r := by
  have hn : 0 ≤ n := Int.le_trans (Int.mul_nonneg h0 h0) h1
  have a := isq_le hn
  have b := isq_lt hn
  have c := isq_nn n
  generalize isq n = s at a b c
  by_cases l : s < r
  · have := sq_le (a := s + 1) (b := r) (by omega) (by omega)
    omega
  · by_cases g : r < s
    · have := sq_le (a := r + 1) (b := s) (by omega) (by omega)
      omega
    · omega
theorem isq_neg {n : Int} (h : n < 1) : isq n = 0 := by
  unfold isq
  have e : n.toNat = 0 := by omega
  rw [e]
  decide +kernel
theorem isq_small {n : Int} {k : Nat} (h : n.natAbs < 2 ^ k) : (isq n).natAbs < 2 ^ k := by
  by_cases z : n < 1
  · rw [isq_neg z]
    exact Nat.two_pow_pos k
  · have a := isq_le (n := n) (by omega)
    have c := isq_nn n
    have d : isq n ≤ n := by
      by_cases e : isq n = 0
      · omega
      · have := Int.mul_le_mul_of_nonneg_left (show 1 ≤ isq n by omega) c
        omega
    omega
/-- one turn of Newton's -/
theorem four_le (x y : Int) : 4 * (x * y) ≤ (x + y) * (x + y) := by
  have h : 0 ≤ (x - y) * (x - y) := by
    rcases Int.le_total 0 (x - y) with d | d
    · exact Int.mul_nonneg d d
    · exact Int.mul_nonneg_of_nonpos_of_nonpos d d
  have e : (x + y) * (x + y) - 4 * (x * y) = (x - y) * (x - y) := by grind
  omega
theorem newton_up {n s x : Int} (hs : 0 ≤ s) (h1 : s * s ≤ n) (hx : 1 ≤ x) : s ≤ (x + n / x) / 2 := by
  have hq : n < x * (n / x + 1) := by
    have := Int.lt_mul_ediv_self_add (x := n) (k := x) (by omega)
    have e : x * (n / x + 1) = x * (n / x) + x := by grind
    omega
  generalize n / x = q at hq
  apply Decidable.byContradiction
  intro c
  have c1 : x + q + 1 ≤ 2 * s := by omega
  have h4 := four_le x (q + 1)
  have np : 0 < x * (q + 1) := by
    have : 0 ≤ s * s := Int.mul_nonneg hs hs
    omega
  have hq0 : 0 ≤ q + 1 := by
    apply Decidable.byContradiction
    intro d
    have : x * (q + 1) ≤ 0 := Int.mul_nonpos_of_nonneg_of_nonpos (by omega) (by omega)
    omega
  have h5 := sq_le (a := x + (q + 1)) (b := 2 * s) (by omega) (by omega)
  have e : 2 * s * (2 * s) = 4 * (s * s) := by grind
  omega
theorem newton_down {n s x : Int} (h2 : n < (s + 1) * (s + 1)) (hs : 0 ≤ s) (hx : s < x) : n / x ≤ s := by
  have hp : 0 < x := by omega
  have l : n < x * (s + 1) := by
    have := Int.mul_le_mul_of_nonneg_right (show s + 1 ≤ x by omega) (show 0 ≤ s + 1 by omega)
    omega
  have : n / x < s + 1 := Int.ediv_lt_of_lt_mul hp (by rw [Int.mul_comm]; exact l)
  omega
theorem bits_lt (n : Int) : n.natAbs < 2 ^ Builtin.Int.intBits n := by
  unfold Builtin.Int.intBits
  by_cases h : n = 0
  · subst h
    decide
  · have e : (n == 0) = false := by simpa using h
    rw [e]
    exact Nat.lt_log2_self
theorem bits_le {n : Int} {k : Nat} (h : n.natAbs < 2 ^ k) : Builtin.Int.intBits n ≤ k := PyProof.Rows.intBits_le h
/-- the first guess is not below the root -/
theorem guess {n : Int} (h : 0 ≤ n) : isq n ≤ 2 ^ (Builtin.Int.intBits n / 2 + 1) := by
  have a := isq_le h
  have c := isq_nn n
  have b := bits_lt n
  generalize Builtin.Int.intBits n = k at b
  apply Decidable.byContradiction
  intro d
  have d' : (2 : Int) ^ (k / 2 + 1) ≤ isq n := by omega
  have p0 : (0 : Int) ≤ 2 ^ (k / 2 + 1) := by
    have : (0 : Int) < 2 ^ (k / 2 + 1) := Int.pow_pos (by decide)
    omega
  have s := sq_le p0 d'
  rw [← Int.pow_add] at s
  have m : (2 : Nat) ^ k ≤ 2 ^ (k / 2 + 1 + (k / 2 + 1)) := Nat.pow_le_pow_right (by decide) (by omega)
  have m2 : ((2 ^ k : Nat) : Int) ≤ ((2 ^ (k / 2 + 1 + (k / 2 + 1)) : Nat) : Int) := Int.ofNat_le.mpr m
  have e : ((2 ^ (k / 2 + 1 + (k / 2 + 1)) : Nat) : Int) = (2 : Int) ^ (k / 2 + 1 + (k / 2 + 1)) := by simp
  rw [e] at m2
  have b2 : (n.natAbs : Int) < ((2 ^ k : Nat) : Int) := Int.ofNat_lt.mpr b
  omega
end Lw

namespace Lw
/-! ### signs of a + b root r by squares -/
def sg (x : Int) : Int := if 0 < x then 1 else if x = 0 then 0 else -1
def ab (x : Int) : Int := if x < 0 then -x else x
/-- the square, with the sign -/
def ss (x : Int) : Int := x * ab x
theorem sg_pos {x : Int} (h : 0 < x) : sg x = 1 := if_pos h
theorem sg_zero : sg 0 = 0 := rfl
theorem sg_neg {x : Int} (h : x < 0) : sg x = -1 := by
  unfold sg
  rw [if_neg (by omega), if_neg (by omega)]
theorem tri (x : Int) : x < 0 ∨ x = 0 ∨ 0 < x := by omega
theorem sg_mul (x y : Int) : sg (x * y) = sg x * sg y := by
  rcases tri x with h | h | h
  · rcases tri y with k | k | k
    · rw [sg_neg h, sg_neg k, sg_pos (Int.mul_pos_of_neg_of_neg h k)] <;> rfl
    · rw [k, Int.mul_zero, sg_zero, Int.mul_zero]
    · rw [sg_neg h, sg_pos k, sg_neg (Int.mul_neg_of_neg_of_pos h k)] <;> rfl
  · rw [h, Int.zero_mul, sg_zero, Int.zero_mul]
  · rcases tri y with k | k | k
    · rw [sg_pos h, sg_neg k, sg_neg (Int.mul_neg_of_pos_of_neg h k)] <;> rfl
    · rw [k, Int.mul_zero, sg_zero, Int.mul_zero]
    · rw [sg_pos h, sg_pos k, sg_pos (Int.mul_pos h k)] <;> rfl
theorem sg_flip (x : Int) : sg (-x) = - sg x := by
  rcases tri x with h | h | h
  · rw [sg_neg h, sg_pos (by omega)] <;> rfl
  · rw [h] <;> rfl
  · rw [sg_pos h, sg_neg (by omega)]
theorem sg_up {k : Int} (hk : 0 < k) (x : Int) : sg (k * x) = sg x := by rw [sg_mul, sg_pos hk, Int.one_mul]
theorem ab_nn {x : Int} (h : 0 ≤ x) : ab x = x := if_neg (by omega)
theorem ab_np {x : Int} (h : x ≤ 0) : ab x = -x := by
  unfold ab
  split <;> omega
theorem ab_flip (x : Int) : ab (-x) = ab x := by
  unfold ab
  split <;> split <;> omega
theorem ab_mul (x y : Int) : ab (x * y) = ab x * ab y := by
  rcases (by omega : x ≤ 0 ∨ 0 ≤ x) with h | h <;> rcases (by omega : y ≤ 0 ∨ 0 ≤ y) with k | k
  · rw [ab_np h, ab_np k, ab_nn (Int.mul_nonneg_of_nonpos_of_nonpos h k)]
    grind
  · rw [ab_np h, ab_nn k, ab_np (Int.mul_nonpos_of_nonpos_of_nonneg h k)]
    grind
  · rw [ab_nn h, ab_np k, ab_np (Int.mul_nonpos_of_nonneg_of_nonpos h k)]
    grind
  · rw [ab_nn h, ab_nn k, ab_nn (Int.mul_nonneg h k)]
theorem ab_sq (x : Int) : ab x * ab x = x * x := by
  unfold ab
  split <;> grind
theorem ab_ge (x : Int) : 0 ≤ ab x := by
  unfold ab
  split <;> omega
theorem sg_ss (x : Int) : sg (ss x) = sg x := by
  unfold ss
  rw [sg_mul]
  rcases tri x with h | h | h
  · rw [ab_np (by omega), sg_neg h, sg_pos (by omega)] <;> rfl
  · rw [h] <;> rfl
  · rw [ab_nn (by omega), sg_pos h] <;> rfl
theorem ab_ss (x : Int) : ab (ss x) = x * x := by
  unfold ss
  rw [ab_mul, ab_nn (ab_ge x), ab_sq]
theorem ss_mul (x y : Int) : ss (x * y) = ss x * ss y := by
  unfold ss
  rw [ab_mul]
  grind
theorem ss_flip (x : Int) : ss (-x) = - ss x := by
  unfold ss
  rw [ab_flip]
  grind
theorem ss_nn {x : Int} (h : 0 ≤ x) : ss x = x * x := by
  unfold ss
  rw [ab_nn h]
/-- the sign of a + root u, u with its sign -/
def S2 (a u : Int) : Int := if sg a = sg u ∨ sg u = 0 then sg a else if sg a = 0 then sg u else sg a * sg (a * a - ab u)
/-- the sign of a + root u + root v -/
def S3 (a u v : Int) : Int := if S2 a u = sg v ∨ sg v = 0 then S2 a u else if S2 a u = 0 then sg v else S2 a u * S2 (a * a + ab u - ab v) (4 * ss a * u)
theorem S2_up {k : Int} (hk : 0 < k) (a u : Int) : S2 (k * a) (k * k * u) = S2 a u := by
  have kk : 0 < k * k := Int.mul_pos hk hk
  have e : k * a * (k * a) - ab (k * k * u) = k * k * (a * a - ab u) := by
    rw [ab_mul, ab_nn (x := k * k) (by omega)]
    grind
  unfold S2
  rw [sg_up hk, sg_up kk, e, sg_up kk]
theorem S3_up {k : Int} (hk : 0 < k) (a u v : Int) : S3 (k * a) (k * k * u) (k * k * v) = S3 a u v := by
  have kk : 0 < k * k := Int.mul_pos hk hk
  have e : k * a * (k * a) + ab (k * k * u) - ab (k * k * v) = k * k * (a * a + ab u - ab v) := by
    rw [ab_mul (k * k) u, ab_mul (k * k) v, ab_nn (x := k * k) (by omega)]
    grind
  have e2 : 4 * ss (k * a) * (k * k * u) = (k * k) * (k * k) * (4 * ss a * u) := by
    rw [ss_mul, ss_nn (by omega : 0 ≤ k)]
    grind
  unfold S3
  rw [S2_up hk, sg_up kk, e, e2, S2_up kk]
theorem S2_sq (a t : Int) : S2 a (ss t) = sg (a + t) := by
  unfold S2
  rw [sg_ss, ab_ss]
  have e : a * a - t * t = (a - t) * (a + t) := by grind
  rw [e, sg_mul]
  rcases tri a with h | h | h <;> rcases tri t with k | k | k
  · rw [sg_neg h, sg_neg k, if_pos (.inl rfl), sg_neg (by omega)]
  · rw [k, sg_zero, if_pos (.inr rfl), Int.add_zero]
  · rw [sg_neg h, sg_pos k, if_neg (by decide), if_neg (by decide), sg_neg (by omega : a - t < 0)]
    grind
  · rw [h, sg_zero, sg_neg k, if_neg (by decide), if_pos rfl, Int.zero_add, sg_neg k]
  · rw [h, k] <;> rfl
  · rw [h, sg_zero, sg_pos k, if_neg (by decide), if_pos rfl, Int.zero_add, sg_pos k]
  · rw [sg_pos h, sg_neg k, if_neg (by decide), if_neg (by decide), sg_pos (by omega : 0 < a - t)]
    grind
  · rw [k, sg_zero, if_pos (.inr rfl), Int.add_zero]
  · rw [sg_pos h, sg_pos k, if_pos (.inl rfl), sg_pos (by omega)]
theorem S3_sq (a t v : Int) : S3 a (ss t) v = S2 (a + t) v := by
  have e2 : 4 * ss a * ss t = ss (2 * a * t) := by
    rw [ss_mul, ss_mul]
    show _ = ss 2 * ss a * ss t
    rw [show ss 2 = 4 from rfl]
  have e3 : a * a + t * t - ab v + 2 * a * t = (a + t) * (a + t) - ab v := by grind
  unfold S3
  rw [S2_sq, ab_ss, e2, S2_sq, e3]
  rfl
theorem S2_flip (a u : Int) : S2 (-a) (-u) = - S2 a u := by
  unfold S2
  rw [sg_flip, sg_flip, ab_flip, show -a * -a = a * a by grind]
  rcases tri a with h | h | h <;> rcases tri u with k | k | k <;> simp only [h, k, sg_neg, sg_pos, sg_zero] <;> first | rfl | decide | grind
theorem S2_pos {a u : Int} (ha : 0 ≤ a) (hu : 0 < u) : S2 a u = 1 := by
  unfold S2
  rcases (by omega : 0 < a ∨ a = 0) with h | h
  · rw [sg_pos h, sg_pos hu, if_pos (.inl rfl)]
  · rw [h, sg_zero, sg_pos hu, if_neg (by decide), if_pos rfl]
theorem S2_neg {a u : Int} (ha : a ≤ 0) (hu : u < 0) : S2 a u = -1 := by
  have h := S2_pos (a := -a) (u := -u) (by omega) (by omega)
  rw [S2_flip] at h
  omega
theorem S2_zero (a : Int) : S2 a 0 = sg a := by
  unfold S2
  rw [if_pos (.inr rfl)]
theorem S2_low {a u : Int} (ha : a < 0) (hu : 0 < u) : S2 a u = sg (u - a * a) := by
  unfold S2
  rw [sg_neg ha, sg_pos hu, if_neg (by decide), if_neg (by decide), ab_nn (by omega : 0 ≤ u), show u - a * a = -(a * a - u) by omega, sg_flip]
  omega
theorem S2_high {a u : Int} (ha : 0 < a) (hu : u < 0) : S2 a u = sg (a * a + u) := by
  unfold S2
  rw [sg_pos ha, sg_neg hu, if_neg (by decide), if_neg (by decide), ab_np (by omega : u ≤ 0), Int.one_mul, show a * a - -u = a * a + u by omega]
theorem W_up {s u : Int} (hs : 0 < s) (hu : 0 < u) : 0 < ss s * u := by
  rw [ss_nn (by omega)]
  exact Int.mul_pos (Int.mul_pos hs hs) hu
theorem W_down {s u : Int} (hs : s < 0) (hu : 0 < u) : ss s * u < 0 := by
  have h := W_up (s := -s) (u := u) (by omega) hu
  rw [ss_flip, Int.neg_mul] at h
  omega
/-- (x + root u) (y + root u), u above 0 -/
theorem S2_mul_pos {x y u : Int} (hu : 0 < u) : S2 x u * S2 y u = S2 (x * y + u) (ss (x + y) * u) := by
  have half : ∀ x y : Int, 0 ≤ x → y < 0 → S2 x u * S2 y u = S2 (x * y + u) (ss (x + y) * u) := fun x y hx hy => by
    rw [S2_pos hx hu, S2_low hy hu, Int.one_mul]
    have n1 : (x * y + u) * (x * y + u) - (x + y) * (x + y) * u = (x * x - u) * (y * y - u) := by grind
    have f : sg (y * y - u) = - sg (u - y * y) := by rw [← sg_flip, show -(u - y * y) = y * y - u by omega]
    rcases tri (x + y) with hs | hs | hs
    · have xy : y * y = x * x + (x + y) * (y - x) := by grind
      have p1 : 0 < (x + y) * (y - x) := Int.mul_pos_of_neg_of_neg hs (by omega)
      have p2 : x * y + x * x ≤ 0 := by
        have : x * (x + y) ≤ 0 := Int.mul_nonpos_of_nonneg_of_nonpos hx (by omega)
        grind
      have p3 : 0 < x * y + y * y := by
        have : 0 < y * (x + y) := Int.mul_pos_of_neg_of_neg hy hs
        grind
      have w := W_down hs hu
      rcases (by omega : x * y + u ≤ 0 ∨ 0 < x * y + u) with hz | hz
      · rw [S2_neg hz w, sg_neg (by omega)]
      · rw [S2_high hz w]
        have e : ss (x + y) * u = - ((x + y) * (x + y) * u) := by
          unfold ss
          rw [ab_np (by omega)]
          grind
        rw [e, show (x * y + u) * (x * y + u) + -((x + y) * (x + y) * u) = (x * x - u) * (y * y - u) by omega, sg_mul, sg_neg (by omega : x * x - u < 0), f]
        omega
    · rw [hs, show ss 0 = 0 from rfl, Int.zero_mul, S2_zero]
      have : x = -y := by omega
      rw [this]
      congr 1
      grind
    · have p2 : 0 ≤ x * y + x * x := by
        have : 0 ≤ x * (x + y) := Int.mul_nonneg hx (by omega)
        grind
      have p3 : x * y + y * y < 0 := by
        have : y * (x + y) < 0 := Int.mul_neg_of_neg_of_pos hy hs
        grind
      have w := W_up hs hu
      rcases (by omega : 0 ≤ x * y + u ∨ x * y + u < 0) with hz | hz
      · rw [S2_pos hz w, sg_pos (by omega)]
      · rw [S2_low hz w, ss_nn (by omega), show (x + y) * (x + y) * u - (x * y + u) * (x * y + u) = -((x * x - u) * (y * y - u)) by omega, sg_flip, sg_mul, sg_pos (by omega : 0 < x * x - u), f]
        omega
  rcases (by omega : 0 ≤ x ∨ x < 0) with hx | hx <;> rcases (by omega : 0 ≤ y ∨ y < 0) with hy | hy
  · have h1 : 0 < x * y + u := by
      have := Int.mul_nonneg hx hy
      omega
    rw [S2_pos hx hu, S2_pos hy hu]
    rcases (by omega : 0 < x + y ∨ x + y = 0) with hs | hs
    · rw [S2_pos (by omega) (W_up hs hu)] <;> rfl
    · rw [hs, show ss 0 = 0 from rfl, Int.zero_mul, S2_zero, sg_pos h1] <;> rfl
  · exact half x y hx hy
  · have h := half y x hy hx
    rw [Int.mul_comm y x, Int.add_comm y x] at h
    rw [Int.mul_comm, h]
  · have h1 : 0 < x * y + u := by
      have := Int.mul_pos_of_neg_of_neg hx hy
      omega
    have n1 : (x * y + u) * (x * y + u) - (x + y) * (x + y) * u = (x * x - u) * (y * y - u) := by grind
    have e : ss (x + y) * u = - ((x + y) * (x + y) * u) := by
      unfold ss
      rw [ab_np (by omega)]
      grind
    rw [S2_low hx hu, S2_low hy hu, S2_high h1 (W_down (by omega) hu), e, show (x * y + u) * (x * y + u) + -((x + y) * (x + y) * u) = (x * x - u) * (y * y - u) by omega, ← sg_mul]
    congr 1
    grind
theorem S2_mul (x y u : Int) : S2 x u * S2 y u = S2 (x * y + ab u) (ss (x + y) * u) := by
  rcases tri u with h | h | h
  · have q := S2_mul_pos (x := -x) (y := -y) (u := -u) (by omega)
    rw [S2_flip, S2_flip, show -x + -y = -(x + y) by omega, ss_flip, show -x * -y = x * y by grind, show - ss (x + y) * -u = ss (x + y) * u by grind] at q
    rw [ab_np (by omega), ← q]
    grind
  · rw [h, S2_zero, S2_zero, Int.mul_zero, S2_zero, show ab 0 = 0 from rfl, Int.add_zero, sg_mul]
  · rw [ab_nn (by omega)]
    exact S2_mul_pos h
theorem S2_more {x y u : Int} (h : x ≤ y) (s : S2 x u = 1) : S2 y u = 1 := by
  rcases tri u with hu | hu | hu
  · rcases (by omega : x ≤ 0 ∨ 0 < x) with hx | hx
    · rw [S2_neg hx hu] at s
      cases s
    · rw [S2_high hx hu] at s
      rw [S2_high (by omega) hu]
      have z : 0 < x * x + u := by
        rcases tri (x * x + u) with k | k | k
        · rw [sg_neg k] at s
          cases s
        · rw [k] at s
          cases s
        · exact k
      have m := Int.mul_le_mul h h (by omega) (by omega)
      exact sg_pos (by omega)
  · rw [hu, S2_zero] at s ⊢
    rcases tri x with k | k | k
    · rw [sg_neg k] at s
      cases s
    · rw [k] at s
      cases s
    · exact sg_pos (by omega)
  · rcases (by omega : 0 ≤ y ∨ y < 0) with hy | hy
    · exact S2_pos hy hu
    · rw [S2_low (by omega) hu] at s
      rw [S2_low hy hu]
      have z : 0 < u - x * x := by
        rcases tri (u - x * x) with k | k | k
        · rw [sg_neg k] at s
          cases s
        · rw [k] at s
          cases s
        · exact k
      have m := Int.mul_le_mul (a := -y) (b := -y) (c := -x) (d := -x) (by omega) (by omega) (by omega) (by omega)
      rw [show -y * -y = y * y by grind, show -x * -x = x * x by grind] at m
      exact sg_pos (by omega)
theorem S2_less {x y u : Int} (h : y ≤ x) (s : S2 x u = -1) : S2 y u = -1 := by
  have q := S2_more (x := -x) (y := -y) (u := -u) (by omega) (by rw [S2_flip, s] <;> rfl)
  rw [S2_flip] at q
  omega
theorem S2_val (a u : Int) : S2 a u = 1 ∨ S2 a u = 0 ∨ S2 a u = -1 := by
  have v : ∀ x, sg x = 1 ∨ sg x = 0 ∨ sg x = -1 := fun x => by
    rcases tri x with h | h | h
    · exact .inr (.inr (sg_neg h))
    · exact .inr (.inl (by rw [h] <;> rfl))
    · exact .inl (sg_pos h)
  unfold S2
  split
  · exact v a
  · split
    · exact v u
    · rcases v a with h | h | h <;> rcases v (a * a - ab u) with k | k | k <;> rw [h, k] <;> decide
theorem sg_val {x : Int} : (sg x = 0 → x = 0) ∧ (sg x = 1 → 0 < x) ∧ (sg x = -1 → x < 0) := by
  rcases tri x with h | h | h
  · have e := sg_neg h
    exact ⟨fun z => (by omega), fun z => (by omega), fun _ => h⟩
  · have e : sg x = 0 := by rw [h] <;> rfl
    exact ⟨fun _ => h, fun z => (by omega), fun z => (by omega)⟩
  · have e := sg_pos h
    exact ⟨fun z => (by omega), fun _ => h, fun z => (by omega)⟩
theorem S2_step' {x y u : Int} (h : x < y) (s : S2 x u = 0) : S2 y u = 1 := by
  rcases tri u with hu | hu | hu
  · rcases (by omega : x ≤ 0 ∨ 0 < x) with hx | hx
    · rw [S2_neg hx hu] at s
      cases s
    · rw [S2_high hx hu] at s
      have z := sg_val.1 s
      rw [S2_high (by omega) hu]
      have m : x * x < y * y := sq_lt (by omega) h
      exact sg_pos (by omega)
  · rw [hu, S2_zero] at s ⊢
    have z := sg_val.1 s
    exact sg_pos (by omega)
  · rcases (by omega : 0 ≤ y ∨ y < 0) with hy | hy
    · exact S2_pos hy hu
    · rw [S2_low (by omega) hu] at s
      have z := sg_val.1 s
      rw [S2_low hy hu]
      have m : -y * -y < -x * -x := sq_lt (by omega) (by omega)
      rw [show -y * -y = y * y by grind, show -x * -x = x * x by grind] at m
      exact sg_pos (by omega)
theorem S2_step {x y u : Int} (h : y < x) (s : S2 x u = 0) : S2 y u = -1 := by
  have q := S2_step' (x := -x) (y := -y) (u := -u) (by omega) (by rw [S2_flip, s] <;> rfl)
  rw [S2_flip] at q
  omega
theorem S3_sq' (a u t : Int) : S3 a u (ss t) = S2 (a + t) u := by
  have e : 4 * ss a * u = ss ((a + t) + (a - t)) * u := by
    rw [show (a + t) + (a - t) = 2 * a by omega, ss_mul]
    rfl
  have e2 : a * a + ab u - t * t = (a + t) * (a - t) + ab u := by grind
  unfold S3
  rw [sg_ss, ab_ss, e, e2, ← S2_mul]
  rcases tri t with k | k | k
  · rcases S2_val a u with h | h | h
    · have y := S2_more (y := a - t) (by omega) h
      rw [h, y, sg_neg k, if_neg (by decide), if_neg (by decide)]
      omega
    · rw [h, sg_neg k, if_neg (by decide), if_pos rfl]
      exact (S2_step (by omega) h).symm
    · rw [h, sg_neg k, if_pos (.inl rfl)]
      exact (S2_less (by omega) h).symm
  · rw [k, sg_zero, if_pos (.inr rfl), Int.add_zero]
  · rcases S2_val a u with h | h | h
    · rw [h, sg_pos k, if_pos (.inl rfl)]
      exact (S2_more (by omega) h).symm
    · rw [h, sg_pos k, if_neg (by decide), if_pos rfl]
      exact (S2_step' (by omega) h).symm
    · have y := S2_less (y := a - t) (by omega) h
      rw [h, y, sg_pos k, if_neg (by decide), if_neg (by decide)]
      omega
end Lw

namespace Lw
open PySem L2
theorem two_le {a : Int} {m n : Nat} (h : a.natAbs < 2 ^ m) (hmn : m ≤ n) : a.natAbs < 2 ^ n := Nat.lt_of_lt_of_le h (Nat.pow_le_pow_right (by decide) hmn)
theorem mul_lt {a b : Int} {m n : Nat} (h1 : a.natAbs < 2 ^ m) (h2 : b.natAbs < 2 ^ n) : (a * b).natAbs < 2 ^ (m + n) := wide_lt h1 h2
theorem add_lt {a b : Int} {m : Nat} (h1 : a.natAbs < 2 ^ m) (h2 : b.natAbs < 2 ^ m) : (a + b).natAbs < 2 ^ (m + 1) := by
  rw [Nat.pow_succ]
  omega
theorem sub_lt {a b : Int} {m : Nat} (h1 : a.natAbs < 2 ^ m) (h2 : b.natAbs < 2 ^ m) : (a - b).natAbs < 2 ^ (m + 1) := by
  rw [Nat.pow_succ]
  omega
def isSqB (n : Int) : Bool := decide (0 ≤ n) && decide (isq n * isq n = n)
def gcdI (a b : Int) : Int := ((Nat.gcd a.natAbs b.natAbs : Nat) : Int)
theorem gcd_step {f r : Int} (hf : 0 ≤ f) (hr : 0 < r) : gcdI r (f % r) = gcdI f r := by
  obtain ⟨a, rfl⟩ := Int.eq_ofNat_of_zero_le hf
  obtain ⟨b, rfl⟩ := Int.eq_ofNat_of_zero_le (Int.le_of_lt hr)
  unfold gcdI
  rw [← Int.natCast_emod, Int.natAbs_natCast, Int.natAbs_natCast, Int.natAbs_natCast, Nat.gcd_comm b (a % b), Nat.gcd_comm a b, ← Nat.gcd_rec b a]
theorem gcd_zero {f : Int} (hf : 0 ≤ f) : gcdI f 0 = f := by
  unfold gcdI
  rw [show (0 : Int).natAbs = 0 from rfl, Nat.gcd_zero_right]
  omega
theorem gcd_abs (a b : Int) : gcdI (if a < 0 then -a else a) (if b < 0 then -b else b) = gcdI a b := by
  unfold gcdI
  have e : ∀ x : Int, (if x < 0 then -x else x).natAbs = x.natAbs := fun x => by split <;> omega
  rw [e, e]
theorem if_nn (a : Int) : 0 ≤ (if a < 0 then -a else a) := by split <;> omega
def gz (a b : Int) : Int := if b < 0 then -gcdI a b else gcdI a b
def redN (a b : Int) : Int := a.fdiv (gz a b)
def redD (a b : Int) : Int := b.fdiv (gz a b)
theorem gcd_pos {a b : Int} (hb : b ≠ 0) : 0 < gcdI a b := by
  unfold gcdI
  have : 0 < Nat.gcd a.natAbs b.natAbs := Nat.gcd_pos_of_pos_right _ (by omega)
  omega
theorem gcd_le {a b : Int} (hb : b ≠ 0) : (gcdI a b).natAbs ≤ b.natAbs := by
  unfold gcdI
  rw [Int.natAbs_natCast]
  exact Nat.le_of_dvd (by omega) (Nat.gcd_dvd_right _ _)
theorem gz_ne {a b : Int} (hb : b ≠ 0) : gz a b ≠ 0 := by
  have := gcd_pos (a := a) hb
  unfold gz
  split <;> omega
theorem gz_abs (a b : Int) : (gz a b).natAbs = (gcdI a b).natAbs := by
  unfold gz
  split <;> omega
theorem gz_lt {a b : Int} (hb : b ≠ 0) {n : Nat} (h : b.natAbs < n) : (gz a b).natAbs < n := by
  rw [gz_abs]
  exact Nat.lt_of_le_of_lt (gcd_le hb) h
def quadD (p q s : Int) (up : Bool) : PyData :=
  .tuple [.int (p.fdiv (gcdI (gcdI p q) s)), .int (q.fdiv (gcdI (gcdI p q) s)), .int (s.fdiv (gcdI (gcdI p q) s)), .bool up]
def fracD (a b : Int) : PyData := .tuple [.int (redN a b), .int (redD a b)]
def formD (a b r d : Int) : PyData := if b = 0 ∨ isSqB r = true then fracD (a + b * isq r) d else quadD (d * d) (0 - 2 * a * d) (a * a - b * b * r) (decide (0 < b))
/-- n / m in its one form -/
def IsFr (a b : Int) : Prop := 0 < b ∧ gcdI a b = 1
theorem gcd_dvd_l (a b : Int) : gcdI a b ∣ a := Int.natAbs_dvd_natAbs.mp (by unfold gcdI; rw [Int.natAbs_natCast]; exact Nat.gcd_dvd_left _ _)
theorem gcd_dvd_r (a b : Int) : gcdI a b ∣ b := Int.natAbs_dvd_natAbs.mp (by unfold gcdI; rw [Int.natAbs_natCast]; exact Nat.gcd_dvd_right _ _)
theorem red_pos {a b : Int} (hb : 0 < b) : redN a b = a / gcdI a b ∧ redD a b = b / gcdI a b := by
  have g := gcd_pos (a := a) (b := b) (by omega)
  unfold redN redD gz
  rw [if_neg (by omega), Int.fdiv_eq_ediv_of_nonneg _ (by omega), Int.fdiv_eq_ediv_of_nonneg _ (by omega)]
  exact ⟨rfl, rfl⟩
theorem red_fr {a b : Int} (hb : 0 < b) : IsFr (redN a b) (redD a b) := by
  have g := gcd_pos (a := a) (b := b) (by omega)
  obtain ⟨e1, e2⟩ := red_pos (a := a) hb
  obtain ⟨x, hx⟩ := gcd_dvd_l a b
  obtain ⟨y, hy⟩ := gcd_dvd_r a b
  have x1 : a / gcdI a b = x := by
    conv => lhs; lhs; rw [hx]
    exact Int.mul_ediv_cancel_left x (by omega)
  have y1 : b / gcdI a b = y := by
    conv => lhs; lhs; rw [hy]
    exact Int.mul_ediv_cancel_left y (by omega)
  have yp : 0 < y := by
    apply Decidable.byContradiction
    intro c
    have : gcdI a b * y ≤ 0 := Int.mul_nonpos_of_nonneg_of_nonpos (by omega) (by omega)
    omega
  rw [e1, e2, x1, y1]
  refine ⟨yp, ?_⟩
  have m : gcdI a b = gcdI a b * gcdI x y := by
    have z : ∀ c u v : Int, 0 ≤ c → gcdI (c * u) (c * v) = c * gcdI u v := fun c u v hc => by
      unfold gcdI
      rw [Int.natAbs_mul, Int.natAbs_mul, Nat.gcd_mul_left, Int.natCast_mul]
      have : ((c.natAbs : Nat) : Int) = c := by omega
      rw [this]
    have q := z (gcdI a b) x y (by omega)
    rw [← hx, ← hy] at q
    exact q
  have z : gcdI a b * (gcdI x y - 1) = 0 := by
    rw [Int.mul_sub, ← m]
    omega
  rcases Int.mul_eq_zero.mp z with z | z
  · omega
  · omega
theorem red_le {a b : Int} (hb : 0 < b) : (redN a b).natAbs ≤ a.natAbs ∧ (redD a b).natAbs ≤ b.natAbs := by
  have g := gcd_pos (a := a) (b := b) (by omega)
  obtain ⟨e1, e2⟩ := red_pos (a := a) hb
  rw [e1, e2]
  have d : ∀ x : Int, (x / gcdI a b).natAbs ≤ x.natAbs := fun x => Int.natAbs_ediv_le_natAbs x _
  exact ⟨d a, d b⟩
theorem red_up {a b : Int} (ha : 0 < a) (hb : 0 < b) : 0 < redN a b := by
  obtain ⟨e1, _⟩ := red_pos (a := a) hb
  have g := gcd_pos (a := a) (b := b) (by omega)
  have k1 : gcdI a b * redN a b = a := by rw [e1]; exact Int.mul_ediv_cancel' (gcd_dvd_l _ _)
  apply Decidable.byContradiction
  intro z
  have : gcdI a b * redN a b ≤ 0 := Int.mul_nonpos_of_nonneg_of_nonpos (by omega) (by omega)
  omega
def isFrB : PyData → Bool
  | .tuple [.int a, .int b] => decide (0 < b) && decide (gcdI a b = 1)
  | _ => false
def under (p q s : Int) : Int := q * q - 4 * p * s
def isRootB : PyData → Bool
  | .tuple [.int p, .int q, .int s, .bool _] => decide (0 < p) && (decide (gcdI (gcdI p q) s = 1) && (decide (0 < under p q s) && !isSqB (under p q s)))
  | _ => false
def isNumB (d : PyData) : Bool := isFrB d || isRootB d
theorem not_tup {d : PyData} (h : isTup d = false) : isFrB d = false ∧ isRootB d = false := by
  cases d <;> first | exact ⟨rfl, rfl⟩ | cases h
theorem tup_or (d : PyData) : isTup d = false ∨ ∃ ds, d = .tuple ds := by
  cases d <;> first | exact .inl rfl | exact .inr ⟨_, rfl⟩
theorem whole_or (d : PyData) : isWhole d = false ∨ ∃ i, d = .int i := by
  cases d <;> first | exact .inl rfl | exact .inr ⟨_, rfl⟩
theorem bool_or (d : PyData) : isBool d = false ∨ ∃ b, d = .bool b := by
  cases d <;> first | exact .inl rfl | exact .inr ⟨_, rfl⟩
theorem whole_is (d : PyData) : (isInt d && !isBool d) = isWhole d := by cases d <;> rfl
theorem fr_len {ds : List PyData} (h : ds.length ≠ 2) : isFrB (.tuple ds) = false := by
  unfold isFrB
  split
  · rename_i e
    cases e
    exact absurd rfl h
  · rfl
theorem root_len {ds : List PyData} (h : ds.length ≠ 4) : isRootB (.tuple ds) = false := by
  unfold isRootB
  split
  · rename_i e
    cases e
    exact absurd rfl h
  · rfl
theorem fr_whole {x y : PyData} (h : isWhole x = false ∨ isWhole y = false) : isFrB (.tuple [x, y]) = false := by
  unfold isFrB
  split
  · rename_i e
    cases e
    rcases h with h | h <;> cases h
  · rfl
theorem root_whole {x y z u : PyData} (h : isWhole x = false ∨ isWhole y = false ∨ isWhole z = false ∨ isBool u = false) : isRootB (.tuple [x, y, z, u]) = false := by
  unfold isRootB
  split
  · rename_i e
    cases e
    rcases h with h | h | h | h <;> cases h
  · rfl
theorem gcd3 {d a b : Int} (hd : d ≠ 0) (z : d.natAbs < 2 ^ 4000) : gcdI (gcdI (d * d) a) b ≠ 0 ∧ (gcdI (gcdI (d * d) a) b).natAbs < 2 ^ 9000 := by
  have dd : d * d ≠ 0 := Int.mul_ne_zero hd hd
  have sw : ∀ x y : Int, gcdI x y = gcdI y x := fun x y => by
    unfold gcdI
    rw [Nat.gcd_comm]
  have p1 : 0 < gcdI (d * d) a := by
    rw [sw]
    exact gcd_pos dd
  have p2 : 0 < gcdI (gcdI (d * d) a) b := by
    rw [sw]
    exact gcd_pos (by omega)
  have l1 : (gcdI (d * d) a).natAbs ≤ (d * d).natAbs := by
    rw [sw]
    exact gcd_le dd
  have l2 : (gcdI (gcdI (d * d) a) b).natAbs ≤ (gcdI (d * d) a).natAbs := by
    rw [sw (gcdI (d * d) a) b]
    exact gcd_le (by omega)
  exact ⟨by omega, Nat.lt_of_le_of_lt (Nat.le_trans l2 l1) (two_le (mul_lt z z) (by decide))⟩
theorem fdiv_le {x g : Int} (hg : 0 < g) {m : Nat} (h : x.natAbs < 2 ^ m) : (x.fdiv g).natAbs < 2 ^ m := by
  rw [Int.fdiv_eq_ediv_of_nonneg _ (by omega)]
  exact Nat.lt_of_le_of_lt (Int.natAbs_ediv_le_natAbs x g) h
theorem gcd_pos3 {d a b : Int} (hd : 0 < d) : 0 < gcdI (gcdI (d * d) a) b := by
  have g := (gcd3 (d := d) (a := a) (b := b))
  have n : gcdI (gcdI (d * d) a) b ≠ 0 := by
    have dd : d * d ≠ 0 := Int.mul_ne_zero (by omega) (by omega)
    have sw : ∀ x y : Int, gcdI x y = gcdI y x := fun x y => by
      unfold gcdI
      rw [Nat.gcd_comm]
    have p1 : 0 < gcdI (d * d) a := by
      rw [sw]
      exact gcd_pos dd
    have p2 : 0 < gcdI (gcdI (d * d) a) b := by
      rw [sw]
      exact gcd_pos (by omega)
    omega
  have z : 0 ≤ gcdI (gcdI (d * d) a) b := by
    unfold gcdI
    exact Int.natCast_nonneg _
  omega
theorem S2_form {a b r : Int} (h : b = 0 ∨ 0 < r) : S2 a (ss b * r) = if sg a = sg b ∨ sg b = 0 then sg a else if sg a = 0 then sg b else sg a * sg (a * a - b * b * r) := by
  have e1 : sg (ss b * r) = sg b := by
    rw [sg_mul, sg_ss]
    rcases h with h | h
    · rw [h, sg_zero, Int.zero_mul]
    · rw [sg_pos h, Int.mul_one]
  have e2 : ab (ss b * r) = b * b * r := by
    rw [ab_mul, ab_ss]
    rcases h with h | h
    · rw [h, Int.zero_mul, Int.zero_mul, Int.zero_mul]
    · rw [ab_nn (by omega)]
  unfold S2
  rw [e1, e2]
theorem S3_form {a b r c s : Int} (h : b = 0 ∨ 0 < r) (k : c = 0 ∨ 0 < s) : S3 a (ss b * r) (ss c * s) = if S2 a (ss b * r) = sg c ∨ sg c = 0 then S2 a (ss b * r) else if S2 a (ss b * r) = 0 then sg c else S2 a (ss b * r) * S2 (a * a + b * b * r - c * c * s) (ss (2 * a * b) * r) := by
  have e0 : ∀ {b r : Int}, (b = 0 ∨ 0 < r) → sg (ss b * r) = sg b ∧ ab (ss b * r) = b * b * r := fun {b r} h => by
    rw [sg_mul, sg_ss, ab_mul, ab_ss]
    rcases h with h | h
    · rw [h, sg_zero, Int.zero_mul, Int.zero_mul, Int.zero_mul, Int.zero_mul] <;> exact ⟨rfl, rfl⟩
    · rw [sg_pos h, Int.mul_one, ab_nn (by omega)] <;> exact ⟨rfl, rfl⟩
  obtain ⟨e1, e2⟩ := e0 h
  obtain ⟨e3, e4⟩ := e0 k
  have e5 : 4 * ss a * (ss b * r) = ss (2 * a * b) * r := by
    rw [ss_mul, ss_mul, show ss 2 = 4 from rfl]
    grind
  unfold S3
  rw [e3, e4, e2, e5]
theorem S2_small (a u : Int) : (S2 a u).natAbs < 2 ^ 2 := by
  rcases S2_val a u with h | h | h <;> rw [h] <;> decide
def Okay (b r : Int) : Prop := b = 0 ∨ 0 < r
/-- how two spreads compare -/
def cmp (a b r d c e s v : Int) : Int := S3 (a * v - c * d) (ss (b * v) * r) (ss (0 - e * d) * s)
/-- a' + b' root r' over d' is a + b root r over d; where r is a square, b' may be 0 -/
def Like (a b r d a' b' r' d' : Int) : Prop := ∃ g h : Int, 0 < g ∧ 0 < h ∧ g * d' = h * d ∧
  ((g * a' = h * a ∧ g * g * (ss b' * r') = h * h * (ss b * r)) ∨ (b' = 0 ∧ r' = 0 ∧ ∃ t, ss t = ss b * r ∧ g * a' = h * (a + t)))
theorem ss_up {g : Int} (hg : 0 < g) (x : Int) : ss (g * x) = g * g * ss x := by rw [ss_mul, ss_nn (by omega)]
theorem S3_eq {g h x u v x' u' v' : Int} (hg : 0 < g) (hh : 0 < h) (e1 : g * x' = h * x) (e2 : g * g * u' = h * h * u) (e3 : g * g * v' = h * h * v) : S3 x' u' v' = S3 x u v := by
  rw [← S3_up hg x' u' v', ← S3_up hh x u v, e1, e2, e3]
theorem S2_eq {g h x u x' u' : Int} (hg : 0 < g) (hh : 0 < h) (e1 : g * x' = h * x) (e2 : g * g * u' = h * h * u) : S2 x' u' = S2 x u := by
  rw [← S2_up hg x' u', ← S2_up hh x u, e1, e2]
theorem sg_eq {g h x x' : Int} (hg : 0 < g) (hh : 0 < h) (e1 : g * x' = h * x) : sg x' = sg x := by
  rw [← sg_up hg x', ← sg_up hh x, e1]
theorem cmp_like {a b r d a' b' r' d' c e s v c' e' s' v' : Int} (l1 : Like a b r d a' b' r' d') (l2 : Like c e s v c' e' s' v') : cmp a' b' r' d' c' e' s' v' = cmp a b r d c e s v := by
  obtain ⟨g, h, hg, hh, ed, w1⟩ := l1
  obtain ⟨i, j, hi, hj, ev, w2⟩ := l2
  have gi : 0 < g * i := Int.mul_pos hg hi
  have hj' : 0 < h * j := Int.mul_pos hh hj
  unfold cmp
  have top : ∀ x x' y y' : Int, g * x' = h * x → i * y' = j * y → g * i * (x' * v' - y' * d') = h * j * (x * v - y * d) := fun x x' y y' p q => by
    have k1 : g * i * (x' * v' - y' * d') = (g * x') * (i * v') - (i * y') * (g * d') := by grind
    rw [k1, p, q, ed, ev]
    grind
  have sv : i * i * ss v' = j * j * ss v := by rw [← ss_up hi, ← ss_up hj, ev]
  have sd : g * g * ss d' = h * h * ss d := by rw [← ss_up hg, ← ss_up hh, ed]
  have mid : g * g * (ss b' * r') = h * h * (ss b * r) → g * i * (g * i) * (ss (b' * v') * r') = h * j * (h * j) * (ss (b * v) * r) := fun p => by
    rw [ss_mul, ss_mul]
    have k1 : g * i * (g * i) * (ss b' * ss v' * r') = (g * g * (ss b' * r')) * (i * i * ss v') := by grind
    rw [k1, p, sv]
    grind
  have fl : ∀ x y : Int, ss (0 - x * y) = - (ss x * ss y) := fun x y => by
    rw [show 0 - x * y = -(x * y) by omega, ss_flip, ss_mul]
  have las : i * i * (ss e' * s') = j * j * (ss e * s) → g * i * (g * i) * (ss (0 - e' * d') * s') = h * j * (h * j) * (ss (0 - e * d) * s) := fun p => by
    rw [fl, fl]
    have k1 : g * i * (g * i) * (-(ss e' * ss d') * s') = -((i * i * (ss e' * s')) * (g * g * ss d')) := by grind
    rw [k1, p, sd]
    grind
  rcases w1 with ⟨p1, p2⟩ | ⟨rfl, rfl, t, p1, p2⟩ <;> rcases w2 with ⟨q1, q2⟩ | ⟨rfl, rfl, t2, q1, q2⟩
  · exact S3_eq gi hj' (top _ _ _ _ p1 q1) (mid p2) (las q2)
  · have k1 : ss (0 - e * d) * s = ss (0 - t2 * d) := by
      rw [fl, fl, q1]
      grind
    have k2 : ss (0 - 0 * d') * 0 = ss 0 := by rw [Int.mul_zero] <;> rfl
    rw [k1, k2, S3_sq', S3_sq']
    refine S2_eq gi hj' ?_ (mid p2)
    have := top _ _ _ _ p1 q2
    rw [Int.add_zero, this]
    grind
  · have k1 : ss (b * v) * r = ss (t * v) := by
      rw [ss_mul, ss_mul, p1]
      grind
    have k2 : ss (0 * v') * 0 = ss 0 := by rw [Int.mul_zero] <;> rfl
    rw [k1, k2, S3_sq, S3_sq]
    refine S2_eq gi hj' ?_ (las q2)
    have := top _ _ _ _ p2 q1
    rw [Int.add_zero, this]
    grind
  · have k1 : ss (b * v) * r = ss (t * v) := by
      rw [ss_mul, ss_mul, p1]
      grind
    have k2 : ss (0 * v') * 0 = ss 0 := by rw [Int.mul_zero] <;> rfl
    have k3 : ss (0 - e * d) * s = ss (0 - t2 * d) := by
      rw [fl, fl, q1]
      grind
    have k4 : ss (0 - 0 * d') * 0 = ss 0 := by rw [Int.mul_zero] <;> rfl
    rw [k1, k2, k3, k4, S3_sq, S3_sq, S2_sq, S2_sq]
    refine sg_eq gi hj' ?_
    have := top _ _ _ _ p2 q2
    rw [Int.add_zero, Int.add_zero, this]
    grind
theorem fdiv_of {g x : Int} (hg : 0 < g) (h : g ∣ x) : g * x.fdiv g = x := by
  rw [Int.fdiv_eq_ediv_of_nonneg _ (by omega)]
  exact Int.mul_ediv_cancel' h
theorem isSq_of {r c : Int} (h : r = c * c) : isSqB r = true := by
  have c0 : 0 ≤ c * c := by
    rcases (by omega : 0 ≤ c ∨ c ≤ 0) with z | z
    · exact Int.mul_nonneg z z
    · exact Int.mul_nonneg_of_nonpos_of_nonpos z z
  have e : isq r = ab c := by
    refine isq_uniq (ab_ge c) (by rw [ab_sq]; omega) ?_
    have s := ab_sq c
    have n := ab_ge c
    have x : (ab c + 1) * (ab c + 1) = ab c * ab c + 2 * ab c + 1 := by grind
    omega
  unfold isSqB
  rw [e, ab_sq]
  simp only [Bool.and_eq_true, decide_eq_true_eq]
  omega
theorem sq_free {A B r : Int} (hA : A ≠ 0) (h : A * A * r = B * B) (hr : 0 ≤ r) : isSqB r = true := by
  have d : A.natAbs ∣ B.natAbs := by
    rw [← Nat.pow_dvd_pow_iff (n := 2) (by decide)]
    refine ⟨r.natAbs, ?_⟩
    have q := congrArg Int.natAbs h
    rw [Int.natAbs_mul, Int.natAbs_mul, Int.natAbs_mul] at q
    rw [Nat.pow_two, Nat.pow_two]
    exact q.symm
  obtain ⟨c, hc⟩ := Int.natAbs_dvd_natAbs.mp d
  have e : A * A * (r - c * c) = 0 := by
    rw [hc] at h
    grind
  rcases Int.mul_eq_zero.mp e with z | z
  · exact absurd z (Int.mul_ne_zero hA hA)
  · exact isSq_of (c := c) (by omega)
def sqX (b r m : Int) : Int := m * m * b * b * r
def topF (a b r m : Int) : Int := if 0 ≤ b then m * a + isq (sqX b r m) else m * a - isq (sqX b r m) - (if isq (sqX b r m) * isq (sqX b r m) = sqX b r m then 0 else 1)
theorem sqX_nn {b r m : Int} (hr : 0 ≤ r) : 0 ≤ sqX b r m := by
  unfold sqX
  have s : ∀ x : Int, 0 ≤ x * x := fun x => by
    rcases (by omega : 0 ≤ x ∨ x ≤ 0) with z | z
    · exact Int.mul_nonneg z z
    · exact Int.mul_nonneg_of_nonpos_of_nonpos z z
  have e : m * m * b * b * r = (m * b) * (m * b) * r := by grind
  rw [e]
  exact Int.mul_nonneg (s _) hr
theorem sqX_up {b r m : Int} (hm : 0 < m) (hb : 0 ≤ b) : ss (m * b) * r = sqX b r m := by
  rw [ss_nn (Int.mul_nonneg (by omega) hb)]
  unfold sqX
  grind
theorem sqX_down {b r m : Int} (hm : 0 < m) (hb : b < 0) : ss (m * b) * r = - sqX b r m := by
  have e : m * b = -(m * -b) := by grind
  rw [e, ss_flip, ss_nn (Int.mul_nonneg (by omega) (by omega))]
  unfold sqX
  grind
theorem sq_cmp {x w X : Int} (hx : 0 ≤ x) (w0 : 0 ≤ w) (w1 : w * w ≤ X) (w2 : X < (w + 1) * (w + 1)) : x * x ≤ X ↔ x ≤ w := by
  constructor
  · intro h
    apply Decidable.byContradiction
    intro c
    have := sq_le (a := w + 1) (b := x) (by omega) (by omega)
    omega
  · intro h
    have := sq_le hx h
    omega
theorem sg_low {x : Int} : sg x ≠ -1 ↔ 0 ≤ x := by
  rcases tri x with h | h | h
  · rw [sg_neg h]
    omega
  · rw [h]
    decide
  · rw [sg_pos h]
    omega
theorem top_le {a b r m x : Int} (hr : 0 ≤ r) (hm : 0 < m) : x ≤ topF a b r m ↔ S2 (m * a - x) (ss (m * b) * r) ≠ -1 := by
  have n0 := sqX_nn (b := b) (m := m) hr
  unfold topF
  rcases (by omega : 0 ≤ b ∨ b < 0) with hb | hb
  · rw [if_pos hb, sqX_up hm hb]
    generalize sqX b r m = X at *
    have w0 := isq_nn X
    have w1 := isq_le n0
    have w2 := isq_lt n0
    generalize isq X = w at *
    generalize hy : m * a - x = y
    rcases (by omega : X = 0 ∨ 0 < X) with hX | hX
    · have w3 : w = 0 := by
        rcases (by omega : w = 0 ∨ 1 ≤ w) with z | z
        · exact z
        · have := Int.mul_le_mul z z (by omega) (by omega)
          omega
      rw [hX, S2_zero, sg_low]
      omega
    · rcases (by omega : 0 ≤ y ∨ y < 0) with h | h
      · rw [S2_pos h hX]
        omega
      · rw [S2_low h hX, sg_low]
        have := sq_cmp (x := -y) (by omega) w0 w1 w2
        rw [show -y * -y = y * y by grind] at this
        omega
  · rw [if_neg (by omega), sqX_down hm hb]
    generalize sqX b r m = X at *
    have w0 := isq_nn X
    have w1 := isq_le n0
    have w2 := isq_lt n0
    generalize isq X = w at *
    generalize hy : m * a - x = y
    rcases (by omega : X = 0 ∨ 0 < X) with hX | hX
    · have w3 : w = 0 := by
        rcases (by omega : w = 0 ∨ 1 ≤ w) with z | z
        · exact z
        · have := Int.mul_le_mul z z (by omega) (by omega)
          omega
      rw [hX, w3, if_pos (by decide), show -(0 : Int) = 0 from rfl, S2_zero, sg_low]
      omega
    · have w3 : 1 ≤ w := by
        rcases (by omega : w = 0 ∨ 1 ≤ w) with z | z
        · rw [z] at w2
          omega
        · exact z
      rcases (by omega : y ≤ 0 ∨ 0 < y) with h | h
      · rw [S2_neg h (by omega)]
        split <;> omega
      · rw [S2_high h (by omega), sg_low]
        have k1 := sq_cmp (x := y) (by omega) w0 w1 w2
        have k2 := sq_cmp (x := y - 1) (by omega) w0 w1 w2
        split
        · rename_i e
          constructor
          · intro l
            have := sq_le (a := w) (b := y) w0 (by omega)
            omega
          · intro l
            apply Decidable.byContradiction
            intro c
            have := sq_lt (a := y) (b := w) (by omega) (by omega)
            omega
        · rename_i e
          constructor
          · intro l
            have : ¬ y * y ≤ X := fun z => by
              have := k1.mp z
              omega
            omega
          · intro l
            apply Decidable.byContradiction
            intro c
            have : y ≤ w := by omega
            have z := k1.mpr this
            have e2 : y * y = X := by omega
            have := isq_uniq (n := X) (r := y) (by omega) (by omega) (by have := sq_lt (a := y) (b := y + 1) (by omega) (by omega); omega)
            rcases (by omega : y = w ∨ y < w) with q | q
            · rw [q] at e2
              exact e e2
            · have := sq_lt (a := y) (b := w) (by omega) q
              omega
theorem top_eq {a b r m x : Int} (hr : 0 ≤ r) (hm : 0 < m) : (isq (sqX b r m) * isq (sqX b r m) = sqX b r m ∧ topF a b r m = x) ↔ S2 (m * a - x) (ss (m * b) * r) = 0 := by
  have n0 := sqX_nn (b := b) (m := m) hr
  unfold topF
  rcases (by omega : 0 ≤ b ∨ b < 0) with hb | hb
  · rw [if_pos hb, sqX_up hm hb]
    generalize sqX b r m = X at *
    have w0 := isq_nn X
    have w1 := isq_le n0
    have w2 := isq_lt n0
    have un : ∀ y : Int, 0 ≤ y → y * y = X → isq X = y := fun y h e => isq_uniq h (by omega) (by have := sq_lt (a := y) (b := y + 1) h (by omega); omega)
    generalize isq X = w at *
    generalize hy : m * a - x = y
    rcases (by omega : X = 0 ∨ 0 < X) with hX | hX
    · have w3 : w = 0 := un 0 (by omega) (by omega)
      rw [hX, S2_zero, w3]
      constructor
      · intro z
        rw [show y = 0 by omega] <;> rfl
      · intro z
        have := sg_val.1 z
        exact ⟨rfl, by omega⟩
    · rcases (by omega : 0 ≤ y ∨ y < 0) with h | h
      · rw [S2_pos h hX]
        constructor
        · intro z
          have : w = -y := by omega
          have : w = 0 := by omega
          rw [this] at z
          omega
        · intro z
          cases z
      · rw [S2_low h hX]
        constructor
        · intro z
          have e : w = -y := by omega
          have e2 : w * w = y * y := by rw [e]; grind
          rw [show X - y * y = 0 by omega] <;> rfl
        · intro z
          have z' := sg_val.1 z
          have e := un (-y) (by omega) (by rw [show -y * -y = y * y by grind]; omega)
          rw [e]
          refine ⟨by rw [show -y * -y = y * y by grind]; omega, by omega⟩
  · rw [if_neg (by omega), sqX_down hm hb]
    generalize sqX b r m = X at *
    have w0 := isq_nn X
    have w1 := isq_le n0
    have w2 := isq_lt n0
    have un : ∀ y : Int, 0 ≤ y → y * y = X → isq X = y := fun y h e => isq_uniq h (by omega) (by have := sq_lt (a := y) (b := y + 1) h (by omega); omega)
    generalize isq X = w at *
    generalize hy : m * a - x = y
    rcases (by omega : X = 0 ∨ 0 < X) with hX | hX
    · have w3 : w = 0 := un 0 (by omega) (by omega)
      rw [hX, show -(0 : Int) = 0 from rfl, S2_zero, w3, if_pos (by decide)]
      constructor
      · intro z
        rw [show y = 0 by omega] <;> rfl
      · intro z
        have := sg_val.1 z
        exact ⟨rfl, by omega⟩
    · rcases (by omega : y ≤ 0 ∨ 0 < y) with h | h
      · rw [S2_neg h (by omega)]
        constructor
        · rintro ⟨z1, z2⟩
          rw [if_pos z1] at z2
          have : w = 0 := by omega
          rw [this] at z1
          omega
        · intro z
          cases z
      · rw [S2_high h (by omega)]
        constructor
        · rintro ⟨z1, z2⟩
          rw [if_pos z1] at z2
          have e : w = y := by omega
          rw [e] at z1
          rw [show y * y + -X = 0 by omega] <;> rfl
        · intro z
          have z' := sg_val.1 z
          have e := un y (by omega) (by omega)
          rw [e]
          have e3 : y * y = X := by omega
          exact ⟨e3, by rw [if_pos e3]; omega⟩
/-- the floor of m (a + b root r) / d, and whether it is just that -/
def flN (a b r d m : Int) : Int := topF a b r m / d
def flB (a b r d m : Int) : Bool := decide (S2 (m * a - flN a b r d m * d) (ss (m * b) * r) = 0)
theorem like_S2 {a b r d a' b' r' d' : Int} (l : Like a b r d a' b' r' d') (m n : Int) : S2 (m * a' - n * d') (ss (m * b') * r') = S2 (m * a - n * d) (ss (m * b) * r) := by
  obtain ⟨g, h, hg, hh, ed, w⟩ := l
  have top : ∀ x x' : Int, g * x' = h * x → g * (m * x' - n * d') = h * (m * x - n * d) := fun x x' p => by
    have k : g * (m * x' - n * d') = m * (g * x') - n * (g * d') := by grind
    rw [k, p, ed]
    grind
  rcases w with ⟨p1, p2⟩ | ⟨rfl, rfl, t, p1, p2⟩
  · refine S2_eq hg hh (top _ _ p1) ?_
    rw [ss_mul, ss_mul]
    have k : g * g * (ss m * ss b' * r') = ss m * (g * g * (ss b' * r')) := by grind
    rw [k, p2]
    grind
  · have k1 : ss (m * b) * r = ss (m * t) := by
      rw [ss_mul, ss_mul, p1]
      grind
    rw [Int.mul_zero, S2_zero, k1, S2_sq]
    refine sg_eq hg hh ?_
    rw [top _ _ p2]
    grind
theorem like_fl {a b r d a' b' r' d' m : Int} (l : Like a b r d a' b' r' d') (hd : 0 < d) (hd' : 0 < d') (hr : 0 ≤ r) (hr' : 0 ≤ r') (hm : 0 < m) : flN a' b' r' d' m = flN a b r d m := by
  have e : ∀ x : Int, x ≤ flN a' b' r' d' m ↔ x ≤ flN a b r d m := fun x => by
    unfold flN
    rw [Int.le_ediv_iff_mul_le hd, Int.le_ediv_iff_mul_le hd', top_le hr' hm, top_le hr hm, like_S2 l]
  have h1 := (e _).mp (Int.le_refl _)
  have h2 := (e _).mpr (Int.le_refl _)
  omega
/-- a + b root r over d, not too great -/
def Numb (a b r d : Int) : Prop := a.natAbs < 2 ^ 160 ∧ b.natAbs < 2 ^ 160 ∧ r.natAbs < 2 ^ 160 ∧ d.natAbs < 2 ^ 160 ∧ 0 ≤ r ∧ 0 < d
theorem gcd_cut {g x y z : Int} (hg : 0 < g) (h : gcdI (gcdI (g * x) (g * y)) (g * z) = g) : gcdI (gcdI x y) z = 1 := by
  have up : ∀ u v : Int, gcdI (g * u) (g * v) = g * gcdI u v := fun u v => by
    unfold gcdI
    rw [Int.natAbs_mul, Int.natAbs_mul, Nat.gcd_mul_left, Int.natCast_mul]
    have : ((g.natAbs : Nat) : Int) = g := by omega
    rw [this]
  rw [up, up] at h
  have e : g * (gcdI (gcdI x y) z - 1) = 0 := by
    rw [Int.mul_sub, h]
    omega
  rcases Int.mul_eq_zero.mp e with k | k
  · omega
  · omega
theorem quad_num {a b r d : Int} (hd : 0 < d) (hr : 0 ≤ r) (hb : b ≠ 0) (hsq : isSqB r = false) (up : Bool) : isRootB (quadD (d * d) (0 - 2 * a * d) (a * a - b * b * r) up) = true := by
  have r0 : 0 < r := by
    rcases (by omega : 0 < r ∨ r = 0) with z | z
    · exact z
    · rw [z] at hsq
      exact absurd hsq (by decide +kernel)
  unfold quadD
  have g0 := gcd_pos3 (a := 0 - 2 * a * d) (b := a * a - b * b * r) hd
  have d1 : gcdI (gcdI (d * d) (0 - 2 * a * d)) (a * a - b * b * r) ∣ d * d := Int.dvd_trans (gcd_dvd_l _ _) (gcd_dvd_l _ _)
  have d2 : gcdI (gcdI (d * d) (0 - 2 * a * d)) (a * a - b * b * r) ∣ 0 - 2 * a * d := Int.dvd_trans (gcd_dvd_l _ _) (gcd_dvd_r _ _)
  have d3 : gcdI (gcdI (d * d) (0 - 2 * a * d)) (a * a - b * b * r) ∣ a * a - b * b * r := gcd_dvd_r _ _
  have k1 := fdiv_of g0 d1
  have k2 := fdiv_of g0 d2
  have k3 := fdiv_of g0 d3
  have one := gcd_cut (x := (d * d).fdiv (gcdI (gcdI (d * d) (0 - 2 * a * d)) (a * a - b * b * r))) (y := (0 - 2 * a * d).fdiv (gcdI (gcdI (d * d) (0 - 2 * a * d)) (a * a - b * b * r))) (z := (a * a - b * b * r).fdiv (gcdI (gcdI (d * d) (0 - 2 * a * d)) (a * a - b * b * r))) g0 (by rw [k1, k2, k3])
  generalize gcdI (gcdI (d * d) (0 - 2 * a * d)) (a * a - b * b * r) = g at *
  generalize (d * d).fdiv g = p at *
  generalize (0 - 2 * a * d).fdiv g = q at *
  generalize (a * a - b * b * r).fdiv g = s at *
  have dd : 0 < d * d := Int.mul_pos hd hd
  have p0 : 0 < p := by
    apply Decidable.byContradiction
    intro z
    have : g * p ≤ 0 := Int.mul_nonpos_of_nonneg_of_nonpos (by omega) (by omega)
    omega
  have key : g * g * (q * q - 4 * p * s) = 4 * (d * d) * (b * b * r) := by
    have x : g * g * (q * q - 4 * p * s) = (g * q) * (g * q) - 4 * (g * p) * (g * s) := by grind
    rw [x, k1, k2, k3]
    grind
  have bb : 0 < b * b := by
    rcases (by omega : 0 < b ∨ b < 0) with z | z
    · exact Int.mul_pos z z
    · exact Int.mul_pos_of_neg_of_neg z z
  have rp : 0 < q * q - 4 * p * s := by
    apply Decidable.byContradiction
    intro z
    have n1 : g * g * (q * q - 4 * p * s) ≤ 0 := Int.mul_nonpos_of_nonneg_of_nonpos (Int.mul_nonneg (by omega) (by omega)) (by omega)
    have n2 : 0 < 4 * (d * d) * (b * b * r) := Int.mul_pos (by omega) (Int.mul_pos bb r0)
    omega
  have ns : isSqB (q * q - 4 * p * s) = false := by
    cases z : isSqB (q * q - 4 * p * s)
    · rfl
    · exfalso
      unfold isSqB at z
      simp only [Bool.and_eq_true, decide_eq_true_eq] at z
      have x := sq_free (A := 2 * d * b) (B := g * isq (q * q - 4 * p * s)) (r := r) (Int.mul_ne_zero (by omega) hb) (by
        have y : g * isq (q * q - 4 * p * s) * (g * isq (q * q - 4 * p * s)) = g * g * (isq (q * q - 4 * p * s) * isq (q * q - 4 * p * s)) := by grind
        rw [y, z.2, key]
        grind) (by omega)
      rw [x] at hsq
      cases hsq
  show (decide (0 < p) && (decide (gcdI (gcdI p q) s = 1) && (decide (0 < under p q s) && !isSqB (under p q s)))) = true
  have eu : under p q s = q * q - 4 * p * s := rfl
  rw [eu, ns, decide_eq_true p0, decide_eq_true one, decide_eq_true rp] <;> rfl
theorem form_num {a b r d : Int} (hd : 0 < d) (hr : 0 ≤ r) : isNumB (formD a b r d) = true := by
  unfold formD isNumB
  split
  · have fr := red_fr (a := a + b * isq r) hd
    have e : isFrB (fracD (a + b * isq r) d) = true := by
      show (decide (0 < redD (a + b * isq r) d) && decide (gcdI (redN (a + b * isq r) d) (redD (a + b * isq r) d) = 1)) = true
      rw [decide_eq_true fr.1, decide_eq_true fr.2] <;> rfl
    rw [e, Bool.true_or]
  · rename_i c
    have hsq : isSqB r = false := by
      cases z : isSqB r
      · rfl
      · exact absurd (.inr z) c
    rw [quad_num hd hr (fun z => c (.inl z)) hsq, Bool.or_true]
theorem form_fine {a b r d : Int} (h : Numb a b r d) : fine 500 (formD a b r d) := by
  obtain ⟨za, zb, zr, zd, hr, hd⟩ := h
  unfold formD
  split
  · have zs := isq_small zr
    have m := mul_lt zb zs
    have ad := add_lt (two_le za (show 160 ≤ 320 by decide)) m
    have le := red_le (a := a + b * isq r) hd
    exact ⟨two_le (m := 321) (by omega) (by decide), two_le (m := 160) (by omega) (by decide), trivial⟩
  · have g := gcd_pos3 (a := 0 - 2 * a * d) (b := a * a - b * b * r) hd
    have w1 := mul_lt zd zd
    have w2 : (2 * a : Int).natAbs < 2 ^ (2 + 160) := mul_lt (by decide) za
    have w3 := mul_lt w2 zd
    have w4 := mul_lt za za
    have w5 := mul_lt zb zb
    have w6 := mul_lt w5 zr
    have s1 : (0 - 2 * a * d : Int).natAbs < 2 ^ (322 + 1) := sub_lt (by decide) (two_le w3 (by decide))
    have s2 : (a * a - b * b * r : Int).natAbs < 2 ^ (480 + 1) := sub_lt (two_le w4 (by decide)) (two_le w6 (by decide))
    exact ⟨fdiv_le g (two_le w1 (by decide)), fdiv_le g (two_le s1 (by decide)), fdiv_le g (two_le s2 (by decide)), trivial, trivial⟩
theorem red_uniq {p q p' q' : Int} (h : IsFr p q) (h' : IsFr p' q') (e : p * q' = p' * q) : p = p' ∧ q = q' := by
  obtain ⟨q0, g⟩ := h
  obtain ⟨q0', g'⟩ := h'
  have co : Nat.Coprime p.natAbs q.natAbs := by
    unfold gcdI at g
    show Nat.gcd _ _ = 1
    omega
  have co' : Nat.Coprime p'.natAbs q'.natAbs := by
    unfold gcdI at g'
    show Nat.gcd _ _ = 1
    omega
  have en := congrArg Int.natAbs e
  rw [Int.natAbs_mul, Int.natAbs_mul] at en
  have d1 : q.natAbs ∣ q'.natAbs := Nat.Coprime.dvd_of_dvd_mul_left (Nat.Coprime.symm co) ⟨p'.natAbs, by rw [en, Nat.mul_comm]⟩
  have d2 : q'.natAbs ∣ q.natAbs := Nat.Coprime.dvd_of_dvd_mul_left (Nat.Coprime.symm co') ⟨p.natAbs, by rw [← en, Nat.mul_comm]⟩
  have eq : q = q' := by
    have := Nat.dvd_antisymm d1 d2
    omega
  subst eq
  refine ⟨?_, rfl⟩
  have z : (p - p') * q = 0 := by
    rw [Int.sub_mul, e]
    omega
  rcases Int.mul_eq_zero.mp z with k | k <;> omega
theorem red_cross {a b : Int} (hb : 0 < b) : redN a b * b = a * redD a b := by
  obtain ⟨e1, e2⟩ := red_pos (a := a) hb
  have g := gcd_pos (a := a) (b := b) (by omega)
  have k1 : gcdI a b * redN a b = a := by rw [e1]; exact Int.mul_ediv_cancel' (gcd_dvd_l _ _)
  have k2 : gcdI a b * redD a b = b := by rw [e2]; exact Int.mul_ediv_cancel' (gcd_dvd_r _ _)
  generalize redN a b = x at *
  generalize redD a b = y at *
  generalize gcdI a b = z at *
  rw [← k1, ← k2]
  grind
theorem red_congr {a b c d : Int} (hb : 0 < b) (hd : 0 < d) (e : a * d = c * b) : redN a b = redN c d ∧ redD a b = redD c d := by
  refine red_uniq (red_fr hb) (red_fr hd) ?_
  have x := red_cross (a := a) hb
  have y := red_cross (a := c) hd
  generalize redN a b = p at *
  generalize redD a b = q at *
  generalize redN c d = p' at *
  generalize redD c d = q' at *
  have z : (b * d) * (p * q' - p' * q) = 0 := by
    have k : (b * d) * (p * q' - p' * q) = (p * b) * (d * q') - (p' * d) * (b * q) := by grind
    rw [k, x, y]
    have k2 : a * q * (d * q') - c * q' * (b * q) = (a * d - c * b) * (q * q') := by grind
    rw [k2, e]
    grind
  rcases Int.mul_eq_zero.mp z with k | k
  · exact absurd k (Int.mul_ne_zero (by omega) (by omega))
  · omega
theorem redN_neg {a b : Int} (hb : 0 < b) : redN (-a) b = - redN a b ∧ redD (-a) b = redD a b := by
  have f := red_fr (a := a) hb
  refine red_uniq (p' := - redN a b) (q' := redD a b) (red_fr (a := -a) hb) ⟨f.1, ?_⟩ ?_
  · have g := f.2
    unfold gcdI at g ⊢
    rw [Int.natAbs_neg]
    exact g
  · have x := red_cross (a := -a) hb
    have y := red_cross (a := a) hb
    generalize redN (-a) b = p at *
    generalize redD (-a) b = q at *
    generalize redN a b = p' at *
    generalize redD a b = q' at *
    have z : b * (p * q' - -p' * q) = 0 := by
      have k : b * (p * q' - -p' * q) = (p * b) * q' + (p' * b) * q := by grind
      rw [k, x, y]
      grind
    rcases Int.mul_eq_zero.mp z with k | k <;> omega
/-- a fraction in its one form is its own value -/
theorem fr_self {a b : Int} (h : IsFr a b) : redN a b = a ∧ redD a b = b := by
  have f := red_fr (a := a) h.1
  refine red_uniq f h ?_
  have x := red_cross (a := a) h.1
  rw [x]
theorem gcd_up {k : Int} (hk : 0 < k) (x y : Int) : gcdI (k * x) (k * y) = k * gcdI x y := by
  unfold gcdI
  rw [Int.natAbs_mul, Int.natAbs_mul, Nat.gcd_mul_left, Int.natCast_mul]
  have : ((k.natAbs : Nat) : Int) = k := by omega
  rw [this]
theorem gcd_nn (a b : Int) : 0 ≤ gcdI a b := by
  unfold gcdI
  exact Int.natCast_nonneg _
theorem quad_up {k p q s : Int} (u : Bool) (hk : 0 < k) : quadD (k * p) (k * q) (k * s) u = quadD p q s u := by
  have g := gcd_nn (gcdI p q) s
  have e : ∀ x : Int, (k * x).fdiv (k * gcdI (gcdI p q) s) = x.fdiv (gcdI (gcdI p q) s) := fun x => by
    rw [Int.fdiv_eq_ediv_of_nonneg _ (Int.mul_nonneg (by omega) g), Int.fdiv_eq_ediv_of_nonneg _ g, Int.mul_ediv_mul_of_pos _ _ hk]
  unfold quadD
  rw [gcd_up hk, gcd_up hk, e, e, e]
theorem quad_congr {k l p q s p' q' s' : Int} (u : Bool) (hk : 0 < k) (hl : 0 < l) (e1 : k * p = l * p') (e2 : k * q = l * q') (e3 : k * s = l * s') : quadD p q s u = quadD p' q' s' u := by
  rw [← quad_up u hk, ← quad_up (p := p') u hl, e1, e2, e3]
theorem ss_inj {x y : Int} (h : ss x = ss y) : x = y := by
  have s : sg x = sg y := by rw [← sg_ss x, ← sg_ss y, h]
  have a : x * x = y * y := by rw [← ab_ss x, ← ab_ss y, h]
  have n : (x - y) * (x + y) = 0 := by
    have : (x - y) * (x + y) = x * x - y * y := by grind
    omega
  rcases Int.mul_eq_zero.mp n with k | k
  · omega
  · have e : x = -y := by omega
    rcases tri y with z | z | z
    · rw [sg_neg z, sg_pos (by omega)] at s
      cases s
    · omega
    · rw [sg_pos z, sg_neg (by omega)] at s
      cases s
/-- the same value, each on its own root -/
def Alike (a b r d a' b' r' d' : Int) : Prop := ∃ g h : Int, 0 < g ∧ 0 < h ∧ g * d' = h * d ∧ g * a' = h * a ∧ g * g * (ss b' * r') = h * h * (ss b * r)
theorem Alike.symm {a b r d a' b' r' d' : Int} (l : Alike a b r d a' b' r' d') : Alike a' b' r' d' a b r d := by
  obtain ⟨g, h, hg, hh, e1, e2, e3⟩ := l
  exact ⟨h, g, hh, hg, e1.symm, e2.symm, e3.symm⟩
theorem isSq_root {r : Int} (h : isSqB r = true) : isq r * isq r = r := by
  unfold isSqB at h
  simp only [Bool.and_eq_true, decide_eq_true_eq] at h
  exact h.2
theorem alike_flat {a b r d a' b' r' d' : Int} (l : Alike a b r d a' b' r' d') (hr' : 0 ≤ r') (c : b = 0 ∨ isSqB r = true) : b' = 0 ∨ isSqB r' = true := by
  obtain ⟨g, h, hg, hh, e1, e2, e3⟩ := l
  rcases (by omega : b' = 0 ∨ b' ≠ 0) with k | k
  · exact .inl k
  refine .inr ?_
  have sq : ∃ t, ss b * r = ss t := by
    rcases c with c | c
    · exact ⟨0, by rw [c, show ss 0 = 0 from rfl, Int.zero_mul]⟩
    · exact ⟨b * isq r, by rw [ss_mul, ss_nn (isq_nn r), isSq_root c]⟩
  obtain ⟨t, ht⟩ := sq
  have ab2 := congrArg ab e3
  rw [ab_mul, ab_mul (ss b'), ab_ss, ht, ab_mul (h * h), ab_ss, ab_nn (x := g * g) (Int.mul_nonneg (by omega) (by omega)), ab_nn (x := h * h) (Int.mul_nonneg (by omega) (by omega)), ab_nn hr'] at ab2
  refine sq_free (A := g * b') (B := h * t) (Int.mul_ne_zero (by omega) k) ?_ hr'
  grind
theorem form_same {a b r d a' b' r' d' : Int} (l : Alike a b r d a' b' r' d') (hd : 0 < d) (hd' : 0 < d') (hr : 0 ≤ r) (hr' : 0 ≤ r') : formD a b r d = formD a' b' r' d' := by
  unfold formD
  by_cases c : b = 0 ∨ isSqB r = true
  · have c' := alike_flat l hr' c
    rw [if_pos c, if_pos c']
    obtain ⟨g, h, hg, hh, e1, e2, e3⟩ := l
    have rt : ∀ {b r : Int}, (b = 0 ∨ isSqB r = true) → ss b * r = ss (b * isq r) := fun {b r} c => by
      rcases c with c | c
      · rw [c, show ss 0 = 0 from rfl, Int.zero_mul, Int.zero_mul] <;> rfl
      · rw [ss_mul, ss_nn (isq_nn r), isSq_root c]
    rw [rt c, rt c', ← ss_up hg, ← ss_up hh] at e3
    have e4 := ss_inj e3
    generalize b * isq r = x at *
    generalize b' * isq r' = y at *
    obtain ⟨k1, k2⟩ := red_congr (a := a + x) (b := d) (c := a' + y) (d := d') hd hd' (by
      have z : g * ((a + x) * d' - (a' + y) * d) = 0 := by
        have k : g * ((a + x) * d' - (a' + y) * d) = (a + x) * (g * d') - (g * a' + g * y) * d := by grind
        rw [k, e1, e2, e4]
        grind
      rcases Int.mul_eq_zero.mp z with k | k <;> omega)
    unfold fracD
    rw [k1, k2]
  · have c' : ¬ (b' = 0 ∨ isSqB r' = true) := fun z => c (alike_flat l.symm hr z)
    rw [if_neg c, if_neg c']
    obtain ⟨g, h, hg, hh, e1, e2, e3⟩ := l
    have pos : ∀ {b r : Int}, 0 ≤ r → ¬ (b = 0 ∨ isSqB r = true) → 0 < r ∧ b ≠ 0 := fun {b r} hr c => by
      refine ⟨?_, fun z => c (.inl z)⟩
      rcases (by omega : 0 < r ∨ r = 0) with z | z
      · exact z
      · exact absurd (.inr (by rw [z]; decide +kernel)) c
    obtain ⟨r0, b0⟩ := pos hr c
    obtain ⟨r0', b0'⟩ := pos hr' c'
    have gg : 0 < g * g := Int.mul_pos hg hg
    have hhp : 0 < h * h := Int.mul_pos hh hh
    have sgb : sg b' = sg b := by
      have q := congrArg sg e3
      rw [sg_up gg, sg_up hhp, sg_mul, sg_mul, sg_ss, sg_ss, sg_pos r0, sg_pos r0', Int.mul_one, Int.mul_one] at q
      exact q
    have up : decide (0 < b) = decide (0 < b') := by
      rcases tri b with z | z | z
      · have k := sgb
        rw [sg_neg z] at k
        have := sg_val.2.2 k
        rw [Bool.eq_iff_iff]
        simp only [decide_eq_true_eq]
        omega
      · exact absurd z b0
      · have k := sgb
        rw [sg_pos z] at k
        have := sg_val.2.1 k
        rw [Bool.eq_iff_iff]
        simp only [decide_eq_true_eq]
        omega
    have ab2 := congrArg ab e3
    rw [ab_mul, ab_mul (ss b'), ab_ss, ab_mul (h * h), ab_mul (ss b), ab_ss, ab_nn (x := g * g) (by omega), ab_nn (x := h * h) (by omega), ab_nn hr, ab_nn hr'] at ab2
    rw [up]
    refine quad_congr _ hhp gg ?_ ?_ ?_
    · have k : h * h * (d * d) = (h * d) * (h * d) := by grind
      rw [k, ← e1]
      grind
    · have k : h * h * (0 - 2 * a * d) = -(2 * (h * a) * (h * d)) := by grind
      rw [k, ← e1, ← e2]
      grind
    · have k : h * h * (a * a - b * b * r) = (h * a) * (h * a) - h * h * (b * b * r) := by grind
      rw [k, ← e2, ← ab2]
      grind
end Lw

namespace Lw
open PySem L2
def Fine4 (a b r d : Int) : Prop := a.natAbs < 2 ^ 5300 ∧ b.natAbs < 2 ^ 900 ∧ r.natAbs < 2 ^ 10600 ∧ d.natAbs < 2 ^ 5300
/-- a number's form by data; its spread: a + b root r over d -/
def NumD (x : PyData) (a b r d : Int) : Prop :=
  (x = .tuple [.int a, .int d] ∧ b = 0 ∧ r = 0) ∨
  ∃ (p q s : Int) (u : Bool), x = .tuple [.int p, .int q, .int s, .bool u] ∧ a = -q ∧ b = (if u = true then 1 else -1) ∧ r = q * q - 4 * p * s ∧ d = 2 * p ∧ p.natAbs < 2 ^ 5300 ∧ q.natAbs < 2 ^ 5300 ∧ s.natAbs < 2 ^ 5300
/-- a form as a number -/
theorem form_d {a b r d : Int} (hd : 0 < d) (hr : 0 ≤ r) (za : a.natAbs < 2 ^ 2600) (zb : b.natAbs < 2 ^ 1740) (zr : r.natAbs < 2 ^ 1715) (zd : d.natAbs < 2 ^ 2600) :
    ∃ a' b' r' d', NumD (formD a b r d) a' b' r' d' ∧ Like a b r d a' b' r' d' ∧ 0 < d' ∧ Okay b' r' ∧ Fine4 a' b' r' d' ∧ (b' ≠ 0 → isSqB r' = false) := by
  unfold formD
  split
  · rename_i c
    have g0 := gcd_pos (a := a + b * isq r) (b := d) (by omega)
    obtain ⟨e1, e2⟩ := red_pos (a := a + b * isq r) hd
    have le := red_le (a := a + b * isq r) hd
    have fr := red_fr (a := a + b * isq r) hd
    have m := mul_lt zb (isq_small zr)
    have ad := add_lt (two_le za (show 2600 ≤ 3455 by decide)) (two_le m (show 1740 + 1715 ≤ 3455 by decide))
    refine ⟨_, 0, 0, _, .inl ⟨rfl, rfl, rfl⟩, ⟨_, 1, g0, by decide, ?_, .inr ⟨rfl, rfl, b * isq r, ?_, ?_⟩⟩, fr.1, .inl rfl, ⟨two_le (m := 3456) (by omega) (by decide), by decide, by decide, two_le (m := 2600) (by omega) (by decide)⟩, fun z => absurd rfl z⟩
    · rw [e2, Int.one_mul]
      exact Int.mul_ediv_cancel' (gcd_dvd_r _ _)
    · rcases c with c | c
      · rw [c, Int.zero_mul] <;> simp [show ss 0 = 0 from rfl]
      · unfold isSqB at c
        simp only [Bool.and_eq_true, decide_eq_true_eq] at c
        rw [ss_mul, ss_nn (isq_nn r), c.2]
    · rw [e1, Int.one_mul]
      exact Int.mul_ediv_cancel' (gcd_dvd_l _ _)
  · rename_i c
    have hb : b ≠ 0 := fun z => c (.inl z)
    have hsq : isSqB r = false := by
      cases z : isSqB r
      · rfl
      · exact absurd (.inr z) c
    have r0 : 0 < r := by
      rcases (by omega : 0 < r ∨ r = 0) with z | z
      · exact z
      · rw [z] at hsq
        exact absurd hsq (by decide +kernel)
    have g0 := gcd_pos3 (a := 0 - 2 * a * d) (b := a * a - b * b * r) hd
    have d1 : gcdI (gcdI (d * d) (0 - 2 * a * d)) (a * a - b * b * r) ∣ d * d := Int.dvd_trans (gcd_dvd_l _ _) (gcd_dvd_l _ _)
    have d2 : gcdI (gcdI (d * d) (0 - 2 * a * d)) (a * a - b * b * r) ∣ 0 - 2 * a * d := Int.dvd_trans (gcd_dvd_l _ _) (gcd_dvd_r _ _)
    have d3 : gcdI (gcdI (d * d) (0 - 2 * a * d)) (a * a - b * b * r) ∣ a * a - b * b * r := gcd_dvd_r _ _
    have w1 := mul_lt zd zd
    have w2 : (2 * a : Int).natAbs < 2 ^ (2 + 2600) := mul_lt (by decide) za
    have w3 := mul_lt w2 zd
    have w4 := mul_lt za za
    have w5 := mul_lt zb zb
    have w6 := mul_lt w5 zr
    have s1 : (0 - 2 * a * d : Int).natAbs < 2 ^ (5202 + 1) := sub_lt (by decide) (two_le w3 (by decide))
    have s2 : (a * a - b * b * r : Int).natAbs < 2 ^ (5200 + 1) := sub_lt (two_le w4 (by decide)) (two_le w6 (by decide))
    have f1 := fdiv_le g0 (two_le w1 (show 2600 + 2600 ≤ 5250 by decide))
    have f2 := fdiv_le g0 (two_le s1 (show 5202 + 1 ≤ 5250 by decide))
    have f3 := fdiv_le g0 (two_le s2 (show 5200 + 1 ≤ 5250 by decide))
    have k1 := fdiv_of g0 d1
    have k2 := fdiv_of g0 d2
    have k3 := fdiv_of g0 d3
    obtain ⟨p, hgp⟩ : ∃ p, (d * d).fdiv (gcdI (gcdI (d * d) (0 - 2 * a * d)) (a * a - b * b * r)) = p := ⟨_, rfl⟩
    obtain ⟨q, hgq⟩ : ∃ p, (0 - 2 * a * d).fdiv (gcdI (gcdI (d * d) (0 - 2 * a * d)) (a * a - b * b * r)) = p := ⟨_, rfl⟩
    obtain ⟨s, hgs⟩ : ∃ p, (a * a - b * b * r).fdiv (gcdI (gcdI (d * d) (0 - 2 * a * d)) (a * a - b * b * r)) = p := ⟨_, rfl⟩
    rw [hgp] at f1 k1
    rw [hgq] at f2 k2
    rw [hgs] at f3 k3
    generalize hg : gcdI (gcdI (d * d) (0 - 2 * a * d)) (a * a - b * b * r) = g at *
    have dd : 0 < d * d := Int.mul_pos hd hd
    have p0 : 0 < p := by
      apply Decidable.byContradiction
      intro z
      have : g * p ≤ 0 := Int.mul_nonpos_of_nonneg_of_nonpos (by omega) (by omega)
      omega
    have key : g * g * (q * q - 4 * p * s) = 4 * (d * d) * (b * b * r) := by
      have x : g * g * (q * q - 4 * p * s) = (g * q) * (g * q) - 4 * (g * p) * (g * s) := by grind
      rw [x, k1, k2, k3]
      grind
    have bb : 0 < b * b := by
      rcases (by omega : 0 < b ∨ b < 0) with z | z
      · exact Int.mul_pos z z
      · exact Int.mul_pos_of_neg_of_neg z z
    have rp : 0 < q * q - 4 * p * s := by
      apply Decidable.byContradiction
      intro z
      have n1 : g * g * (q * q - 4 * p * s) ≤ 0 := Int.mul_nonpos_of_nonneg_of_nonpos (Int.mul_nonneg (by omega) (by omega)) (by omega)
      have n2 : 0 < 4 * (d * d) * (b * b * r) := Int.mul_pos (by omega) (Int.mul_pos bb r0)
      omega
    have y1 := mul_lt f2 f2
    have y2 : (4 * p : Int).natAbs < 2 ^ (3 + 5250) := mul_lt (by decide) f1
    have y3 := mul_lt y2 f3
    refine ⟨-q, (if decide (0 < b) = true then 1 else -1), q * q - 4 * p * s, 2 * p, .inr ⟨p, q, s, decide (0 < b), by unfold quadD; rw [hg, hgp, hgq, hgs], rfl, rfl, rfl, rfl, two_le f1 (by decide), two_le f2 (by decide), two_le f3 (by decide)⟩,
      ⟨g, 2 * d, g0, by omega, by grind, .inl ⟨by grind, ?_⟩⟩, by omega, .inr rp, ⟨two_le (m := 5250) (by omega) (by decide), by split <;> decide, two_le (sub_lt (two_le y1 (show 5250 + 5250 ≤ 10510 by decide)) (two_le y3 (show 3 + 5250 + 5250 ≤ 10510 by decide))) (by decide), two_le (m := 5252) (by omega) (by decide)⟩, fun _ => ?_⟩
    rotate_left
    · cases z : isSqB (q * q - 4 * p * s)
      · rfl
      · exfalso
        unfold isSqB at z
        simp only [Bool.and_eq_true, decide_eq_true_eq] at z
        have x := sq_free (A := 2 * d * b) (B := g * isq (q * q - 4 * p * s)) (r := r) (Int.mul_ne_zero (by omega) hb) (by
          have y : g * isq (q * q - 4 * p * s) * (g * isq (q * q - 4 * p * s)) = g * g * (isq (q * q - 4 * p * s) * isq (q * q - 4 * p * s)) := by grind
          rw [y, z.2, key]
          grind) (by omega)
        rw [x] at hsq
        cases hsq
    rcases (by omega : 0 < b ∨ b < 0) with z | z
    · rw [if_pos (decide_eq_true z), show ss 1 = 1 from rfl, ss_nn (by omega), Int.one_mul, key]
      grind
    · have zz : ¬ decide (0 < b) = true := by simp; omega
      have sb : ss b = -(b * b) := by
        unfold ss
        rw [ab_np (by omega)]
        grind
      rw [if_neg zz, show ss (-1) = -1 from rfl, sb]
      have x : g * g * (-1 * (q * q - 4 * p * s)) = -(g * g * (q * q - 4 * p * s)) := by grind
      rw [x, key]
      grind
theorem num_bits_d {x : PyData} {a b r d : Int} (n : NumD x a b r d) (f : fine 500 x) : a.natAbs < 2 ^ 500 ∧ b.natAbs < 2 ^ 2 ∧ r.natAbs < 2 ^ 1005 ∧ d.natAbs < 2 ^ 502 := by
  rcases n with ⟨rfl, rfl, rfl⟩ | ⟨p, q, s, u, rfl, rfl, rfl, rfl, rfl, _, _, _⟩
  · exact ⟨f.1, by decide, by decide, two_le f.2.1 (by decide)⟩
  · obtain ⟨z1, z2, z3, _⟩ := f
    have z1' : p.natAbs < 2 ^ 500 := z1
    have z2' : q.natAbs < 2 ^ 500 := z2
    have z3' : s.natAbs < 2 ^ 500 := z3
    have y1 := mul_lt z2' z2'
    have y2 := mul_lt (mul_lt (show (4 : Int).natAbs < 2 ^ 3 by decide) z1') z3'
    have y3 := sub_lt (two_le y1 (show 500 + 500 ≤ 1003 by decide)) (two_le y2 (show 3 + 500 + 500 ≤ 1003 by decide))
    exact ⟨by omega, by split <;> decide, two_le y3 (by decide), two_le (mul_lt (show (2 : Int).natAbs < 2 ^ 2 by decide) z1') (by decide)⟩
theorem num_r0 {x : PyData} {a b r d : Int} (n : NumD x a b r d) (o : Okay b r) : 0 ≤ r := by
  rcases o with o | o
  · rcases n with ⟨_, _, e⟩ | ⟨p', q', s', u', _, _, e, _⟩
    · omega
    · rw [e] at o
      split at o <;> cases o
  · omega
theorem fl_wide {a b r d m : Int} (za : a.natAbs < 2 ^ 160) (zb : b.natAbs < 2 ^ 160) (zr : r.natAbs < 2 ^ 160) (zm : m.natAbs < 2 ^ 20) : (flN a b r d m).natAbs < 2 ^ 602 := by
  have e : topF a b r m = (if 0 ≤ b then m * a + isq (sqX b r m) else m * a - isq (sqX b r m) - (if isq (sqX b r m) * isq (sqX b r m) = sqX b r m then 0 else 1)) := rfl
  have w1 := mul_lt zm za
  have w2 := isq_small (mul_lt (mul_lt (mul_lt (mul_lt zm zm) zb) zb) zr)
  have w3 := two_le w1 (show 20 + 160 ≤ 600 by decide)
  have w4 := two_le w2 (show 20 + 20 + 160 + 160 + 160 ≤ 600 by decide)
  have w5 : (isq (sqX b r m)).natAbs < 2 ^ 600 := w4
  have w6 : (topF a b r m).natAbs < 2 ^ 602 := by
    rw [e]
    split
    · omega
    · split <;> omega
  have w7 : (flN a b r d m).natAbs ≤ (topF a b r m).natAbs := Int.natAbs_ediv_le_natAbs _ _
  omega
theorem like_refl (a b r d : Int) : Like a b r d a b r d := ⟨1, 1, by decide, by decide, rfl, .inl ⟨rfl, rfl⟩⟩
theorem near_cmp {n A B R W a3 b3 r3 d3 : Int} (l : Like A B R W a3 b3 r3 d3) : cmp n 0 0 1 a3 b3 r3 d3 = - S2 (A - n * W) (ss B * R) := by
  rw [cmp_like (like_refl n 0 0 1) l, ← S2_flip]
  unfold cmp
  have k2 : ss (0 * W) * 0 = ss 0 := by rw [Int.mul_zero] <;> rfl
  have k3 : ss (0 - B * 1) * R = -(ss B * R) := by
    rw [show 0 - B * 1 = -B by omega, ss_flip]
    grind
  rw [k2, S3_sq, k3]
  congr 1
  grind
end Lw

namespace Lw
open PySem L2
/-! ### numbers p + q root r over one r, their order -/
/-- p + q root r is from 0 on, by squares -/
def NN (p q r : Int) : Prop := (0 ≤ p ∧ 0 ≤ q) ∨ (0 ≤ p ∧ q * q * r ≤ p * p) ∨ (0 ≤ q ∧ p * p ≤ q * q * r)
theorem sq_mono {a b : Int} (h0 : 0 ≤ a) (h : a ≤ b) : a * a ≤ b * b := Int.mul_le_mul h h h0 (by omega)
theorem sq_back {a b : Int} (hb : 0 ≤ b) (h : a * a ≤ b * b) : a ≤ b := by
  apply Decidable.byContradiction
  intro c
  have := sq_lt hb (show b < a by omega)
  omega
theorem sq_nn (a : Int) : 0 ≤ a * a := by
  rcases (by omega : 0 ≤ a ∨ a ≤ 0) with h | h
  · exact Int.mul_nonneg h h
  · exact Int.mul_nonneg_of_nonpos_of_nonpos h h
theorem sq_pos {a : Int} (h : a ≠ 0) : 0 < a * a := by
  rcases (by omega : 0 < a ∨ a < 0) with h | h
  · exact Int.mul_pos h h
  · exact Int.mul_pos_of_neg_of_neg h h
theorem cut_sq {y a b : Int} (hy : y ≠ 0) (h : y * y * a ≤ y * y * b) : a ≤ b := Int.le_of_mul_le_mul_left h (sq_pos hy)
theorem nn_iff {p q r : Int} (hr : 0 ≤ r) : S2 p (ss q * r) ≠ -1 ↔ NN p q r := by
  rcases (by omega : r = 0 ∨ 0 < r) with h | h
  · subst h
    rw [Int.mul_zero, S2_zero, sg_low]
    unfold NN
    rw [Int.mul_zero]
    constructor
    · intro k
      exact .inr (.inl ⟨k, sq_nn p⟩)
    · rintro (k | k | k)
      · exact k.1
      · exact k.1
      · apply Decidable.byContradiction
        intro z
        have := sq_pos (a := p) (by omega)
        omega
  · rw [S2_form (.inr h)]
    unfold NN
    have hq := fun (z : q ≠ 0) => Int.mul_pos (sq_pos z) h
    rcases tri p with hp | hp | hp <;> rcases tri q with hk | hk | hk
    · rw [sg_neg hp, sg_neg hk, if_pos (.inl rfl)]
      exact ⟨fun z => absurd rfl z, fun z => by omega⟩
    · rw [hk, sg_zero, if_pos (.inr rfl), sg_neg hp]
      refine ⟨fun z => absurd rfl z, fun z => ?_⟩
      have := sq_pos (a := p) (by omega)
      rw [Int.zero_mul, Int.zero_mul] at z
      omega
    · rw [sg_neg hp, sg_pos hk, if_neg (by decide), if_neg (by decide)]
      have e : -1 * sg (p * p - q * q * r) ≠ -1 ↔ p * p ≤ q * q * r := by
        rcases tri (p * p - q * q * r) with c | c | c
        · rw [sg_neg c]
          exact ⟨fun _ => by omega, fun _ => by decide⟩
        · rw [c]
          exact ⟨fun _ => by omega, fun _ => by decide⟩
        · rw [sg_pos c]
          exact ⟨fun z => absurd rfl z, fun _ => by omega⟩
      rw [e]
      exact ⟨fun z => .inr (.inr ⟨by omega, z⟩), fun z => by rcases z with z | z | z <;> omega⟩
    · rw [hp, sg_zero, sg_neg hk, if_neg (by decide), if_pos rfl]
      refine ⟨fun z => absurd rfl z, fun z => ?_⟩
      have := hq (by omega)
      rw [Int.mul_zero] at z
      omega
    · rw [hp, hk, sg_zero, if_pos (.inl rfl)]
      exact ⟨fun _ => .inl ⟨by omega, by omega⟩, fun _ => by decide⟩
    · rw [hp, sg_zero, sg_pos hk, if_neg (by decide), if_pos rfl]
      exact ⟨fun _ => .inl ⟨by omega, by omega⟩, fun _ => by decide⟩
    · rw [sg_pos hp, sg_neg hk, if_neg (by decide), if_neg (by decide), Int.one_mul]
      rw [sg_low]
      exact ⟨fun z => .inr (.inl ⟨by omega, by omega⟩), fun z => by rcases z with z | z | z <;> omega⟩
    · rw [hk, sg_zero, if_pos (.inr rfl), sg_pos hp]
      exact ⟨fun _ => .inl ⟨by omega, by omega⟩, fun _ => by decide⟩
    · rw [sg_pos hp, sg_pos hk, if_pos (.inl rfl)]
      exact ⟨fun _ => .inl ⟨by omega, by omega⟩, fun _ => by decide⟩
theorem nn_swap {p q r p' q' : Int} (hr : 0 ≤ r) (hp : 0 ≤ p) (h : q * q * r ≤ p * p) (hq' : 0 ≤ q') (h' : p' * p' ≤ q' * q' * r) : NN (p + p') (q + q') r := by
  have key : ∀ {a b c d : Int}, 0 ≤ a → 0 ≤ b → a ≤ b → 0 ≤ c → c ≤ d → a * c ≤ b * d := fun ha hb hab hc hcd => Int.mul_le_mul hab hcd hc hb
  by_cases c1 : 0 ≤ p'
  · -- p' from 0 on
    by_cases c2 : 0 ≤ q + q'
    · exact .inl ⟨by omega, c2⟩
    · refine .inr (.inl ⟨by omega, ?_⟩)
      have m1 := sq_mono (a := -(q + q')) (b := -q) (by omega) (by omega)
      have m2 := Int.mul_le_mul_of_nonneg_right m1 hr
      have m3 := sq_mono hp (show p ≤ p + p' by omega)
      have e1 : -(q + q') * -(q + q') * r = (q + q') * (q + q') * r := by grind
      have e2 : -q * -q * r = q * q * r := by grind
      omega
  by_cases c2 : 0 ≤ q
  · by_cases c3 : 0 ≤ p + p'
    · exact .inl ⟨c3, by omega⟩
    · refine .inr (.inr ⟨by omega, ?_⟩)
      have m1 := sq_mono (a := -(p + p')) (b := -p') (by omega) (by omega)
      have m3 := Int.mul_le_mul_of_nonneg_right (sq_mono hq' (show q' ≤ q + q' by omega)) hr
      have e1 : -(p + p') * -(p + p') = (p + p') * (p + p') := by grind
      have e2 : -p' * -p' = p' * p' := by grind
      omega
  -- p' and q below 0
  obtain ⟨z, rfl⟩ : ∃ z, p' = -z := ⟨-p', by omega⟩
  obtain ⟨y, rfl⟩ : ∃ y, q = -y := ⟨-q, by omega⟩
  have hz : 0 < z := by omega
  have hy : 0 < y := by omega
  have h1 : y * y * r ≤ p * p := by
    have e : -y * -y * r = y * y * r := by grind
    omega
  have h2 : z * z ≤ q' * q' * r := by
    have e : -z * -z = z * z := by grind
    omega
  have q0 : q' ≠ 0 := fun k => by
    rw [k, Int.zero_mul, Int.zero_mul] at h2
    have := Int.mul_pos hz hz
    omega
  have yz : y * z ≤ p * q' := by
    refine sq_back (Int.mul_nonneg hp hq') ?_
    have m1 := Int.mul_le_mul_of_nonneg_left h2 (sq_nn y)
    have m2 := Int.mul_le_mul_of_nonneg_right h1 (sq_nn q')
    have e1 : y * z * (y * z) = y * y * (z * z) := by grind
    have e2 : y * y * (q' * q' * r) = y * y * r * (q' * q') := by grind
    have e3 : p * q' * (p * q') = p * p * (q' * q') := by grind
    omega
  by_cases c3 : z ≤ p <;> by_cases c4 : y ≤ q'
  · exact .inl ⟨by omega, by omega⟩
  · refine .inr (.inl ⟨by omega, ?_⟩)
    have m0 : p * (y - q') ≤ (p - z) * y := by
      have e1 : p * (y - q') = p * y - p * q' := by grind
      have e2 : (p - z) * y = p * y - y * z := by grind
      omega
    have m1 := sq_mono (Int.mul_nonneg hp (show 0 ≤ y - q' by omega)) m0
    have m2 := Int.mul_le_mul_of_nonneg_right h1 (sq_nn (y - q'))
    refine cut_sq (y := y) (by omega) ?_
    have e1 : y * y * ((-y + q') * (-y + q') * r) = y * y * r * ((y - q') * (y - q')) := by grind
    have e2 : p * (y - q') * (p * (y - q')) = p * p * ((y - q') * (y - q')) := by grind
    have e3 : (p - z) * y * ((p - z) * y) = y * y * ((p + -z) * (p + -z)) := by grind
    omega
  · refine .inr (.inr ⟨by omega, ?_⟩)
    have m0 : (z - p) * q' ≤ z * (q' - y) := by
      have e1 : (z - p) * q' = z * q' - p * q' := by grind
      have e2 : z * (q' - y) = z * q' - y * z := by grind
      omega
    have m1 := sq_mono (Int.mul_nonneg (show 0 ≤ z - p by omega) hq') m0
    have m2 := Int.mul_le_mul_of_nonneg_right h2 (sq_nn (q' - y))
    refine cut_sq (y := q') q0 ?_
    have e1 : q' * q' * ((p + -z) * (p + -z)) = (z - p) * q' * ((z - p) * q') := by grind
    have e2 : z * (q' - y) * (z * (q' - y)) = z * z * ((q' - y) * (q' - y)) := by grind
    have e3 : q' * q' * r * ((q' - y) * (q' - y)) = q' * q' * ((-y + q') * (-y + q') * r) := by grind
    omega
  · exfalso
    have m1 : p * q' < z * y := by
      have a1 : p * q' ≤ p * y := Int.mul_le_mul_of_nonneg_left (by omega) hp
      have a2 : p * y < z * y := Int.mul_lt_mul_of_pos_right (by omega) hy
      omega
    have e : z * y = y * z := Int.mul_comm _ _
    omega
theorem nn_add {p q r p' q' : Int} (hr : 0 ≤ r) (h : NN p q r) (h' : NN p' q' r) : NN (p + p') (q + q') r := by
  have c12 : ∀ {p q p' q' : Int}, 0 ≤ p → 0 ≤ q → 0 ≤ p' → q' * q' * r ≤ p' * p' → NN (p + p') (q + q') r := fun {p q p' q'} h1 h2 h3 h4 => by
    by_cases c2 : 0 ≤ q + q'
    · exact .inl ⟨by omega, c2⟩
    · refine .inr (.inl ⟨by omega, ?_⟩)
      have m2 := Int.mul_le_mul_of_nonneg_right (sq_mono (a := -(q + q')) (b := -q') (by omega) (by omega)) hr
      have m3 := sq_mono h3 (show p' ≤ p + p' by omega)
      have e1 : -(q + q') * -(q + q') * r = (q + q') * (q + q') * r := by grind
      have e2 : -q' * -q' * r = q' * q' * r := by grind
      omega
  have c13 : ∀ {p q p' q' : Int}, 0 ≤ p → 0 ≤ q → 0 ≤ q' → p' * p' ≤ q' * q' * r → NN (p + p') (q + q') r := fun {p q p' q'} h1 h2 h3 h4 => by
    by_cases c3 : 0 ≤ p + p'
    · exact .inl ⟨c3, by omega⟩
    · refine .inr (.inr ⟨by omega, ?_⟩)
      have m1 := sq_mono (a := -(p + p')) (b := -p') (by omega) (by omega)
      have m3 := Int.mul_le_mul_of_nonneg_right (sq_mono h3 (show q' ≤ q + q' by omega)) hr
      have e1 : -(p + p') * -(p + p') = (p + p') * (p + p') := by grind
      have e2 : -p' * -p' = p' * p' := by grind
      omega
  have cs : ∀ {a b : Int}, (a + b) * (a + b) = a * a + 2 * (a * b) + b * b := fun {a b} => by grind
  rcases h with ⟨h1, h2⟩ | ⟨h1, h2⟩ | ⟨h1, h2⟩ <;> rcases h' with ⟨k1, k2⟩ | ⟨k1, k2⟩ | ⟨k1, k2⟩
  · exact .inl ⟨by omega, by omega⟩
  · exact c12 h1 h2 k1 k2
  · exact c13 h1 h2 k1 k2
  · have := c12 k1 k2 h1 h2
    rw [Int.add_comm p' p, Int.add_comm q' q] at this
    exact this
  · refine .inr (.inl ⟨by omega, ?_⟩)
    have m : q * q' * r ≤ p * p' := by
      refine sq_back (Int.mul_nonneg h1 k1) ?_
      have m1 := Int.mul_le_mul h2 k2 (Int.mul_nonneg (sq_nn q') hr) (sq_nn p)
      have e1 : q * q' * r * (q * q' * r) = q * q * r * (q' * q' * r) := by grind
      have e2 : p * p' * (p * p') = p * p * (p' * p') := by grind
      omega
    have e1 : (q + q') * (q + q') * r = q * q * r + 2 * (q * q' * r) + q' * q' * r := by grind
    rw [e1, cs]
    omega
  · exact nn_swap hr h1 h2 k1 k2
  · have := c13 k1 k2 h1 h2
    rw [Int.add_comm p' p, Int.add_comm q' q] at this
    exact this
  · have := nn_swap hr k1 k2 h1 h2
    rw [Int.add_comm p' p, Int.add_comm q' q] at this
    exact this
  · refine .inr (.inr ⟨by omega, ?_⟩)
    have m : p * p' ≤ q * q' * r := by
      refine sq_back (Int.mul_nonneg (Int.mul_nonneg h1 k1) hr) ?_
      have m1 := Int.mul_le_mul h2 k2 (sq_nn p') (Int.mul_nonneg (sq_nn q) hr)
      have e1 : q * q' * r * (q * q' * r) = q * q * r * (q' * q' * r) := by grind
      have e2 : p * p' * (p * p') = p * p * (p' * p') := by grind
      omega
    have e1 : (q + q') * (q + q') * r = q * q * r + 2 * (q * q' * r) + q' * q' * r := by grind
    rw [e1, cs]
    omega
theorem S2_opp (p q r : Int) : S2 (-p) (ss (-q) * r) = - S2 p (ss q * r) := by rw [ss_flip, Int.neg_mul, S2_flip]
theorem pos_iff {p q r : Int} (hr : 0 ≤ r) : S2 p (ss q * r) = 1 ↔ ¬ NN (-p) (-q) r := by
  rw [← nn_iff hr, S2_opp]
  rcases S2_val p (ss q * r) with h | h | h <;> rw [h] <;> decide
theorem pos_add {p q r p' q' : Int} (hr : 0 ≤ r) (h : S2 p (ss q * r) = 1) (h' : NN p' q' r) : S2 (p + p') (ss (q + q') * r) = 1 := by
  rw [pos_iff hr] at h ⊢
  intro z
  refine h ?_
  have := nn_add hr z h'
  rw [show -(p + p') + p' = -p by omega, show -(q + q') + q' = -q by omega] at this
  exact this
/-- a root from below: x1 + root u and x2 + root v from 0 on, then so their sum -/
theorem S3_sum {x1 x2 u v : Int} (h1 : S2 x1 u ≠ -1) (h2 : S2 x2 v ≠ -1) : S3 (x1 + x2) u v ≠ -1 := by
  have e4 : ∀ x : Int, ss (2 * x) = 4 * ss x := fun x => by rw [ss_mul] <;> rfl
  have m := S2_mul x1 (x1 + x2 + x2) u
  have ea : x1 * (x1 + x2 + x2) + ab u = (x1 + x2) * (x1 + x2) + ab u - x2 * x2 := by grind
  rw [ea, show x1 + (x1 + x2 + x2) = 2 * (x1 + x2) by omega, e4] at m
  unfold S3
  rcases tri v with hv | hv | hv
  · have p2 : 0 < x2 := by
      apply Decidable.byContradiction
      intro z
      exact h2 (S2_neg (by omega) hv)
    rw [S2_high p2 hv, sg_low] at h2
    have f : ∀ y, x1 < y → S2 y u = 1 := fun y hy => by
      rcases S2_val x1 u with k | k | k
      · exact S2_more (by omega) k
      · exact S2_step' hy k
      · exact absurd k h1
    rw [f _ (show x1 < x1 + x2 by omega), sg_neg hv, if_neg (by decide), if_neg (by decide), Int.one_mul]
    rw [f _ (show x1 < x1 + x2 + x2 by omega), Int.mul_one] at m
    intro z
    have l := S2_less (y := (x1 + x2) * (x1 + x2) + ab u - x2 * x2) (by rw [ab_np (show v ≤ 0 by omega)]; omega) z
    rw [l] at m
    exact h1 m
  · rw [hv, S2_zero, sg_low] at h2
    rw [hv, sg_zero, if_pos (.inr rfl)]
    exact fun z => h1 (S2_less (by omega) z)
  · rcases S2_val (x1 + x2) u with k | k | k
    · rw [k, sg_pos hv, if_pos (.inl rfl)]
      decide
    · rw [k, sg_pos hv, if_neg (by decide), if_pos rfl]
      decide
    · rw [k, sg_pos hv, if_neg (by decide), if_neg (by decide)]
      have n2 : x2 < 0 := by
        apply Decidable.byContradiction
        intro z
        exact h1 (S2_less (by omega) k)
      rw [S2_low n2 hv, sg_low] at h2
      rw [S2_less (y := x1 + x2 + x2) (by omega) k] at m
      intro z
      have z1 : S2 ((x1 + x2) * (x1 + x2) + ab u - ab v) (4 * ss (x1 + x2) * u) = 1 := by omega
      have l := S2_more (y := (x1 + x2) * (x1 + x2) + ab u - x2 * x2) (by rw [ab_nn (show 0 ≤ v by omega)]; omega) z1
      rw [l] at m
      omega
/-! ### gaps: what is above 0 is above D / M -/
theorem gap1 {A u M D : Int} (hD : 1 ≤ D) (hM : 2 * D * ab A + D < M) (h : S2 A u = 1) : S2 (M * A - D) (M * M * u) = 1 := by
  have a0 := ab_ge A
  have da : 0 ≤ D * ab A := Int.mul_nonneg (by omega) a0
  have e0 : 2 * D * ab A = 2 * (D * ab A) := by grind
  have M0 : D < M := by omega
  have MM : 0 < M * M := Int.mul_pos (by omega) (by omega)
  have MD : D * D < M * M := sq_lt (by omega) M0
  rcases tri u with hu | hu | hu
  · have p : 0 < A := by
      apply Decidable.byContradiction
      intro z
      rw [S2_neg (by omega) hu] at h
      cases h
    rw [S2_high p hu] at h
    have h' := sg_val.2.1 h
    rw [ab_nn (by omega)] at hM e0
    have k1 : M ≤ M * A := by
      have := Int.mul_le_mul_of_nonneg_left (show 1 ≤ A by omega) (show 0 ≤ M by omega)
      omega
    have k2 : M * M * u < 0 := by
      have := Int.mul_neg_of_pos_of_neg MM hu
      exact this
    rw [S2_high (by omega) k2]
    refine sg_pos ?_
    have k3 := Int.mul_le_mul_of_nonneg_left (show 1 ≤ A * A + u by omega) (show 0 ≤ M * M by omega)
    have k4 : 0 ≤ M * (M - 2 * D * A) := Int.mul_nonneg (by omega) (by omega)
    have k5 : 0 < D * D := Int.mul_pos (by omega) (by omega)
    have e1 : (M * A - D) * (M * A - D) + M * M * u = M * M * (A * A + u) - M * M + M * (M - 2 * D * A) + D * D := by grind
    omega
  · rw [hu, S2_zero] at h
    rw [hu, Int.mul_zero, S2_zero]
    have h' := sg_val.2.1 h
    have k1 : M ≤ M * A := by
      have := Int.mul_le_mul_of_nonneg_left (show 1 ≤ A by omega) (show 0 ≤ M by omega)
      omega
    exact sg_pos (by omega)
  · have k2 : 0 < M * M * u := Int.mul_pos MM hu
    rcases (by omega : 1 ≤ A ∨ A = 0 ∨ A < 0) with c | c | c
    · have k1 : M ≤ M * A := by
        have := Int.mul_le_mul_of_nonneg_left c (show 0 ≤ M by omega)
        omega
      exact S2_pos (by omega) k2
    · rw [c, Int.mul_zero, S2_low (by omega) k2]
      refine sg_pos ?_
      have := Int.mul_le_mul_of_nonneg_left (show 1 ≤ u by omega) (show 0 ≤ M * M by omega)
      have e1 : (0 - D) * (0 - D) = D * D := by grind
      omega
    · rw [S2_low c hu] at h
      have h' := sg_val.2.1 h
      rw [ab_np (by omega)] at hM e0
      have k1 : M * A < 0 := Int.mul_neg_of_pos_of_neg (by omega) c
      rw [S2_low (by omega) k2]
      refine sg_pos ?_
      have k3 := Int.mul_le_mul_of_nonneg_left (show 1 ≤ u - A * A by omega) (show 0 ≤ M * M by omega)
      have e2 : 2 * D * -A = -(2 * D * A) := by grind
      have k4 := Int.mul_le_mul (show D + 1 ≤ M by omega) (show D + 1 ≤ M + 2 * D * A by omega) (by omega) (by omega)
      have e1 : M * M * u - (M * A - D) * (M * A - D) = M * M * (u - A * A) - M * M + M * (M + 2 * D * A) - D * D := by grind
      have e3 : (D + 1) * (D + 1) = D * D + 2 * D + 1 := by grind
      omega
/-- the same with two roots -/
theorem gap2 {A q r v M D L : Int} (hr : 0 ≤ r) (hD : 1 ≤ D) (hL : L = ab A + q * q * r) (hM : 2 * D * ab A + D < M) (hM2 : 2 * (2 * D * L + D * D) * ab (A * A + q * q * r - ab v) + (2 * D * L + D * D) < M) (h : S3 A (ss q * r) v = 1) :
    S3 (M * A - D) (M * M * (ss q * r)) (M * M * v) = 1 := by
  have a0 := ab_ge A
  have da : 0 ≤ D * ab A := Int.mul_nonneg (by omega) a0
  have e0 : 2 * D * ab A = 2 * (D * ab A) := by grind
  have M0 : D < M := by omega
  have MM : 0 < M * M := Int.mul_pos (by omega) (by omega)
  have MD : D * D < M * M := sq_lt (by omega) M0
  have n0 : 0 ≤ q * q * r := Int.mul_nonneg (sq_nn q) hr
  have eab : ab (ss q * r) = q * q * r := by rw [ab_mul, ab_ss, ab_nn hr]
  have up : ∀ x : Int, S2 (M * x) (M * M * (ss q * r)) = S2 x (ss q * r) := fun x => S2_up (by omega) _ _
  have abM : ∀ x : Int, ab (M * M * x) = M * M * ab x := fun x => by rw [ab_mul, ab_nn (show 0 ≤ M * M by omega)]
  have sgM : sg (M * M * v) = sg v := sg_up MM v
  have hL0 : 0 ≤ L := by omega
  have DL : 0 ≤ D * L := Int.mul_nonneg (by omega) hL0
  have DD : 0 < D * D := Int.mul_pos (by omega) (by omega)
  have e6 : 2 * D * L = 2 * (D * L) := by grind
  -- |root u| is at most L less |A|
  have nl : ∀ x y : Int, ab x ≤ L - q * q * r → y * y = q * q → NN (L + x) y r := fun x y hx hy => by
    have ax := ab_ge x
    have lx : -(ab x) ≤ x := by
      unfold ab
      split <;> omega
    have : 0 ≤ L + x := by omega
    by_cases c : 0 ≤ y
    · exact .inl ⟨this, c⟩
    · refine .inr (.inl ⟨this, ?_⟩)
      rw [hy]
      have k1 := sq_mono n0 (show q * q * r ≤ L + x by omega)
      have k2 : q * q * r ≤ q * q * r * (q * q * r) := by
        rcases (by omega : q * q * r = 0 ∨ 1 ≤ q * q * r) with z | z
        · rw [z]
          decide
        · have := Int.mul_le_mul_of_nonneg_left z n0
          omega
      omega
  have e4 : 4 * ss A * (ss q * r) = ss (2 * A * q) * r := by
    rw [ss_mul, ss_mul, show ss 2 = 4 from rfl]
    grind
  have e5 : 4 * ss (M * A - D) * (M * M * (ss q * r)) = ss (M * M * (2 * A * q) - 2 * M * D * q) * r := by
    have k : M * M * (2 * A * q) - 2 * M * D * q = 2 * (M * A - D) * (M * q) := by grind
    rw [k, ss_mul, ss_mul, ss_up (show 0 < M by omega), show ss 2 = 4 from rfl]
    grind
  unfold S3 at h ⊢
  rw [sgM, abM, abM, eab, e5]
  rw [eab, e4] at h
  have mono1 : S2 A (ss q * r) = 1 → S2 (M * A - D) (M * M * (ss q * r)) = 1 := gap1 hD hM
  rcases tri v with hv | hv | hv
  · rw [sg_neg hv] at h ⊢
    have f1 : S2 A (ss q * r) = 1 := by
      rcases S2_val A (ss q * r) with k | k | k
      · exact k
      · rw [k, if_neg (by decide), if_pos rfl] at h
        cases h
      · rw [k, if_pos (.inl rfl)] at h
        cases h
    rw [f1, if_neg (by decide), if_neg (by decide), Int.one_mul] at h
    rw [mono1 f1, if_neg (by decide), if_neg (by decide), Int.one_mul]
    have g := gap1 (D := 2 * D * L + D * D) (by omega) hM2 h
    rw [← S2_up (show 0 < M by omega)] at g
    have ey : M * M * (M * M * (ss (2 * A * q) * r)) = ss (M * M * (2 * A * q)) * r := by
      rw [ss_mul (M * M), ss_nn (show 0 ≤ M * M by omega)]
      grind
    rw [ey] at g
    have n1 := nl (-A) (-q) (by rw [ab_flip]; omega) (by grind)
    have n2 : NN (2 * M * D * (L + -A)) (2 * M * D * -q) r := by
      rw [← nn_iff hr] at n1 ⊢
      have md : 0 < 2 * M * D := Int.mul_pos (by omega) (by omega)
      have k : ss (2 * M * D * -q) * r = 2 * M * D * (2 * M * D) * (ss (-q) * r) := by
        rw [ss_up md]
        grind
      rw [k, S2_up md]
      exact n1
    have n3 : NN (M * (D * D) + D * D) 0 r := .inl ⟨by have := Int.mul_nonneg (show 0 ≤ M by omega) (show 0 ≤ D * D by omega); omega, by decide⟩
    have fin := pos_add hr (pos_add hr g n2) n3
    have ep : M * (M * (A * A + q * q * r - ab v) - (2 * D * L + D * D)) + 2 * M * D * (L + -A) + (M * (D * D) + D * D) = (M * A - D) * (M * A - D) + M * M * (q * q * r) - M * M * ab v := by grind
    have eq : M * M * (2 * A * q) + 2 * M * D * -q + 0 = M * M * (2 * A * q) - 2 * M * D * q := by grind
    rw [ep, eq] at fin
    exact fin
  · rw [hv, sg_zero, if_pos (.inr rfl)] at h ⊢
    exact mono1 h
  · rw [sg_pos hv] at h ⊢
    rcases S2_val (M * A - D) (M * M * (ss q * r)) with g | g | g
    · rw [g, if_pos (.inl rfl)]
    · rw [g, if_neg (by decide), if_pos rfl]
    rw [g, if_neg (by decide), if_neg (by decide)]
    suffices k : S2 ((M * A - D) * (M * A - D) + M * M * (q * q * r) - M * M * ab v) (ss (M * M * (2 * A * q) - 2 * M * D * q) * r) = -1 by
      rw [k] <;> rfl
    rw [ab_nn (show 0 ≤ v by omega)] at *
    rcases S2_val A (ss q * r) with f | f | f
    · rw [mono1 f] at g
      cases g
    · -- A + root u is 0
      have m := S2_mul (M * A) (M * A - 2 * D) (M * M * (ss q * r))
      rw [up, f, Int.zero_mul, abM, eab] at m
      have k1 : M * A * (M * A - 2 * D) + M * M * (q * q * r) = (M * A - D) * (M * A - D) + M * M * (q * q * r) - D * D := by grind
      have k2 : ss (M * A + (M * A - 2 * D)) * (M * M * (ss q * r)) = ss (M * M * (2 * A * q) - 2 * M * D * q) * r := by
        rw [← e5, show M * A + (M * A - 2 * D) = 2 * (M * A - D) by grind, ss_mul] <;> rfl
      rw [k1, k2] at m
      have k3 := Int.mul_le_mul_of_nonneg_left (show 1 ≤ v by omega) (show 0 ≤ M * M by omega)
      exact S2_step (by omega) m.symm
    · rw [f, if_neg (by decide), if_neg (by decide)] at h
      have h1 : S2 (A * A + q * q * r - v) (ss (2 * A * q) * r) = -1 := by omega
      have h2 : S2 (-(A * A + q * q * r - v)) (ss (-(2 * A * q)) * r) = 1 := by
        rw [S2_opp, h1] <;> rfl
      have gg := gap1 (D := 2 * D * L + D * D) (M := M) (by omega) (by rw [ab_flip]; exact hM2) h2
      rw [← S2_up (show 0 < M by omega)] at gg
      have ey : M * M * (M * M * (ss (-(2 * A * q)) * r)) = ss (M * M * -(2 * A * q)) * r := by
        rw [ss_mul (M * M), ss_nn (show 0 ≤ M * M by omega)]
        grind
      rw [ey] at gg
      have n1 := nl A q (by omega) rfl
      have n2 : NN (2 * M * D * (L + A)) (2 * M * D * q) r := by
        rw [← nn_iff hr] at n1 ⊢
        have md : 0 < 2 * M * D := Int.mul_pos (by omega) (by omega)
        have k : ss (2 * M * D * q) * r = 2 * M * D * (2 * M * D) * (ss q * r) := by
          rw [ss_up md]
          grind
        rw [k, S2_up md]
        exact n1
      have n3 : NN (M * (D * D) - D * D) 0 r := .inl ⟨by have := Int.mul_le_mul_of_nonneg_right (show 1 ≤ M by omega) (show 0 ≤ D * D by omega); omega, by decide⟩
      have fin := pos_add hr (pos_add hr gg n2) n3
      have ep : M * (M * -(A * A + q * q * r - v) - (2 * D * L + D * D)) + 2 * M * D * (L + A) + (M * (D * D) - D * D) = -((M * A - D) * (M * A - D) + M * M * (q * q * r) - M * M * v) := by grind
      have eq : M * M * -(2 * A * q) + 2 * M * D * q + 0 = -(M * M * (2 * A * q) - 2 * M * D * q) := by grind
      rw [ep, eq, S2_opp] at fin
      omega
end Lw

namespace Lw
open PySem L2
/-! ### the order of a + root u + root v, turned over -/
theorem S3_flip (x u v : Int) : S3 (-x) (-u) (-v) = - S3 x u v := by
  have e : 4 * ss (-x) * -u = 4 * ss x * u := by
    rw [ss_flip]
    grind
  unfold S3
  rw [S2_flip, sg_flip, ab_flip, ab_flip, e, show -x * -x = x * x by grind]
  by_cases c1 : S2 x u = sg v ∨ sg v = 0
  · rw [if_pos c1, if_pos (by omega)]
  · rw [if_neg c1, if_neg (by omega)]
    by_cases c2 : S2 x u = 0
    · rw [if_pos c2, if_pos (by omega)]
    · rw [if_neg c2, if_neg (by omega), Int.neg_mul]
theorem S3_comm (x u v : Int) : S3 x u v = S3 x v u := by
  -- with x from 0 on
  have z0 : ∀ x u : Int, S3 x u 0 = S2 x u := fun x u => by
    unfold S3
    rw [sg_zero, if_pos (.inr rfl)]
  have z1 : ∀ x v : Int, S3 x 0 v = S2 x v := fun x v => by
    unfold S3
    rw [S2_zero, Int.mul_zero, S2_zero]
    conv => rhs; unfold S2
    rw [show ab 0 = 0 from rfl, Int.add_zero]
  have sqp : ∀ {q a b : Int}, 0 ≤ q → q < a → q ≤ b → 0 < b → q * q - 4 * b * a < 0 := fun {q a b} h0 h1 h2 h3 => by
    have k1 : q * q ≤ q * a := Int.mul_le_mul_of_nonneg_left (by omega) h0
    have k2 : q * a ≤ b * a := Int.mul_le_mul_of_nonneg_right h2 (by omega)
    have k3 : 0 < b * a := Int.mul_pos h3 (by omega)
    have e : 4 * b * a = 4 * (b * a) := by grind
    omega
  have four : ∀ {x : Int}, 0 < x → ∀ u : Int, 4 * ss x * u = 4 * (x * x) * u := fun {x} hx u => by rw [ss_nn (by omega)]
  have pm : ∀ {x u v : Int}, 0 < x → 0 < u → v < 0 → S3 x u v = S3 x v u := fun {x u v} hx hu hv => by
    have X0 : 0 < x * x := Int.mul_pos hx hx
    have pu : 0 < 4 * (x * x) * u := Int.mul_pos (by omega) hu
    have pv : 4 * (x * x) * v < 0 := Int.mul_neg_of_pos_of_neg (by omega) hv
    unfold S3
    rw [four hx, four hx, ab_nn (show 0 ≤ u by omega), ab_np (show v ≤ 0 by omega), S2_pos (by omega) hu, sg_neg hv, sg_pos hu, if_neg (by decide), if_neg (by decide), Int.one_mul, S2_high hx hv]
    generalize hX : x * x = X at *
    obtain ⟨b, hb⟩ : ∃ b, v = -b := ⟨-v, by omega⟩
    subst hb
    rw [Int.neg_neg]
    rcases tri (X + -b) with c | c | c
    · rw [sg_neg c, if_neg (by decide), if_neg (by decide)]
      rcases (by omega : 0 ≤ X + u - b ∨ X + u - b < 0) with q | q
      · rw [S2_pos q pu]
        rcases (by omega : X + b - u ≤ 0 ∨ 0 < X + b - u) with p | p
        · rw [S2_neg p pv] <;> rfl
        · rw [S2_high p pv]
          have k : (X + b - u) * (X + b - u) + 4 * X * -b = (X + u - b) * (X + u - b) - 4 * X * u := by grind
          have l : (X + u - b) * (X + u - b) - 4 * X * u < 0 := by
            rcases (by omega : X + u - b ≤ X ∨ X < X + u - b) with y | y
            · exact sqp q (by omega) y X0
            · have k1 : (X + u - b) * (X + u - b) ≤ (X + u - b) * u := Int.mul_le_mul_of_nonneg_left (by omega) q
              have k2 : (X + u - b) * u ≤ (2 * X) * u := Int.mul_le_mul_of_nonneg_right (by omega) (by omega)
              have k3 : 0 < X * u := Int.mul_pos X0 hu
              have e1 : 4 * X * u = 4 * (X * u) := by grind
              have e2 : 2 * X * u = 2 * (X * u) := by grind
              omega
          rw [k, sg_neg l] <;> rfl
      · rw [S2_low q pu, S2_high (by omega) pv]
        have k : (X + b - u) * (X + b - u) + 4 * X * -b = -(4 * X * u - (X + u - b) * (X + u - b)) := by grind
        rw [k, sg_flip]
        omega
    · rw [c, sg_zero, if_neg (by decide), if_pos rfl, S2_pos (by omega) pu]
    · rw [sg_pos c, if_pos (.inl rfl), S2_pos (by omega) pu]
  have mm : ∀ {x u v : Int}, 0 < x → u < 0 → v < 0 → S3 x u v = S3 x v u := fun {x u v} hx hu hv => by
    have X0 : 0 < x * x := Int.mul_pos hx hx
    have pu : 4 * (x * x) * u < 0 := Int.mul_neg_of_pos_of_neg (by omega) hu
    have pv : 4 * (x * x) * v < 0 := Int.mul_neg_of_pos_of_neg (by omega) hv
    unfold S3
    rw [four hx, four hx, ab_np (show u ≤ 0 by omega), ab_np (show v ≤ 0 by omega), S2_high hx hu, S2_high hx hv, sg_neg hu, sg_neg hv]
    generalize hX : x * x = X at *
    obtain ⟨b, hb⟩ : ∃ b, v = -b := ⟨-v, by omega⟩
    obtain ⟨a, ha⟩ : ∃ a, u = -a := ⟨-u, by omega⟩
    subst hb
    subst ha
    rw [Int.neg_neg, Int.neg_neg]
    have val : ∀ {p o : Int}, 0 < p → p < X → X ≤ o → S2 (X + p - o) (4 * X * -p) = -1 := fun {p o} h0 h1 h2 => by
      have pa : 4 * X * -p < 0 := Int.mul_neg_of_pos_of_neg (by omega) (by omega)
      rcases (by omega : X + p - o ≤ 0 ∨ 0 < X + p - o) with c | c
      · exact S2_neg c pa
      · rw [S2_high c pa]
        refine sg_neg ?_
        have k1 : (X + p - o) * (X + p - o) ≤ (X + p - o) * p := Int.mul_le_mul_of_nonneg_left (by omega) (by omega)
        have k2 : (X + p - o) * p ≤ X * p := Int.mul_le_mul_of_nonneg_right (by omega) (by omega)
        have k3 : 0 < X * p := Int.mul_pos X0 h0
        have e : 4 * X * -p = -(4 * (X * p)) := by grind
        omega
    have lo : ∀ {y z : Int}, y ≤ 0 → (if sg y = -1 ∨ (-1 : Int) = 0 then sg y else if sg y = 0 then (-1 : Int) else sg y * z) = -1 := fun {y z} hy => by
      rcases (by omega : y < 0 ∨ y = 0) with k | k
      · rw [sg_neg k, if_pos (.inl rfl)]
      · rw [k, sg_zero, if_neg (by decide), if_pos rfl]
    have hi : ∀ {y z : Int}, 0 < y → (if sg y = -1 ∨ (-1 : Int) = 0 then sg y else if sg y = 0 then (-1 : Int) else sg y * z) = z := fun {y z} hy => by
      rw [sg_pos hy, if_neg (by decide), if_neg (by decide), Int.one_mul]
    rcases (by omega : X + -a ≤ 0 ∨ 0 < X + -a) with c | c <;> rcases (by omega : X + -b ≤ 0 ∨ 0 < X + -b) with e | e
    · rw [lo c, lo e]
    · rw [lo c, hi e, val (by omega) (by omega) (by omega)]
    · rw [hi c, lo e, val (by omega) (by omega) (by omega)]
    · rw [hi c, hi e, S2_high (by omega) pu, S2_high (by omega) pv]
      congr 1
      grind
  have pos : ∀ {x u v : Int}, 0 < x → S3 x u v = S3 x v u := fun {x u v} hx => by
    rcases tri u with hu | hu | hu <;> rcases tri v with hv | hv | hv
    · exact mm hx hu hv
    · rw [hv, z0, z1]
    · exact (pm hx hv hu).symm
    · rw [hu, z0, z1]
    · rw [hu, hv]
    · rw [hu, z0, z1]
    · exact pm hx hu hv
    · rw [hv, z0, z1]
    · unfold S3
      rw [S2_pos (by omega) hu, S2_pos (by omega) hv, sg_pos hu, sg_pos hv, if_pos (.inl rfl)] <;> rfl
  rcases tri x with h | h | h
  · have := pos (x := -x) (u := -u) (v := -v) (by omega)
    rw [S3_flip, S3_flip] at this
    omega
  · subst h
    have s0 : ∀ u : Int, S2 0 u = sg u := fun u => by
      unfold S2
      rw [sg_zero]
      split
      · rename_i k
        rcases k with k | k <;> omega
      · rw [if_pos rfl]
    unfold S3
    simp only [s0, show ss 0 = 0 from rfl, Int.mul_zero, Int.zero_mul, S2_zero, Int.zero_add]
    have fl : sg (ab v - ab u) = - sg (ab u - ab v) := by rw [← sg_flip, show -(ab u - ab v) = ab v - ab u by omega]
    rw [fl]
    have abp : ∀ y : Int, y ≠ 0 → 0 < ab y := fun y hy => by
      unfold ab
      split <;> omega
    rcases tri u with hu | hu | hu <;> rcases tri v with hv | hv | hv <;> simp only [hu, hv, sg_neg, sg_pos, sg_zero] <;> first | rfl | decide | (simp; try omega)
  · exact pos h
theorem ss_sub (x : Int) : ss (0 - x) = - ss x := by rw [show 0 - x = -x by omega, ss_flip]
theorem cmp_swap (a b r d c e s v : Int) : cmp c e s v a b r d = - cmp a b r d c e s v := by
  unfold cmp
  rw [S3_comm (c * d - a * v), ← S3_flip, ss_sub, ss_sub]
  have e1 : -(a * v - c * d) = c * d - a * v := by omega
  have e2 : -(ss (b * v) * r) = -ss (b * v) * r := by grind
  have e3 : -(-ss (e * d) * s) = ss (e * d) * s := by grind
  rw [e1, e2, e3]
theorem ab_nat (x : Int) : (ab x).natAbs = x.natAbs := by
  unfold ab
  split <;> omega
theorem cmp_whole (t m c e s v : Int) : cmp t 0 0 m c e s v = S2 (t * v - c * m) (ss (0 - e * m) * s) := by
  unfold cmp
  have k2 : ss (0 * v) * 0 = ss 0 := by rw [Int.mul_zero] <;> rfl
  rw [k2, S3_sq, Int.add_zero]
theorem cmp_whole' (a b r d t m : Int) : cmp a b r d t 0 0 m = S2 (a * m - t * d) (ss (b * m) * r) := by
  unfold cmp
  have k2 : ss (0 - 0 * d) * 0 = ss 0 := by rw [Int.mul_zero] <;> rfl
  rw [k2, S3_sq', Int.add_zero]
/-- the first step above a number lies below each greater one, once the steps are small -/
theorem above_ok {a b r d c e s v M : Int} (h1 : Numb a b r d) (h2 : Numb c e s v) (hM : 2 ^ 2000 ≤ M) (h : cmp a b r d c e s v = -1) : cmp (flN a b r d M + 1) 0 0 M c e s v = -1 := by
  obtain ⟨za, zb, zr, zd, hr, hd⟩ := h1
  obtain ⟨zc, ze, zs, zv, hs, hv⟩ := h2
  have hM0 : 0 < M := by
    have : (0 : Int) < 2 ^ 2000 := Int.pow_pos (by decide)
    omega
  have e0 : cmp (flN a b r d M + 1) 0 0 M c e s v = -1 ∨ S2 ((flN a b r d M + 1) * v - c * M) (ss (0 - e * M) * s) ≠ -1 := by
    rw [cmp_whole]
    exact Decidable.em _
  rcases e0 with e0 | e0
  · exact e0
  exfalso
  have f1 : S2 (M * a - flN a b r d M * d) (ss (M * b) * r) ≠ -1 := (top_le hr hM0).mp (by
    unfold flN
    exact Int.ediv_mul_le _ (by omega))
  generalize flN a b r d M = n at *
  rw [← S2_up hv] at f1
  rw [← S2_up hd] at e0
  have sum := S3_sum f1 e0
  have dv : 0 < d * v := Int.mul_pos hd hv
  have k1 : v * (M * a - n * d) + d * ((n + 1) * v - c * M) = -(M * -(a * v - c * d) - d * v) := by grind
  have k2 : v * v * (ss (M * b) * r) = -(M * M * (ss (-(b * v)) * r)) := by
    rw [ss_flip, ss_mul, ss_mul, ss_nn (show 0 ≤ M by omega), ss_nn (show 0 ≤ v by omega)]
    grind
  have k3 : d * d * (ss (0 - e * M) * s) = -(M * M * (ss (e * d) * s)) := by
    rw [ss_sub, ss_mul, ss_mul, ss_nn (show 0 ≤ M by omega), ss_nn (show 0 ≤ d by omega)]
    grind
  rw [k1, k2, k3, S3_flip] at sum
  have hc : S3 (-(a * v - c * d)) (ss (-(b * v)) * r) (ss (e * d) * s) = 1 := by
    have e1 : ss (-(b * v)) * r = -(ss (b * v) * r) := by
      rw [ss_flip]
      grind
    have e2 : ss (e * d) * s = -(ss (0 - e * d) * s) := by
      rw [ss_sub]
      grind
    rw [e1, e2, S3_flip]
    unfold cmp at h
    rw [h] <;> rfl
  -- how great all is
  have w1 := mul_lt za zv
  have w2 := mul_lt zc zd
  have wA : (-(a * v - c * d)).natAbs < 2 ^ 321 := by
    have := sub_lt w1 w2
    omega
  have wq : (-(b * v)).natAbs < 2 ^ 320 := by
    have := mul_lt zb zv
    omega
  have wD := mul_lt zd zv
  have we := mul_lt ze zd
  have wv := mul_lt (show (ss (e * d)).natAbs < 2 ^ 640 by
    unfold ss
    have := mul_lt we (show (ab (e * d)).natAbs < 2 ^ (160 + 160) by rw [ab_nat]; exact we)
    exact two_le this (by decide)) zs
  generalize -(a * v - c * d) = A at *
  generalize -(b * v) = q at *
  generalize d * v = D at *
  generalize ss (e * d) * s = w at *
  have wqq := mul_lt (mul_lt wq wq) zr
  have wAA := mul_lt wA wA
  have wab : (ab A).natAbs < 2 ^ 321 := by rw [ab_nat]; exact wA
  have wL := add_lt (two_le wab (show 321 ≤ 800 by decide)) wqq
  have wDL := mul_lt (mul_lt (show (2 : Int).natAbs < 2 ^ 2 by decide) wD) wL
  have wDD := mul_lt wD wD
  have wD2 := add_lt wDL (two_le wDD (show 160 + 160 + (160 + 160) ≤ 2 + (160 + 160) + (800 + 1) by decide))
  have wy := add_lt (two_le wAA (show 321 + 321 ≤ 800 by decide)) wqq
  have wz : (ab (A * A + q * q * r - ab w)).natAbs < 2 ^ 802 := by
    have k := sub_lt wy (show (ab w).natAbs < 2 ^ (800 + 1) by rw [ab_nat]; exact two_le wv (by decide))
    rw [ab_nat]
    exact two_le k (by decide)
  have wt := mul_lt (mul_lt (show (2 : Int).natAbs < 2 ^ 2 by decide) wD2) wz
  have wu := mul_lt (mul_lt (show (2 : Int).natAbs < 2 ^ 2 by decide) wD) wab
  have wt' := add_lt (two_le wt (show 2 + (2 + (160 + 160) + (800 + 1) + 1) + 802 ≤ 1930 by decide)) (two_le wD2 (show 2 + (160 + 160) + (800 + 1) + 1 ≤ 1930 by decide))
  have wu' := add_lt (two_le wu (show 2 + (160 + 160) + 321 ≤ 1930 by decide)) (two_le wD (show 160 + 160 ≤ 1930 by decide))
  have lt : ∀ x : Int, x.natAbs < 2 ^ (1930 + 1) → x < M := fun x hx => by
    have := two_le hx (show 1930 + 1 ≤ 2000 by decide)
    omega
  have g := gap2 (A := A) (q := q) (r := r) (v := w) (M := M) (D := D) (L := ab A + q * q * r) hr (by omega) rfl (lt _ wu') (lt _ wt') hc
  rw [g] at sum
  exact sum rfl
end Lw

namespace Lw
open PySem L2
/-! ### numbers of one root: sums and products of forms -/
theorem form_flat {a b r d : Int} (c : b = 0 ∨ isSqB r = true) : formD a b r d = fracD (a + b * isq r) d := if_pos c
theorem form_zero (a r d : Int) : formD a 0 r d = fracD a d := by
  rw [form_flat (.inl rfl), Int.zero_mul, Int.add_zero]
theorem form_zz (a r s d : Int) : formD a 0 r d = formD a 0 s d := by rw [form_zero, form_zero]
theorem form_sq {a b r d : Int} (c : isSqB r = true) : formD a b r d = formD (a + b * isq r) 0 r d := by rw [form_flat (.inr c), form_zero]
theorem frac_congr {a b c d : Int} (hb : 0 < b) (hd : 0 < d) (e : a * d = c * b) : fracD a b = fracD c d := by
  obtain ⟨h1, h2⟩ := red_congr hb hd e
  unfold fracD
  rw [h1, h2]
/-- bounds of a number that is worked with -/
def Bd (a b r d : Int) : Prop := a.natAbs < 2 ^ 450 ∧ b.natAbs < 2 ^ 200 ∧ r.natAbs < 2 ^ 450 ∧ d.natAbs < 2 ^ 450
/-- a root's form as a number: spread and bounds -/
theorem quad_d {a b r d : Int} (z : Bd a b r d) (hd : 0 < d) (hr : 0 ≤ r) (hb : b ≠ 0) (hsq : isSqB r = false) :
    ∃ a' b' r' d' g h : Int, NumD (formD a b r d) a' b' r' d' ∧ 0 < g ∧ 0 < h ∧ g * d' = h * d ∧ g * a' = h * a ∧ g * g * (ss b' * r') = h * h * (ss b * r) ∧ 0 < d' ∧ 0 < r' ∧ b' ≠ 0 ∧ isSqB r' = false ∧
      a'.natAbs < 2 ^ 903 ∧ b'.natAbs < 2 ^ 2 ∧ r'.natAbs < 2 ^ 1808 ∧ d'.natAbs < 2 ^ 903 := by
  obtain ⟨za, zb, zr, zd⟩ := z
  have c : ¬ (b = 0 ∨ isSqB r = true) := fun z => z.elim hb fun z => by rw [hsq] at z; cases z
  have r0 : 0 < r := by
    rcases (by omega : 0 < r ∨ r = 0) with z | z
    · exact z
    · rw [z] at hsq
      exact absurd hsq (by decide +kernel)
  have g0 := gcd_pos3 (a := 0 - 2 * a * d) (b := a * a - b * b * r) hd
  have d1 : gcdI (gcdI (d * d) (0 - 2 * a * d)) (a * a - b * b * r) ∣ d * d := Int.dvd_trans (gcd_dvd_l _ _) (gcd_dvd_l _ _)
  have d2 : gcdI (gcdI (d * d) (0 - 2 * a * d)) (a * a - b * b * r) ∣ 0 - 2 * a * d := Int.dvd_trans (gcd_dvd_l _ _) (gcd_dvd_r _ _)
  have d3 : gcdI (gcdI (d * d) (0 - 2 * a * d)) (a * a - b * b * r) ∣ a * a - b * b * r := gcd_dvd_r _ _
  have w1 := mul_lt zd zd
  have w2 : (2 * a : Int).natAbs < 2 ^ (2 + 450) := mul_lt (by decide) za
  have w3 := mul_lt w2 zd
  have w4 := mul_lt za za
  have w5 := mul_lt zb zb
  have w6 := mul_lt w5 zr
  have s1 : (0 - 2 * a * d : Int).natAbs < 2 ^ 902 := by omega
  have s2 : (a * a - b * b * r : Int).natAbs < 2 ^ (900 + 1) := sub_lt (two_le w4 (by decide)) (two_le w6 (by decide))
  have f1 := fdiv_le g0 (two_le w1 (show 450 + 450 ≤ 900 by decide))
  have f2 := fdiv_le g0 s1
  have f3 := fdiv_le g0 s2
  have k1 := fdiv_of g0 d1
  have k2 := fdiv_of g0 d2
  have k3 := fdiv_of g0 d3
  have eF : formD a b r d = quadD (d * d) (0 - 2 * a * d) (a * a - b * b * r) (decide (0 < b)) := if_neg c
  rw [eF]
  unfold quadD
  generalize (d * d).fdiv (gcdI (gcdI (d * d) (0 - 2 * a * d)) (a * a - b * b * r)) = p at *
  generalize (0 - 2 * a * d).fdiv (gcdI (gcdI (d * d) (0 - 2 * a * d)) (a * a - b * b * r)) = q at *
  generalize (a * a - b * b * r).fdiv (gcdI (gcdI (d * d) (0 - 2 * a * d)) (a * a - b * b * r)) = s at *
  generalize gcdI (gcdI (d * d) (0 - 2 * a * d)) (a * a - b * b * r) = g at *
  have dd : 0 < d * d := Int.mul_pos hd hd
  have p0 : 0 < p := by
    apply Decidable.byContradiction
    intro z
    have : g * p ≤ 0 := Int.mul_nonpos_of_nonneg_of_nonpos (by omega) (by omega)
    omega
  have key : g * g * (q * q - 4 * p * s) = 4 * (d * d) * (b * b * r) := by
    have x : g * g * (q * q - 4 * p * s) = (g * q) * (g * q) - 4 * (g * p) * (g * s) := by grind
    rw [x, k1, k2, k3]
    grind
  have bb : 0 < b * b := by
    rcases (by omega : 0 < b ∨ b < 0) with z | z
    · exact Int.mul_pos z z
    · exact Int.mul_pos_of_neg_of_neg z z
  have rp : 0 < q * q - 4 * p * s := by
    apply Decidable.byContradiction
    intro z
    have n1 : g * g * (q * q - 4 * p * s) ≤ 0 := Int.mul_nonpos_of_nonneg_of_nonpos (Int.mul_nonneg (by omega) (by omega)) (by omega)
    have n2 : 0 < 4 * (d * d) * (b * b * r) := Int.mul_pos (by omega) (Int.mul_pos bb r0)
    omega
  have y1 := mul_lt f2 f2
  have y2 : (4 * p : Int).natAbs < 2 ^ (3 + 900) := mul_lt (by decide) f1
  have y3 := mul_lt y2 f3
  refine ⟨-q, (if decide (0 < b) = true then 1 else -1), q * q - 4 * p * s, 2 * p, g, 2 * d, .inr ⟨p, q, s, decide (0 < b), rfl, rfl, rfl, rfl, rfl, two_le f1 (by decide), two_le f2 (by decide), two_le f3 (by decide)⟩,
    g0, by omega, by grind, by grind, ?_, by omega, rp, by split <;> decide, ?_, by omega, by split <;> decide, two_le (sub_lt (two_le y1 (show 902 + 902 ≤ 1807 by decide)) (two_le y3 (show 3 + 900 + (900 + 1) ≤ 1807 by decide))) (by decide), by omega⟩
  · rcases (by omega : 0 < b ∨ b < 0) with z | z
    · rw [if_pos (decide_eq_true z), show ss 1 = 1 from rfl, ss_nn (by omega), Int.one_mul, key]
      grind
    · have zz : ¬ decide (0 < b) = true := by simp; omega
      have sb : ss b = -(b * b) := by
        unfold ss
        rw [ab_np (by omega)]
        grind
      rw [if_neg zz, show ss (-1) = -1 from rfl, sb]
      have x : g * g * (-1 * (q * q - 4 * p * s)) = -(g * g * (q * q - 4 * p * s)) := by grind
      rw [x, key]
      grind
  · cases z : isSqB (q * q - 4 * p * s)
    · rfl
    · exfalso
      unfold isSqB at z
      simp only [Bool.and_eq_true, decide_eq_true_eq] at z
      have x := sq_free (A := 2 * d * b) (B := g * isq (q * q - 4 * p * s)) (r := r) (Int.mul_ne_zero (by omega) hb) (by
        have y : g * isq (q * q - 4 * p * s) * (g * isq (q * q - 4 * p * s)) = g * g * (isq (q * q - 4 * p * s) * isq (q * q - 4 * p * s)) := by grind
        rw [y, z.2, key]
        grind) (by omega)
      rw [x] at hsq
      cases hsq
/-- a fraction's form as a number -/
theorem frac_d {a d : Int} (hd : 0 < d) (za : a.natAbs < 2 ^ 900) (zd : d.natAbs < 2 ^ 900) :
    ∃ a' d' g : Int, NumD (fracD a d) a' 0 0 d' ∧ 0 < g ∧ g * d' = d ∧ g * a' = a ∧ 0 < d' ∧ a'.natAbs < 2 ^ 900 ∧ d'.natAbs < 2 ^ 900 := by
  obtain ⟨e1, e2⟩ := red_pos (a := a) hd
  have le := red_le (a := a) hd
  refine ⟨redN a d, redD a d, gcdI a d, .inl ⟨rfl, rfl, rfl⟩, gcd_pos (by omega), ?_, ?_, (red_fr hd).1, by omega, by omega⟩
  · rw [e2]
    exact Int.mul_ediv_cancel' (gcd_dvd_r _ _)
  · rw [e1]
    exact Int.mul_ediv_cancel' (gcd_dvd_l _ _)

theorem isq_half {n : Int} {k : Nat} (h : n.natAbs < 2 ^ (k + k)) : (isq n).natAbs < 2 ^ k := by
  rcases (by omega : n < 1 ∨ 1 ≤ n) with c | c
  · rw [isq_neg c]
    exact Nat.pow_pos (by decide)
  · have h0 := isq_nn n
    have h1 := isq_le (n := n) (by omega)
    have h2 := Int.mul_nonneg h0 h0
    apply Decidable.byContradiction
    intro z
    have l : 2 ^ k ≤ (isq n).natAbs := by omega
    have m := Nat.mul_le_mul l l
    rw [← Nat.pow_add] at m
    have e : ((isq n).natAbs * (isq n).natAbs : Nat) = (isq n * isq n).natAbs := (Int.natAbs_mul _ _).symm
    omega
/-- two numbers over one root -/
def one7 (a b r w c d s v : Int) : List Int := if r = 0 then [a, b, w, c, d, v, s] else [a, b, w, c * r, d * isq (r * s), v * r, r]
/-- what is told of two spreads over one root -/
structure TwoOk (a b r d c e v a1 b1 w1 c1 d1 v1 r1 : Int) : Prop where
  x1 : a1.natAbs < 2 ^ 20000
  x2 : b1.natAbs < 2 ^ 20000
  x3 : w1.natAbs < 2 ^ 20000
  x4 : c1.natAbs < 2 ^ 20000
  x5 : d1.natAbs < 2 ^ 20000
  x6 : v1.natAbs < 2 ^ 20000
  x7 : r1.natAbs < 2 ^ 4000
  s1 : (a1 * v1 + c1 * w1).natAbs < 2 ^ 4000
  s2 : (b1 * v1 + d1 * w1).natAbs < 2 ^ 4000
  m1 : (a1 * c1 + b1 * d1 * r1).natAbs < 2 ^ 4000
  m2 : (a1 * d1 + b1 * c1).natAbs < 2 ^ 4000
  dd : (w1 * v1).natAbs < 2 ^ 4000
  nz : w1 * v1 ≠ 0
  sq1 : b1 * v1 + d1 * w1 ≠ 0 → isSqB r1 = false
  sq2 : a1 * d1 + b1 * c1 ≠ 0 → isSqB r1 = false
  sum : formD (a1 * v1 + c1 * w1) (b1 * v1 + d1 * w1) r1 (w1 * v1) = formD (a * v + c * d) (b * v + e * d) r (d * v)
  mul : formD (a1 * c1 + b1 * d1 * r1) (a1 * d1 + b1 * c1) r1 (w1 * v1) = formD (a * c + b * e * r) (a * e + b * c) r (d * v)
/-- both over one root, by their values -/
theorem one_sum {a b r d c e v a1 b1 w1 c1 d1 v1 r1 k l : Int} (hd : 0 < d) (hv : 0 < v) (hr : 0 ≤ r) (hw : 0 < w1) (hv1 : 0 < v1) (hr1 : 0 ≤ r1) (ea : a1 * d = a * w1) (ec : c1 * v = c * v1) (hk : 0 < k) (hl : 0 < l) (kl : k * k * r = l * l * r1) (eb : b1 * d * k = b * w1 * l) (ee : d1 * v * k = e * v1 * l) :
    formD (a1 * v1 + c1 * w1) (b1 * v1 + d1 * w1) r1 (w1 * v1) = formD (a * v + c * d) (b * v + e * d) r (d * v) := by
  have p1 := Int.mul_pos hd hv
  have p2 := Int.mul_pos hw hv1
  refine (form_same ⟨d * v, w1 * v1, p1, p2, by grind, ?_, ?_⟩ p1 p2 hr hr1).symm
  · have x : d * v * (a1 * v1 + c1 * w1) = (a1 * d) * v * v1 + (c1 * v) * d * w1 := by grind
    rw [x, ea, ec]
    grind
  · have kk : 0 < k * k := Int.mul_pos hk hk
    have x : k * (d * v * (b1 * v1 + d1 * w1)) = l * (w1 * v1 * (b * v + e * d)) := by
      have y : k * (d * v * (b1 * v1 + d1 * w1)) = (b1 * d * k) * v * v1 + (d1 * v * k) * d * w1 := by grind
      rw [y, eb, ee]
      grind
    have y := congrArg ss x
    rw [ss_up hk, ss_up hl, ss_up p1, ss_up p2] at y
    refine Int.eq_of_mul_eq_mul_left (show k * k ≠ 0 by omega) ?_
    have z : k * k * (d * v * (d * v) * (ss (b1 * v1 + d1 * w1) * r1)) = k * k * (d * v * (d * v) * ss (b1 * v1 + d1 * w1)) * r1 := by grind
    rw [z, y]
    have z2 : l * l * (w1 * v1 * (w1 * v1) * ss (b * v + e * d)) * r1 = (l * l * r1) * (w1 * v1 * (w1 * v1) * ss (b * v + e * d)) := by grind
    rw [z2, ← kl]
    grind
theorem one_mul {a b r d c e v a1 b1 w1 c1 d1 v1 r1 k l : Int} (hd : 0 < d) (hv : 0 < v) (hr : 0 ≤ r) (hw : 0 < w1) (hv1 : 0 < v1) (hr1 : 0 ≤ r1) (ea : a1 * d = a * w1) (ec : c1 * v = c * v1) (hk : 0 < k) (hl : 0 < l) (kl : k * k * r = l * l * r1) (eb : b1 * d * k = b * w1 * l) (ee : d1 * v * k = e * v1 * l) :
    formD (a1 * c1 + b1 * d1 * r1) (a1 * d1 + b1 * c1) r1 (w1 * v1) = formD (a * c + b * e * r) (a * e + b * c) r (d * v) := by
  have p1 := Int.mul_pos hd hv
  have p2 := Int.mul_pos hw hv1
  have kk : 0 < k * k := Int.mul_pos hk hk
  refine (form_same ⟨d * v, w1 * v1, p1, p2, by grind, ?_, ?_⟩ p1 p2 hr hr1).symm
  · refine Int.eq_of_mul_eq_mul_left (show k * k ≠ 0 by omega) ?_
    have x : k * k * (d * v * (a1 * c1 + b1 * d1 * r1)) = k * k * ((a1 * d) * (c1 * v)) + (b1 * d * k) * (d1 * v * k) * r1 := by grind
    rw [x, ea, ec, eb, ee]
    have y : b * w1 * l * (e * v1 * l) * r1 = b * w1 * (e * v1) * (l * l * r1) := by grind
    rw [y, ← kl]
    grind
  · have x : k * (d * v * (a1 * d1 + b1 * c1)) = l * (w1 * v1 * (a * e + b * c)) := by
      have y : k * (d * v * (a1 * d1 + b1 * c1)) = (a1 * d) * (d1 * v * k) + (b1 * d * k) * (c1 * v) := by grind
      rw [y, ea, ec, eb, ee]
      grind
    have y := congrArg ss x
    rw [ss_up hk, ss_up hl, ss_up p1, ss_up p2] at y
    refine Int.eq_of_mul_eq_mul_left (show k * k ≠ 0 by omega) ?_
    have z : k * k * (d * v * (d * v) * (ss (a1 * d1 + b1 * c1) * r1)) = k * k * (d * v * (d * v) * ss (a1 * d1 + b1 * c1)) * r1 := by grind
    rw [z, y]
    have z2 : l * l * (w1 * v1 * (w1 * v1) * ss (a * e + b * c)) * r1 = (l * l * r1) * (w1 * v1 * (w1 * v1) * ss (a * e + b * c)) := by grind
    rw [z2, ← kl]
    grind
/-- two fractions -/
theorem two_flat {a d c v : Int} (za : a.natAbs < 2 ^ 900) (zd : d.natAbs < 2 ^ 900) (zc : c.natAbs < 2 ^ 900) (zv : v.natAbs < 2 ^ 900) (hd : 0 < d) (hv : 0 < v) :
    ∃ a' b' r' d' c' e' s' v' a1 b1 w1 c1 d1 v1 r1 : Int, NumD (fracD a d) a' b' r' d' ∧ NumD (fracD c v) c' e' s' v' ∧ Fine4 a' b' r' d' ∧ Fine4 c' e' s' v' ∧ (r' ≠ 0 → 0 ≤ r' * s' ∧ (r' * s').natAbs < 2 ^ 13000) ∧
      one7 a' b' r' d' c' e' s' v' = [a1, b1, w1, c1, d1, v1, r1] ∧ TwoOk a 0 0 d c 0 v a1 b1 w1 c1 d1 v1 r1 := by
  obtain ⟨a', d', g, n1, hg, e1, e2, p1, y1, y2⟩ := frac_d hd za zd
  obtain ⟨c', v', i, n2, hi, e3, e4, p2, y3, y4⟩ := frac_d hv zc zv
  refine ⟨a', 0, 0, d', c', 0, 0, v', a', 0, d', c', 0, v', 0, n1, n2, ⟨two_le y1 (by decide), by decide, by decide, two_le y2 (by decide)⟩, ⟨two_le y3 (by decide), by decide, by decide, two_le y4 (by decide)⟩, fun z => absurd rfl z, if_pos rfl, ?_⟩
  have m1 := mul_lt y1 y4
  have m2 := mul_lt y3 y2
  have q1 : (a' * c' + 0 * 0 * 0 : Int) = a' * c' := by grind
  have q2 : (a' * 0 + 0 * c' : Int) = 0 := by grind
  have q3 : (0 * v' + 0 * d' : Int) = 0 := by grind
  refine ⟨two_le y1 (by decide), by decide, two_le y2 (by decide), two_le y3 (by decide), by decide, two_le y4 (by decide), by decide, two_le (add_lt m1 (two_le m2 (show 900 + 900 ≤ 900 + 900 by decide))) (by decide), by rw [q3]; decide, by rw [q1]; exact two_le (mul_lt y1 y3) (by decide), by rw [q2]; decide, two_le (mul_lt y2 y4) (by decide), by have := Int.mul_pos p1 p2; omega, fun z => absurd q3 z, fun z => absurd q2 z, ?_, ?_⟩
  · exact one_sum (k := 1) (l := 1) hd hv (by decide) p1 p2 (by decide) (by rw [← e1, ← e2]; grind) (by rw [← e3, ← e4]; grind) (by decide) (by decide) rfl (by grind) (by grind)
  · exact one_mul (k := 1) (l := 1) hd hv (by decide) p1 p2 (by decide) (by rw [← e1, ← e2]; grind) (by rw [← e3, ← e4]; grind) (by decide) (by decide) rfl (by grind) (by grind)

theorem sg_ab {x y : Int} (h : sg x = sg y) : x * ab y = y * ab x := by
  rcases tri y with k | k | k
  · rw [sg_neg k] at h
    have hx := sg_val.2.2 h
    rw [ab_np (by omega), ab_np (by omega)]
    grind
  · rw [k, sg_zero] at h
    rw [k, sg_val.1 h]
  · rw [sg_pos k] at h
    have hx := sg_val.2.1 h
    rw [ab_nn (by omega), ab_nn (by omega)]
    grind
/-- what a root's spread says: its sign and its square -/
theorem root_facts {g h b b' r r' : Int} (hg : 0 < g) (hh : 0 < h) (hr : 0 < r) (hr' : 0 < r') (e : g * g * (ss b' * r') = h * h * (ss b * r)) : sg b' = sg b ∧ g * ab b' * (g * ab b') * r' = h * ab b * (h * ab b) * r := by
  have gg := Int.mul_pos hg hg
  have hhp := Int.mul_pos hh hh
  constructor
  · have q := congrArg sg e
    rw [sg_up gg, sg_up hhp, sg_mul, sg_mul, sg_ss, sg_ss, sg_pos hr, sg_pos hr', Int.mul_one, Int.mul_one] at q
    exact q
  · have q := congrArg ab e
    rw [ab_mul, ab_mul (ss b'), ab_ss, ab_mul (h * h), ab_mul (ss b), ab_ss, ab_nn (x := g * g) (by omega), ab_nn (x := h * h) (by omega), ab_nn (x := r) (by omega), ab_nn (x := r') (by omega)] at q
    have x : g * ab b' * (g * ab b') * r' = g * g * ((ab b' * ab b') * r') := by grind
    have y : h * ab b * (h * ab b) * r = h * h * ((ab b * ab b) * r) := by grind
    rw [x, y, ab_sq, ab_sq, q]
theorem ab_pos {x : Int} (h : x ≠ 0) : 0 < ab x := by
  unfold ab
  split <;> omega
/-- a fraction and a root -/
theorem two_fq {a c e r d v : Int} (za : a.natAbs < 2 ^ 900) (zd : d.natAbs < 2 ^ 900) (hd : 0 < d) (z : Bd c e r v) (hv : 0 < v) (hr : 0 ≤ r) (he : e ≠ 0) (hsq : isSqB r = false) :
    ∃ a' b' r' d' c' e' s' v' a1 b1 w1 c1 d1 v1 r1 : Int, NumD (fracD a d) a' b' r' d' ∧ NumD (formD c e r v) c' e' s' v' ∧ Fine4 a' b' r' d' ∧ Fine4 c' e' s' v' ∧ (r' ≠ 0 → 0 ≤ r' * s' ∧ (r' * s').natAbs < 2 ^ 13000) ∧
      one7 a' b' r' d' c' e' s' v' = [a1, b1, w1, c1, d1, v1, r1] ∧ TwoOk a 0 r d c e v a1 b1 w1 c1 d1 v1 r1 := by
  obtain ⟨a', d', g, n1, hg, e1, e2, p1, y1, y2⟩ := frac_d hd za zd
  obtain ⟨c', e', s', v', i, j, n2, hi, hj, e3, e4, e5, p2, hs, he', nsq, y3, y4, y5, y6⟩ := quad_d z hv hr he hsq
  have r0 : 0 < r := by
    rcases (by omega : 0 < r ∨ r = 0) with z | z
    · exact z
    · rw [z] at hsq
      exact absurd hsq (by decide +kernel)
  obtain ⟨sgn, kl⟩ := root_facts hi hj r0 hs e5
  refine ⟨a', 0, 0, d', c', e', s', v', a', 0, d', c', e', v', s', n1, n2, ⟨two_le y1 (by decide), by decide, by decide, two_le y2 (by decide)⟩, ⟨two_le y3 (by decide), two_le y4 (by decide), two_le y5 (by decide), two_le y6 (by decide)⟩, fun z => absurd rfl z, if_pos rfl, ?_⟩
  have q1 : a' * c' + 0 * e' * s' = a' * c' := by grind
  have q2 : a' * e' + 0 * c' = a' * e' := by grind
  have q3 : 0 * v' + e' * d' = e' * d' := by grind
  have kp := Int.mul_pos hj (ab_pos he)
  have lp := Int.mul_pos hi (ab_pos he')
  have ee : e' * v * (j * ab e) = e * v' * (i * ab e') := by
    have x : e' * v * (j * ab e) = (j * v) * (e' * ab e) := by grind
    rw [x, ← e3, sg_ab sgn]
    grind
  have ec : c' * v = c * v' := by
    refine Int.eq_of_mul_eq_mul_left (show i ≠ 0 by omega) ?_
    have x : i * (c' * v) = (i * c') * v := by grind
    have x2 : i * (c * v') = c * (i * v') := by grind
    rw [x, x2, e4, e3]
    grind
  refine ⟨two_le y1 (by decide), by decide, two_le y2 (by decide), two_le y3 (by decide), two_le y4 (by decide), two_le y6 (by decide), two_le y5 (by decide), two_le (add_lt (two_le (mul_lt y1 y6) (show 900 + 903 ≤ 1803 by decide)) (two_le (mul_lt y3 y2) (show 903 + 900 ≤ 1803 by decide))) (by decide), by rw [q3]; exact two_le (mul_lt y4 y2) (by decide), by rw [q1]; exact two_le (mul_lt y1 y3) (by decide), by rw [q2]; exact two_le (mul_lt y1 y4) (by decide), two_le (mul_lt y2 y6) (by decide), by have := Int.mul_pos p1 p2; omega, fun _ => nsq, fun _ => nsq, ?_, ?_⟩
  · exact one_sum hd hv hr p1 p2 (by omega) (by rw [← e1, ← e2]; grind) ec kp lp kl.symm (by grind) ee
  · exact one_mul hd hv hr p1 p2 (by omega) (by rw [← e1, ← e2]; grind) ec kp lp kl.symm (by grind) ee
/-- a root and a fraction -/
theorem two_qf {a b c r d v : Int} (zc : c.natAbs < 2 ^ 900) (zv : v.natAbs < 2 ^ 900) (hv : 0 < v) (z : Bd a b r d) (hd : 0 < d) (hr : 0 ≤ r) (hb : b ≠ 0) (hsq : isSqB r = false) :
    ∃ a' b' r' d' c' e' s' v' a1 b1 w1 c1 d1 v1 r1 : Int, NumD (formD a b r d) a' b' r' d' ∧ NumD (fracD c v) c' e' s' v' ∧ Fine4 a' b' r' d' ∧ Fine4 c' e' s' v' ∧ (r' ≠ 0 → 0 ≤ r' * s' ∧ (r' * s').natAbs < 2 ^ 13000) ∧
      one7 a' b' r' d' c' e' s' v' = [a1, b1, w1, c1, d1, v1, r1] ∧ TwoOk a b r d c 0 v a1 b1 w1 c1 d1 v1 r1 := by
  obtain ⟨c', v', i, n2, hi, e1, e2, p2, y3, y4⟩ := frac_d hv zc zv
  obtain ⟨a', b', r', d', g, h, n1, hg, hh, e3, e4, e5, p1, hs, hb', nsq, y1, y2, y5, y6⟩ := quad_d z hd hr hb hsq
  have r0 : 0 < r := by
    rcases (by omega : 0 < r ∨ r = 0) with z | z
    · exact z
    · rw [z] at hsq
      exact absurd hsq (by decide +kernel)
  obtain ⟨sgn, kl⟩ := root_facts hg hh r0 hs e5
  have z0 : (0 * isq (r' * 0) : Int) = 0 := by grind
  refine ⟨a', b', r', d', c', 0, 0, v', a', b', d', c' * r', 0, v' * r', r', n1, n2, ⟨two_le y1 (by decide), two_le y2 (by decide), two_le y5 (by decide), two_le y6 (by decide)⟩, ⟨two_le y3 (by decide), by decide, by decide, two_le y4 (by decide)⟩, fun _ => by rw [Int.mul_zero]; exact ⟨by decide, by decide⟩, by unfold one7; rw [if_neg (by omega), z0], ?_⟩
  have m1 := mul_lt y3 y5
  have m2 := mul_lt y4 y5
  have q1 : a' * (c' * r') + b' * 0 * r' = a' * (c' * r') := by grind
  have q2 : a' * 0 + b' * (c' * r') = b' * (c' * r') := by grind
  have q3 : b' * (v' * r') + 0 * d' = b' * (v' * r') := by grind
  have kp := Int.mul_pos hh (ab_pos hb)
  have lp := Int.mul_pos hg (ab_pos hb')
  have pv := Int.mul_pos p2 hs
  have eb : b' * d * (h * ab b) = b * d' * (g * ab b') := by
    have x : b' * d * (h * ab b) = (h * d) * (b' * ab b) := by grind
    rw [x, ← e3, sg_ab sgn]
    grind
  have ea : a' * d = a * d' := by
    refine Int.eq_of_mul_eq_mul_left (show g ≠ 0 by omega) ?_
    have x : g * (a' * d) = (g * a') * d := by grind
    have x2 : g * (a * d') = a * (g * d') := by grind
    rw [x, x2, e4, e3]
    grind
  have ec : c' * r' * v = c * (v' * r') := by
    rw [← e1, ← e2]
    grind
  refine ⟨two_le y1 (by decide), two_le y2 (by decide), two_le y6 (by decide), two_le m1 (by decide), by decide, two_le m2 (by decide), two_le y5 (by decide), two_le (add_lt (two_le (mul_lt y1 m2) (show 903 + (900 + 1808) ≤ 3611 by decide)) (two_le (mul_lt m1 y6) (show 900 + 1808 + 903 ≤ 3611 by decide))) (by decide), by rw [q3]; exact two_le (mul_lt y2 m2) (by decide), by rw [q1]; exact two_le (mul_lt y1 m1) (by decide), by rw [q2]; exact two_le (mul_lt y2 m1) (by decide), two_le (mul_lt y6 m2) (by decide), by have := Int.mul_pos p1 pv; omega, fun _ => nsq, fun _ => nsq, ?_, ?_⟩
  · exact one_sum hd hv hr p1 pv (by omega) ea ec kp lp kl.symm eb (by grind)
  · exact one_mul hd hv hr p1 pv (by omega) ea ec kp lp kl.symm eb (by grind)
/-- two roots -/
theorem two_qq {a b c e r d v : Int} (z : Bd a b r d) (z2 : Bd c e r v) (hd : 0 < d) (hv : 0 < v) (hr : 0 ≤ r) (hb : b ≠ 0) (he : e ≠ 0) (hsq : isSqB r = false) :
    ∃ a' b' r' d' c' e' s' v' a1 b1 w1 c1 d1 v1 r1 : Int, NumD (formD a b r d) a' b' r' d' ∧ NumD (formD c e r v) c' e' s' v' ∧ Fine4 a' b' r' d' ∧ Fine4 c' e' s' v' ∧ (r' ≠ 0 → 0 ≤ r' * s' ∧ (r' * s').natAbs < 2 ^ 13000) ∧
      one7 a' b' r' d' c' e' s' v' = [a1, b1, w1, c1, d1, v1, r1] ∧ TwoOk a b r d c e v a1 b1 w1 c1 d1 v1 r1 := by
  obtain ⟨a', b', r', d', g, h, n1, hg, hh, e3, e4, e5, p1, hs, hb', nsq, y1, y2, y5, y6⟩ := quad_d z hd hr hb hsq
  obtain ⟨c', e', s', v', i, j, n2, hi, hj, f3, f4, f5, p2, ht, he', nsq2, x1, x2, x5, x6⟩ := quad_d z2 hv hr he hsq
  have r0 : 0 < r := by
    rcases (by omega : 0 < r ∨ r = 0) with z | z
    · exact z
    · rw [z] at hsq
      exact absurd hsq (by decide +kernel)
  obtain ⟨sgn, kl⟩ := root_facts hg hh r0 hs e5
  obtain ⟨sgn2, kl2⟩ := root_facts hi hj r0 ht f5
  have rs0 : 0 < r' * s' := Int.mul_pos hs ht
  have rsz := mul_lt y5 x5
  have iz := isq_half rsz
  have isn := isq_nn (r' * s')
  have sqr : isSqB (r' * s') = true := by
    refine sq_free (A := g * ab b' * (i * ab e')) (B := h * ab b * (j * ab e) * r) ?_ ?_ (by omega)
    · have k1 := Int.mul_pos (Int.mul_pos hg (ab_pos hb')) (Int.mul_pos hi (ab_pos he'))
      omega
    · have x : g * ab b' * (i * ab e') * (g * ab b' * (i * ab e')) * (r' * s') = (g * ab b' * (g * ab b') * r') * (i * ab e' * (i * ab e') * s') := by grind
      rw [x, kl, kl2]
      grind
  have ii := isSq_root sqr
  refine ⟨a', b', r', d', c', e', s', v', a', b', d', c' * r', e' * isq (r' * s'), v' * r', r', n1, n2, ⟨two_le y1 (by decide), two_le y2 (by decide), two_le y5 (by decide), two_le y6 (by decide)⟩, ⟨two_le x1 (by decide), two_le x2 (by decide), two_le x5 (by decide), two_le x6 (by decide)⟩, fun _ => ⟨by omega, two_le rsz (by decide)⟩, by unfold one7; rw [if_neg (by omega)], ?_⟩
  generalize isq (r' * s') = t at *
  have m1 := mul_lt x1 y5
  have m2 := mul_lt x6 y5
  have m3 := mul_lt x2 iz
  have kp := Int.mul_pos hh (ab_pos hb)
  have lp := Int.mul_pos hg (ab_pos hb')
  have pv := Int.mul_pos p2 hs
  have eb : b' * d * (h * ab b) = b * d' * (g * ab b') := by
    have x : b' * d * (h * ab b) = (h * d) * (b' * ab b) := by grind
    rw [x, ← e3, sg_ab sgn]
    grind
  have ea : a' * d = a * d' := by
    refine Int.eq_of_mul_eq_mul_left (show g ≠ 0 by omega) ?_
    have x : g * (a' * d) = (g * a') * d := by grind
    have x2 : g * (a * d') = a * (g * d') := by grind
    rw [x, x2, e4, e3]
    grind
  have ec : c' * r' * v = c * (v' * r') := by
    refine Int.eq_of_mul_eq_mul_left (show i ≠ 0 by omega) ?_
    have x : i * (c' * r' * v) = (i * c') * r' * v := by grind
    have x2 : i * (c * (v' * r')) = c * r' * (i * v') := by grind
    rw [x, x2, f4, f3]
    grind
  have key : e' * t * (h * ab b) * i = e * r' * (g * ab b') * j := by
    apply ss_inj
    have kp' : 0 ≤ h * ab b := by omega
    have lp' : 0 ≤ g * ab b' := by omega
    rw [ss_mul, ss_mul, ss_mul, ss_mul (e * r' * (g * ab b')), ss_mul (e * r'), ss_mul e, ss_nn isn, ss_nn kp', ss_nn (x := i) (by omega), ss_nn (x := r') (by omega), ss_nn lp', ss_nn (x := j) (by omega), ii]
    have x : ss e' * (r' * s') * (h * ab b * (h * ab b)) * (i * i) = (i * i * (ss e' * s')) * r' * (h * ab b * (h * ab b)) := by grind
    rw [x, f5]
    have y : ss e * (r' * r') * (g * ab b' * (g * ab b')) * (j * j) = ss e * r' * (j * j) * (g * ab b' * (g * ab b') * r') := by grind
    rw [y, kl]
    grind
  have ee : e' * t * v * (h * ab b) = e * (v' * r') * (g * ab b') := by
    refine Int.eq_of_mul_eq_mul_left (show i ≠ 0 by omega) ?_
    have x : i * (e' * t * v * (h * ab b)) = (e' * t * (h * ab b) * i) * v := by grind
    have x2 : i * (e * (v' * r') * (g * ab b')) = e * r' * (g * ab b') * (i * v') := by grind
    rw [x, x2, key, f3]
    grind
  refine ⟨two_le y1 (by decide), two_le y2 (by decide), two_le y6 (by decide), two_le m1 (by decide), two_le m3 (by decide), two_le m2 (by decide), two_le y5 (by decide), two_le (add_lt (two_le (mul_lt y1 m2) (show 903 + (903 + 1808) ≤ 3614 by decide)) (two_le (mul_lt m1 y6) (show 903 + 1808 + 903 ≤ 3614 by decide))) (by decide), two_le (add_lt (two_le (mul_lt y2 m2) (show 2 + (903 + 1808) ≤ 2713 by decide)) (two_le (mul_lt m3 y6) (show 2 + 1808 + 903 ≤ 2713 by decide))) (by decide), two_le (add_lt (two_le (mul_lt y1 m1) (show 903 + (903 + 1808) ≤ 3620 by decide)) (two_le (mul_lt (mul_lt y2 m3) y5) (show 2 + (2 + 1808) + 1808 ≤ 3620 by decide))) (by decide), two_le (add_lt (two_le (mul_lt y1 m3) (show 903 + (2 + 1808) ≤ 2713 by decide)) (two_le (mul_lt y2 m1) (show 2 + (903 + 1808) ≤ 2713 by decide))) (by decide), two_le (mul_lt y6 m2) (by decide), by have := Int.mul_pos p1 pv; omega, fun _ => nsq, fun _ => nsq, ?_, ?_⟩
  · exact one_sum hd hv hr p1 pv (by omega) ea ec kp lp kl.symm eb ee
  · exact one_mul hd hv hr p1 pv (by omega) ea ec kp lp kl.symm eb ee
/-- any two numbers of one root -/
theorem two_d {a b c e r d v : Int} (z : Bd a b r d) (z2 : Bd c e r v) (hd : 0 < d) (hv : 0 < v) (hr : 0 ≤ r) :
    ∃ a' b' r' d' c' e' s' v' a1 b1 w1 c1 d1 v1 r1 : Int, NumD (formD a b r d) a' b' r' d' ∧ NumD (formD c e r v) c' e' s' v' ∧ Fine4 a' b' r' d' ∧ Fine4 c' e' s' v' ∧ (r' ≠ 0 → 0 ≤ r' * s' ∧ (r' * s').natAbs < 2 ^ 13000) ∧
      one7 a' b' r' d' c' e' s' v' = [a1, b1, w1, c1, d1, v1, r1] ∧ TwoOk a b r d c e v a1 b1 w1 c1 d1 v1 r1 := by
  obtain ⟨za, zb, zr, zd⟩ := id z
  obtain ⟨zc, ze, _, zv⟩ := id z2
  cases hsq : isSqB r with
  | true =>
    have sz := isq_small zr
    have ss2 := isSq_root hsq
    rw [form_sq hsq, form_sq (a := c) hsq, form_zero, form_zero]
    have w1 := two_le (add_lt (two_le za (show 450 ≤ 200 + 450 by decide)) (mul_lt zb sz)) (show 200 + 450 + 1 ≤ 900 by decide)
    have w2 := two_le (add_lt (two_le zc (show 450 ≤ 200 + 450 by decide)) (mul_lt ze sz)) (show 200 + 450 + 1 ≤ 900 by decide)
    obtain ⟨a', b', r', d', c', e', s', v', a1, b1, w1, c1, d1, v1, r1, h1, h2, h3, h4, h5, h6, t⟩ := two_flat w1 (two_le zd (by decide)) w2 (two_le zv (by decide)) hd hv
    refine ⟨a', b', r', d', c', e', s', v', a1, b1, w1, c1, d1, v1, r1, h1, h2, h3, h4, h5, h6, { t with sum := ?_, mul := ?_ }⟩
    · rw [t.sum, form_sq (b := b * v + e * d) hsq, form_zz _ r 0]
      congr 1 <;> grind
    · rw [t.mul, form_sq (b := a * e + b * c) hsq, form_zz _ r 0]
      generalize isq r = s at *
      rw [← ss2]
      congr 1 <;> grind
  | false =>
    by_cases cb : b = 0 <;> by_cases ce : e = 0
    · subst cb
      subst ce
      rw [form_zero, form_zero]
      obtain ⟨a', b', r', d', c', e', s', v', a1, b1, w1, c1, d1, v1, r1, h1, h2, h3, h4, h5, h6, t⟩ := two_flat (two_le za (show 450 ≤ 900 by decide)) (two_le zd (by decide)) (two_le zc (show 450 ≤ 900 by decide)) (two_le zv (by decide)) hd hv
      refine ⟨a', b', r', d', c', e', s', v', a1, b1, w1, c1, d1, v1, r1, h1, h2, h3, h4, h5, h6, { t with sum := ?_, mul := ?_ }⟩
      · have q : (0 * v + 0 * d : Int) = 0 := by grind
        rw [t.sum, q, form_zz _ r 0]
      · have q : (a * 0 + 0 * c : Int) = 0 := by grind
        have q2 : (0 * 0 * r : Int) = 0 * 0 * 0 := by grind
        rw [t.mul, q, q2, form_zz _ r 0]
    · subst cb
      rw [form_zero]
      exact two_fq (two_le za (by decide)) (two_le zd (by decide)) hd z2 hv hr ce hsq
    · subst ce
      rw [form_zero c]
      exact two_qf (two_le zc (by decide)) (two_le zv (by decide)) hv z hd hr cb hsq
    · exact two_qq z z2 hd hv hr cb ce hsq

/-- a form told by other parts -/
theorem form_to {a b r d A B D : Int} (hd : 0 < d) (hD : 0 < D) (hr : 0 ≤ r) (e1 : a * D = A * d) (e2 : b * D = B * d) : formD a b r d = formD A B r D := by
  refine form_same ⟨d, D, hd, hD, Int.mul_comm _ _, by grind, ?_⟩ hd hD hr hr
  have x : d * B = D * b := by grind
  have y := congrArg ss x
  rw [ss_up hd, ss_up hD] at y
  have z : d * d * (ss B * r) = d * d * ss B * r := by grind
  rw [z, y]
  grind
theorem fdiv_neg {x g : Int} (hg : 0 < g) (h : g ∣ x) : (-x).fdiv g = - x.fdiv g := by
  obtain ⟨k, rfl⟩ := h
  rw [Int.fdiv_eq_ediv_of_nonneg _ (by omega), Int.fdiv_eq_ediv_of_nonneg _ (by omega), show -(g * k) = g * -k by grind, Int.mul_ediv_cancel_left _ (by omega), Int.mul_ediv_cancel_left _ (by omega)]
theorem gcd_negL (x y : Int) : gcdI (-x) y = gcdI x y := by
  unfold gcdI
  rw [Int.natAbs_neg]
theorem gcd_negR (x y : Int) : gcdI x (-y) = gcdI x y := by
  unfold gcdI
  rw [Int.natAbs_neg]
/-- a fraction told over a number below 0 -/
theorem frac_flip {a b : Int} (hb : b ≠ 0) : fracD (-a) (-b) = fracD a b := by
  unfold fracD redN redD gz
  rw [gcd_negL, gcd_negR]
  have g0 := gcd_pos (a := a) hb
  have da := gcd_dvd_l a b
  have db := gcd_dvd_r a b
  obtain ⟨g, hg⟩ : ∃ g, gcdI a b = g := ⟨_, rfl⟩
  rw [hg] at g0 da db ⊢
  obtain ⟨k, rfl⟩ := da
  obtain ⟨l, rfl⟩ := db
  have e1 : ∀ k : Int, (-(g * k)).fdiv g = -k := fun k => by rw [fdiv_neg g0 ⟨k, rfl⟩, Int.fdiv_eq_ediv_of_nonneg _ (by omega), Int.mul_ediv_cancel_left _ (by omega)]
  have e2 : ∀ k : Int, (g * k).fdiv (-g) = -k := fun k => by
    have : g * k = -g * -k := by grind
    rw [this]
    exact Int.mul_fdiv_cancel_left _ (by omega)
  have e3 : ∀ k : Int, (-(g * k)).fdiv (-g) = k := fun k => by
    have : -(g * k) = -g * k := by grind
    rw [this]
    exact Int.mul_fdiv_cancel_left _ (by omega)
  have e4 : ∀ k : Int, (g * k).fdiv g = k := fun k => Int.mul_fdiv_cancel_left _ (by omega)
  rcases (by omega : 0 < g * l ∨ g * l < 0) with c | c
  · rw [if_pos (by omega), if_neg (by omega), e3, e3, e4, e4]
  · rw [if_neg (by omega), if_pos (by omega), e1, e1, e2, e2]
/-- the opposite of a form -/
def negD : PyData → PyData
  | .tuple [.int a, .int b] => .tuple [.int (-a), .int b]
  | .tuple [.int p, .int q, .int s, .bool u] => .tuple [.int p, .int (-q), .int s, .bool (!u)]
  | x => x
theorem form_neg {a b r d : Int} (hd : 0 < d) : negD (formD a b r d) = formD (-a) (-b) r d := by
  by_cases c : b = 0 ∨ isSqB r = true
  · rw [form_flat c, form_flat (by rcases c with c | c; exact .inl (by omega); exact .inr c)]
    have e : -a + -b * isq r = -(a + b * isq r) := by grind
    rw [e]
    obtain ⟨h1, h2⟩ := redN_neg (a := a + b * isq r) hd
    unfold fracD
    rw [h1, h2]
    rfl
  · have c' : ¬ (-b = 0 ∨ isSqB r = true) := fun z => z.elim (fun z => c (.inl (by omega))) fun z => c (.inr z)
    unfold formD
    rw [if_neg c, if_neg c']
    have e1 : 0 - 2 * -a * d = -(0 - 2 * a * d) := by grind
    have e2 : -a * -a - -b * -b * r = a * a - b * b * r := by grind
    have g0 := gcd_pos3 (a := 0 - 2 * a * d) (b := a * a - b * b * r) hd
    have d2 : gcdI (gcdI (d * d) (0 - 2 * a * d)) (a * a - b * b * r) ∣ 0 - 2 * a * d := Int.dvd_trans (gcd_dvd_l _ _) (gcd_dvd_r _ _)
    have b0 : b ≠ 0 := fun z => c (.inl z)
    have u : decide (0 < -b) = !decide (0 < b) := by
      by_cases k : 0 < b
      · rw [decide_eq_true k, decide_eq_false (by omega)] <;> rfl
      · rw [decide_eq_false k, decide_eq_true (by omega)] <;> rfl
    unfold quadD
    rw [e1, e2, gcd_negR, fdiv_neg g0 d2, u]
    rfl
theorem neg_num {x : PyData} {a b r d : Int} (hn : NumD x a b r d) : NumD (negD x) (-a) (-b) r d := by
  rcases hn with ⟨rfl, rfl, rfl⟩ | ⟨p, q, s, u, rfl, rfl, rfl, rfl, rfl, z1, z2, z3⟩
  · exact .inl ⟨rfl, rfl, rfl⟩
  · refine .inr ⟨p, -q, s, !u, rfl, by omega, ?_, by grind, rfl, z1, by omega, z3⟩
    cases u <;> rfl
/-- a tuple of two or of four: a number's form -/
theorem Bd.neg {a b r d : Int} (z : Bd a b r d) : Bd (-a) (-b) r d := ⟨by have := z.1; omega, by have := z.2.1; omega, z.2.2.1, z.2.2.2⟩
theorem Bd.fr {a d r : Int} (z1 : a.natAbs < 2 ^ 450) (z2 : d.natAbs < 2 ^ 450) (zr : r.natAbs < 2 ^ 450) : Bd a 0 r d := ⟨z1, by decide, zr, z2⟩
end Lw

namespace Lw
open PySem L2
/-! ### wide numbers: as in Num6 with wider bounds -/
def Bw (a b r d : Int) : Prop := a.natAbs < 2 ^ 1500 ∧ b.natAbs < 2 ^ 1100 ∧ r.natAbs < 2 ^ 800 ∧ d.natAbs < 2 ^ 1500
theorem quad_dW {a b r d : Int} (z : Bw a b r d) (hd : 0 < d) (hr : 0 ≤ r) (hb : b ≠ 0) (hsq : isSqB r = false) :
    ∃ a' b' r' d' g h : Int, NumD (formD a b r d) a' b' r' d' ∧ 0 < g ∧ 0 < h ∧ g * d' = h * d ∧ g * a' = h * a ∧ g * g * (ss b' * r') = h * h * (ss b * r) ∧ 0 < d' ∧ 0 < r' ∧ b' ≠ 0 ∧ isSqB r' = false ∧
      a'.natAbs < 2 ^ 3003 ∧ b'.natAbs < 2 ^ 2 ∧ r'.natAbs < 2 ^ 6008 ∧ d'.natAbs < 2 ^ 3003 := by
  obtain ⟨za, zb, zr, zd⟩ := z
  have c : ¬ (b = 0 ∨ isSqB r = true) := fun z => z.elim hb fun z => by rw [hsq] at z; cases z
  have r0 : 0 < r := by
    rcases (by omega : 0 < r ∨ r = 0) with z | z
    · exact z
    · rw [z] at hsq
      exact absurd hsq (by decide +kernel)
  have g0 := gcd_pos3 (a := 0 - 2 * a * d) (b := a * a - b * b * r) hd
  have d1 : gcdI (gcdI (d * d) (0 - 2 * a * d)) (a * a - b * b * r) ∣ d * d := Int.dvd_trans (gcd_dvd_l _ _) (gcd_dvd_l _ _)
  have d2 : gcdI (gcdI (d * d) (0 - 2 * a * d)) (a * a - b * b * r) ∣ 0 - 2 * a * d := Int.dvd_trans (gcd_dvd_l _ _) (gcd_dvd_r _ _)
  have d3 : gcdI (gcdI (d * d) (0 - 2 * a * d)) (a * a - b * b * r) ∣ a * a - b * b * r := gcd_dvd_r _ _
  have w1 := mul_lt zd zd
  have w2 : (2 * a : Int).natAbs < 2 ^ (2 + 1500) := mul_lt (by decide) za
  have w3 := mul_lt w2 zd
  have w4 := mul_lt za za
  have w5 := mul_lt zb zb
  have w6 := mul_lt w5 zr
  have s1 : (0 - 2 * a * d : Int).natAbs < 2 ^ 3002 := by omega
  have s2 : (a * a - b * b * r : Int).natAbs < 2 ^ (3000 + 1) := sub_lt (two_le w4 (by decide)) (two_le w6 (by decide))
  have f1 := fdiv_le g0 (two_le w1 (show 1500 + 1500 ≤ 3000 by decide))
  have f2 := fdiv_le g0 s1
  have f3 := fdiv_le g0 s2
  have k1 := fdiv_of g0 d1
  have k2 := fdiv_of g0 d2
  have k3 := fdiv_of g0 d3
  have eF : formD a b r d = quadD (d * d) (0 - 2 * a * d) (a * a - b * b * r) (decide (0 < b)) := if_neg c
  rw [eF]
  unfold quadD
  generalize (d * d).fdiv (gcdI (gcdI (d * d) (0 - 2 * a * d)) (a * a - b * b * r)) = p at *
  generalize (0 - 2 * a * d).fdiv (gcdI (gcdI (d * d) (0 - 2 * a * d)) (a * a - b * b * r)) = q at *
  generalize (a * a - b * b * r).fdiv (gcdI (gcdI (d * d) (0 - 2 * a * d)) (a * a - b * b * r)) = s at *
  generalize gcdI (gcdI (d * d) (0 - 2 * a * d)) (a * a - b * b * r) = g at *
  have dd : 0 < d * d := Int.mul_pos hd hd
  have p0 : 0 < p := by
    apply Decidable.byContradiction
    intro z
    have : g * p ≤ 0 := Int.mul_nonpos_of_nonneg_of_nonpos (by omega) (by omega)
    omega
  have key : g * g * (q * q - 4 * p * s) = 4 * (d * d) * (b * b * r) := by
    have x : g * g * (q * q - 4 * p * s) = (g * q) * (g * q) - 4 * (g * p) * (g * s) := by grind
    rw [x, k1, k2, k3]
    grind
  have bb : 0 < b * b := by
    rcases (by omega : 0 < b ∨ b < 0) with z | z
    · exact Int.mul_pos z z
    · exact Int.mul_pos_of_neg_of_neg z z
  have rp : 0 < q * q - 4 * p * s := by
    apply Decidable.byContradiction
    intro z
    have n1 : g * g * (q * q - 4 * p * s) ≤ 0 := Int.mul_nonpos_of_nonneg_of_nonpos (Int.mul_nonneg (by omega) (by omega)) (by omega)
    have n2 : 0 < 4 * (d * d) * (b * b * r) := Int.mul_pos (by omega) (Int.mul_pos bb r0)
    omega
  have y1 := mul_lt f2 f2
  have y2 : (4 * p : Int).natAbs < 2 ^ (3 + 3000) := mul_lt (by decide) f1
  have y3 := mul_lt y2 f3
  refine ⟨-q, (if decide (0 < b) = true then 1 else -1), q * q - 4 * p * s, 2 * p, g, 2 * d, .inr ⟨p, q, s, decide (0 < b), rfl, rfl, rfl, rfl, rfl, two_le f1 (by decide), two_le f2 (by decide), two_le f3 (by decide)⟩,
    g0, by omega, by grind, by grind, ?_, by omega, rp, by split <;> decide, ?_, by omega, by split <;> decide, two_le (sub_lt (two_le y1 (show 3002 + 3002 ≤ 6007 by decide)) (two_le y3 (show 3 + 3000 + (3000 + 1) ≤ 6007 by decide))) (by decide), by omega⟩
  · rcases (by omega : 0 < b ∨ b < 0) with z | z
    · rw [if_pos (decide_eq_true z), show ss 1 = 1 from rfl, ss_nn (by omega), Int.one_mul, key]
      grind
    · have zz : ¬ decide (0 < b) = true := by simp; omega
      have sb : ss b = -(b * b) := by
        unfold ss
        rw [ab_np (by omega)]
        grind
      rw [if_neg zz, show ss (-1) = -1 from rfl, sb]
      have x : g * g * (-1 * (q * q - 4 * p * s)) = -(g * g * (q * q - 4 * p * s)) := by grind
      rw [x, key]
      grind
  · cases z : isSqB (q * q - 4 * p * s)
    · rfl
    · exfalso
      unfold isSqB at z
      simp only [Bool.and_eq_true, decide_eq_true_eq] at z
      have x := sq_free (A := 2 * d * b) (B := g * isq (q * q - 4 * p * s)) (r := r) (Int.mul_ne_zero (by omega) hb) (by
        have y : g * isq (q * q - 4 * p * s) * (g * isq (q * q - 4 * p * s)) = g * g * (isq (q * q - 4 * p * s) * isq (q * q - 4 * p * s)) := by grind
        rw [y, z.2, key]
        grind) (by omega)
      rw [x] at hsq
      cases hsq
theorem frac_dW {a d : Int} (hd : 0 < d) (za : a.natAbs < 2 ^ 3000) (zd : d.natAbs < 2 ^ 3000) :
    ∃ a' d' g : Int, NumD (fracD a d) a' 0 0 d' ∧ 0 < g ∧ g * d' = d ∧ g * a' = a ∧ 0 < d' ∧ a'.natAbs < 2 ^ 3000 ∧ d'.natAbs < 2 ^ 3000 := by
  obtain ⟨e1, e2⟩ := red_pos (a := a) hd
  have le := red_le (a := a) hd
  refine ⟨redN a d, redD a d, gcdI a d, .inl ⟨rfl, rfl, rfl⟩, gcd_pos (by omega), ?_, ?_, (red_fr hd).1, by omega, by omega⟩
  · rw [e2]
    exact Int.mul_ediv_cancel' (gcd_dvd_r _ _)
  · rw [e1]
    exact Int.mul_ediv_cancel' (gcd_dvd_l _ _)
structure TwoOkW (a b r d c e v a1 b1 w1 c1 d1 v1 r1 : Int) : Prop where
  x1 : a1.natAbs < 2 ^ 20000
  x2 : b1.natAbs < 2 ^ 20000
  x3 : w1.natAbs < 2 ^ 20000
  x4 : c1.natAbs < 2 ^ 20000
  x5 : d1.natAbs < 2 ^ 20000
  x6 : v1.natAbs < 2 ^ 20000
  x7 : r1.natAbs < 2 ^ 12200
  s1 : (a1 * v1 + c1 * w1).natAbs < 2 ^ 12200
  s2 : (b1 * v1 + d1 * w1).natAbs < 2 ^ 12200
  m1 : (a1 * c1 + b1 * d1 * r1).natAbs < 2 ^ 12200
  m2 : (a1 * d1 + b1 * c1).natAbs < 2 ^ 12200
  dd : (w1 * v1).natAbs < 2 ^ 12200
  nz : w1 * v1 ≠ 0
  sq1 : b1 * v1 + d1 * w1 ≠ 0 → isSqB r1 = false
  sq2 : a1 * d1 + b1 * c1 ≠ 0 → isSqB r1 = false
  sum : formD (a1 * v1 + c1 * w1) (b1 * v1 + d1 * w1) r1 (w1 * v1) = formD (a * v + c * d) (b * v + e * d) r (d * v)
  mul : formD (a1 * c1 + b1 * d1 * r1) (a1 * d1 + b1 * c1) r1 (w1 * v1) = formD (a * c + b * e * r) (a * e + b * c) r (d * v)
theorem two_flatW {a d c v : Int} (za : a.natAbs < 2 ^ 3000) (zd : d.natAbs < 2 ^ 3000) (zc : c.natAbs < 2 ^ 3000) (zv : v.natAbs < 2 ^ 3000) (hd : 0 < d) (hv : 0 < v) :
    ∃ a' b' r' d' c' e' s' v' a1 b1 w1 c1 d1 v1 r1 : Int, NumD (fracD a d) a' b' r' d' ∧ NumD (fracD c v) c' e' s' v' ∧ Fine4 a' b' r' d' ∧ Fine4 c' e' s' v' ∧ (r' ≠ 0 → 0 ≤ r' * s' ∧ (r' * s').natAbs < 2 ^ 13000) ∧
      one7 a' b' r' d' c' e' s' v' = [a1, b1, w1, c1, d1, v1, r1] ∧ TwoOkW a 0 0 d c 0 v a1 b1 w1 c1 d1 v1 r1 := by
  obtain ⟨a', d', g, n1, hg, e1, e2, p1, y1, y2⟩ := frac_dW hd za zd
  obtain ⟨c', v', i, n2, hi, e3, e4, p2, y3, y4⟩ := frac_dW hv zc zv
  refine ⟨a', 0, 0, d', c', 0, 0, v', a', 0, d', c', 0, v', 0, n1, n2, ⟨two_le y1 (by decide), by decide, by decide, two_le y2 (by decide)⟩, ⟨two_le y3 (by decide), by decide, by decide, two_le y4 (by decide)⟩, fun z => absurd rfl z, if_pos rfl, ?_⟩
  have m1 := mul_lt y1 y4
  have m2 := mul_lt y3 y2
  have q1 : (a' * c' + 0 * 0 * 0 : Int) = a' * c' := by grind
  have q2 : (a' * 0 + 0 * c' : Int) = 0 := by grind
  have q3 : (0 * v' + 0 * d' : Int) = 0 := by grind
  refine ⟨two_le y1 (by decide), by decide, two_le y2 (by decide), two_le y3 (by decide), by decide, two_le y4 (by decide), by decide, two_le (add_lt m1 (two_le m2 (show 3000 + 3000 ≤ 3000 + 3000 by decide))) (by decide), by rw [q3]; decide, by rw [q1]; exact two_le (mul_lt y1 y3) (by decide), by rw [q2]; decide, two_le (mul_lt y2 y4) (by decide), by have := Int.mul_pos p1 p2; omega, fun z => absurd q3 z, fun z => absurd q2 z, ?_, ?_⟩
  · exact one_sum (k := 1) (l := 1) hd hv (by decide) p1 p2 (by decide) (by rw [← e1, ← e2]; grind) (by rw [← e3, ← e4]; grind) (by decide) (by decide) rfl (by grind) (by grind)
  · exact one_mul (k := 1) (l := 1) hd hv (by decide) p1 p2 (by decide) (by rw [← e1, ← e2]; grind) (by rw [← e3, ← e4]; grind) (by decide) (by decide) rfl (by grind) (by grind)
theorem two_fqW {a c e r d v : Int} (za : a.natAbs < 2 ^ 3000) (zd : d.natAbs < 2 ^ 3000) (hd : 0 < d) (z : Bw c e r v) (hv : 0 < v) (hr : 0 ≤ r) (he : e ≠ 0) (hsq : isSqB r = false) :
    ∃ a' b' r' d' c' e' s' v' a1 b1 w1 c1 d1 v1 r1 : Int, NumD (fracD a d) a' b' r' d' ∧ NumD (formD c e r v) c' e' s' v' ∧ Fine4 a' b' r' d' ∧ Fine4 c' e' s' v' ∧ (r' ≠ 0 → 0 ≤ r' * s' ∧ (r' * s').natAbs < 2 ^ 13000) ∧
      one7 a' b' r' d' c' e' s' v' = [a1, b1, w1, c1, d1, v1, r1] ∧ TwoOkW a 0 r d c e v a1 b1 w1 c1 d1 v1 r1 := by
  obtain ⟨a', d', g, n1, hg, e1, e2, p1, y1, y2⟩ := frac_dW hd za zd
  obtain ⟨c', e', s', v', i, j, n2, hi, hj, e3, e4, e5, p2, hs, he', nsq, y3, y4, y5, y6⟩ := quad_dW z hv hr he hsq
  have r0 : 0 < r := by
    rcases (by omega : 0 < r ∨ r = 0) with z | z
    · exact z
    · rw [z] at hsq
      exact absurd hsq (by decide +kernel)
  obtain ⟨sgn, kl⟩ := root_facts hi hj r0 hs e5
  refine ⟨a', 0, 0, d', c', e', s', v', a', 0, d', c', e', v', s', n1, n2, ⟨two_le y1 (by decide), by decide, by decide, two_le y2 (by decide)⟩, ⟨two_le y3 (by decide), two_le y4 (by decide), two_le y5 (by decide), two_le y6 (by decide)⟩, fun z => absurd rfl z, if_pos rfl, ?_⟩
  have q1 : a' * c' + 0 * e' * s' = a' * c' := by grind
  have q2 : a' * e' + 0 * c' = a' * e' := by grind
  have q3 : 0 * v' + e' * d' = e' * d' := by grind
  have kp := Int.mul_pos hj (ab_pos he)
  have lp := Int.mul_pos hi (ab_pos he')
  have ee : e' * v * (j * ab e) = e * v' * (i * ab e') := by
    have x : e' * v * (j * ab e) = (j * v) * (e' * ab e) := by grind
    rw [x, ← e3, sg_ab sgn]
    grind
  have ec : c' * v = c * v' := by
    refine Int.eq_of_mul_eq_mul_left (show i ≠ 0 by omega) ?_
    have x : i * (c' * v) = (i * c') * v := by grind
    have x2 : i * (c * v') = c * (i * v') := by grind
    rw [x, x2, e4, e3]
    grind
  refine ⟨two_le y1 (by decide), by decide, two_le y2 (by decide), two_le y3 (by decide), two_le y4 (by decide), two_le y6 (by decide), two_le y5 (by decide), two_le (add_lt (two_le (mul_lt y1 y6) (show 3000 + 3003 ≤ 6003 by decide)) (two_le (mul_lt y3 y2) (show 3003 + 3000 ≤ 6003 by decide))) (by decide), by rw [q3]; exact two_le (mul_lt y4 y2) (by decide), by rw [q1]; exact two_le (mul_lt y1 y3) (by decide), by rw [q2]; exact two_le (mul_lt y1 y4) (by decide), two_le (mul_lt y2 y6) (by decide), by have := Int.mul_pos p1 p2; omega, fun _ => nsq, fun _ => nsq, ?_, ?_⟩
  · exact one_sum hd hv hr p1 p2 (by omega) (by rw [← e1, ← e2]; grind) ec kp lp kl.symm (by grind) ee
  · exact one_mul hd hv hr p1 p2 (by omega) (by rw [← e1, ← e2]; grind) ec kp lp kl.symm (by grind) ee
theorem two_qfW {a b c r d v : Int} (zc : c.natAbs < 2 ^ 3000) (zv : v.natAbs < 2 ^ 3000) (hv : 0 < v) (z : Bw a b r d) (hd : 0 < d) (hr : 0 ≤ r) (hb : b ≠ 0) (hsq : isSqB r = false) :
    ∃ a' b' r' d' c' e' s' v' a1 b1 w1 c1 d1 v1 r1 : Int, NumD (formD a b r d) a' b' r' d' ∧ NumD (fracD c v) c' e' s' v' ∧ Fine4 a' b' r' d' ∧ Fine4 c' e' s' v' ∧ (r' ≠ 0 → 0 ≤ r' * s' ∧ (r' * s').natAbs < 2 ^ 13000) ∧
      one7 a' b' r' d' c' e' s' v' = [a1, b1, w1, c1, d1, v1, r1] ∧ TwoOkW a b r d c 0 v a1 b1 w1 c1 d1 v1 r1 := by
  obtain ⟨c', v', i, n2, hi, e1, e2, p2, y3, y4⟩ := frac_dW hv zc zv
  obtain ⟨a', b', r', d', g, h, n1, hg, hh, e3, e4, e5, p1, hs, hb', nsq, y1, y2, y5, y6⟩ := quad_dW z hd hr hb hsq
  have r0 : 0 < r := by
    rcases (by omega : 0 < r ∨ r = 0) with z | z
    · exact z
    · rw [z] at hsq
      exact absurd hsq (by decide +kernel)
  obtain ⟨sgn, kl⟩ := root_facts hg hh r0 hs e5
  have z0 : (0 * isq (r' * 0) : Int) = 0 := by grind
  refine ⟨a', b', r', d', c', 0, 0, v', a', b', d', c' * r', 0, v' * r', r', n1, n2, ⟨two_le y1 (by decide), two_le y2 (by decide), two_le y5 (by decide), two_le y6 (by decide)⟩, ⟨two_le y3 (by decide), by decide, by decide, two_le y4 (by decide)⟩, fun _ => by rw [Int.mul_zero]; exact ⟨by decide, by decide⟩, by unfold one7; rw [if_neg (by omega), z0], ?_⟩
  have m1 := mul_lt y3 y5
  have m2 := mul_lt y4 y5
  have q1 : a' * (c' * r') + b' * 0 * r' = a' * (c' * r') := by grind
  have q2 : a' * 0 + b' * (c' * r') = b' * (c' * r') := by grind
  have q3 : b' * (v' * r') + 0 * d' = b' * (v' * r') := by grind
  have kp := Int.mul_pos hh (ab_pos hb)
  have lp := Int.mul_pos hg (ab_pos hb')
  have pv := Int.mul_pos p2 hs
  have eb : b' * d * (h * ab b) = b * d' * (g * ab b') := by
    have x : b' * d * (h * ab b) = (h * d) * (b' * ab b) := by grind
    rw [x, ← e3, sg_ab sgn]
    grind
  have ea : a' * d = a * d' := by
    refine Int.eq_of_mul_eq_mul_left (show g ≠ 0 by omega) ?_
    have x : g * (a' * d) = (g * a') * d := by grind
    have x2 : g * (a * d') = a * (g * d') := by grind
    rw [x, x2, e4, e3]
    grind
  have ec : c' * r' * v = c * (v' * r') := by
    rw [← e1, ← e2]
    grind
  refine ⟨two_le y1 (by decide), two_le y2 (by decide), two_le y6 (by decide), two_le m1 (by decide), by decide, two_le m2 (by decide), two_le y5 (by decide), two_le (add_lt (two_le (mul_lt y1 m2) (show 3003 + (3000 + 6008) ≤ 12011 by decide)) (two_le (mul_lt m1 y6) (show 3000 + 6008 + 3003 ≤ 12011 by decide))) (by decide), by rw [q3]; exact two_le (mul_lt y2 m2) (by decide), by rw [q1]; exact two_le (mul_lt y1 m1) (by decide), by rw [q2]; exact two_le (mul_lt y2 m1) (by decide), two_le (mul_lt y6 m2) (by decide), by have := Int.mul_pos p1 pv; omega, fun _ => nsq, fun _ => nsq, ?_, ?_⟩
  · exact one_sum hd hv hr p1 pv (by omega) ea ec kp lp kl.symm eb (by grind)
  · exact one_mul hd hv hr p1 pv (by omega) ea ec kp lp kl.symm eb (by grind)
theorem two_qqW {a b c e r d v : Int} (z : Bw a b r d) (z2 : Bw c e r v) (hd : 0 < d) (hv : 0 < v) (hr : 0 ≤ r) (hb : b ≠ 0) (he : e ≠ 0) (hsq : isSqB r = false) :
    ∃ a' b' r' d' c' e' s' v' a1 b1 w1 c1 d1 v1 r1 : Int, NumD (formD a b r d) a' b' r' d' ∧ NumD (formD c e r v) c' e' s' v' ∧ Fine4 a' b' r' d' ∧ Fine4 c' e' s' v' ∧ (r' ≠ 0 → 0 ≤ r' * s' ∧ (r' * s').natAbs < 2 ^ 13000) ∧
      one7 a' b' r' d' c' e' s' v' = [a1, b1, w1, c1, d1, v1, r1] ∧ TwoOkW a b r d c e v a1 b1 w1 c1 d1 v1 r1 := by
  obtain ⟨a', b', r', d', g, h, n1, hg, hh, e3, e4, e5, p1, hs, hb', nsq, y1, y2, y5, y6⟩ := quad_dW z hd hr hb hsq
  obtain ⟨c', e', s', v', i, j, n2, hi, hj, f3, f4, f5, p2, ht, he', nsq2, x1, x2, x5, x6⟩ := quad_dW z2 hv hr he hsq
  have r0 : 0 < r := by
    rcases (by omega : 0 < r ∨ r = 0) with z | z
    · exact z
    · rw [z] at hsq
      exact absurd hsq (by decide +kernel)
  obtain ⟨sgn, kl⟩ := root_facts hg hh r0 hs e5
  obtain ⟨sgn2, kl2⟩ := root_facts hi hj r0 ht f5
  have rs0 : 0 < r' * s' := Int.mul_pos hs ht
  have rsz := mul_lt y5 x5
  have iz := isq_half rsz
  have isn := isq_nn (r' * s')
  have sqr : isSqB (r' * s') = true := by
    refine sq_free (A := g * ab b' * (i * ab e')) (B := h * ab b * (j * ab e) * r) ?_ ?_ (by omega)
    · have k1 := Int.mul_pos (Int.mul_pos hg (ab_pos hb')) (Int.mul_pos hi (ab_pos he'))
      omega
    · have x : g * ab b' * (i * ab e') * (g * ab b' * (i * ab e')) * (r' * s') = (g * ab b' * (g * ab b') * r') * (i * ab e' * (i * ab e') * s') := by grind
      rw [x, kl, kl2]
      grind
  have ii := isSq_root sqr
  refine ⟨a', b', r', d', c', e', s', v', a', b', d', c' * r', e' * isq (r' * s'), v' * r', r', n1, n2, ⟨two_le y1 (by decide), two_le y2 (by decide), two_le y5 (by decide), two_le y6 (by decide)⟩, ⟨two_le x1 (by decide), two_le x2 (by decide), two_le x5 (by decide), two_le x6 (by decide)⟩, fun _ => ⟨by omega, two_le rsz (by decide)⟩, by unfold one7; rw [if_neg (by omega)], ?_⟩
  generalize isq (r' * s') = t at *
  have m1 := mul_lt x1 y5
  have m2 := mul_lt x6 y5
  have m3 := mul_lt x2 iz
  have kp := Int.mul_pos hh (ab_pos hb)
  have lp := Int.mul_pos hg (ab_pos hb')
  have pv := Int.mul_pos p2 hs
  have eb : b' * d * (h * ab b) = b * d' * (g * ab b') := by
    have x : b' * d * (h * ab b) = (h * d) * (b' * ab b) := by grind
    rw [x, ← e3, sg_ab sgn]
    grind
  have ea : a' * d = a * d' := by
    refine Int.eq_of_mul_eq_mul_left (show g ≠ 0 by omega) ?_
    have x : g * (a' * d) = (g * a') * d := by grind
    have x2 : g * (a * d') = a * (g * d') := by grind
    rw [x, x2, e4, e3]
    grind
  have ec : c' * r' * v = c * (v' * r') := by
    refine Int.eq_of_mul_eq_mul_left (show i ≠ 0 by omega) ?_
    have x : i * (c' * r' * v) = (i * c') * r' * v := by grind
    have x2 : i * (c * (v' * r')) = c * r' * (i * v') := by grind
    rw [x, x2, f4, f3]
    grind
  have key : e' * t * (h * ab b) * i = e * r' * (g * ab b') * j := by
    apply ss_inj
    have kp' : 0 ≤ h * ab b := by omega
    have lp' : 0 ≤ g * ab b' := by omega
    rw [ss_mul, ss_mul, ss_mul, ss_mul (e * r' * (g * ab b')), ss_mul (e * r'), ss_mul e, ss_nn isn, ss_nn kp', ss_nn (x := i) (by omega), ss_nn (x := r') (by omega), ss_nn lp', ss_nn (x := j) (by omega), ii]
    have x : ss e' * (r' * s') * (h * ab b * (h * ab b)) * (i * i) = (i * i * (ss e' * s')) * r' * (h * ab b * (h * ab b)) := by grind
    rw [x, f5]
    have y : ss e * (r' * r') * (g * ab b' * (g * ab b')) * (j * j) = ss e * r' * (j * j) * (g * ab b' * (g * ab b') * r') := by grind
    rw [y, kl]
    grind
  have ee : e' * t * v * (h * ab b) = e * (v' * r') * (g * ab b') := by
    refine Int.eq_of_mul_eq_mul_left (show i ≠ 0 by omega) ?_
    have x : i * (e' * t * v * (h * ab b)) = (e' * t * (h * ab b) * i) * v := by grind
    have x2 : i * (e * (v' * r') * (g * ab b')) = e * r' * (g * ab b') * (i * v') := by grind
    rw [x, x2, key, f3]
    grind
  refine ⟨two_le y1 (by decide), two_le y2 (by decide), two_le y6 (by decide), two_le m1 (by decide), two_le m3 (by decide), two_le m2 (by decide), two_le y5 (by decide), two_le (add_lt (two_le (mul_lt y1 m2) (show 3003 + (3003 + 6008) ≤ 12014 by decide)) (two_le (mul_lt m1 y6) (show 3003 + 6008 + 3003 ≤ 12014 by decide))) (by decide), two_le (add_lt (two_le (mul_lt y2 m2) (show 2 + (3003 + 6008) ≤ 9013 by decide)) (two_le (mul_lt m3 y6) (show 2 + 6008 + 3003 ≤ 9013 by decide))) (by decide), two_le (add_lt (two_le (mul_lt y1 m1) (show 3003 + (3003 + 6008) ≤ 12020 by decide)) (two_le (mul_lt (mul_lt y2 m3) y5) (show 2 + (2 + 6008) + 6008 ≤ 12020 by decide))) (by decide), two_le (add_lt (two_le (mul_lt y1 m3) (show 3003 + (2 + 6008) ≤ 9013 by decide)) (two_le (mul_lt y2 m1) (show 2 + (3003 + 6008) ≤ 9013 by decide))) (by decide), two_le (mul_lt y6 m2) (by decide), by have := Int.mul_pos p1 pv; omega, fun _ => nsq, fun _ => nsq, ?_, ?_⟩
  · exact one_sum hd hv hr p1 pv (by omega) ea ec kp lp kl.symm eb ee
  · exact one_mul hd hv hr p1 pv (by omega) ea ec kp lp kl.symm eb ee
theorem two_dW {a b c e r d v : Int} (z : Bw a b r d) (z2 : Bw c e r v) (hd : 0 < d) (hv : 0 < v) (hr : 0 ≤ r) :
    ∃ a' b' r' d' c' e' s' v' a1 b1 w1 c1 d1 v1 r1 : Int, NumD (formD a b r d) a' b' r' d' ∧ NumD (formD c e r v) c' e' s' v' ∧ Fine4 a' b' r' d' ∧ Fine4 c' e' s' v' ∧ (r' ≠ 0 → 0 ≤ r' * s' ∧ (r' * s').natAbs < 2 ^ 13000) ∧
      one7 a' b' r' d' c' e' s' v' = [a1, b1, w1, c1, d1, v1, r1] ∧ TwoOkW a b r d c e v a1 b1 w1 c1 d1 v1 r1 := by
  obtain ⟨za, zb, zr, zd⟩ := id z
  obtain ⟨zc, ze, _, zv⟩ := id z2
  cases hsq : isSqB r with
  | true =>
    have sz := isq_small zr
    have ss2 := isSq_root hsq
    rw [form_sq hsq, form_sq (a := c) hsq, form_zero, form_zero]
    have w1 := two_le (add_lt (two_le za (show 1500 ≤ 1100 + 800 by decide)) (mul_lt zb sz)) (show 1100 + 800 + 1 ≤ 3000 by decide)
    have w2 := two_le (add_lt (two_le zc (show 1500 ≤ 1100 + 800 by decide)) (mul_lt ze sz)) (show 1100 + 800 + 1 ≤ 3000 by decide)
    obtain ⟨a', b', r', d', c', e', s', v', a1, b1, w1, c1, d1, v1, r1, h1, h2, h3, h4, h5, h6, t⟩ := two_flatW w1 (two_le zd (by decide)) w2 (two_le zv (by decide)) hd hv
    refine ⟨a', b', r', d', c', e', s', v', a1, b1, w1, c1, d1, v1, r1, h1, h2, h3, h4, h5, h6, { t with sum := ?_, mul := ?_ }⟩
    · rw [t.sum, form_sq (b := b * v + e * d) hsq, form_zz _ r 0]
      congr 1 <;> grind
    · rw [t.mul, form_sq (b := a * e + b * c) hsq, form_zz _ r 0]
      generalize isq r = s at *
      rw [← ss2]
      congr 1 <;> grind
  | false =>
    by_cases cb : b = 0 <;> by_cases ce : e = 0
    · subst cb
      subst ce
      rw [form_zero, form_zero]
      obtain ⟨a', b', r', d', c', e', s', v', a1, b1, w1, c1, d1, v1, r1, h1, h2, h3, h4, h5, h6, t⟩ := two_flatW (two_le za (show 1500 ≤ 3000 by decide)) (two_le zd (by decide)) (two_le zc (show 1500 ≤ 3000 by decide)) (two_le zv (by decide)) hd hv
      refine ⟨a', b', r', d', c', e', s', v', a1, b1, w1, c1, d1, v1, r1, h1, h2, h3, h4, h5, h6, { t with sum := ?_, mul := ?_ }⟩
      · have q : (0 * v + 0 * d : Int) = 0 := by grind
        rw [t.sum, q, form_zz _ r 0]
      · have q : (a * 0 + 0 * c : Int) = 0 := by grind
        have q2 : (0 * 0 * r : Int) = 0 * 0 * 0 := by grind
        rw [t.mul, q, q2, form_zz _ r 0]
    · subst cb
      rw [form_zero]
      exact two_fqW (two_le za (by decide)) (two_le zd (by decide)) hd z2 hv hr ce hsq
    · subst ce
      rw [form_zero c]
      exact two_qfW (two_le zc (by decide)) (two_le zv (by decide)) hv z hd hr cb hsq
    · exact two_qqW z z2 hd hv hr cb ce hsq
theorem Bw.neg {a b r d : Int} (z : Bw a b r d) : Bw (-a) (-b) r d := ⟨by have := z.1; omega, by have := z.2.1; omega, z.2.2.1, z.2.2.2⟩
theorem Bw.fr {a d r : Int} (z1 : a.natAbs < 2 ^ 1500) (z2 : d.natAbs < 2 ^ 1500) (zr : r.natAbs < 2 ^ 800) : Bw a 0 r d := ⟨z1, by decide, zr, z2⟩
end Lw

namespace Lw
open PySem L2
/-! ### the sign of a wide number's form -/
def Bx (a b r d : Int) : Prop := a.natAbs < 2 ^ 1800 ∧ b.natAbs < 2 ^ 1400 ∧ r.natAbs < 2 ^ 800 ∧ d.natAbs < 2 ^ 1800
theorem quad_dX {a b r d : Int} (z : Bx a b r d) (hd : 0 < d) (hr : 0 ≤ r) (hb : b ≠ 0) (hsq : isSqB r = false) :
    ∃ a' b' r' d' g h : Int, NumD (formD a b r d) a' b' r' d' ∧ 0 < g ∧ 0 < h ∧ g * d' = h * d ∧ g * a' = h * a ∧ g * g * (ss b' * r') = h * h * (ss b * r) ∧ 0 < d' ∧ 0 < r' ∧ b' ≠ 0 ∧ isSqB r' = false ∧
      a'.natAbs < 2 ^ 3603 ∧ b'.natAbs < 2 ^ 2 ∧ r'.natAbs < 2 ^ 7208 ∧ d'.natAbs < 2 ^ 3603 := by
  obtain ⟨za, zb, zr, zd⟩ := z
  have c : ¬ (b = 0 ∨ isSqB r = true) := fun z => z.elim hb fun z => by rw [hsq] at z; cases z
  have r0 : 0 < r := by
    rcases (by omega : 0 < r ∨ r = 0) with z | z
    · exact z
    · rw [z] at hsq
      exact absurd hsq (by decide +kernel)
  have g0 := gcd_pos3 (a := 0 - 2 * a * d) (b := a * a - b * b * r) hd
  have d1 : gcdI (gcdI (d * d) (0 - 2 * a * d)) (a * a - b * b * r) ∣ d * d := Int.dvd_trans (gcd_dvd_l _ _) (gcd_dvd_l _ _)
  have d2 : gcdI (gcdI (d * d) (0 - 2 * a * d)) (a * a - b * b * r) ∣ 0 - 2 * a * d := Int.dvd_trans (gcd_dvd_l _ _) (gcd_dvd_r _ _)
  have d3 : gcdI (gcdI (d * d) (0 - 2 * a * d)) (a * a - b * b * r) ∣ a * a - b * b * r := gcd_dvd_r _ _
  have w1 := mul_lt zd zd
  have w2 : (2 * a : Int).natAbs < 2 ^ (2 + 1800) := mul_lt (by decide) za
  have w3 := mul_lt w2 zd
  have w4 := mul_lt za za
  have w5 := mul_lt zb zb
  have w6 := mul_lt w5 zr
  have s1 : (0 - 2 * a * d : Int).natAbs < 2 ^ 3602 := by omega
  have s2 : (a * a - b * b * r : Int).natAbs < 2 ^ (3600 + 1) := sub_lt (two_le w4 (by decide)) (two_le w6 (by decide))
  have f1 := fdiv_le g0 (two_le w1 (show 1800 + 1800 ≤ 3600 by decide))
  have f2 := fdiv_le g0 s1
  have f3 := fdiv_le g0 s2
  have k1 := fdiv_of g0 d1
  have k2 := fdiv_of g0 d2
  have k3 := fdiv_of g0 d3
  have eF : formD a b r d = quadD (d * d) (0 - 2 * a * d) (a * a - b * b * r) (decide (0 < b)) := if_neg c
  rw [eF]
  unfold quadD
  generalize (d * d).fdiv (gcdI (gcdI (d * d) (0 - 2 * a * d)) (a * a - b * b * r)) = p at *
  generalize (0 - 2 * a * d).fdiv (gcdI (gcdI (d * d) (0 - 2 * a * d)) (a * a - b * b * r)) = q at *
  generalize (a * a - b * b * r).fdiv (gcdI (gcdI (d * d) (0 - 2 * a * d)) (a * a - b * b * r)) = s at *
  generalize gcdI (gcdI (d * d) (0 - 2 * a * d)) (a * a - b * b * r) = g at *
  have dd : 0 < d * d := Int.mul_pos hd hd
  have p0 : 0 < p := by
    apply Decidable.byContradiction
    intro z
    have : g * p ≤ 0 := Int.mul_nonpos_of_nonneg_of_nonpos (by omega) (by omega)
    omega
  have key : g * g * (q * q - 4 * p * s) = 4 * (d * d) * (b * b * r) := by
    have x : g * g * (q * q - 4 * p * s) = (g * q) * (g * q) - 4 * (g * p) * (g * s) := by grind
    rw [x, k1, k2, k3]
    grind
  have bb : 0 < b * b := by
    rcases (by omega : 0 < b ∨ b < 0) with z | z
    · exact Int.mul_pos z z
    · exact Int.mul_pos_of_neg_of_neg z z
  have rp : 0 < q * q - 4 * p * s := by
    apply Decidable.byContradiction
    intro z
    have n1 : g * g * (q * q - 4 * p * s) ≤ 0 := Int.mul_nonpos_of_nonneg_of_nonpos (Int.mul_nonneg (by omega) (by omega)) (by omega)
    have n2 : 0 < 4 * (d * d) * (b * b * r) := Int.mul_pos (by omega) (Int.mul_pos bb r0)
    omega
  have y1 := mul_lt f2 f2
  have y2 : (4 * p : Int).natAbs < 2 ^ (3 + 3600) := mul_lt (by decide) f1
  have y3 := mul_lt y2 f3
  refine ⟨-q, (if decide (0 < b) = true then 1 else -1), q * q - 4 * p * s, 2 * p, g, 2 * d, .inr ⟨p, q, s, decide (0 < b), rfl, rfl, rfl, rfl, rfl, two_le f1 (by decide), two_le f2 (by decide), two_le f3 (by decide)⟩,
    g0, by omega, by grind, by grind, ?_, by omega, rp, by split <;> decide, ?_, by omega, by split <;> decide, two_le (sub_lt (two_le y1 (show 3602 + 3602 ≤ 7207 by decide)) (two_le y3 (show 3 + 3600 + (3600 + 1) ≤ 7207 by decide))) (by decide), by omega⟩
  · rcases (by omega : 0 < b ∨ b < 0) with z | z
    · rw [if_pos (decide_eq_true z), show ss 1 = 1 from rfl, ss_nn (by omega), Int.one_mul, key]
      grind
    · have zz : ¬ decide (0 < b) = true := by simp; omega
      have sb : ss b = -(b * b) := by
        unfold ss
        rw [ab_np (by omega)]
        grind
      rw [if_neg zz, show ss (-1) = -1 from rfl, sb]
      have x : g * g * (-1 * (q * q - 4 * p * s)) = -(g * g * (q * q - 4 * p * s)) := by grind
      rw [x, key]
      grind
  · cases z : isSqB (q * q - 4 * p * s)
    · rfl
    · exfalso
      unfold isSqB at z
      simp only [Bool.and_eq_true, decide_eq_true_eq] at z
      have x := sq_free (A := 2 * d * b) (B := g * isq (q * q - 4 * p * s)) (r := r) (Int.mul_ne_zero (by omega) hb) (by
        have y : g * isq (q * q - 4 * p * s) * (g * isq (q * q - 4 * p * s)) = g * g * (isq (q * q - 4 * p * s) * isq (q * q - 4 * p * s)) := by grind
        rw [y, z.2, key]
        grind) (by omega)
      rw [x] at hsq
      cases hsq
theorem num_sgn {a b r d : Int} (z : Bx a b r d) (hd : 0 < d) (hr : 0 ≤ r) :
    ∃ a' b' r' d' : Int, NumD (formD a b r d) a' b' r' d' ∧ S2 a' (ss b' * r') = S2 a (ss b * r) ∧ a'.natAbs < 2 ^ 40000 ∧ b'.natAbs < 2 ^ 40000 ∧ r'.natAbs < 2 ^ 40000 ∧ Okay b' r' := by
  have flat : ∀ t, b * t = b * isq r → (b = 0 ∨ t * t = r) → 0 ≤ t → ∃ a' b' r' d' : Int, NumD (fracD (a + b * isq r) d) a' b' r' d' ∧ S2 a' (ss b' * r') = S2 a (ss b * r) ∧ a'.natAbs < 2 ^ 40000 ∧ b'.natAbs < 2 ^ 40000 ∧ r'.natAbs < 2 ^ 40000 ∧ Okay b' r' := by
    intro t ht hc t0
    obtain ⟨za, zb, zr, zd⟩ := z
    have sz := isq_small zr
    have w1 := two_le (add_lt (two_le za (show 1800 ≤ 1400 + 800 by decide)) (mul_lt zb sz)) (show 1400 + 800 + 1 ≤ 3000 by decide)
    obtain ⟨a', d', g, n1, hg, e1, e2, p1, y1, y2⟩ := frac_dW hd w1 (two_le zd (by decide))
    refine ⟨a', 0, 0, d', n1, ?_, two_le y1 (by decide), by decide, by decide, .inl rfl⟩
    have e3 : ss b * r = ss (b * t) := by
      rw [ss_mul, ss_nn t0]
      rcases hc with c | c
      · rw [c]
        show ss 0 * r = ss 0 * (t * t)
        rw [show ss 0 = 0 from rfl, Int.zero_mul, Int.zero_mul]
      · rw [c]
    rw [e3, S2_sq, ht, ← e2, show ss 0 * 0 = 0 from rfl, S2_zero, sg_up hg]
  by_cases hb : b = 0
  · have f := flat (isq r) rfl (.inl hb) (isq_nn r)
    rw [← form_flat (.inl hb)] at f
    exact f
  cases hsq : isSqB r with
  | true =>
    have f := flat (isq r) rfl (.inr (isSq_root hsq)) (isq_nn r)
    rw [← form_flat (.inr hsq)] at f
    exact f
  | false =>
    obtain ⟨a', b', r', d', g, h, n1, hg, hh, e3, e4, e5, p1, hs, hb', nsq, y1, y2, y5, y6⟩ := quad_dX z hd hr hb hsq
    refine ⟨a', b', r', d', n1, ?_, two_le y1 (by decide), two_le y2 (by decide), two_le y5 (by decide), .inr hs⟩
    rw [← S2_up hg, e4, e5, S2_up hh]
/-! ### wide places -/
def Bp (a b r d : Int) : Prop := a.natAbs < 2 ^ 700 ∧ b.natAbs < 2 ^ 300 ∧ r.natAbs < 2 ^ 800 ∧ d.natAbs < 2 ^ 700
theorem quad_dP {a b r d : Int} (z : Bp a b r d) (hd : 0 < d) (hr : 0 ≤ r) (hb : b ≠ 0) (hsq : isSqB r = false) :
    ∃ a' b' r' d' g h : Int, NumD (formD a b r d) a' b' r' d' ∧ 0 < g ∧ 0 < h ∧ g * d' = h * d ∧ g * a' = h * a ∧ g * g * (ss b' * r') = h * h * (ss b * r) ∧ 0 < d' ∧ 0 < r' ∧ b' ≠ 0 ∧ isSqB r' = false ∧
      a'.natAbs < 2 ^ 1403 ∧ b'.natAbs < 2 ^ 2 ∧ r'.natAbs < 2 ^ 2808 ∧ d'.natAbs < 2 ^ 1403 := by
  obtain ⟨za, zb, zr, zd⟩ := z
  have c : ¬ (b = 0 ∨ isSqB r = true) := fun z => z.elim hb fun z => by rw [hsq] at z; cases z
  have r0 : 0 < r := by
    rcases (by omega : 0 < r ∨ r = 0) with z | z
    · exact z
    · rw [z] at hsq
      exact absurd hsq (by decide +kernel)
  have g0 := gcd_pos3 (a := 0 - 2 * a * d) (b := a * a - b * b * r) hd
  have d1 : gcdI (gcdI (d * d) (0 - 2 * a * d)) (a * a - b * b * r) ∣ d * d := Int.dvd_trans (gcd_dvd_l _ _) (gcd_dvd_l _ _)
  have d2 : gcdI (gcdI (d * d) (0 - 2 * a * d)) (a * a - b * b * r) ∣ 0 - 2 * a * d := Int.dvd_trans (gcd_dvd_l _ _) (gcd_dvd_r _ _)
  have d3 : gcdI (gcdI (d * d) (0 - 2 * a * d)) (a * a - b * b * r) ∣ a * a - b * b * r := gcd_dvd_r _ _
  have w1 := mul_lt zd zd
  have w2 : (2 * a : Int).natAbs < 2 ^ (2 + 700) := mul_lt (by decide) za
  have w3 := mul_lt w2 zd
  have w4 := mul_lt za za
  have w5 := mul_lt zb zb
  have w6 := mul_lt w5 zr
  have s1 : (0 - 2 * a * d : Int).natAbs < 2 ^ 1402 := by omega
  have s2 : (a * a - b * b * r : Int).natAbs < 2 ^ (1400 + 1) := sub_lt (two_le w4 (by decide)) (two_le w6 (by decide))
  have f1 := fdiv_le g0 (two_le w1 (show 700 + 700 ≤ 1400 by decide))
  have f2 := fdiv_le g0 s1
  have f3 := fdiv_le g0 s2
  have k1 := fdiv_of g0 d1
  have k2 := fdiv_of g0 d2
  have k3 := fdiv_of g0 d3
  have eF : formD a b r d = quadD (d * d) (0 - 2 * a * d) (a * a - b * b * r) (decide (0 < b)) := if_neg c
  rw [eF]
  unfold quadD
  generalize (d * d).fdiv (gcdI (gcdI (d * d) (0 - 2 * a * d)) (a * a - b * b * r)) = p at *
  generalize (0 - 2 * a * d).fdiv (gcdI (gcdI (d * d) (0 - 2 * a * d)) (a * a - b * b * r)) = q at *
  generalize (a * a - b * b * r).fdiv (gcdI (gcdI (d * d) (0 - 2 * a * d)) (a * a - b * b * r)) = s at *
  generalize gcdI (gcdI (d * d) (0 - 2 * a * d)) (a * a - b * b * r) = g at *
  have dd : 0 < d * d := Int.mul_pos hd hd
  have p0 : 0 < p := by
    apply Decidable.byContradiction
    intro z
    have : g * p ≤ 0 := Int.mul_nonpos_of_nonneg_of_nonpos (by omega) (by omega)
    omega
  have key : g * g * (q * q - 4 * p * s) = 4 * (d * d) * (b * b * r) := by
    have x : g * g * (q * q - 4 * p * s) = (g * q) * (g * q) - 4 * (g * p) * (g * s) := by grind
    rw [x, k1, k2, k3]
    grind
  have bb : 0 < b * b := by
    rcases (by omega : 0 < b ∨ b < 0) with z | z
    · exact Int.mul_pos z z
    · exact Int.mul_pos_of_neg_of_neg z z
  have rp : 0 < q * q - 4 * p * s := by
    apply Decidable.byContradiction
    intro z
    have n1 : g * g * (q * q - 4 * p * s) ≤ 0 := Int.mul_nonpos_of_nonneg_of_nonpos (Int.mul_nonneg (by omega) (by omega)) (by omega)
    have n2 : 0 < 4 * (d * d) * (b * b * r) := Int.mul_pos (by omega) (Int.mul_pos bb r0)
    omega
  have y1 := mul_lt f2 f2
  have y2 : (4 * p : Int).natAbs < 2 ^ (3 + 1400) := mul_lt (by decide) f1
  have y3 := mul_lt y2 f3
  refine ⟨-q, (if decide (0 < b) = true then 1 else -1), q * q - 4 * p * s, 2 * p, g, 2 * d, .inr ⟨p, q, s, decide (0 < b), rfl, rfl, rfl, rfl, rfl, two_le f1 (by decide), two_le f2 (by decide), two_le f3 (by decide)⟩,
    g0, by omega, by grind, by grind, ?_, by omega, rp, by split <;> decide, ?_, by omega, by split <;> decide, two_le (sub_lt (two_le y1 (show 1402 + 1402 ≤ 2807 by decide)) (two_le y3 (show 3 + 1400 + (1400 + 1) ≤ 2807 by decide))) (by decide), by omega⟩
  · rcases (by omega : 0 < b ∨ b < 0) with z | z
    · rw [if_pos (decide_eq_true z), show ss 1 = 1 from rfl, ss_nn (by omega), Int.one_mul, key]
      grind
    · have zz : ¬ decide (0 < b) = true := by simp; omega
      have sb : ss b = -(b * b) := by
        unfold ss
        rw [ab_np (by omega)]
        grind
      rw [if_neg zz, show ss (-1) = -1 from rfl, sb]
      have x : g * g * (-1 * (q * q - 4 * p * s)) = -(g * g * (q * q - 4 * p * s)) := by grind
      rw [x, key]
      grind
  · cases z : isSqB (q * q - 4 * p * s)
    · rfl
    · exfalso
      unfold isSqB at z
      simp only [Bool.and_eq_true, decide_eq_true_eq] at z
      have x := sq_free (A := 2 * d * b) (B := g * isq (q * q - 4 * p * s)) (r := r) (Int.mul_ne_zero (by omega) hb) (by
        have y : g * isq (q * q - 4 * p * s) * (g * isq (q * q - 4 * p * s)) = g * g * (isq (q * q - 4 * p * s) * isq (q * q - 4 * p * s)) := by grind
        rw [y, z.2, key]
        grind) (by omega)
      rw [x] at hsq
      cases hsq
theorem num_P {a b r d : Int} (z : Bp a b r d) (hd : 0 < d) (hr : 0 ≤ r) :
    ∃ a' b' r' d' : Int, NumD (formD a b r d) a' b' r' d' ∧ r'.natAbs < 2 ^ 5000 ∧ 0 ≤ r' ∧ (r' = 0 ∨ ∃ A B : Int, 0 < A ∧ A * A * r' = B * B * r) := by
  have flat : ∃ a' b' r' d' : Int, NumD (fracD (a + b * isq r) d) a' b' r' d' ∧ r'.natAbs < 2 ^ 5000 ∧ 0 ≤ r' ∧ (r' = 0 ∨ ∃ A B : Int, 0 < A ∧ A * A * r' = B * B * r) := by
    obtain ⟨za, zb, zr, zd⟩ := z
    have w1 := two_le (add_lt (two_le za (show 700 ≤ 300 + 800 by decide)) (mul_lt zb (isq_small zr))) (show 300 + 800 + 1 ≤ 3000 by decide)
    obtain ⟨a', d', g, n1, _⟩ := frac_dW hd w1 (two_le zd (by decide))
    exact ⟨a', 0, 0, d', n1, by decide, by decide, .inl rfl⟩
  by_cases hb : b = 0
  · rw [form_flat (.inl hb)]
    exact flat
  cases hsq : isSqB r with
  | true =>
    rw [form_flat (.inr hsq)]
    exact flat
  | false =>
    obtain ⟨a', b', r', d', g, h, n1, hg, hh, e3, e4, e5, p1, hs, hb', nsq, y1, y2, y5, y6⟩ := quad_dP z hd hr hb hsq
    have r0 : 0 < r := by
      rcases (by omega : 0 < r ∨ r = 0) with z | z
      · exact z
      · rw [z] at hsq
        exact absurd hsq (by decide +kernel)
    obtain ⟨_, kl⟩ := root_facts hg hh r0 hs e5
    exact ⟨a', b', r', d', n1, two_le y5 (by decide), by omega, .inr ⟨g * ab b', h * ab b, Int.mul_pos hg (ab_pos hb'), kl⟩⟩
theorem field_P {a b c e r d v : Int} (z : Bp a b r d) (z2 : Bp c e r v) (hd : 0 < d) (hv : 0 < v) (hr : 0 ≤ r) :
    ∃ a' b' r' d' c' e' s' v' : Int, NumD (formD a b r d) a' b' r' d' ∧ NumD (formD c e r v) c' e' s' v' ∧ r'.natAbs < 2 ^ 5000 ∧ s'.natAbs < 2 ^ 5000 ∧ 0 ≤ r' ∧ 0 ≤ s' ∧ isSqB (r' * s') = true := by
  obtain ⟨a', b', r', d', n1, y1, g1, k1⟩ := num_P z hd hr
  obtain ⟨c', e', s', v', n2, y2, g2, k2⟩ := num_P z2 hv hr
  refine ⟨a', b', r', d', c', e', s', v', n1, n2, y1, y2, g1, g2, ?_⟩
  rcases k1 with h1 | ⟨A, B, hA, h1⟩
  · exact isSq_of (c := 0) (by rw [h1]; grind)
  rcases k2 with h2 | ⟨C, D, hC, h2⟩
  · exact isSq_of (c := 0) (by rw [h2]; grind)
  refine sq_free (A := A * C) (B := B * D * r) ?_ ?_ (Int.mul_nonneg g1 g2)
  · have := Int.mul_pos hA hC
    omega
  · have x : A * C * (A * C) * (r' * s') = (A * A * r') * (C * C * s') := by grind
    rw [x, h1, h2]
    grind
theorem form_fineP {a b r d : Int} (h : Bp a b r d) (hd : 0 < d) : fine 1600 (formD a b r d) := by
  obtain ⟨za, zb, zr, zd⟩ := h
  unfold formD
  split
  · have m := mul_lt zb (isq_small zr)
    have ad := add_lt (two_le za (show 700 ≤ 1100 by decide)) m
    have le := red_le (a := a + b * isq r) hd
    exact ⟨two_le (m := 1101) (by omega) (by decide), two_le (m := 700) (by omega) (by decide), trivial⟩
  · have g := gcd_pos3 (a := 0 - 2 * a * d) (b := a * a - b * b * r) hd
    have w1 := mul_lt zd zd
    have w2 : (2 * a : Int).natAbs < 2 ^ (2 + 700) := mul_lt (by decide) za
    have w3 := mul_lt w2 zd
    have w4 := mul_lt za za
    have w5 := mul_lt zb zb
    have w6 := mul_lt w5 zr
    have s1 : (0 - 2 * a * d : Int).natAbs < 2 ^ (1402 + 1) := sub_lt (by decide) (two_le w3 (by decide))
    have s2 : (a * a - b * b * r : Int).natAbs < 2 ^ (1400 + 1) := sub_lt (two_le w4 (by decide)) (two_le w6 (by decide))
    exact ⟨fdiv_le g (two_le w1 (by decide)), fdiv_le g (two_le s1 (by decide)), fdiv_le g (two_le s2 (by decide)), trivial, trivial⟩
end Lw

namespace Ld
open PySem PySem.Spec PyProof.Rows L2 Lw
/-! ### data on the heap, also in written tuples -/
structure Bn where
  K : PySem.W.Frag
  b : Addr → Prop
instance : CoeFun Bn (fun _ => Addr → Prop) := ⟨Bn.b⟩
/-- a written tuple -/
def Wr (K : PySem.W.Frag) (a : Addr) (xs : List V) : Prop := ∃ (o : Obj) (its : Array Value) (n : Nat), K.lookup a = some o ∧ o.cls = .type "tuple" ∧ o.data = .seq its n ∧ its.size ≤ sizeLine ∧ Vals xs its.toList
def Tp (K : PySem.W.Frag) (H : Hp) (a : Addr) (xs : List V) : Prop := H a = some (.tup xs) ∨ Wr K a xs
theorem Tp.sq {K : PySem.W.Frag} {H : Hp} {a : Addr} {xs : List V} (h : Tp K H a xs) : SqT K H a xs := h.elim (fun h => .of h) .inr
theorem Tp.of {K : PySem.W.Frag} {H : Hp} {a : Addr} {xs : List V} (h : H a = some (.tup xs)) : Tp K H a xs := .inl h
theorem Tp.up {K : PySem.W.Frag} {H H' : Hp} {a : Addr} {xs : List V} (h : Tp K H a xs) (k : ∀ b xs, H b = some (.tup xs) → H' b = some (.tup xs)) : Tp K H' a xs := h.elim (fun h => .inl (k _ _ h)) .inr
mutual
inductive Dv (N : Bn) (H : Hp) : V → PyData → Prop
  | non : Dv N H .non .none
  | bl (b : Bool) : Dv N H (.bl b) (.bool b)
  | int (i : Int) : Dv N H (.int i) (.int i)
  | str (x : Str) : Dv N H (.str x) (.str x)
  | lst {a : Addr} {xs : List V} {ds : List PyData} : ¬ N a → H a = some (.lst xs) → DvAll N H xs ds → Dv N H (.ref a) (.list ds)
  | tup {a : Addr} {xs : List V} {ds : List PyData} : Tp N.K H a xs → DvAll N H xs ds → Dv N H (.ref a) (.tuple ds)
  | dct {a : Addr} : ¬ N a → H a = some (.dK []) → Dv N H (.ref a) (.dict [])
inductive DvAll (N : Bn) (H : Hp) : List V → List PyData → Prop
  | nil : DvAll N H [] []
  | cons {v : V} {vs : List V} {d : PyData} {ds : List PyData} : Dv N H v d → DvAll N H vs ds → DvAll N H (v :: vs) (d :: ds)
end
theorem lst_ne {xs : List V} : ∀ ps, HO.lst xs ≠ HO.tbl ps := fun ps z => by cases z
theorem dK_ne {xs} : ∀ ps, HO.dK xs ≠ HO.tbl ps := fun ps z => by cases z
mutual
theorem Dv.mapL {N N' : Bn} {H H' : Hp} (hK : N'.K = N.K) (k : ∀ b u, (∀ ps, u ≠ HO.tbl ps) → ¬ N b → H b = some u → H' b = some u ∧ ¬ N' b) (kt : ∀ b xs, H b = some (.tup xs) → H' b = some (.tup xs)) : ∀ (d : PyData) (v : V), Dv N H v d → Dv N' H' v d
  | .none, _, h => by cases h; exact .non
  | .bool _, _, h => by cases h; exact .bl _
  | .int _, _, h => by cases h; exact .int _
  | .str _, _, h => by cases h; exact .str _
  | .list ds, _, h => by
    cases h with
    | lst n e a => exact .lst (k _ _ lst_ne n e).2 (k _ _ lst_ne n e).1 (DvAll.mapL hK k kt ds _ a)
  | .tuple ds, _, h => by
    cases h with
    | tup e a => exact .tup (by rw [hK]; exact e.up kt) (DvAll.mapL hK k kt ds _ a)
  | .dict _, _, h => by
    cases h with
    | dct n e => exact .dct (k _ _ dK_ne n e).2 (k _ _ dK_ne n e).1
theorem DvAll.mapL {N N' : Bn} {H H' : Hp} (hK : N'.K = N.K) (k : ∀ b u, (∀ ps, u ≠ HO.tbl ps) → ¬ N b → H b = some u → H' b = some u ∧ ¬ N' b) (kt : ∀ b xs, H b = some (.tup xs) → H' b = some (.tup xs)) : ∀ (ds : List PyData) (vs : List V), DvAll N H vs ds → DvAll N' H' vs ds
  | [], _, h => by cases h; exact .nil
  | d :: ds, _, h => by
    cases h with
    | cons a b => exact .cons (Dv.mapL hK k kt d _ a) (DvAll.mapL hK k kt ds _ b)
end
theorem Dv.map {N N' : Bn} {H H' : Hp} (hK : N'.K = N.K) (k : ∀ b u, ¬ N b → H b = some u → H' b = some u ∧ ¬ N' b) (kt : ∀ b xs, H b = some (.tup xs) → H' b = some (.tup xs)) (d : PyData) (v : V) (h : Dv N H v d) : Dv N' H' v d := Dv.mapL hK (fun b u _ n q => k b u n q) kt d v h
theorem DvAll.map {N N' : Bn} {H H' : Hp} (hK : N'.K = N.K) (k : ∀ b u, ¬ N b → H b = some u → H' b = some u ∧ ¬ N' b) (kt : ∀ b xs, H b = some (.tup xs) → H' b = some (.tup xs)) (d : List PyData) (v : List V) (h : DvAll N H v d) : DvAll N' H' v d := DvAll.mapL hK (fun b u _ n q => k b u n q) kt d v h
theorem Dv.up {N : Bn} {H H' : Hp} {d : PyData} {v : V} (h : Dv N H v d) (k : Sx N.b H H') : Dv N H' v d := h.map rfl (fun b u n q => ⟨k.st b u n q, n⟩) k.tp _ _
theorem DvAll.up {N : Bn} {H H' : Hp} {ds : List PyData} {vs : List V} (h : DvAll N H vs ds) (k : Sx N.b H H') : DvAll N H' vs ds := h.map rfl (fun b u n q => ⟨k.st b u n q, n⟩) k.tp _ _
theorem Dv.less {N N' : Bn} {H : Hp} {d : PyData} {v : V} (h : Dv N H v d) (hK : N'.K = N.K) (k : ∀ b, N' b → N b) : Dv N' H v d := h.map hK (fun b u n q => ⟨q, fun z => n (k b z)⟩) (fun _ _ q => q) _ _
theorem Dv.same {N : Bn} {H H' : Hp} {d : PyData} {v : V} (h : Dv N H v d) (k : Same H H') : Dv N H' v d := h.up (.of k)
theorem DvAll.same {N : Bn} {H H' : Hp} {ds : List PyData} {vs : List V} (h : DvAll N H vs ds) (k : Same H H') : DvAll N H' vs ds := h.up (.of k)
theorem DvAll.length {N : Bn} {H : Hp} : ∀ {ds : List PyData} {vs : List V}, DvAll N H vs ds → vs.length = ds.length
  | _, _, .nil => rfl
  | _, _, .cons _ b => by simp [DvAll.length b]
theorem DvAll.get {N : Bn} {H : Hp} : ∀ {ds : List PyData} {vs : List V} {i : Nat} {d : PyData}, DvAll N H vs ds → ds[i]? = some d → ∃ v, vs[i]? = some v ∧ Dv N H v d
  | _, _, _, _, .nil, e => by simp at e
  | _, _, 0, _, .cons a _, e => by
    simp at e
    subst e
    exact ⟨_, rfl, a⟩
  | _, _, i + 1, _, .cons _ b, e => by
    obtain ⟨v, h1, h2⟩ := DvAll.get (i := i) b (by simpa using e)
    exact ⟨v, by simpa using h1, h2⟩
theorem DvAll.app {N : Bn} {H : Hp} : ∀ {ds es : List PyData} {vs us : List V}, DvAll N H vs ds → DvAll N H us es → DvAll N H (vs ++ us) (ds ++ es)
  | _, _, _, _, .nil, h => h
  | _, _, _, _, .cons a b, h => .cons a (DvAll.app b h)
theorem DvAll.take {N : Bn} {H : Hp} : ∀ {ds : List PyData} {vs : List V} (n : Nat), DvAll N H vs ds → DvAll N H (vs.take n) (ds.take n)
  | _, _, 0, _ => by simpa using .nil
  | _, _, _ + 1, .nil => .nil
  | _, _, n + 1, .cons a b => .cons a (DvAll.take n b)
theorem DvAll.drop {N : Bn} {H : Hp} : ∀ {ds : List PyData} {vs : List V} (n : Nat), DvAll N H vs ds → DvAll N H (vs.drop n) (ds.drop n)
  | _, _, 0, h => h
  | _, _, _ + 1, .nil => .nil
  | _, _, n + 1, .cons _ b => DvAll.drop n b
theorem DvAll.rev {N : Bn} {H : Hp} : ∀ {ds : List PyData} {vs : List V}, DvAll N H vs ds → DvAll N H vs.reverse ds.reverse
  | _, _, .nil => .nil
  | _, _, .cons a b => by
    rw [List.reverse_cons, List.reverse_cons]
    exact (DvAll.rev b).app (.cons a .nil)
theorem DvAll.nil_iff {N : Bn} {H : Hp} {ds : List PyData} {vs : List V} (h : DvAll N H vs ds) : vs = [] ↔ ds = [] := by
  cases h <;> simp
/-- ints -/
theorem DvAll.ints {N : Bn} {H : Hp} : ∀ ns : List Int, DvAll N H (ns.map V.int) (ns.map PyData.int)
  | [] => .nil
  | n :: r => .cons (.int n) (DvAll.ints r)


theorem Dv.ty {N : Bn} {H : Hp} {v : V} {d : PyData} (h : Dv N H v d) : TyX N.K H v (.type (tyName d)) := by
  cases h with
  | non => exact .base .non
  | bl b => exact .base (.bl b)
  | int i => exact .base (.int i)
  | str x => exact .base (.str x)
  | lst n e a => exact .base (.lst e)
  | tup e a =>
    rcases e with e | ⟨o, its, n, h1, h2, _⟩
    · exact .base (.tup e)
    · exact .kTuple h1 h2
  | dct n e => exact .base (.dK e)
/-- isinstance(data, a built-in class) -/
def rIsD (T : String) (f : PyData → Bool) (K : PySem.W.Frag) : List V → Hp → VK → Prop := fun xs H Q => ∃ (N : Bn) (v : V) (d : PyData), N.K = K ∧ xs = [v, .ty T] ∧ Dv N H v d ∧ Q (.bl (f d)) H
theorem call_isD {X : Cx} {T : String} {f : PyData → Bool} (k : ∀ d, kitB (tyName d) T = some (f d)) : CallR X (.builtin "isinstance") (rIsD T f X.K) := by
  intro pins s σ H xs us Q I r h
  obtain ⟨N, v, d, hK, rfl, hd, q⟩ := h
  have ht := hd.ty
  rw [hK] at ht
  exact call_isi pins s σ H _ us Q I r ⟨v, .ty T, .type (tyName d), .type T, f d, rfl, .ty T, ht, kit_ty (k d), q⟩
/-! ### a text of data -/
section
variable {X : Cx} {pins : List (Addr × Obj)} {σ : L2.St} {H : Hp} {s : Shared}
mutual
theorem Dv.reads (I : Inv X pins σ H s) {N : Bn} (hK : N.K = X.K) : ∀ (d : PyData) (v : V) (u : Value), Dv N H v d → RelV v u → ∃ as, Reads s.heap u d as ∧ ∀ a ∈ as, ¬ N a
  | .none, _, _, h, r => by
    cases h
    cases r
    exact ⟨_, Reads.none, fun _ z => nomatch z⟩
  | .bool b, _, _, h, r => by
    cases h
    cases r
    exact ⟨_, Reads.bool b, fun _ z => nomatch z⟩
  | .int i, _, _, h, r => by
    cases h
    obtain ⟨t, rfl⟩ := r
    exact ⟨_, Reads.int i t, fun _ z => nomatch z⟩
  | .str x, _, _, h, r => by
    cases h
    obtain ⟨t, rfl⟩ := r
    exact ⟨_, Reads.str x t, fun _ z => nomatch z⟩
  | .list ds, _, _, h, r => by
    cases h with
    | lst n e ha =>
      cases r
      obtain ⟨z, its, k, rv, ho⟩ := (show ObjOk X.prog X.w H s.heap _ (.lst _) from I.hok _ _ e)
      obtain ⟨as, hr, na⟩ := DvAll.reads I hK ds _ its ha rv
      refine ⟨_, Reads.list ho rfl rfl hr, fun b hb => ?_⟩
      rcases List.mem_cons.mp hb with rfl | hb
      · exact n
      · exact na b hb
  | .tuple ds, _, _, h, r => by
    cases h with
    | tup e ha =>
      cases r
      obtain ⟨its, rv, ⟨o, ho, hc, k, hd⟩, z⟩ := I.tuple (hK ▸ e.sq)
      obtain ⟨as, hr, na⟩ := DvAll.reads I hK ds _ its ha rv
      exact ⟨_, Reads.tuple ho hc hd hr, na⟩
  | .dict _, _, _, h, r => by
    cases h with
    | dct n e =>
      cases r
      obtain ⟨z, _, vs, rv, o, es, ep, ho, hex, hdat, hkey, hes, _⟩ := (show ObjOk X.prog X.w H s.heap _ (.dK []) from I.hok _ _ e)
      cases rv
      have he : es.toList = [] := by
        revert hes
        generalize es.toList = l
        intro hes
        cases hes
        rfl
      refine ⟨_, Reads.dict ho hex.1 hdat (as := []) (bs := []) ?_ ?_, fun b hb => ?_⟩
      · rw [he]
        exact .nil
      · rw [he]
        exact .nil
      · simp at hb
        subst hb
        exact n
theorem DvAll.reads (I : Inv X pins σ H s) {N : Bn} (hK : N.K = X.K) : ∀ (ds : List PyData) (vs : List V) (us : List Value), DvAll N H vs ds → Vals vs us → ∃ as, ReadsAll s.heap us ds as ∧ ∀ a ∈ as, ¬ N a
  | [], _, _, h, r => by
    cases h
    cases r
    exact ⟨_, .nil, fun _ z => nomatch z⟩
  | d :: ds, _, _, h, r => by
    cases h with
    | cons h1 h2 =>
      cases r with
      | cons r1 r2 =>
        obtain ⟨as, q1, n1⟩ := Dv.reads I hK d _ _ h1 r1
        obtain ⟨bs, q2, n2⟩ := DvAll.reads I hK ds _ _ h2 r2
        refine ⟨_, .cons q1 q2, fun b hb => ?_⟩
        rcases List.mem_append.mp hb with hb | hb
        · exact n1 b hb
        · exact n2 b hb
end
end
def rRepr (K : PySem.W.Frag) : List V → Hp → VK → Prop := fun xs H Q => ∃ (N : Bn) (v : V) (d : PyData), N.K = K ∧ xs = [v] ∧ Dv N H v d ∧ Tells N.b d ∧ Q (.str d.shown) H
theorem call_repr {X : Cx} {k : Nat} (hr : Room k X.A) (hG : X.A.guards = some []) : CallR X (.builtin "repr") (rRepr X.K) := by
  intro pins s σ H xs us Q I r h
  obtain ⟨N, v, d, hK, rfl, hd, ⟨h1, h2, h3, h4⟩, q⟩ := h
  obtain ⟨u, rfl, rx⟩ := vals1 r
  have units := hr.un
  obtain ⟨as, rd, na⟩ := Dv.reads I hK d v u hd rx
  have ref : ∀ a, u = .ref a → wpAny (model X.prog X.w) X.A (call (.builtin "repr") [u]) (EP X pins σ Q) X.xe s := fun a e => by
    subst e
    refine repr_of_reads' rd h1 (fun z m => na _ m (h4 z)) hG (by omega) (fun _ _ q => q) (fun h' u' tk k => ?_) h3
    exact ⟨.str d.shown, H, I.kept k, ⟨_, rfl⟩, q⟩
  cases hd with
  | non =>
    cases rx
    exact PySem.P.repr_of_none ⟨.str _, H, I.tok _, ⟨_, rfl⟩, q⟩
  | bl b =>
    cases rx
    refine PySem.P.repr_of_bool ⟨.str _, H, I.tok _, ⟨s.toks, ?_⟩, q⟩
    cases b <;> rfl
  | int i =>
    obtain ⟨t, rfl⟩ := rx
    exact PySem.P.repr_of_int (by simpa [PyData.showable] using h1) ⟨.str _, H, I.tok _, ⟨_, rfl⟩, q⟩
  | str x =>
    obtain ⟨t, rfl⟩ := rx
    exact PySem.P.repr_of_str ⟨.str _, H, I.tok _, ⟨_, rfl⟩, q⟩ (by simpa [PyData.shown] using h3)
  | lst n e a => exact ref _ rx
  | tup e a => exact ref _ rx
  | dct n e => exact ref _ rx
def FreshB (N : Bn) (H : Hp) : Prop := ∀ p, H p = none → p ≠ sysModules → ¬ N p
theorem FreshB.same {N : Bn} {H H' : Hp} (f : FreshB N H) (k : Same H H') : FreshB N H' := fun p h n => f p (same_none k h) n
def tData (d : PyData) : TE := fun _ H Q => ∃ N : Bn, FreshB N H ∧ ∀ v H', Same H H' → Dv N H' v d → Q v H'
def tDatas (ds : List PyData) : TA := fun _ H Q => ∃ N : Bn, FreshB N H ∧ ∀ vs H', Same H H' → DvAll N H' vs ds → Q vs H'
section
variable {X : Cx} {e : Expr} {es : List Expr} {d : PyData} {ds : List PyData} {pos : Pos}
theorem pd_int {i : Int} {j : Nat} : PE X (.Constant (.int i) j pos) (tData (.int i)) := pe_int.weak fun _ H Q ⟨_, _, q⟩ => q _ H (Same.refl H) (.int i)
theorem pd_bl {b : Bool} {j : Nat} : PE X (.Constant (.bool b) j pos) (tData (.bool b)) := pe_bl.weak fun _ H Q ⟨_, _, q⟩ => q _ H (Same.refl H) (.bl b)
theorem pd_non {j : Nat} : PE X (.Constant .none j pos) (tData .none) := pe_non.weak fun _ H Q ⟨_, _, q⟩ => q _ H (Same.refl H) .non
theorem pd_str {x : Str} {j : Nat} : PE X (.Constant (.str x) j pos) (tData (.str x)) := pe_str.weak fun _ H Q ⟨_, _, q⟩ => q _ H (Same.refl H) (.str x)
theorem pd_neg {i : Int} (h : PE X e (tData (.int i))) : PE X (.UnaryOp .USub e pos) (tData (.int (-i))) :=
  (pe_un un_neg h).weak fun σ H Q ⟨N, f, q⟩ => ⟨N, f, fun v H' k dv => by
    cases dv
    exact ⟨i, rfl, q _ H' k (.int (-i))⟩⟩
theorem pd_pow {i : Int} {n : Nat} {e1 e2 : Expr} (h1 : PE X e1 (tData (.int i))) (h2 : PE X e2 (tData (.int (n : Int)))) (hn : n ≤ 1000000) (hi : i.natAbs < 2 ^ 64) : PE X (.BinOp e1 .Pow e2 pos) (tData (.int (i ^ n))) :=
  (pe_op op_pow h1 h2).weak fun σ H Q ⟨N, f, q⟩ => ⟨N, f, fun v H' k dv => by
    cases dv
    refine ⟨N, f.same k, fun v2 H2 k2 dv2 => ?_⟩
    cases dv2
    refine ⟨i, (n : Int), rfl, rfl, ⟨by omega, by omega, hi⟩, ?_⟩
    show Q (.int (i ^ ((n : Int)).toNat)) H2
    rw [Int.toNat_natCast]
    exact q _ H2 (k.trans k2) (.int _)⟩
theorem pda_nil : PA X [] (tDatas []) := pa_nil.weak fun _ H Q ⟨_, _, q⟩ => q [] H (Same.refl H) .nil
theorem pda_cons (h : PE X e (tData d)) (r : PA X es (tDatas ds)) (hs : starEach (e :: es) X.env = (false, eval e X.env) :: starEach es X.env := by rfl) : PA X (e :: es) (tDatas (d :: ds)) :=
  (pa_cons h r hs).weak fun σ H Q ⟨N, f, q⟩ => ⟨N, f, fun v H1 k1 dv => ⟨N, f.same k1, fun vs H2 k2 dvs => q _ H2 (k1.trans k2) (.cons (dv.same k2) dvs)⟩⟩
theorem pd_tup {x1} (h : PA X es (tDatas ds)) (hl : ds.length ≤ 1000 := by decide) : PE X (.Tuple es x1 pos) (tData (.tuple ds)) :=
  (pe_tup h).weak fun σ H Q ⟨N, f, q⟩ => ⟨N, f, fun vs H1 k1 dvs => ⟨by
    have z := dvs.length
    rw [sizeLine_eq]
    omega, fun p hp => q _ _ (k1.trans (same_new hp _)) (.tup (.of upd_same) (dvs.same (same_new hp _)))⟩⟩
theorem pd_lst (h : PA X es (tDatas ds)) (hl : ds.length ≤ 1000 := by decide) : PE X (.List es pos) (tData (.list ds)) :=
  (pe_list h).weak fun σ H Q ⟨N, f, q⟩ => ⟨N, f, fun vs H1 k1 dvs => ⟨by
    have z := dvs.length
    rw [sizeLine_eq]
    omega, fun p hp np => q _ _ (k1.trans (same_new hp _)) (.lst (f.same k1 p hp np) upd_same (dvs.same (same_new hp _)))⟩⟩
theorem pd_dct : PE X (.Dict [] [] pos) (tData (.dict [])) :=
  pe_dict0.weak fun σ H Q ⟨N, f, q⟩ p hp np => q _ _ (same_new hp _) (.dct (f p hp np) upd_same)
end
theorem tup_at {N : Bn} {H : Hp} {v : V} {ds : List PyData} (h : Dv N H v (.tuple ds)) : ∃ a xs, v = .ref a ∧ Tp N.K H a xs ∧ DvAll N H xs ds := by
  cases h with
  | tup e all => exact ⟨_, _, rfl, e, all⟩
section
variable {N : Bn} {H : Hp} {Q : VK}
theorem dv_cut {v : V} {ds : List PyData} {lo hi : Option Int} (h : Dv N H v (.tuple ds)) (q : ∀ u H', Same H H' → Dv N H' u (.tuple (Lw.cutD ds lo hi)) → Q u H') : rSlA N.K v lo hi H Q := by
  obtain ⟨a, xs, rfl, e, all⟩ := tup_at h
  have hl := all.length
  refine ⟨a, xs, rfl, e.sq, fun z => ?_, fun z p hp => ?_⟩
  · refine q _ H (.refl H) ?_
    have c : Lw.cutD ds lo hi = ds := by
      unfold Lw.cutD
      rw [← hl, z.1, z.2]
      show (ds.take (xs.length - 0)) = ds
      rw [List.take_of_length_le (by omega)]
    rw [c]
    exact h
  · have s : Same H (upd H p (.tup (cutV xs lo hi))) := same_new hp _
    refine q _ _ s (.tup (.of upd_same) ?_)
    unfold Lw.cutD cutV
    rw [← hl]
    exact ((all.same s).drop _).take _
theorem dv_cat {v u : V} {ds es : List PyData} (h : Dv N H v (.tuple ds)) (h2 : Dv N H u (.tuple es)) (hl : ds.length + es.length ≤ 16000000) (q : ∀ y H', Same H H' → Dv N H' y (.tuple (ds ++ es)) → Q y H') : rCatA N.K v u H Q := by
  obtain ⟨a, xs, rfl, e, all⟩ := tup_at h
  obtain ⟨b, ys, rfl, e2, all2⟩ := tup_at h2
  have l1 := all.length
  have l2 := all2.length
  refine ⟨a, b, xs, ys, rfl, rfl, e.sq, e2.sq, by rw [sizeLine_eq]; omega, fun z => ?_, fun _ z => ?_, fun _ _ p hp => ?_⟩
  · have c := all.nil_iff.mp z
    subst c
    exact q _ H (.refl H) h2
  · have c := all2.nil_iff.mp z
    subst c
    rw [List.append_nil] at q
    exact q _ H (.refl H) h
  · have s : Same H (upd H p (.tup (xs ++ ys))) := same_new hp _
    exact q _ _ s (.tup (.of upd_same) ((all.app all2).same s))
end
end Ld

namespace Ld
open PySem PySem.Spec PyProof.Rows L2 Lw
/-! ### data that a name of the text holds -/
mutual
inductive Wv (K : PySem.W.Frag) : V → PyData → Prop
  | non : Wv K .non .none
  | bl (b : Bool) : Wv K (.bl b) (.bool b)
  | int (i : Int) : Wv K (.int i) (.int i)
  | str (x : Str) : Wv K (.str x) (.str x)
  | tup {a : Addr} {xs : List V} {ds : List PyData} : Wr K a xs → WvAll K xs ds → Wv K (.ref a) (.tuple ds)
inductive WvAll (K : PySem.W.Frag) : List V → List PyData → Prop
  | nil : WvAll K [] []
  | cons {v : V} {vs : List V} {d : PyData} {ds : List PyData} : Wv K v d → WvAll K vs ds → WvAll K (v :: vs) (d :: ds)
end
mutual
theorem Wv.dv {K : PySem.W.Frag} {N : Bn} {H : Hp} (hK : N.K = K) : ∀ (d : PyData) (v : V), Wv K v d → Dv N H v d
  | .none, _, h => by cases h; exact .non
  | .bool _, _, h => by cases h; exact .bl _
  | .int _, _, h => by cases h; exact .int _
  | .str _, _, h => by cases h; exact .str _
  | .list _, _, h => by cases h
  | .tuple ds, _, h => by
    cases h with
    | tup w a => exact .tup (.inr (hK ▸ w)) (WvAll.dv hK ds _ a)
  | .dict _, _, h => by cases h
theorem WvAll.dv {K : PySem.W.Frag} {N : Bn} {H : Hp} (hK : N.K = K) : ∀ (ds : List PyData) (vs : List V), WvAll K vs ds → DvAll N H vs ds
  | [], _, h => by cases h; exact .nil
  | d :: ds, _, h => by
    cases h with
    | cons a b => exact .cons (Wv.dv hK d _ a) (WvAll.dv hK ds _ b)
end
/-- the name x holds d -/
structure Wd (K : PySem.W.Frag) (mg : Str → Option Value) (x : Str) (d : PyData) : Prop where
  ex : ∃ (v : V) (u : Value), mg x = some u ∧ RelV v u ∧ Wv K v d
theorem wr_of {K : PySem.W.Frag} {a : Addr} {od : Option Addr} {its : Array Value} {n : Nat} {sl : Array (Option Value)} {xs : List V} (h : K.lookup a = some ⟨.type "tuple", od, .seq its n, sl⟩) (hs : its.size ≤ sizeLine) (r : Vals xs its.toList) : Wr K a xs := ⟨_, its, n, h, rfl, rfl, hs, r⟩
end Ld

namespace Ld
open PySem PySem.Spec PyProof.Rows L2 Lw

/-! ### the layer of data: what slots hold, by data alone -/
inductive Sv where
  | dat (d : PyData)
  | own (ds : List PyData)
  | well
  | fn (x : Str)
abbrev Env := List (Option Sv)
abbrev Exn := Str × List (Str × PyData)
abbrev RD := PyData → Prop
abbrev XD := Exn → Prop
abbrev TD := Env → RD → XD → Prop
abbrev TAD := Env → (List Sv → Prop) → XD → Prop
abbrev TTD := Env → (Bool → Prop) → XD → Prop
abbrev TF := List Sv → RD → XD → Prop
def slotD : Env → Nat → Option Sv
  | [], _ => none
  | x :: _, 0 => x
  | _ :: r, n + 1 => slotD r n
def putD : Env → Nat → Option Sv → Env
  | [], _, _ => []
  | _ :: r, 0, v => v :: r
  | x :: r, n + 1, v => x :: putD r n v
theorem putD_len : ∀ (ρ : Env) (i : Nat) (v : Option Sv), (putD ρ i v).length = ρ.length
  | [], _, _ => rfl
  | _ :: _, 0, _ => rfl
  | _ :: r, n + 1, v => congrArg (· + 1) (putD_len r n v)
theorem slot_put : ∀ (ρ : Env) (i j : Nat) (v y : Option Sv), slotD (putD ρ i v) j = y → y ≠ none → (j = i ∧ v = y ∧ i < ρ.length) ∨ (j ≠ i ∧ slotD ρ j = y)
  | [], i, j, v, y, h, hn => by
    cases j <;> exact absurd h.symm hn
  | x :: r, 0, 0, v, y, h, hn => .inl ⟨rfl, h, Nat.succ_pos _⟩
  | x :: r, 0, j + 1, v, y, h, hn => .inr ⟨by omega, h⟩
  | x :: r, n + 1, 0, v, y, h, hn => .inr ⟨by omega, h⟩
  | x :: r, n + 1, j + 1, v, y, h, hn => by
    rcases slot_put r n j v y h hn with ⟨a, b, c⟩ | ⟨a, b⟩
    · exact .inl ⟨by omega, b, by simp; omega⟩
    · exact .inr ⟨by omega, b⟩

/-! the well, and the tables of code objects -/
structure Wx where
  o : Option Addr
  T : List (Addr × Str) := []
def Wx.has (w : Wx) (b : Addr) : Prop := w.o = some b ∨ ∃ p ∈ w.T, p.1 = b
theorem tabs_more {T : List (Addr × Str)} {H H' : Hp} {l : Addr} (t : LamX.Tabs T H) (k : ∀ b o, b ≠ l → H b = some o → H' b = some o) (hl : H l = none ∨ ∃ ys, H l = some (.lst ys)) : LamX.Tabs T H' := fun p hp => by
  obtain ⟨ps, h1, h2, h3⟩ := t p hp
  have ne : ∀ {b o}, H b = some o → (∀ ys, o ≠ .lst ys) → b ≠ l := fun {b o} e n z => by
    rw [z] at e
    rcases hl with q | ⟨ys, q⟩
    · rw [e] at q
      cases q
    · rw [e] at q
      exact n ys (Option.some.inj q)
  refine ⟨ps, k _ _ (ne h1 (fun ys z => by cases z)) h1, h2, fun pos cv hc => ?_⟩
  obtain ⟨c, e1, e2⟩ := h3 pos cv hc
  exact ⟨c, e1, k _ _ (ne e2 (fun ys z => by unfold LamX.CodeO at z; cases z)) e2⟩
/-- a step: all but the well and the tables stays -/
structure Stp (w : Wx) (H H' : Hp) : Prop where
  kp : ∀ b u, ¬ w.has b → (∀ ps, u ≠ HO.tbl ps) → H b = some u → H' b = some u
  tp : ∀ b xs, H b = some (.tup xs) → H' b = some (.tup xs)
  wl : ∀ p, w.o = some p → WellAt H p → WellAt H' p
  tb : LamX.Tabs w.T H → LamX.Tabs w.T H'
  k0 : w.T = [] → ∀ b u, ¬ w.has b → H b = some u → H' b = some u
theorem Stp.refl (w : Wx) (H : Hp) : Stp w H H := ⟨fun _ _ _ _ q => q, fun _ _ q => q, fun _ _ q => q, fun q => q, fun _ _ _ _ q => q⟩
theorem Stp.trans {w : Wx} {H H1 H2 : Hp} (a : Stp w H H1) (b : Stp w H1 H2) : Stp w H H2 :=
  ⟨fun c u n m q => b.kp c u n m (a.kp c u n m q), fun c xs q => b.tp c xs (a.tp c xs q), fun p e q => b.wl p e (a.wl p e q), fun q => b.tb (a.tb q), fun e c u n q => b.k0 e c u n (a.k0 e c u n q)⟩
theorem Stp.of {w : Wx} {H H' : Hp} (k : Same H H') : Stp w H H' := ⟨fun b u _ _ q => k b u q, fun b xs q => k b _ q, fun p _ q => q.same k, fun q => q.ext k, fun _ b u _ q => k b u q⟩
theorem Stp.after {p : Addr} {H H' : Hp} (k : Stp ⟨some p, []⟩ H H') (h : WellAt H p) : After p H H' := by
  have no : ∀ b, Wx.has ⟨some p, []⟩ b → b = p := fun b z => by
    rcases z with z | ⟨q, hq, _⟩
    · exact (Option.some.inj z).symm
    · cases hq
  exact ⟨⟨fun b u n q => k.k0 rfl b u (fun z => n (.inl (no b z))) q, k.tp⟩, k.wl p rfl h, fun b u n q => k.k0 rfl b u (fun z => n (no b z)) q⟩
theorem Stp.ofAfter {w : Wx} {p : Addr} {H H' : Hp} (hw : w.o = some p) (h : WellAt H p) (k : After p H H') : Stp w H H' := by
  obtain ⟨a, m, c, e, _⟩ := h
  exact ⟨fun b u n _ q => k.kp b u (fun z => n (by rw [z]; exact .inl hw)) q, k.sx.tp, fun q e _ => by rw [hw] at e; cases e; exact k.well, fun t => tabs_more t (fun b o n q => k.kp b o n q) (.inr ⟨_, e⟩), fun _ b u n q => k.kp b u (fun z => n (by rw [z]; exact .inl hw)) q⟩
structure Md where
  /-- strict: lists and dicts stand apart from the modules' own -/
  y : Bool
  /-- the tables of code objects -/
  T : List (Addr × Str)
structure Gnd where
  base : Heap
  K : PySem.W.Frag
  sy : Md
abbrev gnd (Sy : Md) (X : Cx) : Gnd := ⟨X.base, X.K, Sy⟩
structure WlOk (base : Gnd) (w : Wx) (N : Bn) (H : Hp) : Prop where
  wl : ∀ p, w.o = some p → N p ∧ p ≠ sysModules ∧ WellAt H p
  fr : FreshB N H
  sn : base.sy.y = true → N sysModules
  sl : base.sy.y = false → ∀ p, H p = none → ¬ N p
  kk : N.K = base.K
  tn : ∀ p ∈ w.T, N p.1
  tb : LamX.Tabs w.T H
  tt : w.T = base.sy.T
  to : ∀ p ps, H p = some (.tbl ps) → ¬ w.has p → (p ≠ sysModules ∨ base.sy.y = false) → ¬ N p
theorem WlOk.has {base : Gnd} {w : Wx} {N : Bn} {H : Hp} (a : WlOk base w N H) : ∀ p, w.has p → N p := fun p h => by
  rcases h with h | ⟨q, hq, rfl⟩
  · exact (a.wl p h).1
  · exact a.tn q hq
theorem WlOk.isome {base : Gnd} {w : Wx} {N : Bn} {H : Hp} (a : WlOk base w N H) {p : Addr} (h : w.has p) : ∃ u, H p = some u := by
  rcases h with h | ⟨q, hq, rfl⟩
  · obtain ⟨_, _, x, m, c, e, _⟩ := a.wl p h
    exact ⟨_, e⟩
  · obtain ⟨ps, e, _⟩ := a.tb q hq
    exact ⟨_, e⟩
theorem WlOk.new {base : Gnd} {w : Wx} {N : Bn} {H : Hp} (a : WlOk base w N H) {l : Addr} (hl : H l = none) : ¬ w.has l := fun z => by
  obtain ⟨u, e⟩ := a.isome z
  rw [hl] at e
  cases e
theorem WlOk.step {base : Gnd} {w : Wx} {N : Bn} {H H' : Hp} (a : WlOk base w N H) (k : Stp w H H') : WlOk base w N H' := by
  have tb := k.tb a.tb
  have back : ∀ p, H' p = none → (p ≠ sysModules ∨ base.sy.y = false) → ¬ N p := fun p hp hs => by
    have c : ¬ w.has p := fun c => by
      rcases c with c | ⟨q, hq, rfl⟩
      · obtain ⟨_, _, h3⟩ := a.wl p c
        obtain ⟨x, m, y, z, _⟩ := k.wl p c h3
        rw [hp] at z
        cases z
      · obtain ⟨ps, e, _⟩ := tb q hq
        rw [hp] at e
        cases e
    cases e : H p with
    | none =>
      cases ey : base.sy.y with
      | false => exact a.sl ey p e
      | true => exact a.fr p e (hs.elim (fun z => z) fun z => by rw [ey] at z; cases z)
    | some u =>
      by_cases ct : ∃ ps, u = HO.tbl ps
      · obtain ⟨ps, rfl⟩ := ct
        exact a.to p ps e c hs
      · rw [k.kp p u c (fun ps z => ct ⟨ps, z⟩) e] at hp
        cases hp
  refine ⟨fun p e => ?_, fun p hp np => back p hp (.inl np), a.sn, fun z p hp => back p hp (.inr z), a.kk, a.tn, tb, a.tt, fun p ps hp c hs => ?_⟩
  · obtain ⟨h1, h2, h3⟩ := a.wl p e
    exact ⟨h1, h2, k.wl p e h3⟩
  · cases e : H p with
    | none =>
      cases ey : base.sy.y with
      | false => exact a.sl ey p e
      | true => exact a.fr p e (hs.elim (fun z => z) fun z => by rw [ey] at z; cases z)
    | some u =>
      by_cases ct : ∃ ps, u = HO.tbl ps
      · obtain ⟨qs, rfl⟩ := ct
        exact a.to p qs e c hs
      · rw [k.kp p u c (fun ps z => ct ⟨ps, z⟩) e] at hp
        exact absurd ⟨ps, Option.some.inj hp⟩ ct
theorem dv_step {w : Wx} {N : Bn} {H H' : Hp} {v : V} {d : PyData} (h : Dv N H v d) (hw : ∀ p, w.has p → N p) (k : Stp w H H') : Dv N H' v d :=
  Dv.mapL rfl (fun b u m n q => ⟨k.kp b u (fun z => n (hw b z)) m q, n⟩) k.tp _ _ h
theorem dvs_step {w : Wx} {N : Bn} {H H' : Hp} {vs : List V} {ds : List PyData} (h : DvAll N H vs ds) (hw : ∀ p, w.has p → N p) (k : Stp w H H') : DvAll N H' vs ds :=
  DvAll.mapL rfl (fun b u m n q => ⟨k.kp b u (fun z => n (hw b z)) m q, n⟩) k.tp _ _ h
/-- what a slot holds -/
def SvR (w : Wx) (N : Bn) (O : Nat → Option Addr) (H : Hp) (i : Nat) (v : V) : Sv → Prop
  | .dat d => Dv N H v d
  | .own ds => ∃ a xs, v = .ref a ∧ O i = some a ∧ H a = some (.lst xs) ∧ DvAll N H xs ds
  | .well => ∃ p, w.o = some p ∧ v = .ref p
  | .fn x => ∃ f, PySem.W.nsIn N.K mainGlobals x = some (some (.ref f)) ∧ v = .ref f
structure EnvR (base : Gnd) (w : Wx) (N : Bn) (O : Nat → Option Addr) (F : List (V × PyData)) (H : Hp) (σ : L2.St) (ρ : Env) : Prop where
  ok : WlOk base w N H
  len : σ.length = ρ.length
  slot : ∀ i y, slotD ρ i = some y → ∃ v, σ[i]? = some (some v) ∧ SvR w N O H i v y
  inj : ∀ i j a, O i = some a → O j = some a → i = j
  ow : ∀ i a, O i = some a → N a ∧ ¬ w.has a ∧ ∃ ys, H a = some (.lst ys)
  kept : ∀ p ∈ F, Dv N H p.1 p.2
section
variable {base : Gnd} {w : Wx} {N : Bn} {O : Nat → Option Addr} {F : List (V × PyData)} {H H' : Hp} {σ : L2.St} {ρ : Env}
theorem EnvR.hw (e : EnvR base w N O F H σ ρ) : ∀ p, w.has p → N p := e.ok.has
theorem EnvR.step (e : EnvR base w N O F H σ ρ) (k : Stp w H H') : EnvR base w N O F H' σ ρ := by
  refine ⟨e.ok.step k, e.len, fun i y h => ?_, e.inj, fun i a h => ?_, fun p hp => dv_step (e.kept p hp) e.hw k⟩
  · obtain ⟨v, h1, h2⟩ := e.slot i y h
    refine ⟨v, h1, ?_⟩
    cases y with
    | dat d => exact dv_step h2 e.hw k
    | own ds =>
      obtain ⟨a, xs, r, o, ha, hd⟩ := h2
      exact ⟨a, xs, r, o, k.kp _ _ (e.ow i a o).2.1 lst_ne ha, dvs_step hd e.hw k⟩
    | well => exact h2
    | fn x => exact h2
  · obtain ⟨h1, h2, u, h4⟩ := e.ow i a h
    exact ⟨h1, h2, u, k.kp _ _ h2 lst_ne h4⟩
/-- a slot filled with data -/
theorem EnvR.put (e : EnvR base w N O F H σ ρ) (i : Nat) {v : V} {d : PyData} (h : Dv N H v d) : EnvR base w N (fun j => if j = i then none else O j) F H (σ.set i (some v)) (putD ρ i (some (.dat d))) := by
  refine ⟨e.ok, by rw [List.length_set, putD_len, e.len], fun j y hy => ?_, fun a b c h1 h2 => ?_, fun j a h1 => ?_, e.kept⟩
  · rcases slot_put ρ i j _ _ hy (by intro z; cases z) with ⟨rfl, z, l⟩ | ⟨nj, z⟩
    · cases z
      exact ⟨v, by rw [List.getElem?_set_self (by rw [e.len]; exact l)], h⟩
    · obtain ⟨u, h1, h2⟩ := e.slot j y z
      refine ⟨u, by rw [List.getElem?_set_ne (fun z => nj z.symm)]; exact h1, ?_⟩
      cases y with
      | dat d => exact h2
      | own ds =>
        obtain ⟨a, xs, r, o, q⟩ := h2
        exact ⟨a, xs, r, by simp only [nj, if_false]; exact o, q⟩
      | well => exact h2
      | fn x => exact h2
  · try dsimp only at h1 h2
    split at h1
    · cases h1
    · split at h2
      · cases h2
      · exact e.inj a b c h1 h2
  · try dsimp only at h1
    split at h1
    · cases h1
    · exact e.ow j a h1
end
/-- an exception's class and fields -/
def ExAt (mg : Str → Option Value) (N : Bn) (H : Hp) (cls : Value) (dx : Option Addr) (x : Exn) : Prop :=
  ∃ C, mg x.1 = some (.ref C) ∧ cls = .ref C ∧ match x.2 with
    | [] => dx = none
    | [(f, d)] => ∃ a v, dx = some a ∧ H a = some (.xd [(f, v)]) ∧ Dv N H v d
    | _ => False
/-- an expression by data -/
def LE (Sy : Md) (X : Cx) (E : L2.St → XK) (t : TD) : TE := fun σ H Q => ∃ (w : Wx) (N : Bn) (O : Nat → Option Addr) (F : List (V × PyData)) (ρ : Env) (R : RD) (Ex : XD), EnvR (gnd Sy X) w N O F H σ ρ ∧ t ρ R Ex ∧
  (∀ d v H', R d → Stp w H H' → Dv N H' v d → Q v H') ∧ (∀ x cls dx H', Ex x → Stp w H H' → ExAt X.mg N H' cls dx x → E σ cls dx H')
def LT (Sy : Md) (X : Cx) (E : L2.St → XK) (t : TTD) : TT := fun σ H Q => ∃ (w : Wx) (N : Bn) (O : Nat → Option Addr) (F : List (V × PyData)) (ρ : Env) (R : Bool → Prop) (Ex : XD), EnvR (gnd Sy X) w N O F H σ ρ ∧ t ρ R Ex ∧
  (∀ b H', R b → Stp w H H' → Q b H') ∧ (∀ x cls dx H', Ex x → Stp w H H' → ExAt X.mg N H' cls dx x → E σ cls dx H')
def SaR (w : Wx) (N : Bn) (H : Hp) (v : V) : Sv → Prop
  | .dat d => Dv N H v d
  | .own _ => False
  | .well => ∃ p, w.o = some p ∧ v = .ref p
  | .fn x => ∃ f, PySem.W.nsIn N.K mainGlobals x = some (some (.ref f)) ∧ v = .ref f
def SvsR (w : Wx) (N : Bn) (H : Hp) : List V → List Sv → Prop
  | [], [] => True
  | v :: vs, u :: us => SaR w N H v u ∧ SvsR w N H vs us
  | _, _ => False
theorem SvsR.length {w : Wx} {N : Bn} {H : Hp} : ∀ {vs : List V} {us : List Sv}, SvsR w N H vs us → vs.length = us.length
  | [], [], _ => rfl
  | v :: vs, u :: us, h => congrArg (· + 1) (SvsR.length h.2)
  | [], _ :: _, h => h.elim
  | _ :: _, [], h => h.elim
theorem SaR.step {w : Wx} {N : Bn} {H H' : Hp} {v : V} {u : Sv} (h : SaR w N H v u) (hw : ∀ p, w.has p → N p) (k : Stp w H H') : SaR w N H' v u := by
  cases u with
  | dat d => exact dv_step h hw k
  | own ds => exact h
  | well => exact h
  | fn x => exact h
theorem SvsR.step {w : Wx} {N : Bn} {H H' : Hp} (hw : ∀ p, w.has p → N p) (k : Stp w H H') : ∀ {vs : List V} {us : List Sv}, SvsR w N H vs us → SvsR w N H' vs us
  | [], [], _ => trivial
  | v :: vs, u :: us, h => ⟨h.1.step hw k, SvsR.step hw k h.2⟩
  | [], _ :: _, h => h.elim
  | _ :: _, [], h => h.elim
def LA (Sy : Md) (X : Cx) (E : L2.St → XK) (n : Nat) (t : TAD) : TA := fun σ H Q => ∃ (w : Wx) (N : Bn) (O : Nat → Option Addr) (F : List (V × PyData)) (ρ : Env) (R : List Sv → Prop) (Ex : XD), EnvR (gnd Sy X) w N O F H σ ρ ∧ t ρ R Ex ∧
  (∀ us vs H', us.length = n → R us → Stp w H H' → SvsR w N H' vs us → Q vs H') ∧ (∀ x cls dx H', Ex x → Stp w H H' → ExAt X.mg N H' cls dx x → E σ cls dx H')
/-! ### the combinators -/
def dV (i : Nat) : TD := fun ρ R _ => match slotD ρ i with
  | some (.dat d) => R d
  | _ => False
def dC (d : PyData) : TD := fun _ R _ => R d
def dOp (f : PyData → PyData → RD → Prop) (ta tb : TD) : TD := fun ρ R Ex => ta ρ (fun x => tb ρ (fun y => f x y R) Ex) Ex
def dUn (f : PyData → RD → Prop) (ta : TD) : TD := fun ρ R Ex => ta ρ (fun x => f x R) Ex
def dNil : TAD := fun _ R _ => R []
def dCons (t : TD) (r : TAD) : TAD := fun ρ R Ex => t ρ (fun d => r ρ (fun us => R (.dat d :: us)) Ex) Ex
def dConsW (i : Nat) (r : TAD) : TAD := fun ρ R Ex => match slotD ρ i with
  | some .well => r ρ (fun us => R (.well :: us)) Ex
  | _ => False
def dCall (tf : TF) (ta : TAD) : TD := fun ρ R Ex => ta ρ (fun us => tf us R Ex) Ex
def datsOf : List Sv → Option (List PyData)
  | [] => some []
  | .dat d :: r => match datsOf r with
    | some ds => some (d :: ds)
    | none => none
  | _ => none
def dCB (f : List PyData → RD → Prop) (ta : TAD) : TD := fun ρ R Ex => ta ρ (fun us => match datsOf us with
  | some ds => f ds R
  | none => False) Ex
def dTup (ta : TAD) : TD := dCB (fun ds R => R (.tuple ds)) ta
def dLst (ta : TAD) : TD := dCB (fun ds R => R (.list ds)) ta
def dIf (tc : TTD) (ta tb : TD) : TD := fun ρ R Ex => tc ρ (fun b => if b = true then ta ρ R Ex else tb ρ R Ex) Ex
theorem dats_all {w : Wx} {N : Bn} {H : Hp} : ∀ {vs : List V} {us : List Sv} {ds : List PyData}, SvsR w N H vs us → datsOf us = some ds → DvAll N H vs ds ∧ ds.length = us.length
  | [], [], _, _, e => by
    cases e
    exact ⟨.nil, rfl⟩
  | v :: vs, .dat d :: us, ds, h, e => by
    unfold datsOf at e
    cases z : datsOf us with
    | none => rw [z] at e; cases e
    | some es =>
      rw [z] at e
      cases e
      obtain ⟨a, b⟩ := dats_all h.2 z
      exact ⟨.cons h.1 a, by simp [b]⟩
  | v :: vs, .own _ :: us, ds, h, e => h.1.elim
  | v :: vs, .well :: us, ds, h, e => by
    unfold datsOf at e
    cases e
  | v :: vs, .fn _ :: us, ds, h, e => by
    unfold datsOf at e
    cases e
  | [], _ :: _, _, h, _ => h.elim
  | _ :: _, [], _, h, _ => h.elim
section
variable {Sy : Md} {X : Cx} {E : L2.St → XK} {e : Expr} {es : List Expr} {pos : Pos} {i n : Nat} {ta tb : TD} {tc : TTD} {tr : TAD}
theorem d_var (h : PE X e (tVar i)) : PE X e (LE Sy X E (dV i)) := h.weak fun σ H Q ⟨w, N, O, F, ρ, R, Ex, en, t, q, _⟩ => by
  unfold dV at t
  split at t
  · rename_i d hd
    obtain ⟨v, h1, h2⟩ := en.slot i _ hd
    exact ⟨v, h1, q d v H t (.refl _ _) h2⟩
  · exact t.elim
theorem d_c {v : V} {d : PyData} (h : PE X e (tC v)) (hd : ∀ N H, Dv N H v d) : PE X e (LE Sy X E (dC d)) := h.weak fun σ H Q ⟨w, N, O, F, ρ, R, Ex, en, t, q, _⟩ => q d v H t (.refl _ _) (hd N H)
/-- a name of the text that holds data -/
theorem d_tc {x : Str} {d : PyData} {pos : Pos} (hg : Gl X x) (wd : Wd X.K X.mg x d) (hdb : (x == ("__debug__" : Str)) = false := by decide) : PE X (.Name x pos) (LE Sy X E (dC d)) := by
  obtain ⟨v, u, hm, r, wv⟩ := wd.ex
  exact (pe_glob hg hm r hdb).weak fun σ H Q ⟨w, N, O, F, ρ, R, Ex, en, t, q, _⟩ => q d v H t (.refl _ _) (wv.dv en.ok.kk)
theorem d_int {z : Int} {j : Nat} : PE X (.Constant (.int z) j pos) (LE Sy X E (dC (.int z))) := d_c pe_int fun _ _ => .int z
theorem d_bl {z : Bool} {j : Nat} : PE X (.Constant (.bool z) j pos) (LE Sy X E (dC (.bool z))) := d_c pe_bl fun _ _ => .bl z
theorem d_non {j : Nat} : PE X (.Constant .none j pos) (LE Sy X E (dC .none)) := d_c pe_non fun _ _ => .non
theorem d_str {z : Str} {j : Nat} : PE X (.Constant (.str z) j pos) (LE Sy X E (dC (.str z))) := d_c pe_str fun _ _ => .str z
/-- written data -/
theorem d_data {d : PyData} (h : PE X e (tData d)) : PE X e (LE Sy X E (dC d)) := h.weak fun σ H Q ⟨w, N, O, F, ρ, R, Ex, en, t, q, _⟩ => ⟨N, en.ok.fr, fun v H' k dv => q d v H' t (.of k) dv⟩
/-- what an operation by values does, by data -/
def OpD (Sy : Md) (X : Cx) (r : R2) (f : PyData → PyData → RD → Prop) : Prop := ∀ (N : Bn) (H : Hp) (v u : V) (x y : PyData) (R : RD) (Q : VK), f x y R → Dv N H v x → Dv N H u y → FreshB N H → (Sy.y = true → N sysModules) → N.K = X.K → (Sy.y = false → ∀ p, H p = none → ¬ N p) →
  (∀ d z H', R d → Same H H' → Dv N H' z d → Q z H') → r v u H Q
theorem d_op {r : R2} {f : PyData → PyData → RD → Prop} (h : PE X e (tOp r (LE Sy X E ta) (LE Sy X E tb))) (o : OpD Sy X r f) : PE X e (LE Sy X E (dOp f ta tb)) := h.weak fun σ H Q ⟨w, N, O, F, ρ, R, Ex, en, t, q, qx⟩ => by
  refine ⟨w, N, O, F, ρ, _, Ex, en, t, fun x v H1 r1 k1 dx => ?_, qx⟩
  have en1 := en.step k1
  refine ⟨w, N, O, F, ρ, _, Ex, en1, r1, fun y u H2 r2 k2 dy => ?_, fun x cls dx H' hx k hh => qx x cls dx H' hx (k1.trans k) hh⟩
  have en2 := en1.step k2
  exact o N H2 v u x y R Q r2 (dv_step dx en.hw k2) dy en2.ok.fr en2.ok.sn en2.ok.kk en2.ok.sl fun d z H' hr s dz => q d z H' hr ((k1.trans k2).trans (.of s)) dz
def UnD (Sy : Md) (X : Cx) (r : V → Hp → VK → Prop) (f : PyData → RD → Prop) : Prop := ∀ (N : Bn) (H : Hp) (v : V) (x : PyData) (R : RD) (Q : VK), f x R → Dv N H v x → FreshB N H → (Sy.y = true → N sysModules) → N.K = X.K → (Sy.y = false → ∀ p, H p = none → ¬ N p) →
  (∀ d z H', R d → Same H H' → Dv N H' z d → Q z H') → r v H Q
theorem d_un {r : V → Hp → VK → Prop} {f : PyData → RD → Prop} (h : PE X e (tUn r (LE Sy X E ta))) (o : UnD Sy X r f) : PE X e (LE Sy X E (dUn f ta)) := h.weak fun σ H Q ⟨w, N, O, F, ρ, R, Ex, en, t, q, qx⟩ => by
  refine ⟨w, N, O, F, ρ, _, Ex, en, t, fun x v H1 r1 k1 dx => ?_, qx⟩
  have en1 := en.step k1
  exact o N H1 v x R Q r1 dx en1.ok.fr en1.ok.sn en1.ok.kk en1.ok.sl fun d z H' hr s dz => q d z H' hr (k1.trans (.of s)) dz
theorem da_nil : PA X [] (LA Sy X E 0 dNil) := pa_nil.weak fun σ H Q ⟨w, N, O, F, ρ, R, Ex, en, t, q, qx⟩ => q [] [] H rfl t (.refl _ _) trivial
theorem da_cons (h : PE X e (LE Sy X E ta)) (r : PA X es (LA Sy X E n tr)) (hs : starEach (e :: es) X.env = (false, eval e X.env) :: starEach es X.env := by rfl) : PA X (e :: es) (LA Sy X E (n + 1) (dCons ta tr)) :=
  (pa_cons h r hs).weak fun σ H Q ⟨w, N, O, F, ρ, R, Ex, en, t, q, qx⟩ => by
    refine ⟨w, N, O, F, ρ, _, Ex, en, t, fun x v H1 r1 k1 dx => ?_, qx⟩
    refine ⟨w, N, O, F, ρ, _, Ex, en.step k1, r1, fun us vs H2 hl r2 k2 hv => ?_, fun x cls dx H' hx k hh => qx x cls dx H' hx (k1.trans k) hh⟩
    exact q (.dat x :: us) (v :: vs) H2 (by simp [hl]) r2 (k1.trans k2) ⟨dv_step dx en.hw k2, hv⟩
theorem da_well (h : PE X e (tVar i)) (r : PA X es (LA Sy X E n tr)) (hs : starEach (e :: es) X.env = (false, eval e X.env) :: starEach es X.env := by rfl) : PA X (e :: es) (LA Sy X E (n + 1) (dConsW i tr)) :=
  (pa_cons h r hs).weak fun σ H Q ⟨w, N, O, F, ρ, R, Ex, en, t, q, qx⟩ => by
    unfold dConsW at t
    split at t
    · rename_i hd
      obtain ⟨v, h1, p, hp, rfl⟩ := en.slot i _ hd
      refine ⟨_, h1, w, N, O, F, ρ, _, Ex, en, t, fun us vs H2 hl r2 k2 hv => ?_, qx⟩
      exact q (.well :: us) (.ref p :: vs) H2 (by simp [hl]) r2 k2 ⟨⟨p, hp, rfl⟩, hv⟩
    · exact t.elim
theorem d_tup {x1} (h : PA X es (LA Sy X E n tr)) (hn : n ≤ 1000 := by decide) : PE X (.Tuple es x1 pos) (LE Sy X E (dTup tr)) := (pe_tup h).weak fun σ H Q ⟨w, N, O, F, ρ, R, Ex, en, t, q, qx⟩ => by
  refine ⟨w, N, O, F, ρ, _, Ex, en, t, fun us vs H1 hl r1 k1 hv => ?_, qx⟩
  split at r1
  · rename_i ds hd
    obtain ⟨all, l2⟩ := dats_all hv hd
    have l3 := all.length
    refine ⟨by rw [sizeLine_eq]; omega, fun p hp => ?_⟩
    have s := same_new hp (.tup vs)
    exact q _ _ _ r1 (k1.trans (.of s)) (.tup (.of upd_same) (all.same s))
  · exact r1.elim
theorem d_lst (h : PA X es (LA Sy X E n tr)) (hn : n ≤ 1000 := by decide) : PE X (.List es pos) (LE Sy X E (dLst tr)) := (pe_list h).weak fun σ H Q ⟨w, N, O, F, ρ, R, Ex, en, t, q, qx⟩ => by
  refine ⟨w, N, O, F, ρ, _, Ex, en, t, fun us vs H1 hl r1 k1 hv => ?_, qx⟩
  split at r1
  · rename_i ds hd
    obtain ⟨all, l2⟩ := dats_all hv hd
    have l3 := all.length
    refine ⟨by rw [sizeLine_eq]; omega, fun p hp np => ?_⟩
    have s := same_new hp (.lst vs)
    exact q _ _ _ r1 (k1.trans (.of s)) (.lst ((en.step k1).ok.fr p hp np) upd_same (all.same s))
  · exact r1.elim
def CallD (Sy : Md) (X : Cx) (r : List V → Hp → VK → Prop) (f : List PyData → RD → Prop) : Prop := ∀ (N : Bn) (H : Hp) (vs : List V) (ds : List PyData) (R : RD) (Q : VK), f ds R → DvAll N H vs ds → FreshB N H → (Sy.y = true → N sysModules) → N.K = X.K → (Sy.y = false → ∀ p, H p = none → ¬ N p) →
  (∀ d z H', R d → Same H H' → Dv N H' z d → Q z H') → r vs H Q
theorem d_cb {r : List V → Hp → VK → Prop} {f : List PyData → RD → Prop} (h : PE X e (tCB r (LA Sy X E n tr))) (o : CallD Sy X r f) : PE X e (LE Sy X E (dCB f tr)) := h.weak fun σ H Q ⟨w, N, O, F, ρ, R, Ex, en, t, q, qx⟩ => by
  refine ⟨w, N, O, F, ρ, _, Ex, en, t, fun us vs H1 hl r1 k1 hv => ?_, qx⟩
  have en1 := en.step k1
  split at r1
  · rename_i ds hd
    exact o N H1 vs ds R Q r1 (dats_all hv hd).1 en1.ok.fr en1.ok.sn en1.ok.kk en1.ok.sl fun d z H' hr s dz => q d z H' hr (k1.trans (.of s)) dz
  · exact r1.elim
/-- isinstance(x, a built-in class) -/
theorem d_isi {T : String} {f : PyData → Bool} (h : PE X e (tCB (rIsD T f X.K) (tCons (LE Sy X E ta) (tCons (tC (.ty T)) tNil)))) : PE X e (LE Sy X E (dUn (fun d R => R (.bool (f d))) ta)) := h.weak fun σ H Q ⟨w, N, O, F, ρ, R, Ex, en, t, q, qx⟩ => by
  refine ⟨w, N, O, F, ρ, _, Ex, en, t, fun x v H1 r1 k1 dx => ?_, qx⟩
  exact ⟨N, v, x, en.ok.kk, rfl, dx, q _ _ H1 r1 k1 (.bl _)⟩
/-! ### calls of defs -/
/-- the promise of a def by data -/
def spF (base : Gnd) (mg : Str → Option Value) (n : Nat) (t : TF) : Sp := fun vs H Q E => ∃ (w : Wx) (N : Bn) (us : List Sv) (R : RD) (Ex : XD), us.length = n ∧ SvsR w N H vs us ∧ WlOk base w N H ∧ t us R Ex ∧
  (∀ d v H', R d → Stp w H H' → Dv N H' v d → Q v H') ∧ (∀ x cls dx H', Ex x → Stp w H H' → ExAt mg N H' cls dx x → E cls dx H')
theorem spF.len {base : Gnd} {mg : Str → Option Value} {n : Nat} {t : TF} {vs : List V} {H : Hp} {Q : VK} {E : XK} (h : spF base mg n t vs H Q E) : vs.length = n := by
  obtain ⟨w, N, us, R, Ex, hl, hv, _⟩ := h
  rw [hv.length, hl]
theorem d_call {tf : TF} (h : PE X e (fun σ H Q => LA Sy X E n tr σ H fun vs H1 => spF (gnd Sy X) X.mg n tf vs H1 Q (E σ))) : PE X e (LE Sy X E (dCall tf tr)) := h.weak fun σ H Q ⟨w, N, O, F, ρ, R, Ex, en, t, q, qx⟩ => by
  refine ⟨w, N, O, F, ρ, _, Ex, en, t, fun us vs H1 hl r1 k1 hv => ?_, qx⟩
  exact ⟨w, N, us, R, Ex, hl, hv, (en.step k1).ok, r1, fun d v H' hr k dv => q d v H' hr (k1.trans k) dv, fun x cls dx H' hx k hh => qx x cls dx H' hx (k1.trans k) hh⟩
/-! ### tests -/
def truK (d : PyData) (R : Bool → Prop) : Prop := match d with
  | .bool b => R b
  | .none => R false
  | .int i => R (i != 0)
  | .list ds => R (!ds.isEmpty)
  | .tuple ds => R (!ds.isEmpty)
  | .str y => y.length ≤ sizeLine ∧ R ((y.length : Int) != 0)
  | .dict [] => R false
  | _ => False
def dTst (t : TD) : TTD := fun ρ R Ex => t ρ (fun d => truK d R) Ex
def dCmp (f : PyData → PyData → (Bool → Prop) → Prop) (ta tb : TD) : TTD := fun ρ R Ex => ta ρ (fun x => tb ρ (fun y => f x y R) Ex) Ex
def dCmpV (f : PyData → PyData → (Bool → Prop) → Prop) (ta tb : TD) : TD := fun ρ R Ex => ta ρ (fun x => tb ρ (fun y => f x y fun b => R (.bool b)) Ex) Ex
def dNot (t : TTD) : TTD := fun ρ R Ex => t ρ (fun b => R (!b)) Ex
def dAnd (t u : TTD) : TTD := fun ρ R Ex => t ρ (fun b => if b = true then u ρ R Ex else R false) Ex
def dOr (t u : TTD) : TTD := fun ρ R Ex => t ρ (fun b => if b = true then R true else u ρ R Ex) Ex
theorem _root_.L2.PT.weak {X : Cx} {e : Expr} {t t' : TT} (h : PT X e t) (i : ∀ σ H Q, t' σ H Q → t σ H Q) : PT X e t' := ⟨fun pins s σ H Q I q => h.run pins s σ H Q I (i σ H Q q)⟩
theorem _root_.L2.PW.weak {X : Cx} {e : Expr} {t t' : TT} (h : PW X e t) (i : ∀ σ H Q, t' σ H Q → t σ H Q) : PW X e t' := ⟨fun wh pins s σ H Q I q => h.run wh pins s σ H Q I (i σ H Q q)⟩
theorem dvs_empty {N : Bn} {H : Hp} {xs : List V} {ds : List PyData} (h : DvAll N H xs ds) : (!xs.isEmpty) = (!ds.isEmpty) := by cases h <;> rfl
theorem tru_dv {K : PySem.W.Frag} {N : Bn} {H : Hp} {v : V} {d : PyData} {R : Bool → Prop} (hK : N.K = K) (h : Dv N H v d) (r : truK d R) : ∃ k, TruV K v H k ∧ R k := by
  cases h with
  | non => exact ⟨false, rfl, r⟩
  | bl b => exact ⟨b, rfl, r⟩
  | int z => exact ⟨_, rfl, r⟩
  | str z => exact ⟨_, ⟨r.1, rfl⟩, r.2⟩
  | lst nn ea all => exact ⟨_, .inl ⟨_, .of ea, rfl⟩, by rw [dvs_empty all]; exact r⟩
  | tup ea all => exact ⟨_, .inr (.inl ⟨_, hK ▸ ea.sq, rfl⟩), by rw [dvs_empty all]; exact r⟩
  | dct nn ea => exact ⟨_, .inr (.inr ⟨_, ea, rfl⟩), r⟩
theorem dt_val (h : PT X e (fun σ H Q => LE Sy X E ta σ H fun x H' => ∃ k, TruV X.K x H' k ∧ Q k H')) : PT X e (LT Sy X E (dTst ta)) := h.weak fun σ H Q ⟨w, N, O, F, ρ, R, Ex, en, t, q, qx⟩ => by
  refine ⟨w, N, O, F, ρ, _, Ex, en, t, fun x v H1 r1 k1 dx => ?_, qx⟩
  obtain ⟨k, t1, r⟩ := tru_dv en.ok.kk dx r1
  exact ⟨k, t1, q _ _ r k1⟩
/-- a comparison: no thing is made -/
def CmpD (X : Cx) (r : R2) (f : PyData → PyData → (Bool → Prop) → Prop) : Prop := ∀ (N : Bn) (H : Hp) (v u : V) (x y : PyData) (R : Bool → Prop) (Q : VK), f x y R → Dv N H v x → Dv N H u y → N.K = X.K → (∀ b, R b → Q (.bl b) H) → r v u H Q
theorem dt_cmp {r : R2} {f : PyData → PyData → (Bool → Prop) → Prop} (h : PT X e (tTest (tOp r (LE Sy X E ta) (LE Sy X E tb)))) (o : CmpD X r f) : PT X e (LT Sy X E (dCmp f ta tb)) := h.weak fun σ H Q ⟨w, N, O, F, ρ, R, Ex, en, t, q, qx⟩ => by
  refine ⟨w, N, O, F, ρ, _, Ex, en, t, fun x v H1 r1 k1 dx => ?_, qx⟩
  have en1 := en.step k1
  refine ⟨w, N, O, F, ρ, _, Ex, en1, r1, fun y u H2 r2 k2 dy => ?_, fun x cls dx H' hx k hh => qx x cls dx H' hx (k1.trans k) hh⟩
  have en2 := en1.step k2
  exact o N H2 v u x y _ _ r2 (dv_step dx en.hw k2) dy en2.ok.kk fun b hb => ⟨b, rfl, q b H2 hb (k1.trans k2)⟩
theorem d_cmp {r : R2} {f : PyData → PyData → (Bool → Prop) → Prop} (h : PE X e (tOp r (LE Sy X E ta) (LE Sy X E tb))) (o : CmpD X r f) : PE X e (LE Sy X E (dCmpV f ta tb)) := h.weak fun σ H Q ⟨w, N, O, F, ρ, R, Ex, en, t, q, qx⟩ => by
  refine ⟨w, N, O, F, ρ, _, Ex, en, t, fun x v H1 r1 k1 dx => ?_, qx⟩
  have en1 := en.step k1
  refine ⟨w, N, O, F, ρ, _, Ex, en1, r1, fun y u H2 r2 k2 dy => ?_, fun x cls dx H' hx k hh => qx x cls dx H' hx (k1.trans k) hh⟩
  have en2 := en1.step k2
  exact o N H2 v u x y _ _ r2 (dv_step dx en.hw k2) dy en2.ok.kk fun b hb => q _ _ H2 hb (k1.trans k2) (.bl b)
/-- a < b < c -/
def dChain (f g : PyData → PyData → (Bool → Prop) → Prop) (ta tb tc : TD) : TD := fun ρ R Ex => ta ρ (fun x => tb ρ (fun y => f x y fun b => if b = true then tc ρ (fun z => g y z fun b => R (.bool b)) Ex else R (.bool false)) Ex) Ex
theorem d_chain {r r' : R2} {f g : PyData → PyData → (Bool → Prop) → Prop} {tc : TD} (h : PE X e (tChain r r' (LE Sy X E ta) (LE Sy X E tb) (LE Sy X E tc))) (o : CmpD X r f) (o' : CmpD X r' g) : PE X e (LE Sy X E (dChain f g ta tb tc)) := h.weak fun σ H Q ⟨w, N, O, F, ρ, R, Ex, en, t, q, qx⟩ => by
  refine ⟨w, N, O, F, ρ, _, Ex, en, t, fun x v H1 r1 k1 dx => ?_, qx⟩
  have en1 := en.step k1
  refine ⟨w, N, O, F, ρ, _, Ex, en1, r1, fun y u H2 r2 k2 dy => ?_, fun x cls dx H' hx k hh => qx x cls dx H' hx (k1.trans k) hh⟩
  have en2 := en1.step k2
  refine o N H2 v u x y _ _ r2 (dv_step dx en.hw k2) dy en2.ok.kk fun b hb => ⟨b, rfl, ?_⟩
  cases b with
  | false => exact q _ _ H2 hb (k1.trans k2) (.bl false)
  | true =>
    refine ⟨w, N, O, F, ρ, _, Ex, en2, hb, fun z s H3 r3 k3 dz => ?_, fun x cls dx H' hx k hh => qx x cls dx H' hx ((k1.trans k2).trans k) hh⟩
    exact o' N H3 u s y z _ _ r3 (dv_step dy en.hw k3) dz en2.ok.kk fun b hb => q _ _ H3 hb ((k1.trans k2).trans k3) (.bl b)
theorem dt_not {t : TTD} (h : PT X e (tNot (LT Sy X E t))) : PT X e (LT Sy X E (dNot t)) := h.weak fun σ H Q ⟨w, N, O, F, ρ, R, Ex, en, t, q, qx⟩ =>
  ⟨w, N, O, F, ρ, _, Ex, en, t, fun b H' r k => q _ _ r k, qx⟩
theorem dw_and {t u : TTD} (h : PW X e (tAnd (LT Sy X E t) (LT Sy X E u))) : PW X e (LT Sy X E (dAnd t u)) := h.weak fun σ H Q ⟨w, N, O, F, ρ, R, Ex, en, t, q, qx⟩ => by
  refine ⟨w, N, O, F, ρ, _, Ex, en, t, fun b H1 r k => ?_, qx⟩
  cases b with
  | false => exact q _ _ r k
  | true => exact ⟨w, N, O, F, ρ, _, Ex, en.step k, r, fun b H2 r2 k2 => q _ _ r2 (k.trans k2), fun x cls dx H' hx k2 hh => qx x cls dx H' hx (k.trans k2) hh⟩
theorem dw_or {t u : TTD} (h : PW X e (tOr (LT Sy X E t) (LT Sy X E u))) : PW X e (LT Sy X E (dOr t u)) := h.weak fun σ H Q ⟨w, N, O, F, ρ, R, Ex, en, t, q, qx⟩ => by
  refine ⟨w, N, O, F, ρ, _, Ex, en, t, fun b H1 r k => ?_, qx⟩
  cases b with
  | true => exact q _ _ r k
  | false => exact ⟨w, N, O, F, ρ, _, Ex, en.step k, r, fun b H2 r2 k2 => q _ _ r2 (k.trans k2), fun x cls dx H' hx k2 hh => qx x cls dx H' hx (k.trans k2) hh⟩
theorem d_if (h : PE X e (tIf (LT Sy X E tc) (LE Sy X E ta) (LE Sy X E tb))) : PE X e (LE Sy X E (dIf tc ta tb)) := h.weak fun σ H Q ⟨w, N, O, F, ρ, R, Ex, en, t, q, qx⟩ => by
  refine ⟨w, N, O, F, ρ, _, Ex, en, t, fun b H1 r k => ?_, qx⟩
  cases b with
  | true => exact ⟨w, N, O, F, ρ, _, Ex, en.step k, r, fun b v H2 r2 k2 => q _ _ _ r2 (k.trans k2), fun x cls dx H' hx k2 hh => qx x cls dx H' hx (k.trans k2) hh⟩
  | false => exact ⟨w, N, O, F, ρ, _, Ex, en.step k, r, fun b v H2 r2 k2 => q _ _ _ r2 (k.trans k2), fun x cls dx H' hx k2 hh => qx x cls dx H' hx (k.trans k2) hh⟩
/-! and, or, not as values -/
def dAndV (ta tb : TD) : TD := fun ρ R Ex => ta ρ (fun x => truK x fun b => if b = true then tb ρ R Ex else R x) Ex
def dOrV (ta tb : TD) : TD := fun ρ R Ex => ta ρ (fun x => truK x fun b => if b = true then R x else tb ρ R Ex) Ex
theorem d_andV (h : PE X e (tAndT X.K (LE Sy X E ta) (LE Sy X E tb))) : PE X e (LE Sy X E (dAndV ta tb)) := h.weak fun σ H Q ⟨w, N, O, F, ρ, R, Ex, en, t, q, qx⟩ => by
  refine ⟨w, N, O, F, ρ, _, Ex, en, t, fun x v H1 r k dx => ?_, qx⟩
  obtain ⟨b, t1, r⟩ := tru_dv en.ok.kk dx r
  refine ⟨b, t1, ?_⟩
  cases b with
  | false => exact q _ _ _ r k dx
  | true => exact ⟨w, N, O, F, ρ, _, Ex, en.step k, r, fun b v H2 r2 k2 => q _ _ _ r2 (k.trans k2), fun x cls dx H' hx k2 hh => qx x cls dx H' hx (k.trans k2) hh⟩
theorem d_orV (h : PE X e (tOrT X.K (LE Sy X E ta) (LE Sy X E tb))) : PE X e (LE Sy X E (dOrV ta tb)) := h.weak fun σ H Q ⟨w, N, O, F, ρ, R, Ex, en, t, q, qx⟩ => by
  refine ⟨w, N, O, F, ρ, _, Ex, en, t, fun x v H1 r k dx => ?_, qx⟩
  obtain ⟨b, t1, r⟩ := tru_dv en.ok.kk dx r
  refine ⟨b, t1, ?_⟩
  cases b with
  | true => exact q _ _ _ r k dx
  | false => exact ⟨w, N, O, F, ρ, _, Ex, en.step k, r, fun b v H2 r2 k2 => q _ _ _ r2 (k.trans k2), fun x cls dx H' hx k2 hh => qx x cls dx H' hx (k.trans k2) hh⟩
theorem d_notV (h : PE X e (tNotT X.K (LE Sy X E ta))) : PE X e (LE Sy X E (dUn (fun x R => truK x fun b => R (.bool (!b))) ta)) := h.weak fun σ H Q ⟨w, N, O, F, ρ, R, Ex, en, t, q, qx⟩ => by
  refine ⟨w, N, O, F, ρ, _, Ex, en, t, fun x v H1 r k dx => ?_, qx⟩
  obtain ⟨b, t1, r⟩ := tru_dv en.ok.kk dx r
  exact ⟨b, t1, q _ _ _ r k (.bl _)⟩
end
end Ld

namespace Ld
open PySem PySem.Spec PyProof.Rows L2 Lw

/-! ### statements by data -/
structure EndsD where
  nx : Env → Prop
  rt : RD
  bk : Env → Prop := fun _ => False
  ct : Env → Prop := fun _ => False
  ex : Env → XD := fun _ _ => False
abbrev TSD := EndsD → Env → Prop
abbrev Keep := List (V × PyData)
/-- the env, over the def's entry (w, N0, H0) -/
structure EnvB (base : Gnd) (w : Wx) (N0 : Bn) (H0 : Hp) (N : Bn) (O : Nat → Option Addr) (F : Keep) (H : Hp) (σ : L2.St) (ρ : Env) : Prop where
  e : EnvR base w N O F H σ ρ
  st : Stp w H0 H
  sub : ∀ b, N0 b → N b
  new : ∀ i a, O i = some a → (∀ u, H0 a = some u → w.T ≠ [] ∧ ∃ ps, u = HO.tbl ps) ∧ a ≠ sysModules ∧ ¬ N0 a
  fr0 : FreshB N0 H0
  k0 : N0.K = base.K
section
variable {base : Gnd} {w : Wx} {N0 N : Bn} {O : Nat → Option Addr} {F : Keep} {H0 H H' : Hp} {σ : L2.St} {ρ : Env}
theorem EnvB.step (b : EnvB base w N0 H0 N O F H σ ρ) (k : Stp w H H') : EnvB base w N0 H0 N O F H' σ ρ := ⟨b.e.step k, b.st.trans k, b.sub, b.new, b.fr0, b.k0⟩
theorem EnvB.put (b : EnvB base w N0 H0 N O F H σ ρ) (i : Nat) {v : V} {d : PyData} (h : Dv N H v d) : EnvB base w N0 H0 N (fun j => if j = i then none else O j) F H (σ.set i (some v)) (putD ρ i (some (.dat d))) :=
  ⟨b.e.put i h, b.st, b.sub, fun j a z => by
    split at z
    · cases z
    · exact b.new j a z, b.fr0, b.k0⟩
theorem EnvB.less {G : Keep} (b : EnvB base w N0 H0 N O F H σ ρ) (h : ∀ p ∈ G, Dv N H p.1 p.2) : EnvB base w N0 H0 N O (G ++ F) H σ ρ :=
  ⟨⟨b.e.ok, b.e.len, b.e.slot, b.e.inj, b.e.ow, fun p hp => (List.mem_append.mp hp).elim (h p) (b.e.kept p)⟩, b.st, b.sub, b.new, b.fr0, b.k0⟩
theorem EnvB.drop {G : Keep} (b : EnvB base w N0 H0 N O (G ++ F) H σ ρ) : EnvB base w N0 H0 N O F H σ ρ :=
  ⟨⟨b.e.ok, b.e.len, b.e.slot, b.e.inj, b.e.ow, fun p hp => b.e.kept p (List.mem_append_right _ hp)⟩, b.st, b.sub, b.new, b.fr0, b.k0⟩
end
/-- what is wanted behind, by data -/
structure DnOk (Sy : Md) (X : Cx) (E : L2.St → XK) (w : Wx) (N0 : Bn) (H0 : Hp) (F : Keep) (D : Ends) (DD : EndsD) : Prop where
  nx : ∀ N O H σ ρ, DD.nx ρ → EnvB (gnd Sy X) w N0 H0 N O F H σ ρ → D.nx σ H
  rt : ∀ d v H, DD.rt d → Stp w H0 H → Dv N0 H v d → D.rt v H
  bk : ∀ N O H σ ρ, DD.bk ρ → EnvB (gnd Sy X) w N0 H0 N O F H σ ρ → D.bk σ H
  ct : ∀ N O H σ ρ, DD.ct ρ → EnvB (gnd Sy X) w N0 H0 N O F H σ ρ → D.ct σ H
  ex : ∀ N O H σ ρ x cls dx, DD.ex ρ x → EnvB (gnd Sy X) w N0 H0 N O F H σ ρ → ExAt X.mg N H cls dx x → E σ cls dx H
def LS (Sy : Md) (X : Cx) (E : L2.St → XK) (t : TSD) : TS := fun D σ H => ∃ (w : Wx) (N0 : Bn) (H0 : Hp) (N : Bn) (O : Nat → Option Addr) (F : Keep) (ρ : Env) (DD : EndsD),
  EnvB (gnd Sy X) w N0 H0 N O F H σ ρ ∧ t DD ρ ∧ DnOk Sy X E w N0 H0 F D DD
/-! combinators -/
def sSeq (t u : TSD) : TSD := fun D ρ => t { D with nx := u D } ρ
def sNx : TSD := fun D ρ => D.nx ρ
def sSet (i : Nat) (t : TD) : TSD := fun D ρ => t ρ (fun d => D.nx (putD ρ i (some (.dat d)))) (D.ex ρ)
def sRet (t : TD) : TSD := fun D ρ => t ρ D.rt (D.ex ρ)
def sRetN : TSD := fun D _ => D.rt .none
def sIf (c : TTD) (t u : TSD) : TSD := fun D ρ => c ρ (fun b => if b = true then t D ρ else u D ρ) (D.ex ρ)
def sExpr (t : TD) : TSD := fun D ρ => t ρ (fun _ => D.nx ρ) (D.ex ρ)
def sBrk : TSD := fun D ρ => D.bk ρ
def sCont : TSD := fun D ρ => D.ct ρ
def sPar (i j : Nat) (ta : TAD) : TSD := fun D ρ => ta ρ (fun us => match us with
  | [.dat a, .dat b] => D.nx (putD (putD ρ i (some (.dat a))) j (some (.dat b)))
  | _ => False) (D.ex ρ)
def sPar3 (i j l : Nat) (ta : TAD) : TSD := fun D ρ => ta ρ (fun us => match us with
  | [.dat a, .dat b, .dat c] => D.nx (putD (putD (putD ρ i (some (.dat a))) j (some (.dat b))) l (some (.dat c)))
  | _ => False) (D.ex ρ)
/-- targets -/
abbrev GD := PyData → Env → (Env → Prop) → Prop
abbrev GsD := List PyData → Env → (Env → Prop) → Prop
def gdN (i : Nat) : GD := fun d ρ K => K (putD ρ i (some (.dat d)))
def lenK : List PyData → Nat → Prop → Prop
  | [], 0, P => P
  | _ :: r, n + 1, P => lenK r n P
  | _, _, _ => False
theorem lenK_of : ∀ {ds : List PyData} {n : Nat} {P : Prop}, lenK ds n P → ds.length = n ∧ P
  | [], 0, _, h => ⟨rfl, h⟩
  | _ :: r, n + 1, P, h => by
    obtain ⟨a, b⟩ := lenK_of (ds := r) h
    exact ⟨by simp [a], b⟩
  | [], _ + 1, _, h => h.elim
  | _ :: _, 0, _, h => h.elim
def gdT (n : Nat) (gs : GsD) : GD := fun d ρ K => match d with
  | .tuple ds => lenK ds n (gs ds ρ K)
  | _ => False
def gdNil : GsD := fun ds ρ K => match ds with
  | [] => K ρ
  | _ => False
def gdCons (g : GD) (gs : GsD) : GsD := fun ds ρ K => match ds with
  | d :: r => g d ρ (fun ρ' => gs r ρ' K)
  | _ => False
def sAsg (t : TD) (g : GD) : TSD := fun D ρ => t ρ (fun d => g d ρ D.nx) (D.ex ρ)
def whileD (c : TTD) (tb : TSD) (D : EndsD) : Nat → Env → Prop
  | 0, _ => False
  | n + 1, ρ => c ρ (fun b => if b = true then tb { D with nx := whileD c tb D n, ct := whileD c tb D n, bk := D.nx } ρ else D.nx ρ) (D.ex ρ)
def sWhile (c : TTD) (tb : TSD) : TSD := fun D ρ => ∃ n, whileD c tb D n ρ
abbrev ID := Env → (List PyData → Prop) → XD → Prop
def forD (g : GD) (tb : TSD) (D : EndsD) : List PyData → Env → Prop
  | [], ρ => D.nx ρ
  | d :: r, ρ => g d ρ (fun ρ1 => tb { D with nx := forD g tb D r, ct := forD g tb D r, bk := D.nx } ρ1)
def sFor (ti : ID) (g : GD) (tb : TSD) : TSD := fun D ρ => ti ρ (fun ds => forD g tb D ds ρ) (D.ex ρ)
theorem _root_.L2.PS.weak {X : Cx} {e : Stmt} {t t' : TS} (h : PS X e t) (i : ∀ D σ H, t' D σ H → t D σ H) : PS X e t' := ⟨fun pins s σ H D I q => h.run pins s σ H D I (i D σ H q)⟩
theorem _root_.L2.PSs.weak {X : Cx} {e : List Stmt} {t t' : TS} (h : PSs X e t) (i : ∀ D σ H, t' D σ H → t D σ H) : PSs X e t' := ⟨fun pins s σ H D I q => h.run pins s σ H D I (i D σ H q)⟩
section
variable {Sy : Md} {X : Cx} {E : L2.St → XK} {st : Stmt} {sts : List Stmt} {pos : Pos} {i j l n : Nat} {t u : TSD} {te : TD} {tc : TTD} {tr : TAD}
/-- an expression within a statement -/
theorem le_in {w : Wx} {N0 : Bn} {H0 : Hp} {N : Bn} {O : Nat → Option Addr} {F : Keep} {ρ : Env} {σ : L2.St} {H : Hp} {R : RD} {Q : VK} {D : Ends} {DD : EndsD} (b : EnvB (gnd Sy X) w N0 H0 N O F H σ ρ) (k : DnOk Sy X E w N0 H0 F D DD) (h : te ρ R (DD.ex ρ))
    (q : ∀ d v H', R d → EnvB (gnd Sy X) w N0 H0 N O F H' σ ρ → Dv N H' v d → Q v H') : LE Sy X E te σ H Q :=
  ⟨w, N, O, F, ρ, R, _, b.e, h, fun d v H' r s dv => q d v H' r (b.step s) dv, fun x cls dx H' hx s hh => k.ex N O H' σ ρ x cls dx hx (b.step s) hh⟩
theorem lt_in {w : Wx} {N0 : Bn} {H0 : Hp} {N : Bn} {O : Nat → Option Addr} {F : Keep} {ρ : Env} {σ : L2.St} {H : Hp} {R : Bool → Prop} {Q : Bool → Hp → Prop} {D : Ends} {DD : EndsD} (b : EnvB (gnd Sy X) w N0 H0 N O F H σ ρ) (k : DnOk Sy X E w N0 H0 F D DD) (h : tc ρ R (DD.ex ρ))
    (q : ∀ c H', R c → EnvB (gnd Sy X) w N0 H0 N O F H' σ ρ → Q c H') : LT Sy X E tc σ H Q :=
  ⟨w, N, O, F, ρ, R, _, b.e, h, fun c H' r s => q c H' r (b.step s), fun x cls dx H' hx s hh => k.ex N O H' σ ρ x cls dx hx (b.step s) hh⟩
theorem la_in {w : Wx} {N0 : Bn} {H0 : Hp} {N : Bn} {O : Nat → Option Addr} {F : Keep} {ρ : Env} {σ : L2.St} {H : Hp} {R : List Sv → Prop} {Q : List V → Hp → Prop} {D : Ends} {DD : EndsD} (b : EnvB (gnd Sy X) w N0 H0 N O F H σ ρ) (k : DnOk Sy X E w N0 H0 F D DD) (h : tr ρ R (DD.ex ρ))
    (q : ∀ us vs H', us.length = n → R us → EnvB (gnd Sy X) w N0 H0 N O F H' σ ρ → SvsR w N H' vs us → Q vs H') : LA Sy X E n tr σ H Q :=
  ⟨w, N, O, F, ρ, R, _, b.e, h, fun us vs H' hl r s dv => q us vs H' hl r (b.step s) dv, fun x cls dx H' hx s hh => k.ex N O H' σ ρ x cls dx hx (b.step s) hh⟩
theorem ds_cons (h1 : PS X st (LS Sy X E t)) (h2 : PSs X sts (LS Sy X E u)) : PSs X (st :: sts) (LS Sy X E (sSeq t u)) := (pss_cons h1 h2).weak fun D σ H ⟨w, N0, H0, N, O, F, ρ, DD, b, h, k⟩ =>
  ⟨w, N0, H0, N, O, F, ρ, { DD with nx := u DD }, b, h, ⟨fun N O H σ ρ hn b => ⟨w, N0, H0, N, O, F, ρ, DD, b, hn, k⟩, k.rt, k.bk, k.ct, k.ex⟩⟩
theorem ds_one (h1 : PS X st (LS Sy X E t)) : PSs X [st] (LS Sy X E t) := pss_one h1
theorem ds_nil : PSs X [] (LS Sy X E sNx) := pss_nil.weak fun D σ H ⟨w, N0, H0, N, O, F, ρ, DD, b, h, k⟩ => k.nx N O H σ ρ h b
theorem ds_set (h : PS X st (tAsg (LE Sy X E te) (gName i))) : PS X st (LS Sy X E (sSet i te)) := h.weak fun D σ H ⟨w, N0, H0, N, O, F, ρ, DD, b, h, k⟩ =>
  le_in b k h fun d v H' r b' dv => k.nx _ _ H' _ _ r (b'.put i dv)
theorem ds_ret (h : PS X st (tRet (LE Sy X E te))) : PS X st (LS Sy X E (sRet te)) := h.weak fun D σ H ⟨w, N0, H0, N, O, F, ρ, DD, b, h, k⟩ =>
  le_in b k h fun d v H' r b' dv => k.rt d v H' r b'.st (dv.less (b'.k0.trans b'.e.ok.kk.symm) b'.sub)
theorem ds_retN (h : PS X st tRetN) : PS X st (LS Sy X E sRetN) := h.weak fun D σ H ⟨w, N0, H0, N, O, F, ρ, DD, b, h, k⟩ => k.rt .none .non H h b.st .non
theorem ds_if (h : PS X st (tIfS (LT Sy X E tc) (LS Sy X E t) (LS Sy X E u))) : PS X st (LS Sy X E (sIf tc t u)) := h.weak fun D σ H ⟨w, N0, H0, N, O, F, ρ, DD, b, h, k⟩ =>
  lt_in b k h fun c H' r b' => by
    cases c with
    | true => exact ⟨w, N0, H0, N, O, F, ρ, DD, b', r, k⟩
    | false => exact ⟨w, N0, H0, N, O, F, ρ, DD, b', r, k⟩
theorem ds_expr (h : PS X st (tDrop (LE Sy X E te))) : PS X st (LS Sy X E (sExpr te)) := h.weak fun D σ H ⟨w, N0, H0, N, O, F, ρ, DD, b, h, k⟩ =>
  le_in b k h fun d v H' r b' dv => k.nx N O H' σ ρ r b'
theorem ds_brk (h : PS X st tBreak) : PS X st (LS Sy X E sBrk) := h.weak fun D σ H ⟨w, N0, H0, N, O, F, ρ, DD, b, h, k⟩ => k.bk N O H σ ρ h b
theorem ds_cont (h : PS X st tCont) : PS X st (LS Sy X E sCont) := h.weak fun D σ H ⟨w, N0, H0, N, O, F, ρ, DD, b, h, k⟩ => k.ct N O H σ ρ h b
theorem ds_par (h : PS X st (tPar i j (LA Sy X E n tr))) : PS X st (LS Sy X E (sPar i j tr)) := h.weak fun D σ H ⟨w, N0, H0, N, O, F, ρ, DD, b, h, k⟩ =>
  la_in b k h fun us vs H' hl r b' hv => by
    match us, vs, r, hv with
    | [.dat a, .dat c], [v, u], r, hv =>
      exact ⟨v, u, rfl, k.nx _ _ H' _ _ r ((b'.put i hv.1).put j hv.2.1)⟩
end
/-- a target's reading by data; vs: the slots it may fill -/
structure GOk (K0 : PySem.W.Frag) (g : TG) (gd : GD) (sl : List Nat) : Prop where
  run : ∀ (base : Gnd) (w : Wx) (N : Bn) (O : Nat → Option Addr) (F : List (V × PyData)) (H : Hp) (σ : L2.St) (ρ : Env) (v : V) (d : PyData) (K : Env → Prop) (Q : L2.St → Hp → Prop), base.K = K0 → EnvR base w N O F H σ ρ → Dv N H v d → gd d ρ K →
    (∀ O' σ' ρ', K ρ' → EnvR base w N O' F H σ' ρ' → (∀ vs : List Nat, (∀ i ∈ sl, i ∈ vs) → wipe σ' vs = wipe σ vs) → (∀ i a, O' i = some a → O i = some a) → Q σ' H) → g v σ H Q
structure GsOk (K0 : PySem.W.Frag) (g : TGs) (gd : GsD) (sl : List Nat) : Prop where
  run : ∀ (base : Gnd) (w : Wx) (N : Bn) (O : Nat → Option Addr) (F : List (V × PyData)) (H : Hp) (σ : L2.St) (ρ : Env) (vs : List V) (ds : List PyData) (K : Env → Prop) (Q : L2.St → Hp → Prop), base.K = K0 → EnvR base w N O F H σ ρ → DvAll N H vs ds → gd ds ρ K →
    (∀ O' σ' ρ', K ρ' → EnvR base w N O' F H σ' ρ' → (∀ vs : List Nat, (∀ i ∈ sl, i ∈ vs) → wipe σ' vs = wipe σ vs) → (∀ i a, O' i = some a → O i = some a) → Q σ' H) → g vs σ H Q
theorem set_set {α : Type} (l : List α) (i : Nat) (x y : α) : (l.set i x).set i y = l.set i y := by
  apply List.ext_getElem?
  intro k
  by_cases h : k = i
  · subst h
    simp [List.getElem?_set]
  · simp [List.getElem?_set, Ne.symm h]
theorem set_swap {α : Type} (l : List α) (i j : Nat) (x y : α) (h : i ≠ j) : (l.set i x).set j y = (l.set j y).set i x := (List.set_comm x y h)
theorem wipe_set (σ : L2.St) (i : Nat) (x : Option V) : ∀ vs : List Nat, i ∈ vs → wipe (σ.set i x) vs = wipe σ vs
  | [], h => by cases h
  | v :: vs, h => by
    show (wipe (σ.set i x) vs).set v none = (wipe σ vs).set v none
    by_cases c : i ∈ vs
    · rw [wipe_set σ i x vs c]
    · have e : i = v := by
        rcases List.mem_cons.mp h with e | e
        · exact e
        · exact absurd e c
      subst e
      have z : ∀ vs : List Nat, i ∉ vs → wipe (σ.set i x) vs = (wipe σ vs).set i x := fun vs => by
        induction vs with
        | nil => intro _; rfl
        | cons u us ih =>
          intro n
          show (wipe (σ.set i x) us).set u none = ((wipe σ us).set u none).set i x
          rw [ih fun q => n (List.mem_cons_of_mem _ q), set_swap _ i u _ _ fun q => n (by rw [q]; exact List.mem_cons_self ..)]
      rw [z vs c, set_set]
theorem go_name {K0 : PySem.W.Frag} (i : Nat) : GOk K0 (gName i) (gdN i) [i] := ⟨fun base w N O F H σ ρ v d K Q _ b dv h q => q _ _ _ h (b.put i dv) (fun vs hv => wipe_set σ i _ vs (hv i (List.mem_singleton.mpr rfl))) fun j a hj => by
  split at hj
  · cases hj
  · exact hj⟩
theorem gos_nil {K0 : PySem.W.Frag} : GsOk K0 gNil gdNil [] := ⟨fun base w N O F H σ ρ vs ds K Q _ b dv h q => by
    cases dv with
    | nil => exact ⟨rfl, q _ _ _ h b (fun _ _ => rfl) fun _ _ z => z⟩
    | cons _ _ => exact h.elim⟩
theorem gos_cons {K0 : PySem.W.Frag} {g : TG} {gd : GD} {gs : TGs} {gds : GsD} {s1 s2 : List Nat} (a : GOk K0 g gd s1) (b : GsOk K0 gs gds s2) : GsOk K0 (gCons g gs) (gdCons gd gds) (s1 ++ s2) := ⟨fun base w N O F H σ ρ vs ds K Q hK bb dv h q => by
    cases dv with
    | nil => exact h.elim
    | cons d1 d2 => 
      refine ⟨_, _, rfl, a.run base w N O F H σ ρ _ _ _ _ hK bb d1 h fun O1 σ1 ρ1 h1 b1 w1 o1 => ?_⟩
      refine b.run base w N O1 F H σ1 ρ1 _ _ _ _ hK b1 d2 h1 fun O2 σ2 ρ2 h2 b2 w2 o2 => ?_
      exact q _ _ _ h2 b2 (fun vs hv => (w2 vs fun i hi => hv i (List.mem_append_right _ hi)).trans (w1 vs fun i hi => hv i (List.mem_append_left _ hi))) fun i a hi => o1 i a (o2 i a hi)⟩
theorem go_tup {gs : TGs} {gds : GsD} {sl : List Nat} {n : Nat} {K : PySem.W.Frag} (b : GsOk K gs gds sl) : GOk K (gTup K n gs) (gdT n gds) sl := ⟨fun base w N O F H σ ρ v d K Q hK bb dv h q => by
  cases dv with
  | tup ea all =>
    obtain ⟨l, h⟩ := lenK_of h
    exact ⟨_, _, rfl, by rw [← hK, ← bb.ok.kk]; exact ea.sq, all.length.trans l, b.run base w N O F H σ ρ _ _ _ _ hK bb all h q⟩
  | _ => exact h.elim⟩
theorem EnvB.tgt {base : Gnd} {w : Wx} {N0 N : Bn} {O O' : Nat → Option Addr} {F : Keep} {H0 H : Hp} {σ σ' : L2.St} {ρ ρ' : Env} (b : EnvB base w N0 H0 N O F H σ ρ) (e : EnvR base w N O' F H σ' ρ') (h : ∀ i a, O' i = some a → O i = some a) : EnvB base w N0 H0 N O' F H σ' ρ' :=
  ⟨e, b.st, b.sub, fun i a z => b.new i a (h i a z), b.fr0, b.k0⟩
theorem ds_asg {Sy : Md} {X : Cx} {E : L2.St → XK} {st : Stmt} {te : TD} {g : TG} {gd : GD} {sl : List Nat} (hg : GOk X.K g gd sl) (h : PS X st (tAsg (LE Sy X E te) g)) : PS X st (LS Sy X E (sAsg te gd)) := h.weak fun D σ H ⟨w, N0, H0, N, O, F, ρ, DD, b, h, k⟩ =>
  le_in b k h fun d v H' r b' dv => hg.run (gnd Sy X) w N O F H' σ ρ v d DD.nx D.nx rfl b'.e dv r fun O' σ' ρ' hn b2 _ ho => k.nx N O' H' σ' ρ' hn (b'.tgt b2 ho)
/-! ### what is walked -/
/-- J walks the items ds, while what G tells stands -/
structure Feeds (K : PySem.W.Frag) (J : It) (G : Keep) (ds : List PyData) : Prop where
  stop : ∀ N H, N.K = K → (∀ p ∈ G, Dv N H p.1 p.2) → J.stop ds.length H
  go : ∀ N H (i : Nat) d, N.K = K → (∀ p ∈ G, Dv N H p.1 p.2) → ds[i]? = some d → J.go i H ∧ ∀ x H', J.yld i H x H' → Same H H' ∧ Dv N H' x d
structure IOk (Sy : Md) (X : Cx) (E : L2.St → XK) (wi : TI) (ti : ID) : Prop where
  run : ∀ (w : Wx) (N : Bn) (O : Nat → Option Addr) (F : Keep) (ρ : Env) (σ : L2.St) (H : Hp) (R : List PyData → Prop) (Ex : XD) (Q : It → Hp → Prop), EnvR (gnd Sy X) w N O F H σ ρ → ti ρ R Ex →
    (∀ ds J G H1, R ds → Stp w H H1 → (∀ p ∈ G, Dv N H1 p.1 p.2) → Feeds X.K J G ds → Q J H1) → (∀ x cls dx H', Ex x → Stp w H H' → ExAt X.mg N H' cls dx x → E σ cls dx H') → wi σ H Q
def iSeq (t : TD) : ID := fun ρ R Ex => t ρ (fun d => match d with
  | .list ds => R ds
  | .tuple ds => R ds
  | _ => False) Ex
def iLst (t : TD) : ID := fun ρ R Ex => t ρ (fun d => match d with
  | .list ds => R ds
  | _ => False) Ex
def iTpl (t : TD) : ID := fun ρ R Ex => t ρ (fun d => match d with
  | .tuple ds => R ds
  | _ => False) Ex
def rangeD (lo : Int) (n : Nat) : List PyData := (List.range n).map fun (k : Nat) => PyData.int (lo + (k : Int))
def iRg1 (ta : TAD) : ID := fun ρ R Ex => ta ρ (fun us => match us with
  | [.dat (.int j)] => (-(2 ^ 62) ≤ j ∧ j < 2 ^ 62) ∧ R (rangeD 0 j.toNat)
  | _ => False) Ex
def iRg2 (ta : TAD) : ID := fun ρ R Ex => ta ρ (fun us => match us with
  | [.dat (.int i), .dat (.int j)] => (-(2 ^ 62) ≤ i ∧ i < 2 ^ 62 ∧ -(2 ^ 62) ≤ j ∧ j < 2 ^ 62) ∧ R (rangeD i (j - i).toNat)
  | _ => False) Ex
section
variable {Sy : Md} {X : Cx} {E : L2.St → XK} {st : Stmt} {sts : List Stmt} {pos : Pos} {t u : TD}
theorem io_list : IOk Sy X E (iList X.K (LE Sy X E t)) (iLst t) := ⟨fun w N O F ρ σ H R Ex Q en h q qx => ⟨w, N, O, F, ρ, _, Ex, en, h, fun d v H1 r k dv => by
  cases dv with
  | @lst a xs ds nn ea all =>
    refine ⟨_, rfl, ⟨_, .of ea⟩, q ds _ [(.ref a, .list ds)] H1 r k (fun p hp => by cases List.mem_singleton.mp hp; exact .lst nn ea all) ⟨fun N2 H2 hK g => ?_, fun N2 H2 i d hK g hd => ?_⟩⟩
    · cases g _ (List.mem_singleton.mpr rfl) with
      | lst _ e2 a2 => exact ⟨_, .of e2, by rw [a2.length]; exact Nat.le_refl _⟩
    · cases g _ (List.mem_singleton.mpr rfl) with
      | lst _ e2 a2 =>
        obtain ⟨x, hx, dx⟩ := a2.get hd
        exact ⟨⟨_, x, .of e2, hx⟩, fun y H' ⟨e, hy⟩ => by
          subst e
          have := hy _ (.of e2)
          rw [hx] at this
          cases this
          exact ⟨.refl _, dx⟩⟩
  | _ => exact r.elim, qx⟩⟩
theorem io_tup : IOk Sy X E (iTup X.K (LE Sy X E t)) (iTpl t) := ⟨fun w N O F ρ σ H R Ex Q en h q qx => ⟨w, N, O, F, ρ, _, Ex, en, h, fun d v H1 r k dv => by
  cases dv with
  | @tup a xs ds ea all =>
    refine ⟨_, rfl, ⟨_, en.ok.kk ▸ ea.sq⟩, q ds _ [(.ref a, .tuple ds)] H1 r k (fun p hp => by cases List.mem_singleton.mp hp; exact .tup ea all) ⟨fun N2 H2 hK g => ?_, fun N2 H2 i d hK g hd => ?_⟩⟩
    · cases g _ (List.mem_singleton.mpr rfl) with
      | tup e2 a2 => exact ⟨_, hK ▸ e2.sq, by rw [a2.length]; exact Nat.le_refl _⟩
    · cases g _ (List.mem_singleton.mpr rfl) with
      | tup e2 a2 =>
        obtain ⟨x, hx, dx⟩ := a2.get hd
        exact ⟨⟨_, x, hK ▸ e2.sq, hx⟩, fun y H' ⟨e, hy⟩ => by
          subst e
          have := hy _ (hK ▸ e2.sq)
          rw [hx] at this
          cases this
          exact ⟨.refl _, dx⟩⟩
  | _ => exact r.elim, qx⟩⟩
theorem rangeD_get {lo : Int} {n i : Nat} {d : PyData} (h : (rangeD lo n)[i]? = some d) : i < n ∧ d = .int (lo + (i : Int)) := by
  unfold rangeD at h
  rw [List.getElem?_map] at h
  by_cases c : i < n
  · rw [List.getElem?_range c] at h
    exact ⟨c, (Option.some.inj h).symm⟩
  · rw [List.getElem?_eq_none (by simp; omega)] at h
    cases h
theorem rangeD_len (lo : Int) (n : Nat) : (rangeD lo n).length = n := by simp [rangeD]
theorem feeds_range {K : PySem.W.Frag} (lo : Int) (n : Nat) : Feeds K (Itr lo n) [] (rangeD lo n) := ⟨fun N H _ _ => by rw [rangeD_len]; exact Nat.le_refl _, fun N H i d _ _ hd => by
  obtain ⟨a, rfl⟩ := rangeD_get hd
  exact ⟨a, fun x H' ⟨e1, e2⟩ => by subst e1; subst e2; exact ⟨.refl _, .int _⟩⟩⟩
theorem io_rg1 {n : Nat} {tr : TAD} : IOk Sy X E (iRng1 (LA Sy X E n tr)) (iRg1 tr) := ⟨fun w N O F ρ σ H R Ex Q en h q qx => ⟨w, N, O, F, ρ, _, Ex, en, h, fun us vs H1 hl r k hv => by
  split at r
  · rename_i j
    match vs, hv with
    | [v], hv =>
      cases hv.1
      exact ⟨j, rfl, r.1.1, r.1.2, q _ _ [] H1 r.2 k (fun p hp => by cases hp) (feeds_range 0 _)⟩
  · exact r.elim, qx⟩⟩
theorem io_rg2 {n : Nat} {tr : TAD} : IOk Sy X E (iRng2 (LA Sy X E n tr)) (iRg2 tr) := ⟨fun w N O F ρ σ H R Ex Q en h q qx => ⟨w, N, O, F, ρ, _, Ex, en, h, fun us vs H1 hl r k hv => by
  split at r
  · rename_i i j
    match vs, hv with
    | [v, u], hv =>
      cases hv.1
      cases hv.2.1
      exact ⟨i, j, rfl, r.1, q _ _ [] H1 r.2 k (fun p hp => by cases hp) (feeds_range i _)⟩
  · exact r.elim, qx⟩⟩
/-! ### loops -/
theorem drop_get {α : Type} {l r : List α} {d : α} {i : Nat} (h : l.drop i = d :: r) : l[i]? = some d ∧ l.drop (i + 1) = r := by
  have e : (l.drop i)[0]? = some d := by rw [h] <;> rfl
  rw [List.getElem?_drop] at e
  refine ⟨by simpa using e, ?_⟩
  have : (l.drop i).drop 1 = r := by rw [h] <;> rfl
  rw [List.drop_drop] at this
  exact this
theorem drop_end {α : Type} {l : List α} {i : Nat} (hi : i ≤ l.length) (h : l.drop i = []) : i = l.length := by
  have := congrArg List.length h
  simp at this
  omega
theorem ds_while {tc : TTD} {tb : TSD} (h : PS X st (tWhile (LT Sy X E tc) (LS Sy X E tb))) : PS X st (LS Sy X E (sWhile tc tb)) := h.weak fun D σ H ⟨w, N0, H0, N, O, F, ρ, DD, b, ⟨n, h⟩, k⟩ => by
  refine ⟨fun m σ H => ∃ N O ρ, EnvB (gnd Sy X) w N0 H0 N O F H σ ρ ∧ whileD tc tb DD m ρ, ⟨n, N, O, ρ, b, h⟩, ?_⟩
  rintro m σ H ⟨N, O, ρ, b, h⟩
  cases m with
  | zero => exact h.elim
  | succ m =>
    refine lt_in b k (R := fun c => if c = true then tb { DD with nx := whileD tc tb DD m, ct := whileD tc tb DD m, bk := DD.nx } ρ else DD.nx ρ) h fun c H' r b' => ?_
    cases c with
    | false => exact k.nx N O H' σ ρ r b'
    | true =>
      have up : ∀ N O H σ ρ, whileD tc tb DD m ρ → EnvB (gnd Sy X) w N0 H0 N O F H σ ρ → ∃ m', m' < m + 1 ∧ ∃ N O ρ, EnvB (gnd Sy X) w N0 H0 N O F H σ ρ ∧ whileD tc tb DD m' ρ := fun N O H σ ρ hw b => ⟨m, Nat.lt_succ_self _, N, O, ρ, b, hw⟩
      refine ⟨fun σ' H' => ∃ m', m' < m + 1 ∧ ∃ N O ρ, EnvB (gnd Sy X) w N0 H0 N O F H' σ' ρ ∧ whileD tc tb DD m' ρ, fun σ' H' z => z, ?_⟩
      exact ⟨w, N0, H0, N, O, F, ρ, _, b', r, ⟨up, k.rt, k.nx, up, k.ex⟩⟩
theorem ds_for {wi : TI} {ti : ID} {g : TG} {gd : GD} {tb : TSD} {sl : List Nat} (hi : IOk Sy X E wi ti) (hg : GOk X.K g gd sl) (h : PS X st (tFor wi g (LS Sy X E tb))) : PS X st (LS Sy X E (sFor ti gd tb)) := h.weak fun D σ H ⟨w, N0, H0, N, O, F, ρ, DD, b, h, k⟩ => by
  refine hi.run w N O F ρ σ H _ (DD.ex ρ) _ b.e h (fun ds J G H1 r s hG fd => ?_) fun x cls dx H' hx s hh => k.ex N O H' σ ρ x cls dx hx (b.step s) hh
  have b1 := (b.step s).less hG
  refine ⟨fun i m σ H => i + m = ds.length ∧ ∃ N O ρ, EnvB (gnd Sy X) w N0 H0 N O (G ++ F) H σ ρ ∧ forD gd tb DD (ds.drop i) ρ, ⟨ds.length, by omega, N, O, ρ, b1, by rw [List.drop_zero]; exact r⟩, ?_⟩
  rintro i m σ H ⟨im, N, O, ρ, b, h⟩
  have live : ∀ p ∈ G, Dv N H p.1 p.2 := fun p hp => b.e.kept p (List.mem_append_left _ hp)
  cases e : ds.drop i with
  | nil =>
    rw [e] at h
    have ei := drop_end (by omega) e
    subst ei
    exact .inl ⟨fd.stop N H b.e.ok.kk live, k.nx N O H σ ρ h b.drop⟩
  | cons d rest =>
    rw [e] at h
    obtain ⟨e1, e2⟩ := drop_get e
    have il := (List.getElem?_eq_some_iff.mp e1).1
    obtain ⟨g1, g2⟩ := fd.go N H i d b.e.ok.kk live e1
    have up : ∀ N O H σ ρ, forD gd tb DD rest ρ → EnvB (gnd Sy X) w N0 H0 N O (G ++ F) H σ ρ → ∃ m', m' < m ∧ i + 1 + m' = ds.length ∧ ∃ N O ρ, EnvB (gnd Sy X) w N0 H0 N O (G ++ F) H σ ρ ∧ forD gd tb DD (ds.drop (i + 1)) ρ := fun N O H σ ρ hw b => ⟨m - 1, by omega, by omega, N, O, ρ, b, by rw [e2]; exact hw⟩
    refine .inr ⟨g1, fun σ' H' => ∃ m', m' < m ∧ i + 1 + m' = ds.length ∧ ∃ N O ρ, EnvB (gnd Sy X) w N0 H0 N O (G ++ F) H' σ' ρ ∧ forD gd tb DD (ds.drop (i + 1)) ρ, fun σ' H' z => z, fun x H' hy => ?_⟩
    obtain ⟨s2, dx⟩ := g2 x H' hy
    refine hg.run (gnd Sy X) w N O (G ++ F) H' σ ρ x d _ _ rfl (b.step (.of s2)).e dx h fun O' σ' ρ' hb b2 _ ho => ?_
    have b' := (b.step (.of s2)).tgt b2 ho
    refine ⟨w, N0, H0, N, O', G ++ F, ρ', _, b', hb, ⟨up, k.rt, fun N O H σ ρ hn b => k.nx N O H σ ρ hn b.drop, up, fun N O H σ ρ x cls dx hx b hh => k.ex N O H σ ρ x cls dx hx b.drop hh⟩⟩
/-! ### the link of defs -/
def startD : List Sv → List Str → Env
  | _, [] => []
  | [], _ :: ns => none :: startD [] ns
  | u :: us, _ :: ns => some u :: startD us ns
theorem startD_eq : ∀ (us : List Sv) (N : List Str), us.length ≤ N.length → startD us N = us.map some ++ List.replicate (N.length - us.length) none
  | [], [], _ => rfl
  | _ :: _, [], h => by simp at h
  | [], _ :: ns, _ => by
    have := startD_eq [] ns (Nat.zero_le _)
    simp [startD, List.replicate_succ] at this ⊢
    exact this
  | u :: us, _ :: ns, h => by
    have := startD_eq us ns (by simpa using h)
    simp [startD] at this ⊢
    exact this
theorem slot_none : ∀ (n i : Nat), slotD (List.replicate n none) i = none
  | 0, i => by cases i <;> rfl
  | n + 1, 0 => rfl
  | n + 1, i + 1 => slot_none n i
theorem start_slot {w : Wx} {N : Bn} {H : Hp} {n : Nat} : ∀ {vs : List V} {us : List Sv}, SvsR w N H vs us → ∀ (i : Nat) (y : Sv) (k : Nat), slotD (us.map some ++ List.replicate k none) i = some y → ∃ v, (vs.map some ++ List.replicate n (none : Option V))[i]? = some (some v) ∧ SvR w N (fun _ => none) H i v y
  | [], [], _, i, y, k, h => by
    rw [show (([] : List Sv).map some ++ List.replicate k none) = List.replicate k (none : Option Sv) from rfl, slot_none] at h
    cases h
  | v :: vs, u :: us, hh, 0, y, k, h => by
    cases (show some u = some y from h)
    refine ⟨v, rfl, ?_⟩
    cases u with
    | dat d => exact hh.1
    | own ds => exact hh.1.elim
    | well => exact hh.1
    | fn _ => exact hh.1
  | v :: vs, u :: us, hh, i + 1, y, k, h => by
    obtain ⟨z, a, b⟩ := start_slot (n := n) hh.2 i y k h
    refine ⟨z, by simpa using a, ?_⟩
    cases y with
    | dat d => exact b
    | own ds =>
      obtain ⟨_, _, _, o, _⟩ := b
      cases o
    | well => exact b
    | fn _ => exact b
  | [], _ :: _, h, _, _, _, _ => h.elim
  | _ :: _, [], h, _, _, _, _ => h.elim
end
section
variable {P : Program} {w : World} {K : PySem.W.Frag} {mg : Str → Option Value} {base : Heap}
/-- the reading of a def's body -/
def tfOf (N : List Str) (t : TSD) : TF := fun us R Ex => t { nx := fun _ => R .none, rt := R, ex := fun _ => Ex } (startD us N)
theorem Dn.data {Sy : Md} {x : Str} {st : Stmt} {N ps : List Str} {k : Nat} {t : TSD} (D : Dn K mg x st ps) (S : FnScope N ps (defScope st))
    (hbody : ∀ (f : Addr) (cdv : Value) (A : Around) (outer : List PySem.Env) (s : Shared) (H : Hp) (E : XK), Room k (A.deeper (envOfC x (defScope st) s.heap.objs.size f cdv)) → A.guards = some [] →
      PSs (cxOf (L2.CX P w) P w K mg base N x (defScope st) f cdv A outer s H E) (defBody st) (LS Sy (cxOf (L2.CX P w) P w K mg base N x (defScope st) f cdv A outer s H E) (fun _ => E) t)) :
    Cl (L2.CX P w) P w K mg base (k + 1) x (spF ⟨base, K, Sy⟩ mg ps.length (tfOf N t)) := by
  refine D.call S (fun vs H Q E h => h.len) (fun f cdv A outer s H vs Q E hr hg h => ⟨_, hbody f cdv A outer s H E hr hg, ?_⟩)
  obtain ⟨wl, Nb, us, R, Ex, hl, hv, ok, ht, q, qx⟩ := h
  refine ⟨wl, Nb, H, Nb, fun _ => none, [], _, _, ⟨⟨ok, ?_, ?_, fun i j a z _ => (nomatch z), fun i a z => (nomatch z), fun p hp => (nomatch hp)⟩, .refl _ _, fun _ z => z, fun _ _ z => (nomatch z), ok.fr, ok.kk⟩, ht, ⟨fun N O H1 σ ρ r b => q .none .non H1 r b.st .non, fun d v H1 r s dv => q d v H1 r s dv, fun _ _ _ _ _ z => z.elim, fun _ _ _ _ _ z => z.elim, ?_⟩⟩
  · have := hv.length
    have le : us.length ≤ N.length := by
      have := congrArg List.length S.pre
      rw [List.length_take] at this
      omega
    rw [startD_eq us N le]
    simp [L2.start, this]
  · have le : us.length ≤ N.length := by
      have := congrArg List.length S.pre
      rw [List.length_take] at this
      omega
    rw [startD_eq us N le]
    exact fun i y h => start_slot hv i y _ h
  · intro N O H1 σ ρ x cls dx hx b hh
    refine qx x cls dx H1 hx b.st ?_
    obtain ⟨C, h1, h2, h3⟩ := hh
    refine ⟨C, h1, h2, ?_⟩
    split
    · rename_i e
      rw [e] at h3
      exact h3
    · rename_i f d e
      rw [e] at h3
      obtain ⟨a, v, e1, e2, e3⟩ := h3
      exact ⟨a, v, e1, e2, e3.less (b.k0.trans b.e.ok.kk.symm) b.sub⟩
    · rename_i e1 e2
      split at h3
      · rename_i e
        exact absurd e e1
      · rename_i f d e
        exact absurd e (e2 f d)
      · exact h3
end
end Ld

namespace Ld
open PySem PySem.Spec PyProof.Rows L2 Lw
/-! ### a new list that grows -/
def Bn.add (N : Bn) (l : Addr) : Bn := ⟨N.K, fun b => N b ∨ b = l⟩
section
variable {base : Gnd} {w : Wx} {N : Bn} {O : Nat → Option Addr} {F : Keep} {H : Hp} {σ : L2.St} {ρ : Env} {l : Addr}
theorem dv_ban {v : V} {d : PyData} {o : HO} (h : Dv N H v d) (hl : H l = none) : Dv (Bn.add N l) (upd H l o) v d :=
  Dv.map (N := N) (N' := Bn.add N l) (H := H) (H' := upd H l o) rfl (fun b u n q => ⟨by rw [upd_ne (ne_of_none q hl)]; exact q, fun z => z.elim n (ne_of_none q hl)⟩) (fun b xs q => by rw [upd_ne (ne_of_none q hl)]; exact q) _ _ h
theorem dvs_ban {v : List V} {d : List PyData} {o : HO} (h : DvAll N H v d) (hl : H l = none) : DvAll (Bn.add N l) (upd H l o) v d :=
  DvAll.map (N := N) (N' := Bn.add N l) (H := H) (H' := upd H l o) rfl (fun b u n q => ⟨by rw [upd_ne (ne_of_none q hl)]; exact q, fun z => z.elim n (ne_of_none q hl)⟩) (fun b xs q => by rw [upd_ne (ne_of_none q hl)]; exact q) _ _ h
theorem dv_poke {v : V} {d : PyData} {o : HO} {ys : List V} (h : Dv N H v d) (hn : N l) (hl : H l = some (.lst ys)) : Dv N (upd H l o) v d :=
  h.map (N' := N) (H' := upd H l o) rfl (fun b u n q => ⟨by rw [upd_ne (fun z => n (by rw [z]; exact hn))]; exact q, n⟩) (fun b xs q => by rw [upd_ne (ne_of q hl (by intro z; cases z))]; exact q) _ _
theorem dvs_poke {v : List V} {d : List PyData} {o : HO} {ys : List V} (h : DvAll N H v d) (hn : N l) (hl : H l = some (.lst ys)) : DvAll N (upd H l o) v d :=
  h.map (N' := N) (H' := upd H l o) rfl (fun b u n q => ⟨by rw [upd_ne (fun z => n (by rw [z]; exact hn))]; exact q, n⟩) (fun b xs q => by rw [upd_ne (ne_of q hl (by intro z; cases z))]; exact q) _ _
theorem _root_.Lw.WellAt.upd {p : Addr} {o : HO} (h : WellAt H p) (hp : p ≠ l) : WellAt (upd H l o) p := by
  obtain ⟨a, m, c, e, z⟩ := h
  exact ⟨a, m, c, by rw [upd_ne hp]; exact e, z⟩
theorem WlOk.ban {o : HO} (h : WlOk base w N H) (hl : H l = none) (ho : ∀ ps, o ≠ HO.tbl ps) : WlOk base w (Bn.add N l) (upd H l o) := by
  refine ⟨fun p e => ?_, fun p hp np => ?_, fun z => .inl (h.sn z), fun z p hp q => ?_, h.kk, fun p hp => .inl (h.tn p hp), tabs_more h.tb (fun b o n q => by rw [upd_ne n]; exact q) (.inl hl), h.tt, fun p ps hp c hs => ?_⟩
  · obtain ⟨h1, h2, h3⟩ := h.wl p e
    exact ⟨.inl h1, h2, h3.upd (h3.ne hl).symm⟩
  · have nl : p ≠ l := fun z => by
      rw [z, upd_same] at hp
      cases hp
    rw [upd_ne nl] at hp
    exact fun z => z.elim (h.fr p hp np) nl
  · have nl : p ≠ l := fun z => by
      rw [z, upd_same] at hp
      cases hp
    rw [upd_ne nl] at hp
    exact q.elim (h.sl z p hp) nl
  · have nl : p ≠ l := fun z => by
      rw [z, upd_same] at hp
      exact ho ps (Option.some.inj hp)
    rw [upd_ne nl] at hp
    exact fun z => z.elim (h.to p ps hp c hs) nl
theorem WlOk.poke {o : HO} {ys : List V} (h : WlOk base w N H) (hw : ¬ w.has l) (hl : H l = some (.lst ys)) (ho : ∀ ps, o ≠ HO.tbl ps) : WlOk base w N (upd H l o) := by
  refine ⟨fun p e => ?_, fun p hp np => ?_, h.sn, fun z p hp => ?_, h.kk, h.tn, tabs_more h.tb (fun b o n q => by rw [upd_ne n]; exact q) (.inr ⟨_, hl⟩), h.tt, fun p ps hp c hs => ?_⟩
  · obtain ⟨h1, h2, h3⟩ := h.wl p e
    exact ⟨h1, h2, h3.upd fun z => hw (.inl (by rw [e, z]))⟩
  · have nl : p ≠ l := fun z => by
      rw [z, upd_same] at hp
      cases hp
    rw [upd_ne nl] at hp
    exact h.fr p hp np
  · have nl : p ≠ l := fun z => by
      rw [z, upd_same] at hp
      cases hp
    rw [upd_ne nl] at hp
    exact h.sl z p hp
  · have nl : p ≠ l := fun z => by
      rw [z, upd_same] at hp
      exact ho ps (Option.some.inj hp)
    rw [upd_ne nl] at hp
    exact h.to p ps hp c hs
theorem EnvR.ban {xs : List V} (e : EnvR base w N O F H σ ρ) (hl : H l = none) : EnvR base w (Bn.add N l) O F (upd H l (.lst xs)) σ ρ := by
  refine ⟨e.ok.ban hl lst_ne, e.len, fun i y h => ?_, e.inj, fun i a h => ?_, fun p hp => dv_ban (e.kept p hp) hl⟩
  · obtain ⟨v, h1, h2⟩ := e.slot i y h
    refine ⟨v, h1, ?_⟩
    cases y with
    | dat d => exact dv_ban h2 hl
    | own ds =>
      obtain ⟨a, xs, r, oo, ha, hd⟩ := h2
      exact ⟨a, xs, r, oo, by rw [upd_ne (ne_of_none ha hl)]; exact ha, dvs_ban hd hl⟩
    | well => exact h2
    | fn _ => exact h2
  · obtain ⟨h1, h2, u, h3⟩ := e.ow i a h
    exact ⟨.inl h1, h2, u, by rw [upd_ne (ne_of_none h3 hl)]; exact h3⟩
theorem EnvR.poke {xs ys : List V} (e : EnvR base w N O F H σ ρ) (hn : N l) (hw : ¬ w.has l) (ho : ∀ i, O i ≠ some l) (hl : H l = some (.lst ys)) : EnvR base w N O F (upd H l (.lst xs)) σ ρ := by
  refine ⟨e.ok.poke hw hl lst_ne, e.len, fun i y h => ?_, e.inj, fun i a h => ?_, fun p hp => dv_poke (e.kept p hp) hn hl⟩
  · obtain ⟨v, h1, h2⟩ := e.slot i y h
    refine ⟨v, h1, ?_⟩
    cases y with
    | dat d => exact dv_poke h2 hn hl
    | own ds =>
      obtain ⟨a, xs, r, oo, ha, hd⟩ := h2
      exact ⟨a, xs, r, oo, by rw [upd_ne (fun z => ho i (by rw [← z]; exact oo))]; exact ha, dvs_poke hd hn hl⟩
    | well => exact h2
    | fn _ => exact h2
  · obtain ⟨h1, h2, u, h3⟩ := e.ow i a h
    exact ⟨h1, h2, u, by rw [upd_ne (fun z => ho i (by rw [← z]; exact h))]; exact h3⟩
def wipeD (ρ : Env) : List Nat → Env
  | [] => ρ
  | v :: vs => putD (wipeD ρ vs) v none
theorem put_none : ∀ (ρ : Env) (v i : Nat) (y : Sv), slotD (putD ρ v none) i = some y → slotD ρ i = some y ∧ i ≠ v
  | [], v, i, y, h => by
    cases i <;> cases h
  | x :: r, 0, 0, y, h => by cases h
  | x :: r, 0, i + 1, y, h => ⟨h, by omega⟩
  | x :: r, v + 1, 0, y, h => ⟨h, by omega⟩
  | x :: r, v + 1, i + 1, y, h => by
    obtain ⟨a, b⟩ := put_none r v i y h
    exact ⟨a, by omega⟩
theorem EnvR.wipe (e : EnvR base w N O F H σ ρ) : ∀ vs : List Nat, EnvR base w N O F H (wipe σ vs) (wipeD ρ vs)
  | [] => e
  | v :: vs => by
    have b := e.wipe vs
    refine ⟨b.ok, by show ((L2.wipe σ vs).set v none).length = (putD (wipeD ρ vs) v none).length; rw [List.length_set, putD_len]; exact b.len, fun i y h => ?_, b.inj, b.ow, b.kept⟩
    obtain ⟨h1, h2⟩ := put_none _ v i y h
    obtain ⟨u, h3, h4⟩ := b.slot i y h1
    exact ⟨u, by show ((L2.wipe σ vs).set v none)[i]? = _; rw [List.getElem?_set_ne (fun z => h2 z.symm)]; exact h3, h4⟩
end
/-! ### comprehensions -/
def NoX : XD := fun _ => False
def dYes : TTD := fun _ R _ => R true
def lcD (gd : GD) (tt : TTD) (te : TD) (ρ : Env) : List PyData → (List PyData → Prop) → Prop
  | [], K => K []
  | d :: r, K => gd d ρ (fun ρ' => tt ρ' (fun b => if b = true then te ρ' (fun y => lcD gd tt te ρ r (fun ys => K (y :: ys))) NoX else lcD gd tt te ρ r K) NoX)
def dLc (ti : ID) (sl : List Nat) (gd : GD) (tt : TTD) (te : TD) : TD := fun ρ R Ex => ti ρ (fun ds => ds.length ≤ 1000 ∧ lcD gd tt te (wipeD ρ sl) ds (fun ys => R (.list ys))) Ex
/-- no exception leaves -/
abbrev EX0 : L2.St → XK := fun _ _ _ _ => False
theorem wipe_wipe (σ : L2.St) : ∀ vs us : List Nat, (∀ i ∈ us, i ∈ vs) → wipe (wipe σ us) vs = wipe σ vs
  | vs, [], _ => rfl
  | vs, u :: us, h => by
    show wipe ((wipe σ us).set u none) vs = wipe σ vs
    rw [wipe_set _ u none vs (h u (List.mem_cons_self ..)), wipe_wipe σ vs us fun i hi => h i (List.mem_cons_of_mem _ hi)]
theorem stp_new {w : Wx} {H1 H : Hp} {D : Addr} {o : HO} (k : Stp w H1 H) (hD : ∀ u, H1 D = some u → w.T ≠ [] ∧ ∃ ps, u = HO.tbl ps) (hw : ¬ w.has D) (hl : ∃ ys, H D = some (.lst ys)) : Stp w H1 (upd H D o) := by
  have ne : ∀ {b u}, H1 b = some u → (∀ ps, u ≠ HO.tbl ps) → b ≠ D := fun {b u} q m z => by
    rw [z] at q
    obtain ⟨_, ps, e⟩ := hD u q
    exact m ps e
  exact ⟨fun b u n m q => by rw [upd_ne (ne q m)]; exact k.kp b u n m q, fun b xs q => by rw [upd_ne (ne q (fun ps z => by cases z))]; exact k.tp b xs q, fun p hp q => (k.wl p hp q).upd fun z => hw (.inl (by rw [hp, z])), fun q => tabs_more (k.tb q) (fun b o n e => by rw [upd_ne n]; exact e) (.inr hl), fun ht b u n q => by
    have nb : b ≠ D := fun z => by
      rw [z] at q
      exact (hD u q).1 ht
    rw [upd_ne nb]
    exact k.k0 ht b u n q⟩
section
variable {Sy : Md} {X Y : Cx} {E : L2.St → XK} {e : Expr} {st : Stmt} {wi : TI} {ti : ID} {g : TG} {gd : GD} {tt : TTD} {te : TD} {sl vs : List Nat}
theorem lc_in {w : Wx} {N : Bn} {O : Nat → Option Addr} {F : Keep} {ρ : Env} {σ : L2.St} {H : Hp} {R : RD} {Ex : XD} {Q : VK} (hy : Sy.y = false) (hb : gnd Sy Y = gnd Sy X) (hi : IOk Sy X E wi ti) (hg : GOk X.K g gd sl) (hs : ∀ i ∈ sl, i ∈ vs) (en : EnvR (gnd Sy X) w N O F H σ ρ) (h : dLc ti vs gd tt te ρ R Ex)
    (q : ∀ d v H', R d → Stp w H H' → Dv N H' v d → Q v H') (qx : ∀ x cls dx H', Ex x → Stp w H H' → ExAt X.mg N H' cls dx x → E σ cls dx H') : tLc wi g (LT Sy Y EX0 tt) (LE Sy Y EX0 te) vs σ H Q := by
  refine hi.run w N O F ρ σ H _ Ex _ en h (fun ds J G H1 r s hG fd => ?_) qx
  intro D hD
  obtain ⟨hlen, r⟩ := r
  have en1 := en.step s
  have enG : EnvR (gnd Sy X) w N O (G ++ F) H1 σ ρ := ⟨en1.ok, en1.len, en1.slot, en1.inj, en1.ow, fun p hp => (List.mem_append.mp hp).elim (hG p) (en1.kept p)⟩
  have hw : ¬ w.has D := en1.ok.new hD
  have ho : ∀ i, O i ≠ some D := fun i z => by
    obtain ⟨_, _, u, z2⟩ := en1.ow i D z
    rw [hD] at z2
    cases z2
  -- the invariant
  refine ⟨fun i m H => i + m = ds.length ∧ ∃ acc accD, Stp w H1 H ∧ EnvR (gnd Sy X) w (Bn.add N D) O (G ++ F) H σ ρ ∧ H D = some (.lst acc) ∧ DvAll (Bn.add N D) H acc accD ∧ accD.length ≤ i ∧ lcD gd tt te (wipeD ρ vs) (ds.drop i) (fun ys => R (.list (accD ++ ys))), ⟨ds.length, by omega, [], [], .of (same_new hD _), enG.ban hD, upd_same, .nil, Nat.le_refl 0, by rw [List.drop_zero]; exact r⟩, ?_⟩
  rintro i m H ⟨im, acc, accD, st1, en2, eD, all, al, h⟩
  have live : ∀ p ∈ G, Dv (Bn.add N D) H p.1 p.2 := fun p hp => en2.kept p (List.mem_append_left _ hp)
  cases e : ds.drop i with
  | nil =>
    rw [e] at h
    have ei := drop_end (by omega) e
    subst ei
    refine .inl ⟨fd.stop (Bn.add N D) H en1.ok.kk live, ?_⟩
    have h' : R (.list accD) := by
      have : R (.list (accD ++ [])) := h
      rwa [List.append_nil] at this
    exact q _ _ H h' (s.trans st1) (.lst (en1.ok.sl hy D hD) eD (DvAll.map (N := Bn.add N D) (N' := N) rfl (fun b u n q => ⟨q, fun z => n (.inl z)⟩) (fun _ _ q => q) _ _ all))
  | cons d rest =>
    rw [e] at h
    obtain ⟨e1, e2⟩ := drop_get e
    have il := (List.getElem?_eq_some_iff.mp e1).1
    obtain ⟨g1, g2⟩ := fd.go (Bn.add N D) H i d en1.ok.kk live e1
    refine .inr ⟨g1, _, fun H' z => z, fun x H' hy => ?_⟩
    obtain ⟨s2, dx⟩ := g2 x H' hy
    have s2' : Stp w H H' := .of s2
    have en3 := en2.step s2'
    refine hg.run (gnd Sy X) w (Bn.add N D) O (G ++ F) H' (wipe σ vs) (wipeD ρ vs) x d _ _ rfl (en3.wipe vs) dx h fun O' σ' ρ' hb2 b3 wp _ => ?_
    refine ⟨(wp vs hs).trans (wipe_wipe σ vs vs fun _ z => z), ?_⟩
    refine ⟨w, _, O', G ++ F, ρ', _, _, hb ▸ b3, hb2, fun b H2 hb4 k2 => ?_, fun _ _ _ _ z => z.elim⟩
    have eD2 : H2 D = some (.lst acc) := k2.kp _ _ hw lst_ne (s2'.kp _ _ hw lst_ne eD)
    have all2 : DvAll (Bn.add N D) H2 acc accD := dvs_step (dvs_step all en2.hw s2') en2.hw k2
    have en4 := en3.step k2
    have st2 := (st1.trans s2').trans k2
    cases b with
    | false =>
      exact ⟨m - 1, by omega, by omega, acc, accD, st2, en4, eD2, all2, by omega, by rw [e2]; exact hb4⟩
    | true =>
      refine ⟨w, _, O', G ++ F, ρ', _, _, hb ▸ (b3.step k2), hb4, fun y u H3 hb5 k3 dy => ?_, fun _ _ _ _ z => z.elim⟩
      have eD3 := k3.kp _ _ hw lst_ne eD2
      refine ⟨acc, eD3, by rw [all.length, sizeLine_eq]; omega, m - 1, by omega, by omega, acc ++ [u], accD ++ [y], stp_new (st2.trans k3) (fun u q => by rw [hD] at q; cases q) hw ⟨_, eD3⟩, (en4.step k3).poke (.inr rfl) hw ho eD3, upd_same, ?_, by simp; omega, ?_⟩
      · exact (dvs_poke (dvs_step all2 en2.hw k3) (.inr rfl) eD3).app (.cons (dv_poke dy (.inr rfl) eD3) .nil)
      · rw [e2]
        have : (fun ys => R (.list (accD ++ y :: ys))) = fun ys => R (.list (accD ++ [y] ++ ys)) := by
          funext ys
          simp
        rw [← this]
        exact hb5
theorem d_lc (hi : IOk ⟨false, Tz⟩ X E wi ti) (hg : GOk X.K g gd sl) (h : PE X e (tLc wi g (LT ⟨false, Tz⟩ X EX0 tt) (LE ⟨false, Tz⟩ X EX0 te) vs)) (hs : ∀ i ∈ sl, i ∈ vs := by decide) : PE X e (LE ⟨false, Tz⟩ X E (dLc ti vs gd tt te)) := h.weak fun σ H Q ⟨w, N, O, F, ρ, R, Ex, en, t, q, qx⟩ =>
  lc_in (Y := X) rfl rfl hi hg hs en t (q) qx
theorem ds_setLc {i : Nat} (hi : IOk ⟨false, Tz⟩ X E wi ti) (hg : GOk X.K g gd sl) (h : PS X st (tAsg (tLc wi g (LT ⟨false, Tz⟩ X EX0 tt) (LE ⟨false, Tz⟩ X EX0 te) vs) (gName i))) (hs : ∀ i ∈ sl, i ∈ vs := by decide) : PS X st (LS ⟨false, Tz⟩ X E (sSet i (dLc ti vs gd tt te))) := h.weak fun D σ H ⟨w, N0, H0, N, O, F, ρ, DD, b, h, k⟩ =>
  lc_in (Y := X) rfl rfl hi hg hs b.e h (fun d v H' r s dv => k.nx _ _ H' _ _ r ((b.step s).put i dv)) fun x cls dx H' hx s hh => k.ex N O H' σ ρ x cls dx hx (b.step s) hh
theorem _root_.L2.PTs.weak {X : Cx} {e : List Expr} {t t' : TT} (h : PTs X e t) (i : ∀ σ H Q, t' σ H Q → t σ H Q) : PTs X e t' := ⟨fun pins s σ H Q I q => h.run pins s σ H Q I (i σ H Q q)⟩
theorem dts_nil : PTs X [] (LT Sy X E dYes) := pts_nil.weak fun σ H Q ⟨w, N, O, F, ρ, R, Ex, en, t, q, qx⟩ => q true H t (.refl _ _)
end
end Ld

namespace Ld
open PySem PySem.Spec PyProof.Rows L2 Lw
/-! ### operations by data -/
theorem OpD.or {Sy : Md} {X : Cx} {r r' : R2} {f g : PyData → PyData → RD → Prop} (a : OpD Sy X r f) (b : OpD Sy X r' g) : OpD Sy X (fun x y H Q => r x y H Q ∨ r' x y H Q) (fun x y R => f x y R ∨ g x y R) := fun N H v u x y R Q h dx dy fr sn hK sl q =>
  h.elim (fun h => .inl (a N H v u x y R Q h dx dy fr sn hK sl q)) (fun h => .inr (b N H v u x y R Q h dx dy fr sn hK sl q))
theorem OpD.imp {Sy : Md} {X : Cx} {r : R2} {f g : PyData → PyData → RD → Prop} (a : OpD Sy X r f) (h : ∀ x y R, g x y R → f x y R) : OpD Sy X r g := fun N H v u x y R Q z dx dy fr sn hK sl q => a N H v u x y R Q (h x y R z) dx dy fr sn hK sl q
theorem OpD.fst {Sy : Md} {X : Cx} {r r' : R2} {f : PyData → PyData → RD → Prop} (a : OpD Sy X r f) : OpD Sy X (fun x y H Q => r x y H Q ∨ r' x y H Q) f := fun N H v u x y R Q h dx dy fr sn hK sl q => .inl (a N H v u x y R Q h dx dy fr sn hK sl q)
theorem OpD.snd {Sy : Md} {X : Cx} {r r' : R2} {f : PyData → PyData → RD → Prop} (a : OpD Sy X r' f) : OpD Sy X (fun x y H Q => r x y H Q ∨ r' x y H Q) f := fun N H v u x y R Q h dx dy fr sn hK sl q => .inr (a N H v u x y R Q h dx dy fr sn hK sl q)
section
variable {Sy : Md} {X : Cx}
def fInt (g : Int → Int → Int) (C : Int → Int → Prop) : PyData → PyData → RD → Prop := fun x y R => match x, y with
  | .int i, .int j => C i j ∧ R (.int (g i j))
  | _, _ => False
def fInt0 (g : Int → Int → Int) : PyData → PyData → RD → Prop := fun x y R => match x, y with
  | .int i, .int j => R (.int (g i j))
  | _, _ => False
theorem od_int {C : Int → Int → Prop} {g : Int → Int → Int} : OpD Sy X (rI C fun i j => .int (g i j)) (fInt g C) := fun N H v u x y R Q h dx dy fr sn hK sl q => by
  unfold fInt at h
  split at h
  · cases dx
    cases dy
    exact ⟨_, _, rfl, rfl, h.1, q _ _ H h.2 (.refl _) (.int _)⟩
  · exact h.elim
theorem od_int0 {g : Int → Int → Int} : OpD Sy X (rI0 fun i j => .int (g i j)) (fInt0 g) := fun N H v u x y R Q h dx dy fr sn hK sl q => by
  unfold fInt0 at h
  split at h
  · cases dx
    cases dy
    exact ⟨_, _, rfl, rfl, q _ _ H h (.refl _) (.int _)⟩
  · exact h.elim
abbrev fAdd := fInt0 fun i j => i + j
abbrev fSub := fInt0 fun i j => i - j
abbrev fMul := fInt (fun i j => i * j) CMulX
abbrev fFdv := fInt (fun i j => i.fdiv j) fun _ j => j ≠ 0 ∧ j.natAbs < 2 ^ 9000
abbrev fMod := fInt (fun i j => i % j) fun _ j => 0 < j
abbrev fPow := fInt (fun i j => i ^ j.toNat) CPow
/-- int + int, tuple + tuple, text + text, list + list -/
def fAddG : PyData → PyData → RD → Prop := fun x y R => match x, y with
  | .int i, .int j => R (.int (i + j))
  | .tuple a, .tuple b => a.length + b.length ≤ 16000000 ∧ R (.tuple (a ++ b))
  | .str a, .str b => a.length + b.length ≤ sizeLine ∧ R (.str (a ++ b))
  | .list a, .list b => a.length + b.length ≤ 16000000 ∧ R (.list (a ++ b))
  | _, _ => False
theorem rCatA_imp {K : PySem.W.Frag} {x y : V} {H : Hp} {Q Q' : VK} (i : ∀ z H', Q z H' → Q' z H') (h : rCatA K x y H Q) : rCatA K x y H Q' := by
  obtain ⟨a, b, xs, ys, h1, h2, h3, h4, h5, h6, h7, h8⟩ := h
  exact ⟨a, b, xs, ys, h1, h2, h3, h4, h5, fun z => i _ _ (h6 z), fun z z2 => i _ _ (h7 z z2), fun z z2 p hp => i _ _ (h8 z z2 p hp)⟩
theorem op_addG : OpR X (binaryOp .Add) (fun x y H Q => rI0 (fun i j => .int (i + j)) x y H Q ∨ (rCatA X.K x y H Q ∨ ((fun x y H Q => ∃ i j, x = V.str i ∧ y = V.str j ∧ i.length + j.length ≤ sizeLine ∧ Q (.str (i ++ j)) H) x y H Q ∨ rCat x y H Q))) := op_add.or (op_catA.or (op_add_str.or op_cat))
theorem od_addG : OpD ⟨false, Tz⟩ X (fun x y H Q => rI0 (fun i j => .int (i + j)) x y H Q ∨ (rCatA X.K x y H Q ∨ ((fun x y H Q => ∃ i j, x = V.str i ∧ y = V.str j ∧ i.length + j.length ≤ sizeLine ∧ Q (.str (i ++ j)) H) x y H Q ∨ rCat x y H Q))) fAddG := fun N H v u x y R Q h dx dy fr sn hK sl q => by
  unfold fAddG at h
  split at h
  · cases dx
    cases dy
    exact .inl ⟨_, _, rfl, rfl, q _ _ H h (.refl _) (.int _)⟩
  · exact .inr (.inl (hK ▸ dv_cat (N := N) (Q := Q) dx dy h.1 fun z H' s dz => q _ z H' h.2 s dz))
  · cases dx
    cases dy
    exact .inr (.inr (.inl ⟨_, _, rfl, rfl, h.1, q _ _ H h.2 (.refl _) (.str _)⟩))
  · cases dx with
    | lst n1 e1 a1 =>
      cases dy with
      | lst n2 e2 a2 =>
        have l1 := a1.length
        have l2 := a2.length
        refine .inr (.inr (.inr ⟨_, _, _, _, rfl, rfl, e1, e2, by rw [sizeLine_eq]; omega, fun p hp => ?_⟩))
        exact q _ _ _ h.2 (same_new hp _) (.lst (sl rfl p hp) upd_same ((a1.app a2).same (same_new hp _)))
  · exact h.elim
/-- .. where lists stand apart -/
def fAddS : PyData → PyData → RD → Prop := fun x y R => match x, y with
  | .int i, .int j => R (.int (i + j))
  | .tuple a, .tuple b => a.length + b.length ≤ 16000000 ∧ R (.tuple (a ++ b))
  | .str a, .str b => a.length + b.length ≤ sizeLine ∧ R (.str (a ++ b))
  | _, _ => False
theorem od_addS : OpD Sy X (fun x y H Q => rI0 (fun i j => .int (i + j)) x y H Q ∨ (rCatA X.K x y H Q ∨ ((fun x y H Q => ∃ i j, x = V.str i ∧ y = V.str j ∧ i.length + j.length ≤ sizeLine ∧ Q (.str (i ++ j)) H) x y H Q ∨ rCat x y H Q))) fAddS := fun N H v u x y R Q h dx dy fr sn hK sl q => by
  unfold fAddS at h
  split at h
  · cases dx
    cases dy
    exact .inl ⟨_, _, rfl, rfl, q _ _ H h (.refl _) (.int _)⟩
  · exact .inr (.inl (hK ▸ dv_cat (N := N) (Q := Q) dx dy h.1 fun z H' s dz => q _ z H' h.2 s dz))
  · cases dx
    cases dy
    exact .inr (.inr (.inl ⟨_, _, rfl, rfl, h.1, q _ _ H h.2 (.refl _) (.str _)⟩))
  · exact h.elim
/-- numbers, with True and False -/
def fSubG : PyData → PyData → RD → Prop := fun x y R => match x, y with
  | .int i, .int j => R (.int (i - j))
  | .bool b, .int j => R (.int (bz b - j))
  | .int i, .bool b => R (.int (i - bz b))
  | _, _ => False
/-- 1 << k -/
def fShl : PyData → PyData → RD → Prop := fun x y R => match x, y with
  | .int i, .int j => i = 1 ∧ 0 ≤ j ∧ j ≤ 134217727 ∧ R (.int (2 ^ j.toNat))
  | _, _ => False
theorem od_shl : OpD Sy X (fun x y H Q => ∃ k : Nat, x = .int 1 ∧ y = .int (k : Int) ∧ k ≤ 134217727 ∧ Q (.int (2 ^ k)) H) fShl := fun N H v u x y R Q h dx dy fr sn hK sl q => by
  unfold fShl at h
  split at h
  · rename_i i j
    obtain ⟨rfl, h0, h1, h⟩ := h
    cases dx
    cases dy
    obtain ⟨k, rfl⟩ := Int.eq_ofNat_of_zero_le h0
    exact ⟨k, rfl, rfl, by omega, q _ _ H h (.refl _) (.int _)⟩
  · exact h.elim
/-! comparisons -/
def fCI (g : Int → Int → Bool) : PyData → PyData → (Bool → Prop) → Prop := fun x y R => match x, y with
  | .int i, .int j => R (g i j)
  | _, _ => False
theorem cd_int {g : Int → Int → Bool} : CmpD X (rI0 fun i j => .bl (g i j)) (fCI g) := fun N H v u x y R Q h dx dy hK q => by
  unfold fCI at h
  split at h
  · cases dx
    cases dy
    exact ⟨_, _, rfl, rfl, q _ h⟩
  · exact h.elim
abbrev fLt := fCI fun i j => decide (i < j)
abbrev fLe := fCI fun i j => decide (i ≤ j)
abbrev fGt := fCI fun i j => decide (j < i)
abbrev fGe := fCI fun i j => decide (j ≤ i)
/-- ==, by data -/
def fEq : PyData → PyData → (Bool → Prop) → Prop := fun x y R => match x, y with
  | .int i, .int j => R (decide (i = j))
  | .str i, .str j => R (decide (i = j))
  | .bool i, .bool j => R (decide (i = j))
  | x, y => SeqAt.shaped x = true ∧ SeqAt.shaped y = true ∧ R (PyData.eqv x y)
def fNe : PyData → PyData → (Bool → Prop) → Prop := fun x y R => fEq x y fun b => R (!b)
mutual
theorem Dv.dp {N : Bn} {H : Hp} : ∀ (d : PyData) (v : V), Dv N H v d → d.canLay0 = true → Dp N.K H v d
  | .none, _, h, _ => by cases h; exact .non
  | .bool b, _, h, _ => by cases h; exact .bl b
  | .int i, _, h, _ => by cases h; exact .int i
  | .str x, _, h, _ => by cases h; exact .str x
  | .list ds, _, h, c => by
    cases h with
    | lst n e all => exact .lst (.of e) (DvAll.dp ds _ all (by unfold PyData.canLay0 at c; exact c))
  | .tuple ds, _, h, c => by
    cases h with
    | tup e all => exact .tup e.sq (DvAll.dp ds _ all (by unfold PyData.canLay0 at c; exact c))
  | .dict ds, _, h, c => by
    unfold PyData.canLay0 at c
    cases c
theorem DvAll.dp {N : Bn} {H : Hp} : ∀ (ds : List PyData) (vs : List V), DvAll N H vs ds → PyData.canLayAll0 ds = true → DpAll N.K H vs ds
  | [], _, h, _ => by cases h; exact .nil
  | d :: ds, _, h, c => by
    cases h with
    | cons a b =>
      unfold PyData.canLayAll0 at c
      obtain ⟨c1, c2⟩ := Bool.and_eq_true_iff.mp c
      exact .cons (Dv.dp d _ a c1) (DvAll.dp ds _ b c2)
end
theorem dp_of {K : PySem.W.Frag} {N : Bn} {H : Hp} {v : V} {d : PyData} (hK : N.K = K) (h : Dv N H v d) (s : SeqAt.shaped d = true) : Dp K H v d := hK ▸ Dv.dp d v h (SeqAt.canLay_of_shaped s)
theorem op_eqG {k : Nat} (hr : Room k X.A) : OpR X (compareOp .Eq) (fun x y H Q => rEq x y H Q ∨ rEqD X.K x y H Q) := op_eq.or (op_eqD (by have := hr.units; omega))
theorem op_neG {k : Nat} (hr : Room k X.A) : OpR X (compareOp .NotEq) (fun x y H Q => rNe x y H Q ∨ rNeD X.K x y H Q) := op_ne.or (op_neD (by have := hr.units; omega))
theorem dec_vi {i j : Int} : decide (V.int i = V.int j) = decide (i = j) := by rw [Bool.eq_iff_iff]; simp
theorem dec_vs {i j : Str} : decide (V.str i = V.str j) = decide (i = j) := by rw [Bool.eq_iff_iff]; simp
theorem dec_vb {i j : Bool} : decide (V.bl i = V.bl j) = decide (i = j) := by rw [Bool.eq_iff_iff]; simp
theorem cd_eq : CmpD X (fun x y H Q => rEq x y H Q ∨ rEqD X.K x y H Q) fEq := fun N H v u x y R Q h dx dy hK q => by
  unfold fEq at h
  split at h
  · cases dx
    cases dy
    exact .inl ⟨rfl, by rw [dec_vi]; exact q _ h⟩
  · cases dx
    cases dy
    exact .inl ⟨rfl, by rw [dec_vs]; exact q _ h⟩
  · cases dx
    cases dy
    exact .inl ⟨rfl, by rw [dec_vb]; exact q _ h⟩
  · exact .inr ⟨x, y, dp_of hK dx h.1, dp_of hK dy h.2.1, h.1, h.2.1, q _ h.2.2⟩
theorem cd_ne : CmpD X (fun x y H Q => rNe x y H Q ∨ rNeD X.K x y H Q) fNe := fun N H v u x y R Q h dx dy hK q => by
  unfold fNe fEq at h
  split at h
  · cases dx
    cases dy
    exact .inl ⟨rfl, by rw [dec_vi]; exact q _ h⟩
  · cases dx
    cases dy
    exact .inl ⟨rfl, by rw [dec_vs]; exact q _ h⟩
  · cases dx
    cases dy
    exact .inl ⟨rfl, by rw [dec_vb]; exact q _ h⟩
  · exact .inr ⟨x, y, dp_of hK dx h.1, dp_of hK dy h.2.1, h.1, h.2.1, q _ h.2.2⟩
/-- is None -/
def isNon : PyData → Bool
  | .none => true
  | _ => false
def fIsN : PyData → PyData → (Bool → Prop) → Prop := fun x y R => isNon y = true ∧ R (isNon x)
def fNotN : PyData → PyData → (Bool → Prop) → Prop := fun x y R => isNon y = true ∧ R (!isNon x)
theorem non_dec {N : Bn} {H : Hp} {v : V} {d : PyData} (h : Dv N H v d) : decide (v = .non) = isNon d := by
  cases h <;> first | rfl | (rw [Bool.eq_iff_iff]; simp [isNon])
theorem cd_isN : CmpD X (fun x y H Q => y = .non ∧ Q (.bl (decide (x = .non))) H) fIsN := fun N H v u x y R Q h dx dy hK q => by
  cases dy <;> first | (exact ⟨rfl, by rw [non_dec dx]; exact q _ h.2⟩) | cases h.1
theorem cd_notN : CmpD X (fun x y H Q => y = .non ∧ Q (.bl (!decide (x = .non))) H) fNotN := fun N H v u x y R Q h dx dy hK q => by
  cases dy <;> first | (exact ⟨rfl, by rw [non_dec dx]; exact q _ h.2⟩) | cases h.1
/-! subscripts -/
def atD (ds : List PyData) (i : Int) : Option PyData := (ixN ds.length i).bind fun j => ds[j]?
def fIx : PyData → PyData → RD → Prop := fun x y R => match x, y with
  | .tuple ds, .int i => match atD ds i with
    | some d => R d
    | none => False
  | .list ds, .int i => match atD ds i with
    | some d => R d
    | none => False
  | _, _ => False
theorem atD_get {N : Bn} {H : Hp} {xs : List V} {ds : List PyData} {i : Int} {d : PyData} (a : DvAll N H xs ds) (h : atD ds i = some d) : ∃ v, atI xs i = some v ∧ Dv N H v d := by
  unfold atD at h
  unfold atI
  rw [a.length]
  cases e : ixN ds.length i with
  | none => rw [e] at h; cases h
  | some j =>
    rw [e] at h
    obtain ⟨v, h1, h2⟩ := a.get (i := j) h
    exact ⟨v, h1, h2⟩
theorem od_ix : OpD Sy X (rIx X.K) fIx := fun N H v u x y R Q h dx dy fr sn hK sl q => by
  unfold fIx at h
  split at h
  · split at h
    · rename_i e
      cases dy
      cases dx with
      | tup ea all =>
        obtain ⟨z, h1, h2⟩ := atD_get all e
        exact .inr (.inl ⟨_, _, _, z, rfl, rfl, hK ▸ ea.sq, h1, q _ z H h (.refl _) h2⟩)
    · exact h.elim
  · split at h
    · rename_i e
      cases dy
      cases dx with
      | lst nn ea all =>
        obtain ⟨z, h1, h2⟩ := atD_get all e
        exact .inl ⟨_, _, _, z, rfl, rfl, .of ea, h1, q _ z H h (.refl _) h2⟩
    · exact h.elim
  · exact h.elim
/-- x[k], k written, from 0 on -/
def nthL : List PyData → Nat → RD → Prop
  | [], _, _ => False
  | d :: _, 0, R => R d
  | _ :: r, n + 1, R => nthL r n R
def fNth (k : Nat) : PyData → RD → Prop := fun x R => match x with
  | .tuple ds => nthL ds k R
  | .list ds => nthL ds k R
  | _ => False
theorem nthL_get : ∀ {ds : List PyData} {k : Nat} {R : RD}, nthL ds k R → ∃ d, ds[k]? = some d ∧ R d
  | d :: r, 0, R, h => ⟨d, rfl, h⟩
  | _ :: r, n + 1, R, h => by
    obtain ⟨d, a, b⟩ := nthL_get (ds := r) h
    exact ⟨d, by simpa using a, b⟩
theorem nth_ix {k : Nat} {x : PyData} {R : RD} (h : fNth k x R) : fIx x (.int (k : Int)) R := by
  have at_ : ∀ ds : List PyData, nthL ds k R → ∃ d, atD ds (k : Int) = some d ∧ R d := fun ds h => by
    obtain ⟨d, a, b⟩ := nthL_get h
    refine ⟨d, ?_, b⟩
    have hk := (List.getElem?_eq_some_iff.mp a).1
    unfold atD
    have e : ixN ds.length (k : Int) = some k := by
      unfold ixN
      rw [if_pos (by omega), if_pos (by omega), Int.toNat_natCast]
    rw [e]
    exact a
  unfold fNth at h
  split at h
  · obtain ⟨d, a, b⟩ := at_ _ h
    show (match atD _ (k : Int) with | some d => R d | none => False)
    rw [a]
    exact b
  · obtain ⟨d, a, b⟩ := at_ _ h
    show (match atD _ (k : Int) with | some d => R d | none => False)
    rw [a]
    exact b
  · exact h.elim
end
end Ld

namespace Ld
open PySem PySem.Spec PyProof.Rows L2 Lw
section
variable {Sy : Md} {X : Cx} {E : L2.St → XK} {e : Expr} {st : Stmt} {ta : TD} {tr : TAD} {i n : Nat}
theorem d_nth {z : Int} {k : Nat} (h : PE X e (tOp (rIx X.K) (LE Sy X E ta) (tC (.int z)))) (hz : z = (k : Int) := by rfl) : PE X e (LE Sy X E (dUn (fNth k) ta)) := h.weak fun σ H Q ⟨w, N, O, F, ρ, R, Ex, en, t, q, qx⟩ => by
  refine ⟨w, N, O, F, ρ, _, Ex, en, t, fun x v H1 r1 k1 dx => ?_, qx⟩
  have en1 := en.step k1
  subst hz
  exact od_ix N H1 v (.int k) x (.int k) R Q (nth_ix r1) dx (.int _) en1.ok.fr en1.ok.sn en1.ok.kk en1.ok.sl fun d z H' hr s dz => q d z H' hr (k1.trans (.of s)) dz
/-! slices -/
abbrev TOD := Env → (Option Int → Prop) → XD → Prop
def dNoP : TOD := fun _ R _ => R none
def dPart (t : TD) : TOD := fun ρ R Ex => t ρ (fun d => match d with
  | .int i => R (some i)
  | _ => False) Ex
def LO (Sy : Md) (X : Cx) (E : L2.St → XK) (t : TOD) : TO := fun σ H Q => ∃ (w : Wx) (N : Bn) (O : Nat → Option Addr) (F : List (V × PyData)) (ρ : Env) (R : Option Int → Prop) (Ex : XD), EnvR (gnd Sy X) w N O F H σ ρ ∧ t ρ R Ex ∧
  (∀ b H', R b → Stp w H H' → Q b H') ∧ (∀ x cls dx H', Ex x → Stp w H H' → ExAt X.mg N H' cls dx x → E σ cls dx H')
theorem _root_.L2.PO.weak {X : Cx} {e : Option Expr} {t t' : TO} (h : PO X e t) (i : ∀ σ H Q, t' σ H Q → t σ H Q) : PO X e t' := ⟨fun pins s σ H Q I q => h.run pins s σ H Q I (i σ H Q q)⟩
theorem dp_none : PO X none (LO Sy X E dNoP) := po_none.weak fun σ H Q ⟨w, N, O, F, ρ, R, Ex, en, t, q, qx⟩ => q none H t (.refl _ _)
theorem dp_some {e : Expr} (h : PE X e (LE Sy X E ta)) : PO X (some e) (LO Sy X E (dPart ta)) := (po_some h).weak fun σ H Q ⟨w, N, O, F, ρ, R, Ex, en, t, q, qx⟩ => by
  refine ⟨w, N, O, F, ρ, _, Ex, en, t, fun x v H1 r1 k1 dx => ?_, qx⟩
  split at r1
  · cases dx
    exact ⟨_, rfl, q _ _ r1 k1⟩
  · exact r1.elim
/-- t[a:b] of a tuple or a list -/
def fSl (x : PyData) (lo hi : Option Int) (R : RD) : Prop := match x with
  | .tuple ds => R (.tuple (Lw.cutD ds lo hi))
  | .list ds => R (.list (Lw.cutD ds lo hi))
  | _ => False
def dSl (t : TD) (lo hi : TOD) : TD := fun ρ R Ex => t ρ (fun x => lo ρ (fun l => hi ρ (fun h => fSl x l h R) Ex) Ex) Ex
theorem sl_G : SlR X (fun x lo hi H Q => rSlA X.K x lo hi H Q ∨ rSlL X.K x lo hi H Q) := sl_tupA.or sl_list
theorem d_sl {to th : TOD} (h : PE X e (tSl (fun x lo hi H Q => rSlA X.K x lo hi H Q ∨ rSlL X.K x lo hi H Q) (LE ⟨false, Tz⟩ X E ta) (LO ⟨false, Tz⟩ X E to) (LO ⟨false, Tz⟩ X E th))) : PE X e (LE ⟨false, Tz⟩ X E (dSl ta to th)) := h.weak fun σ H Q ⟨w, N, O, F, ρ, R, Ex, en, t, q, qx⟩ => by
  refine ⟨w, N, O, F, ρ, _, Ex, en, t, fun x v H1 r1 k1 dx => ?_, qx⟩
  have en1 := en.step k1
  refine ⟨w, N, O, F, ρ, _, Ex, en1, r1, fun lo H2 r2 k2 => ?_, fun x cls dx H' hx k hh => qx x cls dx H' hx (k1.trans k) hh⟩
  have en2 := en1.step k2
  refine ⟨w, N, O, F, ρ, _, Ex, en2, r2, fun hi H3 r3 k3 => ?_, fun x cls dx H' hx k hh => qx x cls dx H' hx ((k1.trans k2).trans k) hh⟩
  have en3 := en2.step k3
  have dx3 := dv_step dx en.hw (k2.trans k3)
  have k13 := (k1.trans k2).trans k3
  unfold fSl at r3
  split at r3
  · have hK : N.K = X.K := en.ok.kk
    exact .inl (hK ▸ dv_cut (N := N) (Q := Q) dx3 fun u H' s du => q _ u H' r3 (k13.trans (.of s)) du)
  · cases dx3 with
    | lst nn ea all =>
      refine .inr ⟨_, _, rfl, .of ea, fun p hp => ?_⟩
      refine q _ _ _ r3 (k13.trans (.of (same_new hp _))) (.lst (en3.ok.sl rfl p hp) upd_same ?_)
      unfold Lw.cutD cutV
      rw [← all.length]
      exact ((all.same (same_new hp _)).drop _).take _
  · exact r3.elim
def fSlS (x : PyData) (lo hi : Option Int) (R : RD) : Prop := match x with
  | .tuple ds => R (.tuple (Lw.cutD ds lo hi))
  | _ => False
def dSlS (t : TD) (lo hi : TOD) : TD := fun ρ R Ex => t ρ (fun x => lo ρ (fun l => hi ρ (fun h => fSlS x l h R) Ex) Ex) Ex
theorem d_slS {to th : TOD} (h : PE X e (tSl (rSlA X.K) (LE Sy X E ta) (LO Sy X E to) (LO Sy X E th))) : PE X e (LE Sy X E (dSlS ta to th)) := h.weak fun σ H Q ⟨w, N, O, F, ρ, R, Ex, en, t, q, qx⟩ => by
  refine ⟨w, N, O, F, ρ, _, Ex, en, t, fun x v H1 r1 k1 dx => ?_, qx⟩
  have en1 := en.step k1
  refine ⟨w, N, O, F, ρ, _, Ex, en1, r1, fun lo H2 r2 k2 => ?_, fun x cls dx H' hx k hh => qx x cls dx H' hx (k1.trans k) hh⟩
  have en2 := en1.step k2
  refine ⟨w, N, O, F, ρ, _, Ex, en2, r2, fun hi H3 r3 k3 => ?_, fun x cls dx H' hx k hh => qx x cls dx H' hx ((k1.trans k2).trans k) hh⟩
  have en3 := en2.step k3
  have dx3 := dv_step dx en.hw (k2.trans k3)
  have k13 := (k1.trans k2).trans k3
  unfold fSlS at r3
  split at r3
  · have hK : N.K = X.K := en.ok.kk
    exact (hK ▸ dv_cut (N := N) (Q := Q) dx3 fun u H' s du => q _ u H' r3 (k13.trans (.of s)) du)
  · exact r3.elim
/-- t[::-1] of a tuple -/
def fBack : PyData → RD → Prop := fun x R => match x with
  | .tuple ds => R (.tuple ds.reverse)
  | _ => False
theorem d_backT (h : PE X e (tBackT X.K (LE Sy X E ta))) : PE X e (LE Sy X E (dUn fBack ta)) := h.weak fun σ H Q ⟨w, N, O, F, ρ, R, Ex, en, t, q, qx⟩ => by
  refine ⟨w, N, O, F, ρ, _, Ex, en, t, fun x v H1 r1 k1 dx => ?_, qx⟩
  unfold fBack at r1
  split at r1
  · cases dx with
    | tup ea all => exact ⟨_, _, rfl, (show N.K = X.K from en.ok.kk) ▸ ea.sq, fun p hp => q _ _ _ r1 (k1.trans (.of (same_new hp _))) (.tup (.of upd_same) ((all.same (same_new hp _)).rev))⟩
  · exact r1.elim
/-- .. of a list -/
def fBackL : PyData → RD → Prop := fun x R => match x with
  | .list ds => R (.list ds.reverse)
  | _ => False
theorem d_backL (h : PE X e (tRevL X.K (LE ⟨false, Tz⟩ X E ta))) : PE X e (LE ⟨false, Tz⟩ X E (dUn fBackL ta)) := h.weak fun σ H Q ⟨w, N, O, F, ρ, R, Ex, en, t, q, qx⟩ => by
  refine ⟨w, N, O, F, ρ, _, Ex, en, t, fun x v H1 r1 k1 dx => ?_, qx⟩
  unfold fBackL at r1
  split at r1
  · cases dx with
    | lst nn ea all => exact ⟨_, _, rfl, .of ea, fun p hp => q _ _ _ r1 (k1.trans (.of (same_new hp _))) (.lst ((en.step k1).ok.sl rfl p hp) upd_same ((all.same (same_new hp _)).rev))⟩
  · exact r1.elim
def fNeg : PyData → RD → Prop := fun x R => match x with
  | .int i => R (.int (-i))
  | _ => False
theorem ud_negI : UnD Sy X (rU fun i => .int (-i)) fNeg := fun N H v x R Q h dx fr sn hK sl q => by
  unfold fNeg at h
  split at h
  · cases dx
    exact ⟨_, rfl, q _ _ H h (.refl _) (.int _)⟩
  · exact h.elim
def fBits : PyData → RD → Prop := fun x R => match x with
  | .int i => R (.int (Builtin.Int.intBits i : Nat))
  | _ => False
theorem d_bits (h : PE X e (tBits (LE Sy X E ta))) : PE X e (LE Sy X E (dUn fBits ta)) := h.weak fun σ H Q ⟨w, N, O, F, ρ, R, Ex, en, t, q, qx⟩ => by
  refine ⟨w, N, O, F, ρ, _, Ex, en, t, fun x v H1 r1 k1 dx => ?_, qx⟩
  unfold fBits at r1
  split at r1
  · cases dx
    exact ⟨_, rfl, q _ _ _ r1 k1 (.int _)⟩
  · exact r1.elim
/-! ### built-ins -/
def fLen : List PyData → RD → Prop := fun ds R => match ds with
  | [.list xs] => R (.int xs.length)
  | [.tuple xs] => R (.int xs.length)
  | [.str x] => x.length ≤ sizeLine ∧ R (.int x.length)
  | _ => False
theorem bd_len : CallD Sy X (fun xs H Q => ∃ x n, xs = [x] ∧ LenV X.K x H n ∧ Q (.int n) H) fLen := fun N H vs ds R Q h dv fr sn hK sl q => by
  unfold fLen at h
  split at h
  · cases dv with
    | cons a b =>
      cases b
      cases a with
      | lst nn ea all => exact ⟨_, _, rfl, .inl ⟨_, .of ea, rfl⟩, q _ _ H h (.refl _) (by rw [all.length]; exact .int _)⟩
  · cases dv with
    | cons a b =>
      cases b
      cases a with
      | tup ea all => exact ⟨_, _, rfl, .inr ⟨_, hK ▸ ea.sq, rfl⟩, q _ _ H h (.refl _) (by rw [all.length]; exact .int _)⟩
  · cases dv with
    | cons a b =>
      cases b
      cases a
      exact ⟨_, _, rfl, ⟨h.1, rfl⟩, q _ _ H h.2 (.refl _) (.int _)⟩
  · exact h.elim
def fI1 (g : Int → Int) : List PyData → RD → Prop := fun ds R => match ds with
  | [.int i] => R (.int (g i))
  | _ => False
def fI2 (g : Int → Int → Int) : List PyData → RD → Prop := fun ds R => match ds with
  | [.int i, .int j] => R (.int (g i j))
  | _ => False
theorem bd_i2 {g : Int → Int → Int} : CallD Sy X (fun xs H Q => ∃ i j, xs = [.int i, .int j] ∧ Q (.int (g i j)) H) (fI2 g) := fun N H vs ds R Q h dv fr sn hK sl q => by
  unfold fI2 at h
  split at h
  · cases dv with
    | cons a b =>
      cases a
      cases b with
      | cons a b =>
        cases a
        cases b
        exact ⟨_, _, rfl, q _ _ H h (.refl _) (.int _)⟩
  · exact h.elim
theorem bd_i1 {g : Int → Int} : CallD Sy X (fun xs H Q => ∃ i, xs = [.int i] ∧ Q (.int (g i)) H) (fI1 g) := fun N H vs ds R Q h dv fr sn hK sl q => by
  unfold fI1 at h
  split at h
  · cases dv with
    | cons a b =>
      cases a
      cases b
      exact ⟨_, rfl, q _ _ H h (.refl _) (.int _)⟩
  · exact h.elim
abbrev fAbs := fI1 fun i => if i < 0 then -i else i
abbrev fMax := fI2 fun i j => if j > i then j else i
abbrev fMin := fI2 fun i j => if j < i then j else i
abbrev fGcd := fI2 fun a b => ((Nat.gcd a.natAbs b.natAbs : Nat) : Int)
def fIntO : List PyData → RD → Prop := fun ds R => match ds with
  | [.int i] => R (.int i)
  | [.bool k] => R (.int (if k then 1 else 0))
  | _ => False
theorem bd_int : CallD Sy X (fun xs H Q => (∃ i, xs = [.int i] ∧ Q (.int i) H) ∨ ∃ k, xs = [.bl k] ∧ Q (.int (if k then 1 else 0)) H) fIntO := fun N H vs ds R Q h dv fr sn hK sl q => by
  unfold fIntO at h
  split at h
  · cases dv with
    | cons a b =>
      cases a
      cases b
      exact .inl ⟨_, rfl, q _ _ H h (.refl _) (.int _)⟩
  · cases dv with
    | cons a b =>
      cases a
      cases b
      exact .inr ⟨_, rfl, q _ _ H h (.refl _) (.int _)⟩
  · exact h.elim
def fIsqrt : List PyData → RD → Prop := fun ds R => match ds with
  | [.int a] => 0 ≤ a ∧ a.natAbs < 2 ^ 13000 ∧ R (.int (isq a))
  | _ => False
theorem bd_isqrt : CallD Sy X (fun vs H Q => ∃ a : Int, vs = [.int a] ∧ 0 ≤ a ∧ a.natAbs < 2 ^ 13000 ∧ Q (.int ((Float64.isqrt a.toNat : Nat) : Int)) H) fIsqrt := fun N H vs ds R Q h dv fr sn hK sl q => by
  unfold fIsqrt at h
  split at h
  · cases dv with
    | cons a b =>
      cases a
      cases b
      exact ⟨_, rfl, h.1, h.2.1, q _ _ H h.2.2 (.refl _) (.int _)⟩
  · exact h.elim
def fDivmod : List PyData → RD → Prop := fun ds R => match ds with
  | [.int i, .int j] => CDivP i j ∧ R (.tuple [.int (i / j), .int (i % j)])
  | _ => False
theorem bd_divmod : CallD Sy X (fun xs H Q => ∃ i j, xs = [.int i, .int j] ∧ CDivP i j ∧ ∀ p, H p = none → Q (.ref p) (upd H p (.tup [.int (i / j), .int (i % j)]))) fDivmod := fun N H vs ds R Q h dv fr sn hK sl q => by
  unfold fDivmod at h
  split at h
  · cases dv with
    | cons a b =>
      cases a
      cases b with
      | cons a b =>
        cases a
        cases b
        exact ⟨_, _, rfl, h.1, fun p hp => q _ _ _ h.2 (same_new hp _) (.tup (.of upd_same) (.cons (.int _) (.cons (.int _) .nil)))⟩
  · exact h.elim
/-- what may be told as a text -/
def shows (d : PyData) : Prop := d.showable = true ∧ d.depth ≤ 100 ∧ d.shown.length ≤ sizeLine
def fRepr : List PyData → RD → Prop := fun ds R => match ds with
  | [d] => d.hasDict = false ∧ shows d ∧ R (.str d.shown)
  | _ => False
theorem bd_repr : CallD Sy X (rRepr X.K) fRepr := fun N H vs ds R Q h dv fr sn hK sl q => by
  unfold fRepr at h
  split at h
  · cases dv with
    | cons a b =>
      cases b
      exact ⟨N, _, _, hK, rfl, a, ⟨h.2.1.1, h.2.1.2.1, h.2.1.2.2, fun z => by rw [h.1] at z; cases z⟩, q _ _ H h.2.2 (.refl _) (.str _)⟩
  · exact h.elim
/-- .. where lists and dicts stand apart -/
def fReprS : List PyData → RD → Prop := fun ds R => match ds with
  | [d] => shows d ∧ R (.str d.shown)
  | _ => False
theorem bd_reprS : CallD ⟨true, Tz⟩ X (rRepr X.K) fReprS := fun N H vs ds R Q h dv fr sn hK sl q => by
  unfold fReprS at h
  split at h
  · cases dv with
    | cons a b =>
      cases b
      exact ⟨N, _, _, hK, rfl, a, ⟨h.1.1, h.1.2.1, h.1.2.2, fun _ => sn rfl⟩, q _ _ H h.2 (.refl _) (.str _)⟩
  · exact h.elim
def boolsOf : List PyData → Option (List Bool)
  | [] => some []
  | .bool b :: r => match boolsOf r with
    | some bs => some (b :: bs)
    | none => none
  | _ => none
theorem bools_of {N : Bn} {H : Hp} : ∀ {vs : List V} {ds : List PyData} {bs : List Bool}, DvAll N H vs ds → boolsOf ds = some bs → vs = bs.map V.bl
  | _, [], bs, h, e => by
    cases h
    cases e
    rfl
  | _, d :: r, bs, h, e => by
    cases h with
    | cons a b =>
      unfold boolsOf at e
      split at e
      · rename_i hq
        cases hq
      · rename_i b0 r0 e0
        cases e0
        cases a
        cases z : boolsOf r with
        | none => rw [z] at e; cases e
        | some cs =>
          rw [z] at e
          cases e
          rw [bools_of b z]
          rfl
      · cases e
def fBools (g : List Bool → Bool) : List PyData → RD → Prop := fun ds R => match ds with
  | [.list xs] => match boolsOf xs with
    | some bs => R (.bool (g bs))
    | none => False
  | _ => False
theorem bd_bools {g : List Bool → Bool} : CallD Sy X (fun vs H Q => ∃ (a : Addr) (bs : List Bool), vs = [V.ref a] ∧ SqL X.K H a (bs.map V.bl) ∧ Q (.bl (g bs)) H) (fBools g) := fun N H vs ds R Q h dv fr sn hK sl q => by
  unfold fBools at h
  split at h
  · split at h
    · rename_i e
      cases dv with
      | cons a b =>
        cases b
        cases a with
        | lst nn ea all =>
          have := bools_of all e
          subst this
          exact ⟨_, _, rfl, .of ea, q _ _ H h (.refl _) (.bl _)⟩
    · exact h.elim
  · exact h.elim
abbrev fAll := fBools fun bs => bs.all id
abbrev fAny := fBools fun bs => bs.any id
/-- tuple(x) -/
def fTupO : List PyData → RD → Prop := fun ds R => match ds with
  | [.list xs] => R (.tuple xs)
  | [.tuple xs] => R (.tuple xs)
  | _ => False
theorem bd_tup : CallD Sy X (fun xs H Q => ∃ p ys, xs = [.ref p] ∧ ((SqL X.K H p ys ∧ ∀ l, H l = none → Q (.ref l) (upd H l (.tup ys))) ∨ (SqT X.K H p ys ∧ Q (.ref p) H))) fTupO := fun N H vs ds R Q h dv fr sn hK sl q => by
  unfold fTupO at h
  split at h
  · cases dv with
    | cons a b =>
      cases b
      cases a with
      | lst nn ea all => exact ⟨_, _, rfl, .inl ⟨.of ea, fun p hp => q _ _ _ h (same_new hp _) (.tup (.of upd_same) (all.same (same_new hp _)))⟩⟩
  · cases dv with
    | cons a b =>
      cases b
      cases a with
      | tup ea all => exact ⟨_, _, rfl, .inr ⟨hK ▸ ea.sq, q _ _ _ h (.refl _) (.tup ea all)⟩⟩
  · exact h.elim
/-- list(t) -/
def fLstO : List PyData → RD → Prop := fun ds R => match ds with
  | [.tuple xs] => R (.list xs)
  | _ => False
theorem bd_lst : CallD Sy X (fun xs H Q => ∃ p ys, xs = [.ref p] ∧ SqT X.K H p ys ∧ ∀ l, H l = none → l ≠ sysModules → Q (.ref l) (upd H l (.lst ys))) fLstO := fun N H vs ds R Q h dv fr sn hK sl q => by
  unfold fLstO at h
  split at h
  · cases dv with
    | cons a b =>
      cases b
      cases a with
      | tup ea all => exact ⟨_, _, rfl, hK ▸ ea.sq, fun p hp np => q _ _ _ h (same_new hp _) (.lst (fr p hp np) upd_same (all.same (same_new hp _)))⟩
  · exact h.elim
end
end Ld

namespace Ld
open PySem PySem.Spec PyProof.Rows L2 Lw
/-! ### a list of the def's own, in a slot -/
def sOwn (i : Nat) (ta : TAD) : TSD := fun D ρ => ta ρ (fun us => match datsOf us with
  | some ds => D.nx (putD ρ i (some (.own ds)))
  | none => False) (D.ex ρ)
def ownK (x : Option Sv) (K : List PyData → Prop) : Prop := match x with
  | some (.own ds) => K ds
  | _ => False
/-- x.append(e) -/
def sApp (i : Nat) (t : TD) : TSD := fun D ρ => ownK (slotD ρ i) fun ds => t ρ (fun d => ds.length < 16000000 ∧ D.nx (putD ρ i (some (.own (ds ++ [d]))))) (D.ex ρ)
/-- x.extend(e) -/
def sExt (i : Nat) (t : TD) : TSD := fun D ρ => ownK (slotD ρ i) fun ds => t ρ (fun d => match d with
  | .list es => ds.length + es.length < 16000000 ∧ D.nx (putD ρ i (some (.own (ds ++ es))))
  | _ => False) (D.ex ρ)
/-- x.insert(k, e) -/
def sIns (i : Nat) (ta : TAD) : TSD := fun D ρ => ownK (slotD ρ i) fun ds => ta ρ (fun us => match us with
  | [.dat (.int k), .dat d] => (ds.length < 16000000 ∧ 0 ≤ k ∧ k < 2 ^ 63) ∧ D.nx (putD ρ i (some (.own (ds.take k.toNat ++ [d] ++ ds.drop k.toNat))))
  | _ => False) (D.ex ρ)
/-- x[k] = e -/
def sPut (i : Nat) (t k : TD) : TSD := fun D ρ => t ρ (fun d => ownK (slotD ρ i) fun ds => k ρ (fun x => match x with
  | .int z => match ixN ds.length z with
    | some j => D.nx (putD ρ i (some (.own (ds.set j d))))
    | none => False
  | _ => False) (D.ex ρ)) (D.ex ρ)
/-- from now on it is data -/
def sFrz (i : Nat) : TSD := fun D ρ => ownK (slotD ρ i) fun ds => D.nx (putD ρ i (some (.dat (.list ds))))
/-- reading it -/
def dOwnLen (i : Nat) : TD := fun ρ R _ => ownK (slotD ρ i) fun ds => R (.int ds.length)
def dOwnIx (i : Nat) (t : TD) : TD := fun ρ R Ex => ownK (slotD ρ i) fun ds => t ρ (fun x => match x with
  | .int z => match atD ds z with
    | some d => R d
    | none => False
  | _ => False) Ex
theorem ownK_of {x : Option Sv} {K : List PyData → Prop} (h : ownK x K) : ∃ ds, x = some (.own ds) ∧ K ds := by
  unfold ownK at h
  split at h
  · exact ⟨_, rfl, h⟩
  · exact h.elim
section
variable {base : Gnd} {w : Wx} {N0 N : Bn} {O : Nat → Option Addr} {F : Keep} {H0 H : Hp} {σ : L2.St} {ρ : Env} {l : Addr}
/-- a new list put into a slot as the def's own -/
theorem EnvB.own (b : EnvB base w N0 H0 N O F H σ ρ) (i : Nat) {xs : List V} {ds : List PyData} (hl : H l = none) (nl : l ≠ sysModules) (all : DvAll N H xs ds) :
    EnvB base w N0 H0 (Bn.add N l) (fun j => if j = i then some l else O j) F (upd H l (.lst xs)) (σ.set i (some (.ref l))) (putD ρ i (some (.own ds))) := by
  have e := b.e.ban (xs := xs) hl
  have ho : ∀ j, O j ≠ some l := fun j z => by
    obtain ⟨_, _, u, z2⟩ := b.e.ow j l z
    rw [hl] at z2
    cases z2
  have hw : ¬ w.has l := b.e.ok.new hl
  refine ⟨⟨e.ok, by rw [List.length_set, putD_len, e.len], fun j y hy => ?_, fun a c d h1 h2 => ?_, fun j a h1 => ?_, e.kept⟩, b.st.trans (.of (same_new hl _)), fun c hc => .inl (b.sub c hc), fun j a h1 => ?_, b.fr0, b.k0⟩
  · rcases slot_put ρ i j _ _ hy (by intro z; cases z) with ⟨rfl, z, lt⟩ | ⟨nj, z⟩
    · cases z
      refine ⟨.ref l, by rw [List.getElem?_set_self (by rw [e.len]; exact lt)], l, xs, rfl, if_pos rfl, upd_same, dvs_ban all hl⟩
    · obtain ⟨u, h1, h2⟩ := e.slot j y z
      refine ⟨u, by rw [List.getElem?_set_ne (fun z => nj z.symm)]; exact h1, ?_⟩
      cases y with
      | dat d => exact h2
      | own es =>
        obtain ⟨a, ys, r, o, q⟩ := h2
        exact ⟨a, ys, r, (if_neg nj).trans o, q⟩
      | well => exact h2
      | fn _ => exact h2
  · replace h1 : (if a = i then some l else O a) = some d := h1
    replace h2 : (if c = i then some l else O c) = some d := h2
    by_cases ca : a = i
    · by_cases cc : c = i
      · rw [ca, cc]
      · rw [if_pos ca] at h1
        rw [if_neg cc] at h2
        cases h1
        exact absurd h2 (ho c)
    · rw [if_neg ca] at h1
      by_cases cc : c = i
      · rw [if_pos cc] at h2
        cases h2
        exact absurd h1 (ho a)
      · rw [if_neg cc] at h2
        exact e.inj a c d h1 h2
  · replace h1 : (if j = i then some l else O j) = some a := h1
    by_cases cj : j = i
    · rw [if_pos cj] at h1
      cases h1
      exact ⟨.inr rfl, hw, _, upd_same⟩
    · rw [if_neg cj] at h1
      exact e.ow j a h1
  · replace h1 : (if j = i then some l else O j) = some a := h1
    by_cases cj : j = i
    · rw [if_pos cj] at h1
      cases h1
      refine ⟨fun u q => ?_, nl, fun z => b.e.ok.fr _ hl nl (b.sub _ z)⟩
      constructor
      · intro ht
        have := b.st.k0 ht _ u hw q
        rw [hl] at this
        cases this
      · apply Classical.byContradiction
        intro m
        have := b.st.kp _ u hw (fun ps z => m ⟨ps, z⟩) q
        rw [hl] at this
        cases this
    · rw [if_neg cj] at h1
      exact b.new j a h1
/-- the def's own list changed -/
theorem EnvB.ownSet (b : EnvB base w N0 H0 N O F H σ ρ) {i : Nat} {ds es : List PyData} (hs : slotD ρ i = some (.own ds)) {a : Addr} {xs ys : List V} (ho : O i = some a) (ha : H a = some (.lst xs)) (all : DvAll N H ys es) :
    EnvB base w N0 H0 N O F (upd H a (.lst ys)) σ (putD ρ i (some (.own es))) := by
  obtain ⟨na, wa, _⟩ := b.e.ow i a ho
  have hw0 : WlOk base w N (upd H a (.lst ys)) := b.e.ok.poke wa ha lst_ne
  refine ⟨⟨hw0, by rw [putD_len]; exact b.e.len, fun j y hy => ?_, b.e.inj, fun j c h1 => ?_, fun p hp => dv_poke (b.e.kept p hp) na ha⟩, ?_, b.sub, b.new, b.fr0, b.k0⟩
  · rcases slot_put ρ i j _ _ hy (by intro z; cases z) with ⟨rfl, z, lt⟩ | ⟨nj, z⟩
    · cases z
      obtain ⟨u, h1, a2, xs2, r, o2, _⟩ := b.e.slot j _ hs
      rw [ho] at o2
      cases o2
      exact ⟨u, h1, a, ys, r, ho, upd_same, dvs_poke all na ha⟩
    · obtain ⟨u, h1, h2⟩ := b.e.slot j y z
      refine ⟨u, h1, ?_⟩
      cases y with
      | dat d => exact dv_poke h2 na ha
      | own es =>
        obtain ⟨a2, ys2, r, o, q, al⟩ := h2
        have ne : a2 ≠ a := fun z => nj (b.e.inj j i a (by rw [← z]; exact o) ho)
        exact ⟨a2, ys2, r, o, by rw [upd_ne ne]; exact q, dvs_poke al na ha⟩
      | well => exact h2
      | fn _ => exact h2
  · obtain ⟨h2, h3, u, h4⟩ := b.e.ow j c h1
    by_cases cc : c = a
    · exact ⟨h2, h3, _, by rw [cc]; exact upd_same⟩
    · exact ⟨h2, h3, u, by rw [upd_ne cc]; exact h4⟩
  · exact stp_new b.st (b.new i a ho).1 wa ⟨_, ha⟩
/-- .. told as data from now on -/
theorem EnvB.frz (b : EnvB base w N0 H0 N O F H σ ρ) {i : Nat} {ds : List PyData} (hs : slotD ρ i = some (.own ds)) : ∃ N' O', EnvB base w N0 H0 N' O' F H σ (putD ρ i (some (.dat (.list ds)))) := by
  obtain ⟨v, h1, a, xs, rfl, ho, ha, all⟩ := b.e.slot i _ hs
  obtain ⟨h0a, nsa, n0a⟩ := b.new i a ho
  obtain ⟨na, wa, _⟩ := b.e.ow i a ho
  let N' : Bn := ⟨N.K, fun c => N c ∧ c ≠ a⟩
  have less : ∀ {v : V} {d : PyData}, Dv N H v d → Dv N' H v d := fun h => h.less (N' := N') rfl fun c z => z.1
  have lesss : ∀ {v : List V} {d : List PyData}, DvAll N H v d → DvAll N' H v d := fun h => DvAll.map (N := N) (N' := N') rfl (fun c u n q => ⟨q, fun z => n z.1⟩) (fun _ _ q => q) _ _ h
  refine ⟨N', fun j => if j = i then none else O j, ⟨⟨⟨fun p e => ?_, fun p hp np z => b.e.ok.fr p hp np z.1, fun z => ⟨b.e.ok.sn z, nsa.symm⟩, fun z p hp q => b.e.ok.sl z p hp q.1, b.e.ok.kk, fun p hp => ⟨b.e.ok.tn p hp, fun z => wa (.inr ⟨p, hp, z⟩)⟩, b.e.ok.tb, b.e.ok.tt, fun p ps hp c hs q => b.e.ok.to p ps hp c hs q.1⟩, by rw [putD_len]; exact b.e.len, fun j y hy => ?_, fun x y c h2 h3 => ?_, fun j c h2 => ?_, fun p hp => less (b.e.kept p hp)⟩, b.st, fun c hc => ⟨b.sub c hc, fun z => ?_⟩, fun j c h2 => ?_, b.fr0, b.k0⟩⟩
  · obtain ⟨z1, z2, z3⟩ := b.e.ok.wl p e
    exact ⟨⟨z1, fun z => wa (.inl (by rw [e, z]))⟩, z2, z3⟩
  · rcases slot_put ρ i j _ _ hy (by intro z; cases z) with ⟨rfl, z, lt⟩ | ⟨nj, z⟩
    · cases z
      exact ⟨_, h1, .lst (fun z => z.2 rfl) ha (lesss all)⟩
    · obtain ⟨u, h2, h3⟩ := b.e.slot j y z
      refine ⟨u, h2, ?_⟩
      cases y with
      | dat d => exact less h3
      | own es =>
        obtain ⟨a2, ys2, r, o, q, al⟩ := h3
        exact ⟨a2, ys2, r, (if_neg nj).trans o, q, lesss al⟩
      | well => exact h3
      | fn _ => exact h3
  · split at h2
    · cases h2
    · split at h3
      · cases h3
      · exact b.e.inj x y c h2 h3
  · split at h2
    · cases h2
    · rename_i nj
      obtain ⟨z1, z2, z3⟩ := b.e.ow j c h2
      exact ⟨⟨z1, fun z => nj (b.e.inj j i a (by rw [← z]; exact h2) ho)⟩, z2, z3⟩
  · exact n0a (by rw [← z]; exact hc)
  · split at h2
    · cases h2
    · exact b.new j c h2
end
section
variable {Sy : Md} {X : Cx} {E : L2.St → XK} {e : Expr} {st : Stmt} {sts : List Stmt} {te : TD} {tr : TAD} {i n : Nat} {t u : TSD}
def tLsN (t : TA) : TE := fun σ H Q => t σ H fun xs H1 => xs.length ≤ sizeLine ∧ ∀ p, H1 p = none → p ≠ sysModules → Q (.ref p) (upd H1 p (.lst xs))
theorem pe_lsN {es : List Expr} {ta : TA} {pos : Pos} (h : PA X es ta) : PE X (.List es pos) (tLsN ta) := pe_list h
theorem ds_own (h : PS X st (tAsg (tLsN (LA Sy X E n tr)) (gName i))) (hn : n ≤ 1000 := by decide) : PS X st (LS Sy X E (sOwn i tr)) := h.weak fun D σ H ⟨w, N0, H0, N, O, F, ρ, DD, b, h, k⟩ =>
  la_in b k h fun us vs H' hl r b' hv => by
    split at r
    · rename_i ds hd
      obtain ⟨all, l2⟩ := dats_all hv hd
      have l3 := all.length
      exact ⟨by rw [sizeLine_eq]; omega, fun p hp np => k.nx _ _ _ _ _ r (b'.own i hp np all)⟩
    · exact r.elim
theorem ds_app (h : PS X st (tDrop (tBM X.K "list" rAppend (tVar i) (LA Sy X E 1 (dCons te dNil))))) : PS X st (LS Sy X E (sApp i te)) := h.weak fun D σ H ⟨w, N0, H0, N, O, F, ρ, DD, b, h, k⟩ => by
  obtain ⟨ds, hs, h⟩ := ownK_of h
  obtain ⟨v, h1, a, xs, rfl, ho, ha, all⟩ := b.e.slot i _ hs
  refine ⟨_, h1, .inl ⟨rfl, _, .of ha⟩, ?_⟩
  refine la_in (tr := dCons te dNil) (R := fun us => match us with
    | [.dat d] => ds.length < 16000000 ∧ DD.nx (putD ρ i (some (.own (ds ++ [d]))))
    | _ => False) b k h fun us vs H' hl r b' hv => ?_
  split at r
  · rename_i d
    obtain ⟨hlen, r⟩ := r
    match vs, hv with
    | [v], hv =>
      obtain ⟨v2, h2, a2, xs2, e2, ho2, ha2, all2⟩ := b'.e.slot i _ hs
      rw [ho] at ho2
      cases ho2
      refine ⟨a, xs2, v, rfl, rfl, ha2, by rw [all2.length, sizeLine_eq]; omega, ?_⟩
      exact k.nx _ _ _ _ _ r (b'.ownSet hs ho ha2 (all2.app (.cons hv.1 .nil)))
  · exact r.elim
theorem ds_ext (h : PS X st (tDrop (tBM X.K "list" rExtend (tVar i) (LA Sy X E 1 (dCons te dNil))))) : PS X st (LS Sy X E (sExt i te)) := h.weak fun D σ H ⟨w, N0, H0, N, O, F, ρ, DD, b, h, k⟩ => by
  obtain ⟨ds, hs, h⟩ := ownK_of h
  obtain ⟨v, h1, a, xs, rfl, ho, ha, all⟩ := b.e.slot i _ hs
  refine ⟨_, h1, .inl ⟨rfl, _, .of ha⟩, ?_⟩
  refine la_in (tr := dCons te dNil) (R := fun us => match us with
    | [.dat (.list es)] => ds.length + es.length < 16000000 ∧ DD.nx (putD ρ i (some (.own (ds ++ es))))
    | _ => False) b k ?_ fun us vs H' hl r b' hv => ?_
  · show te ρ (fun d => match [Sv.dat d] with
      | [.dat (.list es)] => ds.length + es.length < 16000000 ∧ DD.nx (putD ρ i (some (.own (ds ++ es))))
      | _ => False) (DD.ex ρ)
    have e : (fun d => match [Sv.dat d] with
      | [.dat (.list es)] => ds.length + es.length < 16000000 ∧ DD.nx (putD ρ i (some (.own (ds ++ es))))
      | _ => False) = fun d => match d with
      | .list es => ds.length + es.length < 16000000 ∧ DD.nx (putD ρ i (some (.own (ds ++ es))))
      | _ => False := funext fun d => by cases d <;> rfl
    rw [e]
    exact h
  split at r
  · obtain ⟨hlen, r⟩ := r
    match vs, hv with
    | [v], hv =>
      obtain ⟨v2, h2, a2, xs2, e2, ho2, ha2, all2⟩ := b'.e.slot i _ hs
      rw [ho] at ho2
      cases ho2
      cases hv.1 with
      | lst nn ea all3 =>
        refine ⟨a, _, xs2, _, rfl, rfl, ha2, ea, by rw [all2.length, all3.length, sizeLine_eq]; omega, ?_⟩
        exact k.nx _ _ _ _ _ r (b'.ownSet hs ho ha2 (all2.app all3))
  · exact r.elim
theorem ds_ins (h : PS X st (tDrop (tBM X.K "list" (fun x vs H Q => ∃ (l : Addr) (xs : List V) (i : Int) (y : V), x = .ref l ∧ vs = [.int i, y] ∧ H l = some (.lst xs) ∧ xs.length < sizeLine ∧ 0 ≤ i ∧ i < 2 ^ 63 ∧ Q .non (upd H l (.lst (xs.take i.toNat ++ [y] ++ xs.drop i.toNat)))) (tVar i) (LA Sy X E n tr)))) : PS X st (LS Sy X E (sIns i tr)) := h.weak fun D σ H ⟨w, N0, H0, N, O, F, ρ, DD, b, h, k⟩ => by
  obtain ⟨ds, hs, h⟩ := ownK_of h
  obtain ⟨v, h1, a, xs, rfl, ho, ha, all⟩ := b.e.slot i _ hs
  refine ⟨_, h1, .inl ⟨rfl, _, .of ha⟩, ?_⟩
  refine la_in (tr := tr) b k h fun us vs H' hl r b' hv => ?_
  split at r
  · obtain ⟨⟨hlen, z0, z1⟩, r⟩ := r
    match vs, hv with
    | [v, u], hv =>
      obtain ⟨v2, h2, a2, xs2, e2, ho2, ha2, all2⟩ := b'.e.slot i _ hs
      rw [ho] at ho2
      cases ho2
      cases hv.1
      refine ⟨a, xs2, _, u, rfl, rfl, ha2, by rw [all2.length, sizeLine_eq]; omega, z0, z1, ?_⟩
      exact k.nx _ _ _ _ _ r (b'.ownSet hs ho ha2 (((all2.take _).app (.cons hv.2.1 .nil)).app (all2.drop _)))
  · exact r.elim
theorem dvs_set {N : Bn} {H : Hp} : ∀ {xs : List V} {ds : List PyData} {j : Nat} {v : V} {d : PyData}, DvAll N H xs ds → Dv N H v d → DvAll N H (xs.set j v) (ds.set j d)
  | _, _, _, _, _, .nil, _ => .nil
  | _, _, 0, _, _, .cons a b, h => .cons h b
  | _, _, j + 1, _, _, .cons a b, h => .cons a (dvs_set b h)
theorem ds_put {tk : TD} (h : PS X st (tAsg (LE Sy X E te) (gSub (tVar i) (LE Sy X E tk) rSetL))) : PS X st (LS Sy X E (sPut i te tk)) := h.weak fun D σ H ⟨w, N0, H0, N, O, F, ρ, DD, b, h, k⟩ =>
  le_in b k h fun d v H1 r b1 dv => by
    obtain ⟨ds, hs, r⟩ := ownK_of r
    obtain ⟨v0, h1, a, xs, rfl, ho, ha, all⟩ := b1.e.slot i _ hs
    refine ⟨_, h1, ?_⟩
    refine ⟨w, N, O, F, ρ, _, _, b1.e, r, fun x u H2 r2 s2 du => ?_, fun x cls dx H' hx s hh => k.ex N O H' σ ρ x cls dx hx (b1.step s) hh⟩
    have b2 := b1.step s2
    split at r2
    · split at r2
      · rename_i e
        cases du
        obtain ⟨v2, h2, a2, xs2, e2, ho2, ha2, all2⟩ := b2.e.slot i _ hs
        rw [ho] at ho2
        cases ho2
        have k12 : Dv N H2 v d := dv_step dv b1.e.hw s2
        exact ⟨a, xs2, _, _, rfl, rfl, ha2, by rw [all2.length]; exact e, k.nx _ _ _ _ _ r2 (b2.ownSet hs ho ha2 (dvs_set all2 k12))⟩
      · exact r2.elim
    · exact r2.elim
theorem ds_frz (h : PSs X sts (LS Sy X E t)) : PSs X sts (LS Sy X E (sSeq (sFrz i) t)) := h.weak fun D σ H ⟨w, N0, H0, N, O, F, ρ, DD, b, h, k⟩ => by
  obtain ⟨ds, hs, h⟩ := ownK_of (show ownK (slotD ρ i) fun ds => t DD (putD ρ i (some (.dat (.list ds)))) from h)
  obtain ⟨N', O', b'⟩ := b.frz hs
  exact ⟨w, N0, H0, N', O', F, _, DD, b', h, k⟩
theorem d_ownLen (h : PE X e (tCB (fun xs H Q => ∃ x n, xs = [x] ∧ LenV X.K x H n ∧ Q (.int n) H) (tCons (tVar i) tNil))) : PE X e (LE Sy X E (dOwnLen i)) := h.weak fun σ H Q ⟨w, N, O, F, ρ, R, Ex, en, t, q, qx⟩ => by
  obtain ⟨ds, hs, r⟩ := ownK_of t
  obtain ⟨v, h1, a, xs, rfl, ho, ha, all⟩ := en.slot i _ hs
  exact ⟨_, h1, _, _, rfl, .inl ⟨_, .of ha, rfl⟩, q _ _ H r (.refl _ _) (by rw [all.length]; exact .int _)⟩
theorem d_ownIx (h : PE X e (tOp (rIx X.K) (tVar i) (LE Sy X E te))) : PE X e (LE Sy X E (dOwnIx i te)) := h.weak fun σ H Q ⟨w, N, O, F, ρ, R, Ex, en, t, q, qx⟩ => by
  obtain ⟨ds, hs, r⟩ := ownK_of t
  obtain ⟨v, h1, a, xs, rfl, ho, ha, all⟩ := en.slot i _ hs
  refine ⟨_, h1, w, N, O, F, ρ, _, Ex, en, r, fun x u H1 r1 k1 dx => ?_, qx⟩
  have en1 := en.step k1
  obtain ⟨v2, h2, a2, xs2, e2, ho2, ha2, all2⟩ := en1.slot i _ hs
  rw [ho] at ho2
  cases ho2
  split at r1
  · split at r1
    · rename_i e
      cases dx
      obtain ⟨z, z1, z2⟩ := atD_get all2 e
      exact .inl ⟨_, _, _, z, rfl, rfl, .of ha2, z1, q _ z H1 r1 k1 z2⟩
    · exact r1.elim
  · exact r1.elim
/-! ### raise -/
def sRaise (c f : Str) (ta : TAD) : TSD := fun D ρ => ta ρ (fun us => match us with
  | [.dat d] => D.ex ρ (c, [(f, d)])
  | _ => False) (D.ex ρ)
theorem ds_raise {c f : Str} {st0 : Stmt} {C fI : Addr} {fd : FuncData} (ec : Ec X.K X.mg c f st0 C fI fd) (h : PS X st (fun _ σ H => tMk1 C f (LA Sy X E n tr) σ H fun cls d H' => E σ cls d H')) : PS X st (LS Sy X E (sRaise c f tr)) := h.weak fun D σ H ⟨w, N0, H0, N, O, F, ρ, DD, b, h, k⟩ =>
  la_in b k h fun us vs H' hl r b' hv => by
    split at r
    · match vs, hv with
      | [v], hv =>
        refine ⟨v, rfl, fun d H2 s hd e => ?_⟩
        exact k.ex _ _ H2 _ _ _ _ _ r (b'.step (.of s)) ⟨C, ec.gC, rfl, d, v, rfl, e, dv_step hv.1 b'.e.hw (.of s)⟩
    · exact r.elim
/-! ### calls -/
theorem pass_none {P : Program} {w : World} {σ : L2.St} : PassesAt (L2.CX P w) X σ (fun _ _ _ => False) := fun _ _ _ _ _ _ ⟨_, _, _, _, _, _, _, _, _, _, _, _, z⟩ => z.elim
end
/-- a def that lets no exception out -/
theorem _root_.Lw.Cl.up {P : Program} {w : World} {K : PySem.W.Frag} {mg : Str → Option Value} {base : Heap} {k : Nat} {x : Str} {sp : Sp} (c : Cl CX0 P w K mg base k x sp) : Cl (L2.CX P w) P w K mg base k x sp := by
  obtain ⟨f, fd, ps, F, a, b, d⟩ := c.ex
  refine ⟨f, fd, ps, ⟨F.len, fun A hr hg outer s H e0 args us vs hb r Q E z => codeAny_mono (F.run A hr hg outer s H e0 args us vs hb r Q E z) fun r s' h => ?_⟩, a, b, d⟩
  rcases r with er | (_ | _ | _ | u)
  · exact h.elim
  · exact h
  · exact h
  · exact h
  · exact h
end Ld
namespace Ld
open PySem PySem.Spec PyProof.Rows L2 Lw
/-! ### within a comprehension's block -/
section
variable {Sy : Md} {X : Cx} {s : Shared} {H : Hp} {scope : Scope} {cenv : PySem.Env} {fp : List Addr} {e : Expr} {es : List Expr} {t : TD} {tt : TTD}
theorem le_blk (h : PE (X.blk s H scope cenv fp) e (LE Sy (X.blk s H scope cenv fp) EX0 t)) : PE (X.blk s H scope cenv fp) e (LE Sy X EX0 t) := h
theorem lt_blk (h : PTs (X.blk s H scope cenv fp) es (LT Sy (X.blk s H scope cenv fp) EX0 tt)) : PTs (X.blk s H scope cenv fp) es (LT Sy X EX0 tt) := h
end
def dNotV (ta : TD) : TD := fun ρ R Ex => ta ρ (fun x => truK x fun b => R (.bool (!b))) Ex
def dTb (ta : TD) : TTD := fun ρ R Ex => ta ρ (fun x => match x with
  | .bool b => R b
  | _ => False) Ex
section
variable {Sy : Md} {X : Cx} {E : L2.St → XK} {e : Expr} {st : Stmt} {ta te : TD} {i : Nat}
theorem d_notW (h : PE X e (tNotT X.K (LE Sy X E ta))) : PE X e (LE Sy X E (dNotV ta)) := d_notV h
theorem dt_bl (h : PT X e (tB (LE Sy X E ta))) : PT X e (LT Sy X E (dTb ta)) := h.weak fun σ H Q ⟨w, N, O, F, ρ, R, Ex, en, t, q, qx⟩ => by
  refine ⟨w, N, O, F, ρ, _, Ex, en, t, fun x v H1 r k dx => ?_, qx⟩
  split at r
  · cases dx
    exact ⟨_, rfl, q _ _ r k⟩
  · exact r.elim
/-- x op= e, of numbers -/
def sAug (i : Nat) (g : Int → Int → Int) (t : TD) : TSD := fun D ρ => match slotD ρ i with
  | some (.dat (.int a)) => t ρ (fun d => match d with
    | .int b => D.nx (putD ρ i (some (.dat (.int (g a b)))))
    | _ => False) (D.ex ρ)
  | _ => False
theorem ds_aug {g : Int → Int → Int} (h : PS X st (tAug i (LE Sy X E te) (ipI g))) : PS X st (LS Sy X E (sAug i g te)) := h.weak fun D σ H ⟨w, N0, H0, N, O, F, ρ, DD, b, h, k⟩ => by
  unfold sAug at h
  split at h
  · rename_i a hs
    obtain ⟨v, h1, h2⟩ := b.e.slot i _ hs
    cases h2
    refine ⟨_, h1, le_in b k h fun d u H1 r b1 du => ?_⟩
    split at r
    · cases du
      exact ⟨_, _, rfl, rfl, k.nx _ _ H1 _ _ r (b1.put i (.int _))⟩
    · exact r.elim
  · exact h.elim
end
section
variable {Sy : Md} {X : Cx} {E : L2.St → XK} {st : Stmt} {tr : TAD} {i j l n : Nat}
theorem ds_par3 (h : PS X st (tPar3 i j l (LA Sy X E n tr))) : PS X st (LS Sy X E (sPar3 i j l tr)) := h.weak fun D σ H ⟨w, N0, H0, N, O, F, ρ, DD, b, h, k⟩ =>
  la_in b k h fun us vs H' hl r b' hv => by
    match us, vs, r, hv with
    | [.dat a, .dat c, .dat d], [v, u, x], r, hv =>
      exact ⟨v, u, x, rfl, k.nx _ _ H' _ _ r (((b'.put i hv.1).put j hv.2.1).put l hv.2.2.1)⟩
end
/-- n draws: any numbers below n -/
def t_draw : TF := fun us R _ => match us with
  | [.well, .dat (.int n)] => 0 < n ∧ n < 2 ^ 64 ∧ ∀ k, 0 ≤ k → k < n → R (.int k)
  | _ => False
end Ld

namespace Ld
open PySem L2 Lw
section
variable {R : RD} {Q : Bool → Prop} {i j : Int} {a b : List PyData} {x y : Str} {k : Nat} {d e : PyData} {s t : Bool}
theorem e_int {g : Int → Int → Int} {C : Int → Int → Prop} : fInt g C (.int i) (.int j) R = (C i j ∧ R (.int (g i j))) := rfl
theorem e_int0 {g : Int → Int → Int} : fInt0 g (.int i) (.int j) R = R (.int (g i j)) := rfl
theorem e_add : fAddG (.int i) (.int j) R = R (.int (i + j)) := rfl
theorem e_addT : fAddG (.tuple a) (.tuple b) R = (a.length + b.length ≤ 16000000 ∧ R (.tuple (a ++ b))) := rfl
theorem e_addL : fAddG (.list a) (.list b) R = (a.length + b.length ≤ 16000000 ∧ R (.list (a ++ b))) := rfl
theorem e_addSI : fAddS (.int i) (.int j) R = R (.int (i + j)) := rfl
theorem e_addST : fAddS (.tuple a) (.tuple b) R = (a.length + b.length ≤ 16000000 ∧ R (.tuple (a ++ b))) := rfl
theorem e_shl : fShl (.int i) (.int j) R = (i = 1 ∧ 0 ≤ j ∧ j ≤ 134217727 ∧ R (.int (2 ^ j.toNat))) := rfl
theorem e_ci {g : Int → Int → Bool} : fCI g (.int i) (.int j) Q = Q (g i j) := rfl
theorem e_eqI : fEq (.int i) (.int j) Q = Q (decide (i = j)) := rfl
theorem e_eqS : fEq (.str x) (.str y) Q = Q (decide (x = y)) := rfl
theorem e_eqB : fEq (.bool s) (.bool t) Q = Q (decide (s = t)) := rfl
theorem e_eqT : fEq (.tuple a) (.tuple b) Q = (SeqAt.shaped (.tuple a) = true ∧ SeqAt.shaped (.tuple b) = true ∧ Q (PyData.eqv (.tuple a) (.tuple b))) := rfl
theorem e_neI : fNe (.int i) (.int j) Q = Q (!decide (i = j)) := rfl
theorem e_neS : fNe (.str x) (.str y) Q = Q (!decide (x = y)) := rfl
theorem e_neB : fNe (.bool s) (.bool t) Q = Q (!decide (s = t)) := rfl
theorem e_neT : fNe (.tuple a) (.tuple b) Q = (SeqAt.shaped (.tuple a) = true ∧ SeqAt.shaped (.tuple b) = true ∧ Q (!PyData.eqv (.tuple a) (.tuple b))) := rfl
theorem e_isN : fIsN d .none Q = (true = true ∧ Q (isNon d)) := rfl
theorem e_notN : fNotN d .none Q = (true = true ∧ Q (!isNon d)) := rfl
theorem e_nthT : fNth k (.tuple a) R = nthL a k R := rfl
theorem e_nthL : fNth k (.list a) R = nthL a k R := rfl
theorem e_lenT : fLen [.tuple a] R = R (.int a.length) := rfl
theorem e_lenL : fLen [.list a] R = R (.int a.length) := rfl
theorem e_lenS : fLen [.str x] R = (x.length ≤ sizeLine ∧ R (.int x.length)) := rfl
theorem e_i1 {g : Int → Int} : fI1 g [.int i] R = R (.int (g i)) := rfl
theorem e_i2 {g : Int → Int → Int} : fI2 g [.int i, .int j] R = R (.int (g i j)) := rfl
theorem e_intO : fIntO [.int i] R = R (.int i) := rfl
theorem e_intB : fIntO [.bool s] R = R (.int (if s = true then 1 else 0)) := rfl
theorem e_isqrt : fIsqrt [.int i] R = (0 ≤ i ∧ i.natAbs < 2 ^ 13000 ∧ R (.int (isq i))) := rfl
theorem e_divmod : fDivmod [.int i, .int j] R = (CDivP i j ∧ R (.tuple [.int (i / j), .int (i % j)])) := rfl
theorem e_repr : fRepr [d] R = (d.hasDict = false ∧ shows d ∧ R (.str d.shown)) := rfl
theorem e_reprS : fReprS [d] R = (shows d ∧ R (.str d.shown)) := rfl
theorem e_bools {g : List Bool → Bool} : fBools g [.list a] R = match boolsOf a with | some bs => R (.bool (g bs)) | none => False := rfl
theorem e_tupL : fTupO [.list a] R = R (.tuple a) := rfl
theorem e_tupT : fTupO [.tuple a] R = R (.tuple a) := rfl
theorem e_lst : fLstO [.tuple a] R = R (.list a) := rfl
theorem e_truB : truK (.bool s) Q = Q s := rfl
theorem e_truI : truK (.int i) Q = Q (i != 0) := rfl
theorem e_truN : truK .none Q = Q false := rfl
theorem e_truL : truK (.list a) Q = Q (!a.isEmpty) := rfl
theorem e_truT : truK (.tuple a) Q = Q (!a.isEmpty) := rfl
theorem e_neg : fNeg (.int i) R = R (.int (-i)) := rfl
theorem e_bits : fBits (.int i) R = R (.int (Builtin.Int.intBits i : Nat)) := rfl
theorem e_back : fBack (.tuple a) R = R (.tuple a.reverse) := rfl
theorem e_backL : fBackL (.list a) R = R (.list a.reverse) := rfl
theorem e_slT {lo hi : Option Int} : fSl (.tuple a) lo hi R = R (.tuple (Lw.cutD a lo hi)) := rfl
theorem e_slL {lo hi : Option Int} : fSl (.list a) lo hi R = R (.list (Lw.cutD a lo hi)) := rfl
theorem e_slST {lo hi : Option Int} : fSlS (.tuple a) lo hi R = R (.tuple (Lw.cutD a lo hi)) := rfl
theorem e_gdT {n : Nat} {gs : GsD} {ρ : Env} {K : Env → Prop} : gdT n gs (.tuple a) ρ K = lenK a n (gs a ρ K) := rfl
theorem e_ixT {z : Int} : fIx (.tuple a) (.int z) R = match atD a z with | some d => R d | none => False := rfl
theorem e_ixL {z : Int} : fIx (.list a) (.int z) R = match atD a z with | some d => R d | none => False := rfl
end
/-- a test, both ways -/
theorem dif {b : Bool} {A B : Prop} (h1 : b = true → A) (h0 : b = false → B) : if b = true then A else B := by
  cases b
  · rw [if_neg (by decide)]
    exact h0 rfl
  · rw [if_pos rfl]
    exact h1 rfl
end Ld

namespace Ld
open PySem L2 Lw
/-! ### loops by what stands -/
theorem whileD_by {c : TTD} {tb : TSD} {D : EndsD} (Inv : Env → Prop) (m : Env → Nat)
    (step : ∀ ρ (K : Env → Prop), Inv ρ → (∀ ρ', Inv ρ' → m ρ' < m ρ → K ρ') → c ρ (fun b => if b = true then tb { D with nx := K, ct := K, bk := D.nx } ρ else D.nx ρ) (D.ex ρ)) :
    ∀ n ρ, Inv ρ → m ρ < n → whileD c tb D n ρ
  | 0, _, _, h => absurd h (Nat.not_lt_zero _)
  | n + 1, ρ, i, h => step ρ (whileD c tb D n) i fun ρ' i' h' => whileD_by Inv m step n ρ' i' (by omega)
theorem while_d {c : TTD} {tb : TSD} {D : EndsD} {ρ : Env} (Inv : Env → Prop) (m : Env → Nat) (h : Inv ρ)
    (step : ∀ ρ (K : Env → Prop), Inv ρ → (∀ ρ', Inv ρ' → m ρ' < m ρ → K ρ') → c ρ (fun b => if b = true then tb { D with nx := K, ct := K, bk := D.nx } ρ else D.nx ρ) (D.ex ρ)) : sWhile c tb D ρ :=
  ⟨m ρ + 1, whileD_by Inv m step _ ρ h (Nat.lt_succ_self _)⟩
theorem forD_by {g : GD} {tb : TSD} {D : EndsD} (Inv : List PyData → Env → Prop)
    (step : ∀ d r ρ (K : Env → Prop), Inv (d :: r) ρ → (∀ ρ', Inv r ρ' → K ρ') → g d ρ (fun ρ1 => tb { D with nx := K, ct := K, bk := D.nx } ρ1))
    (last : ∀ ρ, Inv [] ρ → D.nx ρ) : ∀ ds ρ, Inv ds ρ → forD g tb D ds ρ
  | [], ρ, h => last ρ h
  | d :: r, ρ, h => step d r ρ (forD g tb D r) h fun ρ' h' => forD_by Inv step last r ρ' h'
theorem for_d {g : GD} {tb : TSD} {D : EndsD} {ds : List PyData} {ρ : Env} (Inv : List PyData → Env → Prop) (h : Inv ds ρ)
    (step : ∀ d r ρ (K : Env → Prop), Inv (d :: r) ρ → (∀ ρ', Inv r ρ' → K ρ') → g d ρ (fun ρ1 => tb { D with nx := K, ct := K, bk := D.nx } ρ1))
    (last : ∀ ρ, Inv [] ρ → D.nx ρ) : forD g tb D ds ρ := forD_by Inv step last ds ρ h
/-- a walk over whole numbers -/
theorem range_d {g : GD} {tb : TSD} {D : EndsD} {lo : Int} {n : Nat} {ρ : Env} (Inv : Nat → Env → Prop) (h : Inv 0 ρ)
    (step : ∀ i ρ (K : Env → Prop), i < n → Inv i ρ → (∀ ρ', Inv (i + 1) ρ' → K ρ') → g (.int (lo + (i : Int))) ρ (fun ρ1 => tb { D with nx := K, ct := K, bk := D.nx } ρ1))
    (last : ∀ ρ, Inv n ρ → D.nx ρ) : forD g tb D (rangeD lo n) ρ := by
  refine for_d (fun ds ρ => ∃ i, i ≤ n ∧ ds = (rangeD lo n).drop i ∧ Inv i ρ) ⟨0, Nat.zero_le _, rfl, h⟩ ?_ ?_
  · rintro d r ρ K ⟨i, hi, e, h⟩ k
    obtain ⟨e1, e2⟩ := drop_get e.symm
    obtain ⟨hn, rfl⟩ := rangeD_get e1
    exact step i ρ K hn h fun ρ' h' => k ρ' ⟨i + 1, hn, e2.symm, h'⟩
  · rintro ρ ⟨i, hi, e, h⟩
    have := drop_end (l := rangeD lo n) (i := i) (by rw [rangeD_len]; exact hi) e.symm
    rw [rangeD_len] at this
    subst this
    exact last ρ h
/-! ### tests -/
theorem difP {p : Prop} [Decidable p] {A B : Prop} (h1 : p → A) (h0 : ¬ p → B) : if decide p = true then A else B := dif (fun c => h1 (of_decide_eq_true c)) (fun c => h0 (of_decide_eq_false c))
theorem difN {p : Prop} [Decidable p] {A B : Prop} (h1 : ¬ p → A) (h0 : p → B) : if (!decide p) = true then A else B := dif (fun c => h1 (by simpa using c)) (fun c => h0 (by simpa using c))
theorem difT {A B : Prop} (h : A) : if true = true then A else B := by rw [if_pos rfl]; exact h
theorem difF {A B : Prop} (h : B) : if false = true then A else B := by rw [if_neg (by decide)]; exact h
/-- a call of a def whose reading stands under another name -/
theorem st {t k : TF} (e : t = k) {us : List Sv} {R : RD} {Ex : XD} (h : t us R Ex) : k us R Ex := e ▸ h
theorem tf_at {N : List Str} {t : TSD} {us : List Sv} {R : RD} {Ex : XD} {e : Env} (h : startD us N = e) (k : t { nx := fun _ => R .none, rt := R, ex := fun _ => Ex } e) : tfOf N t us R Ex := by
  unfold tfOf
  rw [h]
  exact k
end Ld

namespace Ld
open PySem PySem.Spec PyProof.Rows L2
open Lw hiding Dv DvAll FreshB tData tDatas pd_int pd_bl pd_non pd_str pd_neg pd_pow pda_nil pda_cons pd_tup pd_lst pd_dct dv_cut dv_cat tup_at rRepr call_repr rIsD call_isD
/-! ### from the layer of data to the law's end -/
section
variable {P : Program} {w : World} {K : PySem.W.Frag} {mg : Str → Option Value} {base : Heap}
theorem _root_.Lw.Cl.down {k : Nat} {x : Str} {sp sp0 : Sp} (c : Cl (L2.CX P w) P w K mg base k x sp) (h0 : ∀ vs H Q E, sp0 vs H Q E → sp vs H Q E0) : Cl CX0 P w K mg base k x sp0 := by
  obtain ⟨f, fd, ps, F, a, b, d⟩ := c.ex
  refine ⟨f, fd, ps, ⟨fun vs H Q E z => F.len vs H Q E0 (h0 vs H Q E z), fun A hr hg outer s H e0 args us vs hb r Q E z => codeAny_mono (F.run A hr hg outer s H e0 args us vs hb r Q E0 (h0 vs H Q E z)) fun r s' h => ?_⟩, a, b, d⟩
  rcases r with er | (_ | _ | _ | u)
  · obtain ⟨_, _, _, _, _, _, _, _, _, _, _, _, z⟩ := h
    exact z.elim
  · exact h
  · exact h
  · exact h
  · exact h
/-- what a law's right tells of a well -/
def spRightD : Sp := fun vs H Q _ => ∃ p : Addr, vs = [.ref p] ∧ p ≠ sysModules ∧ WellAt H p ∧ ∀ H', After p H H' → Q (.bl true) H'
theorem right_end {k : Nat} {x : Str} {t : TF} (c : Cl (L2.CX P w) P w K mg base k x (spF ⟨base, K, ⟨false, []⟩⟩ mg 1 t)) (ht : ∀ (R : RD) (Ex : XD), R (.bool true) → t [.well] R Ex) : Cl CX0 P w K mg base k x spRightD :=
  c.down fun vs H Q E h => by
    obtain ⟨p, rfl, np, wl, q⟩ := h
    have hp : ∀ a, H a = none → ¬ a = p := fun a ha e => by
      obtain ⟨x, m, y, z, _⟩ := wl
      rw [e, z] at ha
      cases ha
    refine ⟨⟨some p, []⟩, ⟨K, fun a => a = p⟩, [.well], fun d => d = .bool true, fun _ => False, rfl, ⟨⟨p, rfl, rfl⟩, trivial⟩, ⟨fun a e => by cases e; exact ⟨rfl, np, wl⟩, fun a ha _ => hp a ha, fun z => (nomatch z), fun _ a ha => hp a ha, rfl, fun q hq => (nomatch hq), fun q hq => (nomatch hq), rfl, fun a ps _ c _ z => c (.inl (congrArg some z.symm))⟩, ht _ _ rfl, fun d v H' hd s dv => ?_, fun _ _ _ _ z => z.elim⟩
    subst hd
    cases dv
    exact q H' (s.after wl)
/-- .. with tables of code objects -/
def spRightT (T : List (Addr × Str)) : Sp := fun vs H Q _ => ∃ p : Addr, vs = [.ref p] ∧ p ≠ sysModules ∧ WellAt H p ∧ LamX.Tabs T H ∧ ∀ H', Stp ⟨some p, T⟩ H H' → Q (.bl true) H'
theorem right_endT {k : Nat} {x : Str} {t : TF} {T : List (Addr × Str)} (c : Cl (L2.CX P w) P w K mg base k x (spF ⟨base, K, ⟨false, T⟩⟩ mg 1 t)) (ht : ∀ (R : RD) (Ex : XD), R (.bool true) → t [.well] R Ex) : Cl CX0 P w K mg base k x (spRightT T) :=
  c.down fun vs H Q E h => by
    obtain ⟨p, rfl, np, wl, tb, q⟩ := h
    have hp : ∀ a, H a = none → ¬ (a = p ∨ ∃ q ∈ T, q.1 = a) := fun a ha e => by
      rcases e with e | ⟨y, hy, e⟩
      · obtain ⟨x, m, y, z, _⟩ := wl
        rw [e, z] at ha
        cases ha
      · obtain ⟨ps, z, _⟩ := tb y hy
        rw [e, ha] at z
        cases z
    refine ⟨⟨some p, T⟩, ⟨K, fun a => a = p ∨ ∃ q ∈ T, q.1 = a⟩, [.well], fun d => d = .bool true, fun _ => False, rfl, ⟨⟨p, rfl, rfl⟩, trivial⟩, ⟨fun a e => by cases e; exact ⟨.inl rfl, np, wl⟩, fun a ha _ => hp a ha, fun z => (nomatch z), fun _ a ha => hp a ha, rfl, fun q hq => .inr ⟨q, hq, rfl⟩, tb, rfl, fun a ps _ c _ z => c (z.elim (fun z => .inl (congrArg some z.symm)) fun ⟨q, hq, e⟩ => .inr ⟨q, hq, e⟩)⟩, ht _ _ rfl, fun d v H' hd s dv => ?_, fun _ _ _ _ z => z.elim⟩
    subst hd
    cases dv
    exact q H' s
end
end Ld

namespace Ld
open PySem L2 Lw
/-! ### data that may be told as texts -/
theorem shows_of {B n m : Nat} {d : PyData} (h : Fit B n m d) (hB : B ≤ 1900) (hn : n ≤ 16000000) (hm : m ≤ 100) : shows d :=
  ⟨fine_showable hB d h.f, Nat.le_trans h.d hm, by
    have q := shown_le hB d h.f
    have z := h.w
    rw [sizeLine_eq]
    omega⟩
structure Say (n m : Nat) (d : PyData) : Prop where
  fit : Fit 1900 n m d
  nd : d.hasDict = false
theorem Say.all {n m : Nat} {d : PyData} (h : Say n m d) (hn : n ≤ 16000000) (hm : m ≤ 100) : d.hasDict = false ∧ shows d := ⟨h.nd, shows_of h.fit (by decide) hn hm⟩
theorem Say.mono {n m n' m' : Nat} {d : PyData} (h : Say n m d) (a : n ≤ n') (b : m ≤ m') : Say n' m' d := ⟨h.fit.mono (Nat.le_refl _) a b, h.nd⟩
theorem say_int {i : Int} (h : i.natAbs < 2 ^ 1900) : Say 2000 0 (.int i) := ⟨⟨h, Nat.le_refl _, Nat.le_refl _⟩, rfl⟩
theorem say_bool (b : Bool) : Say 2000 0 (.bool b) := ⟨⟨trivial, Nat.le_refl _, Nat.le_refl _⟩, rfl⟩
theorem say_none : Say 2000 0 .none := ⟨⟨trivial, Nat.le_refl _, Nat.le_refl _⟩, rfl⟩
theorem say_str {x : Str} (h : (reprText x).length ≤ 100) : Say 2000 0 (.str x) := ⟨⟨h, Nat.le_refl _, Nat.le_refl _⟩, rfl⟩
theorem say_list {n m : Nat} : ∀ {ds : List PyData}, (∀ d ∈ ds, Say n m d) → fineAll 1900 ds ∧ wtAll ds ≤ ds.length * (n + 2) ∧ PyData.depthAll ds ≤ m ∧ PyData.hasDictAll ds = false
  | [], _ => ⟨trivial, by show 0 ≤ _; omega, by show 0 ≤ _; omega, rfl⟩
  | x :: r, h => by
    obtain ⟨a, b, c, d⟩ := say_list (ds := r) fun y hy => h y (List.mem_cons_of_mem _ hy)
    have s := h x (List.mem_cons_self ..)
    have w := s.fit.w
    have dd := s.fit.d
    refine ⟨⟨s.fit.f, a⟩, ?_, ?_, ?_⟩
    · show wt x + 2 + wtAll r ≤ (r.length + 1) * (n + 2)
      have e : (r.length + 1) * (n + 2) = r.length * (n + 2) + (n + 2) := Nat.succ_mul _ _
      omega
    · show max x.depth (PyData.depthAll r) ≤ m
      omega
    · show (x.hasDict || PyData.hasDictAll r) = false
      rw [s.nd, d] <;> rfl
theorem say_tup {n m k : Nat} {ds : List PyData} (h : ∀ d ∈ ds, Say n m d) (hk : ds.length ≤ k) : Say (k * (n + 2) + 2000) (m + 1) (.tuple ds) := by
  obtain ⟨a, b, c, d⟩ := say_list h
  refine ⟨⟨a, ?_, ?_⟩, d⟩
  · show wtAll ds + 2000 ≤ _
    have := Nat.mul_le_mul_right (n + 2) hk
    omega
  · show PyData.depthAll ds + 1 ≤ _
    omega
theorem say_lst {n m k : Nat} {ds : List PyData} (h : ∀ d ∈ ds, Say n m d) (hk : ds.length ≤ k) : Say (k * (n + 2) + 2000) (m + 1) (.list ds) := by
  obtain ⟨a, b, c, d⟩ := say_list h
  refine ⟨⟨a, ?_, ?_⟩, d⟩
  · show wtAll ds + 2000 ≤ _
    have := Nat.mul_le_mul_right (n + 2) hk
    omega
  · show PyData.depthAll ds + 1 ≤ _
    omega
theorem say_two {n m : Nat} {x y : PyData} (h1 : Say n m x) (h2 : Say n m y) : Say (2 * (n + 2) + 2000) (m + 1) (.tuple [x, y]) := say_tup (fun d hd => by
  simp only [List.mem_cons, List.not_mem_nil, or_false] at hd
  rcases hd with rfl | rfl
  · exact h1
  · exact h2) (Nat.le_refl 2)
theorem say_quad {p q s : Int} {u : Bool} (z1 : p.natAbs < 2 ^ 1900) (z2 : q.natAbs < 2 ^ 1900) (z3 : s.natAbs < 2 ^ 1900) : Say 10100 1 (.tuple [.int p, .int q, .int s, .bool u]) := (say_tup (n := 2000) (m := 0) (k := 4) (fun d hd => by
  simp only [List.mem_cons, List.not_mem_nil, or_false] at hd
  rcases hd with rfl | rfl | rfl | rfl
  · exact say_int z1
  · exact say_int z2
  · exact say_int z3
  · exact say_bool u) (by simp)).mono (by decide) (by decide)
theorem say_frac {a b : Int} (hb : 0 < b) (z1 : a.natAbs < 2 ^ 1900) (z2 : b.natAbs < 2 ^ 1900) : Say 10100 1 (fracD a b) := by
  have le := red_le (a := a) hb
  exact (say_two (n := 2000) (m := 0) (say_int (by omega)) (say_int (by omega))).mono (by decide) (by decide)
/-- a number's form -/
theorem say_num {a b r d : Int} (hd : 0 < d) (hr : 0 ≤ r) (za : a.natAbs < 2 ^ 900) (zb : b.natAbs < 2 ^ 500) (zr : r.natAbs < 2 ^ 800) (zd : d.natAbs < 2 ^ 900) : Say 10100 1 (formD a b r d) := by
  by_cases c : b = 0 ∨ isSqB r = true
  · rw [form_flat c]
    have m := mul_lt zb (isq_small zr)
    have ad := add_lt (two_le za (show 900 ≤ 1300 by decide)) (two_le m (show 500 + 800 ≤ 1300 by decide))
    exact say_frac hd (two_le ad (by decide)) (two_le zd (by decide))
  · have hb : b ≠ 0 := fun z => c (.inl z)
    have g0 := gcd_pos3 (a := 0 - 2 * a * d) (b := a * a - b * b * r) hd
    have w1 := mul_lt zd zd
    have w2 : (2 * a : Int).natAbs < 2 ^ (2 + 900) := mul_lt (by decide) za
    have w3 := mul_lt w2 zd
    have w4 := mul_lt za za
    have w6 := mul_lt (mul_lt zb zb) zr
    have s1 : (0 - 2 * a * d : Int).natAbs < 2 ^ 1802 := by omega
    have s2 : (a * a - b * b * r : Int).natAbs < 2 ^ (1800 + 1) := sub_lt (two_le w4 (by decide)) (two_le w6 (by decide))
    have f1 := fdiv_le g0 (two_le w1 (show 900 + 900 ≤ 1900 by decide))
    have f2 := fdiv_le g0 (two_le s1 (show 1802 ≤ 1900 by decide))
    have f3 := fdiv_le g0 (two_le s2 (show 1800 + 1 ≤ 1900 by decide))
    have e : formD a b r d = quadD (d * d) (0 - 2 * a * d) (a * a - b * b * r) (decide (0 < b)) := if_neg c
    rw [e]
    exact say_quad f1 f2 f3
end Ld

namespace Ld
open PySem PySem.Spec PyProof.Rows L2
open Lw hiding Dv DvAll FreshB tData tDatas pd_int pd_bl pd_non pd_str pd_neg pd_pow pda_nil pda_cons pd_tup pd_lst pd_dct dv_cut dv_cat tup_at rRepr call_repr rIsD call_isD
/-! ### told(lambda: e): what e gives, or the field of its exception -/
/-- told's reading of what it is handed: [yes, value], or [no, field] for the class C -/
def TTold (C : Addr) (fl : Str) (yes no : Str) : (XK → Hp → VK → Prop) → Hp → VK → Prop := fun tl H Q =>
  ∃ K : VK, tl (fun cls dx H' => cls = .ref C ∧ ∃ a v, dx = some a ∧ H' a = some (.xd [(fl, v)]) ∧ ∀ l, H' l = none → l ≠ sysModules → Q (.ref l) (upd H' l (.lst [.str no, v]))) H K ∧
    ∀ v H', K v H' → ∀ l, H' l = none → l ≠ sysModules → Q (.ref l) (upd H' l (.lst [.str yes, v]))
theorem _root_.L2.PE.up {X : Cx} {e : Expr} {t : TE} (h : PE X e t) : PE X e (fun σ H Q => ∃ K : VK, t σ H K ∧ ∀ v H', K v H' → Q v H') := ⟨fun pins s σ H Q I ⟨K, q, i⟩ => thn (h.run pins s σ H K I q) fun u s1 ⟨v, H1, I1, r, z⟩ => ⟨v, H1, I1, r, i _ _ z⟩⟩
def dTold (c fl yes no : Str) (t : TD) : TD := fun ρ R _ => t ρ (fun d => R (.list [.str yes, d])) (fun x => ∃ d, x = (c, [(fl, d)]) ∧ R (.list [.str no, d]))
section
variable {Sy : Md} {X : Cx} {E : L2.St → XK} {e : Expr} {t : TD}
theorem d_told {c fl yes no : Str} {C : Addr} {T : List (Addr × Str)} (hT : T = Sy.T) (hne : T ≠ []) (hC : X.mg c = some (.ref C)) (h : PE X e (LamX.tLam T (TTold C fl yes no) (fun Ek => LE Sy X (fun _ => Ek) t))) : PE X e (LE Sy X E (dTold c fl yes no t)) := h.weak fun σ H Q ⟨w, N, O, F, ρ, R, Ex, en, ht, q, qx⟩ => by
  subst hT
  have tb := en.ok.tb
  have tt : w.T = Sy.T := en.ok.tt
  refine ⟨tt ▸ tb, fun H1 eN T1 => ?_⟩
  have s1 : Stp w H H1 := ⟨fun b u _ m z => eN b u z m, fun b xs z => eN b _ z (fun ps z => by cases z), fun p _ ⟨x, m, y, z, r⟩ => ⟨x, m, y, eN _ _ z lst_ne, r⟩, fun _ => tt ▸ T1, fun ht b u n z => by
    exact absurd (tt.symm.trans ht) hne⟩
  have en1 := en.step s1
  have new : ∀ {x : Str} {v : V} {d : PyData} {H' : Hp} {l : Addr}, Dv N H' v d → Stp w H1 H' → H' l = none → l ≠ sysModules → R (.list [.str x, d]) → Q (.ref l) (upd H' l (.lst [.str x, v])) := fun {x v d H' l} dv s2 hl nl r => by
    have s3 := same_new hl (.lst [.str x, v])
    refine q _ _ _ r ((s1.trans s2).trans (.of s3)) (.lst ((en1.step s2).ok.fr l hl nl) upd_same (.cons (.str _) (.cons (dv.same s3) .nil)))
  refine ⟨fun v H' => ∃ d, R (.list [.str yes, d]) ∧ Stp w H1 H' ∧ Dv N H' v d, ⟨w, N, O, F, ρ, _, _, en1, ht, fun d v H' r s2 dv => ⟨d, r, s2, dv⟩, fun x cls dx H' hx s2 hh => ?_⟩, fun v H' ⟨d, r, s2, dv⟩ l hl nl => new dv s2 hl nl r⟩
  obtain ⟨d, rfl, r⟩ := hx
  obtain ⟨C', g1, g2, a, v, g3, g4, g5⟩ := hh
  have g1 : X.mg c = some (.ref C') := g1
  rw [hC] at g1
  cases g1
  exact ⟨g2, a, v, g3, g4, fun l hl nl => new g5 s2 hl nl r⟩
end
/-! ### promises of defs: g tells whether no text of data may be under way -/
structure FnQ (g : Bool) (CX : CXT) (P : Program) (w : World) (K : PySem.W.Frag) (mg : Str → Option Value) (base : Heap) (k : Nat) (f : Addr) (fd : FuncData) (ps : List Str) (sp : Sp) : Prop where
  len : ∀ vs H Q E, sp vs H Q E → vs.length = ps.length
  run : ∀ (A : Around), Room k A → (g = true → A.guards = some []) → ∀ (outer : List PySem.Env) (s : Shared) (H : Hp), Env0 P w K mg base A outer s H →
    ∀ (args : Args) (us : List Value) (vs : List V), BindsTo s fd args (ps.zip us) → Vals vs us → ∀ (Q : VK) (E : XK), sp vs H Q E → codeAny (model P w) A (.call (.ref f) args) (CR CX outer P w H s Q E) s
structure Cq (g : Bool) (CX : CXT) (P : Program) (w : World) (K : PySem.W.Frag) (mg : Str → Option Value) (base : Heap) (k : Nat) (x : Str) (sp : Sp) : Prop where
  ex : ∃ f fd ps, FnQ g CX P w K mg base k f fd ps sp ∧ mg x = some (.ref f) ∧ PySem.W.keepIn K (.ref f) = true ∧ L2.Binds K fd ps []
/-- a def of the text with the code object cd -/
structure Dc (K : PySem.W.Frag) (mg : Str → Option Value) (x : Str) (st : Stmt) (ps : List Str) (cd : Value) : Prop where
  ex : ∃ (f : Addr) (oc : Value) (od : Option Addr) (kV doc pm : Value) (an : Option Addr) (ct : Value) (osl : Array (Option Value)),
    K.lookup f = some ⟨oc, od, .func (PySem.W.fnOf x x (defArgs st) (defBody st) (defScope st) .none kV doc pm an cd ct), osl⟩ ∧ PySem.W.codeIn K cd x = true ∧ PySem.W.keepIn K (.ref f) = true ∧ mg x = some (.ref f) ∧
    L2.Binds K (PySem.W.fnOf x x (defArgs st) (defBody st) (defScope st) .none kV doc pm an cd ct) ps []
section
variable {CX : CXT} {P : Program} {w : World} {K : PySem.W.Frag} {mg : Str → Option Value} {base : Heap}
theorem Cq.cl {g : Bool} {k : Nat} {x : Str} {sp : Sp} (c : Cq g CX P w K mg base k x sp) : Cl CX P w K mg base k x sp := by
  obtain ⟨f, fd, ps, F, a, b, d⟩ := c.ex
  exact ⟨f, fd, ps, ⟨F.len, fun A hr hg => F.run A hr fun _ => hg⟩, a, b, d⟩
theorem _root_.Lw.Cl.cq {k : Nat} {x : Str} {sp : Sp} (c : Cl CX P w K mg base k x sp) : Cq true CX P w K mg base k x sp := by
  obtain ⟨f, fd, ps, F, a, b, d⟩ := c.ex
  exact ⟨f, fd, ps, ⟨F.len, fun A hr hg => F.run A hr (hg rfl)⟩, a, b, d⟩
theorem _root_.Lw.Dn.dc {x : Str} {st : Stmt} {ps : List Str} (D : Dn K mg x st ps) : ∃ cd, Dc K mg x st ps cd := by
  obtain ⟨f, fd, F, hm, hb⟩ := D.ex
  have kp := F.kp
  obtain ⟨oc, od, kV, doc, pm, an, cdv, ct, osl, rfl, lk, hcd⟩ := F.ex
  exact ⟨cdv, f, oc, od, kV, doc, pm, an, ct, osl, lk, hcd, kp, hm, hb⟩
theorem Dc.call {g : Bool} {x : Str} {st : Stmt} {N ps : List Str} {k : Nat} {cd : Value} {sp : Sp} (D : Dc K mg x st ps cd) (S : FnScope N ps (defScope st)) (len : ∀ vs H Q E, sp vs H Q E → vs.length = ps.length)
    (hbody : ∀ (f : Addr) (A : Around) (outer : List PySem.Env) (s : Shared) (H : Hp) (vs : List V) (Q : VK) (E : XK), Room k (A.deeper (envOfC x (defScope st) s.heap.objs.size f cd)) → (g = true → A.guards = some []) → sp vs H Q E →
      ∃ t, PSs (cxOf CX P w K mg base N x (defScope st) f cd A outer s H E) (defBody st) t ∧ t { nx := fun _ H' => Q .non H', rt := Q } (L2.start N vs) H) : Cq g CX P w K mg base (k + 1) x sp := by
  obtain ⟨f, oc, od, kV, doc, pm, an, ct, osl, lk, hcd, kp, hm, hb⟩ := D.ex
  refine ⟨f, _, ps, ⟨len, fun A hr hg outer s H e0 args us vs bt r Q E h => ?_⟩, hm, kp, hb⟩
  have kept : ∀ b o, base.get? b = some o → s.heap.get? b = some o := fun b o q => (e0.bs b o q).1
  have inK : K.In s.heap := e0.mod.kin.keeps kept
  refine codeAny_call_function hr.depth (inK _ _ lk) rfl S.co S.gen rfl (PySem.W.codeRec_of inK hcd) (bt _ _ _ _ ?_)
  have slots : ∀ y ∈ ps.zip us, (defScope st).names.lookup y.1 = some .local ∨
      ((defScope st).names.lookup y.1 = some .cell ∧ ((cellsFrom (s.heap.objs.size + 1) (defScope st).names []).lookup y.1).isSome = true) := by
    rintro ⟨n, v⟩ hy
    exact (S.par n (List.of_mem_zip hy).1).imp (fun q => q) fun q => ⟨q, PySem.W.cellsFrom_some _ _ _ (.inl q)⟩
  refine wpAny_newFunctionEnv_cells S.kind slots fun env he s1 C => ?_
  cases he
  refine ⟨(e0.mod.nolimit.keeps kept).keeps C.toInCall.keep, codeAny_func ?_⟩
  obtain ⟨t, ht, hq⟩ := hbody f A outer s H vs Q E (hr.deeper _) hg h
  have I0 := inv_start (CX := CX) (E := E) S hr.hd e0 (len _ _ _ _ h) r C
  refine wpAny_mono (ht.run [] s1 _ H _ I0 hq) ?_ fun _ _ z => z
  rintro (_ | _ | _ | u) s' z
  · obtain ⟨σ', H', J, q⟩ := z
    exact ⟨V.non, H', J.os, J.bare, J.base, J.hok, rfl, q⟩
  · obtain ⟨_, _, _, q⟩ := z
    exact q.elim
  · obtain ⟨_, _, _, q⟩ := z
    exact q.elim
  · obtain ⟨v, σ', H', J, rv, q⟩ := z
    exact ⟨v, H', J.os, J.bare, J.base, J.hok, rv, q⟩
theorem Dc.data {g : Bool} {Sy : Md} {x : Str} {st : Stmt} {N ps : List Str} {k : Nat} {cd : Value} {t : TSD} (D : Dc K mg x st ps cd) (S : FnScope N ps (defScope st))
    (hbody : ∀ (f : Addr) (A : Around) (outer : List PySem.Env) (s : Shared) (H : Hp) (E : XK), Room k (A.deeper (envOfC x (defScope st) s.heap.objs.size f cd)) → (g = true → A.guards = some []) →
      PSs (cxOf (L2.CX P w) P w K mg base N x (defScope st) f cd A outer s H E) (defBody st) (LS Sy (cxOf (L2.CX P w) P w K mg base N x (defScope st) f cd A outer s H E) (fun _ => E) t)) :
    Cq g (L2.CX P w) P w K mg base (k + 1) x (spF ⟨base, K, Sy⟩ mg ps.length (tfOf N t)) := by
  refine D.call S (fun vs H Q E h => h.len) (fun f A outer s H vs Q E hr hg h => ⟨_, hbody f A outer s H E hr hg, ?_⟩)
  obtain ⟨wl, Nb, us, R, Ex, hl, hv, ok, ht, q, qx⟩ := h
  refine ⟨wl, Nb, H, Nb, fun _ => none, [], _, _, ⟨⟨ok, ?_, ?_, fun i j a z _ => (nomatch z), fun i a z => (nomatch z), fun p hp => (nomatch hp)⟩, .refl _ _, fun _ z => z, fun _ _ z => (nomatch z), ok.fr, ok.kk⟩, ht, ⟨fun N O H1 σ ρ r b => q .none .non H1 r b.st .non, fun d v H1 r s dv => q d v H1 r s dv, fun _ _ _ _ _ z => z.elim, fun _ _ _ _ _ z => z.elim, ?_⟩⟩
  · have := hv.length
    have le : us.length ≤ N.length := by
      have := congrArg List.length S.pre
      rw [List.length_take] at this
      omega
    rw [startD_eq us N le]
    simp [L2.start, this]
  · have le : us.length ≤ N.length := by
      have := congrArg List.length S.pre
      rw [List.length_take] at this
      omega
    rw [startD_eq us N le]
    exact fun i y h => start_slot hv i y _ h
  · intro N O H1 σ ρ x cls dx hx b hh
    refine qx x cls dx H1 hx b.st ?_
    obtain ⟨C, h1, h2, h3⟩ := hh
    refine ⟨C, h1, h2, ?_⟩
    split
    · rename_i e
      rw [e] at h3
      exact h3
    · rename_i f d e
      rw [e] at h3
      obtain ⟨a, v, e1, e2, e3⟩ := h3
      exact ⟨a, v, e1, e2, e3.less (b.k0.trans b.e.ok.kk.symm) b.sub⟩
    · rename_i e1 e2
      split at h3
      · rename_i e
        exact absurd e e1
      · rename_i f d e
        exact absurd e (e2 f d)
      · exact h3
theorem _root_.Lw.Dn.dataQ {g : Bool} {Sy : Md} {x : Str} {st : Stmt} {N ps : List Str} {k : Nat} {t : TSD} (D : Dn K mg x st ps) (S : FnScope N ps (defScope st))
    (hbody : ∀ (f : Addr) (cdv : Value) (A : Around) (outer : List PySem.Env) (s : Shared) (H : Hp) (E : XK), Room k (A.deeper (envOfC x (defScope st) s.heap.objs.size f cdv)) → (g = true → A.guards = some []) →
      PSs (cxOf (L2.CX P w) P w K mg base N x (defScope st) f cdv A outer s H E) (defBody st) (LS Sy (cxOf (L2.CX P w) P w K mg base N x (defScope st) f cdv A outer s H E) (fun _ => E) t)) :
    Cq g (L2.CX P w) P w K mg base (k + 1) x (spF ⟨base, K, Sy⟩ mg ps.length (tfOf N t)) := by
  obtain ⟨cd, C⟩ := D.dc
  exact C.data S fun f A outer s H E hr hg => hbody f cd A outer s H E hr hg
end
section
variable {X : Cx} {CX : CXT} {x : Str} {p pos : Pos} {e : Expr} {es : List Expr} {t : TA} {sp : Sp} {j k : Nat} {g : Bool}
theorem pe_clQ {E : L2.St → XK} (c : Cq g CX X.prog X.w X.K X.mg X.base k x sp) (hr : Room j X.A) (hG : g = true → X.A.guards = some []) (hx : ∀ σ, PassesAt CX X σ (E σ)) (hg : Gl X x) (ha : PA X (e :: es) t) (hk : k ≤ j := by decide)
    (hdb : (x == ("__debug__" : Str)) = false := by decide) (he : starEach (e :: es) X.env = (false, eval e X.env) :: starEach es X.env := by rfl) (hpl : (backTo pos (starEach es X.env)).any (·.1) = false := by rfl) :
    PE X (.Call (.Name x p) (e :: es) [] pos) (fun σ H Q => t σ H fun vs H1 => sp vs H1 Q (E σ)) := by
  obtain ⟨f, fd, ps, F, hm, kp, hb⟩ := c.ex
  refine ⟨fun pins s σ H Q I h => wpAny_Call_Name_kw (ld_glob I hg hm (PySem.W.callWith_K (h₀ := X.base) I.ok.mod.kin kp (thn (ha.run pos pins s σ H _ I h) ?_) he hpl) hdb)⟩
  rintro us s1 ⟨vs, H1, I1, r, q⟩
  have hl : us.length = ps.length := r.length ▸ F.len _ _ _ _ q
  have bt := hb s1 us I1.kIn (by rw [List.append_nil]; exact hl)
  rw [List.append_nil] at bt
  refine ⟨I1.kIn, wpAny_call (codeAny_mono (F.run X.A (hr.mono hk) hG X.stack s1 H1 I1.env0 ⟨us, []⟩ us vs bt r Q (E σ) q) ?_)⟩
  rintro (er | (_ | _ | _ | u)) s' z
  · exact hx σ pins H1 s1 er s' I1 z
  · exact z.elim
  · exact z.elim
  · exact z.elim
  · exact I1.after z
end
theorem takes_len {X : Cx} {W : WX} (tk : Takes X W) : Takes X (fun cls d σ H => σ.length = X.N.length → W cls d σ H) := fun u s' ⟨a, B, sI, pins, σ, H, cls, d, e, I, nb, up, sky, na, os, ag, z⟩ =>
  tk u s' ⟨a, B, sI, pins, σ, H, cls, d, e, I, nb, up, sky, na, os, ag, z I.len⟩
section
variable {X : Cx}
/-- told: try: t = [yes, call()]; except C as e: t = [no, e.field]; return t -/
theorem told_gives2 {Ng : List Str} {x a th en xc fl yes no q : Str} {sg : Scope} {g C fI : Addr} {cdg : Value} {st0 : Stmt} {fd : FuncData} {j1 j2 : Nat} {p1 p2 p3 p4 p5 p6 p7 p8 p9 p10 p11 p12 p13 p14 p15 p16 p17 : Pos}
    (ec : Ec X.K X.mg xc fl st0 C fI fd) (nd : Ng.Nodup) (h0 : ∀ f : Addr, (L2.start Ng [V.ref f]) = [some (.ref f), none, none]) (h1 : Ng[1]? = some th) (h2 : Ng[2]? = some en) (l1 : sg.names.lookup th = some .local) (l2 : sg.names.lookup en = some .local) (gx : sg.names.lookup xc = some .globalImplicit)
    (d1 : (th == ("__debug__" : Str)) = false) (d2 : (th == ("__classdict__" : Str)) = false) (d3 : (en == ("__debug__" : Str)) = false) (d4 : (en == ("__classdict__" : Str)) = false) (d5 : (xc == ("__debug__" : Str)) = false)
    : LamX.GivesTo X Ng x sg g cdg [.Try [.Assign [.Name th p1] (.List [.Constant (.str yes) j1 p2, .Call (.Name a p3) [] [] p4] p5) p6] [.ExceptHandler (some (.Name xc p7)) (some en) [.Assign [.Name th p8] (.List [.Constant (.str no) j2 p9, .Attribute (.Name en p10) fl p11] p12) p13] p14] [] [] p15, .Return (some (.Name th p16)) p17] a q (TTold C fl yes no) := by
  intro f c' s H0 Q tl act hc h
  refine ⟨_, pss_cons (ps_try_as (X := (cxOf C8.CX0 X.prog X.w X.K X.mg X.base Ng x sg g cdg X.A X.stack s H0 C8.E0).nox) (i := 2) (c := .ref C)
      (tb := fun W D σ H => ∃ Ech : XK, (∀ cls d σ' H', Ech cls d H' → σ'.length = Ng.length → W cls d σ' H') ∧ σ[0]? = some (some (.ref f)) ∧ H c' = some (LamX.CodeO c' q) ∧ ∃ K : VK, tl Ech H K ∧ ∀ v H', K v H' → ∀ l, H' l = none → l ≠ sysModules → D.nx (σ.set 1 (some (.ref l))) (upd H' l (.lst [.str yes, v])))
      rfl rfl nd h2 l2 ⟨gx, d5, .inl ec.gC⟩ LamX.takes0 (fun W pn xe tk _ => ?_) (fun a oe cls d pn hz hf => pss_one (ps_set (i := 1) nd h1 (.inl l1) (pe_lsN (pa_cons pe_str (pa_cons (pe_xf ec.xf ec.no hz hf (pe_var h2 (.inl l2) d3 d4)) pa_nil))))))
    (pss_one (ps_ret (pe_var h1 (.inl l1) d1 d2))), ?_⟩
  · refine ⟨fun pins s' σ H D I h' => ?_⟩
    obtain ⟨Ech, hW, h1', h2', K, h3, h4⟩ := h'
    have hp := act _ pn xe Ech p3 p4 (takes_len tk) hW
    have hq : PSs ((cxOf C8.CX0 X.prog X.w X.K X.mg X.base Ng x sg g cdg X.A X.stack s H0 C8.E0).nox.tr pn xe) [.Assign [.Name th p1] (.List [.Constant (.str yes) j1 p2, .Call (.Name a p3) [] [] p4] p5) p6] _ := pss_one (ps_set (i := 1) nd h1 (.inl l1) (pe_lsN (pa_cons pe_str (pa_cons hp.up pa_nil))))
    exact hq.run pins s' σ H D I ⟨K, ⟨h1', h2', h3⟩, fun v H' z => ⟨short2, fun l hl nl => h4 v H' z l hl nl⟩⟩
  · rw [h0 f]
    obtain ⟨K, h3, h4⟩ := h
    have n3 : Ng.length = 3 := by
      have := congrArg List.length (h0 0)
      simp [L2.start] at this
      omega
    refine ⟨fun cls dx H' => cls = .ref C ∧ ∃ a v, dx = some a ∧ H' a = some (.xd [(fl, v)]) ∧ ∀ l, H' l = none → l ≠ sysModules → Q (.ref l) (upd H' l (.lst [.str no, v])), fun cls d σ' H' z len => ?_, rfl, hc, ?_⟩
    · obtain ⟨rfl, aa, v, rfl, ha, z⟩ := z
      refine ⟨true, ec.te, fun _ b hb => ?_, fun z => Bool.noConfusion z⟩
      rw [n3] at len
      match σ', len with
      | [x0, x1, x2], _ =>
        refine ⟨.ref b, rfl, rfl, rfl, aa, _, v, rfl, ha, ?_, ?_⟩
        · simp
        · exact ⟨short2, fun l hl nl => ⟨_, rfl, z l hl nl⟩⟩
    · exact ⟨K, h3, fun v H' z l hl nl => ⟨_, rfl, h4 v H' z l hl nl⟩⟩
end
end Ld

namespace Ld
open PySem PySem.Spec PyProof.Rows L2
open Lw hiding Dv DvAll FreshB tData tDatas pd_int pd_bl pd_non pd_str pd_neg pd_pow pda_nil pda_cons pd_tup pd_lst pd_dct dv_cut dv_cat tup_at rRepr call_repr rIsD call_isD
section
variable {Sy : Md} {X : Cx} {E : L2.St → XK}
/-- told(lambda: body), by data -/
theorem d_lam {x a c fl yes no : Str} {C : Addr} {st : Stmt} {Ng : List Str} {cO P : Addr} {k : Nat} {params : Arguments} {body : Expr} {scope : Scope} {p lpos pos : Pos} {t : TD}
    (D : Dn X.K X.mg x st [a]) (Sg : FnScope Ng [a] (defScope st)) (hNg : Ng[0]? = some a) (hva : Vis (defScope st) a)
    (hG : ∀ (g : Addr) (cdg : Value), LamX.GivesTo X Ng x (defScope st) g cdg (defBody st) a (X.env.qual ++ "<lambda>") (TTold C fl yes no))
    (hC : X.mg c = some (.ref C)) (hg : Gl X x) (TB : LamX.TabB X.base X.mg cO P) (hcode : X.env.code = .ref cO) (hT : Sy.T = [(P, X.env.qual ++ "<lambda>")]) (hr : Room (k + 2) X.A) (L : LamX.LamS X.env.scope scope)
    (hdef : defaultsOf params X.env = ([], []))
    (bd : ∀ (qn : Str) (cs : List (Str × Addr)) (m0 m1 m2 : Value), bindArgs (PySem.W.kla_fn "<lambda>" qn params body scope cs m0 m1 m2) ⟨[], []⟩ = pure [])
    (hbody : ∀ (A : Around) (outer : List PySem.Env) (s : Shared) (H : Hp) (Ek : XK) (f c' : Addr), Room k (A.deeper (LamX.lamEnv X scope s.heap.objs.size f c')) →
      PE (LamX.lamCx X A outer s H Ek scope f c') body (LE Sy (LamX.lamCx X A outer s H Ek scope f c') (fun _ => Ek) t))
    (no1 : (x == ("__debug__" : Str)) = false := by decide) (no2 : (a == ("__debug__" : Str)) = false := by decide) (no3 : (a == ("__classdict__" : Str)) = false := by decide) :
    PE X (.Call (.Name x p) [.Lambda params body scope lpos] [] pos) (LE Sy X E (dTold c fl yes no t)) := by
  obtain ⟨cd, g, oc, od, kV, doc, pm, an, ct, osl, lk, hcg, hk, hm, hb⟩ := D.dc
  refine d_told (C := C) hT.symm (fun z => ?_) hC (LamX.pe_lamcall (T := [(P, X.env.qual ++ "<lambda>")]) hg hm hk lk hcg hb Sg hNg hva (hG g cd) TB hcode (List.mem_singleton.mpr rfl) (fun q hq _ => ?_) hr L hdef bd (fun A outer s H Ek f c' hr2 => ?_) no1 no2 no3)
  · cases z
  · rw [List.mem_singleton.mp hq]
  · exact hbody A outer s H Ek f c' hr2
/-- a list times an int -/
def fRep : PyData → PyData → RD → Prop := fun x y R => match x, y with
  | .list xs, .int k => 0 ≤ k ∧ k ≤ 1000 ∧ xs.length * k.toNat ≤ 16000000 ∧ R (.list (List.replicate k.toNat xs).flatten)
  | _, _ => False
theorem op_repG : OpR X (binaryOp .Mult) rRep := op_rep
theorem dv_times {N : Bn} {H : Hp} {vs : List V} {xs : List PyData} (a : DvAll N H vs xs) : ∀ n : Nat, DvAll N H (List.replicate n vs).flatten (List.replicate n xs).flatten
  | 0 => .nil
  | n + 1 => by
    simp only [List.replicate_succ, List.flatten_cons]
    exact a.app (dv_times a n)
theorem od_rep {Tz : List (Addr × Str)} : OpD ⟨false, Tz⟩ X rRep fRep := fun N H v u x y R Q h dx dy fr sn hK sl q => by
  unfold fRep at h
  split at h
  · cases dx with
    | lst n1 e1 a1 =>
      cases dy
      have l1 := a1.length
      obtain ⟨h1, h2, h3, h4⟩ := h
      refine ⟨_, _, _, rfl, rfl, e1, by omega, by omega, by rw [sizeLine_eq, l1]; omega, fun p hp => ?_⟩
      exact q _ _ _ h4 (same_new hp _) (.lst (sl rfl p hp) upd_same ((dv_times a1 _).same (same_new hp _)))
  · exact h.elim
end
end Ld

namespace Ld
open PySem PySem.Spec PyProof.Rows L2
open Lw hiding Dv DvAll FreshB tData tDatas pd_int pd_bl pd_non pd_str pd_neg pd_pow pda_nil pda_cons pd_tup pd_lst pd_dct dv_cut dv_cat tup_at rRepr call_repr rIsD call_isD
/-! ### steps that touch tables only -/
section
variable {K : PySem.W.Frag} {T : List (Addr × Str)} {H H1 H2 H3 Hx : Hp} {D p a : Addr} {xs ys : List V}
theorem not_tab {b : Addr} {u : HO} (t : LamX.Tabs T H) (z : H b = some u) (m : ∀ ps, u ≠ .tbl ps) : ¬ ∃ q ∈ T, q.1 = b := fun ⟨q, hq, e⟩ => by
  obtain ⟨ps, h1, _⟩ := t q hq
  rw [e, z] at h1
  exact m ps (Option.some.inj h1)
theorem sqL_stp (t : LamX.Tabs T H) (s : Stp ⟨none, T⟩ H H') (q : SqL K H a xs) : SqL K H' a xs := by
  have no : ∀ {u : HO}, H a = some u → (∀ ps, u ≠ .tbl ps) → H' a = some u := fun {u} z m => s.kp a u (fun w => w.elim (fun e => by cases e) fun w => not_tab t z m w) m z
  rcases q with (z | ⟨o, z⟩) | z
  · exact .inl (.inl (no z fun ps e => by cases e))
  · exact .inl (.inr ⟨o, no z fun ps e => by cases e⟩)
  · exact .inr z
theorem stp_app (t1 : LamX.Tabs T H1) (hD : H1 D = none) (s : Stp ⟨none, T⟩ H1 H) (hd : H D = some (.lst xs)) : Stp ⟨none, T⟩ H1 (upd H D (.lst ys)) where
  kp := fun b u n m z => by
    rw [upd_ne (ne_of_none z hD)]
    exact s.kp b u n m z
  tp := fun b zs z => by
    rw [upd_ne (ne_of_none z hD)]
    exact s.tp b zs z
  wl := fun p e => by cases e
  tb := fun _ => tabs_more (s.tb t1) (fun b o n z => by rw [upd_ne n]; exact z) (.inr ⟨_, hd⟩)
  k0 := fun e b u n z => by
    rw [upd_ne (ne_of_none z hD)]
    exact s.k0 e b u n z
theorem no_p {b : Addr} {u : HO} (pn : Hx p = none) (z : Hx b = some u) : ¬ some p = some b := fun e => by
  cases e
  rw [pn] at z
  cases z
theorem stp_turn (s1 : Stp ⟨none, T⟩ H1 Hx) (s2 : Same Hx H2) (pn : Hx p = none) (s3 : Stp ⟨some p, T⟩ H2 H3) : Stp ⟨none, T⟩ H1 H3 where
  kp := fun b u n m z => by
    have z1 := s1.kp b u n m z
    exact s3.kp b u (fun w => w.elim (no_p pn z1) fun w => n (.inr w)) m (s2 _ _ z1)
  tp := fun b zs z => s3.tp b zs (s2 _ _ (s1.tp b zs z))
  wl := fun p e => by cases e
  tb := fun t => s3.tb ((s1.tb t).ext s2)
  k0 := fun e b u n z => by
    have z1 := s1.k0 e b u n z
    exact s3.k0 e b u (fun w => w.elim (no_p pn z1) fun w => n (.inr w)) (s2 _ _ z1)
theorem stp_keep (tx : LamX.Tabs T Hx) (hd : Hx D = some (.lst xs)) (s2 : Same Hx H2) (pn : Hx p = none) (s3 : Stp ⟨some p, T⟩ H2 H3) : H3 D = Hx D := by
  rw [hd]
  exact s3.kp D _ (fun w => w.elim (no_p pn hd) fun w => not_tab tx hd (fun ps e => by cases e) w) (fun ps e => by cases e) (s2 _ _ hd)
variable {g : TG} {te : TE} {vs : List Nat} {σ : L2.St} {σ' : V → L2.St}
/-- [e for x in range(lo, lo + n)], each True; tables may grow -/
theorem lcr_trueT {Qd : Hp → Prop} {lo : Int} {n : Nat} (t1 : LamX.Tabs T H1) (hD : H1 D = none) (hl : n ≤ 1000) (hg : ∀ x H (k : L2.St → Hp → Prop), k (σ' x) H → g x (wipe σ vs) H k) (hw : ∀ x, wipe (σ' x) vs = wipe σ vs)
    (turn : ∀ (i : Nat) H, i < n → Stp ⟨none, T⟩ H1 H → H D = some (.lst (trues i)) → ∀ R : V → Hp → Prop, (∀ H', Stp ⟨none, T⟩ H1 H' → H' D = H D → R (.bl true) H') → te (σ' (.int (lo + i))) H R)
    (done : ∀ H, Stp ⟨none, T⟩ H1 H → H D = some (.lst (trues n)) → Qd H) :
    ∃ W : Nat → Nat → Hp → Prop, (∃ m, W 0 m (upd H1 D (HO.lst []))) ∧ ∀ (i m : Nat) (H : Hp), W i m H → (Itr lo n).stop i H ∧ Qd H ∨ (Itr lo n).go i H ∧ ∃ Nx : Hp → Prop, (∀ (H' : Hp), Nx H' → ∃ m', m' < m ∧ W (i + 1) m' H') ∧
      ∀ (x : V) (H' : Hp), (Itr lo n).yld i H x H' → g x (wipe σ vs) H' fun σ2 H2 => wipe σ2 vs = wipe σ vs ∧ tYes σ2 H2 fun b H3 => if b = true then te σ2 H3 fun y H4 => ∃ acc, H4 D = some (HO.lst acc) ∧ acc.length < sizeLine ∧ Nx (upd H4 D (HO.lst (acc ++ [y]))) else Nx H3 := by
  refine lc_range (te := te) (fun i H => i ≤ n ∧ Stp ⟨none, T⟩ H1 H ∧ H D = some (.lst (trues i))) ⟨Nat.zero_le _, .of (same_new hD _), upd_same⟩ ?_ (fun H z => done H z.2.1 z.2.2)
  rintro i H il ⟨hi, sm, hd⟩
  refine hg _ H _ ⟨hw _, ?_⟩
  show te (σ' _) H _
  refine turn i H il sm hd _ fun H' s2 e2 => ?_
  refine ⟨trues i, e2.trans hd, by rw [List.length_replicate, sizeLine_eq]; omega, ⟨by omega, stp_app t1 hD s2 (e2.trans hd), ?_⟩⟩
  rw [upd_same, trues_more]
end
/-! ### the end of a law that makes lambdas in one def -/
/-- what a law promises, with a table -/
def spLawT (K : PySem.W.Frag) (T : List (Addr × Str)) : Sp := fun vs H Q _ => ∃ (a : Addr) (ns : List Int), vs = [.ref a] ∧ SqL K H a (ns.map V.int) ∧ ns.length ≤ 63 ∧ LamX.Tabs T H ∧ ∀ H', Q (.bl true) H'
section
variable {P : Program} {w : World} {K : PySem.W.Frag} {mg mb : Str → Option Value} {k : Nat} {fa a cM Pm : Addr} {s : Shared} {vs : List Value} {ns : List Int} {q : Str}
open Classical in
noncomputable def scriptT (K : PySem.W.Frag) (a Pm : Addr) (vs : List Value) (ns : List Int) : Hp := fun b =>
  if b = Pm then some (.tbl #[]) else scriptH K a vs ns b
theorem scriptT_tab : scriptT K a Pm vs ns Pm = some (.tbl #[]) := if_pos rfl
theorem scriptT_other {b : Addr} (h : b ≠ Pm) : scriptT K a Pm vs ns b = scriptH K a vs ns b := if_neg h
theorem script_runT (hk : K.In s.heap) (hmain : s.heap.Ns mainGlobals mg) (hbi : s.heap.Ns builtinsNs mb) (hboot : ∀ x : Str, x ≠ "__name__" → mb x = bootBuiltins x) (hlim : s.heap.NoLimit) (hgens : s.gens = #[])
    (hP : s.heap.get? Pm = some { cls := .none, data := .fields #[] }) (nP : K.lookup Pm = none) (hC : PySem.W.CodeHd s.heap cM Pm)
    (hbm : ∃ (bm : Addr) (ob : Obj), mg "__builtins__" = some (.ref bm) ∧ bm ≠ builtinsNs ∧ s.heap.get? bm = some ob ∧ ob.cls = .type "module" ∧ ob.dict = some builtinsNs ∧ ob.data = .plain)
    (ha : s.heap.get? a = some (scriptO vs)) (hi : IntsAre vs ns) (hl : ns.length ≤ 63) (hr : Room k callerA)
    (F : ∀ base : Heap, K.In base → base.Ns mainGlobals mg → LamX.TabB base mg cM Pm → ∃ fd ps, FnG CX0 P w K mg base k fa fd ps (spLawT K [(Pm, q)]) ∧ Binds K fd ps []) :
    codeAny (model P w) callerA (.call (.ref fa) ⟨[.ref a], []⟩) (fun r s' => r = .ok (.ret (.bool true)) ∧ OldK s.heap s'.heap ∧ s'.os = s.os ∧ AllBare s'.gens) s := by
  have size63 : ns.length ≤ sizeLine := Nat.le_trans hl (by decide)
  have rv : Vals (ns.map V.int) vs := vals_ints hi
  have aP : a ≠ Pm := fun e => by
    rw [e, hP] at ha
    exact nomatch (congrArg Obj.data (Option.some.inj ha))
  -- what isn't a list's row nor a table's is not told of
  have out : ∀ {b : Addr} {o : Obj}, s.heap.get? b = some o → (∀ us n, o.data ≠ .seq us n) → o.data ≠ .fields #[] → scriptT K a Pm vs ns b = none := fun {b o} e h1 h2 => by
    rw [scriptT_other fun z => by
      rw [z, hP] at e
      cases e
      exact h2 rfl]
    refine scriptH_other fun c => ?_
    rw [c.1, ha] at e
    cases e
    exact h1 _ _ rfl
  have down : ∀ {b : Addr} {m : Str → Option Value}, s.heap.Ns b m → (hidT s.heap (scriptT K a Pm vs ns)).Ns b m := by
    rintro b m ⟨o, es, n, q, d, r⟩
    exact ⟨o, es, n, hidT_get q (out q (fun us n z => by rw [d] at z; cases z) fun z => by rw [d] at z; cases z), d, r⟩
  have inB : K.In (hidT s.heap (scriptT K a Pm vs ns)) := fun b o q => hidT_get (hk b o q) (by
    rw [scriptT_other fun z => by
      rw [z, nP] at q
      cases q]
    refine scriptH_other fun c => ?_
    rw [c.1, c.2] at q
    cases q)
  have md : Mod K mg (hidT s.heap (scriptT K a Pm vs ns)) := {
    kin := inB
    glob := down hmain
    blt := ⟨mb, down hbi, hboot⟩
    nolimit := by
      obtain ⟨mc, n1, n2⟩ := hlim
      exact ⟨mc, down n1, n2⟩ }
  have ok : HOk P w (scriptT K a Pm vs ns) s.heap := fun b u q => by
    by_cases hb : b = Pm
    · rw [hb, scriptT_tab] at q
      cases q
      rw [hb]
      exact hP
    · rw [scriptT_other hb] at q
      obtain ⟨rfl, _, rfl⟩ := scriptH_some q
      exact ⟨ha, by rw [List.length_map]; exact size63, vs, _, rv, ha⟩
  have e0 : Env0 P w K mg (hidT s.heap (scriptT K a Pm vs ns)) callerA [] s (scriptT K a Pm vs ns) := {
    frames := rfl
    mod := md
    bs := fun b o q => of_hidT q
    bsz := Nat.le_of_eq (hidT_size _ _)
    funs := trivial
    frf := fun b hb => nomatch hb
    hok := ok
    bare := .of_eq hgens }
  have sq : SqL K (scriptT K a Pm vs ns) a (ns.map V.int) := by
    cases e : K.lookup a with
    | some o =>
      have q := hk a o e
      rw [ha] at q
      cases q
      exact .inr ⟨_, vs.toArray, _, e, rfl, rfl, rfl, by rw [List.size_toArray, hi.length]; exact size63, by simpa using rv⟩
    | none => exact .inl (.inr ⟨scriptO vs, (scriptT_other aP).trans (if_pos ⟨rfl, e⟩)⟩)
  have TB : LamX.TabB (hidT s.heap (scriptT K a Pm vs ns)) mg cM Pm := by
    refine ⟨?_, ?_, fun z => ?_⟩
    · obtain ⟨o, us, file, tf, flags, tg, inF, text, tt, e1, r1, r2, r3, r4, r5, r6, r7, r8, hne⟩ := hC
      refine ⟨o, us, file, tf, flags, tg, inF, text, tt, hidT_get e1 (out e1 (fun vs n z => ?_) fun z => ?_), r1, r2, r3, r4, r5, r6, r7, r8, hne⟩
      · rw [r2] at z
        cases z
      · rw [r2] at z
        cases z
        simp at r3
    · obtain ⟨mo, oo, b1, b2, b3, b4, b5, b6⟩ := hbm
      have nG : mo ≠ mainGlobals := fun z => by
        obtain ⟨o, es, n, e, d, _⟩ := hmain
        rw [z, e] at b3
        cases b3
        rw [d] at b6
        cases b6
      have nQ : mo ≠ Pm := fun z => by
        rw [z, hP] at b3
        cases b3
        cases b6
      refine ⟨mo, oo, b1, b2, nG, nQ, hidT_get b3 (out b3 (fun us n z => ?_) fun z => ?_), b4, b5, b6⟩
      · rw [b6] at z
        cases z
      · rw [b6] at z
        cases z
    · obtain ⟨o, es, n, e, d, _⟩ := hmain
      rw [z, hP] at e
      cases e
      cases d
  obtain ⟨fd, ps, G, hb⟩ := F _ inB (down hmain) TB
  have hsp : spLawT K [(Pm, q)] [.ref a] (scriptT K a Pm vs ns) (fun v _ => v = .bl true) (fun _ _ _ => False) := ⟨a, ns, rfl, sq, hl, fun p hp => by
    rw [List.mem_singleton.mp hp]
    exact LamX.TabS.nil scriptT_tab, fun _ => rfl⟩
  have bt := hb s [.ref a] hk (by rw [List.append_nil]; exact G.len _ _ _ _ hsp)
  rw [List.append_nil] at bt
  refine codeAny_mono (G.run callerA hr rfl [] s _ e0 _ [.ref a] [.ref a] bt (.cons rfl .nil) _ _ hsp) ?_
  rintro (er | (_ | _ | _ | u)) s' z
  · exact z.elim
  · exact z.elim
  · exact z.elim
  · exact z.elim
  · obtain ⟨v, H', os, bare, un, ok', r', q⟩ := z
    cases (show v = .bl true from q)
    cases (show u = Value.bool true from r')
    obtain ⟨more, hm⟩ := un.tbls Pm #[] scriptT_tab
    have hm2 := ok' Pm _ hm
    have key : ∀ b o, b ≠ Pm → s.heap.get? b = some o → s'.heap.get? b = some o := fun b o nb q => by
      cases e : scriptH K a vs ns b with
      | none => exact un.keep b o q ((scriptT_other nb).trans e) (fun z => nomatch z) (fun z => nomatch z)
      | some u =>
        have e2 := (scriptT_other nb).trans e
        obtain ⟨rfl, _, rfl⟩ := scriptH_some e
        obtain ⟨now, _⟩ := ok' b _ (un.frzs b _ _ e2)
        rw [ha] at q
        cases q
        exact now
    refine ⟨rfl, ⟨fun u z e => ?_, fun u z e => ?_⟩, os, bare⟩
    · by_cases hb : u = Pm
      · rw [hb] at e ⊢
        rw [hP] at e
        cases e
        exact .inr (.inl ⟨(hC.tab hP).isCodeTable, rfl, #[], _, rfl, hm2⟩)
      · exact .inl (key u z hb e)
    · by_cases hb : u = Pm
      · rw [hb]
        exact ⟨_, hm2⟩
      · exact ⟨z, key u z hb e⟩
/-- the law's end: c and P are the code object and the table of the def that makes lambdas -/
theorem walk_lawT {l : PySem.W.OpenLaw} {k : Nat} {pr : Program} {loose : List Str} {XP : (Str → Option Value) → Heap → Prop} {YP : World → Heap → Prop} {d : DefRec} {K : Params → PySem.W.Frag} {q : Str}
    (hn : l.most = some 63) (hdf : d.params.defaults = []) (hr : Room k callerA) (hY : ∀ (w : World) (h : Heap), YP w h → (K w.params).In h)
    (F : ∀ (w : World) (mg : Str → Option Value) (h : Heap), YP w h → (K w.params).In h → h.Ns mainGlobals mg → ∃ cM Pm : Addr, h.get? Pm = some { cls := .none, data := .fields #[] } ∧ (K w.params).lookup Pm = none ∧ PySem.W.CodeHd h cM Pm ∧
      ∀ base : Heap, (K w.params).In base → base.Ns mainGlobals mg → LamX.TabB base mg cM Pm → Cl CX0 l.prog w (K w.params) mg base k d.name (spLawT (K w.params) [(Pm, q)])) :
    PySem.W.WalkO pr loose XP YP l.row.toRowW d [] (fun f vs => PySem.call f vs) := by
  refine Att.attach_call hn hdf fun w s0 s1 mg mb fa o pm cd doc a vs ns G Y ho hd hcd hm hobj hi hl hg => ?_
  obtain ⟨cM, Pm, h1, h2, h3, F⟩ := F w mg _ Y (hY w _ Y) G.T.g
  refine script_runT (q := q) (hY w _ Y) G.T.g G.T.b G.T.builtins G.T.nolimit hg h1 h2 h3 G.T.bmain hobj hi hl hr fun base b1 b2 b3 => ?_
  obtain ⟨f, fd, ps, FG, mf, _, hb⟩ := (F base b1 b2 b3).ex
  rw [hm] at mf
  cases mf
  exact ⟨fd, ps, FG, hb⟩
/-- the maker's def, its table and its code object, put together -/
theorem ends_at {h : Heap} {x : Str} {st : Stmt} {ps : List Str} {c : Addr} {G : Addr → Addr → Heap → Prop} (M : Dc K mg x st ps (.ref c)) (h1 : h.get? Pm = some { cls := .none, data := .fields #[] }) (h2 : K.lookup Pm = none) (h3 : PySem.W.CodeHd h c Pm)
    (F : ∀ base : Heap, K.In base → base.Ns mainGlobals mg → Dc K mg x st ps (.ref c) → LamX.TabB base mg c Pm → G c Pm base) :
    ∃ cM Pm : Addr, h.get? Pm = some { cls := .none, data := .fields #[] } ∧ K.lookup Pm = none ∧ PySem.W.CodeHd h cM Pm ∧ ∀ base : Heap, K.In base → base.Ns mainGlobals mg → LamX.TabB base mg cM Pm → G cM Pm base :=
  ⟨c, Pm, h1, h2, h3, fun base b1 b2 b3 => F base b1 b2 M b3⟩
end
end Ld

namespace Ld
open PySem PySem.Spec PyProof.Rows L2 Lw
/-! ### an own list lent for one expression -/
mutual
/-- no list and no dict within -/
def noL : PyData → Bool
  | .list _ => false
  | .dict _ => false
  | .tuple ds => noLs ds
  | _ => true
def noLs : List PyData → Bool
  | [] => true
  | d :: r => noL d && noLs r
end
mutual
theorem dv_noL {N N' : Bn} {H : Hp} (hK : N.K = N'.K) : ∀ (d : PyData) (v : V), noL d = true → Dv N' H v d → Dv N H v d
  | .none, _, _, h => by cases h; exact .non
  | .bool _, _, _, h => by cases h; exact .bl _
  | .int _, _, _, h => by cases h; exact .int _
  | .str _, _, _, h => by cases h; exact .str _
  | .list ds, _, n, h => by unfold noL at n; cases n
  | .tuple ds, _, n, h => by
    unfold noL at n
    cases h with
    | tup e a => exact .tup (by rw [hK]; exact e) (dvs_noL hK ds _ n a)
  | .dict _, _, n, h => by unfold noL at n; cases n
theorem dvs_noL {N N' : Bn} {H : Hp} (hK : N.K = N'.K) : ∀ (ds : List PyData) (vs : List V), noLs ds = true → DvAll N' H vs ds → DvAll N H vs ds
  | [], _, _, h => by cases h; exact .nil
  | d :: ds, _, n, h => by
    unfold noLs at n
    rw [Bool.and_eq_true] at n
    cases h with
    | cons a b => exact .cons (dv_noL hK d _ n.1 a) (dvs_noL hK ds _ n.2 b)
end
def noLx (x : Exn) : Bool := x.2.all fun p => noL p.2
theorem ex_noL {mg : Str → Option Value} {N N' : Bn} {H : Hp} {cls : Value} {dx : Option Addr} (hK : N.K = N'.K) {x : Exn} (n : noLx x = true) (h : ExAt mg N' H cls dx x) : ExAt mg N H cls dx x := by
  obtain ⟨C, h1, h2, h3⟩ := h
  refine ⟨C, h1, h2, ?_⟩
  unfold noLx at n
  split at h3
  · exact h3
  · rename_i f d e
    rw [e] at n
    simp only [List.all_cons, List.all_nil, Bool.and_true] at n
    obtain ⟨a, v, e1, e2, e3⟩ := h3
    exact ⟨a, v, e1, e2, dv_noL hK d v n e3⟩
  · exact h3
section
variable {Sy : Md} {X : Cx} {E : L2.St → XK} {st : Stmt} {sts : List Stmt} {pos : Pos} {i j l n : Nat} {t u : TSD} {te : TD} {tc : TTD} {tr : TAD}
/-- an expression within a statement, an own list being lent to it -/
theorem le_lend {w : Wx} {N0 : Bn} {H0 : Hp} {N : Bn} {O : Nat → Option Addr} {F : Keep} {ρ : Env} {σ : L2.St} {H : Hp} {R : RD} {Q : VK} {D : Ends} {DD : EndsD} {ds : List PyData} (b : EnvB (gnd Sy X) w N0 H0 N O F H σ ρ) (k : DnOk Sy X E w N0 H0 F D DD)
    (hs : slotD ρ i = some (.own ds)) (h : te (putD ρ i (some (.dat (.list ds)))) (fun d => noL d = true ∧ R d) (fun x => noLx x = true ∧ DD.ex ρ x))
    (q : ∀ d v H', R d → EnvB (gnd Sy X) w N0 H0 N O F H' σ ρ → Dv N H' v d → Q v H') : LE Sy X E te σ H Q := by
  obtain ⟨N', O', b'⟩ := b.frz hs
  have hK : N.K = N'.K := b.e.ok.kk.trans b'.e.ok.kk.symm
  exact ⟨w, N', O', F, _, _, _, b'.e, h, fun d v H' r s dv => q d v H' r.2 (b.step s) (dv_noL hK d v r.1 dv), fun x cls dx H' hx s hh => k.ex N O H' σ ρ x cls dx hx.2 (b.step s) (ex_noL hK hx.1 hh)⟩
theorem lt_lend {w : Wx} {N0 : Bn} {H0 : Hp} {N : Bn} {O : Nat → Option Addr} {F : Keep} {ρ : Env} {σ : L2.St} {H : Hp} {R : Bool → Prop} {Q : Bool → Hp → Prop} {D : Ends} {DD : EndsD} {ds : List PyData} (b : EnvB (gnd Sy X) w N0 H0 N O F H σ ρ) (k : DnOk Sy X E w N0 H0 F D DD)
    (hs : slotD ρ i = some (.own ds)) (h : tc (putD ρ i (some (.dat (.list ds)))) R (fun x => noLx x = true ∧ DD.ex ρ x))
    (q : ∀ c H', R c → EnvB (gnd Sy X) w N0 H0 N O F H' σ ρ → Q c H') : LT Sy X E tc σ H Q := by
  obtain ⟨N', O', b'⟩ := b.frz hs
  have hK : N.K = N'.K := b.e.ok.kk.trans b'.e.ok.kk.symm
  exact ⟨w, N', O', F, _, _, _, b'.e, h, fun c H' r s => q c H' r (b.step s), fun x cls dx H' hx s hh => k.ex N O H' σ ρ x cls dx hx.2 (b.step s) (ex_noL hK hx.1 hh)⟩
/-- x.append(e), e reads x -/
def sAppL (i : Nat) (t : TD) : TSD := fun D ρ => ownK (slotD ρ i) fun ds => t (putD ρ i (some (.dat (.list ds)))) (fun d => noL d = true ∧ ds.length < 16000000 ∧ D.nx (putD ρ i (some (.own (ds ++ [d]))))) (fun x => noLx x = true ∧ D.ex ρ x)
theorem ds_appL (h : PS X st (tDrop (tBM X.K "list" rAppend (tVar i) (LA Sy X E 1 (dCons te dNil))))) : PS X st (LS Sy X E (sAppL i te)) := h.weak fun D σ H ⟨w, N0, H0, N, O, F, ρ, DD, b, h, k⟩ => by
  obtain ⟨ds, hs, h⟩ := ownK_of h
  obtain ⟨v, h1, a, xs, rfl, ho, ha, all⟩ := b.e.slot i _ hs
  refine ⟨_, h1, .inl ⟨rfl, _, .of ha⟩, ?_⟩
  obtain ⟨N', O', b'⟩ := b.frz hs
  have hK : N.K = N'.K := b.e.ok.kk.trans b'.e.ok.kk.symm
  refine ⟨w, N', O', F, _, (fun us => match us with
    | [.dat d] => noL d = true ∧ ds.length < 16000000 ∧ DD.nx (putD ρ i (some (.own (ds ++ [d]))))
    | _ => False), _, b'.e, h, fun us vs H' hl r s hv => ?_, fun x cls dx H' hx s hh => k.ex N O H' σ ρ x cls dx hx.2 (b.step s) (ex_noL hK hx.1 hh)⟩
  dsimp only at r
  split at r
  · rename_i d
    obtain ⟨hn, hlen, r⟩ := r
    match vs, hv with
    | [v], hv =>
      have bs := b.step s
      obtain ⟨v2, h2, a2, xs2, e2, ho2, ha2, all2⟩ := bs.e.slot i _ hs
      rw [ho] at ho2
      cases ho2
      refine ⟨a, xs2, v, rfl, rfl, ha2, by rw [all2.length, sizeLine_eq]; omega, ?_⟩
      exact k.nx _ _ _ _ _ r (bs.ownSet hs ho ha2 (all2.app (.cons (dv_noL hK d _ hn hv.1) .nil)))
  · exact r.elim
/-- x = e, e reads the own list in slot i -/
def sSetL (i j : Nat) (t : TD) : TSD := fun D ρ => ownK (slotD ρ i) fun ds => t (putD ρ i (some (.dat (.list ds)))) (fun d => noL d = true ∧ D.nx (putD ρ j (some (.dat d)))) (fun x => noLx x = true ∧ D.ex ρ x)
theorem ds_setL (h : PS X st (tAsg (LE Sy X E te) (gName j))) : PS X st (LS Sy X E (sSetL i j te)) := h.weak fun D σ H ⟨w, N0, H0, N, O, F, ρ, DD, b, h, k⟩ => by
  obtain ⟨ds, hs, h⟩ := ownK_of h
  exact le_lend b k hs h fun d v H' r b' dv => k.nx _ _ H' _ _ r (b'.put j dv)
/-- if e, e reads the own list in slot i -/
def sIfL (i : Nat) (c : TTD) (t u : TSD) : TSD := fun D ρ => ownK (slotD ρ i) fun ds => c (putD ρ i (some (.dat (.list ds)))) (fun b => if b = true then t D ρ else u D ρ) (fun x => noLx x = true ∧ D.ex ρ x)
theorem ds_ifL (h : PS X st (tIfS (LT Sy X E tc) (LS Sy X E t) (LS Sy X E u))) : PS X st (LS Sy X E (sIfL i tc t u)) := h.weak fun D σ H ⟨w, N0, H0, N, O, F, ρ, DD, b, h, k⟩ => by
  obtain ⟨ds, hs, h⟩ := ownK_of h
  refine lt_lend b k hs h fun c H' r b' => ?_
  cases c with
  | true => exact ⟨w, N0, H0, N, O, F, ρ, DD, b', r, k⟩
  | false => exact ⟨w, N0, H0, N, O, F, ρ, DD, b', r, k⟩
end
/-! ### list(x), x a list -/
section
variable {X : Cx}
theorem call_listL : CallR X (.type "list") (fun xs H Q => ∃ p ys, xs = [.ref p] ∧ SqL X.K H p ys ∧ ∀ l, H l = none → l ≠ sysModules → Q (.ref l) (upd H l (.lst ys))) := by
  intro pins s σ H xs us Q I r h
  obtain ⟨p, ys, rfl, ht, q⟩ := h
  obtain ⟨u, rfl, rx⟩ := vals1 r
  cases rx
  obtain ⟨its, rv, ⟨o, n, ho, hc, _, hd⟩, hz⟩ := I.list ht
  refine call_list_seq p (.inl rfl) ho hc hd (fun h' c' kp now => ?_) (by have := rv.length; simp only [List.size_toArray]; omega)
  have J := I.laid (t' := s.toks) (a := s.heap.objs.size) (o := .lst ys) kp (Nat.le_refl _) ⟨hz, its, c', rv, now⟩
  exact ⟨V.ref _, _, J, rfl, q _ (I.hok.fresh (Nat.le_refl _)) fun k => absurd I.big (by rw [k]; exact Nat.lt_irrefl _)⟩
def rListL (K : PySem.W.Frag) : List V → Hp → VK → Prop := fun xs H Q => ∃ p ys, xs = [.ref p] ∧ SqL K H p ys ∧ ∀ l, H l = none → l ≠ sysModules → Q (.ref l) (upd H l (.lst ys))
variable {Sy : Md} {E : L2.St → XK} {e : Expr} {i : Nat} {te : TD}
/-- list(x), x the own list in slot i -/
def dOwnLst (i : Nat) : TD := fun ρ R _ => ownK (slotD ρ i) fun ds => R (.list ds)
theorem d_ownLst (h : PE X e (tCB (rListL X.K) (tCons (tVar i) tNil))) : PE X e (LE Sy X E (dOwnLst i)) := h.weak fun σ H Q ⟨w, N, O, F, ρ, R, Ex, en, t, q, qx⟩ => by
  obtain ⟨ds, hs, r⟩ := ownK_of t
  obtain ⟨v, h1, a, xs, rfl, ho, ha, all⟩ := en.slot i _ hs
  refine ⟨_, h1, a, xs, rfl, .inl (.of ha), fun l hl nl => ?_⟩
  have s := same_new hl (.lst xs)
  exact q _ _ _ r (.of s) (.lst (en.ok.fr l hl nl) upd_same (all.same s))
/-- list(x), x told as a list -/
def fLstL (d : PyData) (R : RD) : Prop := match d with
  | .list ds => R (.list ds)
  | _ => False
theorem d_lstL (h : PE X e (tCB (rListL X.K) (tCons (LE Sy X E te) tNil))) : PE X e (LE Sy X E (dUn fLstL te)) := h.weak fun σ H Q ⟨w, N, O, F, ρ, R, Ex, en, t, q, qx⟩ => by
  refine ⟨w, N, O, F, ρ, _, Ex, en, t, fun x v H1 r1 k1 dx => ?_, qx⟩
  have en1 := en.step k1
  unfold fLstL at r1
  cases dx with
  | @lst a xs ds nn ea all =>
    refine ⟨a, xs, rfl, .inl (.of ea), fun l hl nl => ?_⟩
    have s := same_new hl (.lst xs)
    exact q _ _ _ r1 (k1.trans (.of s)) (.lst (en1.ok.fr l hl nl) upd_same (all.same s))
  | _ => exact r1.elim
end
/-! ### // of any size, the quotient being small -/
theorem noPylong_quot {x y : Int} (h : x.natAbs < y.natAbs * 2 ^ 4400) : Builtin.divisionGoesByPylong x y = false := by
  have hy : y.natAbs ≠ 0 := fun z => by rw [z, Nat.zero_mul] at h; exact absurd h (Nat.not_lt_zero _)
  have y0 : (y == 0) = false := by simp; omega
  have key : (if x == 0 then 0 else x.natAbs.log2 / 30 + 1) ≤ (if y == 0 then 0 else y.natAbs.log2 / 30 + 1) + 150 := by
    rw [y0]
    by_cases hx : (x == 0) = true
    · rw [if_pos hx]; exact Nat.zero_le _
    · rw [if_neg hx]
      have x0 : x.natAbs ≠ 0 := by simp at hx; omega
      have ly : y.natAbs < 2 ^ (y.natAbs.log2 + 1) := (Nat.log2_lt hy).mp (Nat.lt_succ_self _)
      have lx : x.natAbs.log2 < y.natAbs.log2 + 1 + 4400 := (Nat.log2_lt x0).mpr (by
        rw [Nat.pow_add]
        exact Nat.lt_of_lt_of_le h (Nat.mul_le_mul_right _ (Nat.le_of_lt ly)))
      show x.natAbs.log2 / 30 + 1 ≤ y.natAbs.log2 / 30 + 1 + 150
      omega
  show (decide ((if y == 0 then 0 else y.natAbs.log2 / 30 + 1) > 300) && decide ((if x == 0 then 0 else x.natAbs.log2 / 30 + 1) > (if y == 0 then 0 else y.natAbs.log2 / 30 + 1) + 150)) = false
  rw [decide_eq_false (p := _ > _ + 150) (Nat.not_lt.mpr key), Bool.and_false]
def FdOk (i j : Int) : Prop := j ≠ 0 ∧ (j.natAbs < 2 ^ 9000 ∨ i.natAbs < j.natAbs * 2 ^ 4400)
section
variable {X : Cx}
theorem op_fdivB : OpR X (binaryOp .FloorDiv) (rI FdOk fun i j => .int (i.fdiv j)) :=
  opI fun i j _ _ _ _ _ hc q => floordiv_int hc.1 q (.inl (hc.2.elim (fun z => PyProof.noPylong_of_log2 (log2_lt (by decide) z)) noPylong_quot))
end
abbrev fFdvB := fInt (fun i j => i.fdiv j) FdOk
theorem FdOk.low {i j : Int} (h : j ≠ 0) (z : j.natAbs < 2 ^ 9000) : FdOk i j := ⟨h, .inl z⟩
end Ld

namespace Ld
open PySem PySem.Spec PyProof.Rows L2
open Lw hiding Dv DvAll FreshB tData tDatas pd_int pd_bl pd_non pd_str pd_neg pd_pow pda_nil pda_cons pd_tup pd_lst pd_dct dv_cut dv_cat tup_at rRepr call_repr rIsD call_isD
/-! ### a slot emptied -/
section
variable {base : Gnd} {w : Wx} {N0 N : Bn} {O : Nat → Option Addr} {F : Keep} {H0 H H' : Hp} {σ : L2.St} {ρ : Env}
theorem EnvR.clr (e : EnvR base w N O F H σ ρ) (i : Nat) : EnvR base w N (fun j => if j = i then none else O j) F H (σ.set i none) (putD ρ i none) := by
  refine ⟨e.ok, by rw [List.length_set, putD_len, e.len], fun j y hy => ?_, fun a b c h1 h2 => ?_, fun j a h1 => ?_, e.kept⟩
  · rcases slot_put ρ i j _ _ hy (by intro z; cases z) with ⟨rfl, z, l⟩ | ⟨nj, z⟩
    · cases z
    · obtain ⟨u, h1, h2⟩ := e.slot j y z
      refine ⟨u, by rw [List.getElem?_set_ne (fun z => nj z.symm)]; exact h1, ?_⟩
      cases y with
      | dat d => exact h2
      | own ds =>
        obtain ⟨a, xs, r, o, q⟩ := h2
        exact ⟨a, xs, r, by simp only [nj, if_false]; exact o, q⟩
      | well => exact h2
      | fn _ => exact h2
  · try dsimp only at h1 h2
    split at h1
    · cases h1
    · split at h2
      · cases h2
      · exact e.inj a b c h1 h2
  · try dsimp only at h1
    split at h1
    · cases h1
    · exact e.ow j a h1
theorem EnvB.clr (b : EnvB base w N0 H0 N O F H σ ρ) (i : Nat) : EnvB base w N0 H0 N (fun j => if j = i then none else O j) F H (σ.set i none) (putD ρ i none) :=
  ⟨b.e.clr i, b.st, b.sub, fun j a z => by
    split at z
    · cases z
    · exact b.new j a z, b.fr0, b.k0⟩
end
/-! ### try: .. except c as e: t = [no, e.field] -/
def sTry1 (c fl : Str) (i j : Nat) (no : Str) (tb : TSD) : TSD := fun D ρ => tb { nx := D.nx, rt := D.rt, bk := D.bk, ct := D.ct, ex := fun ρ' x => ∃ d, x = (c, [(fl, d)]) ∧ D.nx (putD (putD ρ' j (some (.dat (.list [.str no, d])))) i none) } ρ
section
variable {Sy : Md} {X : Cx} {E : L2.St → XK} {i j : Nat} {tb : TSD}
def WL (X : Cx) (W : WX) : WX := fun cls d σ H => σ.length = X.N.length → W cls d σ H
theorem ds_try1 {xc fl no en th : Str} {C fI : Addr} {fd : FuncData} {st0 : Stmt} {body : List Stmt} {p1 p2 p3 p4 p5 p6 p7 p8 pos : Pos} {j2 : Nat}
    (ec : Ec X.K X.mg xc fl st0 C fI fd) (hs : X.stack = X.env :: X.outer) (hf : X.env.frame = some X.env.locals) (nd : X.N.Nodup) (hi : X.N[i]? = some en) (hj : X.N[j]? = some th) (ij : i ≠ j)
    (li : X.env.kindOf en = some .local) (lj : X.env.kindOf th = some .local) (gx : Gl X xc)
    (d3 : (en == ("__debug__" : Str)) = false) (d4 : (en == ("__classdict__" : Str)) = false) (d5 : (xc == ("__debug__" : Str)) = false)
    (hb : ∀ (W : WX) (pn : List (Addr × Obj)) (xe : Value → Shared → Prop), Takes (X.tr pn xe) W → PSs (X.tr pn xe) body (LS Sy (X.tr pn xe) (fun σ => WE (WL (X.tr pn xe) W) σ) tb))
    (hh : ∀ (a : Addr) (oe : Obj) (cls : Value) (d : Option Addr) (pn : List (Addr × Obj)) (te : TE), PE (X.suite a ((a, oe) :: pn)) (.List [.Constant (.str no) j2 p1, .Attribute (.Name en p2) fl p3] p4) te → PS (X.suite a ((a, oe) :: pn)) (.Assign [.Name th p5] (.List [.Constant (.str no) j2 p1, .Attribute (.Name en p2) fl p3] p4) p6) (tAsg te (gName j)))
    (hv : ∀ (a : Addr) (oe : Obj) (pn : List (Addr × Obj)), PE (X.suite a ((a, oe) :: pn)) (.Name en p2) (tVar i)) :
    PS X (.Try body [.ExceptHandler (some (.Name xc p7)) (some en) [.Assign [.Name th p5] (.List [.Constant (.str no) j2 p1, .Attribute (.Name en p2) fl p3] p4) p6] p8] [] [] pos) (LS Sy X E (sTry1 xc fl i j no tb)) := by
  refine (ps_try_as (X := X) (i := i) (c := .ref C) (tb := fun W => LS Sy X (fun σ => WE (WL X W) σ) tb) (Wout := fun _ _ _ _ => False) hs hf nd hi li ⟨gx, d5, .inl ec.gC⟩ LamX.takes0 (fun W pn xe tk _ => (hb W pn xe tk).weak fun D σ H ⟨w, N0, H0, N, O, F, ρ, DD, b, h, k⟩ => ⟨w, N0, H0, N, O, F, ρ, DD, b, h, ⟨k.nx, k.rt, k.bk, k.ct, k.ex⟩⟩)
    (fun a oe cls d pn hz hf => pss_one (hh a oe cls d pn _ (pe_lsN (pa_cons pe_str (pa_cons (pe_xf ec.xf ec.no hz hf (hv a oe pn)) pa_nil)))))).weak fun D σ H ⟨w, N0, H0, N, O, F, ρ, DD, b, h, k⟩ => ?_
  refine ⟨w, N0, H0, N, O, F, ρ, _, b, h, ⟨k.nx, k.rt, k.bk, k.ct, fun N O H σ ρ x cls dx hx b hh => ?_⟩⟩
  intro len
  obtain ⟨d, rfl, r⟩ := hx
  obtain ⟨C', g1, g2, a, v, g3, g4, g5⟩ := hh
  have g1 : X.mg xc = some (.ref C') := g1
  rw [ec.gC] at g1
  cases g1
  subst g2
  refine ⟨true, ec.te, fun _ bb hbb => ?_, fun z => Bool.noConfusion z⟩
  have li' : i < σ.length := by
    rw [len]
    exact (List.getElem?_eq_some_iff.mp hi).1
  refine ⟨.ref bb, by rw [List.getElem?_set_self li'], rfl, rfl, a, _, v, g3, g4, ?_, ?_⟩
  · simp
  · refine ⟨by rw [sizeLine_eq]; show 2 ≤ 16777216; decide, fun l hl nl => ?_⟩
    have s3 := same_new hl (.lst [.str no, v])
    have b3 := ((b.step (.of s3)).put j (v := .ref l) (d := .list [.str no, d]) (.lst (b.e.ok.fr l hl nl) upd_same (.cons (.str _) (.cons (g5.same s3) .nil)))).clr i
    have e : (((σ.set i (some (.ref bb))).set j (some (.ref l))).set i none) = (σ.set j (some (.ref l))).set i none := by
      rw [set_swap _ i j _ _ ij, set_set]
    show D.nx (((σ.set i (some (.ref bb))).set j (some (.ref l))).set i none) _
    rw [e]
    exact k.nx _ _ _ _ _ r b3
end
/-! ### math.lcm -/
section
variable {X : Cx} {Sy : Md}
def rLcm : List V → Hp → VK → Prop := fun vs H Q => ∃ a b : Int, vs = [.int a, .int b] ∧ a.natAbs < 2 ^ 2000 ∧ b.natAbs < 2 ^ 2000 ∧ Q (.int ((Nat.lcm a.natAbs b.natAbs : Nat) : Int)) H
theorem cr_lcm : CallR X (.builtin "math.lcm") rLcm := by
  intro pins s σ H vs us Q I r h
  obtain ⟨a, b, rfl, ha, hb, q⟩ := h
  obtain ⟨t, u, rfl⟩ := Vals.int2 r
  have l1 : (max 1 a.natAbs).log2 < 2001 := log2_lt (by decide) (by
    rcases Nat.le_total 1 a.natAbs with z | z
    · rw [Nat.max_eq_right z]
      exact Nat.lt_trans ha (Nat.pow_lt_pow_right (by decide) (by decide))
    · rw [Nat.max_eq_left z]
      exact Nat.one_lt_two_pow (by decide))
  have l2 : (max a.natAbs b.natAbs).log2 < 2001 := log2_lt (by decide) (by
    rcases Nat.le_total a.natAbs b.natAbs with z | z
    · rw [Nat.max_eq_right z]
      exact Nat.lt_trans hb (Nat.pow_lt_pow_right (by decide) (by decide))
    · rw [Nat.max_eq_left z]
      exact Nat.lt_trans ha (Nat.pow_lt_pow_right (by decide) (by decide)))
  have one : Nat.lcm 1 a.natAbs = a.natAbs := by simp [Nat.lcm]
  have le : a.natAbs.lcm b.natAbs ≤ a.natAbs * b.natAbs := by
    unfold Nat.lcm
    exact Nat.div_le_self _ _
  have hsz : ((((Nat.lcm 1 a.natAbs).lcm b.natAbs : Nat) : Int)).natAbs.log2 < bitsLine := by
    rw [one, Int.natAbs_natCast]
    have : a.natAbs.lcm b.natAbs < 2 ^ 4000 := by
      have := Nat.mul_lt_mul'' ha hb
      rw [← Nat.pow_add] at this
      exact Nat.lt_of_le_of_lt le this
    have := log2_lt (by decide) this
    exact Nat.lt_trans this (by decide)
  refine call_function_meets PySem.W.MGF.kind_lcm PySem.W.MGF.plain_lcm PySem.W.MGF.entry_lcm (PySem.W.MGF.args_lcm _ _) (PySem.W.mg_run_lcm a t b u (by omega) (by omega) hsz).meets ?_
  rw [one]
  exact ⟨.int _, H, I.tok _, ⟨_, rfl⟩, q⟩
def fLcm (ds : List PyData) (R : RD) : Prop := match ds with
  | [.int a, .int b] => (a.natAbs < 2 ^ 2000 ∧ b.natAbs < 2 ^ 2000) ∧ R (.int ((Nat.lcm a.natAbs b.natAbs : Nat) : Int))
  | _ => False
theorem bd_lcm : CallD Sy X rLcm fLcm := fun N H vs ds R Q h dv fr sn hK sl q => by
  unfold fLcm at h
  split at h
  · rename_i a b
    match vs, dv with
    | [x, y], .cons h1 (.cons h2 .nil) =>
      cases h1
      cases h2
      exact ⟨a, b, rfl, h.1.1, h.1.2, q _ _ H h.2 (.refl _) (.int _)⟩
  · exact h.elim
end
theorem e_lcm {i j : Int} {R : RD} : fLcm [.int i, .int j] R = ((i.natAbs < 2 ^ 2000 ∧ j.natAbs < 2 ^ 2000) ∧ R (.int ((Nat.lcm i.natAbs j.natAbs : Nat) : Int))) := rfl
/-! ### zip of two tuples, of two lists -/
def zipD (ds es : List PyData) : List PyData := (ds.zip es).map fun p => .tuple [p.1, p.2]
def iZp (ta : TAD) : ID := fun ρ R Ex => ta ρ (fun us => match us with
  | [.dat (.tuple ds), .dat (.tuple es)] => R (zipD ds es)
  | [.dat (.list ds), .dat (.list es)] => R (zipD ds es)
  | _ => False) Ex
theorem zip_get {ds es : List PyData} {i : Nat} {d : PyData} (h : (zipD ds es)[i]? = some d) : ∃ x y, ds[i]? = some x ∧ es[i]? = some y ∧ d = .tuple [x, y] := by
  unfold zipD at h
  rw [List.getElem?_map] at h
  cases e : (ds.zip es)[i]? with
  | none => rw [e] at h; cases h
  | some p =>
    rw [e] at h
    rw [List.getElem?_zip_eq_some] at e
    exact ⟨p.1, p.2, e.1, e.2, (Option.some.inj h).symm⟩
theorem zip_len (ds es : List PyData) : (zipD ds es).length = min ds.length es.length := by
  unfold zipD
  rw [List.length_map, List.length_zip]
section
variable {Sy : Md} {X : Cx} {E : L2.St → XK}
theorem io_zip {tr : TAD} : IOk Sy X E (RZ.iZipA X.K (LA Sy X E 2 tr)) (iZp tr) := ⟨fun w N O F ρ σ H R Ex Q en h q qx => ⟨w, N, O, F, ρ, _, Ex, en, h, fun us vs H1 hl r k hv => by
  have en1 := en.step k
  split at r
  · rename_i ds es
    match vs, hv with
    | [v, u], hv =>
      cases hv.1 with
      | @tup a xs _ ea all =>
        cases hv.2.1 with
        | @tup b ys _ eb all2 =>
          have kk : N.K = X.K := en.ok.kk
          refine ⟨a, b, xs, ys, rfl, .inr ⟨kk ▸ ea.sq, kk ▸ eb.sq, q _ _ [(.ref a, .tuple ds), (.ref b, .tuple es)] H1 r k (fun p hp => ?_) ⟨fun N2 H2 hK g => ?_, fun N2 H2 i d hK g hd => ?_⟩⟩⟩
          · rcases List.mem_cons.mp hp with rfl | hp
            · exact .tup ea all
            · cases List.mem_singleton.mp hp
              exact .tup eb all2
          · cases g (.ref a, .tuple ds) (List.mem_cons_self ..) with
            | tup e2 a2 =>
              cases g (.ref b, .tuple es) (List.mem_cons_of_mem _ (List.mem_cons_self ..)) with
              | tup e3 a3 =>
                refine ⟨_, _, hK ▸ e2.sq, hK ▸ e3.sq, ?_⟩
                rw [a2.length, a3.length, zip_len]
                omega
          · cases g (.ref a, .tuple ds) (List.mem_cons_self ..) with
            | tup e2 a2 =>
              cases g (.ref b, .tuple es) (List.mem_cons_of_mem _ (List.mem_cons_self ..)) with
              | tup e3 a3 =>
                obtain ⟨x, y, gx, gy, rfl⟩ := zip_get hd
                obtain ⟨x', hx, dx⟩ := a2.get gx
                obtain ⟨y', hy, dy⟩ := a3.get gy
                refine ⟨⟨_, _, x', y', hK ▸ e2.sq, hK ▸ e3.sq, hx, hy⟩, fun z H' hz => ?_⟩
                obtain ⟨T, x2, y2, rfl, hT, rfl, f1, f2⟩ := hz
                have q1 := f1 _ (hK ▸ e2.sq)
                have q2 := f2 _ (hK ▸ e3.sq)
                rw [hx] at q1
                rw [hy] at q2
                cases q1
                cases q2
                have s := same_new hT (.tup [x', y'])
                exact ⟨s, .tup (.of upd_same) (.cons (dx.same s) (.cons (dy.same s) .nil))⟩
  · rename_i ds es
    match vs, hv with
    | [v, u], hv =>
      cases hv.1 with
      | @lst a xs _ na ea all =>
        cases hv.2.1 with
        | @lst b ys _ nb eb all2 =>
          refine ⟨a, b, xs, ys, rfl, .inl ⟨.inl (.of ea), .inl (.of eb), q _ _ [(.ref a, .list ds), (.ref b, .list es)] H1 r k (fun p hp => ?_) ⟨fun N2 H2 hK g => ?_, fun N2 H2 i d hK g hd => ?_⟩⟩⟩
          · rcases List.mem_cons.mp hp with rfl | hp
            · exact .lst na ea all
            · cases List.mem_singleton.mp hp
              exact .lst nb eb all2
          · cases g (.ref a, .list ds) (List.mem_cons_self ..) with
            | lst n2 e2 a2 =>
              cases g (.ref b, .list es) (List.mem_cons_of_mem _ (List.mem_cons_self ..)) with
              | lst n3 e3 a3 =>
                refine ⟨_, _, .inl (.of e2), .inl (.of e3), ?_⟩
                rw [a2.length, a3.length, zip_len]
                omega
          · cases g (.ref a, .list ds) (List.mem_cons_self ..) with
            | lst n2 e2 a2 =>
              cases g (.ref b, .list es) (List.mem_cons_of_mem _ (List.mem_cons_self ..)) with
              | lst n3 e3 a3 =>
                obtain ⟨x, y, gx, gy, rfl⟩ := zip_get hd
                obtain ⟨x', hx, dx⟩ := a2.get gx
                obtain ⟨y', hy, dy⟩ := a3.get gy
                refine ⟨⟨_, _, x', y', .inl (.of e2), .inl (.of e3), hx, hy⟩, fun z H' hz => ?_⟩
                obtain ⟨T, x2, y2, rfl, hT, rfl, f1, f2⟩ := hz
                have q1 := f1 _ (.inl (.of e2))
                have q2 := f2 _ (.inl (.of e3))
                rw [hx] at q1
                rw [hy] at q2
                cases q1
                cases q2
                have s := same_new hT (.tup [x', y'])
                exact ⟨s, .tup (.of upd_same) (.cons (dx.same s) (.cons (dy.same s) .nil))⟩
  · exact r.elim, qx⟩⟩
end
/-! ### a list taken apart -/
def gdL (n : Nat) (gs : GsD) : GD := fun d ρ K => match d with
  | .list ds => lenK ds n (gs ds ρ K)
  | _ => False
theorem go_lst {gs : TGs} {gds : GsD} {sl : List Nat} {n : Nat} {K : PySem.W.Frag} (b : GsOk K gs gds sl) : GOk K (gLst K n gs) (gdL n gds) sl := ⟨fun base w N O F H σ ρ v d K Q hK bb dv h q => by
  cases dv with
  | lst na ea all =>
    obtain ⟨l, h⟩ := lenK_of h
    exact ⟨_, _, rfl, .inl (.of ea), all.length.trans l, b.run base w N O F H σ ρ _ _ _ _ hK bb all h q⟩
  | _ => exact h.elim⟩
theorem e_gdL {n : Nat} {gs : GsD} {ρ : Env} {K : Env → Prop} {a : List PyData} : gdL n gs (.list a) ρ K = lenK a n (gs a ρ K) := rfl
end Ld

namespace Ld
open PySem PySem.Spec PyProof.Rows L2
open Lw hiding Dv DvAll FreshB tData tDatas pd_int pd_bl pd_non pd_str pd_neg pd_pow pda_nil pda_cons pd_tup pd_lst pd_dct dv_cut dv_cat tup_at rRepr call_repr rIsD call_isD
/-! ### defs handed over and called -/
section
variable {CX : CXT} {P : Program} {w : World} {K : PySem.W.Frag} {mg : Str → Option Value} {base : Heap}
theorem Cq.mono {g : Bool} {k k' : Nat} {x : Str} {sp : Sp} (c : Cq g CX P w K mg base k x sp) (h : k ≤ k') : Cq g CX P w K mg base k' x sp := by
  obtain ⟨f, fd, ps, F, a, b, d⟩ := c.ex
  exact ⟨f, fd, ps, ⟨F.len, fun A hr => F.run A (hr.mono h)⟩, a, b, d⟩
theorem _root_.Lw.Dn.at {x : Str} {st : Stmt} {ps : List Str} (D : Dn K mg x st ps) : ∃ f, mg x = some (.ref f) := by
  obtain ⟨f, fd, F, hm, hb⟩ := D.ex
  exact ⟨f, hm⟩
end
def dConsF (x : Str) (r : TAD) : TAD := fun ρ R Ex => r ρ (fun us => R (.fn x :: us)) Ex
/-- a call of what the slot i holds -/
def dCallV (i : Nat) (FT : Str → TF → Prop) (ta : TAD) : TD := fun ρ R Ex => match slotD ρ i with
  | some (.fn x) => ∃ tf, FT x tf ∧ ta ρ (fun us => tf us R Ex) Ex
  | _ => False
section
variable {Sy : Md} {X : Cx} {E : L2.St → XK} {es : List Expr} {n : Nat} {tr : TAD}
theorem da_fn {x : Str} {p : Pos} (hg : Gl X x) (D : ∃ f, X.mg x = some (.ref f)) (hn : PySem.W.nsIn X.K mainGlobals x = some (X.mg x)) (r : PA X es (LA Sy X E n tr)) (hdb : (x == ("__debug__" : Str)) = false := by decide)
    (hs : starEach (.Name x p :: es) X.env = (false, eval (.Name x p) X.env) :: starEach es X.env := by rfl) : PA X (.Name x p :: es) (LA Sy X E (n + 1) (dConsF x tr)) := by
  obtain ⟨f, hm⟩ := D
  have h : PE X (.Name x p) (fun _ H Q => Q (.ref f) H) := ⟨fun pins s σ H Q I h => ld_glob I hg hm ⟨.ref f, H, I, rfl, h⟩ hdb⟩
  refine (pa_cons h r hs).weak fun σ H Q ⟨w, N, O, F, ρ, R, Ex, en, t, q, qx⟩ => ?_
  refine ⟨w, N, O, F, ρ, _, Ex, en, t, fun us vs H2 hl r2 k2 hv => ?_, qx⟩
  have kk : N.K = X.K := en.ok.kk
  exact q (.fn x :: us) (.ref f :: vs) H2 (by simp [hl]) r2 k2 ⟨⟨f, by rw [kk, hn, hm], rfl⟩, hv⟩
theorem d_callV {g : Bool} {y : Str} {p pos : Pos} {e : Expr} {i j k : Nat} {FT : Str → TF → Prop} (hv : PE X (.Name y p) (tVar i))
    (hF : ∀ x tf, FT x tf → Cq g (L2.CX X.prog X.w) X.prog X.w X.K X.mg X.base k x (spF (gnd Sy X) X.mg n tf) ∧ PySem.W.nsIn X.K mainGlobals x = some (X.mg x)) (hr : Room j X.A) (hG : g = true → X.A.guards = some []) (hx : ∀ σ, PassesAt (L2.CX X.prog X.w) X σ (E σ))
    (ha : PA X (e :: es) (LA Sy X E n tr)) (hk : k ≤ j := by decide) (he : starEach (e :: es) X.env = (false, eval e X.env) :: starEach es X.env := by rfl) (hpl : (backTo pos (starEach es X.env)).any (·.1) = false := by rfl) :
    PE X (.Call (.Name y p) (e :: es) [] pos) (LE Sy X E (dCallV i FT tr)) := by
  refine ⟨fun pins s σ H Q I h => ?_⟩
  obtain ⟨w, N, O, F, ρ, R, Ex, en, t, q, qx⟩ := h
  unfold dCallV at t
  split at t
  · rename_i x hd
    obtain ⟨tf, ft, t⟩ := t
    obtain ⟨c, hn⟩ := hF x tf ft
    obtain ⟨v, h1, f0, h2, rfl⟩ := en.slot i _ hd
    obtain ⟨f, fd, ps, Fn, hm, kp, hb⟩ := c.ex
    have kk : N.K = X.K := en.ok.kk
    rw [kk, hn, hm] at h2
    cases h2
    refine wpAny_Call_Name_kw (thn (hv.run pins s σ H (fun v H' => v = .ref f0 ∧ H' = H) I ⟨.ref f0, h1, rfl, rfl⟩) ?_)
    rintro u s0 ⟨v, H0, I0, rv, rfl, rfl⟩
    cases rv
    refine PySem.W.callWith_K (h₀ := X.base) I0.ok.mod.kin kp (thn (ha.run pos pins s0 σ H0 (fun vs H1 => spF (gnd Sy X) X.mg n tf vs H1 Q (E σ)) I0 ?_) ?_) he hpl
    · refine ⟨w, N, O, F, ρ, _, Ex, en, t, fun us vs H1 hl r1 k1 hv => ?_, qx⟩
      exact ⟨w, N, us, R, Ex, hl, hv, (en.step k1).ok, r1, fun d v H' hr k dv => q d v H' hr (k1.trans k) dv, fun x cls dx H' hx k hh => qx x cls dx H' hx (k1.trans k) hh⟩
    · rintro us s1 ⟨vs, H1, I1, r, q1⟩
      have hl : us.length = ps.length := r.length ▸ Fn.len _ _ _ _ q1
      have bt := hb s1 us I1.kIn (by rw [List.append_nil]; exact hl)
      rw [List.append_nil] at bt
      refine ⟨I1.kIn, wpAny_call (codeAny_mono (Fn.run X.A (hr.mono hk) hG X.stack s1 H1 I1.env0 ⟨us, []⟩ us vs bt r Q (E σ) q1) ?_)⟩
      rintro (er | (_ | _ | _ | u)) s' z
      · exact hx σ pins H1 s1 er s' I1 z
      · exact z.elim
      · exact z.elim
      · exact z.elim
      · exact I1.after z
  · exact t.elim
end
end Ld

namespace Ld
open PySem PySem.Spec PyProof.Rows L2
open Lw hiding Dv DvAll FreshB tData tDatas pd_int pd_bl pd_non pd_str pd_neg pd_pow pda_nil pda_cons pd_tup pd_lst pd_dct dv_cut dv_cat tup_at rRepr call_repr rIsD call_isD
/-! ### comprehensions with two for -/
def lcD2 (gd : GD) (tt : TTD) (ti1 : ID) (vs1 : List Nat) (gd1 : GD) (tt1 : TTD) (te : TD) (ρ : Env) : List PyData → (List PyData → Prop) → Prop
  | [], K => K []
  | d :: r, K => gd d ρ (fun ρ' => tt ρ' (fun b => if b = true then ti1 ρ' (fun ds1 => ds1.length ≤ 1000 ∧ lcD gd1 tt1 te (wipeD ρ' vs1) ds1 (fun ys1 => lcD2 gd tt ti1 vs1 gd1 tt1 te ρ r (fun ys => K (ys1 ++ ys)))) NoX else lcD2 gd tt ti1 vs1 gd1 tt1 te ρ r K) NoX)
def dLc2 (ti : ID) (sl : List Nat) (gd : GD) (tt : TTD) (ti1 : ID) (sl1 : List Nat) (gd1 : GD) (tt1 : TTD) (te : TD) : TD := fun ρ R Ex => ti ρ (fun ds => ds.length ≤ 1000 ∧ lcD2 gd tt ti1 sl1 gd1 tt1 te (wipeD ρ sl) ds (fun ys => R (.list ys))) Ex
section
variable {Sy : Md} {X Y : Cx} {E : L2.St → XK} {e : Expr} {st : Stmt} {wi wi1 : TI} {ti ti1 : ID} {g g1 : TG} {gd gd1 : GD} {tt tt1 : TTD} {te : TD} {sl vs sl1 vs1 : List Nat}
theorem lc2_in {w : Wx} {N : Bn} {O : Nat → Option Addr} {F : Keep} {ρ : Env} {σ : L2.St} {H : Hp} {R : RD} {Ex : XD} {Q : VK} (hy : Sy.y = false) (hb : gnd Sy Y = gnd Sy X) (hi : IOk Sy X E wi ti) (hg : GOk X.K g gd sl) (hs : ∀ i ∈ sl, i ∈ vs)
    (hi1 : IOk Sy Y EX0 wi1 ti1) (hg1 : GOk X.K g1 gd1 sl1) (hs1 : ∀ i ∈ sl1, i ∈ vs1) (en : EnvR (gnd Sy X) w N O F H σ ρ) (h : dLc2 ti vs gd tt ti1 vs1 gd1 tt1 te ρ R Ex)
    (q : ∀ d v H', R d → Stp w H H' → Dv N H' v d → Q v H') (qx : ∀ x cls dx H', Ex x → Stp w H H' → ExAt X.mg N H' cls dx x → E σ cls dx H') : tLc2 wi g (LT Sy Y EX0 tt) wi1 g1 (LT Sy Y EX0 tt1) (LE Sy Y EX0 te) vs vs1 σ H Q := by
  refine hi.run w N O F ρ σ H _ Ex _ en h (fun ds J G H1 r s hG fd => ?_) qx
  intro D hD
  obtain ⟨hlen, r⟩ := r
  have en1 := en.step s
  have enG : EnvR (gnd Sy X) w N O (G ++ F) H1 σ ρ := ⟨en1.ok, en1.len, en1.slot, en1.inj, en1.ow, fun p hp => (List.mem_append.mp hp).elim (hG p) (en1.kept p)⟩
  have hw : ¬ w.has D := en1.ok.new hD
  have ho : ∀ i, O i ≠ some D := fun i z => by
    obtain ⟨_, _, u, z2⟩ := en1.ow i D z
    rw [hD] at z2
    cases z2
  have hYK : Y.K = X.K := congrArg Gnd.K hb
  refine ⟨fun i m H => i + m = ds.length ∧ ∃ acc accD, Stp w H1 H ∧ EnvR (gnd Sy X) w (Bn.add N D) O (G ++ F) H σ ρ ∧ H D = some (.lst acc) ∧ DvAll (Bn.add N D) H acc accD ∧ accD.length ≤ i * 1000 ∧ lcD2 gd tt ti1 vs1 gd1 tt1 te (wipeD ρ vs) (ds.drop i) (fun ys => R (.list (accD ++ ys))), ⟨ds.length, by omega, [], [], .of (same_new hD _), enG.ban hD, upd_same, .nil, Nat.le_refl 0, by rw [List.drop_zero]; exact r⟩, ?_⟩
  rintro i m H ⟨im, acc, accD, st1, en2, eD, all, al, h⟩
  have live : ∀ p ∈ G, Dv (Bn.add N D) H p.1 p.2 := fun p hp => en2.kept p (List.mem_append_left _ hp)
  cases e : ds.drop i with
  | nil =>
    rw [e] at h
    have ei := drop_end (by omega) e
    subst ei
    refine .inl ⟨fd.stop (Bn.add N D) H en1.ok.kk live, ?_⟩
    have h' : R (.list accD) := by
      have : R (.list (accD ++ [])) := h
      rwa [List.append_nil] at this
    exact q _ _ H h' (s.trans st1) (.lst (en1.ok.sl hy D hD) eD (DvAll.map (N := Bn.add N D) (N' := N) rfl (fun b u n q => ⟨q, fun z => n (.inl z)⟩) (fun _ _ q => q) _ _ all))
  | cons d rest =>
    rw [e] at h
    obtain ⟨e1, e2⟩ := drop_get e
    have il := (List.getElem?_eq_some_iff.mp e1).1
    obtain ⟨g1', g2⟩ := fd.go (Bn.add N D) H i d en1.ok.kk live e1
    refine .inr ⟨g1', _, fun H' z => z, fun x H' hyl => ?_⟩
    obtain ⟨s2, dx⟩ := g2 x H' hyl
    have s2' : Stp w H H' := .of s2
    have en3 := en2.step s2'
    refine hg.run (gnd Sy X) w (Bn.add N D) O (G ++ F) H' (wipe σ vs) (wipeD ρ vs) x d _ _ rfl (en3.wipe vs) dx h fun O' σ' ρ' hb2 b3 wp oo => ?_
    refine ⟨(wp vs hs).trans (wipe_wipe σ vs vs fun _ z => z), ?_⟩
    have ho' : ∀ i, O' i ≠ some D := fun i z => ho i (oo i D z)
    refine ⟨w, _, O', G ++ F, ρ', _, _, hb ▸ b3, hb2, fun b H2 hb4 k2 => ?_, fun _ _ _ _ z => z.elim⟩
    have eD2 : H2 D = some (.lst acc) := k2.kp _ _ hw lst_ne (s2'.kp _ _ hw lst_ne eD)
    have all2 : DvAll (Bn.add N D) H2 acc accD := dvs_step (dvs_step all en2.hw s2') en2.hw k2
    have en4 := en3.step k2
    have st2 := (st1.trans s2').trans k2
    cases b with
    | false =>
      exact ⟨m - 1, by omega, by omega, acc, accD, st2, en4, eD2, all2, by omega, by rw [e2]; exact hb4⟩
    | true =>
      have b4 := b3.step k2
      refine hi1.run w (Bn.add N D) O' (G ++ F) ρ' σ' H2 _ _ _ (hb ▸ b4) hb4 (fun ds1 J1 G1 H4 r1 s4 hG1 fd1 => ?_) (fun _ _ _ _ z => z.elim)
      obtain ⟨hlen1, r1⟩ := r1
      have b5 := b4.step s4
      have b5G : EnvR (gnd Sy X) w (Bn.add N D) O' (G1 ++ (G ++ F)) H4 σ' ρ' := ⟨b5.ok, b5.len, b5.slot, b5.inj, b5.ow, fun p hp => (List.mem_append.mp hp).elim (hG1 p) (b5.kept p)⟩
      have eD4 := s4.kp _ _ hw lst_ne eD2
      refine ⟨fun j k H => j + k = ds1.length ∧ ∃ acc accE, Stp w H1 H ∧ EnvR (gnd Sy X) w (Bn.add N D) O (G ++ F) H σ ρ ∧ EnvR (gnd Sy X) w (Bn.add N D) O' (G1 ++ (G ++ F)) H σ' ρ' ∧ H D = some (.lst acc) ∧ DvAll (Bn.add N D) H acc (accD ++ accE) ∧ accE.length ≤ j ∧ lcD gd1 tt1 te (wipeD ρ' vs1) (ds1.drop j) (fun ys1 => lcD2 gd tt ti1 vs1 gd1 tt1 te (wipeD ρ vs) rest (fun ys => R (.list (accD ++ ((accE ++ ys1) ++ ys))))),
        ⟨ds1.length, by omega, acc, [], st2.trans s4, en4.step s4, b5G, eD4, by rw [List.append_nil]; exact dvs_step all2 en2.hw s4, Nat.le_refl 0, by rw [List.drop_zero]; exact r1⟩, ?_⟩
      rintro j k H5 ⟨jk, acc5, accE, st5, en5, b6, eD5, all5, al5, h5⟩
      have live1 : ∀ p ∈ G1, Dv (Bn.add N D) H5 p.1 p.2 := fun p hp => b6.kept p (List.mem_append_left _ hp)
      cases e5 : ds1.drop j with
      | nil =>
        rw [e5] at h5
        have ej := drop_end (by omega) e5
        subst ej
        refine .inl ⟨fd1.stop (Bn.add N D) H5 (en1.ok.kk.trans hYK.symm) live1, m - 1, by omega, by omega, acc5, accD ++ accE, st5, en5, eD5, all5, by rw [List.length_append]; omega, ?_⟩
        rw [e2]
        have h5' : lcD2 gd tt ti1 vs1 gd1 tt1 te (wipeD ρ vs) rest (fun ys => R (.list (accD ++ ((accE ++ []) ++ ys)))) := h5
        simp only [List.append_nil] at h5'
        simp only [List.append_assoc]
        exact h5'
      | cons d1 rest1 =>
        rw [e5] at h5
        obtain ⟨f1, f2⟩ := drop_get e5
        have jl := (List.getElem?_eq_some_iff.mp f1).1
        obtain ⟨g3, g4⟩ := fd1.go (Bn.add N D) H5 j d1 (en1.ok.kk.trans hYK.symm) live1 f1
        refine .inr ⟨g3, _, fun H' z => z, fun x1 H6 hyl1 => ?_⟩
        obtain ⟨s6, dx1⟩ := g4 x1 H6 hyl1
        have s6' : Stp w H5 H6 := .of s6
        have b7 := b6.step s6'
        refine hg1.run (gnd Sy X) w (Bn.add N D) O' (G1 ++ (G ++ F)) H6 (wipe σ' vs1) (wipeD ρ' vs1) x1 d1 _ _ rfl (b7.wipe vs1) dx1 h5 fun O2 σ2 ρ2 hb8 b8 wp8 _ => ?_
        refine ⟨(wp8 vs1 hs1).trans (wipe_wipe σ' vs1 vs1 fun _ z => z), ?_⟩
        refine ⟨w, _, O2, G1 ++ (G ++ F), ρ2, _, _, hb ▸ b8, hb8, fun b H7 hb9 k7 => ?_, fun _ _ _ _ z => z.elim⟩
        have eD7 : H7 D = some (.lst acc5) := k7.kp _ _ hw lst_ne (s6'.kp _ _ hw lst_ne eD5)
        have all7 : DvAll (Bn.add N D) H7 acc5 (accD ++ accE) := dvs_step (dvs_step all5 en2.hw s6') en2.hw k7
        have en7 := (en5.step s6').step k7
        have b9 := b7.step k7
        have st7 := (st5.trans s6').trans k7
        cases b with
        | false => exact ⟨k - 1, by omega, by omega, acc5, accE, st7, en7, b9, eD7, all7, by omega, by rw [f2]; exact hb9⟩
        | true =>
          refine ⟨w, _, O2, G1 ++ (G ++ F), ρ2, _, _, hb ▸ (b8.step k7), hb9, fun y u H8 hb10 k8 dy => ?_, fun _ _ _ _ z => z.elim⟩
          have eD8 := k8.kp _ _ hw lst_ne eD7
          refine ⟨acc5, eD8, by rw [all5.length, List.length_append, sizeLine_eq]; omega, k - 1, by omega, by omega, acc5 ++ [u], accE ++ [y], stp_new (st7.trans k8) (fun u q => by rw [hD] at q; cases q) hw ⟨_, eD8⟩, (en7.step k8).poke (.inr rfl) hw ho eD8, (b9.step k8).poke (.inr rfl) hw ho' eD8, upd_same, ?_, by simp; omega, ?_⟩
          · rw [← List.append_assoc]
            exact (dvs_poke (dvs_step all7 en2.hw k8) (.inr rfl) eD8).app (.cons (dv_poke dy (.inr rfl) eD8) .nil)
          · rw [f2]
            have : (fun ys1 => lcD2 gd tt ti1 vs1 gd1 tt1 te (wipeD ρ vs) rest (fun ys => R (.list (accD ++ ((accE ++ y :: ys1) ++ ys))))) = fun ys1 => lcD2 gd tt ti1 vs1 gd1 tt1 te (wipeD ρ vs) rest (fun ys => R (.list (accD ++ ((accE ++ [y] ++ ys1) ++ ys)))) := by
              funext ys1
              simp
            rw [← this]
            exact hb10
theorem d_lc2 (hi : IOk ⟨false, Tz⟩ X E wi ti) (hg : GOk X.K g gd sl) (hi1 : IOk ⟨false, Tz⟩ X EX0 wi1 ti1) (hg1 : GOk X.K g1 gd1 sl1) (h : PE X e (tLc2 wi g (LT ⟨false, Tz⟩ X EX0 tt) wi1 g1 (LT ⟨false, Tz⟩ X EX0 tt1) (LE ⟨false, Tz⟩ X EX0 te) vs vs1)) (hs : ∀ i ∈ sl, i ∈ vs := by decide) (hs1 : ∀ i ∈ sl1, i ∈ vs1 := by decide) : PE X e (LE ⟨false, Tz⟩ X E (dLc2 ti vs gd tt ti1 vs1 gd1 tt1 te)) := h.weak fun σ H Q ⟨w, N, O, F, ρ, R, Ex, en, t, q, qx⟩ =>
  lc2_in (Y := X) rfl rfl hi hg hs hi1 hg1 hs1 en t (q) qx
end
/-! ### x.insert(k, e), k or e reads x -/
def sInsL (i : Nat) (ta : TAD) : TSD := fun D ρ => ownK (slotD ρ i) fun ds => ta (putD ρ i (some (.dat (.list ds)))) (fun us => match us with
  | [.dat (.int k), .dat d] => noL d = true ∧ (ds.length < 16000000 ∧ 0 ≤ k ∧ k < 2 ^ 63) ∧ D.nx (putD ρ i (some (.own (ds.take k.toNat ++ [d] ++ ds.drop k.toNat))))
  | _ => False) (fun x => noLx x = true ∧ D.ex ρ x)
section
variable {Sy : Md} {X : Cx} {E : L2.St → XK} {st : Stmt} {i n : Nat} {tr : TAD}
theorem ds_insL (h : PS X st (tDrop (tBM X.K "list" (fun x vs H Q => ∃ (l : Addr) (xs : List V) (i : Int) (y : V), x = .ref l ∧ vs = [.int i, y] ∧ H l = some (.lst xs) ∧ xs.length < sizeLine ∧ 0 ≤ i ∧ i < 2 ^ 63 ∧ Q .non (upd H l (.lst (xs.take i.toNat ++ [y] ++ xs.drop i.toNat)))) (tVar i) (LA Sy X E n tr)))) : PS X st (LS Sy X E (sInsL i tr)) := h.weak fun D σ H ⟨w, N0, H0, N, O, F, ρ, DD, b, h, k⟩ => by
  obtain ⟨ds, hs, h⟩ := ownK_of h
  obtain ⟨v, h1, a, xs, rfl, ho, ha, all⟩ := b.e.slot i _ hs
  refine ⟨_, h1, .inl ⟨rfl, _, .of ha⟩, ?_⟩
  obtain ⟨N', O', b'⟩ := b.frz hs
  have hK : N.K = N'.K := b.e.ok.kk.trans b'.e.ok.kk.symm
  refine ⟨w, N', O', F, _, _, _, b'.e, h, fun us vs H' hl r s hv => ?_, fun x cls dx H' hx s hh => k.ex N O H' σ ρ x cls dx hx.2 (b.step s) (ex_noL hK hx.1 hh)⟩
  split at r
  · rename_i kk d
    obtain ⟨hn, ⟨hlen, z0, z1⟩, r⟩ := r
    match vs, hv with
    | [v, u], hv =>
      have bs := b.step s
      obtain ⟨v2, h2, a2, xs2, e2, ho2, ha2, all2⟩ := bs.e.slot i _ hs
      rw [ho] at ho2
      cases ho2
      cases hv.1
      refine ⟨a, xs2, _, u, rfl, rfl, ha2, by rw [all2.length, sizeLine_eq]; omega, z0, z1, ?_⟩
      exact k.nx _ _ _ _ _ r (bs.ownSet hs ho ha2 (((all2.take _).app (.cons (dv_noL hK d _ hn hv.2.1) .nil)).app (all2.drop _)))
  · exact r.elim
end
end Ld

namespace My
open PySem L2 Lw
def topS (i : Nat) : Stmt := PySem.Challenge.pw_planehall_k08_whole_sides_of_places.main.body.getD i (.Pass ⟨0, 0, 0, 0⟩)
def inS (i j : Nat) : Stmt := match topS i with
  | .ClassDef (body := b) .. => b.getD j (.Pass ⟨0, 0, 0, 0⟩)
  | _ => .Pass ⟨0, 0, 0, 0⟩
abbrev s_p_reduced : Stmt := topS 6
abbrev N_p_reduced : List Str := ["top", "bottom", "part"]
theorem sc_p_reduced : FnScope N_p_reduced ["top", "bottom"] (defScope s_p_reduced) := ⟨rfl, rfl, rfl, by decide +kernel, rfl, by decide +kernel, by decide +kernel⟩
abbrev s_p_discriminant : Stmt := topS 7
abbrev N_p_discriminant : List Str := ["number"]
theorem sc_p_discriminant : FnScope N_p_discriminant ["number"] (defScope s_p_discriminant) := ⟨rfl, rfl, rfl, by decide +kernel, rfl, by decide +kernel, by decide +kernel⟩
abbrev s_p_surd_of : Stmt := topS 8
abbrev N_p_surd_of : List Str := ["number"]
theorem sc_p_surd_of : FnScope N_p_surd_of ["number"] (defScope s_p_surd_of) := ⟨rfl, rfl, rfl, by decide +kernel, rfl, by decide +kernel, by decide +kernel⟩
abbrev s_p_number_of : Stmt := topS 9
abbrev N_p_number_of : List Str := ["a", "b", "r", "w", "square", "middle", "rest", "part"]
theorem sc_p_number_of : FnScope N_p_number_of ["a", "b", "r", "w"] (defScope s_p_number_of) := ⟨rfl, rfl, rfl, by decide +kernel, rfl, by decide +kernel, by decide +kernel⟩
abbrev s_p_is_square : Stmt := topS 10
abbrev N_p_is_square : List Str := ["whole", "side"]
theorem sc_p_is_square : FnScope N_p_is_square ["whole"] (defScope s_p_is_square) := ⟨rfl, rfl, rfl, by decide +kernel, rfl, by decide +kernel, by decide +kernel⟩
abbrev s_p_have_one_field : Stmt := topS 11
abbrev N_p_have_one_field : List Str := ["number", "other"]
theorem sc_p_have_one_field : FnScope N_p_have_one_field ["number", "other"] (defScope s_p_have_one_field) := ⟨rfl, rfl, rfl, by decide +kernel, rfl, by decide +kernel, by decide +kernel⟩
abbrev s_p_over_one_root : Stmt := topS 12
abbrev N_p_over_one_root : List Str := ["number", "other", "a", "b", "r", "w", "c", "d", "s", "v"]
theorem sc_p_over_one_root : FnScope N_p_over_one_root ["number", "other"] (defScope s_p_over_one_root) := ⟨rfl, rfl, rfl, by decide +kernel, rfl, by decide +kernel, by decide +kernel⟩
abbrev s_p_add : Stmt := topS 13
abbrev N_p_add : List Str := ["number", "other", "a", "b", "w", "c", "d", "v", "r"]
theorem sc_p_add : FnScope N_p_add ["number", "other"] (defScope s_p_add) := ⟨rfl, rfl, rfl, by decide +kernel, rfl, by decide +kernel, by decide +kernel⟩
abbrev s_p_negative : Stmt := topS 14
abbrev N_p_negative : List Str := ["number"]
theorem sc_p_negative : FnScope N_p_negative ["number"] (defScope s_p_negative) := ⟨rfl, rfl, rfl, by decide +kernel, rfl, by decide +kernel, by decide +kernel⟩
abbrev s_p_subtract : Stmt := topS 15
abbrev N_p_subtract : List Str := ["number", "other"]
theorem sc_p_subtract : FnScope N_p_subtract ["number", "other"] (defScope s_p_subtract) := ⟨rfl, rfl, rfl, by decide +kernel, rfl, by decide +kernel, by decide +kernel⟩
abbrev s_p_multiply : Stmt := topS 16
abbrev N_p_multiply : List Str := ["number", "other", "a", "b", "w", "c", "d", "v", "r"]
theorem sc_p_multiply : FnScope N_p_multiply ["number", "other"] (defScope s_p_multiply) := ⟨rfl, rfl, rfl, by decide +kernel, rfl, by decide +kernel, by decide +kernel⟩
abbrev s_p_squared : Stmt := topS 17
abbrev N_p_squared : List Str := ["number"]
theorem sc_p_squared : FnScope N_p_squared ["number"] (defScope s_p_squared) := ⟨rfl, rfl, rfl, by decide +kernel, rfl, by decide +kernel, by decide +kernel⟩
abbrev s_p_sign : Stmt := topS 18
abbrev N_p_sign : List Str := ["whole"]
theorem sc_p_sign : FnScope N_p_sign ["whole"] (defScope s_p_sign) := ⟨rfl, rfl, rfl, by decide +kernel, rfl, by decide +kernel, by decide +kernel⟩
abbrev s_p_sign_of_two : Stmt := topS 19
abbrev N_p_sign_of_two : List Str := ["a", "b", "r", "first", "second"]
theorem sc_p_sign_of_two : FnScope N_p_sign_of_two ["a", "b", "r"] (defScope s_p_sign_of_two) := ⟨rfl, rfl, rfl, by decide +kernel, rfl, by decide +kernel, by decide +kernel⟩
abbrev s_p_sign_of : Stmt := topS 20
abbrev N_p_sign_of : List Str := ["number", "a", "b", "r", "_"]
theorem sc_p_sign_of : FnScope N_p_sign_of ["number"] (defScope s_p_sign_of) := ⟨rfl, rfl, rfl, by decide +kernel, rfl, by decide +kernel, by decide +kernel⟩
abbrev s_p_value_at : Stmt := topS 22
abbrev N_p_value_at : List Str := ["curve", "place", "kind", "a", "b", "c"]
theorem sc_p_value_at : FnScope N_p_value_at ["curve", "place"] (defScope s_p_value_at) := ⟨rfl, rfl, rfl, by decide +kernel, rfl, by decide +kernel, by decide +kernel⟩
abbrev s_p_side_of : Stmt := topS 23
abbrev N_p_side_of : List Str := ["curve", "place"]
theorem sc_p_side_of : FnScope N_p_side_of ["curve", "place"] (defScope s_p_side_of) := ⟨rfl, rfl, rfl, by decide +kernel, rfl, by decide +kernel, by decide +kernel⟩
abbrev s_p_is_whole : Stmt := topS 25
abbrev N_p_is_whole : List Str := ["value"]
theorem sc_p_is_whole : FnScope N_p_is_whole ["value"] (defScope s_p_is_whole) := ⟨rfl, rfl, rfl, by decide +kernel, rfl, by decide +kernel, by decide +kernel⟩
abbrev s_p_is_fraction : Stmt := topS 26
abbrev N_p_is_fraction : List Str := ["value"]
theorem sc_p_is_fraction : FnScope N_p_is_fraction ["value"] (defScope s_p_is_fraction) := ⟨rfl, rfl, rfl, by decide +kernel, rfl, by decide +kernel, by decide +kernel⟩
abbrev s_p_is_root : Stmt := topS 27
abbrev N_p_is_root : List Str := ["value", "square", "middle", "rest", "_", "under"]
theorem sc_p_is_root : FnScope N_p_is_root ["value"] (defScope s_p_is_root) := ⟨rfl, rfl, rfl, by decide +kernel, rfl, by decide +kernel, by decide +kernel⟩
abbrev s_p_is_number : Stmt := topS 28
abbrev N_p_is_number : List Str := ["value"]
theorem sc_p_is_number : FnScope N_p_is_number ["value"] (defScope s_p_is_number) := ⟨rfl, rfl, rfl, by decide +kernel, rfl, by decide +kernel, by decide +kernel⟩
abbrev s_p_is_place : Stmt := topS 30
abbrev N_p_is_place : List Str := ["value"]
theorem sc_p_is_place : FnScope N_p_is_place ["value"] (defScope s_p_is_place) := ⟨rfl, rfl, rfl, by decide +kernel, rfl, by decide +kernel, by decide +kernel⟩
abbrev s_p_is_curve : Stmt := topS 31
abbrev N_p_is_curve : List Str := ["value", "kind", "a", "b", "c"]
theorem sc_p_is_curve : FnScope N_p_is_curve ["value"] (defScope s_p_is_curve) := ⟨rfl, rfl, rfl, by decide +kernel, rfl, by decide +kernel, by decide +kernel⟩
abbrev s_p_check_place : Stmt := topS 32
abbrev N_p_check_place : List Str := ["place"]
theorem sc_p_check_place : FnScope N_p_check_place ["place"] (defScope s_p_check_place) := ⟨rfl, rfl, rfl, by decide +kernel, rfl, by decide +kernel, by decide +kernel⟩
abbrev s_p_check_curve : Stmt := topS 33
abbrev N_p_check_curve : List Str := ["curve"]
theorem sc_p_check_curve : FnScope N_p_check_curve ["curve"] (defScope s_p_check_curve) := ⟨rfl, rfl, rfl, by decide +kernel, rfl, by decide +kernel, by decide +kernel⟩
abbrev s_p_sign_at : Stmt := topS 34
abbrev N_p_sign_at : List Str := ["curve", "place"]
theorem sc_p_sign_at : FnScope N_p_sign_at ["curve", "place"] (defScope s_p_sign_at) := ⟨rfl, rfl, rfl, by decide +kernel, rfl, by decide +kernel, by decide +kernel⟩
abbrev s_l_well : Stmt := topS 36
abbrev N_l_well : List Str := ["_law_script", "_law_at", "_law_mixed", "_law_cell", "_law_own"]
theorem sc_l_well : FnScope N_l_well ["_law_script", "_law_at"] (defScope s_l_well) := ⟨rfl, rfl, rfl, by decide +kernel, rfl, by decide +kernel, by decide +kernel⟩
abbrev s_l_draw : Stmt := topS 37
abbrev N_l_draw : List Str := ["_law_well_here", "_law_many", "_law_figure", "_law_seed"]
theorem sc_l_draw : FnScope N_l_draw ["_law_well_here", "_law_many"] (defScope s_l_draw) := ⟨rfl, rfl, rfl, by decide +kernel, rfl, by decide +kernel, by decide +kernel⟩
abbrev s_l_pick : Stmt := topS 38
abbrev N_l_pick : List Str := ["_law_well_here", "_law_some"]
theorem sc_l_pick : FnScope N_l_pick ["_law_well_here", "_law_some"] (defScope s_l_pick) := ⟨rfl, rfl, rfl, by decide +kernel, rfl, by decide +kernel, by decide +kernel⟩
abbrev s_l_common : Stmt := topS 39
abbrev N_l_common : List Str := ["_law_one", "_law_two", "_law_far", "_law_rest"]
theorem sc_l_common : FnScope N_l_common ["_law_one", "_law_two"] (defScope s_l_common) := ⟨rfl, rfl, rfl, by decide +kernel, rfl, by decide +kernel, by decide +kernel⟩
abbrev s_l_lean : Stmt := topS 40
abbrev N_l_lean : List Str := ["_law_top", "_law_low", "_law_far"]
theorem sc_l_lean : FnScope N_l_lean ["_law_top", "_law_low"] (defScope s_l_lean) := ⟨rfl, rfl, rfl, by decide +kernel, rfl, by decide +kernel, by decide +kernel⟩
abbrev s_l_add : Stmt := topS 41
abbrev N_l_add : List Str := ["_law_one", "_law_two"]
theorem sc_l_add : FnScope N_l_add ["_law_one", "_law_two"] (defScope s_l_add) := ⟨rfl, rfl, rfl, by decide +kernel, rfl, by decide +kernel, by decide +kernel⟩
abbrev s_l_mul : Stmt := topS 42
abbrev N_l_mul : List Str := ["_law_one", "_law_two"]
theorem sc_l_mul : FnScope N_l_mul ["_law_one", "_law_two"] (defScope s_l_mul) := ⟨rfl, rfl, rfl, by decide +kernel, rfl, by decide +kernel, by decide +kernel⟩
abbrev s_l_neg : Stmt := topS 43
abbrev N_l_neg : List Str := ["_law_one"]
theorem sc_l_neg : FnScope N_l_neg ["_law_one"] (defScope s_l_neg) := ⟨rfl, rfl, rfl, by decide +kernel, rfl, by decide +kernel, by decide +kernel⟩
abbrev s_l_root : Stmt := topS 44
abbrev N_l_root : List Str := ["_law_number", "_law_found", "_law_spot", "_law_closer"]
theorem sc_l_root : FnScope N_l_root ["_law_number"] (defScope s_l_root) := ⟨rfl, rfl, rfl, by decide +kernel, rfl, by decide +kernel, by decide +kernel⟩
abbrev s_l_is_square : Stmt := topS 45
abbrev N_l_is_square : List Str := ["_law_number"]
theorem sc_l_is_square : FnScope N_l_is_square ["_law_number"] (defScope s_l_is_square) := ⟨rfl, rfl, rfl, by decide +kernel, rfl, by decide +kernel, by decide +kernel⟩
abbrev s_l_sign : Stmt := topS 46
abbrev N_l_sign : List Str := ["_law_number"]
theorem sc_l_sign : FnScope N_l_sign ["_law_number"] (defScope s_l_sign) := ⟨rfl, rfl, rfl, by decide +kernel, rfl, by decide +kernel, by decide +kernel⟩
abbrev s_l_sign_one : Stmt := topS 47
abbrev N_l_sign_one : List Str := ["_law_a", "_law_b", "_law_r", "_law_here", "_law_there"]
theorem sc_l_sign_one : FnScope N_l_sign_one ["_law_a", "_law_b", "_law_r"] (defScope s_l_sign_one) := ⟨rfl, rfl, rfl, by decide +kernel, rfl, by decide +kernel, by decide +kernel⟩
abbrev s_l_spread : Stmt := topS 48
abbrev N_l_spread : List Str := ["_law_number"]
theorem sc_l_spread : FnScope N_l_spread ["_law_number"] (defScope s_l_spread) := ⟨rfl, rfl, rfl, by decide +kernel, rfl, by decide +kernel, by decide +kernel⟩
abbrev s_l_formed : Stmt := topS 49
abbrev N_l_formed : List Str := ["_law_one", "_law_a", "_law_b", "_law_r", "_law_d", "_law_p", "_law_q", "_law_s", "_law_far"]
theorem sc_l_formed : FnScope N_l_formed ["_law_one"] (defScope s_l_formed) := ⟨rfl, rfl, rfl, by decide +kernel, rfl, by decide +kernel, by decide +kernel⟩
abbrev s_l_both : Stmt := topS 50
abbrev N_l_both : List Str := ["_law_one", "_law_two", "_law_a", "_law_b", "_law_r", "_law_d", "_law_c", "_law_e", "_law_s", "_law_f"]
theorem sc_l_both : FnScope N_l_both ["_law_one", "_law_two"] (defScope s_l_both) := ⟨rfl, rfl, rfl, by decide +kernel, rfl, by decide +kernel, by decide +kernel⟩
abbrev s_l_seat : Stmt := topS 51
abbrev N_l_seat : List Str := ["_law_place_here"]
theorem sc_l_seat : FnScope N_l_seat ["_law_place_here"] (defScope s_l_seat) := ⟨rfl, rfl, rfl, by decide +kernel, rfl, by decide +kernel, by decide +kernel⟩
abbrev s_l_place : Stmt := topS 52
abbrev N_l_place : List Str := ["_law_seat_here"]
theorem sc_l_place : FnScope N_l_place ["_law_seat_here"] (defScope s_l_place) := ⟨rfl, rfl, rfl, by decide +kernel, rfl, by decide +kernel, by decide +kernel⟩
abbrev s_l_bar : Stmt := topS 53
abbrev N_l_bar : List Str := ["_law_curve_here", "_law_a", "_law_b", "_law_c"]
theorem sc_l_bar : FnScope N_l_bar ["_law_curve_here"] (defScope s_l_bar) := ⟨rfl, rfl, rfl, by decide +kernel, rfl, by decide +kernel, by decide +kernel⟩
abbrev s_l_ring : Stmt := topS 54
abbrev N_l_ring : List Str := ["_law_curve_here", "_law_x", "_law_y", "_law_q", "_law_m"]
theorem sc_l_ring : FnScope N_l_ring ["_law_curve_here"] (defScope s_l_ring) := ⟨rfl, rfl, rfl, by decide +kernel, rfl, by decide +kernel, by decide +kernel⟩
abbrev s_l_form : Stmt := topS 55
abbrev N_l_form : List Str := ["_law_curve_here", "_law_a", "_law_b", "_law_c", "_law_far"]
theorem sc_l_form : FnScope N_l_form ["_law_curve_here"] (defScope s_l_form) := ⟨rfl, rfl, rfl, by decide +kernel, rfl, by decide +kernel, by decide +kernel⟩
abbrev s_l_side : Stmt := topS 56
abbrev N_l_side : List Str := ["_law_curve_here", "_law_seat_here", "_law_x", "_law_y", "_law_r", "_law_d", "_law_a", "_law_b", "_law_c", "_law_u", "_law_v", "_law_t", "_law_m", "_law_e", "_law_f", "_law_g", "_law_h"]
theorem sc_l_side : FnScope N_l_side ["_law_curve_here", "_law_seat_here"] (defScope s_l_side) := ⟨rfl, rfl, rfl, by decide +kernel, rfl, by decide +kernel, by decide +kernel⟩
abbrev s_l_chord : Stmt := topS 57
abbrev N_l_chord : List Str := ["_law_bar_here", "_law_ring_here", "_law_far", "_law_a", "_law_b", "_law_c", "_law_u", "_law_v", "_law_t", "_law_m", "_law_n", "_law_k", "_law_r", "_law_x", "_law_y", "_law_d", "_law_found"]
theorem sc_l_chord : FnScope N_l_chord ["_law_bar_here", "_law_ring_here"] (defScope s_l_chord) := ⟨rfl, rfl, rfl, by decide +kernel, rfl, by decide +kernel, by decide +kernel⟩
abbrev s_l_meet : Stmt := topS 58
abbrev N_l_meet : List Str := ["_law_one", "_law_two", "_law_low", "_law_by", "_law_a", "_law_b", "_law_c", "_law_e", "_law_f", "_law_g", "_law_u", "_law_v", "_law_t", "_law_m", "_law_k"]
theorem sc_l_meet : FnScope N_l_meet ["_law_one", "_law_two"] (defScope s_l_meet) := ⟨rfl, rfl, rfl, by decide +kernel, rfl, by decide +kernel, by decide +kernel⟩
abbrev s_l_small : Stmt := topS 59
abbrev N_l_small : List Str := ["_law_well_here"]
theorem sc_l_small : FnScope N_l_small ["_law_well_here"] (defScope s_l_small) := ⟨rfl, rfl, rfl, by decide +kernel, rfl, by decide +kernel, by decide +kernel⟩
abbrev s_l_point : Stmt := topS 60
abbrev N_l_point : List Str := ["_law_well_here", "_law_x"]
theorem sc_l_point : FnScope N_l_point ["_law_well_here"] (defScope s_l_point) := ⟨rfl, rfl, rfl, by decide +kernel, rfl, by decide +kernel, by decide +kernel⟩
abbrev s_l_size : Stmt := topS 61
abbrev N_l_size : List Str := ["_law_well_here"]
theorem sc_l_size : FnScope N_l_size ["_law_well_here"] (defScope s_l_size) := ⟨rfl, rfl, rfl, by decide +kernel, rfl, by decide +kernel, by decide +kernel⟩
abbrev s_l_disc : Stmt := topS 62
abbrev N_l_disc : List Str := ["_law_well_here", "_law_x", "_law_y"]
theorem sc_l_disc : FnScope N_l_disc ["_law_well_here"] (defScope s_l_disc) := ⟨rfl, rfl, rfl, by decide +kernel, rfl, by decide +kernel, by decide +kernel⟩
abbrev s_l_line : Stmt := topS 63
abbrev N_l_line : List Str := ["_law_well_here", "_law_some", "_law_a", "_law_b", "_law_by"]
theorem sc_l_line : FnScope N_l_line ["_law_well_here"] (defScope s_l_line) := ⟨rfl, rfl, rfl, by decide +kernel, rfl, by decide +kernel, by decide +kernel⟩
abbrev s_l_beside : Stmt := topS 64
abbrev N_l_beside : List Str := ["_law_well_here", "_law_ring_here", "_law_x", "_law_y", "_law_q", "_law_branch", "_law_r", "_law_s", "_law_way", "_law_far"]
theorem sc_l_beside : FnScope N_l_beside ["_law_well_here", "_law_ring_here"] (defScope s_l_beside) := ⟨rfl, rfl, rfl, by decide +kernel, rfl, by decide +kernel, by decide +kernel⟩
abbrev s_l_through : Stmt := topS 65
abbrev N_l_through : List Str := ["_law_well_here", "_law_some", "_law_x", "_law_y", "_law_seats", "_law_seat_here", "_law_a", "_law_b", "_law_u", "_law_v", "_law_far", "_law_high", "_law_square"]
theorem sc_l_through : FnScope N_l_through ["_law_well_here", "_law_some"] (defScope s_l_through) := ⟨rfl, rfl, rfl, by decide +kernel, rfl, by decide +kernel, by decide +kernel⟩
abbrev s_l_curve : Stmt := topS 66
abbrev N_l_curve : List Str := ["_law_well_here", "_law_some", "_law_branch", "_law_rings", "_law_each"]
theorem sc_l_curve : FnScope N_l_curve ["_law_well_here", "_law_some"] (defScope s_l_curve) := ⟨rfl, rfl, rfl, by decide +kernel, rfl, by decide +kernel, by decide +kernel⟩
abbrev s_l_seat_drawn : Stmt := topS 67
abbrev N_l_seat_drawn : List Str := ["_law_well_here", "_law_r", "_law_d", "_law_b"]
theorem sc_l_seat_drawn : FnScope N_l_seat_drawn ["_law_well_here"] (defScope s_l_seat_drawn) := ⟨rfl, rfl, rfl, by decide +kernel, rfl, by decide +kernel, by decide +kernel⟩
abbrev s_l_right : Stmt := topS 68
abbrev N_l_right : List Str := ["_law_well_here", "_law_some", "_law_seats", "_law_curve_here", "_law_each", "_law_seat_here", "_law_place_here", "_law_told"]
theorem sc_l_right : FnScope N_l_right ["_law_well_here"] (defScope s_l_right) := ⟨rfl, rfl, rfl, by decide +kernel, rfl, by decide +kernel, by decide +kernel⟩
abbrev s_l_law : Stmt := topS 69
abbrev N_l_law : List Str := ["_law_script", "_law_at"]
theorem sc_l_law : FnScope N_l_law ["_law_script"] (defScope s_l_law) := ⟨rfl, rfl, rfl, by decide +kernel, rfl, by decide +kernel, by decide +kernel⟩
abbrev s_iInvalidPlace : Stmt := inS 3 0
abbrev N_iInvalidPlace : List Str := ["self", "given"]
theorem sc_iInvalidPlace : FnScope N_iInvalidPlace ["self", "given"] (defScope s_iInvalidPlace) := ⟨rfl, rfl, rfl, by decide +kernel, rfl, by decide +kernel, by decide +kernel⟩
abbrev s_iInvalidCurve : Stmt := inS 4 0
abbrev N_iInvalidCurve : List Str := ["self", "given"]
theorem sc_iInvalidCurve : FnScope N_iInvalidCurve ["self", "given"] (defScope s_iInvalidCurve) := ⟨rfl, rfl, rfl, by decide +kernel, rfl, by decide +kernel, by decide +kernel⟩
structure Top (K : PySem.W.Frag) (mg : Str → Option Value) : Prop where
  d_p_reduced : Dn K mg "reduced" s_p_reduced ["top", "bottom"]
  d_p_discriminant : Dn K mg "discriminant" s_p_discriminant ["number"]
  d_p_surd_of : Dn K mg "surd_of" s_p_surd_of ["number"]
  d_p_number_of : Dn K mg "number_of" s_p_number_of ["a", "b", "r", "w"]
  d_p_is_square : Dn K mg "is_square" s_p_is_square ["whole"]
  d_p_have_one_field : Dn K mg "have_one_field" s_p_have_one_field ["number", "other"]
  d_p_over_one_root : Dn K mg "over_one_root" s_p_over_one_root ["number", "other"]
  d_p_add : Dn K mg "add" s_p_add ["number", "other"]
  d_p_negative : Dn K mg "negative" s_p_negative ["number"]
  d_p_subtract : Dn K mg "subtract" s_p_subtract ["number", "other"]
  d_p_multiply : Dn K mg "multiply" s_p_multiply ["number", "other"]
  d_p_squared : Dn K mg "squared" s_p_squared ["number"]
  d_p_sign : Dn K mg "sign" s_p_sign ["whole"]
  d_p_sign_of_two : Dn K mg "sign_of_two" s_p_sign_of_two ["a", "b", "r"]
  d_p_sign_of : Dn K mg "sign_of" s_p_sign_of ["number"]
  d_p_value_at : Dn K mg "value_at" s_p_value_at ["curve", "place"]
  d_p_side_of : Dn K mg "side_of" s_p_side_of ["curve", "place"]
  d_p_is_whole : Dn K mg "is_whole" s_p_is_whole ["value"]
  d_p_is_fraction : Dn K mg "is_fraction" s_p_is_fraction ["value"]
  d_p_is_root : Dn K mg "is_root" s_p_is_root ["value"]
  d_p_is_number : Dn K mg "is_number" s_p_is_number ["value"]
  d_p_is_place : Dn K mg "is_place" s_p_is_place ["value"]
  d_p_is_curve : Dn K mg "is_curve" s_p_is_curve ["value"]
  d_p_check_place : Dn K mg "check_place" s_p_check_place ["place"]
  d_p_check_curve : Dn K mg "check_curve" s_p_check_curve ["curve"]
  d_p_sign_at : Dn K mg "sign_at" s_p_sign_at ["curve", "place"]
  d_l_well : Dn K mg "_law_well" s_l_well ["_law_script", "_law_at"]
  d_l_draw : Dn K mg "_law_draw" s_l_draw ["_law_well_here", "_law_many"]
  d_l_pick : Dn K mg "_law_pick" s_l_pick ["_law_well_here", "_law_some"]
  d_l_common : Dn K mg "_law_common" s_l_common ["_law_one", "_law_two"]
  d_l_lean : Dn K mg "_law_lean" s_l_lean ["_law_top", "_law_low"]
  d_l_add : Dn K mg "_law_add" s_l_add ["_law_one", "_law_two"]
  d_l_mul : Dn K mg "_law_mul" s_l_mul ["_law_one", "_law_two"]
  d_l_neg : Dn K mg "_law_neg" s_l_neg ["_law_one"]
  d_l_root : Dn K mg "_law_root" s_l_root ["_law_number"]
  d_l_is_square : Dn K mg "_law_is_square" s_l_is_square ["_law_number"]
  d_l_sign : Dn K mg "_law_sign" s_l_sign ["_law_number"]
  d_l_sign_one : Dn K mg "_law_sign_one" s_l_sign_one ["_law_a", "_law_b", "_law_r"]
  d_l_spread : Dn K mg "_law_spread" s_l_spread ["_law_number"]
  d_l_formed : Dn K mg "_law_formed" s_l_formed ["_law_one"]
  d_l_both : Dn K mg "_law_both" s_l_both ["_law_one", "_law_two"]
  d_l_seat : Dn K mg "_law_seat" s_l_seat ["_law_place_here"]
  d_l_place : Dn K mg "_law_place" s_l_place ["_law_seat_here"]
  d_l_bar : Dn K mg "_law_bar" s_l_bar ["_law_curve_here"]
  d_l_ring : Dn K mg "_law_ring" s_l_ring ["_law_curve_here"]
  d_l_form : Dn K mg "_law_form" s_l_form ["_law_curve_here"]
  d_l_side : Dn K mg "_law_side" s_l_side ["_law_curve_here", "_law_seat_here"]
  d_l_chord : Dn K mg "_law_chord" s_l_chord ["_law_bar_here", "_law_ring_here"]
  d_l_meet : Dn K mg "_law_meet" s_l_meet ["_law_one", "_law_two"]
  d_l_small : Dn K mg "_law_small" s_l_small ["_law_well_here"]
  d_l_point : Dn K mg "_law_point" s_l_point ["_law_well_here"]
  d_l_size : Dn K mg "_law_size" s_l_size ["_law_well_here"]
  d_l_disc : Dn K mg "_law_disc" s_l_disc ["_law_well_here"]
  d_l_line : Dn K mg "_law_line" s_l_line ["_law_well_here"]
  d_l_beside : Dn K mg "_law_beside" s_l_beside ["_law_well_here", "_law_ring_here"]
  d_l_through : Dn K mg "_law_through" s_l_through ["_law_well_here", "_law_some"]
  d_l_curve : Dn K mg "_law_curve" s_l_curve ["_law_well_here", "_law_some"]
  d_l_seat_drawn : Dn K mg "_law_seat_drawn" s_l_seat_drawn ["_law_well_here"]
  d_l_right : Dn K mg "_law_right" s_l_right ["_law_well_here"]
  d_l_law : Dn K mg "law" s_l_law ["_law_script"]
  z_len : mg "len" = none
  z_abs : mg "abs" = none
  z_divmod : mg "divmod" = none
  z_repr : mg "repr" = none
  z_int : mg "int" = none
  z_list : mg "list" = none
  z_tuple : mg "tuple" = none
  z_max : mg "max" = none
  z_min : mg "min" = none
  z_all : mg "all" = none
  z_isinstance : mg "isinstance" = none
  z_bool : mg "bool" = none
  z_range : mg "range" = none
  z_str : mg "str" = none
  z_ValueError : mg "ValueError" = none
  g_gcd : mg "gcd" = some (.builtin "math.gcd")
  g_isqrt : mg "isqrt" = some (.builtin "math.isqrt")
  e_InvalidPlace : ∃ C fI fd, Ec K mg "InvalidPlace" "given" s_iInvalidPlace C fI fd
  e_InvalidCurve : ∃ C fI fd, Ec K mg "InvalidCurve" "given" s_iInvalidCurve C fI fd
theorem i_InvalidPlace {P : Program} {w : World} {K : PySem.W.Frag} {mg : Str → Option Value} {base : Heap} {C fI : Addr} {fd : FuncData} (ec : Ec K mg "InvalidPlace" "given" s_iInvalidPlace C fI fd) : FnOk P w K mg base CX0 1 fI fd ["self", "given"] (spInit "given" C) := by
  refine ec.fn.ok sc_iInvalidPlace (fun vs H Q E h => ?_) (fun cdv A outer s H vs Q E hr h => ?_)
  · obtain ⟨a, v, rfl, _⟩ := h
    rfl
  obtain ⟨a, v, rfl, ha, q⟩ := h
  refine ⟨_, (pss_one (ps_ost (pv 0) (pv 1))), ?_⟩
  exact ⟨_, rfl, _, rfl, a, C, rfl, ec.ox, ec.no, .inl ⟨ha, q⟩⟩
theorem i_InvalidCurve {P : Program} {w : World} {K : PySem.W.Frag} {mg : Str → Option Value} {base : Heap} {C fI : Addr} {fd : FuncData} (ec : Ec K mg "InvalidCurve" "given" s_iInvalidCurve C fI fd) : FnOk P w K mg base CX0 1 fI fd ["self", "given"] (spInit "given" C) := by
  refine ec.fn.ok sc_iInvalidCurve (fun vs H Q E h => ?_) (fun cdv A outer s H vs Q E hr h => ?_)
  · obtain ⟨a, v, rfl, _⟩ := h
    rfl
  obtain ⟨a, v, rfl, ha, q⟩ := h
  refine ⟨_, (pss_one (ps_ost (pv 0) (pv 1))), ?_⟩
  exact ⟨_, rfl, _, rfl, a, C, rfl, ec.ox, ec.no, .inl ⟨ha, q⟩⟩
end My

namespace My
open PySem L2 Lw
local macro_rules | `(tactic| walk_at "side") => `(tactic| first | decide | omega | (exact .inl ⟨by decide, by decide⟩) | (exact .inr ⟨by decide, by decide⟩) | (exact .inl ⟨by omega, by omega⟩) | (exact .inr ⟨by omega, by omega⟩) | (exact ⟨by decide, by decide⟩) | (exact ⟨by omega, by omega⟩))
local macro_rules | `(tactic| walk_at "go1") => `(tactic| first
  | (refine ⟨_, _, rfl, rfl, ?_⟩)
  | (refine ⟨_, rfl, ?_⟩)
  | (refine And.intro (by walk_at "side") ?_)
  | (refine .inl ⟨_, rfl, ?_⟩)
  | (refine iteT ?_) | (refine iteF ?_))
local macro_rules | `(tactic| walk_at "go") => `(tactic| repeat (walk_at "go1"))
section
variable {P : Program} {w : World} {K : PySem.W.Frag} {mg : Str → Option Value} {base : Heap}
/-- well(script, at): a new list of three ints, the first from 0 on -/
def spWell (K : PySem.W.Frag) : Sp := fun vs H Q _ => ∃ (a : Addr) (ns : List Int) (i : Int), vs = [.ref a, .int i] ∧ SqL K H a (ns.map V.int) ∧ 0 ≤ i ∧ i < 1000 ∧
  ∀ p H', Same H H' → p ≠ sysModules → H p = none → WellAt H' p → Q (.ref p) H'
theorem cut_ints (ns : List Int) (lo hi : Option Int) : ∃ ms : List Int, cutV (ns.map V.int) lo hi = ms.map V.int := by
  refine ⟨(ns.drop (HT.sIx ns.length 0 lo)).take (HT.sIx ns.length ns.length hi - HT.sIx ns.length 0 lo), ?_⟩
  unfold cutV
  rw [List.length_map, List.map_take, List.map_drop]
theorem int_at {ns : List Int} {i : Nat} {y : V} (h : (ns.map V.int)[i]? = some y) : ∃ z : Int, y = .int z := by
  rw [List.getElem?_map] at h
  cases e : ns[i]? with
  | none => rw [e] at h; cases h
  | some z =>
    rw [e] at h
    exact ⟨z, (Option.some.inj h).symm⟩
theorem at_ints {ns : List Int} {i : Int} (h0 : 0 ≤ i) (h : i < ns.length) : ∃ z : Int, atI (ns.map V.int) i = some (.int z) := by
  have hi : i.toNat < ns.length := by omega
  refine ⟨ns[i.toNat], ?_⟩
  have e : i = ((i.toNat : Nat) : Int) := by omega
  refine at_of e ?_
  rw [List.getElem?_map, List.getElem?_eq_getElem hi]
  all_goals rfl
theorem c_l_well (T : Top K mg) : Cl CX0 P w K mg base 1 "_law_well" (spWell K) := by
  refine T.d_l_well.cal sc_l_well (fun vs H Q E h => ?_) (fun f cdv A outer s H vs Q E hr hg h => ?_)
  · obtain ⟨a, ns, i, rfl, _⟩ := h
    rfl
  obtain ⟨a, ns, i, rfl, hS, h0, h1, q⟩ := h
  refine ⟨_, (pss_cons (ps_set (i := 2) sc_l_well.nd rfl (Or.inl rfl) (pe_op op_add pe_int (pe_op op_mul pe_int (pv 1)))) (pss_cons (ps_for PassesOwn.never rfl (pi_list (pe_slice sl_list (pv 0) po_none (po_some pe_int))) (pg_name (i := 3) sc_l_well.nd rfl (Or.inl rfl)) (pss_one (ps_set (i := 2) sc_l_well.nd rfl (Or.inl rfl) (pe_op op_mod (pe_callTy call_int1 rfl T.z_int (by decide +kernel) (pa_cons (pe_op op_add (pe_op op_add (pe_op op_mul (pv 2) pe_int) (pe_op op_mod (pe_callTy call_int1 rfl T.z_int (by decide +kernel) (pa_cons (pv 3) pa_nil)) pe_int)) pe_int) pa_nil)) pe_int)))) (pss_cons (ps_set (i := 4) sc_l_well.nd rfl (Or.inl rfl) (pe_ifExp (pt_cmpR op_lt (pv 1) (pe_callB call_len_seq rfl T.z_len (by decide +kernel) (pa_cons (pv 0) pa_nil)) (nomark _)) (pe_callTy call_int1 rfl T.z_int (by decide +kernel) (pa_cons (pe_ix ix_list (pv 0) (pv 1) (fun _ _ => rfl)) pa_nil)) pe_int)) (pss_cons (ps_set (i := 2) sc_l_well.nd rfl (Or.inl rfl) (pe_op op_mod (pe_callTy call_int1 rfl T.z_int (by decide +kernel) (pa_cons (pe_op op_add (pe_op op_add (pe_op op_mul (pv 2) pe_int) (pe_op op_mul (pe_op op_mod (pe_callTy call_int1 rfl T.z_int (by decide +kernel) (pa_cons (pv 4) pa_nil)) pe_int) pe_int)) pe_int) pa_nil)) pe_int)) (pss_one (ps_ret (pe_list (pa_cons (pe_ifExp (PW.pt (pw_or (pt_cmpR op_lt (pv 4) pe_int (nomark _)) (pw_or1 (pt_cmpR op_ge (pv 4) (pe_op op_pow pe_int pe_int) (nomark _))))) (pe_callB call_abs rfl T.z_abs (by decide +kernel) (pa_cons (pv 4) pa_nil)) pe_int) (pa_cons (pv 2) (pa_cons pe_int pa_nil)))))))))), ?_⟩
  walk_at "go"
  refine ⟨a, _, rfl, hS, fun p hp => ?_⟩
  obtain ⟨ms, hms⟩ := cut_ints ns none (some 9)
  rw [hms]
  refine ⟨p, rfl, ⟨_, SqL.of upd_same⟩, for_list (K := K) (a := p) (xs := ms.map V.int) (fun _ σ H2 => ∃ (m : Int) (v : Option V), σ = [some (.ref a), some (.int i), some (.int m), v, none] ∧ H2 = upd H p (.lst (ms.map V.int)))
    ⟨_, none, rfl, rfl⟩ (fun _ σ H2 _ ⟨_, _, _, e⟩ => by rw [e]; exact SqL.of upd_same) ?_ ?_⟩
  · rintro j y σ H2 hj ⟨m, v, rfl, rfl⟩
    obtain ⟨z, rfl⟩ := int_at hj
    walk_at "go"
    exact ⟨_, _, rfl, rfl⟩
  · rintro σ H2 ⟨m, v, rfl, rfl⟩
    have k1 : Same H (upd H p (.lst (ms.map V.int))) := same_new hp _
    generalize hH : upd H p (.lst (ms.map V.int)) = H1 at k1
    have hS1 : SqL K H1 a (ns.map V.int) := k1.seq hS
    walk_at "go"
    refine ⟨_, _, rfl, .inl hS1, ?_⟩
    walk_at "go"
    refine tst (fun c => ?x) (fun c => ?y)
    case' x =>
      have c' : i < ns.length := by simpa using c
      obtain ⟨z, hz⟩ := at_ints h0 c'
      walk_at "go"
      refine ⟨a, _, _, _, rfl, rfl, hS1, hz, ?_⟩
      walk_at "go"
    case y =>
      walk_at "go"
      refine ⟨short3, fun r hr2 np => ?_⟩
      exact q r _ (k1.trans (same_new hr2 _)) np (k1.free hr2) ⟨_, _, _, upd_same, Int.le_refl 0⟩
    · refine tst (fun c2 => ?_) (fun c2 => ?_)
      · walk_at "go"
        refine ⟨short3, fun r hr2 np => ?_⟩
        refine q r _ (k1.trans (same_new hr2 _)) np (k1.free hr2) ⟨_, _, _, upd_same, ?_⟩
        split <;> omega
      · walk_at "go"
        refine tst (fun c3 => ?_) (fun c3 => ?_)
        · walk_at "go"
          refine ⟨short3, fun r hr2 np => ?_⟩
          refine q r _ (k1.trans (same_new hr2 _)) np (k1.free hr2) ⟨_, _, _, upd_same, ?_⟩
          split <;> omega
        · walk_at "go"
          refine ⟨short3, fun r hr2 np => ?_⟩
          exact q r _ (k1.trans (same_new hr2 _)) np (k1.free hr2) ⟨_, _, _, upd_same, Int.le_refl 0⟩
end
end My

namespace My
open PySem L2 Lw
local macro_rules | `(tactic| walk_at "side") => `(tactic| first | decide | omega | (exact .inl ⟨by decide, by decide⟩) | (exact .inr ⟨by decide, by decide⟩) | (exact .inl ⟨by omega, by omega⟩) | (exact .inr ⟨by omega, by omega⟩) | (exact ⟨by decide, by decide⟩) | (exact ⟨by omega, by omega⟩))
local macro_rules | `(tactic| walk_at "go1") => `(tactic| first
  | (refine ⟨_, _, rfl, rfl, ?_⟩)
  | (refine ⟨_, rfl, ?_⟩)
  | (refine And.intro (by walk_at "side") ?_)
  | (refine .inl ⟨_, rfl, ?_⟩)
  | (refine iteT ?_) | (refine iteF ?_))
local macro_rules | `(tactic| walk_at "go") => `(tactic| repeat (walk_at "go1"))
section
variable {P : Program} {w : World} {K : PySem.W.Frag} {mg : Str → Option Value} {base : Heap}
/-- draw(well, many): a number from 0 up to below many -/
def spDraw : Sp := fun vs H Q _ => ∃ (p : Addr) (n : Int), vs = [.ref p, .int n] ∧ WellAt H p ∧ 0 < n ∧ n < 2 ^ 64 ∧ ∀ (k : Int) (H' : Hp), 0 ≤ k → k < n → After p H H' → Q (.int k) H'
theorem well_put {H : Hp} {p : Addr} {a m c a' m' c' : Int} (h : H p = some (.lst [.int a, .int m, .int c])) (ha : 0 ≤ a') : After p H (upd H p (.lst [.int a', .int m', .int c'])) :=
  ⟨⟨fun b u n q => by rw [upd_ne fun z => n (.inl z)]; exact q, fun b xs q => by rw [upd_ne (ne_of q h (by intro z; cases z))]; exact q⟩, ⟨_, _, _, upd_same, ha⟩, fun b u n q => by rw [upd_ne n]; exact q⟩
theorem c_l_draw (T : Top K mg) : Cl CX0 P w K mg base 1 "_law_draw" spDraw := by
  refine T.d_l_draw.cal sc_l_draw (fun vs H Q E h => ?_) (fun f cdv A outer s H vs Q E hr hg h => ?_)
  · obtain ⟨p, n, rfl, _⟩ := h
    rfl
  obtain ⟨p, n, rfl, hW, hn, hn2, q⟩ := h
  obtain ⟨a, m, c, hp, ha⟩ := id hW
  refine ⟨_, (pss_cons (ps_if (pt_cmpR op_gt (pe_ix ix_list (pv 0) pe_int (fun _ _ => rfl)) pe_int (nomark _)) (pss_cons (ps_asg (pe_callB call_divmodW rfl T.z_divmod (by decide +kernel) (pa_cons (pe_ix ix_list (pv 0) pe_int (fun _ _ => rfl)) (pa_cons (pv 1) pa_nil))) (pg_tup rfl (pgs_cons (pg_sub (pv 0) pe_int set_list) (pgs_cons (pg_name (i := 2) sc_l_draw.nd rfl (Or.inl rfl)) pgs_nil)))) (pss_one (ps_ret (pv 2)))) pss_nil) (pss_cons (ps_asg (pe_op op_add (pe_ix ix_list (pv 0) pe_int (fun _ _ => rfl)) pe_int) (pg_sub (pv 0) pe_int set_list)) (pss_cons (ps_set (i := 3) sc_l_draw.nd rfl (Or.inl rfl) (pe_op op_mod (pe_callTy call_int1 rfl T.z_int (by decide +kernel) (pa_cons (pe_op op_add (pe_ix ix_list (pv 0) pe_int (fun _ _ => rfl)) (pe_op op_mul pe_int (pe_ix ix_list (pv 0) pe_int (fun _ _ => rfl)))) pa_nil)) pe_int)) (pss_cons (ps_asg (pe_op op_mod (pe_callTy call_int1 rfl T.z_int (by decide +kernel) (pa_cons (pe_op op_add (pe_op op_mul (pv 3) (pe_op op_add (pe_op op_mod (pe_callTy call_int1 rfl T.z_int (by decide +kernel) (pa_cons (pv 3) pa_nil)) pe_int) pe_int)) (pe_op op_mul pe_int (pe_ix ix_list (pv 0) pe_int (fun _ _ => rfl)))) pa_nil)) pe_int) (pg_sub (pv 0) pe_int set_list)) (pss_one (ps_ret (pe_op op_mod (pe_callTy call_int1 rfl T.z_int (by decide +kernel) (pa_cons (pe_op op_fdiv (pe_ix ix_list (pv 0) pe_int (fun _ _ => rfl)) pe_int) pa_nil)) (pv 1)))))))), ?_⟩
  walk_at "go"
  refine ⟨p, _, _, _, rfl, rfl, .of hp, rfl, ?_⟩
  walk_at "go"
  refine tst (fun c1 => ?_) (fun c1 => ?_)
  · walk_at "go"
    refine ⟨p, _, _, _, rfl, rfl, .of hp, rfl, ?_⟩
    walk_at "go"
    refine ⟨a, n, rfl, ⟨hn, PyProof.noPylong_of_log2 (log2_lt (by decide) (show n.natAbs < 2 ^ 9000 from Nat.lt_of_lt_of_le (show n.natAbs < 2 ^ 64 by omega) (Nat.pow_le_pow_right (by decide) (by decide))))⟩, fun r hr2 => ?_⟩
    refine ⟨r, _, rfl, .of upd_same, rfl, _, _, rfl, ?_⟩
    walk_at "go"
    have k1 : Same H (upd H r (.tup [.int (a / n), .int (a % n)])) := same_new hr2 _
    have hp1 := k1 _ _ hp
    refine ⟨p, _, _, _, rfl, rfl, hp1, rfl, _, _, rfl, rfl, ?_⟩
    walk_at "go"
    exact q _ _ (Int.emod_nonneg _ (by omega)) (Int.emod_lt_of_pos _ hn) ((After.of hW k1).trans (well_put hp1 (Int.ediv_nonneg ha (by omega))))
  · walk_at "go"
    refine ⟨p, _, _, _, rfl, rfl, .of hp, rfl, ?_⟩
    walk_at "go"
    refine ⟨p, _, _, _, rfl, rfl, hp, rfl, ?_⟩
    have p1 : After p H (upd H p (.lst [.int a, .int m, .int (c + 1)])) := well_put hp ha
    have hp1 : upd H p (.lst [.int a, .int m, .int (c + 1)]) p = _ := upd_same
    walk_at "go"
    refine ⟨p, _, _, _, rfl, rfl, .of hp1, rfl, ?_⟩
    walk_at "go"
    refine ⟨p, _, _, _, rfl, rfl, .of hp1, rfl, ?_⟩
    walk_at "go"
    refine ⟨p, _, _, _, rfl, rfl, .of hp1, rfl, ?_⟩
    walk_at "go"
    refine ⟨p, _, _, _, rfl, rfl, hp1, rfl, ?_⟩
    walk_at "go"
    refine ⟨p, _, _, _, rfl, rfl, .of upd_same, rfl, ?_⟩
    walk_at "go"
    exact q _ _ (Int.emod_nonneg _ (by omega)) (Int.emod_lt_of_pos _ hn) (p1.trans (well_put hp1 ha))
end
end My

namespace My
open PySem L2 Ld
open Lw hiding Dv DvAll FreshB tData tDatas pd_int pd_bl pd_non pd_str pd_neg pd_pow pda_nil pda_cons pd_tup pd_lst pd_dct dv_cut dv_cat tup_at rRepr call_repr rIsD call_isD
section
variable {P : Program} {w : World} {K : PySem.W.Frag} {mg : Str → Option Value} {base : Heap}
abbrev t_l_draw : TF := t_draw
theorem c_l_drawD {Sy : Md} (T : Top K mg) : Cl (L2.CX P w) P w K mg base 1 "_law_draw" (spF ⟨base, K, Sy⟩ mg 2 t_l_draw) := ((c_l_draw T).imp fun vs H Q E h => by
  obtain ⟨w, N, us, R, Ex, hl, hv, ok, ht, q, _⟩ := h
  unfold t_l_draw t_draw at ht
  split at ht
  · rename_i n
    obtain ⟨h0, h1, hk⟩ := ht
    match vs, hv with
    | [v, u], hv =>
      obtain ⟨p, hp, rfl⟩ := hv.1
      cases hv.2.1
      exact ⟨p, n, rfl, (ok.wl p hp).2.2, h0, h1, fun k H' k0 k1 af => q _ _ H' (hk k k0 k1) (.ofAfter hp (ok.wl p hp).2.2 af) (.int _)⟩
  · exact ht.elim).up
end
end My

set_option maxHeartbeats 4000000
namespace My
open PySem L2 Ld
open Lw hiding Dv DvAll FreshB tData tDatas pd_int pd_bl pd_non pd_str pd_neg pd_pow pda_nil pda_cons pd_tup pd_lst pd_dct dv_cut dv_cat tup_at rRepr call_repr rIsD call_isD
section
variable {P : Program} {w : World} {K : PySem.W.Frag} {mg : Str → Option Value} {base : Heap} {Tz : List (Addr × Str)}
def b_p_reduced : TSD := (sSeq (sSet 2 (dCB fGcd (dCons (dV 0) (dCons (dV 1) dNil)))) (sSeq (sIf (dCmp fLt (dV 1) (dC (.int 0))) (sSet 2 (dUn fNeg (dV 2))) sNx) (sRet (dTup (dCons (dOp fFdvB (dV 0) (dV 2)) (dCons (dOp fFdvB (dV 1) (dV 2)) dNil))))))
def t_p_reduced : TF := tfOf N_p_reduced b_p_reduced
theorem c_p_reduced {g : Bool} (T : Top K mg) : Cq g (L2.CX P w) P w K mg base 1 "reduced" (spF ⟨base, K, ⟨false, Tz⟩⟩ mg 2 t_p_reduced) := by
  exact Lw.Dn.dataQ T.d_p_reduced sc_p_reduced fun f cdv A outer s H E hr hg => (ds_cons (ds_set (ps_set (i := 2) sc_p_reduced.nd rfl (Or.inl rfl) (d_cb (pe_callBfun cr_gcd rfl T.g_gcd (da_cons (d_var (pv 0)) (da_cons (d_var (pv 1)) da_nil))) bd_i2))) (ds_cons (ds_if (ps_if (dt_cmp (pt_cmpR op_lt (d_var (pv 1)) d_int (nomark _)) cd_int) (ds_one (ds_set (ps_set (i := 2) sc_p_reduced.nd rfl (Or.inl rfl) (d_un (pe_un un_neg (d_var (pv 2))) ud_negI)))) ds_nil)) (ds_one (ds_ret (ps_ret (d_tup (da_cons (d_op (pe_op op_fdivB (d_var (pv 0)) (d_var (pv 2))) od_int) (da_cons (d_op (pe_op op_fdivB (d_var (pv 1)) (d_var (pv 2))) od_int) da_nil))))))))
def b_p_discriminant : TSD := (sSeq (sIf (dCmp fEq (dCB fLen (dCons (dV 0) dNil)) (dC (.int 2))) (sRet (dC (.int 0))) sNx) (sRet (dOp fSub (dOp fMul (dUn (fNth 1) (dV 0)) (dUn (fNth 1) (dV 0))) (dOp fMul (dOp fMul (dC (.int 4)) (dUn (fNth 0) (dV 0))) (dUn (fNth 2) (dV 0))))))
def t_p_discriminant : TF := tfOf N_p_discriminant b_p_discriminant
theorem c_p_discriminant {g : Bool} (T : Top K mg) : Cq g (L2.CX P w) P w K mg base 1 "discriminant" (spF ⟨base, K, ⟨false, Tz⟩⟩ mg 1 t_p_discriminant) := by
  exact Lw.Dn.dataQ T.d_p_discriminant sc_p_discriminant fun f cdv A outer s H E hr hg => (ds_cons (ds_if (ps_if (dt_cmp (pt_cmpR (op_eqG hr) (d_cb (pe_callB call_len rfl T.z_len (by decide +kernel) (da_cons (d_var (pv 0)) da_nil)) bd_len) d_int (nomark _)) cd_eq) (ds_one (ds_ret (ps_ret d_int))) ds_nil)) (ds_one (ds_ret (ps_ret (d_op (pe_op op_sub (d_op (pe_op op_mulX (d_nth (pe_ix ix_seq (d_var (pv 0)) pe_int (fun _ _ => rfl))) (d_nth (pe_ix ix_seq (d_var (pv 0)) pe_int (fun _ _ => rfl)))) od_int) (d_op (pe_op op_mulX (d_op (pe_op op_mulX d_int (d_nth (pe_ix ix_seq (d_var (pv 0)) pe_int (fun _ _ => rfl)))) od_int) (d_nth (pe_ix ix_seq (d_var (pv 0)) pe_int (fun _ _ => rfl)))) od_int)) od_int0)))))
def b_p_is_square : TSD := (sSeq (sSet 1 (dCB fIsqrt (dCons (dV 0) dNil))) (sRet (dCmpV fEq (dOp fMul (dV 1) (dV 1)) (dV 0))))
def t_p_is_square : TF := tfOf N_p_is_square b_p_is_square
theorem c_p_is_square {g : Bool} (T : Top K mg) : Cq g (L2.CX P w) P w K mg base 1 "is_square" (spF ⟨base, K, ⟨false, Tz⟩⟩ mg 1 t_p_is_square) := by
  exact Lw.Dn.dataQ T.d_p_is_square sc_p_is_square fun f cdv A outer s H E hr hg => (ds_cons (ds_set (ps_set (i := 1) sc_p_is_square.nd rfl (Or.inl rfl) (d_cb (pe_callBfun cr_isqrt rfl T.g_isqrt (da_cons (d_var (pv 0)) da_nil)) bd_isqrt))) (ds_one (ds_ret (ps_ret (d_cmp (pe_cmpR (op_eqG hr) (d_op (pe_op op_mulX (d_var (pv 1)) (d_var (pv 1))) od_int) (d_var (pv 0)) (nomark _)) cd_eq)))))
def b_p_negative : TSD := (sSeq (sIf (dCmp fEq (dCB fLen (dCons (dV 0) dNil)) (dC (.int 2))) (sRet (dTup (dCons (dUn fNeg (dUn (fNth 0) (dV 0))) (dCons (dUn (fNth 1) (dV 0)) dNil)))) sNx) (sRet (dTup (dCons (dUn (fNth 0) (dV 0)) (dCons (dUn fNeg (dUn (fNth 1) (dV 0))) (dCons (dUn (fNth 2) (dV 0)) (dCons (dNotV (dUn (fNth 3) (dV 0))) dNil)))))))
def t_p_negative : TF := tfOf N_p_negative b_p_negative
theorem c_p_negative {g : Bool} (T : Top K mg) : Cq g (L2.CX P w) P w K mg base 1 "negative" (spF ⟨base, K, ⟨false, Tz⟩⟩ mg 1 t_p_negative) := by
  exact Lw.Dn.dataQ T.d_p_negative sc_p_negative fun f cdv A outer s H E hr hg => (ds_cons (ds_if (ps_if (dt_cmp (pt_cmpR (op_eqG hr) (d_cb (pe_callB call_len rfl T.z_len (by decide +kernel) (da_cons (d_var (pv 0)) da_nil)) bd_len) d_int (nomark _)) cd_eq) (ds_one (ds_ret (ps_ret (d_tup (da_cons (d_un (pe_un un_neg (d_nth (pe_ix ix_seq (d_var (pv 0)) pe_int (fun _ _ => rfl)))) ud_negI) (da_cons (d_nth (pe_ix ix_seq (d_var (pv 0)) pe_int (fun _ _ => rfl))) da_nil)))))) ds_nil)) (ds_one (ds_ret (ps_ret (d_tup (da_cons (d_nth (pe_ix ix_seq (d_var (pv 0)) pe_int (fun _ _ => rfl))) (da_cons (d_un (pe_un un_neg (d_nth (pe_ix ix_seq (d_var (pv 0)) pe_int (fun _ _ => rfl)))) ud_negI) (da_cons (d_nth (pe_ix ix_seq (d_var (pv 0)) pe_int (fun _ _ => rfl))) (da_cons (d_notW (pe_notT (d_nth (pe_ix ix_seq (d_var (pv 0)) pe_int (fun _ _ => rfl))))) da_nil)))))))))
def b_p_sign : TSD := (sSeq (sIf (dCmp fEq (dV 0) (dC (.int 0))) (sRet (dC (.int 0))) sNx) (sRet (dIf (dCmp fGt (dV 0) (dC (.int 0))) (dC (.int 1)) (dC (.int (-1))))))
def t_p_sign : TF := tfOf N_p_sign b_p_sign
theorem c_p_sign {g : Bool} (T : Top K mg) : Cq g (L2.CX P w) P w K mg base 1 "sign" (spF ⟨base, K, ⟨false, Tz⟩⟩ mg 1 t_p_sign) := by
  exact Lw.Dn.dataQ T.d_p_sign sc_p_sign fun f cdv A outer s H E hr hg => (ds_cons (ds_if (ps_if (dt_cmp (pt_cmpR (op_eqG hr) (d_var (pv 0)) d_int (nomark _)) cd_eq) (ds_one (ds_ret (ps_ret d_int))) ds_nil)) (ds_one (ds_ret (ps_ret (d_if (pe_ifExp (dt_cmp (pt_cmpR op_gt (d_var (pv 0)) d_int (nomark _)) cd_int) d_int (d_data (pd_neg pd_int))))))))
def b_p_is_whole : TSD := (sRet (dAndV (dUn (fun d R => R (.bool (isInt d))) (dV 0)) (dNotV (dUn (fun d R => R (.bool (isBool d))) (dV 0)))))
def t_p_is_whole : TF := tfOf N_p_is_whole b_p_is_whole
theorem c_p_is_whole {g : Bool} (T : Top K mg) : Cq g (L2.CX P w) P w K mg base 1 "is_whole" (spF ⟨base, K, ⟨false, Tz⟩⟩ mg 1 t_p_is_whole) := by
  exact Lw.Dn.dataQ T.d_p_is_whole sc_p_is_whole fun f cdv A outer s H E hr hg => (ds_one (ds_ret (ps_ret (d_andV (pe_andT (d_isi (pe_callB (Ld.call_isD kit_int) rfl T.z_isinstance (by decide +kernel) (pa_cons (d_var (pv 0)) (pa_cons (pe_bltn (v := .ty "int") rfl T.z_int (by decide +kernel) rfl) pa_nil)))) (pe_one (d_notW (pe_notT (d_isi (pe_callB (Ld.call_isD kit_bool) rfl T.z_isinstance (by decide +kernel) (pa_cons (d_var (pv 0)) (pa_cons (pe_bltn (v := .ty "bool") rfl T.z_bool (by decide +kernel) rfl) pa_nil))))))))))))
def b_l_pick : TSD := (sRet (dOp fIx (dV 1) (dCall t_l_draw (dConsW 0 (dCons (dCB fLen (dCons (dV 1) dNil)) dNil)))))
def t_l_pick : TF := tfOf N_l_pick b_l_pick
theorem c_l_pick (T : Top K mg) : Cq true (L2.CX P w) P w K mg base 2 "_law_pick" (spF ⟨base, K, ⟨false, Tz⟩⟩ mg 2 t_l_pick) := by
  exact Lw.Dn.dataQ T.d_l_pick sc_l_pick fun f cdv A outer s H E hr hg => (ds_one (ds_ret (ps_ret (d_op (pe_ix ix_seq (d_var (pv 1)) (d_call (pe_clQ (E := fun _ => E) ((c_l_drawD T).cq) hr hg (fun σ => passAt (takes_of rfl rfl rfl rfl) σ) rfl (da_well (pv 0) (da_cons (d_cb (pe_callB call_len rfl T.z_len (by decide +kernel) (da_cons (d_var (pv 1)) da_nil)) bd_len) da_nil)))) (fun _ _ => rfl)) od_ix))))
def b_l_common : TSD := (sSeq (sPar 2 3 (dCons (dCB fAbs (dCons (dV 0) dNil)) (dCons (dCB fAbs (dCons (dV 1) dNil)) dNil))) (sSeq (sWhile (dCmp fNe (dV 3) (dC (.int 0))) (sPar 2 3 (dCons (dV 3) (dCons (dOp fMod (dCB fIntO (dCons (dV 2) dNil)) (dV 3)) dNil)))) (sRet (dV 2))))
def t_l_common : TF := tfOf N_l_common b_l_common
theorem c_l_common {g : Bool} (T : Top K mg) : Cq g (L2.CX P w) P w K mg base 1 "_law_common" (spF ⟨base, K, ⟨false, Tz⟩⟩ mg 2 t_l_common) := by
  exact Lw.Dn.dataQ T.d_l_common sc_l_common fun f cdv A outer s H E hr hg => (ds_cons (ds_par (ps_par (i := 2) (j := 3) rfl sc_l_common.nd rfl rfl (by decide) rfl rfl (da_cons (d_cb (pe_callB call_abs rfl T.z_abs (by decide +kernel) (da_cons (d_var (pv 0)) da_nil)) bd_i1) (da_cons (d_cb (pe_callB call_abs rfl T.z_abs (by decide +kernel) (da_cons (d_var (pv 1)) da_nil)) bd_i1) da_nil)) rfl)) (ds_cons (ds_while (ps_while PassesOwn.leaving (dt_cmp (pt_cmpR (op_neG hr) (d_var (pv 3)) d_int (nomark _)) cd_ne) (ds_one (ds_par (ps_par (i := 2) (j := 3) rfl sc_l_common.nd rfl rfl (by decide) rfl rfl (da_cons (d_var (pv 3)) (da_cons (d_op (pe_op op_mod (d_cb (pe_callTy call_int1 rfl T.z_int (by decide +kernel) (da_cons (d_var (pv 2)) da_nil)) bd_int) (d_var (pv 3))) od_int) da_nil)) rfl))))) (ds_one (ds_ret (ps_ret (d_var (pv 2)))))))
def b_l_neg : TSD := (sRet (dTup (dCons (dOp fSub (dC (.int 0)) (dUn (fNth 0) (dV 0))) (dCons (dUn (fNth 1) (dV 0)) dNil))))
def t_l_neg : TF := tfOf N_l_neg b_l_neg
theorem c_l_neg {g : Bool} (T : Top K mg) : Cq g (L2.CX P w) P w K mg base 1 "_law_neg" (spF ⟨base, K, ⟨false, Tz⟩⟩ mg 1 t_l_neg) := by
  exact Lw.Dn.dataQ T.d_l_neg sc_l_neg fun f cdv A outer s H E hr hg => (ds_one (ds_ret (ps_ret (d_tup (da_cons (d_op (pe_op op_sub d_int (d_nth (pe_ix ix_seq (d_var (pv 0)) pe_int (fun _ _ => rfl)))) od_int0) (da_cons (d_nth (pe_ix ix_seq (d_var (pv 0)) pe_int (fun _ _ => rfl))) da_nil))))))
def b_l_root : TSD := (sSeq (sIf (dCmp fLt (dV 0) (dC (.int 1))) (sRet (dC (.int 0))) sNx) (sSeq (sSet 1 (dOp fShl (dC (.int 1)) (dOp fAddG (dOp fFdv (dUn fBits (dV 0)) (dC (.int 2))) (dC (.int 1))))) (sSeq (sFor (iRg1 (dCons (dOp fAddG (dUn fBits (dV 0)) (dC (.int 4))) dNil)) (gdN 2) (sSeq (sSet 3 (dOp fFdv (dOp fAddG (dV 1) (dOp fFdv (dV 0) (dV 1))) (dC (.int 2)))) (sSeq (sIf (dCmp fGe (dV 3) (dV 1)) (sRet (dV 1)) sNx) (sSet 1 (dV 3))))) (sRet (dV 1)))))
def t_l_root : TF := tfOf N_l_root b_l_root
theorem c_l_root {g : Bool} (T : Top K mg) : Cq g (L2.CX P w) P w K mg base 1 "_law_root" (spF ⟨base, K, ⟨false, Tz⟩⟩ mg 1 t_l_root) := by
  exact Lw.Dn.dataQ T.d_l_root sc_l_root fun f cdv A outer s H E hr hg => (ds_cons (ds_if (ps_if (dt_cmp (pt_cmpR op_lt (d_var (pv 0)) d_int (nomark _)) cd_int) (ds_one (ds_ret (ps_ret d_int))) ds_nil)) (ds_cons (ds_set (ps_set (i := 1) sc_l_root.nd rfl (Or.inl rfl) (d_op (pe_op op_oneShl d_int (d_op (pe_op op_addG (d_op (pe_op op_fdivZ (d_bits (pe_bits (d_var (pv 0)))) d_int) od_int) d_int) od_addG)) od_shl))) (ds_cons (ds_for io_rg1 (go_name 2) (ps_for PassesOwn.leaving rfl (pi_range1 rfl T.z_range (da_cons (d_op (pe_op op_addG (d_bits (pe_bits (d_var (pv 0)))) d_int) od_addG) da_nil)) (pg_name (i := 2) sc_l_root.nd rfl (Or.inl rfl)) (ds_cons (ds_set (ps_set (i := 3) sc_l_root.nd rfl (Or.inl rfl) (d_op (pe_op op_fdivZ (d_op (pe_op op_addG (d_var (pv 1)) (d_op (pe_op op_fdivZ (d_var (pv 0)) (d_var (pv 1))) od_int)) od_addG) d_int) od_int))) (ds_cons (ds_if (ps_if (dt_cmp (pt_cmpR op_ge (d_var (pv 3)) (d_var (pv 1)) (nomark _)) cd_int) (ds_one (ds_ret (ps_ret (d_var (pv 1))))) ds_nil)) (ds_one (ds_set (ps_set (i := 1) sc_l_root.nd rfl (Or.inl rfl) (d_var (pv 3))))))))) (ds_one (ds_ret (ps_ret (d_var (pv 1))))))))
def b_l_sign : TSD := (sRet (dIf (dCmp fGt (dV 0) (dC (.int 0))) (dC (.int 1)) (dIf (dCmp fEq (dV 0) (dC (.int 0))) (dC (.int 0)) (dC (.int (-1))))))
def t_l_sign : TF := tfOf N_l_sign b_l_sign
theorem c_l_sign {g : Bool} (T : Top K mg) : Cq g (L2.CX P w) P w K mg base 1 "_law_sign" (spF ⟨base, K, ⟨false, Tz⟩⟩ mg 1 t_l_sign) := by
  exact Lw.Dn.dataQ T.d_l_sign sc_l_sign fun f cdv A outer s H E hr hg => (ds_one (ds_ret (ps_ret (d_if (pe_ifExp (dt_cmp (pt_cmpR op_gt (d_var (pv 0)) d_int (nomark _)) cd_int) d_int (d_if (pe_ifExp (dt_cmp (pt_cmpR (op_eqG hr) (d_var (pv 0)) d_int (nomark _)) cd_eq) d_int (d_data (pd_neg pd_int)))))))))
def b_l_spread : TSD := (sSeq (sIf (dCmp fEq (dCB fLen (dCons (dV 0) dNil)) (dC (.int 2))) (sRet (dTup (dCons (dUn (fNth 0) (dV 0)) (dCons (dC (.int 0)) (dCons (dC (.int 0)) (dCons (dUn (fNth 1) (dV 0)) dNil)))))) sNx) (sRet (dTup (dCons (dOp fSub (dC (.int 0)) (dUn (fNth 1) (dV 0))) (dCons (dIf (dTst (dUn (fNth 3) (dV 0))) (dC (.int 1)) (dC (.int (-1)))) (dCons (dOp fSub (dOp fMul (dUn (fNth 1) (dV 0)) (dUn (fNth 1) (dV 0))) (dOp fMul (dOp fMul (dC (.int 4)) (dUn (fNth 0) (dV 0))) (dUn (fNth 2) (dV 0)))) (dCons (dOp fMul (dC (.int 2)) (dUn (fNth 0) (dV 0))) dNil)))))))
def t_l_spread : TF := tfOf N_l_spread b_l_spread
theorem c_l_spread {g : Bool} (T : Top K mg) : Cq g (L2.CX P w) P w K mg base 1 "_law_spread" (spF ⟨base, K, ⟨false, Tz⟩⟩ mg 1 t_l_spread) := by
  exact Lw.Dn.dataQ T.d_l_spread sc_l_spread fun f cdv A outer s H E hr hg => (ds_cons (ds_if (ps_if (dt_cmp (pt_cmpR (op_eqG hr) (d_cb (pe_callB call_len rfl T.z_len (by decide +kernel) (da_cons (d_var (pv 0)) da_nil)) bd_len) d_int (nomark _)) cd_eq) (ds_one (ds_ret (ps_ret (d_tup (da_cons (d_nth (pe_ix ix_seq (d_var (pv 0)) pe_int (fun _ _ => rfl))) (da_cons d_int (da_cons d_int (da_cons (d_nth (pe_ix ix_seq (d_var (pv 0)) pe_int (fun _ _ => rfl))) da_nil)))))))) ds_nil)) (ds_one (ds_ret (ps_ret (d_tup (da_cons (d_op (pe_op op_sub d_int (d_nth (pe_ix ix_seq (d_var (pv 0)) pe_int (fun _ _ => rfl)))) od_int0) (da_cons (d_if (pe_ifExp (dt_val (pt_truth (d_nth (pe_ix ix_seq (d_var (pv 0)) pe_int (fun _ _ => rfl))) (by intro _; rfl))) d_int (d_data (pd_neg pd_int)))) (da_cons (d_op (pe_op op_sub (d_op (pe_op op_mulX (d_nth (pe_ix ix_seq (d_var (pv 0)) pe_int (fun _ _ => rfl))) (d_nth (pe_ix ix_seq (d_var (pv 0)) pe_int (fun _ _ => rfl)))) od_int) (d_op (pe_op op_mulX (d_op (pe_op op_mulX d_int (d_nth (pe_ix ix_seq (d_var (pv 0)) pe_int (fun _ _ => rfl)))) od_int) (d_nth (pe_ix ix_seq (d_var (pv 0)) pe_int (fun _ _ => rfl)))) od_int)) od_int0) (da_cons (d_op (pe_op op_mulX d_int (d_nth (pe_ix ix_seq (d_var (pv 0)) pe_int (fun _ _ => rfl)))) od_int) da_nil)))))))))
def b_l_bar : TSD := (sSeq (sPar3 1 2 3 (dCons (dUn (fNth 1) (dV 0)) (dCons (dUn (fNth 2) (dV 0)) (dCons (dUn (fNth 3) (dV 0)) dNil)))) (sRet (dTup (dCons (dOp fMul (dOp fMul (dUn (fNth 0) (dV 1)) (dUn (fNth 1) (dV 2))) (dUn (fNth 1) (dV 3))) (dCons (dOp fMul (dOp fMul (dUn (fNth 0) (dV 2)) (dUn (fNth 1) (dV 1))) (dUn (fNth 1) (dV 3))) (dCons (dOp fMul (dOp fMul (dUn (fNth 0) (dV 3)) (dUn (fNth 1) (dV 1))) (dUn (fNth 1) (dV 2))) dNil))))))
def t_l_bar : TF := tfOf N_l_bar b_l_bar
theorem c_l_bar {g : Bool} (T : Top K mg) : Cq g (L2.CX P w) P w K mg base 1 "_law_bar" (spF ⟨base, K, ⟨false, Tz⟩⟩ mg 1 t_l_bar) := by
  exact Lw.Dn.dataQ T.d_l_bar sc_l_bar fun f cdv A outer s H E hr hg => (ds_cons (ds_par3 (ps_par3 (i := 1) (j := 2) (l := 3) rfl sc_l_bar.nd rfl rfl rfl (by decide) (by decide) (by decide) rfl rfl rfl (da_cons (d_nth (pe_ix ix_seq (d_var (pv 0)) pe_int (fun _ _ => rfl))) (da_cons (d_nth (pe_ix ix_seq (d_var (pv 0)) pe_int (fun _ _ => rfl))) (da_cons (d_nth (pe_ix ix_seq (d_var (pv 0)) pe_int (fun _ _ => rfl))) da_nil))) rfl)) (ds_one (ds_ret (ps_ret (d_tup (da_cons (d_op (pe_op op_mulX (d_op (pe_op op_mulX (d_nth (pe_ix ix_seq (d_var (pv 1)) pe_int (fun _ _ => rfl))) (d_nth (pe_ix ix_seq (d_var (pv 2)) pe_int (fun _ _ => rfl)))) od_int) (d_nth (pe_ix ix_seq (d_var (pv 3)) pe_int (fun _ _ => rfl)))) od_int) (da_cons (d_op (pe_op op_mulX (d_op (pe_op op_mulX (d_nth (pe_ix ix_seq (d_var (pv 2)) pe_int (fun _ _ => rfl))) (d_nth (pe_ix ix_seq (d_var (pv 1)) pe_int (fun _ _ => rfl)))) od_int) (d_nth (pe_ix ix_seq (d_var (pv 3)) pe_int (fun _ _ => rfl)))) od_int) (da_cons (d_op (pe_op op_mulX (d_op (pe_op op_mulX (d_nth (pe_ix ix_seq (d_var (pv 3)) pe_int (fun _ _ => rfl))) (d_nth (pe_ix ix_seq (d_var (pv 1)) pe_int (fun _ _ => rfl)))) od_int) (d_nth (pe_ix ix_seq (d_var (pv 2)) pe_int (fun _ _ => rfl)))) od_int) da_nil))))))))
def b_l_ring : TSD := (sSeq (sPar3 1 2 3 (dCons (dUn (fNth 1) (dV 0)) (dCons (dUn (fNth 2) (dV 0)) (dCons (dUn (fNth 3) (dV 0)) dNil)))) (sSeq (sSet 4 (dOp fMul (dOp fMul (dUn (fNth 1) (dV 1)) (dUn (fNth 1) (dV 2))) (dUn (fNth 1) (dV 3)))) (sRet (dTup (dCons (dOp fMul (dOp fMul (dUn (fNth 0) (dV 1)) (dUn (fNth 1) (dV 2))) (dUn (fNth 1) (dV 3))) (dCons (dOp fMul (dOp fMul (dUn (fNth 0) (dV 2)) (dUn (fNth 1) (dV 1))) (dUn (fNth 1) (dV 3))) (dCons (dOp fMul (dOp fMul (dOp fMul (dUn (fNth 0) (dV 3)) (dUn (fNth 1) (dV 1))) (dUn (fNth 1) (dV 2))) (dV 4)) (dCons (dV 4) dNil))))))))
def t_l_ring : TF := tfOf N_l_ring b_l_ring
theorem c_l_ring {g : Bool} (T : Top K mg) : Cq g (L2.CX P w) P w K mg base 1 "_law_ring" (spF ⟨base, K, ⟨false, Tz⟩⟩ mg 1 t_l_ring) := by
  exact Lw.Dn.dataQ T.d_l_ring sc_l_ring fun f cdv A outer s H E hr hg => (ds_cons (ds_par3 (ps_par3 (i := 1) (j := 2) (l := 3) rfl sc_l_ring.nd rfl rfl rfl (by decide) (by decide) (by decide) rfl rfl rfl (da_cons (d_nth (pe_ix ix_seq (d_var (pv 0)) pe_int (fun _ _ => rfl))) (da_cons (d_nth (pe_ix ix_seq (d_var (pv 0)) pe_int (fun _ _ => rfl))) (da_cons (d_nth (pe_ix ix_seq (d_var (pv 0)) pe_int (fun _ _ => rfl))) da_nil))) rfl)) (ds_cons (ds_set (ps_set (i := 4) sc_l_ring.nd rfl (Or.inl rfl) (d_op (pe_op op_mulX (d_op (pe_op op_mulX (d_nth (pe_ix ix_seq (d_var (pv 1)) pe_int (fun _ _ => rfl))) (d_nth (pe_ix ix_seq (d_var (pv 2)) pe_int (fun _ _ => rfl)))) od_int) (d_nth (pe_ix ix_seq (d_var (pv 3)) pe_int (fun _ _ => rfl)))) od_int))) (ds_one (ds_ret (ps_ret (d_tup (da_cons (d_op (pe_op op_mulX (d_op (pe_op op_mulX (d_nth (pe_ix ix_seq (d_var (pv 1)) pe_int (fun _ _ => rfl))) (d_nth (pe_ix ix_seq (d_var (pv 2)) pe_int (fun _ _ => rfl)))) od_int) (d_nth (pe_ix ix_seq (d_var (pv 3)) pe_int (fun _ _ => rfl)))) od_int) (da_cons (d_op (pe_op op_mulX (d_op (pe_op op_mulX (d_nth (pe_ix ix_seq (d_var (pv 2)) pe_int (fun _ _ => rfl))) (d_nth (pe_ix ix_seq (d_var (pv 1)) pe_int (fun _ _ => rfl)))) od_int) (d_nth (pe_ix ix_seq (d_var (pv 3)) pe_int (fun _ _ => rfl)))) od_int) (da_cons (d_op (pe_op op_mulX (d_op (pe_op op_mulX (d_op (pe_op op_mulX (d_nth (pe_ix ix_seq (d_var (pv 3)) pe_int (fun _ _ => rfl))) (d_nth (pe_ix ix_seq (d_var (pv 1)) pe_int (fun _ _ => rfl)))) od_int) (d_nth (pe_ix ix_seq (d_var (pv 2)) pe_int (fun _ _ => rfl)))) od_int) (d_var (pv 4))) od_int) (da_cons (d_var (pv 4)) da_nil))))))))))
end
end My

set_option maxHeartbeats 4000000
namespace My
open PySem L2 Ld
open Lw hiding Dv DvAll FreshB tData tDatas pd_int pd_bl pd_non pd_str pd_neg pd_pow pda_nil pda_cons pd_tup pd_lst pd_dct dv_cut dv_cat tup_at rRepr call_repr rIsD call_isD
section
variable {P : Program} {w : World} {K : PySem.W.Frag} {mg : Str → Option Value} {base : Heap} {Tz : List (Addr × Str)}
def b_p_surd_of : TSD := (sSeq (sIf (dCmp fEq (dCB fLen (dCons (dV 0) dNil)) (dC (.int 2))) (sRet (dTup (dCons (dUn (fNth 0) (dV 0)) (dCons (dC (.int 0)) (dCons (dC (.int 0)) (dCons (dUn (fNth 1) (dV 0)) dNil)))))) sNx) (sRet (dTup (dCons (dUn fNeg (dUn (fNth 1) (dV 0))) (dCons (dIf (dTst (dUn (fNth 3) (dV 0))) (dC (.int 1)) (dC (.int (-1)))) (dCons (dCall t_p_discriminant (dCons (dV 0) dNil)) (dCons (dOp fMul (dC (.int 2)) (dUn (fNth 0) (dV 0))) dNil)))))))
def t_p_surd_of : TF := tfOf N_p_surd_of b_p_surd_of
theorem c_p_surd_of {g : Bool} (T : Top K mg) : Cq g (L2.CX P w) P w K mg base 2 "surd_of" (spF ⟨base, K, ⟨false, Tz⟩⟩ mg 1 t_p_surd_of) := by
  exact Lw.Dn.dataQ T.d_p_surd_of sc_p_surd_of fun f cdv A outer s H E hr hg => (ds_cons (ds_if (ps_if (dt_cmp (pt_cmpR (op_eqG hr) (d_cb (pe_callB call_len rfl T.z_len (by decide +kernel) (da_cons (d_var (pv 0)) da_nil)) bd_len) d_int (nomark _)) cd_eq) (ds_one (ds_ret (ps_ret (d_tup (da_cons (d_nth (pe_ix ix_seq (d_var (pv 0)) pe_int (fun _ _ => rfl))) (da_cons d_int (da_cons d_int (da_cons (d_nth (pe_ix ix_seq (d_var (pv 0)) pe_int (fun _ _ => rfl))) da_nil)))))))) ds_nil)) (ds_one (ds_ret (ps_ret (d_tup (da_cons (d_un (pe_un un_neg (d_nth (pe_ix ix_seq (d_var (pv 0)) pe_int (fun _ _ => rfl)))) ud_negI) (da_cons (d_if (pe_ifExp (dt_val (pt_truth (d_nth (pe_ix ix_seq (d_var (pv 0)) pe_int (fun _ _ => rfl))) (by intro _; rfl))) d_int (d_data (pd_neg pd_int)))) (da_cons (d_call (pe_clQ (E := fun _ => E) (c_p_discriminant T) hr hg (fun σ => passAt (takes_of rfl rfl rfl rfl) σ) rfl (da_cons (d_var (pv 0)) da_nil))) (da_cons (d_op (pe_op op_mulX d_int (d_nth (pe_ix ix_seq (d_var (pv 0)) pe_int (fun _ _ => rfl)))) od_int) da_nil)))))))))
def b_p_number_of : TSD := (sSeq (sIf (dCmp fEq (dV 1) (dC (.int 0))) (sRet (dCall t_p_reduced (dCons (dV 0) (dCons (dV 3) dNil)))) sNx) (sSeq (sPar3 4 5 6 (dCons (dOp fMul (dV 3) (dV 3)) (dCons (dOp fMul (dOp fMul (dC (.int (-2))) (dV 0)) (dV 3)) (dCons (dOp fSub (dOp fMul (dV 0) (dV 0)) (dOp fMul (dOp fMul (dV 1) (dV 1)) (dV 2))) dNil)))) (sSeq (sSet 7 (dCB fGcd (dCons (dCB fGcd (dCons (dV 4) (dCons (dV 5) dNil))) (dCons (dV 6) dNil)))) (sRet (dTup (dCons (dOp fFdvB (dV 4) (dV 7)) (dCons (dOp fFdvB (dV 5) (dV 7)) (dCons (dOp fFdvB (dV 6) (dV 7)) (dCons (dCmpV fGt (dV 1) (dC (.int 0))) dNil)))))))))
def t_p_number_of : TF := tfOf N_p_number_of b_p_number_of
theorem c_p_number_of {g : Bool} (T : Top K mg) : Cq g (L2.CX P w) P w K mg base 2 "number_of" (spF ⟨base, K, ⟨false, Tz⟩⟩ mg 4 t_p_number_of) := by
  exact Lw.Dn.dataQ T.d_p_number_of sc_p_number_of fun f cdv A outer s H E hr hg => (ds_cons (ds_if (ps_if (dt_cmp (pt_cmpR (op_eqG hr) (d_var (pv 1)) d_int (nomark _)) cd_eq) (ds_one (ds_ret (ps_ret (d_call (pe_clQ (E := fun _ => E) (c_p_reduced T) hr hg (fun σ => passAt (takes_of rfl rfl rfl rfl) σ) rfl (da_cons (d_var (pv 0)) (da_cons (d_var (pv 3)) da_nil))))))) ds_nil)) (ds_cons (ds_par3 (ps_par3 (i := 4) (j := 5) (l := 6) rfl sc_p_number_of.nd rfl rfl rfl (by decide) (by decide) (by decide) rfl rfl rfl (da_cons (d_op (pe_op op_mulX (d_var (pv 3)) (d_var (pv 3))) od_int) (da_cons (d_op (pe_op op_mulX (d_op (pe_op op_mulX (d_data (pd_neg pd_int)) (d_var (pv 0))) od_int) (d_var (pv 3))) od_int) (da_cons (d_op (pe_op op_sub (d_op (pe_op op_mulX (d_var (pv 0)) (d_var (pv 0))) od_int) (d_op (pe_op op_mulX (d_op (pe_op op_mulX (d_var (pv 1)) (d_var (pv 1))) od_int) (d_var (pv 2))) od_int)) od_int0) da_nil))) rfl)) (ds_cons (ds_set (ps_set (i := 7) sc_p_number_of.nd rfl (Or.inl rfl) (d_cb (pe_callBfun cr_gcd rfl T.g_gcd (da_cons (d_cb (pe_callBfun cr_gcd rfl T.g_gcd (da_cons (d_var (pv 4)) (da_cons (d_var (pv 5)) da_nil))) bd_i2) (da_cons (d_var (pv 6)) da_nil))) bd_i2))) (ds_one (ds_ret (ps_ret (d_tup (da_cons (d_op (pe_op op_fdivB (d_var (pv 4)) (d_var (pv 7))) od_int) (da_cons (d_op (pe_op op_fdivB (d_var (pv 5)) (d_var (pv 7))) od_int) (da_cons (d_op (pe_op op_fdivB (d_var (pv 6)) (d_var (pv 7))) od_int) (da_cons (d_cmp (pe_cmpR op_gt (d_var (pv 1)) d_int (nomark _)) cd_int) da_nil)))))))))))
def b_p_have_one_field : TSD := (sRet (dCall t_p_is_square (dCons (dOp fMul (dCall t_p_discriminant (dCons (dV 0) dNil)) (dCall t_p_discriminant (dCons (dV 1) dNil))) dNil)))
def t_p_have_one_field : TF := tfOf N_p_have_one_field b_p_have_one_field
theorem c_p_have_one_field {g : Bool} (T : Top K mg) : Cq g (L2.CX P w) P w K mg base 2 "have_one_field" (spF ⟨base, K, ⟨false, Tz⟩⟩ mg 2 t_p_have_one_field) := by
  exact Lw.Dn.dataQ T.d_p_have_one_field sc_p_have_one_field fun f cdv A outer s H E hr hg => (ds_one (ds_ret (ps_ret (d_call (pe_clQ (E := fun _ => E) (c_p_is_square T) hr hg (fun σ => passAt (takes_of rfl rfl rfl rfl) σ) rfl (da_cons (d_op (pe_op op_mulX (d_call (pe_clQ (E := fun _ => E) (c_p_discriminant T) hr hg (fun σ => passAt (takes_of rfl rfl rfl rfl) σ) rfl (da_cons (d_var (pv 0)) da_nil))) (d_call (pe_clQ (E := fun _ => E) (c_p_discriminant T) hr hg (fun σ => passAt (takes_of rfl rfl rfl rfl) σ) rfl (da_cons (d_var (pv 1)) da_nil)))) od_int) da_nil))))))
def b_p_sign_of_two : TSD := (sSeq (sPar 3 4 (dCons (dCall t_p_sign (dCons (dV 0) dNil)) (dCons (dCall t_p_sign (dCons (dV 1) dNil)) dNil))) (sSeq (sIf (dOr (dCmp fEq (dV 3) (dV 4)) (dCmp fEq (dV 4) (dC (.int 0)))) (sRet (dV 3)) sNx) (sSeq (sIf (dCmp fEq (dV 3) (dC (.int 0))) (sRet (dV 4)) sNx) (sRet (dOp fMul (dV 3) (dCall t_p_sign (dCons (dOp fSub (dOp fMul (dV 0) (dV 0)) (dOp fMul (dOp fMul (dV 1) (dV 1)) (dV 2))) dNil)))))))
def t_p_sign_of_two : TF := tfOf N_p_sign_of_two b_p_sign_of_two
theorem c_p_sign_of_two {g : Bool} (T : Top K mg) : Cq g (L2.CX P w) P w K mg base 2 "sign_of_two" (spF ⟨base, K, ⟨false, Tz⟩⟩ mg 3 t_p_sign_of_two) := by
  exact Lw.Dn.dataQ T.d_p_sign_of_two sc_p_sign_of_two fun f cdv A outer s H E hr hg => (ds_cons (ds_par (ps_par (i := 3) (j := 4) rfl sc_p_sign_of_two.nd rfl rfl (by decide) rfl rfl (da_cons (d_call (pe_clQ (E := fun _ => E) (c_p_sign T) hr hg (fun σ => passAt (takes_of rfl rfl rfl rfl) σ) rfl (da_cons (d_var (pv 0)) da_nil))) (da_cons (d_call (pe_clQ (E := fun _ => E) (c_p_sign T) hr hg (fun σ => passAt (takes_of rfl rfl rfl rfl) σ) rfl (da_cons (d_var (pv 1)) da_nil))) da_nil)) rfl)) (ds_cons (ds_if (ps_if (PW.pt (dw_or (pw_or (dt_cmp (pt_cmpR (op_eqG hr) (d_var (pv 3)) (d_var (pv 4)) (nomark _)) cd_eq) (pw_or1 (dt_cmp (pt_cmpR (op_eqG hr) (d_var (pv 4)) d_int (nomark _)) cd_eq))))) (ds_one (ds_ret (ps_ret (d_var (pv 3))))) ds_nil)) (ds_cons (ds_if (ps_if (dt_cmp (pt_cmpR (op_eqG hr) (d_var (pv 3)) d_int (nomark _)) cd_eq) (ds_one (ds_ret (ps_ret (d_var (pv 4))))) ds_nil)) (ds_one (ds_ret (ps_ret (d_op (pe_op op_mulX (d_var (pv 3)) (d_call (pe_clQ (E := fun _ => E) (c_p_sign T) hr hg (fun σ => passAt (takes_of rfl rfl rfl rfl) σ) rfl (da_cons (d_op (pe_op op_sub (d_op (pe_op op_mulX (d_var (pv 0)) (d_var (pv 0))) od_int) (d_op (pe_op op_mulX (d_op (pe_op op_mulX (d_var (pv 1)) (d_var (pv 1))) od_int) (d_var (pv 2))) od_int)) od_int0) da_nil)))) od_int)))))))
def b_p_is_fraction : TSD := (sSeq (sIf (dOr (dNot (dTst (dUn (fun d R => R (.bool (isTup d))) (dV 0)))) (dCmp fNe (dCB fLen (dCons (dV 0) dNil)) (dC (.int 2)))) (sRet (dC (.bool false))) sNx) (sSeq (sIf (dOr (dNot (dTst (dCall t_p_is_whole (dCons (dUn (fNth 0) (dV 0)) dNil)))) (dNot (dTst (dCall t_p_is_whole (dCons (dUn (fNth 1) (dV 0)) dNil))))) (sRet (dC (.bool false))) sNx) (sRet (dAndV (dCmpV fGt (dUn (fNth 1) (dV 0)) (dC (.int 0))) (dCmpV fEq (dCB fGcd (dCons (dUn (fNth 0) (dV 0)) (dCons (dUn (fNth 1) (dV 0)) dNil))) (dC (.int 1)))))))
def t_p_is_fraction : TF := tfOf N_p_is_fraction b_p_is_fraction
theorem c_p_is_fraction {g : Bool} (T : Top K mg) : Cq g (L2.CX P w) P w K mg base 2 "is_fraction" (spF ⟨base, K, ⟨false, Tz⟩⟩ mg 1 t_p_is_fraction) := by
  exact Lw.Dn.dataQ T.d_p_is_fraction sc_p_is_fraction fun f cdv A outer s H E hr hg => (ds_cons (ds_if (ps_if (PW.pt (dw_or (pw_or (dt_not (pt_not (dt_val (pt_truth (d_isi (pe_callB (Ld.call_isD kit_tup) rfl T.z_isinstance (by decide +kernel) (pa_cons (d_var (pv 0)) (pa_cons (pe_bltn (v := .ty "tuple") rfl T.z_tuple (by decide +kernel) rfl) pa_nil)))) (by intro _; rfl))))) (pw_or1 (dt_cmp (pt_cmpR (op_neG hr) (d_cb (pe_callB call_len rfl T.z_len (by decide +kernel) (da_cons (d_var (pv 0)) da_nil)) bd_len) d_int (nomark _)) cd_ne))))) (ds_one (ds_ret (ps_ret d_bl))) ds_nil)) (ds_cons (ds_if (ps_if (PW.pt (dw_or (pw_or (dt_not (pt_not (dt_val (pt_truth (d_call (pe_clQ (E := fun _ => E) (c_p_is_whole T) hr hg (fun σ => passAt (takes_of rfl rfl rfl rfl) σ) rfl (da_cons (d_nth (pe_ix ix_seq (d_var (pv 0)) pe_int (fun _ _ => rfl))) da_nil))) (by intro _; rfl))))) (pw_or1 (dt_not (pt_not (dt_val (pt_truth (d_call (pe_clQ (E := fun _ => E) (c_p_is_whole T) hr hg (fun σ => passAt (takes_of rfl rfl rfl rfl) σ) rfl (da_cons (d_nth (pe_ix ix_seq (d_var (pv 0)) pe_int (fun _ _ => rfl))) da_nil))) (by intro _; rfl))))))))) (ds_one (ds_ret (ps_ret d_bl))) ds_nil)) (ds_one (ds_ret (ps_ret (d_andV (pe_andT (d_cmp (pe_cmpR op_gt (d_nth (pe_ix ix_seq (d_var (pv 0)) pe_int (fun _ _ => rfl))) d_int (nomark _)) cd_int) (pe_one (d_cmp (pe_cmpR (op_eqG hr) (d_cb (pe_callBfun cr_gcd rfl T.g_gcd (da_cons (d_nth (pe_ix ix_seq (d_var (pv 0)) pe_int (fun _ _ => rfl))) (da_cons (d_nth (pe_ix ix_seq (d_var (pv 0)) pe_int (fun _ _ => rfl))) da_nil))) bd_i2) d_int (nomark _)) cd_eq)))))))))
def b_p_is_root : TSD := (sSeq (sIf (dOr (dNot (dTst (dUn (fun d R => R (.bool (isTup d))) (dV 0)))) (dOr (dCmp fNe (dCB fLen (dCons (dV 0) dNil)) (dC (.int 4))) (dNot (dTst (dUn (fun d R => R (.bool (isBool d))) (dUn (fNth 3) (dV 0))))))) (sRet (dC (.bool false))) sNx) (sSeq (sAsg (dV 0) (gdT 4 (gdCons (gdN 1) (gdCons (gdN 2) (gdCons (gdN 3) (gdCons (gdN 4) gdNil)))))) (sSeq (sIf (dOr (dNot (dTst (dCall t_p_is_whole (dCons (dV 1) dNil)))) (dOr (dNot (dTst (dCall t_p_is_whole (dCons (dV 2) dNil)))) (dNot (dTst (dCall t_p_is_whole (dCons (dV 3) dNil)))))) (sRet (dC (.bool false))) sNx) (sSeq (sIf (dOr (dCmp fLe (dV 1) (dC (.int 0))) (dCmp fNe (dCB fGcd (dCons (dCB fGcd (dCons (dV 1) (dCons (dV 2) dNil))) (dCons (dV 3) dNil))) (dC (.int 1)))) (sRet (dC (.bool false))) sNx) (sSeq (sSet 5 (dOp fSub (dOp fMul (dV 2) (dV 2)) (dOp fMul (dOp fMul (dC (.int 4)) (dV 1)) (dV 3)))) (sRet (dAndV (dCmpV fGt (dV 5) (dC (.int 0))) (dNotV (dCall t_p_is_square (dCons (dV 5) dNil))))))))))
def t_p_is_root : TF := tfOf N_p_is_root b_p_is_root
theorem c_p_is_root {g : Bool} (T : Top K mg) : Cq g (L2.CX P w) P w K mg base 2 "is_root" (spF ⟨base, K, ⟨false, Tz⟩⟩ mg 1 t_p_is_root) := by
  exact Lw.Dn.dataQ T.d_p_is_root sc_p_is_root fun f cdv A outer s H E hr hg => (ds_cons (ds_if (ps_if (PW.pt (dw_or (pw_or (dt_not (pt_not (dt_val (pt_truth (d_isi (pe_callB (Ld.call_isD kit_tup) rfl T.z_isinstance (by decide +kernel) (pa_cons (d_var (pv 0)) (pa_cons (pe_bltn (v := .ty "tuple") rfl T.z_tuple (by decide +kernel) rfl) pa_nil)))) (by intro _; rfl))))) (dw_or (pw_or (dt_cmp (pt_cmpR (op_neG hr) (d_cb (pe_callB call_len rfl T.z_len (by decide +kernel) (da_cons (d_var (pv 0)) da_nil)) bd_len) d_int (nomark _)) cd_ne) (pw_or1 (dt_not (pt_not (dt_val (pt_truth (d_isi (pe_callB (Ld.call_isD kit_bool) rfl T.z_isinstance (by decide +kernel) (pa_cons (d_nth (pe_ix ix_seq (d_var (pv 0)) pe_int (fun _ _ => rfl))) (pa_cons (pe_bltn (v := .ty "bool") rfl T.z_bool (by decide +kernel) rfl) pa_nil)))) (by intro _; rfl))))))))))) (ds_one (ds_ret (ps_ret d_bl))) ds_nil)) (ds_cons (ds_asg (go_tup (gos_cons (go_name 1) (gos_cons (go_name 2) (gos_cons (go_name 3) (gos_cons (go_name 4) gos_nil))))) (ps_asg (d_var (pv 0)) (pg_tup rfl (pgs_cons (pg_name (i := 1) sc_p_is_root.nd rfl (Or.inl rfl)) (pgs_cons (pg_name (i := 2) sc_p_is_root.nd rfl (Or.inl rfl)) (pgs_cons (pg_name (i := 3) sc_p_is_root.nd rfl (Or.inl rfl)) (pgs_cons (pg_name (i := 4) sc_p_is_root.nd rfl (Or.inl rfl)) pgs_nil))))))) (ds_cons (ds_if (ps_if (PW.pt (dw_or (pw_or (dt_not (pt_not (dt_val (pt_truth (d_call (pe_clQ (E := fun _ => E) (c_p_is_whole T) hr hg (fun σ => passAt (takes_of rfl rfl rfl rfl) σ) rfl (da_cons (d_var (pv 1)) da_nil))) (by intro _; rfl))))) (dw_or (pw_or (dt_not (pt_not (dt_val (pt_truth (d_call (pe_clQ (E := fun _ => E) (c_p_is_whole T) hr hg (fun σ => passAt (takes_of rfl rfl rfl rfl) σ) rfl (da_cons (d_var (pv 2)) da_nil))) (by intro _; rfl))))) (pw_or1 (dt_not (pt_not (dt_val (pt_truth (d_call (pe_clQ (E := fun _ => E) (c_p_is_whole T) hr hg (fun σ => passAt (takes_of rfl rfl rfl rfl) σ) rfl (da_cons (d_var (pv 3)) da_nil))) (by intro _; rfl))))))))))) (ds_one (ds_ret (ps_ret d_bl))) ds_nil)) (ds_cons (ds_if (ps_if (PW.pt (dw_or (pw_or (dt_cmp (pt_cmpR op_le (d_var (pv 1)) d_int (nomark _)) cd_int) (pw_or1 (dt_cmp (pt_cmpR (op_neG hr) (d_cb (pe_callBfun cr_gcd rfl T.g_gcd (da_cons (d_cb (pe_callBfun cr_gcd rfl T.g_gcd (da_cons (d_var (pv 1)) (da_cons (d_var (pv 2)) da_nil))) bd_i2) (da_cons (d_var (pv 3)) da_nil))) bd_i2) d_int (nomark _)) cd_ne))))) (ds_one (ds_ret (ps_ret d_bl))) ds_nil)) (ds_cons (ds_set (ps_set (i := 5) sc_p_is_root.nd rfl (Or.inl rfl) (d_op (pe_op op_sub (d_op (pe_op op_mulX (d_var (pv 2)) (d_var (pv 2))) od_int) (d_op (pe_op op_mulX (d_op (pe_op op_mulX d_int (d_var (pv 1))) od_int) (d_var (pv 3))) od_int)) od_int0))) (ds_one (ds_ret (ps_ret (d_andV (pe_andT (d_cmp (pe_cmpR op_gt (d_var (pv 5)) d_int (nomark _)) cd_int) (pe_one (d_notW (pe_notT (d_call (pe_clQ (E := fun _ => E) (c_p_is_square T) hr hg (fun σ => passAt (takes_of rfl rfl rfl rfl) σ) rfl (da_cons (d_var (pv 5)) da_nil))))))))))))))))
def b_l_lean : TSD := (sSeq (sSet 2 (dIf (dCmp fGt (dV 1) (dC (.int 0))) (dCall t_l_common (dCons (dV 0) (dCons (dV 1) dNil))) (dOp fSub (dC (.int 0)) (dCall t_l_common (dCons (dV 0) (dCons (dV 1) dNil)))))) (sRet (dTup (dCons (dOp fFdv (dV 0) (dV 2)) (dCons (dOp fFdv (dV 1) (dV 2)) dNil)))))
def t_l_lean : TF := tfOf N_l_lean b_l_lean
theorem c_l_lean {g : Bool} (T : Top K mg) : Cq g (L2.CX P w) P w K mg base 2 "_law_lean" (spF ⟨base, K, ⟨false, Tz⟩⟩ mg 2 t_l_lean) := by
  exact Lw.Dn.dataQ T.d_l_lean sc_l_lean fun f cdv A outer s H E hr hg => (ds_cons (ds_set (ps_set (i := 2) sc_l_lean.nd rfl (Or.inl rfl) (d_if (pe_ifExp (dt_cmp (pt_cmpR op_gt (d_var (pv 1)) d_int (nomark _)) cd_int) (d_call (pe_clQ (E := fun _ => E) (c_l_common T) hr hg (fun σ => passAt (takes_of rfl rfl rfl rfl) σ) rfl (da_cons (d_var (pv 0)) (da_cons (d_var (pv 1)) da_nil)))) (d_op (pe_op op_sub d_int (d_call (pe_clQ (E := fun _ => E) (c_l_common T) hr hg (fun σ => passAt (takes_of rfl rfl rfl rfl) σ) rfl (da_cons (d_var (pv 0)) (da_cons (d_var (pv 1)) da_nil))))) od_int0))))) (ds_one (ds_ret (ps_ret (d_tup (da_cons (d_op (pe_op op_fdivZ (d_var (pv 0)) (d_var (pv 2))) od_int) (da_cons (d_op (pe_op op_fdivZ (d_var (pv 1)) (d_var (pv 2))) od_int) da_nil)))))))
def b_l_is_square : TSD := (sRet (dAndV (dCmpV fGe (dV 0) (dC (.int 0))) (dCmpV fEq (dOp fMul (dCall t_l_root (dCons (dV 0) dNil)) (dCall t_l_root (dCons (dV 0) dNil))) (dV 0))))
def t_l_is_square : TF := tfOf N_l_is_square b_l_is_square
theorem c_l_is_square {g : Bool} (T : Top K mg) : Cq g (L2.CX P w) P w K mg base 2 "_law_is_square" (spF ⟨base, K, ⟨false, Tz⟩⟩ mg 1 t_l_is_square) := by
  exact Lw.Dn.dataQ T.d_l_is_square sc_l_is_square fun f cdv A outer s H E hr hg => (ds_one (ds_ret (ps_ret (d_andV (pe_andT (d_cmp (pe_cmpR op_ge (d_var (pv 0)) d_int (nomark _)) cd_int) (pe_one (d_cmp (pe_cmpR (op_eqG hr) (d_op (pe_op op_mulX (d_call (pe_clQ (E := fun _ => E) (c_l_root T) hr hg (fun σ => passAt (takes_of rfl rfl rfl rfl) σ) rfl (da_cons (d_var (pv 0)) da_nil))) (d_call (pe_clQ (E := fun _ => E) (c_l_root T) hr hg (fun σ => passAt (takes_of rfl rfl rfl rfl) σ) rfl (da_cons (d_var (pv 0)) da_nil)))) od_int) (d_var (pv 0)) (nomark _)) cd_eq)))))))
def b_l_sign_one : TSD := (sSeq (sPar 3 4 (dCons (dCall t_l_sign (dCons (dV 0) dNil)) (dCons (dIf (dCmp fGt (dV 2) (dC (.int 0))) (dCall t_l_sign (dCons (dV 1) dNil)) (dC (.int 0))) dNil))) (sSeq (sIf (dOr (dCmp fEq (dV 3) (dV 4)) (dCmp fEq (dV 4) (dC (.int 0)))) (sRet (dV 3)) sNx) (sRet (dIf (dCmp fEq (dV 3) (dC (.int 0))) (dV 4) (dOp fMul (dCall t_l_sign (dCons (dOp fSub (dOp fMul (dV 0) (dV 0)) (dOp fMul (dOp fMul (dV 1) (dV 1)) (dV 2))) dNil)) (dV 3))))))
def t_l_sign_one : TF := tfOf N_l_sign_one b_l_sign_one
theorem c_l_sign_one {g : Bool} (T : Top K mg) : Cq g (L2.CX P w) P w K mg base 2 "_law_sign_one" (spF ⟨base, K, ⟨false, Tz⟩⟩ mg 3 t_l_sign_one) := by
  exact Lw.Dn.dataQ T.d_l_sign_one sc_l_sign_one fun f cdv A outer s H E hr hg => (ds_cons (ds_par (ps_par (i := 3) (j := 4) rfl sc_l_sign_one.nd rfl rfl (by decide) rfl rfl (da_cons (d_call (pe_clQ (E := fun _ => E) (c_l_sign T) hr hg (fun σ => passAt (takes_of rfl rfl rfl rfl) σ) rfl (da_cons (d_var (pv 0)) da_nil))) (da_cons (d_if (pe_ifExp (dt_cmp (pt_cmpR op_gt (d_var (pv 2)) d_int (nomark _)) cd_int) (d_call (pe_clQ (E := fun _ => E) (c_l_sign T) hr hg (fun σ => passAt (takes_of rfl rfl rfl rfl) σ) rfl (da_cons (d_var (pv 1)) da_nil))) d_int)) da_nil)) rfl)) (ds_cons (ds_if (ps_if (PW.pt (dw_or (pw_or (dt_cmp (pt_cmpR (op_eqG hr) (d_var (pv 3)) (d_var (pv 4)) (nomark _)) cd_eq) (pw_or1 (dt_cmp (pt_cmpR (op_eqG hr) (d_var (pv 4)) d_int (nomark _)) cd_eq))))) (ds_one (ds_ret (ps_ret (d_var (pv 3))))) ds_nil)) (ds_one (ds_ret (ps_ret (d_if (pe_ifExp (dt_cmp (pt_cmpR (op_eqG hr) (d_var (pv 3)) d_int (nomark _)) cd_eq) (d_var (pv 4)) (d_op (pe_op op_mulX (d_call (pe_clQ (E := fun _ => E) (c_l_sign T) hr hg (fun σ => passAt (takes_of rfl rfl rfl rfl) σ) rfl (da_cons (d_op (pe_op op_sub (d_op (pe_op op_mulX (d_var (pv 0)) (d_var (pv 0))) od_int) (d_op (pe_op op_mulX (d_op (pe_op op_mulX (d_var (pv 1)) (d_var (pv 1))) od_int) (d_var (pv 2))) od_int)) od_int0) da_nil))) (d_var (pv 3))) od_int))))))))
def b_l_both : TSD := (sSeq (sAsg (dV 0) (gdT 4 (gdCons (gdN 2) (gdCons (gdN 3) (gdCons (gdN 4) (gdCons (gdN 5) gdNil)))))) (sSeq (sAsg (dV 1) (gdT 4 (gdCons (gdN 6) (gdCons (gdN 7) (gdCons (gdN 8) (gdCons (gdN 9) gdNil)))))) (sSeq (sIf (dCmp fEq (dV 7) (dC (.int 0))) (sRet (dTup (dCons (dTup (dCons (dOp fMul (dV 2) (dV 9)) (dCons (dOp fMul (dV 3) (dV 9)) (dCons (dV 4) (dCons (dOp fMul (dV 5) (dV 9)) dNil))))) (dCons (dTup (dCons (dOp fMul (dV 6) (dV 5)) (dCons (dC (.int 0)) (dCons (dV 4) (dCons (dOp fMul (dV 5) (dV 9)) dNil))))) dNil)))) sNx) (sSeq (sIf (dCmp fEq (dV 3) (dC (.int 0))) (sRet (dTup (dCons (dTup (dCons (dOp fMul (dV 2) (dV 9)) (dCons (dC (.int 0)) (dCons (dV 8) (dCons (dOp fMul (dV 5) (dV 9)) dNil))))) (dCons (dTup (dCons (dOp fMul (dV 6) (dV 5)) (dCons (dOp fMul (dV 7) (dV 5)) (dCons (dV 8) (dCons (dOp fMul (dV 5) (dV 9)) dNil))))) dNil)))) sNx) (sRet (dTup (dCons (dTup (dCons (dOp fMul (dOp fMul (dV 2) (dV 9)) (dV 4)) (dCons (dOp fMul (dOp fMul (dV 3) (dV 9)) (dV 4)) (dCons (dV 4) (dCons (dOp fMul (dOp fMul (dV 5) (dV 9)) (dV 4)) dNil))))) (dCons (dTup (dCons (dOp fMul (dOp fMul (dV 6) (dV 5)) (dV 4)) (dCons (dOp fMul (dOp fMul (dV 7) (dV 5)) (dCall t_l_root (dCons (dOp fMul (dV 4) (dV 8)) dNil))) (dCons (dV 4) (dCons (dOp fMul (dOp fMul (dV 5) (dV 9)) (dV 4)) dNil))))) dNil))))))))
def t_l_both : TF := tfOf N_l_both b_l_both
theorem c_l_both {g : Bool} (T : Top K mg) : Cq g (L2.CX P w) P w K mg base 2 "_law_both" (spF ⟨base, K, ⟨false, Tz⟩⟩ mg 2 t_l_both) := by
  exact Lw.Dn.dataQ T.d_l_both sc_l_both fun f cdv A outer s H E hr hg => (ds_cons (ds_asg (go_tup (gos_cons (go_name 2) (gos_cons (go_name 3) (gos_cons (go_name 4) (gos_cons (go_name 5) gos_nil))))) (ps_asg (d_var (pv 0)) (pg_tup rfl (pgs_cons (pg_name (i := 2) sc_l_both.nd rfl (Or.inl rfl)) (pgs_cons (pg_name (i := 3) sc_l_both.nd rfl (Or.inl rfl)) (pgs_cons (pg_name (i := 4) sc_l_both.nd rfl (Or.inl rfl)) (pgs_cons (pg_name (i := 5) sc_l_both.nd rfl (Or.inl rfl)) pgs_nil))))))) (ds_cons (ds_asg (go_tup (gos_cons (go_name 6) (gos_cons (go_name 7) (gos_cons (go_name 8) (gos_cons (go_name 9) gos_nil))))) (ps_asg (d_var (pv 1)) (pg_tup rfl (pgs_cons (pg_name (i := 6) sc_l_both.nd rfl (Or.inl rfl)) (pgs_cons (pg_name (i := 7) sc_l_both.nd rfl (Or.inl rfl)) (pgs_cons (pg_name (i := 8) sc_l_both.nd rfl (Or.inl rfl)) (pgs_cons (pg_name (i := 9) sc_l_both.nd rfl (Or.inl rfl)) pgs_nil))))))) (ds_cons (ds_if (ps_if (dt_cmp (pt_cmpR (op_eqG hr) (d_var (pv 7)) d_int (nomark _)) cd_eq) (ds_one (ds_ret (ps_ret (d_tup (da_cons (d_tup (da_cons (d_op (pe_op op_mulX (d_var (pv 2)) (d_var (pv 9))) od_int) (da_cons (d_op (pe_op op_mulX (d_var (pv 3)) (d_var (pv 9))) od_int) (da_cons (d_var (pv 4)) (da_cons (d_op (pe_op op_mulX (d_var (pv 5)) (d_var (pv 9))) od_int) da_nil))))) (da_cons (d_tup (da_cons (d_op (pe_op op_mulX (d_var (pv 6)) (d_var (pv 5))) od_int) (da_cons d_int (da_cons (d_var (pv 4)) (da_cons (d_op (pe_op op_mulX (d_var (pv 5)) (d_var (pv 9))) od_int) da_nil))))) da_nil)))))) ds_nil)) (ds_cons (ds_if (ps_if (dt_cmp (pt_cmpR (op_eqG hr) (d_var (pv 3)) d_int (nomark _)) cd_eq) (ds_one (ds_ret (ps_ret (d_tup (da_cons (d_tup (da_cons (d_op (pe_op op_mulX (d_var (pv 2)) (d_var (pv 9))) od_int) (da_cons d_int (da_cons (d_var (pv 8)) (da_cons (d_op (pe_op op_mulX (d_var (pv 5)) (d_var (pv 9))) od_int) da_nil))))) (da_cons (d_tup (da_cons (d_op (pe_op op_mulX (d_var (pv 6)) (d_var (pv 5))) od_int) (da_cons (d_op (pe_op op_mulX (d_var (pv 7)) (d_var (pv 5))) od_int) (da_cons (d_var (pv 8)) (da_cons (d_op (pe_op op_mulX (d_var (pv 5)) (d_var (pv 9))) od_int) da_nil))))) da_nil)))))) ds_nil)) (ds_one (ds_ret (ps_ret (d_tup (da_cons (d_tup (da_cons (d_op (pe_op op_mulX (d_op (pe_op op_mulX (d_var (pv 2)) (d_var (pv 9))) od_int) (d_var (pv 4))) od_int) (da_cons (d_op (pe_op op_mulX (d_op (pe_op op_mulX (d_var (pv 3)) (d_var (pv 9))) od_int) (d_var (pv 4))) od_int) (da_cons (d_var (pv 4)) (da_cons (d_op (pe_op op_mulX (d_op (pe_op op_mulX (d_var (pv 5)) (d_var (pv 9))) od_int) (d_var (pv 4))) od_int) da_nil))))) (da_cons (d_tup (da_cons (d_op (pe_op op_mulX (d_op (pe_op op_mulX (d_var (pv 6)) (d_var (pv 5))) od_int) (d_var (pv 4))) od_int) (da_cons (d_op (pe_op op_mulX (d_op (pe_op op_mulX (d_var (pv 7)) (d_var (pv 5))) od_int) (d_call (pe_clQ (E := fun _ => E) (c_l_root T) hr hg (fun σ => passAt (takes_of rfl rfl rfl rfl) σ) rfl (da_cons (d_op (pe_op op_mulX (d_var (pv 4)) (d_var (pv 8))) od_int) da_nil)))) od_int) (da_cons (d_var (pv 4)) (da_cons (d_op (pe_op op_mulX (d_op (pe_op op_mulX (d_var (pv 5)) (d_var (pv 9))) od_int) (d_var (pv 4))) od_int) da_nil))))) da_nil))))))))))
def b_l_form : TSD := (sSeq (sIf (dCmp fEq (dUn (fNth 0) (dV 0)) (dC (.str "circle"))) (sRet (dV 0)) sNx) (sSeq (sAsg (dCall t_l_bar (dCons (dV 0) dNil)) (gdT 3 (gdCons (gdN 1) (gdCons (gdN 2) (gdCons (gdN 3) gdNil))))) (sSeq (sSet 4 (dCall t_l_common (dCons (dCall t_l_common (dCons (dV 1) (dCons (dV 2) dNil))) (dCons (dV 3) dNil)))) (sSeq (sIf (dOr (dCmp fLt (dV 1) (dC (.int 0))) (dAnd (dCmp fEq (dV 1) (dC (.int 0))) (dCmp fLt (dV 2) (dC (.int 0))))) (sSet 4 (dOp fSub (dC (.int 0)) (dV 4))) sNx) (sRet (dTup (dCons (dC (.str "line")) (dCons (dTup (dCons (dOp fFdv (dV 1) (dV 4)) (dCons (dC (.int 1)) dNil))) (dCons (dTup (dCons (dOp fFdv (dV 2) (dV 4)) (dCons (dC (.int 1)) dNil))) (dCons (dTup (dCons (dOp fFdv (dV 3) (dV 4)) (dCons (dC (.int 1)) dNil))) dNil))))))))))
def t_l_form : TF := tfOf N_l_form b_l_form
theorem c_l_form {g : Bool} (T : Top K mg) : Cq g (L2.CX P w) P w K mg base 2 "_law_form" (spF ⟨base, K, ⟨false, Tz⟩⟩ mg 1 t_l_form) := by
  exact Lw.Dn.dataQ T.d_l_form sc_l_form fun f cdv A outer s H E hr hg => (ds_cons (ds_if (ps_if (dt_cmp (pt_cmpR (op_eqG hr) (d_nth (pe_ix ix_seq (d_var (pv 0)) pe_int (fun _ _ => rfl))) d_str (nomark _)) cd_eq) (ds_one (ds_ret (ps_ret (d_var (pv 0))))) ds_nil)) (ds_cons (ds_asg (go_tup (gos_cons (go_name 1) (gos_cons (go_name 2) (gos_cons (go_name 3) gos_nil)))) (ps_asg (d_call (pe_clQ (E := fun _ => E) (c_l_bar T) hr hg (fun σ => passAt (takes_of rfl rfl rfl rfl) σ) rfl (da_cons (d_var (pv 0)) da_nil))) (pg_tup rfl (pgs_cons (pg_name (i := 1) sc_l_form.nd rfl (Or.inl rfl)) (pgs_cons (pg_name (i := 2) sc_l_form.nd rfl (Or.inl rfl)) (pgs_cons (pg_name (i := 3) sc_l_form.nd rfl (Or.inl rfl)) pgs_nil)))))) (ds_cons (ds_set (ps_set (i := 4) sc_l_form.nd rfl (Or.inl rfl) (d_call (pe_clQ (E := fun _ => E) (c_l_common T) hr hg (fun σ => passAt (takes_of rfl rfl rfl rfl) σ) rfl (da_cons (d_call (pe_clQ (E := fun _ => E) (c_l_common T) hr hg (fun σ => passAt (takes_of rfl rfl rfl rfl) σ) rfl (da_cons (d_var (pv 1)) (da_cons (d_var (pv 2)) da_nil)))) (da_cons (d_var (pv 3)) da_nil)))))) (ds_cons (ds_if (ps_if (PW.pt (dw_or (pw_or (dt_cmp (pt_cmpR op_lt (d_var (pv 1)) d_int (nomark _)) cd_int) (pw_or1 (PW.pt (dw_and (pw_and (dt_cmp (pt_cmpR (op_eqG hr) (d_var (pv 1)) d_int (nomark _)) cd_eq) (pw_and1 (dt_cmp (pt_cmpR op_lt (d_var (pv 2)) d_int (nomark _)) cd_int))))))))) (ds_one (ds_set (ps_set (i := 4) sc_l_form.nd rfl (Or.inl rfl) (d_op (pe_op op_sub d_int (d_var (pv 4))) od_int0)))) ds_nil)) (ds_one (ds_ret (ps_ret (d_tup (da_cons d_str (da_cons (d_tup (da_cons (d_op (pe_op op_fdivZ (d_var (pv 1)) (d_var (pv 4))) od_int) (da_cons d_int da_nil))) (da_cons (d_tup (da_cons (d_op (pe_op op_fdivZ (d_var (pv 2)) (d_var (pv 4))) od_int) (da_cons d_int da_nil))) (da_cons (d_tup (da_cons (d_op (pe_op op_fdivZ (d_var (pv 3)) (d_var (pv 4))) od_int) (da_cons d_int da_nil))) da_nil))))))))))))
def b_l_chord : TSD := (sSeq (sSet 2 (dCall t_l_common (dCons (dCall t_l_common (dCons (dUn (fNth 0) (dV 0)) (dCons (dUn (fNth 1) (dV 0)) dNil))) (dCons (dUn (fNth 2) (dV 0)) dNil)))) (sSeq (sPar3 3 4 5 (dCons (dOp fFdv (dUn (fNth 0) (dV 0)) (dV 2)) (dCons (dOp fFdv (dUn (fNth 1) (dV 0)) (dV 2)) (dCons (dOp fFdv (dUn (fNth 2) (dV 0)) (dV 2)) dNil)))) (sSeq (sAsg (dV 1) (gdT 4 (gdCons (gdN 6) (gdCons (gdN 7) (gdCons (gdN 8) (gdCons (gdN 9) gdNil)))))) (sSeq (sPar 10 11 (dCons (dOp fSub (dOp fAddG (dOp fMul (dV 3) (dV 6)) (dOp fMul (dV 4) (dV 7))) (dOp fMul (dV 5) (dV 9))) (dCons (dOp fAddG (dOp fMul (dV 3) (dV 3)) (dOp fMul (dV 4) (dV 4))) dNil))) (sSeq (sAsg (dTup (dCons (dOp fSub (dOp fMul (dV 8) (dV 11)) (dOp fMul (dV 10) (dV 10))) (dCons (dOp fSub (dOp fMul (dV 6) (dV 11)) (dOp fMul (dV 10) (dV 3))) (dCons (dOp fSub (dOp fMul (dV 7) (dV 11)) (dOp fMul (dV 10) (dV 4))) (dCons (dOp fMul (dV 9) (dV 11)) dNil))))) (gdT 4 (gdCons (gdN 12) (gdCons (gdN 13) (gdCons (gdN 14) (gdCons (gdN 15) gdNil)))))) (sSeq (sIf (dCmp fLt (dV 12) (dC (.int 0))) (sRet (dC (.list []))) sNx) (sSeq (sIf (dCmp fEq (dV 12) (dC (.int 0))) (sRet (dLst (dCons (dTup (dCons (dTup (dCons (dV 13) (dCons (dC (.int 0)) (dCons (dC (.int 0)) (dCons (dV 15) dNil))))) (dCons (dTup (dCons (dV 14) (dCons (dC (.int 0)) (dCons (dC (.int 0)) (dCons (dV 15) dNil))))) dNil))) dNil))) sNx) (sSeq (sSet 16 (dLst (dCons (dTup (dCons (dTup (dCons (dV 13) (dCons (dOp fSub (dC (.int 0)) (dV 4)) (dCons (dV 12) (dCons (dV 15) dNil))))) (dCons (dTup (dCons (dV 14) (dCons (dV 3) (dCons (dV 12) (dCons (dV 15) dNil))))) dNil))) (dCons (dTup (dCons (dTup (dCons (dV 13) (dCons (dV 4) (dCons (dV 12) (dCons (dV 15) dNil))))) (dCons (dTup (dCons (dV 14) (dCons (dOp fSub (dC (.int 0)) (dV 3)) (dCons (dV 12) (dCons (dV 15) dNil))))) dNil))) dNil)))) (sRet (dIf (dOr (dCmp fGt (dV 4) (dC (.int 0))) (dAnd (dCmp fEq (dV 4) (dC (.int 0))) (dCmp fLt (dV 3) (dC (.int 0))))) (dV 16) (dUn fBackL (dV 16))))))))))))
def t_l_chord : TF := tfOf N_l_chord b_l_chord
theorem c_l_chord {g : Bool} (T : Top K mg) : Cq g (L2.CX P w) P w K mg base 2 "_law_chord" (spF ⟨base, K, ⟨false, Tz⟩⟩ mg 2 t_l_chord) := by
  exact Lw.Dn.dataQ T.d_l_chord sc_l_chord fun f cdv A outer s H E hr hg => (ds_cons (ds_set (ps_set (i := 2) sc_l_chord.nd rfl (Or.inl rfl) (d_call (pe_clQ (E := fun _ => E) (c_l_common T) hr hg (fun σ => passAt (takes_of rfl rfl rfl rfl) σ) rfl (da_cons (d_call (pe_clQ (E := fun _ => E) (c_l_common T) hr hg (fun σ => passAt (takes_of rfl rfl rfl rfl) σ) rfl (da_cons (d_nth (pe_ix ix_seq (d_var (pv 0)) pe_int (fun _ _ => rfl))) (da_cons (d_nth (pe_ix ix_seq (d_var (pv 0)) pe_int (fun _ _ => rfl))) da_nil)))) (da_cons (d_nth (pe_ix ix_seq (d_var (pv 0)) pe_int (fun _ _ => rfl))) da_nil)))))) (ds_cons (ds_par3 (ps_par3 (i := 3) (j := 4) (l := 5) rfl sc_l_chord.nd rfl rfl rfl (by decide) (by decide) (by decide) rfl rfl rfl (da_cons (d_op (pe_op op_fdivZ (d_nth (pe_ix ix_seq (d_var (pv 0)) pe_int (fun _ _ => rfl))) (d_var (pv 2))) od_int) (da_cons (d_op (pe_op op_fdivZ (d_nth (pe_ix ix_seq (d_var (pv 0)) pe_int (fun _ _ => rfl))) (d_var (pv 2))) od_int) (da_cons (d_op (pe_op op_fdivZ (d_nth (pe_ix ix_seq (d_var (pv 0)) pe_int (fun _ _ => rfl))) (d_var (pv 2))) od_int) da_nil))) rfl)) (ds_cons (ds_asg (go_tup (gos_cons (go_name 6) (gos_cons (go_name 7) (gos_cons (go_name 8) (gos_cons (go_name 9) gos_nil))))) (ps_asg (d_var (pv 1)) (pg_tup rfl (pgs_cons (pg_name (i := 6) sc_l_chord.nd rfl (Or.inl rfl)) (pgs_cons (pg_name (i := 7) sc_l_chord.nd rfl (Or.inl rfl)) (pgs_cons (pg_name (i := 8) sc_l_chord.nd rfl (Or.inl rfl)) (pgs_cons (pg_name (i := 9) sc_l_chord.nd rfl (Or.inl rfl)) pgs_nil))))))) (ds_cons (ds_par (ps_par (i := 10) (j := 11) rfl sc_l_chord.nd rfl rfl (by decide) rfl rfl (da_cons (d_op (pe_op op_sub (d_op (pe_op op_addG (d_op (pe_op op_mulX (d_var (pv 3)) (d_var (pv 6))) od_int) (d_op (pe_op op_mulX (d_var (pv 4)) (d_var (pv 7))) od_int)) od_addG) (d_op (pe_op op_mulX (d_var (pv 5)) (d_var (pv 9))) od_int)) od_int0) (da_cons (d_op (pe_op op_addG (d_op (pe_op op_mulX (d_var (pv 3)) (d_var (pv 3))) od_int) (d_op (pe_op op_mulX (d_var (pv 4)) (d_var (pv 4))) od_int)) od_addG) da_nil)) rfl)) (ds_cons (ds_asg (go_tup (gos_cons (go_name 12) (gos_cons (go_name 13) (gos_cons (go_name 14) (gos_cons (go_name 15) gos_nil))))) (ps_asg (d_tup (da_cons (d_op (pe_op op_sub (d_op (pe_op op_mulX (d_var (pv 8)) (d_var (pv 11))) od_int) (d_op (pe_op op_mulX (d_var (pv 10)) (d_var (pv 10))) od_int)) od_int0) (da_cons (d_op (pe_op op_sub (d_op (pe_op op_mulX (d_var (pv 6)) (d_var (pv 11))) od_int) (d_op (pe_op op_mulX (d_var (pv 10)) (d_var (pv 3))) od_int)) od_int0) (da_cons (d_op (pe_op op_sub (d_op (pe_op op_mulX (d_var (pv 7)) (d_var (pv 11))) od_int) (d_op (pe_op op_mulX (d_var (pv 10)) (d_var (pv 4))) od_int)) od_int0) (da_cons (d_op (pe_op op_mulX (d_var (pv 9)) (d_var (pv 11))) od_int) da_nil))))) (pg_tup rfl (pgs_cons (pg_name (i := 12) sc_l_chord.nd rfl (Or.inl rfl)) (pgs_cons (pg_name (i := 13) sc_l_chord.nd rfl (Or.inl rfl)) (pgs_cons (pg_name (i := 14) sc_l_chord.nd rfl (Or.inl rfl)) (pgs_cons (pg_name (i := 15) sc_l_chord.nd rfl (Or.inl rfl)) pgs_nil))))))) (ds_cons (ds_if (ps_if (dt_cmp (pt_cmpR op_lt (d_var (pv 12)) d_int (nomark _)) cd_int) (ds_one (ds_ret (ps_ret (d_data (pd_lst pda_nil))))) ds_nil)) (ds_cons (ds_if (ps_if (dt_cmp (pt_cmpR (op_eqG hr) (d_var (pv 12)) d_int (nomark _)) cd_eq) (ds_one (ds_ret (ps_ret (d_lst (da_cons (d_tup (da_cons (d_tup (da_cons (d_var (pv 13)) (da_cons d_int (da_cons d_int (da_cons (d_var (pv 15)) da_nil))))) (da_cons (d_tup (da_cons (d_var (pv 14)) (da_cons d_int (da_cons d_int (da_cons (d_var (pv 15)) da_nil))))) da_nil))) da_nil))))) ds_nil)) (ds_cons (ds_set (ps_set (i := 16) sc_l_chord.nd rfl (Or.inl rfl) (d_lst (da_cons (d_tup (da_cons (d_tup (da_cons (d_var (pv 13)) (da_cons (d_op (pe_op op_sub d_int (d_var (pv 4))) od_int0) (da_cons (d_var (pv 12)) (da_cons (d_var (pv 15)) da_nil))))) (da_cons (d_tup (da_cons (d_var (pv 14)) (da_cons (d_var (pv 3)) (da_cons (d_var (pv 12)) (da_cons (d_var (pv 15)) da_nil))))) da_nil))) (da_cons (d_tup (da_cons (d_tup (da_cons (d_var (pv 13)) (da_cons (d_var (pv 4)) (da_cons (d_var (pv 12)) (da_cons (d_var (pv 15)) da_nil))))) (da_cons (d_tup (da_cons (d_var (pv 14)) (da_cons (d_op (pe_op op_sub d_int (d_var (pv 3))) od_int0) (da_cons (d_var (pv 12)) (da_cons (d_var (pv 15)) da_nil))))) da_nil))) da_nil))))) (ds_one (ds_ret (ps_ret (d_if (pe_ifExp (PW.pt (dw_or (pw_or (dt_cmp (pt_cmpR op_gt (d_var (pv 4)) d_int (nomark _)) cd_int) (pw_or1 (PW.pt (dw_and (pw_and (dt_cmp (pt_cmpR (op_eqG hr) (d_var (pv 4)) d_int (nomark _)) cd_eq) (pw_and1 (dt_cmp (pt_cmpR op_lt (d_var (pv 3)) d_int (nomark _)) cd_int))))))))) (d_var (pv 16)) (d_backL (pe_revL (d_var (pv 16)))))))))))))))))
def b_l_seat_drawn : TSD := (sSeq (sPar 1 2 (dCons (dCall t_l_pick (dConsW 0 (dCons (dC (.tuple [(.int 2), (.int 3), (.int 5), (.int 6), (.int 8), (.int 4), (.int 3), (.int 2)])) dNil))) (dCons (dOp fAddG (dC (.int 1)) (dCall t_l_draw (dConsW 0 (dCons (dC (.int 3)) dNil)))) dNil))) (sSeq (sSet 3 (dOp fSub (dCall t_l_draw (dConsW 0 (dCons (dC (.int 5)) dNil))) (dC (.int 2)))) (sRet (dTup (dCons (dTup (dCons (dOp fSub (dCall t_l_draw (dConsW 0 (dCons (dC (.int 9)) dNil))) (dC (.int 4))) (dCons (dV 3) (dCons (dV 1) (dCons (dV 2) dNil))))) (dCons (dTup (dCons (dOp fSub (dCall t_l_draw (dConsW 0 (dCons (dC (.int 9)) dNil))) (dC (.int 4))) (dCons (dOp fSub (dCall t_l_draw (dConsW 0 (dCons (dC (.int 5)) dNil))) (dC (.int 2))) (dCons (dV 1) (dCons (dV 2) dNil))))) dNil))))))
def t_l_seat_drawn : TF := tfOf N_l_seat_drawn b_l_seat_drawn
theorem c_l_seat_drawn (T : Top K mg) : Cq true (L2.CX P w) P w K mg base 3 "_law_seat_drawn" (spF ⟨base, K, ⟨false, Tz⟩⟩ mg 1 t_l_seat_drawn) := by
  exact Lw.Dn.dataQ T.d_l_seat_drawn sc_l_seat_drawn fun f cdv A outer s H E hr hg => (ds_cons (ds_par (ps_par (i := 1) (j := 2) rfl sc_l_seat_drawn.nd rfl rfl (by decide) rfl rfl (da_cons (d_call (pe_clQ (E := fun _ => E) (c_l_pick T) hr hg (fun σ => passAt (takes_of rfl rfl rfl rfl) σ) rfl (da_well (pv 0) (da_cons (d_data (pd_tup (pda_cons pd_int (pda_cons pd_int (pda_cons pd_int (pda_cons pd_int (pda_cons pd_int (pda_cons pd_int (pda_cons pd_int (pda_cons pd_int pda_nil)))))))))) da_nil)))) (da_cons (d_op (pe_op op_addG d_int (d_call (pe_clQ (E := fun _ => E) ((c_l_drawD T).cq) hr hg (fun σ => passAt (takes_of rfl rfl rfl rfl) σ) rfl (da_well (pv 0) (da_cons d_int da_nil))))) od_addG) da_nil)) rfl)) (ds_cons (ds_set (ps_set (i := 3) sc_l_seat_drawn.nd rfl (Or.inl rfl) (d_op (pe_op op_sub (d_call (pe_clQ (E := fun _ => E) ((c_l_drawD T).cq) hr hg (fun σ => passAt (takes_of rfl rfl rfl rfl) σ) rfl (da_well (pv 0) (da_cons d_int da_nil)))) d_int) od_int0))) (ds_one (ds_ret (ps_ret (d_tup (da_cons (d_tup (da_cons (d_op (pe_op op_sub (d_call (pe_clQ (E := fun _ => E) ((c_l_drawD T).cq) hr hg (fun σ => passAt (takes_of rfl rfl rfl rfl) σ) rfl (da_well (pv 0) (da_cons d_int da_nil)))) d_int) od_int0) (da_cons (d_var (pv 3)) (da_cons (d_var (pv 1)) (da_cons (d_var (pv 2)) da_nil))))) (da_cons (d_tup (da_cons (d_op (pe_op op_sub (d_call (pe_clQ (E := fun _ => E) ((c_l_drawD T).cq) hr hg (fun σ => passAt (takes_of rfl rfl rfl rfl) σ) rfl (da_well (pv 0) (da_cons d_int da_nil)))) d_int) od_int0) (da_cons (d_op (pe_op op_sub (d_call (pe_clQ (E := fun _ => E) ((c_l_drawD T).cq) hr hg (fun σ => passAt (takes_of rfl rfl rfl rfl) σ) rfl (da_well (pv 0) (da_cons d_int da_nil)))) d_int) od_int0) (da_cons (d_var (pv 1)) (da_cons (d_var (pv 2)) da_nil))))) da_nil))))))))
def b_p_over_one_root : TSD := (sSeq (sAsg (dCall t_p_surd_of (dCons (dV 0) dNil)) (gdT 4 (gdCons (gdN 2) (gdCons (gdN 3) (gdCons (gdN 4) (gdCons (gdN 5) gdNil)))))) (sSeq (sAsg (dCall t_p_surd_of (dCons (dV 1) dNil)) (gdT 4 (gdCons (gdN 6) (gdCons (gdN 7) (gdCons (gdN 8) (gdCons (gdN 9) gdNil)))))) (sSeq (sIf (dCmp fEq (dV 4) (dC (.int 0))) (sRet (dTup (dCons (dV 2) (dCons (dV 3) (dCons (dV 5) (dCons (dV 6) (dCons (dV 7) (dCons (dV 9) (dCons (dV 8) dNil))))))))) sNx) (sRet (dTup (dCons (dV 2) (dCons (dV 3) (dCons (dV 5) (dCons (dOp fMul (dV 6) (dV 4)) (dCons (dOp fMul (dV 7) (dCB fIsqrt (dCons (dOp fMul (dV 4) (dV 8)) dNil))) (dCons (dOp fMul (dV 9) (dV 4)) (dCons (dV 4) dNil))))))))))))
def t_p_over_one_root : TF := tfOf N_p_over_one_root b_p_over_one_root
theorem c_p_over_one_root {g : Bool} (T : Top K mg) : Cq g (L2.CX P w) P w K mg base 3 "over_one_root" (spF ⟨base, K, ⟨false, Tz⟩⟩ mg 2 t_p_over_one_root) := by
  exact Lw.Dn.dataQ T.d_p_over_one_root sc_p_over_one_root fun f cdv A outer s H E hr hg => (ds_cons (ds_asg (go_tup (gos_cons (go_name 2) (gos_cons (go_name 3) (gos_cons (go_name 4) (gos_cons (go_name 5) gos_nil))))) (ps_asg (d_call (pe_clQ (E := fun _ => E) (c_p_surd_of T) hr hg (fun σ => passAt (takes_of rfl rfl rfl rfl) σ) rfl (da_cons (d_var (pv 0)) da_nil))) (pg_tup rfl (pgs_cons (pg_name (i := 2) sc_p_over_one_root.nd rfl (Or.inl rfl)) (pgs_cons (pg_name (i := 3) sc_p_over_one_root.nd rfl (Or.inl rfl)) (pgs_cons (pg_name (i := 4) sc_p_over_one_root.nd rfl (Or.inl rfl)) (pgs_cons (pg_name (i := 5) sc_p_over_one_root.nd rfl (Or.inl rfl)) pgs_nil))))))) (ds_cons (ds_asg (go_tup (gos_cons (go_name 6) (gos_cons (go_name 7) (gos_cons (go_name 8) (gos_cons (go_name 9) gos_nil))))) (ps_asg (d_call (pe_clQ (E := fun _ => E) (c_p_surd_of T) hr hg (fun σ => passAt (takes_of rfl rfl rfl rfl) σ) rfl (da_cons (d_var (pv 1)) da_nil))) (pg_tup rfl (pgs_cons (pg_name (i := 6) sc_p_over_one_root.nd rfl (Or.inl rfl)) (pgs_cons (pg_name (i := 7) sc_p_over_one_root.nd rfl (Or.inl rfl)) (pgs_cons (pg_name (i := 8) sc_p_over_one_root.nd rfl (Or.inl rfl)) (pgs_cons (pg_name (i := 9) sc_p_over_one_root.nd rfl (Or.inl rfl)) pgs_nil))))))) (ds_cons (ds_if (ps_if (dt_cmp (pt_cmpR (op_eqG hr) (d_var (pv 4)) d_int (nomark _)) cd_eq) (ds_one (ds_ret (ps_ret (d_tup (da_cons (d_var (pv 2)) (da_cons (d_var (pv 3)) (da_cons (d_var (pv 5)) (da_cons (d_var (pv 6)) (da_cons (d_var (pv 7)) (da_cons (d_var (pv 9)) (da_cons (d_var (pv 8)) da_nil))))))))))) ds_nil)) (ds_one (ds_ret (ps_ret (d_tup (da_cons (d_var (pv 2)) (da_cons (d_var (pv 3)) (da_cons (d_var (pv 5)) (da_cons (d_op (pe_op op_mulX (d_var (pv 6)) (d_var (pv 4))) od_int) (da_cons (d_op (pe_op op_mulX (d_var (pv 7)) (d_cb (pe_callBfun cr_isqrt rfl T.g_isqrt (da_cons (d_op (pe_op op_mulX (d_var (pv 4)) (d_var (pv 8))) od_int) da_nil)) bd_isqrt)) od_int) (da_cons (d_op (pe_op op_mulX (d_var (pv 9)) (d_var (pv 4))) od_int) (da_cons (d_var (pv 4)) da_nil))))))))))))))
end
end My

set_option maxHeartbeats 4000000
namespace My
open PySem L2 Ld
open Lw hiding Dv DvAll FreshB tData tDatas pd_int pd_bl pd_non pd_str pd_neg pd_pow pda_nil pda_cons pd_tup pd_lst pd_dct dv_cut dv_cat tup_at rRepr call_repr rIsD call_isD
section
variable {P : Program} {w : World} {K : PySem.W.Frag} {mg : Str → Option Value} {base : Heap} {Tz : List (Addr × Str)}
def b_p_sign_of : TSD := (sSeq (sAsg (dCall t_p_surd_of (dCons (dV 0) dNil)) (gdT 4 (gdCons (gdN 1) (gdCons (gdN 2) (gdCons (gdN 3) (gdCons (gdN 4) gdNil)))))) (sRet (dCall t_p_sign_of_two (dCons (dV 1) (dCons (dV 2) (dCons (dV 3) dNil))))))
def t_p_sign_of : TF := tfOf N_p_sign_of b_p_sign_of
theorem c_p_sign_of {g : Bool} (T : Top K mg) : Cq g (L2.CX P w) P w K mg base 3 "sign_of" (spF ⟨base, K, ⟨false, Tz⟩⟩ mg 1 t_p_sign_of) := by
  exact Lw.Dn.dataQ T.d_p_sign_of sc_p_sign_of fun f cdv A outer s H E hr hg => (ds_cons (ds_asg (go_tup (gos_cons (go_name 1) (gos_cons (go_name 2) (gos_cons (go_name 3) (gos_cons (go_name 4) gos_nil))))) (ps_asg (d_call (pe_clQ (E := fun _ => E) (c_p_surd_of T) hr hg (fun σ => passAt (takes_of rfl rfl rfl rfl) σ) rfl (da_cons (d_var (pv 0)) da_nil))) (pg_tup rfl (pgs_cons (pg_name (i := 1) sc_p_sign_of.nd rfl (Or.inl rfl)) (pgs_cons (pg_name (i := 2) sc_p_sign_of.nd rfl (Or.inl rfl)) (pgs_cons (pg_name (i := 3) sc_p_sign_of.nd rfl (Or.inl rfl)) (pgs_cons (pg_name (i := 4) sc_p_sign_of.nd rfl (Or.inl rfl)) pgs_nil))))))) (ds_one (ds_ret (ps_ret (d_call (pe_clQ (E := fun _ => E) (c_p_sign_of_two T) hr hg (fun σ => passAt (takes_of rfl rfl rfl rfl) σ) rfl (da_cons (d_var (pv 1)) (da_cons (d_var (pv 2)) (da_cons (d_var (pv 3)) da_nil)))))))))
def b_p_is_number : TSD := (sRet (dOrV (dCall t_p_is_fraction (dCons (dV 0) dNil)) (dCall t_p_is_root (dCons (dV 0) dNil))))
def t_p_is_number : TF := tfOf N_p_is_number b_p_is_number
theorem c_p_is_number {g : Bool} (T : Top K mg) : Cq g (L2.CX P w) P w K mg base 3 "is_number" (spF ⟨base, K, ⟨false, Tz⟩⟩ mg 1 t_p_is_number) := by
  exact Lw.Dn.dataQ T.d_p_is_number sc_p_is_number fun f cdv A outer s H E hr hg => (ds_one (ds_ret (ps_ret (d_orV (pe_orT (d_call (pe_clQ (E := fun _ => E) (c_p_is_fraction T) hr hg (fun σ => passAt (takes_of rfl rfl rfl rfl) σ) rfl (da_cons (d_var (pv 0)) da_nil))) (pe_one (d_call (pe_clQ (E := fun _ => E) (c_p_is_root T) hr hg (fun σ => passAt (takes_of rfl rfl rfl rfl) σ) rfl (da_cons (d_var (pv 0)) da_nil)))))))))
def b_p_is_curve : TSD := (sSeq (sIf (dOr (dNot (dTst (dUn (fun d R => R (.bool (isTup d))) (dV 0)))) (dOr (dCmp fNe (dCB fLen (dCons (dV 0) dNil)) (dC (.int 4))) (dNot (dTst (dUn (fun d R => R (.bool (isStr d))) (dUn (fNth 0) (dV 0))))))) (sRet (dC (.bool false))) sNx) (sSeq (sAsg (dV 0) (gdT 4 (gdCons (gdN 1) (gdCons (gdN 2) (gdCons (gdN 3) (gdCons (gdN 4) gdNil)))))) (sSeq (sIf (dOr (dNot (dTst (dCall t_p_is_fraction (dCons (dV 2) dNil)))) (dOr (dNot (dTst (dCall t_p_is_fraction (dCons (dV 3) dNil)))) (dNot (dTst (dCall t_p_is_fraction (dCons (dV 4) dNil)))))) (sRet (dC (.bool false))) sNx) (sSeq (sIf (dCmp fEq (dV 1) (dC (.str "line"))) (sRet (dOrV (dCmpV fNe (dUn (fNth 0) (dV 2)) (dC (.int 0))) (dCmpV fNe (dUn (fNth 0) (dV 3)) (dC (.int 0))))) sNx) (sRet (dAndV (dCmpV fEq (dV 1) (dC (.str "circle"))) (dCmpV fGt (dUn (fNth 0) (dV 4)) (dC (.int 0)))))))))
def t_p_is_curve : TF := tfOf N_p_is_curve b_p_is_curve
theorem c_p_is_curve {g : Bool} (T : Top K mg) : Cq g (L2.CX P w) P w K mg base 3 "is_curve" (spF ⟨base, K, ⟨false, Tz⟩⟩ mg 1 t_p_is_curve) := by
  exact Lw.Dn.dataQ T.d_p_is_curve sc_p_is_curve fun f cdv A outer s H E hr hg => (ds_cons (ds_if (ps_if (PW.pt (dw_or (pw_or (dt_not (pt_not (dt_val (pt_truth (d_isi (pe_callB (Ld.call_isD kit_tup) rfl T.z_isinstance (by decide +kernel) (pa_cons (d_var (pv 0)) (pa_cons (pe_bltn (v := .ty "tuple") rfl T.z_tuple (by decide +kernel) rfl) pa_nil)))) (by intro _; rfl))))) (dw_or (pw_or (dt_cmp (pt_cmpR (op_neG hr) (d_cb (pe_callB call_len rfl T.z_len (by decide +kernel) (da_cons (d_var (pv 0)) da_nil)) bd_len) d_int (nomark _)) cd_ne) (pw_or1 (dt_not (pt_not (dt_val (pt_truth (d_isi (pe_callB (Ld.call_isD kit_str) rfl T.z_isinstance (by decide +kernel) (pa_cons (d_nth (pe_ix ix_seq (d_var (pv 0)) pe_int (fun _ _ => rfl))) (pa_cons (pe_bltn (v := .ty "str") rfl T.z_str (by decide +kernel) rfl) pa_nil)))) (by intro _; rfl))))))))))) (ds_one (ds_ret (ps_ret d_bl))) ds_nil)) (ds_cons (ds_asg (go_tup (gos_cons (go_name 1) (gos_cons (go_name 2) (gos_cons (go_name 3) (gos_cons (go_name 4) gos_nil))))) (ps_asg (d_var (pv 0)) (pg_tup rfl (pgs_cons (pg_name (i := 1) sc_p_is_curve.nd rfl (Or.inl rfl)) (pgs_cons (pg_name (i := 2) sc_p_is_curve.nd rfl (Or.inl rfl)) (pgs_cons (pg_name (i := 3) sc_p_is_curve.nd rfl (Or.inl rfl)) (pgs_cons (pg_name (i := 4) sc_p_is_curve.nd rfl (Or.inl rfl)) pgs_nil))))))) (ds_cons (ds_if (ps_if (PW.pt (dw_or (pw_or (dt_not (pt_not (dt_val (pt_truth (d_call (pe_clQ (E := fun _ => E) (c_p_is_fraction T) hr hg (fun σ => passAt (takes_of rfl rfl rfl rfl) σ) rfl (da_cons (d_var (pv 2)) da_nil))) (by intro _; rfl))))) (dw_or (pw_or (dt_not (pt_not (dt_val (pt_truth (d_call (pe_clQ (E := fun _ => E) (c_p_is_fraction T) hr hg (fun σ => passAt (takes_of rfl rfl rfl rfl) σ) rfl (da_cons (d_var (pv 3)) da_nil))) (by intro _; rfl))))) (pw_or1 (dt_not (pt_not (dt_val (pt_truth (d_call (pe_clQ (E := fun _ => E) (c_p_is_fraction T) hr hg (fun σ => passAt (takes_of rfl rfl rfl rfl) σ) rfl (da_cons (d_var (pv 4)) da_nil))) (by intro _; rfl))))))))))) (ds_one (ds_ret (ps_ret d_bl))) ds_nil)) (ds_cons (ds_if (ps_if (dt_cmp (pt_cmpR (op_eqG hr) (d_var (pv 1)) d_str (nomark _)) cd_eq) (ds_one (ds_ret (ps_ret (d_orV (pe_orT (d_cmp (pe_cmpR (op_neG hr) (d_nth (pe_ix ix_seq (d_var (pv 2)) pe_int (fun _ _ => rfl))) d_int (nomark _)) cd_ne) (pe_one (d_cmp (pe_cmpR (op_neG hr) (d_nth (pe_ix ix_seq (d_var (pv 3)) pe_int (fun _ _ => rfl))) d_int (nomark _)) cd_ne))))))) ds_nil)) (ds_one (ds_ret (ps_ret (d_andV (pe_andT (d_cmp (pe_cmpR (op_eqG hr) (d_var (pv 1)) d_str (nomark _)) cd_eq) (pe_one (d_cmp (pe_cmpR op_gt (d_nth (pe_ix ix_seq (d_var (pv 4)) pe_int (fun _ _ => rfl))) d_int (nomark _)) cd_int)))))))))))
def b_l_add : TSD := (sRet (dCall t_l_lean (dCons (dOp fAddG (dOp fMul (dUn (fNth 0) (dV 0)) (dUn (fNth 1) (dV 1))) (dOp fMul (dUn (fNth 0) (dV 1)) (dUn (fNth 1) (dV 0)))) (dCons (dOp fMul (dUn (fNth 1) (dV 0)) (dUn (fNth 1) (dV 1))) dNil))))
def t_l_add : TF := tfOf N_l_add b_l_add
theorem c_l_add {g : Bool} (T : Top K mg) : Cq g (L2.CX P w) P w K mg base 3 "_law_add" (spF ⟨base, K, ⟨false, Tz⟩⟩ mg 2 t_l_add) := by
  exact Lw.Dn.dataQ T.d_l_add sc_l_add fun f cdv A outer s H E hr hg => (ds_one (ds_ret (ps_ret (d_call (pe_clQ (E := fun _ => E) (c_l_lean T) hr hg (fun σ => passAt (takes_of rfl rfl rfl rfl) σ) rfl (da_cons (d_op (pe_op op_addG (d_op (pe_op op_mulX (d_nth (pe_ix ix_seq (d_var (pv 0)) pe_int (fun _ _ => rfl))) (d_nth (pe_ix ix_seq (d_var (pv 1)) pe_int (fun _ _ => rfl)))) od_int) (d_op (pe_op op_mulX (d_nth (pe_ix ix_seq (d_var (pv 1)) pe_int (fun _ _ => rfl))) (d_nth (pe_ix ix_seq (d_var (pv 0)) pe_int (fun _ _ => rfl)))) od_int)) od_addG) (da_cons (d_op (pe_op op_mulX (d_nth (pe_ix ix_seq (d_var (pv 0)) pe_int (fun _ _ => rfl))) (d_nth (pe_ix ix_seq (d_var (pv 1)) pe_int (fun _ _ => rfl)))) od_int) da_nil)))))))
def b_l_mul : TSD := (sRet (dCall t_l_lean (dCons (dOp fMul (dUn (fNth 0) (dV 0)) (dUn (fNth 0) (dV 1))) (dCons (dOp fMul (dUn (fNth 1) (dV 0)) (dUn (fNth 1) (dV 1))) dNil))))
def t_l_mul : TF := tfOf N_l_mul b_l_mul
theorem c_l_mul {g : Bool} (T : Top K mg) : Cq g (L2.CX P w) P w K mg base 3 "_law_mul" (spF ⟨base, K, ⟨false, Tz⟩⟩ mg 2 t_l_mul) := by
  exact Lw.Dn.dataQ T.d_l_mul sc_l_mul fun f cdv A outer s H E hr hg => (ds_one (ds_ret (ps_ret (d_call (pe_clQ (E := fun _ => E) (c_l_lean T) hr hg (fun σ => passAt (takes_of rfl rfl rfl rfl) σ) rfl (da_cons (d_op (pe_op op_mulX (d_nth (pe_ix ix_seq (d_var (pv 0)) pe_int (fun _ _ => rfl))) (d_nth (pe_ix ix_seq (d_var (pv 1)) pe_int (fun _ _ => rfl)))) od_int) (da_cons (d_op (pe_op op_mulX (d_nth (pe_ix ix_seq (d_var (pv 0)) pe_int (fun _ _ => rfl))) (d_nth (pe_ix ix_seq (d_var (pv 1)) pe_int (fun _ _ => rfl)))) od_int) da_nil)))))))
def b_l_formed : TSD := (sSeq (sAsg (dV 0) (gdT 4 (gdCons (gdN 1) (gdCons (gdN 2) (gdCons (gdN 3) (gdCons (gdN 4) gdNil)))))) (sSeq (sIf (dOr (dCmp fEq (dV 2) (dC (.int 0))) (dTst (dCall t_l_is_square (dCons (dV 3) dNil)))) (sRet (dCall t_l_lean (dCons (dOp fAddG (dV 1) (dOp fMul (dV 2) (dCall t_l_root (dCons (dV 3) dNil)))) (dCons (dV 4) dNil)))) sNx) (sSeq (sPar3 5 6 7 (dCons (dOp fMul (dV 4) (dV 4)) (dCons (dOp fSub (dC (.int 0)) (dOp fMul (dOp fMul (dC (.int 2)) (dV 1)) (dV 4))) (dCons (dOp fSub (dOp fMul (dV 1) (dV 1)) (dOp fMul (dOp fMul (dV 2) (dV 2)) (dV 3))) dNil)))) (sSeq (sSet 8 (dCall t_l_common (dCons (dCall t_l_common (dCons (dV 5) (dCons (dV 6) dNil))) (dCons (dV 7) dNil)))) (sRet (dTup (dCons (dOp fFdv (dV 5) (dV 8)) (dCons (dOp fFdv (dV 6) (dV 8)) (dCons (dOp fFdv (dV 7) (dV 8)) (dCons (dCmpV fGt (dV 2) (dC (.int 0))) dNil))))))))))
def t_l_formed : TF := tfOf N_l_formed b_l_formed
theorem c_l_formed {g : Bool} (T : Top K mg) : Cq g (L2.CX P w) P w K mg base 3 "_law_formed" (spF ⟨base, K, ⟨false, Tz⟩⟩ mg 1 t_l_formed) := by
  exact Lw.Dn.dataQ T.d_l_formed sc_l_formed fun f cdv A outer s H E hr hg => (ds_cons (ds_asg (go_tup (gos_cons (go_name 1) (gos_cons (go_name 2) (gos_cons (go_name 3) (gos_cons (go_name 4) gos_nil))))) (ps_asg (d_var (pv 0)) (pg_tup rfl (pgs_cons (pg_name (i := 1) sc_l_formed.nd rfl (Or.inl rfl)) (pgs_cons (pg_name (i := 2) sc_l_formed.nd rfl (Or.inl rfl)) (pgs_cons (pg_name (i := 3) sc_l_formed.nd rfl (Or.inl rfl)) (pgs_cons (pg_name (i := 4) sc_l_formed.nd rfl (Or.inl rfl)) pgs_nil))))))) (ds_cons (ds_if (ps_if (PW.pt (dw_or (pw_or (dt_cmp (pt_cmpR (op_eqG hr) (d_var (pv 2)) d_int (nomark _)) cd_eq) (pw_or1 (dt_val (pt_truth (d_call (pe_clQ (E := fun _ => E) (c_l_is_square T) hr hg (fun σ => passAt (takes_of rfl rfl rfl rfl) σ) rfl (da_cons (d_var (pv 3)) da_nil))) (by intro _; rfl))))))) (ds_one (ds_ret (ps_ret (d_call (pe_clQ (E := fun _ => E) (c_l_lean T) hr hg (fun σ => passAt (takes_of rfl rfl rfl rfl) σ) rfl (da_cons (d_op (pe_op op_addG (d_var (pv 1)) (d_op (pe_op op_mulX (d_var (pv 2)) (d_call (pe_clQ (E := fun _ => E) (c_l_root T) hr hg (fun σ => passAt (takes_of rfl rfl rfl rfl) σ) rfl (da_cons (d_var (pv 3)) da_nil)))) od_int)) od_addG) (da_cons (d_var (pv 4)) da_nil))))))) ds_nil)) (ds_cons (ds_par3 (ps_par3 (i := 5) (j := 6) (l := 7) rfl sc_l_formed.nd rfl rfl rfl (by decide) (by decide) (by decide) rfl rfl rfl (da_cons (d_op (pe_op op_mulX (d_var (pv 4)) (d_var (pv 4))) od_int) (da_cons (d_op (pe_op op_sub d_int (d_op (pe_op op_mulX (d_op (pe_op op_mulX d_int (d_var (pv 1))) od_int) (d_var (pv 4))) od_int)) od_int0) (da_cons (d_op (pe_op op_sub (d_op (pe_op op_mulX (d_var (pv 1)) (d_var (pv 1))) od_int) (d_op (pe_op op_mulX (d_op (pe_op op_mulX (d_var (pv 2)) (d_var (pv 2))) od_int) (d_var (pv 3))) od_int)) od_int0) da_nil))) rfl)) (ds_cons (ds_set (ps_set (i := 8) sc_l_formed.nd rfl (Or.inl rfl) (d_call (pe_clQ (E := fun _ => E) (c_l_common T) hr hg (fun σ => passAt (takes_of rfl rfl rfl rfl) σ) rfl (da_cons (d_call (pe_clQ (E := fun _ => E) (c_l_common T) hr hg (fun σ => passAt (takes_of rfl rfl rfl rfl) σ) rfl (da_cons (d_var (pv 5)) (da_cons (d_var (pv 6)) da_nil)))) (da_cons (d_var (pv 7)) da_nil)))))) (ds_one (ds_ret (ps_ret (d_tup (da_cons (d_op (pe_op op_fdivZ (d_var (pv 5)) (d_var (pv 8))) od_int) (da_cons (d_op (pe_op op_fdivZ (d_var (pv 6)) (d_var (pv 8))) od_int) (da_cons (d_op (pe_op op_fdivZ (d_var (pv 7)) (d_var (pv 8))) od_int) (da_cons (d_cmp (pe_cmpR op_gt (d_var (pv 2)) d_int (nomark _)) cd_int) da_nil))))))))))))
def b_l_seat : TSD := (sRet (dCall t_l_both (dCons (dCall t_l_spread (dCons (dUn (fNth 0) (dV 0)) dNil)) (dCons (dCall t_l_spread (dCons (dUn (fNth 1) (dV 0)) dNil)) dNil))))
def t_l_seat : TF := tfOf N_l_seat b_l_seat
theorem c_l_seat {g : Bool} (T : Top K mg) : Cq g (L2.CX P w) P w K mg base 3 "_law_seat" (spF ⟨base, K, ⟨false, Tz⟩⟩ mg 1 t_l_seat) := by
  exact Lw.Dn.dataQ T.d_l_seat sc_l_seat fun f cdv A outer s H E hr hg => (ds_one (ds_ret (ps_ret (d_call (pe_clQ (E := fun _ => E) (c_l_both T) hr hg (fun σ => passAt (takes_of rfl rfl rfl rfl) σ) rfl (da_cons (d_call (pe_clQ (E := fun _ => E) (c_l_spread T) hr hg (fun σ => passAt (takes_of rfl rfl rfl rfl) σ) rfl (da_cons (d_nth (pe_ix ix_seq (d_var (pv 0)) pe_int (fun _ _ => rfl))) da_nil))) (da_cons (d_call (pe_clQ (E := fun _ => E) (c_l_spread T) hr hg (fun σ => passAt (takes_of rfl rfl rfl rfl) σ) rfl (da_cons (d_nth (pe_ix ix_seq (d_var (pv 0)) pe_int (fun _ _ => rfl))) da_nil))) da_nil)))))))
def b_l_side : TSD := (sSeq (sAsg (dV 1) (gdT 2 (gdCons (gdN 2) (gdCons (gdN 3) gdNil)))) (sSeq (sPar 4 5 (dCons (dUn (fNth 2) (dV 2)) (dCons (dUn (fNth 3) (dV 2)) dNil))) (sSeq (sIf (dCmp fEq (dUn (fNth 0) (dV 0)) (dC (.str "line"))) (sSeq (sAsg (dCall t_l_bar (dCons (dV 0) dNil)) (gdT 3 (gdCons (gdN 6) (gdCons (gdN 7) (gdCons (gdN 8) gdNil))))) (sRet (dCall t_l_sign_one (dCons (dOp fSub (dOp fAddG (dOp fMul (dV 6) (dUn (fNth 0) (dV 2))) (dOp fMul (dV 7) (dUn (fNth 0) (dV 3)))) (dOp fMul (dV 8) (dV 5))) (dCons (dOp fAddG (dOp fMul (dV 6) (dUn (fNth 1) (dV 2))) (dOp fMul (dV 7) (dUn (fNth 1) (dV 3)))) (dCons (dV 4) dNil)))))) sNx) (sSeq (sAsg (dCall t_l_ring (dCons (dV 0) dNil)) (gdT 4 (gdCons (gdN 9) (gdCons (gdN 10) (gdCons (gdN 11) (gdCons (gdN 12) gdNil)))))) (sSeq (sAsg (dTup (dCons (dOp fSub (dOp fMul (dV 12) (dUn (fNth 0) (dV 2))) (dOp fMul (dV 9) (dV 5))) (dCons (dOp fMul (dV 12) (dUn (fNth 1) (dV 2))) (dCons (dOp fSub (dOp fMul (dV 12) (dUn (fNth 0) (dV 3))) (dOp fMul (dV 10) (dV 5))) (dCons (dOp fMul (dV 12) (dUn (fNth 1) (dV 3))) dNil))))) (gdT 4 (gdCons (gdN 13) (gdCons (gdN 14) (gdCons (gdN 15) (gdCons (gdN 16) gdNil)))))) (sRet (dCall t_l_sign_one (dCons (dOp fSub (dOp fAddG (dOp fAddG (dOp fMul (dV 13) (dV 13)) (dOp fMul (dV 15) (dV 15))) (dOp fMul (dOp fAddG (dOp fMul (dV 14) (dV 14)) (dOp fMul (dV 16) (dV 16))) (dV 4))) (dOp fMul (dOp fMul (dV 11) (dV 5)) (dV 5))) (dCons (dOp fMul (dC (.int 2)) (dOp fAddG (dOp fMul (dV 13) (dV 14)) (dOp fMul (dV 15) (dV 16)))) (dCons (dV 4) dNil))))))))))
def t_l_side : TF := tfOf N_l_side b_l_side
theorem c_l_side {g : Bool} (T : Top K mg) : Cq g (L2.CX P w) P w K mg base 3 "_law_side" (spF ⟨base, K, ⟨false, Tz⟩⟩ mg 2 t_l_side) := by
  exact Lw.Dn.dataQ T.d_l_side sc_l_side fun f cdv A outer s H E hr hg => (ds_cons (ds_asg (go_tup (gos_cons (go_name 2) (gos_cons (go_name 3) gos_nil))) (ps_asg (d_var (pv 1)) (pg_tup rfl (pgs_cons (pg_name (i := 2) sc_l_side.nd rfl (Or.inl rfl)) (pgs_cons (pg_name (i := 3) sc_l_side.nd rfl (Or.inl rfl)) pgs_nil))))) (ds_cons (ds_par (ps_par (i := 4) (j := 5) rfl sc_l_side.nd rfl rfl (by decide) rfl rfl (da_cons (d_nth (pe_ix ix_seq (d_var (pv 2)) pe_int (fun _ _ => rfl))) (da_cons (d_nth (pe_ix ix_seq (d_var (pv 2)) pe_int (fun _ _ => rfl))) da_nil)) rfl)) (ds_cons (ds_if (ps_if (dt_cmp (pt_cmpR (op_eqG hr) (d_nth (pe_ix ix_seq (d_var (pv 0)) pe_int (fun _ _ => rfl))) d_str (nomark _)) cd_eq) (ds_cons (ds_asg (go_tup (gos_cons (go_name 6) (gos_cons (go_name 7) (gos_cons (go_name 8) gos_nil)))) (ps_asg (d_call (pe_clQ (E := fun _ => E) (c_l_bar T) hr hg (fun σ => passAt (takes_of rfl rfl rfl rfl) σ) rfl (da_cons (d_var (pv 0)) da_nil))) (pg_tup rfl (pgs_cons (pg_name (i := 6) sc_l_side.nd rfl (Or.inl rfl)) (pgs_cons (pg_name (i := 7) sc_l_side.nd rfl (Or.inl rfl)) (pgs_cons (pg_name (i := 8) sc_l_side.nd rfl (Or.inl rfl)) pgs_nil)))))) (ds_one (ds_ret (ps_ret (d_call (pe_clQ (E := fun _ => E) (c_l_sign_one T) hr hg (fun σ => passAt (takes_of rfl rfl rfl rfl) σ) rfl (da_cons (d_op (pe_op op_sub (d_op (pe_op op_addG (d_op (pe_op op_mulX (d_var (pv 6)) (d_nth (pe_ix ix_seq (d_var (pv 2)) pe_int (fun _ _ => rfl)))) od_int) (d_op (pe_op op_mulX (d_var (pv 7)) (d_nth (pe_ix ix_seq (d_var (pv 3)) pe_int (fun _ _ => rfl)))) od_int)) od_addG) (d_op (pe_op op_mulX (d_var (pv 8)) (d_var (pv 5))) od_int)) od_int0) (da_cons (d_op (pe_op op_addG (d_op (pe_op op_mulX (d_var (pv 6)) (d_nth (pe_ix ix_seq (d_var (pv 2)) pe_int (fun _ _ => rfl)))) od_int) (d_op (pe_op op_mulX (d_var (pv 7)) (d_nth (pe_ix ix_seq (d_var (pv 3)) pe_int (fun _ _ => rfl)))) od_int)) od_addG) (da_cons (d_var (pv 4)) da_nil))))))))) ds_nil)) (ds_cons (ds_asg (go_tup (gos_cons (go_name 9) (gos_cons (go_name 10) (gos_cons (go_name 11) (gos_cons (go_name 12) gos_nil))))) (ps_asg (d_call (pe_clQ (E := fun _ => E) (c_l_ring T) hr hg (fun σ => passAt (takes_of rfl rfl rfl rfl) σ) rfl (da_cons (d_var (pv 0)) da_nil))) (pg_tup rfl (pgs_cons (pg_name (i := 9) sc_l_side.nd rfl (Or.inl rfl)) (pgs_cons (pg_name (i := 10) sc_l_side.nd rfl (Or.inl rfl)) (pgs_cons (pg_name (i := 11) sc_l_side.nd rfl (Or.inl rfl)) (pgs_cons (pg_name (i := 12) sc_l_side.nd rfl (Or.inl rfl)) pgs_nil))))))) (ds_cons (ds_asg (go_tup (gos_cons (go_name 13) (gos_cons (go_name 14) (gos_cons (go_name 15) (gos_cons (go_name 16) gos_nil))))) (ps_asg (d_tup (da_cons (d_op (pe_op op_sub (d_op (pe_op op_mulX (d_var (pv 12)) (d_nth (pe_ix ix_seq (d_var (pv 2)) pe_int (fun _ _ => rfl)))) od_int) (d_op (pe_op op_mulX (d_var (pv 9)) (d_var (pv 5))) od_int)) od_int0) (da_cons (d_op (pe_op op_mulX (d_var (pv 12)) (d_nth (pe_ix ix_seq (d_var (pv 2)) pe_int (fun _ _ => rfl)))) od_int) (da_cons (d_op (pe_op op_sub (d_op (pe_op op_mulX (d_var (pv 12)) (d_nth (pe_ix ix_seq (d_var (pv 3)) pe_int (fun _ _ => rfl)))) od_int) (d_op (pe_op op_mulX (d_var (pv 10)) (d_var (pv 5))) od_int)) od_int0) (da_cons (d_op (pe_op op_mulX (d_var (pv 12)) (d_nth (pe_ix ix_seq (d_var (pv 3)) pe_int (fun _ _ => rfl)))) od_int) da_nil))))) (pg_tup rfl (pgs_cons (pg_name (i := 13) sc_l_side.nd rfl (Or.inl rfl)) (pgs_cons (pg_name (i := 14) sc_l_side.nd rfl (Or.inl rfl)) (pgs_cons (pg_name (i := 15) sc_l_side.nd rfl (Or.inl rfl)) (pgs_cons (pg_name (i := 16) sc_l_side.nd rfl (Or.inl rfl)) pgs_nil))))))) (ds_one (ds_ret (ps_ret (d_call (pe_clQ (E := fun _ => E) (c_l_sign_one T) hr hg (fun σ => passAt (takes_of rfl rfl rfl rfl) σ) rfl (da_cons (d_op (pe_op op_sub (d_op (pe_op op_addG (d_op (pe_op op_addG (d_op (pe_op op_mulX (d_var (pv 13)) (d_var (pv 13))) od_int) (d_op (pe_op op_mulX (d_var (pv 15)) (d_var (pv 15))) od_int)) od_addG) (d_op (pe_op op_mulX (d_op (pe_op op_addG (d_op (pe_op op_mulX (d_var (pv 14)) (d_var (pv 14))) od_int) (d_op (pe_op op_mulX (d_var (pv 16)) (d_var (pv 16))) od_int)) od_addG) (d_var (pv 4))) od_int)) od_addG) (d_op (pe_op op_mulX (d_op (pe_op op_mulX (d_var (pv 11)) (d_var (pv 5))) od_int) (d_var (pv 5))) od_int)) od_int0) (da_cons (d_op (pe_op op_mulX d_int (d_op (pe_op op_addG (d_op (pe_op op_mulX (d_var (pv 13)) (d_var (pv 14))) od_int) (d_op (pe_op op_mulX (d_var (pv 15)) (d_var (pv 16))) od_int)) od_addG)) od_int) (da_cons (d_var (pv 4)) da_nil)))))))))))))
def b_l_meet : TSD := (sSeq (sIf (dAnd (dCmp fEq (dUn (fNth 0) (dV 0)) (dC (.str "line"))) (dCmp fEq (dUn (fNth 0) (dV 1)) (dC (.str "line")))) (sSeq (sAsg (dCall t_l_bar (dCons (dV 0) dNil)) (gdT 3 (gdCons (gdN 4) (gdCons (gdN 5) (gdCons (gdN 6) gdNil))))) (sSeq (sAsg (dCall t_l_bar (dCons (dV 1) dNil)) (gdT 3 (gdCons (gdN 7) (gdCons (gdN 8) (gdCons (gdN 9) gdNil))))) (sSeq (sSet 2 (dOp fSub (dOp fMul (dV 4) (dV 8)) (dOp fMul (dV 7) (dV 5)))) (sSeq (sSet 3 (dIf (dCmp fGt (dV 2) (dC (.int 0))) (dC (.int 1)) (dC (.int (-1))))) (sRet (dIf (dCmp fNe (dV 2) (dC (.int 0))) (dLst (dCons (dTup (dCons (dTup (dCons (dOp fMul (dV 3) (dOp fSub (dOp fMul (dV 6) (dV 8)) (dOp fMul (dV 9) (dV 5)))) (dCons (dC (.int 0)) (dCons (dC (.int 0)) (dCons (dOp fMul (dV 3) (dV 2)) dNil))))) (dCons (dTup (dCons (dOp fMul (dV 3) (dOp fSub (dOp fMul (dV 4) (dV 9)) (dOp fMul (dV 7) (dV 6)))) (dCons (dC (.int 0)) (dCons (dC (.int 0)) (dCons (dOp fMul (dV 3) (dV 2)) dNil))))) dNil))) dNil)) (dC (.list [])))))))) sNx) (sSeq (sIf (dCmp fEq (dUn (fNth 0) (dV 0)) (dC (.str "line"))) (sRet (dCall t_l_chord (dCons (dCall t_l_bar (dCons (dV 0) dNil)) (dCons (dCall t_l_ring (dCons (dV 1) dNil)) dNil)))) sNx) (sSeq (sIf (dCmp fEq (dUn (fNth 0) (dV 1)) (dC (.str "line"))) (sRet (dCall t_l_chord (dCons (dCall t_l_bar (dCons (dV 1) dNil)) (dCons (dCall t_l_ring (dCons (dV 0) dNil)) dNil)))) sNx) (sSeq (sAsg (dCall t_l_ring (dCons (dV 0) dNil)) (gdT 4 (gdCons (gdN 10) (gdCons (gdN 11) (gdCons (gdN 12) (gdCons (gdN 13) gdNil)))))) (sSeq (sAsg (dCall t_l_ring (dCons (dV 1) dNil)) (gdT 4 (gdCons (gdN 7) (gdCons (gdN 8) (gdCons (gdN 9) (gdCons (gdN 14) gdNil)))))) (sSeq (sPar 4 5 (dCons (dOp fMul (dOp fMul (dOp fMul (dC (.int 2)) (dOp fSub (dOp fMul (dV 7) (dV 13)) (dOp fMul (dV 10) (dV 14)))) (dV 13)) (dV 14)) (dCons (dOp fMul (dOp fMul (dOp fMul (dC (.int 2)) (dOp fSub (dOp fMul (dV 8) (dV 13)) (dOp fMul (dV 11) (dV 14)))) (dV 13)) (dV 14)) dNil))) (sSeq (sSet 6 (dOp fSub (dOp fMul (dOp fMul (dOp fSub (dOp fAddG (dOp fMul (dV 7) (dV 7)) (dOp fMul (dV 8) (dV 8))) (dV 9)) (dV 13)) (dV 13)) (dOp fMul (dOp fMul (dOp fSub (dOp fAddG (dOp fMul (dV 10) (dV 10)) (dOp fMul (dV 11) (dV 11))) (dV 12)) (dV 14)) (dV 14)))) (sRet (dIf (dOr (dCmp fNe (dV 4) (dC (.int 0))) (dCmp fNe (dV 5) (dC (.int 0)))) (dCall t_l_chord (dCons (dTup (dCons (dV 4) (dCons (dV 5) (dCons (dV 6) dNil)))) (dCons (dTup (dCons (dV 10) (dCons (dV 11) (dCons (dV 12) (dCons (dV 13) dNil))))) dNil))) (dC (.list [])))))))))))
def t_l_meet : TF := tfOf N_l_meet b_l_meet
theorem c_l_meet {g : Bool} (T : Top K mg) : Cq g (L2.CX P w) P w K mg base 3 "_law_meet" (spF ⟨base, K, ⟨false, Tz⟩⟩ mg 2 t_l_meet) := by
  exact Lw.Dn.dataQ T.d_l_meet sc_l_meet fun f cdv A outer s H E hr hg => (ds_cons (ds_if (ps_if (PW.pt (dw_and (pw_and (dt_cmp (pt_cmpR (op_eqG hr) (d_nth (pe_ix ix_seq (d_var (pv 0)) pe_int (fun _ _ => rfl))) d_str (nomark _)) cd_eq) (pw_and1 (dt_cmp (pt_cmpR (op_eqG hr) (d_nth (pe_ix ix_seq (d_var (pv 1)) pe_int (fun _ _ => rfl))) d_str (nomark _)) cd_eq))))) (ds_cons (ds_asg (go_tup (gos_cons (go_name 4) (gos_cons (go_name 5) (gos_cons (go_name 6) gos_nil)))) (ps_asg (d_call (pe_clQ (E := fun _ => E) (c_l_bar T) hr hg (fun σ => passAt (takes_of rfl rfl rfl rfl) σ) rfl (da_cons (d_var (pv 0)) da_nil))) (pg_tup rfl (pgs_cons (pg_name (i := 4) sc_l_meet.nd rfl (Or.inl rfl)) (pgs_cons (pg_name (i := 5) sc_l_meet.nd rfl (Or.inl rfl)) (pgs_cons (pg_name (i := 6) sc_l_meet.nd rfl (Or.inl rfl)) pgs_nil)))))) (ds_cons (ds_asg (go_tup (gos_cons (go_name 7) (gos_cons (go_name 8) (gos_cons (go_name 9) gos_nil)))) (ps_asg (d_call (pe_clQ (E := fun _ => E) (c_l_bar T) hr hg (fun σ => passAt (takes_of rfl rfl rfl rfl) σ) rfl (da_cons (d_var (pv 1)) da_nil))) (pg_tup rfl (pgs_cons (pg_name (i := 7) sc_l_meet.nd rfl (Or.inl rfl)) (pgs_cons (pg_name (i := 8) sc_l_meet.nd rfl (Or.inl rfl)) (pgs_cons (pg_name (i := 9) sc_l_meet.nd rfl (Or.inl rfl)) pgs_nil)))))) (ds_cons (ds_set (ps_set (i := 2) sc_l_meet.nd rfl (Or.inl rfl) (d_op (pe_op op_sub (d_op (pe_op op_mulX (d_var (pv 4)) (d_var (pv 8))) od_int) (d_op (pe_op op_mulX (d_var (pv 7)) (d_var (pv 5))) od_int)) od_int0))) (ds_cons (ds_set (ps_set (i := 3) sc_l_meet.nd rfl (Or.inl rfl) (d_if (pe_ifExp (dt_cmp (pt_cmpR op_gt (d_var (pv 2)) d_int (nomark _)) cd_int) d_int (d_data (pd_neg pd_int)))))) (ds_one (ds_ret (ps_ret (d_if (pe_ifExp (dt_cmp (pt_cmpR (op_neG hr) (d_var (pv 2)) d_int (nomark _)) cd_ne) (d_lst (da_cons (d_tup (da_cons (d_tup (da_cons (d_op (pe_op op_mulX (d_var (pv 3)) (d_op (pe_op op_sub (d_op (pe_op op_mulX (d_var (pv 6)) (d_var (pv 8))) od_int) (d_op (pe_op op_mulX (d_var (pv 9)) (d_var (pv 5))) od_int)) od_int0)) od_int) (da_cons d_int (da_cons d_int (da_cons (d_op (pe_op op_mulX (d_var (pv 3)) (d_var (pv 2))) od_int) da_nil))))) (da_cons (d_tup (da_cons (d_op (pe_op op_mulX (d_var (pv 3)) (d_op (pe_op op_sub (d_op (pe_op op_mulX (d_var (pv 4)) (d_var (pv 9))) od_int) (d_op (pe_op op_mulX (d_var (pv 7)) (d_var (pv 6))) od_int)) od_int0)) od_int) (da_cons d_int (da_cons d_int (da_cons (d_op (pe_op op_mulX (d_var (pv 3)) (d_var (pv 2))) od_int) da_nil))))) da_nil))) da_nil)) (d_data (pd_lst pda_nil))))))))))) ds_nil)) (ds_cons (ds_if (ps_if (dt_cmp (pt_cmpR (op_eqG hr) (d_nth (pe_ix ix_seq (d_var (pv 0)) pe_int (fun _ _ => rfl))) d_str (nomark _)) cd_eq) (ds_one (ds_ret (ps_ret (d_call (pe_clQ (E := fun _ => E) (c_l_chord T) hr hg (fun σ => passAt (takes_of rfl rfl rfl rfl) σ) rfl (da_cons (d_call (pe_clQ (E := fun _ => E) (c_l_bar T) hr hg (fun σ => passAt (takes_of rfl rfl rfl rfl) σ) rfl (da_cons (d_var (pv 0)) da_nil))) (da_cons (d_call (pe_clQ (E := fun _ => E) (c_l_ring T) hr hg (fun σ => passAt (takes_of rfl rfl rfl rfl) σ) rfl (da_cons (d_var (pv 1)) da_nil))) da_nil))))))) ds_nil)) (ds_cons (ds_if (ps_if (dt_cmp (pt_cmpR (op_eqG hr) (d_nth (pe_ix ix_seq (d_var (pv 1)) pe_int (fun _ _ => rfl))) d_str (nomark _)) cd_eq) (ds_one (ds_ret (ps_ret (d_call (pe_clQ (E := fun _ => E) (c_l_chord T) hr hg (fun σ => passAt (takes_of rfl rfl rfl rfl) σ) rfl (da_cons (d_call (pe_clQ (E := fun _ => E) (c_l_bar T) hr hg (fun σ => passAt (takes_of rfl rfl rfl rfl) σ) rfl (da_cons (d_var (pv 1)) da_nil))) (da_cons (d_call (pe_clQ (E := fun _ => E) (c_l_ring T) hr hg (fun σ => passAt (takes_of rfl rfl rfl rfl) σ) rfl (da_cons (d_var (pv 0)) da_nil))) da_nil))))))) ds_nil)) (ds_cons (ds_asg (go_tup (gos_cons (go_name 10) (gos_cons (go_name 11) (gos_cons (go_name 12) (gos_cons (go_name 13) gos_nil))))) (ps_asg (d_call (pe_clQ (E := fun _ => E) (c_l_ring T) hr hg (fun σ => passAt (takes_of rfl rfl rfl rfl) σ) rfl (da_cons (d_var (pv 0)) da_nil))) (pg_tup rfl (pgs_cons (pg_name (i := 10) sc_l_meet.nd rfl (Or.inl rfl)) (pgs_cons (pg_name (i := 11) sc_l_meet.nd rfl (Or.inl rfl)) (pgs_cons (pg_name (i := 12) sc_l_meet.nd rfl (Or.inl rfl)) (pgs_cons (pg_name (i := 13) sc_l_meet.nd rfl (Or.inl rfl)) pgs_nil))))))) (ds_cons (ds_asg (go_tup (gos_cons (go_name 7) (gos_cons (go_name 8) (gos_cons (go_name 9) (gos_cons (go_name 14) gos_nil))))) (ps_asg (d_call (pe_clQ (E := fun _ => E) (c_l_ring T) hr hg (fun σ => passAt (takes_of rfl rfl rfl rfl) σ) rfl (da_cons (d_var (pv 1)) da_nil))) (pg_tup rfl (pgs_cons (pg_name (i := 7) sc_l_meet.nd rfl (Or.inl rfl)) (pgs_cons (pg_name (i := 8) sc_l_meet.nd rfl (Or.inl rfl)) (pgs_cons (pg_name (i := 9) sc_l_meet.nd rfl (Or.inl rfl)) (pgs_cons (pg_name (i := 14) sc_l_meet.nd rfl (Or.inl rfl)) pgs_nil))))))) (ds_cons (ds_par (ps_par (i := 4) (j := 5) rfl sc_l_meet.nd rfl rfl (by decide) rfl rfl (da_cons (d_op (pe_op op_mulX (d_op (pe_op op_mulX (d_op (pe_op op_mulX d_int (d_op (pe_op op_sub (d_op (pe_op op_mulX (d_var (pv 7)) (d_var (pv 13))) od_int) (d_op (pe_op op_mulX (d_var (pv 10)) (d_var (pv 14))) od_int)) od_int0)) od_int) (d_var (pv 13))) od_int) (d_var (pv 14))) od_int) (da_cons (d_op (pe_op op_mulX (d_op (pe_op op_mulX (d_op (pe_op op_mulX d_int (d_op (pe_op op_sub (d_op (pe_op op_mulX (d_var (pv 8)) (d_var (pv 13))) od_int) (d_op (pe_op op_mulX (d_var (pv 11)) (d_var (pv 14))) od_int)) od_int0)) od_int) (d_var (pv 13))) od_int) (d_var (pv 14))) od_int) da_nil)) rfl)) (ds_cons (ds_set (ps_set (i := 6) sc_l_meet.nd rfl (Or.inl rfl) (d_op (pe_op op_sub (d_op (pe_op op_mulX (d_op (pe_op op_mulX (d_op (pe_op op_sub (d_op (pe_op op_addG (d_op (pe_op op_mulX (d_var (pv 7)) (d_var (pv 7))) od_int) (d_op (pe_op op_mulX (d_var (pv 8)) (d_var (pv 8))) od_int)) od_addG) (d_var (pv 9))) od_int0) (d_var (pv 13))) od_int) (d_var (pv 13))) od_int) (d_op (pe_op op_mulX (d_op (pe_op op_mulX (d_op (pe_op op_sub (d_op (pe_op op_addG (d_op (pe_op op_mulX (d_var (pv 10)) (d_var (pv 10))) od_int) (d_op (pe_op op_mulX (d_var (pv 11)) (d_var (pv 11))) od_int)) od_addG) (d_var (pv 12))) od_int0) (d_var (pv 14))) od_int) (d_var (pv 14))) od_int)) od_int0))) (ds_one (ds_ret (ps_ret (d_if (pe_ifExp (PW.pt (dw_or (pw_or (dt_cmp (pt_cmpR (op_neG hr) (d_var (pv 4)) d_int (nomark _)) cd_ne) (pw_or1 (dt_cmp (pt_cmpR (op_neG hr) (d_var (pv 5)) d_int (nomark _)) cd_ne))))) (d_call (pe_clQ (E := fun _ => E) (c_l_chord T) hr hg (fun σ => passAt (takes_of rfl rfl rfl rfl) σ) rfl (da_cons (d_tup (da_cons (d_var (pv 4)) (da_cons (d_var (pv 5)) (da_cons (d_var (pv 6)) da_nil)))) (da_cons (d_tup (da_cons (d_var (pv 10)) (da_cons (d_var (pv 11)) (da_cons (d_var (pv 12)) (da_cons (d_var (pv 13)) da_nil))))) da_nil)))) (d_data (pd_lst pda_nil))))))))))))))
def b_l_small : TSD := (sSeq (sIf (dCmp fGt (dCall t_l_draw (dConsW 0 (dCons (dC (.int 6)) dNil))) (dC (.int 0))) (sRet (dTup (dCons (dOp fIx (dC (.tuple [(.int 0), (.int 1), (.int (-1)), (.int 2), (.int 1), (.int 0), (.int (-2)), (.int 3)])) (dCall t_l_draw (dConsW 0 (dCons (dC (.int 8)) dNil)))) (dCons (dC (.int 1)) dNil)))) sNx) (sRet (dCall t_l_lean (dCons (dOp fSub (dCall t_l_draw (dConsW 0 (dCons (dC (.int 13)) dNil))) (dC (.int 6))) (dCons (dOp fAddG (dC (.int 2)) (dCall t_l_draw (dConsW 0 (dCons (dC (.int 3)) dNil)))) dNil)))))
def t_l_small : TF := tfOf N_l_small b_l_small
theorem c_l_small (T : Top K mg) : Cq true (L2.CX P w) P w K mg base 3 "_law_small" (spF ⟨base, K, ⟨false, Tz⟩⟩ mg 1 t_l_small) := by
  exact Lw.Dn.dataQ T.d_l_small sc_l_small fun f cdv A outer s H E hr hg => (ds_cons (ds_if (ps_if (dt_cmp (pt_cmpR op_gt (d_call (pe_clQ (E := fun _ => E) ((c_l_drawD T).cq) hr hg (fun σ => passAt (takes_of rfl rfl rfl rfl) σ) rfl (da_well (pv 0) (da_cons d_int da_nil)))) d_int (nomark _)) cd_int) (ds_one (ds_ret (ps_ret (d_tup (da_cons (d_op (pe_ix ix_seq (d_data (pd_tup (pda_cons pd_int (pda_cons pd_int (pda_cons (pd_neg pd_int) (pda_cons pd_int (pda_cons pd_int (pda_cons pd_int (pda_cons (pd_neg pd_int) (pda_cons pd_int pda_nil)))))))))) (d_call (pe_clQ (E := fun _ => E) ((c_l_drawD T).cq) hr hg (fun σ => passAt (takes_of rfl rfl rfl rfl) σ) rfl (da_well (pv 0) (da_cons d_int da_nil)))) (fun _ _ => rfl)) od_ix) (da_cons d_int da_nil)))))) ds_nil)) (ds_one (ds_ret (ps_ret (d_call (pe_clQ (E := fun _ => E) (c_l_lean T) hr hg (fun σ => passAt (takes_of rfl rfl rfl rfl) σ) rfl (da_cons (d_op (pe_op op_sub (d_call (pe_clQ (E := fun _ => E) ((c_l_drawD T).cq) hr hg (fun σ => passAt (takes_of rfl rfl rfl rfl) σ) rfl (da_well (pv 0) (da_cons d_int da_nil)))) d_int) od_int0) (da_cons (d_op (pe_op op_addG d_int (d_call (pe_clQ (E := fun _ => E) ((c_l_drawD T).cq) hr hg (fun σ => passAt (takes_of rfl rfl rfl rfl) σ) rfl (da_well (pv 0) (da_cons d_int da_nil))))) od_addG) da_nil))))))))
def b_l_size : TSD := (sSeq (sIf (dCmp fGt (dCall t_l_draw (dConsW 0 (dCons (dC (.int 4)) dNil))) (dC (.int 0))) (sRet (dCall t_l_pick (dConsW 0 (dCons (dC (.tuple [(.tuple [(.int 1), (.int 1)]), (.tuple [(.int 4), (.int 1)]), (.tuple [(.int 1), (.int 4)]), (.tuple [(.int 1), (.int 1)]), (.tuple [(.int 9), (.int 1)]), (.tuple [(.int 4), (.int 1)]), (.tuple [(.int 9), (.int 4)]), (.tuple [(.int 25), (.int 1)])])) dNil)))) sNx) (sRet (dCall t_l_lean (dCons (dOp fAddG (dC (.int 1)) (dCall t_l_draw (dConsW 0 (dCons (dC (.int 12)) dNil)))) (dCons (dOp fAddG (dC (.int 1)) (dCall t_l_draw (dConsW 0 (dCons (dC (.int 4)) dNil)))) dNil)))))
def t_l_size : TF := tfOf N_l_size b_l_size
theorem c_l_size (T : Top K mg) : Cq true (L2.CX P w) P w K mg base 3 "_law_size" (spF ⟨base, K, ⟨false, Tz⟩⟩ mg 1 t_l_size) := by
  exact Lw.Dn.dataQ T.d_l_size sc_l_size fun f cdv A outer s H E hr hg => (ds_cons (ds_if (ps_if (dt_cmp (pt_cmpR op_gt (d_call (pe_clQ (E := fun _ => E) ((c_l_drawD T).cq) hr hg (fun σ => passAt (takes_of rfl rfl rfl rfl) σ) rfl (da_well (pv 0) (da_cons d_int da_nil)))) d_int (nomark _)) cd_int) (ds_one (ds_ret (ps_ret (d_call (pe_clQ (E := fun _ => E) (c_l_pick T) hr hg (fun σ => passAt (takes_of rfl rfl rfl rfl) σ) rfl (da_well (pv 0) (da_cons (d_data (pd_tup (pda_cons (pd_tup (pda_cons pd_int (pda_cons pd_int pda_nil))) (pda_cons (pd_tup (pda_cons pd_int (pda_cons pd_int pda_nil))) (pda_cons (pd_tup (pda_cons pd_int (pda_cons pd_int pda_nil))) (pda_cons (pd_tup (pda_cons pd_int (pda_cons pd_int pda_nil))) (pda_cons (pd_tup (pda_cons pd_int (pda_cons pd_int pda_nil))) (pda_cons (pd_tup (pda_cons pd_int (pda_cons pd_int pda_nil))) (pda_cons (pd_tup (pda_cons pd_int (pda_cons pd_int pda_nil))) (pda_cons (pd_tup (pda_cons pd_int (pda_cons pd_int pda_nil))) pda_nil)))))))))) da_nil))))))) ds_nil)) (ds_one (ds_ret (ps_ret (d_call (pe_clQ (E := fun _ => E) (c_l_lean T) hr hg (fun σ => passAt (takes_of rfl rfl rfl rfl) σ) rfl (da_cons (d_op (pe_op op_addG d_int (d_call (pe_clQ (E := fun _ => E) ((c_l_drawD T).cq) hr hg (fun σ => passAt (takes_of rfl rfl rfl rfl) σ) rfl (da_well (pv 0) (da_cons d_int da_nil))))) od_addG) (da_cons (d_op (pe_op op_addG d_int (d_call (pe_clQ (E := fun _ => E) ((c_l_drawD T).cq) hr hg (fun σ => passAt (takes_of rfl rfl rfl rfl) σ) rfl (da_well (pv 0) (da_cons d_int da_nil))))) od_addG) da_nil))))))))
def b_p_add : TSD := (sSeq (sAsg (dCall t_p_over_one_root (dCons (dV 0) (dCons (dV 1) dNil))) (gdT 7 (gdCons (gdN 2) (gdCons (gdN 3) (gdCons (gdN 4) (gdCons (gdN 5) (gdCons (gdN 6) (gdCons (gdN 7) (gdCons (gdN 8) gdNil))))))))) (sRet (dCall t_p_number_of (dCons (dOp fAddG (dOp fMul (dV 2) (dV 7)) (dOp fMul (dV 5) (dV 4))) (dCons (dOp fAddG (dOp fMul (dV 3) (dV 7)) (dOp fMul (dV 6) (dV 4))) (dCons (dV 8) (dCons (dOp fMul (dV 4) (dV 7)) dNil)))))))
def t_p_add : TF := tfOf N_p_add b_p_add
theorem c_p_add {g : Bool} (T : Top K mg) : Cq g (L2.CX P w) P w K mg base 4 "add" (spF ⟨base, K, ⟨false, Tz⟩⟩ mg 2 t_p_add) := by
  exact Lw.Dn.dataQ T.d_p_add sc_p_add fun f cdv A outer s H E hr hg => (ds_cons (ds_asg (go_tup (gos_cons (go_name 2) (gos_cons (go_name 3) (gos_cons (go_name 4) (gos_cons (go_name 5) (gos_cons (go_name 6) (gos_cons (go_name 7) (gos_cons (go_name 8) gos_nil)))))))) (ps_asg (d_call (pe_clQ (E := fun _ => E) (c_p_over_one_root T) hr hg (fun σ => passAt (takes_of rfl rfl rfl rfl) σ) rfl (da_cons (d_var (pv 0)) (da_cons (d_var (pv 1)) da_nil)))) (pg_tup rfl (pgs_cons (pg_name (i := 2) sc_p_add.nd rfl (Or.inl rfl)) (pgs_cons (pg_name (i := 3) sc_p_add.nd rfl (Or.inl rfl)) (pgs_cons (pg_name (i := 4) sc_p_add.nd rfl (Or.inl rfl)) (pgs_cons (pg_name (i := 5) sc_p_add.nd rfl (Or.inl rfl)) (pgs_cons (pg_name (i := 6) sc_p_add.nd rfl (Or.inl rfl)) (pgs_cons (pg_name (i := 7) sc_p_add.nd rfl (Or.inl rfl)) (pgs_cons (pg_name (i := 8) sc_p_add.nd rfl (Or.inl rfl)) pgs_nil)))))))))) (ds_one (ds_ret (ps_ret (d_call (pe_clQ (E := fun _ => E) (c_p_number_of T) hr hg (fun σ => passAt (takes_of rfl rfl rfl rfl) σ) rfl (da_cons (d_op (pe_op op_addG (d_op (pe_op op_mulX (d_var (pv 2)) (d_var (pv 7))) od_int) (d_op (pe_op op_mulX (d_var (pv 5)) (d_var (pv 4))) od_int)) od_addG) (da_cons (d_op (pe_op op_addG (d_op (pe_op op_mulX (d_var (pv 3)) (d_var (pv 7))) od_int) (d_op (pe_op op_mulX (d_var (pv 6)) (d_var (pv 4))) od_int)) od_addG) (da_cons (d_var (pv 8)) (da_cons (d_op (pe_op op_mulX (d_var (pv 4)) (d_var (pv 7))) od_int) da_nil))))))))))
def b_p_multiply : TSD := (sSeq (sAsg (dCall t_p_over_one_root (dCons (dV 0) (dCons (dV 1) dNil))) (gdT 7 (gdCons (gdN 2) (gdCons (gdN 3) (gdCons (gdN 4) (gdCons (gdN 5) (gdCons (gdN 6) (gdCons (gdN 7) (gdCons (gdN 8) gdNil))))))))) (sRet (dCall t_p_number_of (dCons (dOp fAddG (dOp fMul (dV 2) (dV 5)) (dOp fMul (dOp fMul (dV 3) (dV 6)) (dV 8))) (dCons (dOp fAddG (dOp fMul (dV 2) (dV 6)) (dOp fMul (dV 3) (dV 5))) (dCons (dV 8) (dCons (dOp fMul (dV 4) (dV 7)) dNil)))))))
def t_p_multiply : TF := tfOf N_p_multiply b_p_multiply
theorem c_p_multiply {g : Bool} (T : Top K mg) : Cq g (L2.CX P w) P w K mg base 4 "multiply" (spF ⟨base, K, ⟨false, Tz⟩⟩ mg 2 t_p_multiply) := by
  exact Lw.Dn.dataQ T.d_p_multiply sc_p_multiply fun f cdv A outer s H E hr hg => (ds_cons (ds_asg (go_tup (gos_cons (go_name 2) (gos_cons (go_name 3) (gos_cons (go_name 4) (gos_cons (go_name 5) (gos_cons (go_name 6) (gos_cons (go_name 7) (gos_cons (go_name 8) gos_nil)))))))) (ps_asg (d_call (pe_clQ (E := fun _ => E) (c_p_over_one_root T) hr hg (fun σ => passAt (takes_of rfl rfl rfl rfl) σ) rfl (da_cons (d_var (pv 0)) (da_cons (d_var (pv 1)) da_nil)))) (pg_tup rfl (pgs_cons (pg_name (i := 2) sc_p_multiply.nd rfl (Or.inl rfl)) (pgs_cons (pg_name (i := 3) sc_p_multiply.nd rfl (Or.inl rfl)) (pgs_cons (pg_name (i := 4) sc_p_multiply.nd rfl (Or.inl rfl)) (pgs_cons (pg_name (i := 5) sc_p_multiply.nd rfl (Or.inl rfl)) (pgs_cons (pg_name (i := 6) sc_p_multiply.nd rfl (Or.inl rfl)) (pgs_cons (pg_name (i := 7) sc_p_multiply.nd rfl (Or.inl rfl)) (pgs_cons (pg_name (i := 8) sc_p_multiply.nd rfl (Or.inl rfl)) pgs_nil)))))))))) (ds_one (ds_ret (ps_ret (d_call (pe_clQ (E := fun _ => E) (c_p_number_of T) hr hg (fun σ => passAt (takes_of rfl rfl rfl rfl) σ) rfl (da_cons (d_op (pe_op op_addG (d_op (pe_op op_mulX (d_var (pv 2)) (d_var (pv 5))) od_int) (d_op (pe_op op_mulX (d_op (pe_op op_mulX (d_var (pv 3)) (d_var (pv 6))) od_int) (d_var (pv 8))) od_int)) od_addG) (da_cons (d_op (pe_op op_addG (d_op (pe_op op_mulX (d_var (pv 2)) (d_var (pv 6))) od_int) (d_op (pe_op op_mulX (d_var (pv 3)) (d_var (pv 5))) od_int)) od_addG) (da_cons (d_var (pv 8)) (da_cons (d_op (pe_op op_mulX (d_var (pv 4)) (d_var (pv 7))) od_int) da_nil))))))))))
def b_p_is_place : TSD := (sSeq (sIf (dOr (dNot (dTst (dUn (fun d R => R (.bool (isTup d))) (dV 0)))) (dCmp fNe (dCB fLen (dCons (dV 0) dNil)) (dC (.int 2)))) (sRet (dC (.bool false))) sNx) (sRet (dAndV (dCall t_p_is_number (dCons (dUn (fNth 0) (dV 0)) dNil)) (dAndV (dCall t_p_is_number (dCons (dUn (fNth 1) (dV 0)) dNil)) (dCall t_p_have_one_field (dCons (dUn (fNth 0) (dV 0)) (dCons (dUn (fNth 1) (dV 0)) dNil)))))))
def t_p_is_place : TF := tfOf N_p_is_place b_p_is_place
theorem c_p_is_place {g : Bool} (T : Top K mg) : Cq g (L2.CX P w) P w K mg base 4 "is_place" (spF ⟨base, K, ⟨false, Tz⟩⟩ mg 1 t_p_is_place) := by
  exact Lw.Dn.dataQ T.d_p_is_place sc_p_is_place fun f cdv A outer s H E hr hg => (ds_cons (ds_if (ps_if (PW.pt (dw_or (pw_or (dt_not (pt_not (dt_val (pt_truth (d_isi (pe_callB (Ld.call_isD kit_tup) rfl T.z_isinstance (by decide +kernel) (pa_cons (d_var (pv 0)) (pa_cons (pe_bltn (v := .ty "tuple") rfl T.z_tuple (by decide +kernel) rfl) pa_nil)))) (by intro _; rfl))))) (pw_or1 (dt_cmp (pt_cmpR (op_neG hr) (d_cb (pe_callB call_len rfl T.z_len (by decide +kernel) (da_cons (d_var (pv 0)) da_nil)) bd_len) d_int (nomark _)) cd_ne))))) (ds_one (ds_ret (ps_ret d_bl))) ds_nil)) (ds_one (ds_ret (ps_ret (d_andV (pe_andT (d_call (pe_clQ (E := fun _ => E) (c_p_is_number T) hr hg (fun σ => passAt (takes_of rfl rfl rfl rfl) σ) rfl (da_cons (d_nth (pe_ix ix_seq (d_var (pv 0)) pe_int (fun _ _ => rfl))) da_nil))) (d_andV (pe_andT (d_call (pe_clQ (E := fun _ => E) (c_p_is_number T) hr hg (fun σ => passAt (takes_of rfl rfl rfl rfl) σ) rfl (da_cons (d_nth (pe_ix ix_seq (d_var (pv 0)) pe_int (fun _ _ => rfl))) da_nil))) (pe_one (d_call (pe_clQ (E := fun _ => E) (c_p_have_one_field T) hr hg (fun σ => passAt (takes_of rfl rfl rfl rfl) σ) rfl (da_cons (d_nth (pe_ix ix_seq (d_var (pv 0)) pe_int (fun _ _ => rfl))) (da_cons (d_nth (pe_ix ix_seq (d_var (pv 0)) pe_int (fun _ _ => rfl))) da_nil)))))))))))))
end
end My

set_option maxHeartbeats 4000000
namespace My
open PySem L2 Ld
open Lw hiding Dv DvAll FreshB tData tDatas pd_int pd_bl pd_non pd_str pd_neg pd_pow pda_nil pda_cons pd_tup pd_lst pd_dct dv_cut dv_cat tup_at rRepr call_repr rIsD call_isD
section
variable {P : Program} {w : World} {K : PySem.W.Frag} {mg : Str → Option Value} {base : Heap} {Tz : List (Addr × Str)}
def b_p_check_curve : TSD := (sIf (dNot (dTst (dCall t_p_is_curve (dCons (dV 0) dNil)))) (sRaise "InvalidCurve" "given" (dCons (dV 0) dNil)) sNx)
def t_p_check_curve : TF := tfOf N_p_check_curve b_p_check_curve
theorem c_p_check_curve {g : Bool} (T : Top K mg) : Cq g (L2.CX P w) P w K mg base 4 "check_curve" (spF ⟨base, K, ⟨false, Tz⟩⟩ mg 1 t_p_check_curve) := by
  obtain ⟨C_InvalidCurve, fI_InvalidCurve, fd_InvalidCurve, ec_InvalidCurve⟩ := T.e_InvalidCurve
  exact Lw.Dn.dataQ T.d_p_check_curve sc_p_check_curve fun f cdv A outer s H E hr hg => (ds_one (ds_if (ps_if (dt_not (pt_not (dt_val (pt_truth (d_call (pe_clQ (E := fun _ => E) (c_p_is_curve T) hr hg (fun σ => passAt (takes_of rfl rfl rfl rfl) σ) rfl (da_cons (d_var (pv 0)) da_nil))) (by intro _; rfl))))) (ds_one (ds_raise ec_InvalidCurve (ps_raise (W := fun cls d _ H => E cls d H) rfl (takes_of rfl rfl rfl rfl) (pmk1 ec_InvalidCurve (i_InvalidCurve ec_InvalidCurve) hr rfl (da_cons (d_var (pv 0)) da_nil))))) ds_nil)))
def b_l_place : TSD := (sRet (dTup (dCons (dCall t_l_formed (dCons (dUn (fNth 0) (dV 0)) dNil)) (dCons (dCall t_l_formed (dCons (dUn (fNth 1) (dV 0)) dNil)) dNil))))
def t_l_place : TF := tfOf N_l_place b_l_place
theorem c_l_place {g : Bool} (T : Top K mg) : Cq g (L2.CX P w) P w K mg base 4 "_law_place" (spF ⟨base, K, ⟨false, Tz⟩⟩ mg 1 t_l_place) := by
  exact Lw.Dn.dataQ T.d_l_place sc_l_place fun f cdv A outer s H E hr hg => (ds_one (ds_ret (ps_ret (d_tup (da_cons (d_call (pe_clQ (E := fun _ => E) (c_l_formed T) hr hg (fun σ => passAt (takes_of rfl rfl rfl rfl) σ) rfl (da_cons (d_nth (pe_ix ix_seq (d_var (pv 0)) pe_int (fun _ _ => rfl))) da_nil))) (da_cons (d_call (pe_clQ (E := fun _ => E) (c_l_formed T) hr hg (fun σ => passAt (takes_of rfl rfl rfl rfl) σ) rfl (da_cons (d_nth (pe_ix ix_seq (d_var (pv 0)) pe_int (fun _ _ => rfl))) da_nil))) da_nil))))))
def b_l_point : TSD := (sSeq (sSet 1 (dCall t_l_small (dConsW 0 dNil))) (sRet (dTup (dCons (dV 1) (dCons (dCall t_l_small (dConsW 0 dNil)) dNil)))))
def t_l_point : TF := tfOf N_l_point b_l_point
theorem c_l_point (T : Top K mg) : Cq true (L2.CX P w) P w K mg base 4 "_law_point" (spF ⟨base, K, ⟨false, Tz⟩⟩ mg 1 t_l_point) := by
  exact Lw.Dn.dataQ T.d_l_point sc_l_point fun f cdv A outer s H E hr hg => (ds_cons (ds_set (ps_set (i := 1) sc_l_point.nd rfl (Or.inl rfl) (d_call (pe_clQ (E := fun _ => E) (c_l_small T) hr hg (fun σ => passAt (takes_of rfl rfl rfl rfl) σ) rfl (da_well (pv 0) da_nil))))) (ds_one (ds_ret (ps_ret (d_tup (da_cons (d_var (pv 1)) (da_cons (d_call (pe_clQ (E := fun _ => E) (c_l_small T) hr hg (fun σ => passAt (takes_of rfl rfl rfl rfl) σ) rfl (da_well (pv 0) da_nil))) da_nil)))))))
def b_l_line : TSD := (sSeq (sSet 1 (dC (.tuple [(.tuple [(.int 1), (.int 0)]), (.tuple [(.int 0), (.int 1)]), (.tuple [(.int 1), (.int 1)]), (.tuple [(.int 1), (.int (-1))]), (.tuple [(.int 1), (.int 2)]), (.tuple [(.int 2), (.int (-1))]), (.tuple [(.int (-1)), (.int 0)]), (.tuple [(.int 0), (.int (-1))]), (.tuple [(.int 3), (.int 4)]), (.tuple [(.int (-1)), (.int (-1))]), (.tuple [(.int 1), (.int 0)])]))) (sSeq (sAsg (dCall t_l_pick (dConsW 0 (dCons (dV 1) dNil))) (gdT 2 (gdCons (gdN 2) (gdCons (gdN 3) gdNil)))) (sSeq (sSet 4 (dIf (dCmp fGt (dCall t_l_draw (dConsW 0 (dCons (dC (.int 5)) dNil))) (dC (.int 0))) (dC (.tuple [(.int 1), (.int 1)])) (dCall t_l_pick (dConsW 0 (dCons (dC (.tuple [(.tuple [(.int 2), (.int 1)]), (.tuple [(.int 1), (.int 2)]), (.tuple [(.int (-3)), (.int 1)]), (.tuple [(.int 2), (.int 3)])])) dNil))))) (sRet (dTup (dCons (dC (.str "line")) (dCons (dCall t_l_mul (dCons (dV 4) (dCons (dTup (dCons (dV 2) (dCons (dC (.int 1)) dNil))) dNil))) (dCons (dCall t_l_mul (dCons (dV 4) (dCons (dTup (dCons (dV 3) (dCons (dC (.int 1)) dNil))) dNil))) (dCons (dCall t_l_small (dConsW 0 dNil)) dNil)))))))))
def t_l_line : TF := tfOf N_l_line b_l_line
theorem c_l_line (T : Top K mg) : Cq true (L2.CX P w) P w K mg base 4 "_law_line" (spF ⟨base, K, ⟨false, Tz⟩⟩ mg 1 t_l_line) := by
  exact Lw.Dn.dataQ T.d_l_line sc_l_line fun f cdv A outer s H E hr hg => (ds_cons (ds_set (ps_set (i := 1) sc_l_line.nd rfl (Or.inl rfl) (d_data (pd_tup (pda_cons (pd_tup (pda_cons pd_int (pda_cons pd_int pda_nil))) (pda_cons (pd_tup (pda_cons pd_int (pda_cons pd_int pda_nil))) (pda_cons (pd_tup (pda_cons pd_int (pda_cons pd_int pda_nil))) (pda_cons (pd_tup (pda_cons pd_int (pda_cons (pd_neg pd_int) pda_nil))) (pda_cons (pd_tup (pda_cons pd_int (pda_cons pd_int pda_nil))) (pda_cons (pd_tup (pda_cons pd_int (pda_cons (pd_neg pd_int) pda_nil))) (pda_cons (pd_tup (pda_cons (pd_neg pd_int) (pda_cons pd_int pda_nil))) (pda_cons (pd_tup (pda_cons pd_int (pda_cons (pd_neg pd_int) pda_nil))) (pda_cons (pd_tup (pda_cons pd_int (pda_cons pd_int pda_nil))) (pda_cons (pd_tup (pda_cons (pd_neg pd_int) (pda_cons (pd_neg pd_int) pda_nil))) (pda_cons (pd_tup (pda_cons pd_int (pda_cons pd_int pda_nil))) pda_nil))))))))))))))) (ds_cons (ds_asg (go_tup (gos_cons (go_name 2) (gos_cons (go_name 3) gos_nil))) (ps_asg (d_call (pe_clQ (E := fun _ => E) (c_l_pick T) hr hg (fun σ => passAt (takes_of rfl rfl rfl rfl) σ) rfl (da_well (pv 0) (da_cons (d_var (pv 1)) da_nil)))) (pg_tup rfl (pgs_cons (pg_name (i := 2) sc_l_line.nd rfl (Or.inl rfl)) (pgs_cons (pg_name (i := 3) sc_l_line.nd rfl (Or.inl rfl)) pgs_nil))))) (ds_cons (ds_set (ps_set (i := 4) sc_l_line.nd rfl (Or.inl rfl) (d_if (pe_ifExp (dt_cmp (pt_cmpR op_gt (d_call (pe_clQ (E := fun _ => E) ((c_l_drawD T).cq) hr hg (fun σ => passAt (takes_of rfl rfl rfl rfl) σ) rfl (da_well (pv 0) (da_cons d_int da_nil)))) d_int (nomark _)) cd_int) (d_data (pd_tup (pda_cons pd_int (pda_cons pd_int pda_nil)))) (d_call (pe_clQ (E := fun _ => E) (c_l_pick T) hr hg (fun σ => passAt (takes_of rfl rfl rfl rfl) σ) rfl (da_well (pv 0) (da_cons (d_data (pd_tup (pda_cons (pd_tup (pda_cons pd_int (pda_cons pd_int pda_nil))) (pda_cons (pd_tup (pda_cons pd_int (pda_cons pd_int pda_nil))) (pda_cons (pd_tup (pda_cons (pd_neg pd_int) (pda_cons pd_int pda_nil))) (pda_cons (pd_tup (pda_cons pd_int (pda_cons pd_int pda_nil))) pda_nil)))))) da_nil)))))))) (ds_one (ds_ret (ps_ret (d_tup (da_cons d_str (da_cons (d_call (pe_clQ (E := fun _ => E) (c_l_mul T) hr hg (fun σ => passAt (takes_of rfl rfl rfl rfl) σ) rfl (da_cons (d_var (pv 4)) (da_cons (d_tup (da_cons (d_var (pv 2)) (da_cons d_int da_nil))) da_nil)))) (da_cons (d_call (pe_clQ (E := fun _ => E) (c_l_mul T) hr hg (fun σ => passAt (takes_of rfl rfl rfl rfl) σ) rfl (da_cons (d_var (pv 4)) (da_cons (d_tup (da_cons (d_var (pv 3)) (da_cons d_int da_nil))) da_nil)))) (da_cons (d_call (pe_clQ (E := fun _ => E) (c_l_small T) hr hg (fun σ => passAt (takes_of rfl rfl rfl rfl) σ) rfl (da_well (pv 0) da_nil))) da_nil)))))))))))
def b_l_beside : TSD := (sSeq (sPar3 2 3 4 (dCons (dUn (fNth 1) (dV 1)) (dCons (dUn (fNth 2) (dV 1)) (dCons (dUn (fNth 3) (dV 1)) dNil)))) (sSeq (sSet 5 (dCall t_l_draw (dConsW 0 (dCons (dC (.int 7)) dNil)))) (sSeq (sIf (dOr (dNot (dTst (dCall t_l_is_square (dCons (dOp fMul (dUn (fNth 0) (dV 4)) (dUn (fNth 1) (dV 4))) dNil)))) (dCmp fEq (dV 5) (dC (.int 0)))) (sSeq (sIf (dCmp fEq (dCall t_l_draw (dConsW 0 (dCons (dC (.int 2)) dNil))) (dC (.int 0))) (sRet (dTup (dCons (dC (.str "circle")) (dCons (dV 2) (dCons (dV 3) (dCons (dCall t_l_mul (dCons (dV 4) (dCons (dCall t_l_pick (dConsW 0 (dCons (dC (.tuple [(.tuple [(.int 4), (.int 1)]), (.tuple [(.int 1), (.int 4)]), (.tuple [(.int 9), (.int 4)]), (.tuple [(.int 2), (.int 1)])])) dNil))) dNil))) dNil)))))) sNx) (sRet (dTup (dCons (dC (.str "circle")) (dCons (dCall t_l_add (dCons (dV 2) (dCons (dCall t_l_pick (dConsW 0 (dCons (dC (.tuple [(.tuple [(.int 1), (.int 1)]), (.tuple [(.int (-1)), (.int 1)]), (.tuple [(.int 0), (.int 1)])])) dNil))) dNil))) (dCons (dCall t_l_add (dCons (dV 3) (dCons (dC (.tuple [(.int 1), (.int 1)])) dNil))) (dCons (dV 4) dNil))))))) sNx) (sSeq (sPar 6 7 (dCons (dTup (dCons (dCall t_l_root (dCons (dUn (fNth 0) (dV 4)) dNil)) (dCons (dCall t_l_root (dCons (dUn (fNth 1) (dV 4)) dNil)) dNil))) (dCons (dCall t_l_pick (dConsW 0 (dCons (dC (.tuple [(.tuple [(.int 1), (.int 1)]), (.tuple [(.int 1), (.int 2)]), (.tuple [(.int 2), (.int 1)]), (.tuple [(.int 3), (.int 2)])])) dNil))) dNil))) (sSeq (sSet 6 (dIf (dCmp fEq (dCall t_l_draw (dConsW 0 (dCons (dC (.int 2)) dNil))) (dC (.int 0))) (dV 6) (dCall t_l_neg (dCons (dV 6) dNil)))) (sSeq (sSet 8 (dCall t_l_pick (dConsW 0 (dCons (dC (.tuple [(.tuple [(.tuple [(.int 1), (.int 1)]), (.tuple [(.int 0), (.int 1)])]), (.tuple [(.tuple [(.int 0), (.int 1)]), (.tuple [(.int 1), (.int 1)])]), (.tuple [(.tuple [(.int 1), (.int 1)]), (.tuple [(.int 0), (.int 1)])]), (.tuple [(.tuple [(.int 3), (.int 5)]), (.tuple [(.int 4), (.int 5)])]), (.tuple [(.tuple [(.int 4), (.int 5)]), (.tuple [(.int (-3)), (.int 5)])])])) dNil)))) (sSeq (sIf (dCmp fLt (dV 5) (dC (.int 4))) (sSeq (sSet 9 (dCall t_l_add (dCons (dV 6) (dCons (dIf (dCmp fGt (dV 5) (dC (.int 1))) (dV 7) (dCall t_l_neg (dCons (dV 7) dNil))) dNil)))) (sRet (dTup (dCons (dC (.str "circle")) (dCons (dCall t_l_add (dCons (dV 2) (dCons (dCall t_l_mul (dCons (dV 9) (dCons (dUn (fNth 0) (dV 8)) dNil))) dNil))) (dCons (dCall t_l_add (dCons (dV 3) (dCons (dCall t_l_mul (dCons (dV 9) (dCons (dUn (fNth 1) (dV 8)) dNil))) dNil))) (dCons (dCall t_l_mul (dCons (dV 7) (dCons (dV 7) dNil))) dNil))))))) sNx) (sSeq (sSet 9 (dCall t_l_add (dCons (dCall t_l_mul (dCons (dUn (fNth 0) (dV 8)) (dCons (dV 2) dNil))) (dCons (dCall t_l_mul (dCons (dUn (fNth 1) (dV 8)) (dCons (dV 3) dNil))) dNil)))) (sRet (dTup (dCons (dC (.str "line")) (dCons (dUn (fNth 0) (dV 8)) (dCons (dUn (fNth 1) (dV 8)) (dCons (dIf (dCmp fEq (dV 5) (dC (.int 6))) (dV 9) (dCall t_l_add (dCons (dV 9) (dCons (dV 6) dNil)))) dNil))))))))))))))
def t_l_beside : TF := tfOf N_l_beside b_l_beside
theorem c_l_beside (T : Top K mg) : Cq true (L2.CX P w) P w K mg base 4 "_law_beside" (spF ⟨base, K, ⟨false, Tz⟩⟩ mg 2 t_l_beside) := by
  exact Lw.Dn.dataQ T.d_l_beside sc_l_beside fun f cdv A outer s H E hr hg => (ds_cons (ds_par3 (ps_par3 (i := 2) (j := 3) (l := 4) rfl sc_l_beside.nd rfl rfl rfl (by decide) (by decide) (by decide) rfl rfl rfl (da_cons (d_nth (pe_ix ix_seq (d_var (pv 1)) pe_int (fun _ _ => rfl))) (da_cons (d_nth (pe_ix ix_seq (d_var (pv 1)) pe_int (fun _ _ => rfl))) (da_cons (d_nth (pe_ix ix_seq (d_var (pv 1)) pe_int (fun _ _ => rfl))) da_nil))) rfl)) (ds_cons (ds_set (ps_set (i := 5) sc_l_beside.nd rfl (Or.inl rfl) (d_call (pe_clQ (E := fun _ => E) ((c_l_drawD T).cq) hr hg (fun σ => passAt (takes_of rfl rfl rfl rfl) σ) rfl (da_well (pv 0) (da_cons d_int da_nil)))))) (ds_cons (ds_if (ps_if (PW.pt (dw_or (pw_or (dt_not (pt_not (dt_val (pt_truth (d_call (pe_clQ (E := fun _ => E) (c_l_is_square T) hr hg (fun σ => passAt (takes_of rfl rfl rfl rfl) σ) rfl (da_cons (d_op (pe_op op_mulX (d_nth (pe_ix ix_seq (d_var (pv 4)) pe_int (fun _ _ => rfl))) (d_nth (pe_ix ix_seq (d_var (pv 4)) pe_int (fun _ _ => rfl)))) od_int) da_nil))) (by intro _; rfl))))) (pw_or1 (dt_cmp (pt_cmpR (op_eqG hr) (d_var (pv 5)) d_int (nomark _)) cd_eq))))) (ds_cons (ds_if (ps_if (dt_cmp (pt_cmpR (op_eqG hr) (d_call (pe_clQ (E := fun _ => E) ((c_l_drawD T).cq) hr hg (fun σ => passAt (takes_of rfl rfl rfl rfl) σ) rfl (da_well (pv 0) (da_cons d_int da_nil)))) d_int (nomark _)) cd_eq) (ds_one (ds_ret (ps_ret (d_tup (da_cons d_str (da_cons (d_var (pv 2)) (da_cons (d_var (pv 3)) (da_cons (d_call (pe_clQ (E := fun _ => E) (c_l_mul T) hr hg (fun σ => passAt (takes_of rfl rfl rfl rfl) σ) rfl (da_cons (d_var (pv 4)) (da_cons (d_call (pe_clQ (E := fun _ => E) (c_l_pick T) hr hg (fun σ => passAt (takes_of rfl rfl rfl rfl) σ) rfl (da_well (pv 0) (da_cons (d_data (pd_tup (pda_cons (pd_tup (pda_cons pd_int (pda_cons pd_int pda_nil))) (pda_cons (pd_tup (pda_cons pd_int (pda_cons pd_int pda_nil))) (pda_cons (pd_tup (pda_cons pd_int (pda_cons pd_int pda_nil))) (pda_cons (pd_tup (pda_cons pd_int (pda_cons pd_int pda_nil))) pda_nil)))))) da_nil)))) da_nil)))) da_nil)))))))) ds_nil)) (ds_one (ds_ret (ps_ret (d_tup (da_cons d_str (da_cons (d_call (pe_clQ (E := fun _ => E) (c_l_add T) hr hg (fun σ => passAt (takes_of rfl rfl rfl rfl) σ) rfl (da_cons (d_var (pv 2)) (da_cons (d_call (pe_clQ (E := fun _ => E) (c_l_pick T) hr hg (fun σ => passAt (takes_of rfl rfl rfl rfl) σ) rfl (da_well (pv 0) (da_cons (d_data (pd_tup (pda_cons (pd_tup (pda_cons pd_int (pda_cons pd_int pda_nil))) (pda_cons (pd_tup (pda_cons (pd_neg pd_int) (pda_cons pd_int pda_nil))) (pda_cons (pd_tup (pda_cons pd_int (pda_cons pd_int pda_nil))) pda_nil))))) da_nil)))) da_nil)))) (da_cons (d_call (pe_clQ (E := fun _ => E) (c_l_add T) hr hg (fun σ => passAt (takes_of rfl rfl rfl rfl) σ) rfl (da_cons (d_var (pv 3)) (da_cons (d_data (pd_tup (pda_cons pd_int (pda_cons pd_int pda_nil)))) da_nil)))) (da_cons (d_var (pv 4)) da_nil))))))))) ds_nil)) (ds_cons (ds_par (ps_par (i := 6) (j := 7) rfl sc_l_beside.nd rfl rfl (by decide) rfl rfl (da_cons (d_tup (da_cons (d_call (pe_clQ (E := fun _ => E) (c_l_root T) hr hg (fun σ => passAt (takes_of rfl rfl rfl rfl) σ) rfl (da_cons (d_nth (pe_ix ix_seq (d_var (pv 4)) pe_int (fun _ _ => rfl))) da_nil))) (da_cons (d_call (pe_clQ (E := fun _ => E) (c_l_root T) hr hg (fun σ => passAt (takes_of rfl rfl rfl rfl) σ) rfl (da_cons (d_nth (pe_ix ix_seq (d_var (pv 4)) pe_int (fun _ _ => rfl))) da_nil))) da_nil))) (da_cons (d_call (pe_clQ (E := fun _ => E) (c_l_pick T) hr hg (fun σ => passAt (takes_of rfl rfl rfl rfl) σ) rfl (da_well (pv 0) (da_cons (d_data (pd_tup (pda_cons (pd_tup (pda_cons pd_int (pda_cons pd_int pda_nil))) (pda_cons (pd_tup (pda_cons pd_int (pda_cons pd_int pda_nil))) (pda_cons (pd_tup (pda_cons pd_int (pda_cons pd_int pda_nil))) (pda_cons (pd_tup (pda_cons pd_int (pda_cons pd_int pda_nil))) pda_nil)))))) da_nil)))) da_nil)) rfl)) (ds_cons (ds_set (ps_set (i := 6) sc_l_beside.nd rfl (Or.inl rfl) (d_if (pe_ifExp (dt_cmp (pt_cmpR (op_eqG hr) (d_call (pe_clQ (E := fun _ => E) ((c_l_drawD T).cq) hr hg (fun σ => passAt (takes_of rfl rfl rfl rfl) σ) rfl (da_well (pv 0) (da_cons d_int da_nil)))) d_int (nomark _)) cd_eq) (d_var (pv 6)) (d_call (pe_clQ (E := fun _ => E) (c_l_neg T) hr hg (fun σ => passAt (takes_of rfl rfl rfl rfl) σ) rfl (da_cons (d_var (pv 6)) da_nil))))))) (ds_cons (ds_set (ps_set (i := 8) sc_l_beside.nd rfl (Or.inl rfl) (d_call (pe_clQ (E := fun _ => E) (c_l_pick T) hr hg (fun σ => passAt (takes_of rfl rfl rfl rfl) σ) rfl (da_well (pv 0) (da_cons (d_data (pd_tup (pda_cons (pd_tup (pda_cons (pd_tup (pda_cons pd_int (pda_cons pd_int pda_nil))) (pda_cons (pd_tup (pda_cons pd_int (pda_cons pd_int pda_nil))) pda_nil))) (pda_cons (pd_tup (pda_cons (pd_tup (pda_cons pd_int (pda_cons pd_int pda_nil))) (pda_cons (pd_tup (pda_cons pd_int (pda_cons pd_int pda_nil))) pda_nil))) (pda_cons (pd_tup (pda_cons (pd_tup (pda_cons pd_int (pda_cons pd_int pda_nil))) (pda_cons (pd_tup (pda_cons pd_int (pda_cons pd_int pda_nil))) pda_nil))) (pda_cons (pd_tup (pda_cons (pd_tup (pda_cons pd_int (pda_cons pd_int pda_nil))) (pda_cons (pd_tup (pda_cons pd_int (pda_cons pd_int pda_nil))) pda_nil))) (pda_cons (pd_tup (pda_cons (pd_tup (pda_cons pd_int (pda_cons pd_int pda_nil))) (pda_cons (pd_tup (pda_cons (pd_neg pd_int) (pda_cons pd_int pda_nil))) pda_nil))) pda_nil))))))) da_nil)))))) (ds_cons (ds_if (ps_if (dt_cmp (pt_cmpR op_lt (d_var (pv 5)) d_int (nomark _)) cd_int) (ds_cons (ds_set (ps_set (i := 9) sc_l_beside.nd rfl (Or.inl rfl) (d_call (pe_clQ (E := fun _ => E) (c_l_add T) hr hg (fun σ => passAt (takes_of rfl rfl rfl rfl) σ) rfl (da_cons (d_var (pv 6)) (da_cons (d_if (pe_ifExp (dt_cmp (pt_cmpR op_gt (d_var (pv 5)) d_int (nomark _)) cd_int) (d_var (pv 7)) (d_call (pe_clQ (E := fun _ => E) (c_l_neg T) hr hg (fun σ => passAt (takes_of rfl rfl rfl rfl) σ) rfl (da_cons (d_var (pv 7)) da_nil))))) da_nil)))))) (ds_one (ds_ret (ps_ret (d_tup (da_cons d_str (da_cons (d_call (pe_clQ (E := fun _ => E) (c_l_add T) hr hg (fun σ => passAt (takes_of rfl rfl rfl rfl) σ) rfl (da_cons (d_var (pv 2)) (da_cons (d_call (pe_clQ (E := fun _ => E) (c_l_mul T) hr hg (fun σ => passAt (takes_of rfl rfl rfl rfl) σ) rfl (da_cons (d_var (pv 9)) (da_cons (d_nth (pe_ix ix_seq (d_var (pv 8)) pe_int (fun _ _ => rfl))) da_nil)))) da_nil)))) (da_cons (d_call (pe_clQ (E := fun _ => E) (c_l_add T) hr hg (fun σ => passAt (takes_of rfl rfl rfl rfl) σ) rfl (da_cons (d_var (pv 3)) (da_cons (d_call (pe_clQ (E := fun _ => E) (c_l_mul T) hr hg (fun σ => passAt (takes_of rfl rfl rfl rfl) σ) rfl (da_cons (d_var (pv 9)) (da_cons (d_nth (pe_ix ix_seq (d_var (pv 8)) pe_int (fun _ _ => rfl))) da_nil)))) da_nil)))) (da_cons (d_call (pe_clQ (E := fun _ => E) (c_l_mul T) hr hg (fun σ => passAt (takes_of rfl rfl rfl rfl) σ) rfl (da_cons (d_var (pv 7)) (da_cons (d_var (pv 7)) da_nil)))) da_nil))))))))) ds_nil)) (ds_cons (ds_set (ps_set (i := 9) sc_l_beside.nd rfl (Or.inl rfl) (d_call (pe_clQ (E := fun _ => E) (c_l_add T) hr hg (fun σ => passAt (takes_of rfl rfl rfl rfl) σ) rfl (da_cons (d_call (pe_clQ (E := fun _ => E) (c_l_mul T) hr hg (fun σ => passAt (takes_of rfl rfl rfl rfl) σ) rfl (da_cons (d_nth (pe_ix ix_seq (d_var (pv 8)) pe_int (fun _ _ => rfl))) (da_cons (d_var (pv 2)) da_nil)))) (da_cons (d_call (pe_clQ (E := fun _ => E) (c_l_mul T) hr hg (fun σ => passAt (takes_of rfl rfl rfl rfl) σ) rfl (da_cons (d_nth (pe_ix ix_seq (d_var (pv 8)) pe_int (fun _ _ => rfl))) (da_cons (d_var (pv 3)) da_nil)))) da_nil)))))) (ds_one (ds_ret (ps_ret (d_tup (da_cons d_str (da_cons (d_nth (pe_ix ix_seq (d_var (pv 8)) pe_int (fun _ _ => rfl))) (da_cons (d_nth (pe_ix ix_seq (d_var (pv 8)) pe_int (fun _ _ => rfl))) (da_cons (d_if (pe_ifExp (dt_cmp (pt_cmpR (op_eqG hr) (d_var (pv 5)) d_int (nomark _)) cd_eq) (d_var (pv 9)) (d_call (pe_clQ (E := fun _ => E) (c_l_add T) hr hg (fun σ => passAt (takes_of rfl rfl rfl rfl) σ) rfl (da_cons (d_var (pv 9)) (da_cons (d_var (pv 6)) da_nil)))))) da_nil))))))))))))))))
def b_p_subtract : TSD := (sRet (dCall t_p_add (dCons (dV 0) (dCons (dCall t_p_negative (dCons (dV 1) dNil)) dNil))))
def t_p_subtract : TF := tfOf N_p_subtract b_p_subtract
theorem c_p_subtract {g : Bool} (T : Top K mg) : Cq g (L2.CX P w) P w K mg base 5 "subtract" (spF ⟨base, K, ⟨false, Tz⟩⟩ mg 2 t_p_subtract) := by
  exact Lw.Dn.dataQ T.d_p_subtract sc_p_subtract fun f cdv A outer s H E hr hg => (ds_one (ds_ret (ps_ret (d_call (pe_clQ (E := fun _ => E) (c_p_add T) hr hg (fun σ => passAt (takes_of rfl rfl rfl rfl) σ) rfl (da_cons (d_var (pv 0)) (da_cons (d_call (pe_clQ (E := fun _ => E) (c_p_negative T) hr hg (fun σ => passAt (takes_of rfl rfl rfl rfl) σ) rfl (da_cons (d_var (pv 1)) da_nil))) da_nil)))))))
def b_p_squared : TSD := (sRet (dCall t_p_multiply (dCons (dV 0) (dCons (dV 0) dNil))))
def t_p_squared : TF := tfOf N_p_squared b_p_squared
theorem c_p_squared {g : Bool} (T : Top K mg) : Cq g (L2.CX P w) P w K mg base 5 "squared" (spF ⟨base, K, ⟨false, Tz⟩⟩ mg 1 t_p_squared) := by
  exact Lw.Dn.dataQ T.d_p_squared sc_p_squared fun f cdv A outer s H E hr hg => (ds_one (ds_ret (ps_ret (d_call (pe_clQ (E := fun _ => E) (c_p_multiply T) hr hg (fun σ => passAt (takes_of rfl rfl rfl rfl) σ) rfl (da_cons (d_var (pv 0)) (da_cons (d_var (pv 0)) da_nil)))))))
def b_p_check_place : TSD := (sIf (dNot (dTst (dCall t_p_is_place (dCons (dV 0) dNil)))) (sRaise "InvalidPlace" "given" (dCons (dV 0) dNil)) sNx)
def t_p_check_place : TF := tfOf N_p_check_place b_p_check_place
theorem c_p_check_place {g : Bool} (T : Top K mg) : Cq g (L2.CX P w) P w K mg base 5 "check_place" (spF ⟨base, K, ⟨false, Tz⟩⟩ mg 1 t_p_check_place) := by
  obtain ⟨C_InvalidPlace, fI_InvalidPlace, fd_InvalidPlace, ec_InvalidPlace⟩ := T.e_InvalidPlace
  exact Lw.Dn.dataQ T.d_p_check_place sc_p_check_place fun f cdv A outer s H E hr hg => (ds_one (ds_if (ps_if (dt_not (pt_not (dt_val (pt_truth (d_call (pe_clQ (E := fun _ => E) (c_p_is_place T) hr hg (fun σ => passAt (takes_of rfl rfl rfl rfl) σ) rfl (da_cons (d_var (pv 0)) da_nil))) (by intro _; rfl))))) (ds_one (ds_raise ec_InvalidPlace (ps_raise (W := fun cls d _ H => E cls d H) rfl (takes_of rfl rfl rfl rfl) (pmk1 ec_InvalidPlace (i_InvalidPlace ec_InvalidPlace) hr rfl (da_cons (d_var (pv 0)) da_nil))))) ds_nil)))
def b_l_disc : TSD := (sSeq (sAsg (dCall t_l_point (dConsW 0 dNil)) (gdT 2 (gdCons (gdN 1) (gdCons (gdN 2) gdNil)))) (sRet (dTup (dCons (dC (.str "circle")) (dCons (dV 1) (dCons (dV 2) (dCons (dCall t_l_size (dConsW 0 dNil)) dNil)))))))
def t_l_disc : TF := tfOf N_l_disc b_l_disc
theorem c_l_disc (T : Top K mg) : Cq true (L2.CX P w) P w K mg base 5 "_law_disc" (spF ⟨base, K, ⟨false, Tz⟩⟩ mg 1 t_l_disc) := by
  exact Lw.Dn.dataQ T.d_l_disc sc_l_disc fun f cdv A outer s H E hr hg => (ds_cons (ds_asg (go_tup (gos_cons (go_name 1) (gos_cons (go_name 2) gos_nil))) (ps_asg (d_call (pe_clQ (E := fun _ => E) (c_l_point T) hr hg (fun σ => passAt (takes_of rfl rfl rfl rfl) σ) rfl (da_well (pv 0) da_nil))) (pg_tup rfl (pgs_cons (pg_name (i := 1) sc_l_disc.nd rfl (Or.inl rfl)) (pgs_cons (pg_name (i := 2) sc_l_disc.nd rfl (Or.inl rfl)) pgs_nil))))) (ds_one (ds_ret (ps_ret (d_tup (da_cons d_str (da_cons (d_var (pv 1)) (da_cons (d_var (pv 2)) (da_cons (d_call (pe_clQ (E := fun _ => E) (c_l_size T) hr hg (fun σ => passAt (takes_of rfl rfl rfl rfl) σ) rfl (da_well (pv 0) da_nil))) da_nil)))))))))
def b_l_through : TSD := (sSeq (sAsg (dCall t_l_point (dConsW 0 dNil)) (gdT 2 (gdCons (gdN 2) (gdCons (gdN 3) gdNil)))) (sSeq (sSet 4 (dIf (dCmp fGt (dCB fLen (dCons (dV 1) dNil)) (dC (.int 1))) (dCall t_l_meet (dCons (dOp fIx (dV 1) (dC (.int (-2)))) (dCons (dOp fIx (dV 1) (dC (.int (-1)))) dNil))) (dC (.list [])))) (sSeq (sFor (iLst (dV 4)) (gdN 5) (sIf (dAnd (dCmp fEq (dUn (fNth 1) (dUn (fNth 0) (dV 5))) (dC (.int 0))) (dCmp fEq (dUn (fNth 1) (dUn (fNth 1) (dV 5))) (dC (.int 0)))) (sPar 2 3 (dCons (dCall t_l_lean (dCons (dUn (fNth 0) (dUn (fNth 0) (dV 5))) (dCons (dUn (fNth 3) (dUn (fNth 0) (dV 5))) dNil))) (dCons (dCall t_l_lean (dCons (dUn (fNth 0) (dUn (fNth 1) (dV 5))) (dCons (dUn (fNth 3) (dUn (fNth 1) (dV 5))) dNil))) dNil))) sNx)) (sSeq (sIf (dCmp fEq (dCall t_l_draw (dConsW 0 (dCons (dC (.int 2)) dNil))) (dC (.int 0))) (sSeq (sAsg (dSl (dCall t_l_line (dConsW 0 dNil)) (dPart (dC (.int 1))) (dPart (dC (.int 3)))) (gdT 2 (gdCons (gdN 6) (gdCons (gdN 7) gdNil)))) (sRet (dTup (dCons (dC (.str "line")) (dCons (dV 6) (dCons (dV 7) (dCons (dCall t_l_add (dCons (dCall t_l_mul (dCons (dV 6) (dCons (dV 2) dNil))) (dCons (dCall t_l_mul (dCons (dV 7) (dCons (dV 3) dNil))) dNil))) dNil))))))) sNx) (sSeq (sAsg (dCall t_l_point (dConsW 0 dNil)) (gdT 2 (gdCons (gdN 8) (gdCons (gdN 9) gdNil)))) (sSeq (sPar 10 11 (dCons (dCall t_l_add (dCons (dV 2) (dCons (dCall t_l_neg (dCons (dV 8) dNil)) dNil))) (dCons (dCall t_l_add (dCons (dV 3) (dCons (dCall t_l_neg (dCons (dV 9) dNil)) dNil))) dNil))) (sSeq (sSet 12 (dCall t_l_add (dCons (dCall t_l_mul (dCons (dV 10) (dCons (dV 10) dNil))) (dCons (dCall t_l_mul (dCons (dV 11) (dCons (dV 11) dNil))) dNil)))) (sRet (dTup (dCons (dC (.str "circle")) (dCons (dV 8) (dCons (dV 9) (dCons (dIf (dCmp fGt (dUn (fNth 0) (dV 12)) (dC (.int 0))) (dV 12) (dC (.tuple [(.int 1), (.int 1)]))) dNil)))))))))))))
def t_l_through : TF := tfOf N_l_through b_l_through
theorem c_l_through (T : Top K mg) : Cq true (L2.CX P w) P w K mg base 5 "_law_through" (spF ⟨base, K, ⟨false, Tz⟩⟩ mg 2 t_l_through) := by
  exact Lw.Dn.dataQ T.d_l_through sc_l_through fun f cdv A outer s H E hr hg => (ds_cons (ds_asg (go_tup (gos_cons (go_name 2) (gos_cons (go_name 3) gos_nil))) (ps_asg (d_call (pe_clQ (E := fun _ => E) (c_l_point T) hr hg (fun σ => passAt (takes_of rfl rfl rfl rfl) σ) rfl (da_well (pv 0) da_nil))) (pg_tup rfl (pgs_cons (pg_name (i := 2) sc_l_through.nd rfl (Or.inl rfl)) (pgs_cons (pg_name (i := 3) sc_l_through.nd rfl (Or.inl rfl)) pgs_nil))))) (ds_cons (ds_set (ps_set (i := 4) sc_l_through.nd rfl (Or.inl rfl) (d_if (pe_ifExp (dt_cmp (pt_cmpR op_gt (d_cb (pe_callB call_len rfl T.z_len (by decide +kernel) (da_cons (d_var (pv 1)) da_nil)) bd_len) d_int (nomark _)) cd_int) (d_call (pe_clQ (E := fun _ => E) (c_l_meet T) hr hg (fun σ => passAt (takes_of rfl rfl rfl rfl) σ) rfl (da_cons (d_op (pe_ix ix_seq (d_var (pv 1)) (d_data (pd_neg pd_int)) (fun _ _ => rfl)) od_ix) (da_cons (d_op (pe_ix ix_seq (d_var (pv 1)) (d_data (pd_neg pd_int)) (fun _ _ => rfl)) od_ix) da_nil)))) (d_data (pd_lst pda_nil)))))) (ds_cons (ds_for io_list (go_name 5) (ps_for PassesOwn.leaving rfl (pi_list (d_var (pv 4))) (pg_name (i := 5) sc_l_through.nd rfl (Or.inl rfl)) (ds_one (ds_if (ps_if (PW.pt (dw_and (pw_and (dt_cmp (pt_cmpR (op_eqG hr) (d_nth (pe_ix ix_seq (d_nth (pe_ix ix_seq (d_var (pv 5)) pe_int (fun _ _ => rfl))) pe_int (fun _ _ => rfl))) d_int (nomark _)) cd_eq) (pw_and1 (dt_cmp (pt_cmpR (op_eqG hr) (d_nth (pe_ix ix_seq (d_nth (pe_ix ix_seq (d_var (pv 5)) pe_int (fun _ _ => rfl))) pe_int (fun _ _ => rfl))) d_int (nomark _)) cd_eq))))) (ds_one (ds_par (ps_par (i := 2) (j := 3) rfl sc_l_through.nd rfl rfl (by decide) rfl rfl (da_cons (d_call (pe_clQ (E := fun _ => E) (c_l_lean T) hr hg (fun σ => passAt (takes_of rfl rfl rfl rfl) σ) rfl (da_cons (d_nth (pe_ix ix_seq (d_nth (pe_ix ix_seq (d_var (pv 5)) pe_int (fun _ _ => rfl))) pe_int (fun _ _ => rfl))) (da_cons (d_nth (pe_ix ix_seq (d_nth (pe_ix ix_seq (d_var (pv 5)) pe_int (fun _ _ => rfl))) pe_int (fun _ _ => rfl))) da_nil)))) (da_cons (d_call (pe_clQ (E := fun _ => E) (c_l_lean T) hr hg (fun σ => passAt (takes_of rfl rfl rfl rfl) σ) rfl (da_cons (d_nth (pe_ix ix_seq (d_nth (pe_ix ix_seq (d_var (pv 5)) pe_int (fun _ _ => rfl))) pe_int (fun _ _ => rfl))) (da_cons (d_nth (pe_ix ix_seq (d_nth (pe_ix ix_seq (d_var (pv 5)) pe_int (fun _ _ => rfl))) pe_int (fun _ _ => rfl))) da_nil)))) da_nil)) rfl))) ds_nil))))) (ds_cons (ds_if (ps_if (dt_cmp (pt_cmpR (op_eqG hr) (d_call (pe_clQ (E := fun _ => E) ((c_l_drawD T).cq) hr hg (fun σ => passAt (takes_of rfl rfl rfl rfl) σ) rfl (da_well (pv 0) (da_cons d_int da_nil)))) d_int (nomark _)) cd_eq) (ds_cons (ds_asg (go_tup (gos_cons (go_name 6) (gos_cons (go_name 7) gos_nil))) (ps_asg (d_sl (pe_slice sl_G (d_call (pe_clQ (E := fun _ => E) (c_l_line T) hr hg (fun σ => passAt (takes_of rfl rfl rfl rfl) σ) rfl (da_well (pv 0) da_nil))) (dp_some d_int) (dp_some d_int))) (pg_tup rfl (pgs_cons (pg_name (i := 6) sc_l_through.nd rfl (Or.inl rfl)) (pgs_cons (pg_name (i := 7) sc_l_through.nd rfl (Or.inl rfl)) pgs_nil))))) (ds_one (ds_ret (ps_ret (d_tup (da_cons d_str (da_cons (d_var (pv 6)) (da_cons (d_var (pv 7)) (da_cons (d_call (pe_clQ (E := fun _ => E) (c_l_add T) hr hg (fun σ => passAt (takes_of rfl rfl rfl rfl) σ) rfl (da_cons (d_call (pe_clQ (E := fun _ => E) (c_l_mul T) hr hg (fun σ => passAt (takes_of rfl rfl rfl rfl) σ) rfl (da_cons (d_var (pv 6)) (da_cons (d_var (pv 2)) da_nil)))) (da_cons (d_call (pe_clQ (E := fun _ => E) (c_l_mul T) hr hg (fun σ => passAt (takes_of rfl rfl rfl rfl) σ) rfl (da_cons (d_var (pv 7)) (da_cons (d_var (pv 3)) da_nil)))) da_nil)))) da_nil))))))))) ds_nil)) (ds_cons (ds_asg (go_tup (gos_cons (go_name 8) (gos_cons (go_name 9) gos_nil))) (ps_asg (d_call (pe_clQ (E := fun _ => E) (c_l_point T) hr hg (fun σ => passAt (takes_of rfl rfl rfl rfl) σ) rfl (da_well (pv 0) da_nil))) (pg_tup rfl (pgs_cons (pg_name (i := 8) sc_l_through.nd rfl (Or.inl rfl)) (pgs_cons (pg_name (i := 9) sc_l_through.nd rfl (Or.inl rfl)) pgs_nil))))) (ds_cons (ds_par (ps_par (i := 10) (j := 11) rfl sc_l_through.nd rfl rfl (by decide) rfl rfl (da_cons (d_call (pe_clQ (E := fun _ => E) (c_l_add T) hr hg (fun σ => passAt (takes_of rfl rfl rfl rfl) σ) rfl (da_cons (d_var (pv 2)) (da_cons (d_call (pe_clQ (E := fun _ => E) (c_l_neg T) hr hg (fun σ => passAt (takes_of rfl rfl rfl rfl) σ) rfl (da_cons (d_var (pv 8)) da_nil))) da_nil)))) (da_cons (d_call (pe_clQ (E := fun _ => E) (c_l_add T) hr hg (fun σ => passAt (takes_of rfl rfl rfl rfl) σ) rfl (da_cons (d_var (pv 3)) (da_cons (d_call (pe_clQ (E := fun _ => E) (c_l_neg T) hr hg (fun σ => passAt (takes_of rfl rfl rfl rfl) σ) rfl (da_cons (d_var (pv 9)) da_nil))) da_nil)))) da_nil)) rfl)) (ds_cons (ds_set (ps_set (i := 12) sc_l_through.nd rfl (Or.inl rfl) (d_call (pe_clQ (E := fun _ => E) (c_l_add T) hr hg (fun σ => passAt (takes_of rfl rfl rfl rfl) σ) rfl (da_cons (d_call (pe_clQ (E := fun _ => E) (c_l_mul T) hr hg (fun σ => passAt (takes_of rfl rfl rfl rfl) σ) rfl (da_cons (d_var (pv 10)) (da_cons (d_var (pv 10)) da_nil)))) (da_cons (d_call (pe_clQ (E := fun _ => E) (c_l_mul T) hr hg (fun σ => passAt (takes_of rfl rfl rfl rfl) σ) rfl (da_cons (d_var (pv 11)) (da_cons (d_var (pv 11)) da_nil)))) da_nil)))))) (ds_one (ds_ret (ps_ret (d_tup (da_cons d_str (da_cons (d_var (pv 8)) (da_cons (d_var (pv 9)) (da_cons (d_if (pe_ifExp (dt_cmp (pt_cmpR op_gt (d_nth (pe_ix ix_seq (d_var (pv 12)) pe_int (fun _ _ => rfl))) d_int (nomark _)) cd_int) (d_var (pv 12)) (d_data (pd_tup (pda_cons pd_int (pda_cons pd_int pda_nil)))))) da_nil)))))))))))))))
def b_p_value_at : TSD := (sSeq (sAsg (dV 0) (gdT 4 (gdCons (gdN 2) (gdCons (gdN 3) (gdCons (gdN 4) (gdCons (gdN 5) gdNil)))))) (sSeq (sIf (dCmp fEq (dV 2) (dC (.str "line"))) (sRet (dCall t_p_subtract (dCons (dCall t_p_add (dCons (dCall t_p_multiply (dCons (dV 3) (dCons (dUn (fNth 0) (dV 1)) dNil))) (dCons (dCall t_p_multiply (dCons (dV 4) (dCons (dUn (fNth 1) (dV 1)) dNil))) dNil))) (dCons (dV 5) dNil)))) sNx) (sRet (dCall t_p_subtract (dCons (dCall t_p_add (dCons (dCall t_p_squared (dCons (dCall t_p_subtract (dCons (dUn (fNth 0) (dV 1)) (dCons (dV 3) dNil))) dNil)) (dCons (dCall t_p_squared (dCons (dCall t_p_subtract (dCons (dUn (fNth 1) (dV 1)) (dCons (dV 4) dNil))) dNil)) dNil))) (dCons (dV 5) dNil))))))
def t_p_value_at : TF := tfOf N_p_value_at b_p_value_at
theorem c_p_value_at {g : Bool} (T : Top K mg) : Cq g (L2.CX P w) P w K mg base 6 "value_at" (spF ⟨base, K, ⟨false, Tz⟩⟩ mg 2 t_p_value_at) := by
  exact Lw.Dn.dataQ T.d_p_value_at sc_p_value_at fun f cdv A outer s H E hr hg => (ds_cons (ds_asg (go_tup (gos_cons (go_name 2) (gos_cons (go_name 3) (gos_cons (go_name 4) (gos_cons (go_name 5) gos_nil))))) (ps_asg (d_var (pv 0)) (pg_tup rfl (pgs_cons (pg_name (i := 2) sc_p_value_at.nd rfl (Or.inl rfl)) (pgs_cons (pg_name (i := 3) sc_p_value_at.nd rfl (Or.inl rfl)) (pgs_cons (pg_name (i := 4) sc_p_value_at.nd rfl (Or.inl rfl)) (pgs_cons (pg_name (i := 5) sc_p_value_at.nd rfl (Or.inl rfl)) pgs_nil))))))) (ds_cons (ds_if (ps_if (dt_cmp (pt_cmpR (op_eqG hr) (d_var (pv 2)) d_str (nomark _)) cd_eq) (ds_one (ds_ret (ps_ret (d_call (pe_clQ (E := fun _ => E) (c_p_subtract T) hr hg (fun σ => passAt (takes_of rfl rfl rfl rfl) σ) rfl (da_cons (d_call (pe_clQ (E := fun _ => E) (c_p_add T) hr hg (fun σ => passAt (takes_of rfl rfl rfl rfl) σ) rfl (da_cons (d_call (pe_clQ (E := fun _ => E) (c_p_multiply T) hr hg (fun σ => passAt (takes_of rfl rfl rfl rfl) σ) rfl (da_cons (d_var (pv 3)) (da_cons (d_nth (pe_ix ix_seq (d_var (pv 1)) pe_int (fun _ _ => rfl))) da_nil)))) (da_cons (d_call (pe_clQ (E := fun _ => E) (c_p_multiply T) hr hg (fun σ => passAt (takes_of rfl rfl rfl rfl) σ) rfl (da_cons (d_var (pv 4)) (da_cons (d_nth (pe_ix ix_seq (d_var (pv 1)) pe_int (fun _ _ => rfl))) da_nil)))) da_nil)))) (da_cons (d_var (pv 5)) da_nil))))))) ds_nil)) (ds_one (ds_ret (ps_ret (d_call (pe_clQ (E := fun _ => E) (c_p_subtract T) hr hg (fun σ => passAt (takes_of rfl rfl rfl rfl) σ) rfl (da_cons (d_call (pe_clQ (E := fun _ => E) (c_p_add T) hr hg (fun σ => passAt (takes_of rfl rfl rfl rfl) σ) rfl (da_cons (d_call (pe_clQ (E := fun _ => E) (c_p_squared T) hr hg (fun σ => passAt (takes_of rfl rfl rfl rfl) σ) rfl (da_cons (d_call (pe_clQ (E := fun _ => E) (c_p_subtract T) hr hg (fun σ => passAt (takes_of rfl rfl rfl rfl) σ) rfl (da_cons (d_nth (pe_ix ix_seq (d_var (pv 1)) pe_int (fun _ _ => rfl))) (da_cons (d_var (pv 3)) da_nil)))) da_nil))) (da_cons (d_call (pe_clQ (E := fun _ => E) (c_p_squared T) hr hg (fun σ => passAt (takes_of rfl rfl rfl rfl) σ) rfl (da_cons (d_call (pe_clQ (E := fun _ => E) (c_p_subtract T) hr hg (fun σ => passAt (takes_of rfl rfl rfl rfl) σ) rfl (da_cons (d_nth (pe_ix ix_seq (d_var (pv 1)) pe_int (fun _ _ => rfl))) (da_cons (d_var (pv 4)) da_nil)))) da_nil))) da_nil)))) (da_cons (d_var (pv 5)) da_nil)))))))))
def b_l_curve : TSD := (sSeq (sSet 2 (dCall t_l_draw (dConsW 0 (dCons (dC (.int 9)) dNil)))) (sSeq (sSet 3 (dLc (iLst (dV 1)) [4] (gdN 4) (dCmp fEq (dUn (fNth 0) (dV 4)) (dC (.str "circle"))) (dV 4))) (sSeq (sIf (dAnd (dCmp fLt (dV 2) (dC (.int 3))) (dCmp fNe (dV 3) (dC (.list [])))) (sRet (dCall t_l_beside (dConsW 0 (dCons (dCall t_l_pick (dConsW 0 (dCons (dV 3) dNil))) dNil)))) sNx) (sSeq (sIf (dCmp fLt (dV 2) (dC (.int 5))) (sRet (dCall t_l_through (dConsW 0 (dCons (dV 1) dNil)))) sNx) (sRet (dIf (dCmp fLt (dV 2) (dC (.int 7))) (dCall t_l_disc (dConsW 0 dNil)) (dCall t_l_line (dConsW 0 dNil))))))))
def t_l_curve : TF := tfOf N_l_curve b_l_curve
theorem c_l_curve (T : Top K mg) : Cq true (L2.CX P w) P w K mg base 6 "_law_curve" (spF ⟨base, K, ⟨false, Tz⟩⟩ mg 2 t_l_curve) := by
  exact Lw.Dn.dataQ T.d_l_curve sc_l_curve fun f cdv A outer s H E hr hg => (ds_cons (ds_set (ps_set (i := 2) sc_l_curve.nd rfl (Or.inl rfl) (d_call (pe_clQ (E := fun _ => E) ((c_l_drawD T).cq) hr hg (fun σ => passAt (takes_of rfl rfl rfl rfl) σ) rfl (da_well (pv 0) (da_cons d_int da_nil)))))) (ds_cons (ds_setLc io_list (go_name 4) (ps_setLc (i := 3) (own := [("_law_each", 4)]) (g := (gName 4)) rfl sc_l_curve.nd rfl rfl (sw_true rfl rfl rfl (by decide +kernel)) (pi_list (d_var (pv 1))) (blkOk_by (own := [("_law_each", 4)]) (N := N_l_curve) (sc := defScope s_l_curve) (by decide +kernel)) (fun _ _ _ _ _ => (pg_name (i := 4) sc_l_curve.nd rfl (Or.inl rfl))) (fun _ _ _ _ _ => lt_blk (pts_one (dt_cmp (pt_cmpR (op_eqG hr) (d_nth (pe_ix ix_seq (d_var (pv 4)) pe_int (fun _ _ => rfl))) d_str (nomark _)) cd_eq))) (fun _ _ _ _ _ => le_blk (d_var (pv 4))))) (ds_cons (ds_if (ps_if (PW.pt (dw_and (pw_and (dt_cmp (pt_cmpR op_lt (d_var (pv 2)) d_int (nomark _)) cd_int) (pw_and1 (dt_cmp (pt_cmpR (op_neG hr) (d_var (pv 3)) (d_data (pd_lst pda_nil)) (nomark _)) cd_ne))))) (ds_one (ds_ret (ps_ret (d_call (pe_clQ (E := fun _ => E) (c_l_beside T) hr hg (fun σ => passAt (takes_of rfl rfl rfl rfl) σ) rfl (da_well (pv 0) (da_cons (d_call (pe_clQ (E := fun _ => E) (c_l_pick T) hr hg (fun σ => passAt (takes_of rfl rfl rfl rfl) σ) rfl (da_well (pv 0) (da_cons (d_var (pv 3)) da_nil)))) da_nil))))))) ds_nil)) (ds_cons (ds_if (ps_if (dt_cmp (pt_cmpR op_lt (d_var (pv 2)) d_int (nomark _)) cd_int) (ds_one (ds_ret (ps_ret (d_call (pe_clQ (E := fun _ => E) (c_l_through T) hr hg (fun σ => passAt (takes_of rfl rfl rfl rfl) σ) rfl (da_well (pv 0) (da_cons (d_var (pv 1)) da_nil))))))) ds_nil)) (ds_one (ds_ret (ps_ret (d_if (pe_ifExp (dt_cmp (pt_cmpR op_lt (d_var (pv 2)) d_int (nomark _)) cd_int) (d_call (pe_clQ (E := fun _ => E) (c_l_disc T) hr hg (fun σ => passAt (takes_of rfl rfl rfl rfl) σ) rfl (da_well (pv 0) da_nil))) (d_call (pe_clQ (E := fun _ => E) (c_l_line T) hr hg (fun σ => passAt (takes_of rfl rfl rfl rfl) σ) rfl (da_well (pv 0) da_nil))))))))))))
def b_p_side_of : TSD := (sRet (dCall t_p_sign_of (dCons (dCall t_p_value_at (dCons (dV 0) (dCons (dV 1) dNil))) dNil)))
def t_p_side_of : TF := tfOf N_p_side_of b_p_side_of
theorem c_p_side_of {g : Bool} (T : Top K mg) : Cq g (L2.CX P w) P w K mg base 7 "side_of" (spF ⟨base, K, ⟨false, Tz⟩⟩ mg 2 t_p_side_of) := by
  exact Lw.Dn.dataQ T.d_p_side_of sc_p_side_of fun f cdv A outer s H E hr hg => (ds_one (ds_ret (ps_ret (d_call (pe_clQ (E := fun _ => E) (c_p_sign_of T) hr hg (fun σ => passAt (takes_of rfl rfl rfl rfl) σ) rfl (da_cons (d_call (pe_clQ (E := fun _ => E) (c_p_value_at T) hr hg (fun σ => passAt (takes_of rfl rfl rfl rfl) σ) rfl (da_cons (d_var (pv 0)) (da_cons (d_var (pv 1)) da_nil)))) da_nil))))))
def b_p_sign_at : TSD := (sSeq (sExpr (dCall t_p_check_curve (dCons (dV 0) dNil))) (sSeq (sExpr (dCall t_p_check_place (dCons (dV 1) dNil))) (sRet (dCall t_p_side_of (dCons (dV 0) (dCons (dV 1) dNil))))))
def t_p_sign_at : TF := tfOf N_p_sign_at b_p_sign_at
theorem c_p_sign_at {g : Bool} (T : Top K mg) : Cq g (L2.CX P w) P w K mg base 8 "sign_at" (spF ⟨base, K, ⟨false, Tz⟩⟩ mg 2 t_p_sign_at) := by
  exact Lw.Dn.dataQ T.d_p_sign_at sc_p_sign_at fun f cdv A outer s H E hr hg => (ds_cons (ds_expr (ps_expr (d_call (pe_clQ (E := fun _ => E) (c_p_check_curve T) hr hg (fun σ => passAt (takes_of rfl rfl rfl rfl) σ) rfl (da_cons (d_var (pv 0)) da_nil))))) (ds_cons (ds_expr (ps_expr (d_call (pe_clQ (E := fun _ => E) (c_p_check_place T) hr hg (fun σ => passAt (takes_of rfl rfl rfl rfl) σ) rfl (da_cons (d_var (pv 1)) da_nil))))) (ds_one (ds_ret (ps_ret (d_call (pe_clQ (E := fun _ => E) (c_p_side_of T) hr hg (fun σ => passAt (takes_of rfl rfl rfl rfl) σ) rfl (da_cons (d_var (pv 0)) (da_cons (d_var (pv 1)) da_nil)))))))))
end
end My

set_option maxHeartbeats 4000000
namespace My
open PySem L2 Ld
open Lw hiding Dv DvAll FreshB tData tDatas pd_int pd_bl pd_non pd_str pd_neg pd_pow pda_nil pda_cons pd_tup pd_lst pd_dct dv_cut dv_cat tup_at rRepr call_repr rIsD call_isD
section
variable {P : Program} {w : World} {K : PySem.W.Frag} {mg : Str → Option Value} {base : Heap} {Tz : List (Addr × Str)}
def b_l_right : TSD := (sSeq (sOwn 1 (dCons (dCall t_l_disc (dConsW 0 dNil)) (dCons (dCall t_l_line (dConsW 0 dNil)) dNil))) (sSeq (sAppL 1 (dCall t_l_curve (dConsW 0 (dCons (dV 1) dNil)))) (sSeq (sAppL 1 (dCall t_l_curve (dConsW 0 (dCons (dV 1) dNil)))) (sSeq (sSet 2 (dLst (dCons (dCall t_l_seat_drawn (dConsW 0 dNil)) (dCons (dCall t_l_seat (dCons (dCall t_l_point (dConsW 0 dNil)) dNil)) dNil)))) (sSeq (sIf (dCmp fNe (dCall t_l_form (dCons (dOwnIx 1 (dC (.int 2))) dNil)) (dCall t_l_form (dCons (dOwnIx 1 (dC (.int 3))) dNil))) (sSet 2 (dOp fAddG (dV 2) (dCall t_l_meet (dCons (dOwnIx 1 (dC (.int 2))) (dCons (dOwnIx 1 (dC (.int 3))) dNil))))) sNx) (sSeq (sSet 2 (dOp fAddG (dV 2) (dCall t_l_meet (dCons (dOwnIx 1 (dC (.int 0))) (dCons (dOwnIx 1 (dC (.int 1))) dNil))))) (sSeq (sFor (iLst (dOwnLst 1)) (gdN 3) (sIf (dCmp fEq (dUn (fNth 0) (dV 3)) (dC (.str "line"))) (sApp 1 (dOp fAddG (dC (.tuple [(.str "line")])) (dCB fTupO (dCons (dLc (iTpl (dSl (dV 3) (dPart (dC (.int 1))) dNoP)) [4] (gdN 4) dYes (dCall t_l_neg (dCons (dV 4) dNil))) dNil)))) sNx)) (sSeq (sFrz 1) (sSeq (sFor (iLst (dV 2)) (gdN 5) (sSeq (sSet 6 (dCall t_l_place (dCons (dV 5) dNil))) (sSeq (sSet 7 (dOp fAddG (dLst (dCons (dCall t_p_is_place (dCons (dV 6) dNil)) dNil)) (dLc (iLst (dV 1)) [4] (gdN 4) dYes (dCall t_p_sign_at (dCons (dV 4) (dCons (dV 6) dNil)))))) (sIf (dCmp fNe (dCB fRepr (dCons (dV 7) dNil)) (dCB fRepr (dCons (dOp fAddG (dC (.list [(.bool true)])) (dLc (iLst (dV 1)) [4] (gdN 4) dYes (dCall t_l_side (dCons (dV 4) (dCons (dV 5) dNil))))) dNil))) (sRet (dC (.bool false))) sNx)))) (sRet (dC (.bool true))))))))))))
def t_l_right : TF := tfOf N_l_right b_l_right
theorem c_l_right (T : Top K mg) : Cq true (L2.CX P w) P w K mg base 9 "_law_right" (spF ⟨base, K, ⟨false, Tz⟩⟩ mg 1 t_l_right) := by
  exact Lw.Dn.dataQ T.d_l_right sc_l_right fun f cdv A outer s H E hr hg => (ds_cons (ds_own (ps_set (i := 1) sc_l_right.nd rfl (Or.inl rfl) (pe_lsN (da_cons (d_call (pe_clQ (E := fun _ => E) (c_l_disc T) hr hg (fun σ => passAt (takes_of rfl rfl rfl rfl) σ) rfl (da_well (pv 0) da_nil))) (da_cons (d_call (pe_clQ (E := fun _ => E) (c_l_line T) hr hg (fun σ => passAt (takes_of rfl rfl rfl rfl) σ) rfl (da_well (pv 0) da_nil))) da_nil))))) (ds_cons (ds_appL (ps_expr (pe_bm PySem.F.plainAttrs_list PySem.F.slot_list_append PySem.F.type_list_append mt_append (pv 1) (da_cons (d_call (pe_clQ (E := fun _ => E) (c_l_curve T) hr hg (fun σ => passAt (takes_of rfl rfl rfl rfl) σ) rfl (da_well (pv 0) (da_cons (d_var (pv 1)) da_nil)))) da_nil)))) (ds_cons (ds_appL (ps_expr (pe_bm PySem.F.plainAttrs_list PySem.F.slot_list_append PySem.F.type_list_append mt_append (pv 1) (da_cons (d_call (pe_clQ (E := fun _ => E) (c_l_curve T) hr hg (fun σ => passAt (takes_of rfl rfl rfl rfl) σ) rfl (da_well (pv 0) (da_cons (d_var (pv 1)) da_nil)))) da_nil)))) (ds_cons (ds_set (ps_set (i := 2) sc_l_right.nd rfl (Or.inl rfl) (d_lst (da_cons (d_call (pe_clQ (E := fun _ => E) (c_l_seat_drawn T) hr hg (fun σ => passAt (takes_of rfl rfl rfl rfl) σ) rfl (da_well (pv 0) da_nil))) (da_cons (d_call (pe_clQ (E := fun _ => E) (c_l_seat T) hr hg (fun σ => passAt (takes_of rfl rfl rfl rfl) σ) rfl (da_cons (d_call (pe_clQ (E := fun _ => E) (c_l_point T) hr hg (fun σ => passAt (takes_of rfl rfl rfl rfl) σ) rfl (da_well (pv 0) da_nil))) da_nil))) da_nil))))) (ds_cons (ds_if (ps_if (dt_cmp (pt_cmpR (op_neG hr) (d_call (pe_clQ (E := fun _ => E) (c_l_form T) hr hg (fun σ => passAt (takes_of rfl rfl rfl rfl) σ) rfl (da_cons (d_ownIx (pe_ix ix_seq (pv 1) d_int (fun _ _ => rfl))) da_nil))) (d_call (pe_clQ (E := fun _ => E) (c_l_form T) hr hg (fun σ => passAt (takes_of rfl rfl rfl rfl) σ) rfl (da_cons (d_ownIx (pe_ix ix_seq (pv 1) d_int (fun _ _ => rfl))) da_nil))) (nomark _)) cd_ne) (ds_one (ds_set (ps_set (i := 2) sc_l_right.nd rfl (Or.inl rfl) (d_op (pe_op op_addG (d_var (pv 2)) (d_call (pe_clQ (E := fun _ => E) (c_l_meet T) hr hg (fun σ => passAt (takes_of rfl rfl rfl rfl) σ) rfl (da_cons (d_ownIx (pe_ix ix_seq (pv 1) d_int (fun _ _ => rfl))) (da_cons (d_ownIx (pe_ix ix_seq (pv 1) d_int (fun _ _ => rfl))) da_nil))))) od_addG)))) ds_nil)) (ds_cons (ds_set (ps_set (i := 2) sc_l_right.nd rfl (Or.inl rfl) (d_op (pe_op op_addG (d_var (pv 2)) (d_call (pe_clQ (E := fun _ => E) (c_l_meet T) hr hg (fun σ => passAt (takes_of rfl rfl rfl rfl) σ) rfl (da_cons (d_ownIx (pe_ix ix_seq (pv 1) d_int (fun _ _ => rfl))) (da_cons (d_ownIx (pe_ix ix_seq (pv 1) d_int (fun _ _ => rfl))) da_nil))))) od_addG))) (ds_cons (ds_for io_list (go_name 3) (ps_for PassesOwn.leaving rfl (pi_list (d_ownLst (pe_callTy call_listL rfl T.z_list (by decide +kernel) (pa_cons (pv 1) pa_nil)))) (pg_name (i := 3) sc_l_right.nd rfl (Or.inl rfl)) (ds_one (ds_if (ps_if (dt_cmp (pt_cmpR (op_eqG hr) (d_nth (pe_ix ix_seq (d_var (pv 3)) pe_int (fun _ _ => rfl))) d_str (nomark _)) cd_eq) (ds_one (ds_app (ps_expr (pe_bm PySem.F.plainAttrs_list PySem.F.slot_list_append PySem.F.type_list_append mt_append (pv 1) (da_cons (d_op (pe_op op_addG (d_data (pd_tup (pda_cons pd_str pda_nil))) (d_cb (pe_callTy call_tuple_of rfl T.z_tuple (by decide +kernel) (da_cons (d_lc io_tup (go_name 4) (pe_lc (own := [("_law_each", 4)]) (g := (gName 4)) rfl sc_l_right.nd (pi_tup (d_sl (pe_slice sl_G (d_var (pv 3)) (dp_some d_int) dp_none))) (blkOk_by (own := [("_law_each", 4)]) (N := N_l_right) (sc := defScope s_l_right) (by decide +kernel)) (fun _ _ _ _ _ => (pg_name (i := 4) sc_l_right.nd rfl (Or.inl rfl))) (fun _ _ _ _ _ => lt_blk dts_nil) (fun _ _ _ _ _ => le_blk (d_call (pe_clQ (E := EX0) (c_l_neg T) hr hg (fun σ => pass_none) rfl (da_cons (d_var (pv 4)) da_nil)))))) da_nil)) bd_tup)) od_addG) da_nil))))) ds_nil))))) (ds_frz (ds_cons (ds_for io_list (go_name 5) (ps_for PassesOwn.leaving rfl (pi_list (d_var (pv 2))) (pg_name (i := 5) sc_l_right.nd rfl (Or.inr rfl)) (ds_cons (ds_set (ps_set (i := 6) sc_l_right.nd rfl (Or.inr rfl) (d_call (pe_clQ (E := fun _ => E) (c_l_place T) hr hg (fun σ => passAt (takes_of rfl rfl rfl rfl) σ) rfl (da_cons (d_var (pv 5)) da_nil))))) (ds_cons (ds_set (ps_set (i := 7) sc_l_right.nd rfl (Or.inl rfl) (d_op (pe_op op_addG (d_lst (da_cons (d_call (pe_clQ (E := fun _ => E) (c_p_is_place T) hr hg (fun σ => passAt (takes_of rfl rfl rfl rfl) σ) rfl (da_cons (d_var (pv 6)) da_nil))) da_nil)) (d_lc io_list (go_name 4) (pe_lc (own := [("_law_each", 4)]) (g := (gName 4)) rfl sc_l_right.nd (pi_list (d_var (pv 1))) (blkOk_by (own := [("_law_each", 4)]) (N := N_l_right) (sc := defScope s_l_right) (by decide +kernel)) (fun _ _ _ _ _ => (pg_name (i := 4) sc_l_right.nd rfl (Or.inl rfl))) (fun _ _ _ _ _ => lt_blk dts_nil) (fun _ _ _ _ _ => le_blk (d_call (pe_clQ (E := EX0) (c_p_sign_at T) hr hg (fun σ => pass_none) rfl (da_cons (d_var (pv 4)) (da_cons (d_var (pv 6)) da_nil)))))))) od_addG))) (ds_one (ds_if (ps_if (dt_cmp (pt_cmpR (op_neG hr) (d_cb (pe_callB (Ld.call_repr hr (hg rfl)) rfl T.z_repr (by decide +kernel) (da_cons (d_var (pv 7)) da_nil)) bd_repr) (d_cb (pe_callB (Ld.call_repr hr (hg rfl)) rfl T.z_repr (by decide +kernel) (da_cons (d_op (pe_op op_addG (d_data (pd_lst (pda_cons pd_bl pda_nil))) (d_lc io_list (go_name 4) (pe_lc (own := [("_law_each", 4)]) (g := (gName 4)) rfl sc_l_right.nd (pi_list (d_var (pv 1))) (blkOk_by (own := [("_law_each", 4)]) (N := N_l_right) (sc := defScope s_l_right) (by decide +kernel)) (fun _ _ _ _ _ => (pg_name (i := 4) sc_l_right.nd rfl (Or.inl rfl))) (fun _ _ _ _ _ => lt_blk dts_nil) (fun _ _ _ _ _ => le_blk (d_call (pe_clQ (E := EX0) (c_l_side T) hr hg (fun σ => pass_none) rfl (da_cons (d_var (pv 4)) (da_cons (d_var (pv 5)) da_nil)))))))) od_addG) da_nil)) bd_repr) (nomark _)) cd_ne) (ds_one (ds_ret (ps_ret d_bl))) ds_nil))))))) (ds_one (ds_ret (ps_ret d_bl))))))))))))
end
end My

set_option maxHeartbeats 4000000
namespace My
open PySem L2 Ld
open Lw hiding Dv DvAll FreshB tData tDatas pd_int pd_bl pd_non pd_str pd_neg pd_pow pda_nil pda_cons pd_tup pd_lst pd_dct dv_cut dv_cat tup_at rRepr call_repr rIsD call_isD
local macro_rules | `(tactic| walk_at "d") => `(tactic| try dsimp only [tfOf, startD, slotD, putD, wipeD, dV, dC, dOp, dUn, dNil, dCons, dConsW, dConsF, dCallV, dCall, datsOf, dCB, dTup, dLst, dIf, dTst, dCmp, dCmpV, dChain, dNot, dAnd, dOr, dAndV, dOrV, dNotV, dTb, sSeq, sNx, sSet, sRet, sRetN, sIf, sExpr, sBrk, sCont, sPar, sPar3, lenK, gdN, gdNil, gdCons, sAsg, sFor, iLst, iTpl, iRg1, iRg2, iZp, dYes, dLc, dLc2, dNoP, dPart, dSl, dSlS, sOwn, ownK, sApp, sAppL, sSetL, sIfL, sInsL, sTry1, dOwnLst, fLstL, sExt, sIns, sPut, sFrz, dOwnLen, dOwnIx, sRaise, sAug, t_draw, nthL, e_int, e_int0, e_add, e_addT, e_addL, e_addSI, e_addST, e_shl, e_ci, e_eqI, e_eqS, e_eqB, e_neI, e_neS, e_neB, e_isN, e_notN, e_nthT, e_nthL, e_lenT, e_lenL, e_i1, e_i2, e_lcm, e_intO, e_intB, e_isqrt, e_divmod, e_repr, e_reprS, e_tupL, e_tupT, e_lst, e_truB, e_truI, e_truN, e_truL, e_truT, e_neg, e_bits, e_back, e_backL, e_slT, e_slL, e_slST, e_gdT, e_gdL, Ld.isNon])
local macro_rules | `(tactic| walk_at "u") => `(tactic| (dsimp only; walk_at "d"))

section
variable {R : RD} {Ex : XD}
/-! ### signs -/
theorem sg_small (x : Int) : (sg x).natAbs < 2 ^ 2 := by
  rcases tri x with h | h | h
  · rw [sg_neg h]
    decide
  · rw [h]
    decide
  · rw [sg_pos h]
    decide
theorem w_p_sign {x : Int} (h : R (.int (sg x))) : t_p_sign [.dat (.int x)] R Ex := by
  unfold t_p_sign b_p_sign
  walk_at "d"
  refine difP (fun c => ?_) (fun c => difP (fun c2 => ?_) (fun c2 => ?_))
  · rw [c] at h
    exact h
  · rw [sg_pos c2] at h
    exact h
  · rw [sg_neg (by omega)] at h
    exact h
theorem w_l_sign {x : Int} (h : R (.int (sg x))) : t_l_sign [.dat (.int x)] R Ex := by
  unfold t_l_sign b_l_sign
  walk_at "d"
  refine difP (fun c => ?_) (fun c => difP (fun c2 => ?_) (fun c2 => ?_))
  · rw [sg_pos c] at h
    exact h
  · rw [c2] at h
    exact h
  · rw [sg_neg (by omega)] at h
    exact h
theorem w_p_sign_of_two {a b r : Int} (z1 : a.natAbs < 2 ^ 40000) (z2 : b.natAbs < 2 ^ 40000) (z3 : r.natAbs < 2 ^ 40000) (hc : Okay b r) (h : R (.int (S2 a (ss b * r)))) : t_p_sign_of_two [.dat (.int a), .dat (.int b), .dat (.int r)] R Ex := by
  rw [S2_form hc] at h
  unfold t_p_sign_of_two b_p_sign_of_two
  obtain ⟨k_p_sign, e_p_sign⟩ : ∃ k, t_p_sign = k := ⟨_, rfl⟩
  rw [e_p_sign]
  walk_at "d"
  refine st e_p_sign <| w_p_sign (st e_p_sign <| w_p_sign ?_)
  walk_at "d"
  have last : ¬ (sg a = sg b ∨ sg b = 0) → if decide (sg a = 0) = true then R (.int (sg b)) else CMulX a a ∧ CMulX b b ∧ CMulX (b * b) r ∧ k_p_sign [.dat (.int (a * a - b * b * r))] (fun y => fMul (.int (sg a)) y R) Ex := fun n => by
    rw [if_neg n] at h
    refine difP (fun c => ?_) (fun c => ?_)
    · rw [if_pos c] at h
      exact h
    · rw [if_neg c] at h
      exact ⟨mulx_ok z1 z1 (by decide), mulx_ok z2 z2 (by decide), mulx_ok (mul_lt z2 z2) z3 (by decide), st e_p_sign <| w_p_sign ⟨mulx_ok (sg_small _) (sg_small _) (by decide), h⟩⟩
  refine difP (fun c => ?_) (fun c => ?_)
  · rw [if_pos (.inl c)] at h
    exact difT h
  · refine difP (fun c2 => ?_) (fun c2 => last (fun z => z.elim c c2))
    rw [if_pos (.inr c2)] at h
    exact h
theorem w_l_sign_one {a b r : Int} (z1 : a.natAbs < 2 ^ 40000) (z2 : b.natAbs < 2 ^ 40000) (z3 : r.natAbs < 2 ^ 40000) (hc : 0 ≤ r) (h : R (.int (S2 a (ss b * r)))) : t_l_sign_one [.dat (.int a), .dat (.int b), .dat (.int r)] R Ex := by
  unfold t_l_sign_one b_l_sign_one
  obtain ⟨k_l_sign, e_l_sign⟩ : ∃ k, t_l_sign = k := ⟨_, rfl⟩
  rw [e_l_sign]
  walk_at "d"
  refine st e_l_sign <| w_l_sign ?_
  walk_at "d"
  refine difP (fun c0 => ?_) (fun c0 => ?_)
  · rw [S2_form (.inr c0)] at h
    refine st e_l_sign <| w_l_sign ?_
    walk_at "d"
    have last : ¬ (sg a = sg b ∨ sg b = 0) → if decide (sg a = 0) = true then R (.int (sg b)) else CMulX a a ∧ CMulX b b ∧ CMulX (b * b) r ∧ k_l_sign [.dat (.int (a * a - b * b * r))] (fun x => fMul x (.int (sg a)) R) Ex := fun n => by
      rw [if_neg n] at h
      refine difP (fun c => ?_) (fun c => ?_)
      · rw [if_pos c] at h
        exact h
      · rw [if_neg c, Int.mul_comm] at h
        exact ⟨mulx_ok z1 z1 (by decide), mulx_ok z2 z2 (by decide), mulx_ok (mul_lt z2 z2) z3 (by decide), st e_l_sign <| w_l_sign ⟨mulx_ok (sg_small _) (sg_small _) (by decide), h⟩⟩
    refine difP (fun c => ?_) (fun c => ?_)
    · rw [if_pos (.inl c)] at h
      exact difT h
    · refine difP (fun c2 => ?_) (fun c2 => last (fun z => z.elim c c2))
      rw [if_pos (.inr c2)] at h
      exact h
  · have r0 : r = 0 := by omega
    rw [r0, Int.mul_zero, S2_zero] at h
    exact difP (fun c => difT h) (fun c => difP (fun _ => h) (fun z => absurd rfl z))
end

end My

set_option maxHeartbeats 4000000
namespace My
open PySem L2 Ld
open Lw hiding Dv DvAll FreshB tData tDatas pd_int pd_bl pd_non pd_str pd_neg pd_pow pda_nil pda_cons pd_tup pd_lst pd_dct dv_cut dv_cat tup_at rRepr call_repr rIsD call_isD
local macro_rules | `(tactic| walk_at "d") => `(tactic| try dsimp only [tfOf, startD, slotD, putD, wipeD, dV, dC, dOp, dUn, dNil, dCons, dConsW, dConsF, dCallV, dCall, datsOf, dCB, dTup, dLst, dIf, dTst, dCmp, dCmpV, dChain, dNot, dAnd, dOr, dAndV, dOrV, dNotV, dTb, sSeq, sNx, sSet, sRet, sRetN, sIf, sExpr, sBrk, sCont, sPar, sPar3, lenK, gdN, gdNil, gdCons, sAsg, sFor, iLst, iTpl, iRg1, iRg2, iZp, dYes, dLc, dLc2, dNoP, dPart, dSl, dSlS, sOwn, ownK, sApp, sAppL, sSetL, sIfL, sInsL, sTry1, dOwnLst, fLstL, sExt, sIns, sPut, sFrz, dOwnLen, dOwnIx, sRaise, sAug, t_draw, nthL, e_int, e_int0, e_add, e_addT, e_addL, e_addSI, e_addST, e_shl, e_ci, e_eqI, e_eqS, e_eqB, e_neI, e_neS, e_neB, e_isN, e_notN, e_nthT, e_nthL, e_lenT, e_lenL, e_i1, e_i2, e_lcm, e_intO, e_intB, e_isqrt, e_divmod, e_repr, e_reprS, e_tupL, e_tupT, e_lst, e_truB, e_truI, e_truN, e_truL, e_truT, e_neg, e_bits, e_back, e_backL, e_slT, e_slL, e_slST, e_gdT, e_gdL, Ld.isNon])
local macro_rules | `(tactic| walk_at "u") => `(tactic| (dsimp only; walk_at "d"))

section
variable {R : RD} {Ex : XD}
/-! ### greatest common divisors -/
theorem w_l_common {a b : Int} (h : R (.int (gcdI a b))) : t_l_common [.dat (.int a), .dat (.int b)] R Ex := by
  unfold t_l_common b_l_common
  walk_at "d"
  refine while_d (fun ρ => ∃ f r : Int, ρ = [some (.dat (.int a)), some (.dat (.int b)), some (.dat (.int f)), some (.dat (.int r))] ∧ 0 ≤ f ∧ 0 ≤ r ∧ gcdI f r = gcdI a b)
    (fun ρ => match ρ with | [_, _, _, some (.dat (.int r))] => r.toNat | _ => 0) ⟨_, _, rfl, if_nn a, if_nn b, gcd_abs a b⟩ ?_
  rintro ρ K ⟨f, r, rfl, hf, hr, hg⟩ k
  walk_at "d"
  refine difN (fun c => ?_) (fun c => ?_)
  · have h1 := Int.emod_nonneg f c
    have h2 := Int.emod_lt_of_pos f (show 0 < r by omega)
    refine ⟨by omega, k _ ⟨_, _, rfl, hr, h1, (gcd_step hf (by omega)).trans hg⟩ ?_⟩
    show (f % r).toNat < r.toNat
    omega
  · subst c
    rw [gcd_zero hf] at hg
    rw [hg]
    exact h
theorem w_l_lean {a b : Int} (hb : b ≠ 0) (hz : b.natAbs < 2 ^ 8000) (h : R (fracD a b)) : t_l_lean [.dat (.int a), .dat (.int b)] R Ex := by
  have n0 := gz_ne (a := a) hb
  have n1 : (gz a b).natAbs < 2 ^ 9000 := gz_lt hb (Nat.lt_of_lt_of_le hz (Nat.pow_le_pow_right (by decide) (by decide)))
  unfold t_l_lean b_l_lean
  obtain ⟨k_l_common, e_l_common⟩ : ∃ k, t_l_common = k := ⟨_, rfl⟩
  rw [e_l_common]
  walk_at "d"
  refine difP (fun c => ?_) (fun c => ?_)
  · have e : gcdI a b = gz a b := by
      unfold gz
      rw [if_neg (by omega)]
    refine st e_l_common (w_l_common ?_)
    rw [e]
    walk_at "d"
    exact ⟨⟨n0, n1⟩, ⟨n0, n1⟩, h⟩
  · have e : 0 - gcdI a b = gz a b := by
      unfold gz
      rw [if_pos (by omega)]
      omega
    refine st e_l_common (w_l_common ?_)
    walk_at "d"
    rw [e]
    exact ⟨⟨n0, n1⟩, ⟨n0, n1⟩, h⟩
theorem w_p_reducedB {a b : Int} (hb : b ≠ 0) (k1 : FdOk a (gz a b)) (k2 : FdOk b (gz a b)) (h : R (fracD a b)) : t_p_reduced [.dat (.int a), .dat (.int b)] R Ex := by
  unfold t_p_reduced b_p_reduced
  walk_at "d"
  refine difP (fun c => ?_) (fun c => ?_)
  · have e : - ((Nat.gcd a.natAbs b.natAbs : Nat) : Int) = gz a b := by
      unfold gz
      rw [if_pos c]
      rfl
    rw [e]
    exact ⟨k1, k2, h⟩
  · have e : ((Nat.gcd a.natAbs b.natAbs : Nat) : Int) = gz a b := by
      unfold gz
      rw [if_neg c]
      rfl
    rw [e]
    exact ⟨k1, k2, h⟩
theorem w_p_reduced {a b : Int} (hb : b ≠ 0) (hz : b.natAbs < 2 ^ 8000) (h : R (fracD a b)) : t_p_reduced [.dat (.int a), .dat (.int b)] R Ex := by
  have n0 := gz_ne (a := a) hb
  have n1 : (gz a b).natAbs < 2 ^ 9000 := gz_lt hb (Nat.lt_of_lt_of_le hz (Nat.pow_le_pow_right (by decide) (by decide)))
  exact w_p_reducedB hb (.low n0 n1) (.low n0 n1) h
/-! ### whole roots -/
theorem w_l_root {n : Int} (hz : n.natAbs < 2 ^ 8000) (h : R (.int (isq n))) : t_l_root [.dat (.int n)] R Ex := by
  unfold t_l_root b_l_root
  walk_at "d"
  refine difP (fun c => ?_) (fun c => ?_)
  · rw [isq_neg c] at h
    exact h
  have s0 := isq_nn n
  have s1 := isq_le (n := n) (by omega)
  have s2 := isq_lt (n := n) (by omega)
  have g := guess (n := n) (by omega)
  have hb : Builtin.Int.intBits n ≤ 8000 := bits_le hz
  generalize isq n = sq at h s0 s1 s2 g
  have sq1 : 1 ≤ sq := by
    apply Decidable.byContradiction
    intro d
    have z : sq = 0 := by omega
    rw [z] at s2
    omega
  generalize hB : Builtin.Int.intBits n = B at *
  have gI : ((2 : Int) ^ (B / 2 + 1)).natAbs < 2 ^ 9000 := by
    rw [Int.natAbs_pow]
    exact Nat.pow_lt_pow_right (by decide) (by omega)
  have gP : (1 : Int) ≤ 2 ^ (B / 2 + 1) := by
    have : (0 : Int) < 2 ^ (B / 2 + 1) := Int.pow_pos (by decide)
    omega
  have tn : (((B : Int).fdiv 2 + 1).toNat) = B / 2 + 1 := by
    rw [Int.fdiv_eq_ediv_of_nonneg _ (by decide)]
    omega
  have fd : (0 : Int) ≤ (B : Int).fdiv 2 + 1 ∧ (B : Int).fdiv 2 + 1 ≤ 134217727 := by
    rw [Int.fdiv_eq_ediv_of_nonneg _ (by decide)]
    omega
  rw [tn]
  refine ⟨⟨by decide, by decide⟩, rfl, fd.1, fd.2, ⟨by omega, by omega⟩, ?_⟩
  refine range_d (fun j ρ => ∃ (x : Int) (v u : Option Sv), ρ = [some (.dat (.int n)), some (.dat (.int x)), v, u] ∧ sq ≤ x ∧ x ≤ 2 ^ (B / 2 + 1) ∧ (x - sq) * 2 ^ j ≤ 2 ^ (B / 2 + 1))
    ⟨_, none, none, rfl, g, Int.le_refl _, by rw [Int.pow_zero]; omega⟩ ?_ ?_
  · rintro j ρ K hj ⟨x, v, u, rfl, x1, x2, x3⟩ k
    have x0 : 1 ≤ x := by omega
    have xs : x.natAbs < 2 ^ 9000 := by omega
    walk_at "d"
    refine ⟨⟨by omega, xs⟩, ⟨by decide, by decide⟩, ?_⟩
    rw [Int.fdiv_eq_ediv_of_nonneg n (by omega), Int.fdiv_eq_ediv_of_nonneg _ (by decide)]
    have up := newton_up (n := n) (x := x) s0 s1 x0
    obtain ⟨y, hy⟩ : ∃ y, (x + n / x) / 2 = y := ⟨_, rfl⟩
    rw [hy] at up ⊢
    refine difP (fun c => ?_) (fun c => ?_)
    · have e : x = sq := by
        apply Decidable.byContradiction
        intro d
        have := newton_down (n := n) (s := sq) (x := x) s2 s0 (by omega)
        omega
      rw [e]
      exact h
    · have dn := newton_down (n := n) (s := sq) (x := x) s2 s0 (by omega)
      have half : 2 * (y - sq) ≤ x - sq := by omega
      refine k _ ⟨y, _, _, rfl, up, by omega, ?_⟩
      have p : (0 : Int) ≤ 2 ^ j := Int.le_of_lt (Int.pow_pos (by decide))
      have := Int.mul_le_mul_of_nonneg_right half p
      rw [Int.pow_succ]
      have e : (y - sq) * (2 ^ j * 2) = 2 * (y - sq) * 2 ^ j := by grind
      omega
  · rintro ρ ⟨x, v, u, rfl, x1, x2, x3⟩
    have e : x = sq := by
      apply Decidable.byContradiction
      intro d
      have p : (0 : Int) ≤ 2 ^ ((B : Int) + 4).toNat := Int.le_of_lt (Int.pow_pos (by decide))
      have m := Int.mul_le_mul_of_nonneg_right (show 1 ≤ x - sq by omega) p
      have l : (2 : Int) ^ (B / 2 + 1) < 2 ^ ((B : Int) + 4).toNat := Int.pow_lt_pow_of_lt (by decide) (by omega)
      omega
    walk_at "d"
    rw [e]
    exact h
theorem w_l_is_square {n : Int} (hz : n.natAbs < 2 ^ 8000) (h : R (.bool (isSqB n))) : t_l_is_square [.dat (.int n)] R Ex := by
  have hs := isq_small hz
  unfold isSqB at h
  unfold t_l_is_square b_l_is_square
  obtain ⟨k_l_root, e_l_root⟩ : ∃ k, t_l_root = k := ⟨_, rfl⟩
  rw [e_l_root]
  walk_at "d"
  refine difP (fun c => ?_) (fun c => ?_)
  · rw [decide_eq_true c, Bool.true_and] at h
    exact st e_l_root (w_l_root hz (st e_l_root (w_l_root hz ⟨mulx_ok hs hs (by decide), h⟩)))
  · rw [decide_eq_false c] at h ⊢
    exact h
theorem w_p_is_square {n : Int} (hn : 0 ≤ n) (hz : n.natAbs < 2 ^ 13000) (h : R (.bool (isSqB n))) : t_p_is_square [.dat (.int n)] R Ex := by
  have hs : (isq n).natAbs < 2 ^ 13000 := by
    have h1 := isq_nn n
    have h2 := isq_le (n := n) hn
    have : isq n ≤ n := by
      rcases (by omega : isq n = 0 ∨ 1 ≤ isq n) with z | z
      · omega
      · have := Int.mul_le_mul_of_nonneg_right z h1
        omega
    omega
  unfold isSqB at h
  rw [decide_eq_true hn, Bool.true_and] at h
  unfold t_p_is_square b_p_is_square
  walk_at "d"
  exact ⟨hn, hz, mulx_ok hs hs (by decide), h⟩
end

end My

set_option maxHeartbeats 4000000
namespace My
open PySem L2 Ld
open Lw hiding Dv DvAll FreshB tData tDatas pd_int pd_bl pd_non pd_str pd_neg pd_pow pda_nil pda_cons pd_tup pd_lst pd_dct dv_cut dv_cat tup_at rRepr call_repr rIsD call_isD
local macro_rules | `(tactic| walk_at "d") => `(tactic| try dsimp only [tfOf, startD, slotD, putD, wipeD, dV, dC, dOp, dUn, dNil, dCons, dConsW, dConsF, dCallV, dCall, datsOf, dCB, dTup, dLst, dIf, dTst, dCmp, dCmpV, dChain, dNot, dAnd, dOr, dAndV, dOrV, dNotV, dTb, sSeq, sNx, sSet, sRet, sRetN, sIf, sExpr, sBrk, sCont, sPar, sPar3, lenK, gdN, gdNil, gdCons, sAsg, sFor, iLst, iTpl, iRg1, iRg2, iZp, dYes, dLc, dLc2, dNoP, dPart, dSl, dSlS, sOwn, ownK, sApp, sAppL, sSetL, sIfL, sInsL, sTry1, dOwnLst, fLstL, sExt, sIns, sPut, sFrz, dOwnLen, dOwnIx, sRaise, sAug, t_draw, nthL, e_int, e_int0, e_add, e_addT, e_addL, e_addSI, e_addST, e_shl, e_ci, e_eqI, e_eqS, e_eqB, e_neI, e_neS, e_neB, e_isN, e_notN, e_nthT, e_nthL, e_lenT, e_lenL, e_i1, e_i2, e_lcm, e_intO, e_intB, e_isqrt, e_divmod, e_repr, e_reprS, e_tupL, e_tupT, e_lst, e_truB, e_truI, e_truN, e_truL, e_truT, e_neg, e_bits, e_back, e_backL, e_slT, e_slL, e_slST, e_gdT, e_gdL, Ld.isNon])
local macro_rules | `(tactic| walk_at "u") => `(tactic| (dsimp only; walk_at "d"))

section
variable {R : RD} {Ex : XD}
/-! ### spreads and forms -/
def d4 (a b r d : Int) : PyData := .tuple [.int a, .int b, .int r, .int d]
theorem w_p_discriminant {x : PyData} {a b r d : Int} (hn : NumD x a b r d) (h : R (.int r)) : t_p_discriminant [.dat x] R Ex := by
  unfold t_p_discriminant b_p_discriminant
  walk_at "d"
  rcases hn with ⟨rfl, rfl, rfl⟩ | ⟨x, y, z, u, rfl, rfl, rfl, rfl, rfl, z1, z2, z3⟩
  · exact h
  · walk_at "d"
    exact difF ⟨mulx_ok z2 z2 (by decide), mulx_ok (show (4 : Int).natAbs < 2 ^ 3 by decide) z1 (by decide), mulx_ok (mul_lt (show (4 : Int).natAbs < 2 ^ 3 by decide) z1) z3 (by decide), h⟩
theorem w_p_surd_of {x : PyData} {a b r d : Int} (hn : NumD x a b r d) (h : R (d4 a b r d)) : t_p_surd_of [.dat x] R Ex := by
  unfold t_p_surd_of b_p_surd_of
  obtain ⟨k_p_discriminant, e_p_discriminant⟩ : ∃ k, t_p_discriminant = k := ⟨_, rfl⟩
  rw [e_p_discriminant]
  walk_at "d"
  rcases id hn with ⟨rfl, rfl, rfl⟩ | ⟨x, y, z, u, rfl, rfl, rfl, rfl, rfl, z1, z2, z3⟩
  · exact h
  · walk_at "d"
    refine difF ?_
    cases u with
    | true => exact difT (st e_p_discriminant <| w_p_discriminant hn ⟨mulx_ok (show (2 : Int).natAbs < 2 ^ 2 by decide) z1 (by decide), h⟩)
    | false => exact difF (st e_p_discriminant <| w_p_discriminant hn ⟨mulx_ok (show (2 : Int).natAbs < 2 ^ 2 by decide) z1 (by decide), h⟩)
theorem w_l_spread {x : PyData} {a b r d : Int} (hn : NumD x a b r d) (h : R (d4 a b r d)) : t_l_spread [.dat x] R Ex := by
  unfold t_l_spread b_l_spread
  walk_at "d"
  rcases id hn with ⟨rfl, rfl, rfl⟩ | ⟨x, y, z, u, rfl, rfl, rfl, rfl, rfl, z1, z2, z3⟩
  · exact h
  · walk_at "d"
    refine difF ?_
    have e : 0 - y = -y := by omega
    rw [e]
    cases u with
    | true => exact difT ⟨mulx_ok z2 z2 (by decide), mulx_ok (show (4 : Int).natAbs < 2 ^ 3 by decide) z1 (by decide), mulx_ok (mul_lt (show (4 : Int).natAbs < 2 ^ 3 by decide) z1) z3 (by decide), mulx_ok (show (2 : Int).natAbs < 2 ^ 2 by decide) z1 (by decide), h⟩
    | false => exact difF ⟨mulx_ok z2 z2 (by decide), mulx_ok (show (4 : Int).natAbs < 2 ^ 3 by decide) z1 (by decide), mulx_ok (mul_lt (show (4 : Int).natAbs < 2 ^ 3 by decide) z1) z3 (by decide), mulx_ok (show (2 : Int).natAbs < 2 ^ 2 by decide) z1 (by decide), h⟩
theorem w_l_formed {a b r d : Int} (z1 : a.natAbs < 2 ^ 1000) (z2 : b.natAbs < 2 ^ 1000) (z3 : r.natAbs < 2 ^ 1000) (z4 : d.natAbs < 2 ^ 1000) (hd : d ≠ 0) (h : R (formD a b r d)) : t_l_formed [.dat (d4 a b r d)] R Ex := by
  have z3' := two_le z3 (show 1000 ≤ 8000 by decide)
  have zs := isq_small z3
  have w1 := mul_lt z4 z4
  have w2 : (2 * a : Int).natAbs < 2 ^ (2 + 1000) := mul_lt (by decide) z1
  have w3 := mul_lt w2 z4
  have w4 := mul_lt z1 z1
  have w5 := mul_lt z2 z2
  have w6 := mul_lt w5 z3
  obtain ⟨g0, g1⟩ := gcd3 (a := 0 - 2 * a * d) (b := a * a - b * b * r) hd (two_le z4 (by decide))
  unfold formD at h
  unfold d4
  unfold t_l_formed b_l_formed
  obtain ⟨k_l_is_square, e_l_is_square⟩ : ∃ k, t_l_is_square = k := ⟨_, rfl⟩
  rw [e_l_is_square]
  obtain ⟨k_l_lean, e_l_lean⟩ : ∃ k, t_l_lean = k := ⟨_, rfl⟩
  rw [e_l_lean]
  obtain ⟨k_l_root, e_l_root⟩ : ∃ k, t_l_root = k := ⟨_, rfl⟩
  rw [e_l_root]
  obtain ⟨k_l_common, e_l_common⟩ : ∃ k, t_l_common = k := ⟨_, rfl⟩
  rw [e_l_common]
  walk_at "d"
  have fr : (b = 0 ∨ isSqB r = true) → k_l_root [.dat (.int r)] (fun y => fMul (.int b) y fun y => fAddG (.int a) y fun d_1 => k_l_lean [.dat d_1, .dat (.int d)] R Ex) Ex := fun c => by
    rw [if_pos c] at h
    refine st e_l_root <| w_l_root z3' ⟨mulx_ok z2 zs (by decide), ?_⟩
    exact st e_l_lean <| w_l_lean hd (two_le z4 (by decide)) h
  refine difP (fun c => difT (fr (.inl c))) (fun c => ?_)
  refine st e_l_is_square <| w_l_is_square z3' ?_
  walk_at "d"
  refine dif (fun c2 => fr (.inr c2)) (fun c2 => ?_)
  rw [if_neg (fun z => z.elim c fun z => by rw [c2] at z; cases z)] at h
  refine ⟨mulx_ok z4 z4 (by decide), mulx_ok (show (2 : Int).natAbs < 2 ^ 2 by decide) z1 (by decide), mulx_ok w2 z4 (by decide), mulx_ok z1 z1 (by decide), mulx_ok z2 z2 (by decide), mulx_ok w5 z3 (by decide), ?_⟩
  refine st e_l_common <| w_l_common (st e_l_common <| w_l_common ?_)
  walk_at "d"
  exact ⟨⟨g0, g1⟩, ⟨g0, g1⟩, ⟨g0, g1⟩, h⟩
/-- small parts of a form -/
def Small (x : PyData) : Prop := match x with
  | .tuple [.int p, .int q] => p.natAbs < 2 ^ 4400 ∧ q.natAbs < 2 ^ 4400
  | .tuple [.int p, .int q, .int s, .bool _] => p.natAbs < 2 ^ 4400 ∧ q.natAbs < 2 ^ 4400 ∧ s.natAbs < 2 ^ 4400
  | _ => True
theorem fd_quot {x g : Int} (hg : g ≠ 0) (d : g ∣ x) (h : (x.fdiv g).natAbs < 2 ^ 4400) : FdOk x g := by
  refine ⟨hg, .inr ?_⟩
  have e : x.fdiv g * g = x := Int.fdiv_mul_cancel d
  have e2 : x.natAbs = (x.fdiv g).natAbs * g.natAbs := by
    conv => lhs; rw [← e, Int.natAbs_mul]
  rw [e2, Nat.mul_comm]
  exact Nat.mul_lt_mul_of_pos_left h (by omega)
theorem gz_dvd (a b : Int) : gz a b ∣ a ∧ gz a b ∣ b := by
  unfold gz
  split
  · exact ⟨Int.neg_dvd.mpr (gcd_dvd_l _ _), Int.neg_dvd.mpr (gcd_dvd_r _ _)⟩
  · exact ⟨gcd_dvd_l _ _, gcd_dvd_r _ _⟩
theorem w_p_number_ofB {a b r d : Int} (z1 : a.natAbs < 2 ^ 12200) (z2 : b.natAbs < 2 ^ 12200) (z3 : r.natAbs < 2 ^ 12200) (z4 : d.natAbs < 2 ^ 12200) (hd : d ≠ 0) (hb : b ≠ 0 → isSqB r = false) (sm : Small (formD a b r d)) (h : R (formD a b r d)) : t_p_number_of [.dat (.int a), .dat (.int b), .dat (.int r), .dat (.int d)] R Ex := by
  have w1 := mul_lt z4 z4
  have w2 : (-2 * a : Int).natAbs < 2 ^ (2 + 12200) := mul_lt (by decide) z1
  have w5 := mul_lt z2 z2
  unfold formD at h sm
  unfold t_p_number_of b_p_number_of
  obtain ⟨k_p_reduced, e_p_reduced⟩ : ∃ k, t_p_reduced = k := ⟨_, rfl⟩
  rw [e_p_reduced]
  walk_at "d"
  refine difP (fun c => ?_) (fun c => ?_)
  · rw [if_pos (.inl c), c, Int.zero_mul, Int.add_zero] at h sm
    obtain ⟨s1, s2⟩ := sm
    exact st e_p_reduced <| w_p_reducedB hd (fd_quot (gz_ne hd) (gz_dvd a d).1 s1) (fd_quot (gz_ne hd) (gz_dvd a d).2 s2) h
  · rw [if_neg (fun z => z.elim c fun z => by rw [hb c] at z; cases z)] at h sm
    obtain ⟨s1, s2, s3⟩ := sm
    have e : -2 * a * d = 0 - 2 * a * d := by grind
    refine ⟨mulx_ok z4 z4 (by decide), mulx_ok (show (-2 : Int).natAbs < 2 ^ 2 by decide) z1 (by decide), mulx_ok w2 z4 (by decide), mulx_ok z1 z1 (by decide), mulx_ok z2 z2 (by decide), mulx_ok w5 z3 (by decide), ?_⟩
    rw [e]
    have g0 : gcdI (gcdI (d * d) (0 - 2 * a * d)) (a * a - b * b * r) ≠ 0 := by
      intro z
      have d1 : gcdI (gcdI (d * d) (0 - 2 * a * d)) (a * a - b * b * r) ∣ d * d := Int.dvd_trans (gcd_dvd_l _ _) (gcd_dvd_l _ _)
      rw [z] at d1
      exact Int.mul_ne_zero hd hd (Int.zero_dvd.mp d1)
    exact ⟨fd_quot g0 (Int.dvd_trans (gcd_dvd_l _ _) (gcd_dvd_l _ _)) s1, fd_quot g0 (Int.dvd_trans (gcd_dvd_l _ _) (gcd_dvd_r _ _)) s2, fd_quot g0 (gcd_dvd_r _ _) s3, h⟩
theorem w_p_number_of {a b r d : Int} (z1 : a.natAbs < 2 ^ 4000) (z2 : b.natAbs < 2 ^ 4000) (z3 : r.natAbs < 2 ^ 4000) (z4 : d.natAbs < 2 ^ 4000) (hd : d ≠ 0) (hb : b ≠ 0 → isSqB r = false) (h : R (formD a b r d)) : t_p_number_of [.dat (.int a), .dat (.int b), .dat (.int r), .dat (.int d)] R Ex := by
  have w1 := mul_lt z4 z4
  have w2 : (-2 * a : Int).natAbs < 2 ^ (2 + 4000) := mul_lt (by decide) z1
  have w5 := mul_lt z2 z2
  obtain ⟨g0, g1⟩ := gcd3 (a := 0 - 2 * a * d) (b := a * a - b * b * r) hd z4
  unfold formD at h
  unfold t_p_number_of b_p_number_of
  obtain ⟨k_p_reduced, e_p_reduced⟩ : ∃ k, t_p_reduced = k := ⟨_, rfl⟩
  rw [e_p_reduced]
  walk_at "d"
  refine difP (fun c => ?_) (fun c => ?_)
  · rw [if_pos (.inl c), c, Int.zero_mul, Int.add_zero] at h
    exact st e_p_reduced <| w_p_reduced hd (two_le z4 (by decide)) h
  · rw [if_neg (fun z => z.elim c fun z => by rw [hb c] at z; cases z)] at h
    have e : -2 * a * d = 0 - 2 * a * d := by grind
    refine ⟨mulx_ok z4 z4 (by decide), mulx_ok (show (-2 : Int).natAbs < 2 ^ 2 by decide) z1 (by decide), mulx_ok w2 z4 (by decide), mulx_ok z1 z1 (by decide), mulx_ok z2 z2 (by decide), mulx_ok w5 z3 (by decide), ?_⟩
    rw [e]
    exact ⟨.low g0 g1, .low g0 g1, .low g0 g1, h⟩
/-! ### order -/
end

end My

set_option maxHeartbeats 4000000
namespace My
open PySem L2 Ld
open Lw hiding Dv DvAll FreshB tData tDatas pd_int pd_bl pd_non pd_str pd_neg pd_pow pda_nil pda_cons pd_tup pd_lst pd_dct dv_cut dv_cat tup_at rRepr call_repr rIsD call_isD
local macro_rules | `(tactic| walk_at "d") => `(tactic| try dsimp only [tfOf, startD, slotD, putD, wipeD, dV, dC, dOp, dUn, dNil, dCons, dConsW, dConsF, dCallV, dCall, datsOf, dCB, dTup, dLst, dIf, dTst, dCmp, dCmpV, dChain, dNot, dAnd, dOr, dAndV, dOrV, dNotV, dTb, sSeq, sNx, sSet, sRet, sRetN, sIf, sExpr, sBrk, sCont, sPar, sPar3, lenK, gdN, gdNil, gdCons, sAsg, sFor, iLst, iTpl, iRg1, iRg2, iZp, dYes, dLc, dLc2, dNoP, dPart, dSl, dSlS, sOwn, ownK, sApp, sAppL, sSetL, sIfL, sInsL, sTry1, dOwnLst, fLstL, sExt, sIns, sPut, sFrz, dOwnLen, dOwnIx, sRaise, sAug, t_draw, nthL, e_int, e_int0, e_add, e_addT, e_addL, e_addSI, e_addST, e_shl, e_ci, e_eqI, e_eqS, e_eqB, e_neI, e_neS, e_neB, e_isN, e_notN, e_nthT, e_nthL, e_lenT, e_lenL, e_i1, e_i2, e_lcm, e_intO, e_intB, e_isqrt, e_divmod, e_repr, e_reprS, e_tupL, e_tupT, e_lst, e_truB, e_truI, e_truN, e_truL, e_truT, e_neg, e_bits, e_back, e_backL, e_slT, e_slL, e_slST, e_gdT, e_gdL, Ld.isNon])
local macro_rules | `(tactic| walk_at "u") => `(tactic| (dsimp only; walk_at "d"))

section
variable {R : RD} {Ex : XD}
/-! ### looks -/
theorem w_p_is_whole {d : PyData} (h : R (.bool (isWhole d))) : t_p_is_whole [.dat d] R Ex := by
  unfold t_p_is_whole b_p_is_whole
  walk_at "d"
  cases d <;> exact h
theorem w_p_is_fraction {d : PyData} (h : R (.bool (isFrB d))) : t_p_is_fraction [.dat d] R Ex := by
  unfold t_p_is_fraction b_p_is_fraction
  obtain ⟨k_p_is_whole, e_p_is_whole⟩ : ∃ k, t_p_is_whole = k := ⟨_, rfl⟩
  rw [e_p_is_whole]
  walk_at "d"
  rcases tup_or d with c | ⟨ds, rfl⟩
  · rw [(not_tup c).1] at h
    rw [c]
    exact difT (difT h)
  refine difF ?_
  walk_at "d"
  rcases ds with _ | ⟨x, _ | ⟨y, _ | ⟨z, r⟩⟩⟩
  · exact difT h
  · rw [fr_len (by simp)] at h
    exact difT h
  rotate_left
  · refine difN (fun _ => ?_) (fun c => ?_)
    · rw [fr_len (by simp)] at h
      exact h
    · simp at c
      omega
  refine difF ?_
  walk_at "d"
  refine st e_p_is_whole <| w_p_is_whole ?_
  walk_at "d"
  rcases whole_or x with c | ⟨i, rfl⟩
  · rw [c]
    rw [fr_whole (.inl c)] at h
    exact difT h
  refine difF ?_
  refine st e_p_is_whole <| w_p_is_whole ?_
  walk_at "d"
  rcases whole_or y with c | ⟨j, rfl⟩
  · rw [c]
    rw [fr_whole (.inr c)] at h
    exact difT h
  refine difF ?_
  have e : isFrB (.tuple [.int i, .int j]) = (decide (0 < j) && decide (gcdI i j = 1)) := rfl
  rw [e] at h
  refine difP (fun c => ?_) (fun c => ?_)
  · rw [decide_eq_true c, Bool.true_and] at h
    exact h
  · dsimp only
    rw [decide_eq_false c] at h ⊢
    exact h
theorem w_p_is_root {d : PyData} (f : fine 1600 d) (h : R (.bool (isRootB d))) : t_p_is_root [.dat d] R Ex := by
  unfold t_p_is_root b_p_is_root
  obtain ⟨k_p_is_whole, e_p_is_whole⟩ : ∃ k, t_p_is_whole = k := ⟨_, rfl⟩
  rw [e_p_is_whole]
  obtain ⟨k_p_is_square, e_p_is_square⟩ : ∃ k, t_p_is_square = k := ⟨_, rfl⟩
  rw [e_p_is_square]
  walk_at "d"
  rcases tup_or d with c | ⟨ds, rfl⟩
  · rw [(not_tup c).2] at h
    rw [c]
    exact difT (difT h)
  refine difF ?_
  walk_at "d"
  by_cases hl : ds.length = 4
  rotate_left
  · rw [root_len hl] at h
    refine difN (fun _ => difT h) (fun c => ?_)
    omega
  match ds, hl with
  | [x, y, z, u], _ =>
  walk_at "d"
  refine difF ?_
  rcases bool_or u with c | ⟨v, rfl⟩
  · rw [c]
    rw [root_whole (.inr (.inr (.inr c)))] at h
    exact difT h
  refine difF ?_
  refine st e_p_is_whole <| w_p_is_whole ?_
  walk_at "d"
  rcases whole_or x with c | ⟨i, rfl⟩
  · rw [c]
    rw [root_whole (.inl c)] at h
    exact difT (difT h)
  refine difF ?_
  refine st e_p_is_whole <| w_p_is_whole ?_
  walk_at "d"
  rcases whole_or y with c | ⟨j, rfl⟩
  · rw [c]
    rw [root_whole (.inr (.inl c))] at h
    exact difT (difT h)
  refine difF ?_
  refine st e_p_is_whole <| w_p_is_whole ?_
  walk_at "d"
  rcases whole_or z with c | ⟨l, rfl⟩
  · rw [c]
    rw [root_whole (.inr (.inr (.inl c)))] at h
    exact difT h
  refine difF ?_
  have e : isRootB (.tuple [.int i, .int j, .int l, .bool v]) = (decide (0 < i) && (decide (gcdI (gcdI i j) l = 1) && (decide (0 < under i j l) && !isSqB (under i j l)))) := rfl
  rw [e] at h
  refine difP (fun c => ?_) (fun c => difN (fun c2 => ?_) (fun c2 => ?_))
  · rw [decide_eq_false (show ¬ 0 < i by omega)] at h
    exact difT h
  · rw [decide_eq_false (show ¬ gcdI (gcdI i j) l = 1 from c2), Bool.false_and, Bool.and_false] at h
    exact h
  rw [decide_eq_true (show 0 < i by omega), decide_eq_true (show gcdI (gcdI i j) l = 1 from c2), Bool.true_and, Bool.true_and] at h
  obtain ⟨f1, f2, f3, _⟩ := f
  refine ⟨mulx_ok f2 f2 (by decide), mulx_ok (show (4 : Int).natAbs < 2 ^ 3 by decide) f1 (by decide), mulx_ok (mul_lt (show (4 : Int).natAbs < 2 ^ 3 by decide) f1) f3 (by decide), ?_⟩
  have w1 := mul_lt f2 f2
  have w2 := mul_lt (mul_lt (show (4 : Int).natAbs < 2 ^ 3 by decide) f1) f3
  have w3 := sub_lt (two_le w1 (show 1600 + 1600 ≤ 3300 by decide)) (two_le w2 (show 3 + 1600 + 1600 ≤ 3300 by decide))
  have eu : under i j l = j * j - 4 * i * l := rfl
  rw [← eu] at w3
  walk_at "d"
  rw [← eu]
  refine difP (fun c3 => ?_) (fun c3 => ?_)
  · rw [decide_eq_true c3, Bool.true_and] at h
    exact st e_p_is_square <| w_p_is_square (by omega) (two_le w3 (by decide)) h
  · rw [decide_eq_false c3] at h ⊢
    exact h
theorem w_p_is_number {d : PyData} (f : fine 1600 d) (h : R (.bool (isNumB d))) : t_p_is_number [.dat d] R Ex := by
  unfold isNumB at h
  unfold t_p_is_number b_p_is_number
  obtain ⟨k_p_is_fraction, e_p_is_fraction⟩ : ∃ k, t_p_is_fraction = k := ⟨_, rfl⟩
  rw [e_p_is_fraction]
  obtain ⟨k_p_is_root, e_p_is_root⟩ : ∃ k, t_p_is_root = k := ⟨_, rfl⟩
  rw [e_p_is_root]
  walk_at "d"
  refine st e_p_is_fraction <| w_p_is_fraction ?_
  walk_at "d"
  refine dif (fun c => ?_) (fun c => ?_)
  · rw [c, Bool.true_or] at h
    rw [c]
    exact h
  · rw [c, Bool.false_or] at h
    exact st e_p_is_root <| w_p_is_root f h
end

end My

set_option maxHeartbeats 4000000
namespace My
open PySem L2 Ld
open Lw hiding Dv DvAll FreshB tData tDatas pd_int pd_bl pd_non pd_str pd_neg pd_pow pda_nil pda_cons pd_tup pd_lst pd_dct dv_cut dv_cat tup_at rRepr call_repr rIsD call_isD
local macro_rules | `(tactic| walk_at "d") => `(tactic| try dsimp only [tfOf, startD, slotD, putD, wipeD, dV, dC, dOp, dUn, dNil, dCons, dConsW, dConsF, dCallV, dCall, datsOf, dCB, dTup, dLst, dIf, dTst, dCmp, dCmpV, dChain, dNot, dAnd, dOr, dAndV, dOrV, dNotV, dTb, sSeq, sNx, sSet, sRet, sRetN, sIf, sExpr, sBrk, sCont, sPar, sPar3, lenK, gdN, gdNil, gdCons, sAsg, sFor, iLst, iTpl, iRg1, iRg2, iZp, dYes, dLc, dLc2, dNoP, dPart, dSl, dSlS, sOwn, ownK, sApp, sAppL, sSetL, sIfL, sInsL, sTry1, dOwnLst, fLstL, sExt, sIns, sPut, sFrz, dOwnLen, dOwnIx, sRaise, sAug, t_draw, nthL, e_int, e_int0, e_add, e_addT, e_addL, e_addSI, e_addST, e_shl, e_ci, e_eqI, e_eqS, e_eqB, e_neI, e_neS, e_neB, e_isN, e_notN, e_nthT, e_nthL, e_lenT, e_lenL, e_i1, e_i2, e_lcm, e_intO, e_intB, e_isqrt, e_divmod, e_repr, e_reprS, e_tupL, e_tupT, e_lst, e_truB, e_truI, e_truN, e_truL, e_truT, e_neg, e_bits, e_back, e_backL, e_slT, e_slL, e_slST, e_gdT, e_gdL, Ld.isNon])
local macro_rules | `(tactic| walk_at "u") => `(tactic| (dsimp only; walk_at "d"))

section
variable {R : RD} {Ex : XD}
/-! ### floors -/
/-! ### products -/
theorem w_p_over_one_root {x y : PyData} {a b r w c d s v : Int} (h1 : NumD x a b r w) (h2 : NumD y c d s v) (f1 : Fine4 a b r w) (f2 : Fine4 c d s v) (hrs : r ≠ 0 → 0 ≤ r * s ∧ (r * s).natAbs < 2 ^ 13000) (h : R (.tuple ((one7 a b r w c d s v).map PyData.int))) :
    t_p_over_one_root [.dat x, .dat y] R Ex := by
  obtain ⟨z1, z2, z3, z4⟩ := f1
  obtain ⟨y1, y2, y3, y4⟩ := f2
  unfold one7 at h
  unfold t_p_over_one_root b_p_over_one_root
  obtain ⟨k_p_surd_of, e_p_surd_of⟩ : ∃ k, t_p_surd_of = k := ⟨_, rfl⟩
  rw [e_p_surd_of]
  walk_at "d"
  refine st e_p_surd_of <| w_p_surd_of h1 ?_
  unfold d4
  walk_at "d"
  refine st e_p_surd_of <| w_p_surd_of h2 ?_
  unfold d4
  walk_at "d"
  refine difP (fun e => ?_) (fun e => ?_)
  · rw [if_pos e] at h
    exact h
  · rw [if_neg e] at h
    obtain ⟨n0, n1⟩ := hrs e
    exact ⟨mulx_ok y1 z3 (by decide), mulx_ok z3 y3 (by decide), n0, n1, mulx_ok y2 (isq_small n1) (by decide), mulx_ok y4 z3 (by decide), h⟩
theorem w_p_multiply {x y : PyData} {a b r w c d s v a1 b1 w1 c1 d1 v1 r1 : Int} (h1 : NumD x a b r w) (h2 : NumD y c d s v) (f1 : Fine4 a b r w) (f2 : Fine4 c d s v) (hrs : r ≠ 0 → 0 ≤ r * s ∧ (r * s).natAbs < 2 ^ 13000)
    (e7 : one7 a b r w c d s v = [a1, b1, w1, c1, d1, v1, r1]) (x1 : a1.natAbs < 2 ^ 20000) (x2 : b1.natAbs < 2 ^ 20000) (x3 : w1.natAbs < 2 ^ 20000) (x4 : c1.natAbs < 2 ^ 20000) (x5 : d1.natAbs < 2 ^ 20000) (x6 : v1.natAbs < 2 ^ 20000) (x7 : r1.natAbs < 2 ^ 20000)
    (y1 : (a1 * c1 + b1 * d1 * r1).natAbs < 2 ^ 4000) (y2 : (a1 * d1 + b1 * c1).natAbs < 2 ^ 4000) (y3 : r1.natAbs < 2 ^ 4000) (y4 : (w1 * v1).natAbs < 2 ^ 4000) (nz : w1 * v1 ≠ 0) (nsq : a1 * d1 + b1 * c1 ≠ 0 → isSqB r1 = false)
    (h : R (formD (a1 * c1 + b1 * d1 * r1) (a1 * d1 + b1 * c1) r1 (w1 * v1))) : t_p_multiply [.dat x, .dat y] R Ex := by
  unfold t_p_multiply b_p_multiply
  obtain ⟨k_p_over_one_root, e_p_over_one_root⟩ : ∃ k, t_p_over_one_root = k := ⟨_, rfl⟩
  rw [e_p_over_one_root]
  obtain ⟨k_p_number_of, e_p_number_of⟩ : ∃ k, t_p_number_of = k := ⟨_, rfl⟩
  rw [e_p_number_of]
  walk_at "d"
  refine st e_p_over_one_root <| w_p_over_one_root h1 h2 f1 f2 hrs ?_
  rw [e7]
  walk_at "d"
  refine ⟨mulx_ok x1 x4 (by decide), mulx_ok x2 x5 (by decide), mulx_ok (mul_lt x2 x5) x7 (by decide), mulx_ok x1 x5 (by decide), mulx_ok x2 x4 (by decide), mulx_ok x3 x6 (by decide), ?_⟩
  exact st e_p_number_of <| w_p_number_of y1 y2 y3 y4 nz nsq h
end

end My

set_option maxHeartbeats 4000000
namespace My
open PySem L2 Ld
open Lw hiding Dv DvAll FreshB tData tDatas pd_int pd_bl pd_non pd_str pd_neg pd_pow pda_nil pda_cons pd_tup pd_lst pd_dct dv_cut dv_cat tup_at rRepr call_repr rIsD call_isD
local macro_rules | `(tactic| walk_at "d") => `(tactic| try dsimp only [tfOf, startD, slotD, putD, wipeD, dV, dC, dOp, dUn, dNil, dCons, dConsW, dConsF, dCallV, dCall, datsOf, dCB, dTup, dLst, dIf, dTst, dCmp, dCmpV, dChain, dNot, dAnd, dOr, dAndV, dOrV, dNotV, dTb, sSeq, sNx, sSet, sRet, sRetN, sIf, sExpr, sBrk, sCont, sPar, sPar3, lenK, gdN, gdNil, gdCons, sAsg, sFor, iLst, iTpl, iRg1, iRg2, iZp, dYes, dLc, dLc2, dNoP, dPart, dSl, dSlS, sOwn, ownK, sApp, sAppL, sSetL, sIfL, sInsL, sTry1, dOwnLst, fLstL, sExt, sIns, sPut, sFrz, dOwnLen, dOwnIx, sRaise, sAug, t_draw, nthL, e_int, e_int0, e_add, e_addT, e_addL, e_addSI, e_addST, e_shl, e_ci, e_eqI, e_eqS, e_eqB, e_neI, e_neS, e_neB, e_isN, e_notN, e_nthT, e_nthL, e_lenT, e_lenL, e_i1, e_i2, e_lcm, e_intO, e_intB, e_isqrt, e_divmod, e_repr, e_reprS, e_tupL, e_tupT, e_lst, e_truB, e_truI, e_truN, e_truL, e_truT, e_neg, e_bits, e_back, e_backL, e_slT, e_slL, e_slST, e_gdT, e_gdL, Ld.isNon])
local macro_rules | `(tactic| walk_at "u") => `(tactic| (dsimp only; walk_at "d"))

section
variable {R : RD} {Ex : XD}
/-! ### draws -/
theorem w_l_draw {n : Int} (h0 : 0 < n) (h1 : n < 2 ^ 64) (h : ∀ k, 0 ≤ k → k < n → R (.int k)) : t_l_draw [.well, .dat (.int n)] R Ex := ⟨h0, h1, h⟩
theorem atD_mem {ds : List PyData} {k : Int} (h0 : 0 ≤ k) (h1 : k < ds.length) : ∃ d, d ∈ ds ∧ atD ds k = some d := by
  obtain ⟨n, rfl⟩ := Int.eq_ofNat_of_zero_le h0
  have hi : n < ds.length := by omega
  refine ⟨ds[n], List.getElem_mem hi, ?_⟩
  unfold atD ixN
  rw [if_pos h0, if_pos h1]
  simp [hi]
theorem ix_any {ds : List PyData} {k : Int} (h0 : 0 ≤ k) (h1 : k < ds.length) (h : ∀ d ∈ ds, R d) : fIx (.tuple ds) (.int k) R := by
  obtain ⟨d, hd, e⟩ := atD_mem h0 h1
  rw [e_ixT, e]
  exact h d hd
theorem w_l_pick {ds : List PyData} (h0 : 0 < ds.length) (h1 : ds.length < 1000) (h : ∀ d ∈ ds, R d) : t_l_pick [.well, .dat (.tuple ds)] R Ex := by
  unfold t_l_pick b_l_pick
  obtain ⟨k_l_draw, e_l_draw⟩ : ∃ k, t_l_draw = k := ⟨_, rfl⟩
  rw [e_l_draw]
  walk_at "d"
  refine st e_l_draw <| w_l_draw (by omega) (by omega) fun k k0 k1 => ?_
  exact ix_any k0 k1 h
theorem w_l_small (h : ∀ a b : Int, IsFr a b → a.natAbs ≤ 6 → b.natAbs ≤ 4 → R (.tuple [.int a, .int b])) : t_l_small [.well] R Ex := by
  unfold t_l_small b_l_small
  obtain ⟨k_l_draw, e_l_draw⟩ : ∃ k, t_l_draw = k := ⟨_, rfl⟩
  rw [e_l_draw]
  obtain ⟨k_l_lean, e_l_lean⟩ : ∃ k, t_l_lean = k := ⟨_, rfl⟩
  rw [e_l_lean]
  walk_at "d"
  refine st e_l_draw <| w_l_draw (by decide) (by decide) fun k k0 k1 => ?_
  walk_at "d"
  refine difP (fun _ => ?_) (fun _ => ?_)
  · refine st e_l_draw <| w_l_draw (by decide) (by decide) fun j j0 j1 => ?_
    refine ix_any j0 j1 fun d hd => ?_
    simp only [List.mem_cons, List.not_mem_nil, or_false] at hd
    rcases hd with h' | h' | h' | h' | h' | h' | h' | h' <;> (subst h'; exact h _ _ ⟨by decide, by decide⟩ (by decide) (by decide))
  · refine st e_l_draw <| w_l_draw (by decide) (by decide) fun j j0 j1 => ?_
    refine st e_l_draw <| w_l_draw (by decide) (by decide) fun i i0 i1 => ?_
    have b0 : (0 : Int) < 2 + i := by omega
    have le := red_le (a := j - 6) b0
    exact st e_l_lean <| w_l_lean (by omega) (two_le (m := 60) (by omega) (by decide)) (show R (fracD (j - 6) (2 + i)) from h _ _ (red_fr b0) (by omega) (by omega))
/-- a number drawn -/
def Drawn (a b r d : Int) : Prop := a.natAbs < 2 ^ 80 ∧ b.natAbs < 2 ^ 80 ∧ r.natAbs < 2 ^ 80 ∧ d.natAbs < 2 ^ 80 ∧ 0 ≤ r ∧ 0 < d
theorem Drawn.numb {a b r d : Int} (h : Drawn a b r d) : Numb a b r d := ⟨two_le h.1 (by decide), two_le h.2.1 (by decide), two_le h.2.2.1 (by decide), two_le h.2.2.2.1 (by decide), h.2.2.2.2.1, h.2.2.2.2.2⟩
theorem fl_small {a b r d m : Int} (za : a.natAbs < 2 ^ 80) (zb : b.natAbs < 2 ^ 80) (zr : r.natAbs < 2 ^ 80) (zm : m.natAbs < 2 ^ 31) : (flN a b r d m).natAbs < 2 ^ 158 := by
  have e : topF a b r m = (if 0 ≤ b then m * a + isq (sqX b r m) else m * a - isq (sqX b r m) - (if isq (sqX b r m) * isq (sqX b r m) = sqX b r m then 0 else 1)) := rfl
  have w1 := two_le (mul_lt zm za) (show 31 + 80 ≤ 151 by decide)
  have w2 : (sqX b r m).natAbs < 2 ^ (151 + 151) := by
    have e2 : sqX b r m = m * b * (m * b) * r := by
      unfold sqX
      grind
    have y := mul_lt zm zb
    have y2 := mul_lt (mul_lt y y) zr
    rw [e2]
    exact two_le y2 (by decide)
  have w3 := isq_half w2
  have w6 : (topF a b r m).natAbs < 2 ^ 158 := by
    rw [e]
    split
    · omega
    · split <;> omega
  have w7 : (flN a b r d m).natAbs ≤ (topF a b r m).natAbs := Int.natAbs_ediv_le_natAbs _ _
  omega
end

end My

set_option maxHeartbeats 4000000
namespace My
open PySem L2 Ld
open Lw hiding Dv DvAll FreshB tData tDatas pd_int pd_bl pd_non pd_str pd_neg pd_pow pda_nil pda_cons pd_tup pd_lst pd_dct dv_cut dv_cat tup_at rRepr call_repr rIsD call_isD
local macro_rules | `(tactic| walk_at "d") => `(tactic| try dsimp only [tfOf, startD, slotD, putD, wipeD, dV, dC, dOp, dUn, dNil, dCons, dConsW, dConsF, dCallV, dCall, datsOf, dCB, dTup, dLst, dIf, dTst, dCmp, dCmpV, dChain, dNot, dAnd, dOr, dAndV, dOrV, dNotV, dTb, sSeq, sNx, sSet, sRet, sRetN, sIf, sExpr, sBrk, sCont, sPar, sPar3, lenK, gdN, gdNil, gdCons, sAsg, sFor, iLst, iTpl, iRg1, iRg2, iZp, dYes, dLc, dLc2, dNoP, dPart, dSl, dSlS, sOwn, ownK, sApp, sAppL, sSetL, sIfL, sInsL, sTry1, dOwnLst, fLstL, sExt, sIns, sPut, sFrz, dOwnLen, dOwnIx, sRaise, sAug, t_draw, nthL, e_int, e_int0, e_add, e_addT, e_addL, e_addSI, e_addST, e_shl, e_ci, e_eqI, e_eqS, e_eqB, e_neI, e_neS, e_neB, e_isN, e_notN, e_nthT, e_nthL, e_lenT, e_lenL, e_i1, e_i2, e_lcm, e_intO, e_intB, e_isqrt, e_divmod, e_repr, e_reprS, e_tupL, e_tupT, e_lst, e_truB, e_truI, e_truN, e_truL, e_truT, e_neg, e_bits, e_back, e_backL, e_slT, e_slL, e_slST, e_gdT, e_gdL, Ld.isNon])
local macro_rules | `(tactic| walk_at "u") => `(tactic| (dsimp only; walk_at "d"))

section
variable {R : RD} {Ex : XD}
/-! ### sums, opposites, one field -/
theorem w_p_add {x y : PyData} {a b r w c d s v a1 b1 w1 c1 d1 v1 r1 : Int} (h1 : NumD x a b r w) (h2 : NumD y c d s v) (f1 : Fine4 a b r w) (f2 : Fine4 c d s v) (hrs : r ≠ 0 → 0 ≤ r * s ∧ (r * s).natAbs < 2 ^ 13000)
    (e7 : one7 a b r w c d s v = [a1, b1, w1, c1, d1, v1, r1]) (x1 : a1.natAbs < 2 ^ 20000) (x2 : b1.natAbs < 2 ^ 20000) (x3 : w1.natAbs < 2 ^ 20000) (x4 : c1.natAbs < 2 ^ 20000) (x5 : d1.natAbs < 2 ^ 20000) (x6 : v1.natAbs < 2 ^ 20000)
    (y1 : (a1 * v1 + c1 * w1).natAbs < 2 ^ 4000) (y2 : (b1 * v1 + d1 * w1).natAbs < 2 ^ 4000) (y3 : r1.natAbs < 2 ^ 4000) (y4 : (w1 * v1).natAbs < 2 ^ 4000) (nz : w1 * v1 ≠ 0) (nsq : b1 * v1 + d1 * w1 ≠ 0 → isSqB r1 = false)
    (h : R (formD (a1 * v1 + c1 * w1) (b1 * v1 + d1 * w1) r1 (w1 * v1))) : t_p_add [.dat x, .dat y] R Ex := by
  unfold t_p_add b_p_add
  obtain ⟨k_p_over_one_root, e_p_over_one_root⟩ : ∃ k, t_p_over_one_root = k := ⟨_, rfl⟩
  rw [e_p_over_one_root]
  obtain ⟨k_p_number_of, e_p_number_of⟩ : ∃ k, t_p_number_of = k := ⟨_, rfl⟩
  rw [e_p_number_of]
  walk_at "d"
  refine st e_p_over_one_root <| w_p_over_one_root h1 h2 f1 f2 hrs ?_
  rw [e7]
  walk_at "d"
  refine ⟨mulx_ok x1 x6 (by decide), mulx_ok x4 x3 (by decide), mulx_ok x2 x6 (by decide), mulx_ok x5 x3 (by decide), mulx_ok x3 x6 (by decide), ?_⟩
  exact st e_p_number_of <| w_p_number_of y1 y2 y3 y4 nz nsq h
theorem w_p_negative {x : PyData} {a b r d : Int} (hn : NumD x a b r d) (h : ∀ y, NumD y (-a) (-b) r d → R y) : t_p_negative [.dat x] R Ex := by
  unfold t_p_negative b_p_negative
  walk_at "d"
  rcases hn with ⟨rfl, rfl, rfl⟩ | ⟨x, y, z, u, rfl, rfl, rfl, rfl, rfl, z1, z2, z3⟩
  · exact h _ (.inl ⟨rfl, rfl, rfl⟩)
  · refine h _ (.inr ⟨x, -y, z, !u, rfl, by omega, ?_, by grind, rfl, z1, by omega, z3⟩)
    cases u <;> rfl
theorem w_p_subtract {x y : PyData} {c d s v : Int} (h2 : NumD y c d s v) (h : ∀ z, NumD z (-c) (-d) s v → t_p_add [.dat x, .dat z] R Ex) : t_p_subtract [.dat x, .dat y] R Ex := by
  unfold t_p_subtract b_p_subtract
  obtain ⟨k_p_add, e_p_add⟩ : ∃ k, t_p_add = k := ⟨_, rfl⟩
  rw [e_p_add]
  obtain ⟨k_p_negative, e_p_negative⟩ : ∃ k, t_p_negative = k := ⟨_, rfl⟩
  rw [e_p_negative]
  walk_at "d"
  refine st e_p_negative <| w_p_negative h2 fun z nz => ?_
  rw [← e_p_add]
  exact h z nz
theorem w_p_have_one_field {x y : PyData} {a b r w c d s v : Int} (h1 : NumD x a b r w) (h2 : NumD y c d s v) (z1 : r.natAbs < 2 ^ 5000) (z2 : s.natAbs < 2 ^ 5000) (n1 : 0 ≤ r) (n2 : 0 ≤ s) (h : R (.bool (isSqB (r * s)))) : t_p_have_one_field [.dat x, .dat y] R Ex := by
  unfold t_p_have_one_field b_p_have_one_field
  obtain ⟨k_p_is_square, e_p_is_square⟩ : ∃ k, t_p_is_square = k := ⟨_, rfl⟩
  rw [e_p_is_square]
  obtain ⟨k_p_discriminant, e_p_discriminant⟩ : ∃ k, t_p_discriminant = k := ⟨_, rfl⟩
  rw [e_p_discriminant]
  walk_at "d"
  refine st e_p_discriminant <| w_p_discriminant h1 ?_
  refine st e_p_discriminant <| w_p_discriminant h2 ⟨mulx_ok z1 z2 (by decide), ?_⟩
  exact st e_p_is_square <| w_p_is_square (Int.mul_nonneg n1 n2) (two_le (mul_lt z1 z2) (by decide)) h
end

end My

set_option maxHeartbeats 4000000
namespace My
open PySem L2 Ld
open Lw hiding Dv DvAll FreshB tData tDatas pd_int pd_bl pd_non pd_str pd_neg pd_pow pda_nil pda_cons pd_tup pd_lst pd_dct dv_cut dv_cat tup_at rRepr call_repr rIsD call_isD
local macro_rules | `(tactic| walk_at "d") => `(tactic| try dsimp only [tfOf, startD, slotD, putD, wipeD, dV, dC, dOp, dUn, dNil, dCons, dConsW, dConsF, dCallV, dCall, datsOf, dCB, dTup, dLst, dIf, dTst, dCmp, dCmpV, dChain, dNot, dAnd, dOr, dAndV, dOrV, dNotV, dTb, sSeq, sNx, sSet, sRet, sRetN, sIf, sExpr, sBrk, sCont, sPar, sPar3, lenK, gdN, gdNil, gdCons, sAsg, sFor, iLst, iTpl, iRg1, iRg2, iZp, dYes, dLc, dLc2, dNoP, dPart, dSl, dSlS, sOwn, ownK, sApp, sAppL, sSetL, sIfL, sInsL, sTry1, dOwnLst, fLstL, sExt, sIns, sPut, sFrz, dOwnLen, dOwnIx, sRaise, sAug, t_draw, nthL, e_int, e_int0, e_add, e_addT, e_addL, e_addSI, e_addST, e_shl, e_ci, e_eqI, e_eqS, e_eqB, e_neI, e_neS, e_neB, e_isN, e_notN, e_nthT, e_nthL, e_lenT, e_lenL, e_i1, e_i2, e_lcm, e_intO, e_intB, e_isqrt, e_divmod, e_repr, e_reprS, e_tupL, e_tupT, e_lst, e_truB, e_truI, e_truN, e_truL, e_truT, e_neg, e_bits, e_back, e_backL, e_slT, e_slL, e_slST, e_gdT, e_gdL, Ld.isNon])
local macro_rules | `(tactic| walk_at "u") => `(tactic| (dsimp only; walk_at "d"))

section
variable {R : RD} {Ex : XD}
/-! ### numbers of one root by their values -/
theorem w_p_addS {a b c e r d v : Int} (z : Bd a b r d) (z2 : Bd c e r v) (hd : 0 < d) (hv : 0 < v) (hr : 0 ≤ r) (h : R (formD (a * v + c * d) (b * v + e * d) r (d * v))) : t_p_add [.dat (formD a b r d), .dat (formD c e r v)] R Ex := by
  obtain ⟨a', b', r', d', c', e', s', v', a1, b1, w1, c1, d1, v1, r1, h1, h2, f1, f2, hrs, e7, t⟩ := two_d z z2 hd hv hr
  rw [← t.sum] at h
  exact w_p_add h1 h2 f1 f2 hrs e7 t.x1 t.x2 t.x3 t.x4 t.x5 t.x6 t.s1 t.s2 t.x7 t.dd t.nz t.sq1 h
theorem w_p_mulS {a b c e r d v : Int} (z : Bd a b r d) (z2 : Bd c e r v) (hd : 0 < d) (hv : 0 < v) (hr : 0 ≤ r) (h : R (formD (a * c + b * e * r) (a * e + b * c) r (d * v))) : t_p_multiply [.dat (formD a b r d), .dat (formD c e r v)] R Ex := by
  obtain ⟨a', b', r', d', c', e', s', v', a1, b1, w1, c1, d1, v1, r1, h1, h2, f1, f2, hrs, e7, t⟩ := two_d z z2 hd hv hr
  rw [← t.mul] at h
  exact w_p_multiply h1 h2 f1 f2 hrs e7 t.x1 t.x2 t.x3 t.x4 t.x5 t.x6 (two_le t.x7 (by decide)) t.m1 t.m2 t.x7 t.dd t.nz t.sq2 h
theorem w_p_negD {x : PyData} (hx : (∃ i j : Int, x = .tuple [.int i, .int j]) ∨ ∃ (p q s : Int) (u : Bool), x = .tuple [.int p, .int q, .int s, .bool u]) (h : R (negD x)) : t_p_negative [.dat x] R Ex := by
  unfold t_p_negative b_p_negative
  walk_at "d"
  rcases hx with ⟨i, j, rfl⟩ | ⟨p, q, s, u, rfl⟩
  · exact h
  · exact h
theorem form_shape (a b r d : Int) : (∃ i j : Int, formD a b r d = .tuple [.int i, .int j]) ∨ ∃ (p q s : Int) (u : Bool), formD a b r d = .tuple [.int p, .int q, .int s, .bool u] := by
  unfold formD
  split
  · exact .inl ⟨_, _, rfl⟩
  · exact .inr ⟨_, _, _, _, rfl⟩
theorem w_p_negS {a b r d : Int} (hd : 0 < d) (h : R (formD (-a) (-b) r d)) : t_p_negative [.dat (formD a b r d)] R Ex := w_p_negD (form_shape a b r d) (by rw [form_neg hd]; exact h)
theorem w_p_subS {a b c e r d v : Int} (z : Bd a b r d) (z2 : Bd c e r v) (hd : 0 < d) (hv : 0 < v) (hr : 0 ≤ r) (h : R (formD (a * v - c * d) (b * v - e * d) r (d * v))) : t_p_subtract [.dat (formD a b r d), .dat (formD c e r v)] R Ex := by
  unfold t_p_subtract b_p_subtract
  obtain ⟨k_p_add, e_p_add⟩ : ∃ k, t_p_add = k := ⟨_, rfl⟩
  rw [e_p_add]
  obtain ⟨k_p_negative, e_p_negative⟩ : ∃ k, t_p_negative = k := ⟨_, rfl⟩
  rw [e_p_negative]
  walk_at "d"
  refine st e_p_negative <| w_p_negS hv (st e_p_add <| w_p_addS z z2.neg hd hv hr ?_)
  have e1 : a * v + -c * d = a * v - c * d := by grind
  have e2 : b * v + -e * d = b * v - e * d := by grind
  rw [e1, e2]
  exact h
theorem w_p_sqS {a b r d : Int} (z : Bd a b r d) (hd : 0 < d) (hr : 0 ≤ r) (h : R (formD (a * a + b * b * r) (a * b + b * a) r (d * d))) : t_p_squared [.dat (formD a b r d)] R Ex := by
  unfold t_p_squared b_p_squared
  obtain ⟨k_p_multiply, e_p_multiply⟩ : ∃ k, t_p_multiply = k := ⟨_, rfl⟩
  rw [e_p_multiply]
  walk_at "d"
  exact st e_p_multiply <| w_p_mulS z z hd hd hr h
/-! fractions -/
theorem w_p_addF {p q m n : Int} (z1 : p.natAbs < 2 ^ 450) (z2 : q.natAbs < 2 ^ 450) (z3 : m.natAbs < 2 ^ 450) (z4 : n.natAbs < 2 ^ 450) (hq : 0 < q) (hn : 0 < n) (h : R (fracD (p * n + m * q) (q * n))) : t_p_add [.dat (fracD p q), .dat (fracD m n)] R Ex := by
  rw [← form_zero p 0, ← form_zero m 0]
  refine w_p_addS (.fr z1 z2 (by decide)) (.fr z3 z4 (by decide)) hq hn (by decide) ?_
  have e : (0 * n + 0 * q : Int) = 0 := by grind
  rw [e, form_zero]
  exact h
theorem w_p_subF {p q m n : Int} (z1 : p.natAbs < 2 ^ 450) (z2 : q.natAbs < 2 ^ 450) (z3 : m.natAbs < 2 ^ 450) (z4 : n.natAbs < 2 ^ 450) (hq : 0 < q) (hn : 0 < n) (h : R (fracD (p * n - m * q) (q * n))) : t_p_subtract [.dat (fracD p q), .dat (fracD m n)] R Ex := by
  rw [← form_zero p 0, ← form_zero m 0]
  refine w_p_subS (.fr z1 z2 (by decide)) (.fr z3 z4 (by decide)) hq hn (by decide) ?_
  have e : (0 * n - 0 * q : Int) = 0 := by grind
  rw [e, form_zero]
  exact h
theorem w_p_mulF {p q m n : Int} (z1 : p.natAbs < 2 ^ 450) (z2 : q.natAbs < 2 ^ 450) (z3 : m.natAbs < 2 ^ 450) (z4 : n.natAbs < 2 ^ 450) (hq : 0 < q) (hn : 0 < n) (h : R (fracD (p * m) (q * n))) : t_p_multiply [.dat (fracD p q), .dat (fracD m n)] R Ex := by
  rw [← form_zero p 0, ← form_zero m 0]
  refine w_p_mulS (.fr z1 z2 (by decide)) (.fr z3 z4 (by decide)) hq hn (by decide) ?_
  have e : (p * 0 + 0 * m : Int) = 0 := by grind
  have e2 : (p * m + 0 * 0 * 0 : Int) = p * m := by grind
  rw [e, e2, form_zero]
  exact h
theorem w_p_sqF {p q : Int} (z1 : p.natAbs < 2 ^ 450) (z2 : q.natAbs < 2 ^ 450) (hq : 0 < q) (h : R (fracD (p * p) (q * q))) : t_p_squared [.dat (fracD p q)] R Ex := by
  unfold t_p_squared b_p_squared
  obtain ⟨k_p_multiply, e_p_multiply⟩ : ∃ k, t_p_multiply = k := ⟨_, rfl⟩
  rw [e_p_multiply]
  walk_at "d"
  exact st e_p_multiply <| w_p_mulF z1 z2 z1 z2 hq hq h
end

end My

set_option maxHeartbeats 4000000
namespace My
open PySem L2 Ld
open Lw hiding Dv DvAll FreshB tData tDatas pd_int pd_bl pd_non pd_str pd_neg pd_pow pda_nil pda_cons pd_tup pd_lst pd_dct dv_cut dv_cat tup_at rRepr call_repr rIsD call_isD
local macro_rules | `(tactic| walk_at "d") => `(tactic| try dsimp only [tfOf, startD, slotD, putD, wipeD, dV, dC, dOp, dUn, dNil, dCons, dConsW, dConsF, dCallV, dCall, datsOf, dCB, dTup, dLst, dIf, dTst, dCmp, dCmpV, dChain, dNot, dAnd, dOr, dAndV, dOrV, dNotV, dTb, sSeq, sNx, sSet, sRet, sRetN, sIf, sExpr, sBrk, sCont, sPar, sPar3, lenK, gdN, gdNil, gdCons, sAsg, sFor, iLst, iTpl, iRg1, iRg2, iZp, dYes, dLc, dLc2, dNoP, dPart, dSl, dSlS, sOwn, ownK, sApp, sAppL, sSetL, sIfL, sInsL, sTry1, dOwnLst, fLstL, sExt, sIns, sPut, sFrz, dOwnLen, dOwnIx, sRaise, sAug, t_draw, nthL, e_int, e_int0, e_add, e_addT, e_addL, e_addSI, e_addST, e_shl, e_ci, e_eqI, e_eqS, e_eqB, e_neI, e_neS, e_neB, e_isN, e_notN, e_nthT, e_nthL, e_lenT, e_lenL, e_i1, e_i2, e_lcm, e_intO, e_intB, e_isqrt, e_divmod, e_repr, e_reprS, e_tupL, e_tupT, e_lst, e_truB, e_truI, e_truN, e_truL, e_truT, e_neg, e_bits, e_back, e_backL, e_slT, e_slL, e_slST, e_gdT, e_gdL, Ld.isNon])
local macro_rules | `(tactic| walk_at "u") => `(tactic| (dsimp only; walk_at "d"))

section
variable {R : RD} {Ex : XD}
/-! ### the program's curves -/
/-- a curve told by fractions -/
def cvF (k : Str) (a b c d e f : Int) : PyData := .tuple [.str k, fracD a b, fracD c d, fracD e f]
/-- a place of fractions -/
def plF (a b c d : Int) : PyData := .tuple [fracD a b, fracD c d]
theorem w_p_value_line {A B C L u v m : Int} {n k : Nat} (hn : 2 * n + 2 * k + 2 ≤ 450) (zA : A.natAbs < 2 ^ n) (zB : B.natAbs < 2 ^ n) (zC : C.natAbs < 2 ^ n) (zL : L.natAbs < 2 ^ n) (zu : u.natAbs < 2 ^ k) (zv : v.natAbs < 2 ^ k) (zm : m.natAbs < 2 ^ k) (hL : 0 < L) (hm : 0 < m)
    (h : R (fracD (A * u + B * v - C * m) (L * m))) : t_p_value_at [.dat (cvF "line" A L B L C L), .dat (plF u m v m)] R Ex := by
  have LM := Int.mul_pos hL hm
  have w1 := mul_lt zA zu
  have w2 := mul_lt zB zv
  have w3 := mul_lt zL zm
  unfold cvF plF
  unfold t_p_value_at b_p_value_at
  obtain ⟨k_p_subtract, e_p_subtract⟩ : ∃ k, t_p_subtract = k := ⟨_, rfl⟩
  rw [e_p_subtract]
  obtain ⟨k_p_add, e_p_add⟩ : ∃ k, t_p_add = k := ⟨_, rfl⟩
  rw [e_p_add]
  obtain ⟨k_p_multiply, e_p_multiply⟩ : ∃ k, t_p_multiply = k := ⟨_, rfl⟩
  rw [e_p_multiply]
  obtain ⟨k_p_squared, e_p_squared⟩ : ∃ k, t_p_squared = k := ⟨_, rfl⟩
  rw [e_p_squared]
  walk_at "d"
  refine difT ?_
  refine st e_p_multiply <| w_p_mulF (two_le zA (by omega)) (two_le zL (by omega)) (two_le zu (by omega)) (two_le zm (by omega)) hL hm ?_
  walk_at "d"
  refine st e_p_multiply <| w_p_mulF (two_le zB (by omega)) (two_le zL (by omega)) (two_le zv (by omega)) (two_le zm (by omega)) hL hm ?_
  refine st e_p_add <| w_p_addF (two_le w1 (by omega)) (two_le w3 (by omega)) (two_le w2 (by omega)) (two_le w3 (by omega)) LM LM ?_
  rw [frac_congr (c := A * u + B * v) (d := L * m) (Int.mul_pos LM LM) LM (by grind)]
  refine st e_p_subtract <| w_p_subF (two_le (add_lt w1 w2) (by omega)) (two_le w3 (by omega)) (two_le zC (by omega)) (two_le zL (by omega)) LM hL ?_
  rw [frac_congr (c := A * u + B * v - C * m) (d := L * m) (Int.mul_pos LM hL) LM (by grind)]
  exact h
/-- a circle's value at (0, 0) -/
theorem w_p_value_zero {u v t m : Int} {k : Nat} (hn : 4 * k + 2 ≤ 450) (zu : u.natAbs < 2 ^ k) (zv : v.natAbs < 2 ^ k) (zt : t.natAbs < 2 ^ k) (zm : m.natAbs < 2 ^ k) (hm : 0 < m)
    (h : R (fracD (u * u + v * v - t) (m * m))) : t_p_value_at [.dat (cvF "circle" u m v m t (m * m)), .dat (.tuple [.tuple [.int 0, .int 1], .tuple [.int 0, .int 1]])] R Ex := by
  have MM := Int.mul_pos hm hm
  have w0 := mul_lt zm zm
  have w1 := mul_lt zu zu
  have w2 := mul_lt zv zv
  have o : (.tuple [.int 0, .int 1] : PyData) = fracD 0 1 := by
    obtain ⟨h1, h2⟩ := fr_self (a := 0) (b := 1) ⟨by decide, by decide⟩
    unfold fracD
    rw [h1, h2]
  rw [o]
  unfold cvF
  unfold t_p_value_at b_p_value_at
  obtain ⟨k_p_subtract, e_p_subtract⟩ : ∃ k, t_p_subtract = k := ⟨_, rfl⟩
  rw [e_p_subtract]
  obtain ⟨k_p_add, e_p_add⟩ : ∃ k, t_p_add = k := ⟨_, rfl⟩
  rw [e_p_add]
  obtain ⟨k_p_multiply, e_p_multiply⟩ : ∃ k, t_p_multiply = k := ⟨_, rfl⟩
  rw [e_p_multiply]
  obtain ⟨k_p_squared, e_p_squared⟩ : ∃ k, t_p_squared = k := ⟨_, rfl⟩
  rw [e_p_squared]
  walk_at "d"
  refine difF ?_
  refine st e_p_subtract <| w_p_subF (by decide) (by decide) (two_le zu (by omega)) (two_le zm (by omega)) (by decide) hm ?_
  rw [show (0 * m - u * 1 : Int) = -u by grind, show (1 * m : Int) = m by grind]
  refine st e_p_squared <| w_p_sqF (two_le (m := k) (by omega) (by omega)) (two_le zm (by omega)) hm ?_
  walk_at "d"
  refine st e_p_subtract <| w_p_subF (by decide) (by decide) (two_le zv (by omega)) (two_le zm (by omega)) (by decide) hm ?_
  rw [show (0 * m - v * 1 : Int) = -v by grind, show (1 * m : Int) = m by grind]
  refine st e_p_squared <| w_p_sqF (two_le (m := k) (by omega) (by omega)) (two_le zm (by omega)) hm ?_
  rw [show -u * -u = u * u by grind, show -v * -v = v * v by grind]
  refine st e_p_add <| w_p_addF (two_le w1 (by omega)) (two_le w0 (by omega)) (two_le w2 (by omega)) (two_le w0 (by omega)) MM MM ?_
  rw [frac_congr (c := u * u + v * v) (d := m * m) (Int.mul_pos MM MM) MM (by grind)]
  refine st e_p_subtract <| w_p_subF (two_le (add_lt w1 w2) (by omega)) (two_le w0 (by omega)) (two_le zt (by omega)) (two_le w0 (by omega)) MM MM ?_
  rw [frac_congr (c := u * u + v * v - t) (d := m * m) (Int.mul_pos MM MM) MM (by grind)]
  exact h
/-! ### where a line and a circle cross -/
theorem red_sg {p q : Int} (hq : 0 < q) : (redN p q < 0 ↔ p < 0) ∧ (redN p q = 0 ↔ p = 0) := by
  have cr := red_cross (a := p) hq
  have d0 := (red_fr (a := p) hq).1
  have h : sg (redN p q) = sg p := by
    have h1 := congrArg sg cr
    rw [sg_mul, sg_mul, sg_pos hq, sg_pos d0, Int.mul_one, Int.mul_one] at h1
    exact h1
  constructor
  · constructor
    · intro k
      rw [sg_neg k] at h
      exact sg_val.2.2 h.symm
    · intro k
      rw [sg_neg k] at h
      exact sg_val.2.2 h
  · constructor
    · intro k
      rw [k, sg_zero] at h
      exact sg_val.1 h.symm
    · intro k
      subst k
      exact sg_val.1 h
def xyD (a b r c e d : Int) : PyData := .tuple [formD a b r d, formD c e r d]
/-- .. in their order, by the program and by the law -/
def chordP (A B C u v t m : Int) : List PyData :=
  let n := A * u + B * v - C * m
  let k := A * A + B * B
  let r := t * k - n * n
  let x := u * k - n * A
  let y := v * k - n * B
  let d := m * k
  if r < 0 then [] else if r = 0 then [plF x d y d] else
    if 0 < B ∨ (B = 0 ∧ A < 0) then [xyD x (-B) r y A d, xyD x B r y (-A) d] else [xyD x B r y (-A) d, xyD x (-B) r y A d]
theorem S3_two (u : Int) : S3 0 u u = sg u := by
  have h : S2 0 u = sg u := by
    unfold S2
    split
    · rename_i c
      rcases c with c | c
      · exact c
      · rw [c] <;> rfl
    · rfl
  unfold S3
  rw [h, if_pos (.inl rfl)]
theorem cmp_pm {x b r d : Int} (hd : 0 < d) (hr : 0 < r) : cmp x (-b) r d x b r d = - sg b := by
  unfold cmp
  have e1 : x * d - x * d = 0 := by omega
  have e2 : -b * d = 0 - b * d := by grind
  rw [e1, e2, S3_two, sg_mul, sg_ss, sg_pos hr, show 0 - b * d = -(b * d) by omega, sg_flip, sg_mul, sg_pos hd]
  grind
theorem cmp_mp {x b r d : Int} (hd : 0 < d) (hr : 0 < r) : cmp x b r d x (-b) r d = sg b := by
  have := cmp_pm (x := x) (b := -b) hd hr
  rw [Int.neg_neg, sg_flip] at this
  omega
end

end My

set_option maxHeartbeats 4000000
namespace My
open PySem L2 Ld
open Lw hiding Dv DvAll FreshB tData tDatas pd_int pd_bl pd_non pd_str pd_neg pd_pow pda_nil pda_cons pd_tup pd_lst pd_dct dv_cut dv_cat tup_at rRepr call_repr rIsD call_isD
local macro_rules | `(tactic| walk_at "d") => `(tactic| try dsimp only [tfOf, startD, slotD, putD, wipeD, dV, dC, dOp, dUn, dNil, dCons, dConsW, dConsF, dCallV, dCall, datsOf, dCB, dTup, dLst, dIf, dTst, dCmp, dCmpV, dChain, dNot, dAnd, dOr, dAndV, dOrV, dNotV, dTb, sSeq, sNx, sSet, sRet, sRetN, sIf, sExpr, sBrk, sCont, sPar, sPar3, lenK, gdN, gdNil, gdCons, sAsg, sFor, iLst, iTpl, iRg1, iRg2, iZp, dYes, dLc, dLc2, dNoP, dPart, dSl, dSlS, sOwn, ownK, sApp, sAppL, sSetL, sIfL, sInsL, sTry1, dOwnLst, fLstL, sExt, sIns, sPut, sFrz, dOwnLen, dOwnIx, sRaise, sAug, t_draw, nthL, e_int, e_int0, e_add, e_addT, e_addL, e_addSI, e_addST, e_shl, e_ci, e_eqI, e_eqS, e_eqB, e_neI, e_neS, e_neB, e_isN, e_notN, e_nthT, e_nthL, e_lenT, e_lenL, e_i1, e_i2, e_lcm, e_intO, e_intB, e_isqrt, e_divmod, e_repr, e_reprS, e_tupL, e_tupT, e_lst, e_truB, e_truI, e_truN, e_truL, e_truT, e_neg, e_bits, e_back, e_backL, e_slT, e_slL, e_slST, e_gdT, e_gdL, Ld.isNon])
local macro_rules | `(tactic| walk_at "u") => `(tactic| (dsimp only; walk_at "d"))

section
variable {R : RD} {Ex : XD}
/-! ### the law's own fractions and curves -/
def fd (a b : Int) : PyData := .tuple [.int a, .int b]
theorem w_l_mul {a b c d : Int} (z1 : a.natAbs < 2 ^ 3000) (z2 : b.natAbs < 2 ^ 3000) (z3 : c.natAbs < 2 ^ 3000) (z4 : d.natAbs < 2 ^ 3000) (hb : b ≠ 0) (hd : d ≠ 0) (h : R (fracD (a * c) (b * d))) : t_l_mul [.dat (fd a b), .dat (fd c d)] R Ex := by
  unfold fd
  unfold t_l_mul b_l_mul
  obtain ⟨k_l_lean, e_l_lean⟩ : ∃ k, t_l_lean = k := ⟨_, rfl⟩
  rw [e_l_lean]
  walk_at "d"
  exact ⟨mulx_ok z1 z3 (by decide), mulx_ok z2 z4 (by decide), st e_l_lean <| w_l_lean (Int.mul_ne_zero hb hd) (two_le (mul_lt z2 z4) (by decide)) h⟩
theorem w_l_add {a b c d : Int} (z1 : a.natAbs < 2 ^ 3000) (z2 : b.natAbs < 2 ^ 3000) (z3 : c.natAbs < 2 ^ 3000) (z4 : d.natAbs < 2 ^ 3000) (hb : b ≠ 0) (hd : d ≠ 0) (h : R (fracD (a * d + c * b) (b * d))) : t_l_add [.dat (fd a b), .dat (fd c d)] R Ex := by
  unfold fd
  unfold t_l_add b_l_add
  obtain ⟨k_l_lean, e_l_lean⟩ : ∃ k, t_l_lean = k := ⟨_, rfl⟩
  rw [e_l_lean]
  walk_at "d"
  exact ⟨mulx_ok z1 z4 (by decide), mulx_ok z3 z2 (by decide), mulx_ok z2 z4 (by decide), st e_l_lean <| w_l_lean (Int.mul_ne_zero hb hd) (two_le (mul_lt z2 z4) (by decide)) h⟩
theorem w_l_neg {a b : Int} (h : R (fd (0 - a) b)) : t_l_neg [.dat (fd a b)] R Ex := by
  unfold fd at h ⊢
  unfold t_l_neg b_l_neg
  walk_at "d"
  exact h
/-- a fraction drawn, in its one form -/
def FrS (x : PyData) : Prop := ∃ a b, x = fd a b ∧ IsFr a b ∧ a.natAbs ≤ 6 ∧ b.natAbs ≤ 4
theorem w_l_point (h : ∀ x y, FrS x → FrS y → R (.tuple [x, y])) : t_l_point [.well] R Ex := by
  unfold t_l_point b_l_point
  obtain ⟨k_l_small, e_l_small⟩ : ∃ k, t_l_small = k := ⟨_, rfl⟩
  rw [e_l_small]
  walk_at "d"
  refine st e_l_small <| w_l_small fun a b f1 z1 z2 => ?_
  walk_at "d"
  refine st e_l_small <| w_l_small fun c d f2 z3 z4 => ?_
  exact h _ _ ⟨a, b, rfl, f1, z1, z2⟩ ⟨c, d, rfl, f2, z3, z4⟩
/-- .. above 0 -/
theorem w_l_size (h : ∀ a b : Int, IsFr a b → 0 < a → a.natAbs ≤ 25 → b.natAbs ≤ 4 → R (fd a b)) : t_l_size [.well] R Ex := by
  unfold t_l_size b_l_size
  obtain ⟨k_l_draw, e_l_draw⟩ : ∃ k, t_l_draw = k := ⟨_, rfl⟩
  rw [e_l_draw]
  obtain ⟨k_l_pick, e_l_pick⟩ : ∃ k, t_l_pick = k := ⟨_, rfl⟩
  rw [e_l_pick]
  obtain ⟨k_l_lean, e_l_lean⟩ : ∃ k, t_l_lean = k := ⟨_, rfl⟩
  rw [e_l_lean]
  walk_at "d"
  refine st e_l_draw <| w_l_draw (by decide) (by decide) fun k k0 k1 => ?_
  walk_at "d"
  refine difP (fun _ => ?_) (fun _ => ?_)
  · refine st e_l_pick <| w_l_pick (by decide) (by decide) fun dd hd => ?_
    simp only [List.mem_cons, List.not_mem_nil, or_false] at hd
    rcases hd with h' | h' | h' | h' | h' | h' | h' | h' <;> (subst h'; exact h _ _ ⟨by decide, by decide⟩ (by decide) (by decide) (by decide))
  · refine st e_l_draw <| w_l_draw (by decide) (by decide) fun j j0 j1 => ?_
    refine st e_l_draw <| w_l_draw (by decide) (by decide) fun i i0 i1 => ?_
    have b0 : (0 : Int) < 1 + i := by omega
    have le := red_le (a := 1 + j) b0
    exact st e_l_lean <| w_l_lean (by omega) (two_le (m := 60) (by omega) (by decide)) (show R (fracD (1 + j) (1 + i)) from h _ _ (red_fr b0) (red_up (by omega) b0) (by omega) (by omega))
/-- a curve by data -/
def cvD (k : Str) (a b c d e f : Int) : PyData := .tuple [.str k, fd a b, fd c d, fd e f]
/-- a curve's numbers, small ones -/
structure CvB (a b c d e f : Int) : Prop where
  f1 : IsFr a b
  f2 : IsFr c d
  f3 : IsFr e f
  z1 : a.natAbs < 2 ^ 12
  z2 : b.natAbs < 2 ^ 7
  z3 : c.natAbs < 2 ^ 12
  z4 : d.natAbs < 2 ^ 7
  z5 : e.natAbs < 2 ^ 21
  z6 : f.natAbs < 2 ^ 17
/-- .. that make a curve -/
def Right (k : Str) (a c e : Int) : Prop := (k = "line" ∧ (a ≠ 0 ∨ c ≠ 0)) ∨ (k = "circle" ∧ 0 < e)
theorem CvB.low {a b c d e f : Int} (z : CvB a b c d e f) : 0 < b * d * f := Int.mul_pos (Int.mul_pos z.f1.1 z.f2.1) z.f3.1
theorem CvB.wu {a b c d e f : Int} (z : CvB a b c d e f) : (a * d * f).natAbs < 2 ^ 36 := mul_lt (mul_lt z.z1 z.z4) z.z6
theorem CvB.wv {a b c d e f : Int} (z : CvB a b c d e f) : (c * b * f).natAbs < 2 ^ 36 := mul_lt (mul_lt z.z3 z.z2) z.z6
theorem CvB.wc {a b c d e f : Int} (z : CvB a b c d e f) : (e * b * d).natAbs < 2 ^ 35 := mul_lt (mul_lt z.z5 z.z2) z.z4
theorem CvB.wm {a b c d e f : Int} (z : CvB a b c d e f) : (b * d * f).natAbs < 2 ^ 31 := mul_lt (mul_lt z.z2 z.z4) z.z6
theorem CvB.wt {a b c d e f : Int} (z : CvB a b c d e f) : (e * b * d * (b * d * f)).natAbs < 2 ^ 66 := mul_lt z.wc z.wm
/-- a disc drawn -/
structure CvS (a b c d e f : Int) : Prop where
  f1 : IsFr a b
  f2 : IsFr c d
  f3 : IsFr e f
  z1 : a.natAbs ≤ 6
  z2 : b.natAbs ≤ 4
  z3 : c.natAbs ≤ 6
  z4 : d.natAbs ≤ 4
  z5 : e.natAbs ≤ 25
  z6 : f.natAbs ≤ 4
  e0 : 0 < e
theorem CvS.cv {a b c d e f : Int} (z : CvS a b c d e f) : CvB a b c d e f := by
  obtain ⟨f1, f2, f3, z1, z2, z3, z4, z5, z6, _⟩ := z
  exact ⟨f1, f2, f3, by omega, by omega, by omega, by omega, by omega, by omega⟩
theorem w_l_disc (h : ∀ a b c d e f : Int, CvS a b c d e f → R (cvD "circle" a b c d e f)) : t_l_disc [.well] R Ex := by
  unfold t_l_disc b_l_disc
  obtain ⟨k_l_point, e_l_point⟩ : ∃ k, t_l_point = k := ⟨_, rfl⟩
  rw [e_l_point]
  obtain ⟨k_l_size, e_l_size⟩ : ∃ k, t_l_size = k := ⟨_, rfl⟩
  rw [e_l_size]
  walk_at "d"
  refine st e_l_point <| w_l_point fun x y hx hy => ?_
  obtain ⟨a, b, rfl, f1, z1, z2⟩ := hx
  obtain ⟨c, d, rfl, f2, z3, z4⟩ := hy
  walk_at "d"
  refine st e_l_size <| w_l_size fun e f f3 e0 z5 z6 => ?_
  exact h _ _ _ _ _ _ ⟨f1, f2, f3, z1, z2, z3, z4, z5, z6, e0⟩
theorem w_l_bar {k : Str} {a b c d e f : Int} (z : CvB a b c d e f) (h : R (.tuple [.int (a * d * f), .int (c * b * f), .int (e * b * d)])) : t_l_bar [.dat (cvD k a b c d e f)] R Ex := by
  obtain ⟨_, _, _, z1, z2, z3, z4, z5, z6⟩ := z
  unfold cvD fd
  unfold t_l_bar b_l_bar
  walk_at "d"
  exact ⟨mulx_ok z1 z4 (by decide), mulx_ok (mul_lt z1 z4) z6 (by decide), mulx_ok z3 z2 (by decide), mulx_ok (mul_lt z3 z2) z6 (by decide), mulx_ok z5 z2 (by decide), mulx_ok (mul_lt z5 z2) z4 (by decide), h⟩
theorem w_l_ring {k : Str} {a b c d e f : Int} (z : CvB a b c d e f) (h : R (.tuple [.int (a * d * f), .int (c * b * f), .int (e * b * d * (b * d * f)), .int (b * d * f)])) : t_l_ring [.dat (cvD k a b c d e f)] R Ex := by
  obtain ⟨_, _, _, z1, z2, z3, z4, z5, z6⟩ := z
  unfold cvD fd
  unfold t_l_ring b_l_ring
  walk_at "d"
  exact ⟨mulx_ok z2 z4 (by decide), mulx_ok (mul_lt z2 z4) z6 (by decide), mulx_ok z1 z4 (by decide), mulx_ok (mul_lt z1 z4) z6 (by decide), mulx_ok z3 z2 (by decide), mulx_ok (mul_lt z3 z2) z6 (by decide), mulx_ok z5 z2 (by decide), mulx_ok (mul_lt z5 z2) z4 (by decide), mulx_ok (mul_lt (mul_lt z5 z2) z4) (mul_lt (mul_lt z2 z4) z6) (by decide), h⟩
end

end My

set_option maxHeartbeats 4000000
namespace My
open PySem L2 Ld
open Lw hiding Dv DvAll FreshB tData tDatas pd_int pd_bl pd_non pd_str pd_neg pd_pow pda_nil pda_cons pd_tup pd_lst pd_dct dv_cut dv_cat tup_at rRepr call_repr rIsD call_isD
local macro_rules | `(tactic| walk_at "d") => `(tactic| try dsimp only [tfOf, startD, slotD, putD, wipeD, dV, dC, dOp, dUn, dNil, dCons, dConsW, dConsF, dCallV, dCall, datsOf, dCB, dTup, dLst, dIf, dTst, dCmp, dCmpV, dChain, dNot, dAnd, dOr, dAndV, dOrV, dNotV, dTb, sSeq, sNx, sSet, sRet, sRetN, sIf, sExpr, sBrk, sCont, sPar, sPar3, lenK, gdN, gdNil, gdCons, sAsg, sFor, iLst, iTpl, iRg1, iRg2, iZp, dYes, dLc, dLc2, dNoP, dPart, dSl, dSlS, sOwn, ownK, sApp, sAppL, sSetL, sIfL, sInsL, sTry1, dOwnLst, fLstL, sExt, sIns, sPut, sFrz, dOwnLen, dOwnIx, sRaise, sAug, t_draw, nthL, e_int, e_int0, e_add, e_addT, e_addL, e_addSI, e_addST, e_shl, e_ci, e_eqI, e_eqS, e_eqB, e_neI, e_neS, e_neB, e_isN, e_notN, e_nthT, e_nthL, e_lenT, e_lenL, e_i1, e_i2, e_lcm, e_intO, e_intB, e_isqrt, e_divmod, e_repr, e_reprS, e_tupL, e_tupT, e_lst, e_truB, e_truI, e_truN, e_truL, e_truT, e_neg, e_bits, e_back, e_backL, e_slT, e_slL, e_slST, e_gdT, e_gdL, Ld.isNon])
local macro_rules | `(tactic| walk_at "u") => `(tactic| (dsimp only; walk_at "d"))

section
variable {R : RD} {Ex : XD}
/-! ### where a line and a circle cross, by the law -/
abbrev S4 := Int × Int × Int × Int
def seatD (s : S4 × S4) : PyData := .tuple [d4 s.1.1 s.1.2.1 s.1.2.2.1 s.1.2.2.2, d4 s.2.1 s.2.2.1 s.2.2.2.1 s.2.2.2.2]
def seatsD (ss : List (S4 × S4)) : PyData := .list (ss.map seatD)
def chordG (a b c u v t m : Int) : List (S4 × S4) :=
  let n := a * u + b * v - c * m
  let k := a * a + b * b
  let r := t * k - n * n
  let x := u * k - n * a
  let y := v * k - n * b
  let d := m * k
  if r < 0 then [] else if r = 0 then [((x, 0, 0, d), (y, 0, 0, d))] else
    if 0 < b ∨ (b = 0 ∧ a < 0) then [((x, 0 - b, r, d), (y, a, r, d)), ((x, b, r, d), (y, 0 - a, r, d))] else [((x, b, r, d), (y, 0 - a, r, d)), ((x, 0 - b, r, d), (y, a, r, d))]
def chordF (A B C u v t m : Int) : List (S4 × S4) := chordG (A.fdiv (gcdI (gcdI A B) C)) (B.fdiv (gcdI (gcdI A B) C)) (C.fdiv (gcdI (gcdI A B) C)) u v t m
theorem gcd_sw (x y : Int) : gcdI x y = gcdI y x := by
  unfold gcdI
  rw [Nat.gcd_comm]
theorem gcd_any {A B C : Int} (h : A ≠ 0 ∨ B ≠ 0) : 0 < gcdI (gcdI A B) C := by
  have p1 : 0 < gcdI A B := by
    rcases h with h | h
    · rw [gcd_sw]
      exact gcd_pos h
    · exact gcd_pos h
  rw [gcd_sw]
  exact gcd_pos (by omega)
theorem gcd_any_lt {A B C : Int} {n : Nat} (h : A ≠ 0 ∨ B ≠ 0) (z1 : A.natAbs < 2 ^ n) (z2 : B.natAbs < 2 ^ n) : (gcdI (gcdI A B) C).natAbs < 2 ^ n := by
  have l1 : (gcdI A B).natAbs < 2 ^ n ∧ gcdI A B ≠ 0 := by
    rcases h with h | h
    · have := gcd_le (a := B) h
      have := gcd_pos (a := B) h
      rw [gcd_sw]
      omega
    · have := gcd_le (a := A) h
      have := gcd_pos (a := A) h
      omega
  have l2 := gcd_le (a := C) l1.2
  rw [gcd_sw]
  exact Nat.lt_of_le_of_lt l2 l1.1
theorem w_l_chord {A B C u v t m : Int} (hAB : A ≠ 0 ∨ B ≠ 0) (z1 : A.natAbs < 2 ^ 4000) (z2 : B.natAbs < 2 ^ 4000) (z3 : C.natAbs < 2 ^ 4000) (z4 : u.natAbs < 2 ^ 4000) (z5 : v.natAbs < 2 ^ 4000) (z6 : t.natAbs < 2 ^ 4000) (z7 : m.natAbs < 2 ^ 4000) (h : R (seatsD (chordF A B C u v t m))) :
    t_l_chord [.dat (.tuple [.int A, .int B, .int C]), .dat (d4 u v t m)] R Ex := by
  unfold chordF at h
  have g0 := gcd_any (C := C) hAB
  have gl : (gcdI (gcdI A B) C).natAbs < 2 ^ 9000 := two_le (gcd_any_lt (C := C) hAB z1 z2) (by decide)
  have f1 := fdiv_le g0 z1
  have f2 := fdiv_le g0 z2
  have f3 := fdiv_le g0 z3
  unfold d4
  unfold t_l_chord b_l_chord
  obtain ⟨k_l_common, e_l_common⟩ : ∃ k, t_l_common = k := ⟨_, rfl⟩
  rw [e_l_common]
  walk_at "d"
  refine st e_l_common <| w_l_common (st e_l_common <| w_l_common ?_)
  walk_at "d"
  have gz : gcdI (gcdI A B) C ≠ 0 := by omega
  refine ⟨⟨gz, gl⟩, ⟨gz, gl⟩, ⟨gz, gl⟩, ?_⟩
  generalize A.fdiv (gcdI (gcdI A B) C) = a at *
  generalize B.fdiv (gcdI (gcdI A B) C) = b at *
  generalize C.fdiv (gcdI (gcdI A B) C) = c at *
  have wk := add_lt (mul_lt f1 f1) (mul_lt f2 f2)
  have wn := sub_lt (add_lt (mul_lt f1 z4) (mul_lt f2 z5)) (two_le (mul_lt f3 z7) (show 4000 + 4000 ≤ 4000 + 4000 + 1 by decide))
  refine ⟨mulx_ok f1 z4 (by decide), mulx_ok f2 z5 (by decide), mulx_ok f3 z7 (by decide), mulx_ok f1 f1 (by decide), mulx_ok f2 f2 (by decide), ?_⟩
  refine ⟨mulx_ok z6 wk (by decide), mulx_ok wn wn (by decide), mulx_ok z4 wk (by decide), mulx_ok wn f1 (by decide), mulx_ok z5 wk (by decide), mulx_ok wn f2 (by decide), mulx_ok z7 wk (by decide), ?_⟩
  unfold chordG at h
  dsimp only at h
  generalize t * (a * a + b * b) - (a * u + b * v - c * m) * (a * u + b * v - c * m) = r at *
  generalize u * (a * a + b * b) - (a * u + b * v - c * m) * a = x at *
  generalize v * (a * a + b * b) - (a * u + b * v - c * m) * b = y at *
  generalize m * (a * a + b * b) = d at *
  show if decide (r < 0) = true then _ else _
  refine difP (fun c => ?_) (fun c => difP (fun c2 => ?_) (fun c2 => difP (fun c3 => ?_) (fun c3 => difP (fun c4 => ?_) (fun c4 => ?_))))
  · rw [if_pos c] at h
    exact h
  · rw [if_neg c, if_pos c2] at h
    exact h
  · rw [if_neg c, if_neg c2, if_pos (.inl c3)] at h
    exact difT h
  · rw [if_neg c, if_neg c2] at h
    refine difP (fun c5 => ?_) (fun c5 => ?_)
    · rw [if_pos (.inr ⟨c4, c5⟩)] at h
      exact h
    · rw [if_neg (by omega)] at h
      exact h
  · rw [if_neg c, if_neg c2, if_neg (by omega)] at h
    exact difF h
end

end My

set_option maxHeartbeats 4000000
namespace My
open PySem L2 Ld
open Lw hiding Dv DvAll FreshB tData tDatas pd_int pd_bl pd_non pd_str pd_neg pd_pow pda_nil pda_cons pd_tup pd_lst pd_dct dv_cut dv_cat tup_at rRepr call_repr rIsD call_isD
local macro_rules | `(tactic| walk_at "d") => `(tactic| try dsimp only [tfOf, startD, slotD, putD, wipeD, dV, dC, dOp, dUn, dNil, dCons, dConsW, dConsF, dCallV, dCall, datsOf, dCB, dTup, dLst, dIf, dTst, dCmp, dCmpV, dChain, dNot, dAnd, dOr, dAndV, dOrV, dNotV, dTb, sSeq, sNx, sSet, sRet, sRetN, sIf, sExpr, sBrk, sCont, sPar, sPar3, lenK, gdN, gdNil, gdCons, sAsg, sFor, iLst, iTpl, iRg1, iRg2, iZp, dYes, dLc, dLc2, dNoP, dPart, dSl, dSlS, sOwn, ownK, sApp, sAppL, sSetL, sIfL, sInsL, sTry1, dOwnLst, fLstL, sExt, sIns, sPut, sFrz, dOwnLen, dOwnIx, sRaise, sAug, t_draw, nthL, e_int, e_int0, e_add, e_addT, e_addL, e_addSI, e_addST, e_shl, e_ci, e_eqI, e_eqS, e_eqB, e_neI, e_neS, e_neB, e_isN, e_notN, e_nthT, e_nthL, e_lenT, e_lenL, e_i1, e_i2, e_lcm, e_intO, e_intB, e_isqrt, e_divmod, e_repr, e_reprS, e_tupL, e_tupT, e_lst, e_truB, e_truI, e_truN, e_truL, e_truT, e_neg, e_bits, e_back, e_backL, e_slT, e_slL, e_slST, e_gdT, e_gdL, Ld.isNon])
local macro_rules | `(tactic| walk_at "u") => `(tactic| (dsimp only; walk_at "d"))

section
variable {R : RD} {Ex : XD}
/-! ### where curves cross, by the program -/
theorem fd_frac {a b A L : Int} (h : IsFr a b) (hL : 0 < L) (e : a * L = A * b) : fd a b = fracD A L := by
  rw [← frac_congr h.1 hL e]
  obtain ⟨h1, h2⟩ := fr_self h
  unfold fd fracD
  rw [h1, h2]
theorem line_cv {a b c d e f : Int} (z : CvB a b c d e f) : cvD "line" a b c d e f = cvF "line" (a * d * f) (b * d * f) (c * b * f) (b * d * f) (e * b * d) (b * d * f) := by
  unfold cvD cvF
  rw [fd_frac z.f1 z.low (A := a * d * f) (by grind), fd_frac z.f2 z.low (A := c * b * f) (by grind), fd_frac z.f3 z.low (A := e * b * d) (by grind)]
theorem ring_cv {a b c d e f : Int} (z : CvB a b c d e f) : cvD "circle" a b c d e f = cvF "circle" (a * d * f) (b * d * f) (c * b * f) (b * d * f) (e * b * d * (b * d * f)) (b * d * f * (b * d * f)) := by
  unfold cvD cvF
  rw [fd_frac z.f1 z.low (A := a * d * f) (by grind), fd_frac z.f2 z.low (A := c * b * f) (by grind), fd_frac z.f3 (Int.mul_pos z.low z.low) (A := e * b * d * (b * d * f)) (by grind)]
theorem line_ne {a b c d e f : Int} (z : CvB a b c d e f) (h : a ≠ 0 ∨ c ≠ 0) : a * d * f ≠ 0 ∨ c * b * f ≠ 0 := by
  have b0 := z.f1.1
  have d0 := z.f2.1
  have f0 := z.f3.1
  rcases h with h | h
  · exact .inl (Int.mul_ne_zero (Int.mul_ne_zero h (by omega)) (by omega))
  · exact .inr (Int.mul_ne_zero (Int.mul_ne_zero h (by omega)) (by omega))
/-! two lines -/
def meetP (A B C E F G : Int) : List PyData :=
  let w := A * F - E * B
  if w = 0 then [] else [plF (sg w * (C * F - G * B)) (sg w * w) (sg w * (A * G - E * C)) (sg w * w)]
theorem sg_self {w : Int} : sg w * w = ab w := by
  rcases tri w with k | k | k
  · rw [sg_neg k, ab_np (by omega)]
    grind
  · subst k
    rfl
  · rw [sg_pos k, ab_nn (by omega)]
    grind
/-! two circles -/
theorem eqv_four {a b c d a' b' c' d' : Int} : PyData.eqv (.tuple [.tuple [.int a, .int b], .tuple [.int c, .int d]]) (.tuple [.tuple [.int a', .int b'], .tuple [.int c', .int d']]) = decide (a = a' ∧ b = b' ∧ c = c' ∧ d = d') := by
  rw [Bool.eq_iff_iff]
  simp [PyData.eqv, PyData.eqvAll]
  grind
def apart (u v m e f k : Int) : Prop := 2 * (e * m - u * k) * m * k ≠ 0 ∨ 2 * (f * m - v * k) * m * k ≠ 0
instance {u v m e f k : Int} : Decidable (apart u v m e f k) := by unfold apart; infer_instance
/-! any two curves -/
def comP (k : Str) (a b c d e f : Int) (k' : Str) (a' b' c' d' e' f' : Int) : List PyData :=
  if k = "line" then
    if k' = "line" then meetP (a * d * f) (c * b * f) (e * b * d) (a' * d' * f') (c' * b' * f') (e' * b' * d')
    else chordP (a * d * f) (c * b * f) (e * b * d) (a' * d' * f') (c' * b' * f') (e' * b' * d' * (b' * d' * f')) (b' * d' * f')
  else if k' = "line" then chordP (a' * d' * f') (c' * b' * f') (e' * b' * d') (a * d * f) (c * b * f) (e * b * d * (b * d * f)) (b * d * f)
  else if apart (a * d * f) (c * b * f) (b * d * f) (a' * d' * f') (c' * b' * f') (b' * d' * f') then
    chordP (2 * (a' * d' * f' * (b * d * f) - a * d * f * (b' * d' * f')) * (b * d * f) * (b' * d' * f')) (2 * (c' * b' * f' * (b * d * f) - c * b * f * (b' * d' * f')) * (b * d * f) * (b' * d' * f'))
      ((a' * d' * f' * (a' * d' * f') + c' * b' * f' * (c' * b' * f') - e' * b' * d' * (b' * d' * f')) * (b * d * f) * (b * d * f) - (a * d * f * (a * d * f) + c * b * f * (c * b * f) - e * b * d * (b * d * f)) * (b' * d' * f') * (b' * d' * f'))
      (a * d * f) (c * b * f) (e * b * d * (b * d * f)) (b * d * f)
  else []
end

end My

set_option maxHeartbeats 4000000
namespace My
open PySem L2 Ld
open Lw hiding Dv DvAll FreshB tData tDatas pd_int pd_bl pd_non pd_str pd_neg pd_pow pda_nil pda_cons pd_tup pd_lst pd_dct dv_cut dv_cat tup_at rRepr call_repr rIsD call_isD
local macro_rules | `(tactic| walk_at "d") => `(tactic| try dsimp only [tfOf, startD, slotD, putD, wipeD, dV, dC, dOp, dUn, dNil, dCons, dConsW, dConsF, dCallV, dCall, datsOf, dCB, dTup, dLst, dIf, dTst, dCmp, dCmpV, dChain, dNot, dAnd, dOr, dAndV, dOrV, dNotV, dTb, sSeq, sNx, sSet, sRet, sRetN, sIf, sExpr, sBrk, sCont, sPar, sPar3, lenK, gdN, gdNil, gdCons, sAsg, sFor, iLst, iTpl, iRg1, iRg2, iZp, dYes, dLc, dLc2, dNoP, dPart, dSl, dSlS, sOwn, ownK, sApp, sAppL, sSetL, sIfL, sInsL, sTry1, dOwnLst, fLstL, sExt, sIns, sPut, sFrz, dOwnLen, dOwnIx, sRaise, sAug, t_draw, nthL, e_int, e_int0, e_add, e_addT, e_addL, e_addSI, e_addST, e_shl, e_ci, e_eqI, e_eqS, e_eqB, e_neI, e_neS, e_neB, e_isN, e_notN, e_nthT, e_nthL, e_lenT, e_lenL, e_i1, e_i2, e_lcm, e_intO, e_intB, e_isqrt, e_divmod, e_repr, e_reprS, e_tupL, e_tupT, e_lst, e_truB, e_truI, e_truN, e_truL, e_truT, e_neg, e_bits, e_back, e_backL, e_slT, e_slL, e_slST, e_gdT, e_gdL, Ld.isNon])
local macro_rules | `(tactic| walk_at "u") => `(tactic| (dsimp only; walk_at "d"))

section
variable {R : RD} {Ex : XD}
/-! ### looks at curves -/
theorem fr_is {a b : Int} (h : IsFr a b) : isFrB (fd a b) = true := by
  have e : isFrB (fd a b) = (decide (0 < b) && decide (gcdI a b = 1)) := rfl
  rw [e, decide_eq_true h.1, decide_eq_true h.2] <;> rfl
theorem w_p_is_curveT {k : Str} {a b c d e f : Int} (z : CvB a b c d e f) (r : Right k a c e) (h : R (.bool true)) : t_p_is_curve [.dat (cvD k a b c d e f)] R Ex := by
  have i1 := fr_is z.f1
  have i2 := fr_is z.f2
  have i3 := fr_is z.f3
  unfold cvD
  unfold t_p_is_curve b_p_is_curve
  obtain ⟨k_p_is_fraction, e_p_is_fraction⟩ : ∃ k, t_p_is_fraction = k := ⟨_, rfl⟩
  rw [e_p_is_fraction]
  walk_at "d"
  refine difF (difF ?_)
  refine st e_p_is_fraction <| w_p_is_fraction ?_
  rw [i1]
  walk_at "d"
  refine difF ?_
  refine st e_p_is_fraction <| w_p_is_fraction ?_
  rw [i2]
  walk_at "d"
  refine difF ?_
  refine st e_p_is_fraction <| w_p_is_fraction ?_
  rw [i3]
  walk_at "d"
  refine difF ?_
  unfold fd
  walk_at "d"
  rcases r with ⟨rfl, r⟩ | ⟨rfl, r⟩
  · refine difT ?_
    refine difN (fun c1 => ?_) (fun c1 => ?_)
    · rw [decide_eq_false c1]
      exact h
    · have c2 : ¬ c = 0 := fun z => r.elim (fun q => q c1) (fun q => q z)
      rw [decide_eq_false c2]
      exact h
  · refine difF (difT ?_)
    rw [decide_eq_true r]
    exact h
theorem w_p_check_curve {k : Str} {a b c d e f : Int} (z : CvB a b c d e f) (r : Right k a c e) (h : R .none) : t_p_check_curve [.dat (cvD k a b c d e f)] R Ex := by
  unfold t_p_check_curve b_p_check_curve
  obtain ⟨k_p_is_curve, e_p_is_curve⟩ : ∃ k, t_p_is_curve = k := ⟨_, rfl⟩
  rw [e_p_is_curve]
  walk_at "d"
  refine st e_p_is_curve <| w_p_is_curveT z r ?_
  exact h
/-! ### forms by the law -/
theorem w_l_formC {a b c d e f : Int} (h : R (cvD "circle" a b c d e f)) : t_l_form [.dat (cvD "circle" a b c d e f)] R Ex := by
  unfold cvD at h ⊢
  unfold t_l_form b_l_form
  obtain ⟨k_l_bar, e_l_bar⟩ : ∃ k, t_l_bar = k := ⟨_, rfl⟩
  rw [e_l_bar]
  obtain ⟨k_l_common, e_l_common⟩ : ∃ k, t_l_common = k := ⟨_, rfl⟩
  rw [e_l_common]
  walk_at "d"
  exact difT h
/-- a line's form, by its whole numbers -/
def lfD (A B C : Int) : PyData :=
  let g := if A < 0 ∨ (A = 0 ∧ B < 0) then 0 - gcdI (gcdI A B) C else gcdI (gcdI A B) C
  cvD "line" (A.fdiv g) 1 (B.fdiv g) 1 (C.fdiv g) 1
theorem w_l_formL {a b c d e f : Int} (z : CvB a b c d e f) (n : a ≠ 0 ∨ c ≠ 0) (h : R (lfD (a * d * f) (c * b * f) (e * b * d))) : t_l_form [.dat (cvD "line" a b c d e f)] R Ex := by
  have ne := line_ne z n
  have w1 := z.wu
  have w2 := z.wv
  have w3 := z.wc
  have bar : ∀ {R : RD} {Ex : XD}, R (.tuple [.int (a * d * f), .int (c * b * f), .int (e * b * d)]) → t_l_bar [.dat (cvD "line" a b c d e f)] R Ex := fun h => w_l_bar z h
  unfold lfD cvD fd at h
  unfold cvD at bar ⊢
  dsimp only at h
  unfold t_l_form b_l_form
  obtain ⟨k_l_bar, e_l_bar⟩ : ∃ k, t_l_bar = k := ⟨_, rfl⟩
  rw [e_l_bar]
  obtain ⟨k_l_common, e_l_common⟩ : ∃ k, t_l_common = k := ⟨_, rfl⟩
  rw [e_l_common]
  walk_at "d"
  refine difF ?_
  refine st e_l_bar <| bar ?_
  generalize a * d * f = A at *
  generalize c * b * f = B at *
  generalize e * b * d = C at *
  have g0 := gcd_any (C := C) ne
  have gl : (gcdI (gcdI A B) C).natAbs < 2 ^ 9000 := two_le (gcd_any_lt (C := C) ne w1 w2) (by decide)
  walk_at "d"
  refine st e_l_common <| w_l_common (st e_l_common <| w_l_common ?_)
  generalize gcdI (gcdI A B) C = g at *
  have fin : ∀ {x : Int}, x = (if A < 0 ∨ (A = 0 ∧ B < 0) then 0 - g else g) → (x ≠ 0 ∧ x.natAbs < 2 ^ 9000) ∧ R (.tuple [.str "line", .tuple [.int (A.fdiv x), .int 1], .tuple [.int (B.fdiv x), .int 1], .tuple [.int (C.fdiv x), .int 1]]) := fun {x} hx => by
    refine ⟨?_, by rw [hx]; exact h⟩
    rw [hx]
    split <;> omega
  walk_at "d"
  refine difP (fun c1 => ?_) (fun c1 => difP (fun c2 => difP (fun c3 => ?_) (fun c3 => ?_)) (fun c2 => ?_))
  · have y := fin (x := 0 - g) (by rw [if_pos (.inl c1)])
    exact ⟨y.1, y.1, y.1, y.2⟩
  · have y := fin (x := 0 - g) (by rw [if_pos (.inr ⟨c2, c3⟩)])
    exact ⟨y.1, y.1, y.1, y.2⟩
  · have y := fin (x := g) (by rw [if_neg (by omega)])
    exact ⟨y.1, y.1, y.1, y.2⟩
  · have y := fin (x := g) (by rw [if_neg (by omega)])
    exact ⟨y.1, y.1, y.1, y.2⟩
/-- forms of lines alike: both along one way -/
theorem lf_alike {A B C E F G : Int} (n1 : A ≠ 0 ∨ B ≠ 0) (n2 : E ≠ 0 ∨ F ≠ 0) (h : PyData.eqv (lfD A B C) (lfD E F G) = true) : A * F - E * B = 0 := by
  have k : ∀ {x g : Int}, g ≠ 0 → (0 < g ∧ g ∣ x ∨ g < 0 ∧ -g ∣ x) → x.fdiv g * g = x := fun {x g} g0 dv => by
    rcases dv with ⟨p, d⟩ | ⟨p, d⟩
    · rw [Int.mul_comm]
      exact fdiv_of p d
    · obtain ⟨k, rfl⟩ := d
      have e : -g * k = g * -k := by grind
      rw [e, Int.mul_fdiv_cancel_left _ g0]
      grind
  have all : ∀ {A B C : Int}, (A ≠ 0 ∨ B ≠ 0) → ∃ g : Int, g ≠ 0 ∧ (if A < 0 ∨ (A = 0 ∧ B < 0) then 0 - gcdI (gcdI A B) C else gcdI (gcdI A B) C) = g ∧ A.fdiv g * g = A ∧ B.fdiv g * g = B := fun {A B C} n => by
    have g0 := gcd_any (C := C) n
    have dA : gcdI (gcdI A B) C ∣ A := Int.dvd_trans (gcd_dvd_l _ _) (gcd_dvd_l _ _)
    have dB : gcdI (gcdI A B) C ∣ B := Int.dvd_trans (gcd_dvd_l _ _) (gcd_dvd_r _ _)
    generalize gcdI (gcdI A B) C = g at *
    refine ⟨_, ?_, rfl, ?_, ?_⟩
    · split <;> omega
    · split
      · exact k (by omega) (.inr ⟨by omega, by rw [show -(0 - g) = g by omega]; exact dA⟩)
      · exact k (by omega) (.inl ⟨g0, dA⟩)
    · split
      · exact k (by omega) (.inr ⟨by omega, by rw [show -(0 - g) = g by omega]; exact dB⟩)
      · exact k (by omega) (.inl ⟨g0, dB⟩)
  obtain ⟨g, g0, eg, h1, h2⟩ := all (C := C) n1
  obtain ⟨i, i0, ei, h3, h4⟩ := all (C := G) n2
  unfold lfD cvD fd at h
  dsimp only at h
  rw [eg, ei] at h
  simp only [PyData.eqv, PyData.eqvAll, Bool.and_eq_true, beq_iff_eq] at h
  obtain ⟨_, ⟨ha, _⟩, ⟨hb, _⟩, _⟩ := h
  rw [← h1, ← h2, ← h3, ← h4, ha, hb]
  grind
end

end My

set_option maxHeartbeats 4000000
namespace My
open PySem L2 Ld
open Lw hiding Dv DvAll FreshB tData tDatas pd_int pd_bl pd_non pd_str pd_neg pd_pow pda_nil pda_cons pd_tup pd_lst pd_dct dv_cut dv_cat tup_at rRepr call_repr rIsD call_isD
local macro_rules | `(tactic| walk_at "d") => `(tactic| try dsimp only [tfOf, startD, slotD, putD, wipeD, dV, dC, dOp, dUn, dNil, dCons, dConsW, dConsF, dCallV, dCall, datsOf, dCB, dTup, dLst, dIf, dTst, dCmp, dCmpV, dChain, dNot, dAnd, dOr, dAndV, dOrV, dNotV, dTb, sSeq, sNx, sSet, sRet, sRetN, sIf, sExpr, sBrk, sCont, sPar, sPar3, lenK, gdN, gdNil, gdCons, sAsg, sFor, iLst, iTpl, iRg1, iRg2, iZp, dYes, dLc, dLc2, dNoP, dPart, dSl, dSlS, sOwn, ownK, sApp, sAppL, sSetL, sIfL, sInsL, sTry1, dOwnLst, fLstL, sExt, sIns, sPut, sFrz, dOwnLen, dOwnIx, sRaise, sAug, t_draw, nthL, e_int, e_int0, e_add, e_addT, e_addL, e_addSI, e_addST, e_shl, e_ci, e_eqI, e_eqS, e_eqB, e_neI, e_neS, e_neB, e_isN, e_notN, e_nthT, e_nthL, e_lenT, e_lenL, e_i1, e_i2, e_lcm, e_intO, e_intB, e_isqrt, e_divmod, e_repr, e_reprS, e_tupL, e_tupT, e_lst, e_truB, e_truI, e_truN, e_truL, e_truT, e_neg, e_bits, e_back, e_backL, e_slT, e_slL, e_slST, e_gdT, e_gdL, Ld.isNon])
local macro_rules | `(tactic| walk_at "u") => `(tactic| (dsimp only; walk_at "d"))

section
variable {R : RD} {Ex : XD}
/-! ### the law's fractions, with bounds -/
theorem le_lt {a : Int} {i m : Nat} (h : a.natAbs ≤ i) (hi : i < 2 ^ m) : a.natAbs < 2 ^ m := Nat.lt_of_le_of_lt h hi
theorem mul_le {a b : Int} {i j : Nat} (h1 : a.natAbs ≤ i) (h2 : b.natAbs ≤ j) : (a * b).natAbs ≤ i * j := by
  rw [Int.natAbs_mul]
  exact Nat.mul_le_mul h1 h2
theorem w_l_mulQ {a b c d : Int} {i j k l : Nat} (hi : i < 2 ^ 1000) (hj : j < 2 ^ 1000) (hk : k < 2 ^ 1000) (hl : l < 2 ^ 1000) (hb : 0 < b) (hd : 0 < d) (z1 : a.natAbs ≤ i) (z2 : b.natAbs ≤ j) (z3 : c.natAbs ≤ k) (z4 : d.natAbs ≤ l)
    (h : ∀ p q : Int, IsFr p q → p.natAbs ≤ i * k → q.natAbs ≤ j * l → sg p = sg a * sg c → R (fd p q)) : t_l_mul [.dat (fd a b), .dat (fd c d)] R Ex := by
  have bd := Int.mul_pos hb hd
  have le := red_le (a := a * c) bd
  have rs := red_sg (p := a * c) bd
  have up : ∀ {a : Int} {i : Nat}, a.natAbs ≤ i → i < 2 ^ 1000 → a.natAbs < 2 ^ 3000 := fun z hi => two_le (le_lt z hi) (by decide)
  refine w_l_mul (up z1 hi) (up z2 hj) (up z3 hk) (up z4 hl) (by omega) (by omega) ?_
  refine h _ _ (red_fr bd) (Nat.le_trans le.1 (mul_le z1 z3)) (Nat.le_trans le.2 (mul_le z2 z4)) ?_
  rw [← sg_mul]
  rcases tri (a * c) with k | k | k
  · rw [sg_neg k, sg_neg (rs.1.mpr k)]
  · rw [rs.2.mpr k, k]
  · rw [sg_pos k, sg_pos (red_up k bd)]
theorem w_l_addQ {a b c d : Int} {i j k l : Nat} (hi : i < 2 ^ 1000) (hj : j < 2 ^ 1000) (hk : k < 2 ^ 1000) (hl : l < 2 ^ 1000) (hb : 0 < b) (hd : 0 < d) (z1 : a.natAbs ≤ i) (z2 : b.natAbs ≤ j) (z3 : c.natAbs ≤ k) (z4 : d.natAbs ≤ l)
    (h : ∀ p q : Int, IsFr p q → p.natAbs ≤ i * l + k * j → q.natAbs ≤ j * l → R (fd p q)) : t_l_add [.dat (fd a b), .dat (fd c d)] R Ex := by
  have bd := Int.mul_pos hb hd
  have le := red_le (a := a * d + c * b) bd
  have up : ∀ {a : Int} {i : Nat}, a.natAbs ≤ i → i < 2 ^ 1000 → a.natAbs < 2 ^ 3000 := fun z hi => two_le (le_lt z hi) (by decide)
  refine w_l_add (up z1 hi) (up z2 hj) (up z3 hk) (up z4 hl) (by omega) (by omega) ?_
  have m1 := mul_le z1 z4
  have m2 := mul_le z3 z2
  exact h _ _ (red_fr bd) (by omega) (Nat.le_trans le.2 (mul_le z2 z4))
theorem sg_ne {x : Int} (h : sg x ≠ 0) : x ≠ 0 := fun z => h (by rw [z] <;> rfl)
/-- a line drawn -/
theorem w_l_line (h : ∀ a b c d e f : Int, IsFr a b → IsFr c d → IsFr e f → a.natAbs ≤ 12 → b.natAbs ≤ 3 → c.natAbs ≤ 12 → d.natAbs ≤ 3 → e.natAbs ≤ 6 → f.natAbs ≤ 4 → (a ≠ 0 ∨ c ≠ 0) → R (cvD "line" a b c d e f)) : t_l_line [.well] R Ex := by
  unfold cvD at h
  unfold t_l_line b_l_line
  obtain ⟨k_l_pick, e_l_pick⟩ : ∃ k, t_l_pick = k := ⟨_, rfl⟩
  rw [e_l_pick]
  obtain ⟨k_l_draw, e_l_draw⟩ : ∃ k, t_l_draw = k := ⟨_, rfl⟩
  rw [e_l_draw]
  obtain ⟨k_l_mul, e_l_mul⟩ : ∃ k, t_l_mul = k := ⟨_, rfl⟩
  rw [e_l_mul]
  obtain ⟨k_l_small, e_l_small⟩ : ∃ k, t_l_small = k := ⟨_, rfl⟩
  rw [e_l_small]
  walk_at "d"
  refine st e_l_pick <| w_l_pick (by decide) (by decide) fun dd hd => ?_
  obtain ⟨a, c, rfl, a1, c1, n⟩ : ∃ a c : Int, dd = .tuple [.int a, .int c] ∧ a.natAbs ≤ 4 ∧ c.natAbs ≤ 4 ∧ (a ≠ 0 ∨ c ≠ 0) := by
    simp only [List.mem_cons, List.not_mem_nil, or_false] at hd
    rcases hd with h | h | h | h | h | h | h | h | h | h | h <;> exact ⟨_, _, h, by decide, by decide, by decide⟩
  walk_at "d"
  refine st e_l_draw <| w_l_draw (by decide) (by decide) fun k k0 k1 => ?_
  walk_at "d"
  have one : (1 : Int).natAbs ≤ 1 := by decide
  have rest : ∀ p q : Int, 0 < q → p.natAbs ≤ 3 → q.natAbs ≤ 3 → p ≠ 0 → k_l_mul [.dat (fd p q), .dat (fd a 1)] (fun d => k_l_mul [.dat (fd p q), .dat (fd c 1)] (fun d_1 => k_l_small [.well] (fun d_2 => R (.tuple [.str "line", d, d_1, d_2])) Ex) Ex) Ex := fun p q q0 z1 z2 p0 => by
    refine st e_l_mul <| w_l_mulQ (by decide) (by decide) (by decide) (by decide) q0 (by decide) z1 z2 a1 one fun u v fu zu zv su => ?_
    refine st e_l_mul <| w_l_mulQ (by decide) (by decide) (by decide) (by decide) q0 (by decide) z1 z2 c1 one fun s t fs zs zt ss => ?_
    refine st e_l_small <| w_l_small fun e f fe ze zf => ?_
    refine h _ _ _ _ _ _ fu fs fe zu zv zs zt ze zf ?_
    have sp : sg p ≠ 0 := fun z => p0 (sg_val.1 z)
    rcases n with n | n
    · exact .inl (sg_ne (by rw [su]; exact Int.mul_ne_zero sp fun z => n (sg_val.1 z)))
    · exact .inr (sg_ne (by rw [ss]; exact Int.mul_ne_zero sp fun z => n (sg_val.1 z)))
  refine difP (fun _ => ?_) (fun _ => ?_)
  · exact rest 1 1 (by decide) (by decide) (by decide) (by decide)
  · refine st e_l_pick <| w_l_pick (by decide) (by decide) fun dd hd => ?_
    obtain ⟨p, q, rfl, q0, z1, z2, p0⟩ : ∃ p q : Int, dd = fd p q ∧ 0 < q ∧ p.natAbs ≤ 3 ∧ q.natAbs ≤ 3 ∧ p ≠ 0 := by
      simp only [List.mem_cons, List.not_mem_nil, or_false] at hd
      rcases hd with h | h | h | h <;> exact ⟨_, _, h, by decide, by decide, by decide, by decide⟩
    exact rest p q q0 z1 z2 p0
/-- a curve, drawn -/
def Cur (x : PyData) : Prop := ∃ (k : Str) (a b c d e f : Int), x = cvD k a b c d e f ∧ CvB a b c d e f ∧ Right k a c e
/-- a line ahead of its multiples -/
structure Cv0 (a b c d e f : Int) : Prop where
  f1 : IsFr a b
  f2 : IsFr c d
  f3 : IsFr e f
  z1 : a.natAbs ≤ 1000
  z2 : b.natAbs ≤ 15
  z3 : c.natAbs ≤ 1000
  z4 : d.natAbs ≤ 15
  z5 : e.natAbs ≤ 500000
  z6 : f.natAbs ≤ 16000
  r : a ≠ 0 ∨ c ≠ 0
def Cur0 (x : PyData) : Prop := ∃ (k : Str) (a b c d e f : Int), x = cvD k a b c d e f ∧ ((k = "line" ∧ Cv0 a b c d e f) ∨ (k = "circle" ∧ CvB a b c d e f ∧ 0 < e))
theorem cut_three (a b c d : PyData) : cutD [a, b, c, d] (some 1) none = [b, c, d] := rfl
end

end My

set_option maxHeartbeats 4000000
namespace My
open PySem L2 Ld
open Lw hiding Dv DvAll FreshB tData tDatas pd_int pd_bl pd_non pd_str pd_neg pd_pow pda_nil pda_cons pd_tup pd_lst pd_dct dv_cut dv_cat tup_at rRepr call_repr rIsD call_isD
local macro_rules | `(tactic| walk_at "d") => `(tactic| try dsimp only [tfOf, startD, slotD, putD, wipeD, dV, dC, dOp, dUn, dNil, dCons, dConsW, dConsF, dCallV, dCall, datsOf, dCB, dTup, dLst, dIf, dTst, dCmp, dCmpV, dChain, dNot, dAnd, dOr, dAndV, dOrV, dNotV, dTb, sSeq, sNx, sSet, sRet, sRetN, sIf, sExpr, sBrk, sCont, sPar, sPar3, lenK, gdN, gdNil, gdCons, sAsg, sFor, iLst, iTpl, iRg1, iRg2, iZp, dYes, dLc, dLc2, dNoP, dPart, dSl, dSlS, sOwn, ownK, sApp, sAppL, sSetL, sIfL, sInsL, sTry1, dOwnLst, fLstL, sExt, sIns, sPut, sFrz, dOwnLen, dOwnIx, sRaise, sAug, t_draw, nthL, e_int, e_int0, e_add, e_addT, e_addL, e_addSI, e_addST, e_shl, e_ci, e_eqI, e_eqS, e_eqB, e_neI, e_neS, e_neB, e_isN, e_notN, e_nthT, e_nthL, e_lenT, e_lenL, e_i1, e_i2, e_lcm, e_intO, e_intB, e_isqrt, e_divmod, e_repr, e_reprS, e_tupL, e_tupT, e_lst, e_truB, e_truI, e_truN, e_truL, e_truT, e_neg, e_bits, e_back, e_backL, e_slT, e_slL, e_slST, e_gdT, e_gdL, Ld.isNon])
local macro_rules | `(tactic| walk_at "u") => `(tactic| (dsimp only; walk_at "d"))

section
variable {R : RD} {Ex : XD}
/-! ### curves beside curves, through points -/
theorem isq_up {n : Int} (h : 0 < n) : 0 < isq n := by
  have h1 := isq_lt (n := n) (by omega)
  have h0 := isq_nn n
  rcases (by omega : isq n = 0 ∨ 0 < isq n) with k | k
  · rw [k] at h1
    omega
  · exact k
theorem isq_le5 {n : Int} (h : 0 < n) (h2 : n.natAbs ≤ 25) : (isq n).natAbs ≤ 5 := by
  have h1 := isq_le (n := n) (by omega)
  have h0 := isq_nn n
  apply Decidable.byContradiction
  intro k
  have := sq_le (a := 6) (b := isq n) (by decide) (by omega)
  omega
theorem isq_le2 {n : Int} (h : 0 < n) (h2 : n.natAbs ≤ 4) : (isq n).natAbs ≤ 2 := by
  have h1 := isq_le (n := n) (by omega)
  have h0 := isq_nn n
  apply Decidable.byContradiction
  intro k
  have := sq_le (a := 3) (b := isq n) (by decide) (by omega)
  omega
theorem w_l_beside {a b c d e f : Int} (z : CvS a b c d e f) (h : ∀ y, Cur0 y → R y) : t_l_beside [.well, .dat (cvD "circle" a b c d e f)] R Ex := by
  have hc : ∀ a b c d e f : Int, CvB a b c d e f → 0 < e → R (.tuple [.str "circle", fd a b, fd c d, fd e f]) := fun a b c d e f z r => h _ ⟨_, _, _, _, _, _, _, rfl, .inr ⟨rfl, z, r⟩⟩
  have hl : ∀ a b c d e f : Int, Cv0 a b c d e f → R (.tuple [.str "line", fd a b, fd c d, fd e f]) := fun a b c d e f z => h _ ⟨_, _, _, _, _, _, _, rfl, .inl ⟨rfl, z⟩⟩
  obtain ⟨f1, f2, f3, z1, z2, z3, z4, z5, z6, e0⟩ := z
  have b0 := f1.1
  have d0 := f2.1
  have g0 := f3.1
  unfold cvD
  unfold t_l_beside b_l_beside
  obtain ⟨k_l_draw, e_l_draw⟩ : ∃ k, t_l_draw = k := ⟨_, rfl⟩
  rw [e_l_draw]
  obtain ⟨k_l_is_square, e_l_is_square⟩ : ∃ k, t_l_is_square = k := ⟨_, rfl⟩
  rw [e_l_is_square]
  obtain ⟨k_l_mul, e_l_mul⟩ : ∃ k, t_l_mul = k := ⟨_, rfl⟩
  rw [e_l_mul]
  obtain ⟨k_l_pick, e_l_pick⟩ : ∃ k, t_l_pick = k := ⟨_, rfl⟩
  rw [e_l_pick]
  obtain ⟨k_l_add, e_l_add⟩ : ∃ k, t_l_add = k := ⟨_, rfl⟩
  rw [e_l_add]
  obtain ⟨k_l_root, e_l_root⟩ : ∃ k, t_l_root = k := ⟨_, rfl⟩
  rw [e_l_root]
  obtain ⟨k_l_neg, e_l_neg⟩ : ∃ k, t_l_neg = k := ⟨_, rfl⟩
  rw [e_l_neg]
  walk_at "d"
  refine st e_l_draw <| w_l_draw (by decide) (by decide) fun k k0 k1 => ?_
  have fe : fd e f = .tuple [.int e, .int f] := rfl
  rw [fe]
  walk_at "d"
  rw [← fe]
  refine ⟨mulx_ok (le_lt z5 (show 25 < 2 ^ 5 by decide)) (le_lt z6 (show 4 < 2 ^ 3 by decide)) (by decide), ?_⟩
  refine st e_l_is_square <| w_l_is_square (two_le (mul_lt (le_lt z5 (show 25 < 2 ^ 5 by decide)) (le_lt z6 (show 4 < 2 ^ 3 by decide))) (by decide)) ?_
  walk_at "d"
  have one : ∀ {i : Int}, i = 1 → i.natAbs ≤ 1 := fun h => by omega
  have near : k_l_draw [.well, .dat (.int 2)] (fun x => fEq x (.int 0) fun b_1 => if b_1 = true then k_l_pick [.well, .dat (.tuple [.tuple [.int 4, .int 1], .tuple [.int 1, .int 4], .tuple [.int 9, .int 4], .tuple [.int 2, .int 1]])] (fun d_1 => k_l_mul [.dat (fd e f), .dat d_1] (fun d_1 => R (.tuple [.str "circle", fd a b, fd c d, d_1])) Ex) Ex
      else k_l_pick [.well, .dat (.tuple [.tuple [.int 1, .int 1], .tuple [.int (-1), .int 1], .tuple [.int 0, .int 1]])] (fun d_1 => k_l_add [.dat (fd a b), .dat d_1] (fun d_1 => k_l_add [.dat (fd c d), .dat (.tuple [.int 1, .int 1])] (fun d_2 => R (.tuple [.str "circle", d_1, d_2, fd e f])) Ex) Ex) Ex) Ex := by
    refine st e_l_draw <| w_l_draw (by decide) (by decide) fun k k0 k1 => ?_
    walk_at "d"
    refine difP (fun _ => ?_) (fun _ => ?_)
    · refine st e_l_pick <| w_l_pick (by decide) (by decide) fun dd hd => ?_
      obtain ⟨p, q, rfl, q0, y1, y2, p0⟩ : ∃ p q : Int, dd = fd p q ∧ 0 < q ∧ p.natAbs ≤ 9 ∧ q.natAbs ≤ 4 ∧ 0 < p := by
        simp only [List.mem_cons, List.not_mem_nil, or_false] at hd
        rcases hd with h | h | h | h <;> exact ⟨_, _, h, by decide, by decide, by decide, by decide⟩
      refine st e_l_mul <| w_l_mulQ (by decide) (by decide) (by decide) (by decide) g0 q0 z5 z6 y1 y2 fun m n fm zm zn sm => ?_
      refine hc _ _ _ _ _ _ ⟨f1, f2, fm, by omega, by omega, by omega, by omega, by omega, by omega⟩ ?_
      rw [sg_pos e0, sg_pos p0] at sm
      exact sg_val.2.1 sm
    · refine st e_l_pick <| w_l_pick (by decide) (by decide) fun dd hd => ?_
      obtain ⟨p, rfl, y1⟩ : ∃ p : Int, dd = fd p 1 ∧ p.natAbs ≤ 1 := by
        simp only [List.mem_cons, List.not_mem_nil, or_false] at hd
        rcases hd with h | h | h <;> exact ⟨_, h, by decide⟩
      refine st e_l_add <| w_l_addQ (by decide) (by decide) (by decide) (by decide) b0 (by decide) z1 z2 y1 (one rfl) fun m n fm zm zn => ?_
      refine st e_l_add <| w_l_addQ (c := 1) (d := 1) (by decide) (by decide) (by decide) (by decide) d0 (by decide) z3 z4 (one rfl) (one rfl) fun u v fu zu zv => ?_
      exact hc _ _ _ _ _ _ ⟨fm, fu, f3, by omega, by omega, by omega, by omega, by omega, by omega⟩ e0
  refine dif (fun cs => near) (fun cs => ?_)
  refine difP (fun _ => near) (fun ck => ?_)
  clear near
  have i5 := isq_le5 e0 z5
  have i2 := isq_le2 g0 z6
  have ip := isq_up g0
  refine st e_l_root <| w_l_root (two_le (le_lt z5 (show 25 < 2 ^ 5 by decide)) (by decide)) ?_
  walk_at "d"
  refine st e_l_root <| w_l_root (two_le (le_lt z6 (show 4 < 2 ^ 3 by decide)) (by decide)) ?_
  clear cs
  generalize isq e = E at *
  generalize isq f = F at *
  walk_at "d"
  refine st e_l_pick <| w_l_pick (by decide) (by decide) fun dd hd => ?_
  obtain ⟨s, t, rfl, t0, y1, y2, s0⟩ : ∃ p q : Int, dd = fd p q ∧ 0 < q ∧ p.natAbs ≤ 3 ∧ q.natAbs ≤ 2 ∧ 0 < p := by
    simp only [List.mem_cons, List.not_mem_nil, or_false] at hd
    rcases hd with h | h | h | h <;> exact ⟨_, _, h, by decide, by decide, by decide, by decide⟩
  clear hd
  have ef : (.tuple [.int E, .int F] : PyData) = fd E F := rfl
  rw [ef]
  walk_at "d"
  refine st e_l_draw <| w_l_draw (by decide) (by decide) fun j j0 j1 => ?_
  walk_at "d"
  have n5 : (0 - E).natAbs ≤ 5 := by omega
  have n3 : (0 - s).natAbs ≤ 3 := by omega
  have d2 : ∀ {x : Int}, x.natAbs ≤ 5 → x.natAbs ≤ 5 := fun h => h
  refine difP (fun _ => ?_) (fun _ => st e_l_neg <| w_l_neg ?_)
  all_goals
    walk_at "d"
    refine st e_l_pick <| w_l_pick (by decide) (by decide) fun dd hd => ?_
    obtain ⟨p, q, u, v, rfl, fp, fu, x1, x2, x3, x4, x5⟩ : ∃ p q u v : Int, dd = .tuple [fd p q, fd u v] ∧ IsFr p q ∧ IsFr u v ∧ p.natAbs ≤ 4 ∧ q.natAbs ≤ 5 ∧ u.natAbs ≤ 4 ∧ v.natAbs ≤ 5 ∧ (p ≠ 0 ∨ u ≠ 0) := by
      simp only [List.mem_cons, List.not_mem_nil, or_false] at hd
      rcases hd with h | h | h | h | h <;> exact ⟨_, _, _, _, h, ⟨by decide, by decide⟩, ⟨by decide, by decide⟩, by decide, by decide, by decide, by decide, by decide⟩
    clear hd
    walk_at "d"
    refine difP (fun _ => ?_) (fun _ => ?_)
    · refine difP (fun _ => ?_) (fun _ => st e_l_neg <| w_l_neg ?_)
      all_goals
        walk_at "d"
        refine st e_l_add <| w_l_addQ (i := 5) (j := 2) (k := 3) (l := 2) (by decide) (by decide) (by decide) (by decide) ip t0 (by assumption) i2 (by assumption) y2 fun m n fm zm zn => ?_
        walk_at "d"
        refine st e_l_mul <| w_l_mulQ (by decide) (by decide) (by decide) (by decide) fm.1 fp.1 zm zn x1 x2 fun m1 n1 fm1 zm1 zn1 _ => ?_
        refine st e_l_add <| w_l_addQ (by decide) (by decide) (by decide) (by decide) b0 fm1.1 z1 z2 zm1 zn1 fun m2 n2 fm2 zm2 zn2 => ?_
        walk_at "d"
        refine st e_l_mul <| w_l_mulQ (by decide) (by decide) (by decide) (by decide) fm.1 fu.1 zm zn x3 x4 fun m3 n3 fm3 zm3 zn3 _ => ?_
        refine st e_l_add <| w_l_addQ (by decide) (by decide) (by decide) (by decide) d0 fm3.1 z3 z4 zm3 zn3 fun m4 n4 fm4 zm4 zn4 => ?_
        refine st e_l_mul <| w_l_mulQ (by decide) (by decide) (by decide) (by decide) t0 t0 y1 y2 y1 y2 fun m5 n5 fm5 zm5 zn5 sm => ?_
        refine hc _ _ _ _ _ _ ⟨fm2, fm4, fm5, by omega, by omega, by omega, by omega, by omega, by omega⟩ ?_
        rw [sg_pos s0] at sm
        exact sg_val.2.1 sm
    · refine st e_l_mul <| w_l_mulQ (by decide) (by decide) (by decide) (by decide) fp.1 b0 x1 x2 z1 z2 fun m n fm zm zn _ => ?_
      walk_at "d"
      refine st e_l_mul <| w_l_mulQ (by decide) (by decide) (by decide) (by decide) fu.1 d0 x3 x4 z3 z4 fun m1 n1 fm1 zm1 zn1 _ => ?_
      refine st e_l_add <| w_l_addQ (by decide) (by decide) (by decide) (by decide) fm.1 fm1.1 zm zn zm1 zn1 fun m2 n2 fm2 zm2 zn2 => ?_
      walk_at "d"
      refine difP (fun _ => ?_) (fun _ => ?_)
      · exact hl _ _ _ _ _ _ ⟨fp, fu, fm2, by omega, by omega, by omega, by omega, by omega, by omega, x5⟩
      · refine st e_l_add <| w_l_addQ (k := 5) (l := 2) (by decide) (by decide) (by decide) (by decide) fm2.1 ip zm2 zn2 (by assumption) i2 fun m3 n3 fm3 zm3 zn3 => ?_
        exact hl _ _ _ _ _ _ ⟨fp, fu, fm3, by omega, by omega, by omega, by omega, by omega, by omega, x5⟩
/-- a curve through a drawn point; nothing crosses yet -/
theorem w_l_through {ds : List PyData} (hds : ds.length ≤ 1) (h : ∀ y, Cur0 y → R y) : t_l_through [.well, .dat (.list ds)] R Ex := by
  have hc : ∀ a b c d e f : Int, CvB a b c d e f → 0 < e → R (.tuple [.str "circle", fd a b, fd c d, fd e f]) := fun a b c d e f z r => h _ ⟨_, _, _, _, _, _, _, rfl, .inr ⟨rfl, z, r⟩⟩
  have hl : ∀ a b c d e f : Int, Cv0 a b c d e f → R (.tuple [.str "line", fd a b, fd c d, fd e f]) := fun a b c d e f z => h _ ⟨_, _, _, _, _, _, _, rfl, .inl ⟨rfl, z⟩⟩
  unfold t_l_through b_l_through
  obtain ⟨k_l_point, e_l_point⟩ : ∃ k, t_l_point = k := ⟨_, rfl⟩
  rw [e_l_point]
  obtain ⟨k_l_meet, e_l_meet⟩ : ∃ k, t_l_meet = k := ⟨_, rfl⟩
  rw [e_l_meet]
  obtain ⟨k_l_lean, e_l_lean⟩ : ∃ k, t_l_lean = k := ⟨_, rfl⟩
  rw [e_l_lean]
  obtain ⟨k_l_draw, e_l_draw⟩ : ∃ k, t_l_draw = k := ⟨_, rfl⟩
  rw [e_l_draw]
  obtain ⟨k_l_line, e_l_line⟩ : ∃ k, t_l_line = k := ⟨_, rfl⟩
  rw [e_l_line]
  obtain ⟨k_l_add, e_l_add⟩ : ∃ k, t_l_add = k := ⟨_, rfl⟩
  rw [e_l_add]
  obtain ⟨k_l_mul, e_l_mul⟩ : ∃ k, t_l_mul = k := ⟨_, rfl⟩
  rw [e_l_mul]
  obtain ⟨k_l_neg, e_l_neg⟩ : ∃ k, t_l_neg = k := ⟨_, rfl⟩
  rw [e_l_neg]
  walk_at "d"
  refine st e_l_point <| w_l_point fun x y hx hy => ?_
  obtain ⟨a, b, rfl, f1, z1, z2⟩ := hx
  obtain ⟨c, d, rfl, f2, z3, z4⟩ := hy
  walk_at "d"
  refine difP (fun c => by omega) (fun _ => ?_)
  walk_at "d"
  show k_l_draw _ _ _
  refine st e_l_draw <| w_l_draw (by decide) (by decide) fun k k0 k1 => ?_
  walk_at "d"
  refine difP (fun _ => ?_) (fun _ => ?_)
  · refine st e_l_line <| w_l_line fun p q u v s t fp fu fs x1 x2 x3 x4 _ _ n => ?_
    unfold cvD
    walk_at "d"
    have cut : cutD [.str "line", fd p q, fd u v, fd s t] (some 1) (some 3) = [fd p q, fd u v] := rfl
    rw [cut]
    walk_at "d"
    refine st e_l_mul <| w_l_mulQ (by decide) (by decide) (by decide) (by decide) fp.1 f1.1 x1 x2 z1 z2 fun m n fm zm zn _ => ?_
    refine st e_l_mul <| w_l_mulQ (by decide) (by decide) (by decide) (by decide) fu.1 f2.1 x3 x4 z3 z4 fun m1 n1 fm1 zm1 zn1 _ => ?_
    refine st e_l_add <| w_l_addQ (by decide) (by decide) (by decide) (by decide) fm.1 fm1.1 zm zn zm1 zn1 fun m2 n2 fm2 zm2 zn2 => ?_
    exact hl _ _ _ _ _ _ ⟨fp, fu, fm2, by omega, by omega, by omega, by omega, by omega, by omega, by assumption⟩
  · refine st e_l_point <| w_l_point fun x y hx hy => ?_
    obtain ⟨p, q, rfl, fp, x1, x2⟩ := hx
    obtain ⟨u, v, rfl, fu, x3, x4⟩ := hy
    walk_at "d"
    refine st e_l_neg <| w_l_neg ?_
    refine st e_l_add <| w_l_addQ (k := 6) (l := 4) (by decide) (by decide) (by decide) (by decide) f1.1 fp.1 z1 z2 (by omega) x2 fun m n fm zm zn => ?_
    walk_at "d"
    refine st e_l_neg <| w_l_neg ?_
    refine st e_l_add <| w_l_addQ (k := 6) (l := 4) (by decide) (by decide) (by decide) (by decide) f2.1 fu.1 z3 z4 (by omega) x4 fun m1 n1 fm1 zm1 zn1 => ?_
    walk_at "d"
    refine st e_l_mul <| w_l_mulQ (by decide) (by decide) (by decide) (by decide) fm.1 fm.1 zm zn zm zn fun m2 n2 fm2 zm2 zn2 _ => ?_
    refine st e_l_mul <| w_l_mulQ (by decide) (by decide) (by decide) (by decide) fm1.1 fm1.1 zm1 zn1 zm1 zn1 fun m3 n3 fm3 zm3 zn3 _ => ?_
    refine st e_l_add <| w_l_addQ (by decide) (by decide) (by decide) (by decide) fm2.1 fm3.1 zm2 zn2 zm3 zn3 fun m4 n4 fm4 zm4 zn4 => ?_
    have e4 : fd m4 n4 = .tuple [.int m4, .int n4] := rfl
    rw [e4]
    walk_at "d"
    refine difP (fun p4 => ?_) (fun _ => ?_)
    · exact hc _ _ _ _ _ _ ⟨fp, fu, fm4, by omega, by omega, by omega, by omega, by omega, by omega⟩ p4
    · exact hc _ _ _ _ _ _ ⟨fp, fu, (show IsFr 1 1 from ⟨by decide, by decide⟩), by omega, by omega, by omega, by omega, by decide, by decide⟩ (by decide)
end

end My

set_option maxHeartbeats 4000000
namespace My
open PySem L2 Ld
open Lw hiding Dv DvAll FreshB tData tDatas pd_int pd_bl pd_non pd_str pd_neg pd_pow pda_nil pda_cons pd_tup pd_lst pd_dct dv_cut dv_cat tup_at rRepr call_repr rIsD call_isD
local macro_rules | `(tactic| walk_at "d") => `(tactic| try dsimp only [tfOf, startD, slotD, putD, wipeD, dV, dC, dOp, dUn, dNil, dCons, dConsW, dConsF, dCallV, dCall, datsOf, dCB, dTup, dLst, dIf, dTst, dCmp, dCmpV, dChain, dNot, dAnd, dOr, dAndV, dOrV, dNotV, dTb, sSeq, sNx, sSet, sRet, sRetN, sIf, sExpr, sBrk, sCont, sPar, sPar3, lenK, gdN, gdNil, gdCons, sAsg, sFor, iLst, iTpl, iRg1, iRg2, iZp, dYes, dLc, dLc2, dNoP, dPart, dSl, dSlS, sOwn, ownK, sApp, sAppL, sSetL, sIfL, sInsL, sTry1, dOwnLst, fLstL, sExt, sIns, sPut, sFrz, dOwnLen, dOwnIx, sRaise, sAug, t_draw, nthL, e_int, e_int0, e_add, e_addT, e_addL, e_addSI, e_addST, e_shl, e_ci, e_eqI, e_eqS, e_eqB, e_neI, e_neS, e_neB, e_isN, e_notN, e_nthT, e_nthL, e_lenT, e_lenL, e_i1, e_i2, e_lcm, e_intO, e_intB, e_isqrt, e_divmod, e_repr, e_reprS, e_tupL, e_tupT, e_lst, e_truB, e_truI, e_truN, e_truL, e_truT, e_neg, e_bits, e_back, e_backL, e_slT, e_slL, e_slST, e_gdT, e_gdL, Ld.isNon])
local macro_rules | `(tactic| walk_at "u") => `(tactic| (dsimp only; walk_at "d"))

section
variable {R : RD} {Ex : XD}
/-! ### what crosses, by the law and by the program -/
def placeD (s : S4 × S4) : PyData := .tuple [formD s.1.1 s.1.2.1 s.1.2.2.1 s.1.2.2.2, formD s.2.1 s.2.2.1 s.2.2.2.1 s.2.2.2.2]
theorem sq_pos {A B : Int} (ne : A ≠ 0 ∨ B ≠ 0) : 0 < A * A + B * B := by
  have a0 : 0 ≤ A * A := by have := ab_sq A; have := Int.mul_nonneg (ab_ge A) (ab_ge A); omega
  have b0 : 0 ≤ B * B := by have := ab_sq B; have := Int.mul_nonneg (ab_ge B) (ab_ge B); omega
  rcases ne with c | c
  · have := ab_sq A
    have := Int.mul_pos (ab_pos c) (ab_pos c)
    omega
  · have := ab_sq B
    have := Int.mul_pos (ab_pos c) (ab_pos c)
    omega
theorem mul_sg {f x : Int} (hf : 0 < f) : (0 < f * x ↔ 0 < x) ∧ (f * x < 0 ↔ x < 0) ∧ (f * x = 0 ↔ x = 0) := by
  have h := sg_up hf x
  have w := @sg_val x
  refine ⟨⟨fun k => w.2.1 ?_, fun k => Int.mul_pos hf k⟩, ⟨fun k => w.2.2 ?_, fun k => Int.mul_neg_of_pos_of_neg hf k⟩, ⟨fun k => w.1 ?_, fun k => ?_⟩⟩
  · rw [← h, sg_pos k]
  · rw [← h, sg_neg k]
  · rw [← h, k] <;> rfl
  · rw [k, Int.mul_zero]
theorem form_up {f x b r d : Int} (hf : 0 < f) (hd : 0 < d) (hr : 0 ≤ r) : formD (f * f * x) (f * b) (f * f * r) (f * f * d) = formD x b r d := by
  have ff := Int.mul_pos hf hf
  refine (form_same ⟨1, f * f, by decide, ff, by grind, by grind, ?_⟩ hd (Int.mul_pos ff hd) hr (Int.mul_nonneg (by omega) hr)).symm
  rw [ss_up hf]
  grind
theorem chord_same {A B C u v t m : Int} (ne : A ≠ 0 ∨ B ≠ 0) (hm : 0 < m) : (chordF A B C u v t m).map placeD = chordP A B C u v t m := by
  unfold chordF
  have g0 := gcd_any (C := C) ne
  have dA : gcdI (gcdI A B) C ∣ A := Int.dvd_trans (gcd_dvd_l _ _) (gcd_dvd_l _ _)
  have dB : gcdI (gcdI A B) C ∣ B := Int.dvd_trans (gcd_dvd_l _ _) (gcd_dvd_r _ _)
  have dC : gcdI (gcdI A B) C ∣ C := gcd_dvd_r _ _
  have k1 := fdiv_of g0 dA
  have k2 := fdiv_of g0 dB
  have k3 := fdiv_of g0 dC
  generalize gcdI (gcdI A B) C = f at *
  generalize A.fdiv f = a at *
  generalize B.fdiv f = b at *
  generalize C.fdiv f = c at *
  subst k1
  subst k2
  subst k3
  have ne2 : a ≠ 0 ∨ b ≠ 0 := by
    rcases ne with h | h
    · exact .inl fun z => h (by rw [z, Int.mul_zero])
    · exact .inr fun z => h (by rw [z, Int.mul_zero])
  have K0 := sq_pos ne2
  have ff := Int.mul_pos g0 g0
  have MK := Int.mul_pos hm K0
  unfold chordG chordP
  dsimp only
  have eN : f * a * u + f * b * v - f * c * m = f * (a * u + b * v - c * m) := by grind
  have eK : f * a * (f * a) + f * b * (f * b) = f * f * (a * a + b * b) := by grind
  rw [eN, eK]
  generalize a * u + b * v - c * m = n at *
  generalize hk : a * a + b * b = k at *
  have er : t * (f * f * k) - f * n * (f * n) = f * f * (t * k - n * n) := by grind
  have ex : u * (f * f * k) - f * n * (f * a) = f * f * (u * k - n * a) := by grind
  have ey : v * (f * f * k) - f * n * (f * b) = f * f * (v * k - n * b) := by grind
  have ed : m * (f * f * k) = f * f * (m * k) := by grind
  rw [er, ex, ey, ed]
  generalize t * k - n * n = r
  generalize u * k - n * a = x
  generalize v * k - n * b = y
  generalize m * k = d at *
  have s1 := (mul_sg (x := r) ff).2.1
  have s2 := (mul_sg (x := r) ff).2.2
  have s3 : (0 < f * b ∨ (f * b = 0 ∧ f * a < 0)) ↔ (0 < b ∨ (b = 0 ∧ a < 0)) := by
    rw [(mul_sg (x := b) g0).1, (mul_sg (x := b) g0).2.2, (mul_sg (x := a) g0).2.1]
  by_cases c1 : r < 0
  · rw [if_pos c1, if_pos (s1.mpr c1)] <;> rfl
  rw [if_neg c1, if_neg (fun z => c1 (s1.mp z))]
  have r0 : 0 ≤ r := by omega
  by_cases c2 : r = 0
  · rw [if_pos c2, if_pos (s2.mpr c2)]
    show [PyData.tuple [formD x 0 0 d, formD y 0 0 d]] = [plF _ _ _ _]
    unfold plF
    have p : ∀ z : Int, formD z 0 0 d = fracD (f * f * z) (f * f * d) := fun z => by
      rw [form_zero]
      exact frac_congr MK (Int.mul_pos ff MK) (by grind)
    rw [p, p]
  rw [if_neg c2, if_neg (fun z => c2 (s2.mp z))]
  have n1 : -(f * b) = f * (0 - b) := by grind
  have n2 : -(f * a) = f * (0 - a) := by grind
  unfold xyD
  rw [n1, n2, form_up g0 MK r0, form_up g0 MK r0, form_up g0 MK r0, form_up g0 MK r0]
  by_cases c3 : 0 < b ∨ (b = 0 ∧ a < 0)
  · rw [if_pos c3, if_pos (s3.mpr c3)] <;> rfl
  · rw [if_neg c3, if_neg (fun z => c3 (s3.mp z))] <;> rfl
theorem swapX {u e k m K N M A : Int} (p : (e * m - u * k) * K = A * (M * m - N * k)) : (u * K - N * A) * k = (e * K - -M * -A) * m := by grind
theorem swapR {t g k m K N M : Int} (p : K * (g * m * m - t * k * k) = (M * m - N * k) * (M * m + N * k)) : (t * K - N * N) * (k * k) = (g * K - -M * -M) * (m * m) := by grind
/-- the radical line's crossings, by either circle -/
theorem chord_swap {u v t m e f g k : Int} (hm : 0 < m) (hk : 0 < k) (ap : apart u v m e f k) :
    chordP (2 * (e * m - u * k) * m * k) (2 * (f * m - v * k) * m * k) ((e * e + f * f - g) * m * m - (u * u + v * v - t) * k * k) u v t m =
    chordP (2 * (u * k - e * m) * k * m) (2 * (v * k - f * m) * k * m) ((u * u + v * v - t) * k * k - (e * e + f * f - g) * m * m) e f g k := by
  have K0 := sq_pos ap
  have mk := Int.mul_pos hm hk
  have e1 : 2 * (u * k - e * m) * k * m = -(2 * (e * m - u * k) * m * k) := by grind
  have e2 : 2 * (v * k - f * m) * k * m = -(2 * (f * m - v * k) * m * k) := by grind
  have e3 : (u * u + v * v - t) * k * k - (e * e + f * f - g) * m * m = -((e * e + f * f - g) * m * m - (u * u + v * v - t) * k * k) := by grind
  rw [e1, e2, e3]
  obtain ⟨A, hA⟩ : ∃ A, 2 * (e * m - u * k) * m * k = A := ⟨_, rfl⟩
  obtain ⟨B, hB⟩ : ∃ B, 2 * (f * m - v * k) * m * k = B := ⟨_, rfl⟩
  obtain ⟨C, hC⟩ : ∃ C, (e * e + f * f - g) * m * m - (u * u + v * v - t) * k * k = C := ⟨_, rfl⟩
  rw [hA, hB] at K0
  rw [hA, hB, hC]
  unfold chordP
  dsimp only
  have eN : -A * e + -B * f - -C * k = -(A * e + B * f - C * k) := by grind
  have eK : -A * -A + -B * -B = A * A + B * B := by grind
  rw [eN, eK]
  obtain ⟨N, hN⟩ : ∃ N, A * u + B * v - C * m = N := ⟨_, rfl⟩
  obtain ⟨M, hM⟩ : ∃ M, A * e + B * f - C * k = M := ⟨_, rfl⟩
  rw [hN, hM]
  have h1 : 2 * m * k * (M * m - N * k) = A * A + B * B := by
    have x : M * m - N * k = A * (e * m - u * k) + B * (f * m - v * k) := by
      rw [← hN, ← hM]
      grind
    have y : 2 * m * k * (A * (e * m - u * k) + B * (f * m - v * k)) = A * (2 * (e * m - u * k) * m * k) + B * (2 * (f * m - v * k) * m * k) := by grind
    rw [x, y, hA, hB]
  have h2 : 2 * m * k * (g * m * m - t * k * k) = M * m + N * k := by
    have x : M * m + N * k = A * (e * m + u * k) + B * (f * m + v * k) - 2 * m * k * C := by
      rw [← hN, ← hM]
      grind
    have y : A * (e * m + u * k) = 2 * m * k * (e * e * m * m - u * u * k * k) := by
      rw [← hA]
      grind
    have y2 : B * (f * m + v * k) = 2 * m * k * (f * f * m * m - v * v * k * k) := by
      rw [← hB]
      grind
    rw [x, y, y2, ← hC]
    grind
  generalize hK : A * A + B * B = K at *
  have mk2 : 2 * m * k ≠ 0 := by
    have : 2 * m * k = 2 * (m * k) := by grind
    omega
  have hX : (u * K - N * A) * k = (e * K - -M * -A) * m := by
    have p : (e * m - u * k) * K = A * (M * m - N * k) := by
      refine Int.eq_of_mul_eq_mul_left mk2 ?_
      have x : 2 * m * k * (A * (M * m - N * k)) = A * (2 * m * k * (M * m - N * k)) := by grind
      have y : 2 * m * k * ((e * m - u * k) * K) = (2 * (e * m - u * k) * m * k) * K := by grind
      rw [x, y, h1, hA]
    exact swapX p
  have hY : (v * K - N * B) * k = (f * K - -M * -B) * m := by
    have p : (f * m - v * k) * K = B * (M * m - N * k) := by
      refine Int.eq_of_mul_eq_mul_left mk2 ?_
      have x : 2 * m * k * (B * (M * m - N * k)) = B * (2 * m * k * (M * m - N * k)) := by grind
      have y : 2 * m * k * ((f * m - v * k) * K) = (2 * (f * m - v * k) * m * k) * K := by grind
      rw [x, y, h1, hB]
    exact swapX p
  have hR : (t * K - N * N) * (k * k) = (g * K - -M * -M) * (m * m) := by
    have p : K * (g * m * m - t * k * k) = (M * m - N * k) * (M * m + N * k) := by
      refine Int.eq_of_mul_eq_mul_left mk2 ?_
      have x : 2 * m * k * (K * (g * m * m - t * k * k)) = K * (2 * m * k * (g * m * m - t * k * k)) := by grind
      have y : 2 * m * k * ((M * m - N * k) * (M * m + N * k)) = (2 * m * k * (M * m - N * k)) * (M * m + N * k) := by grind
      rw [x, y, h1, h2]
    exact swapR p
  have neAB : A ≠ 0 ∨ B ≠ 0 := by
    rw [← hA, ← hB]
    exact ap
  clear ap
  clear h1 h2 hA hB hC hN hM hK e1 e2 e3 eN eK
  generalize t * K - N * N = r at *
  generalize g * K - -M * -M = r2 at *
  generalize u * K - N * A = X at *
  generalize e * K - -M * -A = X2 at *
  generalize v * K - N * B = Y at *
  generalize f * K - -M * -B = Y2 at *
  have MK := Int.mul_pos hm K0
  have KK := Int.mul_pos hk K0
  have mm := Int.mul_pos hm hm
  have kk := Int.mul_pos hk hk
  have hs : sg r = sg r2 := by
    have q := congrArg sg hR
    rw [sg_mul r (k * k), sg_mul r2 (m * m), sg_pos mm, sg_pos kk, Int.mul_one, Int.mul_one] at q
    exact q
  have fm : ∀ {X X2 : Int}, 0 ≤ r → 0 ≤ r2 → X * k = X2 * m → ∀ b, formD X b r (m * K) = formD X2 b r2 (k * K) := fun {X X2} r0 r20 hX b => by
    refine form_same ⟨m, k, hm, hk, by grind, by grind, ?_⟩ MK KK r0 r20
    have x : m * m * (ss b * r2) = ss b * (r2 * (m * m)) := by grind
    rw [x, ← hR]
    grind
  rcases tri r with c | c | c
  · have c2 : r2 < 0 := sg_val.2.2 (by rw [← hs, sg_neg c])
    rw [if_pos c, if_pos c2]
  · have c2 : r2 = 0 := sg_val.1 (by rw [← hs, c] <;> rfl)
    rw [if_neg (show ¬ r < 0 by omega), if_pos c, if_neg (show ¬ r2 < 0 by omega), if_pos c2]
    unfold plF
    rw [frac_congr MK KK (by grind : X * (k * K) = X2 * (m * K)), frac_congr MK KK (by grind : Y * (k * K) = Y2 * (m * K))]
  · have c2 : 0 < r2 := sg_val.2.1 (by rw [← hs, sg_pos c])
    rw [if_neg (show ¬ r < 0 by omega), if_neg (show ¬ r = 0 by omega), if_neg (show ¬ r2 < 0 by omega), if_neg (show ¬ r2 = 0 by omega)]
    unfold xyD
    rw [fm (by omega) (by omega) hX, fm (by omega) (by omega) hX, fm (by omega) (by omega) hY, fm (by omega) (by omega) hY]
    rw [Int.neg_neg, Int.neg_neg]
    have ne : A ≠ 0 ∨ B ≠ 0 := neAB
    by_cases c3 : 0 < B ∨ (B = 0 ∧ A < 0)
    · rw [if_pos c3, if_neg (show ¬ (0 < -B ∨ (-B = 0 ∧ -A < 0)) by omega)]
    · rw [if_neg c3, if_pos (show 0 < -B ∨ (-B = 0 ∧ -A < 0) by omega)]
theorem meet_swap (A B C E F G : Int) : meetP A B C E F G = meetP E F G A B C := by
  unfold meetP
  dsimp only
  have e1 : E * B - A * F = -(A * F - E * B) := by grind
  rw [e1]
  generalize hw : A * F - E * B = w
  have e2 : G * B - C * F = -(C * F - G * B) := by grind
  have e3 : E * C - A * G = -(A * G - E * C) := by grind
  rw [e2, e3, sg_flip]
  have n : ∀ x : Int, -sg w * -x = sg w * x := fun x => by grind
  rw [n, n, n]
  by_cases c : w = 0
  · rw [if_pos c, if_pos (by omega)]
  · rw [if_neg c, if_neg (by omega)]
theorem com_swap {k k' : Str} {a b c d e f a' b' c' d' e' f' : Int} (z : CvB a b c d e f) (y : CvB a' b' c' d' e' f') (rz : Right k a c e) (ry : Right k' a' c' e') : comP k' a' b' c' d' e' f' k a b c d e f = comP k a b c d e f k' a' b' c' d' e' f' := by
  have nl : ("circle" : Str) ≠ "line" := by decide
  unfold comP
  rcases rz with ⟨rfl, rz⟩ | ⟨rfl, rz⟩ <;> rcases ry with ⟨rfl, ry⟩ | ⟨rfl, ry⟩
  · rw [if_pos rfl, if_pos rfl]
    exact meet_swap _ _ _ _ _ _
  · rw [if_neg nl, if_pos rfl, if_neg nl, if_pos rfl]
  · rw [if_neg nl, if_pos rfl, if_neg nl, if_pos rfl]
  · rw [if_neg nl, if_neg nl, if_neg nl, if_neg nl]
    have m0 := z.low
    have k0 := y.low
    generalize e * b * d * (b * d * f) = t at *
    generalize e' * b' * d' * (b' * d' * f') = g at *
    generalize a * d * f = u at *
    generalize c * b * f = v at *
    generalize b * d * f = m at *
    generalize a' * d' * f' = e1 at *
    generalize c' * b' * f' = f1 at *
    generalize b' * d' * f' = k at *
    have sym : apart e1 f1 k u v m ↔ apart u v m e1 f1 k := by
      unfold apart
      have q1 : 2 * (u * k - e1 * m) * k * m = -(2 * (e1 * m - u * k) * m * k) := by grind
      have q2 : 2 * (v * k - f1 * m) * k * m = -(2 * (f1 * m - v * k) * m * k) := by grind
      rw [q1, q2]
      omega
    by_cases c : apart u v m e1 f1 k
    · rw [if_pos c, if_pos (sym.mpr c)]
      exact (chord_swap m0 k0 c).symm
    · rw [if_neg c, if_neg fun z => c (sym.mp z)]
end

end My

set_option maxHeartbeats 4000000
namespace My
open PySem L2 Ld
open Lw hiding Dv DvAll FreshB tData tDatas pd_int pd_bl pd_non pd_str pd_neg pd_pow pda_nil pda_cons pd_tup pd_lst pd_dct dv_cut dv_cat tup_at rRepr call_repr rIsD call_isD
local macro_rules | `(tactic| walk_at "d") => `(tactic| try dsimp only [tfOf, startD, slotD, putD, wipeD, dV, dC, dOp, dUn, dNil, dCons, dConsW, dConsF, dCallV, dCall, datsOf, dCB, dTup, dLst, dIf, dTst, dCmp, dCmpV, dChain, dNot, dAnd, dOr, dAndV, dOrV, dNotV, dTb, sSeq, sNx, sSet, sRet, sRetN, sIf, sExpr, sBrk, sCont, sPar, sPar3, lenK, gdN, gdNil, gdCons, sAsg, sFor, iLst, iTpl, iRg1, iRg2, iZp, dYes, dLc, dLc2, dNoP, dPart, dSl, dSlS, sOwn, ownK, sApp, sAppL, sSetL, sIfL, sInsL, sTry1, dOwnLst, fLstL, sExt, sIns, sPut, sFrz, dOwnLen, dOwnIx, sRaise, sAug, t_draw, nthL, e_int, e_int0, e_add, e_addT, e_addL, e_addSI, e_addST, e_shl, e_ci, e_eqI, e_eqS, e_eqB, e_neI, e_neS, e_neB, e_isN, e_notN, e_nthT, e_nthL, e_lenT, e_lenL, e_i1, e_i2, e_lcm, e_intO, e_intB, e_isqrt, e_divmod, e_repr, e_reprS, e_tupL, e_tupT, e_lst, e_truB, e_truI, e_truN, e_truL, e_truT, e_neg, e_bits, e_back, e_backL, e_slT, e_slL, e_slST, e_gdT, e_gdL, Ld.isNon])
local macro_rules | `(tactic| walk_at "u") => `(tactic| (dsimp only; walk_at "d"))

section
variable {R : RD} {Ex : XD}
/-! ### what crosses, by the law -/
def Spr (s : S4) : Prop := s.1.natAbs < 2 ^ 500 ∧ s.2.1.natAbs < 2 ^ 300 ∧ (0 ≤ s.2.2.1 ∧ s.2.2.1.natAbs < 2 ^ 600) ∧ s.2.2.2.natAbs < 2 ^ 500 ∧ 0 < s.2.2.2
def SeatB (s : S4 × S4) : Prop := Spr s.1 ∧ Spr s.2
theorem w_l_place {s : S4 × S4} (b : SeatB s) (h : R (placeD s)) : t_l_place [.dat (seatD s)] R Ex := by
  obtain ⟨⟨z1, z2, z3, z4, z5⟩, y1, y2, y3, y4, y5⟩ := b
  unfold placeD at h
  unfold seatD
  unfold t_l_place b_l_place
  obtain ⟨k_l_formed, e_l_formed⟩ : ∃ k, t_l_formed = k := ⟨_, rfl⟩
  rw [e_l_formed]
  walk_at "d"
  refine st e_l_formed <| w_l_formed (two_le z1 (by decide)) (two_le z2 (by decide)) (two_le z3.2 (by decide)) (two_le z4 (by decide)) (by omega) ?_
  walk_at "d"
  exact st e_l_formed <| w_l_formed (two_le y1 (by decide)) (two_le y2 (by decide)) (two_le y3.2 (by decide)) (two_le y4 (by decide)) (by omega) h
theorem seat_say {s : S4 × S4} (b : SeatB s) : Say 22300 2 (placeD s) := by
  obtain ⟨⟨z1, z2, z3, z4, z5⟩, y1, y2, y3, y4, y5⟩ := b
  exact (say_two (say_num z5 z3.1 (two_le z1 (by decide)) (two_le z2 (by decide)) (two_le z3.2 (by decide)) (two_le z4 (by decide))) (say_num y5 y3.1 (two_le y1 (by decide)) (two_le y2 (by decide)) (two_le y3.2 (by decide)) (two_le y4 (by decide)))).mono (by decide) (by decide)
theorem chord_bits {A B C u v t m : Int} (ne : A ≠ 0 ∨ B ≠ 0) (hm : 0 < m) (z1 : A.natAbs < 2 ^ 160) (z2 : B.natAbs < 2 ^ 160) (z3 : C.natAbs < 2 ^ 160) (z4 : u.natAbs < 2 ^ 68) (z5 : v.natAbs < 2 ^ 68) (z6 : t.natAbs < 2 ^ 68) (z7 : m.natAbs < 2 ^ 68) : ∀ s ∈ chordF A B C u v t m, SeatB s := by
  unfold chordF
  have g0 := gcd_any (C := C) ne
  have dA : gcdI (gcdI A B) C ∣ A := Int.dvd_trans (gcd_dvd_l _ _) (gcd_dvd_l _ _)
  have dB : gcdI (gcdI A B) C ∣ B := Int.dvd_trans (gcd_dvd_l _ _) (gcd_dvd_r _ _)
  have k1 := fdiv_of g0 dA
  have k2 := fdiv_of g0 dB
  have f1 := fdiv_le g0 z1
  have f2 := fdiv_le g0 z2
  have f3 := fdiv_le g0 z3
  have ne2 : A.fdiv (gcdI (gcdI A B) C) ≠ 0 ∨ B.fdiv (gcdI (gcdI A B) C) ≠ 0 := by
    rcases ne with h | h
    · exact .inl fun z => h (by rw [← k1, z, Int.mul_zero])
    · exact .inr fun z => h (by rw [← k2, z, Int.mul_zero])
  generalize A.fdiv (gcdI (gcdI A B) C) = a at *
  generalize B.fdiv (gcdI (gcdI A B) C) = b at *
  generalize C.fdiv (gcdI (gcdI A B) C) = c at *
  have K0 := sq_pos ne2
  have MK := Int.mul_pos hm K0
  have wk := add_lt (mul_lt f1 f1) (mul_lt f2 f2)
  have wn := sub_lt (add_lt (mul_lt f1 z4) (mul_lt f2 z5)) (two_le (mul_lt f3 z7) (show 160 + 68 ≤ 160 + 68 + 1 by decide))
  have wr := sub_lt (two_le (mul_lt z6 wk) (show 68 + (160 + 160 + 1) ≤ 599 by decide)) (two_le (mul_lt wn wn) (show 160 + 68 + 1 + 1 + (160 + 68 + 1 + 1) ≤ 599 by decide))
  have wx := sub_lt (two_le (mul_lt z4 wk) (show 68 + (160 + 160 + 1) ≤ 499 by decide)) (two_le (mul_lt wn f1) (show 160 + 68 + 1 + 1 + 160 ≤ 499 by decide))
  have wy := sub_lt (two_le (mul_lt z5 wk) (show 68 + (160 + 160 + 1) ≤ 499 by decide)) (two_le (mul_lt wn f2) (show 160 + 68 + 1 + 1 + 160 ≤ 499 by decide))
  have wd := mul_lt z7 wk
  unfold chordG
  dsimp only
  generalize t * (a * a + b * b) - (a * u + b * v - c * m) * (a * u + b * v - c * m) = r at *
  generalize u * (a * a + b * b) - (a * u + b * v - c * m) * a = x at *
  generalize v * (a * a + b * b) - (a * u + b * v - c * m) * b = y at *
  generalize m * (a * a + b * b) = d at *
  have wx' : x.natAbs < 2 ^ 500 := wx
  have wy' : y.natAbs < 2 ^ 500 := wy
  have wr' : r.natAbs < 2 ^ 600 := wr
  have wd' := two_le wd (show 68 + (160 + 160 + 1) ≤ 500 by decide)
  have wa := two_le f1 (show 160 ≤ 300 by decide)
  have wb := two_le f2 (show 160 ≤ 300 by decide)
  have na : (0 - a).natAbs < 2 ^ 300 := by omega
  have nb : (0 - b).natAbs < 2 ^ 300 := by omega
  have o : (0 : Int).natAbs < 2 ^ 300 := by decide
  have o2 : (0 : Int) ≤ 0 ∧ (0 : Int).natAbs < 2 ^ 600 := ⟨by decide, by decide⟩
  have s1 : 0 ≤ r → SeatB ((x, 0 - b, r, d), (y, a, r, d)) := fun h => ⟨⟨wx', nb, ⟨h, wr'⟩, wd', MK⟩, wy', wa, ⟨h, wr'⟩, wd', MK⟩
  have s2 : 0 ≤ r → SeatB ((x, b, r, d), (y, 0 - a, r, d)) := fun h => ⟨⟨wx', wb, ⟨h, wr'⟩, wd', MK⟩, wy', na, ⟨h, wr'⟩, wd', MK⟩
  have s0 : SeatB ((x, 0, 0, d), (y, 0, 0, d)) := ⟨⟨wx', o, o2, wd', MK⟩, wy', o, o2, wd', MK⟩
  intro s hs
  split at hs
  · cases hs
  · have r0 : 0 ≤ r := by omega
    split at hs
    · rw [List.mem_singleton] at hs
      rw [hs]
      exact s0
    · split at hs
      · simp only [List.mem_cons, List.not_mem_nil, or_false] at hs
        rcases hs with rfl | rfl
        · exact s1 r0
        · exact s2 r0
      · simp only [List.mem_cons, List.not_mem_nil, or_false] at hs
        rcases hs with rfl | rfl
        · exact s2 r0
        · exact s1 r0
theorem w_l_meet {k k' : Str} {a b c d e f a' b' c' d' e' f' : Int} (z : CvB a b c d e f) (y : CvB a' b' c' d' e' f') (rz : Right k a c e) (ry : Right k' a' c' e')
    (h : ∀ ss : List (S4 × S4), ss.map placeD = comP k a b c d e f k' a' b' c' d' e' f' → (∀ s ∈ ss, SeatB s) → ss.length ≤ 2 → R (seatsD ss)) : t_l_meet [.dat (cvD k a b c d e f), .dat (cvD k' a' b' c' d' e' f')] R Ex := by
  have nl : ("circle" : Str) ≠ "line" := by decide
  have len : ∀ A B C u v t m : Int, (chordF A B C u v t m).length ≤ 2 := fun A B C u v t m => by
    unfold chordF chordG
    dsimp only
    split
    · decide
    · split
      · show 1 ≤ 2
        decide
      · split <;> (show 2 ≤ 2; decide)
  have b1 : ∀ {R : RD} {Ex : XD}, R (.tuple [.int (a * d * f), .int (c * b * f), .int (e * b * d)]) → t_l_bar [.dat (cvD k a b c d e f)] R Ex := fun h => w_l_bar z h
  have b2 : ∀ {R : RD} {Ex : XD}, R (.tuple [.int (a' * d' * f'), .int (c' * b' * f'), .int (e' * b' * d')]) → t_l_bar [.dat (cvD k' a' b' c' d' e' f')] R Ex := fun h => w_l_bar y h
  have r1 : ∀ {R : RD} {Ex : XD}, R (.tuple [.int (a * d * f), .int (c * b * f), .int (e * b * d * (b * d * f)), .int (b * d * f)]) → t_l_ring [.dat (cvD k a b c d e f)] R Ex := fun h => w_l_ring z h
  have r2 : ∀ {R : RD} {Ex : XD}, R (.tuple [.int (a' * d' * f'), .int (c' * b' * f'), .int (e' * b' * d' * (b' * d' * f')), .int (b' * d' * f')]) → t_l_ring [.dat (cvD k' a' b' c' d' e' f')] R Ex := fun h => w_l_ring y h
  have m0 := z.low
  have k0 := y.low
  have zu := z.wu
  have zv := z.wv
  have zc := z.wc
  have zt := z.wt
  have zm := z.wm
  have yu := y.wu
  have yv := y.wv
  have yc := y.wc
  have yt := y.wt
  have ym := y.wm
  have up : ∀ {x : Int} {n : Nat}, x.natAbs < 2 ^ n → n ≤ 68 → x.natAbs < 2 ^ 68 := fun h k => two_le h k
  unfold comP at h
  unfold cvD at b1 b2 r1 r2 ⊢
  rcases rz with ⟨rfl, rz⟩ | ⟨rfl, rz⟩ <;> rcases ry with ⟨rfl, ry⟩ | ⟨rfl, ry⟩
  · rw [if_pos rfl, if_pos rfl] at h
    unfold t_l_meet b_l_meet
    obtain ⟨k_l_bar, e_l_bar⟩ : ∃ k, t_l_bar = k := ⟨_, rfl⟩
    rw [e_l_bar]
    obtain ⟨k_l_chord, e_l_chord⟩ : ∃ k, t_l_chord = k := ⟨_, rfl⟩
    rw [e_l_chord]
    obtain ⟨k_l_ring, e_l_ring⟩ : ∃ k, t_l_ring = k := ⟨_, rfl⟩
    rw [e_l_ring]
    walk_at "d"
    refine difT (difT ?_)
    refine st e_l_bar <| b1 ?_
    walk_at "d"
    refine st e_l_bar <| b2 ?_
    unfold meetP at h
    dsimp only at h
    clear b1 b2 r1 r2
    generalize a * d * f = A at *
    generalize c * b * f = B at *
    generalize e * b * d = C at *
    generalize a' * d' * f' = E at *
    generalize c' * b' * f' = F at *
    generalize e' * b' * d' = G at *
    walk_at "d"
    refine ⟨mulx_ok zu yv (by decide), mulx_ok yu zv (by decide), ?_⟩
    have zw := sub_lt (mul_lt zu yv) (mul_lt yu zv)
    have z1 := sub_lt (mul_lt zc yv) (mul_lt yc zv)
    have z2 := sub_lt (mul_lt zu yc) (mul_lt yu zc)
    generalize hw : A * F - E * B = w at *
    have fin : ∀ s : Int, s = (if 0 < w then 1 else -1) → if (!decide (w = 0)) = true then (CMulX C F ∧ CMulX G B ∧ CMulX s (C * F - G * B) ∧ CMulX s w ∧ CMulX A G ∧ CMulX E C ∧ CMulX s (A * G - E * C) ∧ CMulX s w ∧ R (.list [.tuple [.tuple [.int (s * (C * F - G * B)), .int 0, .int 0, .int (s * w)], .tuple [.int (s * (A * G - E * C)), .int 0, .int 0, .int (s * w)]]])) else R (.list []) := fun s hs => by
      have zs : s.natAbs < 2 ^ 2 := by rw [hs]; split <;> decide
      refine difN (fun w0 => ?_) (fun w0 => ?_)
      · have es : s = sg w := by
          rw [hs]
          rcases tri w with q | q | q
          · rw [sg_neg q, if_neg (by omega)]
          · exact absurd q w0
          · rw [sg_pos q, if_pos q]
        have sw : 0 < s * w := by
          rw [es, sg_self]
          exact ab_pos w0
        refine ⟨mulx_ok zc yv (by decide), mulx_ok yc zv (by decide), mulx_ok zs z1 (by decide), mulx_ok zs zw (by decide), mulx_ok zu yc (by decide), mulx_ok yu zc (by decide), mulx_ok zs z2 (by decide), mulx_ok zs zw (by decide), ?_⟩
        refine h [((s * (C * F - G * B), 0, 0, s * w), (s * (A * G - E * C), 0, 0, s * w))] ?_ ?_ (by show 1 ≤ 2; decide)
        · rw [if_neg w0]
          show [PyData.tuple [formD (s * (C * F - G * B)) 0 0 (s * w), formD (s * (A * G - E * C)) 0 0 (s * w)]] = _
          rw [form_zero, form_zero, ← es] <;> rfl
        · intro q hq
          rw [List.mem_singleton] at hq
          rw [hq]
          have o : (0 : Int).natAbs < 2 ^ 300 := by decide
          have o2 : (0 : Int) ≤ 0 ∧ (0 : Int).natAbs < 2 ^ 600 := ⟨by decide, by decide⟩
          exact ⟨⟨two_le (mul_lt zs z1) (by decide), o, o2, two_le (mul_lt zs zw) (by decide), sw⟩, two_le (mul_lt zs z2) (by decide), o, o2, two_le (mul_lt zs zw) (by decide), sw⟩
      · refine h [] ?_ (fun s hs => by cases hs) (by show 0 ≤ 2; decide)
        rw [if_pos w0] <;> rfl
    refine difP (fun q => ?_) (fun q => ?_)
    · exact fin 1 (by rw [if_pos q])
    · exact fin (-1) (by rw [if_neg q])
  · rw [if_pos rfl, if_neg nl] at h
    have ne := line_ne z rz
    unfold t_l_meet b_l_meet
    obtain ⟨k_l_bar, e_l_bar⟩ : ∃ k, t_l_bar = k := ⟨_, rfl⟩
    rw [e_l_bar]
    obtain ⟨k_l_chord, e_l_chord⟩ : ∃ k, t_l_chord = k := ⟨_, rfl⟩
    rw [e_l_chord]
    obtain ⟨k_l_ring, e_l_ring⟩ : ∃ k, t_l_ring = k := ⟨_, rfl⟩
    rw [e_l_ring]
    walk_at "d"
    refine difT (difF (difT ?_))
    refine st e_l_bar <| b1 ?_
    walk_at "d"
    refine st e_l_ring <| r2 ?_
    refine st e_l_chord <| w_l_chord ne (two_le zu (by decide)) (two_le zv (by decide)) (two_le zc (by decide)) (two_le yu (by decide)) (two_le yv (by decide)) (two_le yt (by decide)) (two_le ym (by decide)) ?_
    exact h _ (chord_same ne k0) (chord_bits ne k0 (two_le zu (by decide)) (two_le zv (by decide)) (two_le zc (by decide)) (up yu (by decide)) (up yv (by decide)) (up yt (by decide)) (up ym (by decide))) (len _ _ _ _ _ _ _)
  · rw [if_neg nl, if_pos rfl] at h
    have ne := line_ne y ry
    unfold t_l_meet b_l_meet
    obtain ⟨k_l_bar, e_l_bar⟩ : ∃ k, t_l_bar = k := ⟨_, rfl⟩
    rw [e_l_bar]
    obtain ⟨k_l_chord, e_l_chord⟩ : ∃ k, t_l_chord = k := ⟨_, rfl⟩
    rw [e_l_chord]
    obtain ⟨k_l_ring, e_l_ring⟩ : ∃ k, t_l_ring = k := ⟨_, rfl⟩
    rw [e_l_ring]
    walk_at "d"
    refine difF (difF (difF (difT ?_)))
    refine st e_l_bar <| b2 ?_
    walk_at "d"
    refine st e_l_ring <| r1 ?_
    refine st e_l_chord <| w_l_chord ne (two_le yu (by decide)) (two_le yv (by decide)) (two_le yc (by decide)) (two_le zu (by decide)) (two_le zv (by decide)) (two_le zt (by decide)) (two_le zm (by decide)) ?_
    exact h _ (chord_same ne m0) (chord_bits ne m0 (two_le yu (by decide)) (two_le yv (by decide)) (two_le yc (by decide)) (up zu (by decide)) (up zv (by decide)) (up zt (by decide)) (up zm (by decide))) (len _ _ _ _ _ _ _)
  · rw [if_neg nl, if_neg nl] at h
    unfold t_l_meet b_l_meet
    obtain ⟨k_l_bar, e_l_bar⟩ : ∃ k, t_l_bar = k := ⟨_, rfl⟩
    rw [e_l_bar]
    obtain ⟨k_l_chord, e_l_chord⟩ : ∃ k, t_l_chord = k := ⟨_, rfl⟩
    rw [e_l_chord]
    obtain ⟨k_l_ring, e_l_ring⟩ : ∃ k, t_l_ring = k := ⟨_, rfl⟩
    rw [e_l_ring]
    walk_at "d"
    refine difF (difF (difF (difF ?_)))
    refine st e_l_ring <| r1 ?_
    walk_at "d"
    refine st e_l_ring <| r2 ?_
    clear b1 b2 r1 r2
    generalize e * b * d * (b * d * f) = t at *
    generalize e' * b' * d' * (b' * d' * f') = g at *
    generalize a * d * f = u at *
    generalize c * b * f = v at *
    generalize b * d * f = m at *
    generalize a' * d' * f' = e1 at *
    generalize c' * b' * f' = f1 at *
    generalize b' * d' * f' = k at *
    have w2 : (2 : Int).natAbs < 2 ^ 2 := by decide
    have x1 := sub_lt (mul_lt yu zm) (mul_lt zu ym)
    have x2 := sub_lt (mul_lt yv zm) (mul_lt zv ym)
    have x3 := mul_lt (mul_lt (mul_lt w2 x1) zm) ym
    have x4 := mul_lt (mul_lt (mul_lt w2 x2) zm) ym
    have x5 := sub_lt (two_le (add_lt (mul_lt yu yu) (mul_lt yv yv)) (show 36 + 36 + 1 ≤ 74 by decide)) (two_le yt (show 66 ≤ 74 by decide))
    have x6 := sub_lt (two_le (add_lt (mul_lt zu zu) (mul_lt zv zv)) (show 36 + 36 + 1 ≤ 74 by decide)) (two_le zt (show 66 ≤ 74 by decide))
    have x7 := mul_lt (mul_lt x5 zm) zm
    have x8 := mul_lt (mul_lt x6 ym) ym
    have x9 := sub_lt x7 x8
    walk_at "d"
    refine ⟨mulx_ok yu zm (by decide), mulx_ok zu ym (by decide), mulx_ok w2 x1 (by decide), mulx_ok (mul_lt w2 x1) zm (by decide), mulx_ok (mul_lt (mul_lt w2 x1) zm) ym (by decide), mulx_ok yv zm (by decide), mulx_ok zv ym (by decide), mulx_ok w2 x2 (by decide), mulx_ok (mul_lt w2 x2) zm (by decide), mulx_ok (mul_lt (mul_lt w2 x2) zm) ym (by decide), ?_⟩
    refine ⟨mulx_ok yu yu (by decide), mulx_ok yv yv (by decide), mulx_ok x5 zm (by decide), mulx_ok (mul_lt x5 zm) zm (by decide), mulx_ok zu zu (by decide), mulx_ok zv zv (by decide), mulx_ok x6 ym (by decide), mulx_ok (mul_lt x6 ym) ym (by decide), ?_⟩
    have yes : apart u v m e1 f1 k → k_l_chord [.dat (.tuple [.int (2 * (e1 * m - u * k) * m * k), .int (2 * (f1 * m - v * k) * m * k), .int ((e1 * e1 + f1 * f1 - g) * m * m - (u * u + v * v - t) * k * k)]), .dat (.tuple [.int u, .int v, .int t, .int m])] R Ex := fun ap => by
      rw [if_pos ap] at h
      refine st e_l_chord <| w_l_chord ap (two_le x3 (by decide)) (two_le x4 (by decide)) (two_le x9 (by decide)) (two_le zu (by decide)) (two_le zv (by decide)) (two_le zt (by decide)) (two_le zm (by decide)) ?_
      exact h _ (chord_same ap m0) (chord_bits ap m0 (two_le x3 (by decide)) (two_le x4 (by decide)) (two_le x9 (by decide)) (up zu (by decide)) (up zv (by decide)) (up zt (by decide)) (up zm (by decide))) (len _ _ _ _ _ _ _)
    refine difN (fun q => yes (.inl q)) (fun q => difN (fun q2 => yes (.inr q2)) (fun q2 => ?_))
    have ap : ¬ apart u v m e1 f1 k := fun z => z.elim (fun z => z q) (fun z => z q2)
    rw [if_neg ap] at h
    exact h [] rfl (fun s hs => by cases hs) (by show 0 ≤ 2; decide)
end

end My

set_option maxHeartbeats 4000000
namespace My
open PySem L2 Ld
open Lw hiding Dv DvAll FreshB tData tDatas pd_int pd_bl pd_non pd_str pd_neg pd_pow pda_nil pda_cons pd_tup pd_lst pd_dct dv_cut dv_cat tup_at rRepr call_repr rIsD call_isD
local macro_rules | `(tactic| walk_at "d") => `(tactic| try dsimp only [tfOf, startD, slotD, putD, wipeD, dV, dC, dOp, dUn, dNil, dCons, dConsW, dConsF, dCallV, dCall, datsOf, dCB, dTup, dLst, dIf, dTst, dCmp, dCmpV, dChain, dNot, dAnd, dOr, dAndV, dOrV, dNotV, dTb, sSeq, sNx, sSet, sRet, sRetN, sIf, sExpr, sBrk, sCont, sPar, sPar3, lenK, gdN, gdNil, gdCons, sAsg, sFor, iLst, iTpl, iRg1, iRg2, iZp, dYes, dLc, dLc2, dNoP, dPart, dSl, dSlS, sOwn, ownK, sApp, sAppL, sSetL, sIfL, sInsL, sTry1, dOwnLst, fLstL, sExt, sIns, sPut, sFrz, dOwnLen, dOwnIx, sRaise, sAug, t_draw, nthL, e_int, e_int0, e_add, e_addT, e_addL, e_addSI, e_addST, e_shl, e_ci, e_eqI, e_eqS, e_eqB, e_neI, e_neS, e_neB, e_isN, e_notN, e_nthT, e_nthL, e_lenT, e_lenL, e_i1, e_i2, e_lcm, e_intO, e_intB, e_isqrt, e_divmod, e_repr, e_reprS, e_tupL, e_tupT, e_lst, e_truB, e_truI, e_truN, e_truL, e_truT, e_neg, e_bits, e_back, e_backL, e_slT, e_slL, e_slST, e_gdT, e_gdL, Ld.isNon])
local macro_rules | `(tactic| walk_at "u") => `(tactic| (dsimp only; walk_at "d"))

section
variable {R : RD} {Ex : XD}
/-! ### curves drawn, forms alike -/
theorem w_l_pickL {ds : List PyData} (h0 : 0 < ds.length) (h1 : ds.length < 1000) (h : ∀ d ∈ ds, R d) : t_l_pick [.well, .dat (.list ds)] R Ex := by
  unfold t_l_pick b_l_pick
  obtain ⟨k_l_draw, e_l_draw⟩ : ∃ k, t_l_draw = k := ⟨_, rfl⟩
  rw [e_l_draw]
  walk_at "d"
  refine st e_l_draw <| w_l_draw (by omega) (by omega) fun k k0 k1 => ?_
  obtain ⟨d, hd, e⟩ := atD_mem k0 k1
  rw [e_ixL, e]
  exact h d hd
theorem ok_line : PyData.strOk ("line" : Str) = true := by decide +kernel
theorem ok_circle : PyData.strOk ("circle" : Str) = true := by decide +kernel
theorem shaped_cv {k : Str} {a b c d e f : Int} (hk : PyData.strOk k = true) : SeqAt.shaped (cvD k a b c d e f) = true := by
  show ((PyData.strOk k && true) && decide _) = true
  rw [hk] <;> rfl
theorem shaped_one {k : Str} {a b c d e f : Int} (hk : PyData.strOk k = true) : SeqAt.shaped (.list [cvD k a b c d e f]) = true := by
  show (((PyData.strOk k && true) && true) && decide _) = true
  rw [hk] <;> rfl
/-- the first curve -/
def First (x : PyData) : Prop := ∃ a b c d e f : Int, (x = cvD "circle" a b c d e f ∧ CvS a b c d e f) ∨ (x = cvD "line" a b c d e f ∧ CvB a b c d e f ∧ Cv0 a b c d e f)
theorem First.cur0 {x : PyData} (h : First x) : Cur0 x := by
  obtain ⟨a, b, c, d, e, f, ⟨rfl, z⟩ | ⟨rfl, z, y⟩⟩ := h
  · exact ⟨_, _, _, _, _, _, _, rfl, .inr ⟨rfl, z.cv, z.e0⟩⟩
  · exact ⟨_, _, _, _, _, _, _, rfl, .inl ⟨rfl, y⟩⟩
theorem First.cur {x : PyData} (h : First x) : Cur x := by
  obtain ⟨a, b, c, d, e, f, ⟨rfl, z⟩ | ⟨rfl, z, y⟩⟩ := h
  · exact ⟨_, _, _, _, _, _, _, rfl, z.cv, .inr ⟨rfl, z.e0⟩⟩
  · exact ⟨_, _, _, _, _, _, _, rfl, z, .inl ⟨rfl, y.r⟩⟩
theorem w_l_firstL (h : ∀ x, First x → R x) : t_l_line [.well] R Ex := w_l_line fun a b c d e f f1 f2 f3 z1 z2 z3 z4 z5 z6 n =>
  h _ ⟨a, b, c, d, e, f, .inr ⟨rfl, ⟨f1, f2, f3, by omega, by omega, by omega, by omega, by omega, by omega⟩, ⟨f1, f2, f3, by omega, by omega, by omega, by omega, by omega, by omega, n⟩⟩⟩
theorem w_l_firstD (h : ∀ x, First x → R x) : t_l_disc [.well] R Ex := w_l_disc fun a b c d e f z => h _ ⟨a, b, c, d, e, f, .inl ⟨rfl, z⟩⟩
theorem w_l_curve {x : PyData} (hx : First x) (h : ∀ y, Cur0 y → R y) : t_l_curve [.well, .dat (.list [x])] R Ex := by
  have rest : ∀ (b : Int), (if decide (b < 5) = true then t_l_through [.well, .dat (.list [x])] R Ex else if decide (b < 7) = true then t_l_disc [.well] R Ex else t_l_line [.well] R Ex) := fun b =>
    difP (fun _ => w_l_through (by show 1 ≤ 1; decide) h) fun _ => difP (fun _ => w_l_firstD fun y hy => h y hy.cur0) fun _ => w_l_firstL fun y hy => h y hy.cur0
  obtain ⟨a, b, c, d, e, f, ⟨rfl, z⟩ | ⟨rfl, z, y⟩⟩ := hx
  · have bs : ∀ {R : RD} {Ex : XD}, (∀ y, Cur0 y → R y) → t_l_beside [.well, .dat (cvD "circle" a b c d e f)] R Ex := fun h => w_l_beside z h
    unfold cvD at rest bs ⊢
    unfold t_l_curve b_l_curve
    obtain ⟨k_l_draw, e_l_draw⟩ : ∃ k, t_l_draw = k := ⟨_, rfl⟩
    rw [e_l_draw]
    obtain ⟨k_l_beside, e_l_beside⟩ : ∃ k, t_l_beside = k := ⟨_, rfl⟩
    rw [e_l_beside]
    obtain ⟨k_l_pick, e_l_pick⟩ : ∃ k, t_l_pick = k := ⟨_, rfl⟩
    rw [e_l_pick]
    obtain ⟨k_l_through, e_l_through⟩ : ∃ k, t_l_through = k := ⟨_, rfl⟩
    rw [e_l_through]
    obtain ⟨k_l_disc, e_l_disc⟩ : ∃ k, t_l_disc = k := ⟨_, rfl⟩
    rw [e_l_disc]
    obtain ⟨k_l_line, e_l_line⟩ : ∃ k, t_l_line = k := ⟨_, rfl⟩
    rw [e_l_line]
    walk_at "d"
    refine st e_l_draw <| w_l_draw (by decide) (by decide) fun k k0 k1 => ?_
    walk_at "d"
    refine ⟨by show 1 ≤ 1000; decide, ?_⟩
    try dsimp only [lcD]
    walk_at "d"
    refine difT ?_
    try dsimp only [lcD]
    walk_at "d"
    rw [← e_l_through, ← e_l_disc, ← e_l_line]
    refine difP (fun _ => ?_) (fun _ => difF (rest k))
    refine ⟨shaped_one ok_circle, rfl, ?_⟩
    refine difT ?_
    refine st e_l_pick <| w_l_pickL (by show 0 < 1; decide) (by show 1 < 1000; decide) fun dd hd => ?_
    rw [List.mem_singleton] at hd
    rw [hd]
    exact st e_l_beside <| bs h
  · unfold cvD at rest ⊢
    unfold t_l_curve b_l_curve
    obtain ⟨k_l_draw, e_l_draw⟩ : ∃ k, t_l_draw = k := ⟨_, rfl⟩
    rw [e_l_draw]
    obtain ⟨k_l_beside, e_l_beside⟩ : ∃ k, t_l_beside = k := ⟨_, rfl⟩
    rw [e_l_beside]
    obtain ⟨k_l_pick, e_l_pick⟩ : ∃ k, t_l_pick = k := ⟨_, rfl⟩
    rw [e_l_pick]
    obtain ⟨k_l_through, e_l_through⟩ : ∃ k, t_l_through = k := ⟨_, rfl⟩
    rw [e_l_through]
    obtain ⟨k_l_disc, e_l_disc⟩ : ∃ k, t_l_disc = k := ⟨_, rfl⟩
    rw [e_l_disc]
    obtain ⟨k_l_line, e_l_line⟩ : ∃ k, t_l_line = k := ⟨_, rfl⟩
    rw [e_l_line]
    walk_at "d"
    refine st e_l_draw <| w_l_draw (by decide) (by decide) fun k k0 k1 => ?_
    walk_at "d"
    refine ⟨by show 1 ≤ 1000; decide, ?_⟩
    try dsimp only [lcD]
    walk_at "d"
    refine difF ?_
    try dsimp only [lcD]
    walk_at "d"
    rw [← e_l_through, ← e_l_disc, ← e_l_line]
    refine difP (fun _ => ?_) (fun _ => difF (rest k))
    refine ⟨rfl, rfl, ?_⟩
    exact difF (rest k)
theorem w_l_curve0 (h : ∀ y, Cur0 y → R y) : t_l_curve [.well, .dat (.list [])] R Ex := by
  have rest : ∀ (b : Int), (if decide (b < 5) = true then t_l_through [.well, .dat (.list [])] R Ex else if decide (b < 7) = true then t_l_disc [.well] R Ex else t_l_line [.well] R Ex) := fun b =>
    difP (fun _ => w_l_through (by decide) h) fun _ => difP (fun _ => w_l_firstD fun y hy => h y hy.cur0) fun _ => w_l_firstL fun y hy => h y hy.cur0
  unfold t_l_curve b_l_curve
  obtain ⟨k_l_draw, e_l_draw⟩ : ∃ k, t_l_draw = k := ⟨_, rfl⟩
  rw [e_l_draw]
  obtain ⟨k_l_beside, e_l_beside⟩ : ∃ k, t_l_beside = k := ⟨_, rfl⟩
  rw [e_l_beside]
  obtain ⟨k_l_pick, e_l_pick⟩ : ∃ k, t_l_pick = k := ⟨_, rfl⟩
  rw [e_l_pick]
  obtain ⟨k_l_through, e_l_through⟩ : ∃ k, t_l_through = k := ⟨_, rfl⟩
  rw [e_l_through]
  obtain ⟨k_l_disc, e_l_disc⟩ : ∃ k, t_l_disc = k := ⟨_, rfl⟩
  rw [e_l_disc]
  obtain ⟨k_l_line, e_l_line⟩ : ∃ k, t_l_line = k := ⟨_, rfl⟩
  rw [e_l_line]
  walk_at "d"
  refine st e_l_draw <| w_l_draw (by decide) (by decide) fun k k0 k1 => ?_
  walk_at "d"
  refine ⟨by show 0 ≤ 1000; decide, ?_⟩
  try dsimp only [lcD]
  walk_at "d"
  rw [← e_l_through, ← e_l_disc, ← e_l_line]
  refine difP (fun _ => ?_) (fun _ => difF (rest k))
  refine ⟨rfl, rfl, ?_⟩
  exact difF (rest k)
theorem Cur0.cur {x : PyData} (h : Cur0 x) : Cur x := by
  obtain ⟨k, a, b, c, d, e, f, rfl, ⟨rfl, z⟩ | ⟨rfl, z, e0⟩⟩ := h
  · obtain ⟨f1, f2, f3, z1, z2, z3, z4, z5, z6, r⟩ := z
    exact ⟨_, _, _, _, _, _, _, rfl, ⟨f1, f2, f3, by omega, by omega, by omega, by omega, by omega, by omega⟩, .inl ⟨rfl, r⟩⟩
  · exact ⟨_, _, _, _, _, _, _, rfl, z, .inr ⟨rfl, e0⟩⟩
theorem eqv_cv {k k' : Str} {a b c d e f a' b' c' d' e' f' : Int} (h : PyData.eqv (cvD k a b c d e f) (cvD k' a' b' c' d' e' f') = true) : k = k' ∧ a = a' ∧ b = b' ∧ c = c' ∧ d = d' ∧ e = e' ∧ f = f' := by
  unfold cvD fd at h
  simp only [PyData.eqv, PyData.eqvAll, Bool.and_eq_true, beq_iff_eq] at h
  grind
theorem fEq_cv {k k' : Str} {a b c d e f a' b' c' d' e' f' : Int} {R : Bool → Prop} (o1 : PyData.strOk k = true) (o2 : PyData.strOk k' = true) (h : R (PyData.eqv (cvD k a b c d e f) (cvD k' a' b' c' d' e' f'))) : fEq (cvD k a b c d e f) (cvD k' a' b' c' d' e' f') R :=
  (⟨shaped_cv o1, shaped_cv o2, h⟩ : SeqAt.shaped (cvD k a b c d e f) = true ∧ SeqAt.shaped (cvD k' a' b' c' d' e' f') = true ∧ R (PyData.eqv (cvD k a b c d e f) (cvD k' a' b' c' d' e' f')))
/-- where forms are alike nothing crosses -/
theorem w_forms {k k' : Str} {a b c d e f a' b' c' d' e' f' : Int} (z : CvB a b c d e f) (y : CvB a' b' c' d' e' f') (rz : Right k a c e) (ry : Right k' a' c' e') {R : Bool → Prop}
    (h : ∀ q : Bool, (q = true → comP k a b c d e f k' a' b' c' d' e' f' = []) → R q) : t_l_form [.dat (cvD k a b c d e f)] (fun x => t_l_form [.dat (cvD k' a' b' c' d' e' f')] (fun y => fEq x y R) Ex) Ex := by
  have nl : ("circle" : Str) ≠ "line" := by decide
  rcases rz with ⟨rfl, rz⟩ | ⟨rfl, rz⟩ <;> rcases ry with ⟨rfl, ry⟩ | ⟨rfl, ry⟩
  · refine w_l_formL z rz (w_l_formL y ry ?_)
    refine fEq_cv ok_line ok_line (h _ fun q => ?_)
    have w := lf_alike (line_ne z rz) (line_ne y ry) q
    unfold comP meetP
    rw [if_pos rfl, if_pos rfl]
    dsimp only
    rw [if_pos w]
  · refine w_l_formL z rz (w_l_formC ?_)
    refine fEq_cv ok_line ok_circle (h _ fun q => ?_)
    exact absurd (eqv_cv q).1.symm nl
  · refine w_l_formC (w_l_formL y ry ?_)
    refine fEq_cv ok_circle ok_line (h _ fun q => ?_)
    exact absurd (eqv_cv q).1 nl
  · refine w_l_formC (w_l_formC ?_)
    refine fEq_cv ok_circle ok_circle (h _ fun q => ?_)
    obtain ⟨_, rfl, rfl, rfl, rfl, rfl, rfl⟩ := eqv_cv q
    unfold comP
    rw [if_neg nl, if_neg nl, if_neg]
    unfold apart
    intro w
    rcases w with w | w
    · exact w (by grind)
    · exact w (by grind)
end

end My

set_option maxHeartbeats 4000000
namespace My
open PySem L2 Ld
open Lw hiding Dv DvAll FreshB tData tDatas pd_int pd_bl pd_non pd_str pd_neg pd_pow pda_nil pda_cons pd_tup pd_lst pd_dct dv_cut dv_cat tup_at rRepr call_repr rIsD call_isD
local macro_rules | `(tactic| walk_at "d") => `(tactic| try dsimp only [tfOf, startD, slotD, putD, wipeD, dV, dC, dOp, dUn, dNil, dCons, dConsW, dConsF, dCallV, dCall, datsOf, dCB, dTup, dLst, dIf, dTst, dCmp, dCmpV, dChain, dNot, dAnd, dOr, dAndV, dOrV, dNotV, dTb, sSeq, sNx, sSet, sRet, sRetN, sIf, sExpr, sBrk, sCont, sPar, sPar3, lenK, gdN, gdNil, gdCons, sAsg, sFor, iLst, iTpl, iRg1, iRg2, iZp, dYes, dLc, dLc2, dNoP, dPart, dSl, dSlS, sOwn, ownK, sApp, sAppL, sSetL, sIfL, sInsL, sTry1, dOwnLst, fLstL, sExt, sIns, sPut, sFrz, dOwnLen, dOwnIx, sRaise, sAug, t_draw, nthL, e_int, e_int0, e_add, e_addT, e_addL, e_addSI, e_addST, e_shl, e_ci, e_eqI, e_eqS, e_eqB, e_neI, e_neS, e_neB, e_isN, e_notN, e_nthT, e_nthL, e_lenT, e_lenL, e_i1, e_i2, e_lcm, e_intO, e_intB, e_isqrt, e_divmod, e_repr, e_reprS, e_tupL, e_tupT, e_lst, e_truB, e_truI, e_truN, e_truL, e_truT, e_neg, e_bits, e_back, e_backL, e_slT, e_slL, e_slST, e_gdT, e_gdL, Ld.isNon])
local macro_rules | `(tactic| walk_at "u") => `(tactic| (dsimp only; walk_at "d"))

section
variable {R : RD} {Ex : XD}
/-! ### wide numbers of one root by their values -/
theorem small_of {a b r d : Int} (hd : 0 < d) (za : a.natAbs < 2 ^ 2190) (zb : b.natAbs < 2 ^ 1390) (zr : r.natAbs < 2 ^ 800) (zd : d.natAbs < 2 ^ 2190) : Small (formD a b r d) := by
  unfold formD
  split
  · have le := red_le (a := a + b * isq r) hd
    have w := add_lt za (mul_lt zb (isq_small zr))
    have w2 : (a + b * isq r).natAbs < 2 ^ 2191 := w
    exact ⟨two_le (Nat.lt_of_le_of_lt le.1 w2) (by decide), two_le (Nat.lt_of_le_of_lt le.2 zd) (by decide)⟩
  · have g0 := gcd_pos3 (a := 0 - 2 * a * d) (b := a * a - b * b * r) hd
    have w1 := mul_lt zd zd
    have w2 : (2 * a : Int).natAbs < 2 ^ (2 + 2190) := mul_lt (by decide) za
    have w3 := mul_lt w2 zd
    have s1 : (0 - 2 * a * d : Int).natAbs < 2 ^ (2 + 2190 + 2190 + 1) := sub_lt (by decide) w3
    have s2 : (a * a - b * b * r : Int).natAbs < 2 ^ (4380 + 1) := sub_lt (two_le (mul_lt za za) (by decide)) (two_le (mul_lt (mul_lt zb zb) zr) (by decide))
    exact ⟨two_le (fdiv_le g0 w1) (by decide), two_le (fdiv_le g0 s1) (by decide), two_le (fdiv_le g0 s2) (by decide)⟩
theorem w_p_addB {x y : PyData} {a b r w c d s v a1 b1 w1 c1 d1 v1 r1 : Int} (h1 : NumD x a b r w) (h2 : NumD y c d s v) (f1 : Fine4 a b r w) (f2 : Fine4 c d s v) (hrs : r ≠ 0 → 0 ≤ r * s ∧ (r * s).natAbs < 2 ^ 13000)
    (e7 : one7 a b r w c d s v = [a1, b1, w1, c1, d1, v1, r1]) (x1 : a1.natAbs < 2 ^ 20000) (x2 : b1.natAbs < 2 ^ 20000) (x3 : w1.natAbs < 2 ^ 20000) (x4 : c1.natAbs < 2 ^ 20000) (x5 : d1.natAbs < 2 ^ 20000) (x6 : v1.natAbs < 2 ^ 20000)
    (y1 : (a1 * v1 + c1 * w1).natAbs < 2 ^ 12200) (y2 : (b1 * v1 + d1 * w1).natAbs < 2 ^ 12200) (y3 : r1.natAbs < 2 ^ 12200) (y4 : (w1 * v1).natAbs < 2 ^ 12200) (nz : w1 * v1 ≠ 0) (nsq : b1 * v1 + d1 * w1 ≠ 0 → isSqB r1 = false)
    (sm : Small (formD (a1 * v1 + c1 * w1) (b1 * v1 + d1 * w1) r1 (w1 * v1))) (h : R (formD (a1 * v1 + c1 * w1) (b1 * v1 + d1 * w1) r1 (w1 * v1))) : t_p_add [.dat x, .dat y] R Ex := by
  unfold t_p_add b_p_add
  obtain ⟨k_p_over_one_root, e_p_over_one_root⟩ : ∃ k, t_p_over_one_root = k := ⟨_, rfl⟩
  rw [e_p_over_one_root]
  obtain ⟨k_p_number_of, e_p_number_of⟩ : ∃ k, t_p_number_of = k := ⟨_, rfl⟩
  rw [e_p_number_of]
  walk_at "d"
  refine st e_p_over_one_root <| w_p_over_one_root h1 h2 f1 f2 hrs ?_
  rw [e7]
  walk_at "d"
  refine ⟨mulx_ok x1 x6 (by decide), mulx_ok x4 x3 (by decide), mulx_ok x2 x6 (by decide), mulx_ok x5 x3 (by decide), mulx_ok x3 x6 (by decide), ?_⟩
  exact st e_p_number_of <| w_p_number_ofB y1 y2 y3 y4 nz nsq sm h
theorem w_p_multiplyB {x y : PyData} {a b r w c d s v a1 b1 w1 c1 d1 v1 r1 : Int} (h1 : NumD x a b r w) (h2 : NumD y c d s v) (f1 : Fine4 a b r w) (f2 : Fine4 c d s v) (hrs : r ≠ 0 → 0 ≤ r * s ∧ (r * s).natAbs < 2 ^ 13000)
    (e7 : one7 a b r w c d s v = [a1, b1, w1, c1, d1, v1, r1]) (x1 : a1.natAbs < 2 ^ 20000) (x2 : b1.natAbs < 2 ^ 20000) (x3 : w1.natAbs < 2 ^ 20000) (x4 : c1.natAbs < 2 ^ 20000) (x5 : d1.natAbs < 2 ^ 20000) (x6 : v1.natAbs < 2 ^ 20000) (x7 : r1.natAbs < 2 ^ 20000)
    (y1 : (a1 * c1 + b1 * d1 * r1).natAbs < 2 ^ 12200) (y2 : (a1 * d1 + b1 * c1).natAbs < 2 ^ 12200) (y3 : r1.natAbs < 2 ^ 12200) (y4 : (w1 * v1).natAbs < 2 ^ 12200) (nz : w1 * v1 ≠ 0) (nsq : a1 * d1 + b1 * c1 ≠ 0 → isSqB r1 = false)
    (sm : Small (formD (a1 * c1 + b1 * d1 * r1) (a1 * d1 + b1 * c1) r1 (w1 * v1))) (h : R (formD (a1 * c1 + b1 * d1 * r1) (a1 * d1 + b1 * c1) r1 (w1 * v1))) : t_p_multiply [.dat x, .dat y] R Ex := by
  unfold t_p_multiply b_p_multiply
  obtain ⟨k_p_over_one_root, e_p_over_one_root⟩ : ∃ k, t_p_over_one_root = k := ⟨_, rfl⟩
  rw [e_p_over_one_root]
  obtain ⟨k_p_number_of, e_p_number_of⟩ : ∃ k, t_p_number_of = k := ⟨_, rfl⟩
  rw [e_p_number_of]
  walk_at "d"
  refine st e_p_over_one_root <| w_p_over_one_root h1 h2 f1 f2 hrs ?_
  rw [e7]
  walk_at "d"
  refine ⟨mulx_ok x1 x4 (by decide), mulx_ok x2 x5 (by decide), mulx_ok (mul_lt x2 x5) x7 (by decide), mulx_ok x1 x5 (by decide), mulx_ok x2 x4 (by decide), mulx_ok x3 x6 (by decide), ?_⟩
  exact st e_p_number_of <| w_p_number_ofB y1 y2 y3 y4 nz nsq sm h
theorem w_p_addW {a b c e r d v : Int} (z : Bw a b r d) (z2 : Bw c e r v) (hd : 0 < d) (hv : 0 < v) (hr : 0 ≤ r) (sm : Small (formD (a * v + c * d) (b * v + e * d) r (d * v))) (h : R (formD (a * v + c * d) (b * v + e * d) r (d * v))) : t_p_add [.dat (formD a b r d), .dat (formD c e r v)] R Ex := by
  obtain ⟨a', b', r', d', c', e', s', v', a1, b1, w1, c1, d1, v1, r1, h1, h2, f1, f2, hrs, e7, t⟩ := two_dW z z2 hd hv hr
  rw [← t.sum] at h sm
  exact w_p_addB h1 h2 f1 f2 hrs e7 t.x1 t.x2 t.x3 t.x4 t.x5 t.x6 t.s1 t.s2 t.x7 t.dd t.nz t.sq1 sm h
theorem w_p_mulW {a b c e r d v : Int} (z : Bw a b r d) (z2 : Bw c e r v) (hd : 0 < d) (hv : 0 < v) (hr : 0 ≤ r) (sm : Small (formD (a * c + b * e * r) (a * e + b * c) r (d * v))) (h : R (formD (a * c + b * e * r) (a * e + b * c) r (d * v))) : t_p_multiply [.dat (formD a b r d), .dat (formD c e r v)] R Ex := by
  obtain ⟨a', b', r', d', c', e', s', v', a1, b1, w1, c1, d1, v1, r1, h1, h2, f1, f2, hrs, e7, t⟩ := two_dW z z2 hd hv hr
  rw [← t.mul] at h sm
  exact w_p_multiplyB h1 h2 f1 f2 hrs e7 t.x1 t.x2 t.x3 t.x4 t.x5 t.x6 (two_le t.x7 (by decide)) t.m1 t.m2 t.x7 t.dd t.nz t.sq2 sm h
theorem w_p_subW {a b c e r d v : Int} (z : Bw a b r d) (z2 : Bw c e r v) (hd : 0 < d) (hv : 0 < v) (hr : 0 ≤ r) (sm : Small (formD (a * v - c * d) (b * v - e * d) r (d * v))) (h : R (formD (a * v - c * d) (b * v - e * d) r (d * v))) : t_p_subtract [.dat (formD a b r d), .dat (formD c e r v)] R Ex := by
  have e1 : a * v + -c * d = a * v - c * d := by grind
  have e2 : b * v + -e * d = b * v - e * d := by grind
  unfold t_p_subtract b_p_subtract
  obtain ⟨k_p_add, e_p_add⟩ : ∃ k, t_p_add = k := ⟨_, rfl⟩
  rw [e_p_add]
  obtain ⟨k_p_negative, e_p_negative⟩ : ∃ k, t_p_negative = k := ⟨_, rfl⟩
  rw [e_p_negative]
  walk_at "d"
  refine st e_p_negative <| w_p_negS hv (st e_p_add <| w_p_addW z z2.neg hd hv hr ?_ ?_)
  · rw [e1, e2]
    exact sm
  · rw [e1, e2]
    exact h
theorem w_p_sqW {a b r d : Int} (z : Bw a b r d) (hd : 0 < d) (hr : 0 ≤ r) (sm : Small (formD (a * a + b * b * r) (a * b + b * a) r (d * d))) (h : R (formD (a * a + b * b * r) (a * b + b * a) r (d * d))) : t_p_squared [.dat (formD a b r d)] R Ex := by
  unfold t_p_squared b_p_squared
  obtain ⟨k_p_multiply, e_p_multiply⟩ : ∃ k, t_p_multiply = k := ⟨_, rfl⟩
  rw [e_p_multiply]
  walk_at "d"
  exact st e_p_multiply <| w_p_mulW z z hd hd hr sm h
end

end My

set_option maxHeartbeats 4000000
namespace My
open PySem L2 Ld
open Lw hiding Dv DvAll FreshB tData tDatas pd_int pd_bl pd_non pd_str pd_neg pd_pow pda_nil pda_cons pd_tup pd_lst pd_dct dv_cut dv_cat tup_at rRepr call_repr rIsD call_isD
local macro_rules | `(tactic| walk_at "d") => `(tactic| try dsimp only [tfOf, startD, slotD, putD, wipeD, dV, dC, dOp, dUn, dNil, dCons, dConsW, dConsF, dCallV, dCall, datsOf, dCB, dTup, dLst, dIf, dTst, dCmp, dCmpV, dChain, dNot, dAnd, dOr, dAndV, dOrV, dNotV, dTb, sSeq, sNx, sSet, sRet, sRetN, sIf, sExpr, sBrk, sCont, sPar, sPar3, lenK, gdN, gdNil, gdCons, sAsg, sFor, iLst, iTpl, iRg1, iRg2, iZp, dYes, dLc, dLc2, dNoP, dPart, dSl, dSlS, sOwn, ownK, sApp, sAppL, sSetL, sIfL, sInsL, sTry1, dOwnLst, fLstL, sExt, sIns, sPut, sFrz, dOwnLen, dOwnIx, sRaise, sAug, t_draw, nthL, e_int, e_int0, e_add, e_addT, e_addL, e_addSI, e_addST, e_shl, e_ci, e_eqI, e_eqS, e_eqB, e_neI, e_neS, e_neB, e_isN, e_notN, e_nthT, e_nthL, e_lenT, e_lenL, e_i1, e_i2, e_lcm, e_intO, e_intB, e_isqrt, e_divmod, e_repr, e_reprS, e_tupL, e_tupT, e_lst, e_truB, e_truI, e_truN, e_truL, e_truT, e_neg, e_bits, e_back, e_backL, e_slT, e_slL, e_slST, e_gdT, e_gdL, Ld.isNon])
local macro_rules | `(tactic| walk_at "u") => `(tactic| (dsimp only; walk_at "d"))

section
variable {R : RD} {Ex : XD}
/-! ### values at wide places -/
/-- a seat's numbers, wide ones -/
structure SeatW (x p y q r m : Int) : Prop where
  x0 : x.natAbs < 2 ^ 680
  p0 : p.natAbs < 2 ^ 280
  y0 : y.natAbs < 2 ^ 680
  q0 : q.natAbs < 2 ^ 280
  r0 : r.natAbs < 2 ^ 800
  m0 : m.natAbs < 2 ^ 680
  mp : 0 < m
  rn : 0 ≤ r
/-- the place of a seat -/
def plW (x p y q r m : Int) : PyData := .tuple [formD x p r m, formD y q r m]
theorem w_p_addC {a b c e r d : Int} (z : Bw a b r d) (z2 : Bw c e r d) (hd : 0 < d) (hr : 0 ≤ r) (h : R (formD (a + c) (b + e) r d)) : t_p_add [.dat (formD a b r d), .dat (formD c e r d)] R Ex := by
  have e1 : formD (a * d + c * d) (b * d + e * d) r (d * d) = formD (a + c) (b + e) r d := form_to (Int.mul_pos hd hd) hd hr (by grind) (by grind)
  refine w_p_addW z z2 hd hd hr ?_ ?_
  · rw [e1]
    exact small_of hd (two_le (add_lt z.1 z2.1) (by decide)) (two_le (add_lt z.2.1 z2.2.1) (by decide)) z.2.2.1 (two_le z.2.2.2 (by decide))
  · rw [e1]
    exact h
theorem w_p_mulQ {p q c e r v : Int} (zp : p.natAbs < 2 ^ 1500) (zq : q.natAbs < 2 ^ 1500) (z : Bw c e r v) (hq : 0 < q) (hv : 0 < v) (hr : 0 ≤ r) (m1 : (p * c).natAbs < 2 ^ 2190) (m2 : (p * e).natAbs < 2 ^ 1390) (m3 : (q * v).natAbs < 2 ^ 2190) (h : R (formD (p * c) (p * e) r (q * v))) :
    t_p_multiply [.dat (fracD p q), .dat (formD c e r v)] R Ex := by
  have e1 : (p * c + 0 * e * r : Int) = p * c := by grind
  have e2 : (p * e + 0 * c : Int) = p * e := by grind
  rw [← form_zero p r]
  refine w_p_mulW ⟨zp, by decide, z.2.2.1, zq⟩ z hq hv hr ?_ ?_
  · rw [e1, e2]
    exact small_of (Int.mul_pos hq hv) m1 m2 z.2.2.1 m3
  · rw [e1, e2]
    exact h
theorem w_p_subQ {p q c e r v : Int} (z : Bw c e r v) (zp : p.natAbs < 2 ^ 1500) (zq : q.natAbs < 2 ^ 1500) (hv : 0 < v) (hq : 0 < q) (hr : 0 ≤ r) (m1 : (c * q - p * v).natAbs < 2 ^ 2190) (m2 : (e * q).natAbs < 2 ^ 1390) (m3 : (v * q).natAbs < 2 ^ 2190) (h : R (formD (c * q - p * v) (e * q) r (v * q))) :
    t_p_subtract [.dat (formD c e r v), .dat (fracD p q)] R Ex := by
  have e1 : (e * q - 0 * v : Int) = e * q := by grind
  rw [← form_zero p r]
  refine w_p_subW z ⟨zp, by decide, z.2.2.1, zq⟩ hv hq hr ?_ ?_
  · rw [e1]
    exact small_of (Int.mul_pos hv hq) m1 m2 z.2.2.1 m3
  · rw [e1]
    exact h
theorem fd_frac1 {a b : Int} (h : IsFr a b) : fd a b = fracD a b := by
  obtain ⟨h1, h2⟩ := fr_self h
  unfold fd fracD
  rw [h1, h2]
theorem w_p_value_lineW {a b c d e f x p y q r m : Int} (s : SeatW x p y q r m) (f1 : IsFr a b) (f2 : IsFr c d) (f3 : IsFr e f) (za : a.natAbs < 2 ^ 140) (zb : b.natAbs < 2 ^ 140) (zc : c.natAbs < 2 ^ 140) (zd : d.natAbs < 2 ^ 140) (ze : e.natAbs < 2 ^ 140) (zf : f.natAbs < 2 ^ 140)
    (h : R (formD (a * d * f * x + c * b * f * y - e * b * d * m) (a * d * f * p + c * b * f * q) r (b * d * f * m))) : t_p_value_at [.dat (cvD "line" a b c d e f), .dat (plW x p y q r m)] R Ex := by
  obtain ⟨zx, zp, zy, zq, zr, zm, hm, hr⟩ := s
  have hb := f1.1
  have hd := f2.1
  have hf := f3.1
  have hbm := Int.mul_pos hb hm
  have hdm := Int.mul_pos hd hm
  have hD := Int.mul_pos (Int.mul_pos hb hd) hm
  have e1 : formD (a * x) (a * p) r (b * m) = formD (a * x * d) (a * p * d) r (b * d * m) := form_to hbm hD hr (by grind) (by grind)
  have e2 : formD (c * y) (c * q) r (d * m) = formD (c * y * b) (c * q * b) r (b * d * m) := form_to hdm hD hr (by grind) (by grind)
  have w1 := mul_lt (mul_lt za zx) zd
  have w2 := mul_lt (mul_lt za zp) zd
  have w3 := mul_lt (mul_lt zc zy) zb
  have w4 := mul_lt (mul_lt zc zq) zb
  have w5 := mul_lt (mul_lt zb zd) zm
  have w6 := add_lt w1 w3
  have w7 := add_lt w2 w4
  have w8 := sub_lt (mul_lt w6 zf) (two_le (mul_lt ze w5) (show 140 + (140 + 140 + 680) ≤ 140 + 680 + 140 + 1 + 140 by decide))
  unfold cvD plW
  rw [fd_frac1 f1, fd_frac1 f2, fd_frac1 f3]
  unfold t_p_value_at b_p_value_at
  obtain ⟨k_p_subtract, e_p_subtract⟩ : ∃ k, t_p_subtract = k := ⟨_, rfl⟩
  rw [e_p_subtract]
  obtain ⟨k_p_add, e_p_add⟩ : ∃ k, t_p_add = k := ⟨_, rfl⟩
  rw [e_p_add]
  obtain ⟨k_p_multiply, e_p_multiply⟩ : ∃ k, t_p_multiply = k := ⟨_, rfl⟩
  rw [e_p_multiply]
  obtain ⟨k_p_squared, e_p_squared⟩ : ∃ k, t_p_squared = k := ⟨_, rfl⟩
  rw [e_p_squared]
  walk_at "d"
  refine difT ?_
  refine st e_p_multiply <| w_p_mulQ (two_le za (by decide)) (two_le zb (by decide)) ⟨two_le zx (by decide), two_le zp (by decide), zr, two_le zm (by decide)⟩ hb hm hr (two_le (mul_lt za zx) (by decide)) (two_le (mul_lt za zp) (by decide)) (two_le (mul_lt zb zm) (by decide)) ?_
  walk_at "d"
  refine st e_p_multiply <| w_p_mulQ (two_le zc (by decide)) (two_le zd (by decide)) ⟨two_le zy (by decide), two_le zq (by decide), zr, two_le zm (by decide)⟩ hd hm hr (two_le (mul_lt zc zy) (by decide)) (two_le (mul_lt zc zq) (by decide)) (two_le (mul_lt zd zm) (by decide)) ?_
  rw [e1, e2]
  refine st e_p_add <| w_p_addC ⟨two_le w1 (by decide), two_le w2 (by decide), zr, two_le w5 (by decide)⟩ ⟨two_le w3 (by decide), two_le w4 (by decide), zr, two_le w5 (by decide)⟩ hD hr ?_
  refine st e_p_subtract <| w_p_subQ ⟨two_le w6 (by decide), two_le w7 (by decide), zr, two_le w5 (by decide)⟩ (two_le ze (by decide)) (two_le zf (by decide)) hD hf hr (two_le w8 (by decide)) (two_le (mul_lt w7 zf) (by decide)) (two_le (mul_lt w5 zf) (by decide)) ?_
  have g1 : (a * x * d + c * y * b) * f - e * (b * d * m) = a * d * f * x + c * b * f * y - e * b * d * m := by grind
  have g2 : (a * p * d + c * q * b) * f = a * d * f * p + c * b * f * q := by grind
  have g3 : b * d * m * f = b * d * f * m := by grind
  rw [g1, g2, g3]
  exact h
theorem w_p_sign_of {a b r d : Int} (z : Bx a b r d) (hd : 0 < d) (hr : 0 ≤ r) (h : R (.int (S2 a (ss b * r)))) : t_p_sign_of [.dat (formD a b r d)] R Ex := by
  obtain ⟨a', b', r', d', n1, e1, z1, z2, z3, o⟩ := num_sgn z hd hr
  rw [← e1] at h
  unfold t_p_sign_of b_p_sign_of
  obtain ⟨k_p_surd_of, e_p_surd_of⟩ : ∃ k, t_p_surd_of = k := ⟨_, rfl⟩
  rw [e_p_surd_of]
  obtain ⟨k_p_sign_of_two, e_p_sign_of_two⟩ : ∃ k, t_p_sign_of_two = k := ⟨_, rfl⟩
  rw [e_p_sign_of_two]
  walk_at "d"
  refine st e_p_surd_of <| w_p_surd_of n1 ?_
  unfold d4
  walk_at "d"
  exact st e_p_sign_of_two <| w_p_sign_of_two z1 z2 z3 o h
theorem w_p_is_placeW {x p y q r m : Int} (s : SeatW x p y q r m) (h : R (.bool true)) : t_p_is_place [.dat (plW x p y q r m)] R Ex := by
  obtain ⟨zx, zp, zy, zq, zr, zm, hm, hr⟩ := s
  have b1 : Bp x p r m := ⟨two_le zx (by decide), two_le zp (by decide), zr, two_le zm (by decide)⟩
  have b2 : Bp y q r m := ⟨two_le zy (by decide), two_le zq (by decide), zr, two_le zm (by decide)⟩
  obtain ⟨a', b', r', d', c', e', s', v', n1, n2, y1, y2, g1, g2, sq⟩ := field_P b1 b2 hm hm hr
  unfold plW
  unfold t_p_is_place b_p_is_place
  obtain ⟨k_p_is_number, e_p_is_number⟩ : ∃ k, t_p_is_number = k := ⟨_, rfl⟩
  rw [e_p_is_number]
  obtain ⟨k_p_have_one_field, e_p_have_one_field⟩ : ∃ k, t_p_have_one_field = k := ⟨_, rfl⟩
  rw [e_p_have_one_field]
  walk_at "d"
  refine difF ?_
  refine difN (fun c => absurd rfl c) (fun _ => ?_)
  refine st e_p_is_number <| w_p_is_number (form_fineP b1 hm) ?_
  rw [form_num hm hr]
  walk_at "d"
  refine difT ?_
  refine st e_p_is_number <| w_p_is_number (form_fineP b2 hm) ?_
  rw [form_num hm hr]
  walk_at "d"
  refine difT ?_
  refine st e_p_have_one_field <| w_p_have_one_field n1 n2 y1 y2 g1 g2 ?_
  rw [sq]
  exact h
end

end My

set_option maxHeartbeats 4000000
namespace My
open PySem L2 Ld
open Lw hiding Dv DvAll FreshB tData tDatas pd_int pd_bl pd_non pd_str pd_neg pd_pow pda_nil pda_cons pd_tup pd_lst pd_dct dv_cut dv_cat tup_at rRepr call_repr rIsD call_isD
local macro_rules | `(tactic| walk_at "d") => `(tactic| try dsimp only [tfOf, startD, slotD, putD, wipeD, dV, dC, dOp, dUn, dNil, dCons, dConsW, dConsF, dCallV, dCall, datsOf, dCB, dTup, dLst, dIf, dTst, dCmp, dCmpV, dChain, dNot, dAnd, dOr, dAndV, dOrV, dNotV, dTb, sSeq, sNx, sSet, sRet, sRetN, sIf, sExpr, sBrk, sCont, sPar, sPar3, lenK, gdN, gdNil, gdCons, sAsg, sFor, iLst, iTpl, iRg1, iRg2, iZp, dYes, dLc, dLc2, dNoP, dPart, dSl, dSlS, sOwn, ownK, sApp, sAppL, sSetL, sIfL, sInsL, sTry1, dOwnLst, fLstL, sExt, sIns, sPut, sFrz, dOwnLen, dOwnIx, sRaise, sAug, t_draw, nthL, e_int, e_int0, e_add, e_addT, e_addL, e_addSI, e_addST, e_shl, e_ci, e_eqI, e_eqS, e_eqB, e_neI, e_neS, e_neB, e_isN, e_notN, e_nthT, e_nthL, e_lenT, e_lenL, e_i1, e_i2, e_lcm, e_intO, e_intB, e_isqrt, e_divmod, e_repr, e_reprS, e_tupL, e_tupT, e_lst, e_truB, e_truI, e_truN, e_truL, e_truT, e_neg, e_bits, e_back, e_backL, e_slT, e_slL, e_slST, e_gdT, e_gdL, Ld.isNon])
local macro_rules | `(tactic| walk_at "u") => `(tactic| (dsimp only; walk_at "d"))

section
variable {R : RD} {Ex : XD}
/-! ### sides of wide places: curves of any numbers -/
theorem lkW {P : Prop} (h : P) : lenK [] 0 P := h
theorem w_p_check_curveW {k : Str} {a b c d e f : Int} (f1 : IsFr a b) (f2 : IsFr c d) (f3 : IsFr e f) (r : Right k a c e) (h : R .none) : t_p_check_curve [.dat (cvD k a b c d e f)] R Ex := by
  have hc : ∀ {R : RD} {Ex : XD}, R (.bool true) → t_p_is_curve [.dat (cvD k a b c d e f)] R Ex := by
    intro R Ex h
    have i1 := fr_is f1
    have i2 := fr_is f2
    have i3 := fr_is f3
    unfold cvD
    unfold t_p_is_curve b_p_is_curve
    obtain ⟨k_p_is_fraction, e_p_is_fraction⟩ : ∃ k, t_p_is_fraction = k := ⟨_, rfl⟩
    rw [e_p_is_fraction]
    walk_at "d"
    refine difF (difF ?_)
    refine st e_p_is_fraction <| w_p_is_fraction ?_
    rw [i1]
    walk_at "d"
    refine difF ?_
    refine st e_p_is_fraction <| w_p_is_fraction ?_
    rw [i2]
    walk_at "d"
    refine difF ?_
    refine st e_p_is_fraction <| w_p_is_fraction ?_
    rw [i3]
    walk_at "d"
    refine difF ?_
    unfold fd
    walk_at "d"
    rcases r with ⟨rfl, r⟩ | ⟨rfl, r⟩
    · refine difT ?_
      refine difN (fun c1 => ?_) (fun c1 => ?_)
      · rw [decide_eq_false c1]
        exact h
      · have c2 : ¬ c = 0 := fun z => r.elim (fun q => q c1) (fun q => q z)
        rw [decide_eq_false c2]
        exact h
    · refine difF (difT ?_)
      rw [decide_eq_true r]
      exact h
  unfold t_p_check_curve b_p_check_curve
  obtain ⟨k_p_is_curve, e_p_is_curve⟩ : ∃ k, t_p_is_curve = k := ⟨_, rfl⟩
  rw [e_p_is_curve]
  walk_at "d"
  exact st e_p_is_curve <| hc h
theorem w_p_check_placeW {x p y q r m : Int} (s : SeatW x p y q r m) (h : R .none) : t_p_check_place [.dat (plW x p y q r m)] R Ex := by
  unfold t_p_check_place b_p_check_place
  obtain ⟨k_p_is_place, e_p_is_place⟩ : ∃ k, t_p_is_place = k := ⟨_, rfl⟩
  rw [e_p_is_place]
  walk_at "d"
  exact st e_p_is_place <| w_p_is_placeW s h
theorem S2_like {k l A B P Q r : Int} (hk : 0 < k) (hl : 0 < l) (h1 : k * A = l * P) (h2 : k * B = l * Q) : S2 A (ss B * r) = S2 P (ss Q * r) := by
  have e := congrArg ss h2
  rw [ss_mul, ss_mul, ss_nn (Int.le_of_lt hk), ss_nn (Int.le_of_lt hl)] at e
  rw [← S2_up hk A, ← S2_up hl P, h1, ← Int.mul_assoc, ← Int.mul_assoc, e]
/-- which side of a line, by numbers -/
def sideL (a b c d e f x p y q r m : Int) : Int := S2 (a * d * f * x + c * b * f * y - e * b * d * m) (ss (a * d * f * p + c * b * f * q) * r)
/-- .. of a circle -/
def sideC (a b c d e f x p y q r m : Int) : Int :=
  S2 ((b * d * f * x - a * d * f * m) * (b * d * f * x - a * d * f * m) + (b * d * f * y - c * b * f * m) * (b * d * f * y - c * b * f * m) + (b * d * f * p * (b * d * f * p) + b * d * f * q * (b * d * f * q)) * r - e * b * d * (b * d * f) * m * m)
    (ss (2 * ((b * d * f * x - a * d * f * m) * (b * d * f * p) + (b * d * f * y - c * b * f * m) * (b * d * f * q))) * r)
theorem w_p_sign_atL {a b c d e f x p y q r m : Int} (s : SeatW x p y q r m) (f1 : IsFr a b) (f2 : IsFr c d) (f3 : IsFr e f) (za : a.natAbs < 2 ^ 140) (zb : b.natAbs < 2 ^ 140) (zc : c.natAbs < 2 ^ 140) (zd : d.natAbs < 2 ^ 140) (ze : e.natAbs < 2 ^ 140) (zf : f.natAbs < 2 ^ 140) (ne : a ≠ 0 ∨ c ≠ 0)
    (h : R (.int (sideL a b c d e f x p y q r m))) : t_p_sign_at [.dat (cvD "line" a b c d e f), .dat (plW x p y q r m)] R Ex := by
  have side : ∀ {R : RD} {Ex : XD}, R (.int (sideL a b c d e f x p y q r m)) → t_p_side_of [.dat (cvD "line" a b c d e f), .dat (plW x p y q r m)] R Ex := by
    intro R Ex h
    obtain ⟨zx, zp, zy, zq, zr, zm, hm, hr⟩ := id s
    have w1 := mul_lt (mul_lt (mul_lt za zd) zf) zx
    have w2 := mul_lt (mul_lt (mul_lt zc zb) zf) zy
    have w3 := mul_lt (mul_lt (mul_lt ze zb) zd) zm
    have w4 := mul_lt (mul_lt (mul_lt za zd) zf) zp
    have w5 := mul_lt (mul_lt (mul_lt zc zb) zf) zq
    have w6 := sub_lt (add_lt w1 w2) (two_le w3 (show 140 + 140 + 140 + 680 ≤ 140 + 140 + 140 + 680 + 1 by decide))
    have w7 := add_lt w4 w5
    have w8 := mul_lt (mul_lt (mul_lt zb zd) zf) zm
    unfold t_p_side_of b_p_side_of
    obtain ⟨k_p_sign_of, e_p_sign_of⟩ : ∃ k, t_p_sign_of = k := ⟨_, rfl⟩
    rw [e_p_sign_of]
    obtain ⟨k_p_value_at, e_p_value_at⟩ : ∃ k, t_p_value_at = k := ⟨_, rfl⟩
    rw [e_p_value_at]
    walk_at "d"
    refine st e_p_value_at <| w_p_value_lineW s f1 f2 f3 za zb zc zd ze zf ?_
    exact st e_p_sign_of <| w_p_sign_of ⟨two_le w6 (by decide), two_le w7 (by decide), zr, two_le w8 (by decide)⟩ (Int.mul_pos (Int.mul_pos (Int.mul_pos f1.1 f2.1) f3.1) hm) hr h
  unfold t_p_sign_at b_p_sign_at
  obtain ⟨k_p_check_curve, e_p_check_curve⟩ : ∃ k, t_p_check_curve = k := ⟨_, rfl⟩
  rw [e_p_check_curve]
  obtain ⟨k_p_check_place, e_p_check_place⟩ : ∃ k, t_p_check_place = k := ⟨_, rfl⟩
  rw [e_p_check_place]
  obtain ⟨k_p_side_of, e_p_side_of⟩ : ∃ k, t_p_side_of = k := ⟨_, rfl⟩
  rw [e_p_side_of]
  walk_at "d"
  refine st e_p_check_curve <| w_p_check_curveW f1 f2 f3 (.inl ⟨rfl, ne⟩) ?_
  refine st e_p_check_place <| w_p_check_placeW s ?_
  exact st e_p_side_of <| side h
theorem w_l_barW {k : Str} {a b c d e f : Int} (z1 : a.natAbs < 2 ^ 300) (z2 : b.natAbs < 2 ^ 300) (z3 : c.natAbs < 2 ^ 300) (z4 : d.natAbs < 2 ^ 300) (z5 : e.natAbs < 2 ^ 300) (z6 : f.natAbs < 2 ^ 300) (h : R (.tuple [.int (a * d * f), .int (c * b * f), .int (e * b * d)])) : t_l_bar [.dat (cvD k a b c d e f)] R Ex := by
  unfold cvD fd
  unfold t_l_bar b_l_bar
  walk_at "d"
  exact ⟨mulx_ok z1 z4 (by decide), mulx_ok (mul_lt z1 z4) z6 (by decide), mulx_ok z3 z2 (by decide), mulx_ok (mul_lt z3 z2) z6 (by decide), mulx_ok z5 z2 (by decide), mulx_ok (mul_lt z5 z2) z4 (by decide), h⟩
theorem w_l_ringW {k : Str} {a b c d e f : Int} (z1 : a.natAbs < 2 ^ 300) (z2 : b.natAbs < 2 ^ 300) (z3 : c.natAbs < 2 ^ 300) (z4 : d.natAbs < 2 ^ 300) (z5 : e.natAbs < 2 ^ 300) (z6 : f.natAbs < 2 ^ 300) (h : R (.tuple [.int (a * d * f), .int (c * b * f), .int (e * b * d * (b * d * f)), .int (b * d * f)])) : t_l_ring [.dat (cvD k a b c d e f)] R Ex := by
  unfold cvD fd
  unfold t_l_ring b_l_ring
  walk_at "d"
  exact ⟨mulx_ok z2 z4 (by decide), mulx_ok (mul_lt z2 z4) z6 (by decide), mulx_ok z1 z4 (by decide), mulx_ok (mul_lt z1 z4) z6 (by decide), mulx_ok z3 z2 (by decide), mulx_ok (mul_lt z3 z2) z6 (by decide), mulx_ok z5 z2 (by decide), mulx_ok (mul_lt z5 z2) z4 (by decide), mulx_ok (mul_lt (mul_lt z5 z2) z4) (mul_lt (mul_lt z2 z4) z6) (by decide), h⟩
theorem w_l_sideL {a b c d e f x p y q r m : Int} (s : SeatW x p y q r m) (z1 : a.natAbs < 2 ^ 300) (z2 : b.natAbs < 2 ^ 300) (z3 : c.natAbs < 2 ^ 300) (z4 : d.natAbs < 2 ^ 300) (z5 : e.natAbs < 2 ^ 300) (z6 : f.natAbs < 2 ^ 300) (h : R (.int (sideL a b c d e f x p y q r m))) :
    t_l_side [.dat (cvD "line" a b c d e f), .dat (.tuple [d4 x p r m, d4 y q r m])] R Ex := by
  have bar : ∀ {R : RD} {Ex : XD}, R (.tuple [.int (a * d * f), .int (c * b * f), .int (e * b * d)]) → t_l_bar [.dat (cvD "line" a b c d e f)] R Ex := fun h => w_l_barW z1 z2 z3 z4 z5 z6 h
  obtain ⟨zx, zp, zy, zq, zr, zm, hm, hr⟩ := s
  have zu := mul_lt (mul_lt z1 z4) z6
  have zv := mul_lt (mul_lt z3 z2) z6
  have zt := mul_lt (mul_lt z5 z2) z4
  unfold sideL at h
  unfold cvD at bar ⊢
  unfold d4
  unfold t_l_side b_l_side
  obtain ⟨k_l_bar, e_l_bar⟩ : ∃ k, t_l_bar = k := ⟨_, rfl⟩
  rw [e_l_bar]
  obtain ⟨k_l_sign_one, e_l_sign_one⟩ : ∃ k, t_l_sign_one = k := ⟨_, rfl⟩
  rw [e_l_sign_one]
  obtain ⟨k_l_ring, e_l_ring⟩ : ∃ k, t_l_ring = k := ⟨_, rfl⟩
  rw [e_l_ring]
  walk_at "d"
  refine lkW (difT ?_)
  refine st e_l_bar <| bar ?_
  walk_at "d"
  generalize a * d * f = u at *
  generalize c * b * f = v at *
  generalize e * b * d = w at *
  have w6 := sub_lt (add_lt (mul_lt zu zx) (mul_lt zv zy)) (two_le (mul_lt zt zm) (show 300 + 300 + 300 + 680 ≤ 300 + 300 + 300 + 680 + 1 by decide))
  have w7 := add_lt (mul_lt zu zp) (mul_lt zv zq)
  refine lkW ⟨mulx_ok zu zx (by decide), mulx_ok zv zy (by decide), mulx_ok zt zm (by decide), mulx_ok zu zp (by decide), mulx_ok zv zq (by decide), ?_⟩
  exact st e_l_sign_one <| w_l_sign_one (two_le w6 (by decide)) (two_le w7 (by decide)) (two_le zr (by decide)) hr h
end

end My

set_option maxHeartbeats 4000000
namespace My
open PySem L2 Ld
open Lw hiding Dv DvAll FreshB tData tDatas pd_int pd_bl pd_non pd_str pd_neg pd_pow pda_nil pda_cons pd_tup pd_lst pd_dct dv_cut dv_cat tup_at rRepr call_repr rIsD call_isD
local macro_rules | `(tactic| walk_at "d") => `(tactic| try dsimp only [tfOf, startD, slotD, putD, wipeD, dV, dC, dOp, dUn, dNil, dCons, dConsW, dConsF, dCallV, dCall, datsOf, dCB, dTup, dLst, dIf, dTst, dCmp, dCmpV, dChain, dNot, dAnd, dOr, dAndV, dOrV, dNotV, dTb, sSeq, sNx, sSet, sRet, sRetN, sIf, sExpr, sBrk, sCont, sPar, sPar3, lenK, gdN, gdNil, gdCons, sAsg, sFor, iLst, iTpl, iRg1, iRg2, iZp, dYes, dLc, dLc2, dNoP, dPart, dSl, dSlS, sOwn, ownK, sApp, sAppL, sSetL, sIfL, sInsL, sTry1, dOwnLst, fLstL, sExt, sIns, sPut, sFrz, dOwnLen, dOwnIx, sRaise, sAug, t_draw, nthL, e_int, e_int0, e_add, e_addT, e_addL, e_addSI, e_addST, e_shl, e_ci, e_eqI, e_eqS, e_eqB, e_neI, e_neS, e_neB, e_isN, e_notN, e_nthT, e_nthL, e_lenT, e_lenL, e_i1, e_i2, e_lcm, e_intO, e_intB, e_isqrt, e_divmod, e_repr, e_reprS, e_tupL, e_tupT, e_lst, e_truB, e_truI, e_truN, e_truL, e_truT, e_neg, e_bits, e_back, e_backL, e_slT, e_slL, e_slST, e_gdT, e_gdL, Ld.isNon])
local macro_rules | `(tactic| walk_at "u") => `(tactic| (dsimp only; walk_at "d"))

section
variable {R : RD} {Ex : XD}
/-! ### sides of wide places: circles -/
/-- a circle told wide: its centre over one divisor -/
structure RingW (a b c d e f u v L : Int) : Prop where
  f1 : IsFr a b
  f2 : IsFr c d
  f3 : IsFr e f
  e1 : a * L = u * b
  e2 : c * L = v * d
  hL : 0 < L
  e0 : 0 < e
  zu : u.natAbs < 2 ^ 67
  zv : v.natAbs < 2 ^ 67
  zL : L.natAbs < 2 ^ 67
  ze : e.natAbs < 2 ^ 271
  zf : f.natAbs < 2 ^ 271
theorem w_p_offW {x p r m u L : Int} (zx : x.natAbs < 2 ^ 680) (zp : p.natAbs < 2 ^ 280) (zr : r.natAbs < 2 ^ 800) (zm : m.natAbs < 2 ^ 680) (hm : 0 < m) (hr : 0 ≤ r) (zu : u.natAbs < 2 ^ 67) (zL : L.natAbs < 2 ^ 67) (hL : 0 < L) (h : R (formD (x * L - u * m) (p * L) r (m * L))) :
    t_p_subtract [.dat (formD x p r m), .dat (fracD u L)] R Ex := by
  have w1 := sub_lt (mul_lt zx zL) (two_le (mul_lt zu zm) (show 67 + 680 ≤ 680 + 67 by decide))
  exact w_p_subQ ⟨two_le zx (by decide), two_le zp (by decide), zr, two_le zm (by decide)⟩ (two_le zu (by decide)) (two_le zL (by decide)) hm hL hr (two_le w1 (by decide)) (two_le (mul_lt zp zL) (by decide)) (two_le (mul_lt zm zL) (by decide)) h
theorem w_p_sqO {E F r D : Int} (zE : E.natAbs < 2 ^ 748) (zF : F.natAbs < 2 ^ 347) (zr : r.natAbs < 2 ^ 800) (zD : D.natAbs < 2 ^ 747) (hD : 0 < D) (hr : 0 ≤ r) (h : R (formD (E * E + F * F * r) (E * F + F * E) r (D * D))) : t_p_squared [.dat (formD E F r D)] R Ex := by
  have w1 := add_lt (mul_lt zE zE) (two_le (mul_lt (mul_lt zF zF) zr) (show 347 + 347 + 800 ≤ 748 + 748 by decide))
  have w2 := add_lt (mul_lt zE zF) (two_le (mul_lt zF zE) (show 347 + 748 ≤ 748 + 347 by decide))
  exact w_p_sqW ⟨two_le zE (by decide), two_le zF (by decide), zr, two_le zD (by decide)⟩ hD hr (small_of (Int.mul_pos hD hD) (two_le w1 (by decide)) (two_le w2 (by decide)) zr (two_le (mul_lt zD zD) (by decide))) h
theorem w_p_value_circleW {a b c d e f u v L x p y q r m : Int} (s : SeatW x p y q r m) (g : RingW a b c d e f u v L)
    (h : ∀ E F G H : Int, E = x * L - u * m → F = p * L → G = y * L - v * m → H = q * L → Bx ((E * E + F * F * r + (G * G + H * H * r)) * f - e * (m * L * (m * L))) ((E * F + F * E + (G * H + H * G)) * f) r (m * L * (m * L) * f) →
      R (formD ((E * E + F * F * r + (G * G + H * H * r)) * f - e * (m * L * (m * L))) ((E * F + F * E + (G * H + H * G)) * f) r (m * L * (m * L) * f))) :
    t_p_value_at [.dat (cvD "circle" a b c d e f), .dat (plW x p y q r m)] R Ex := by
  obtain ⟨zx, zp, zy, zq, zr, zm, hm, hr⟩ := s
  obtain ⟨f1, f2, f3, e1, e2, hL, e0, zu, zv, zL, ze, zf⟩ := g
  have hD := Int.mul_pos hm hL
  have hDD := Int.mul_pos hD hD
  have zD := two_le (mul_lt zm zL) (show 680 + 67 ≤ 747 by decide)
  have zE := two_le (sub_lt (mul_lt zx zL) (two_le (mul_lt zu zm) (show 67 + 680 ≤ 680 + 67 by decide))) (show 680 + 67 + 1 ≤ 748 by decide)
  have zG := two_le (sub_lt (mul_lt zy zL) (two_le (mul_lt zv zm) (show 67 + 680 ≤ 680 + 67 by decide))) (show 680 + 67 + 1 ≤ 748 by decide)
  have zF := two_le (mul_lt zp zL) (show 280 + 67 ≤ 347 by decide)
  have zH := two_le (mul_lt zq zL) (show 280 + 67 ≤ 347 by decide)
  have k := h _ _ _ _ rfl rfl rfl rfl
  clear h
  unfold cvD plW
  rw [fd_frac f1 hL e1, fd_frac f2 hL e2, fd_frac1 f3]
  unfold t_p_value_at b_p_value_at
  obtain ⟨k_p_subtract, e_p_subtract⟩ : ∃ k, t_p_subtract = k := ⟨_, rfl⟩
  rw [e_p_subtract]
  obtain ⟨k_p_add, e_p_add⟩ : ∃ k, t_p_add = k := ⟨_, rfl⟩
  rw [e_p_add]
  obtain ⟨k_p_multiply, e_p_multiply⟩ : ∃ k, t_p_multiply = k := ⟨_, rfl⟩
  rw [e_p_multiply]
  obtain ⟨k_p_squared, e_p_squared⟩ : ∃ k, t_p_squared = k := ⟨_, rfl⟩
  rw [e_p_squared]
  walk_at "d"
  refine difF ?_
  refine st e_p_subtract <| w_p_offW zx zp zr zm hm hr zu zL hL ?_
  generalize x * L - u * m = E at *
  generalize p * L = F at *
  refine st e_p_squared <| w_p_sqO zE zF zr zD hD hr ?_
  walk_at "d"
  refine st e_p_subtract <| w_p_offW zy zq zr zm hm hr zv zL hL ?_
  generalize y * L - v * m = G at *
  generalize q * L = H at *
  refine st e_p_squared <| w_p_sqO zG zH zr zD hD hr ?_
  generalize m * L = D at *
  have w1 := add_lt (mul_lt zE zE) (two_le (mul_lt (mul_lt zF zF) zr) (show 347 + 347 + 800 ≤ 748 + 748 by decide))
  have w2 := add_lt (mul_lt zE zF) (two_le (mul_lt zF zE) (show 347 + 748 ≤ 748 + 347 by decide))
  have w3 := add_lt (mul_lt zG zG) (two_le (mul_lt (mul_lt zH zH) zr) (show 347 + 347 + 800 ≤ 748 + 748 by decide))
  have w4 := add_lt (mul_lt zG zH) (two_le (mul_lt zH zG) (show 347 + 748 ≤ 748 + 347 by decide))
  have w5 := mul_lt zD zD
  have w6 := add_lt w1 w3
  have w7 := add_lt w2 w4
  have w8 := sub_lt (mul_lt w6 zf) (two_le (mul_lt ze w5) (show 271 + (747 + 747) ≤ 748 + 748 + 1 + 1 + 271 by decide))
  have w9 := mul_lt w7 zf
  have w0 := mul_lt w5 zf
  refine st e_p_add <| w_p_addC ⟨two_le w1 (by decide), two_le w2 (by decide), zr, two_le w5 (by decide)⟩ ⟨two_le w3 (by decide), two_le w4 (by decide), zr, two_le w5 (by decide)⟩ hDD hr ?_
  refine st e_p_subtract <| w_p_subQ ⟨two_le w6 (by decide), two_le w7 (by decide), zr, two_le w5 (by decide)⟩ (two_le ze (by decide)) (two_le zf (by decide)) hDD f3.1 hr (two_le w8 (by decide)) (two_le w9 (by decide)) (two_le w0 (by decide)) ?_
  exact k ⟨two_le w8 (by decide), two_le w9 (by decide), zr, two_le w0 (by decide)⟩
theorem side_like {a b c d e f u v L x p y q r m E F G H : Int} (g : RingW a b c d e f u v L) (hE : E = x * L - u * m) (hF : F = p * L) (hG : G = y * L - v * m) (hH : H = q * L) :
    sideC a b c d e f x p y q r m = S2 ((E * E + F * F * r + (G * G + H * H * r)) * f - e * (m * L * (m * L))) (ss ((E * F + F * E + (G * H + H * G)) * f) * r) := by
  obtain ⟨f1, f2, f3, e1, e2, hL, e0, zu, zv, zL, ze, zf⟩ := g
  have M0 := Int.mul_pos (Int.mul_pos f1.1 f2.1) f3.1
  have k1 : L * (b * d * f * x - a * d * f * m) = b * d * f * E := by
    have : L * (b * d * f * x - a * d * f * m) = b * d * f * (x * L) - (a * L) * d * f * m := by grind
    rw [this, e1, hE]
    grind
  have k2 : L * (b * d * f * y - c * b * f * m) = b * d * f * G := by
    have : L * (b * d * f * y - c * b * f * m) = b * d * f * (y * L) - (c * L) * b * f * m := by grind
    rw [this, e2, hG]
    grind
  have k3 : L * (b * d * f * p) = b * d * f * F := by rw [hF]; grind
  have k4 : L * (b * d * f * q) = b * d * f * H := by rw [hH]; grind
  have k5 : e * b * d * (b * d * f) * f = e * (b * d * f) * (b * d * f) := by grind
  unfold sideC
  generalize b * d * f * x - a * d * f * m = E1 at *
  generalize b * d * f * y - c * b * f * m = G1 at *
  generalize b * d * f * p = F1 at *
  generalize b * d * f * q = H1 at *
  generalize e * b * d * (b * d * f) = T at *
  generalize b * d * f = M at *
  refine S2_like (k := L * L * f) (l := M * M) (Int.mul_pos (Int.mul_pos hL hL) f3.1) (Int.mul_pos M0 M0) ?_ ?_
  · have x1 : L * L * f * (E1 * E1 + G1 * G1 + (F1 * F1 + H1 * H1) * r - T * m * m) = f * ((L * E1) * (L * E1) + (L * G1) * (L * G1) + ((L * F1) * (L * F1) + (L * H1) * (L * H1)) * r) - (T * f) * (L * L) * m * m := by grind
    rw [x1, k1, k2, k3, k4, k5]
    grind
  · have x1 : L * L * f * (2 * (E1 * F1 + G1 * H1)) = 2 * f * ((L * E1) * (L * F1) + (L * G1) * (L * H1)) := by grind
    rw [x1, k1, k2, k3, k4]
    grind
theorem w_p_sign_atC {a b c d e f u v L x p y q r m : Int} (s : SeatW x p y q r m) (g : RingW a b c d e f u v L) (h : R (.int (sideC a b c d e f x p y q r m))) : t_p_sign_at [.dat (cvD "circle" a b c d e f), .dat (plW x p y q r m)] R Ex := by
  have side : ∀ {R : RD} {Ex : XD}, R (.int (sideC a b c d e f x p y q r m)) → t_p_side_of [.dat (cvD "circle" a b c d e f), .dat (plW x p y q r m)] R Ex := by
    intro R Ex h
    unfold t_p_side_of b_p_side_of
    obtain ⟨k_p_sign_of, e_p_sign_of⟩ : ∃ k, t_p_sign_of = k := ⟨_, rfl⟩
    rw [e_p_sign_of]
    obtain ⟨k_p_value_at, e_p_value_at⟩ : ∃ k, t_p_value_at = k := ⟨_, rfl⟩
    rw [e_p_value_at]
    walk_at "d"
    refine st e_p_value_at <| w_p_value_circleW s g fun E F G H hE hF hG hH z => ?_
    have hD := Int.mul_pos s.mp g.hL
    refine st e_p_sign_of <| w_p_sign_of z (Int.mul_pos (Int.mul_pos hD hD) g.f3.1) s.rn ?_
    rw [← side_like g hE hF hG hH]
    exact h
  unfold t_p_sign_at b_p_sign_at
  obtain ⟨k_p_check_curve, e_p_check_curve⟩ : ∃ k, t_p_check_curve = k := ⟨_, rfl⟩
  rw [e_p_check_curve]
  obtain ⟨k_p_check_place, e_p_check_place⟩ : ∃ k, t_p_check_place = k := ⟨_, rfl⟩
  rw [e_p_check_place]
  obtain ⟨k_p_side_of, e_p_side_of⟩ : ∃ k, t_p_side_of = k := ⟨_, rfl⟩
  rw [e_p_side_of]
  walk_at "d"
  refine st e_p_check_curve <| w_p_check_curveW g.f1 g.f2 g.f3 (.inr ⟨rfl, g.e0⟩) ?_
  refine st e_p_check_place <| w_p_check_placeW s ?_
  exact st e_p_side_of <| side h
theorem w_l_sideC {a b c d e f x p y q r m : Int} (s : SeatW x p y q r m) (z1 : a.natAbs < 2 ^ 300) (z2 : b.natAbs < 2 ^ 300) (z3 : c.natAbs < 2 ^ 300) (z4 : d.natAbs < 2 ^ 300) (z5 : e.natAbs < 2 ^ 300) (z6 : f.natAbs < 2 ^ 300) (h : R (.int (sideC a b c d e f x p y q r m))) :
    t_l_side [.dat (cvD "circle" a b c d e f), .dat (.tuple [d4 x p r m, d4 y q r m])] R Ex := by
  have ring : ∀ {R : RD} {Ex : XD}, R (.tuple [.int (a * d * f), .int (c * b * f), .int (e * b * d * (b * d * f)), .int (b * d * f)]) → t_l_ring [.dat (cvD "circle" a b c d e f)] R Ex := fun h => w_l_ringW z1 z2 z3 z4 z5 z6 h
  obtain ⟨zx, zp, zy, zq, zr, zm, hm, hr⟩ := s
  have zu := mul_lt (mul_lt z1 z4) z6
  have zv := mul_lt (mul_lt z3 z2) z6
  have zM := mul_lt (mul_lt z2 z4) z6
  have zt := mul_lt (mul_lt (mul_lt z5 z2) z4) zM
  unfold sideC at h
  unfold cvD at ring ⊢
  unfold d4
  unfold t_l_side b_l_side
  obtain ⟨k_l_bar, e_l_bar⟩ : ∃ k, t_l_bar = k := ⟨_, rfl⟩
  rw [e_l_bar]
  obtain ⟨k_l_sign_one, e_l_sign_one⟩ : ∃ k, t_l_sign_one = k := ⟨_, rfl⟩
  rw [e_l_sign_one]
  obtain ⟨k_l_ring, e_l_ring⟩ : ∃ k, t_l_ring = k := ⟨_, rfl⟩
  rw [e_l_ring]
  walk_at "d"
  refine lkW (difF ?_)
  refine st e_l_ring <| ring ?_
  walk_at "d"
  generalize a * d * f = u at *
  generalize c * b * f = v at *
  generalize e * b * d * (b * d * f) = w at *
  generalize b * d * f = M at *
  have zE := sub_lt (mul_lt zM zx) (two_le (mul_lt zu zm) (show 300 + 300 + 300 + 680 ≤ 300 + 300 + 300 + 680 by decide))
  have zG := sub_lt (mul_lt zM zy) (two_le (mul_lt zv zm) (show 300 + 300 + 300 + 680 ≤ 300 + 300 + 300 + 680 by decide))
  have zF := mul_lt zM zp
  have zH := mul_lt zM zq
  have w1 := add_lt (mul_lt zE zE) (mul_lt zG zG)
  have w2 := add_lt (mul_lt zF zF) (mul_lt zH zH)
  have w3 := mul_lt w2 zr
  have w4 := mul_lt (mul_lt zt zm) zm
  have w5 := add_lt (mul_lt zE zF) (mul_lt zG zH)
  have w6 := sub_lt (add_lt (two_le w1 (show _ ≤ 5000 by decide)) (two_le w3 (show _ ≤ 5000 by decide))) (two_le w4 (show _ ≤ 5001 by decide))
  have two : (2 : Int).natAbs < 2 ^ 2 := by decide
  refine lkW ⟨mulx_ok zM zx (by decide), mulx_ok zu zm (by decide), mulx_ok zM zp (by decide), mulx_ok zM zy (by decide), mulx_ok zv zm (by decide), mulx_ok zM zq (by decide), ?_⟩
  generalize M * x - u * m = E at *
  generalize M * y - v * m = G at *
  generalize M * p = F at *
  generalize M * q = H at *
  refine lkW ⟨mulx_ok zE zE (by decide), mulx_ok zG zG (by decide), mulx_ok zF zF (by decide), mulx_ok zH zH (by decide), mulx_ok w2 zr (by decide), mulx_ok zt zm (by decide), mulx_ok (mul_lt zt zm) zm (by decide), mulx_ok zE zF (by decide), mulx_ok zG zH (by decide), mulx_ok two w5 (by decide), ?_⟩
  exact st e_l_sign_one <| w_l_sign_one (two_le w6 (by decide)) (two_le (mul_lt two w5) (by decide)) (two_le zr (by decide)) hr h
end

end My

set_option maxHeartbeats 4000000
namespace My
open PySem L2 Ld
open Lw hiding Dv DvAll FreshB tData tDatas pd_int pd_bl pd_non pd_str pd_neg pd_pow pda_nil pda_cons pd_tup pd_lst pd_dct dv_cut dv_cat tup_at rRepr call_repr rIsD call_isD
local macro_rules | `(tactic| walk_at "d") => `(tactic| try dsimp only [tfOf, startD, slotD, putD, wipeD, dV, dC, dOp, dUn, dNil, dCons, dConsW, dConsF, dCallV, dCall, datsOf, dCB, dTup, dLst, dIf, dTst, dCmp, dCmpV, dChain, dNot, dAnd, dOr, dAndV, dOrV, dNotV, dTb, sSeq, sNx, sSet, sRet, sRetN, sIf, sExpr, sBrk, sCont, sPar, sPar3, lenK, gdN, gdNil, gdCons, sAsg, sFor, iLst, iTpl, iRg1, iRg2, iZp, dYes, dLc, dLc2, dNoP, dPart, dSl, dSlS, sOwn, ownK, sApp, sAppL, sSetL, sIfL, sInsL, sTry1, dOwnLst, fLstL, sExt, sIns, sPut, sFrz, dOwnLen, dOwnIx, sRaise, sAug, t_draw, nthL, e_int, e_int0, e_add, e_addT, e_addL, e_addSI, e_addST, e_shl, e_ci, e_eqI, e_eqS, e_eqB, e_neI, e_neS, e_neB, e_isN, e_notN, e_nthT, e_nthL, e_lenT, e_lenL, e_i1, e_i2, e_lcm, e_intO, e_intB, e_isqrt, e_divmod, e_repr, e_reprS, e_tupL, e_tupT, e_lst, e_truB, e_truI, e_truN, e_truL, e_truT, e_neg, e_bits, e_back, e_backL, e_slT, e_slL, e_slST, e_gdT, e_gdL, Ld.isNon])
local macro_rules | `(tactic| walk_at "u") => `(tactic| (dsimp only; walk_at "d"))

section
variable {R : RD} {Ex : XD}
/-! ### sides of wide curves at wide seats -/
/-- a line told wide -/
structure LineW (a b c d e f : Int) : Prop where
  f1 : IsFr a b
  f2 : IsFr c d
  f3 : IsFr e f
  z1 : a.natAbs < 2 ^ 140
  z2 : b.natAbs < 2 ^ 140
  z3 : c.natAbs < 2 ^ 140
  z4 : d.natAbs < 2 ^ 140
  z5 : e.natAbs < 2 ^ 140
  z6 : f.natAbs < 2 ^ 140
  ne : a ≠ 0 ∨ c ≠ 0
/-- a curve told wide -/
def CurW (x : PyData) : Prop := ∃ a b c d e f : Int, (x = cvD "line" a b c d e f ∧ LineW a b c d e f) ∨ ∃ u v L : Int, x = cvD "circle" a b c d e f ∧ RingW a b c d e f u v L
/-- a seat told wide -/
def SeatK (s : S4 × S4) : Prop := ∃ x p y q r m : Int, s = ((x, p, r, m), (y, q, r, m)) ∧ SeatW x p y q r m
theorem fr_low {a b u L : Int} (h : IsFr a b) (hL : 0 < L) (e : a * L = u * b) : a.natAbs ≤ u.natAbs ∧ b.natAbs ≤ L.natAbs := by
  have q := fd_frac h hL e
  unfold fd fracD at q
  injection q with q
  injection q with q1 q
  injection q with q2 q
  injection q1 with q1
  injection q2 with q2
  have le := red_le (a := u) hL
  rw [← q1, ← q2] at le
  exact le
theorem side_both {x : PyData} (hx : CurW x) {s : S4 × S4} (hs : SeatK s) : ∃ v : Int, v.natAbs ≤ 1 ∧ (∀ (R : RD) (Ex : XD), R (.int v) → t_p_sign_at [.dat x, .dat (placeD s)] R Ex) ∧ (∀ (R : RD) (Ex : XD), R (.int v) → t_l_side [.dat x, .dat (seatD s)] R Ex) := by
  have one : ∀ a u : Int, (S2 a u).natAbs ≤ 1 := fun a u => by rcases S2_val a u with h | h | h <;> rw [h] <;> decide
  obtain ⟨X, p, y, q, r, m, rfl, sw⟩ := hs
  obtain ⟨a, b, c, d, e, f, ⟨rfl, z⟩ | ⟨u, v, L, rfl, z⟩⟩ := hx
  · obtain ⟨f1, f2, f3, z1, z2, z3, z4, z5, z6, ne⟩ := z
    have up : ∀ {i : Int}, i.natAbs < 2 ^ 140 → i.natAbs < 2 ^ 300 := fun h => two_le h (by decide)
    exact ⟨sideL a b c d e f X p y q r m, one _ _, fun R Ex h => w_p_sign_atL sw f1 f2 f3 z1 z2 z3 z4 z5 z6 ne h, fun R Ex h => w_l_sideL sw (up z1) (up z2) (up z3) (up z4) (up z5) (up z6) h⟩
  · have l1 := fr_low z.f1 z.hL z.e1
    have l2 := fr_low z.f2 z.hL z.e2
    have up : ∀ {i j : Int}, i.natAbs ≤ j.natAbs → j.natAbs < 2 ^ 67 → i.natAbs < 2 ^ 300 := fun h h2 => two_le (Nat.lt_of_le_of_lt h h2) (by decide)
    exact ⟨sideC a b c d e f X p y q r m, one _ _, fun R Ex h => w_p_sign_atC sw z h, fun R Ex h => w_l_sideC sw (up l1.1 z.zu) (up l1.2 z.zL) (up l2.1 z.zv) (up l2.2 z.zL) (two_le z.ze (by decide)) (two_le z.zf (by decide)) h⟩
theorem lc_sides {s : S4 × S4} (hs : SeatK s) : ∀ {ds : List PyData}, (∀ x ∈ ds, CurW x) → ∃ vs : List PyData, vs.length = ds.length ∧ (∀ y ∈ vs, Say 2000 0 y) ∧
    (∀ (k : TF), t_p_sign_at = k → ∀ (ρ : Ld.Env), (∀ v, slotD (putD ρ 4 (some v)) 4 = some v) → (∀ v, slotD (putD ρ 4 (some v)) 6 = some (.dat (placeD s))) → ∀ K : List PyData → Prop, K vs → lcD (gdN 4) dYes (dCall k (dCons (dV 4) (dCons (dV 6) dNil))) ρ ds K) ∧
    (∀ (k : TF), t_l_side = k → ∀ (ρ : Ld.Env), (∀ v, slotD (putD ρ 4 (some v)) 4 = some v) → (∀ v, slotD (putD ρ 4 (some v)) 5 = some (.dat (seatD s))) → ∀ K : List PyData → Prop, K vs → lcD (gdN 4) dYes (dCall k (dCons (dV 4) (dCons (dV 5) dNil))) ρ ds K)
  | [], _ => ⟨[], rfl, (fun y hy => by cases hy), fun _ _ _ _ _ _ h => h, fun _ _ _ _ _ _ h => h⟩
  | x :: ds, hx => by
    obtain ⟨v, v1, ha, hb⟩ := side_both (hx x (List.mem_cons_self ..)) hs
    obtain ⟨vs, hl, hsay, ia, ib⟩ := lc_sides hs (ds := ds) (fun y hy => hx y (List.mem_cons_of_mem _ hy))
    refine ⟨.int v :: vs, by rw [List.length_cons, List.length_cons, hl], ?_, ?_, ?_⟩
    · intro y hy
      rcases List.mem_cons.mp hy with rfl | hy
      · exact say_int (two_le (m := 1) (by omega) (by decide))
      · exact hsay y hy
    · intro k ek ρ h4 h6 K h
      have i := ia k ek ρ h4 h6 (fun ys => K (.int v :: ys)) h
      have e4 := h4 (.dat x)
      have e6 := h6 (.dat x)
      show (if true = true then dCall k (dCons (dV 4) (dCons (dV 6) dNil)) (putD ρ 4 (some (.dat x))) (fun y => lcD (gdN 4) dYes (dCall k (dCons (dV 4) (dCons (dV 6) dNil))) ρ ds fun ys => K (y :: ys)) NoX else lcD (gdN 4) dYes (dCall k (dCons (dV 4) (dCons (dV 6) dNil))) ρ ds K)
      refine difT ?_
      unfold dCall dCons dV
      rw [e4]
      dsimp only
      rw [e6]
      exact st ek <| ha _ _ i
    · intro k ek ρ h4 h6 K h
      have i := ib k ek ρ h4 h6 (fun ys => K (.int v :: ys)) h
      have e4 := h4 (.dat x)
      have e6 := h6 (.dat x)
      show (if true = true then dCall k (dCons (dV 4) (dCons (dV 5) dNil)) (putD ρ 4 (some (.dat x))) (fun y => lcD (gdN 4) dYes (dCall k (dCons (dV 4) (dCons (dV 5) dNil))) ρ ds fun ys => K (y :: ys)) NoX else lcD (gdN 4) dYes (dCall k (dCons (dV 4) (dCons (dV 5) dNil))) ρ ds K)
      refine difT ?_
      unfold dCall dCons dV
      rw [e4]
      dsimp only
      rw [e6]
      exact st ek <| hb _ _ i
end

end My

set_option maxHeartbeats 4000000
namespace My
open PySem L2 Ld
open Lw hiding Dv DvAll FreshB tData tDatas pd_int pd_bl pd_non pd_str pd_neg pd_pow pda_nil pda_cons pd_tup pd_lst pd_dct dv_cut dv_cat tup_at rRepr call_repr rIsD call_isD
local macro_rules | `(tactic| walk_at "d") => `(tactic| try dsimp only [tfOf, startD, slotD, putD, wipeD, dV, dC, dOp, dUn, dNil, dCons, dConsW, dConsF, dCallV, dCall, datsOf, dCB, dTup, dLst, dIf, dTst, dCmp, dCmpV, dChain, dNot, dAnd, dOr, dAndV, dOrV, dNotV, dTb, sSeq, sNx, sSet, sRet, sRetN, sIf, sExpr, sBrk, sCont, sPar, sPar3, lenK, gdN, gdNil, gdCons, sAsg, sFor, iLst, iTpl, iRg1, iRg2, iZp, dYes, dLc, dLc2, dNoP, dPart, dSl, dSlS, sOwn, ownK, sApp, sAppL, sSetL, sIfL, sInsL, sTry1, dOwnLst, fLstL, sExt, sIns, sPut, sFrz, dOwnLen, dOwnIx, sRaise, sAug, t_draw, nthL, e_int, e_int0, e_add, e_addT, e_addL, e_addSI, e_addST, e_shl, e_ci, e_eqI, e_eqS, e_eqB, e_neI, e_neS, e_neB, e_isN, e_notN, e_nthT, e_nthL, e_lenT, e_lenL, e_i1, e_i2, e_lcm, e_intO, e_intB, e_isqrt, e_divmod, e_repr, e_reprS, e_tupL, e_tupT, e_lst, e_truB, e_truI, e_truN, e_truL, e_truT, e_neg, e_bits, e_back, e_backL, e_slT, e_slL, e_slST, e_gdT, e_gdL, Ld.isNon])
local macro_rules | `(tactic| walk_at "u") => `(tactic| (dsimp only; walk_at "d"))

section
variable {R : RD} {Ex : XD}
/-! ### the law of k08, from what its curves are -/
def DiscS (x : PyData) : Prop := ∃ a b c d e f : Int, x = cvD "circle" a b c d e f ∧ CvS a b c d e f
def LineS (x : PyData) : Prop := ∃ a b c d e f : Int, x = cvD "line" a b c d e f ∧ IsFr a b ∧ IsFr c d ∧ IsFr e f ∧ a.natAbs ≤ 12 ∧ b.natAbs ≤ 3 ∧ c.natAbs ≤ 12 ∧ d.natAbs ≤ 3 ∧ e.natAbs ≤ 6 ∧ f.natAbs ≤ 4 ∧ (a ≠ 0 ∨ c ≠ 0)
theorem DiscS.cur {x : PyData} (h : DiscS x) : CurW x := by
  obtain ⟨a, b, c, d, e, f, rfl, f1, f2, f3, z1, z2, z3, z4, z5, z6, e0⟩ := h
  have m1 := mul_le z1 z4
  have m2 := mul_le z3 z2
  have m3 := mul_le z2 z4
  exact ⟨a, b, c, d, e, f, .inr ⟨a * d, c * b, b * d, rfl, f1, f2, f3, by grind, by grind, Int.mul_pos f1.1 f2.1, e0, le_lt m1 (by decide), le_lt m2 (by decide), le_lt m3 (by decide), le_lt z5 (by decide), le_lt z6 (by decide)⟩⟩
theorem LineS.cur {x : PyData} (h : LineS x) : CurW x := by
  obtain ⟨a, b, c, d, e, f, rfl, f1, f2, f3, z1, z2, z3, z4, z5, z6, ne⟩ := h
  exact ⟨a, b, c, d, e, f, .inl ⟨rfl, f1, f2, f3, le_lt z1 (by decide), le_lt z2 (by decide), le_lt z3 (by decide), le_lt z4 (by decide), le_lt z5 (by decide), le_lt z6 (by decide), ne⟩⟩
theorem w_l_seat_drawn (h : ∀ s, SeatK s → R (seatD s)) : t_l_seat_drawn [.well] R Ex := by
  unfold t_l_seat_drawn b_l_seat_drawn
  obtain ⟨k_l_pick, e_l_pick⟩ : ∃ k, t_l_pick = k := ⟨_, rfl⟩
  rw [e_l_pick]
  obtain ⟨k_l_draw, e_l_draw⟩ : ∃ k, t_l_draw = k := ⟨_, rfl⟩
  rw [e_l_draw]
  walk_at "d"
  refine st e_l_pick <| w_l_pick (by decide) (by decide) fun dd hd => ?_
  obtain ⟨r, rfl, r1, r2⟩ : ∃ r : Int, dd = .int r ∧ 0 ≤ r ∧ r ≤ 8 := by
    simp only [List.mem_cons, List.not_mem_nil, or_false] at hd
    rcases hd with h | h | h | h | h | h | h | h <;> exact ⟨_, h, by decide, by decide⟩
  clear hd
  walk_at "d"
  refine st e_l_draw <| w_l_draw (by decide) (by decide) fun k k0 k1 => ?_
  walk_at "d"
  refine st e_l_draw <| w_l_draw (by decide) (by decide) fun j j0 j1 => ?_
  walk_at "d"
  refine st e_l_draw <| w_l_draw (by decide) (by decide) fun i i0 i1 => ?_
  walk_at "d"
  refine st e_l_draw <| w_l_draw (by decide) (by decide) fun l l0 l1 => ?_
  walk_at "d"
  refine st e_l_draw <| w_l_draw (by decide) (by decide) fun n n0 n1 => ?_
  have lo : ∀ {i : Int} {m : Nat}, i.natAbs < 2 ^ 5 → 5 ≤ m → i.natAbs < 2 ^ m := fun h hm => two_le h hm
  exact h ((i - 4, j - 2, r, 1 + k), (l - 4, n - 2, r, 1 + k)) ⟨_, _, _, _, _, _, rfl, ⟨lo (by omega) (by decide), lo (by omega) (by decide), lo (by omega) (by decide), lo (by omega) (by decide), lo (by omega) (by decide), lo (by omega) (by decide), by omega, r1⟩⟩
theorem w_l_seat {x y : PyData} (hx : FrS x) (hy : FrS y) (h : ∀ s, SeatK s → R (seatD s)) : t_l_seat [.dat (.tuple [x, y])] R Ex := by
  obtain ⟨a, b, rfl, f1, z1, z2⟩ := hx
  obtain ⟨c, d, rfl, f2, z3, z4⟩ := hy
  have m1 := mul_le z1 z4
  have m2 := mul_le z3 z2
  have m3 := mul_le z2 z4
  have up : ∀ {i : Int} {j m : Nat}, i.natAbs ≤ j → j < 2 ^ 6 → 6 ≤ m → i.natAbs < 2 ^ m := fun h h2 h3 => two_le (le_lt h h2) h3
  have lk := h ((a * d, 0, 0, b * d), (c * b, 0, 0, b * d)) ⟨_, _, _, _, _, _, rfl, ⟨up m1 (by decide) (by decide), by decide, up m2 (by decide) (by decide), by decide, by decide, up m3 (by decide) (by decide), Int.mul_pos f1.1 f2.1, by decide⟩⟩
  have both : t_l_both [.dat (d4 a 0 0 b), .dat (d4 c 0 0 d)] R Ex := by
    unfold d4
    unfold t_l_both b_l_both
    obtain ⟨k_l_root, e_l_root⟩ : ∃ k, t_l_root = k := ⟨_, rfl⟩
    rw [e_l_root]
    walk_at "d"
    refine lkW (difT ?_)
    have o : (0 : Int).natAbs < 2 ^ 6 := by decide
    have z1' := up (m := 6) z1 (by decide) (by decide)
    have z2' := up (m := 6) z2 (by decide) (by decide)
    have z3' := up (m := 6) z3 (by decide) (by decide)
    have z4' := up (m := 6) z4 (by decide) (by decide)
    refine ⟨mulx_ok z1' z4' (by decide), mulx_ok o z4' (by decide), mulx_ok z2' z4' (by decide), mulx_ok z3' z2' (by decide), mulx_ok z2' z4' (by decide), ?_⟩
    rw [Int.zero_mul]
    exact lk
  unfold t_l_seat b_l_seat
  obtain ⟨k_l_both, e_l_both⟩ : ∃ k, t_l_both = k := ⟨_, rfl⟩
  rw [e_l_both]
  obtain ⟨k_l_spread, e_l_spread⟩ : ∃ k, t_l_spread = k := ⟨_, rfl⟩
  rw [e_l_spread]
  walk_at "d"
  refine st e_l_spread <| w_l_spread (.inl ⟨rfl, rfl, rfl⟩) ?_
  walk_at "d"
  refine st e_l_spread <| w_l_spread (.inl ⟨rfl, rfl, rfl⟩) ?_
  exact st e_l_both both
theorem CurW.noL {x : PyData} (h : CurW x) : noL x = true := by
  obtain ⟨a, b, c, d, e, f, ⟨rfl, _⟩ | ⟨u, v, L, rfl, _⟩⟩ := h <;> rfl
theorem LineW.neg {a b c d e f : Int} (h : LineW a b c d e f) : CurW (cvD "line" (0 - a) b (0 - c) d (0 - e) f) := by
  have ng : ∀ {a b : Int}, IsFr a b → IsFr (0 - a) b := fun {a b} h => ⟨h.1, by rw [Int.zero_sub, gcd_negL]; exact h.2⟩
  obtain ⟨f1, f2, f3, z1, z2, z3, z4, z5, z6, ne⟩ := h
  exact ⟨_, _, _, _, _, _, .inl ⟨rfl, ng f1, ng f2, ng f3, by omega, z2, by omega, z4, by omega, z6, by omega⟩⟩
theorem w_l_placeK {s : S4 × S4} (hs : SeatK s) (h : R (placeD s)) : t_l_place [.dat (seatD s)] R Ex := by
  obtain ⟨X, p, y, q, r, m, rfl, zx, zp, zy, zq, zr, zm, hm, hr⟩ := hs
  unfold placeD at h
  unfold seatD
  unfold t_l_place b_l_place
  obtain ⟨k_l_formed, e_l_formed⟩ : ∃ k, t_l_formed = k := ⟨_, rfl⟩
  rw [e_l_formed]
  walk_at "d"
  refine st e_l_formed <| w_l_formed (two_le zx (by decide)) (two_le zp (by decide)) (two_le zr (by decide)) (two_le zm (by decide)) (by omega) ?_
  walk_at "d"
  exact st e_l_formed <| w_l_formed (two_le zy (by decide)) (two_le zq (by decide)) (two_le zr (by decide)) (two_le zm (by decide)) (by omega) h
theorem w_p_is_placeK {s : S4 × S4} (hs : SeatK s) (h : R (.bool true)) : t_p_is_place [.dat (placeD s)] R Ex := by
  obtain ⟨X, p, y, q, r, m, rfl, sw⟩ := hs
  exact w_p_is_placeW sw h
theorem w_l_right_of {Th : PyData → Prop} {Fo : PyData → PyData → Prop}
    (c3 : ∀ x y, DiscS x → LineS y → ∀ (R : RD) (Ex : XD), (∀ z, Th z → R z) → t_l_curve [.well, .dat (.list [x, y])] R Ex)
    (c4 : ∀ x y z, DiscS x → LineS y → Th z → ∀ (R : RD) (Ex : XD), (∀ w, Fo z w → R w) → t_l_curve [.well, .dat (.list [x, y, z])] R Ex)
    (hT : ∀ z, Th z → CurW z) (hF : ∀ z w, Th z → Fo z w → CurW w)
    (hm : ∀ z w, Th z → Fo z w → ∀ (R : RD) (Ex : XD), (∀ ss : List (S4 × S4), (∀ s ∈ ss, SeatK s) → ss.length ≤ 2 → R (seatsD ss)) → t_l_meet [.dat z, .dat w] R Ex)
    (hm0 : ∀ z w, DiscS z → LineS w → ∀ (R : RD) (Ex : XD), (∀ ss : List (S4 × S4), (∀ s ∈ ss, SeatK s) → ss.length ≤ 2 → R (seatsD ss)) → t_l_meet [.dat z, .dat w] R Ex)
    (hf : ∀ z w, Th z → Fo z w → ∀ (R : Bool → Prop) (Ex : XD), (∀ q, R q) → t_l_form [.dat z] (fun a => t_l_form [.dat w] (fun b => fNe a b R) Ex) Ex)
    (h : R (.bool true)) : t_l_right [.well] R Ex := by
  unfold t_l_right b_l_right
  obtain ⟨k_l_disc, e_l_disc⟩ : ∃ k, t_l_disc = k := ⟨_, rfl⟩
  rw [e_l_disc]
  obtain ⟨k_l_line, e_l_line⟩ : ∃ k, t_l_line = k := ⟨_, rfl⟩
  rw [e_l_line]
  obtain ⟨k_l_curve, e_l_curve⟩ : ∃ k, t_l_curve = k := ⟨_, rfl⟩
  rw [e_l_curve]
  obtain ⟨k_l_seat_drawn, e_l_seat_drawn⟩ : ∃ k, t_l_seat_drawn = k := ⟨_, rfl⟩
  rw [e_l_seat_drawn]
  obtain ⟨k_l_seat, e_l_seat⟩ : ∃ k, t_l_seat = k := ⟨_, rfl⟩
  rw [e_l_seat]
  obtain ⟨k_l_point, e_l_point⟩ : ∃ k, t_l_point = k := ⟨_, rfl⟩
  rw [e_l_point]
  obtain ⟨k_l_form, e_l_form⟩ : ∃ k, t_l_form = k := ⟨_, rfl⟩
  rw [e_l_form]
  obtain ⟨k_l_meet, e_l_meet⟩ : ∃ k, t_l_meet = k := ⟨_, rfl⟩
  rw [e_l_meet]
  obtain ⟨k_l_neg, e_l_neg⟩ : ∃ k, t_l_neg = k := ⟨_, rfl⟩
  rw [e_l_neg]
  obtain ⟨k_l_place, e_l_place⟩ : ∃ k, t_l_place = k := ⟨_, rfl⟩
  rw [e_l_place]
  obtain ⟨k_p_is_place, e_p_is_place⟩ : ∃ k, t_p_is_place = k := ⟨_, rfl⟩
  rw [e_p_is_place]
  obtain ⟨k_p_sign_at, e_p_sign_at⟩ : ∃ k, t_p_sign_at = k := ⟨_, rfl⟩
  rw [e_p_sign_at]
  obtain ⟨k_l_side, e_l_side⟩ : ∃ k, t_l_side = k := ⟨_, rfl⟩
  rw [e_l_side]
  walk_at "d"
  refine st e_l_disc <| w_l_disc fun a b c d e f zd => ?_
  have hx : DiscS (cvD "circle" a b c d e f) := ⟨_, _, _, _, _, _, rfl, zd⟩
  generalize cvD "circle" a b c d e f = x at *
  walk_at "d"
  refine st e_l_line <| w_l_line fun a b c d e f y1 y2 y3 y4 y5 y6 y7 y8 y9 y0 => ?_
  have hy : LineS (cvD "line" a b c d e f) := ⟨_, _, _, _, _, _, rfl, y1, y2, y3, y4, y5, y6, y7, y8, y9, y0⟩
  generalize cvD "line" a b c d e f = y at *
  walk_at "d"
  refine st e_l_curve <| c3 x y hx hy _ _ fun z hz => ⟨(hT z hz).noL, by show 2 < 16000000; decide, ?_⟩
  refine st e_l_curve <| c4 x y z hx hy hz _ _ fun w hw => ⟨(hF z w hz hw).noL, by show 3 < 16000000; decide, ?_⟩
  have a0 : atD ([x, y] ++ [z] ++ [w]) 0 = some x := rfl
  have a1 : atD ([x, y] ++ [z] ++ [w]) 1 = some y := rfl
  have a2 : atD ([x, y] ++ [z] ++ [w]) 2 = some z := rfl
  have a3 : atD ([x, y] ++ [z] ++ [w]) 3 = some w := rfl
  simp only [a0, a1, a2, a3]
  refine st e_l_seat_drawn <| w_l_seat_drawn fun s1 hs1 => ?_
  refine st e_l_point <| w_l_point fun p1 p2 hp1 hp2 => ?_
  refine st e_l_seat <| w_l_seat hp1 hp2 fun s2 hs2 => ?_
  rw [← e_l_form]
  refine hf z w hz hw _ _ fun q => ?_
  have hcur : ∀ o ∈ [x, y] ++ [z] ++ [w], CurW o := by
    intro o ho
    simp only [List.cons_append, List.nil_append, List.mem_cons, List.not_mem_nil, or_false] at ho
    rcases ho with rfl | rfl | rfl | rfl
    · exact hx.cur
    · exact hy.cur
    · exact hT _ hz
    · exact hF z _ hz hw
  clear c3 c4 a0 a1 a2 a3
  have many : ∀ ss : List (S4 × S4), (∀ s ∈ ss, SeatK s) → ∀ s ∈ s1 :: s2 :: ss, SeatK s := by
    intro ss k s hs
    rcases List.mem_cons.mp hs with rfl | hs
    · exact hs1
    · rcases List.mem_cons.mp hs with rfl | hs
      · exact hs2
      · exact k s hs
  have two_lists : ∀ (ss1 ss0 : List (S4 × S4)), (∀ s ∈ ss1, SeatK s) → (∀ s ∈ ss0, SeatK s) → ∃ ss : List (S4 × S4), (∀ s ∈ ss, SeatK s) ∧ [seatD s1, seatD s2] ++ List.map seatD ss1 ++ List.map seatD ss0 = List.map seatD ss := by
    intro ss1 ss0 k1 k0
    refine ⟨s1 :: s2 :: (ss1 ++ ss0), many _ fun s hs => ?_, by simp⟩
    rcases List.mem_append.mp hs with hs | hs
    · exact k1 s hs
    · exact k0 s hs
  cases q
  case' true =>
    refine difT ?_
    refine st e_l_meet <| hm z w hz hw _ _ fun ss1 k1 l1 => ?_
    unfold seatsD
    walk_at "d"
    refine ⟨by rw [List.length_map]; show 2 + _ ≤ 16000000; omega, ?_⟩
    refine st e_l_meet <| hm0 x y hx hy _ _ fun ss0 k0 l0 => ?_
    unfold seatsD
    walk_at "d"
    refine ⟨by rw [List.length_append, List.length_map, List.length_map]; show 2 + _ + _ ≤ 16000000; omega, ?_⟩
    obtain ⟨ss, hss, e⟩ := two_lists ss1 ss0 k1 k0
    rw [e]
  case' false =>
    refine difF ?_
    refine st e_l_meet <| hm0 x y hx hy _ _ fun ss0 k0 l0 => ?_
    unfold seatsD
    walk_at "d"
    refine ⟨by rw [List.length_map]; show 2 + _ ≤ 16000000; omega, ?_⟩
    obtain ⟨ss, hss, e⟩ : ∃ ss : List (S4 × S4), (∀ s ∈ ss, SeatK s) ∧ [seatD s1, seatD s2] ++ List.map seatD ss0 = List.map seatD ss := ⟨s1 :: s2 :: ss0, many _ k0, by simp⟩
    rw [e]
  all_goals
    clear e many two_lists hf hm hm0 hT hF
    refine for_d (fun r ρ => ∃ (os : List PyData) (v3 : Option Sv), ρ = [some .well, some (.own os), some (.dat (.list (List.map seatD ss))), v3, none, none, none, none] ∧ (∀ o ∈ os, CurW o) ∧ os.length + r.length ≤ 8 ∧ ∀ o ∈ r, CurW o) ⟨_, _, rfl, hcur, by show 4 + 4 ≤ 8; decide, hcur⟩ ?_ ?_
    · rintro o r ρ K ⟨os, v3, rfl, ho, hl, hr⟩ k
      have hl2 : os.length + (r.length + 1) ≤ 8 := hl
      obtain ⟨a, b, c, d, e, f, ⟨rfl, z⟩ | ⟨u, v, L, rfl, z⟩⟩ := hr o (List.mem_cons_self ..)
      · unfold cvD
        walk_at "d"
        rw [cut_three]
        refine difT ⟨by show 3 ≤ 1000; decide, ?_⟩
        try dsimp only [lcD]
        walk_at "d"
        refine difT (st e_l_neg <| w_l_neg ?_)
        try dsimp only [lcD]
        walk_at "d"
        refine difT (st e_l_neg <| w_l_neg ?_)
        try dsimp only [lcD]
        walk_at "d"
        refine difT (st e_l_neg <| w_l_neg ?_)
        try dsimp only [lcD]
        walk_at "d"
        refine ⟨by show 1 + 3 ≤ 16000000; decide, by omega, k _ ⟨_, _, rfl, fun o h => ?_, by rw [List.length_append]; show os.length + 1 + _ ≤ 8; omega, fun o h => hr o (List.mem_cons_of_mem _ h)⟩⟩
        rcases List.mem_append.mp h with h | h
        · exact ho o h
        · rw [List.mem_singleton.mp h]
          exact z.neg
      · unfold cvD
        walk_at "d"
        refine difF ?_
        exact k _ ⟨_, _, rfl, ho, by omega, fun o h => hr o (List.mem_cons_of_mem _ h)⟩
    · rintro ρ ⟨os, v3, rfl, ho, hl, hr⟩
      have hl2 : os.length ≤ 8 := hl
      walk_at "d"
      refine for_d (fun r ρ => ∃ (rs : List (S4 × S4)) (v5 v6 v7 : Option Sv), r = List.map seatD rs ∧ (∀ s ∈ rs, SeatK s) ∧ ρ = [some .well, some (.dat (.list os)), some (.dat (.list (List.map seatD ss))), v3, none, v5, v6, v7]) ⟨ss, _, _, _, rfl, hss, rfl⟩ ?_ ?_
      · rintro d r ρ K ⟨rs, v5, v6, v7, hr, hs, rfl⟩ k
        rcases rs with _ | ⟨s, rs⟩
        · cases hr
        injection hr with hd hr
        subst hd hr
        have sk := hs s (List.mem_cons_self ..)
        obtain ⟨vs, vl, vsay, ia, ib⟩ := lc_sides sk ho
        walk_at "d"
        refine st e_l_place <| w_l_placeK sk ?_
        walk_at "d"
        refine st e_p_is_place <| w_p_is_placeK sk ?_
        walk_at "d"
        refine ⟨by omega, ia _ e_p_sign_at _ (fun v => rfl) (fun v => rfl) _ ?_⟩
        walk_at "d"
        have say : Say (9 * (2000 + 2) + 2000) (0 + 1) (.list ([.bool true] ++ vs)) := say_lst (fun y hy => by
          rcases List.mem_cons.mp hy with rfl | hy
          · exact say_bool true
          · exact vsay y hy) (by rw [List.length_append]; show 1 + _ ≤ 9; omega)
        have al := say.all (by decide) (by decide)
        refine ⟨by show 1 + vs.length ≤ 16000000; omega, al.1, al.2, by omega, ib _ e_l_side _ (fun v => rfl) (fun v => rfl) _ ?_⟩
        refine ⟨by show 1 + vs.length ≤ 16000000; omega, al.1, al.2, ?_⟩
        rw [decide_eq_true rfl]
        exact difF (k _ ⟨rs, _, _, _, rfl, fun s h => hs s (List.mem_cons_of_mem _ h), rfl⟩)
      · rintro ρ ⟨rs, v5, v6, v7, _, _, rfl⟩
        walk_at "d"
        exact h
end

end My

set_option maxHeartbeats 4000000
namespace My
open PySem L2 Ld
open Lw hiding Dv DvAll FreshB tData tDatas pd_int pd_bl pd_non pd_str pd_neg pd_pow pda_nil pda_cons pd_tup pd_lst pd_dct dv_cut dv_cat tup_at rRepr call_repr rIsD call_isD
local macro_rules | `(tactic| walk_at "d") => `(tactic| try dsimp only [tfOf, startD, slotD, putD, wipeD, dV, dC, dOp, dUn, dNil, dCons, dConsW, dConsF, dCallV, dCall, datsOf, dCB, dTup, dLst, dIf, dTst, dCmp, dCmpV, dChain, dNot, dAnd, dOr, dAndV, dOrV, dNotV, dTb, sSeq, sNx, sSet, sRet, sRetN, sIf, sExpr, sBrk, sCont, sPar, sPar3, lenK, gdN, gdNil, gdCons, sAsg, sFor, iLst, iTpl, iRg1, iRg2, iZp, dYes, dLc, dLc2, dNoP, dPart, dSl, dSlS, sOwn, ownK, sApp, sAppL, sSetL, sIfL, sInsL, sTry1, dOwnLst, fLstL, sExt, sIns, sPut, sFrz, dOwnLen, dOwnIx, sRaise, sAug, t_draw, nthL, e_int, e_int0, e_add, e_addT, e_addL, e_addSI, e_addST, e_shl, e_ci, e_eqI, e_eqS, e_eqB, e_neI, e_neS, e_neB, e_isN, e_notN, e_nthT, e_nthL, e_lenT, e_lenL, e_i1, e_i2, e_lcm, e_intO, e_intB, e_isqrt, e_divmod, e_repr, e_reprS, e_tupL, e_tupT, e_lst, e_truB, e_truI, e_truN, e_truL, e_truT, e_neg, e_bits, e_back, e_backL, e_slT, e_slL, e_slST, e_gdT, e_gdL, Ld.isNon])
local macro_rules | `(tactic| walk_at "u") => `(tactic| (dsimp only; walk_at "d"))

section
variable {R : RD} {Ex : XD}
/-! ### a curve through a point told by what crosses, with bounds -/
def Tame1 (N D : Nat) (s : S4) : Prop := 0 < s.2.2.2 ∧ s.2.2.2.natAbs < 2 ^ 8000 ∧ (redN s.1 s.2.2.2).natAbs ≤ N ∧ (redD s.1 s.2.2.2).natAbs ≤ D
/-- a seat without a root is a place of small fractions -/
def Tame (N D : Nat) (s : S4 × S4) : Prop := s.1.2.1 = 0 → s.2.2.1 = 0 → Tame1 N D s.1 ∧ Tame1 N D s.2
def FrB (N D : Nat) (x : PyData) : Prop := ∃ p q : Int, x = fd p q ∧ IsFr p q ∧ p.natAbs ≤ N ∧ q.natAbs ≤ D
def ThruR (N D : Nat) (x : PyData) : Prop := ∃ a b c d e f : Int, IsFr a b ∧ IsFr c d ∧ IsFr e f ∧
  ((x = cvD "line" a b c d e f ∧ a.natAbs ≤ 12 ∧ b.natAbs ≤ 3 ∧ c.natAbs ≤ 12 ∧ d.natAbs ≤ 3 ∧ e.natAbs ≤ 12 * N * (3 * D) + 12 * N * (3 * D) ∧ f.natAbs ≤ 3 * D * (3 * D) ∧ (a ≠ 0 ∨ c ≠ 0)) ∨
   (x = cvD "circle" a b c d e f ∧ a.natAbs ≤ 6 ∧ b.natAbs ≤ 4 ∧ c.natAbs ≤ 6 ∧ d.natAbs ≤ 4 ∧
     e.natAbs ≤ (N * 4 + 6 * D) * (N * 4 + 6 * D) * (D * 4 * (D * 4)) + (N * 4 + 6 * D) * (N * 4 + 6 * D) * (D * 4 * (D * 4)) ∧ f.natAbs ≤ D * 4 * (D * 4) * (D * 4 * (D * 4)) ∧ 0 < e))
theorem FrS.b {N D : Nat} (hN : 6 ≤ N) (hD : 4 ≤ D) {x : PyData} (h : FrS x) : FrB N D x := by
  obtain ⟨a, b, rfl, f, z1, z2⟩ := h
  exact ⟨a, b, rfl, f, by omega, by omega⟩
theorem w_l_throughG {ds : List PyData} {N D : Nat} (hN : 6 ≤ N) (hD : 4 ≤ D) (hN2 : N < 2 ^ 200) (hD2 : D < 2 ^ 200) {x1 x2 : PyData} (e1 : atD ds (-2) = some x1) (e2 : atD ds (-1) = some x2) (hl : 1 < ds.length) (hl2 : ds.length < 1000)
    (hm : ∀ (R : RD) (Ex : XD), (∀ ss : List (S4 × S4), (∀ s ∈ ss, Tame N D s) → R (seatsD ss)) → t_l_meet [.dat x1, .dat x2] R Ex) (h : ∀ y, ThruR N D y → R y) : t_l_through [.well, .dat (.list ds)] R Ex := by
  have pw : ∀ {a b : Nat} {i j k : Nat}, a < 2 ^ i → b < 2 ^ j → i + j ≤ k → a * b < 2 ^ k := fun h1 h2 hk => Nat.lt_of_lt_of_le (by rw [Nat.pow_add]; exact Nat.mul_lt_mul'' h1 h2) (Nat.pow_le_pow_right (by decide) hk)
  unfold t_l_through b_l_through
  obtain ⟨k_l_point, e_l_point⟩ : ∃ k, t_l_point = k := ⟨_, rfl⟩
  rw [e_l_point]
  obtain ⟨k_l_meet, e_l_meet⟩ : ∃ k, t_l_meet = k := ⟨_, rfl⟩
  rw [e_l_meet]
  obtain ⟨k_l_lean, e_l_lean⟩ : ∃ k, t_l_lean = k := ⟨_, rfl⟩
  rw [e_l_lean]
  obtain ⟨k_l_draw, e_l_draw⟩ : ∃ k, t_l_draw = k := ⟨_, rfl⟩
  rw [e_l_draw]
  obtain ⟨k_l_line, e_l_line⟩ : ∃ k, t_l_line = k := ⟨_, rfl⟩
  rw [e_l_line]
  obtain ⟨k_l_add, e_l_add⟩ : ∃ k, t_l_add = k := ⟨_, rfl⟩
  rw [e_l_add]
  obtain ⟨k_l_mul, e_l_mul⟩ : ∃ k, t_l_mul = k := ⟨_, rfl⟩
  rw [e_l_mul]
  obtain ⟨k_l_neg, e_l_neg⟩ : ∃ k, t_l_neg = k := ⟨_, rfl⟩
  rw [e_l_neg]
  walk_at "d"
  refine st e_l_point <| w_l_point fun x y hx hy => ?_
  have hx := hx.b hN hD
  have hy := hy.b hN hD
  walk_at "d"
  refine difP (fun _ => ?_) (fun c => by omega)
  simp only [e_ixL, e1, e2]
  refine st e_l_meet <| hm _ _ fun ss hs => ?_
  unfold seatsD
  dsimp only
  refine for_d (fun r ρ => ∃ (rs : List (S4 × S4)) (x y : PyData) (v5 : Option Sv), r = List.map seatD rs ∧ (∀ s ∈ rs, Tame N D s) ∧ FrB N D x ∧ FrB N D y ∧
    ρ = [some .well, some (.dat (.list ds)), some (.dat x), some (.dat y), some (.dat (.list (List.map seatD ss))), v5, none, none, none, none, none, none, none]) ⟨ss, x, y, _, rfl, hs, hx, hy, rfl⟩ ?_ ?_
  · rintro d r ρ K ⟨rs, x, y, v5, hr, hs, hx, hy, rfl⟩ k
    rcases rs with _ | ⟨s, rs⟩
    · cases hr
    injection hr with hd hr
    subst hd hr
    have tm := hs s (List.mem_cons_self ..)
    have hs' : ∀ s ∈ rs, Tame N D s := fun s h => hs s (List.mem_cons_of_mem _ h)
    obtain ⟨⟨X, p, r1, m1⟩, Y, q, r2, m2⟩ := s
    unfold seatD d4 at *
    walk_at "d"
    refine difP (fun p0 => difP (fun q0 => ?_) (fun _ => k _ ⟨rs, x, y, _, rfl, hs', hx, hy, rfl⟩)) (fun _ => difF (k _ ⟨rs, x, y, _, rfl, hs', hx, hy, rfl⟩))
    obtain ⟨⟨m0, mz, n1, n2⟩, m0', mz', n3, n4⟩ := tm p0 q0
    dsimp only at m0 mz n1 n2 m0' mz' n3 n4
    refine st e_l_lean <| w_l_lean (by omega) mz ?_
    refine st e_l_lean <| w_l_lean (by omega) mz' ?_
    exact k _ ⟨rs, _, _, _, rfl, hs', ⟨_, _, rfl, red_fr m0, n1, n2⟩, ⟨_, _, rfl, red_fr m0', n3, n4⟩, rfl⟩
  · rintro ρ ⟨rs, x, y, v5, _, _, ⟨a, b, rfl, f1, z1, z2⟩, ⟨c, d, rfl, f2, z3, z4⟩, rfl⟩
    walk_at "d"
    have lN : N < 2 ^ 1000 := Nat.lt_trans hN2 (by decide)
    have lD : D < 2 ^ 1000 := Nat.lt_trans hD2 (by decide)
    have l1 : 12 * N < 2 ^ 1000 := by omega
    have l2 : 3 * D < 2 ^ 1000 := by omega
    have k1 : N * 4 + 6 * D < 2 ^ 204 := by omega
    have k2 : D * 4 < 2 ^ 204 := by omega
    have l3 : N * 4 + 6 * D < 2 ^ 1000 := Nat.lt_trans k1 (by decide)
    have l4 : D * 4 < 2 ^ 1000 := Nat.lt_trans k2 (by decide)
    have l5 : (N * 4 + 6 * D) * (N * 4 + 6 * D) < 2 ^ 1000 := pw k1 k1 (by decide)
    have l6 : D * 4 * (D * 4) < 2 ^ 1000 := pw k2 k2 (by decide)
    refine st e_l_draw <| w_l_draw (by decide) (by decide) fun k k0 k1 => ?_
    walk_at "d"
    refine difP (fun _ => ?_) (fun _ => ?_)
    · refine st e_l_line <| w_l_line fun p q u v s t fp fu fs x1 x2 x3 x4 _ _ n => ?_
      unfold cvD
      walk_at "d"
      have cut : cutD [.str "line", fd p q, fd u v, fd s t] (some 1) (some 3) = [fd p q, fd u v] := rfl
      rw [cut]
      walk_at "d"
      refine st e_l_mul <| w_l_mulQ (by decide) (by decide) lN lD fp.1 f1.1 x1 x2 z1 z2 fun m n fm zm zn _ => ?_
      refine st e_l_mul <| w_l_mulQ (by decide) (by decide) lN lD fu.1 f2.1 x3 x4 z3 z4 fun m1 n1 fm1 zm1 zn1 _ => ?_
      refine st e_l_add <| w_l_addQ l1 l2 l1 l2 fm.1 fm1.1 zm zn zm1 zn1 fun m2 n2 fm2 zm2 zn2 => ?_
      exact h _ ⟨_, _, _, _, _, _, fp, fu, fm2, .inl ⟨rfl, x1, x2, x3, x4, zm2, zn2, by assumption⟩⟩
    · refine st e_l_point <| w_l_point fun x y hx hy => ?_
      obtain ⟨p, q, rfl, fp, x1, x2⟩ := hx
      obtain ⟨u, v, rfl, fu, x3, x4⟩ := hy
      walk_at "d"
      refine st e_l_neg <| w_l_neg ?_
      refine st e_l_add <| w_l_addQ (k := 6) (l := 4) lN lD (by decide) (by decide) f1.1 fp.1 z1 z2 (by omega) x2 fun m n fm zm zn => ?_
      walk_at "d"
      refine st e_l_neg <| w_l_neg ?_
      refine st e_l_add <| w_l_addQ (k := 6) (l := 4) lN lD (by decide) (by decide) f2.1 fu.1 z3 z4 (by omega) x4 fun m1 n1 fm1 zm1 zn1 => ?_
      walk_at "d"
      refine st e_l_mul <| w_l_mulQ l3 l4 l3 l4 fm.1 fm.1 zm zn zm zn fun m2 n2 fm2 zm2 zn2 _ => ?_
      refine st e_l_mul <| w_l_mulQ l3 l4 l3 l4 fm1.1 fm1.1 zm1 zn1 zm1 zn1 fun m3 n3 fm3 zm3 zn3 _ => ?_
      refine st e_l_add <| w_l_addQ l5 l6 l5 l6 fm2.1 fm3.1 zm2 zn2 zm3 zn3 fun m4 n4 fm4 zm4 zn4 => ?_
      have e4 : fd m4 n4 = .tuple [.int m4, .int n4] := rfl
      rw [e4]
      walk_at "d"
      refine difP (fun p4 => ?_) (fun _ => ?_)
      · exact h _ ⟨_, _, _, _, _, _, fp, fu, fm4, .inr ⟨rfl, x1, x2, x3, x4, zm4, zn4, p4⟩⟩
      · have g1 : 1 ≤ D * 4 * (D * 4) := Nat.mul_pos (by omega) (by omega)
        have g2 : 1 ≤ (N * 4 + 6 * D) * (N * 4 + 6 * D) * (D * 4 * (D * 4)) := Nat.mul_pos (Nat.mul_pos (by omega) (by omega)) g1
        exact h _ ⟨_, _, _, _, _, _, fp, fu, (show IsFr 1 1 from ⟨by decide, by decide⟩), .inr ⟨rfl, x1, x2, x3, x4, Nat.le_trans g2 (Nat.le_add_right _ _), Nat.mul_pos g1 g1, by decide⟩⟩
end

end My

set_option maxHeartbeats 4000000
namespace My
open PySem L2 Ld
open Lw hiding Dv DvAll FreshB tData tDatas pd_int pd_bl pd_non pd_str pd_neg pd_pow pda_nil pda_cons pd_tup pd_lst pd_dct dv_cut dv_cat tup_at rRepr call_repr rIsD call_isD
local macro_rules | `(tactic| walk_at "d") => `(tactic| try dsimp only [tfOf, startD, slotD, putD, wipeD, dV, dC, dOp, dUn, dNil, dCons, dConsW, dConsF, dCallV, dCall, datsOf, dCB, dTup, dLst, dIf, dTst, dCmp, dCmpV, dChain, dNot, dAnd, dOr, dAndV, dOrV, dNotV, dTb, sSeq, sNx, sSet, sRet, sRetN, sIf, sExpr, sBrk, sCont, sPar, sPar3, lenK, gdN, gdNil, gdCons, sAsg, sFor, iLst, iTpl, iRg1, iRg2, iZp, dYes, dLc, dLc2, dNoP, dPart, dSl, dSlS, sOwn, ownK, sApp, sAppL, sSetL, sIfL, sInsL, sTry1, dOwnLst, fLstL, sExt, sIns, sPut, sFrz, dOwnLen, dOwnIx, sRaise, sAug, t_draw, nthL, e_int, e_int0, e_add, e_addT, e_addL, e_addSI, e_addST, e_shl, e_ci, e_eqI, e_eqS, e_eqB, e_neI, e_neS, e_neB, e_isN, e_notN, e_nthT, e_nthL, e_lenT, e_lenL, e_i1, e_i2, e_lcm, e_intO, e_intB, e_isqrt, e_divmod, e_repr, e_reprS, e_tupL, e_tupT, e_lst, e_truB, e_truI, e_truN, e_truL, e_truT, e_neg, e_bits, e_back, e_backL, e_slT, e_slL, e_slST, e_gdT, e_gdL, Ld.isNon])
local macro_rules | `(tactic| walk_at "u") => `(tactic| (dsimp only; walk_at "d"))

section
variable {R : RD} {Ex : XD}
/-! ### what crosses, by the law, of any curves -/
structure Wd (a b c d e f : Int) : Prop where
  z1 : a.natAbs < 2 ^ 300
  z2 : b.natAbs < 2 ^ 300
  z3 : c.natAbs < 2 ^ 300
  z4 : d.natAbs < 2 ^ 300
  z5 : e.natAbs < 2 ^ 300
  z6 : f.natAbs < 2 ^ 300
theorem Wd.u {a b c d e f : Int} (z : Wd a b c d e f) : (a * d * f).natAbs < 2 ^ 900 := mul_lt (mul_lt z.z1 z.z4) z.z6
theorem Wd.v {a b c d e f : Int} (z : Wd a b c d e f) : (c * b * f).natAbs < 2 ^ 900 := mul_lt (mul_lt z.z3 z.z2) z.z6
theorem Wd.c {a b c d e f : Int} (z : Wd a b c d e f) : (e * b * d).natAbs < 2 ^ 900 := mul_lt (mul_lt z.z5 z.z2) z.z4
theorem Wd.m {a b c d e f : Int} (z : Wd a b c d e f) : (b * d * f).natAbs < 2 ^ 900 := mul_lt (mul_lt z.z2 z.z4) z.z6
theorem Wd.t {a b c d e f : Int} (z : Wd a b c d e f) : (e * b * d * (b * d * f)).natAbs < 2 ^ 1800 := mul_lt z.c z.m
theorem Wd.bar {k : Str} {a b c d e f : Int} (z : Wd a b c d e f) (h : R (.tuple [.int (a * d * f), .int (c * b * f), .int (e * b * d)])) : t_l_bar [.dat (cvD k a b c d e f)] R Ex := w_l_barW z.z1 z.z2 z.z3 z.z4 z.z5 z.z6 h
theorem Wd.ring {k : Str} {a b c d e f : Int} (z : Wd a b c d e f) (h : R (.tuple [.int (a * d * f), .int (c * b * f), .int (e * b * d * (b * d * f)), .int (b * d * f)])) : t_l_ring [.dat (cvD k a b c d e f)] R Ex := w_l_ringW z.z1 z.z2 z.z3 z.z4 z.z5 z.z6 h
theorem w_l_meetLL {a b c d e f a' b' c' d' e' f' : Int} (z : Wd a b c d e f) (y : Wd a' b' c' d' e' f') (A B C E F G w : Int) (hA : A = a * d * f) (hB : B = c * b * f) (hC : C = e * b * d) (hE : E = a' * d' * f') (hF : F = c' * b' * f') (hG : G = e' * b' * d') (hw : w = A * F - E * B)
    (h0 : w = 0 → R (seatsD [])) (h : w ≠ 0 → R (seatsD [((sg w * (C * F - G * B), 0, 0, sg w * w), (sg w * (A * G - E * C), 0, 0, sg w * w))])) :
    t_l_meet [.dat (cvD "line" a b c d e f), .dat (cvD "line" a' b' c' d' e' f')] R Ex := by
  have b1 : ∀ {R : RD} {Ex : XD}, R (.tuple [.int (a * d * f), .int (c * b * f), .int (e * b * d)]) → t_l_bar [.dat (cvD "line" a b c d e f)] R Ex := fun h => z.bar h
  have b2 : ∀ {R : RD} {Ex : XD}, R (.tuple [.int (a' * d' * f'), .int (c' * b' * f'), .int (e' * b' * d')]) → t_l_bar [.dat (cvD "line" a' b' c' d' e' f')] R Ex := fun h => y.bar h
  have zu := z.u
  have zv := z.v
  have zc := z.c
  have yu := y.u
  have yv := y.v
  have yc := y.c
  unfold cvD at b1 b2 ⊢
  unfold t_l_meet b_l_meet
  obtain ⟨k_l_bar, e_l_bar⟩ : ∃ k, t_l_bar = k := ⟨_, rfl⟩
  rw [e_l_bar]
  obtain ⟨k_l_chord, e_l_chord⟩ : ∃ k, t_l_chord = k := ⟨_, rfl⟩
  rw [e_l_chord]
  obtain ⟨k_l_ring, e_l_ring⟩ : ∃ k, t_l_ring = k := ⟨_, rfl⟩
  rw [e_l_ring]
  walk_at "d"
  refine difT (difT ?_)
  refine st e_l_bar <| b1 ?_
  walk_at "d"
  refine st e_l_bar <| b2 ?_
  clear b1 b2
  rw [← hA, ← hB, ← hC] at *
  rw [← hE, ← hF, ← hG] at *
  clear hA hB hC hE hF hG
  walk_at "d"
  refine ⟨mulx_ok zu yv (by decide), mulx_ok yu zv (by decide), ?_⟩
  have zw := sub_lt (mul_lt zu yv) (mul_lt yu zv)
  have z1 := sub_lt (mul_lt zc yv) (mul_lt yc zv)
  have z2 := sub_lt (mul_lt zu yc) (mul_lt yu zc)
  rw [← hw] at *
  have fin : ∀ s : Int, s = (if 0 < w then 1 else -1) → if (!decide (w = 0)) = true then (CMulX C F ∧ CMulX G B ∧ CMulX s (C * F - G * B) ∧ CMulX s w ∧ CMulX A G ∧ CMulX E C ∧ CMulX s (A * G - E * C) ∧ CMulX s w ∧ R (.list [.tuple [.tuple [.int (s * (C * F - G * B)), .int 0, .int 0, .int (s * w)], .tuple [.int (s * (A * G - E * C)), .int 0, .int 0, .int (s * w)]]])) else R (.list []) := fun s hs => by
    have zs : s.natAbs < 2 ^ 2 := by rw [hs]; split <;> decide
    refine difN (fun w0 => ?_) (fun w0 => ?_)
    · have es : s = sg w := by
        rw [hs]
        rcases tri w with q | q | q
        · rw [sg_neg q, if_neg (by omega)]
        · exact absurd q w0
        · rw [sg_pos q, if_pos q]
      refine ⟨mulx_ok zc yv (by decide), mulx_ok yc zv (by decide), mulx_ok zs z1 (by decide), mulx_ok zs zw (by decide), mulx_ok zu yc (by decide), mulx_ok yu zc (by decide), mulx_ok zs z2 (by decide), mulx_ok zs zw (by decide), ?_⟩
      rw [es]
      exact h w0
    · exact h0 w0
  refine difP (fun q => ?_) (fun q => ?_)
  · exact fin 1 (by rw [if_pos q])
  · exact fin (-1) (by rw [if_neg q])
theorem w_l_meetLC {a b c d e f a' b' c' d' e' f' : Int} (z : Wd a b c d e f) (y : Wd a' b' c' d' e' f') (ne : a * d * f ≠ 0 ∨ c * b * f ≠ 0)
    (h : R (seatsD (chordF (a * d * f) (c * b * f) (e * b * d) (a' * d' * f') (c' * b' * f') (e' * b' * d' * (b' * d' * f')) (b' * d' * f')))) :
    t_l_meet [.dat (cvD "line" a b c d e f), .dat (cvD "circle" a' b' c' d' e' f')] R Ex := by
  have b1 : ∀ {R : RD} {Ex : XD}, R (.tuple [.int (a * d * f), .int (c * b * f), .int (e * b * d)]) → t_l_bar [.dat (cvD "line" a b c d e f)] R Ex := fun h => z.bar h
  have r2 : ∀ {R : RD} {Ex : XD}, R (.tuple [.int (a' * d' * f'), .int (c' * b' * f'), .int (e' * b' * d' * (b' * d' * f')), .int (b' * d' * f')]) → t_l_ring [.dat (cvD "circle" a' b' c' d' e' f')] R Ex := fun h => y.ring h
  unfold cvD at b1 r2 ⊢
  unfold t_l_meet b_l_meet
  obtain ⟨k_l_bar, e_l_bar⟩ : ∃ k, t_l_bar = k := ⟨_, rfl⟩
  rw [e_l_bar]
  obtain ⟨k_l_chord, e_l_chord⟩ : ∃ k, t_l_chord = k := ⟨_, rfl⟩
  rw [e_l_chord]
  obtain ⟨k_l_ring, e_l_ring⟩ : ∃ k, t_l_ring = k := ⟨_, rfl⟩
  rw [e_l_ring]
  walk_at "d"
  refine difT (difF (difT ?_))
  refine st e_l_bar <| b1 ?_
  walk_at "d"
  refine st e_l_ring <| r2 ?_
  exact st e_l_chord <| w_l_chord ne (two_le z.u (by decide)) (two_le z.v (by decide)) (two_le z.c (by decide)) (two_le y.u (by decide)) (two_le y.v (by decide)) (two_le y.t (by decide)) (two_le y.m (by decide)) h
theorem w_l_meetCL {a b c d e f a' b' c' d' e' f' : Int} (z : Wd a b c d e f) (y : Wd a' b' c' d' e' f') (ne : a' * d' * f' ≠ 0 ∨ c' * b' * f' ≠ 0)
    (h : R (seatsD (chordF (a' * d' * f') (c' * b' * f') (e' * b' * d') (a * d * f) (c * b * f) (e * b * d * (b * d * f)) (b * d * f)))) :
    t_l_meet [.dat (cvD "circle" a b c d e f), .dat (cvD "line" a' b' c' d' e' f')] R Ex := by
  have b2 : ∀ {R : RD} {Ex : XD}, R (.tuple [.int (a' * d' * f'), .int (c' * b' * f'), .int (e' * b' * d')]) → t_l_bar [.dat (cvD "line" a' b' c' d' e' f')] R Ex := fun h => y.bar h
  have r1 : ∀ {R : RD} {Ex : XD}, R (.tuple [.int (a * d * f), .int (c * b * f), .int (e * b * d * (b * d * f)), .int (b * d * f)]) → t_l_ring [.dat (cvD "circle" a b c d e f)] R Ex := fun h => z.ring h
  unfold cvD at b2 r1 ⊢
  unfold t_l_meet b_l_meet
  obtain ⟨k_l_bar, e_l_bar⟩ : ∃ k, t_l_bar = k := ⟨_, rfl⟩
  rw [e_l_bar]
  obtain ⟨k_l_chord, e_l_chord⟩ : ∃ k, t_l_chord = k := ⟨_, rfl⟩
  rw [e_l_chord]
  obtain ⟨k_l_ring, e_l_ring⟩ : ∃ k, t_l_ring = k := ⟨_, rfl⟩
  rw [e_l_ring]
  walk_at "d"
  refine difF (difF (difF (difT ?_)))
  refine st e_l_bar <| b2 ?_
  walk_at "d"
  refine st e_l_ring <| r1 ?_
  exact st e_l_chord <| w_l_chord ne (two_le y.u (by decide)) (two_le y.v (by decide)) (two_le y.c (by decide)) (two_le z.u (by decide)) (two_le z.v (by decide)) (two_le z.t (by decide)) (two_le z.m (by decide)) h
theorem w_l_meetCC {a b c d e f a' b' c' d' e' f' : Int} (z : Wd a b c d e f) (y : Wd a' b' c' d' e' f') (u v t m e1 f1 g k : Int) (hu : u = a * d * f) (hv : v = c * b * f) (ht : t = e * b * d * (b * d * f)) (hm : m = b * d * f) (he : e1 = a' * d' * f') (hf : f1 = c' * b' * f') (hg : g = e' * b' * d' * (b' * d' * f')) (hk : k = b' * d' * f')
    (h0 : R (seatsD [])) (h : 2 * (e1 * m - u * k) * m * k ≠ 0 ∨ 2 * (f1 * m - v * k) * m * k ≠ 0 → R (seatsD (chordF (2 * (e1 * m - u * k) * m * k) (2 * (f1 * m - v * k) * m * k) ((e1 * e1 + f1 * f1 - g) * m * m - (u * u + v * v - t) * k * k) u v t m))) :
    t_l_meet [.dat (cvD "circle" a b c d e f), .dat (cvD "circle" a' b' c' d' e' f')] R Ex := by
  have r1 : ∀ {R : RD} {Ex : XD}, R (.tuple [.int (a * d * f), .int (c * b * f), .int (e * b * d * (b * d * f)), .int (b * d * f)]) → t_l_ring [.dat (cvD "circle" a b c d e f)] R Ex := fun h => z.ring h
  have r2 : ∀ {R : RD} {Ex : XD}, R (.tuple [.int (a' * d' * f'), .int (c' * b' * f'), .int (e' * b' * d' * (b' * d' * f')), .int (b' * d' * f')]) → t_l_ring [.dat (cvD "circle" a' b' c' d' e' f')] R Ex := fun h => y.ring h
  have zu := z.u
  have zv := z.v
  have zt := z.t
  have zm := z.m
  have yu := y.u
  have yv := y.v
  have yt := y.t
  have ym := y.m
  unfold cvD at r1 r2 ⊢
  unfold t_l_meet b_l_meet
  obtain ⟨k_l_bar, e_l_bar⟩ : ∃ k, t_l_bar = k := ⟨_, rfl⟩
  rw [e_l_bar]
  obtain ⟨k_l_chord, e_l_chord⟩ : ∃ k, t_l_chord = k := ⟨_, rfl⟩
  rw [e_l_chord]
  obtain ⟨k_l_ring, e_l_ring⟩ : ∃ k, t_l_ring = k := ⟨_, rfl⟩
  rw [e_l_ring]
  walk_at "d"
  refine difF (difF (difF (difF ?_)))
  refine st e_l_ring <| r1 ?_
  walk_at "d"
  refine st e_l_ring <| r2 ?_
  clear r1 r2
  rw [← ht, ← hg] at *
  rw [← hu, ← hv, ← hm, ← he, ← hf, ← hk] at *
  clear hu hv ht hm he hf hg hk
  have w2 : (2 : Int).natAbs < 2 ^ 2 := by decide
  have x1 := sub_lt (mul_lt yu zm) (mul_lt zu ym)
  have x2 := sub_lt (mul_lt yv zm) (mul_lt zv ym)
  have x3 := mul_lt (mul_lt (mul_lt w2 x1) zm) ym
  have x4 := mul_lt (mul_lt (mul_lt w2 x2) zm) ym
  have x5 := sub_lt (add_lt (mul_lt yu yu) (mul_lt yv yv)) (two_le yt (show 1800 ≤ 900 + 900 + 1 by decide))
  have x6 := sub_lt (add_lt (mul_lt zu zu) (mul_lt zv zv)) (two_le zt (show 1800 ≤ 900 + 900 + 1 by decide))
  have x7 := mul_lt (mul_lt x5 zm) zm
  have x8 := mul_lt (mul_lt x6 ym) ym
  have x9 := sub_lt x7 x8
  walk_at "d"
  refine ⟨mulx_ok yu zm (by decide), mulx_ok zu ym (by decide), mulx_ok w2 x1 (by decide), mulx_ok (mul_lt w2 x1) zm (by decide), mulx_ok (mul_lt (mul_lt w2 x1) zm) ym (by decide), mulx_ok yv zm (by decide), mulx_ok zv ym (by decide), mulx_ok w2 x2 (by decide), mulx_ok (mul_lt w2 x2) zm (by decide), mulx_ok (mul_lt (mul_lt w2 x2) zm) ym (by decide), ?_⟩
  refine ⟨mulx_ok yu yu (by decide), mulx_ok yv yv (by decide), mulx_ok x5 zm (by decide), mulx_ok (mul_lt x5 zm) zm (by decide), mulx_ok zu zu (by decide), mulx_ok zv zv (by decide), mulx_ok x6 ym (by decide), mulx_ok (mul_lt x6 ym) ym (by decide), ?_⟩
  have yes : (2 * (e1 * m - u * k) * m * k ≠ 0 ∨ 2 * (f1 * m - v * k) * m * k ≠ 0) → k_l_chord [.dat (.tuple [.int (2 * (e1 * m - u * k) * m * k), .int (2 * (f1 * m - v * k) * m * k), .int ((e1 * e1 + f1 * f1 - g) * m * m - (u * u + v * v - t) * k * k)]), .dat (.tuple [.int u, .int v, .int t, .int m])] R Ex := fun ap =>
    st e_l_chord <| w_l_chord ap (two_le x3 (by decide)) (two_le x4 (by decide)) (two_le x9 (by decide)) (two_le zu (by decide)) (two_le zv (by decide)) (two_le zt (by decide)) (two_le zm (by decide)) (h ap)
  exact difN (fun q => yes (.inl q)) (fun q => difN (fun q2 => yes (.inr q2)) (fun q2 => h0))
end

end My

set_option maxHeartbeats 4000000
namespace My
open PySem L2 Ld
open Lw hiding Dv DvAll FreshB tData tDatas pd_int pd_bl pd_non pd_str pd_neg pd_pow pda_nil pda_cons pd_tup pd_lst pd_dct dv_cut dv_cat tup_at rRepr call_repr rIsD call_isD
local macro_rules | `(tactic| walk_at "d") => `(tactic| try dsimp only [tfOf, startD, slotD, putD, wipeD, dV, dC, dOp, dUn, dNil, dCons, dConsW, dConsF, dCallV, dCall, datsOf, dCB, dTup, dLst, dIf, dTst, dCmp, dCmpV, dChain, dNot, dAnd, dOr, dAndV, dOrV, dNotV, dTb, sSeq, sNx, sSet, sRet, sRetN, sIf, sExpr, sBrk, sCont, sPar, sPar3, lenK, gdN, gdNil, gdCons, sAsg, sFor, iLst, iTpl, iRg1, iRg2, iZp, dYes, dLc, dLc2, dNoP, dPart, dSl, dSlS, sOwn, ownK, sApp, sAppL, sSetL, sIfL, sInsL, sTry1, dOwnLst, fLstL, sExt, sIns, sPut, sFrz, dOwnLen, dOwnIx, sRaise, sAug, t_draw, nthL, e_int, e_int0, e_add, e_addT, e_addL, e_addSI, e_addST, e_shl, e_ci, e_eqI, e_eqS, e_eqB, e_neI, e_neS, e_neB, e_isN, e_notN, e_nthT, e_nthL, e_lenT, e_lenL, e_i1, e_i2, e_lcm, e_intO, e_intB, e_isqrt, e_divmod, e_repr, e_reprS, e_tupL, e_tupT, e_lst, e_truB, e_truI, e_truN, e_truL, e_truT, e_neg, e_bits, e_back, e_backL, e_slT, e_slL, e_slST, e_gdT, e_gdL, Ld.isNon])
local macro_rules | `(tactic| walk_at "u") => `(tactic| (dsimp only; walk_at "d"))

section
variable {R : RD} {Ex : XD}
/-! ### forms of any curves -/
theorem LineW.wd {a b c d e f : Int} (z : LineW a b c d e f) : Wd a b c d e f := ⟨two_le z.z1 (by decide), two_le z.z2 (by decide), two_le z.z3 (by decide), two_le z.z4 (by decide), two_le z.z5 (by decide), two_le z.z6 (by decide)⟩
theorem RingW.wd {a b c d e f u v L : Int} (z : RingW a b c d e f u v L) : Wd a b c d e f := by
  have l1 := fr_low z.f1 z.hL z.e1
  have l2 := fr_low z.f2 z.hL z.e2
  have up : ∀ {i j : Int}, i.natAbs ≤ j.natAbs → j.natAbs < 2 ^ 67 → i.natAbs < 2 ^ 300 := fun h h2 => two_le (Nat.lt_of_le_of_lt h h2) (by decide)
  exact ⟨up l1.1 z.zu, up l1.2 z.zL, up l2.1 z.zv, up l2.2 z.zL, two_le z.ze (by decide), two_le z.zf (by decide)⟩
theorem LineW.nz {a b c d e f : Int} (z : LineW a b c d e f) : a * d * f ≠ 0 ∨ c * b * f ≠ 0 := by
  have h1 := z.f1.1
  have h2 := z.f2.1
  have h3 := z.f3.1
  rcases z.ne with n | n
  · exact .inl (Int.mul_ne_zero (Int.mul_ne_zero n (by omega)) (by omega))
  · exact .inr (Int.mul_ne_zero (Int.mul_ne_zero n (by omega)) (by omega))
theorem w_l_formLW {a b c d e f : Int} (z : LineW a b c d e f) (h : R (lfD (a * d * f) (c * b * f) (e * b * d))) : t_l_form [.dat (cvD "line" a b c d e f)] R Ex := by
  have ne := z.nz
  have w1 := z.wd.u
  have w2 := z.wd.v
  have w3 := z.wd.c
  have bar : ∀ {R : RD} {Ex : XD}, R (.tuple [.int (a * d * f), .int (c * b * f), .int (e * b * d)]) → t_l_bar [.dat (cvD "line" a b c d e f)] R Ex := fun h => z.wd.bar h
  unfold lfD cvD fd at h
  unfold cvD at bar ⊢
  dsimp only at h
  unfold t_l_form b_l_form
  obtain ⟨k_l_bar, e_l_bar⟩ : ∃ k, t_l_bar = k := ⟨_, rfl⟩
  rw [e_l_bar]
  obtain ⟨k_l_common, e_l_common⟩ : ∃ k, t_l_common = k := ⟨_, rfl⟩
  rw [e_l_common]
  walk_at "d"
  refine difF ?_
  refine st e_l_bar <| bar ?_
  generalize a * d * f = A at *
  generalize c * b * f = B at *
  generalize e * b * d = C at *
  have g0 := gcd_any (C := C) ne
  have gl : (gcdI (gcdI A B) C).natAbs < 2 ^ 9000 := two_le (gcd_any_lt (C := C) ne w1 w2) (by decide)
  walk_at "d"
  refine st e_l_common <| w_l_common (st e_l_common <| w_l_common ?_)
  generalize gcdI (gcdI A B) C = g at *
  have fin : ∀ {x : Int}, x = (if A < 0 ∨ (A = 0 ∧ B < 0) then 0 - g else g) → (x ≠ 0 ∧ x.natAbs < 2 ^ 9000) ∧ R (.tuple [.str "line", .tuple [.int (A.fdiv x), .int 1], .tuple [.int (B.fdiv x), .int 1], .tuple [.int (C.fdiv x), .int 1]]) := fun {x} hx => by
    refine ⟨?_, by rw [hx]; exact h⟩
    rw [hx]
    split <;> omega
  walk_at "d"
  refine difP (fun c1 => ?_) (fun c1 => difP (fun c2 => difP (fun c3 => ?_) (fun c3 => ?_)) (fun c2 => ?_))
  · have y := fin (x := 0 - g) (by rw [if_pos (.inl c1)])
    exact ⟨y.1, y.1, y.1, y.2⟩
  · have y := fin (x := 0 - g) (by rw [if_pos (.inr ⟨c2, c3⟩)])
    exact ⟨y.1, y.1, y.1, y.2⟩
  · have y := fin (x := g) (by rw [if_neg (by omega)])
    exact ⟨y.1, y.1, y.1, y.2⟩
  · have y := fin (x := g) (by rw [if_neg (by omega)])
    exact ⟨y.1, y.1, y.1, y.2⟩
theorem w_l_formW {x : PyData} (hx : CurW x) (h : ∀ (k : Str) (a b c d e f : Int), PyData.strOk k = true → R (cvD k a b c d e f)) : t_l_form [.dat x] R Ex := by
  obtain ⟨a, b, c, d, e, f, ⟨rfl, z⟩ | ⟨u, v, L, rfl, z⟩⟩ := hx
  · exact w_l_formLW z (h _ _ _ _ _ _ _ ok_line)
  · exact w_l_formC (h _ _ _ _ _ _ _ ok_circle)
theorem w_formsW {x y : PyData} (hx : CurW x) (hy : CurW y) (Q : Bool → Prop) (Ex : XD) (h : ∀ q, Q q) : t_l_form [.dat x] (fun a => t_l_form [.dat y] (fun b => fNe a b Q) Ex) Ex :=
  w_l_formW hx fun _ _ _ _ _ _ _ o1 => w_l_formW hy fun _ _ _ _ _ _ _ o2 => fEq_cv o1 o2 (h _)
/-! ### chords with bounds -/
theorem chordG_in {a b c u v t m : Int} {P : S4 × S4 → Prop} (n k r x y d : Int) (hn : n = a * u + b * v - c * m) (hk : k = a * a + b * b) (hr : r = t * k - n * n) (hx : x = u * k - n * a) (hy : y = v * k - n * b) (hd : d = m * k)
    (h0 : r = 0 → P ((x, 0, 0, d), (y, 0, 0, d))) (h1 : 0 < r → P ((x, 0 - b, r, d), (y, a, r, d))) (h2 : 0 < r → P ((x, b, r, d), (y, 0 - a, r, d))) : (chordG a b c u v t m).length ≤ 2 ∧ ∀ s ∈ chordG a b c u v t m, P s := by
  subst hn hk hr hx hy hd
  unfold chordG
  dsimp only
  generalize t * (a * a + b * b) - (a * u + b * v - c * m) * (a * u + b * v - c * m) = r at *
  split
  · exact ⟨by decide, fun s hs => by cases hs⟩
  · split
    · exact ⟨by show 1 ≤ 2; decide, fun s hs => by rw [List.mem_singleton] at hs; rw [hs]; exact h0 (by assumption)⟩
    · have rp : 0 < r := by omega
      split
      · refine ⟨by show 2 ≤ 2; decide, fun s hs => ?_⟩
        simp only [List.mem_cons, List.not_mem_nil, or_false] at hs
        rcases hs with rfl | rfl
        · exact h1 rp
        · exact h2 rp
      · refine ⟨by show 2 ≤ 2; decide, fun s hs => ?_⟩
        simp only [List.mem_cons, List.not_mem_nil, or_false] at hs
        rcases hs with rfl | rfl
        · exact h2 rp
        · exact h1 rp
theorem chord_seats {a b c u v t m : Int} (hm : 0 < m) (K0 : 0 < a * a + b * b) {α β μ τ : Nat} (za : a.natAbs < 2 ^ α) (zb : b.natAbs < 2 ^ α) (zc : c.natAbs < 2 ^ β) (zu : u.natAbs < 2 ^ μ) (zv : v.natAbs < 2 ^ μ) (zm : m.natAbs < 2 ^ μ) (zt : t.natAbs < 2 ^ τ)
    (w1 : α ≤ 280) (w2 : α + μ + 1 ≤ β + μ) (w3 : β + μ + 1 + α + 1 ≤ 680) (w4 : μ + (α + α + 1) ≤ β + μ + 1 + α) (w5 : τ + (α + α + 1) ≤ 799) (w6 : β + μ + 1 + (β + μ + 1) ≤ 799) :
    (chordG a b c u v t m).length ≤ 2 ∧ ∀ s ∈ chordG a b c u v t m, SeatK s := by
  have wk := add_lt (mul_lt za za) (mul_lt zb zb)
  have wn := sub_lt (two_le (add_lt (mul_lt za zu) (mul_lt zb zv)) w2) (mul_lt zc zm)
  have wr := sub_lt (two_le (mul_lt zt wk) w5) (two_le (mul_lt wn wn) w6)
  have wx := two_le (sub_lt (two_le (mul_lt zu wk) w4) (mul_lt wn za)) w3
  have wy := two_le (sub_lt (two_le (mul_lt zv wk) w4) (mul_lt wn zb)) w3
  have wd : (m * (a * a + b * b)).natAbs < 2 ^ 680 := two_le (mul_lt zm wk) (by omega)
  have MK := Int.mul_pos hm K0
  have va := two_le za w1
  have vb := two_le zb w1
  have na : (0 - a).natAbs < 2 ^ 280 := by omega
  have nb : (0 - b).natAbs < 2 ^ 280 := by omega
  refine chordG_in _ _ _ _ _ _ rfl rfl rfl rfl rfl rfl (fun _ => ?_) (fun p => ?_) (fun p => ?_)
  · exact ⟨_, _, _, _, _, _, rfl, wx, by decide, wy, by decide, by decide, wd, MK, by decide⟩
  · exact ⟨_, _, _, _, _, _, rfl, wx, nb, wy, va, wr, wd, MK, by omega⟩
  · exact ⟨_, _, _, _, _, _, rfl, wx, vb, wy, na, wr, wd, MK, by omega⟩
end

end My

set_option maxHeartbeats 4000000
namespace My
open PySem L2 Ld
open Lw hiding Dv DvAll FreshB tData tDatas pd_int pd_bl pd_non pd_str pd_neg pd_pow pda_nil pda_cons pd_tup pd_lst pd_dct dv_cut dv_cat tup_at rRepr call_repr rIsD call_isD
local macro_rules | `(tactic| walk_at "d") => `(tactic| try dsimp only [tfOf, startD, slotD, putD, wipeD, dV, dC, dOp, dUn, dNil, dCons, dConsW, dConsF, dCallV, dCall, datsOf, dCB, dTup, dLst, dIf, dTst, dCmp, dCmpV, dChain, dNot, dAnd, dOr, dAndV, dOrV, dNotV, dTb, sSeq, sNx, sSet, sRet, sRetN, sIf, sExpr, sBrk, sCont, sPar, sPar3, lenK, gdN, gdNil, gdCons, sAsg, sFor, iLst, iTpl, iRg1, iRg2, iZp, dYes, dLc, dLc2, dNoP, dPart, dSl, dSlS, sOwn, ownK, sApp, sAppL, sSetL, sIfL, sInsL, sTry1, dOwnLst, fLstL, sExt, sIns, sPut, sFrz, dOwnLen, dOwnIx, sRaise, sAug, t_draw, nthL, e_int, e_int0, e_add, e_addT, e_addL, e_addSI, e_addST, e_shl, e_ci, e_eqI, e_eqS, e_eqB, e_neI, e_neS, e_neB, e_isN, e_notN, e_nthT, e_nthL, e_lenT, e_lenL, e_i1, e_i2, e_lcm, e_intO, e_intB, e_isqrt, e_divmod, e_repr, e_reprS, e_tupL, e_tupT, e_lst, e_truB, e_truI, e_truN, e_truL, e_truT, e_neg, e_bits, e_back, e_backL, e_slT, e_slL, e_slST, e_gdT, e_gdL, Ld.isNon])
local macro_rules | `(tactic| walk_at "u") => `(tactic| (dsimp only; walk_at "d"))

section
variable {R : RD} {Ex : XD}
/-! ### chords of multiples; two circles -/
theorem gcd_times {g a b : Int} (hg : 0 < g) : gcdI (g * a) (g * b) = g * gcdI a b := by
  unfold gcdI
  rw [Int.natAbs_mul, Int.natAbs_mul, Nat.gcd_mul_left, Int.natCast_mul]
  have : ((g.natAbs : Nat) : Int) = g := by omega
  rw [this]
theorem chordF_mul {g A B C u v t m : Int} (hg : 0 < g) : chordF (g * A) (g * B) (g * C) u v t m = chordF A B C u v t m := by
  unfold chordF
  rw [gcd_times hg, gcd_times hg]
  rw [Int.mul_fdiv_mul_of_pos _ _ hg, Int.mul_fdiv_mul_of_pos _ _ hg, Int.mul_fdiv_mul_of_pos _ _ hg]
theorem chordF_like {g h A B C A' B' C' u v t m : Int} (hg : 0 < g) (hh : 0 < h) (e1 : g * A = h * A') (e2 : g * B = h * B') (e3 : g * C = h * C') : chordF A B C u v t m = chordF A' B' C' u v t m := by
  rw [← chordF_mul (A := A) hg, e1, e2, e3, chordF_mul hh]
theorem chordF_seats {A B C u v t m : Int} (ne : A ≠ 0 ∨ B ≠ 0) (hm : 0 < m) {α β μ τ : Nat} (za : A.natAbs < 2 ^ α) (zb : B.natAbs < 2 ^ α) (zc : C.natAbs < 2 ^ β) (zu : u.natAbs < 2 ^ μ) (zv : v.natAbs < 2 ^ μ) (zm : m.natAbs < 2 ^ μ) (zt : t.natAbs < 2 ^ τ)
    (w1 : α ≤ 280) (w2 : α + μ + 1 ≤ β + μ) (w3 : β + μ + 1 + α + 1 ≤ 680) (w4 : μ + (α + α + 1) ≤ β + μ + 1 + α) (w5 : τ + (α + α + 1) ≤ 799) (w6 : β + μ + 1 + (β + μ + 1) ≤ 799) :
    (chordF A B C u v t m).length ≤ 2 ∧ ∀ s ∈ chordF A B C u v t m, SeatK s := by
  have g0 := gcd_any (C := C) ne
  have dA : gcdI (gcdI A B) C ∣ A := Int.dvd_trans (gcd_dvd_l _ _) (gcd_dvd_l _ _)
  have dB : gcdI (gcdI A B) C ∣ B := Int.dvd_trans (gcd_dvd_l _ _) (gcd_dvd_r _ _)
  have k1 := fdiv_of g0 dA
  have k2 := fdiv_of g0 dB
  have ne2 : A.fdiv (gcdI (gcdI A B) C) ≠ 0 ∨ B.fdiv (gcdI (gcdI A B) C) ≠ 0 := by
    rcases ne with h | h
    · exact .inl fun z => h (by rw [← k1, z, Int.mul_zero])
    · exact .inr fun z => h (by rw [← k2, z, Int.mul_zero])
  exact chord_seats hm (sq_pos ne2) (fdiv_le g0 za) (fdiv_le g0 zb) (fdiv_le g0 zc) zu zv zm zt w1 w2 w3 w4 w5 w6
/-- the line of two circles, by centres over one divisor each -/
theorem axis_like {a b c d e f u v L a' b' c' d' e' f' u' v' L' : Int} (z : RingW a b c d e f u v L) (y : RingW a' b' c' d' e' f' u' v' L') {U V T M E F G K : Int} (hU : U = a * d * f) (hV : V = c * b * f) (hT : T = e * b * d * (b * d * f)) (hM : M = b * d * f) (hE : E = a' * d' * f') (hF : F = c' * b' * f') (hG : G = e' * b' * d' * (b' * d' * f')) (hK : K = b' * d' * f') {p q r n : Int} :
    chordF (2 * (E * M - U * K) * M * K) (2 * (F * M - V * K) * M * K) ((E * E + F * F - G) * M * M - (U * U + V * V - T) * K * K) p q r n =
      chordF (2 * (L * L') * (f * f') * (L * u' - L' * u)) (2 * (L * L') * (f * f') * (L * v' - L' * v)) (L * L * f * (f' * (u' * u' + v' * v') - L' * L' * e') - L' * L' * f' * (f * (u * u + v * v) - L * L * e)) p q r n := by
  have L0 := z.hL
  have L1 := y.hL
  have f0 := z.f3.1
  have f1 := y.f3.1
  have M0 : 0 < M := by rw [hM]; exact Int.mul_pos (Int.mul_pos z.f1.1 z.f2.1) f0
  have K0 : 0 < K := by rw [hK]; exact Int.mul_pos (Int.mul_pos y.f1.1 y.f2.1) f1
  have s1 : L * U = u * M := by
    rw [hU, hM]
    have : L * (a * d * f) = (a * L) * d * f := by grind
    rw [this, z.e1]
    grind
  have s2 : L * V = v * M := by
    rw [hV, hM]
    have : L * (c * b * f) = (c * L) * b * f := by grind
    rw [this, z.e2]
    grind
  have s3 : f * T = e * (M * M) := by rw [hT, hM]; grind
  have s4 : L' * E = u' * K := by
    rw [hE, hK]
    have : L' * (a' * d' * f') = (a' * L') * d' * f' := by grind
    rw [this, y.e1]
    grind
  have s5 : L' * F = v' * K := by
    rw [hF, hK]
    have : L' * (c' * b' * f') = (c' * L') * b' * f' := by grind
    rw [this, y.e2]
    grind
  have s6 : f' * G = e' * (K * K) := by rw [hG, hK]; grind
  clear hU hV hT hM hE hF hG hK
  have LL := Int.mul_pos L0 L1
  have FF := Int.mul_pos f0 f1
  have MK := Int.mul_pos M0 K0
  refine chordF_like (g := L * L' * (L * L') * (f * f')) (h := M * K * (M * K)) (Int.mul_pos (Int.mul_pos LL LL) FF) (Int.mul_pos MK MK) ?_ ?_ ?_
  · have x : L * L' * (L * L') * (f * f') * (2 * (E * M - U * K) * M * K) = 2 * (L * L') * (f * f') * (L * (L' * E) * M - L' * (L * U) * K) * M * K := by grind
    rw [x, s4, s1]
    grind
  · have x : L * L' * (L * L') * (f * f') * (2 * (F * M - V * K) * M * K) = 2 * (L * L') * (f * f') * (L * (L' * F) * M - L' * (L * V) * K) * M * K := by grind
    rw [x, s5, s2]
    grind
  · have x : L * L' * (L * L') * (f * f') * ((E * E + F * F - G) * M * M - (U * U + V * V - T) * K * K) = L * L * f * (f' * ((L' * E) * (L' * E) + (L' * F) * (L' * F)) - L' * L' * (f' * G)) * M * M - L' * L' * f' * (f * ((L * U) * (L * U) + (L * V) * (L * V)) - L * L * (f * T)) * K * K := by grind
    rw [x, s4, s5, s6, s1, s2, s3]
    grind
end

end My

set_option maxHeartbeats 4000000
namespace My
open PySem L2 Ld
open Lw hiding Dv DvAll FreshB tData tDatas pd_int pd_bl pd_non pd_str pd_neg pd_pow pda_nil pda_cons pd_tup pd_lst pd_dct dv_cut dv_cat tup_at rRepr call_repr rIsD call_isD
local macro_rules | `(tactic| walk_at "d") => `(tactic| try dsimp only [tfOf, startD, slotD, putD, wipeD, dV, dC, dOp, dUn, dNil, dCons, dConsW, dConsF, dCallV, dCall, datsOf, dCB, dTup, dLst, dIf, dTst, dCmp, dCmpV, dChain, dNot, dAnd, dOr, dAndV, dOrV, dNotV, dTb, sSeq, sNx, sSet, sRet, sRetN, sIf, sExpr, sBrk, sCont, sPar, sPar3, lenK, gdN, gdNil, gdCons, sAsg, sFor, iLst, iTpl, iRg1, iRg2, iZp, dYes, dLc, dLc2, dNoP, dPart, dSl, dSlS, sOwn, ownK, sApp, sAppL, sSetL, sIfL, sInsL, sTry1, dOwnLst, fLstL, sExt, sIns, sPut, sFrz, dOwnLen, dOwnIx, sRaise, sAug, t_draw, nthL, e_int, e_int0, e_add, e_addT, e_addL, e_addSI, e_addST, e_shl, e_ci, e_eqI, e_eqS, e_eqB, e_neI, e_neS, e_neB, e_isN, e_notN, e_nthT, e_nthL, e_lenT, e_lenL, e_i1, e_i2, e_lcm, e_intO, e_intB, e_isqrt, e_divmod, e_repr, e_reprS, e_tupL, e_tupT, e_lst, e_truB, e_truI, e_truN, e_truL, e_truT, e_neg, e_bits, e_back, e_backL, e_slT, e_slL, e_slST, e_gdT, e_gdL, Ld.isNon])
local macro_rules | `(tactic| walk_at "u") => `(tactic| (dsimp only; walk_at "d"))

section
variable {R : RD} {Ex : XD}
/-! ### seats without a root, with bounds -/
theorem fdiv_le2 {x g : Int} (hg : 0 < g) {n : Nat} (h : x.natAbs ≤ n) : (x.fdiv g).natAbs ≤ n := by
  rw [Int.fdiv_eq_ediv_of_nonneg _ (by omega)]
  exact Nat.le_trans (Int.natAbs_ediv_le_natAbs x g) h
theorem add_le {a b : Int} {i j : Nat} (h1 : a.natAbs ≤ i) (h2 : b.natAbs ≤ j) : (a + b).natAbs ≤ i + j := by omega
theorem sub_le {a b : Int} {i j : Nat} (h1 : a.natAbs ≤ i) (h2 : b.natAbs ≤ j) : (a - b).natAbs ≤ i + j := by omega
theorem tame_one {N D : Nat} {x d g x0 d0 : Int} {p q : Int} (hg : 0 < g) (h0 : 0 < d0) (hx : x = g * x0) (hd : d = g * d0) (hz : d.natAbs < 2 ^ 8000) (h1 : x0.natAbs ≤ N) (h2 : d0.natAbs ≤ D) : Tame1 N D (x, p, q, d) := by
  have dp : 0 < d := by rw [hd]; exact Int.mul_pos hg h0
  obtain ⟨e1, e2⟩ := red_congr (a := x) (c := x0) dp h0 (by rw [hx, hd]; grind)
  have le := red_le (a := x0) h0
  refine ⟨dp, hz, ?_, ?_⟩
  · show (redN x d).natAbs ≤ N
    rw [e1]
    exact Nat.le_trans le.1 h1
  · show (redD x d).natAbs ≤ D
    rw [e2]
    exact Nat.le_trans le.2 h2
theorem chord_tame {A B C u v t m g u0 v0 m0 : Int} (ne : A ≠ 0 ∨ B ≠ 0) (hg : 0 < g) (hu : u = g * u0) (hv : v = g * v0) (hm : m = g * m0) (mp : 0 < m0) {α γ μ ν N D : Nat} (za : A.natAbs ≤ α) (zb : B.natAbs ≤ α) (zc : C.natAbs ≤ γ) (zu : u0.natAbs ≤ μ) (zv : v0.natAbs ≤ μ) (zm : m0.natAbs ≤ ν)
    (ha : α < 2 ^ 1000) (hz : m.natAbs < 2 ^ 2000) (hN : μ * (α * α + α * α) + (α * μ + α * μ + γ * ν) * α ≤ N) (hD : ν * (α * α + α * α) ≤ D) : ∀ s ∈ chordF A B C u v t m, Tame N D s := by
  unfold chordF
  have g0 := gcd_any (C := C) ne
  have dA : gcdI (gcdI A B) C ∣ A := Int.dvd_trans (gcd_dvd_l _ _) (gcd_dvd_l _ _)
  have dB : gcdI (gcdI A B) C ∣ B := Int.dvd_trans (gcd_dvd_l _ _) (gcd_dvd_r _ _)
  have k1 := fdiv_of g0 dA
  have k2 := fdiv_of g0 dB
  have ne2 : A.fdiv (gcdI (gcdI A B) C) ≠ 0 ∨ B.fdiv (gcdI (gcdI A B) C) ≠ 0 := by
    rcases ne with h | h
    · exact .inl fun z => h (by rw [← k1, z, Int.mul_zero])
    · exact .inr fun z => h (by rw [← k2, z, Int.mul_zero])
  have f1 := fdiv_le2 g0 za
  have f2 := fdiv_le2 g0 zb
  have f3 := fdiv_le2 g0 zc
  generalize A.fdiv (gcdI (gcdI A B) C) = a at *
  generalize B.fdiv (gcdI (gcdI A B) C) = b at *
  generalize C.fdiv (gcdI (gcdI A B) C) = c at *
  have K0 := sq_pos ne2
  have wk := add_le (mul_le f1 f1) (mul_le f2 f2)
  have wn := sub_le (add_le (mul_le f1 zu) (mul_le f2 zv)) (mul_le f3 zm)
  have wx := sub_le (mul_le zu wk) (mul_le wn f1)
  have wy := sub_le (mul_le zv wk) (mul_le wn f2)
  have wd := mul_le zm wk
  have zd : (m * (a * a + b * b)).natAbs < 2 ^ 8000 := by
    have h1 : a.natAbs < 2 ^ 1000 := Nat.lt_of_le_of_lt f1 ha
    have h2 : b.natAbs < 2 ^ 1000 := Nat.lt_of_le_of_lt f2 ha
    exact two_le (mul_lt hz (add_lt (mul_lt h1 h1) (mul_lt h2 h2))) (by decide)
  have x1 : u * (a * a + b * b) - (a * u + b * v - c * m) * a = g * (u0 * (a * a + b * b) - (a * u0 + b * v0 - c * m0) * a) := by rw [hu, hv, hm]; grind
  have y1 : v * (a * a + b * b) - (a * u + b * v - c * m) * b = g * (v0 * (a * a + b * b) - (a * u0 + b * v0 - c * m0) * b) := by rw [hu, hv, hm]; grind
  have d1 : m * (a * a + b * b) = g * (m0 * (a * a + b * b)) := by rw [hm]; grind
  have M0 := Int.mul_pos mp K0
  refine (chordG_in (P := Tame N D) _ _ _ _ _ _ rfl rfl rfl rfl rfl rfl (fun _ _ _ => ?_) (fun _ e1 e2 => ?_) (fun _ e1 e2 => ?_)).2
  · exact ⟨tame_one hg M0 x1 d1 zd (Nat.le_trans wx hN) (Nat.le_trans wd hD), tame_one hg M0 y1 d1 zd (Nat.le_trans wy hN) (Nat.le_trans wd hD)⟩
  · exact absurd ne2 (by dsimp only at e1 e2; omega)
  · exact absurd ne2 (by dsimp only at e1 e2; omega)
end

end My

set_option maxHeartbeats 4000000
namespace My
open PySem L2 Ld
open Lw hiding Dv DvAll FreshB tData tDatas pd_int pd_bl pd_non pd_str pd_neg pd_pow pda_nil pda_cons pd_tup pd_lst pd_dct dv_cut dv_cat tup_at rRepr call_repr rIsD call_isD
local macro_rules | `(tactic| walk_at "d") => `(tactic| try dsimp only [tfOf, startD, slotD, putD, wipeD, dV, dC, dOp, dUn, dNil, dCons, dConsW, dConsF, dCallV, dCall, datsOf, dCB, dTup, dLst, dIf, dTst, dCmp, dCmpV, dChain, dNot, dAnd, dOr, dAndV, dOrV, dNotV, dTb, sSeq, sNx, sSet, sRet, sRetN, sIf, sExpr, sBrk, sCont, sPar, sPar3, lenK, gdN, gdNil, gdCons, sAsg, sFor, iLst, iTpl, iRg1, iRg2, iZp, dYes, dLc, dLc2, dNoP, dPart, dSl, dSlS, sOwn, ownK, sApp, sAppL, sSetL, sIfL, sInsL, sTry1, dOwnLst, fLstL, sExt, sIns, sPut, sFrz, dOwnLen, dOwnIx, sRaise, sAug, t_draw, nthL, e_int, e_int0, e_add, e_addT, e_addL, e_addSI, e_addST, e_shl, e_ci, e_eqI, e_eqS, e_eqB, e_neI, e_neS, e_neB, e_isN, e_notN, e_nthT, e_nthL, e_lenT, e_lenL, e_i1, e_i2, e_lcm, e_intO, e_intB, e_isqrt, e_divmod, e_repr, e_reprS, e_tupL, e_tupT, e_lst, e_truB, e_truI, e_truN, e_truL, e_truT, e_neg, e_bits, e_back, e_backL, e_slT, e_slL, e_slST, e_gdT, e_gdL, Ld.isNon])
local macro_rules | `(tactic| walk_at "u") => `(tactic| (dsimp only; walk_at "d"))

section
variable {R : RD} {Ex : XD}
/-! ### the third curve -/
def Th (z : PyData) : Prop := ∃ a b c d e f : Int, IsFr a b ∧ IsFr c d ∧ IsFr e f ∧ a.natAbs < 2 ^ 12 ∧ b.natAbs < 2 ^ 7 ∧ c.natAbs < 2 ^ 12 ∧ d.natAbs < 2 ^ 7 ∧
  ((z = cvD "line" a b c d e f ∧ e.natAbs < 2 ^ 54 ∧ f.natAbs < 2 ^ 49 ∧ (a ≠ 0 ∨ c ≠ 0) ∧ (a * d * f).natAbs < 2 ^ 53 ∧ (c * b * f).natAbs < 2 ^ 53 ∧ (e * b * d).natAbs < 2 ^ 56) ∨ (z = cvD "circle" a b c d e f ∧ e.natAbs < 2 ^ 104 ∧ f.natAbs < 2 ^ 97 ∧ 0 < e ∧ ((a.natAbs ≤ 6 ∧ b.natAbs ≤ 4 ∧ c.natAbs ≤ 6 ∧ d.natAbs ≤ 4) ∨ (e.natAbs < 2 ^ 21 ∧ f.natAbs < 2 ^ 17))))
theorem Cur0.th {z : PyData} (h : Cur0 z) : Th z := by
  obtain ⟨k, a, b, c, d, e, f, rfl, ⟨rfl, f1, f2, f3, z1, z2, z3, z4, z5, z6, r⟩ | ⟨rfl, ⟨f1, f2, f3, z1, z2, z3, z4, z5, z6⟩, e0⟩⟩ := h
  · exact ⟨a, b, c, d, e, f, f1, f2, f3, le_lt z1 (by decide), le_lt z2 (by decide), le_lt z3 (by decide), le_lt z4 (by decide), .inl ⟨rfl, le_lt z5 (by decide), le_lt z6 (by decide), r, le_lt (mul_le (mul_le z1 z4) z6) (by decide), le_lt (mul_le (mul_le z3 z2) z6) (by decide), le_lt (mul_le (mul_le z5 z2) z4) (by decide)⟩⟩
  · exact ⟨a, b, c, d, e, f, f1, f2, f3, z1, z2, z3, z4, .inr ⟨rfl, two_le z5 (by decide), two_le z6 (by decide), e0, .inr ⟨z5, z6⟩⟩⟩
theorem DiscS.th {z : PyData} (h : DiscS z) : Th z := by
  obtain ⟨a, b, c, d, e, f, rfl, f1, f2, f3, z1, z2, z3, z4, z5, z6, e0⟩ := h
  exact ⟨a, b, c, d, e, f, f1, f2, f3, le_lt z1 (by decide), le_lt z2 (by decide), le_lt z3 (by decide), le_lt z4 (by decide), .inr ⟨rfl, le_lt z5 (by decide), le_lt z6 (by decide), e0, .inl ⟨z1, z2, z3, z4⟩⟩⟩
theorem LineS.th {z : PyData} (h : LineS z) : Th z := by
  obtain ⟨a, b, c, d, e, f, rfl, f1, f2, f3, z1, z2, z3, z4, z5, z6, ne⟩ := h
  exact ⟨a, b, c, d, e, f, f1, f2, f3, le_lt z1 (by decide), le_lt z2 (by decide), le_lt z3 (by decide), le_lt z4 (by decide), .inl ⟨rfl, le_lt z5 (by decide), le_lt z6 (by decide), ne, le_lt (mul_le (mul_le z1 z4) z6) (by decide), le_lt (mul_le (mul_le z3 z2) z6) (by decide), le_lt (mul_le (mul_le z5 z2) z4) (by decide)⟩⟩
theorem ThruR.th {z : PyData} (h : ThruR 16777216 4194304 z) : Th z := by
  obtain ⟨a, b, c, d, e, f, f1, f2, f3, ⟨rfl, z1, z2, z3, z4, z5, z6, ne⟩ | ⟨rfl, z1, z2, z3, z4, z5, z6, e0⟩⟩ := h
  · exact ⟨a, b, c, d, e, f, f1, f2, f3, le_lt z1 (by decide), le_lt z2 (by decide), le_lt z3 (by decide), le_lt z4 (by decide), .inl ⟨rfl, le_lt z5 (by decide), le_lt z6 (by decide), ne, le_lt (mul_le (mul_le z1 z4) z6) (by decide), le_lt (mul_le (mul_le z3 z2) z6) (by decide), le_lt (mul_le (mul_le z5 z2) z4) (by decide)⟩⟩
  · exact ⟨a, b, c, d, e, f, f1, f2, f3, le_lt z1 (by decide), le_lt z2 (by decide), le_lt z3 (by decide), le_lt z4 (by decide), .inr ⟨rfl, le_lt z5 (by decide), le_lt z6 (by decide), e0, .inl ⟨z1, z2, z3, z4⟩⟩⟩
theorem Th.cur {z : PyData} (h : Th z) : CurW z := by
  obtain ⟨a, b, c, d, e, f, f1, f2, f3, z1, z2, z3, z4, ⟨rfl, z5, z6, ne, _⟩ | ⟨rfl, z5, z6, e0, _⟩⟩ := h
  · exact ⟨a, b, c, d, e, f, .inl ⟨rfl, f1, f2, f3, two_le z1 (by decide), two_le z2 (by decide), two_le z3 (by decide), two_le z4 (by decide), two_le z5 (by decide), two_le z6 (by decide), ne⟩⟩
  · exact ⟨a, b, c, d, e, f, .inr ⟨a * d, c * b, b * d, rfl, f1, f2, f3, by grind, by grind, Int.mul_pos f1.1 f2.1, e0, two_le (mul_lt z1 z4) (by decide), two_le (mul_lt z3 z2) (by decide), two_le (mul_lt z2 z4) (by decide), two_le z5 (by decide), two_le z6 (by decide)⟩⟩
/-- what the disc and the line share -/
theorem meet_first {x y : PyData} (hx : DiscS x) (hy : LineS y) (R : RD) (Ex : XD) (h : ∀ ss : List (S4 × S4), (∀ s ∈ ss, SeatK s ∧ Tame 16777216 4194304 s) → ss.length ≤ 2 → R (seatsD ss)) : t_l_meet [.dat x, .dat y] R Ex := by
  obtain ⟨a, b, c, d, e, f, rfl, f1, f2, f3, z1, z2, z3, z4, z5, z6, e0⟩ := hx
  obtain ⟨a', b', c', d', e', f', rfl, g1, g2, g3, y1, y2, y3, y4, y5, y6, ne⟩ := hy
  have wz : Wd a b c d e f := ⟨le_lt z1 (by decide), le_lt z2 (by decide), le_lt z3 (by decide), le_lt z4 (by decide), le_lt z5 (by decide), le_lt z6 (by decide)⟩
  have ly : LineW a' b' c' d' e' f' := ⟨g1, g2, g3, le_lt y1 (by decide), le_lt y2 (by decide), le_lt y3 (by decide), le_lt y4 (by decide), le_lt y5 (by decide), le_lt y6 (by decide), ne⟩
  have nz := ly.nz
  have mp : 0 < b * d * f := Int.mul_pos (Int.mul_pos f1.1 f2.1) f3.1
  have A1 := mul_le (mul_le y1 y4) y6
  have B1 := mul_le (mul_le y3 y2) y6
  have C1 := mul_le (mul_le y5 y2) y4
  have U1 := mul_le (mul_le z1 z4) z6
  have V1 := mul_le (mul_le z3 z2) z6
  have M1 := mul_le (mul_le z2 z4) z6
  have T1 := mul_le (mul_le (mul_le z5 z2) z4) M1
  refine w_l_meetCL wz ly.wd nz (h _ (fun s hs => ⟨?_, ?_⟩) ?_)
  · exact (chordF_seats (α := 8) (β := 9) (μ := 8) (τ := 16) nz mp (le_lt A1 (by decide)) (le_lt B1 (by decide)) (le_lt C1 (by decide)) (le_lt U1 (by decide)) (le_lt V1 (by decide)) (le_lt M1 (by decide)) (le_lt T1 (by decide)) (by decide) (by decide) (by decide) (by decide) (by decide) (by decide)).2 s hs
  · exact chord_tame (g := 1) (α := 144) (γ := 54) (μ := 96) (ν := 96) nz (by decide) (Int.one_mul _).symm (Int.one_mul _).symm (Int.one_mul _).symm mp A1 B1 C1 U1 V1 (Nat.le_trans M1 (by decide)) (by decide) (le_lt M1 (by decide)) (by decide) (by decide) s hs
  · exact (chordF_seats (α := 8) (β := 9) (μ := 8) (τ := 16) nz mp (le_lt A1 (by decide)) (le_lt B1 (by decide)) (le_lt C1 (by decide)) (le_lt U1 (by decide)) (le_lt V1 (by decide)) (le_lt M1 (by decide)) (le_lt T1 (by decide)) (by decide) (by decide) (by decide) (by decide) (by decide) (by decide)).1
theorem w_l_discT (h : ∀ z, Th z → R z) : t_l_disc [.well] R Ex := w_l_disc fun a b c d e f z => h _ (DiscS.th ⟨_, _, _, _, _, _, rfl, z⟩)
theorem w_l_lineT (h : ∀ z, Th z → R z) : t_l_line [.well] R Ex := w_l_line fun a b c d e f y1 y2 y3 y4 y5 y6 y7 y8 y9 y0 => h _ (LineS.th ⟨_, _, _, _, _, _, rfl, y1, y2, y3, y4, y5, y6, y7, y8, y9, y0⟩)
theorem w_l_curve3 {x y : PyData} (hx : DiscS x) (hy : LineS y) (R : RD) (Ex : XD) (h : ∀ z, Th z → R z) : t_l_curve [.well, .dat (.list [x, y])] R Ex := by
  have rest : ∀ (b : Int), (if decide (b < 5) = true then t_l_through [.well, .dat (.list [x, y])] R Ex else if decide (b < 7) = true then t_l_disc [.well] R Ex else t_l_line [.well] R Ex) := fun b =>
    difP (fun _ => w_l_throughG (N := 16777216) (D := 4194304) (by decide) (by decide) (by decide) (by decide) (x1 := x) (x2 := y) rfl rfl (by show 1 < 2; decide) (by show 2 < 1000; decide)
      (fun R Ex k => meet_first hx hy R Ex fun ss hs _ => k ss fun s q => (hs s q).2) fun z hz => h z hz.th) fun _ => difP (fun _ => w_l_discT h) fun _ => w_l_lineT h
  obtain ⟨a, b, c, d, e, f, rfl, z⟩ := id hx
  obtain ⟨a', b', c', d', e', f', rfl, _⟩ := id hy
  have bs : ∀ {R : RD} {Ex : XD}, (∀ y, Cur0 y → R y) → t_l_beside [.well, .dat (cvD "circle" a b c d e f)] R Ex := fun h => w_l_beside z h
  unfold cvD at rest bs ⊢
  unfold t_l_curve b_l_curve
  obtain ⟨k_l_draw, e_l_draw⟩ : ∃ k, t_l_draw = k := ⟨_, rfl⟩
  rw [e_l_draw]
  obtain ⟨k_l_beside, e_l_beside⟩ : ∃ k, t_l_beside = k := ⟨_, rfl⟩
  rw [e_l_beside]
  obtain ⟨k_l_pick, e_l_pick⟩ : ∃ k, t_l_pick = k := ⟨_, rfl⟩
  rw [e_l_pick]
  obtain ⟨k_l_through, e_l_through⟩ : ∃ k, t_l_through = k := ⟨_, rfl⟩
  rw [e_l_through]
  obtain ⟨k_l_disc, e_l_disc⟩ : ∃ k, t_l_disc = k := ⟨_, rfl⟩
  rw [e_l_disc]
  obtain ⟨k_l_line, e_l_line⟩ : ∃ k, t_l_line = k := ⟨_, rfl⟩
  rw [e_l_line]
  walk_at "d"
  refine st e_l_draw <| w_l_draw (by decide) (by decide) fun k k0 k1 => ?_
  walk_at "d"
  refine ⟨by show 2 ≤ 1000; decide, ?_⟩
  try dsimp only [lcD]
  walk_at "d"
  refine difT ?_
  try dsimp only [lcD]
  walk_at "d"
  refine difF ?_
  try dsimp only [lcD]
  walk_at "d"
  rw [← e_l_through, ← e_l_disc, ← e_l_line]
  refine difP (fun _ => ?_) (fun _ => difF (rest k))
  refine ⟨shaped_one ok_circle, rfl, ?_⟩
  refine difT ?_
  refine st e_l_pick <| w_l_pickL (by show 0 < 1; decide) (by show 1 < 1000; decide) fun dd hd => ?_
  rw [List.mem_singleton] at hd
  rw [hd]
  exact st e_l_beside <| bs fun y hy => h y hy.th
end

end My

set_option maxHeartbeats 4000000
namespace My
open PySem L2 Ld
open Lw hiding Dv DvAll FreshB tData tDatas pd_int pd_bl pd_non pd_str pd_neg pd_pow pda_nil pda_cons pd_tup pd_lst pd_dct dv_cut dv_cat tup_at rRepr call_repr rIsD call_isD
local macro_rules | `(tactic| walk_at "d") => `(tactic| try dsimp only [tfOf, startD, slotD, putD, wipeD, dV, dC, dOp, dUn, dNil, dCons, dConsW, dConsF, dCallV, dCall, datsOf, dCB, dTup, dLst, dIf, dTst, dCmp, dCmpV, dChain, dNot, dAnd, dOr, dAndV, dOrV, dNotV, dTb, sSeq, sNx, sSet, sRet, sRetN, sIf, sExpr, sBrk, sCont, sPar, sPar3, lenK, gdN, gdNil, gdCons, sAsg, sFor, iLst, iTpl, iRg1, iRg2, iZp, dYes, dLc, dLc2, dNoP, dPart, dSl, dSlS, sOwn, ownK, sApp, sAppL, sSetL, sIfL, sInsL, sTry1, dOwnLst, fLstL, sExt, sIns, sPut, sFrz, dOwnLen, dOwnIx, sRaise, sAug, t_draw, nthL, e_int, e_int0, e_add, e_addT, e_addL, e_addSI, e_addST, e_shl, e_ci, e_eqI, e_eqS, e_eqB, e_neI, e_neS, e_neB, e_isN, e_notN, e_nthT, e_nthL, e_lenT, e_lenL, e_i1, e_i2, e_lcm, e_intO, e_intB, e_isqrt, e_divmod, e_repr, e_reprS, e_tupL, e_tupT, e_lst, e_truB, e_truI, e_truN, e_truL, e_truT, e_neg, e_bits, e_back, e_backL, e_slT, e_slL, e_slST, e_gdT, e_gdL, Ld.isNon])
local macro_rules | `(tactic| walk_at "u") => `(tactic| (dsimp only; walk_at "d"))

section
variable {R : RD} {Ex : XD}
/-! ### what the line and the third curve share -/
theorem wd_th {a b c d e f : Int} (z1 : a.natAbs < 2 ^ 12) (z2 : b.natAbs < 2 ^ 7) (z3 : c.natAbs < 2 ^ 12) (z4 : d.natAbs < 2 ^ 7) (z5 : e.natAbs < 2 ^ 104) (z6 : f.natAbs < 2 ^ 97) : Wd a b c d e f :=
  ⟨two_le z1 (by decide), two_le z2 (by decide), two_le z3 (by decide), two_le z4 (by decide), two_le z5 (by decide), two_le z6 (by decide)⟩
theorem sg_one (w : Int) : (sg w).natAbs ≤ 1 := by rcases tri w with h | h | h <;> first | rw [sg_neg h] <;> decide | rw [h] <;> decide | rw [sg_pos h] <;> decide
/-- the third curve is a line -/
def ThL (z : PyData) : Prop := ∃ a b c d e f : Int, z = cvD "line" a b c d e f ∧ IsFr a b ∧ IsFr c d ∧ IsFr e f ∧ a.natAbs < 2 ^ 12 ∧ b.natAbs < 2 ^ 7 ∧ c.natAbs < 2 ^ 12 ∧ d.natAbs < 2 ^ 7 ∧ e.natAbs < 2 ^ 54 ∧ f.natAbs < 2 ^ 49 ∧ (a ≠ 0 ∨ c ≠ 0) ∧ (a * d * f).natAbs < 2 ^ 53 ∧ (c * b * f).natAbs < 2 ^ 53 ∧ (e * b * d).natAbs < 2 ^ 56
def ThC (z : PyData) : Prop := ∃ a b c d e f : Int, z = cvD "circle" a b c d e f ∧ IsFr a b ∧ IsFr c d ∧ IsFr e f ∧ a.natAbs < 2 ^ 12 ∧ b.natAbs < 2 ^ 7 ∧ c.natAbs < 2 ^ 12 ∧ d.natAbs < 2 ^ 7 ∧ e.natAbs < 2 ^ 104 ∧ f.natAbs < 2 ^ 97 ∧ 0 < e ∧ ((a.natAbs ≤ 6 ∧ b.natAbs ≤ 4 ∧ c.natAbs ≤ 6 ∧ d.natAbs ≤ 4) ∨ (e.natAbs < 2 ^ 21 ∧ f.natAbs < 2 ^ 17))
theorem Th.two {z : PyData} (h : Th z) : ThL z ∨ ThC z := by
  obtain ⟨a, b, c, d, e, f, f1, f2, f3, z1, z2, z3, z4, ⟨rfl, z5, z6, ne⟩ | ⟨rfl, z5, z6, e0, zz⟩⟩ := h
  · exact .inl ⟨a, b, c, d, e, f, rfl, f1, f2, f3, z1, z2, z3, z4, z5, z6, ne⟩
  · exact .inr ⟨a, b, c, d, e, f, rfl, f1, f2, f3, z1, z2, z3, z4, z5, z6, e0, zz⟩
/-- a circle third: the foot does not hang on q -/
theorem meet_secondC {y z : PyData} (hy : LineS y) (hz : ThC z) (R : RD) (Ex : XD) (h : ∀ ss : List (S4 × S4), (∀ s ∈ ss, Tame (2 ^ 36) (2 ^ 30) s) → R (seatsD ss)) : t_l_meet [.dat y, .dat z] R Ex := by
  obtain ⟨a', b', c', d', e', f', rfl, g1, g2, g3, y1, y2, y3, y4, y5, y6, ne⟩ := hy
  obtain ⟨a, b, c, d, e, f, rfl, f1, f2, f3, z1, z2, z3, z4, z5, z6, e0, _⟩ := hz
  have ly : LineW a' b' c' d' e' f' := ⟨g1, g2, g3, le_lt y1 (by decide), le_lt y2 (by decide), le_lt y3 (by decide), le_lt y4 (by decide), le_lt y5 (by decide), le_lt y6 (by decide), ne⟩
  have wz := wd_th z1 z2 z3 z4 z5 z6
  have A1 := mul_le (mul_le y1 y4) y6
  have B1 := mul_le (mul_le y3 y2) y6
  have C1 := mul_le (mul_le y5 y2) y4
  have U1 := mul_lt z1 z4
  have V1 := mul_lt z3 z2
  have M1 := mul_lt z2 z4
  refine w_l_meetLC ly.wd wz ly.nz (h _ fun s hs => ?_)
  exact chord_tame (g := f) (u0 := a * d) (v0 := c * b) (m0 := b * d) (α := 144) (γ := 54) (μ := 2 ^ 19) (ν := 2 ^ 14) ly.nz f3.1 (by grind) (by grind) (by grind) (Int.mul_pos f1.1 f2.1) A1 B1 C1 (Nat.le_of_lt U1) (Nat.le_of_lt V1) (Nat.le_of_lt M1) (by decide) (two_le wz.m (by decide)) (by decide) (by decide) s hs
/-- a line third -/
theorem meet_secondL {y z : PyData} (hy : LineS y) (hz : ThL z) (R : RD) (Ex : XD) (h : ∀ ss : List (S4 × S4), (∀ s ∈ ss, Tame (2 ^ 64) (2 ^ 62) s) → R (seatsD ss)) : t_l_meet [.dat y, .dat z] R Ex := by
  obtain ⟨a', b', c', d', e', f', rfl, g1, g2, g3, y1, y2, y3, y4, y5, y6, ne⟩ := hy
  obtain ⟨a, b, c, d, e, f, rfl, f1, f2, f3, z1, z2, z3, z4, z5, z6, ne2, p1, p2, p3⟩ := hz
  have ly : LineW a' b' c' d' e' f' := ⟨g1, g2, g3, le_lt y1 (by decide), le_lt y2 (by decide), le_lt y3 (by decide), le_lt y4 (by decide), le_lt y5 (by decide), le_lt y6 (by decide), ne⟩
  have wz : Wd a b c d e f := wd_th z1 z2 z3 z4 (two_le z5 (by decide)) (two_le z6 (by decide))
  have A1 := mul_le (mul_le y1 y4) y6
  have B1 := mul_le (mul_le y3 y2) y6
  have C1 := mul_le (mul_le y5 y2) y4
  refine w_l_meetLL ly.wd wz _ _ _ _ _ _ _ rfl rfl rfl rfl rfl rfl rfl (fun _ => h [] fun s hs => by cases hs) fun w0 => h _ fun s hs => ?_
  rw [List.mem_singleton] at hs
  rw [hs]
  clear hs
  generalize a' * d' * f' = A at *
  generalize c' * b' * f' = B at *
  generalize e' * b' * d' = C at *
  generalize a * d * f = E at *
  generalize c * b * f = F at *
  generalize e * b * d = G at *
  have q1 := sub_le (mul_le A1 (Nat.le_of_lt p2)) (mul_le (Nat.le_of_lt p1) B1)
  have q2 := sub_le (mul_le C1 (Nat.le_of_lt p2)) (mul_le (Nat.le_of_lt p3) B1)
  have q3 := sub_le (mul_le A1 (Nat.le_of_lt p3)) (mul_le (Nat.le_of_lt p1) C1)
  generalize A * F - E * B = w at *
  have so := sg_one w
  have q4 := mul_le so q1
  have q5 := mul_le so q2
  have q6 := mul_le so q3
  have pos : 0 < sg w * w := by
    rw [sg_self]
    exact ab_pos w0
  have sz : (sg w * w).natAbs < 2 ^ 8000 := le_lt q4 (by decide)
  exact fun _ _ => ⟨tame_one (g := 1) (by decide) pos (Int.one_mul _).symm (Int.one_mul _).symm sz (Nat.le_trans q5 (by decide)) (Nat.le_trans q4 (by decide)), tame_one (g := 1) (by decide) pos (Int.one_mul _).symm (Int.one_mul _).symm sz (Nat.le_trans q6 (by decide)) (Nat.le_trans q4 (by decide))⟩
end

end My

set_option maxHeartbeats 4000000
namespace My
open PySem L2 Ld
open Lw hiding Dv DvAll FreshB tData tDatas pd_int pd_bl pd_non pd_str pd_neg pd_pow pda_nil pda_cons pd_tup pd_lst pd_dct dv_cut dv_cat tup_at rRepr call_repr rIsD call_isD
local macro_rules | `(tactic| walk_at "d") => `(tactic| try dsimp only [tfOf, startD, slotD, putD, wipeD, dV, dC, dOp, dUn, dNil, dCons, dConsW, dConsF, dCallV, dCall, datsOf, dCB, dTup, dLst, dIf, dTst, dCmp, dCmpV, dChain, dNot, dAnd, dOr, dAndV, dOrV, dNotV, dTb, sSeq, sNx, sSet, sRet, sRetN, sIf, sExpr, sBrk, sCont, sPar, sPar3, lenK, gdN, gdNil, gdCons, sAsg, sFor, iLst, iTpl, iRg1, iRg2, iZp, dYes, dLc, dLc2, dNoP, dPart, dSl, dSlS, sOwn, ownK, sApp, sAppL, sSetL, sIfL, sInsL, sTry1, dOwnLst, fLstL, sExt, sIns, sPut, sFrz, dOwnLen, dOwnIx, sRaise, sAug, t_draw, nthL, e_int, e_int0, e_add, e_addT, e_addL, e_addSI, e_addST, e_shl, e_ci, e_eqI, e_eqS, e_eqB, e_neI, e_neS, e_neB, e_isN, e_notN, e_nthT, e_nthL, e_lenT, e_lenL, e_i1, e_i2, e_lcm, e_intO, e_intB, e_isqrt, e_divmod, e_repr, e_reprS, e_tupL, e_tupT, e_lst, e_truB, e_truI, e_truN, e_truL, e_truT, e_neg, e_bits, e_back, e_backL, e_slT, e_slL, e_slST, e_gdT, e_gdL, Ld.isNon])
local macro_rules | `(tactic| walk_at "u") => `(tactic| (dsimp only; walk_at "d"))

section
variable {R : RD} {Ex : XD}
/-! ### what the third and the fourth curve share -/
/-- the fourth curve w beside the third z -/
def Fo (z w : PyData) : Prop :=
  (∃ a b c d e f : Int, w = cvD "line" a b c d e f ∧ IsFr a b ∧ IsFr c d ∧ IsFr e f ∧ a.natAbs < 2 ^ 10 ∧ b.natAbs < 2 ^ 4 ∧ c.natAbs < 2 ^ 10 ∧ d.natAbs < 2 ^ 4 ∧ e.natAbs < 2 ^ 138 ∧ f.natAbs < 2 ^ 132 ∧ (a ≠ 0 ∨ c ≠ 0)) ∨
  (∃ a b c d e f u v L : Int, w = cvD "circle" a b c d e f ∧ RingW a b c d e f u v L ∧
    (ThL z → (a * d * f).natAbs < 2 ^ 280 ∧ (c * b * f).natAbs < 2 ^ 280 ∧ (b * d * f).natAbs < 2 ^ 280 ∧ (e * b * d * (b * d * f)).natAbs < 2 ^ 570) ∧
    (ThC z → (u.natAbs < 2 ^ 5 ∧ v.natAbs < 2 ^ 5 ∧ L.natAbs < 2 ^ 5 ∧ e.natAbs < 2 ^ 142 ∧ f.natAbs < 2 ^ 129) ∨ (u.natAbs < 2 ^ 20 ∧ v.natAbs < 2 ^ 20 ∧ L.natAbs < 2 ^ 14 ∧ e.natAbs < 2 ^ 108 ∧ f.natAbs < 2 ^ 99) ∨ (e.natAbs < 2 ^ 4 ∧ f.natAbs < 2 ^ 3)))
theorem Fo.cur {z w : PyData} (h : Fo z w) : CurW w := by
  rcases h with ⟨a, b, c, d, e, f, rfl, f1, f2, f3, z1, z2, z3, z4, z5, z6, ne⟩ | ⟨a, b, c, d, e, f, u, v, L, rfl, r, _⟩
  · exact ⟨a, b, c, d, e, f, .inl ⟨rfl, f1, f2, f3, two_le z1 (by decide), two_le z2 (by decide), two_le z3 (by decide), two_le z4 (by decide), two_le z5 (by decide), two_le z6 (by decide), ne⟩⟩
  · exact ⟨a, b, c, d, e, f, .inr ⟨u, v, L, rfl, r⟩⟩
theorem axis_ne {L L' f f' u u' U E M K : Int} (hL : 0 < L) (hL' : 0 < L') (hf : 0 < f) (hf' : 0 < f') (s1 : L * U = u * M) (s4 : L' * E = u' * K) (ne : 2 * (E * M - U * K) * M * K ≠ 0) : 2 * (L * L') * (f * f') * (L * u' - L' * u) ≠ 0 := by
  intro z
  have LL := Int.mul_pos hL hL'
  have FF := Int.mul_pos hf hf'
  have p : 2 * (L * L') * (f * f') ≠ 0 := by
    have := Int.mul_pos (show 0 < 2 * (L * L') by omega) FF
    omega
  have q : L * u' - L' * u = 0 := by
    rcases Int.mul_eq_zero.mp z with h | h
    · exact absurd h p
    · exact h
  have r : L * L' * (E * M - U * K) = 0 := by
    have : L * L' * (E * M - U * K) = L * (L' * E) * M - L' * (L * U) * K := by grind
    rw [this, s4, s1]
    have : L * (u' * K) * M - L' * (u * M) * K = (L * u' - L' * u) * (K * M) := by grind
    rw [this, q, Int.zero_mul]
  rcases Int.mul_eq_zero.mp r with h | h
  · omega
  · apply ne
    rw [h]
    grind
theorem axis_small {u v L e f u' v' L' e' f' : Int} {i j k n m l α β : Nat} (zu : u.natAbs < 2 ^ 19) (zv : v.natAbs < 2 ^ 19) (zL : L.natAbs < 2 ^ 14) (ze : e.natAbs < 2 ^ 104) (zf : f.natAbs < 2 ^ 97)
    (yu : u'.natAbs < 2 ^ i) (yv : v'.natAbs < 2 ^ i) (yL : L'.natAbs < 2 ^ j) (ye : e'.natAbs < 2 ^ n) (yf : f'.natAbs < 2 ^ m)
    (k1 : 14 + i ≤ l) (k2 : j + 19 ≤ l) (k3 : 2 + (14 + j) + (97 + m) + (l + 1) ≤ α) (k4 : m + (i + i + 1) ≤ k) (k5 : j + j + n ≤ k) (k6 : 14 + 14 + 97 + (k + 1) ≤ β) (k7 : j + j + m + 138 ≤ β) :
    (2 * (L * L') * (f * f') * (L * u' - L' * u)).natAbs < 2 ^ α ∧ (2 * (L * L') * (f * f') * (L * v' - L' * v)).natAbs < 2 ^ α ∧ (L * L * f * (f' * (u' * u' + v' * v') - L' * L' * e') - L' * L' * f' * (f * (u * u + v * v) - L * L * e)).natAbs < 2 ^ (β + 1) := by
  have two : (2 : Int).natAbs < 2 ^ 2 := by decide
  have h1 := mul_lt (mul_lt two (mul_lt zL yL)) (mul_lt zf yf)
  have h2 := sub_lt (two_le (mul_lt zL yu) k1) (two_le (mul_lt yL zu) k2)
  have h3 := sub_lt (two_le (mul_lt zL yv) k1) (two_le (mul_lt yL zv) k2)
  have h4 := sub_lt (two_le (mul_lt yf (add_lt (mul_lt yu yu) (mul_lt yv yv))) k4) (two_le (mul_lt (mul_lt yL yL) ye) k5)
  have h5 := sub_lt (mul_lt zf (add_lt (mul_lt zu zu) (mul_lt zv zv))) (two_le (mul_lt (mul_lt zL zL) ze) (show 14 + 14 + 104 ≤ 97 + (19 + 19 + 1) by decide))
  have h6 := mul_lt (mul_lt (mul_lt zL zL) zf) h4
  have h7 := mul_lt (mul_lt (mul_lt yL yL) yf) h5
  exact ⟨two_le (mul_lt h1 h2) k3, two_le (mul_lt h1 h3) k3, sub_lt (two_le h6 k6) (two_le h7 (by omega))⟩
end

end My

set_option maxHeartbeats 4000000
namespace My
open PySem L2 Ld
open Lw hiding Dv DvAll FreshB tData tDatas pd_int pd_bl pd_non pd_str pd_neg pd_pow pda_nil pda_cons pd_tup pd_lst pd_dct dv_cut dv_cat tup_at rRepr call_repr rIsD call_isD
local macro_rules | `(tactic| walk_at "d") => `(tactic| try dsimp only [tfOf, startD, slotD, putD, wipeD, dV, dC, dOp, dUn, dNil, dCons, dConsW, dConsF, dCallV, dCall, datsOf, dCB, dTup, dLst, dIf, dTst, dCmp, dCmpV, dChain, dNot, dAnd, dOr, dAndV, dOrV, dNotV, dTb, sSeq, sNx, sSet, sRet, sRetN, sIf, sExpr, sBrk, sCont, sPar, sPar3, lenK, gdN, gdNil, gdCons, sAsg, sFor, iLst, iTpl, iRg1, iRg2, iZp, dYes, dLc, dLc2, dNoP, dPart, dSl, dSlS, sOwn, ownK, sApp, sAppL, sSetL, sIfL, sInsL, sTry1, dOwnLst, fLstL, sExt, sIns, sPut, sFrz, dOwnLen, dOwnIx, sRaise, sAug, t_draw, nthL, e_int, e_int0, e_add, e_addT, e_addL, e_addSI, e_addST, e_shl, e_ci, e_eqI, e_eqS, e_eqB, e_neI, e_neS, e_neB, e_isN, e_notN, e_nthT, e_nthL, e_lenT, e_lenL, e_i1, e_i2, e_lcm, e_intO, e_intB, e_isqrt, e_divmod, e_repr, e_reprS, e_tupL, e_tupT, e_lst, e_truB, e_truI, e_truN, e_truL, e_truT, e_neg, e_bits, e_back, e_backL, e_slT, e_slL, e_slST, e_gdT, e_gdL, Ld.isNon])
local macro_rules | `(tactic| walk_at "u") => `(tactic| (dsimp only; walk_at "d"))

section
variable {R : RD} {Ex : XD}
theorem meet_last {z w : PyData} (hz : Th z) (hw : Fo z w) (R : RD) (Ex : XD) (h : ∀ ss : List (S4 × S4), (∀ s ∈ ss, SeatK s) → ss.length ≤ 2 → R (seatsD ss)) : t_l_meet [.dat z, .dat w] R Ex := by
  rcases hz.two with hL | hC
  · obtain ⟨a, b, c, d, e, f, rfl, f1, f2, f3, z1, z2, z3, z4, z5, z6, ne, p1, p2, p3⟩ := id hL
    have lz : LineW a b c d e f := ⟨f1, f2, f3, two_le z1 (by decide), two_le z2 (by decide), two_le z3 (by decide), two_le z4 (by decide), two_le z5 (by decide), two_le z6 (by decide), ne⟩
    rcases hw with ⟨a', b', c', d', e', f', rfl, g1, g2, g3, y1, y2, y3, y4, y5, y6, ne2⟩ | ⟨a', b', c', d', e', f', u, v, L, rfl, r, k, _⟩
    · have ly : LineW a' b' c' d' e' f' := ⟨g1, g2, g3, two_le y1 (by decide), two_le y2 (by decide), two_le y3 (by decide), two_le y4 (by decide), two_le y5 (by decide), two_le y6 (by decide), ne2⟩
      have q1 := mul_lt (mul_lt y1 y4) y6
      have q2 := mul_lt (mul_lt y3 y2) y6
      have q3 := mul_lt (mul_lt y5 y2) y4
      refine w_l_meetLL lz.wd ly.wd _ _ _ _ _ _ _ rfl rfl rfl rfl rfl rfl rfl (fun _ => h [] (fun s hs => by cases hs) (by show 0 ≤ 2; decide)) fun w0 => h _ (fun s hs => ?_) (by show 1 ≤ 2; decide)
      rw [List.mem_singleton] at hs
      rw [hs]
      clear hs
      generalize a * d * f = A at *
      generalize c * b * f = B at *
      generalize e * b * d = C at *
      generalize a' * d' * f' = E at *
      generalize c' * b' * f' = F at *
      generalize e' * b' * d' = G at *
      have o1 := sub_lt (two_le (mul_lt p1 q2) (show 53 + (10 + 4 + 132) ≤ 250 by decide)) (two_le (mul_lt q1 p2) (show 10 + 4 + 132 + 53 ≤ 250 by decide))
      have o2 := sub_lt (two_le (mul_lt p3 q2) (show 56 + (10 + 4 + 132) ≤ 250 by decide)) (two_le (mul_lt q3 p2) (show 138 + 4 + 4 + 53 ≤ 250 by decide))
      have o3 := sub_lt (two_le (mul_lt p1 q3) (show 53 + (138 + 4 + 4) ≤ 250 by decide)) (two_le (mul_lt q1 p3) (show 10 + 4 + 132 + 56 ≤ 250 by decide))
      have so : ∀ w : Int, (sg w).natAbs < 2 ^ 1 := fun w => le_lt (sg_one w) (by decide)
      generalize A * F - E * B = w at *
      have pos : 0 < sg w * w := by
        rw [sg_self]
        exact ab_pos w0
      exact ⟨_, _, _, _, _, _, rfl, two_le (mul_lt (so w) o2) (by decide), by decide, two_le (mul_lt (so w) o3) (by decide), by decide, by decide, two_le (mul_lt (so w) o1) (by decide), pos, by decide⟩
    · obtain ⟨k1, k2, k3, k4⟩ := k hL
      have mp : 0 < b' * d' * f' := Int.mul_pos (Int.mul_pos r.f1.1 r.f2.1) r.f3.1
      have st := chordF_seats (α := 53) (β := 56) (μ := 280) (τ := 570) lz.nz mp p1 p2 p3 k1 k2 k3 k4 (by decide) (by decide) (by decide) (by decide) (by decide) (by decide)
      exact w_l_meetLC lz.wd r.wd lz.nz (h _ st.2 st.1)
  · obtain ⟨a, b, c, d, e, f, rfl, f1, f2, f3, z1, z2, z3, z4, z5, z6, e0, _⟩ := id hC
    have wz := wd_th z1 z2 z3 z4 z5 z6
    have mp : 0 < b * d * f := Int.mul_pos (Int.mul_pos f1.1 f2.1) f3.1
    have U1 := two_le (mul_lt (mul_lt z1 z4) z6) (show 12 + 7 + 97 ≤ 116 by decide)
    have V1 := two_le (mul_lt (mul_lt z3 z2) z6) (show 12 + 7 + 97 ≤ 116 by decide)
    have M1 := two_le (mul_lt (mul_lt z2 z4) z6) (show 7 + 7 + 97 ≤ 116 by decide)
    have T1 := two_le (mul_lt (mul_lt (mul_lt z5 z2) z4) (mul_lt (mul_lt z2 z4) z6)) (show 104 + 7 + 7 + (7 + 7 + 97) ≤ 229 by decide)
    rcases hw with ⟨a', b', c', d', e', f', rfl, g1, g2, g3, y1, y2, y3, y4, y5, y6, ne2⟩ | ⟨a', b', c', d', e', f', u, v, L, rfl, r, _, k⟩
    · have ly : LineW a' b' c' d' e' f' := ⟨g1, g2, g3, two_le y1 (by decide), two_le y2 (by decide), two_le y3 (by decide), two_le y4 (by decide), two_le y5 (by decide), two_le y6 (by decide), ne2⟩
      have q1 := mul_lt (mul_lt y1 y4) y6
      have q2 := mul_lt (mul_lt y3 y2) y6
      have q3 := mul_lt (mul_lt y5 y2) y4
      have st := chordF_seats (α := 146) (β := 147) (μ := 116) (τ := 229) ly.nz mp q1 q2 (two_le q3 (by decide)) U1 V1 M1 T1 (by decide) (by decide) (by decide) (by decide) (by decide) (by decide)
      exact w_l_meetCL wz ly.wd ly.nz (h _ st.2 st.1)
    · have rz : RingW a b c d e f (a * d) (c * b) (b * d) := ⟨f1, f2, f3, by grind, by grind, Int.mul_pos f1.1 f2.1, e0, two_le (mul_lt z1 z4) (by decide), two_le (mul_lt z3 z2) (by decide), two_le (mul_lt z2 z4) (by decide), two_le z5 (by decide), two_le z6 (by decide)⟩
      refine w_l_meetCC wz r.wd _ _ _ _ _ _ _ _ rfl rfl rfl rfl rfl rfl rfl rfl (h [] (fun s hs => by cases hs) (by show 0 ≤ 2; decide)) fun ne => ?_
      have zu := mul_lt z1 z4
      have zv := mul_lt z3 z2
      have zL := mul_lt z2 z4
      have s1 : b * d * (a * d * f) = a * d * (b * d * f) := by grind
      have s2 : b * d * (c * b * f) = c * b * (b * d * f) := by grind
      have s4 : L * (a' * d' * f') = u * (b' * d' * f') := by
        have : L * (a' * d' * f') = (a' * L) * d' * f' := by grind
        rw [this, r.e1]
        grind
      have s5 : L * (c' * b' * f') = v * (b' * d' * f') := by
        have : L * (c' * b' * f') = (c' * L) * b' * f' := by grind
        rw [this, r.e2]
        grind
      have ne' : 2 * (b * d * L) * (f * f') * (b * d * u - L * (a * d)) ≠ 0 ∨ 2 * (b * d * L) * (f * f') * (b * d * v - L * (c * b)) ≠ 0 := by
        rcases ne with n | n
        · exact .inl (axis_ne rz.hL r.hL f3.1 r.f3.1 s1 s4 n)
        · exact .inr (axis_ne rz.hL r.hL f3.1 r.f3.1 s2 s5 n)
      have sz : (2 * (b * d * L) * (f * f') * (b * d * u - L * (a * d))).natAbs < 2 ^ 272 ∧ (2 * (b * d * L) * (f * f') * (b * d * v - L * (c * b))).natAbs < 2 ^ 272 ∧ (b * d * (b * d) * f * (f' * (u * u + v * v) - L * L * e') - L * L * f' * (f * (a * d * (a * d) + c * b * (c * b)) - b * d * (b * d) * e)).natAbs < 2 ^ 279 := by
        rcases k hC with ⟨x1, x2, x3, x4, x5⟩ | ⟨x1, x2, x3, x4, x5⟩ | ⟨x4, x5⟩
        · exact axis_small (l := 24) (k := 152) (α := 272) (β := 278) zu zv zL z5 z6 x1 x2 x3 x4 x5 (by decide) (by decide) (by decide) (by decide) (by decide) (by decide) (by decide)
        · exact axis_small (l := 34) (k := 140) (α := 272) (β := 278) zu zv zL z5 z6 x1 x2 x3 x4 x5 (by decide) (by decide) (by decide) (by decide) (by decide) (by decide) (by decide)
        · exact axis_small (l := 86) (k := 138) (α := 272) (β := 278) zu zv zL z5 z6 r.zu r.zv r.zL x4 x5 (by decide) (by decide) (by decide) (by decide) (by decide) (by decide) (by decide)
      rw [axis_like rz r rfl rfl rfl rfl rfl rfl rfl rfl]
      have st := chordF_seats (α := 272) (β := 279) (μ := 116) (τ := 229) ne' mp sz.1 sz.2.1 sz.2.2 U1 V1 M1 T1 (by decide) (by decide) (by decide) (by decide) (by decide) (by decide)
      exact h _ st.2 st.1
end

end My

set_option maxHeartbeats 4000000
namespace My
open PySem L2 Ld
open Lw hiding Dv DvAll FreshB tData tDatas pd_int pd_bl pd_non pd_str pd_neg pd_pow pda_nil pda_cons pd_tup pd_lst pd_dct dv_cut dv_cat tup_at rRepr call_repr rIsD call_isD
local macro_rules | `(tactic| walk_at "d") => `(tactic| try dsimp only [tfOf, startD, slotD, putD, wipeD, dV, dC, dOp, dUn, dNil, dCons, dConsW, dConsF, dCallV, dCall, datsOf, dCB, dTup, dLst, dIf, dTst, dCmp, dCmpV, dChain, dNot, dAnd, dOr, dAndV, dOrV, dNotV, dTb, sSeq, sNx, sSet, sRet, sRetN, sIf, sExpr, sBrk, sCont, sPar, sPar3, lenK, gdN, gdNil, gdCons, sAsg, sFor, iLst, iTpl, iRg1, iRg2, iZp, dYes, dLc, dLc2, dNoP, dPart, dSl, dSlS, sOwn, ownK, sApp, sAppL, sSetL, sIfL, sInsL, sTry1, dOwnLst, fLstL, sExt, sIns, sPut, sFrz, dOwnLen, dOwnIx, sRaise, sAug, t_draw, nthL, e_int, e_int0, e_add, e_addT, e_addL, e_addSI, e_addST, e_shl, e_ci, e_eqI, e_eqS, e_eqB, e_neI, e_neS, e_neB, e_isN, e_notN, e_nthT, e_nthL, e_lenT, e_lenL, e_i1, e_i2, e_lcm, e_intO, e_intB, e_isqrt, e_divmod, e_repr, e_reprS, e_tupL, e_tupT, e_lst, e_truB, e_truI, e_truN, e_truL, e_truT, e_neg, e_bits, e_back, e_backL, e_slT, e_slL, e_slST, e_gdT, e_gdL, Ld.isNon])
local macro_rules | `(tactic| walk_at "u") => `(tactic| (dsimp only; walk_at "d"))

section
variable {R : RD} {Ex : XD}
/-! ### the fourth curve -/
theorem ThL.not {z : PyData} (h : ThL z) : ¬ ThC z := by
  obtain ⟨a, b, c, d, e, f, rfl, _⟩ := h
  rintro ⟨a', b', c', d', e', f', q, _⟩
  unfold cvD at q
  injection q with q
  injection q with q1 q
  injection q1 with q1
  exact absurd q1 (by decide)
theorem Cur0.fo {z w : PyData} (h : Cur0 w) : Fo z w := by
  obtain ⟨k, a, b, c, d, e, f, rfl, ⟨rfl, f1, f2, f3, z1, z2, z3, z4, z5, z6, r⟩ | ⟨rfl, y, e0⟩⟩ := h
  · exact .inl ⟨a, b, c, d, e, f, rfl, f1, f2, f3, le_lt z1 (by decide), le_lt z2 (by decide), le_lt z3 (by decide), le_lt z4 (by decide), le_lt z5 (by decide), le_lt z6 (by decide), r⟩
  · have w1 := y.wu
    have w2 := y.wv
    have w3 := y.wm
    have w4 := y.wt
    obtain ⟨f1, f2, f3, z1, z2, z3, z4, z5, z6⟩ := y
    have u1 := mul_lt z1 z4
    have v1 := mul_lt z3 z2
    have l1 := mul_lt z2 z4
    exact .inr ⟨a, b, c, d, e, f, a * d, c * b, b * d, rfl, ⟨f1, f2, f3, by grind, by grind, Int.mul_pos f1.1 f2.1, e0, two_le u1 (by decide), two_le v1 (by decide), two_le l1 (by decide), two_le z5 (by decide), two_le z6 (by decide)⟩,
      fun _ => ⟨two_le w1 (by decide), two_le w2 (by decide), two_le w3 (by decide), two_le w4 (by decide)⟩, fun _ => .inr (.inl ⟨two_le u1 (by decide), two_le v1 (by decide), l1, two_le z5 (by decide), two_le z6 (by decide)⟩)⟩
theorem DiscS.cur0 {z : PyData} (h : DiscS z) : Cur0 z := by
  obtain ⟨a, b, c, d, e, f, rfl, y⟩ := h
  exact ⟨_, _, _, _, _, _, _, rfl, .inr ⟨rfl, y.cv, y.e0⟩⟩
theorem LineS.cur0 {z : PyData} (h : LineS z) : Cur0 z := by
  obtain ⟨a, b, c, d, e, f, rfl, f1, f2, f3, z1, z2, z3, z4, z5, z6, ne⟩ := h
  exact ⟨_, _, _, _, _, _, _, rfl, .inl ⟨rfl, f1, f2, f3, by omega, by omega, by omega, by omega, by omega, by omega, ne⟩⟩
theorem ThruR.foL {z w : PyData} (hz : ThL z) (h : ThruR (2 ^ 64) (2 ^ 62) w) : Fo z w := by
  obtain ⟨a, b, c, d, e, f, f1, f2, f3, ⟨rfl, z1, z2, z3, z4, z5, z6, ne⟩ | ⟨rfl, z1, z2, z3, z4, z5, z6, e0⟩⟩ := h
  · exact .inl ⟨a, b, c, d, e, f, rfl, f1, f2, f3, le_lt z1 (by decide), le_lt z2 (by decide), le_lt z3 (by decide), le_lt z4 (by decide), le_lt z5 (by decide), le_lt z6 (by decide), ne⟩
  · have u1 := mul_le z1 z4
    have v1 := mul_le z3 z2
    have l1 := mul_le z2 z4
    exact .inr ⟨a, b, c, d, e, f, a * d, c * b, b * d, rfl, ⟨f1, f2, f3, by grind, by grind, Int.mul_pos f1.1 f2.1, e0, le_lt u1 (by decide), le_lt v1 (by decide), le_lt l1 (by decide), le_lt z5 (by decide), le_lt z6 (by decide)⟩,
      fun _ => ⟨le_lt (mul_le u1 z6) (by decide), le_lt (mul_le v1 z6) (by decide), le_lt (mul_le l1 z6) (by decide), le_lt (mul_le (mul_le (mul_le z5 z2) z4) (mul_le l1 z6)) (by decide)⟩, fun q => absurd q hz.not⟩
theorem ThruR.foC {z w : PyData} (hz : ThC z) (h : ThruR (2 ^ 36) (2 ^ 30) w) : Fo z w := by
  obtain ⟨a, b, c, d, e, f, f1, f2, f3, ⟨rfl, z1, z2, z3, z4, z5, z6, ne⟩ | ⟨rfl, z1, z2, z3, z4, z5, z6, e0⟩⟩ := h
  · exact .inl ⟨a, b, c, d, e, f, rfl, f1, f2, f3, le_lt z1 (by decide), le_lt z2 (by decide), le_lt z3 (by decide), le_lt z4 (by decide), le_lt z5 (by decide), le_lt z6 (by decide), ne⟩
  · have u1 := mul_le z1 z4
    have v1 := mul_le z3 z2
    have l1 := mul_le z2 z4
    exact .inr ⟨a, b, c, d, e, f, a * d, c * b, b * d, rfl, ⟨f1, f2, f3, by grind, by grind, Int.mul_pos f1.1 f2.1, e0, le_lt u1 (by decide), le_lt v1 (by decide), le_lt l1 (by decide), le_lt z5 (by decide), le_lt z6 (by decide)⟩,
      fun q => absurd hz q.not, fun _ => .inl ⟨le_lt u1 (by decide), le_lt v1 (by decide), le_lt l1 (by decide), le_lt z5 (by decide), le_lt z6 (by decide)⟩⟩
theorem w_l_through4 {x y z : PyData} (hy : LineS y) (hz : Th z) (R : RD) (Ex : XD) (h : ∀ w, Fo z w → R w) : t_l_through [.well, .dat (.list [x, y, z])] R Ex := by
  rcases hz.two with k | k
  · exact w_l_throughG (N := 2 ^ 64) (D := 2 ^ 62) (by decide) (by decide) (by decide) (by decide) (x1 := y) (x2 := z) rfl rfl (by show 1 < 3; decide) (by show 3 < 1000; decide) (fun R Ex q => meet_secondL hy k R Ex q) fun w hw => h w (hw.foL k)
  · exact w_l_throughG (N := 2 ^ 36) (D := 2 ^ 30) (by decide) (by decide) (by decide) (by decide) (x1 := y) (x2 := z) rfl rfl (by show 1 < 3; decide) (by show 3 < 1000; decide) (fun R Ex q => meet_secondC hy k R Ex q) fun w hw => h w (hw.foC k)
theorem shaped_two {a b c d e f a' b' c' d' e' f' : Int} : SeqAt.shaped (.list [cvD "circle" a b c d e f, cvD "circle" a' b' c' d' e' f']) = true := by
  show (((PyData.strOk "circle" && true) && ((PyData.strOk "circle" && true) && true)) && decide _) = true
  rw [ok_circle] <;> rfl
theorem w_l_curve4 {x y z : PyData} (hx : DiscS x) (hy : LineS y) (hz : Th z) (hb : ThC z → ∀ (R : RD) (Ex : XD), (∀ w, Fo z w → R w) → t_l_beside [.well, .dat z] R Ex) (R : RD) (Ex : XD) (h : ∀ w, Fo z w → R w) : t_l_curve [.well, .dat (.list [x, y, z])] R Ex := by
  have rest : ∀ (b : Int), (if decide (b < 5) = true then t_l_through [.well, .dat (.list [x, y, z])] R Ex else if decide (b < 7) = true then t_l_disc [.well] R Ex else t_l_line [.well] R Ex) := fun b =>
    difP (fun _ => w_l_through4 hy hz R Ex h) fun _ => difP (fun _ => w_l_disc fun a b c d e f q => h _ (DiscS.cur0 ⟨_, _, _, _, _, _, rfl, q⟩).fo) fun _ => w_l_line fun a b c d e f y1 y2 y3 y4 y5 y6 y7 y8 y9 y0 => h _ (LineS.cur0 ⟨_, _, _, _, _, _, rfl, y1, y2, y3, y4, y5, y6, y7, y8, y9, y0⟩).fo
  obtain ⟨a, b, c, d, e, f, rfl, zx⟩ := id hx
  obtain ⟨a', b', c', d', e', f', rfl, _⟩ := id hy
  have bs : ∀ {R : RD} {Ex : XD}, (∀ y, Cur0 y → R y) → t_l_beside [.well, .dat (cvD "circle" a b c d e f)] R Ex := fun h => w_l_beside zx h
  rcases hz.two with k | k
  · obtain ⟨i, j, l, m, n, o, rfl, _⟩ := id k
    unfold cvD at rest bs ⊢
    unfold t_l_curve b_l_curve
    obtain ⟨k_l_draw, e_l_draw⟩ : ∃ k, t_l_draw = k := ⟨_, rfl⟩
    rw [e_l_draw]
    obtain ⟨k_l_beside, e_l_beside⟩ : ∃ k, t_l_beside = k := ⟨_, rfl⟩
    rw [e_l_beside]
    obtain ⟨k_l_pick, e_l_pick⟩ : ∃ k, t_l_pick = k := ⟨_, rfl⟩
    rw [e_l_pick]
    obtain ⟨k_l_through, e_l_through⟩ : ∃ k, t_l_through = k := ⟨_, rfl⟩
    rw [e_l_through]
    obtain ⟨k_l_disc, e_l_disc⟩ : ∃ k, t_l_disc = k := ⟨_, rfl⟩
    rw [e_l_disc]
    obtain ⟨k_l_line, e_l_line⟩ : ∃ k, t_l_line = k := ⟨_, rfl⟩
    rw [e_l_line]
    walk_at "d"
    refine st e_l_draw <| w_l_draw (by decide) (by decide) fun k k0 k1 => ?_
    walk_at "d"
    refine ⟨by show 3 ≤ 1000; decide, ?_⟩
    try dsimp only [lcD]
    walk_at "d"
    refine difT ?_
    try dsimp only [lcD]
    walk_at "d"
    refine difF ?_
    try dsimp only [lcD]
    walk_at "d"
    refine difF ?_
    try dsimp only [lcD]
    walk_at "d"
    rw [← e_l_through, ← e_l_disc, ← e_l_line]
    refine difP (fun _ => ?_) (fun _ => difF (rest k))
    refine ⟨shaped_one ok_circle, rfl, ?_⟩
    refine difT ?_
    refine st e_l_pick <| w_l_pickL (by show 0 < 1; decide) (by show 1 < 1000; decide) fun dd hd => ?_
    rw [List.mem_singleton] at hd
    rw [hd]
    exact st e_l_beside <| bs fun y hy => h y hy.fo
  · have hb' := hb k
    obtain ⟨i, j, l, m, n, o, rfl, _⟩ := id k
    unfold cvD at rest bs hb' ⊢
    unfold t_l_curve b_l_curve
    obtain ⟨k_l_draw, e_l_draw⟩ : ∃ k, t_l_draw = k := ⟨_, rfl⟩
    rw [e_l_draw]
    obtain ⟨k_l_beside, e_l_beside⟩ : ∃ k, t_l_beside = k := ⟨_, rfl⟩
    rw [e_l_beside]
    obtain ⟨k_l_pick, e_l_pick⟩ : ∃ k, t_l_pick = k := ⟨_, rfl⟩
    rw [e_l_pick]
    obtain ⟨k_l_through, e_l_through⟩ : ∃ k, t_l_through = k := ⟨_, rfl⟩
    rw [e_l_through]
    obtain ⟨k_l_disc, e_l_disc⟩ : ∃ k, t_l_disc = k := ⟨_, rfl⟩
    rw [e_l_disc]
    obtain ⟨k_l_line, e_l_line⟩ : ∃ k, t_l_line = k := ⟨_, rfl⟩
    rw [e_l_line]
    walk_at "d"
    refine st e_l_draw <| w_l_draw (by decide) (by decide) fun k k0 k1 => ?_
    walk_at "d"
    refine ⟨by show 3 ≤ 1000; decide, ?_⟩
    try dsimp only [lcD]
    walk_at "d"
    refine difT ?_
    try dsimp only [lcD]
    walk_at "d"
    refine difF ?_
    try dsimp only [lcD]
    walk_at "d"
    refine difT ?_
    try dsimp only [lcD]
    walk_at "d"
    rw [← e_l_through, ← e_l_disc, ← e_l_line]
    refine difP (fun _ => ?_) (fun _ => difF (rest k))
    refine ⟨shaped_two, rfl, ?_⟩
    refine difT ?_
    refine st e_l_pick <| w_l_pickL (by show 0 < 2; decide) (by show 2 < 1000; decide) fun dd hd => ?_
    simp only [List.mem_cons, List.not_mem_nil, or_false] at hd
    rcases hd with rfl | rfl
    · exact st e_l_beside <| bs fun y hy => h y hy.fo
    · exact st e_l_beside <| hb' _ _ fun w hw => h w hw
end

end My

set_option maxHeartbeats 4000000
namespace My
open PySem L2 Ld
open Lw hiding Dv DvAll FreshB tData tDatas pd_int pd_bl pd_non pd_str pd_neg pd_pow pda_nil pda_cons pd_tup pd_lst pd_dct dv_cut dv_cat tup_at rRepr call_repr rIsD call_isD
local macro_rules | `(tactic| walk_at "d") => `(tactic| try dsimp only [tfOf, startD, slotD, putD, wipeD, dV, dC, dOp, dUn, dNil, dCons, dConsW, dConsF, dCallV, dCall, datsOf, dCB, dTup, dLst, dIf, dTst, dCmp, dCmpV, dChain, dNot, dAnd, dOr, dAndV, dOrV, dNotV, dTb, sSeq, sNx, sSet, sRet, sRetN, sIf, sExpr, sBrk, sCont, sPar, sPar3, lenK, gdN, gdNil, gdCons, sAsg, sFor, iLst, iTpl, iRg1, iRg2, iZp, dYes, dLc, dLc2, dNoP, dPart, dSl, dSlS, sOwn, ownK, sApp, sAppL, sSetL, sIfL, sInsL, sTry1, dOwnLst, fLstL, sExt, sIns, sPut, sFrz, dOwnLen, dOwnIx, sRaise, sAug, t_draw, nthL, e_int, e_int0, e_add, e_addT, e_addL, e_addSI, e_addST, e_shl, e_ci, e_eqI, e_eqS, e_eqB, e_neI, e_neS, e_neB, e_isN, e_notN, e_nthT, e_nthL, e_lenT, e_lenL, e_i1, e_i2, e_lcm, e_intO, e_intB, e_isqrt, e_divmod, e_repr, e_reprS, e_tupL, e_tupT, e_lst, e_truB, e_truI, e_truN, e_truL, e_truT, e_neg, e_bits, e_back, e_backL, e_slT, e_slL, e_slST, e_gdT, e_gdL, Ld.isNon])
local macro_rules | `(tactic| walk_at "u") => `(tactic| (dsimp only; walk_at "d"))

section
variable {R : RD} {Ex : XD}
/-! ### a curve beside a circle, with bounds -/
theorem w_l_mulX {a b c d : Int} {i j k l : Nat} (hi : i < 2 ^ 1000) (hj : j < 2 ^ 1000) (hk : k < 2 ^ 1000) (hl : l < 2 ^ 1000) (hb : 0 < b) (hd : 0 < d) (z1 : a.natAbs ≤ i) (z2 : b.natAbs ≤ j) (z3 : c.natAbs ≤ k) (z4 : d.natAbs ≤ l)
    (h : ∀ p q : Int, IsFr p q → p.natAbs ≤ i * k → q.natAbs ≤ j * l → p * (b * d) = a * c * q → R (fd p q)) : t_l_mul [.dat (fd a b), .dat (fd c d)] R Ex := by
  have bd := Int.mul_pos hb hd
  have le := red_le (a := a * c) bd
  have up : ∀ {a : Int} {i : Nat}, a.natAbs ≤ i → i < 2 ^ 1000 → a.natAbs < 2 ^ 3000 := fun z hi => two_le (le_lt z hi) (by decide)
  exact w_l_mul (up z1 hi) (up z2 hj) (up z3 hk) (up z4 hl) (by omega) (by omega) (h _ _ (red_fr bd) (Nat.le_trans le.1 (mul_le z1 z3)) (Nat.le_trans le.2 (mul_le z2 z4)) (red_cross bd))
theorem w_l_addX {a b c d : Int} {i j k l : Nat} (hi : i < 2 ^ 1000) (hj : j < 2 ^ 1000) (hk : k < 2 ^ 1000) (hl : l < 2 ^ 1000) (hb : 0 < b) (hd : 0 < d) (z1 : a.natAbs ≤ i) (z2 : b.natAbs ≤ j) (z3 : c.natAbs ≤ k) (z4 : d.natAbs ≤ l)
    (h : ∀ p q : Int, IsFr p q → p.natAbs ≤ i * l + k * j → q.natAbs ≤ j * l → p * (b * d) = (a * d + c * b) * q → R (fd p q)) : t_l_add [.dat (fd a b), .dat (fd c d)] R Ex := by
  have bd := Int.mul_pos hb hd
  have le := red_le (a := a * d + c * b) bd
  have up : ∀ {a : Int} {i : Nat}, a.natAbs ≤ i → i < 2 ^ 1000 → a.natAbs < 2 ^ 3000 := fun z hi => two_le (le_lt z hi) (by decide)
  have m1 := mul_le z1 z4
  have m2 := mul_le z3 z2
  exact w_l_add (up z1 hi) (up z2 hj) (up z3 hk) (up z4 hl) (by omega) (by omega) (h _ _ (red_fr bd) (by omega) (Nat.le_trans le.2 (mul_le z2 z4)) (red_cross bd))
theorem far_like {a b d m n p q m1 n1 m2 n2 : Int} (h1 : 0 < n1) (e1 : m1 * (n * q) = m * p * n1) (e2 : m2 * (b * n1) = (a * n1 + m1 * b) * n2) : m2 * (b * d * n * q) = (a * n * q + m * p * b) * d * n2 := by
  have k : n1 * (m2 * (b * n * q)) = n1 * ((a * n * q + m * p * b) * n2) := by
    have x : n1 * (m2 * (b * n * q)) = m2 * (b * n1) * (n * q) := by grind
    have y : (a * n1 + m1 * b) * n2 * (n * q) = (a * n1 * (n * q) + m1 * (n * q) * b) * n2 := by grind
    rw [x, e2, y, e1]
    grind
  have k2 := Int.eq_of_mul_eq_mul_left (by omega) k
  have x : m2 * (b * d * n * q) = m2 * (b * n * q) * d := by grind
  rw [x, k2]
  grind
theorem w_l_besideG {a b c d e f : Int} (f1 : IsFr a b) (f2 : IsFr c d) (f3 : IsFr e f) (e0 : 0 < e) {A B E1 F1 P Q : Nat} (hA : A < 2 ^ 110) (hB : B < 2 ^ 110) (hE1 : E1 < 2 ^ 110) (hF1 : F1 < 2 ^ 110) (hP : P < 2 ^ 110) (hQ : Q < 2 ^ 110) (z1 : a.natAbs ≤ A) (z2 : b.natAbs ≤ B) (z3 : c.natAbs ≤ A) (z4 : d.natAbs ≤ B) (z5 : e.natAbs ≤ E1) (z6 : f.natAbs ≤ F1) (i5 : (isq e).natAbs ≤ P) (i2 : (isq f).natAbs ≤ Q)
    (hn1 : ∀ m n : Int, IsFr m n → m.natAbs ≤ E1 * 9 → n.natAbs ≤ F1 * 4 → 0 < m → R (cvD "circle" a b c d m n))
    (hn2 : ∀ m n u v : Int, IsFr m n → IsFr u v → m.natAbs ≤ A * 1 + 1 * B → n.natAbs ≤ B * 1 → u.natAbs ≤ A * 1 + 1 * B → v.natAbs ≤ B * 1 → R (cvD "circle" m n u v e f))
    (hfar : ∀ m n u v s t U V L : Int, IsFr m n → IsFr u v → IsFr s t → s.natAbs ≤ 3 * 3 → t.natAbs ≤ 2 * 2 → 0 < s → m * L = U * n → u * L = V * v → 0 < L → U.natAbs ≤ (A * (Q * 2) * 5 + (P * 2 + 3 * Q) * 4 * B) * B → V.natAbs ≤ (A * (Q * 2) * 5 + (P * 2 + 3 * Q) * 4 * B) * B → L.natAbs ≤ B * B * (Q * 2) * 5 → R (cvD "circle" m n u v s t))
    (hl : ∀ p q u v m n : Int, IsFr p q → IsFr u v → IsFr m n → p.natAbs ≤ 4 → q.natAbs ≤ 5 → u.natAbs ≤ 4 → v.natAbs ≤ 5 → (p ≠ 0 ∨ u ≠ 0) → m.natAbs ≤ (4 * A * (5 * B) + 4 * A * (5 * B)) * Q + P * (5 * B * (5 * B)) + (4 * A * (5 * B) + 4 * A * (5 * B)) → n.natAbs ≤ 5 * B * (5 * B) * Q + 5 * B * (5 * B) → R (cvD "line" p q u v m n)) :
    t_l_beside [.well, .dat (cvD "circle" a b c d e f)] R Ex := by
  have pw : ∀ {a b : Nat} {i j k : Nat}, a < 2 ^ i → b < 2 ^ j → i + j ≤ k → a * b < 2 ^ k := fun h1 h2 hk => Nat.lt_of_lt_of_le (by rw [Nat.pow_add]; exact Nat.mul_lt_mul'' h1 h2) (Nat.pow_le_pow_right (by decide) hk)
  have up : ∀ {a : Nat}, a < 2 ^ 110 → a < 2 ^ 1000 := fun h => Nat.lt_trans h (by decide)
  have b0 := f1.1
  have d0 := f2.1
  have g0 := f3.1
  unfold cvD
  unfold t_l_beside b_l_beside
  obtain ⟨k_l_draw, e_l_draw⟩ : ∃ k, t_l_draw = k := ⟨_, rfl⟩
  rw [e_l_draw]
  obtain ⟨k_l_is_square, e_l_is_square⟩ : ∃ k, t_l_is_square = k := ⟨_, rfl⟩
  rw [e_l_is_square]
  obtain ⟨k_l_mul, e_l_mul⟩ : ∃ k, t_l_mul = k := ⟨_, rfl⟩
  rw [e_l_mul]
  obtain ⟨k_l_pick, e_l_pick⟩ : ∃ k, t_l_pick = k := ⟨_, rfl⟩
  rw [e_l_pick]
  obtain ⟨k_l_add, e_l_add⟩ : ∃ k, t_l_add = k := ⟨_, rfl⟩
  rw [e_l_add]
  obtain ⟨k_l_root, e_l_root⟩ : ∃ k, t_l_root = k := ⟨_, rfl⟩
  rw [e_l_root]
  obtain ⟨k_l_neg, e_l_neg⟩ : ∃ k, t_l_neg = k := ⟨_, rfl⟩
  rw [e_l_neg]
  walk_at "d"
  refine st e_l_draw <| w_l_draw (by decide) (by decide) fun k k0 k1 => ?_
  have fe : fd e f = .tuple [.int e, .int f] := rfl
  rw [fe]
  walk_at "d"
  rw [← fe]
  refine ⟨mulx_ok (le_lt z5 hE1) (le_lt z6 hF1) (by decide), ?_⟩
  refine st e_l_is_square <| w_l_is_square (two_le (mul_lt (le_lt z5 hE1) (le_lt z6 hF1)) (by decide)) ?_
  walk_at "d"
  have one : ∀ {i : Int}, i = 1 → i.natAbs ≤ 1 := fun h => by omega
  have near : k_l_draw [.well, .dat (.int 2)] (fun x => fEq x (.int 0) fun b_1 => if b_1 = true then k_l_pick [.well, .dat (.tuple [.tuple [.int 4, .int 1], .tuple [.int 1, .int 4], .tuple [.int 9, .int 4], .tuple [.int 2, .int 1]])] (fun d_1 => k_l_mul [.dat (fd e f), .dat d_1] (fun d_1 => R (.tuple [.str "circle", fd a b, fd c d, d_1])) Ex) Ex
      else k_l_pick [.well, .dat (.tuple [.tuple [.int 1, .int 1], .tuple [.int (-1), .int 1], .tuple [.int 0, .int 1]])] (fun d_1 => k_l_add [.dat (fd a b), .dat d_1] (fun d_1 => k_l_add [.dat (fd c d), .dat (.tuple [.int 1, .int 1])] (fun d_2 => R (.tuple [.str "circle", d_1, d_2, fd e f])) Ex) Ex) Ex) Ex := by
    refine st e_l_draw <| w_l_draw (by decide) (by decide) fun k k0 k1 => ?_
    walk_at "d"
    refine difP (fun _ => ?_) (fun _ => ?_)
    · refine st e_l_pick <| w_l_pick (by decide) (by decide) fun dd hd => ?_
      obtain ⟨p, q, rfl, q0, y1, y2, p0⟩ : ∃ p q : Int, dd = fd p q ∧ 0 < q ∧ p.natAbs ≤ 9 ∧ q.natAbs ≤ 4 ∧ 0 < p := by
        simp only [List.mem_cons, List.not_mem_nil, or_false] at hd
        rcases hd with h | h | h | h <;> exact ⟨_, _, h, by decide, by decide, by decide, by decide⟩
      refine st e_l_mul <| w_l_mulQ (up hE1) (up hF1) (by decide) (by decide) g0 q0 z5 z6 y1 y2 fun m n fm zm zn sm => ?_
      refine hn1 _ _ fm zm zn ?_
      rw [sg_pos e0, sg_pos p0] at sm
      exact sg_val.2.1 sm
    · refine st e_l_pick <| w_l_pick (by decide) (by decide) fun dd hd => ?_
      obtain ⟨p, rfl, y1⟩ : ∃ p : Int, dd = fd p 1 ∧ p.natAbs ≤ 1 := by
        simp only [List.mem_cons, List.not_mem_nil, or_false] at hd
        rcases hd with h | h | h <;> exact ⟨_, h, by decide⟩
      refine st e_l_add <| w_l_addQ (up hA) (up hB) (by decide) (by decide) b0 (by decide) z1 z2 y1 (one rfl) fun m n fm zm zn => ?_
      refine st e_l_add <| w_l_addQ (c := 1) (d := 1) (up hA) (up hB) (by decide) (by decide) d0 (by decide) z3 z4 (one rfl) (one rfl) fun u v fu zu zv => ?_
      exact hn2 _ _ _ _ fm fu zm zn zu zv
  refine dif (fun cs => near) (fun cs => ?_)
  refine difP (fun _ => near) (fun ck => ?_)
  clear near
  have ip := isq_up g0
  refine st e_l_root <| w_l_root (two_le (le_lt z5 hE1) (by decide)) ?_
  walk_at "d"
  refine st e_l_root <| w_l_root (two_le (le_lt z6 hF1) (by decide)) ?_
  clear cs
  generalize isq e = E at *
  generalize isq f = F at *
  walk_at "d"
  refine st e_l_pick <| w_l_pick (by decide) (by decide) fun dd hd => ?_
  obtain ⟨s, t, rfl, t0, y1, y2, s0⟩ : ∃ p q : Int, dd = fd p q ∧ 0 < q ∧ p.natAbs ≤ 3 ∧ q.natAbs ≤ 2 ∧ 0 < p := by
    simp only [List.mem_cons, List.not_mem_nil, or_false] at hd
    rcases hd with h | h | h | h <;> exact ⟨_, _, h, by decide, by decide, by decide, by decide⟩
  clear hd
  have ef : (.tuple [.int E, .int F] : PyData) = fd E F := rfl
  rw [ef]
  walk_at "d"
  refine st e_l_draw <| w_l_draw (by decide) (by decide) fun j j0 j1 => ?_
  walk_at "d"
  have n5 : (0 - E).natAbs ≤ P := by omega
  have n3 : (0 - s).natAbs ≤ 3 := by omega
  have l1 : P * 2 + 3 * Q < 2 ^ 113 := by omega
  have l2 : Q * 2 < 2 ^ 113 := by omega
  have l3 : P * 2 + 3 * Q < 2 ^ 1000 := Nat.lt_trans l1 (by decide)
  have l4 : Q * 2 < 2 ^ 1000 := Nat.lt_trans l2 (by decide)
  have l5 : (P * 2 + 3 * Q) * 4 < 2 ^ 1000 := by omega
  have l6 : Q * 2 * 5 < 2 ^ 1000 := by omega
  have l7 : 4 * A < 2 ^ 113 := by omega
  have l8 : 5 * B < 2 ^ 113 := by omega
  have l9 : 4 * A < 2 ^ 1000 := Nat.lt_trans l7 (by decide)
  have l10 : 5 * B < 2 ^ 1000 := Nat.lt_trans l8 (by decide)
  have l11 : 4 * A * (5 * B) + 4 * A * (5 * B) < 2 ^ 1000 := by
    have := pw l7 l8 (show 113 + 113 ≤ 226 by decide)
    omega
  have l12 : 5 * B * (5 * B) < 2 ^ 1000 := pw l8 l8 (by decide)
  refine difP (fun _ => ?_) (fun _ => st e_l_neg <| w_l_neg ?_)
  all_goals
    walk_at "d"
    refine st e_l_pick <| w_l_pick (by decide) (by decide) fun dd hd => ?_
    obtain ⟨p, q, u, v, rfl, fp, fu, x1, x2, x3, x4, x5, qv⟩ : ∃ p q u v : Int, dd = .tuple [fd p q, fd u v] ∧ IsFr p q ∧ IsFr u v ∧ p.natAbs ≤ 4 ∧ q.natAbs ≤ 5 ∧ u.natAbs ≤ 4 ∧ v.natAbs ≤ 5 ∧ (p ≠ 0 ∨ u ≠ 0) ∧ q = v := by
      simp only [List.mem_cons, List.not_mem_nil, or_false] at hd
      rcases hd with h | h | h | h | h <;> exact ⟨_, _, _, _, h, ⟨by decide, by decide⟩, ⟨by decide, by decide⟩, by decide, by decide, by decide, by decide, by decide, rfl⟩
    clear hd
    walk_at "d"
    refine difP (fun _ => ?_) (fun _ => ?_)
    · refine difP (fun _ => ?_) (fun _ => st e_l_neg <| w_l_neg ?_)
      all_goals
        walk_at "d"
        refine st e_l_add <| w_l_addQ (i := P) (j := Q) (k := 3) (l := 2) (up hP) (up hQ) (by decide) (by decide) ip t0 (by assumption) i2 (by assumption) y2 fun m n fm zm zn => ?_
        walk_at "d"
        refine st e_l_mul <| w_l_mulX l3 l4 (by decide) (by decide) fm.1 fp.1 zm zn x1 x2 fun m1 n1 fm1 zm1 zn1 c1 => ?_
        refine st e_l_add <| w_l_addX (up hA) (up hB) l5 l6 b0 fm1.1 z1 z2 zm1 zn1 fun m2 n2 fm2 zm2 zn2 c2 => ?_
        walk_at "d"
        refine st e_l_mul <| w_l_mulX l3 l4 (by decide) (by decide) fm.1 fu.1 zm zn x3 x4 fun m3 n3 fm3 zm3 zn3 c3 => ?_
        refine st e_l_add <| w_l_addX (up hA) (up hB) l5 l6 d0 fm3.1 z3 z4 zm3 zn3 fun m4 n4 fm4 zm4 zn4 c4 => ?_
        refine st e_l_mul <| w_l_mulQ (by decide) (by decide) (by decide) (by decide) t0 t0 y1 y2 y1 y2 fun m5 n5 fm5 zm5 zn5 sm => ?_
        have k1 := far_like (d := d) fm1.1 c1 c2
        have k2 := far_like (d := b) fm3.1 c3 c4
        rw [← qv, show d * b * n * q = b * d * n * q by grind] at k2
        have L0 : 0 < b * d * n * q := Int.mul_pos (Int.mul_pos (Int.mul_pos b0 d0) fm.1) fp.1
        have x4' : q.natAbs ≤ 5 := x2
        refine hfar _ _ _ _ _ _ _ _ _ fm2 fm4 fm5 zm5 zn5 ?_ k1 k2 L0 (mul_le (add_le (mul_le (mul_le z1 zn) x2) (mul_le (mul_le zm x1) z2)) z4) (mul_le (add_le (mul_le (mul_le z3 zn) x2) (mul_le (mul_le zm x3) z4)) z2) (mul_le (mul_le (mul_le z2 z4) zn) x2)
        rw [sg_pos s0] at sm
        exact sg_val.2.1 sm
    · refine st e_l_mul <| w_l_mulQ (by decide) (by decide) (up hA) (up hB) fp.1 b0 x1 x2 z1 z2 fun m n fm zm zn _ => ?_
      walk_at "d"
      refine st e_l_mul <| w_l_mulQ (by decide) (by decide) (up hA) (up hB) fu.1 d0 x3 x4 z3 z4 fun m1 n1 fm1 zm1 zn1 _ => ?_
      refine st e_l_add <| w_l_addQ l9 l10 l9 l10 fm.1 fm1.1 zm zn zm1 zn1 fun m2 n2 fm2 zm2 zn2 => ?_
      walk_at "d"
      refine difP (fun _ => ?_) (fun _ => ?_)
      · exact hl _ _ _ _ _ _ fp fu fm2 x1 x2 x3 x4 x5 (Nat.le_trans zm2 (Nat.le_add_left _ _)) (Nat.le_trans zn2 (Nat.le_add_left _ _))
      · refine st e_l_add <| w_l_addQ (k := P) (l := Q) l11 l12 (up hP) (up hQ) fm2.1 ip zm2 zn2 (by assumption) i2 fun m3 n3 fm3 zm3 zn3 => ?_
        exact hl _ _ _ _ _ _ fp fu fm3 x1 x2 x3 x4 x5 (Nat.le_trans zm3 (Nat.le_add_right _ _)) (Nat.le_trans zn3 (Nat.le_add_right _ _))
end

end My

set_option maxHeartbeats 4000000
namespace My
open PySem L2 Ld
open Lw hiding Dv DvAll FreshB tData tDatas pd_int pd_bl pd_non pd_str pd_neg pd_pow pda_nil pda_cons pd_tup pd_lst pd_dct dv_cut dv_cat tup_at rRepr call_repr rIsD call_isD
local macro_rules | `(tactic| walk_at "d") => `(tactic| try dsimp only [tfOf, startD, slotD, putD, wipeD, dV, dC, dOp, dUn, dNil, dCons, dConsW, dConsF, dCallV, dCall, datsOf, dCB, dTup, dLst, dIf, dTst, dCmp, dCmpV, dChain, dNot, dAnd, dOr, dAndV, dOrV, dNotV, dTb, sSeq, sNx, sSet, sRet, sRetN, sIf, sExpr, sBrk, sCont, sPar, sPar3, lenK, gdN, gdNil, gdCons, sAsg, sFor, iLst, iTpl, iRg1, iRg2, iZp, dYes, dLc, dLc2, dNoP, dPart, dSl, dSlS, sOwn, ownK, sApp, sAppL, sSetL, sIfL, sInsL, sTry1, dOwnLst, fLstL, sExt, sIns, sPut, sFrz, dOwnLen, dOwnIx, sRaise, sAug, t_draw, nthL, e_int, e_int0, e_add, e_addT, e_addL, e_addSI, e_addST, e_shl, e_ci, e_eqI, e_eqS, e_eqB, e_neI, e_neS, e_neB, e_isN, e_notN, e_nthT, e_nthL, e_lenT, e_lenL, e_i1, e_i2, e_lcm, e_intO, e_intB, e_isqrt, e_divmod, e_repr, e_reprS, e_tupL, e_tupT, e_lst, e_truB, e_truI, e_truN, e_truL, e_truT, e_neg, e_bits, e_back, e_backL, e_slT, e_slL, e_slST, e_gdT, e_gdL, Ld.isNon])
local macro_rules | `(tactic| walk_at "u") => `(tactic| (dsimp only; walk_at "d"))

section
variable {R : RD} {Ex : XD}
theorem beside_of {a b c d e f : Int} (hz : ThC (cvD "circle" a b c d e f)) (f1 : IsFr a b) (f2 : IsFr c d) (f3 : IsFr e f) (e0 : 0 < e) {A B E1 F1 P Q : Nat} (hA : A < 2 ^ 110) (hB : B < 2 ^ 110) (hE1 : E1 < 2 ^ 110) (hF1 : F1 < 2 ^ 110) (hP : P < 2 ^ 110) (hQ : Q < 2 ^ 110) (z1 : a.natAbs ≤ A) (z2 : b.natAbs ≤ B) (z3 : c.natAbs ≤ A) (z4 : d.natAbs ≤ B) (z5 : e.natAbs ≤ E1) (z6 : f.natAbs ≤ F1) (i5 : (isq e).natAbs ≤ P) (i2 : (isq f).natAbs ≤ Q)
    (c1 : A * B < 2 ^ 20) (c2 : B * B < 2 ^ 14) (c3 : (A * 1 + 1 * B) * (B * 1) < 2 ^ 20) (c4 : B * 1 * (B * 1) < 2 ^ 14) (c5 : E1 * 9 < 2 ^ 108) (c6 : F1 * 4 < 2 ^ 99) (c7 : (A * (Q * 2) * 5 + (P * 2 + 3 * Q) * 4 * B) * B < 2 ^ 67) (c8 : B * B * (Q * 2) * 5 < 2 ^ 67)
    (c9 : (4 * A * (5 * B) + 4 * A * (5 * B)) * Q + P * (5 * B * (5 * B)) + (4 * A * (5 * B) + 4 * A * (5 * B)) < 2 ^ 138) (c10 : 5 * B * (5 * B) * Q + 5 * B * (5 * B) < 2 ^ 132) (c11 : E1 < 2 ^ 108) (c12 : F1 < 2 ^ 99)
    (R : RD) (Ex : XD) (h : ∀ w, Fo (cvD "circle" a b c d e f) w → R w) : t_l_beside [.well, .dat (cvD "circle" a b c d e f)] R Ex := by
  refine w_l_besideG f1 f2 f3 e0 hA hB hE1 hF1 hP hQ z1 z2 z3 z4 z5 z6 i5 i2 ?_ ?_ ?_ ?_
  · intro m n fm x1 x2 m0
    have u1 := le_lt (mul_le z1 z4) c1
    have v1 := le_lt (mul_le z3 z2) c1
    have l1 := le_lt (mul_le z2 z4) c2
    exact h _ (.inr ⟨a, b, c, d, m, n, a * d, c * b, b * d, rfl, ⟨f1, f2, fm, by grind, by grind, Int.mul_pos f1.1 f2.1, m0, two_le u1 (by decide), two_le v1 (by decide), two_le l1 (by decide), two_le (le_lt x1 c5) (by decide), two_le (le_lt x2 c6) (by decide)⟩,
      fun q => absurd hz q.not, fun _ => .inr (.inl ⟨u1, v1, l1, le_lt x1 c5, le_lt x2 c6⟩)⟩)
  · intro m n u v fm fu x1 x2 x3 x4
    have u1 := le_lt (mul_le x1 x4) c3
    have v1 := le_lt (mul_le x3 x2) c3
    have l1 := le_lt (mul_le x2 x4) c4
    exact h _ (.inr ⟨m, n, u, v, e, f, m * v, u * n, n * v, rfl, ⟨fm, fu, f3, by grind, by grind, Int.mul_pos fm.1 fu.1, e0, two_le u1 (by decide), two_le v1 (by decide), two_le l1 (by decide), two_le (le_lt z5 c11) (by decide), two_le (le_lt z6 c12) (by decide)⟩,
      fun q => absurd hz q.not, fun _ => .inr (.inl ⟨u1, v1, l1, le_lt z5 c11, le_lt z6 c12⟩)⟩)
  · intro m n u v s t U V L fm fu fs x1 x2 s0 k1 k2 L0 y1 y2 y3
    exact h _ (.inr ⟨m, n, u, v, s, t, U, V, L, rfl, ⟨fm, fu, fs, k1, k2, L0, s0, le_lt y1 c7, le_lt y2 c7, le_lt y3 c8, le_lt x1 (by decide), le_lt x2 (by decide)⟩,
      fun q => absurd hz q.not, fun _ => .inr (.inr ⟨le_lt x1 (by decide), le_lt x2 (by decide)⟩)⟩)
  · intro p q u v m n fp fu fm x1 x2 x3 x4 ne y1 y2
    exact h _ (.inl ⟨p, q, u, v, m, n, rfl, fp, fu, fm, le_lt x1 (by decide), le_lt x2 (by decide), le_lt x3 (by decide), le_lt x4 (by decide), le_lt y1 c9, le_lt y2 c10, ne⟩)
theorem w_l_besideT {z : PyData} (hz : ThC z) (R : RD) (Ex : XD) (h : ∀ w, Fo z w → R w) : t_l_beside [.well, .dat z] R Ex := by
  obtain ⟨a, b, c, d, e, f, rfl, f1, f2, f3, z1, z2, z3, z4, z5, z6, e0, zz⟩ := id hz
  rcases zz with ⟨y1, y2, y3, y4⟩ | ⟨y5, y6⟩
  · exact beside_of hz f1 f2 f3 e0 (A := 6) (B := 4) (E1 := 2 ^ 104 - 1) (F1 := 2 ^ 97 - 1) (P := 2 ^ 52) (Q := 2 ^ 49) (by decide) (by decide) (by decide) (by decide) (by decide) (by decide) y1 y2 y3 y4 (by omega) (by omega)
      (Nat.le_of_lt (isq_half (k := 52) z5)) (Nat.le_of_lt (isq_half (k := 49) (two_le z6 (by decide)))) (by decide) (by decide) (by decide) (by decide) (by decide) (by decide) (by decide) (by decide) (by decide) (by decide) (by decide) (by decide) R Ex h
  · exact beside_of hz f1 f2 f3 e0 (A := 4095) (B := 127) (E1 := 2 ^ 21 - 1) (F1 := 2 ^ 17 - 1) (P := 2 ^ 11) (Q := 2 ^ 9) (by decide) (by decide) (by decide) (by decide) (by decide) (by decide) (by omega) (by omega) (by omega) (by omega) (by omega) (by omega)
      (Nat.le_of_lt (isq_half (k := 11) (two_le y5 (by decide)))) (Nat.le_of_lt (isq_half (k := 9) (two_le y6 (by decide)))) (by decide) (by decide) (by decide) (by decide) (by decide) (by decide) (by decide) (by decide) (by decide) (by decide) (by decide) (by decide) R Ex h
/-- the law's try -/
theorem w_l_right (h : R (.bool true)) : t_l_right [.well] R Ex :=
  w_l_right_of (Th := Th) (Fo := Fo) (fun _ _ hx hy R Ex k => w_l_curve3 hx hy R Ex k) (fun _ _ _ hx hy hz R Ex k => w_l_curve4 hx hy hz (fun q R Ex k => w_l_besideT q R Ex k) R Ex k) (fun _ k => k.cur) (fun _ _ _ k => k.cur)
    (fun _ _ hz hw R Ex k => meet_last hz hw R Ex k) (fun _ _ hx hy R Ex k => meet_first hx hy R Ex fun ss q l => k ss (fun s m => (q s m).1) l) (fun _ _ hz hw Q Ex k => w_formsW hz.cur hw.cur Q Ex k) h
end

end My

namespace My
open PySem L2 Lw
local macro_rules | `(tactic| walk_at "side") => `(tactic| first | decide | omega | (exact .inl ⟨by decide, by decide⟩) | (exact .inr ⟨by decide, by decide⟩) | (exact .inl ⟨by omega, by omega⟩) | (exact .inr ⟨by omega, by omega⟩) | (exact ⟨by decide, by decide⟩) | (exact ⟨by omega, by omega⟩))
local macro_rules | `(tactic| walk_at "go1") => `(tactic| first
  | (refine ⟨_, _, rfl, rfl, ?_⟩)
  | (refine ⟨_, rfl, ?_⟩)
  | (refine And.intro (by walk_at "side") ?_)
  | (refine .inl ⟨_, rfl, ?_⟩)
  | (refine iteT ?_) | (refine iteF ?_))
local macro_rules | `(tactic| walk_at "go") => `(tactic| repeat (walk_at "go1"))
-- opt: omega
section
variable {P : Program} {w : World} {K : PySem.W.Frag} {mg : Str → Option Value} {base : Heap}
theorem rightE_l (T : Top K mg) : Cl CX0 P w K mg base 9 "_law_right" Ld.spRightD := Ld.right_end (c_l_right T).cl fun R Ex h => w_l_right h
theorem c_l_law (T : Top K mg) : Cl CX0 P w K mg base 10 "law" (spLaw K) := by
  refine T.d_l_law.cal sc_l_law (fun vs H Q E h => ?_) (fun f cdv A outer s H vs Q E hr hg h => ?_)
  · obtain ⟨a, ns, rfl, _⟩ := h
    rfl
  obtain ⟨a, ns, rfl, hS, hl, q⟩ := h
  refine ⟨_, (pss_one (ps_ret (pe_callB (cr_all rfl) rfl T.z_all (by decide +kernel) (pa_cons (pe_lc (own := [("_law_at", 1)]) (g := gName 1) rfl sc_l_law.nd (pi_range1 rfl T.z_range (pa_cons (pe_callB (call_max2 rfl) rfl T.z_max (by decide +kernel) (pa_cons pe_int (pa_cons (pe_callB (call_min2 rfl) rfl T.z_min (by decide +kernel) (pa_cons (pe_callB call_len_seq rfl T.z_len (by decide +kernel) (pa_cons (pv 0) pa_nil)) (pa_cons pe_int pa_nil))) pa_nil))) pa_nil)) (blkOk_by (own := [("_law_at", 1)]) (N := N_l_law) (sc := defScope s_l_law) (by decide +kernel)) (fun _ _ _ _ _ => pg_name (i := 1) sc_l_law.nd rfl (Or.inl rfl)) (fun _ _ _ _ _ => pts_nil) (fun _ _ _ _ _ => (pe_cl (rightE_l T) hr hg rfl (pa_cons (pe_cl (c_l_well T) hr hg rfl (pa_cons (pv 0) (pa_cons (pv 1) pa_nil)) (by omega)) pa_nil) (by omega)))) pa_nil)))), ?_⟩
  refine ⟨_, rfl, a, _, rfl, .inl hS, ?_⟩
  have h63 : (ns.map V.int).length ≤ 63 := by rw [List.length_map]; exact hl
  generalize hJ : (if (if (4 : Int) < ((ns.map V.int).length : Int) then (4 : Int) else ((ns.map V.int).length : Int)) > 2 then (if (4 : Int) < ((ns.map V.int).length : Int) then (4 : Int) else ((ns.map V.int).length : Int)) else 2) = J
  have J4 : 0 ≤ J ∧ J ≤ 9 := by
    rw [← hJ]
    split <;> split <;> omega
  refine ⟨_, _, rfl, _, _, rfl, J, (by rw [← hJ]), by omega, by omega, fun D hD => lcr_true (te := fun σ H Q => tCons (fun σ H Q => tCons (tVar 0) (tCons (tVar 1) tNil) σ H fun vs H1 => spWell K vs H1 Q E0) tNil σ H fun vs H1 => Ld.spRightD vs H1 Q E0) (lo := 0) (n := J.toNat) hD (by omega) (fun x H k h => h) (fun x => rfl) ?_ ?_⟩
  · intro i Hx hi sx hd R kR
    refine ⟨_, rfl, _, rfl, a, ns, _, rfl, sx.seq hS, by omega, by omega, fun p H2 s2 np pn wl => ?_⟩
    refine ⟨p, rfl, np, wl, fun H3 a3 => kR H3 (fun b u z => ?_) ?_⟩
    · exact a3.kp b u (ne_of_none (sx _ _ z) pn) (s2 _ _ (sx _ _ z))
    · rw [hd]
      exact a3.kp D _ (ne_of_none hd pn) (s2 _ _ hd)
  · intro H7 s7 e7
    refine ⟨D, List.replicate J.toNat true, rfl, .of (by rw [trues_all]; exact e7), ?_⟩
    rw [all_trues]
    exact q _
end
end My

set_option maxHeartbeats 4000000
namespace My
open PySem L2 Lw
theorem top_mk {K : PySem.W.Frag} {h : Heap} {mg : Str → Option Value} {f0 f1 f2 f3 f4 f5 f6 f7 f8 f9 f10 f11 f12 f13 f14 f15 f16 f17 f18 f19 f20 f21 f22 f23 f24 f25 f26 f27 f28 f29 f30 f31 f32 f33 f34 f35 f36 f37 f38 f39 f40 f41 f42 f43 f44 f45 f46 f47 f48 f49 f50 f51 f52 f53 f54 f55 f56 f57 f58 f59 : Addr} (X : K.In h) (G : h.Ns mainGlobals mg)
    {od0 an0 od1 an1 od2 an2 od3 an3 od4 an4 od5 an5 od6 an6 od7 an7 od8 an8 od9 an9 od10 an10 od11 an11 od12 an12 od13 an13 od14 an14 od15 an15 od16 an16 od17 an17 od18 an18 od19 an19 od20 an20 od21 an21 od22 an22 od23 an23 od24 an24 od25 an25 od26 an26 od27 an27 od28 an28 od29 an29 od30 an30 od31 an31 od32 an32 od33 an33 od34 an34 od35 an35 od36 an36 od37 an37 od38 an38 od39 an39 od40 an40 od41 an41 od42 an42 od43 an43 od44 an44 od45 an45 od46 an46 od47 an47 od48 an48 od49 an49 od50 an50 od51 an51 od52 an52 od53 an53 od54 an54 od55 an55 od56 an56 od57 an57 od58 an58 od59 an59 : Option Addr} {sl0 sl1 sl2 sl3 sl4 sl5 sl6 sl7 sl8 sl9 sl10 sl11 sl12 sl13 sl14 sl15 sl16 sl17 sl18 sl19 sl20 sl21 sl22 sl23 sl24 sl25 sl26 sl27 sl28 sl29 sl30 sl31 sl32 sl33 sl34 sl35 sl36 sl37 sl38 sl39 sl40 sl41 sl42 sl43 sl44 sl45 sl46 sl47 sl48 sl49 sl50 sl51 sl52 sl53 sl54 sl55 sl56 sl57 sl58 sl59 : Array (Option Value)} {oc0 kV0 dc0 pm0 cd0 ct0 oc1 kV1 dc1 pm1 cd1 ct1 oc2 kV2 dc2 pm2 cd2 ct2 oc3 kV3 dc3 pm3 cd3 ct3 oc4 kV4 dc4 pm4 cd4 ct4 oc5 kV5 dc5 pm5 cd5 ct5 oc6 kV6 dc6 pm6 cd6 ct6 oc7 kV7 dc7 pm7 cd7 ct7 oc8 kV8 dc8 pm8 cd8 ct8 oc9 kV9 dc9 pm9 cd9 ct9 oc10 kV10 dc10 pm10 cd10 ct10 oc11 kV11 dc11 pm11 cd11 ct11 oc12 kV12 dc12 pm12 cd12 ct12 oc13 kV13 dc13 pm13 cd13 ct13 oc14 kV14 dc14 pm14 cd14 ct14 oc15 kV15 dc15 pm15 cd15 ct15 oc16 kV16 dc16 pm16 cd16 ct16 oc17 kV17 dc17 pm17 cd17 ct17 oc18 kV18 dc18 pm18 cd18 ct18 oc19 kV19 dc19 pm19 cd19 ct19 oc20 kV20 dc20 pm20 cd20 ct20 oc21 kV21 dc21 pm21 cd21 ct21 oc22 kV22 dc22 pm22 cd22 ct22 oc23 kV23 dc23 pm23 cd23 ct23 oc24 kV24 dc24 pm24 cd24 ct24 oc25 kV25 dc25 pm25 cd25 ct25 oc26 kV26 dc26 pm26 cd26 ct26 oc27 kV27 dc27 pm27 cd27 ct27 oc28 kV28 dc28 pm28 cd28 ct28 oc29 kV29 dc29 pm29 cd29 ct29 oc30 kV30 dc30 pm30 cd30 ct30 oc31 kV31 dc31 pm31 cd31 ct31 oc32 kV32 dc32 pm32 cd32 ct32 oc33 kV33 dc33 pm33 cd33 ct33 oc34 kV34 dc34 pm34 cd34 ct34 oc35 kV35 dc35 pm35 cd35 ct35 oc36 kV36 dc36 pm36 cd36 ct36 oc37 kV37 dc37 pm37 cd37 ct37 oc38 kV38 dc38 pm38 cd38 ct38 oc39 kV39 dc39 pm39 cd39 ct39 oc40 kV40 dc40 pm40 cd40 ct40 oc41 kV41 dc41 pm41 cd41 ct41 oc42 kV42 dc42 pm42 cd42 ct42 oc43 kV43 dc43 pm43 cd43 ct43 oc44 kV44 dc44 pm44 cd44 ct44 oc45 kV45 dc45 pm45 cd45 ct45 oc46 kV46 dc46 pm46 cd46 ct46 oc47 kV47 dc47 pm47 cd47 ct47 oc48 kV48 dc48 pm48 cd48 ct48 oc49 kV49 dc49 pm49 cd49 ct49 oc50 kV50 dc50 pm50 cd50 ct50 oc51 kV51 dc51 pm51 cd51 ct51 oc52 kV52 dc52 pm52 cd52 ct52 oc53 kV53 dc53 pm53 cd53 ct53 oc54 kV54 dc54 pm54 cd54 ct54 oc55 kV55 dc55 pm55 cd55 ct55 oc56 kV56 dc56 pm56 cd56 ct56 oc57 kV57 dc57 pm57 cd57 ct57 oc58 kV58 dc58 pm58 cd58 ct58 oc59 kV59 dc59 pm59 cd59 ct59 : Value}
    {C_InvalidPlace fI_InvalidPlace : Addr} {nm_InvalidPlace q_InvalidPlace : Str} {Nn_InvalidPlace : Addr} {bs_InvalidPlace bm_InvalidPlace : List Value} {sn_InvalidPlace : List Str} {sub_InvalidPlace : List Value} {ab_InvalidPlace : Bool} {col_InvalidPlace : Option Bool} {dd_InvalidPlace : Option Addr} {ma_InvalidPlace mb_InvalidPlace mc_InvalidPlace md_InvalidPlace me_InvalidPlace : Option Value} {odX_InvalidPlace anX_InvalidPlace : Option Addr} {slX_InvalidPlace : Array (Option Value)} {ocX_InvalidPlace kVX_InvalidPlace dcX_InvalidPlace pmX_InvalidPlace cdX_InvalidPlace ctX_InvalidPlace : Value}
    {C_InvalidCurve fI_InvalidCurve : Addr} {nm_InvalidCurve q_InvalidCurve : Str} {Nn_InvalidCurve : Addr} {bs_InvalidCurve bm_InvalidCurve : List Value} {sn_InvalidCurve : List Str} {sub_InvalidCurve : List Value} {ab_InvalidCurve : Bool} {col_InvalidCurve : Option Bool} {dd_InvalidCurve : Option Addr} {ma_InvalidCurve mb_InvalidCurve mc_InvalidCurve md_InvalidCurve me_InvalidCurve : Option Value} {odX_InvalidCurve anX_InvalidCurve : Option Addr} {slX_InvalidCurve : Array (Option Value)} {ocX_InvalidCurve kVX_InvalidCurve dcX_InvalidCurve pmX_InvalidCurve cdX_InvalidCurve ctX_InvalidCurve : Value}
    (a0 : PySem.W.nsIn K mainGlobals "reduced" = some (some (.ref f0))) (l0 : K.lookup f0 = some ⟨oc0, od0, .func (PySem.W.fnOf "reduced" "reduced" (defArgs s_p_reduced) (defBody s_p_reduced) (defScope s_p_reduced) .none kV0 dc0 pm0 an0 cd0 ct0), sl0⟩) (c0 : PySem.W.codeIn K cd0 "reduced" = true) (k0 : PySem.W.keepIn K (.ref f0) = true)
    (a1 : PySem.W.nsIn K mainGlobals "discriminant" = some (some (.ref f1))) (l1 : K.lookup f1 = some ⟨oc1, od1, .func (PySem.W.fnOf "discriminant" "discriminant" (defArgs s_p_discriminant) (defBody s_p_discriminant) (defScope s_p_discriminant) .none kV1 dc1 pm1 an1 cd1 ct1), sl1⟩) (c1 : PySem.W.codeIn K cd1 "discriminant" = true) (k1 : PySem.W.keepIn K (.ref f1) = true)
    (a2 : PySem.W.nsIn K mainGlobals "surd_of" = some (some (.ref f2))) (l2 : K.lookup f2 = some ⟨oc2, od2, .func (PySem.W.fnOf "surd_of" "surd_of" (defArgs s_p_surd_of) (defBody s_p_surd_of) (defScope s_p_surd_of) .none kV2 dc2 pm2 an2 cd2 ct2), sl2⟩) (c2 : PySem.W.codeIn K cd2 "surd_of" = true) (k2 : PySem.W.keepIn K (.ref f2) = true)
    (a3 : PySem.W.nsIn K mainGlobals "number_of" = some (some (.ref f3))) (l3 : K.lookup f3 = some ⟨oc3, od3, .func (PySem.W.fnOf "number_of" "number_of" (defArgs s_p_number_of) (defBody s_p_number_of) (defScope s_p_number_of) .none kV3 dc3 pm3 an3 cd3 ct3), sl3⟩) (c3 : PySem.W.codeIn K cd3 "number_of" = true) (k3 : PySem.W.keepIn K (.ref f3) = true)
    (a4 : PySem.W.nsIn K mainGlobals "is_square" = some (some (.ref f4))) (l4 : K.lookup f4 = some ⟨oc4, od4, .func (PySem.W.fnOf "is_square" "is_square" (defArgs s_p_is_square) (defBody s_p_is_square) (defScope s_p_is_square) .none kV4 dc4 pm4 an4 cd4 ct4), sl4⟩) (c4 : PySem.W.codeIn K cd4 "is_square" = true) (k4 : PySem.W.keepIn K (.ref f4) = true)
    (a5 : PySem.W.nsIn K mainGlobals "have_one_field" = some (some (.ref f5))) (l5 : K.lookup f5 = some ⟨oc5, od5, .func (PySem.W.fnOf "have_one_field" "have_one_field" (defArgs s_p_have_one_field) (defBody s_p_have_one_field) (defScope s_p_have_one_field) .none kV5 dc5 pm5 an5 cd5 ct5), sl5⟩) (c5 : PySem.W.codeIn K cd5 "have_one_field" = true) (k5 : PySem.W.keepIn K (.ref f5) = true)
    (a6 : PySem.W.nsIn K mainGlobals "over_one_root" = some (some (.ref f6))) (l6 : K.lookup f6 = some ⟨oc6, od6, .func (PySem.W.fnOf "over_one_root" "over_one_root" (defArgs s_p_over_one_root) (defBody s_p_over_one_root) (defScope s_p_over_one_root) .none kV6 dc6 pm6 an6 cd6 ct6), sl6⟩) (c6 : PySem.W.codeIn K cd6 "over_one_root" = true) (k6 : PySem.W.keepIn K (.ref f6) = true)
    (a7 : PySem.W.nsIn K mainGlobals "add" = some (some (.ref f7))) (l7 : K.lookup f7 = some ⟨oc7, od7, .func (PySem.W.fnOf "add" "add" (defArgs s_p_add) (defBody s_p_add) (defScope s_p_add) .none kV7 dc7 pm7 an7 cd7 ct7), sl7⟩) (c7 : PySem.W.codeIn K cd7 "add" = true) (k7 : PySem.W.keepIn K (.ref f7) = true)
    (a8 : PySem.W.nsIn K mainGlobals "negative" = some (some (.ref f8))) (l8 : K.lookup f8 = some ⟨oc8, od8, .func (PySem.W.fnOf "negative" "negative" (defArgs s_p_negative) (defBody s_p_negative) (defScope s_p_negative) .none kV8 dc8 pm8 an8 cd8 ct8), sl8⟩) (c8 : PySem.W.codeIn K cd8 "negative" = true) (k8 : PySem.W.keepIn K (.ref f8) = true)
    (a9 : PySem.W.nsIn K mainGlobals "subtract" = some (some (.ref f9))) (l9 : K.lookup f9 = some ⟨oc9, od9, .func (PySem.W.fnOf "subtract" "subtract" (defArgs s_p_subtract) (defBody s_p_subtract) (defScope s_p_subtract) .none kV9 dc9 pm9 an9 cd9 ct9), sl9⟩) (c9 : PySem.W.codeIn K cd9 "subtract" = true) (k9 : PySem.W.keepIn K (.ref f9) = true)
    (a10 : PySem.W.nsIn K mainGlobals "multiply" = some (some (.ref f10))) (l10 : K.lookup f10 = some ⟨oc10, od10, .func (PySem.W.fnOf "multiply" "multiply" (defArgs s_p_multiply) (defBody s_p_multiply) (defScope s_p_multiply) .none kV10 dc10 pm10 an10 cd10 ct10), sl10⟩) (c10 : PySem.W.codeIn K cd10 "multiply" = true) (k10 : PySem.W.keepIn K (.ref f10) = true)
    (a11 : PySem.W.nsIn K mainGlobals "squared" = some (some (.ref f11))) (l11 : K.lookup f11 = some ⟨oc11, od11, .func (PySem.W.fnOf "squared" "squared" (defArgs s_p_squared) (defBody s_p_squared) (defScope s_p_squared) .none kV11 dc11 pm11 an11 cd11 ct11), sl11⟩) (c11 : PySem.W.codeIn K cd11 "squared" = true) (k11 : PySem.W.keepIn K (.ref f11) = true)
    (a12 : PySem.W.nsIn K mainGlobals "sign" = some (some (.ref f12))) (l12 : K.lookup f12 = some ⟨oc12, od12, .func (PySem.W.fnOf "sign" "sign" (defArgs s_p_sign) (defBody s_p_sign) (defScope s_p_sign) .none kV12 dc12 pm12 an12 cd12 ct12), sl12⟩) (c12 : PySem.W.codeIn K cd12 "sign" = true) (k12 : PySem.W.keepIn K (.ref f12) = true)
    (a13 : PySem.W.nsIn K mainGlobals "sign_of_two" = some (some (.ref f13))) (l13 : K.lookup f13 = some ⟨oc13, od13, .func (PySem.W.fnOf "sign_of_two" "sign_of_two" (defArgs s_p_sign_of_two) (defBody s_p_sign_of_two) (defScope s_p_sign_of_two) .none kV13 dc13 pm13 an13 cd13 ct13), sl13⟩) (c13 : PySem.W.codeIn K cd13 "sign_of_two" = true) (k13 : PySem.W.keepIn K (.ref f13) = true)
    (a14 : PySem.W.nsIn K mainGlobals "sign_of" = some (some (.ref f14))) (l14 : K.lookup f14 = some ⟨oc14, od14, .func (PySem.W.fnOf "sign_of" "sign_of" (defArgs s_p_sign_of) (defBody s_p_sign_of) (defScope s_p_sign_of) .none kV14 dc14 pm14 an14 cd14 ct14), sl14⟩) (c14 : PySem.W.codeIn K cd14 "sign_of" = true) (k14 : PySem.W.keepIn K (.ref f14) = true)
    (a15 : PySem.W.nsIn K mainGlobals "value_at" = some (some (.ref f15))) (l15 : K.lookup f15 = some ⟨oc15, od15, .func (PySem.W.fnOf "value_at" "value_at" (defArgs s_p_value_at) (defBody s_p_value_at) (defScope s_p_value_at) .none kV15 dc15 pm15 an15 cd15 ct15), sl15⟩) (c15 : PySem.W.codeIn K cd15 "value_at" = true) (k15 : PySem.W.keepIn K (.ref f15) = true)
    (a16 : PySem.W.nsIn K mainGlobals "side_of" = some (some (.ref f16))) (l16 : K.lookup f16 = some ⟨oc16, od16, .func (PySem.W.fnOf "side_of" "side_of" (defArgs s_p_side_of) (defBody s_p_side_of) (defScope s_p_side_of) .none kV16 dc16 pm16 an16 cd16 ct16), sl16⟩) (c16 : PySem.W.codeIn K cd16 "side_of" = true) (k16 : PySem.W.keepIn K (.ref f16) = true)
    (a17 : PySem.W.nsIn K mainGlobals "is_whole" = some (some (.ref f17))) (l17 : K.lookup f17 = some ⟨oc17, od17, .func (PySem.W.fnOf "is_whole" "is_whole" (defArgs s_p_is_whole) (defBody s_p_is_whole) (defScope s_p_is_whole) .none kV17 dc17 pm17 an17 cd17 ct17), sl17⟩) (c17 : PySem.W.codeIn K cd17 "is_whole" = true) (k17 : PySem.W.keepIn K (.ref f17) = true)
    (a18 : PySem.W.nsIn K mainGlobals "is_fraction" = some (some (.ref f18))) (l18 : K.lookup f18 = some ⟨oc18, od18, .func (PySem.W.fnOf "is_fraction" "is_fraction" (defArgs s_p_is_fraction) (defBody s_p_is_fraction) (defScope s_p_is_fraction) .none kV18 dc18 pm18 an18 cd18 ct18), sl18⟩) (c18 : PySem.W.codeIn K cd18 "is_fraction" = true) (k18 : PySem.W.keepIn K (.ref f18) = true)
    (a19 : PySem.W.nsIn K mainGlobals "is_root" = some (some (.ref f19))) (l19 : K.lookup f19 = some ⟨oc19, od19, .func (PySem.W.fnOf "is_root" "is_root" (defArgs s_p_is_root) (defBody s_p_is_root) (defScope s_p_is_root) .none kV19 dc19 pm19 an19 cd19 ct19), sl19⟩) (c19 : PySem.W.codeIn K cd19 "is_root" = true) (k19 : PySem.W.keepIn K (.ref f19) = true)
    (a20 : PySem.W.nsIn K mainGlobals "is_number" = some (some (.ref f20))) (l20 : K.lookup f20 = some ⟨oc20, od20, .func (PySem.W.fnOf "is_number" "is_number" (defArgs s_p_is_number) (defBody s_p_is_number) (defScope s_p_is_number) .none kV20 dc20 pm20 an20 cd20 ct20), sl20⟩) (c20 : PySem.W.codeIn K cd20 "is_number" = true) (k20 : PySem.W.keepIn K (.ref f20) = true)
    (a21 : PySem.W.nsIn K mainGlobals "is_place" = some (some (.ref f21))) (l21 : K.lookup f21 = some ⟨oc21, od21, .func (PySem.W.fnOf "is_place" "is_place" (defArgs s_p_is_place) (defBody s_p_is_place) (defScope s_p_is_place) .none kV21 dc21 pm21 an21 cd21 ct21), sl21⟩) (c21 : PySem.W.codeIn K cd21 "is_place" = true) (k21 : PySem.W.keepIn K (.ref f21) = true)
    (a22 : PySem.W.nsIn K mainGlobals "is_curve" = some (some (.ref f22))) (l22 : K.lookup f22 = some ⟨oc22, od22, .func (PySem.W.fnOf "is_curve" "is_curve" (defArgs s_p_is_curve) (defBody s_p_is_curve) (defScope s_p_is_curve) .none kV22 dc22 pm22 an22 cd22 ct22), sl22⟩) (c22 : PySem.W.codeIn K cd22 "is_curve" = true) (k22 : PySem.W.keepIn K (.ref f22) = true)
    (a23 : PySem.W.nsIn K mainGlobals "check_place" = some (some (.ref f23))) (l23 : K.lookup f23 = some ⟨oc23, od23, .func (PySem.W.fnOf "check_place" "check_place" (defArgs s_p_check_place) (defBody s_p_check_place) (defScope s_p_check_place) .none kV23 dc23 pm23 an23 cd23 ct23), sl23⟩) (c23 : PySem.W.codeIn K cd23 "check_place" = true) (k23 : PySem.W.keepIn K (.ref f23) = true)
    (a24 : PySem.W.nsIn K mainGlobals "check_curve" = some (some (.ref f24))) (l24 : K.lookup f24 = some ⟨oc24, od24, .func (PySem.W.fnOf "check_curve" "check_curve" (defArgs s_p_check_curve) (defBody s_p_check_curve) (defScope s_p_check_curve) .none kV24 dc24 pm24 an24 cd24 ct24), sl24⟩) (c24 : PySem.W.codeIn K cd24 "check_curve" = true) (k24 : PySem.W.keepIn K (.ref f24) = true)
    (a25 : PySem.W.nsIn K mainGlobals "sign_at" = some (some (.ref f25))) (l25 : K.lookup f25 = some ⟨oc25, od25, .func (PySem.W.fnOf "sign_at" "sign_at" (defArgs s_p_sign_at) (defBody s_p_sign_at) (defScope s_p_sign_at) .none kV25 dc25 pm25 an25 cd25 ct25), sl25⟩) (c25 : PySem.W.codeIn K cd25 "sign_at" = true) (k25 : PySem.W.keepIn K (.ref f25) = true)
    (a26 : PySem.W.nsIn K mainGlobals "_law_well" = some (some (.ref f26))) (l26 : K.lookup f26 = some ⟨oc26, od26, .func (PySem.W.fnOf "_law_well" "_law_well" (defArgs s_l_well) (defBody s_l_well) (defScope s_l_well) .none kV26 dc26 pm26 an26 cd26 ct26), sl26⟩) (c26 : PySem.W.codeIn K cd26 "_law_well" = true) (k26 : PySem.W.keepIn K (.ref f26) = true)
    (a27 : PySem.W.nsIn K mainGlobals "_law_draw" = some (some (.ref f27))) (l27 : K.lookup f27 = some ⟨oc27, od27, .func (PySem.W.fnOf "_law_draw" "_law_draw" (defArgs s_l_draw) (defBody s_l_draw) (defScope s_l_draw) .none kV27 dc27 pm27 an27 cd27 ct27), sl27⟩) (c27 : PySem.W.codeIn K cd27 "_law_draw" = true) (k27 : PySem.W.keepIn K (.ref f27) = true)
    (a28 : PySem.W.nsIn K mainGlobals "_law_pick" = some (some (.ref f28))) (l28 : K.lookup f28 = some ⟨oc28, od28, .func (PySem.W.fnOf "_law_pick" "_law_pick" (defArgs s_l_pick) (defBody s_l_pick) (defScope s_l_pick) .none kV28 dc28 pm28 an28 cd28 ct28), sl28⟩) (c28 : PySem.W.codeIn K cd28 "_law_pick" = true) (k28 : PySem.W.keepIn K (.ref f28) = true)
    (a29 : PySem.W.nsIn K mainGlobals "_law_common" = some (some (.ref f29))) (l29 : K.lookup f29 = some ⟨oc29, od29, .func (PySem.W.fnOf "_law_common" "_law_common" (defArgs s_l_common) (defBody s_l_common) (defScope s_l_common) .none kV29 dc29 pm29 an29 cd29 ct29), sl29⟩) (c29 : PySem.W.codeIn K cd29 "_law_common" = true) (k29 : PySem.W.keepIn K (.ref f29) = true)
    (a30 : PySem.W.nsIn K mainGlobals "_law_lean" = some (some (.ref f30))) (l30 : K.lookup f30 = some ⟨oc30, od30, .func (PySem.W.fnOf "_law_lean" "_law_lean" (defArgs s_l_lean) (defBody s_l_lean) (defScope s_l_lean) .none kV30 dc30 pm30 an30 cd30 ct30), sl30⟩) (c30 : PySem.W.codeIn K cd30 "_law_lean" = true) (k30 : PySem.W.keepIn K (.ref f30) = true)
    (a31 : PySem.W.nsIn K mainGlobals "_law_add" = some (some (.ref f31))) (l31 : K.lookup f31 = some ⟨oc31, od31, .func (PySem.W.fnOf "_law_add" "_law_add" (defArgs s_l_add) (defBody s_l_add) (defScope s_l_add) .none kV31 dc31 pm31 an31 cd31 ct31), sl31⟩) (c31 : PySem.W.codeIn K cd31 "_law_add" = true) (k31 : PySem.W.keepIn K (.ref f31) = true)
    (a32 : PySem.W.nsIn K mainGlobals "_law_mul" = some (some (.ref f32))) (l32 : K.lookup f32 = some ⟨oc32, od32, .func (PySem.W.fnOf "_law_mul" "_law_mul" (defArgs s_l_mul) (defBody s_l_mul) (defScope s_l_mul) .none kV32 dc32 pm32 an32 cd32 ct32), sl32⟩) (c32 : PySem.W.codeIn K cd32 "_law_mul" = true) (k32 : PySem.W.keepIn K (.ref f32) = true)
    (a33 : PySem.W.nsIn K mainGlobals "_law_neg" = some (some (.ref f33))) (l33 : K.lookup f33 = some ⟨oc33, od33, .func (PySem.W.fnOf "_law_neg" "_law_neg" (defArgs s_l_neg) (defBody s_l_neg) (defScope s_l_neg) .none kV33 dc33 pm33 an33 cd33 ct33), sl33⟩) (c33 : PySem.W.codeIn K cd33 "_law_neg" = true) (k33 : PySem.W.keepIn K (.ref f33) = true)
    (a34 : PySem.W.nsIn K mainGlobals "_law_root" = some (some (.ref f34))) (l34 : K.lookup f34 = some ⟨oc34, od34, .func (PySem.W.fnOf "_law_root" "_law_root" (defArgs s_l_root) (defBody s_l_root) (defScope s_l_root) .none kV34 dc34 pm34 an34 cd34 ct34), sl34⟩) (c34 : PySem.W.codeIn K cd34 "_law_root" = true) (k34 : PySem.W.keepIn K (.ref f34) = true)
    (a35 : PySem.W.nsIn K mainGlobals "_law_is_square" = some (some (.ref f35))) (l35 : K.lookup f35 = some ⟨oc35, od35, .func (PySem.W.fnOf "_law_is_square" "_law_is_square" (defArgs s_l_is_square) (defBody s_l_is_square) (defScope s_l_is_square) .none kV35 dc35 pm35 an35 cd35 ct35), sl35⟩) (c35 : PySem.W.codeIn K cd35 "_law_is_square" = true) (k35 : PySem.W.keepIn K (.ref f35) = true)
    (a36 : PySem.W.nsIn K mainGlobals "_law_sign" = some (some (.ref f36))) (l36 : K.lookup f36 = some ⟨oc36, od36, .func (PySem.W.fnOf "_law_sign" "_law_sign" (defArgs s_l_sign) (defBody s_l_sign) (defScope s_l_sign) .none kV36 dc36 pm36 an36 cd36 ct36), sl36⟩) (c36 : PySem.W.codeIn K cd36 "_law_sign" = true) (k36 : PySem.W.keepIn K (.ref f36) = true)
    (a37 : PySem.W.nsIn K mainGlobals "_law_sign_one" = some (some (.ref f37))) (l37 : K.lookup f37 = some ⟨oc37, od37, .func (PySem.W.fnOf "_law_sign_one" "_law_sign_one" (defArgs s_l_sign_one) (defBody s_l_sign_one) (defScope s_l_sign_one) .none kV37 dc37 pm37 an37 cd37 ct37), sl37⟩) (c37 : PySem.W.codeIn K cd37 "_law_sign_one" = true) (k37 : PySem.W.keepIn K (.ref f37) = true)
    (a38 : PySem.W.nsIn K mainGlobals "_law_spread" = some (some (.ref f38))) (l38 : K.lookup f38 = some ⟨oc38, od38, .func (PySem.W.fnOf "_law_spread" "_law_spread" (defArgs s_l_spread) (defBody s_l_spread) (defScope s_l_spread) .none kV38 dc38 pm38 an38 cd38 ct38), sl38⟩) (c38 : PySem.W.codeIn K cd38 "_law_spread" = true) (k38 : PySem.W.keepIn K (.ref f38) = true)
    (a39 : PySem.W.nsIn K mainGlobals "_law_formed" = some (some (.ref f39))) (l39 : K.lookup f39 = some ⟨oc39, od39, .func (PySem.W.fnOf "_law_formed" "_law_formed" (defArgs s_l_formed) (defBody s_l_formed) (defScope s_l_formed) .none kV39 dc39 pm39 an39 cd39 ct39), sl39⟩) (c39 : PySem.W.codeIn K cd39 "_law_formed" = true) (k39 : PySem.W.keepIn K (.ref f39) = true)
    (a40 : PySem.W.nsIn K mainGlobals "_law_both" = some (some (.ref f40))) (l40 : K.lookup f40 = some ⟨oc40, od40, .func (PySem.W.fnOf "_law_both" "_law_both" (defArgs s_l_both) (defBody s_l_both) (defScope s_l_both) .none kV40 dc40 pm40 an40 cd40 ct40), sl40⟩) (c40 : PySem.W.codeIn K cd40 "_law_both" = true) (k40 : PySem.W.keepIn K (.ref f40) = true)
    (a41 : PySem.W.nsIn K mainGlobals "_law_seat" = some (some (.ref f41))) (l41 : K.lookup f41 = some ⟨oc41, od41, .func (PySem.W.fnOf "_law_seat" "_law_seat" (defArgs s_l_seat) (defBody s_l_seat) (defScope s_l_seat) .none kV41 dc41 pm41 an41 cd41 ct41), sl41⟩) (c41 : PySem.W.codeIn K cd41 "_law_seat" = true) (k41 : PySem.W.keepIn K (.ref f41) = true)
    (a42 : PySem.W.nsIn K mainGlobals "_law_place" = some (some (.ref f42))) (l42 : K.lookup f42 = some ⟨oc42, od42, .func (PySem.W.fnOf "_law_place" "_law_place" (defArgs s_l_place) (defBody s_l_place) (defScope s_l_place) .none kV42 dc42 pm42 an42 cd42 ct42), sl42⟩) (c42 : PySem.W.codeIn K cd42 "_law_place" = true) (k42 : PySem.W.keepIn K (.ref f42) = true)
    (a43 : PySem.W.nsIn K mainGlobals "_law_bar" = some (some (.ref f43))) (l43 : K.lookup f43 = some ⟨oc43, od43, .func (PySem.W.fnOf "_law_bar" "_law_bar" (defArgs s_l_bar) (defBody s_l_bar) (defScope s_l_bar) .none kV43 dc43 pm43 an43 cd43 ct43), sl43⟩) (c43 : PySem.W.codeIn K cd43 "_law_bar" = true) (k43 : PySem.W.keepIn K (.ref f43) = true)
    (a44 : PySem.W.nsIn K mainGlobals "_law_ring" = some (some (.ref f44))) (l44 : K.lookup f44 = some ⟨oc44, od44, .func (PySem.W.fnOf "_law_ring" "_law_ring" (defArgs s_l_ring) (defBody s_l_ring) (defScope s_l_ring) .none kV44 dc44 pm44 an44 cd44 ct44), sl44⟩) (c44 : PySem.W.codeIn K cd44 "_law_ring" = true) (k44 : PySem.W.keepIn K (.ref f44) = true)
    (a45 : PySem.W.nsIn K mainGlobals "_law_form" = some (some (.ref f45))) (l45 : K.lookup f45 = some ⟨oc45, od45, .func (PySem.W.fnOf "_law_form" "_law_form" (defArgs s_l_form) (defBody s_l_form) (defScope s_l_form) .none kV45 dc45 pm45 an45 cd45 ct45), sl45⟩) (c45 : PySem.W.codeIn K cd45 "_law_form" = true) (k45 : PySem.W.keepIn K (.ref f45) = true)
    (a46 : PySem.W.nsIn K mainGlobals "_law_side" = some (some (.ref f46))) (l46 : K.lookup f46 = some ⟨oc46, od46, .func (PySem.W.fnOf "_law_side" "_law_side" (defArgs s_l_side) (defBody s_l_side) (defScope s_l_side) .none kV46 dc46 pm46 an46 cd46 ct46), sl46⟩) (c46 : PySem.W.codeIn K cd46 "_law_side" = true) (k46 : PySem.W.keepIn K (.ref f46) = true)
    (a47 : PySem.W.nsIn K mainGlobals "_law_chord" = some (some (.ref f47))) (l47 : K.lookup f47 = some ⟨oc47, od47, .func (PySem.W.fnOf "_law_chord" "_law_chord" (defArgs s_l_chord) (defBody s_l_chord) (defScope s_l_chord) .none kV47 dc47 pm47 an47 cd47 ct47), sl47⟩) (c47 : PySem.W.codeIn K cd47 "_law_chord" = true) (k47 : PySem.W.keepIn K (.ref f47) = true)
    (a48 : PySem.W.nsIn K mainGlobals "_law_meet" = some (some (.ref f48))) (l48 : K.lookup f48 = some ⟨oc48, od48, .func (PySem.W.fnOf "_law_meet" "_law_meet" (defArgs s_l_meet) (defBody s_l_meet) (defScope s_l_meet) .none kV48 dc48 pm48 an48 cd48 ct48), sl48⟩) (c48 : PySem.W.codeIn K cd48 "_law_meet" = true) (k48 : PySem.W.keepIn K (.ref f48) = true)
    (a49 : PySem.W.nsIn K mainGlobals "_law_small" = some (some (.ref f49))) (l49 : K.lookup f49 = some ⟨oc49, od49, .func (PySem.W.fnOf "_law_small" "_law_small" (defArgs s_l_small) (defBody s_l_small) (defScope s_l_small) .none kV49 dc49 pm49 an49 cd49 ct49), sl49⟩) (c49 : PySem.W.codeIn K cd49 "_law_small" = true) (k49 : PySem.W.keepIn K (.ref f49) = true)
    (a50 : PySem.W.nsIn K mainGlobals "_law_point" = some (some (.ref f50))) (l50 : K.lookup f50 = some ⟨oc50, od50, .func (PySem.W.fnOf "_law_point" "_law_point" (defArgs s_l_point) (defBody s_l_point) (defScope s_l_point) .none kV50 dc50 pm50 an50 cd50 ct50), sl50⟩) (c50 : PySem.W.codeIn K cd50 "_law_point" = true) (k50 : PySem.W.keepIn K (.ref f50) = true)
    (a51 : PySem.W.nsIn K mainGlobals "_law_size" = some (some (.ref f51))) (l51 : K.lookup f51 = some ⟨oc51, od51, .func (PySem.W.fnOf "_law_size" "_law_size" (defArgs s_l_size) (defBody s_l_size) (defScope s_l_size) .none kV51 dc51 pm51 an51 cd51 ct51), sl51⟩) (c51 : PySem.W.codeIn K cd51 "_law_size" = true) (k51 : PySem.W.keepIn K (.ref f51) = true)
    (a52 : PySem.W.nsIn K mainGlobals "_law_disc" = some (some (.ref f52))) (l52 : K.lookup f52 = some ⟨oc52, od52, .func (PySem.W.fnOf "_law_disc" "_law_disc" (defArgs s_l_disc) (defBody s_l_disc) (defScope s_l_disc) .none kV52 dc52 pm52 an52 cd52 ct52), sl52⟩) (c52 : PySem.W.codeIn K cd52 "_law_disc" = true) (k52 : PySem.W.keepIn K (.ref f52) = true)
    (a53 : PySem.W.nsIn K mainGlobals "_law_line" = some (some (.ref f53))) (l53 : K.lookup f53 = some ⟨oc53, od53, .func (PySem.W.fnOf "_law_line" "_law_line" (defArgs s_l_line) (defBody s_l_line) (defScope s_l_line) .none kV53 dc53 pm53 an53 cd53 ct53), sl53⟩) (c53 : PySem.W.codeIn K cd53 "_law_line" = true) (k53 : PySem.W.keepIn K (.ref f53) = true)
    (a54 : PySem.W.nsIn K mainGlobals "_law_beside" = some (some (.ref f54))) (l54 : K.lookup f54 = some ⟨oc54, od54, .func (PySem.W.fnOf "_law_beside" "_law_beside" (defArgs s_l_beside) (defBody s_l_beside) (defScope s_l_beside) .none kV54 dc54 pm54 an54 cd54 ct54), sl54⟩) (c54 : PySem.W.codeIn K cd54 "_law_beside" = true) (k54 : PySem.W.keepIn K (.ref f54) = true)
    (a55 : PySem.W.nsIn K mainGlobals "_law_through" = some (some (.ref f55))) (l55 : K.lookup f55 = some ⟨oc55, od55, .func (PySem.W.fnOf "_law_through" "_law_through" (defArgs s_l_through) (defBody s_l_through) (defScope s_l_through) .none kV55 dc55 pm55 an55 cd55 ct55), sl55⟩) (c55 : PySem.W.codeIn K cd55 "_law_through" = true) (k55 : PySem.W.keepIn K (.ref f55) = true)
    (a56 : PySem.W.nsIn K mainGlobals "_law_curve" = some (some (.ref f56))) (l56 : K.lookup f56 = some ⟨oc56, od56, .func (PySem.W.fnOf "_law_curve" "_law_curve" (defArgs s_l_curve) (defBody s_l_curve) (defScope s_l_curve) .none kV56 dc56 pm56 an56 cd56 ct56), sl56⟩) (c56 : PySem.W.codeIn K cd56 "_law_curve" = true) (k56 : PySem.W.keepIn K (.ref f56) = true)
    (a57 : PySem.W.nsIn K mainGlobals "_law_seat_drawn" = some (some (.ref f57))) (l57 : K.lookup f57 = some ⟨oc57, od57, .func (PySem.W.fnOf "_law_seat_drawn" "_law_seat_drawn" (defArgs s_l_seat_drawn) (defBody s_l_seat_drawn) (defScope s_l_seat_drawn) .none kV57 dc57 pm57 an57 cd57 ct57), sl57⟩) (c57 : PySem.W.codeIn K cd57 "_law_seat_drawn" = true) (k57 : PySem.W.keepIn K (.ref f57) = true)
    (a58 : PySem.W.nsIn K mainGlobals "_law_right" = some (some (.ref f58))) (l58 : K.lookup f58 = some ⟨oc58, od58, .func (PySem.W.fnOf "_law_right" "_law_right" (defArgs s_l_right) (defBody s_l_right) (defScope s_l_right) .none kV58 dc58 pm58 an58 cd58 ct58), sl58⟩) (c58 : PySem.W.codeIn K cd58 "_law_right" = true) (k58 : PySem.W.keepIn K (.ref f58) = true)
    (a59 : PySem.W.nsIn K mainGlobals "law" = some (some (.ref f59))) (l59 : K.lookup f59 = some ⟨oc59, od59, .func (PySem.W.fnOf "law" "law" (defArgs s_l_law) (defBody s_l_law) (defScope s_l_law) .none kV59 dc59 pm59 an59 cd59 ct59), sl59⟩) (c59 : PySem.W.codeIn K cd59 "law" = true) (k59 : PySem.W.keepIn K (.ref f59) = true)
    (z_len : PySem.W.nsIn K mainGlobals "len" = some none)
    (z_abs : PySem.W.nsIn K mainGlobals "abs" = some none)
    (z_divmod : PySem.W.nsIn K mainGlobals "divmod" = some none)
    (z_repr : PySem.W.nsIn K mainGlobals "repr" = some none)
    (z_int : PySem.W.nsIn K mainGlobals "int" = some none)
    (z_list : PySem.W.nsIn K mainGlobals "list" = some none)
    (z_tuple : PySem.W.nsIn K mainGlobals "tuple" = some none)
    (z_max : PySem.W.nsIn K mainGlobals "max" = some none)
    (z_min : PySem.W.nsIn K mainGlobals "min" = some none)
    (z_all : PySem.W.nsIn K mainGlobals "all" = some none)
    (z_isinstance : PySem.W.nsIn K mainGlobals "isinstance" = some none)
    (z_bool : PySem.W.nsIn K mainGlobals "bool" = some none)
    (z_range : PySem.W.nsIn K mainGlobals "range" = some none)
    (z_str : PySem.W.nsIn K mainGlobals "str" = some none)
    (z_ValueError : PySem.W.nsIn K mainGlobals "ValueError" = some none)
    (g_gcd : PySem.W.nsIn K mainGlobals "gcd" = some (some (.builtin "math.gcd")))
    (g_isqrt : PySem.W.nsIn K mainGlobals "isqrt" = some (some (.builtin "math.isqrt")))
    (gC_InvalidPlace : PySem.W.nsIn K mainGlobals "InvalidPlace" = some (some (.ref C_InvalidPlace))) (xL_InvalidPlace : K.lookup C_InvalidPlace = some (excClassObj nm_InvalidPlace q_InvalidPlace C_InvalidPlace Nn_InvalidPlace bs_InvalidPlace bm_InvalidPlace true sn_InvalidPlace sub_InvalidPlace ab_InvalidPlace col_InvalidPlace dd_InvalidPlace ma_InvalidPlace mb_InvalidPlace mc_InvalidPlace md_InvalidPlace me_InvalidPlace "ValueError.__new__")) (rv_InvalidPlace : PySem.HandSPX.refsVE bm_InvalidPlace = true) (sa_InvalidPlace : PySem.W.findIn K (.ref C_InvalidPlace) "__setattr__" = some (some (.builtin "object.__setattr__"))) (ga_InvalidPlace : PySem.W.findIn K (.ref C_InvalidPlace) "__getattribute__" = some (some (.builtin "BaseException.__getattribute__"))) (gg_InvalidPlace : PySem.W.findIn K (.ref C_InvalidPlace) "__getattr__" = some none) (no_InvalidPlace : PySem.W.findIn K (.ref C_InvalidPlace) "given" = some none) (iC_InvalidPlace : PySem.W.findIn K (.ref C_InvalidPlace) "__init__" = some (some (.ref fI_InvalidPlace))) (tI_InvalidPlace : PySem.W.typeIn K (.ref fI_InvalidPlace) = some (.type "function")) (lI_InvalidPlace : K.lookup fI_InvalidPlace = some ⟨ocX_InvalidPlace, odX_InvalidPlace, .func (PySem.W.fnOf "__init__" "InvalidPlace.__init__" (defArgs s_iInvalidPlace) (defBody s_iInvalidPlace) (defScope s_iInvalidPlace) .none kVX_InvalidPlace dcX_InvalidPlace pmX_InvalidPlace anX_InvalidPlace cdX_InvalidPlace ctX_InvalidPlace), slX_InvalidPlace⟩) (cI_InvalidPlace : PySem.W.codeIn K cdX_InvalidPlace "InvalidPlace.__init__" = true) (kI_InvalidPlace : PySem.W.keepIn K (.ref fI_InvalidPlace) = true) (kC_InvalidPlace : PySem.W.keepIn K (.ref C_InvalidPlace) = true) (eC_InvalidPlace : PySem.W.subIn K (.ref C_InvalidPlace) (.type "BaseException") = some true) (tC_InvalidPlace : PySem.W.typeIn K (.ref C_InvalidPlace) = some (.type "type")) (hC_InvalidPlace : PySem.W.hasDictIn K C_InvalidPlace = true) (te_InvalidPlace : PySem.W.exmOne K (.ref C_InvalidPlace) (.ref C_InvalidPlace) = some true)
    (gC_InvalidCurve : PySem.W.nsIn K mainGlobals "InvalidCurve" = some (some (.ref C_InvalidCurve))) (xL_InvalidCurve : K.lookup C_InvalidCurve = some (excClassObj nm_InvalidCurve q_InvalidCurve C_InvalidCurve Nn_InvalidCurve bs_InvalidCurve bm_InvalidCurve true sn_InvalidCurve sub_InvalidCurve ab_InvalidCurve col_InvalidCurve dd_InvalidCurve ma_InvalidCurve mb_InvalidCurve mc_InvalidCurve md_InvalidCurve me_InvalidCurve "ValueError.__new__")) (rv_InvalidCurve : PySem.HandSPX.refsVE bm_InvalidCurve = true) (sa_InvalidCurve : PySem.W.findIn K (.ref C_InvalidCurve) "__setattr__" = some (some (.builtin "object.__setattr__"))) (ga_InvalidCurve : PySem.W.findIn K (.ref C_InvalidCurve) "__getattribute__" = some (some (.builtin "BaseException.__getattribute__"))) (gg_InvalidCurve : PySem.W.findIn K (.ref C_InvalidCurve) "__getattr__" = some none) (no_InvalidCurve : PySem.W.findIn K (.ref C_InvalidCurve) "given" = some none) (iC_InvalidCurve : PySem.W.findIn K (.ref C_InvalidCurve) "__init__" = some (some (.ref fI_InvalidCurve))) (tI_InvalidCurve : PySem.W.typeIn K (.ref fI_InvalidCurve) = some (.type "function")) (lI_InvalidCurve : K.lookup fI_InvalidCurve = some ⟨ocX_InvalidCurve, odX_InvalidCurve, .func (PySem.W.fnOf "__init__" "InvalidCurve.__init__" (defArgs s_iInvalidCurve) (defBody s_iInvalidCurve) (defScope s_iInvalidCurve) .none kVX_InvalidCurve dcX_InvalidCurve pmX_InvalidCurve anX_InvalidCurve cdX_InvalidCurve ctX_InvalidCurve), slX_InvalidCurve⟩) (cI_InvalidCurve : PySem.W.codeIn K cdX_InvalidCurve "InvalidCurve.__init__" = true) (kI_InvalidCurve : PySem.W.keepIn K (.ref fI_InvalidCurve) = true) (kC_InvalidCurve : PySem.W.keepIn K (.ref C_InvalidCurve) = true) (eC_InvalidCurve : PySem.W.subIn K (.ref C_InvalidCurve) (.type "BaseException") = some true) (tC_InvalidCurve : PySem.W.typeIn K (.ref C_InvalidCurve) = some (.type "type")) (hC_InvalidCurve : PySem.W.hasDictIn K C_InvalidCurve = true) (te_InvalidCurve : PySem.W.exmOne K (.ref C_InvalidCurve) (.ref C_InvalidCurve) = some true) : Top K mg where
  d_p_reduced := ⟨_, _, fun_mk (st := s_p_reduced) l0 c0 k0, PySem.W.mg_of X G a0, (fun_mk (st := s_p_reduced) l0 c0 k0).binds fun _ _ _ _ _ _ us hl => match us, hl with | [_, _], _ => rfl⟩
  d_p_discriminant := ⟨_, _, fun_mk (st := s_p_discriminant) l1 c1 k1, PySem.W.mg_of X G a1, (fun_mk (st := s_p_discriminant) l1 c1 k1).binds fun _ _ _ _ _ _ us hl => match us, hl with | [_], _ => rfl⟩
  d_p_surd_of := ⟨_, _, fun_mk (st := s_p_surd_of) l2 c2 k2, PySem.W.mg_of X G a2, (fun_mk (st := s_p_surd_of) l2 c2 k2).binds fun _ _ _ _ _ _ us hl => match us, hl with | [_], _ => rfl⟩
  d_p_number_of := ⟨_, _, fun_mk (st := s_p_number_of) l3 c3 k3, PySem.W.mg_of X G a3, (fun_mk (st := s_p_number_of) l3 c3 k3).binds fun _ _ _ _ _ _ us hl => match us, hl with | [_, _, _, _], _ => rfl⟩
  d_p_is_square := ⟨_, _, fun_mk (st := s_p_is_square) l4 c4 k4, PySem.W.mg_of X G a4, (fun_mk (st := s_p_is_square) l4 c4 k4).binds fun _ _ _ _ _ _ us hl => match us, hl with | [_], _ => rfl⟩
  d_p_have_one_field := ⟨_, _, fun_mk (st := s_p_have_one_field) l5 c5 k5, PySem.W.mg_of X G a5, (fun_mk (st := s_p_have_one_field) l5 c5 k5).binds fun _ _ _ _ _ _ us hl => match us, hl with | [_, _], _ => rfl⟩
  d_p_over_one_root := ⟨_, _, fun_mk (st := s_p_over_one_root) l6 c6 k6, PySem.W.mg_of X G a6, (fun_mk (st := s_p_over_one_root) l6 c6 k6).binds fun _ _ _ _ _ _ us hl => match us, hl with | [_, _], _ => rfl⟩
  d_p_add := ⟨_, _, fun_mk (st := s_p_add) l7 c7 k7, PySem.W.mg_of X G a7, (fun_mk (st := s_p_add) l7 c7 k7).binds fun _ _ _ _ _ _ us hl => match us, hl with | [_, _], _ => rfl⟩
  d_p_negative := ⟨_, _, fun_mk (st := s_p_negative) l8 c8 k8, PySem.W.mg_of X G a8, (fun_mk (st := s_p_negative) l8 c8 k8).binds fun _ _ _ _ _ _ us hl => match us, hl with | [_], _ => rfl⟩
  d_p_subtract := ⟨_, _, fun_mk (st := s_p_subtract) l9 c9 k9, PySem.W.mg_of X G a9, (fun_mk (st := s_p_subtract) l9 c9 k9).binds fun _ _ _ _ _ _ us hl => match us, hl with | [_, _], _ => rfl⟩
  d_p_multiply := ⟨_, _, fun_mk (st := s_p_multiply) l10 c10 k10, PySem.W.mg_of X G a10, (fun_mk (st := s_p_multiply) l10 c10 k10).binds fun _ _ _ _ _ _ us hl => match us, hl with | [_, _], _ => rfl⟩
  d_p_squared := ⟨_, _, fun_mk (st := s_p_squared) l11 c11 k11, PySem.W.mg_of X G a11, (fun_mk (st := s_p_squared) l11 c11 k11).binds fun _ _ _ _ _ _ us hl => match us, hl with | [_], _ => rfl⟩
  d_p_sign := ⟨_, _, fun_mk (st := s_p_sign) l12 c12 k12, PySem.W.mg_of X G a12, (fun_mk (st := s_p_sign) l12 c12 k12).binds fun _ _ _ _ _ _ us hl => match us, hl with | [_], _ => rfl⟩
  d_p_sign_of_two := ⟨_, _, fun_mk (st := s_p_sign_of_two) l13 c13 k13, PySem.W.mg_of X G a13, (fun_mk (st := s_p_sign_of_two) l13 c13 k13).binds fun _ _ _ _ _ _ us hl => match us, hl with | [_, _, _], _ => rfl⟩
  d_p_sign_of := ⟨_, _, fun_mk (st := s_p_sign_of) l14 c14 k14, PySem.W.mg_of X G a14, (fun_mk (st := s_p_sign_of) l14 c14 k14).binds fun _ _ _ _ _ _ us hl => match us, hl with | [_], _ => rfl⟩
  d_p_value_at := ⟨_, _, fun_mk (st := s_p_value_at) l15 c15 k15, PySem.W.mg_of X G a15, (fun_mk (st := s_p_value_at) l15 c15 k15).binds fun _ _ _ _ _ _ us hl => match us, hl with | [_, _], _ => rfl⟩
  d_p_side_of := ⟨_, _, fun_mk (st := s_p_side_of) l16 c16 k16, PySem.W.mg_of X G a16, (fun_mk (st := s_p_side_of) l16 c16 k16).binds fun _ _ _ _ _ _ us hl => match us, hl with | [_, _], _ => rfl⟩
  d_p_is_whole := ⟨_, _, fun_mk (st := s_p_is_whole) l17 c17 k17, PySem.W.mg_of X G a17, (fun_mk (st := s_p_is_whole) l17 c17 k17).binds fun _ _ _ _ _ _ us hl => match us, hl with | [_], _ => rfl⟩
  d_p_is_fraction := ⟨_, _, fun_mk (st := s_p_is_fraction) l18 c18 k18, PySem.W.mg_of X G a18, (fun_mk (st := s_p_is_fraction) l18 c18 k18).binds fun _ _ _ _ _ _ us hl => match us, hl with | [_], _ => rfl⟩
  d_p_is_root := ⟨_, _, fun_mk (st := s_p_is_root) l19 c19 k19, PySem.W.mg_of X G a19, (fun_mk (st := s_p_is_root) l19 c19 k19).binds fun _ _ _ _ _ _ us hl => match us, hl with | [_], _ => rfl⟩
  d_p_is_number := ⟨_, _, fun_mk (st := s_p_is_number) l20 c20 k20, PySem.W.mg_of X G a20, (fun_mk (st := s_p_is_number) l20 c20 k20).binds fun _ _ _ _ _ _ us hl => match us, hl with | [_], _ => rfl⟩
  d_p_is_place := ⟨_, _, fun_mk (st := s_p_is_place) l21 c21 k21, PySem.W.mg_of X G a21, (fun_mk (st := s_p_is_place) l21 c21 k21).binds fun _ _ _ _ _ _ us hl => match us, hl with | [_], _ => rfl⟩
  d_p_is_curve := ⟨_, _, fun_mk (st := s_p_is_curve) l22 c22 k22, PySem.W.mg_of X G a22, (fun_mk (st := s_p_is_curve) l22 c22 k22).binds fun _ _ _ _ _ _ us hl => match us, hl with | [_], _ => rfl⟩
  d_p_check_place := ⟨_, _, fun_mk (st := s_p_check_place) l23 c23 k23, PySem.W.mg_of X G a23, (fun_mk (st := s_p_check_place) l23 c23 k23).binds fun _ _ _ _ _ _ us hl => match us, hl with | [_], _ => rfl⟩
  d_p_check_curve := ⟨_, _, fun_mk (st := s_p_check_curve) l24 c24 k24, PySem.W.mg_of X G a24, (fun_mk (st := s_p_check_curve) l24 c24 k24).binds fun _ _ _ _ _ _ us hl => match us, hl with | [_], _ => rfl⟩
  d_p_sign_at := ⟨_, _, fun_mk (st := s_p_sign_at) l25 c25 k25, PySem.W.mg_of X G a25, (fun_mk (st := s_p_sign_at) l25 c25 k25).binds fun _ _ _ _ _ _ us hl => match us, hl with | [_, _], _ => rfl⟩
  d_l_well := ⟨_, _, fun_mk (st := s_l_well) l26 c26 k26, PySem.W.mg_of X G a26, (fun_mk (st := s_l_well) l26 c26 k26).binds fun _ _ _ _ _ _ us hl => match us, hl with | [_, _], _ => rfl⟩
  d_l_draw := ⟨_, _, fun_mk (st := s_l_draw) l27 c27 k27, PySem.W.mg_of X G a27, (fun_mk (st := s_l_draw) l27 c27 k27).binds fun _ _ _ _ _ _ us hl => match us, hl with | [_, _], _ => rfl⟩
  d_l_pick := ⟨_, _, fun_mk (st := s_l_pick) l28 c28 k28, PySem.W.mg_of X G a28, (fun_mk (st := s_l_pick) l28 c28 k28).binds fun _ _ _ _ _ _ us hl => match us, hl with | [_, _], _ => rfl⟩
  d_l_common := ⟨_, _, fun_mk (st := s_l_common) l29 c29 k29, PySem.W.mg_of X G a29, (fun_mk (st := s_l_common) l29 c29 k29).binds fun _ _ _ _ _ _ us hl => match us, hl with | [_, _], _ => rfl⟩
  d_l_lean := ⟨_, _, fun_mk (st := s_l_lean) l30 c30 k30, PySem.W.mg_of X G a30, (fun_mk (st := s_l_lean) l30 c30 k30).binds fun _ _ _ _ _ _ us hl => match us, hl with | [_, _], _ => rfl⟩
  d_l_add := ⟨_, _, fun_mk (st := s_l_add) l31 c31 k31, PySem.W.mg_of X G a31, (fun_mk (st := s_l_add) l31 c31 k31).binds fun _ _ _ _ _ _ us hl => match us, hl with | [_, _], _ => rfl⟩
  d_l_mul := ⟨_, _, fun_mk (st := s_l_mul) l32 c32 k32, PySem.W.mg_of X G a32, (fun_mk (st := s_l_mul) l32 c32 k32).binds fun _ _ _ _ _ _ us hl => match us, hl with | [_, _], _ => rfl⟩
  d_l_neg := ⟨_, _, fun_mk (st := s_l_neg) l33 c33 k33, PySem.W.mg_of X G a33, (fun_mk (st := s_l_neg) l33 c33 k33).binds fun _ _ _ _ _ _ us hl => match us, hl with | [_], _ => rfl⟩
  d_l_root := ⟨_, _, fun_mk (st := s_l_root) l34 c34 k34, PySem.W.mg_of X G a34, (fun_mk (st := s_l_root) l34 c34 k34).binds fun _ _ _ _ _ _ us hl => match us, hl with | [_], _ => rfl⟩
  d_l_is_square := ⟨_, _, fun_mk (st := s_l_is_square) l35 c35 k35, PySem.W.mg_of X G a35, (fun_mk (st := s_l_is_square) l35 c35 k35).binds fun _ _ _ _ _ _ us hl => match us, hl with | [_], _ => rfl⟩
  d_l_sign := ⟨_, _, fun_mk (st := s_l_sign) l36 c36 k36, PySem.W.mg_of X G a36, (fun_mk (st := s_l_sign) l36 c36 k36).binds fun _ _ _ _ _ _ us hl => match us, hl with | [_], _ => rfl⟩
  d_l_sign_one := ⟨_, _, fun_mk (st := s_l_sign_one) l37 c37 k37, PySem.W.mg_of X G a37, (fun_mk (st := s_l_sign_one) l37 c37 k37).binds fun _ _ _ _ _ _ us hl => match us, hl with | [_, _, _], _ => rfl⟩
  d_l_spread := ⟨_, _, fun_mk (st := s_l_spread) l38 c38 k38, PySem.W.mg_of X G a38, (fun_mk (st := s_l_spread) l38 c38 k38).binds fun _ _ _ _ _ _ us hl => match us, hl with | [_], _ => rfl⟩
  d_l_formed := ⟨_, _, fun_mk (st := s_l_formed) l39 c39 k39, PySem.W.mg_of X G a39, (fun_mk (st := s_l_formed) l39 c39 k39).binds fun _ _ _ _ _ _ us hl => match us, hl with | [_], _ => rfl⟩
  d_l_both := ⟨_, _, fun_mk (st := s_l_both) l40 c40 k40, PySem.W.mg_of X G a40, (fun_mk (st := s_l_both) l40 c40 k40).binds fun _ _ _ _ _ _ us hl => match us, hl with | [_, _], _ => rfl⟩
  d_l_seat := ⟨_, _, fun_mk (st := s_l_seat) l41 c41 k41, PySem.W.mg_of X G a41, (fun_mk (st := s_l_seat) l41 c41 k41).binds fun _ _ _ _ _ _ us hl => match us, hl with | [_], _ => rfl⟩
  d_l_place := ⟨_, _, fun_mk (st := s_l_place) l42 c42 k42, PySem.W.mg_of X G a42, (fun_mk (st := s_l_place) l42 c42 k42).binds fun _ _ _ _ _ _ us hl => match us, hl with | [_], _ => rfl⟩
  d_l_bar := ⟨_, _, fun_mk (st := s_l_bar) l43 c43 k43, PySem.W.mg_of X G a43, (fun_mk (st := s_l_bar) l43 c43 k43).binds fun _ _ _ _ _ _ us hl => match us, hl with | [_], _ => rfl⟩
  d_l_ring := ⟨_, _, fun_mk (st := s_l_ring) l44 c44 k44, PySem.W.mg_of X G a44, (fun_mk (st := s_l_ring) l44 c44 k44).binds fun _ _ _ _ _ _ us hl => match us, hl with | [_], _ => rfl⟩
  d_l_form := ⟨_, _, fun_mk (st := s_l_form) l45 c45 k45, PySem.W.mg_of X G a45, (fun_mk (st := s_l_form) l45 c45 k45).binds fun _ _ _ _ _ _ us hl => match us, hl with | [_], _ => rfl⟩
  d_l_side := ⟨_, _, fun_mk (st := s_l_side) l46 c46 k46, PySem.W.mg_of X G a46, (fun_mk (st := s_l_side) l46 c46 k46).binds fun _ _ _ _ _ _ us hl => match us, hl with | [_, _], _ => rfl⟩
  d_l_chord := ⟨_, _, fun_mk (st := s_l_chord) l47 c47 k47, PySem.W.mg_of X G a47, (fun_mk (st := s_l_chord) l47 c47 k47).binds fun _ _ _ _ _ _ us hl => match us, hl with | [_, _], _ => rfl⟩
  d_l_meet := ⟨_, _, fun_mk (st := s_l_meet) l48 c48 k48, PySem.W.mg_of X G a48, (fun_mk (st := s_l_meet) l48 c48 k48).binds fun _ _ _ _ _ _ us hl => match us, hl with | [_, _], _ => rfl⟩
  d_l_small := ⟨_, _, fun_mk (st := s_l_small) l49 c49 k49, PySem.W.mg_of X G a49, (fun_mk (st := s_l_small) l49 c49 k49).binds fun _ _ _ _ _ _ us hl => match us, hl with | [_], _ => rfl⟩
  d_l_point := ⟨_, _, fun_mk (st := s_l_point) l50 c50 k50, PySem.W.mg_of X G a50, (fun_mk (st := s_l_point) l50 c50 k50).binds fun _ _ _ _ _ _ us hl => match us, hl with | [_], _ => rfl⟩
  d_l_size := ⟨_, _, fun_mk (st := s_l_size) l51 c51 k51, PySem.W.mg_of X G a51, (fun_mk (st := s_l_size) l51 c51 k51).binds fun _ _ _ _ _ _ us hl => match us, hl with | [_], _ => rfl⟩
  d_l_disc := ⟨_, _, fun_mk (st := s_l_disc) l52 c52 k52, PySem.W.mg_of X G a52, (fun_mk (st := s_l_disc) l52 c52 k52).binds fun _ _ _ _ _ _ us hl => match us, hl with | [_], _ => rfl⟩
  d_l_line := ⟨_, _, fun_mk (st := s_l_line) l53 c53 k53, PySem.W.mg_of X G a53, (fun_mk (st := s_l_line) l53 c53 k53).binds fun _ _ _ _ _ _ us hl => match us, hl with | [_], _ => rfl⟩
  d_l_beside := ⟨_, _, fun_mk (st := s_l_beside) l54 c54 k54, PySem.W.mg_of X G a54, (fun_mk (st := s_l_beside) l54 c54 k54).binds fun _ _ _ _ _ _ us hl => match us, hl with | [_, _], _ => rfl⟩
  d_l_through := ⟨_, _, fun_mk (st := s_l_through) l55 c55 k55, PySem.W.mg_of X G a55, (fun_mk (st := s_l_through) l55 c55 k55).binds fun _ _ _ _ _ _ us hl => match us, hl with | [_, _], _ => rfl⟩
  d_l_curve := ⟨_, _, fun_mk (st := s_l_curve) l56 c56 k56, PySem.W.mg_of X G a56, (fun_mk (st := s_l_curve) l56 c56 k56).binds fun _ _ _ _ _ _ us hl => match us, hl with | [_, _], _ => rfl⟩
  d_l_seat_drawn := ⟨_, _, fun_mk (st := s_l_seat_drawn) l57 c57 k57, PySem.W.mg_of X G a57, (fun_mk (st := s_l_seat_drawn) l57 c57 k57).binds fun _ _ _ _ _ _ us hl => match us, hl with | [_], _ => rfl⟩
  d_l_right := ⟨_, _, fun_mk (st := s_l_right) l58 c58 k58, PySem.W.mg_of X G a58, (fun_mk (st := s_l_right) l58 c58 k58).binds fun _ _ _ _ _ _ us hl => match us, hl with | [_], _ => rfl⟩
  d_l_law := ⟨_, _, fun_mk (st := s_l_law) l59 c59 k59, PySem.W.mg_of X G a59, (fun_mk (st := s_l_law) l59 c59 k59).binds fun _ _ _ _ _ _ us hl => match us, hl with | [_], _ => rfl⟩
  z_len := PySem.W.mg_none_of X G z_len
  z_abs := PySem.W.mg_none_of X G z_abs
  z_divmod := PySem.W.mg_none_of X G z_divmod
  z_repr := PySem.W.mg_none_of X G z_repr
  z_int := PySem.W.mg_none_of X G z_int
  z_list := PySem.W.mg_none_of X G z_list
  z_tuple := PySem.W.mg_none_of X G z_tuple
  z_max := PySem.W.mg_none_of X G z_max
  z_min := PySem.W.mg_none_of X G z_min
  z_all := PySem.W.mg_none_of X G z_all
  z_isinstance := PySem.W.mg_none_of X G z_isinstance
  z_bool := PySem.W.mg_none_of X G z_bool
  z_range := PySem.W.mg_none_of X G z_range
  z_str := PySem.W.mg_none_of X G z_str
  z_ValueError := PySem.W.mg_none_of X G z_ValueError
  g_gcd := PySem.W.mg_of X G g_gcd
  g_isqrt := PySem.W.mg_of X G g_isqrt
  e_InvalidPlace := ⟨C_InvalidPlace, fI_InvalidPlace, _, { gC := PySem.W.mg_of X G gC_InvalidPlace, ox := ⟨⟨nm_InvalidPlace, q_InvalidPlace, Nn_InvalidPlace, bs_InvalidPlace, bm_InvalidPlace, sn_InvalidPlace, sub_InvalidPlace, ab_InvalidPlace, col_InvalidPlace, dd_InvalidPlace, ma_InvalidPlace, mb_InvalidPlace, mc_InvalidPlace, md_InvalidPlace, me_InvalidPlace, xL_InvalidPlace, rv_InvalidPlace⟩, sa_InvalidPlace, eC_InvalidPlace, tC_InvalidPlace, kC_InvalidPlace⟩, xf := ⟨ga_InvalidPlace, gg_InvalidPlace, eC_InvalidPlace, hC_InvalidPlace⟩, iC := iC_InvalidPlace, tI := tI_InvalidPlace, te := te_InvalidPlace, no := no_InvalidPlace, fn := fun_mk (st := s_iInvalidPlace) lI_InvalidPlace cI_InvalidPlace kI_InvalidPlace, bd := (fun_mk (st := s_iInvalidPlace) lI_InvalidPlace cI_InvalidPlace kI_InvalidPlace).binds fun _ _ _ _ _ _ us hl => match us, hl with | [_, _], _ => rfl }⟩
  e_InvalidCurve := ⟨C_InvalidCurve, fI_InvalidCurve, _, { gC := PySem.W.mg_of X G gC_InvalidCurve, ox := ⟨⟨nm_InvalidCurve, q_InvalidCurve, Nn_InvalidCurve, bs_InvalidCurve, bm_InvalidCurve, sn_InvalidCurve, sub_InvalidCurve, ab_InvalidCurve, col_InvalidCurve, dd_InvalidCurve, ma_InvalidCurve, mb_InvalidCurve, mc_InvalidCurve, md_InvalidCurve, me_InvalidCurve, xL_InvalidCurve, rv_InvalidCurve⟩, sa_InvalidCurve, eC_InvalidCurve, tC_InvalidCurve, kC_InvalidCurve⟩, xf := ⟨ga_InvalidCurve, gg_InvalidCurve, eC_InvalidCurve, hC_InvalidCurve⟩, iC := iC_InvalidCurve, tI := tI_InvalidCurve, te := te_InvalidCurve, no := no_InvalidCurve, fn := fun_mk (st := s_iInvalidCurve) lI_InvalidCurve cI_InvalidCurve kI_InvalidCurve, bd := (fun_mk (st := s_iInvalidCurve) lI_InvalidCurve cI_InvalidCurve kI_InvalidCurve).binds fun _ _ _ _ _ _ us hl => match us, hl with | [_, _], _ => rfl }⟩
end My
open PySem PySem.W PyProof.Rows
set_option maxRecDepth 100000 in
set_option maxHeartbeats 0 in
theorem PySem.Challenge.cw_planehall_k08_whole_sides_of_places_holds : PySem.Challenge.rw_planehall_k08_whole_sides_of_places.Holds := by
  w_on; o_law; k_head; (case hw => w_witness2)
  k_fill
  refine Lw.walk_law (l := PySem.Challenge.rw_planehall_k08_whole_sides_of_places) (k := 10) rfl rfl ⟨rfl, by decide, by decide⟩ (fun w h Y => PySem.W.kIn_of Y) ?F
  case F =>
    intro w mg h KX G base b1 b2
    refine My.c_l_law ?T
    refine' My.top_mk KX G ?a0 ?l0 ?c0 ?k0 ?a1 ?l1 ?c1 ?k1 ?a2 ?l2 ?c2 ?k2 ?a3 ?l3 ?c3 ?k3 ?a4 ?l4 ?c4 ?k4 ?a5 ?l5 ?c5 ?k5 ?a6 ?l6 ?c6 ?k6 ?a7 ?l7 ?c7 ?k7 ?a8 ?l8 ?c8 ?k8 ?a9 ?l9 ?c9 ?k9 ?a10 ?l10 ?c10 ?k10 ?a11 ?l11 ?c11 ?k11 ?a12 ?l12 ?c12 ?k12 ?a13 ?l13 ?c13 ?k13 ?a14 ?l14 ?c14 ?k14 ?a15 ?l15 ?c15 ?k15 ?a16 ?l16 ?c16 ?k16 ?a17 ?l17 ?c17 ?k17 ?a18 ?l18 ?c18 ?k18 ?a19 ?l19 ?c19 ?k19 ?a20 ?l20 ?c20 ?k20 ?a21 ?l21 ?c21 ?k21 ?a22 ?l22 ?c22 ?k22 ?a23 ?l23 ?c23 ?k23 ?a24 ?l24 ?c24 ?k24 ?a25 ?l25 ?c25 ?k25 ?a26 ?l26 ?c26 ?k26 ?a27 ?l27 ?c27 ?k27 ?a28 ?l28 ?c28 ?k28 ?a29 ?l29 ?c29 ?k29 ?a30 ?l30 ?c30 ?k30 ?a31 ?l31 ?c31 ?k31 ?a32 ?l32 ?c32 ?k32 ?a33 ?l33 ?c33 ?k33 ?a34 ?l34 ?c34 ?k34 ?a35 ?l35 ?c35 ?k35 ?a36 ?l36 ?c36 ?k36 ?a37 ?l37 ?c37 ?k37 ?a38 ?l38 ?c38 ?k38 ?a39 ?l39 ?c39 ?k39 ?a40 ?l40 ?c40 ?k40 ?a41 ?l41 ?c41 ?k41 ?a42 ?l42 ?c42 ?k42 ?a43 ?l43 ?c43 ?k43 ?a44 ?l44 ?c44 ?k44 ?a45 ?l45 ?c45 ?k45 ?a46 ?l46 ?c46 ?k46 ?a47 ?l47 ?c47 ?k47 ?a48 ?l48 ?c48 ?k48 ?a49 ?l49 ?c49 ?k49 ?a50 ?l50 ?c50 ?k50 ?a51 ?l51 ?c51 ?k51 ?a52 ?l52 ?c52 ?k52 ?a53 ?l53 ?c53 ?k53 ?a54 ?l54 ?c54 ?k54 ?a55 ?l55 ?c55 ?k55 ?a56 ?l56 ?c56 ?k56 ?a57 ?l57 ?c57 ?k57 ?a58 ?l58 ?c58 ?k58 ?a59 ?l59 ?c59 ?k59 ?z_len ?z_abs ?z_divmod ?z_repr ?z_int ?z_list ?z_tuple ?z_max ?z_min ?z_all ?z_isinstance ?z_bool ?z_range ?z_str ?z_ValueError ?g_gcd ?g_isqrt ?gC_InvalidPlace ?xL_InvalidPlace ?rv_InvalidPlace ?sa_InvalidPlace ?ga_InvalidPlace ?gg_InvalidPlace ?no_InvalidPlace ?iC_InvalidPlace ?tI_InvalidPlace ?lI_InvalidPlace ?cI_InvalidPlace ?kI_InvalidPlace ?kC_InvalidPlace ?eC_InvalidPlace ?tC_InvalidPlace ?hC_InvalidPlace ?te_InvalidPlace ?gC_InvalidCurve ?xL_InvalidCurve ?rv_InvalidCurve ?sa_InvalidCurve ?ga_InvalidCurve ?gg_InvalidCurve ?no_InvalidCurve ?iC_InvalidCurve ?tI_InvalidCurve ?lI_InvalidCurve ?cI_InvalidCurve ?kI_InvalidCurve ?kC_InvalidCurve ?eC_InvalidCurve ?tC_InvalidCurve ?hC_InvalidCurve ?te_InvalidCurve
    (case a0 => k_is)
    (case l0 => k_is)
    (case c0 => k_is)
    (case k0 => k_is)
    (case a1 => k_is)
    (case l1 => k_is)
    (case c1 => k_is)
    (case k1 => k_is)
    (case a2 => k_is)
    (case l2 => k_is)
    (case c2 => k_is)
    (case k2 => k_is)
    (case a3 => k_is)
    (case l3 => k_is)
    (case c3 => k_is)
    (case k3 => k_is)
    (case a4 => k_is)
    (case l4 => k_is)
    (case c4 => k_is)
    (case k4 => k_is)
    (case a5 => k_is)
    (case l5 => k_is)
    (case c5 => k_is)
    (case k5 => k_is)
    (case a6 => k_is)
    (case l6 => k_is)
    (case c6 => k_is)
    (case k6 => k_is)
    (case a7 => k_is)
    (case l7 => k_is)
    (case c7 => k_is)
    (case k7 => k_is)
    (case a8 => k_is)
    (case l8 => k_is)
    (case c8 => k_is)
    (case k8 => k_is)
    (case a9 => k_is)
    (case l9 => k_is)
    (case c9 => k_is)
    (case k9 => k_is)
    (case a10 => k_is)
    (case l10 => k_is)
    (case c10 => k_is)
    (case k10 => k_is)
    (case a11 => k_is)
    (case l11 => k_is)
    (case c11 => k_is)
    (case k11 => k_is)
    (case a12 => k_is)
    (case l12 => k_is)
    (case c12 => k_is)
    (case k12 => k_is)
    (case a13 => k_is)
    (case l13 => k_is)
    (case c13 => k_is)
    (case k13 => k_is)
    (case a14 => k_is)
    (case l14 => k_is)
    (case c14 => k_is)
    (case k14 => k_is)
    (case a15 => k_is)
    (case l15 => k_is)
    (case c15 => k_is)
    (case k15 => k_is)
    (case a16 => k_is)
    (case l16 => k_is)
    (case c16 => k_is)
    (case k16 => k_is)
    (case a17 => k_is)
    (case l17 => k_is)
    (case c17 => k_is)
    (case k17 => k_is)
    (case a18 => k_is)
    (case l18 => k_is)
    (case c18 => k_is)
    (case k18 => k_is)
    (case a19 => k_is)
    (case l19 => k_is)
    (case c19 => k_is)
    (case k19 => k_is)
    (case a20 => k_is)
    (case l20 => k_is)
    (case c20 => k_is)
    (case k20 => k_is)
    (case a21 => k_is)
    (case l21 => k_is)
    (case c21 => k_is)
    (case k21 => k_is)
    (case a22 => k_is)
    (case l22 => k_is)
    (case c22 => k_is)
    (case k22 => k_is)
    (case a23 => k_is)
    (case l23 => k_is)
    (case c23 => k_is)
    (case k23 => k_is)
    (case a24 => k_is)
    (case l24 => k_is)
    (case c24 => k_is)
    (case k24 => k_is)
    (case a25 => k_is)
    (case l25 => k_is)
    (case c25 => k_is)
    (case k25 => k_is)
    (case a26 => k_is)
    (case l26 => k_is)
    (case c26 => k_is)
    (case k26 => k_is)
    (case a27 => k_is)
    (case l27 => k_is)
    (case c27 => k_is)
    (case k27 => k_is)
    (case a28 => k_is)
    (case l28 => k_is)
    (case c28 => k_is)
    (case k28 => k_is)
    (case a29 => k_is)
    (case l29 => k_is)
    (case c29 => k_is)
    (case k29 => k_is)
    (case a30 => k_is)
    (case l30 => k_is)
    (case c30 => k_is)
    (case k30 => k_is)
    (case a31 => k_is)
    (case l31 => k_is)
    (case c31 => k_is)
    (case k31 => k_is)
    (case a32 => k_is)
    (case l32 => k_is)
    (case c32 => k_is)
    (case k32 => k_is)
    (case a33 => k_is)
    (case l33 => k_is)
    (case c33 => k_is)
    (case k33 => k_is)
    (case a34 => k_is)
    (case l34 => k_is)
    (case c34 => k_is)
    (case k34 => k_is)
    (case a35 => k_is)
    (case l35 => k_is)
    (case c35 => k_is)
    (case k35 => k_is)
    (case a36 => k_is)
    (case l36 => k_is)
    (case c36 => k_is)
    (case k36 => k_is)
    (case a37 => k_is)
    (case l37 => k_is)
    (case c37 => k_is)
    (case k37 => k_is)
    (case a38 => k_is)
    (case l38 => k_is)
    (case c38 => k_is)
    (case k38 => k_is)
    (case a39 => k_is)
    (case l39 => k_is)
    (case c39 => k_is)
    (case k39 => k_is)
    (case a40 => k_is)
    (case l40 => k_is)
    (case c40 => k_is)
    (case k40 => k_is)
    (case a41 => k_is)
    (case l41 => k_is)
    (case c41 => k_is)
    (case k41 => k_is)
    (case a42 => k_is)
    (case l42 => k_is)
    (case c42 => k_is)
    (case k42 => k_is)
    (case a43 => k_is)
    (case l43 => k_is)
    (case c43 => k_is)
    (case k43 => k_is)
    (case a44 => k_is)
    (case l44 => k_is)
    (case c44 => k_is)
    (case k44 => k_is)
    (case a45 => k_is)
    (case l45 => k_is)
    (case c45 => k_is)
    (case k45 => k_is)
    (case a46 => k_is)
    (case l46 => k_is)
    (case c46 => k_is)
    (case k46 => k_is)
    (case a47 => k_is)
    (case l47 => k_is)
    (case c47 => k_is)
    (case k47 => k_is)
    (case a48 => k_is)
    (case l48 => k_is)
    (case c48 => k_is)
    (case k48 => k_is)
    (case a49 => k_is)
    (case l49 => k_is)
    (case c49 => k_is)
    (case k49 => k_is)
    (case a50 => k_is)
    (case l50 => k_is)
    (case c50 => k_is)
    (case k50 => k_is)
    (case a51 => k_is)
    (case l51 => k_is)
    (case c51 => k_is)
    (case k51 => k_is)
    (case a52 => k_is)
    (case l52 => k_is)
    (case c52 => k_is)
    (case k52 => k_is)
    (case a53 => k_is)
    (case l53 => k_is)
    (case c53 => k_is)
    (case k53 => k_is)
    (case a54 => k_is)
    (case l54 => k_is)
    (case c54 => k_is)
    (case k54 => k_is)
    (case a55 => k_is)
    (case l55 => k_is)
    (case c55 => k_is)
    (case k55 => k_is)
    (case a56 => k_is)
    (case l56 => k_is)
    (case c56 => k_is)
    (case k56 => k_is)
    (case a57 => k_is)
    (case l57 => k_is)
    (case c57 => k_is)
    (case k57 => k_is)
    (case a58 => k_is)
    (case l58 => k_is)
    (case c58 => k_is)
    (case k58 => k_is)
    (case a59 => k_is)
    (case l59 => k_is)
    (case c59 => k_is)
    (case k59 => k_is)
    (case z_len => k_is)
    (case z_abs => k_is)
    (case z_divmod => k_is)
    (case z_repr => k_is)
    (case z_int => k_is)
    (case z_list => k_is)
    (case z_tuple => k_is)
    (case z_max => k_is)
    (case z_min => k_is)
    (case z_all => k_is)
    (case z_isinstance => k_is)
    (case z_bool => k_is)
    (case z_range => k_is)
    (case z_str => k_is)
    (case z_ValueError => k_is)
    (case g_gcd => k_is)
    (case g_isqrt => k_is)
    (case gC_InvalidPlace => k_is)
    (case xL_InvalidPlace => k_is)
    (case rv_InvalidPlace => decide +kernel)
    (case sa_InvalidPlace => k_is)
    (case ga_InvalidPlace => k_is)
    (case gg_InvalidPlace => k_is)
    (case no_InvalidPlace => k_is)
    (case iC_InvalidPlace => k_is)
    (case tI_InvalidPlace => k_is)
    (case lI_InvalidPlace => k_is)
    (case cI_InvalidPlace => k_is)
    (case kI_InvalidPlace => k_is)
    (case kC_InvalidPlace => k_is)
    (case eC_InvalidPlace => k_is)
    (case tC_InvalidPlace => k_is)
    (case hC_InvalidPlace => k_is)
    (case te_InvalidPlace => first | rfl | k_is)
    (case gC_InvalidCurve => k_is)
    (case xL_InvalidCurve => k_is)
    (case rv_InvalidCurve => decide +kernel)
    (case sa_InvalidCurve => k_is)
    (case ga_InvalidCurve => k_is)
    (case gg_InvalidCurve => k_is)
    (case no_InvalidCurve => k_is)
    (case iC_InvalidCurve => k_is)
    (case tI_InvalidCurve => k_is)
    (case lI_InvalidCurve => k_is)
    (case cI_InvalidCurve => k_is)
    (case kI_InvalidCurve => k_is)
    (case kC_InvalidCurve => k_is)
    (case eC_InvalidCurve => k_is)
    (case tC_InvalidCurve => k_is)
    (case hC_InvalidCurve => k_is)
    (case te_InvalidCurve => first | rfl | k_is)

