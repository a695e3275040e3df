import PyProof.Rows.All
import Wide.All
import OpenK.AllK
import Wide.FinOn
import HandS.ForExc
import HandS.ForMost
import HandS.Gcd
import HandS.Wide
import HandS.WideBits
import HandS.IsInst
import HandS.TupAny
import HandS.Style
import HandS.ExcInit
import HandS.ExcField
import PyProof.NeData
import Flt.RightSqrt
import PyProof.ReprLen
import PyProof.Rows.IntBool
import PyProof.TwoTypesSub
import PyProof.Rows.EqBoolInt
import KE.KMathG
import HandS.Rev
import HandS.Iter
import HandS.Zip
import HandS.Flow
import HandS.Deep
import PySem.Challenge.RW_planehall_k02_numbers_of_anything
set_option Elab.async false
set_option linter.all false
set_option maxRecDepth 100000
set_option exponentiation.threshold 50000
set_option maxHeartbeats 4000000
namespace Lw
open PySem PySem.Spec PyProof.Rows L2

/-! ### promises of defs that may ask for a text of data: no such asking is under way -/
structure FnG (CX : CXT) (P : Program) (w : World) (K : PySem.W.Frag) (mg : Str → Option Value) (base : Heap) (k : Nat) (f : Addr) (fd : FuncData) (ps : List Str) (sp : Sp) : Prop where
  len : ∀ vs H Q E, sp vs H Q E → vs.length = ps.length
  run : ∀ (A : Around), Room k A → A.guards = some [] → ∀ (outer : List Env) (s : Shared) (H : Hp), Env0 P w K mg base A outer s H →
    ∀ (args : Args) (us : List Value) (vs : List V), BindsTo s fd args (ps.zip us) → Vals vs us → ∀ (Q : VK) (E : XK), sp vs H Q E → codeAny (model P w) A (.call (.ref f) args) (CR CX outer P w H s Q E) s
section
variable {CX : CXT} {P : Program} {w : World} {K : PySem.W.Frag} {mg : Str → Option Value} {base : Heap}
theorem FnG.of {k : Nat} {f : Addr} {fd : FuncData} {ps : List Str} {sp : Sp} (F : FnOk P w K mg base CX k f fd ps sp) : FnG CX P w K mg base k f fd ps sp :=
  ⟨F.len, fun A hr _ outer s H e0 args us vs hb r Q E h => F.run A outer s H args us vs Q E hr e0 hb r h⟩

/-- a def of the text, by its name -/
structure Dn (K : PySem.W.Frag) (mg : Str → Option Value) (x : Str) (st : Stmt) (ps : List Str) : Prop where
  ex : ∃ f fd, Fun K x x st f fd ∧ mg x = some (.ref f) ∧ Binds K fd ps []
/-- a def that may be called by its name; CX: how an exception leaves it -/
structure Cl (CX : CXT) (P : Program) (w : World) (K : PySem.W.Frag) (mg : Str → Option Value) (base : Heap) (k : Nat) (x : Str) (sp : Sp) : Prop where
  ex : ∃ f fd ps, FnG CX P w K mg base k f fd ps sp ∧ mg x = some (.ref f) ∧ PySem.W.keepIn K (.ref f) = true ∧ Binds K fd ps []
theorem Cl.imp {k : Nat} {x : Str} {sp sp' : Sp} (c : Cl CX P w K mg base k x sp) (h : ∀ vs H Q E, sp' vs H Q E → sp vs H Q E) : Cl CX P w K mg base k x sp' := by
  obtain ⟨f, fd, ps, F, a, b, d⟩ := c.ex
  exact ⟨f, fd, ps, ⟨fun vs H Q E z => F.len vs H Q E (h vs H Q E z), fun A hr hg outer s H e0 args us vs hb r Q E z => F.run A hr hg outer s H e0 args us vs hb r Q E (h _ _ _ _ z)⟩, a, b, d⟩

theorem Dn.call {x : Str} {st : Stmt} {N ps : List Str} {k : Nat} {sp : Sp} (D : Dn K mg x st ps) (S : FnScope N ps (defScope st)) (len : ∀ vs H Q E, sp vs H Q E → vs.length = ps.length)
    (hbody : ∀ (f : Addr) (cdv : Value) (A : Around) (outer : List Env) (s : Shared) (H : Hp) (vs : List V) (Q : VK) (E : XK), Room k (A.deeper (envOfC x (defScope st) s.heap.objs.size f cdv)) → A.guards = some [] → sp vs H Q E →
      ∃ t, PSs (cxOf CX P w K mg base N x (defScope st) f cdv A outer s H E) (defBody st) t ∧ t { nx := fun _ H' => Q .non H', rt := Q } (L2.start N vs) H) : Cl CX P w K mg base (k + 1) x sp := by
  obtain ⟨f, fd, F, hm, hb⟩ := D.ex
  refine ⟨f, fd, ps, ⟨len, fun A hr hg outer s H e0 args us vs bt r Q E h => ?_⟩, hm, F.kp, hb⟩
  obtain ⟨oc, od, kV, doc, pm, an, cdv, ct, osl, rfl, lk, hcd⟩ := F.ex
  have kept : ∀ b o, base.get? b = some o → s.heap.get? b = some o := fun b o q => (e0.bs b o q).1
  have inK : K.In s.heap := e0.mod.kin.keeps kept
  refine codeAny_call_function hr.depth (inK _ _ lk) rfl S.co S.gen rfl
    (PySem.W.codeRec_of inK hcd) (bt _ _ _ _ ?_)
  have slots : ∀ y ∈ ps.zip us, (defScope st).names.lookup y.1 = some .local ∨
      ((defScope st).names.lookup y.1 = some .cell ∧ ((cellsFrom (s.heap.objs.size + 1) (defScope st).names []).lookup y.1).isSome = true) := by
    rintro ⟨n, v⟩ hy
    exact (S.par n (List.of_mem_zip hy).1).imp (fun q => q) fun q => ⟨q, PySem.W.cellsFrom_some _ _ _ (.inl q)⟩
  refine wpAny_newFunctionEnv_cells S.kind slots fun env he s1 C => ?_
  cases he
  refine ⟨(e0.mod.nolimit.keeps kept).keeps C.toInCall.keep, codeAny_func ?_⟩
  obtain ⟨t, ht, hq⟩ := hbody f cdv A outer s H vs Q E (hr.deeper _) hg h
  have I0 := inv_start (CX := CX) (E := E) S hr.hd e0 (len _ _ _ _ h) r C
  refine wpAny_mono (ht.run [] s1 _ H _ I0 hq) ?_ fun _ _ z => z
  rintro (_ | _ | _ | u) s' z
  · obtain ⟨σ', H', J, q⟩ := z
    exact ⟨V.non, H', J.os, J.bare, J.base, J.hok, rfl, q⟩
  · obtain ⟨_, _, _, q⟩ := z
    exact q.elim
  · obtain ⟨_, _, _, q⟩ := z
    exact q.elim
  · obtain ⟨v, σ', H', J, rv, q⟩ := z
    exact ⟨v, H', J.os, J.bare, J.base, J.hok, rv, q⟩
theorem Dn.cal {x : Str} {st : Stmt} {N ps : List Str} {k : Nat} {sp : Sp} (D : Dn K mg x st ps) (S : FnScope N ps (defScope st)) (len : ∀ vs H Q E, sp vs H Q E → vs.length = ps.length)
    (hbody : ∀ (f : Addr) (cdv : Value) (A : Around) (outer : List Env) (s : Shared) (H : Hp) (vs : List V) (Q : VK) (E : XK), Room k (A.deeper (envOfC x (defScope st) s.heap.objs.size f cdv)) → A.guards = some [] → sp vs H Q E →
      ∃ t, PSs (cxOf CX0 P w K mg base N x (defScope st) f cdv A outer s H E).nox (defBody st) t ∧ t { nx := fun _ H' => Q .non H', rt := Q } (L2.start N vs) H) : Cl CX0 P w K mg base (k + 1) x sp :=
  D.call S len fun f cdv A outer s H vs Q E hr hg h => by
    obtain ⟨t, ht, q⟩ := hbody f cdv A outer s H vs Q E hr hg h
    exact ⟨t, ht.nox, q⟩
end
theorem _root_.L2.PE.weak {X : Cx} {e : Expr} {t t' : TE} (h : PE X e t) (i : ∀ σ H Q, t' σ H Q → t σ H Q) : PE X e t' := ⟨fun pins s σ H Q I q => h.run pins s σ H Q I (i σ H Q q)⟩
theorem _root_.L2.PA.weak {X : Cx} {es : List Expr} {t t' : TA} (h : PA X es t) (i : ∀ σ H Q, t' σ H Q → t σ H Q) : PA X es t' := ⟨fun p pins s σ H Q I q => h.run p pins s σ H Q I (i σ H Q q)⟩
section
variable {X : Cx} {CX : CXT} {x : Str} {p pos : Pos} {e : Expr} {es : List Expr} {t : TA} {sp : Sp} {j k : Nat}
/-- what a callee's error, at the slots σ, does -/
theorem pe_clE {E : L2.St → XK} (c : Cl CX X.prog X.w X.K X.mg X.base k x sp) (hr : Room j X.A) (hG : X.A.guards = some []) (hx : ∀ σ, PassesAt CX X σ (E σ)) (hg : Gl X x) (ha : PA X (e :: es) t) (hk : k ≤ j := by decide)
    (hdb : (x == ("__debug__" : Str)) = false := by decide) (he : starEach (e :: es) X.env = (false, eval e X.env) :: starEach es X.env := by rfl) (hpl : (backTo pos (starEach es X.env)).any (·.1) = false := by rfl) :
    PE X (.Call (.Name x p) (e :: es) [] pos) (fun σ H Q => t σ H fun vs H1 => sp vs H1 Q (E σ)) := by
  obtain ⟨f, fd, ps, F, hm, kp, hb⟩ := c.ex
  refine ⟨fun pins s σ H Q I h => wpAny_Call_Name_kw (ld_glob I hg hm (PySem.W.callWith_K (h₀ := X.base) I.ok.mod.kin kp (thn (ha.run pos pins s σ H _ I h) ?_) he hpl) hdb)⟩
  rintro us s1 ⟨vs, H1, I1, r, q⟩
  have hl : us.length = ps.length := r.length ▸ F.len _ _ _ _ q
  have bt := hb s1 us I1.kIn (by rw [List.append_nil]; exact hl)
  rw [List.append_nil] at bt
  refine ⟨I1.kIn, wpAny_call (codeAny_mono (F.run X.A (hr.mono hk) hG X.stack s1 H1 I1.env0 ⟨us, []⟩ us vs bt r Q (E σ) q) ?_)⟩
  rintro (er | (_ | _ | _ | u)) s' z
  · exact hx σ pins H1 s1 er s' I1 z
  · exact z.elim
  · exact z.elim
  · exact z.elim
  · exact I1.after z
theorem pe_cl (c : Cl CX0 X.prog X.w X.K X.mg X.base k x sp) (hr : Room j X.A) (hG : X.A.guards = some []) (hg : Gl X x) (ha : PA X (e :: es) t) (hk : k ≤ j := by decide)
    (hdb : (x == ("__debug__" : Str)) = false := by decide) (he : starEach (e :: es) X.env = (false, eval e X.env) :: starEach es X.env := by rfl) (hpl : (backTo pos (starEach es X.env)).any (·.1) = false := by rfl) :
    PE X (.Call (.Name x p) (e :: es) [] pos) (fun σ H Q => t σ H fun vs H1 => sp vs H1 Q E0) :=
  pe_clE (E := fun _ => E0) c hr hG (fun _ _ _ _ _ _ _ z => z.elim) hg ha hk hdb he hpl
end
end Lw

namespace Lw
open PySem PySem.Spec PyProof.Rows L2
/-- what a law promises: a list of at most 63 ints is handed in, True comes out -/
def spLaw (K : PySem.W.Frag) : Sp := fun vs H Q _ => ∃ (a : Addr) (ns : List Int), vs = [.ref a] ∧ SqL K H a (ns.map V.int) ∧ ns.length ≤ 63 ∧ ∀ H', Q (.bl true) H'
section
variable {P : Program} {w : World} {K : PySem.W.Frag} {mg mb : Str → Option Value} {k : Nat} {fa a : Addr} {s : Shared} {vs : List Value} {ns : List Int}
/-- the script as the law finds it -/
def scriptO (vs : List Value) : Obj := { cls := .type "list", data := .seq vs.toArray }
open Classical in
noncomputable def scriptH (K : PySem.W.Frag) (a : Addr) (vs : List Value) (ns : List Int) : Hp := fun b =>
  if b = a ∧ K.lookup a = none then some (.frz (scriptO vs) (.lst (ns.map V.int))) else none
theorem scriptH_other {b : Addr} (h : ¬ (b = a ∧ K.lookup a = none)) : scriptH K a vs ns b = none := if_neg h
theorem scriptH_some {b : Addr} {u : HO} (h : scriptH K a vs ns b = some u) : b = a ∧ K.lookup a = none ∧ u = .frz (scriptO vs) (.lst (ns.map V.int)) := by
  by_cases c : b = a ∧ K.lookup a = none
  · unfold scriptH at h
    rw [if_pos c] at h
    exact ⟨c.1, c.2, (Option.some.inj h).symm⟩
  · rw [scriptH_other c] at h
    cases h
theorem scriptH_dict {b : Addr} {o : Obj} {es : Array DictEntry} {n : Nat} (ha : s.heap.get? a = some (scriptO vs)) (hb : s.heap.get? b = some o) (hd : o.data = .dict es n) : scriptH K a vs ns b = none := by
  refine scriptH_other fun c => ?_
  rw [c.1, ha] at hb
  cases hb
  cases hd
theorem script_run (hk : K.In s.heap) (hmain : s.heap.Ns mainGlobals mg) (hbi : s.heap.Ns builtinsNs mb) (hboot : ∀ x : Str, x ≠ "__name__" → mb x = bootBuiltins x) (hlim : s.heap.NoLimit) (hgens : s.gens = #[])
    (ha : s.heap.get? a = some (scriptO vs)) (hi : IntsAre vs ns) (hl : ns.length ≤ 63) (hr : Room k callerA)
    (F : ∀ base : Heap, K.In base → base.Ns mainGlobals mg → ∃ fd ps, FnG CX0 P w K mg base k fa fd ps (spLaw K) ∧ Binds K fd ps []) :
    codeAny (model P w) callerA (.call (.ref fa) ⟨[.ref a], []⟩) (fun r s' => r = .ok (.ret (.bool true)) ∧ OldK s.heap s'.heap ∧ s'.os = s.os ∧ AllBare s'.gens) s := by
  have size63 : ns.length ≤ sizeLine := Nat.le_trans hl (by decide)
  have rv : Vals (ns.map V.int) vs := vals_ints hi
  have down : ∀ {b : Addr} {m : Str → Option Value}, s.heap.Ns b m → (hidT s.heap (scriptH K a vs ns)).Ns b m := by
    rintro b m ⟨o, es, n, q, d, r⟩
    exact ⟨o, es, n, hidT_get q (scriptH_dict ha q d), d, r⟩
  have inB : K.In (hidT s.heap (scriptH K a vs ns)) := fun b o q => hidT_get (hk b o q) (scriptH_other fun c => by
    rw [c.1, c.2] at q
    cases q)
  have md : Mod K mg (hidT s.heap (scriptH K a vs ns)) := {
    kin := inB
    glob := down hmain
    blt := ⟨mb, down hbi, hboot⟩
    nolimit := by
      obtain ⟨mc, n1, n2⟩ := hlim
      exact ⟨mc, down n1, n2⟩ }
  have ok : HOk P w (scriptH K a vs ns) s.heap := fun b u q => by
    obtain ⟨rfl, _, rfl⟩ := scriptH_some q
    exact ⟨ha, by rw [List.length_map]; exact size63, vs, _, rv, ha⟩
  have e0 : Env0 P w K mg (hidT s.heap (scriptH K a vs ns)) callerA [] s (scriptH K a vs ns) := {
    frames := rfl
    mod := md
    bs := fun b o q => of_hidT q
    bsz := Nat.le_of_eq (hidT_size _ _)
    funs := trivial
    frf := fun b hb => nomatch hb
    hok := ok
    bare := .of_eq hgens }
  have sq : SqL K (scriptH K a vs ns) a (ns.map V.int) := by
    cases e : K.lookup a with
    | some o =>
      have q := hk a o e
      rw [ha] at q
      cases q
      exact .inr ⟨_, vs.toArray, _, e, rfl, rfl, rfl, by rw [List.size_toArray, hi.length]; exact size63, by simpa using rv⟩
    | none => exact .inl (.inr ⟨scriptO vs, if_pos ⟨rfl, e⟩⟩)
  obtain ⟨fd, ps, G, hb⟩ := F _ inB (down hmain)
  have hsp : spLaw K [.ref a] (scriptH K a vs ns) (fun v _ => v = .bl true) (fun _ _ _ => False) := ⟨a, ns, rfl, sq, hl, fun _ => rfl⟩
  have bt := hb s [.ref a] hk (by rw [List.append_nil]; exact G.len _ _ _ _ hsp)
  rw [List.append_nil] at bt
  refine codeAny_mono (G.run callerA hr rfl [] s _ e0 _ [.ref a] [.ref a] bt (.cons rfl .nil) _ _ hsp) ?_
  rintro (er | (_ | _ | _ | u)) s' z
  · exact z.elim
  · exact z.elim
  · exact z.elim
  · exact z.elim
  · obtain ⟨v, H', os, bare, un, ok', r', q⟩ := z
    cases (show v = .bl true from q)
    cases (show u = Value.bool true from r')
    refine ⟨rfl, OldK.of_keep fun b o q => ?_, os, bare⟩
    cases e : scriptH K a vs ns b with
    | none => exact un.keep b o q e (fun z => nomatch z) (fun z => nomatch z)
    | some u =>
      obtain ⟨rfl, _, rfl⟩ := scriptH_some e
      obtain ⟨now, _⟩ := ok' b _ (un.frzs b _ _ e)
      rw [ha] at q
      cases q
      exact now
end
/-- the law's end -/
theorem walk_law {l : PySem.W.OpenLaw} {k : Nat} {q : Program} {loose : List Str} {XP : (Str → Option Value) → Heap → Prop} {YP : World → Heap → Prop} {d : DefRec} {K : Params → PySem.W.Frag}
    (hn : l.most = some 63) (hdf : d.params.defaults = []) (hr : Room k callerA) (hY : ∀ (w : World) (h : Heap), YP w h → (K w.params).In h)
    (F : ∀ (w : World) (mg : Str → Option Value) (h : Heap), (K w.params).In h → h.Ns mainGlobals mg → ∀ base : Heap, (K w.params).In base → base.Ns mainGlobals mg → Cl CX0 l.prog w (K w.params) mg base k d.name (spLaw (K w.params))) :
    PySem.W.WalkO q loose XP YP l.row.toRowW d [] (fun f vs => PySem.call f vs) := by
  refine Att.attach_call hn hdf fun w s0 s1 mg mb fa o pm cd doc a vs ns G Y ho hd hcd hm hobj hi hl hg => ?_
  refine script_run (hY w _ Y) G.T.g G.T.b G.T.builtins G.T.nolimit hg hobj hi hl hr fun base b1 b2 => ?_
  obtain ⟨f, fd, ps, FG, mf, _, hb⟩ := (F w mg _ (hY w _ Y) G.T.g base b1 b2).ex
  rw [hm] at mf
  cases mf
  exact ⟨fd, ps, FG, hb⟩
end Lw

namespace Lw
open PySem PySem.Spec PyProof.Rows L2

/-! ### heaps: all but the forbidden addresses stay, and tuples stay -/
abbrev Ban := Addr → Prop
structure Sx (N : Ban) (H H' : Hp) : Prop where
  st : ∀ b u, ¬ N b → H b = some u → H' b = some u
  tp : ∀ b xs, H b = some (.tup xs) → H' b = some (.tup xs)
theorem Sx.refl (N : Ban) (H : Hp) : Sx N H H := ⟨fun _ _ _ q => q, fun _ _ q => q⟩
theorem Sx.trans {N : Ban} {H H1 H2 : Hp} (a : Sx N H H1) (b : Sx N H1 H2) : Sx N H H2 := ⟨fun c u n q => b.st c u n (a.st c u n q), fun c xs q => b.tp c xs (a.tp c xs q)⟩
theorem Sx.of {N : Ban} {H H1 : Hp} (a : Same H H1) : Sx N H H1 := ⟨fun c u _ q => a c u q, fun c xs q => a c _ q⟩
theorem same_new {H : Hp} {p : Addr} (h : H p = none) (o : HO) : Same H (upd H p o) := fun b u q => by rw [upd_ne (ne_of_none q h)]; exact q
theorem Sx.new {N : Ban} {p : Addr} {H : Hp} {o : HO} (h : H p = none) : Sx N H (upd H p o) := .of (same_new h o)
theorem Sx.free {N : Ban} {H H1 : Hp} (a : Sx N H H1) {l : Addr} (hn : ¬ N l) (h : H1 l = none) : H l = none := by
  cases q : H l with
  | none => rfl
  | some o =>
    rw [a.st l o hn q] at h
    cases h

/-! ### data on the heap -/
mutual
inductive Dv (N : Ban) (H : Hp) : V → PyData → Prop
  | non : Dv N H .non .none
  | bl (b : Bool) : Dv N H (.bl b) (.bool b)
  | int (i : Int) : Dv N H (.int i) (.int i)
  | str (x : Str) : Dv N H (.str x) (.str x)
  | lst {a : Addr} {xs : List V} {ds : List PyData} : ¬ N a → H a = some (.lst xs) → DvAll N H xs ds → Dv N H (.ref a) (.list ds)
  | tup {a : Addr} {xs : List V} {ds : List PyData} : H a = some (.tup xs) → DvAll N H xs ds → Dv N H (.ref a) (.tuple ds)
  | dct {a : Addr} : ¬ N a → H a = some (.dK []) → Dv N H (.ref a) (.dict [])
inductive DvAll (N : Ban) (H : Hp) : List V → List PyData → Prop
  | nil : DvAll N H [] []
  | cons {v : V} {vs : List V} {d : PyData} {ds : List PyData} : Dv N H v d → DvAll N H vs ds → DvAll N H (v :: vs) (d :: ds)
end
mutual
theorem Dv.map {N N' : Ban} {H H' : Hp} (k : ∀ b u, ¬ N b → H b = some u → H' b = some u ∧ ¬ N' b) (kt : ∀ b xs, H b = some (.tup xs) → H' b = some (.tup xs)) : ∀ (d : PyData) (v : V), Dv N H v d → Dv N' H' v d
  | .none, _, h => by cases h; exact .non
  | .bool _, _, h => by cases h; exact .bl _
  | .int _, _, h => by cases h; exact .int _
  | .str _, _, h => by cases h; exact .str _
  | .list ds, _, h => by
    cases h with
    | lst n e a => exact .lst (k _ _ n e).2 (k _ _ n e).1 (DvAll.map k kt ds _ a)
  | .tuple ds, _, h => by
    cases h with
    | tup e a => exact .tup (kt _ _ e) (DvAll.map k kt ds _ a)
  | .dict _, _, h => by
    cases h with
    | dct n e => exact .dct (k _ _ n e).2 (k _ _ n e).1
theorem DvAll.map {N N' : Ban} {H H' : Hp} (k : ∀ b u, ¬ N b → H b = some u → H' b = some u ∧ ¬ N' b) (kt : ∀ b xs, H b = some (.tup xs) → H' b = some (.tup xs)) : ∀ (ds : List PyData) (vs : List V), DvAll N H vs ds → DvAll N' H' vs ds
  | [], _, h => by cases h; exact .nil
  | d :: ds, _, h => by
    cases h with
    | cons a b => exact .cons (Dv.map k kt d _ a) (DvAll.map k kt ds _ b)
end
theorem Dv.up {N : Ban} {H H' : Hp} {d : PyData} {v : V} (h : Dv N H v d) (k : Sx N H H') : Dv N H' v d := h.map (fun b u n q => ⟨k.st b u n q, n⟩) k.tp _ _
theorem DvAll.up {N : Ban} {H H' : Hp} {ds : List PyData} {vs : List V} (h : DvAll N H vs ds) (k : Sx N H H') : DvAll N H' vs ds := h.map (fun b u n q => ⟨k.st b u n q, n⟩) k.tp _ _
theorem Dv.less {N N' : Ban} {H : Hp} {d : PyData} {v : V} (h : Dv N H v d) (k : ∀ b, N' b → N b) : Dv N' H v d := h.map (fun b u n q => ⟨q, fun z => n (k b z)⟩) (fun _ _ q => q) _ _
theorem Dv.same {N : Ban} {H H' : Hp} {d : PyData} {v : V} (h : Dv N H v d) (k : Same H H') : Dv N H' v d := h.up (.of k)
theorem DvAll.same {N : Ban} {H H' : Hp} {ds : List PyData} {vs : List V} (h : DvAll N H vs ds) (k : Same H H') : DvAll N H' vs ds := h.up (.of k)
theorem DvAll.length {N : Ban} {H : Hp} : ∀ {ds : List PyData} {vs : List V}, DvAll N H vs ds → vs.length = ds.length
  | _, _, .nil => rfl
  | _, _, .cons _ b => by simp [DvAll.length b]
theorem DvAll.get {N : Ban} {H : Hp} : ∀ {ds : List PyData} {vs : List V} {i : Nat} {d : PyData}, DvAll N H vs ds → ds[i]? = some d → ∃ v, vs[i]? = some v ∧ Dv N H v d
  | _, _, _, _, .nil, e => by simp at e
  | _, _, 0, _, .cons a _, e => by
    simp at e
    subst e
    exact ⟨_, rfl, a⟩
  | _, _, i + 1, _, .cons _ b, e => by
    obtain ⟨v, h1, h2⟩ := DvAll.get (i := i) b (by simpa using e)
    exact ⟨v, by simpa using h1, h2⟩
theorem DvAll.app {N : Ban} {H : Hp} : ∀ {ds es : List PyData} {vs us : List V}, DvAll N H vs ds → DvAll N H us es → DvAll N H (vs ++ us) (ds ++ es)
  | _, _, _, _, .nil, h => h
  | _, _, _, _, .cons a b, h => .cons a (DvAll.app b h)
theorem DvAll.take {N : Ban} {H : Hp} : ∀ {ds : List PyData} {vs : List V} (n : Nat), DvAll N H vs ds → DvAll N H (vs.take n) (ds.take n)
  | _, _, 0, _ => by simpa using .nil
  | _, _, _ + 1, .nil => .nil
  | _, _, n + 1, .cons a b => .cons a (DvAll.take n b)
theorem DvAll.drop {N : Ban} {H : Hp} : ∀ {ds : List PyData} {vs : List V} (n : Nat), DvAll N H vs ds → DvAll N H (vs.drop n) (ds.drop n)
  | _, _, 0, h => h
  | _, _, _ + 1, .nil => .nil
  | _, _, n + 1, .cons _ b => DvAll.drop n b
theorem DvAll.rev {N : Ban} {H : Hp} : ∀ {ds : List PyData} {vs : List V}, DvAll N H vs ds → DvAll N H vs.reverse ds.reverse
  | _, _, .nil => .nil
  | _, _, .cons a b => by
    rw [List.reverse_cons, List.reverse_cons]
    exact (DvAll.rev b).app (.cons a .nil)
theorem DvAll.nil_iff {N : Ban} {H : Hp} {ds : List PyData} {vs : List V} (h : DvAll N H vs ds) : vs = [] ↔ ds = [] := by
  cases h <;> simp
/-- ints -/
theorem DvAll.ints {N : Ban} {H : Hp} : ∀ ns : List Int, DvAll N H (ns.map V.int) (ns.map PyData.int)
  | [] => .nil
  | n :: r => .cons (.int n) (DvAll.ints r)

/-! ### types of data, for isinstance -/
def tyName : PyData → String
  | .none => "NoneType"
  | .bool _ => "bool"
  | .int _ => "int"
  | .str _ => "str"
  | .list _ => "list"
  | .tuple _ => "tuple"
  | .dict _ => "dict"
theorem Dv.ty {N : Ban} {K : PySem.W.Frag} {H : Hp} {v : V} {d : PyData} (h : Dv N H v d) : TyX K H v (.type (tyName d)) := by
  cases h with
  | non => exact .base .non
  | bl b => exact .base (.bl b)
  | int i => exact .base (.int i)
  | str x => exact .base (.str x)
  | lst n e a => exact .base (.lst e)
  | tup e a => exact .base (.tup e)
  | dct n e => exact .base (.dK e)
def isTup : PyData → Bool
  | .tuple _ => true
  | _ => false
def isInt : PyData → Bool
  | .int _ => true
  | .bool _ => true
  | _ => false
def isBool : PyData → Bool
  | .bool _ => true
  | _ => false
def isStr : PyData → Bool
  | .str _ => true
  | _ => false
def isWhole : PyData → Bool
  | .int _ => true
  | _ => false
theorem kit_tup (d : PyData) : kitB (tyName d) "tuple" = some (isTup d) := by cases d <;> simp only [tyName, isTup] <;> decide +kernel
theorem kit_int (d : PyData) : kitB (tyName d) "int" = some (isInt d) := by cases d <;> simp only [tyName, isInt] <;> decide +kernel
theorem kit_bool (d : PyData) : kitB (tyName d) "bool" = some (isBool d) := by cases d <;> simp only [tyName, isBool] <;> decide +kernel
theorem kit_str (d : PyData) : kitB (tyName d) "str" = some (isStr d) := by cases d <;> simp only [tyName, isStr] <;> decide +kernel
/-- isinstance(data, a built-in class) -/
def rIsD (T : String) (f : PyData → Bool) : List V → Hp → VK → Prop := fun xs H Q => ∃ (N : Ban) (v : V) (d : PyData), xs = [v, .ty T] ∧ Dv N H v d ∧ Q (.bl (f d)) H
theorem call_isD {X : Cx} {T : String} {f : PyData → Bool} (k : ∀ d, kitB (tyName d) T = some (f d)) : CallR X (.builtin "isinstance") (rIsD T f) := by
  intro pins s σ H xs us Q I r h
  obtain ⟨N, v, d, rfl, hd, q⟩ := h
  exact call_isi pins s σ H _ us Q I r ⟨v, .ty T, .type (tyName d), .type T, f d, rfl, .ty T, hd.ty, kit_ty (k d), q⟩

/-! ### a text of data -/
abbrev sysB : Ban := fun a => a = sysModules
section
variable {X : Cx} {pins : List (Addr × Obj)} {σ : L2.St} {H : Hp} {s : Shared}
mutual
theorem Dv.reads (I : Inv X pins σ H s) {N : Ban} : ∀ (d : PyData) (v : V) (u : Value), Dv N H v d → RelV v u → ∃ as, Reads s.heap u d as ∧ ∀ a ∈ as, ¬ N a
  | .none, _, _, h, r => by
    cases h
    cases r
    exact ⟨_, Reads.none, fun _ z => nomatch z⟩
  | .bool b, _, _, h, r => by
    cases h
    cases r
    exact ⟨_, Reads.bool b, fun _ z => nomatch z⟩
  | .int i, _, _, h, r => by
    cases h
    obtain ⟨t, rfl⟩ := r
    exact ⟨_, Reads.int i t, fun _ z => nomatch z⟩
  | .str x, _, _, h, r => by
    cases h
    obtain ⟨t, rfl⟩ := r
    exact ⟨_, Reads.str x t, fun _ z => nomatch z⟩
  | .list ds, _, _, h, r => by
    cases h with
    | lst n e ha =>
      cases r
      obtain ⟨z, its, k, rv, ho⟩ := (show ObjOk X.prog X.w H s.heap _ (.lst _) from I.hok _ _ e)
      obtain ⟨as, hr, na⟩ := DvAll.reads I ds _ its ha rv
      refine ⟨_, Reads.list ho rfl rfl hr, fun b hb => ?_⟩
      rcases List.mem_cons.mp hb with rfl | hb
      · exact n
      · exact na b hb
  | .tuple ds, _, _, h, r => by
    cases h with
    | tup e ha =>
      cases r
      obtain ⟨z, its, rv, o, ho, hc, k, hd⟩ := (show ObjOk X.prog X.w H s.heap _ (.tup _) from I.hok _ _ e)
      obtain ⟨as, hr, na⟩ := DvAll.reads I ds _ its ha rv
      exact ⟨_, Reads.tuple ho hc hd hr, na⟩
  | .dict _, _, _, h, r => by
    cases h with
    | dct n e =>
      cases r
      obtain ⟨z, _, vs, rv, o, es, ep, ho, hex, hdat, hkey, hes, _⟩ := (show ObjOk X.prog X.w H s.heap _ (.dK []) from I.hok _ _ e)
      cases rv
      have he : es.toList = [] := by
        revert hes
        generalize es.toList = l
        intro hes
        cases hes
        rfl
      refine ⟨_, Reads.dict ho hex.1 hdat (as := []) (bs := []) ?_ ?_, fun b hb => ?_⟩
      · rw [he]
        exact .nil
      · rw [he]
        exact .nil
      · simp at hb
        subst hb
        exact n
theorem DvAll.reads (I : Inv X pins σ H s) {N : Ban} : ∀ (ds : List PyData) (vs : List V) (us : List Value), DvAll N H vs ds → Vals vs us → ∃ as, ReadsAll s.heap us ds as ∧ ∀ a ∈ as, ¬ N a
  | [], _, _, h, r => by
    cases h
    cases r
    exact ⟨_, .nil, fun _ z => nomatch z⟩
  | d :: ds, _, _, h, r => by
    cases h with
    | cons h1 h2 =>
      cases r with
      | cons r1 r2 =>
        obtain ⟨as, q1, n1⟩ := Dv.reads I d _ _ h1 r1
        obtain ⟨bs, q2, n2⟩ := DvAll.reads I ds _ _ h2 r2
        refine ⟨_, .cons q1 q2, fun b hb => ?_⟩
        rcases List.mem_append.mp hb with hb | hb
        · exact n1 b hb
        · exact n2 b hb
end
end
/-- a text that may be told: all ints are not too great, it is not too deep, the text not too long; where there is a dict, no list or dict is the modules' own -/
def Tells (N : Ban) (d : PyData) : Prop := d.showable = true ∧ d.depth ≤ 100 ∧ d.shown.length ≤ sizeLine ∧ (d.hasDict = true → N sysModules)
def rRepr : List V → Hp → VK → Prop := fun xs H Q => ∃ (N : Ban) (v : V) (d : PyData), xs = [v] ∧ Dv N H v d ∧ Tells N d ∧ Q (.str d.shown) H
theorem call_repr {X : Cx} {k : Nat} (hr : Room k X.A) (hG : X.A.guards = some []) : CallR X (.builtin "repr") rRepr := by
  intro pins s σ H xs us Q I r h
  obtain ⟨N, v, d, rfl, hd, ⟨h1, h2, h3, h4⟩, q⟩ := h
  obtain ⟨u, rfl, rx⟩ := vals1 r
  have units := hr.un
  obtain ⟨as, rd, na⟩ := Dv.reads I d v u hd rx
  have ref : ∀ a, u = .ref a → wpAny (model X.prog X.w) X.A (call (.builtin "repr") [u]) (EP X pins σ Q) X.xe s := fun a e => by
    subst e
    refine repr_of_reads' rd h1 (fun z m => na _ m (h4 z)) hG (by omega) (fun _ _ q => q) (fun h' u' tk k => ?_) h3
    exact ⟨.str d.shown, H, I.kept k, ⟨_, rfl⟩, q⟩
  cases hd with
  | non =>
    cases rx
    exact PySem.P.repr_of_none ⟨.str _, H, I.tok _, ⟨_, rfl⟩, q⟩
  | bl b =>
    cases rx
    refine PySem.P.repr_of_bool ⟨.str _, H, I.tok _, ⟨s.toks, ?_⟩, q⟩
    cases b <;> rfl
  | int i =>
    obtain ⟨t, rfl⟩ := rx
    exact PySem.P.repr_of_int (by simpa [PyData.showable] using h1) ⟨.str _, H, I.tok _, ⟨_, rfl⟩, q⟩
  | str x =>
    obtain ⟨t, rfl⟩ := rx
    exact PySem.P.repr_of_str ⟨.str _, H, I.tok _, ⟨_, rfl⟩, q⟩ (by simpa [PyData.shown] using h3)
  | lst n e a => exact ref _ rx
  | tup e a => exact ref _ rx
  | dct n e => exact ref _ rx
end Lw

namespace Lw
open PySem PySem.Spec PyProof.Rows L2

/-! ### how long the text of data is -/
mutual
/-- leaves: ints below 2 ^ B in size, texts of short texts, no dict but the empty one -/
def fine (B : Nat) : PyData → Prop
  | .none => True
  | .bool _ => True
  | .int i => i.natAbs < 2 ^ B
  | .str x => (reprText x).length ≤ 100
  | .list xs => fineAll B xs
  | .tuple xs => fineAll B xs
  | .dict kvs => kvs = []
def fineAll (B : Nat) : List PyData → Prop
  | [] => True
  | x :: xs => fine B x ∧ fineAll B xs
end
mutual
def wt : PyData → Nat
  | .none => 2000
  | .bool _ => 2000
  | .int _ => 2000
  | .str _ => 2000
  | .list xs => wtAll xs + 2000
  | .tuple xs => wtAll xs + 2000
  | .dict _ => 2000
def wtAll : List PyData → Nat
  | [] => 0
  | x :: xs => wt x + 2 + wtAll xs
end
mutual
theorem fine_mono {B C : Nat} (h : B ≤ C) : ∀ d : PyData, fine B d → fine C d
  | .none, _ => trivial
  | .bool _, _ => trivial
  | .int i, f => Nat.lt_of_lt_of_le (show i.natAbs < 2 ^ B from f) (Nat.pow_le_pow_right (by decide) h)
  | .str _, f => f
  | .list xs, f => fineAll_mono h xs f
  | .tuple xs, f => fineAll_mono h xs f
  | .dict _, f => f
theorem fineAll_mono {B C : Nat} (h : B ≤ C) : ∀ ds : List PyData, fineAll B ds → fineAll C ds
  | [], _ => trivial
  | x :: xs, f => ⟨fine_mono h x f.1, fineAll_mono h xs f.2⟩
end
theorem log2_lt {n k : Nat} (hk : 0 < k) (h : n < 2 ^ k) : n.log2 < k := by
  by_cases z : n = 0
  · subst z
    rw [Nat.log2_zero]
    exact hk
  · exact (Nat.log2_lt z).mpr h
mutual
theorem fine_showable {B : Nat} (hB : B ≤ 1900) : ∀ d : PyData, fine B d → d.showable = true
  | .none, _ => rfl
  | .bool _, _ => rfl
  | .int i, f => by
    have h : i.natAbs < 2 ^ 1900 := Nat.lt_of_lt_of_le (show i.natAbs < 2 ^ B from f) (Nat.pow_le_pow_right (by decide) hB)
    have q := log2_lt (by decide) h
    show decide (i.natAbs.log2 < 1920) = true
    exact decide_eq_true (by omega)
  | .str _, _ => rfl
  | .list xs, f => fineAll_showable hB xs f
  | .tuple xs, f => fineAll_showable hB xs f
  | .dict kvs, f => by
    cases (show kvs = [] from f)
    rfl
theorem fineAll_showable {B : Nat} (hB : B ≤ 1900) : ∀ ds : List PyData, fineAll B ds → PyData.showableAll ds = true
  | [], _ => rfl
  | x :: xs, f => by
    show (x.showable && PyData.showableAll xs) = true
    rw [fine_showable hB x f.1, fineAll_showable hB xs f.2] <;> rfl
end
theorem shownAll_length : ∀ ds : List PyData, (PyData.shownAll ds).length = ds.length
  | [] => rfl
  | x :: xs => by
    show (PyData.shownAll xs).length + 1 = xs.length + 1
    rw [shownAll_length xs]
mutual
theorem shown_le {B : Nat} (hB : B ≤ 1900) : ∀ d : PyData, fine B d → d.shown.length ≤ wt d
  | .none, _ => by
    show (("None" : String) : Str).length ≤ 2000
    decide +kernel
  | .bool b, _ => by
    cases b
    · show (("False" : String) : Str).length ≤ 2000
      decide +kernel
    · show (("True" : String) : Str).length ≤ 2000
      decide +kernel
  | .int i, f => by
    have h : i.natAbs < 2 ^ 1900 := Nat.lt_of_lt_of_le (show i.natAbs < 2 ^ B from f) (Nat.pow_le_pow_right (by decide) hB)
    have q := int_text_length_le (a := i) (k := 1900) (by decide) (log2_lt (by decide) h)
    show (Str.ofString (toString i)).length ≤ 2000
    rw [PySem.ofString_length]
    omega
  | .str x, f => by
    have h : (reprText x).length ≤ 100 := f
    show (reprText x).length ≤ 2000
    omega
  | .list xs, f => by
    have h := shownAll_le hB xs f
    have q := listText_len_le (PyData.shownAll xs)
    rw [shownAll_length] at q
    show (listText (PyData.shownAll xs)).length ≤ wtAll xs + 2000
    omega
  | .tuple xs, f => by
    have h := shownAll_le hB xs f
    have q := tupleText_len_le (PyData.shownAll xs)
    rw [shownAll_length] at q
    show (tupleText (PyData.shownAll xs)).length ≤ wtAll xs + 2000
    omega
  | .dict kvs, f => by
    cases (show kvs = [] from f)
    show (dictText []).length ≤ 2000
    decide +kernel
theorem shownAll_le {B : Nat} (hB : B ≤ 1900) : ∀ ds : List PyData, fineAll B ds → ((PyData.shownAll ds).map (·.length)).sum + 2 * ds.length ≤ wtAll ds
  | [], _ => Nat.le_refl 0
  | x :: xs, f => by
    have h1 := shown_le hB x f.1
    have h2 := shownAll_le hB xs f.2
    show (x.shown.length :: (PyData.shownAll xs).map (·.length)).sum + 2 * (xs.length + 1) ≤ wt x + 2 + wtAll xs
    rw [List.sum_cons]
    omega
end
/-- data that may be told as a text: ints below 2 ^ B, weight n, depth m -/
structure Fit (B n m : Nat) (d : PyData) : Prop where
  f : fine B d
  w : wt d ≤ n
  d : d.depth ≤ m
theorem Fit.mono {B n m B' n' m' : Nat} {d : PyData} (h : Fit B n m d) (a : B ≤ B') (b : n ≤ n') (c : m ≤ m') : Fit B' n' m' d := ⟨fine_mono a d h.f, Nat.le_trans h.w b, Nat.le_trans h.d c⟩
theorem Fit.tells {B n m : Nat} {d : PyData} {N : Ban} (h : Fit B n m d) (hB : B ≤ 1900) (hn : n ≤ 16000000) (hm : m ≤ 100) (hN : N sysModules) : Tells N d :=
  ⟨fine_showable hB d h.f, Nat.le_trans h.d hm, by
    have q := shown_le hB d h.f
    have z := h.w
    rw [sizeLine_eq]
    omega, fun _ => hN⟩
/-! ### lists and dicts that are not the modules' own -/
section
variable {X : Cx} {e : Expr} {es : List Expr} {t : TA} {pos : Pos}
theorem pe_list (h : PA X es t) : PE X (.List es pos) (fun σ H Q => t σ H fun xs H1 => xs.length ≤ sizeLine ∧ ∀ p, H1 p = none → p ≠ sysModules → Q (.ref p) (upd H1 p (.lst xs))) := by
  constructor
  intro pins s σ H Q I hq
  apply wpAny_List_spliced
  apply thn (h.run pos pins s σ H _ I hq)
  rintro us s1 ⟨xs, H1, I1, r, z, q⟩
  refine ⟨r.length ▸ z, ?_⟩
  have fresh : H1 s1.heap.objs.size = none := I1.hok.fresh (Nat.le_refl _)
  have J := I1.laid (t' := s1.toks) (a := s1.heap.objs.size) (o := .lst xs) (h' := s1.heap.push { cls := .type "list", data := .seq us.toArray })
    (fun b u k => Heap.get?_push_of_some _ k) (Nat.le_refl _) ⟨z, us, 0, r, Heap.get?_push_size _ rfl⟩
  exact ⟨V.ref _, _, J, rfl, q _ fresh fun k => absurd I1.big (by rw [k]; exact Nat.lt_irrefl _)⟩
theorem pe_dict0 : PE X (.Dict [] [] pos) (fun _ H Q => ∀ p, H p = none → p ≠ sysModules → Q (.ref p) (upd H p (.dK []))) := by
  constructor
  intro pins s σ H Q I q
  have J := I.laid (a := s.heap.objs.size) (o := .dK []) (t' := s.toks) (fun _ _ k => Heap.get?_push_of_some _ k) (Nat.le_refl _) (dk_empty s.heap I.big)
  exact wpAny_Dict_empty ⟨V.ref _, _, J, rfl, q _ (I.hok.fresh (Nat.le_refl _)) fun k => absurd I.big (by rw [k]; exact Nat.lt_irrefl _)⟩
/-- list(t), t a tuple -/
theorem call_listT : CallR X (.type "list") (fun xs H Q => ∃ p ys, xs = [.ref p] ∧ SqT X.K H p ys ∧ ∀ l, H l = none → l ≠ sysModules → Q (.ref l) (upd H l (.lst ys))) := by
  intro pins s σ H xs us Q I r h
  obtain ⟨p, ys, rfl, ht, q⟩ := h
  obtain ⟨u, rfl, rx⟩ := vals1 r
  cases rx
  obtain ⟨its, rv, ⟨o, ho, hc, n, hd⟩, hz⟩ := I.tuple ht
  refine call_list_seq p (.inr rfl) ho hc hd (fun h' c' kp now => ?_) (by have := rv.length; simp only [List.size_toArray]; omega)
  have J := I.laid (t' := s.toks) (a := s.heap.objs.size) (o := .lst ys) kp (Nat.le_refl _) ⟨hz, its, c', rv, now⟩
  exact ⟨V.ref _, _, J, rfl, q _ (I.hok.fresh (Nat.le_refl _)) fun k => absurd I.big (by rw [k]; exact Nat.lt_irrefl _)⟩
end
/-! ### ints and bools as numbers -/
def bz (b : Bool) : Int := if b = true then 1 else 0
section
variable {X : Cx}
theorem op_addBI : OpR X (binaryOp .Add) (fun x y H Q => ∃ b j, x = .bl b ∧ y = .int j ∧ Q (.int (bz b + j)) H) := by
  intro pins s σ H x y v u Q I rx ry h
  obtain ⟨b, j, rfl, rfl, q⟩ := h
  cases rx
  obtain ⟨t, rfl⟩ := ry
  exact PySem.IntBool.add_bool_int ⟨.int (bz b + j), H, I.tok _, ⟨_, rfl⟩, q⟩
theorem op_subBI : OpR X (binaryOp .Sub) (fun x y H Q => ∃ b j, x = .bl b ∧ y = .int j ∧ Q (.int (bz b - j)) H) := by
  intro pins s σ H x y v u Q I rx ry h
  obtain ⟨b, j, rfl, rfl, q⟩ := h
  cases rx
  obtain ⟨t, rfl⟩ := ry
  exact PySem.IntBool.sub_bool_int ⟨.int (bz b - j), H, I.tok _, ⟨_, rfl⟩, q⟩
theorem op_subIB : OpR X (binaryOp .Sub) (fun x y H Q => ∃ i b, x = .int i ∧ y = .bl b ∧ Q (.int (i - bz b)) H) := by
  intro pins s σ H x y v u Q I rx ry h
  obtain ⟨i, b, rfl, rfl, q⟩ := h
  obtain ⟨t, rfl⟩ := rx
  cases ry
  exact PySem.IntBool.sub_int_bool ⟨.int (i - bz b), H, I.tok _, ⟨_, rfl⟩, q⟩
theorem op_mulIB : OpR X (binaryOp .Mult) (fun x y H Q => ∃ i b, x = .int i ∧ y = .bl b ∧ Q (.int (i * bz b)) H) := by
  intro pins s σ H x y v u Q I rx ry h
  obtain ⟨i, b, rfl, rfl, q⟩ := h
  obtain ⟨t, rfl⟩ := rx
  cases ry
  exact PySem.IntBool.mul_int_bool ⟨.int (i * bz b), H, I.tok _, ⟨_, rfl⟩, q⟩
theorem op_eqBI : OpR X (compareOp .Eq) (fun x y H Q => ∃ b j, x = .bl b ∧ y = .int j ∧ Q (.bl (bz b == j)) H) := by
  intro pins s σ H x y v u Q I rx ry h
  obtain ⟨b, j, rfl, rfl, q⟩ := h
  cases rx
  obtain ⟨t, rfl⟩ := ry
  exact PySem.EqBoolInt.eq_bool_int ⟨.bl (bz b == j), H, I, rfl, q⟩
/-- t != (), t a tuple -/
theorem op_neT0 {k : Nat} (hr : Room k X.A) : OpR X (compareOp .NotEq) (fun x y H Q => ∃ a b xs, x = .ref a ∧ y = .ref b ∧ H a = some (.tup xs) ∧ H b = some (.tup []) ∧ Q (.bl (!xs.isEmpty)) H) := by
  intro pins s σ H x y v u Q I rx ry h
  obtain ⟨a, b, xs, rfl, rfl, ha, hb, q⟩ := h
  cases rx
  cases ry
  obtain ⟨_, its, rv, p⟩ := (show ObjOk X.prog X.w H s.heap a (.tup xs) from I.hok a _ ha)
  obtain ⟨_, its2, rv2, p2⟩ := (show ObjOk X.prog X.w H s.heap b (.tup []) from I.hok b _ hb)
  cases rv2
  have big := hr.un
  refine SeqAt.RcNeAt.tuples p p2 (by omega) (e := fun _ => true) (fun j _ h2 => ?_) X.prog X.w X.xe (EP X pins σ Q) ?_
  · simp at h2
  · refine ⟨.bl (!xs.isEmpty), H, I, ?_, q⟩
    have hl := rv.length
    show Value.bool _ = Value.bool _
    cases xs with
    | nil =>
      have e : its = [] := by simpa using hl.symm
      subst e
      rfl
    | cons x r =>
      cases its with
      | nil => simp at hl
      | cons y r2 => simp
/-- math.isqrt of what is below 2 ^ 13000 -/
theorem cr_isqrt : CallR X (.builtin "math.isqrt") (fun vs H Q => ∃ a : Int, vs = [.int a] ∧ 0 ≤ a ∧ a.natAbs < 2 ^ 13000 ∧ Q (.int ((Float64.isqrt a.toNat : Nat) : Int)) H) := by
  intro pins s σ H vs us Q I r h
  obtain ⟨a, rfl, h0, h1, q⟩ := h
  obtain ⟨u, rfl, t, rfl⟩ := vals1 r
  have e : a.toNat = a.natAbs := by omega
  have l : a.toNat.log2 < 13000 := by
    rw [e]
    exact log2_lt (by decide) h1
  exact call_function_meets PySem.W.MGF.kind_isqrt PySem.W.MGF.plain_isqrt PySem.W.MGF.entry_isqrt (PySem.W.MGF.args_isqrt _) (PySem.W.mg_run_isqrt a t (by omega) (by omega) (by omega)).meets ⟨.int _, H, I.tok _, ⟨_, rfl⟩, q⟩
/-- // by any number other than 0 below 2 ^ 9000 in size -/
theorem op_fdivZ : OpR X (binaryOp .FloorDiv) (rI (fun _ j => j ≠ 0 ∧ j.natAbs < 2 ^ 9000) fun i j => .int (i.fdiv j)) :=
  opI fun i j _ _ _ _ _ hc q => floordiv_int hc.1 q (.inl (PyProof.noPylong_of_log2 (log2_lt (by decide) hc.2)))
end
end Lw

namespace Lw
open PySem PySem.Spec PyProof.Rows L2

/-! ### written data -/
def FreshB (N : Ban) (H : Hp) : Prop := ∀ p, H p = none → p ≠ sysModules → ¬ N p
theorem same_none {H H' : Hp} (k : Same H H') {p : Addr} (h : H' p = none) : H p = none := k.free h
theorem FreshB.same {N : Ban} {H H' : Hp} (f : FreshB N H) (k : Same H H') : FreshB N H' := fun p h n => f p (same_none k h) n
def tData (d : PyData) : TE := fun _ H Q => ∃ N : Ban, FreshB N H ∧ ∀ v H', Same H H' → Dv N H' v d → Q v H'
def tDatas (ds : List PyData) : TA := fun _ H Q => ∃ N : Ban, FreshB N H ∧ ∀ vs H', Same H H' → DvAll N H' vs ds → Q vs H'
section
variable {X : Cx} {e : Expr} {es : List Expr} {d : PyData} {ds : List PyData} {pos : Pos}
theorem pd_int {i : Int} {j : Nat} : PE X (.Constant (.int i) j pos) (tData (.int i)) := pe_int.weak fun _ H Q ⟨_, _, q⟩ => q _ H (Same.refl H) (.int i)
theorem pd_bl {b : Bool} {j : Nat} : PE X (.Constant (.bool b) j pos) (tData (.bool b)) := pe_bl.weak fun _ H Q ⟨_, _, q⟩ => q _ H (Same.refl H) (.bl b)
theorem pd_non {j : Nat} : PE X (.Constant .none j pos) (tData .none) := pe_non.weak fun _ H Q ⟨_, _, q⟩ => q _ H (Same.refl H) .non
theorem pd_str {x : Str} {j : Nat} : PE X (.Constant (.str x) j pos) (tData (.str x)) := pe_str.weak fun _ H Q ⟨_, _, q⟩ => q _ H (Same.refl H) (.str x)
theorem pd_neg {i : Int} (h : PE X e (tData (.int i))) : PE X (.UnaryOp .USub e pos) (tData (.int (-i))) :=
  (pe_un un_neg h).weak fun σ H Q ⟨N, f, q⟩ => ⟨N, f, fun v H' k dv => by
    cases dv
    exact ⟨i, rfl, q _ H' k (.int (-i))⟩⟩
theorem pd_pow {i : Int} {n : Nat} {e1 e2 : Expr} (h1 : PE X e1 (tData (.int i))) (h2 : PE X e2 (tData (.int (n : Int)))) (hn : n ≤ 1000000) (hi : i.natAbs < 2 ^ 64) : PE X (.BinOp e1 .Pow e2 pos) (tData (.int (i ^ n))) :=
  (pe_op op_pow h1 h2).weak fun σ H Q ⟨N, f, q⟩ => ⟨N, f, fun v H' k dv => by
    cases dv
    refine ⟨N, f.same k, fun v2 H2 k2 dv2 => ?_⟩
    cases dv2
    refine ⟨i, (n : Int), rfl, rfl, ⟨by omega, by omega, hi⟩, ?_⟩
    show Q (.int (i ^ ((n : Int)).toNat)) H2
    rw [Int.toNat_natCast]
    exact q _ H2 (k.trans k2) (.int _)⟩
theorem pda_nil : PA X [] (tDatas []) := pa_nil.weak fun _ H Q ⟨_, _, q⟩ => q [] H (Same.refl H) .nil
theorem pda_cons (h : PE X e (tData d)) (r : PA X es (tDatas ds)) (hs : starEach (e :: es) X.env = (false, eval e X.env) :: starEach es X.env := by rfl) : PA X (e :: es) (tDatas (d :: ds)) :=
  (pa_cons h r hs).weak fun σ H Q ⟨N, f, q⟩ => ⟨N, f, fun v H1 k1 dv => ⟨N, f.same k1, fun vs H2 k2 dvs => q _ H2 (k1.trans k2) (.cons (dv.same k2) dvs)⟩⟩
theorem pd_tup {x1} (h : PA X es (tDatas ds)) (hl : ds.length ≤ 1000 := by decide) : PE X (.Tuple es x1 pos) (tData (.tuple ds)) :=
  (pe_tup h).weak fun σ H Q ⟨N, f, q⟩ => ⟨N, f, fun vs H1 k1 dvs => ⟨by
    have z := dvs.length
    rw [sizeLine_eq]
    omega, fun p hp => q _ _ (k1.trans (same_new hp _)) (.tup upd_same (dvs.same (same_new hp _)))⟩⟩
theorem pd_lst (h : PA X es (tDatas ds)) (hl : ds.length ≤ 1000 := by decide) : PE X (.List es pos) (tData (.list ds)) :=
  (pe_list h).weak fun σ H Q ⟨N, f, q⟩ => ⟨N, f, fun vs H1 k1 dvs => ⟨by
    have z := dvs.length
    rw [sizeLine_eq]
    omega, fun p hp np => q _ _ (k1.trans (same_new hp _)) (.lst (f.same k1 p hp np) upd_same (dvs.same (same_new hp _)))⟩⟩
theorem pd_dct : PE X (.Dict [] [] pos) (tData (.dict [])) :=
  pe_dict0.weak fun σ H Q ⟨N, f, q⟩ p hp np => q _ _ (same_new hp _) (.dct (f p hp np) upd_same)
end

/-- a test, both ways -/
theorem tst {b : Bool} {A B : Prop} (h1 : b = true → A) (h0 : b = false → B) : if b = true then A else B := by
  cases b
  · exact iteF (h0 rfl)
  · exact iteT (h1 rfl)
theorem short3 {x y z : V} : [x, y, z].length ≤ sizeLine := by show 3 ≤ sizeLine; decide
theorem short2 {x y : V} : [x, y].length ≤ sizeLine := by show 2 ≤ sizeLine; decide
theorem short1 {x : V} : [x].length ≤ sizeLine := by show 1 ≤ sizeLine; decide
theorem short4 {x y z u : V} : [x, y, z, u].length ≤ sizeLine := by show 4 ≤ sizeLine; decide
theorem short5 {x y z u v : V} : [x, y, z, u, v].length ≤ sizeLine := by show 5 ≤ sizeLine; decide
theorem short6 {x y z u v q : V} : [x, y, z, u, v, q].length ≤ sizeLine := by show 6 ≤ sizeLine; decide

/-! ### the well of draws -/
abbrev wellN (w : Addr) : Ban := fun a => a = w ∨ a = sysModules
def WellAt (H : Hp) (w : Addr) : Prop := ∃ a m c : Int, H w = some (.lst [.int a, .int m, .int c]) ∧ 0 ≤ a
theorem WellAt.fresh {H : Hp} {w : Addr} (h : WellAt H w) : FreshB (wellN w) H := fun p hp np z => by
  obtain ⟨a, m, c, e, _⟩ := h
  rcases z with rfl | z
  · rw [hp] at e
    cases e
  · exact np z
/-- what stands behind a draw -/
structure After (w : Addr) (H H' : Hp) : Prop where
  sx : Sx (wellN w) H H'
  well : WellAt H' w
  kp : ∀ b u, b ≠ w → H b = some u → H' b = some u
theorem After.refl {w : Addr} {H : Hp} (h : WellAt H w) : After w H H := ⟨.refl _ _, h, fun _ _ _ q => q⟩
theorem After.trans {w : Addr} {H H1 H2 : Hp} (a : After w H H1) (b : After w H1 H2) : After w H H2 := ⟨a.sx.trans b.sx, b.well, fun c u n q => b.kp c u n (a.kp c u n q)⟩
theorem WellAt.same {H H' : Hp} {w : Addr} (h : WellAt H w) (k : Same H H') : WellAt H' w := by
  obtain ⟨a, m, c, e, z⟩ := h
  exact ⟨a, m, c, k _ _ e, z⟩
theorem After.of {w : Addr} {H H' : Hp} (h : WellAt H w) (k : Same H H') : After w H H' := ⟨.of k, h.same k, fun b u _ q => k b u q⟩
theorem After.keep {w : Addr} {H H1 H2 : Hp} (a : After w H H1) (k : Same H1 H2) : After w H H2 := a.trans (.of a.well k)
theorem WellAt.ne {H : Hp} {w p : Addr} (h : WellAt H w) (hp : H p = none) : p ≠ w := by
  obtain ⟨a, m, c, e, _⟩ := h
  exact (ne_of_none e hp).symm
end Lw

namespace Lw
open PySem PySem.Spec PyProof.Rows L2

/-! ### t[::-1], t a tuple -/
section
variable {prog : Program} {w : World} {A : Around} {E : Value → Shared → Prop} {s : Shared}
theorem back_adjust (n : Nat) : Builtin.Slice.sliceAdjust none none (-1) (n : Int) = ((n : Int) - 1, -1) := rfl
theorem back_places (n : Nat) : Builtin.Slice.slicePlaces ((n : Int) - 1) (-1) (-1) = n := by
  unfold Builtin.Slice.slicePlaces
  rw [if_neg (by decide : ¬ ((-1 : Int) > 0))]
  split
  · show ((((n : Int) - 1) - (-1) - 1) / 1 + 1).toNat = n
    rw [Int.ediv_one]
    omega
  · show (0 : Int).toNat = n
    omega
theorem fm_congr {α β : Type} {f g : α → Option β} : ∀ {l : List α}, (∀ m ∈ l, f m = g m) → l.filterMap f = l.filterMap g
  | [], _ => rfl
  | a :: r, h => by
    rw [List.filterMap_cons, List.filterMap_cons, h a (List.mem_cons_self ..), fm_congr fun m hm => h m (List.mem_cons_of_mem _ hm)]
theorem back_pick (xs : Array Value) : ((List.range xs.size).filterMap fun (m : Nat) => xs[(((xs.size : Int) - 1) + (m : Int) * (-1)).toNat]?).toArray = xs.toList.reverse.toArray := by
  have e : ((List.range xs.size).filterMap fun (m : Nat) => xs[(((xs.size : Int) - 1) + (m : Int) * (-1)).toNat]?) = (List.range xs.size).filterMap fun m => xs.toList.reverse[m]? := by
    refine fm_congr fun m hm => ?_
    have lt : m < xs.size := List.mem_range.mp hm
    have i : (((xs.size : Int) - 1) + (m : Int) * (-1)).toNat = xs.size - 1 - m := by omega
    rw [i, List.getElem?_reverse (by simpa using lt)]
    simp
  rw [e]
  have z : ∀ l : List Value, (List.range l.length).filterMap (fun m => l[m]?) = l := fun l => by
    induction l with
    | nil => rfl
    | cons a r ih =>
      rw [List.length_cons, List.range_succ_eq_map, List.filterMap_cons, List.filterMap_map]
      show a :: (List.range r.length).filterMap (fun m => r[m]?) = a :: r
      rw [ih]
  have l : xs.size = xs.toList.reverse.length := by simp
  rw [l, z]
theorem back_applied {sl : Addr} {vs : Value} {n : Nat} {Q : Int × Int × Nat → Shared → Prop} (hs : s.heap.IsSliceOf sl .none .none vs) (ps : IsPart vs (some (-1))) (h : Q ((n : Int) - 1, -1, n) s) :
    wpAny (model prog w) A (Builtin.Slice.sliceApplied (.ref sl) (pure (n : Int))) Q E s := by
  obtain ⟨o, ho, _, hd⟩ := hs
  unfold Builtin.Slice.sliceApplied Builtin.Slice.sliceFields
  apply wpAny_bind
  apply wpAny_bind
  refine wpAny_field ho hd (x := .none) rfl ?_
  apply wpAny_bind
  refine wpAny_field ho hd (x := .none) rfl ?_
  apply wpAny_bind
  refine wpAny_field ho hd (x := vs) rfl ?_
  apply wpAny_pure
  apply wpAny_bind
  refine HT.slicePart_ ps ?_
  show wpAny _ _ (if ((-1 : Int) == 0) = true then _ else _) _ _ s
  rw [if_neg (by decide)]
  apply wpAny_bind
  refine HT.slicePart_ .none ?_
  apply wpAny_bind
  refine HT.slicePart_ .none ?_
  apply wpAny_bind
  apply wpAny_pure
  show wpAny _ _ (pure ((n : Int) - 1, (-1 : Int), Builtin.Slice.slicePlaces ((n : Int) - 1) (-1) (-1))) _ _ s
  rw [back_places]
  exact wpAny_pure h
theorem back_item {t sl : Addr} {items : Array Value} {vs : Value} {Q : Value → Shared → Prop} (ht : IsTup s.heap t items) (hs : s.heap.IsSliceOf sl .none .none vs) (ps : IsPart vs (some (-1)))
    (h : Q (.ref s.heap.objs.size) { s with heap := s.heap.push { cls := .type "tuple", data := .seq items.toList.reverse.toArray } }) (hz : items.size ≤ sizeLine) :
    wpAny (model prog w) A (getItem (.ref t) (.ref sl)) Q E s := by
  have ok : sizeOk (.seq items.toList.reverse.toArray) := by
    show items.toList.reverse.toArray.size ≤ sizeLine
    simpa using hz
  have hT : s.TypeIs (.ref sl) "slice" := by
    obtain ⟨o, ho, hc, _⟩ := hs
    exact ⟨o, ho, hc⟩
  unfold getItem
  with_reducible refine wpAny_holding ?_
  apply wpAny_bind
  refine wpAny_sequenceKey ht.typeIs (by decide) ?_
  apply wpAny_bind
  refine wpAny_callSpecial?_slot (name := Str.ofString "__getitem__") ht.typeIs PyProof.Rows.slot_tuple_getitem ?_
  refine wpAny_call_entry PyProof.Rows.slot_tuple_getitem ht.typeIs entry_tuple_getitem ?_ (args_tuple_getitem _ _)
  show wpAny _ _ (Builtin.Tuple.tupleItemsOf (.ref t) >>= _) _ _ s
  apply wpAny_bind
  refine tupleItemsOf_ ht ?_
  apply wpAny_bind
  refine wpAny_typeOf hT ?_
  rw [if_pos (by decide)]
  apply wpAny_bind
  refine back_applied hs ps ?_
  have no : ¬ ((((items.size : Int) - 1) == 0 && (-1 : Int) == 1 && items.size == items.size) = true) := by simp
  show wpAny _ _ (if (((items.size : Int) - 1) == 0 && (-1 : Int) == 1 && items.size == items.size) = true then _ else _) _ _ s
  rw [if_neg no, back_pick]
  first
    | exact wpAny_bind (m := Builtin.Tuple.tupleExact _) (wpAny_newObj_type (wpAny_pure ⟨_, rfl, wpAny_pure h⟩) ok)
    | exact wpAny_bind (m := Builtin.Tuple.tupleExact _) (wpAny_newObj_type (wpAny_bind (wpAny_pure (wpAny_pure ⟨_, rfl, wpAny_pure h⟩))) ok)
    | exact wpAny_bind (wpAny_bind (m := Builtin.Tuple.tupleExact _) (wpAny_newObj_type (wpAny_pure (wpAny_pure ⟨_, rfl, wpAny_pure h⟩)) ok))
    | exact wpAny_bind (wpAny_bind (m := Builtin.Tuple.tupleExact _) (wpAny_newObj_type (wpAny_pure ⟨_, rfl, wpAny_pure h⟩) ok))
end
section
variable {X : Cx}
def tBackT (K : PySem.W.Frag) (te : TE) : TE := fun σ H Q => te σ H fun x H1 => ∃ a xs, x = .ref a ∧ SqT K H1 a xs ∧ ∀ p, H1 p = none → Q (.ref p) (upd H1 p (.tup xs.reverse))
theorem pe_backT {e : Expr} {te : TE} {k : Nat} {p1 p2 p3 pos : Pos} (he : PE X e te) : PE X (.Subscript e (.Slice none none (some (.UnaryOp .USub (.Constant (.int 1) k p1) p2)) p3) pos) (tBackT X.K te) := by
  have part : PO X (some (.UnaryOp .USub (.Constant (.int 1) k p1) p2)) (tPart (tUn (rU fun i => .int (-i)) (tC (.int 1)))) := po_some (pe_un un_neg pe_int)
  constructor
  intro pins s σ H Q I h
  apply Subscript_
  refine thn (he.run pins s σ H _ I h) ?_
  rintro v s1 ⟨x, H1, I1, r1, a, xs, rfl, hx, q⟩
  cases r1
  apply wpAny_Slice
  refine thn (po_none.run pins s1 σ H1 (fun o G => o = none ∧ G = H1) I1 ⟨rfl, rfl⟩) ?_
  rintro vl s2 ⟨_, _, I2, pl, rfl, rfl⟩
  refine thn (po_none.run pins s2 σ _ (fun o G => o = none ∧ G = _) I2 ⟨rfl, rfl⟩) ?_
  rintro vu s3 ⟨_, _, I3, pu, rfl, rfl⟩
  refine thn (part.run pins s3 σ _ (fun o G => o = some (-1) ∧ G = _) I3 ⟨1, rfl, -1, rfl, rfl, rfl⟩) ?_
  rintro vs s4 ⟨_, G, I4, ps, rfl, rfl⟩
  cases pl
  cases pu
  have I5 : Inv X pins σ G { s4 with heap := s4.heap.push { cls := .type "slice", data := .fields #[.none, .none, vs] } } := I4.kept (t' := s4.toks) fun _ _ z => Heap.get?_push_of_some _ z
  obtain ⟨its, r, ht, hz⟩ := I5.tuple hx
  show wpAny (model X.prog X.w) X.A (subscriptTail e (.Slice none none (some (.UnaryOp .USub (.Constant (.int 1) k p1) p2)) p3) (.ref a) (.ref s4.heap.objs.size)) (EP X pins σ Q) X.xe { s4 with heap := s4.heap.push { cls := .type "slice", data := .fields #[.none, .none, vs] } }
  refine tail_any (ops := [.ref a, .ref s4.heap.objs.size]) ht.typeIs PyProof.Rows.slot_tuple_getitem.lookup ?_ (by with_unfolding_all rfl)
  have hl := r.length
  refine back_item ht (Heap.IsSliceOf.new ..) ps ?_ (by rw [List.size_toArray]; omega)
  have J := I5.laid (t' := s4.toks) (o := .tup xs.reverse) (fun _ _ z => Heap.get?_push_of_some _ z) (Nat.le_refl _) ⟨by rw [List.length_reverse]; exact hz, _, r.reverse, IsTup.new _ _⟩
  exact ⟨.ref _, _, J, rfl, q _ (I5.hok.fresh (Nat.le_refl _))⟩
end
end Lw

namespace Lw
open PySem PySem.Spec PyProof.Rows L2

/-! ### parts of rows of data -/
theorem fineAll_iff {B : Nat} : ∀ {ds : List PyData}, fineAll B ds ↔ ∀ d ∈ ds, fine B d
  | [] => ⟨fun _ _ z => (by cases z), fun _ => trivial⟩
  | x :: r => ⟨fun h d m => by
      rcases List.mem_cons.mp m with rfl | m
      · exact h.1
      · exact fineAll_iff.mp h.2 d m, fun h => ⟨h x (List.mem_cons_self ..), fineAll_iff.mpr fun d m => h d (List.mem_cons_of_mem _ m)⟩⟩
theorem depthAll_iff {k : Nat} : ∀ {ds : List PyData}, PyData.depthAll ds ≤ k ↔ ∀ d ∈ ds, d.depth ≤ k
  | [] => ⟨fun _ _ z => (by cases z), fun _ => Nat.zero_le _⟩
  | x :: r => by
    have ih := depthAll_iff (k := k) (ds := r)
    simp only [PyData.depthAll, List.mem_cons, forall_eq_or_imp]
    rw [← ih]
    omega
theorem wtAll_app : ∀ ds es : List PyData, wtAll (ds ++ es) = wtAll ds + wtAll es
  | [], es => by simp [wtAll]
  | x :: r, es => by
    show wt x + 2 + wtAll (r ++ es) = wt x + 2 + wtAll r + wtAll es
    rw [wtAll_app r es]
    omega
theorem wtAll_rev : ∀ ds : List PyData, wtAll ds.reverse = wtAll ds
  | [] => rfl
  | x :: r => by
    rw [List.reverse_cons, wtAll_app, wtAll_rev r]
    show wtAll r + (wt x + 2 + 0) = wt x + 2 + wtAll r
    omega
theorem wtAll_len : ∀ ds : List PyData, ds.length ≤ wtAll ds
  | [] => Nat.le_refl _
  | x :: r => by
    have := wtAll_len r
    show r.length + 1 ≤ wt x + 2 + wtAll r
    omega
theorem wtAll_cut (ds : List PyData) (i j : Nat) : wtAll ((ds.drop i).take j) ≤ wtAll ds := by
  have h1 := wtAll_app ((ds.drop i).take j) ((ds.drop i).drop j)
  rw [List.take_append_drop] at h1
  have h2 := wtAll_app (ds.take i) (ds.drop i)
  rw [List.take_append_drop] at h2
  omega
theorem wtAll_hole {ds : List PyData} {i : Nat} {d : PyData} (h : ds[i]? = some d) : wtAll (ds.take i) + (wt d + 2) + wtAll (ds.drop (i + 1)) = wtAll ds := by
  obtain ⟨hi, hd⟩ := List.getElem?_eq_some_iff.mp h
  have h2 := wtAll_app (ds.take i) (ds.drop i)
  rw [List.take_append_drop, List.drop_eq_getElem_cons hi, hd] at h2
  have h3 : wtAll (d :: ds.drop (i + 1)) = wt d + 2 + wtAll (ds.drop (i + 1)) := rfl
  omega
/-- the items of ds[lo:hi] -/
def cutD (ds : List PyData) (lo hi : Option Int) : List PyData := (ds.drop (HT.sIx ds.length 0 lo)).take (HT.sIx ds.length ds.length hi - HT.sIx ds.length 0 lo)
theorem cutD_mem {ds : List PyData} {lo hi : Option Int} {d : PyData} (h : d ∈ cutD ds lo hi) : d ∈ ds := List.mem_of_mem_drop (List.mem_of_mem_take h)
theorem cutD_wt (ds : List PyData) (lo hi : Option Int) : wtAll (cutD ds lo hi) ≤ wtAll ds := wtAll_cut ds _ _
theorem cutD_to {ds : List PyData} {k : Nat} (hk : k ≤ ds.length) : cutD ds none (some (k : Int)) = ds.take k := by
  unfold cutD
  have e : HT.sIx ds.length ds.length (some (k : Int)) = k := by
    show (if ((k : Int) < 0) then ((k : Int) + (ds.length : Int)).toNat else min ((k : Int)).toNat ds.length) = k
    rw [if_neg (by omega)]
    omega
  rw [e]
  rfl
theorem cutD_from {ds : List PyData} {k : Nat} (hk : k ≤ ds.length) : cutD ds (some (k : Int)) none = ds.drop k := by
  unfold cutD
  have e : HT.sIx ds.length 0 (some (k : Int)) = k := by
    show (if ((k : Int) < 0) then ((k : Int) + (ds.length : Int)).toNat else min ((k : Int)).toNat ds.length) = k
    rw [if_neg (by omega)]
    omega
  rw [e]
  show (ds.drop k).take (ds.length - k) = ds.drop k
  rw [List.take_of_length_le (by rw [List.length_drop]; exact Nat.le_refl _)]
theorem tup_at {N : Ban} {H : Hp} {v : V} {ds : List PyData} (h : Dv N H v (.tuple ds)) : ∃ a xs, v = .ref a ∧ H a = some (.tup xs) ∧ DvAll N H xs ds := by
  cases h with
  | tup e all => exact ⟨_, _, rfl, e, all⟩
section
variable {N : Ban} {K : PySem.W.Frag} {H : Hp} {Q : VK}
theorem dv_cut {v : V} {ds : List PyData} {lo hi : Option Int} (h : Dv N H v (.tuple ds)) (q : ∀ u H', Same H H' → Dv N H' u (.tuple (cutD ds lo hi)) → Q u H') : rSlA K v lo hi H Q := by
  obtain ⟨a, xs, rfl, e, all⟩ := tup_at h
  have hl := all.length
  refine ⟨a, xs, rfl, .of e, fun z => ?_, fun z p hp => ?_⟩
  · refine q _ H (.refl H) ?_
    have c : cutD ds lo hi = ds := by
      unfold cutD
      rw [← hl, z.1, z.2]
      show (ds.take (xs.length - 0)) = ds
      rw [List.take_of_length_le (by omega)]
    rw [c]
    exact h
  · have s : Same H (upd H p (.tup (cutV xs lo hi))) := same_new hp _
    refine q _ _ s (.tup upd_same ?_)
    unfold cutD cutV
    rw [← hl]
    exact ((all.same s).drop _).take _
theorem dv_cat {v u : V} {ds es : List PyData} (h : Dv N H v (.tuple ds)) (h2 : Dv N H u (.tuple es)) (hl : ds.length + es.length ≤ 16000000) (q : ∀ y H', Same H H' → Dv N H' y (.tuple (ds ++ es)) → Q y H') : rCatA K v u H Q := by
  obtain ⟨a, xs, rfl, e, all⟩ := tup_at h
  obtain ⟨b, ys, rfl, e2, all2⟩ := tup_at h2
  have l1 := all.length
  have l2 := all2.length
  refine ⟨a, b, xs, ys, rfl, rfl, .of e, .of e2, by rw [sizeLine_eq]; omega, fun z => ?_, fun _ z => ?_, fun _ _ p hp => ?_⟩
  · have c := all.nil_iff.mp z
    subst c
    exact q _ H (.refl H) h2
  · have c := all2.nil_iff.mp z
    subst c
    rw [List.append_nil] at q
    exact q _ H (.refl H) h
  · have s : Same H (upd H p (.tup (xs ++ ys))) := same_new hp _
    exact q _ _ s (.tup upd_same ((all.app all2).same s))
/-- one of the items of a row of six (or as many) -/
theorem at_one {xs : List V} {k : Int} (h0 : 0 ≤ k) (h1 : k < xs.length) : ∃ y, atI xs k = some y ∧ y ∈ xs := by
  have hk : k.toNat < xs.length := by omega
  exact ⟨xs[k.toNat], at_of (by omega) (List.getElem?_eq_getElem hk), List.getElem_mem hk⟩
end
end Lw

namespace Lw
open PySem PySem.Spec PyProof.Rows L2

/-! ### own exceptions of one field -/
/-- what the written part says of an exception's class x -/
structure Ec (K : PySem.W.Frag) (mg : Str → Option Value) (x f : Str) (st : Stmt) (C fI : Addr) (fd : FuncData) : Prop where
  gC : mg x = some (.ref C)
  ox : OexC K C
  xf : XfC K C
  iC : PySem.W.findIn K (.ref C) "__init__" = some (some (.ref fI))
  tI : PySem.W.typeIn K (.ref fI) = some (.type "function")
  te : PySem.W.exmOne K (.ref C) (.ref C) = some true
  no : PySem.W.findIn K (.ref C) f = some none
  fn : Fun K "__init__" (x ++ ".__init__") st fI fd
  bd : Binds K fd ["self", f] []
/-- self.f = f, on a new exception -/
def spInit (f : Str) (C : Addr) : Sp := fun vs H Q _ => ∃ (a : Addr) (v : V), vs = [.ref a, v] ∧ H a = some (exo a C none) ∧ ∀ dx, H dx = none → dx ≠ a → Q .non (upd (upd H dx (exd dx [(f, v)])) a (exo a C (some dx)))
/-- a row of arguments, its end weakened -/
def tUp (ta : TA) : TA := fun σ H Q => ∃ R : List V → Hp → Prop, ta σ H R ∧ ∀ vs H1, R vs H1 → Q vs H1
theorem _root_.L2.PA.up {X : Cx} {es : List Expr} {ta : TA} (h : PA X es ta) : PA X es (tUp ta) := ⟨fun pos pins s σ H Q I ⟨R, q, i⟩ => thn (h.run pos pins s σ H R I q) fun us s1 ⟨vs, H1, I1, r, z⟩ => ⟨vs, H1, I1, r, i _ _ z⟩⟩
/-- X(v) -/
def tMk1 (C : Addr) (f : Str) (ta : TA) : L2.St → Hp → XK → Prop := fun σ H Q => ta σ H fun vs H1 => ∃ v, vs = [v] ∧ ∀ d H', Same H1 H' → H1 d = none → H' d = some (.xd [(f, v)]) → Q (.ref C) (some d) H'
section
variable {X : Cx} {CX : CXT} {x f : Str} {st : Stmt} {C fI : Addr} {fd : FuncData} {k : Nat} {e : Expr} {ta : TA} {p pos : Pos}
theorem pmk1 (T : Ec X.K X.mg x f st C fI fd) (F : FnOk X.prog X.w X.K X.mg X.base CX0 1 fI fd ["self", f] (spInit f C)) (hr : Room k X.A) (hg : Gl X x) (ha : PA X [e] ta) (hk : 2 ≤ k := by decide)
    (hdb : (x == ("__debug__" : Str)) = false := by decide) (he : starEach (e :: []) X.env = (false, eval e X.env) :: starEach [] X.env := by rfl) (hpl : (backTo pos (starEach [] X.env)).any (·.1) = false := by rfl) :
    PMk X (.Call (.Name x p) [e] [] pos) (tMk1 C f ta) := by
  intro pins s σ H Q I h
  refine pmk_oex (ds := []) (dvs := []) T.ox T.iC T.tI F (hr.mono hk) T.bd .nil pass0 hg T.gC ha.up hdb he hpl pins s σ H Q I ⟨_, h, ?_⟩
  rintro _ H1 ⟨v, rfl, q⟩
  refine ⟨(by show 1 ≤ 1000; decide), fun a an => ⟨a, v, rfl, upd_same, fun dx hdx ne => ?_⟩⟩
  have d1 : H1 dx = none := by
    rw [upd_ne ne] at hdx
    exact hdx
  refine ⟨rfl, dx, [(f, v)], upd_same, by rw [upd_ne ne, upd_same], d1, ?_⟩
  refine q dx _ (fun b u z => ?_) d1 upd_same
  have nb : b ≠ dx := ne_of_none z d1
  have na : b ≠ a := ne_of_none z an
  rw [upd_ne nb, del_ne na, upd_ne na, upd_ne nb, upd_ne na]
  exact z
end
end Lw

namespace Lw
open PySem PySem.Spec PyProof.Rows L2
/-! ### rows of Trues -/
abbrev trues (n : Nat) : List V := List.replicate n (V.bl true)
theorem trues_all (n : Nat) : (List.replicate n true).map V.bl = trues n := List.map_replicate ..
theorem all_trues (n : Nat) : (List.replicate n true).all id = true := by
  induction n with
  | zero => rfl
  | succ n ih =>
    rw [List.replicate_succ, List.all_cons, ih] <;> rfl
theorem trues_more (n : Nat) : trues n ++ [V.bl true] = trues (n + 1) := List.replicate_succ'.symm
section
variable {K : PySem.W.Frag} {g : TG} {te : TE} {vs : List Nat} {σ : L2.St} {H1 : Hp} {D : Addr} {σ' : V → L2.St}
/-- [e for x in xs], each True -/
theorem lcl_true {Qd : Hp → Prop} {a : Addr} {xs : List V} (ha : H1 a = some (.lst xs)) (hD : H1 D = none) (hl : xs.length ≤ 1000) (hg : ∀ x H (k : L2.St → Hp → Prop), k (σ' x) H → g x (wipe σ vs) H k) (hw : ∀ x, wipe (σ' x) vs = wipe σ vs)
    (turn : ∀ x H, x ∈ xs → Same H1 H → (∃ u, H D = some u) → ∀ R : V → Hp → Prop, (∀ H', Same H1 H' → H' D = H D → R (.bl true) H') → te (σ' x) H R)
    (done : ∀ H, Same H1 H → H D = some (.lst (trues xs.length)) → Qd H) :
    ∃ W : Nat → Nat → Hp → Prop, (∃ m, W 0 m (upd H1 D (HO.lst []))) ∧ ∀ (i m : Nat) (H : Hp), W i m H → (Itl K a).stop i H ∧ Qd H ∨ (Itl K a).go i H ∧ ∃ Nx : Hp → Prop, (∀ (H' : Hp), Nx H' → ∃ m', m' < m ∧ W (i + 1) m' H') ∧
      ∀ (x : V) (H' : Hp), (Itl K a).yld i H x H' → g x (wipe σ vs) H' fun σ2 H2 => wipe σ2 vs = wipe σ vs ∧ tYes σ2 H2 fun b H3 => if b = true then te σ2 H3 fun y H4 => ∃ acc, H4 D = some (HO.lst acc) ∧ acc.length < sizeLine ∧ Nx (upd H4 D (HO.lst (acc ++ [y]))) else Nx H3 := by
  refine lc_list (K := K) (a := a) (xs := xs) (te := te) (fun i H => i ≤ xs.length ∧ Same H1 H ∧ H D = some (.lst (trues i))) ⟨Nat.zero_le _, same_new hD _, upd_same⟩ (fun i H _ z => .of (z.2.1 _ _ ha)) ?_ (fun H z => done H z.2.1 z.2.2)
  rintro i x H hx ⟨hi, sm, hd⟩
  have il : i < xs.length := (List.getElem?_eq_some_iff.mp hx).1
  refine hg x H _ ⟨hw x, ?_⟩
  show te (σ' x) H _
  refine turn x H (List.mem_of_getElem? hx) sm ⟨_, hd⟩ _ fun H' s2 e2 => ?_
  refine ⟨trues i, e2.trans hd, by rw [List.length_replicate, sizeLine_eq]; omega, ⟨by omega, fun b u z => ?_, ?_⟩⟩
  · rw [upd_ne (ne_of_none z hD)]
    exact s2 b u z
  · rw [upd_same, trues_more]
/-- [e for x in range(lo, lo + n)], each True -/
theorem lcr_true {Qd : Hp → Prop} {lo : Int} {n : Nat} (hD : H1 D = none) (hl : n ≤ 1000) (hg : ∀ x H (k : L2.St → Hp → Prop), k (σ' x) H → g x (wipe σ vs) H k) (hw : ∀ x, wipe (σ' x) vs = wipe σ vs)
    (turn : ∀ (i : Nat) H, i < n → Same H1 H → H D = some (.lst (trues i)) → ∀ R : V → Hp → Prop, (∀ H', Same H1 H' → H' D = H D → R (.bl true) H') → te (σ' (.int (lo + i))) H R)
    (done : ∀ H, Same H1 H → H D = some (.lst (trues n)) → Qd H) :
    ∃ W : Nat → Nat → Hp → Prop, (∃ m, W 0 m (upd H1 D (HO.lst []))) ∧ ∀ (i m : Nat) (H : Hp), W i m H → (Itr lo n).stop i H ∧ Qd H ∨ (Itr lo n).go i H ∧ ∃ Nx : Hp → Prop, (∀ (H' : Hp), Nx H' → ∃ m', m' < m ∧ W (i + 1) m' H') ∧
      ∀ (x : V) (H' : Hp), (Itr lo n).yld i H x H' → g x (wipe σ vs) H' fun σ2 H2 => wipe σ2 vs = wipe σ vs ∧ tYes σ2 H2 fun b H3 => if b = true then te σ2 H3 fun y H4 => ∃ acc, H4 D = some (HO.lst acc) ∧ acc.length < sizeLine ∧ Nx (upd H4 D (HO.lst (acc ++ [y]))) else Nx H3 := by
  refine lc_range (te := te) (fun i H => i ≤ n ∧ Same H1 H ∧ H D = some (.lst (trues i))) ⟨Nat.zero_le _, same_new hD _, upd_same⟩ ?_ (fun H z => done H z.2.1 z.2.2)
  rintro i H il ⟨hi, sm, hd⟩
  refine hg _ H _ ⟨hw _, ?_⟩
  show te (σ' _) H _
  refine turn i H il sm hd _ fun H' s2 e2 => ?_
  refine ⟨trues i, e2.trans hd, by rw [List.length_replicate, sizeLine_eq]; omega, ⟨by omega, fun b u z => ?_, ?_⟩⟩
  · rw [upd_ne (ne_of_none z hD)]
    exact s2 b u z
  · rw [upd_same, trues_more]
end
/-- repr(x) == repr(y), both telling the same -/
theorem rEq_same {t : Str} {Q : VK} {H : Hp} (q : Q (.bl true) H) : rEq (.str t) (.str t) H Q := ⟨rfl, by rw [decide_eq_true rfl]; exact q⟩
theorem bool_tells {N : Ban} {b : Bool} : Tells N (.bool b) := ⟨rfl, by cases b <;> decide, by cases b <;> decide +kernel, fun z => by cases z⟩
end Lw

namespace Lw
open PySem PySem.Spec PyProof.Rows L2
/-! ### comprehensions over lists, item by item -/
/-- tuples stay -/
def Tk (H H' : Hp) : Prop := ∀ b xs, H b = some (.tup xs) → H' b = some (.tup xs)
theorem Tk.of {H H' : Hp} (k : Same H H') : Tk H H' := fun b xs q => k b _ q
theorem Tk.trans {H H1 H2 : Hp} (a : Tk H H1) (b : Tk H1 H2) : Tk H H2 := fun c xs q => b c xs (a c xs q)
theorem Tk.put {H : Hp} {D : Addr} {ys : List V} {o : HO} (h : H D = some (.lst ys)) : Tk H (upd H D o) := fun b xs q => by
  rw [upd_ne (ne_of q h (by intro z; cases z))]
  exact q
/-- data of tuples and small things alone, at any ban -/
abbrev allB : Ban := fun _ => True
theorem Dv.tk {H H' : Hp} {d : PyData} {v : V} (h : Dv allB H v d) (k : Tk H H') : Dv allB H' v d := h.map (fun b u n _ => absurd trivial n) k _ _
theorem Dv.every {H : Hp} {d : PyData} {v : V} (h : Dv allB H v d) (N : Ban) : Dv N H v d := h.less fun _ _ => trivial
section
variable {K : PySem.W.Frag} {g : TG} {te : TE} {vs : List Nat} {σ : L2.St} {H1 : Hp} {D : Addr} {σ' : V → L2.St}
theorem lcl_any {Qd : Hp → Prop} {a : Addr} {xs : List V} (G : Nat → V → Hp → Prop) (hG : ∀ i v H H', Tk H H' → G i v H → G i v H') (ha : H1 a = some (.lst xs)) (hD : H1 D = none) (hl : xs.length ≤ 1000) (hg : ∀ x H (k : L2.St → Hp → Prop), k (σ' x) H → g x (wipe σ vs) H k) (hw : ∀ x, wipe (σ' x) vs = wipe σ vs)
    (turn : ∀ (i : Nat) x H, xs[i]? = some x → Same H1 H → (∃ u, H D = some u) → ∀ R : V → Hp → Prop, (∀ v H', Same H1 H' → H' D = H D → Tk H H' → G i v H' → R v H') → te (σ' x) H R)
    (done : ∀ acc H, Same H1 H → H D = some (.lst acc) → acc.length = xs.length → (∀ (i : Nat) v, acc[i]? = some v → G i v H) → Qd H) :
    ∃ W : Nat → Nat → Hp → Prop, (∃ m, W 0 m (upd H1 D (HO.lst []))) ∧ ∀ (i m : Nat) (H : Hp), W i m H → (Itl K a).stop i H ∧ Qd H ∨ (Itl K a).go i H ∧ ∃ Nx : Hp → Prop, (∀ (H' : Hp), Nx H' → ∃ m', m' < m ∧ W (i + 1) m' H') ∧
      ∀ (x : V) (H' : Hp), (Itl K a).yld i H x H' → g x (wipe σ vs) H' fun σ2 H2 => wipe σ2 vs = wipe σ vs ∧ tYes σ2 H2 fun b H3 => if b = true then te σ2 H3 fun y H4 => ∃ acc, H4 D = some (HO.lst acc) ∧ acc.length < sizeLine ∧ Nx (upd H4 D (HO.lst (acc ++ [y]))) else Nx H3 := by
  refine lc_list (K := K) (a := a) (xs := xs) (te := te) (fun i H => ∃ acc, i ≤ xs.length ∧ Same H1 H ∧ H D = some (.lst acc) ∧ acc.length = i ∧ ∀ (j : Nat) v, acc[j]? = some v → G j v H) ⟨[], Nat.zero_le _, same_new hD _, upd_same, rfl, fun j v z => (by simp at z)⟩
    (fun i H _ z => by obtain ⟨acc, _, sm, _⟩ := z; exact .of (sm _ _ ha)) ?_ (fun H z => by obtain ⟨acc, _, sm, hd, hn, hG2⟩ := z; exact done acc H sm hd hn hG2)
  rintro i x H hx ⟨acc, hi, sm, hd, hn, all⟩
  have il : i < xs.length := (List.getElem?_eq_some_iff.mp hx).1
  refine hg x H _ ⟨hw x, ?_⟩
  show te (σ' x) H _
  refine turn i x H hx sm ⟨_, hd⟩ _ fun v H' s2 e2 tk gv => ?_
  have hd' := e2.trans hd
  refine ⟨acc, hd', by rw [hn, sizeLine_eq]; omega, acc ++ [v], by omega, fun b u z => ?_, upd_same, by simp [hn], fun j y z => ?_⟩
  · rw [upd_ne (ne_of_none z hD)]
    exact s2 b u z
  · have kp : Tk H' (upd H' D (HO.lst (acc ++ [v]))) := .put hd'
    rcases (by omega : j < acc.length ∨ acc.length ≤ j) with c | c
    · rw [List.getElem?_append_left c] at z
      exact hG _ _ _ _ (tk.trans kp) (all j y z)
    · rw [List.getElem?_append_right c] at z
      have e : j = i := by
        have := (List.getElem?_eq_some_iff.mp z).1
        simp at this
        omega
      subst e
      rw [hn, Nat.sub_self] at z
      cases z
      exact hG _ _ _ _ kp gv
end
end Lw

namespace Lw
open PySem
/-! ### whole roots -/
def isq (n : Int) : Int := ((Float64.isqrt n.toNat : Nat) : Int)
theorem isq_nn (n : Int) : 0 ≤ isq n := Int.natCast_nonneg _
theorem isq_le {n : Int} (h : 0 ≤ n) : isq n * isq n ≤ n := by
  have q := (PySem.Float64.isqrt_spec n.toNat).1
  unfold isq
  have : ((Float64.isqrt n.toNat * Float64.isqrt n.toNat : Nat) : Int) ≤ (n.toNat : Int) := Int.ofNat_le.mpr q
  rw [Int.natCast_mul] at this
  omega
theorem isq_lt {n : Int} (h : 0 ≤ n) : n < (isq n + 1) * (isq n + 1) := by
  have q := (PySem.Float64.isqrt_spec n.toNat).2
  unfold isq
  have : (n.toNat : Int) < (((Float64.isqrt n.toNat + 1) * (Float64.isqrt n.toNat + 1) : Nat) : Int) := Int.ofNat_lt.mpr q
  rw [Int.natCast_mul, Int.natCast_add] at this
  have e : ((1 : Nat) : Int) = 1 := rfl
  rw [e] at this
  omega
theorem sq_lt {a b : Int} (ha : 0 ≤ a) (h : a < b) : a * a < b * b := by
  have h1 : a * a ≤ a * b := Int.mul_le_mul_of_nonneg_left (Int.le_of_lt h) ha
  have h2 : a * b < b * b := Int.mul_lt_mul_of_pos_right h (by omega)
  omega
theorem sq_le {a b : Int} (ha : 0 ≤ a) (h : a ≤ b) : a * a ≤ b * b := by
  have h1 : a * a ≤ a * b := Int.mul_le_mul_of_nonneg_left h ha
  have h2 : a * b ≤ b * b := Int.mul_le_mul_of_nonneg_right h (by omega)
  omega
theorem isq_uniq {n r : Int} (h0 : 0 ≤ r) (h1 : r * r ≤ n) (h2 : n < (r + 1) * (r + 1)) : isq n = r := by
  have hn : 0 ≤ n := Int.le_trans (Int.mul_nonneg h0 h0) h1
  have a := isq_le hn
  have b := isq_lt hn
  have c := isq_nn n
  generalize isq n = s at a b c
  by_cases l : s < r
  · have := sq_le (a := s + 1) (b := r) (by omega) (by omega)
    omega
  · by_cases g : r < s
    · have := sq_le (a := r + 1) (b := s) (by omega) (by omega)
      omega
    · omega
theorem isq_neg {n : Int} (h : n < 1) : isq n = 0 := by
  unfold isq
  have e : n.toNat = 0 := by omega
  rw [e]
  decide +kernel
theorem isq_small {n : Int} {k : Nat} (h : n.natAbs < 2 ^ k) : (isq n).natAbs < 2 ^ k := by
  by_cases z : n < 1
  · rw [isq_neg z]
    exact Nat.two_pow_pos k
  · have a := isq_le (n := n) (by omega)
    have c := isq_nn n
    have d : isq n ≤ n := by
      by_cases e : isq n = 0
      · omega
      · have := Int.mul_le_mul_of_nonneg_left (show 1 ≤ isq n by omega) c
        omega
    omega
/-- one turn of Newton's -/
theorem four_le (x y : Int) : 4 * (x * y) ≤ (x + y) * (x + y) := by
  have h : 0 ≤ (x - y) * (x - y) := by
    rcases Int.le_total 0 (x - y) with d | d
    · exact Int.mul_nonneg d d
    · exact Int.mul_nonneg_of_nonpos_of_nonpos d d
  have e : (x + y) * (x + y) - 4 * (x * y) = (x - y) * (x - y) := by grind
  omega
theorem newton_up {n s x : Int} (hs : 0 ≤ s) (h1 : s * s ≤ n) (hx : 1 ≤ x) : s ≤ (x + n / x) / 2 := by
  have hq : n < x * (n / x + 1) := by
    have := Int.lt_mul_ediv_self_add (x := n) (k := x) (by omega)
    have e : x * (n / x + 1) = x * (n / x) + x := by grind
    omega
  generalize n / x = q at hq
  apply Decidable.byContradiction
  intro c
  have c1 : x + q + 1 ≤ 2 * s := by omega
  have h4 := four_le x (q + 1)
  have np : 0 < x * (q + 1) := by
    have : 0 ≤ s * s := Int.mul_nonneg hs hs
    omega
  have hq0 : 0 ≤ q + 1 := by
    apply Decidable.byContradiction
    intro d
    have : x * (q + 1) ≤ 0 := Int.mul_nonpos_of_nonneg_of_nonpos (by omega) (by omega)
    omega
  have h5 := sq_le (a := x + (q + 1)) (b := 2 * s) (by omega) (by omega)
  have e : 2 * s * (2 * s) = 4 * (s * s) := by grind
  omega
theorem newton_down {n s x : Int} (h2 : n < (s + 1) * (s + 1)) (hs : 0 ≤ s) (hx : s < x) : n / x ≤ s := by
  have hp : 0 < x := by omega
  have l : n < x * (s + 1) := by
    have := Int.mul_le_mul_of_nonneg_right (show s + 1 ≤ x by omega) (show 0 ≤ s + 1 by omega)
    omega
  have : n / x < s + 1 := Int.ediv_lt_of_lt_mul hp (by rw [Int.mul_comm]; exact l)
  omega
theorem bits_lt (n : Int) : n.natAbs < 2 ^ Builtin.Int.intBits n := by
  unfold Builtin.Int.intBits
  by_cases h : n = 0
  · subst h
    decide
  · have e : (n == 0) = false := by simpa using h
    rw [e]
    exact Nat.lt_log2_self
theorem bits_le {n : Int} {k : Nat} (h : n.natAbs < 2 ^ k) : Builtin.Int.intBits n ≤ k := PyProof.Rows.intBits_le h
/-- the first guess is not below the root -/
theorem guess {n : Int} (h : 0 ≤ n) : isq n ≤ 2 ^ (Builtin.Int.intBits n / 2 + 1) := by
  have a := isq_le h
  have c := isq_nn n
  have b := bits_lt n
  generalize Builtin.Int.intBits n = k at b
  apply Decidable.byContradiction
  intro d
  have d' : (2 : Int) ^ (k / 2 + 1) ≤ isq n := by omega
  have p0 : (0 : Int) ≤ 2 ^ (k / 2 + 1) := by
    have : (0 : Int) < 2 ^ (k / 2 + 1) := Int.pow_pos (by decide)
    omega
  have s := sq_le p0 d'
  rw [← Int.pow_add] at s
  have m : (2 : Nat) ^ k ≤ 2 ^ (k / 2 + 1 + (k / 2 + 1)) := Nat.pow_le_pow_right (by decide) (by omega)
  have m2 : ((2 ^ k : Nat) : Int) ≤ ((2 ^ (k / 2 + 1 + (k / 2 + 1)) : Nat) : Int) := Int.ofNat_le.mpr m
  have e : ((2 ^ (k / 2 + 1 + (k / 2 + 1)) : Nat) : Int) = (2 : Int) ^ (k / 2 + 1 + (k / 2 + 1)) := by simp
  rw [e] at m2
  have b2 : (n.natAbs : Int) < ((2 ^ k : Nat) : Int) := Int.ofNat_lt.mpr b
  omega
end Lw

namespace Lw
/-! ### signs of a + b root r by squares -/
def sg (x : Int) : Int := if 0 < x then 1 else if x = 0 then 0 else -1
def ab (x : Int) : Int := if x < 0 then -x else x
/-- the square, with the sign -/
def ss (x : Int) : Int := x * ab x
theorem sg_pos {x : Int} (h : 0 < x) : sg x = 1 := if_pos h
theorem sg_zero : sg 0 = 0 := rfl
theorem sg_neg {x : Int} (h : x < 0) : sg x = -1 := by
  unfold sg
  rw [if_neg (by omega), if_neg (by omega)]
theorem tri (x : Int) : x < 0 ∨ x = 0 ∨ 0 < x := by omega
theorem sg_mul (x y : Int) : sg (x * y) = sg x * sg y := by
  rcases tri x with h | h | h
  · rcases tri y with k | k | k
    · rw [sg_neg h, sg_neg k, sg_pos (Int.mul_pos_of_neg_of_neg h k)] <;> rfl
    · rw [k, Int.mul_zero, sg_zero, Int.mul_zero]
    · rw [sg_neg h, sg_pos k, sg_neg (Int.mul_neg_of_neg_of_pos h k)] <;> rfl
  · rw [h, Int.zero_mul, sg_zero, Int.zero_mul]
  · rcases tri y with k | k | k
    · rw [sg_pos h, sg_neg k, sg_neg (Int.mul_neg_of_pos_of_neg h k)] <;> rfl
    · rw [k, Int.mul_zero, sg_zero, Int.mul_zero]
    · rw [sg_pos h, sg_pos k, sg_pos (Int.mul_pos h k)] <;> rfl
theorem sg_flip (x : Int) : sg (-x) = - sg x := by
  rcases tri x with h | h | h
  · rw [sg_neg h, sg_pos (by omega)] <;> rfl
  · rw [h] <;> rfl
  · rw [sg_pos h, sg_neg (by omega)]
theorem sg_up {k : Int} (hk : 0 < k) (x : Int) : sg (k * x) = sg x := by rw [sg_mul, sg_pos hk, Int.one_mul]
theorem ab_nn {x : Int} (h : 0 ≤ x) : ab x = x := if_neg (by omega)
theorem ab_np {x : Int} (h : x ≤ 0) : ab x = -x := by
  unfold ab
  split <;> omega
theorem ab_flip (x : Int) : ab (-x) = ab x := by
  unfold ab
  split <;> split <;> omega
theorem ab_mul (x y : Int) : ab (x * y) = ab x * ab y := by
  rcases (by omega : x ≤ 0 ∨ 0 ≤ x) with h | h <;> rcases (by omega : y ≤ 0 ∨ 0 ≤ y) with k | k
  · rw [ab_np h, ab_np k, ab_nn (Int.mul_nonneg_of_nonpos_of_nonpos h k)]
    grind
  · rw [ab_np h, ab_nn k, ab_np (Int.mul_nonpos_of_nonpos_of_nonneg h k)]
    grind
  · rw [ab_nn h, ab_np k, ab_np (Int.mul_nonpos_of_nonneg_of_nonpos h k)]
    grind
  · rw [ab_nn h, ab_nn k, ab_nn (Int.mul_nonneg h k)]
theorem ab_sq (x : Int) : ab x * ab x = x * x := by
  unfold ab
  split <;> grind
theorem ab_ge (x : Int) : 0 ≤ ab x := by
  unfold ab
  split <;> omega
theorem sg_ss (x : Int) : sg (ss x) = sg x := by
  unfold ss
  rw [sg_mul]
  rcases tri x with h | h | h
  · rw [ab_np (by omega), sg_neg h, sg_pos (by omega)] <;> rfl
  · rw [h] <;> rfl
  · rw [ab_nn (by omega), sg_pos h] <;> rfl
theorem ab_ss (x : Int) : ab (ss x) = x * x := by
  unfold ss
  rw [ab_mul, ab_nn (ab_ge x), ab_sq]
theorem ss_mul (x y : Int) : ss (x * y) = ss x * ss y := by
  unfold ss
  rw [ab_mul]
  grind
theorem ss_flip (x : Int) : ss (-x) = - ss x := by
  unfold ss
  rw [ab_flip]
  grind
theorem ss_nn {x : Int} (h : 0 ≤ x) : ss x = x * x := by
  unfold ss
  rw [ab_nn h]
/-- the sign of a + root u, u with its sign -/
def S2 (a u : Int) : Int := if sg a = sg u ∨ sg u = 0 then sg a else if sg a = 0 then sg u else sg a * sg (a * a - ab u)
/-- the sign of a + root u + root v -/
def S3 (a u v : Int) : Int := if S2 a u = sg v ∨ sg v = 0 then S2 a u else if S2 a u = 0 then sg v else S2 a u * S2 (a * a + ab u - ab v) (4 * ss a * u)
theorem S2_up {k : Int} (hk : 0 < k) (a u : Int) : S2 (k * a) (k * k * u) = S2 a u := by
  have kk : 0 < k * k := Int.mul_pos hk hk
  have e : k * a * (k * a) - ab (k * k * u) = k * k * (a * a - ab u) := by
    rw [ab_mul, ab_nn (x := k * k) (by omega)]
    grind
  unfold S2
  rw [sg_up hk, sg_up kk, e, sg_up kk]
theorem S3_up {k : Int} (hk : 0 < k) (a u v : Int) : S3 (k * a) (k * k * u) (k * k * v) = S3 a u v := by
  have kk : 0 < k * k := Int.mul_pos hk hk
  have e : k * a * (k * a) + ab (k * k * u) - ab (k * k * v) = k * k * (a * a + ab u - ab v) := by
    rw [ab_mul (k * k) u, ab_mul (k * k) v, ab_nn (x := k * k) (by omega)]
    grind
  have e2 : 4 * ss (k * a) * (k * k * u) = (k * k) * (k * k) * (4 * ss a * u) := by
    rw [ss_mul, ss_nn (by omega : 0 ≤ k)]
    grind
  unfold S3
  rw [S2_up hk, sg_up kk, e, e2, S2_up kk]
theorem S2_sq (a t : Int) : S2 a (ss t) = sg (a + t) := by
  unfold S2
  rw [sg_ss, ab_ss]
  have e : a * a - t * t = (a - t) * (a + t) := by grind
  rw [e, sg_mul]
  rcases tri a with h | h | h <;> rcases tri t with k | k | k
  · rw [sg_neg h, sg_neg k, if_pos (.inl rfl), sg_neg (by omega)]
  · rw [k, sg_zero, if_pos (.inr rfl), Int.add_zero]
  · rw [sg_neg h, sg_pos k, if_neg (by decide), if_neg (by decide), sg_neg (by omega : a - t < 0)]
    grind
  · rw [h, sg_zero, sg_neg k, if_neg (by decide), if_pos rfl, Int.zero_add, sg_neg k]
  · rw [h, k] <;> rfl
  · rw [h, sg_zero, sg_pos k, if_neg (by decide), if_pos rfl, Int.zero_add, sg_pos k]
  · rw [sg_pos h, sg_neg k, if_neg (by decide), if_neg (by decide), sg_pos (by omega : 0 < a - t)]
    grind
  · rw [k, sg_zero, if_pos (.inr rfl), Int.add_zero]
  · rw [sg_pos h, sg_pos k, if_pos (.inl rfl), sg_pos (by omega)]
theorem S3_sq (a t v : Int) : S3 a (ss t) v = S2 (a + t) v := by
  have e2 : 4 * ss a * ss t = ss (2 * a * t) := by
    rw [ss_mul, ss_mul]
    show _ = ss 2 * ss a * ss t
    rw [show ss 2 = 4 from rfl]
  have e3 : a * a + t * t - ab v + 2 * a * t = (a + t) * (a + t) - ab v := by grind
  unfold S3
  rw [S2_sq, ab_ss, e2, S2_sq, e3]
  rfl
theorem S2_flip (a u : Int) : S2 (-a) (-u) = - S2 a u := by
  unfold S2
  rw [sg_flip, sg_flip, ab_flip, show -a * -a = a * a by grind]
  rcases tri a with h | h | h <;> rcases tri u with k | k | k <;> simp only [h, k, sg_neg, sg_pos, sg_zero] <;> first | rfl | decide | grind
theorem S2_pos {a u : Int} (ha : 0 ≤ a) (hu : 0 < u) : S2 a u = 1 := by
  unfold S2
  rcases (by omega : 0 < a ∨ a = 0) with h | h
  · rw [sg_pos h, sg_pos hu, if_pos (.inl rfl)]
  · rw [h, sg_zero, sg_pos hu, if_neg (by decide), if_pos rfl]
theorem S2_neg {a u : Int} (ha : a ≤ 0) (hu : u < 0) : S2 a u = -1 := by
  have h := S2_pos (a := -a) (u := -u) (by omega) (by omega)
  rw [S2_flip] at h
  omega
theorem S2_zero (a : Int) : S2 a 0 = sg a := by
  unfold S2
  rw [if_pos (.inr rfl)]
theorem S2_low {a u : Int} (ha : a < 0) (hu : 0 < u) : S2 a u = sg (u - a * a) := by
  unfold S2
  rw [sg_neg ha, sg_pos hu, if_neg (by decide), if_neg (by decide), ab_nn (by omega : 0 ≤ u), show u - a * a = -(a * a - u) by omega, sg_flip]
  omega
theorem S2_high {a u : Int} (ha : 0 < a) (hu : u < 0) : S2 a u = sg (a * a + u) := by
  unfold S2
  rw [sg_pos ha, sg_neg hu, if_neg (by decide), if_neg (by decide), ab_np (by omega : u ≤ 0), Int.one_mul, show a * a - -u = a * a + u by omega]
theorem W_up {s u : Int} (hs : 0 < s) (hu : 0 < u) : 0 < ss s * u := by
  rw [ss_nn (by omega)]
  exact Int.mul_pos (Int.mul_pos hs hs) hu
theorem W_down {s u : Int} (hs : s < 0) (hu : 0 < u) : ss s * u < 0 := by
  have h := W_up (s := -s) (u := u) (by omega) hu
  rw [ss_flip, Int.neg_mul] at h
  omega
/-- (x + root u) (y + root u), u above 0 -/
theorem S2_mul_pos {x y u : Int} (hu : 0 < u) : S2 x u * S2 y u = S2 (x * y + u) (ss (x + y) * u) := by
  have half : ∀ x y : Int, 0 ≤ x → y < 0 → S2 x u * S2 y u = S2 (x * y + u) (ss (x + y) * u) := fun x y hx hy => by
    rw [S2_pos hx hu, S2_low hy hu, Int.one_mul]
    have n1 : (x * y + u) * (x * y + u) - (x + y) * (x + y) * u = (x * x - u) * (y * y - u) := by grind
    have f : sg (y * y - u) = - sg (u - y * y) := by rw [← sg_flip, show -(u - y * y) = y * y - u by omega]
    rcases tri (x + y) with hs | hs | hs
    · have xy : y * y = x * x + (x + y) * (y - x) := by grind
      have p1 : 0 < (x + y) * (y - x) := Int.mul_pos_of_neg_of_neg hs (by omega)
      have p2 : x * y + x * x ≤ 0 := by
        have : x * (x + y) ≤ 0 := Int.mul_nonpos_of_nonneg_of_nonpos hx (by omega)
        grind
      have p3 : 0 < x * y + y * y := by
        have : 0 < y * (x + y) := Int.mul_pos_of_neg_of_neg hy hs
        grind
      have w := W_down hs hu
      rcases (by omega : x * y + u ≤ 0 ∨ 0 < x * y + u) with hz | hz
      · rw [S2_neg hz w, sg_neg (by omega)]
      · rw [S2_high hz w]
        have e : ss (x + y) * u = - ((x + y) * (x + y) * u) := by
          unfold ss
          rw [ab_np (by omega)]
          grind
        rw [e, show (x * y + u) * (x * y + u) + -((x + y) * (x + y) * u) = (x * x - u) * (y * y - u) by omega, sg_mul, sg_neg (by omega : x * x - u < 0), f]
        omega
    · rw [hs, show ss 0 = 0 from rfl, Int.zero_mul, S2_zero]
      have : x = -y := by omega
      rw [this]
      congr 1
      grind
    · have p2 : 0 ≤ x * y + x * x := by
        have : 0 ≤ x * (x + y) := Int.mul_nonneg hx (by omega)
        grind
      have p3 : x * y + y * y < 0 := by
        have : y * (x + y) < 0 := Int.mul_neg_of_neg_of_pos hy hs
        grind
      have w := W_up hs hu
      rcases (by omega : 0 ≤ x * y + u ∨ x * y + u < 0) with hz | hz
      · rw [S2_pos hz w, sg_pos (by omega)]
      · rw [S2_low hz w, ss_nn (by omega), show (x + y) * (x + y) * u - (x * y + u) * (x * y + u) = -((x * x - u) * (y * y - u)) by omega, sg_flip, sg_mul, sg_pos (by omega : 0 < x * x - u), f]
        omega
  rcases (by omega : 0 ≤ x ∨ x < 0) with hx | hx <;> rcases (by omega : 0 ≤ y ∨ y < 0) with hy | hy
  · have h1 : 0 < x * y + u := by
      have := Int.mul_nonneg hx hy
      omega
    rw [S2_pos hx hu, S2_pos hy hu]
    rcases (by omega : 0 < x + y ∨ x + y = 0) with hs | hs
    · rw [S2_pos (by omega) (W_up hs hu)] <;> rfl
    · rw [hs, show ss 0 = 0 from rfl, Int.zero_mul, S2_zero, sg_pos h1] <;> rfl
  · exact half x y hx hy
  · have h := half y x hy hx
    rw [Int.mul_comm y x, Int.add_comm y x] at h
    rw [Int.mul_comm, h]
  · have h1 : 0 < x * y + u := by
      have := Int.mul_pos_of_neg_of_neg hx hy
      omega
    have n1 : (x * y + u) * (x * y + u) - (x + y) * (x + y) * u = (x * x - u) * (y * y - u) := by grind
    have e : ss (x + y) * u = - ((x + y) * (x + y) * u) := by
      unfold ss
      rw [ab_np (by omega)]
      grind
    rw [S2_low hx hu, S2_low hy hu, S2_high h1 (W_down (by omega) hu), e, show (x * y + u) * (x * y + u) + -((x + y) * (x + y) * u) = (x * x - u) * (y * y - u) by omega, ← sg_mul]
    congr 1
    grind
theorem S2_mul (x y u : Int) : S2 x u * S2 y u = S2 (x * y + ab u) (ss (x + y) * u) := by
  rcases tri u with h | h | h
  · have q := S2_mul_pos (x := -x) (y := -y) (u := -u) (by omega)
    rw [S2_flip, S2_flip, show -x + -y = -(x + y) by omega, ss_flip, show -x * -y = x * y by grind, show - ss (x + y) * -u = ss (x + y) * u by grind] at q
    rw [ab_np (by omega), ← q]
    grind
  · rw [h, S2_zero, S2_zero, Int.mul_zero, S2_zero, show ab 0 = 0 from rfl, Int.add_zero, sg_mul]
  · rw [ab_nn (by omega)]
    exact S2_mul_pos h
theorem S2_more {x y u : Int} (h : x ≤ y) (s : S2 x u = 1) : S2 y u = 1 := by
  rcases tri u with hu | hu | hu
  · rcases (by omega : x ≤ 0 ∨ 0 < x) with hx | hx
    · rw [S2_neg hx hu] at s
      cases s
    · rw [S2_high hx hu] at s
      rw [S2_high (by omega) hu]
      have z : 0 < x * x + u := by
        rcases tri (x * x + u) with k | k | k
        · rw [sg_neg k] at s
          cases s
        · rw [k] at s
          cases s
        · exact k
      have m := Int.mul_le_mul h h (by omega) (by omega)
      exact sg_pos (by omega)
  · rw [hu, S2_zero] at s ⊢
    rcases tri x with k | k | k
    · rw [sg_neg k] at s
      cases s
    · rw [k] at s
      cases s
    · exact sg_pos (by omega)
  · rcases (by omega : 0 ≤ y ∨ y < 0) with hy | hy
    · exact S2_pos hy hu
    · rw [S2_low (by omega) hu] at s
      rw [S2_low hy hu]
      have z : 0 < u - x * x := by
        rcases tri (u - x * x) with k | k | k
        · rw [sg_neg k] at s
          cases s
        · rw [k] at s
          cases s
        · exact k
      have m := Int.mul_le_mul (a := -y) (b := -y) (c := -x) (d := -x) (by omega) (by omega) (by omega) (by omega)
      rw [show -y * -y = y * y by grind, show -x * -x = x * x by grind] at m
      exact sg_pos (by omega)
theorem S2_less {x y u : Int} (h : y ≤ x) (s : S2 x u = -1) : S2 y u = -1 := by
  have q := S2_more (x := -x) (y := -y) (u := -u) (by omega) (by rw [S2_flip, s] <;> rfl)
  rw [S2_flip] at q
  omega
theorem S2_val (a u : Int) : S2 a u = 1 ∨ S2 a u = 0 ∨ S2 a u = -1 := by
  have v : ∀ x, sg x = 1 ∨ sg x = 0 ∨ sg x = -1 := fun x => by
    rcases tri x with h | h | h
    · exact .inr (.inr (sg_neg h))
    · exact .inr (.inl (by rw [h] <;> rfl))
    · exact .inl (sg_pos h)
  unfold S2
  split
  · exact v a
  · split
    · exact v u
    · rcases v a with h | h | h <;> rcases v (a * a - ab u) with k | k | k <;> rw [h, k] <;> decide
theorem sg_val {x : Int} : (sg x = 0 → x = 0) ∧ (sg x = 1 → 0 < x) ∧ (sg x = -1 → x < 0) := by
  rcases tri x with h | h | h
  · have e := sg_neg h
    exact ⟨fun z => (by omega), fun z => (by omega), fun _ => h⟩
  · have e : sg x = 0 := by rw [h] <;> rfl
    exact ⟨fun _ => h, fun z => (by omega), fun z => (by omega)⟩
  · have e := sg_pos h
    exact ⟨fun z => (by omega), fun _ => h, fun z => (by omega)⟩
theorem S2_step' {x y u : Int} (h : x < y) (s : S2 x u = 0) : S2 y u = 1 := by
  rcases tri u with hu | hu | hu
  · rcases (by omega : x ≤ 0 ∨ 0 < x) with hx | hx
    · rw [S2_neg hx hu] at s
      cases s
    · rw [S2_high hx hu] at s
      have z := sg_val.1 s
      rw [S2_high (by omega) hu]
      have m : x * x < y * y := sq_lt (by omega) h
      exact sg_pos (by omega)
  · rw [hu, S2_zero] at s ⊢
    have z := sg_val.1 s
    exact sg_pos (by omega)
  · rcases (by omega : 0 ≤ y ∨ y < 0) with hy | hy
    · exact S2_pos hy hu
    · rw [S2_low (by omega) hu] at s
      have z := sg_val.1 s
      rw [S2_low hy hu]
      have m : -y * -y < -x * -x := sq_lt (by omega) (by omega)
      rw [show -y * -y = y * y by grind, show -x * -x = x * x by grind] at m
      exact sg_pos (by omega)
theorem S2_step {x y u : Int} (h : y < x) (s : S2 x u = 0) : S2 y u = -1 := by
  have q := S2_step' (x := -x) (y := -y) (u := -u) (by omega) (by rw [S2_flip, s] <;> rfl)
  rw [S2_flip] at q
  omega
theorem S3_sq' (a u t : Int) : S3 a u (ss t) = S2 (a + t) u := by
  have e : 4 * ss a * u = ss ((a + t) + (a - t)) * u := by
    rw [show (a + t) + (a - t) = 2 * a by omega, ss_mul]
    rfl
  have e2 : a * a + ab u - t * t = (a + t) * (a - t) + ab u := by grind
  unfold S3
  rw [sg_ss, ab_ss, e, e2, ← S2_mul]
  rcases tri t with k | k | k
  · rcases S2_val a u with h | h | h
    · have y := S2_more (y := a - t) (by omega) h
      rw [h, y, sg_neg k, if_neg (by decide), if_neg (by decide)]
      omega
    · rw [h, sg_neg k, if_neg (by decide), if_pos rfl]
      exact (S2_step (by omega) h).symm
    · rw [h, sg_neg k, if_pos (.inl rfl)]
      exact (S2_less (by omega) h).symm
  · rw [k, sg_zero, if_pos (.inr rfl), Int.add_zero]
  · rcases S2_val a u with h | h | h
    · rw [h, sg_pos k, if_pos (.inl rfl)]
      exact (S2_more (by omega) h).symm
    · rw [h, sg_pos k, if_neg (by decide), if_pos rfl]
      exact (S2_step' (by omega) h).symm
    · have y := S2_less (y := a - t) (by omega) h
      rw [h, y, sg_pos k, if_neg (by decide), if_neg (by decide)]
      omega
end Lw

namespace Ld
open PySem PySem.Spec PyProof.Rows L2 Lw
/-! ### data on the heap, also in written tuples -/
structure Bn where
  K : PySem.W.Frag
  b : Addr → Prop
instance : CoeFun Bn (fun _ => Addr → Prop) := ⟨Bn.b⟩
/-- a written tuple -/
def Wr (K : PySem.W.Frag) (a : Addr) (xs : List V) : Prop := ∃ (o : Obj) (its : Array Value) (n : Nat), K.lookup a = some o ∧ o.cls = .type "tuple" ∧ o.data = .seq its n ∧ its.size ≤ sizeLine ∧ Vals xs its.toList
def Tp (K : PySem.W.Frag) (H : Hp) (a : Addr) (xs : List V) : Prop := H a = some (.tup xs) ∨ Wr K a xs
theorem Tp.sq {K : PySem.W.Frag} {H : Hp} {a : Addr} {xs : List V} (h : Tp K H a xs) : SqT K H a xs := h.elim (fun h => .of h) .inr
theorem Tp.of {K : PySem.W.Frag} {H : Hp} {a : Addr} {xs : List V} (h : H a = some (.tup xs)) : Tp K H a xs := .inl h
theorem Tp.up {K : PySem.W.Frag} {H H' : Hp} {a : Addr} {xs : List V} (h : Tp K H a xs) (k : ∀ b xs, H b = some (.tup xs) → H' b = some (.tup xs)) : Tp K H' a xs := h.elim (fun h => .inl (k _ _ h)) .inr
mutual
inductive Dv (N : Bn) (H : Hp) : V → PyData → Prop
  | non : Dv N H .non .none
  | bl (b : Bool) : Dv N H (.bl b) (.bool b)
  | int (i : Int) : Dv N H (.int i) (.int i)
  | str (x : Str) : Dv N H (.str x) (.str x)
  | lst {a : Addr} {xs : List V} {ds : List PyData} : ¬ N a → H a = some (.lst xs) → DvAll N H xs ds → Dv N H (.ref a) (.list ds)
  | tup {a : Addr} {xs : List V} {ds : List PyData} : Tp N.K H a xs → DvAll N H xs ds → Dv N H (.ref a) (.tuple ds)
  | dct {a : Addr} : ¬ N a → H a = some (.dK []) → Dv N H (.ref a) (.dict [])
inductive DvAll (N : Bn) (H : Hp) : List V → List PyData → Prop
  | nil : DvAll N H [] []
  | cons {v : V} {vs : List V} {d : PyData} {ds : List PyData} : Dv N H v d → DvAll N H vs ds → DvAll N H (v :: vs) (d :: ds)
end
theorem lst_ne {xs : List V} : ∀ ps, HO.lst xs ≠ HO.tbl ps := fun ps z => by cases z
theorem dK_ne {xs} : ∀ ps, HO.dK xs ≠ HO.tbl ps := fun ps z => by cases z
mutual
theorem Dv.mapL {N N' : Bn} {H H' : Hp} (hK : N'.K = N.K) (k : ∀ b u, (∀ ps, u ≠ HO.tbl ps) → ¬ N b → H b = some u → H' b = some u ∧ ¬ N' b) (kt : ∀ b xs, H b = some (.tup xs) → H' b = some (.tup xs)) : ∀ (d : PyData) (v : V), Dv N H v d → Dv N' H' v d
  | .none, _, h => by cases h; exact .non
  | .bool _, _, h => by cases h; exact .bl _
  | .int _, _, h => by cases h; exact .int _
  | .str _, _, h => by cases h; exact .str _
  | .list ds, _, h => by
    cases h with
    | lst n e a => exact .lst (k _ _ lst_ne n e).2 (k _ _ lst_ne n e).1 (DvAll.mapL hK k kt ds _ a)
  | .tuple ds, _, h => by
    cases h with
    | tup e a => exact .tup (by rw [hK]; exact e.up kt) (DvAll.mapL hK k kt ds _ a)
  | .dict _, _, h => by
    cases h with
    | dct n e => exact .dct (k _ _ dK_ne n e).2 (k _ _ dK_ne n e).1
theorem DvAll.mapL {N N' : Bn} {H H' : Hp} (hK : N'.K = N.K) (k : ∀ b u, (∀ ps, u ≠ HO.tbl ps) → ¬ N b → H b = some u → H' b = some u ∧ ¬ N' b) (kt : ∀ b xs, H b = some (.tup xs) → H' b = some (.tup xs)) : ∀ (ds : List PyData) (vs : List V), DvAll N H vs ds → DvAll N' H' vs ds
  | [], _, h => by cases h; exact .nil
  | d :: ds, _, h => by
    cases h with
    | cons a b => exact .cons (Dv.mapL hK k kt d _ a) (DvAll.mapL hK k kt ds _ b)
end
theorem Dv.map {N N' : Bn} {H H' : Hp} (hK : N'.K = N.K) (k : ∀ b u, ¬ N b → H b = some u → H' b = some u ∧ ¬ N' b) (kt : ∀ b xs, H b = some (.tup xs) → H' b = some (.tup xs)) (d : PyData) (v : V) (h : Dv N H v d) : Dv N' H' v d := Dv.mapL hK (fun b u _ n q => k b u n q) kt d v h
theorem DvAll.map {N N' : Bn} {H H' : Hp} (hK : N'.K = N.K) (k : ∀ b u, ¬ N b → H b = some u → H' b = some u ∧ ¬ N' b) (kt : ∀ b xs, H b = some (.tup xs) → H' b = some (.tup xs)) (d : List PyData) (v : List V) (h : DvAll N H v d) : DvAll N' H' v d := DvAll.mapL hK (fun b u _ n q => k b u n q) kt d v h
theorem Dv.up {N : Bn} {H H' : Hp} {d : PyData} {v : V} (h : Dv N H v d) (k : Sx N.b H H') : Dv N H' v d := h.map rfl (fun b u n q => ⟨k.st b u n q, n⟩) k.tp _ _
theorem DvAll.up {N : Bn} {H H' : Hp} {ds : List PyData} {vs : List V} (h : DvAll N H vs ds) (k : Sx N.b H H') : DvAll N H' vs ds := h.map rfl (fun b u n q => ⟨k.st b u n q, n⟩) k.tp _ _
theorem Dv.less {N N' : Bn} {H : Hp} {d : PyData} {v : V} (h : Dv N H v d) (hK : N'.K = N.K) (k : ∀ b, N' b → N b) : Dv N' H v d := h.map hK (fun b u n q => ⟨q, fun z => n (k b z)⟩) (fun _ _ q => q) _ _
theorem Dv.same {N : Bn} {H H' : Hp} {d : PyData} {v : V} (h : Dv N H v d) (k : Same H H') : Dv N H' v d := h.up (.of k)
theorem DvAll.same {N : Bn} {H H' : Hp} {ds : List PyData} {vs : List V} (h : DvAll N H vs ds) (k : Same H H') : DvAll N H' vs ds := h.up (.of k)
theorem DvAll.length {N : Bn} {H : Hp} : ∀ {ds : List PyData} {vs : List V}, DvAll N H vs ds → vs.length = ds.length
  | _, _, .nil => rfl
  | _, _, .cons _ b => by simp [DvAll.length b]
theorem DvAll.get {N : Bn} {H : Hp} : ∀ {ds : List PyData} {vs : List V} {i : Nat} {d : PyData}, DvAll N H vs ds → ds[i]? = some d → ∃ v, vs[i]? = some v ∧ Dv N H v d
  | _, _, _, _, .nil, e => by simp at e
  | _, _, 0, _, .cons a _, e => by
    simp at e
    subst e
    exact ⟨_, rfl, a⟩
  | _, _, i + 1, _, .cons _ b, e => by
    obtain ⟨v, h1, h2⟩ := DvAll.get (i := i) b (by simpa using e)
    exact ⟨v, by simpa using h1, h2⟩
theorem DvAll.app {N : Bn} {H : Hp} : ∀ {ds es : List PyData} {vs us : List V}, DvAll N H vs ds → DvAll N H us es → DvAll N H (vs ++ us) (ds ++ es)
  | _, _, _, _, .nil, h => h
  | _, _, _, _, .cons a b, h => .cons a (DvAll.app b h)
theorem DvAll.take {N : Bn} {H : Hp} : ∀ {ds : List PyData} {vs : List V} (n : Nat), DvAll N H vs ds → DvAll N H (vs.take n) (ds.take n)
  | _, _, 0, _ => by simpa using .nil
  | _, _, _ + 1, .nil => .nil
  | _, _, n + 1, .cons a b => .cons a (DvAll.take n b)
theorem DvAll.drop {N : Bn} {H : Hp} : ∀ {ds : List PyData} {vs : List V} (n : Nat), DvAll N H vs ds → DvAll N H (vs.drop n) (ds.drop n)
  | _, _, 0, h => h
  | _, _, _ + 1, .nil => .nil
  | _, _, n + 1, .cons _ b => DvAll.drop n b
theorem DvAll.rev {N : Bn} {H : Hp} : ∀ {ds : List PyData} {vs : List V}, DvAll N H vs ds → DvAll N H vs.reverse ds.reverse
  | _, _, .nil => .nil
  | _, _, .cons a b => by
    rw [List.reverse_cons, List.reverse_cons]
    exact (DvAll.rev b).app (.cons a .nil)
theorem DvAll.nil_iff {N : Bn} {H : Hp} {ds : List PyData} {vs : List V} (h : DvAll N H vs ds) : vs = [] ↔ ds = [] := by
  cases h <;> simp
/-- ints -/
theorem DvAll.ints {N : Bn} {H : Hp} : ∀ ns : List Int, DvAll N H (ns.map V.int) (ns.map PyData.int)
  | [] => .nil
  | n :: r => .cons (.int n) (DvAll.ints r)


theorem Dv.ty {N : Bn} {H : Hp} {v : V} {d : PyData} (h : Dv N H v d) : TyX N.K H v (.type (tyName d)) := by
  cases h with
  | non => exact .base .non
  | bl b => exact .base (.bl b)
  | int i => exact .base (.int i)
  | str x => exact .base (.str x)
  | lst n e a => exact .base (.lst e)
  | tup e a =>
    rcases e with e | ⟨o, its, n, h1, h2, _⟩
    · exact .base (.tup e)
    · exact .kTuple h1 h2
  | dct n e => exact .base (.dK e)
/-- isinstance(data, a built-in class) -/
def rIsD (T : String) (f : PyData → Bool) (K : PySem.W.Frag) : List V → Hp → VK → Prop := fun xs H Q => ∃ (N : Bn) (v : V) (d : PyData), N.K = K ∧ xs = [v, .ty T] ∧ Dv N H v d ∧ Q (.bl (f d)) H
theorem call_isD {X : Cx} {T : String} {f : PyData → Bool} (k : ∀ d, kitB (tyName d) T = some (f d)) : CallR X (.builtin "isinstance") (rIsD T f X.K) := by
  intro pins s σ H xs us Q I r h
  obtain ⟨N, v, d, hK, rfl, hd, q⟩ := h
  have ht := hd.ty
  rw [hK] at ht
  exact call_isi pins s σ H _ us Q I r ⟨v, .ty T, .type (tyName d), .type T, f d, rfl, .ty T, ht, kit_ty (k d), q⟩
/-! ### a text of data -/
section
variable {X : Cx} {pins : List (Addr × Obj)} {σ : L2.St} {H : Hp} {s : Shared}
mutual
theorem Dv.reads (I : Inv X pins σ H s) {N : Bn} (hK : N.K = X.K) : ∀ (d : PyData) (v : V) (u : Value), Dv N H v d → RelV v u → ∃ as, Reads s.heap u d as ∧ ∀ a ∈ as, ¬ N a
  | .none, _, _, h, r => by
    cases h
    cases r
    exact ⟨_, Reads.none, fun _ z => nomatch z⟩
  | .bool b, _, _, h, r => by
    cases h
    cases r
    exact ⟨_, Reads.bool b, fun _ z => nomatch z⟩
  | .int i, _, _, h, r => by
    cases h
    obtain ⟨t, rfl⟩ := r
    exact ⟨_, Reads.int i t, fun _ z => nomatch z⟩
  | .str x, _, _, h, r => by
    cases h
    obtain ⟨t, rfl⟩ := r
    exact ⟨_, Reads.str x t, fun _ z => nomatch z⟩
  | .list ds, _, _, h, r => by
    cases h with
    | lst n e ha =>
      cases r
      obtain ⟨z, its, k, rv, ho⟩ := (show ObjOk X.prog X.w H s.heap _ (.lst _) from I.hok _ _ e)
      obtain ⟨as, hr, na⟩ := DvAll.reads I hK ds _ its ha rv
      refine ⟨_, Reads.list ho rfl rfl hr, fun b hb => ?_⟩
      rcases List.mem_cons.mp hb with rfl | hb
      · exact n
      · exact na b hb
  | .tuple ds, _, _, h, r => by
    cases h with
    | tup e ha =>
      cases r
      obtain ⟨its, rv, ⟨o, ho, hc, k, hd⟩, z⟩ := I.tuple (hK ▸ e.sq)
      obtain ⟨as, hr, na⟩ := DvAll.reads I hK ds _ its ha rv
      exact ⟨_, Reads.tuple ho hc hd hr, na⟩
  | .dict _, _, _, h, r => by
    cases h with
    | dct n e =>
      cases r
      obtain ⟨z, _, vs, rv, o, es, ep, ho, hex, hdat, hkey, hes, _⟩ := (show ObjOk X.prog X.w H s.heap _ (.dK []) from I.hok _ _ e)
      cases rv
      have he : es.toList = [] := by
        revert hes
        generalize es.toList = l
        intro hes
        cases hes
        rfl
      refine ⟨_, Reads.dict ho hex.1 hdat (as := []) (bs := []) ?_ ?_, fun b hb => ?_⟩
      · rw [he]
        exact .nil
      · rw [he]
        exact .nil
      · simp at hb
        subst hb
        exact n
theorem DvAll.reads (I : Inv X pins σ H s) {N : Bn} (hK : N.K = X.K) : ∀ (ds : List PyData) (vs : List V) (us : List Value), DvAll N H vs ds → Vals vs us → ∃ as, ReadsAll s.heap us ds as ∧ ∀ a ∈ as, ¬ N a
  | [], _, _, h, r => by
    cases h
    cases r
    exact ⟨_, .nil, fun _ z => nomatch z⟩
  | d :: ds, _, _, h, r => by
    cases h with
    | cons h1 h2 =>
      cases r with
      | cons r1 r2 =>
        obtain ⟨as, q1, n1⟩ := Dv.reads I hK d _ _ h1 r1
        obtain ⟨bs, q2, n2⟩ := DvAll.reads I hK ds _ _ h2 r2
        refine ⟨_, .cons q1 q2, fun b hb => ?_⟩
        rcases List.mem_append.mp hb with hb | hb
        · exact n1 b hb
        · exact n2 b hb
end
end
def rRepr (K : PySem.W.Frag) : List V → Hp → VK → Prop := fun xs H Q => ∃ (N : Bn) (v : V) (d : PyData), N.K = K ∧ xs = [v] ∧ Dv N H v d ∧ Tells N.b d ∧ Q (.str d.shown) H
theorem call_repr {X : Cx} {k : Nat} (hr : Room k X.A) (hG : X.A.guards = some []) : CallR X (.builtin "repr") (rRepr X.K) := by
  intro pins s σ H xs us Q I r h
  obtain ⟨N, v, d, hK, rfl, hd, ⟨h1, h2, h3, h4⟩, q⟩ := h
  obtain ⟨u, rfl, rx⟩ := vals1 r
  have units := hr.un
  obtain ⟨as, rd, na⟩ := Dv.reads I hK d v u hd rx
  have ref : ∀ a, u = .ref a → wpAny (model X.prog X.w) X.A (call (.builtin "repr") [u]) (EP X pins σ Q) X.xe s := fun a e => by
    subst e
    refine repr_of_reads' rd h1 (fun z m => na _ m (h4 z)) hG (by omega) (fun _ _ q => q) (fun h' u' tk k => ?_) h3
    exact ⟨.str d.shown, H, I.kept k, ⟨_, rfl⟩, q⟩
  cases hd with
  | non =>
    cases rx
    exact PySem.P.repr_of_none ⟨.str _, H, I.tok _, ⟨_, rfl⟩, q⟩
  | bl b =>
    cases rx
    refine PySem.P.repr_of_bool ⟨.str _, H, I.tok _, ⟨s.toks, ?_⟩, q⟩
    cases b <;> rfl
  | int i =>
    obtain ⟨t, rfl⟩ := rx
    exact PySem.P.repr_of_int (by simpa [PyData.showable] using h1) ⟨.str _, H, I.tok _, ⟨_, rfl⟩, q⟩
  | str x =>
    obtain ⟨t, rfl⟩ := rx
    exact PySem.P.repr_of_str ⟨.str _, H, I.tok _, ⟨_, rfl⟩, q⟩ (by simpa [PyData.shown] using h3)
  | lst n e a => exact ref _ rx
  | tup e a => exact ref _ rx
  | dct n e => exact ref _ rx
def FreshB (N : Bn) (H : Hp) : Prop := ∀ p, H p = none → p ≠ sysModules → ¬ N p
theorem FreshB.same {N : Bn} {H H' : Hp} (f : FreshB N H) (k : Same H H') : FreshB N H' := fun p h n => f p (same_none k h) n
def tData (d : PyData) : TE := fun _ H Q => ∃ N : Bn, FreshB N H ∧ ∀ v H', Same H H' → Dv N H' v d → Q v H'
def tDatas (ds : List PyData) : TA := fun _ H Q => ∃ N : Bn, FreshB N H ∧ ∀ vs H', Same H H' → DvAll N H' vs ds → Q vs H'
section
variable {X : Cx} {e : Expr} {es : List Expr} {d : PyData} {ds : List PyData} {pos : Pos}
theorem pd_int {i : Int} {j : Nat} : PE X (.Constant (.int i) j pos) (tData (.int i)) := pe_int.weak fun _ H Q ⟨_, _, q⟩ => q _ H (Same.refl H) (.int i)
theorem pd_bl {b : Bool} {j : Nat} : PE X (.Constant (.bool b) j pos) (tData (.bool b)) := pe_bl.weak fun _ H Q ⟨_, _, q⟩ => q _ H (Same.refl H) (.bl b)
theorem pd_non {j : Nat} : PE X (.Constant .none j pos) (tData .none) := pe_non.weak fun _ H Q ⟨_, _, q⟩ => q _ H (Same.refl H) .non
theorem pd_str {x : Str} {j : Nat} : PE X (.Constant (.str x) j pos) (tData (.str x)) := pe_str.weak fun _ H Q ⟨_, _, q⟩ => q _ H (Same.refl H) (.str x)
theorem pd_neg {i : Int} (h : PE X e (tData (.int i))) : PE X (.UnaryOp .USub e pos) (tData (.int (-i))) :=
  (pe_un un_neg h).weak fun σ H Q ⟨N, f, q⟩ => ⟨N, f, fun v H' k dv => by
    cases dv
    exact ⟨i, rfl, q _ H' k (.int (-i))⟩⟩
theorem pd_pow {i : Int} {n : Nat} {e1 e2 : Expr} (h1 : PE X e1 (tData (.int i))) (h2 : PE X e2 (tData (.int (n : Int)))) (hn : n ≤ 1000000) (hi : i.natAbs < 2 ^ 64) : PE X (.BinOp e1 .Pow e2 pos) (tData (.int (i ^ n))) :=
  (pe_op op_pow h1 h2).weak fun σ H Q ⟨N, f, q⟩ => ⟨N, f, fun v H' k dv => by
    cases dv
    refine ⟨N, f.same k, fun v2 H2 k2 dv2 => ?_⟩
    cases dv2
    refine ⟨i, (n : Int), rfl, rfl, ⟨by omega, by omega, hi⟩, ?_⟩
    show Q (.int (i ^ ((n : Int)).toNat)) H2
    rw [Int.toNat_natCast]
    exact q _ H2 (k.trans k2) (.int _)⟩
theorem pda_nil : PA X [] (tDatas []) := pa_nil.weak fun _ H Q ⟨_, _, q⟩ => q [] H (Same.refl H) .nil
theorem pda_cons (h : PE X e (tData d)) (r : PA X es (tDatas ds)) (hs : starEach (e :: es) X.env = (false, eval e X.env) :: starEach es X.env := by rfl) : PA X (e :: es) (tDatas (d :: ds)) :=
  (pa_cons h r hs).weak fun σ H Q ⟨N, f, q⟩ => ⟨N, f, fun v H1 k1 dv => ⟨N, f.same k1, fun vs H2 k2 dvs => q _ H2 (k1.trans k2) (.cons (dv.same k2) dvs)⟩⟩
theorem pd_tup {x1} (h : PA X es (tDatas ds)) (hl : ds.length ≤ 1000 := by decide) : PE X (.Tuple es x1 pos) (tData (.tuple ds)) :=
  (pe_tup h).weak fun σ H Q ⟨N, f, q⟩ => ⟨N, f, fun vs H1 k1 dvs => ⟨by
    have z := dvs.length
    rw [sizeLine_eq]
    omega, fun p hp => q _ _ (k1.trans (same_new hp _)) (.tup (.of upd_same) (dvs.same (same_new hp _)))⟩⟩
theorem pd_lst (h : PA X es (tDatas ds)) (hl : ds.length ≤ 1000 := by decide) : PE X (.List es pos) (tData (.list ds)) :=
  (pe_list h).weak fun σ H Q ⟨N, f, q⟩ => ⟨N, f, fun vs H1 k1 dvs => ⟨by
    have z := dvs.length
    rw [sizeLine_eq]
    omega, fun p hp np => q _ _ (k1.trans (same_new hp _)) (.lst (f.same k1 p hp np) upd_same (dvs.same (same_new hp _)))⟩⟩
theorem pd_dct : PE X (.Dict [] [] pos) (tData (.dict [])) :=
  pe_dict0.weak fun σ H Q ⟨N, f, q⟩ p hp np => q _ _ (same_new hp _) (.dct (f p hp np) upd_same)
end
theorem tup_at {N : Bn} {H : Hp} {v : V} {ds : List PyData} (h : Dv N H v (.tuple ds)) : ∃ a xs, v = .ref a ∧ Tp N.K H a xs ∧ DvAll N H xs ds := by
  cases h with
  | tup e all => exact ⟨_, _, rfl, e, all⟩
section
variable {N : Bn} {H : Hp} {Q : VK}
theorem dv_cut {v : V} {ds : List PyData} {lo hi : Option Int} (h : Dv N H v (.tuple ds)) (q : ∀ u H', Same H H' → Dv N H' u (.tuple (Lw.cutD ds lo hi)) → Q u H') : rSlA N.K v lo hi H Q := by
  obtain ⟨a, xs, rfl, e, all⟩ := tup_at h
  have hl := all.length
  refine ⟨a, xs, rfl, e.sq, fun z => ?_, fun z p hp => ?_⟩
  · refine q _ H (.refl H) ?_
    have c : Lw.cutD ds lo hi = ds := by
      unfold Lw.cutD
      rw [← hl, z.1, z.2]
      show (ds.take (xs.length - 0)) = ds
      rw [List.take_of_length_le (by omega)]
    rw [c]
    exact h
  · have s : Same H (upd H p (.tup (cutV xs lo hi))) := same_new hp _
    refine q _ _ s (.tup (.of upd_same) ?_)
    unfold Lw.cutD cutV
    rw [← hl]
    exact ((all.same s).drop _).take _
theorem dv_cat {v u : V} {ds es : List PyData} (h : Dv N H v (.tuple ds)) (h2 : Dv N H u (.tuple es)) (hl : ds.length + es.length ≤ 16000000) (q : ∀ y H', Same H H' → Dv N H' y (.tuple (ds ++ es)) → Q y H') : rCatA N.K v u H Q := by
  obtain ⟨a, xs, rfl, e, all⟩ := tup_at h
  obtain ⟨b, ys, rfl, e2, all2⟩ := tup_at h2
  have l1 := all.length
  have l2 := all2.length
  refine ⟨a, b, xs, ys, rfl, rfl, e.sq, e2.sq, by rw [sizeLine_eq]; omega, fun z => ?_, fun _ z => ?_, fun _ _ p hp => ?_⟩
  · have c := all.nil_iff.mp z
    subst c
    exact q _ H (.refl H) h2
  · have c := all2.nil_iff.mp z
    subst c
    rw [List.append_nil] at q
    exact q _ H (.refl H) h
  · have s : Same H (upd H p (.tup (xs ++ ys))) := same_new hp _
    exact q _ _ s (.tup (.of upd_same) ((all.app all2).same s))
end
end Ld

namespace Ld
open PySem PySem.Spec PyProof.Rows L2 Lw
/-! ### data that a name of the text holds -/
mutual
inductive Wv (K : PySem.W.Frag) : V → PyData → Prop
  | non : Wv K .non .none
  | bl (b : Bool) : Wv K (.bl b) (.bool b)
  | int (i : Int) : Wv K (.int i) (.int i)
  | str (x : Str) : Wv K (.str x) (.str x)
  | tup {a : Addr} {xs : List V} {ds : List PyData} : Wr K a xs → WvAll K xs ds → Wv K (.ref a) (.tuple ds)
inductive WvAll (K : PySem.W.Frag) : List V → List PyData → Prop
  | nil : WvAll K [] []
  | cons {v : V} {vs : List V} {d : PyData} {ds : List PyData} : Wv K v d → WvAll K vs ds → WvAll K (v :: vs) (d :: ds)
end
mutual
theorem Wv.dv {K : PySem.W.Frag} {N : Bn} {H : Hp} (hK : N.K = K) : ∀ (d : PyData) (v : V), Wv K v d → Dv N H v d
  | .none, _, h => by cases h; exact .non
  | .bool _, _, h => by cases h; exact .bl _
  | .int _, _, h => by cases h; exact .int _
  | .str _, _, h => by cases h; exact .str _
  | .list _, _, h => by cases h
  | .tuple ds, _, h => by
    cases h with
    | tup w a => exact .tup (.inr (hK ▸ w)) (WvAll.dv hK ds _ a)
  | .dict _, _, h => by cases h
theorem WvAll.dv {K : PySem.W.Frag} {N : Bn} {H : Hp} (hK : N.K = K) : ∀ (ds : List PyData) (vs : List V), WvAll K vs ds → DvAll N H vs ds
  | [], _, h => by cases h; exact .nil
  | d :: ds, _, h => by
    cases h with
    | cons a b => exact .cons (Wv.dv hK d _ a) (WvAll.dv hK ds _ b)
end
/-- the name x holds d -/
structure Wd (K : PySem.W.Frag) (mg : Str → Option Value) (x : Str) (d : PyData) : Prop where
  ex : ∃ (v : V) (u : Value), mg x = some u ∧ RelV v u ∧ Wv K v d
theorem wr_of {K : PySem.W.Frag} {a : Addr} {od : Option Addr} {its : Array Value} {n : Nat} {sl : Array (Option Value)} {xs : List V} (h : K.lookup a = some ⟨.type "tuple", od, .seq its n, sl⟩) (hs : its.size ≤ sizeLine) (r : Vals xs its.toList) : Wr K a xs := ⟨_, its, n, h, rfl, rfl, hs, r⟩
end Ld

namespace My
open PySem L2 Lw
def topS (i : Nat) : Stmt := PySem.Challenge.pw_planehall_k02_numbers_of_anything.main.body.getD i (.Pass ⟨0, 0, 0, 0⟩)
def inS (i j : Nat) : Stmt := match topS i with
  | .ClassDef (body := b) .. => b.getD j (.Pass ⟨0, 0, 0, 0⟩)
  | _ => .Pass ⟨0, 0, 0, 0⟩
abbrev s_p__wall : Stmt := topS 1
abbrev N_p__wall : List Str := ["k"]
theorem sc_p__wall : FnScope N_p__wall ["k"] (defScope s_p__wall) := ⟨rfl, rfl, rfl, by decide +kernel, rfl, by decide +kernel, by decide +kernel⟩
abbrev s_p_reduced : Stmt := topS 6
abbrev N_p_reduced : List Str := ["top", "bottom", "part"]
theorem sc_p_reduced : FnScope N_p_reduced ["top", "bottom"] (defScope s_p_reduced) := ⟨rfl, rfl, rfl, by decide +kernel, rfl, by decide +kernel, by decide +kernel⟩
abbrev s_p_number_of : Stmt := topS 7
abbrev N_p_number_of : List Str := ["a", "b", "r", "w", "square", "middle", "rest", "part"]
theorem sc_p_number_of : FnScope N_p_number_of ["a", "b", "r", "w"] (defScope s_p_number_of) := ⟨rfl, rfl, rfl, by decide +kernel, rfl, by decide +kernel, by decide +kernel⟩
abbrev s_p_is_square : Stmt := topS 8
abbrev N_p_is_square : List Str := ["whole", "side"]
theorem sc_p_is_square : FnScope N_p_is_square ["whole"] (defScope s_p_is_square) := ⟨rfl, rfl, rfl, by decide +kernel, rfl, by decide +kernel, by decide +kernel⟩
abbrev s_p_square_root : Stmt := topS 9
abbrev N_p_square_root : List Str := ["fraction", "top", "bottom"]
theorem sc_p_square_root : FnScope N_p_square_root ["fraction"] (defScope s_p_square_root) := ⟨rfl, rfl, rfl, by decide +kernel, rfl, by decide +kernel, by decide +kernel⟩
abbrev s_p_is_whole : Stmt := topS 11
abbrev N_p_is_whole : List Str := ["value"]
theorem sc_p_is_whole : FnScope N_p_is_whole ["value"] (defScope s_p_is_whole) := ⟨rfl, rfl, rfl, by decide +kernel, rfl, by decide +kernel, by decide +kernel⟩
abbrev s_p_is_fraction : Stmt := topS 12
abbrev N_p_is_fraction : List Str := ["value"]
theorem sc_p_is_fraction : FnScope N_p_is_fraction ["value"] (defScope s_p_is_fraction) := ⟨rfl, rfl, rfl, by decide +kernel, rfl, by decide +kernel, by decide +kernel⟩
abbrev s_p_is_root : Stmt := topS 13
abbrev N_p_is_root : List Str := ["value", "square", "middle", "rest", "_", "under"]
theorem sc_p_is_root : FnScope N_p_is_root ["value"] (defScope s_p_is_root) := ⟨rfl, rfl, rfl, by decide +kernel, rfl, by decide +kernel, by decide +kernel⟩
abbrev s_p_is_number : Stmt := topS 14
abbrev N_p_is_number : List Str := ["value"]
theorem sc_p_is_number : FnScope N_p_is_number ["value"] (defScope s_p_is_number) := ⟨rfl, rfl, rfl, by decide +kernel, rfl, by decide +kernel, by decide +kernel⟩
abbrev s_p_check_fraction : Stmt := topS 15
abbrev N_p_check_fraction : List Str := ["fraction"]
theorem sc_p_check_fraction : FnScope N_p_check_fraction ["fraction"] (defScope s_p_check_fraction) := ⟨rfl, rfl, rfl, by decide +kernel, rfl, by decide +kernel, by decide +kernel⟩
abbrev s_p_root_of : Stmt := topS 16
abbrev N_p_root_of : List Str := ["fraction"]
theorem sc_p_root_of : FnScope N_p_root_of ["fraction"] (defScope s_p_root_of) := ⟨rfl, rfl, rfl, by decide +kernel, rfl, by decide +kernel, by decide +kernel⟩
abbrev s_l_well : Stmt := topS 18
abbrev N_l_well : List Str := ["_law_script", "_law_at", "_law_mixed", "_law_cell", "_law_own"]
theorem sc_l_well : FnScope N_l_well ["_law_script", "_law_at"] (defScope s_l_well) := ⟨rfl, rfl, rfl, by decide +kernel, rfl, by decide +kernel, by decide +kernel⟩
abbrev s_l_draw : Stmt := topS 19
abbrev N_l_draw : List Str := ["_law_well_here", "_law_many", "_law_figure", "_law_seed"]
theorem sc_l_draw : FnScope N_l_draw ["_law_well_here", "_law_many"] (defScope s_l_draw) := ⟨rfl, rfl, rfl, by decide +kernel, rfl, by decide +kernel, by decide +kernel⟩
abbrev s_l_pick : Stmt := topS 20
abbrev N_l_pick : List Str := ["_law_well_here", "_law_some"]
theorem sc_l_pick : FnScope N_l_pick ["_law_well_here", "_law_some"] (defScope s_l_pick) := ⟨rfl, rfl, rfl, by decide +kernel, rfl, by decide +kernel, by decide +kernel⟩
abbrev s_l_common : Stmt := topS 21
abbrev N_l_common : List Str := ["_law_one", "_law_two", "_law_far", "_law_rest"]
theorem sc_l_common : FnScope N_l_common ["_law_one", "_law_two"] (defScope s_l_common) := ⟨rfl, rfl, rfl, by decide +kernel, rfl, by decide +kernel, by decide +kernel⟩
abbrev s_l_lean : Stmt := topS 22
abbrev N_l_lean : List Str := ["_law_top", "_law_low", "_law_far"]
theorem sc_l_lean : FnScope N_l_lean ["_law_top", "_law_low"] (defScope s_l_lean) := ⟨rfl, rfl, rfl, by decide +kernel, rfl, by decide +kernel, by decide +kernel⟩
abbrev s_l_mul : Stmt := topS 23
abbrev N_l_mul : List Str := ["_law_one", "_law_two"]
theorem sc_l_mul : FnScope N_l_mul ["_law_one", "_law_two"] (defScope s_l_mul) := ⟨rfl, rfl, rfl, by decide +kernel, rfl, by decide +kernel, by decide +kernel⟩
abbrev s_l_neg : Stmt := topS 24
abbrev N_l_neg : List Str := ["_law_one"]
theorem sc_l_neg : FnScope N_l_neg ["_law_one"] (defScope s_l_neg) := ⟨rfl, rfl, rfl, by decide +kernel, rfl, by decide +kernel, by decide +kernel⟩
abbrev s_l_root : Stmt := topS 25
abbrev N_l_root : List Str := ["_law_number_here", "_law_found", "_law_spot", "_law_closer"]
theorem sc_l_root : FnScope N_l_root ["_law_number_here"] (defScope s_l_root) := ⟨rfl, rfl, rfl, by decide +kernel, rfl, by decide +kernel, by decide +kernel⟩
abbrev s_l_is_square : Stmt := topS 26
abbrev N_l_is_square : List Str := ["_law_number_here"]
theorem sc_l_is_square : FnScope N_l_is_square ["_law_number_here"] (defScope s_l_is_square) := ⟨rfl, rfl, rfl, by decide +kernel, rfl, by decide +kernel, by decide +kernel⟩
abbrev s_l_formed : Stmt := topS 27
abbrev N_l_formed : List Str := ["_law_one", "_law_a", "_law_b", "_law_r", "_law_d", "_law_p", "_law_q", "_law_s", "_law_far"]
theorem sc_l_formed : FnScope N_l_formed ["_law_one"] (defScope s_l_formed) := ⟨rfl, rfl, rfl, by decide +kernel, rfl, by decide +kernel, by decide +kernel⟩
abbrev s_l_small : Stmt := topS 28
abbrev N_l_small : List Str := ["_law_well_here"]
theorem sc_l_small : FnScope N_l_small ["_law_well_here"] (defScope s_l_small) := ⟨rfl, rfl, rfl, by decide +kernel, rfl, by decide +kernel, by decide +kernel⟩
abbrev s_l_size : Stmt := topS 29
abbrev N_l_size : List Str := ["_law_well_here"]
theorem sc_l_size : FnScope N_l_size ["_law_well_here"] (defScope s_l_size) := ⟨rfl, rfl, rfl, by decide +kernel, rfl, by decide +kernel, by decide +kernel⟩
abbrev s_l_number : Stmt := topS 30
abbrev N_l_number : List Str := ["_law_well_here", "_law_branch", "_law_top", "_law_low", "_law_b", "_law_r", "_law_great"]
theorem sc_l_number : FnScope N_l_number ["_law_well_here"] (defScope s_l_number) := ⟨rfl, rfl, rfl, by decide +kernel, rfl, by decide +kernel, by decide +kernel⟩
abbrev s_l_is_whole : Stmt := topS 31
abbrev N_l_is_whole : List Str := ["_law_thing"]
theorem sc_l_is_whole : FnScope N_l_is_whole ["_law_thing"] (defScope s_l_is_whole) := ⟨rfl, rfl, rfl, by decide +kernel, rfl, by decide +kernel, by decide +kernel⟩
abbrev s_l_is_lot : Stmt := topS 32
abbrev N_l_is_lot : List Str := ["_law_thing", "_law_many"]
theorem sc_l_is_lot : FnScope N_l_is_lot ["_law_thing", "_law_many"] (defScope s_l_is_lot) := ⟨rfl, rfl, rfl, by decide +kernel, rfl, by decide +kernel, by decide +kernel⟩
abbrev s_l_is_fraction : Stmt := topS 33
abbrev N_l_is_fraction : List Str := ["_law_thing", "_law_each"]
theorem sc_l_is_fraction : FnScope N_l_is_fraction ["_law_thing"] (defScope s_l_is_fraction) := ⟨rfl, rfl, rfl, by decide +kernel, rfl, by decide +kernel, by decide +kernel⟩
abbrev s_l_is_number : Stmt := topS 34
abbrev N_l_is_number : List Str := ["_law_thing", "_law_each", "_law_p", "_law_q", "_law_s"]
theorem sc_l_is_number : FnScope N_l_is_number ["_law_thing"] (defScope s_l_is_number) := ⟨rfl, rfl, rfl, by decide +kernel, rfl, by decide +kernel, by decide +kernel⟩
abbrev s_l_odd : Stmt := topS 35
abbrev N_l_odd : List Str := ["_law_well_here"]
theorem sc_l_odd : FnScope N_l_odd ["_law_well_here"] (defScope s_l_odd) := ⟨rfl, rfl, rfl, by decide +kernel, rfl, by decide +kernel, by decide +kernel⟩
abbrev s_l_bent : Stmt := topS 36
abbrev N_l_bent : List Str := ["_law_well_here", "_law_thing", "_law_spot", "_law_branch"]
theorem sc_l_bent : FnScope N_l_bent ["_law_well_here", "_law_thing"] (defScope s_l_bent) := ⟨rfl, rfl, rfl, by decide +kernel, rfl, by decide +kernel, by decide +kernel⟩
abbrev s_l_spoilt : Stmt := topS 37
abbrev N_l_spoilt : List Str := ["_law_well_here", "_law_thing", "_law_branch"]
theorem sc_l_spoilt : FnScope N_l_spoilt ["_law_well_here", "_law_thing"] (defScope s_l_spoilt) := ⟨rfl, rfl, rfl, by decide +kernel, rfl, by decide +kernel, by decide +kernel⟩
abbrev s_l_told : Stmt := topS 38
abbrev N_l_told : List Str := ["_law_given", "_law_told_here", "e"]
theorem sc_l_told : FnScope N_l_told ["_law_given"] (defScope s_l_told) := ⟨rfl, rfl, rfl, by decide +kernel, rfl, by decide +kernel, by decide +kernel⟩
abbrev s_l_due : Stmt := topS 39
abbrev N_l_due : List Str := ["_law_given"]
theorem sc_l_due : FnScope N_l_due ["_law_given"] (defScope s_l_due) := ⟨rfl, rfl, rfl, by decide +kernel, rfl, by decide +kernel, by decide +kernel⟩
abbrev s_l_right : Stmt := topS 40
abbrev N_l_right : List Str := ["_law_well_here", "_law_form", "_law_some", "_law_each", "_law_one", "_law_great"]
theorem sc_l_right : FnScope N_l_right ["_law_well_here"] (defScope s_l_right) := ⟨rfl, rfl, rfl, by decide +kernel, rfl, by decide +kernel, by decide +kernel⟩
abbrev s_l_law : Stmt := topS 41
abbrev N_l_law : List Str := ["_law_script", "_law_at"]
theorem sc_l_law : FnScope N_l_law ["_law_script"] (defScope s_l_law) := ⟨rfl, rfl, rfl, by decide +kernel, rfl, by decide +kernel, by decide +kernel⟩
abbrev s_iInvalidFraction : Stmt := inS 4 0
abbrev N_iInvalidFraction : List Str := ["self", "given"]
theorem sc_iInvalidFraction : FnScope N_iInvalidFraction ["self", "given"] (defScope s_iInvalidFraction) := ⟨rfl, rfl, rfl, by decide +kernel, rfl, by decide +kernel, by decide +kernel⟩
structure Top (K : PySem.W.Frag) (mg : Str → Option Value) : Prop where
  d_p__wall : Dn K mg "_wall" s_p__wall ["k"]
  d_p_reduced : Dn K mg "reduced" s_p_reduced ["top", "bottom"]
  d_p_number_of : Dn K mg "number_of" s_p_number_of ["a", "b", "r", "w"]
  d_p_is_square : Dn K mg "is_square" s_p_is_square ["whole"]
  d_p_square_root : Dn K mg "square_root" s_p_square_root ["fraction"]
  d_p_is_whole : Dn K mg "is_whole" s_p_is_whole ["value"]
  d_p_is_fraction : Dn K mg "is_fraction" s_p_is_fraction ["value"]
  d_p_is_root : Dn K mg "is_root" s_p_is_root ["value"]
  d_p_is_number : Dn K mg "is_number" s_p_is_number ["value"]
  d_p_check_fraction : Dn K mg "check_fraction" s_p_check_fraction ["fraction"]
  d_p_root_of : Dn K mg "root_of" s_p_root_of ["fraction"]
  d_l_well : Dn K mg "_law_well" s_l_well ["_law_script", "_law_at"]
  d_l_draw : Dn K mg "_law_draw" s_l_draw ["_law_well_here", "_law_many"]
  d_l_pick : Dn K mg "_law_pick" s_l_pick ["_law_well_here", "_law_some"]
  d_l_common : Dn K mg "_law_common" s_l_common ["_law_one", "_law_two"]
  d_l_lean : Dn K mg "_law_lean" s_l_lean ["_law_top", "_law_low"]
  d_l_mul : Dn K mg "_law_mul" s_l_mul ["_law_one", "_law_two"]
  d_l_neg : Dn K mg "_law_neg" s_l_neg ["_law_one"]
  d_l_root : Dn K mg "_law_root" s_l_root ["_law_number_here"]
  d_l_is_square : Dn K mg "_law_is_square" s_l_is_square ["_law_number_here"]
  d_l_formed : Dn K mg "_law_formed" s_l_formed ["_law_one"]
  d_l_small : Dn K mg "_law_small" s_l_small ["_law_well_here"]
  d_l_size : Dn K mg "_law_size" s_l_size ["_law_well_here"]
  d_l_number : Dn K mg "_law_number" s_l_number ["_law_well_here"]
  d_l_is_whole : Dn K mg "_law_is_whole" s_l_is_whole ["_law_thing"]
  d_l_is_lot : Dn K mg "_law_is_lot" s_l_is_lot ["_law_thing", "_law_many"]
  d_l_is_fraction : Dn K mg "_law_is_fraction" s_l_is_fraction ["_law_thing"]
  d_l_is_number : Dn K mg "_law_is_number" s_l_is_number ["_law_thing"]
  d_l_odd : Dn K mg "_law_odd" s_l_odd ["_law_well_here"]
  d_l_bent : Dn K mg "_law_bent" s_l_bent ["_law_well_here", "_law_thing"]
  d_l_spoilt : Dn K mg "_law_spoilt" s_l_spoilt ["_law_well_here", "_law_thing"]
  d_l_told : Dn K mg "_law_told" s_l_told ["_law_given"]
  d_l_due : Dn K mg "_law_due" s_l_due ["_law_given"]
  d_l_right : Dn K mg "_law_right" s_l_right ["_law_well_here"]
  d_l_law : Dn K mg "law" s_l_law ["_law_script"]
  z_len : mg "len" = none
  z_abs : mg "abs" = none
  z_divmod : mg "divmod" = none
  z_repr : mg "repr" = none
  z_int : mg "int" = none
  z_list : mg "list" = none
  z_tuple : mg "tuple" = none
  z_max : mg "max" = none
  z_min : mg "min" = none
  z_all : mg "all" = none
  z_isinstance : mg "isinstance" = none
  z_bool : mg "bool" = none
  z_range : mg "range" = none
  z_ValueError : mg "ValueError" = none
  g_gcd : mg "gcd" = some (.builtin "math.gcd")
  g_isqrt : mg "isqrt" = some (.builtin "math.isqrt")
  e_InvalidFraction : ∃ C fI fd, Ec K mg "InvalidFraction" "given" s_iInvalidFraction C fI fd
theorem i_InvalidFraction {P : Program} {w : World} {K : PySem.W.Frag} {mg : Str → Option Value} {base : Heap} {C fI : Addr} {fd : FuncData} (ec : Ec K mg "InvalidFraction" "given" s_iInvalidFraction C fI fd) : FnOk P w K mg base CX0 1 fI fd ["self", "given"] (spInit "given" C) := by
  refine ec.fn.ok sc_iInvalidFraction (fun vs H Q E h => ?_) (fun cdv A outer s H vs Q E hr h => ?_)
  · obtain ⟨a, v, rfl, _⟩ := h
    rfl
  obtain ⟨a, v, rfl, ha, q⟩ := h
  refine ⟨_, (pss_one (ps_ost (pv 0) (pv 1))), ?_⟩
  exact ⟨_, rfl, _, rfl, a, C, rfl, ec.ox, ec.no, .inl ⟨ha, q⟩⟩
end My

namespace My
open PySem L2 Lw
local macro_rules | `(tactic| walk_at "side") => `(tactic| first | decide | omega | (exact .inl ⟨by decide, by decide⟩) | (exact .inr ⟨by decide, by decide⟩) | (exact .inl ⟨by omega, by omega⟩) | (exact .inr ⟨by omega, by omega⟩) | (exact ⟨by decide, by decide⟩) | (exact ⟨by omega, by omega⟩))
local macro_rules | `(tactic| walk_at "go1") => `(tactic| first
  | (refine ⟨_, _, rfl, rfl, ?_⟩)
  | (refine ⟨_, rfl, ?_⟩)
  | (refine And.intro (by walk_at "side") ?_)
  | (refine .inl ⟨_, rfl, ?_⟩)
  | (refine iteT ?_) | (refine iteF ?_))
local macro_rules | `(tactic| walk_at "go") => `(tactic| repeat (walk_at "go1"))
section
variable {P : Program} {w : World} {K : PySem.W.Frag} {mg : Str → Option Value} {base : Heap}
/-- well(script, at): a new list of three ints, the first from 0 on -/
def spWell (K : PySem.W.Frag) : Sp := fun vs H Q _ => ∃ (a : Addr) (ns : List Int) (i : Int), vs = [.ref a, .int i] ∧ SqL K H a (ns.map V.int) ∧ 0 ≤ i ∧ i < 1000 ∧
  ∀ p H', Same H H' → p ≠ sysModules → H p = none → WellAt H' p → Q (.ref p) H'
theorem cut_ints (ns : List Int) (lo hi : Option Int) : ∃ ms : List Int, cutV (ns.map V.int) lo hi = ms.map V.int := by
  refine ⟨(ns.drop (HT.sIx ns.length 0 lo)).take (HT.sIx ns.length ns.length hi - HT.sIx ns.length 0 lo), ?_⟩
  unfold cutV
  rw [List.length_map, List.map_take, List.map_drop]
theorem int_at {ns : List Int} {i : Nat} {y : V} (h : (ns.map V.int)[i]? = some y) : ∃ z : Int, y = .int z := by
  rw [List.getElem?_map] at h
  cases e : ns[i]? with
  | none => rw [e] at h; cases h
  | some z =>
    rw [e] at h
    exact ⟨z, (Option.some.inj h).symm⟩
theorem at_ints {ns : List Int} {i : Int} (h0 : 0 ≤ i) (h : i < ns.length) : ∃ z : Int, atI (ns.map V.int) i = some (.int z) := by
  have hi : i.toNat < ns.length := by omega
  refine ⟨ns[i.toNat], ?_⟩
  have e : i = ((i.toNat : Nat) : Int) := by omega
  refine at_of e ?_
  rw [List.getElem?_map, List.getElem?_eq_getElem hi]
  all_goals rfl
theorem c_l_well (T : Top K mg) : Cl CX0 P w K mg base 1 "_law_well" (spWell K) := by
  refine T.d_l_well.cal sc_l_well (fun vs H Q E h => ?_) (fun f cdv A outer s H vs Q E hr hg h => ?_)
  · obtain ⟨a, ns, i, rfl, _⟩ := h
    rfl
  obtain ⟨a, ns, i, rfl, hS, h0, h1, q⟩ := h
  refine ⟨_, (pss_cons (ps_set (i := 2) sc_l_well.nd rfl (Or.inl rfl) (pe_op op_add pe_int (pe_op op_mul pe_int (pv 1)))) (pss_cons (ps_for PassesOwn.never rfl (pi_list (pe_slice sl_list (pv 0) po_none (po_some pe_int))) (pg_name (i := 3) sc_l_well.nd rfl (Or.inl rfl)) (pss_one (ps_set (i := 2) sc_l_well.nd rfl (Or.inl rfl) (pe_op op_mod (pe_callTy call_int1 rfl T.z_int (by decide +kernel) (pa_cons (pe_op op_add (pe_op op_add (pe_op op_mul (pv 2) pe_int) (pe_op op_mod (pe_callTy call_int1 rfl T.z_int (by decide +kernel) (pa_cons (pv 3) pa_nil)) pe_int)) pe_int) pa_nil)) pe_int)))) (pss_cons (ps_set (i := 4) sc_l_well.nd rfl (Or.inl rfl) (pe_ifExp (pt_cmpR op_lt (pv 1) (pe_callB call_len_seq rfl T.z_len (by decide +kernel) (pa_cons (pv 0) pa_nil)) (nomark _)) (pe_callTy call_int1 rfl T.z_int (by decide +kernel) (pa_cons (pe_ix ix_list (pv 0) (pv 1) (fun _ _ => rfl)) pa_nil)) pe_int)) (pss_cons (ps_set (i := 2) sc_l_well.nd rfl (Or.inl rfl) (pe_op op_mod (pe_callTy call_int1 rfl T.z_int (by decide +kernel) (pa_cons (pe_op op_add (pe_op op_add (pe_op op_mul (pv 2) pe_int) (pe_op op_mul (pe_op op_mod (pe_callTy call_int1 rfl T.z_int (by decide +kernel) (pa_cons (pv 4) pa_nil)) pe_int) pe_int)) pe_int) pa_nil)) pe_int)) (pss_one (ps_ret (pe_list (pa_cons (pe_ifExp (PW.pt (pw_or (pt_cmpR op_lt (pv 4) pe_int (nomark _)) (pw_or1 (pt_cmpR op_ge (pv 4) (pe_op op_pow pe_int pe_int) (nomark _))))) (pe_callB call_abs rfl T.z_abs (by decide +kernel) (pa_cons (pv 4) pa_nil)) pe_int) (pa_cons (pv 2) (pa_cons pe_int pa_nil)))))))))), ?_⟩
  walk_at "go"
  refine ⟨a, _, rfl, hS, fun p hp => ?_⟩
  obtain ⟨ms, hms⟩ := cut_ints ns none (some 9)
  rw [hms]
  refine ⟨p, rfl, ⟨_, SqL.of upd_same⟩, for_list (K := K) (a := p) (xs := ms.map V.int) (fun _ σ H2 => ∃ (m : Int) (v : Option V), σ = [some (.ref a), some (.int i), some (.int m), v, none] ∧ H2 = upd H p (.lst (ms.map V.int)))
    ⟨_, none, rfl, rfl⟩ (fun _ σ H2 _ ⟨_, _, _, e⟩ => by rw [e]; exact SqL.of upd_same) ?_ ?_⟩
  · rintro j y σ H2 hj ⟨m, v, rfl, rfl⟩
    obtain ⟨z, rfl⟩ := int_at hj
    walk_at "go"
    exact ⟨_, _, rfl, rfl⟩
  · rintro σ H2 ⟨m, v, rfl, rfl⟩
    have k1 : Same H (upd H p (.lst (ms.map V.int))) := same_new hp _
    generalize hH : upd H p (.lst (ms.map V.int)) = H1 at k1
    have hS1 : SqL K H1 a (ns.map V.int) := k1.seq hS
    walk_at "go"
    refine ⟨_, _, rfl, .inl hS1, ?_⟩
    walk_at "go"
    refine tst (fun c => ?x) (fun c => ?y)
    case' x =>
      have c' : i < ns.length := by simpa using c
      obtain ⟨z, hz⟩ := at_ints h0 c'
      walk_at "go"
      refine ⟨a, _, _, _, rfl, rfl, hS1, hz, ?_⟩
      walk_at "go"
    case y =>
      walk_at "go"
      refine ⟨short3, fun r hr2 np => ?_⟩
      exact q r _ (k1.trans (same_new hr2 _)) np (k1.free hr2) ⟨_, _, _, upd_same, Int.le_refl 0⟩
    · refine tst (fun c2 => ?_) (fun c2 => ?_)
      · walk_at "go"
        refine ⟨short3, fun r hr2 np => ?_⟩
        refine q r _ (k1.trans (same_new hr2 _)) np (k1.free hr2) ⟨_, _, _, upd_same, ?_⟩
        split <;> omega
      · walk_at "go"
        refine tst (fun c3 => ?_) (fun c3 => ?_)
        · walk_at "go"
          refine ⟨short3, fun r hr2 np => ?_⟩
          refine q r _ (k1.trans (same_new hr2 _)) np (k1.free hr2) ⟨_, _, _, upd_same, ?_⟩
          split <;> omega
        · walk_at "go"
          refine ⟨short3, fun r hr2 np => ?_⟩
          exact q r _ (k1.trans (same_new hr2 _)) np (k1.free hr2) ⟨_, _, _, upd_same, Int.le_refl 0⟩
end
end My

namespace My
open PySem L2 Lw
local macro_rules | `(tactic| walk_at "side") => `(tactic| first | decide | omega | (exact .inl ⟨by decide, by decide⟩) | (exact .inr ⟨by decide, by decide⟩) | (exact .inl ⟨by omega, by omega⟩) | (exact .inr ⟨by omega, by omega⟩) | (exact ⟨by decide, by decide⟩) | (exact ⟨by omega, by omega⟩))
local macro_rules | `(tactic| walk_at "go1") => `(tactic| first
  | (refine ⟨_, _, rfl, rfl, ?_⟩)
  | (refine ⟨_, rfl, ?_⟩)
  | (refine And.intro (by walk_at "side") ?_)
  | (refine .inl ⟨_, rfl, ?_⟩)
  | (refine iteT ?_) | (refine iteF ?_))
local macro_rules | `(tactic| walk_at "go") => `(tactic| repeat (walk_at "go1"))
section
variable {P : Program} {w : World} {K : PySem.W.Frag} {mg : Str → Option Value} {base : Heap}
/-- draw(well, many): a number from 0 up to below many -/
def spDraw : Sp := fun vs H Q _ => ∃ (p : Addr) (n : Int), vs = [.ref p, .int n] ∧ WellAt H p ∧ 0 < n ∧ n < 2 ^ 64 ∧ ∀ (k : Int) (H' : Hp), 0 ≤ k → k < n → After p H H' → Q (.int k) H'
theorem well_put {H : Hp} {p : Addr} {a m c a' m' c' : Int} (h : H p = some (.lst [.int a, .int m, .int c])) (ha : 0 ≤ a') : After p H (upd H p (.lst [.int a', .int m', .int c'])) :=
  ⟨⟨fun b u n q => by rw [upd_ne fun z => n (.inl z)]; exact q, fun b xs q => by rw [upd_ne (ne_of q h (by intro z; cases z))]; exact q⟩, ⟨_, _, _, upd_same, ha⟩, fun b u n q => by rw [upd_ne n]; exact q⟩
theorem c_l_draw (T : Top K mg) : Cl CX0 P w K mg base 1 "_law_draw" spDraw := by
  refine T.d_l_draw.cal sc_l_draw (fun vs H Q E h => ?_) (fun f cdv A outer s H vs Q E hr hg h => ?_)
  · obtain ⟨p, n, rfl, _⟩ := h
    rfl
  obtain ⟨p, n, rfl, hW, hn, hn2, q⟩ := h
  obtain ⟨a, m, c, hp, ha⟩ := id hW
  refine ⟨_, (pss_cons (ps_if (pt_cmpR op_gt (pe_ix ix_list (pv 0) pe_int (fun _ _ => rfl)) pe_int (nomark _)) (pss_cons (ps_asg (pe_callB call_divmodW rfl T.z_divmod (by decide +kernel) (pa_cons (pe_ix ix_list (pv 0) pe_int (fun _ _ => rfl)) (pa_cons (pv 1) pa_nil))) (pg_tup rfl (pgs_cons (pg_sub (pv 0) pe_int set_list) (pgs_cons (pg_name (i := 2) sc_l_draw.nd rfl (Or.inl rfl)) pgs_nil)))) (pss_one (ps_ret (pv 2)))) pss_nil) (pss_cons (ps_asg (pe_op op_add (pe_ix ix_list (pv 0) pe_int (fun _ _ => rfl)) pe_int) (pg_sub (pv 0) pe_int set_list)) (pss_cons (ps_set (i := 3) sc_l_draw.nd rfl (Or.inl rfl) (pe_op op_mod (pe_callTy call_int1 rfl T.z_int (by decide +kernel) (pa_cons (pe_op op_add (pe_ix ix_list (pv 0) pe_int (fun _ _ => rfl)) (pe_op op_mul pe_int (pe_ix ix_list (pv 0) pe_int (fun _ _ => rfl)))) pa_nil)) pe_int)) (pss_cons (ps_asg (pe_op op_mod (pe_callTy call_int1 rfl T.z_int (by decide +kernel) (pa_cons (pe_op op_add (pe_op op_mul (pv 3) (pe_op op_add (pe_op op_mod (pe_callTy call_int1 rfl T.z_int (by decide +kernel) (pa_cons (pv 3) pa_nil)) pe_int) pe_int)) (pe_op op_mul pe_int (pe_ix ix_list (pv 0) pe_int (fun _ _ => rfl)))) pa_nil)) pe_int) (pg_sub (pv 0) pe_int set_list)) (pss_one (ps_ret (pe_op op_mod (pe_callTy call_int1 rfl T.z_int (by decide +kernel) (pa_cons (pe_op op_fdiv (pe_ix ix_list (pv 0) pe_int (fun _ _ => rfl)) pe_int) pa_nil)) (pv 1)))))))), ?_⟩
  walk_at "go"
  refine ⟨p, _, _, _, rfl, rfl, .of hp, rfl, ?_⟩
  walk_at "go"
  refine tst (fun c1 => ?_) (fun c1 => ?_)
  · walk_at "go"
    refine ⟨p, _, _, _, rfl, rfl, .of hp, rfl, ?_⟩
    walk_at "go"
    refine ⟨a, n, rfl, ⟨hn, PyProof.noPylong_of_log2 (log2_lt (by decide) (show n.natAbs < 2 ^ 9000 from Nat.lt_of_lt_of_le (show n.natAbs < 2 ^ 64 by omega) (Nat.pow_le_pow_right (by decide) (by decide))))⟩, fun r hr2 => ?_⟩
    refine ⟨r, _, rfl, .of upd_same, rfl, _, _, rfl, ?_⟩
    walk_at "go"
    have k1 : Same H (upd H r (.tup [.int (a / n), .int (a % n)])) := same_new hr2 _
    have hp1 := k1 _ _ hp
    refine ⟨p, _, _, _, rfl, rfl, hp1, rfl, _, _, rfl, rfl, ?_⟩
    walk_at "go"
    exact q _ _ (Int.emod_nonneg _ (by omega)) (Int.emod_lt_of_pos _ hn) ((After.of hW k1).trans (well_put hp1 (Int.ediv_nonneg ha (by omega))))
  · walk_at "go"
    refine ⟨p, _, _, _, rfl, rfl, .of hp, rfl, ?_⟩
    walk_at "go"
    refine ⟨p, _, _, _, rfl, rfl, hp, rfl, ?_⟩
    have p1 : After p H (upd H p (.lst [.int a, .int m, .int (c + 1)])) := well_put hp ha
    have hp1 : upd H p (.lst [.int a, .int m, .int (c + 1)]) p = _ := upd_same
    walk_at "go"
    refine ⟨p, _, _, _, rfl, rfl, .of hp1, rfl, ?_⟩
    walk_at "go"
    refine ⟨p, _, _, _, rfl, rfl, .of hp1, rfl, ?_⟩
    walk_at "go"
    refine ⟨p, _, _, _, rfl, rfl, .of hp1, rfl, ?_⟩
    walk_at "go"
    refine ⟨p, _, _, _, rfl, rfl, hp1, rfl, ?_⟩
    walk_at "go"
    refine ⟨p, _, _, _, rfl, rfl, .of upd_same, rfl, ?_⟩
    walk_at "go"
    exact q _ _ (Int.emod_nonneg _ (by omega)) (Int.emod_lt_of_pos _ hn) (p1.trans (well_put hp1 ha))
end
end My

namespace My
open PySem L2 Lw
local macro_rules | `(tactic| walk_at "side") => `(tactic| first | decide | omega | (exact .inl ⟨by decide, by decide⟩) | (exact .inr ⟨by decide, by decide⟩) | (exact .inl ⟨by omega, by omega⟩) | (exact .inr ⟨by omega, by omega⟩) | (exact ⟨by decide, by decide⟩) | (exact ⟨by omega, by omega⟩))
local macro_rules | `(tactic| walk_at "go1") => `(tactic| first
  | (refine ⟨_, _, rfl, rfl, ?_⟩)
  | (refine ⟨_, rfl, ?_⟩)
  | (refine And.intro (by walk_at "side") ?_)
  | (refine .inl ⟨_, rfl, ?_⟩)
  | (refine iteT ?_) | (refine iteF ?_))
local macro_rules | `(tactic| walk_at "go") => `(tactic| repeat (walk_at "go1"))
section
variable {P : Program} {w : World} {K : PySem.W.Frag} {mg : Str → Option Value} {base : Heap}
/-! ### picks -/
def spPick : Sp := fun vs H Q _ => ∃ (p t : Addr) (xs : List V), vs = [.ref p, .ref t] ∧ WellAt H p ∧ H t = some (.tup xs) ∧ 0 < xs.length ∧ xs.length < 1000 ∧ ∀ (i : Nat) (v : V) (H' : Hp), xs[i]? = some v → After p H H' → Q v H'
theorem c_l_pick (T : Top K mg) : Cl CX0 P w K mg base 2 "_law_pick" spPick := by
  refine T.d_l_pick.cal sc_l_pick (fun vs H Q E h => ?_) (fun f cdv A outer s H vs Q E hr hg h => ?_)
  · obtain ⟨p, t, xs, rfl, _⟩ := h
    rfl
  obtain ⟨p, t, xs, rfl, hW, ht, h0, h1, q⟩ := h
  refine ⟨_, (pss_one (ps_ret (pe_ix ix_tup (pv 1) (pe_cl (c_l_draw T) hr hg rfl (pa_cons (pv 0) (pa_cons (pe_callB call_len_seq rfl T.z_len (by decide +kernel) (pa_cons (pv 1) pa_nil)) pa_nil))) (fun _ _ => rfl)))), ?_⟩
  walk_at "go"
  refine ⟨t, _, rfl, .inr (.of ht), ?_⟩
  refine ⟨p, _, rfl, hW, by omega, by omega, fun k H' k0 k1 af => ?_⟩
  have hk : k.toNat < xs.length := by omega
  refine ⟨t, xs, k, xs[k.toNat], rfl, rfl, .of (af.sx.tp _ _ ht), at_of (by omega) (List.getElem?_eq_getElem hk), ?_⟩
  exact q _ _ _ (List.getElem?_eq_getElem hk) af

/-! ### greatest common divisors -/
def gcdI (a b : Int) : Int := ((Nat.gcd a.natAbs b.natAbs : Nat) : Int)
def spCommon : Sp := fun vs H Q _ => ∃ a b : Int, vs = [.int a, .int b] ∧ Q (.int (gcdI a b)) H
theorem gcd_step {f r : Int} (hf : 0 ≤ f) (hr : 0 < r) : gcdI r (f % r) = gcdI f r := by
  obtain ⟨a, rfl⟩ := Int.eq_ofNat_of_zero_le hf
  obtain ⟨b, rfl⟩ := Int.eq_ofNat_of_zero_le (Int.le_of_lt hr)
  unfold gcdI
  rw [← Int.natCast_emod, Int.natAbs_natCast, Int.natAbs_natCast, Int.natAbs_natCast, Nat.gcd_comm b (a % b), Nat.gcd_comm a b, ← Nat.gcd_rec b a]
theorem gcd_zero {f : Int} (hf : 0 ≤ f) : gcdI f 0 = f := by
  unfold gcdI
  rw [show (0 : Int).natAbs = 0 from rfl, Nat.gcd_zero_right]
  omega
theorem gcd_abs (a b : Int) : gcdI (if a < 0 then -a else a) (if b < 0 then -b else b) = gcdI a b := by
  unfold gcdI
  have e : ∀ x : Int, (if x < 0 then -x else x).natAbs = x.natAbs := fun x => by split <;> omega
  rw [e, e]
theorem if_nn (a : Int) : 0 ≤ (if a < 0 then -a else a) := by split <;> omega
theorem c_l_common (T : Top K mg) : Cl CX0 P w K mg base 1 "_law_common" spCommon := by
  refine T.d_l_common.cal sc_l_common (fun vs H Q E h => ?_) (fun f cdv A outer s H vs Q E hr hg h => ?_)
  · obtain ⟨a, b, rfl, _⟩ := h
    rfl
  obtain ⟨a, b, rfl, q⟩ := h
  refine ⟨_, (pss_cons (ps_par (i := 2) (j := 3) rfl sc_l_common.nd rfl rfl (by decide) rfl rfl (pa_cons (pe_callB call_abs rfl T.z_abs (by decide +kernel) (pa_cons (pv 0) pa_nil)) (pa_cons (pe_callB call_abs rfl T.z_abs (by decide +kernel) (pa_cons (pv 1) pa_nil)) pa_nil)) rfl) (pss_cons (ps_while PassesOwn.never (pt_cmpR op_ne (pv 3) pe_int (nomark _)) (pss_one (ps_par (i := 2) (j := 3) rfl sc_l_common.nd rfl rfl (by decide) rfl rfl (pa_cons (pv 3) (pa_cons (pe_op op_mod (pe_callTy call_int1 rfl T.z_int (by decide +kernel) (pa_cons (pv 2) pa_nil)) (pv 3)) pa_nil)) rfl))) (pss_one (ps_ret (pv 2))))), ?_⟩
  walk_at "go"
  refine ⟨_, _, rfl, ?_⟩
  refine while_by (fun σ H2 => ∃ f r : Int, σ = [some (.int a), some (.int b), some (.int f), some (.int r)] ∧ H2 = H ∧ 0 ≤ f ∧ 0 ≤ r ∧ gcdI f r = gcdI a b)
    (fun σ _ => match σ with | [_, _, _, some (.int r)] => r.toNat | _ => 0) ⟨_, _, rfl, rfl, if_nn a, if_nn b, gcd_abs a b⟩ ?_ ?_
  · rintro σ H2 ⟨f, r, rfl, rfl, hf, hr2, hg2⟩
    walk_at "go"
    refine ⟨rfl, ?_⟩
    walk_at "go"
    refine tst (fun c => ?_) (fun c => ?_)
    · have c' : r ≠ 0 := by simpa using c
      walk_at "go"
      have hp : 0 < r := by omega
      have h1 := Int.emod_nonneg f c'
      have h2 := Int.emod_lt_of_pos f hp
      refine ⟨_, _, rfl, ⟨r, f % r, rfl, rfl, hr2, h1, (gcd_step hf hp).trans hg2⟩, ?_⟩
      show (f % r).toNat < r.toNat
      omega
    · have c' : r = 0 := by simpa using c
      subst c'
      walk_at "go"
      rw [gcd_zero hf] at hg2
      rw [hg2]
      exact q
  · rintro σ H2 Q1 Q2 i ⟨x, hx, z, k, e, hq⟩
    exact ⟨x, hx, z, k, e, i _ _ hq⟩
/-! ### fractions in their one form -/
def gz (a b : Int) : Int := if b < 0 then -gcdI a b else gcdI a b
def redN (a b : Int) : Int := a.fdiv (gz a b)
def redD (a b : Int) : Int := b.fdiv (gz a b)
theorem gcd_pos {a b : Int} (hb : b ≠ 0) : 0 < gcdI a b := by
  unfold gcdI
  have : 0 < Nat.gcd a.natAbs b.natAbs := Nat.gcd_pos_of_pos_right _ (by omega)
  omega
theorem gcd_le {a b : Int} (hb : b ≠ 0) : (gcdI a b).natAbs ≤ b.natAbs := by
  unfold gcdI
  rw [Int.natAbs_natCast]
  exact Nat.le_of_dvd (by omega) (Nat.gcd_dvd_right _ _)
theorem gz_ne {a b : Int} (hb : b ≠ 0) : gz a b ≠ 0 := by
  have := gcd_pos (a := a) hb
  unfold gz
  split <;> omega
theorem gz_abs (a b : Int) : (gz a b).natAbs = (gcdI a b).natAbs := by
  unfold gz
  split <;> omega
theorem gz_lt {a b : Int} (hb : b ≠ 0) {n : Nat} (h : b.natAbs < n) : (gz a b).natAbs < n := by
  rw [gz_abs]
  exact Nat.lt_of_le_of_lt (gcd_le hb) h
/-- a fraction's one form, as a new tuple -/
def spRed : Sp := fun vs H Q _ => ∃ a b : Int, vs = [.int a, .int b] ∧ b ≠ 0 ∧ b.natAbs < 2 ^ 8000 ∧ ∀ p, H p = none → Q (.ref p) (upd H p (.tup [.int (redN a b), .int (redD a b)]))
theorem c_l_lean (T : Top K mg) : Cl CX0 P w K mg base 2 "_law_lean" spRed := by
  refine T.d_l_lean.cal sc_l_lean (fun vs H Q E h => ?_) (fun f cdv A outer s H vs Q E hr hg h => ?_)
  · obtain ⟨a, b, rfl, _⟩ := h
    rfl
  obtain ⟨a, b, rfl, hb, hz, q⟩ := h
  have n0 := gz_ne (a := a) hb
  have n1 : (gz a b).natAbs < 2 ^ 9000 := gz_lt hb (Nat.lt_of_lt_of_le hz (Nat.pow_le_pow_right (by decide) (by decide)))
  refine ⟨_, (pss_cons (ps_set (i := 2) sc_l_lean.nd rfl (Or.inl rfl) (pe_ifExp (pt_cmpR op_gt (pv 1) pe_int (nomark _)) (pe_cl (c_l_common T) hr hg rfl (pa_cons (pv 0) (pa_cons (pv 1) pa_nil))) (pe_op op_sub pe_int (pe_cl (c_l_common T) hr hg rfl (pa_cons (pv 0) (pa_cons (pv 1) pa_nil)))))) (pss_one (ps_ret (pe_tup (pa_cons (pe_op op_fdivZ (pv 0) (pv 2)) (pa_cons (pe_op op_fdivZ (pv 1) (pv 2)) pa_nil)))))), ?_⟩
  walk_at "go"
  refine tst (fun c => ?_) (fun c => ?_)
  · have c' : 0 < b := by simpa using c
    have e : gcdI a b = gz a b := by
      unfold gz
      rw [if_neg (by omega)]
    refine ⟨_, rfl, _, rfl, a, b, rfl, ?_⟩
    rw [e]
    refine ⟨_, rfl, _, rfl, _, _, rfl, rfl, ⟨n0, n1⟩, _, rfl, _, rfl, _, _, rfl, rfl, ⟨n0, n1⟩, short2, q⟩
  · have c' : b < 0 := by
      have : ¬ 0 < b := by simpa using c
      omega
    have e : 0 - gcdI a b = gz a b := by
      unfold gz
      rw [if_pos c']
      omega
    refine ⟨_, rfl, _, rfl, a, b, rfl, _, _, rfl, rfl, ?_⟩
    have q2 : ∀ p, H p = none → Q (.ref p) (upd H p (.tup [.int (a.fdiv (0 - gcdI a b)), .int (b.fdiv (0 - gcdI a b))])) := by
      rw [e]
      exact q
    rw [← e] at n0 n1
    exact ⟨_, rfl, _, rfl, _, _, rfl, rfl, ⟨n0, n1⟩, _, rfl, _, rfl, _, _, rfl, rfl, ⟨n0, n1⟩, short2, q2⟩
end
end My

namespace My
open PySem L2 Lw
local macro_rules | `(tactic| walk_at "side") => `(tactic| first | decide | omega | (exact .inl ⟨by decide, by decide⟩) | (exact .inr ⟨by decide, by decide⟩) | (exact .inl ⟨by omega, by omega⟩) | (exact .inr ⟨by omega, by omega⟩) | (exact ⟨by decide, by decide⟩) | (exact ⟨by omega, by omega⟩))
local macro_rules | `(tactic| walk_at "go1") => `(tactic| first
  | (refine ⟨_, _, rfl, rfl, ?_⟩)
  | (refine ⟨_, rfl, ?_⟩)
  | (refine And.intro (by walk_at "side") ?_)
  | (refine .inl ⟨_, rfl, ?_⟩)
  | (refine iteT ?_) | (refine iteF ?_))
local macro_rules | `(tactic| walk_at "go") => `(tactic| repeat (walk_at "go1"))
section
variable {P : Program} {w : World} {K : PySem.W.Frag} {mg : Str → Option Value} {base : Heap}
/-! ### whole roots -/
def spRoot : Sp := fun vs H Q _ => ∃ n : Int, vs = [.int n] ∧ n.natAbs < 2 ^ 8000 ∧ Q (.int (isq n)) H
theorem c_l_root (T : Top K mg) : Cl CX0 P w K mg base 1 "_law_root" spRoot := by
  refine T.d_l_root.cal sc_l_root (fun vs H Q E h => ?_) (fun f cdv A outer s H vs Q E hr hg h => ?_)
  · obtain ⟨n, rfl, _⟩ := h
    rfl
  obtain ⟨n, rfl, hz, q⟩ := h
  refine ⟨_, (pss_cons (ps_if (pt_cmpR op_lt (pv 0) pe_int (nomark _)) (pss_one (ps_ret pe_int)) pss_nil) (pss_cons (ps_set (i := 1) sc_l_root.nd rfl (Or.inl rfl) (pe_op op_oneShl pe_int (pe_op op_add (pe_op op_fdiv (pe_bits (pv 0)) pe_int) pe_int))) (pss_cons (ps_for PassesOwn.never rfl (pi_range1 rfl T.z_range (pa_cons (pe_op op_add (pe_bits (pv 0)) pe_int) pa_nil)) (pg_name (i := 2) sc_l_root.nd rfl (Or.inl rfl)) (pss_cons (ps_set (i := 3) sc_l_root.nd rfl (Or.inl rfl) (pe_op op_fdiv (pe_op op_add (pv 1) (pe_op op_fdivZ (pv 0) (pv 1))) pe_int)) (pss_cons (ps_if (pt_cmpR op_ge (pv 3) (pv 1) (nomark _)) (pss_one (ps_ret (pv 1))) pss_nil) (pss_one (ps_set (i := 1) sc_l_root.nd rfl (Or.inl rfl) (pv 3)))))) (pss_one (ps_ret (pv 1)))))), ?_⟩
  walk_at "go"
  refine tst (fun c => ?_) (fun c => ?_)
  · have c' : n < 1 := by simpa using c
    rw [isq_neg c'] at q
    exact q
  have h1 : 1 ≤ n := by
    have : ¬ n < 1 := by simpa using c
    omega
  have s0 := isq_nn n
  have s1 := isq_le (n := n) (by omega)
  have s2 := isq_lt (n := n) (by omega)
  have g := guess (n := n) (by omega)
  have hb : Builtin.Int.intBits n ≤ 8000 := bits_le hz
  generalize isq n = sq at q s0 s1 s2 g
  walk_at "go"
  have sq1 : 1 ≤ sq := by
    apply Decidable.byContradiction
    intro d
    have z : sq = 0 := by omega
    rw [z] at s2
    omega
  generalize hB : Builtin.Int.intBits n = B at g hb
  have gI : ((2 : Int) ^ (B / 2 + 1)).natAbs < 2 ^ 9000 := by
    rw [Int.natAbs_pow]
    exact Nat.pow_lt_pow_right (by decide) (by omega)
  have gP : (1 : Int) ≤ 2 ^ (B / 2 + 1) := by
    have : (0 : Int) < 2 ^ (B / 2 + 1) := Int.pow_pos (by decide)
    omega
  refine ⟨B / 2 + 1, rfl, (by show V.int ((B : Int) / 2 + 1) = V.int ((B / 2 + 1 : Nat) : Int); congr 1), by omega, ?_⟩
  walk_at "go"
  rw [hB]
  refine for_range (lo := 0) (n := ((B : Int) + 4).toNat) (fun j σ H2 => ∃ (x : Int) (v u : Option V), σ = [some (.int n), some (.int x), v, u] ∧ H2 = H ∧ sq ≤ x ∧ x ≤ 2 ^ (B / 2 + 1) ∧ (x - sq) * 2 ^ j ≤ 2 ^ (B / 2 + 1))
    ⟨_, none, none, rfl, rfl, g, Int.le_refl _, by rw [Int.pow_zero]; omega⟩ ?_ ?_
  · rintro j σ H2 hj ⟨x, v, u, rfl, rfl, x1, x2, x3⟩
    have x0 : 1 ≤ x := by omega
    have xs : x.natAbs < 2 ^ 9000 := by omega
    walk_at "go"
    rw [Int.fdiv_eq_ediv_of_nonneg n (by omega)]
    have up := newton_up (n := n) (x := x) s0 s1 x0
    obtain ⟨y, hy⟩ : ∃ y, (x + n / x) / 2 = y := ⟨_, rfl⟩
    rw [hy] at up
    refine tst (fun c => ?_) (fun c => ?_)
    · have c' : x ≤ y := by rw [← hy]; simpa using c
      have e : x = sq := by
        apply Decidable.byContradiction
        intro d
        have := newton_down (n := n) (s := sq) (x := x) s2 s0 (by omega)
        omega
      walk_at "go"
      rw [e]
      exact q
    · have c' : y < x := by
        have : ¬ x ≤ y := by rw [← hy]; simpa using c
        omega
      have dn := newton_down (n := n) (s := sq) (x := x) s2 s0 (by omega)
      have half : 2 * (y - sq) ≤ x - sq := by omega
      walk_at "go"
      show ∃ (x1 : Int) (v1 u1 : Option V), [some (V.int n), some (V.int ((x + n / x) / 2)), _, some (V.int ((x + n / x) / 2))] = [some (.int n), some (.int x1), v1, u1] ∧ _
      rw [hy]
      refine ⟨y, _, _, rfl, rfl, up, by omega, ?_⟩
      have p : (0 : Int) ≤ 2 ^ j := Int.le_of_lt (Int.pow_pos (by decide))
      have := Int.mul_le_mul_of_nonneg_right half p
      rw [Int.pow_succ]
      have e : (y - sq) * (2 ^ j * 2) = 2 * (y - sq) * 2 ^ j := by grind
      omega
  · rintro σ H2 ⟨x, v, u, rfl, rfl, x1, x2, x3⟩
    have e : x = sq := by
      apply Decidable.byContradiction
      intro d
      have p : (0 : Int) ≤ 2 ^ ((B : Int) + 4).toNat := Int.le_of_lt (Int.pow_pos (by decide))
      have m := Int.mul_le_mul_of_nonneg_right (show 1 ≤ x - sq by omega) p
      have l : (2 : Int) ^ (B / 2 + 1) < 2 ^ ((B : Int) + 4).toNat := Int.pow_lt_pow_of_lt (by decide) (by omega)
      omega
    walk_at "go"
    rw [e]
    exact q
end
end My

namespace My
open PySem L2 Lw
local macro_rules | `(tactic| walk_at "side") => `(tactic| first | decide | omega | (exact .inl ⟨by decide, by decide⟩) | (exact .inr ⟨by decide, by decide⟩) | (exact .inl ⟨by omega, by omega⟩) | (exact .inr ⟨by omega, by omega⟩) | (exact ⟨by decide, by decide⟩) | (exact ⟨by omega, by omega⟩))
local macro_rules | `(tactic| walk_at "go1") => `(tactic| first
  | (refine ⟨_, _, rfl, rfl, ?_⟩)
  | (refine ⟨_, rfl, ?_⟩)
  | (refine And.intro (by walk_at "side") ?_)
  | (refine .inl ⟨_, rfl, ?_⟩)
  | (refine iteT ?_) | (refine iteF ?_))
local macro_rules | `(tactic| walk_at "go") => `(tactic| repeat (walk_at "go1"))
section
variable {P : Program} {w : World} {K : PySem.W.Frag} {mg : Str → Option Value} {base : Heap}
theorem two_le {a : Int} {m n : Nat} (h : a.natAbs < 2 ^ m) (hmn : m ≤ n) : a.natAbs < 2 ^ n := Nat.lt_of_lt_of_le h (Nat.pow_le_pow_right (by decide) hmn)
theorem mul_lt {a b : Int} {m n : Nat} (h1 : a.natAbs < 2 ^ m) (h2 : b.natAbs < 2 ^ n) : (a * b).natAbs < 2 ^ (m + n) := wide_lt h1 h2
theorem add_lt {a b : Int} {m : Nat} (h1 : a.natAbs < 2 ^ m) (h2 : b.natAbs < 2 ^ m) : (a + b).natAbs < 2 ^ (m + 1) := by
  rw [Nat.pow_succ]
  omega
theorem sub_lt {a b : Int} {m : Nat} (h1 : a.natAbs < 2 ^ m) (h2 : b.natAbs < 2 ^ m) : (a - b).natAbs < 2 ^ (m + 1) := by
  rw [Nat.pow_succ]
  omega
/-! ### squares -/
def isSqB (n : Int) : Bool := decide (0 ≤ n) && decide (isq n * isq n = n)
def spIsSq : Sp := fun vs H Q _ => ∃ n : Int, vs = [.int n] ∧ n.natAbs < 2 ^ 8000 ∧ Q (.bl (isSqB n)) H
theorem c_l_is_square (T : Top K mg) : Cl CX0 P w K mg base 2 "_law_is_square" spIsSq := by
  refine T.d_l_is_square.cal sc_l_is_square (fun vs H Q E h => ?_) (fun f cdv A outer s H vs Q E hr hg h => ?_)
  · obtain ⟨n, rfl, _⟩ := h
    rfl
  obtain ⟨n, rfl, hz, q⟩ := h
  have hs := isq_small hz
  refine ⟨_, (pss_one (ps_ret (pe_and (pe_cmpR op_ge (pv 0) pe_int (nomark _)) (pe_one (pe_cmpR op_eq (pe_op op_mulX (pe_cl (c_l_root T) hr hg rfl (pa_cons (pv 0) pa_nil)) (pe_cl (c_l_root T) hr hg rfl (pa_cons (pv 0) pa_nil))) (pv 0) (nomark _)))))), ?_⟩
  unfold isSqB at q
  walk_at "go"
  refine tst (fun c => ?_) (fun c => ?_)
  · rw [c, Bool.true_and] at q
    refine ⟨_, rfl, n, rfl, hz, _, rfl, n, rfl, hz, _, _, rfl, rfl, mulx_ok hs hs (by decide), ?_⟩
    refine ⟨_, rfl, rfl, ?_⟩
    rw [dec_int]
    have e : (isq n * isq n == n) = decide (isq n * isq n = n) := by
      rw [Bool.eq_iff_iff]
      simp
    rw [e]
    exact q
  · rw [c, Bool.false_and] at q
    exact q
/-! ### products, opposites -/
/-- two fractions -/
def spMul : Sp := fun vs H Q _ => ∃ (t u : Addr) (a b c d : Int), vs = [.ref t, .ref u] ∧ H t = some (.tup [.int a, .int b]) ∧ H u = some (.tup [.int c, .int d]) ∧ (a.natAbs < 2 ^ 3000 ∧ b.natAbs < 2 ^ 3000 ∧ c.natAbs < 2 ^ 3000 ∧ d.natAbs < 2 ^ 3000) ∧ b ≠ 0 ∧ d ≠ 0 ∧
  ∀ p, H p = none → Q (.ref p) (upd H p (.tup [.int (redN (a * c) (b * d)), .int (redD (a * c) (b * d))]))
theorem c_l_mul (T : Top K mg) : Cl CX0 P w K mg base 3 "_law_mul" spMul := by
  refine T.d_l_mul.cal sc_l_mul (fun vs H Q E h => ?_) (fun f cdv A outer s H vs Q E hr hg h => ?_)
  · obtain ⟨t, u, a, b, c, d, rfl, _⟩ := h
    rfl
  obtain ⟨t, u, a, b, c, d, rfl, ht, hu, ⟨z1, z2, z3, z4⟩, hb, hd, q⟩ := h
  refine ⟨_, (pss_one (ps_ret (pe_cl (c_l_lean T) hr hg rfl (pa_cons (pe_op op_mulX (pe_ix ix_tup (pv 0) pe_int (fun _ _ => rfl)) (pe_ix ix_tup (pv 1) pe_int (fun _ _ => rfl))) (pa_cons (pe_op op_mulX (pe_ix ix_tup (pv 0) pe_int (fun _ _ => rfl)) (pe_ix ix_tup (pv 1) pe_int (fun _ _ => rfl))) pa_nil))))), ?_⟩
  refine ⟨_, rfl, t, _, _, _, rfl, rfl, .of ht, rfl, _, rfl, u, _, _, _, rfl, rfl, .of hu, rfl, _, _, rfl, rfl, mulx_ok z1 z3 (by decide), ?_⟩
  refine ⟨_, rfl, t, _, _, _, rfl, rfl, .of ht, rfl, _, rfl, u, _, _, _, rfl, rfl, .of hu, rfl, _, _, rfl, rfl, mulx_ok z2 z4 (by decide), ?_⟩
  exact ⟨_, _, rfl, Int.mul_ne_zero hb hd, two_le (mul_lt z2 z4) (by decide), q⟩
def spNeg : Sp := fun vs H Q _ => ∃ (t : Addr) (a b : Int), vs = [.ref t] ∧ H t = some (.tup [.int a, .int b]) ∧ ∀ p, H p = none → Q (.ref p) (upd H p (.tup [.int (0 - a), .int b]))
theorem c_l_neg (T : Top K mg) : Cl CX0 P w K mg base 1 "_law_neg" spNeg := by
  refine T.d_l_neg.cal sc_l_neg (fun vs H Q E h => ?_) (fun f cdv A outer s H vs Q E hr hg h => ?_)
  · obtain ⟨t, a, b, rfl, _⟩ := h
    rfl
  obtain ⟨t, a, b, rfl, ht, q⟩ := h
  refine ⟨_, (pss_one (ps_ret (pe_tup (pa_cons (pe_op op_sub pe_int (pe_ix ix_tup (pv 0) pe_int (fun _ _ => rfl))) (pa_cons (pe_ix ix_tup (pv 0) pe_int (fun _ _ => rfl)) pa_nil))))), ?_⟩
  exact ⟨_, rfl, t, _, _, _, rfl, rfl, .of ht, rfl, _, _, rfl, rfl, _, rfl, t, _, _, _, rfl, rfl, .of ht, rfl, short2, q⟩
/-! ### one form of a + b root r over d -/
def quadD (p q s : Int) (up : Bool) : PyData :=
  .tuple [.int (p.fdiv (gcdI (gcdI p q) s)), .int (q.fdiv (gcdI (gcdI p q) s)), .int (s.fdiv (gcdI (gcdI p q) s)), .bool up]
def fracD (a b : Int) : PyData := .tuple [.int (redN a b), .int (redD a b)]
def formD (a b r d : Int) : PyData := if b = 0 ∨ isSqB r = true then fracD (a + b * isq r) d else quadD (d * d) (0 - 2 * a * d) (a * a - b * b * r) (decide (0 < b))
def spFormed : Sp := fun vs H Q _ => ∃ (t : Addr) (a b r d : Int), vs = [.ref t] ∧ H t = some (.tup [.int a, .int b, .int r, .int d]) ∧ (a.natAbs < 2 ^ 1000 ∧ b.natAbs < 2 ^ 1000 ∧ r.natAbs < 2 ^ 1000 ∧ d.natAbs < 2 ^ 1000) ∧ d ≠ 0 ∧
  ∀ v H', Same H H' → (∀ N, Dv N H' v (formD a b r d)) → Q v H'
theorem dv_frac {N : Ban} {H : Hp} {p : Addr} {a b : Int} (h : H p = some (.tup [.int a, .int b])) : Dv N H (.ref p) (.tuple [.int a, .int b]) := .tup h (.cons (.int _) (.cons (.int _) .nil))
theorem c_l_formed (T : Top K mg) : Cl CX0 P w K mg base 3 "_law_formed" spFormed := by
  refine T.d_l_formed.cal sc_l_formed (fun vs H Q E h => ?_) (fun f cdv A outer s H vs Q E hr hg h => ?_)
  · obtain ⟨t, a, b, r, d, rfl, _⟩ := h
    rfl
  obtain ⟨t, a, b, r, d, rfl, ht, ⟨z1, z2, z3, z4⟩, hd, q⟩ := h
  have z3' := two_le z3 (show 1000 ≤ 8000 by decide)
  have zs := isq_small z3
  unfold formD at q
  refine ⟨_, (pss_cons (ps_asg (pv 0) (pg_tup rfl (pgs_cons (pg_name (i := 1) sc_l_formed.nd rfl (Or.inl rfl)) (pgs_cons (pg_name (i := 2) sc_l_formed.nd rfl (Or.inl rfl)) (pgs_cons (pg_name (i := 3) sc_l_formed.nd rfl (Or.inl rfl)) (pgs_cons (pg_name (i := 4) sc_l_formed.nd rfl (Or.inl rfl)) pgs_nil)))))) (pss_cons (ps_if (PW.pt (pw_or (pt_cmpR op_eq (pv 2) pe_int (nomark _)) (pw_or1 (pt_val (pe_cl (c_l_is_square T) hr hg rfl (pa_cons (pv 3) pa_nil)))))) (pss_one (ps_ret (pe_cl (c_l_lean T) hr hg rfl (pa_cons (pe_op op_add (pv 1) (pe_op op_mulX (pv 2) (pe_cl (c_l_root T) hr hg rfl (pa_cons (pv 3) pa_nil)))) (pa_cons (pv 4) pa_nil))))) pss_nil) (pss_cons (ps_par3 (i := 5) (j := 6) (l := 7) rfl sc_l_formed.nd rfl rfl rfl (by decide) (by decide) (by decide) rfl rfl rfl (pa_cons (pe_op op_mulX (pv 4) (pv 4)) (pa_cons (pe_op op_sub pe_int (pe_op op_mulX (pe_op op_mul pe_int (pv 1)) (pv 4))) (pa_cons (pe_op op_sub (pe_op op_mulX (pv 1) (pv 1)) (pe_op op_mulX (pe_op op_mulX (pv 2) (pv 2)) (pv 3))) pa_nil))) rfl) (pss_cons (ps_set (i := 8) sc_l_formed.nd rfl (Or.inl rfl) (pe_cl (c_l_common T) hr hg rfl (pa_cons (pe_cl (c_l_common T) hr hg rfl (pa_cons (pv 5) (pa_cons (pv 6) pa_nil))) (pa_cons (pv 7) pa_nil)))) (pss_one (ps_ret (pe_tup (pa_cons (pe_op op_fdivZ (pv 5) (pv 8)) (pa_cons (pe_op op_fdivZ (pv 6) (pv 8)) (pa_cons (pe_op op_fdivZ (pv 7) (pv 8)) (pa_cons (pe_cmpR op_gt (pv 2) pe_int (nomark _)) pa_nil))))))))))), ?_⟩
  refine ⟨_, rfl, t, _, rfl, .of ht, rfl, _, _, rfl, _, _, rfl, _, _, rfl, _, _, rfl, rfl, ?_⟩
  refine ⟨_, rfl, rfl, _, rfl, ?_⟩
  have fr : (b = 0 ∨ isSqB r = true) → (fun σ H Q => (tCons (tOp (rI0 fun i j => V.int (i + j)) (tVar 1) (tOp (rI CMulX fun i j => V.int (i * j)) (tVar 2) (fun σ H Q => tCons (tVar 3) tNil σ H fun vs H1 => spRoot vs H1 Q E0))) (tCons (tVar 4) tNil)) σ H fun vs H1 => spRed vs H1 Q E0)
      [some (.ref t), some (.int a), some (.int b), some (.int r), some (.int d), none, none, none, none] H Q := fun c => by
    refine ⟨_, rfl, _, rfl, _, rfl, r, rfl, z3', _, _, rfl, rfl, mulx_ok z2 zs (by decide), _, _, rfl, rfl, _, rfl, _, _, rfl, hd, two_le z4 (by decide), fun p hp => ?_⟩
    rw [if_pos c] at q
    exact q _ _ (same_new hp _) fun N => dv_frac upd_same
  refine tst (fun c => iteT (fr (.inl (by simpa using c)))) (fun c => ?_)
  refine ⟨_, rfl, r, rfl, z3', _, rfl, ?_⟩
  refine tst (fun c2 => fr (.inr c2)) (fun c2 => ?_)
  have hb : b ≠ 0 := by simpa using c
  have cn : ¬ (b = 0 ∨ isSqB r = true) := fun z => z.elim hb fun z => by
    rw [c2] at z
    cases z
  rw [if_neg cn] at q
  have w1 := mul_lt z4 z4
  have w2 : (2 * a : Int).natAbs < 2 ^ (2 + 1000) := mul_lt (by decide) z1
  have w3 := mul_lt w2 z4
  have w4 := mul_lt z1 z1
  have w5 := mul_lt z2 z2
  have w6 := mul_lt w5 z3
  have g0 : gcdI (gcdI (d * d) (0 - 2 * a * d)) (a * a - b * b * r) ≠ 0 := by
    have p1 : (0 : Int) < gcdI (d * d) (0 - 2 * a * d) := by
      have : 0 < Nat.gcd (d * d).natAbs (0 - 2 * a * d).natAbs := Nat.gcd_pos_of_pos_left _ (Int.natAbs_pos.mpr (Int.mul_ne_zero hd hd))
      unfold gcdI
      omega
    have : 0 < Nat.gcd (gcdI (d * d) (0 - 2 * a * d)).natAbs (a * a - b * b * r).natAbs := Nat.gcd_pos_of_pos_left _ (by omega)
    unfold gcdI at this ⊢
    omega
  have g1 : (gcdI (gcdI (d * d) (0 - 2 * a * d)) (a * a - b * b * r)).natAbs < 2 ^ 9000 := by
    have l1 : (gcdI (d * d) (0 - 2 * a * d)).natAbs ≤ (d * d).natAbs := by
      unfold gcdI
      rw [Int.natAbs_natCast]
      exact Nat.le_of_dvd (Int.natAbs_pos.mpr (Int.mul_ne_zero hd hd)) (Nat.gcd_dvd_left _ _)
    have p1 : 0 < (gcdI (d * d) (0 - 2 * a * d)).natAbs := by
      have : 0 < Nat.gcd (d * d).natAbs (0 - 2 * a * d).natAbs := Nat.gcd_pos_of_pos_left _ (Int.natAbs_pos.mpr (Int.mul_ne_zero hd hd))
      unfold gcdI
      omega
    have l2 : (gcdI (gcdI (d * d) (0 - 2 * a * d)) (a * a - b * b * r)).natAbs ≤ (gcdI (d * d) (0 - 2 * a * d)).natAbs := by
      conv => lhs; unfold gcdI
      rw [Int.natAbs_natCast]
      exact Nat.le_of_dvd p1 (Nat.gcd_dvd_left _ _)
    exact Nat.lt_of_le_of_lt (Nat.le_trans l2 l1) (two_le w1 (by decide))
  refine ⟨_, rfl, _, rfl, _, _, rfl, rfl, mulx_ok z4 z4 (by decide), ?_⟩
  refine ⟨_, rfl, _, _, rfl, rfl, .inl ⟨by decide, by decide⟩, _, rfl, _, _, rfl, rfl, mulx_ok w2 z4 (by decide), _, _, rfl, rfl, ?_⟩
  refine ⟨_, rfl, _, rfl, _, _, rfl, rfl, mulx_ok z1 z1 (by decide), _, rfl, _, rfl, _, _, rfl, rfl, mulx_ok z2 z2 (by decide), _, rfl, _, _, rfl, rfl, mulx_ok w5 z3 (by decide), _, _, rfl, rfl, ?_⟩
  refine ⟨_, _, _, rfl, ?_⟩
  refine ⟨_, rfl, _, rfl, _, _, rfl, _, rfl, _, _, rfl, ?_⟩
  refine ⟨_, rfl, _, rfl, _, _, rfl, rfl, ⟨g0, g1⟩, _, rfl, _, rfl, _, _, rfl, rfl, ⟨g0, g1⟩, _, rfl, _, rfl, _, _, rfl, rfl, ⟨g0, g1⟩, _, rfl, _, _, rfl, rfl, short4, fun p hp => ?_⟩
  exact q _ _ (same_new hp _) fun N => .tup upd_same (.cons (.int _) (.cons (.int _) (.cons (.int _) (.cons (.bl _) .nil))))
end
end My

namespace My
open PySem L2 Lw
local macro_rules | `(tactic| walk_at "side") => `(tactic| first | decide | omega | (exact .inl ⟨by decide, by decide⟩) | (exact .inr ⟨by decide, by decide⟩) | (exact .inl ⟨by omega, by omega⟩) | (exact .inr ⟨by omega, by omega⟩) | (exact ⟨by decide, by decide⟩) | (exact ⟨by omega, by omega⟩))
local macro_rules | `(tactic| walk_at "go1") => `(tactic| first
  | (refine ⟨_, _, rfl, rfl, ?_⟩)
  | (refine ⟨_, rfl, ?_⟩)
  | (refine And.intro (by walk_at "side") ?_)
  | (refine .inl ⟨_, rfl, ?_⟩)
  | (refine iteT ?_) | (refine iteF ?_))
local macro_rules | `(tactic| walk_at "go") => `(tactic| repeat (walk_at "go1"))
section
variable {P : Program} {w : World} {K : PySem.W.Frag} {mg : Str → Option Value} {base : Heap}
/-- n / m in its one form -/
def IsFr (a b : Int) : Prop := 0 < b ∧ gcdI a b = 1
theorem gcd_dvd_l (a b : Int) : gcdI a b ∣ a := Int.natAbs_dvd_natAbs.mp (by unfold gcdI; rw [Int.natAbs_natCast]; exact Nat.gcd_dvd_left _ _)
theorem gcd_dvd_r (a b : Int) : gcdI a b ∣ b := Int.natAbs_dvd_natAbs.mp (by unfold gcdI; rw [Int.natAbs_natCast]; exact Nat.gcd_dvd_right _ _)
theorem red_pos {a b : Int} (hb : 0 < b) : redN a b = a / gcdI a b ∧ redD a b = b / gcdI a b := by
  have g := gcd_pos (a := a) (b := b) (by omega)
  unfold redN redD gz
  rw [if_neg (by omega), Int.fdiv_eq_ediv_of_nonneg _ (by omega), Int.fdiv_eq_ediv_of_nonneg _ (by omega)]
  exact ⟨rfl, rfl⟩
theorem red_fr {a b : Int} (hb : 0 < b) : IsFr (redN a b) (redD a b) := by
  have g := gcd_pos (a := a) (b := b) (by omega)
  obtain ⟨e1, e2⟩ := red_pos (a := a) hb
  obtain ⟨x, hx⟩ := gcd_dvd_l a b
  obtain ⟨y, hy⟩ := gcd_dvd_r a b
  have x1 : a / gcdI a b = x := by
    conv => lhs; lhs; rw [hx]
    exact Int.mul_ediv_cancel_left x (by omega)
  have y1 : b / gcdI a b = y := by
    conv => lhs; lhs; rw [hy]
    exact Int.mul_ediv_cancel_left y (by omega)
  have yp : 0 < y := by
    apply Decidable.byContradiction
    intro c
    have : gcdI a b * y ≤ 0 := Int.mul_nonpos_of_nonneg_of_nonpos (by omega) (by omega)
    omega
  rw [e1, e2, x1, y1]
  refine ⟨yp, ?_⟩
  have m : gcdI a b = gcdI a b * gcdI x y := by
    have z : ∀ c u v : Int, 0 ≤ c → gcdI (c * u) (c * v) = c * gcdI u v := fun c u v hc => by
      unfold gcdI
      rw [Int.natAbs_mul, Int.natAbs_mul, Nat.gcd_mul_left, Int.natCast_mul]
      have : ((c.natAbs : Nat) : Int) = c := by omega
      rw [this]
    have q := z (gcdI a b) x y (by omega)
    rw [← hx, ← hy] at q
    exact q
  have z : gcdI a b * (gcdI x y - 1) = 0 := by
    rw [Int.mul_sub, ← m]
    omega
  rcases Int.mul_eq_zero.mp z with z | z
  · omega
  · omega
theorem red_le {a b : Int} (hb : 0 < b) : (redN a b).natAbs ≤ a.natAbs ∧ (redD a b).natAbs ≤ b.natAbs := by
  have g := gcd_pos (a := a) (b := b) (by omega)
  obtain ⟨e1, e2⟩ := red_pos (a := a) hb
  rw [e1, e2]
  have d : ∀ x : Int, (x / gcdI a b).natAbs ≤ x.natAbs := fun x => Int.natAbs_ediv_le_natAbs x _
  exact ⟨d a, d b⟩
theorem DvAll.ints_of {N : Ban} {H : Hp} : ∀ {ms : List Int} {xs : List V}, DvAll N H xs (ms.map PyData.int) → xs = ms.map V.int
  | [], _, h => by
    cases h
    rfl
  | m :: ms, _, h => by
    cases h with
    | cons h1 h2 =>
      cases h1
      rw [DvAll.ints_of h2]
      all_goals rfl
theorem at_mem {ns : List Int} {i : Int} (h0 : 0 ≤ i) (h : i < ns.length) : ∃ z : Int, z ∈ ns ∧ atI (ns.map V.int) i = some (.int z) := by
  have hi : i.toNat < ns.length := by omega
  refine ⟨ns[i.toNat], List.getElem_mem hi, ?_⟩
  have e : i = ((i.toNat : Nat) : Int) := by omega
  refine at_of e ?_
  rw [List.getElem?_map, List.getElem?_eq_getElem hi]
  all_goals rfl
/-- a fraction drawn: a tuple of two ints, in its one form, both below 2 ^ 64 -/
def spFrac : Sp := fun vs H Q _ => ∃ p : Addr, vs = [.ref p] ∧ WellAt H p ∧ ∀ (t : Addr) (a b : Int) (H' : Hp), After p H H' → H' t = some (.tup [.int a, .int b]) → IsFr a b → a.natAbs < 2 ^ 60 → b.natAbs < 2 ^ 60 → Q (.ref t) H'
theorem c_l_small (T : Top K mg) : Cl CX0 P w K mg base 3 "_law_small" spFrac := by
  refine T.d_l_small.cal sc_l_small (fun vs H Q E h => ?_) (fun f cdv A outer s H vs Q E hr hg h => ?_)
  · obtain ⟨p, rfl, _⟩ := h
    rfl
  obtain ⟨p, rfl, hW, q⟩ := h
  refine ⟨_, (pss_cons (ps_if (pt_cmpR op_gt (pe_cl (c_l_draw T) hr hg rfl (pa_cons (pv 0) (pa_cons pe_int pa_nil))) pe_int (nomark _)) (pss_one (ps_ret (pe_tup (pa_cons (pe_ix ix_tup (pd_tup (pda_cons pd_int (pda_cons pd_int (pda_cons (pd_neg pd_int) (pda_cons pd_int (pda_cons pd_int (pda_cons pd_int (pda_cons (pd_neg pd_int) (pda_cons pd_int pda_nil))))))))) (pe_cl (c_l_draw T) hr hg rfl (pa_cons (pv 0) (pa_cons pe_int pa_nil))) (fun _ _ => rfl)) (pa_cons pe_int pa_nil))))) pss_nil) (pss_one (ps_ret (pe_cl (c_l_lean T) hr hg rfl (pa_cons (pe_op op_sub (pe_cl (c_l_draw T) hr hg rfl (pa_cons (pv 0) (pa_cons pe_int pa_nil))) pe_int) (pa_cons (pe_op op_add pe_int (pe_cl (c_l_draw T) hr hg rfl (pa_cons (pv 0) (pa_cons pe_int pa_nil)))) pa_nil)))))), ?_⟩
  refine ⟨_, rfl, p, 6, rfl, hW, by decide, by decide, fun k H1 k0 k1 a1 => ?_⟩
  refine ⟨_, _, rfl, rfl, _, rfl, ?_⟩
  refine tst (fun c => ?_) (fun c => ?_)
  · refine ⟨_, a1.well.fresh, fun v H2 s2 dv => ?_⟩
    obtain ⟨t, xs, rfl, ht, hx⟩ : ∃ t xs, v = .ref t ∧ H2 t = some (.tup xs) ∧ xs = ([0, 1, -1, 2, 1, 0, -2, 3] : List Int).map V.int := by
      cases dv with
      | tup e all => exact ⟨_, _, rfl, e, DvAll.ints_of (ms := [0, 1, -1, 2, 1, 0, -2, 3]) all⟩
    subst hx
    refine ⟨_, rfl, p, 8, rfl, a1.well.same s2, by decide, by decide, fun j H3 j0 j1 a3 => ?_⟩
    obtain ⟨z, hz, hat⟩ := at_mem (ns := [0, 1, -1, 2, 1, 0, -2, 3]) j0 j1
    have zz := (by decide +kernel : ∀ z ∈ ([0, 1, -1, 2, 1, 0, -2, 3] : List Int), gcdI z 1 = 1 ∧ z.natAbs < 2 ^ 60) z hz
    refine ⟨t, _, j, _, rfl, rfl, .of (a3.sx.tp _ _ ht), hat, short2, fun r hr2 => ?_⟩
    exact q r z 1 _ (((a1.keep s2).trans a3).keep (same_new hr2 _)) upd_same ⟨by decide, zz.1⟩ zz.2 (by decide)
  · refine ⟨_, rfl, p, 13, rfl, a1.well, by decide, by decide, fun j H2 j0 j1 a2 => ?_⟩
    refine ⟨_, _, rfl, rfl, _, rfl, p, 3, rfl, a2.well, by decide, by decide, fun i H3 i0 i1 a3 => ?_⟩
    refine ⟨_, _, rfl, rfl, _, _, rfl, by omega, two_le (m := 60) (by omega) (by decide), fun r hr2 => ?_⟩
    have b0 : (0 : Int) < 2 + i := by omega
    have le := red_le (a := j - 6) b0
    exact q r _ _ _ (((a1.trans a2).trans a3).keep (same_new hr2 _)) upd_same (red_fr b0) (by omega) (by omega)
/-- .. above 0 -/
def spFracP : Sp := fun vs H Q _ => ∃ p : Addr, vs = [.ref p] ∧ WellAt H p ∧ ∀ (t : Addr) (a b : Int) (H' : Hp), After p H H' → H' t = some (.tup [.int a, .int b]) → IsFr a b → 0 < a → a.natAbs < 2 ^ 60 → b.natAbs < 2 ^ 60 → Q (.ref t) H'
theorem red_up {a b : Int} (ha : 0 < a) (hb : 0 < b) : 0 < redN a b := by
  obtain ⟨e1, _⟩ := red_pos (a := a) hb
  have g := gcd_pos (a := a) (b := b) (by omega)
  have k1 : gcdI a b * redN a b = a := by rw [e1]; exact Int.mul_ediv_cancel' (gcd_dvd_l _ _)
  apply Decidable.byContradiction
  intro z
  have : gcdI a b * redN a b ≤ 0 := Int.mul_nonpos_of_nonneg_of_nonpos (by omega) (by omega)
  omega
theorem c_l_sizeP (T : Top K mg) : Cl CX0 P w K mg base 3 "_law_size" spFracP := by
  refine T.d_l_size.cal sc_l_size (fun vs H Q E h => ?_) (fun f cdv A outer s H vs Q E hr hg h => ?_)
  · obtain ⟨p, rfl, _⟩ := h
    rfl
  obtain ⟨p, rfl, hW, q⟩ := h
  refine ⟨_, (pss_cons (ps_if (pt_cmpR op_gt (pe_cl (c_l_draw T) hr hg rfl (pa_cons (pv 0) (pa_cons pe_int pa_nil))) pe_int (nomark _)) (pss_one (ps_ret (pe_cl (c_l_pick T) hr hg rfl (pa_cons (pv 0) (pa_cons (pd_tup (pda_cons (pd_tup (pda_cons pd_int (pda_cons pd_int pda_nil))) (pda_cons (pd_tup (pda_cons pd_int (pda_cons pd_int pda_nil))) (pda_cons (pd_tup (pda_cons pd_int (pda_cons pd_int pda_nil))) (pda_cons (pd_tup (pda_cons pd_int (pda_cons pd_int pda_nil))) (pda_cons (pd_tup (pda_cons pd_int (pda_cons pd_int pda_nil))) (pda_cons (pd_tup (pda_cons pd_int (pda_cons pd_int pda_nil))) (pda_cons (pd_tup (pda_cons pd_int (pda_cons pd_int pda_nil))) (pda_cons (pd_tup (pda_cons pd_int (pda_cons pd_int pda_nil))) pda_nil))))))))) pa_nil))))) pss_nil) (pss_one (ps_ret (pe_cl (c_l_lean T) hr hg rfl (pa_cons (pe_op op_add pe_int (pe_cl (c_l_draw T) hr hg rfl (pa_cons (pv 0) (pa_cons pe_int pa_nil)))) (pa_cons (pe_op op_add pe_int (pe_cl (c_l_draw T) hr hg rfl (pa_cons (pv 0) (pa_cons pe_int pa_nil)))) pa_nil)))))), ?_⟩
  refine ⟨_, rfl, p, 4, rfl, hW, by decide, by decide, fun k H1 k0 k1 a1 => ?_⟩
  refine ⟨_, _, rfl, rfl, _, rfl, ?_⟩
  refine tst (fun c => ?_) (fun c => ?_)
  · refine ⟨_, rfl, _, a1.well.fresh, fun v H2 s2 dv => ?_⟩
    obtain ⟨t, xs, rfl, ht, all⟩ : ∃ t xs, v = .ref t ∧ H2 t = some (.tup xs) ∧ DvAll (wellN p) H2 xs _ := by
      cases dv with
      | tup e all => exact ⟨_, _, rfl, e, all⟩
    have hlen := all.length
    refine ⟨p, t, xs, rfl, a1.well.same s2, ht, by rw [hlen]; decide, by rw [hlen]; decide, fun i u H3 hi a3 => ?_⟩
    have hil : i < 8 := by
      have := (List.getElem?_eq_some_iff.mp hi).1
      rw [hlen] at this
      exact this
    have fin : ∀ d : PyData, ([.tuple [.int 1, .int 1], .tuple [.int 4, .int 1], .tuple [.int 1, .int 4], .tuple [.int 1, .int 1], .tuple [.int 9, .int 1], .tuple [.int 4, .int 1], .tuple [.int 9, .int 4], .tuple [.int 25, .int 1]] : List PyData)[i]? = some d → Q u H3 := fun d hd => by
      obtain ⟨u', hu', du⟩ := all.get hd
      rw [hi] at hu'
      cases hu'
      have du3 := du.up a3.sx
      have af := (a1.keep s2).trans a3
      have : ∃ a b : Int, d = .tuple [.int a, .int b] ∧ gcdI a b = 1 ∧ 0 < b ∧ a.natAbs < 100 ∧ b.natAbs < 100 ∧ 0 < a := by
        have hm := List.mem_of_getElem? hd
        simp only [List.mem_cons, List.not_mem_nil, or_false] at hm
        rcases hm with h | h | h | h | h | h | h | h <;> exact ⟨_, _, h, by decide +kernel, by decide, by decide, by decide, by decide⟩
      obtain ⟨a, b, rfl, g1, g2, g3, g4, g5⟩ := this
      cases du3 with
      | tup e al =>
        cases al with
        | cons x y =>
          cases x
          cases y with
          | cons x y =>
            cases x
            cases y
            exact q _ a b _ af e ⟨g2, g1⟩ g5 (by omega) (by omega)
    cases hd : ([.tuple [.int 1, .int 1], .tuple [.int 4, .int 1], .tuple [.int 1, .int 4], .tuple [.int 1, .int 1], .tuple [.int 9, .int 1], .tuple [.int 4, .int 1], .tuple [.int 9, .int 4], .tuple [.int 25, .int 1]] : List PyData)[i]? with
    | none =>
      have := List.getElem?_eq_none_iff.mp hd
      have e8 : ([.tuple [.int 1, .int 1], .tuple [.int 4, .int 1], .tuple [.int 1, .int 4], .tuple [.int 1, .int 1], .tuple [.int 9, .int 1], .tuple [.int 4, .int 1], .tuple [.int 9, .int 4], .tuple [.int 25, .int 1]] : List PyData).length = 8 := rfl
      omega
    | some d => exact fin d hd
  · refine ⟨_, rfl, p, 12, rfl, a1.well, by decide, by decide, fun j H2 j0 j1 a2 => ?_⟩
    refine ⟨_, _, rfl, rfl, _, rfl, p, 4, rfl, a2.well, by decide, by decide, fun i H3 i0 i1 a3 => ?_⟩
    refine ⟨_, _, rfl, rfl, _, _, rfl, by omega, two_le (m := 60) (by omega) (by decide), fun r hr2 => ?_⟩
    have b0 : (0 : Int) < 1 + i := by omega
    have le := red_le (a := 1 + j) b0
    exact q r _ _ _ (((a1.trans a2).trans a3).keep (same_new hr2 _)) upd_same (red_fr b0) (red_up (by omega) b0) (by omega) (by omega)
theorem c_l_size (T : Top K mg) : Cl CX0 P w K mg base 3 "_law_size" spFrac := (c_l_sizeP T).imp fun vs H Q E z => by
  obtain ⟨p, rfl, hW, q⟩ := z
  exact ⟨p, rfl, hW, fun t a b H' af ht fr _ za zb => q t a b H' af ht fr za zb⟩
end
end My

namespace My
open PySem L2 Lw
local macro_rules | `(tactic| walk_at "side") => `(tactic| first | decide | omega | (exact .inl ⟨by decide, by decide⟩) | (exact .inr ⟨by decide, by decide⟩) | (exact .inl ⟨by omega, by omega⟩) | (exact .inr ⟨by omega, by omega⟩) | (exact ⟨by decide, by decide⟩) | (exact ⟨by omega, by omega⟩))
local macro_rules | `(tactic| walk_at "go1") => `(tactic| first
  | (refine ⟨_, _, rfl, rfl, ?_⟩)
  | (refine ⟨_, rfl, ?_⟩)
  | (refine And.intro (by walk_at "side") ?_)
  | (refine .inl ⟨_, rfl, ?_⟩)
  | (refine iteT ?_) | (refine iteF ?_))
local macro_rules | `(tactic| walk_at "go") => `(tactic| repeat (walk_at "go1"))
section
variable {P : Program} {w : World} {K : PySem.W.Frag} {mg : Str → Option Value} {base : Heap}
/-- one of written things -/
def spPickD : Sp := fun vs H Q _ => ∃ (p : Addr) (t : V) (ds : List PyData), vs = [.ref p, t] ∧ WellAt H p ∧ Dv (wellN p) H t (.tuple ds) ∧ 0 < ds.length ∧ ds.length < 1000 ∧
  ∀ (d : PyData) (v : V) (H' : Hp), d ∈ ds → After p H H' → Dv (wellN p) H' v d → Q v H'
theorem c_l_pickD (T : Top K mg) : Cl CX0 P w K mg base 2 "_law_pick" spPickD := (c_l_pick T).imp fun vs H Q E h => by
  obtain ⟨p, t, ds, rfl, hW, ht, h0, h1, q⟩ := h
  cases ht with
  | @tup a xs _ e all =>
    have hl := all.length
    refine ⟨p, a, xs, rfl, hW, e, by omega, by omega, fun i v H' hi af => ?_⟩
    have hil : i < ds.length := by
      have := (List.getElem?_eq_some_iff.mp hi).1
      omega
    obtain ⟨u, hu, du⟩ := all.get (List.getElem?_eq_getElem hil)
    rw [hi] at hu
    cases hu
    exact q _ v H' (List.getElem_mem hil) af (du.up af.sx)
theorem dv_tup4 {N : Ban} {H : Hp} {p : Addr} {a b c d : Int} (h : H p = some (.tup [.int a, .int b, .int c, .int d])) : Dv N H (.ref p) (.tuple [.int a, .int b, .int c, .int d]) :=
  .tup h (.cons (.int _) (.cons (.int _) (.cons (.int _) (.cons (.int _) .nil))))
-- opt: pickD
/-- a + b root r over d -/
def spNumber : Sp := fun vs H Q _ => ∃ p : Addr, vs = [.ref p] ∧ WellAt H p ∧ ∀ (t : Addr) (a b r d : Int) (H' : Hp), After p H H' → H' t = some (.tup [.int a, .int b, .int r, .int d]) →
  (a.natAbs < 2 ^ 80 ∧ b.natAbs < 2 ^ 80 ∧ r.natAbs < 2 ^ 80 ∧ d.natAbs < 2 ^ 80) → 0 ≤ r → 0 < d → Q (.ref t) H'
theorem c_l_number (T : Top K mg) : Cl CX0 P w K mg base 4 "_law_number" spNumber := by
  refine T.d_l_number.cal sc_l_number (fun vs H Q E h => ?_) (fun f cdv A outer s H vs Q E hr hg h => ?_)
  · obtain ⟨p, rfl, _⟩ := h
    rfl
  obtain ⟨p, rfl, hW, q⟩ := h
  refine ⟨_, (pss_cons (ps_set (i := 1) sc_l_number.nd rfl (Or.inl rfl) (pe_cl (c_l_draw T) hr hg rfl (pa_cons (pv 0) (pa_cons pe_int pa_nil)))) (pss_cons (ps_if (pt_cmpR op_lt (pv 1) pe_int (nomark _)) (pss_cons (ps_asg (pe_cl (c_l_small T) hr hg rfl (pa_cons (pv 0) pa_nil)) (pg_tup rfl (pgs_cons (pg_name (i := 2) sc_l_number.nd rfl (Or.inl rfl)) (pgs_cons (pg_name (i := 3) sc_l_number.nd rfl (Or.inl rfl)) pgs_nil)))) (pss_one (ps_ret (pe_tup (pa_cons (pv 2) (pa_cons pe_int (pa_cons pe_int (pa_cons (pv 3) pa_nil)))))))) pss_nil) (pss_cons (ps_par (i := 4) (j := 5) rfl sc_l_number.nd rfl rfl (by decide) rfl rfl (pa_cons (pe_op op_sub (pe_cl (c_l_draw T) hr hg rfl (pa_cons (pv 0) (pa_cons pe_int pa_nil))) pe_int) (pa_cons (pe_cl (c_l_pickD T) hr hg rfl (pa_cons (pv 0) (pa_cons (pd_tup (pda_cons pd_int (pda_cons pd_int (pda_cons pd_int (pda_cons pd_int (pda_cons pd_int (pda_cons pd_int (pda_cons pd_int (pda_cons pd_int (pda_cons pd_int (pda_cons pd_int (pda_cons pd_int (pda_cons pd_int pda_nil))))))))))))) pa_nil))) pa_nil)) rfl) (pss_cons (ps_if (pt_cmpR op_lt (pv 1) pe_int (nomark _)) (pss_one (ps_ret (pe_tup (pa_cons (pe_op op_sub (pe_cl (c_l_draw T) hr hg rfl (pa_cons (pv 0) (pa_cons pe_int pa_nil))) pe_int) (pa_cons (pv 4) (pa_cons (pv 5) (pa_cons (pe_op op_add pe_int (pe_cl (c_l_draw T) hr hg rfl (pa_cons (pv 0) (pa_cons pe_int pa_nil)))) pa_nil))))))) pss_nil) (pss_cons (ps_set (i := 6) sc_l_number.nd rfl (Or.inl rfl) (pe_cl (c_l_pickD T) hr hg rfl (pa_cons (pv 0) (pa_cons (pd_tup (pda_cons pd_int (pda_cons pd_int (pda_cons (pd_pow (n := 5) pd_int pd_int (by decide) (by decide)) (pda_cons (pd_pow (n := 8) pd_int pd_int (by decide) (by decide)) (pda_cons (pd_pow (n := 12) pd_int pd_int (by decide) (by decide)) pda_nil)))))) pa_nil)))) (pss_one (ps_ret (pe_tup (pa_cons (pe_op op_sub (pe_op op_add (pv 6) (pe_cl (c_l_draw T) hr hg rfl (pa_cons (pv 0) (pa_cons pe_int pa_nil)))) pe_int) (pa_cons (pe_op op_mulX (pv 4) (pv 6)) (pa_cons (pe_op op_add (pe_op op_mulX (pv 5) (pv 6)) (pe_cl (c_l_draw T) hr hg rfl (pa_cons (pv 0) (pa_cons pe_int pa_nil)))) (pa_cons (pe_op op_add pe_int (pe_cl (c_l_draw T) hr hg rfl (pa_cons (pv 0) (pa_cons pe_int pa_nil)))) pa_nil)))))))))))), ?_⟩
  refine ⟨_, rfl, p, 10, rfl, hW, by decide, by decide, fun k H1 k0 k1 a1 => ?_⟩
  refine ⟨_, rfl, _, _, rfl, rfl, _, rfl, ?_⟩
  refine tst (fun c => ?_) (fun c => ?_)
  · refine ⟨_, rfl, p, rfl, a1.well, fun t a b H2 a2 ht fr z1 z2 => ?_⟩
    refine ⟨t, _, rfl, .of ht, rfl, _, _, rfl, _, _, rfl, rfl, ?_⟩
    refine ⟨_, rfl, _, rfl, short4, fun r hr2 => ?_⟩
    exact q r a 0 0 b _ ((a1.trans a2).keep (same_new hr2 _)) upd_same ⟨two_le z1 (by decide), by decide, by decide, two_le z2 (by decide)⟩ (Int.le_refl 0) fr.1
  · refine ⟨_, rfl, p, 7, rfl, a1.well, by decide, by decide, fun j H2 j0 j1 a2 => ?_⟩
    refine ⟨_, _, rfl, rfl, _, rfl, _, a2.well.fresh, fun v H3 s3 dv => ?_⟩
    refine ⟨p, v, _, rfl, a2.well.same s3, dv, by decide, by decide, fun dd u H4 hd a4 du => ?_⟩
    obtain ⟨r, rfl, r0, r1⟩ : ∃ r : Int, dd = .int r ∧ 0 ≤ r ∧ r < 20 := by
      simp only [List.mem_cons, List.not_mem_nil, or_false] at hd
      rcases hd with h | h | h | h | h | h | h | h | h | h | h | h <;> exact ⟨_, h, by decide, by decide⟩
    cases du
    have a5 : After p H H4 := ((a1.trans a2).keep s3).trans a4
    refine ⟨_, _, rfl, ?_⟩
    refine ⟨_, rfl, _, _, rfl, rfl, _, rfl, ?_⟩
    refine tst (fun c2 => ?_) (fun c2 => ?_)
    · refine ⟨_, rfl, p, 9, rfl, a5.well, by decide, by decide, fun x H5 x0 x1 a6 => ?_⟩
      refine ⟨_, _, rfl, rfl, _, rfl, _, rfl, _, rfl, p, 4, rfl, a6.well, by decide, by decide, fun y H6 y0 y1 a7 => ?_⟩
      refine ⟨_, _, rfl, rfl, short4, fun t hr2 => ?_⟩
      exact q t _ _ _ _ _ (((a5.trans a6).trans a7).keep (same_new hr2 _)) upd_same ⟨two_le (m := 60) (by omega) (by decide), two_le (m := 60) (by omega) (by decide), two_le (m := 60) (by omega) (by decide), two_le (m := 60) (by omega) (by decide)⟩ r0 (by omega)
    · refine ⟨_, rfl, _, a5.well.fresh, fun v2 H5 s5 dv2 => ?_⟩
      refine ⟨p, v2, _, rfl, a5.well.same s5, dv2, by decide, by decide, fun dd u2 H6 hd2 a6 du2 => ?_⟩
      obtain ⟨g, rfl, g0⟩ : ∃ g : Int, dd = .int g ∧ g.natAbs < 2 ^ 60 := by
        simp only [List.mem_cons, List.not_mem_nil, or_false] at hd2
        rcases hd2 with h | h | h | h | h <;> exact ⟨_, h, by decide⟩
      cases du2
      have jb : (j - 3).natAbs < 2 ^ 10 := by omega
      have rb : r.natAbs < 2 ^ 10 := by omega
      have a7 : After p H H6 := (a5.keep s5).trans a6
      refine ⟨_, rfl, _, rfl, p, 5, rfl, a7.well, by decide, by decide, fun x H7 x0 x1 a8 => ?_⟩
      refine ⟨_, _, rfl, rfl, _, _, rfl, rfl, _, rfl, _, rfl, _, _, rfl, rfl, mulx_ok jb g0 (by decide), ?_⟩
      refine ⟨_, rfl, _, rfl, _, _, rfl, rfl, mulx_ok rb g0 (by decide), _, rfl, p, 3, rfl, a8.well, by decide, by decide, fun y H8 y0 y1 a9 => ?_⟩
      refine ⟨_, _, rfl, rfl, _, rfl, p, 9, rfl, a9.well, by decide, by decide, fun z H9 z0 z1 a10 => ?_⟩
      refine ⟨_, _, rfl, rfl, short4, fun t hr2 => ?_⟩
      have m1 := mul_lt jb g0
      have m2 := mul_lt rb g0
      have g1 : 0 ≤ g := by
        simp only [List.mem_cons, List.not_mem_nil, or_false, PyData.int.injEq] at hd2
        omega
      have r2 : 0 ≤ r * g := Int.mul_nonneg r0 g1
      exact q t _ _ _ _ _ ((((a7.trans a8).trans a9).trans a10).keep (same_new hr2 _)) upd_same ⟨two_le (m := 70) (by omega) (by decide), two_le m1 (by decide), two_le (m := 71) (by omega) (by decide), two_le (m := 60) (by omega) (by decide)⟩ (by omega) (by omega)
end
end My

namespace My
open PySem L2 Lw
local macro_rules | `(tactic| walk_at "side") => `(tactic| first | decide | omega | (exact .inl ⟨by decide, by decide⟩) | (exact .inr ⟨by decide, by decide⟩) | (exact .inl ⟨by omega, by omega⟩) | (exact .inr ⟨by omega, by omega⟩) | (exact ⟨by decide, by decide⟩) | (exact ⟨by omega, by omega⟩))
local macro_rules | `(tactic| walk_at "go1") => `(tactic| first
  | (refine ⟨_, _, rfl, rfl, ?_⟩)
  | (refine ⟨_, rfl, ?_⟩)
  | (refine And.intro (by walk_at "side") ?_)
  | (refine .inl ⟨_, rfl, ?_⟩)
  | (refine iteT ?_) | (refine iteF ?_))
local macro_rules | `(tactic| walk_at "go") => `(tactic| repeat (walk_at "go1"))
section
variable {P : Program} {w : World} {K : PySem.W.Frag} {mg : Str → Option Value} {base : Heap}
/-! ### looks at data -/
def isFrB : PyData → Bool
  | .tuple [.int a, .int b] => decide (0 < b) && decide (gcdI a b = 1)
  | _ => false
def under (p q s : Int) : Int := q * q - 4 * p * s
def isRootB : PyData → Bool
  | .tuple [.int p, .int q, .int s, .bool _] => decide (0 < p) && (decide (gcdI (gcdI p q) s = 1) && (decide (0 < under p q s) && !isSqB (under p q s)))
  | _ => false
def isNumB (d : PyData) : Bool := isFrB d || isRootB d
/-- a look at data: f tells -/
def spLook (f : PyData → Bool) : Sp := fun vs H Q _ => ∃ (N : Ban) (v : V) (d : PyData), vs = [v] ∧ Dv N H v d ∧ fine 1000 d ∧ ∀ H', Same H H' → Q (.bl (f d)) H'
/-- .. that leaves the heap as it is -/
def spLook0 (f : PyData → Bool) : Sp := fun vs H Q _ => ∃ (N : Ban) (v : V) (d : PyData), vs = [v] ∧ Dv N H v d ∧ fine 1000 d ∧ Q (.bl (f d)) H
theorem not_tup {d : PyData} (h : isTup d = false) : isFrB d = false ∧ isRootB d = false := by
  cases d <;> first | exact ⟨rfl, rfl⟩ | cases h
theorem tup_or (d : PyData) : isTup d = false ∨ ∃ ds, d = .tuple ds := by
  cases d <;> first | exact .inl rfl | exact .inr ⟨_, rfl⟩
theorem whole_or (d : PyData) : isWhole d = false ∨ ∃ i, d = .int i := by
  cases d <;> first | exact .inl rfl | exact .inr ⟨_, rfl⟩
theorem bool_or (d : PyData) : isBool d = false ∨ ∃ b, d = .bool b := by
  cases d <;> first | exact .inl rfl | exact .inr ⟨_, rfl⟩
theorem whole_is (d : PyData) : (isInt d && !isBool d) = isWhole d := by cases d <;> rfl
theorem len2 {N : Ban} {H : Hp} {xs : List V} {ds : List PyData} (h : DvAll N H xs ds) (hl : ds.length = 2) : ∃ v1 v2 d1 d2, xs = [v1, v2] ∧ ds = [d1, d2] ∧ Dv N H v1 d1 ∧ Dv N H v2 d2 := by
  cases h with
  | nil => cases hl
  | cons h1 h =>
    cases h with
    | nil => cases hl
    | cons h2 h =>
      cases h with
      | nil => exact ⟨_, _, _, _, rfl, rfl, h1, h2⟩
      | cons h3 h => simp at hl
theorem len4 {N : Ban} {H : Hp} {xs : List V} {ds : List PyData} (h : DvAll N H xs ds) (hl : ds.length = 4) : ∃ v1 v2 v3 v4 d1 d2 d3 d4, xs = [v1, v2, v3, v4] ∧ ds = [d1, d2, d3, d4] ∧ Dv N H v1 d1 ∧ Dv N H v2 d2 ∧ Dv N H v3 d3 ∧ Dv N H v4 d4 := by
  cases h with
  | nil => cases hl
  | cons h1 h =>
    cases h with
    | nil => cases hl
    | cons h2 h =>
      cases h with
      | nil => cases hl
      | cons h3 h =>
        cases h with
        | nil => cases hl
        | cons h4 h =>
          cases h with
          | nil => exact ⟨_, _, _, _, _, _, _, _, rfl, rfl, h1, h2, h3, h4⟩
          | cons h5 h => simp at hl
theorem fr_len {ds : List PyData} (h : ds.length ≠ 2) : isFrB (.tuple ds) = false := by
  unfold isFrB
  split
  · rename_i e
    cases e
    exact absurd rfl h
  · rfl
theorem root_len {ds : List PyData} (h : ds.length ≠ 4) : isRootB (.tuple ds) = false := by
  unfold isRootB
  split
  · rename_i e
    cases e
    exact absurd rfl h
  · rfl
theorem fr_whole {x y : PyData} (h : isWhole x = false ∨ isWhole y = false) : isFrB (.tuple [x, y]) = false := by
  unfold isFrB
  split
  · rename_i e
    cases e
    rcases h with h | h <;> cases h
  · rfl
theorem root_whole {x y z u : PyData} (h : isWhole x = false ∨ isWhole y = false ∨ isWhole z = false ∨ isBool u = false) : isRootB (.tuple [x, y, z, u]) = false := by
  unfold isRootB
  split
  · rename_i e
    cases e
    rcases h with h | h | h | h <;> cases h
  · rfl
theorem c_p_is_whole (T : Top K mg) : Cl CX0 P w K mg base 1 "is_whole" (spLook0 isWhole) := by
  refine T.d_p_is_whole.cal sc_p_is_whole (fun vs H Q E h => ?_) (fun f cdv A outer s H vs Q E hr hg h => ?_)
  · obtain ⟨N, v, d, rfl, _⟩ := h
    rfl
  obtain ⟨N, v, d, rfl, hd, hf, q⟩ := h
  rw [← whole_is] at q
  refine ⟨_, (pss_one (ps_ret (pe_and (pe_callB (call_isD kit_int) rfl T.z_isinstance (by decide +kernel) (pa_cons (pv 0) (pa_cons (pe_bltn (v := .ty "int") rfl T.z_int (by decide +kernel) rfl) pa_nil))) (pe_one (pe_not (pe_callB (call_isD kit_bool) rfl T.z_isinstance (by decide +kernel) (pa_cons (pv 0) (pa_cons (pe_bltn (v := .ty "bool") rfl T.z_bool (by decide +kernel) rfl) pa_nil)))))))), ?_⟩
  refine ⟨_, rfl, N, v, d, rfl, hd, _, rfl, ?_⟩
  refine tst (fun c => ?_) (fun c => ?_)
  · rw [c, Bool.true_and] at q
    exact ⟨_, rfl, N, v, d, rfl, hd, _, rfl, q⟩
  · rw [c, Bool.false_and] at q
    exact q
theorem c_l_is_whole (T : Top K mg) : Cl CX0 P w K mg base 1 "_law_is_whole" (spLook0 isWhole) := by
  refine T.d_l_is_whole.cal sc_l_is_whole (fun vs H Q E h => ?_) (fun f cdv A outer s H vs Q E hr hg h => ?_)
  · obtain ⟨N, v, d, rfl, _⟩ := h
    rfl
  obtain ⟨N, v, d, rfl, hd, hf, q⟩ := h
  rw [← whole_is] at q
  refine ⟨_, (pss_one (ps_ret (pe_and (pe_callB (call_isD kit_int) rfl T.z_isinstance (by decide +kernel) (pa_cons (pv 0) (pa_cons (pe_bltn (v := .ty "int") rfl T.z_int (by decide +kernel) rfl) pa_nil))) (pe_one (pe_not (pe_callB (call_isD kit_bool) rfl T.z_isinstance (by decide +kernel) (pa_cons (pv 0) (pa_cons (pe_bltn (v := .ty "bool") rfl T.z_bool (by decide +kernel) rfl) pa_nil)))))))), ?_⟩
  refine ⟨_, rfl, N, v, d, rfl, hd, _, rfl, ?_⟩
  refine tst (fun c => ?_) (fun c => ?_)
  · rw [c, Bool.true_and] at q
    exact ⟨_, rfl, N, v, d, rfl, hd, _, rfl, q⟩
  · rw [c, Bool.false_and] at q
    exact q
theorem dec_i2 {n : Nat} {k : Int} : (!decide (V.int (n : Int) = V.int k)) = true ↔ (n : Int) ≠ k := by simp
theorem dec_one (a b : Int) {Q : VK} {H : Hp} : (Q (.bl (decide (V.int ((Nat.gcd a.natAbs b.natAbs : Nat) : Int) = V.int 1))) H) = (Q (.bl (decide (gcdI a b = 1))) H) := by
  have e : decide (V.int ((Nat.gcd a.natAbs b.natAbs : Nat) : Int) = V.int 1) = decide (gcdI a b = 1) := by
    unfold gcdI
    rw [Bool.eq_iff_iff]
    simp
  rw [e]
theorem c_p_is_fraction (T : Top K mg) : Cl CX0 P w K mg base 2 "is_fraction" (spLook0 isFrB) := by
  refine T.d_p_is_fraction.cal sc_p_is_fraction (fun vs H Q E h => ?_) (fun f cdv A outer s H vs Q E hr hg h => ?_)
  · obtain ⟨N, v, d, rfl, _⟩ := h
    rfl
  obtain ⟨N, v, d, rfl, hd, hf, q⟩ := h
  refine ⟨_, (pss_cons (ps_if (PW.pt (pw_or (pt_not (pt_val (pe_callB (call_isD kit_tup) rfl T.z_isinstance (by decide +kernel) (pa_cons (pv 0) (pa_cons (pe_bltn (v := .ty "tuple") rfl T.z_tuple (by decide +kernel) rfl) pa_nil))))) (pw_or1 (pt_cmpR op_ne (pe_callB call_len_seq rfl T.z_len (by decide +kernel) (pa_cons (pv 0) pa_nil)) pe_int (nomark _))))) (pss_one (ps_ret pe_bl)) pss_nil) (pss_cons (ps_if (PW.pt (pw_or (pt_not (pt_val (pe_cl (c_p_is_whole T) hr hg rfl (pa_cons (pe_ix ix_tup (pv 0) pe_int (fun _ _ => rfl)) pa_nil)))) (pw_or1 (pt_not (pt_val (pe_cl (c_p_is_whole T) hr hg rfl (pa_cons (pe_ix ix_tup (pv 0) pe_int (fun _ _ => rfl)) pa_nil))))))) (pss_one (ps_ret pe_bl)) pss_nil) (pss_one (ps_ret (pe_and (pe_cmpR op_gt (pe_ix ix_tup (pv 0) pe_int (fun _ _ => rfl)) pe_int (nomark _)) (pe_one (pe_cmpR op_eq (pe_callBfun cr_gcd rfl T.g_gcd (pa_cons (pe_ix ix_tup (pv 0) pe_int (fun _ _ => rfl)) (pa_cons (pe_ix ix_tup (pv 0) pe_int (fun _ _ => rfl)) pa_nil))) pe_int (nomark _)))))))), ?_⟩
  refine ⟨_, rfl, N, v, d, rfl, hd, _, rfl, ?_⟩
  rcases tup_or d with ht | ⟨ds, rfl⟩
  · rw [(not_tup ht).1] at q
    rw [ht]
    exact iteT (iteT q)
  cases hd with
  | @tup a xs _ e all =>
  have hlen := all.length
  refine iteF ?_
  refine ⟨_, rfl, _, _, rfl, .inr (.of e), rfl, _, rfl, ?_⟩
  refine tst (fun c => ?_) (fun c => ?_)
  · rw [dec_i2] at c
    rw [fr_len (by omega)] at q
    exact q
  have c : xs.length = 2 := by
    apply Decidable.byContradiction
    intro z
    have := dec_i2.mpr (show (xs.length : Int) ≠ 2 by omega)
    rw [this] at c
    cases c
  obtain ⟨v1, v2, d1, d2, rfl, rfl, x1, x2⟩ := len2 all (by omega)
  refine ⟨_, rfl, a, _, _, _, rfl, rfl, .of e, rfl, N, v1, d1, rfl, x1, hf.1, _, rfl, ?_⟩
  rcases whole_or d1 with hw | ⟨i, rfl⟩
  · rw [fr_whole (.inl hw)] at q
    rw [hw]
    exact iteT (iteT q)
  refine iteF ?_
  refine ⟨_, rfl, a, _, _, _, rfl, rfl, .of e, rfl, N, v2, d2, rfl, x2, hf.2.1, _, rfl, ?_⟩
  rcases whole_or d2 with hw | ⟨j, rfl⟩
  · rw [fr_whole (.inr hw)] at q
    rw [hw]
    exact iteT q
  refine iteF ?_
  cases x1
  cases x2
  refine ⟨_, rfl, a, _, _, _, rfl, rfl, .of e, rfl, _, _, rfl, rfl, _, rfl, ?_⟩
  replace q : Q (.bl (decide (0 < j) && decide (gcdI i j = 1))) H := q
  refine tst (fun c2 => ?_) (fun c2 => ?_)
  · rw [c2, Bool.true_and] at q
    refine ⟨_, rfl, a, _, _, _, rfl, rfl, .of e, rfl, _, rfl, a, _, _, _, rfl, rfl, .of e, rfl, i, j, rfl, rfl, ?_⟩
    exact (dec_one i j).mpr q
  · rw [c2, Bool.false_and] at q
    exact q
theorem c_p_is_square (T : Top K mg) : Cl CX0 P w K mg base 1 "is_square" (fun vs H Q _ => ∃ n : Int, vs = [.int n] ∧ 0 ≤ n ∧ n.natAbs < 2 ^ 8000 ∧ Q (.bl (isSqB n)) H) := by
  refine T.d_p_is_square.cal sc_p_is_square (fun vs H Q E h => ?_) (fun f cdv A outer s H vs Q E hr hg h => ?_)
  · obtain ⟨n, rfl, _⟩ := h
    rfl
  obtain ⟨n, rfl, h0, hz, q⟩ := h
  have hs := isq_small hz
  refine ⟨_, (pss_cons (ps_set (i := 1) sc_p_is_square.nd rfl (Or.inl rfl) (pe_callBfun cr_isqrt rfl T.g_isqrt (pa_cons (pv 0) pa_nil))) (pss_one (ps_ret (pe_cmpR op_eq (pe_op op_mulX (pv 1) (pv 1)) (pv 0) (nomark _))))), ?_⟩
  refine ⟨_, rfl, n, rfl, h0, two_le hz (by decide), ?_⟩
  refine ⟨_, rfl, _, rfl, _, _, rfl, rfl, mulx_ok hs hs (by decide), _, rfl, rfl, ?_⟩
  have e : decide (V.int (isq n * isq n) = V.int n) = isSqB n := by
    unfold isSqB
    rw [decide_eq_true h0, Bool.true_and, Bool.eq_iff_iff]
    simp
  have q2 : Q (.bl (decide (V.int (isq n * isq n) = V.int n))) H := by
    rw [e]
    exact q
  exact q2
theorem c_p_is_root (T : Top K mg) : Cl CX0 P w K mg base 2 "is_root" (spLook0 isRootB) := by
  refine T.d_p_is_root.cal sc_p_is_root (fun vs H Q E h => ?_) (fun f cdv A outer s H vs Q E hr hg h => ?_)
  · obtain ⟨N, v, d, rfl, _⟩ := h
    rfl
  obtain ⟨N, v, d, rfl, hd, hf, q⟩ := h
  refine ⟨_, (pss_cons (ps_if (PW.pt (pw_or (pt_not (pt_val (pe_callB (call_isD kit_tup) rfl T.z_isinstance (by decide +kernel) (pa_cons (pv 0) (pa_cons (pe_bltn (v := .ty "tuple") rfl T.z_tuple (by decide +kernel) rfl) pa_nil))))) (pw_or (pt_cmpR op_ne (pe_callB call_len_seq rfl T.z_len (by decide +kernel) (pa_cons (pv 0) pa_nil)) pe_int (nomark _)) (pw_or1 (pt_not (pt_val (pe_callB (call_isD kit_bool) rfl T.z_isinstance (by decide +kernel) (pa_cons (pe_ix ix_tup (pv 0) pe_int (fun _ _ => rfl)) (pa_cons (pe_bltn (v := .ty "bool") rfl T.z_bool (by decide +kernel) rfl) pa_nil))))))))) (pss_one (ps_ret pe_bl)) pss_nil) (pss_cons (ps_asg (pv 0) (pg_tup rfl (pgs_cons (pg_name (i := 1) sc_p_is_root.nd rfl (Or.inl rfl)) (pgs_cons (pg_name (i := 2) sc_p_is_root.nd rfl (Or.inl rfl)) (pgs_cons (pg_name (i := 3) sc_p_is_root.nd rfl (Or.inl rfl)) (pgs_cons (pg_name (i := 4) sc_p_is_root.nd rfl (Or.inl rfl)) pgs_nil)))))) (pss_cons (ps_if (PW.pt (pw_or (pt_not (pt_val (pe_cl (c_p_is_whole T) hr hg rfl (pa_cons (pv 1) pa_nil)))) (pw_or (pt_not (pt_val (pe_cl (c_p_is_whole T) hr hg rfl (pa_cons (pv 2) pa_nil)))) (pw_or1 (pt_not (pt_val (pe_cl (c_p_is_whole T) hr hg rfl (pa_cons (pv 3) pa_nil)))))))) (pss_one (ps_ret pe_bl)) pss_nil) (pss_cons (ps_if (PW.pt (pw_or (pt_cmpR op_le (pv 1) pe_int (nomark _)) (pw_or1 (pt_cmpR op_ne (pe_callBfun cr_gcd rfl T.g_gcd (pa_cons (pe_callBfun cr_gcd rfl T.g_gcd (pa_cons (pv 1) (pa_cons (pv 2) pa_nil))) (pa_cons (pv 3) pa_nil))) pe_int (nomark _))))) (pss_one (ps_ret pe_bl)) pss_nil) (pss_cons (ps_set (i := 5) sc_p_is_root.nd rfl (Or.inl rfl) (pe_op op_sub (pe_op op_mulX (pv 2) (pv 2)) (pe_op op_mulX (pe_op op_mul pe_int (pv 1)) (pv 3)))) (pss_one (ps_ret (pe_and (pe_cmpR op_gt (pv 5) pe_int (nomark _)) (pe_one (pe_not (pe_cl (c_p_is_square T) hr hg rfl (pa_cons (pv 5) pa_nil)))))))))))), ?_⟩
  refine ⟨_, rfl, N, v, d, rfl, hd, _, rfl, ?_⟩
  rcases tup_or d with ht | ⟨ds, rfl⟩
  · rw [(not_tup ht).2] at q
    rw [ht]
    exact iteT (iteT q)
  cases hd with
  | @tup a xs _ e all =>
  have hlen := all.length
  refine iteF ?_
  refine ⟨_, rfl, _, _, rfl, .inr (.of e), rfl, _, rfl, ?_⟩
  refine tst (fun c => iteT ?_) (fun c => ?_)
  · rw [dec_i2] at c
    rw [root_len (by omega)] at q
    exact q
  have c : xs.length = 4 := by
    apply Decidable.byContradiction
    intro z
    have := dec_i2.mpr (show (xs.length : Int) ≠ 4 by omega)
    rw [this] at c
    cases c
  obtain ⟨v1, v2, v3, v4, d1, d2, d3, d4, rfl, rfl, x1, x2, x3, x4⟩ := len4 all (by omega)
  refine ⟨_, rfl, a, _, _, _, rfl, rfl, .of e, rfl, N, v4, d4, rfl, x4, _, rfl, ?_⟩
  rcases bool_or d4 with hw | ⟨u, rfl⟩
  · rw [root_whole (.inr (.inr (.inr hw)))] at q
    rw [hw]
    exact iteT q
  refine iteF ?_
  refine ⟨_, rfl, a, _, rfl, .of e, rfl, _, _, rfl, _, _, rfl, _, _, rfl, _, _, rfl, rfl, ?_⟩
  refine ⟨_, rfl, N, v1, d1, rfl, x1, hf.1, _, rfl, ?_⟩
  rcases whole_or d1 with hw | ⟨p, rfl⟩
  · rw [root_whole (.inl hw)] at q
    rw [hw]
    exact iteT (iteT q)
  refine iteF ?_
  refine ⟨_, rfl, N, v2, d2, rfl, x2, hf.2.1, _, rfl, ?_⟩
  rcases whole_or d2 with hw | ⟨m, rfl⟩
  · rw [root_whole (.inr (.inl hw))] at q
    rw [hw]
    exact iteT (iteT q)
  refine iteF ?_
  refine ⟨_, rfl, N, v3, d3, rfl, x3, hf.2.2.1, _, rfl, ?_⟩
  rcases whole_or d3 with hw | ⟨r, rfl⟩
  · rw [root_whole (.inr (.inr (.inl hw)))] at q
    rw [hw]
    exact iteT q
  refine iteF ?_
  cases x1
  cases x2
  cases x3
  have zp : p.natAbs < 2 ^ 1000 := hf.1
  have zm : m.natAbs < 2 ^ 1000 := hf.2.1
  have zr : r.natAbs < 2 ^ 1000 := hf.2.2.1
  refine ⟨_, rfl, _, _, rfl, rfl, _, rfl, ?_⟩
  replace q : Q (.bl (decide (0 < p) && (decide (gcdI (gcdI p m) r = 1) && (decide (0 < under p m r) && !isSqB (under p m r))))) H := q
  refine tst (fun c2 => iteT ?_) (fun c2 => ?_)
  · have z : decide (0 < p) = false := by
      simp at c2 ⊢
      omega
    rw [z, Bool.false_and] at q
    exact q
  have z : decide (0 < p) = true := by
    simp at c2 ⊢
    omega
  rw [z, Bool.true_and] at q
  refine ⟨_, rfl, _, rfl, p, m, rfl, _, rfl, _, r, rfl, rfl, _, rfl, ?_⟩
  refine tst (fun c3 => ?_) (fun c3 => ?_)
  · have z : decide (gcdI (gcdI p m) r = 1) = false := by
      unfold gcdI at c3 ⊢
      simp at c3 ⊢
      omega
    rw [z, Bool.false_and] at q
    exact q
  have z : decide (gcdI (gcdI p m) r = 1) = true := by
    unfold gcdI at c3 ⊢
    simp at c3 ⊢
    omega
  rw [z, Bool.true_and] at q
  have w1 := mul_lt zm zm
  have w2 : (4 * p : Int).natAbs < 2 ^ (3 + 1000) := mul_lt (by decide) zp
  have w3 := mul_lt w2 zr
  have wu : (under p m r).natAbs < 2 ^ 8000 := by
    unfold under
    exact two_le (sub_lt (two_le w1 (show 1000 + 1000 ≤ 2500 by decide)) (two_le w3 (show 3 + 1000 + 1000 ≤ 2500 by decide))) (by decide)
  refine ⟨_, rfl, _, rfl, _, _, rfl, rfl, mulx_ok zm zm (by decide), _, rfl, _, _, rfl, rfl, .inl ⟨by decide, by decide⟩, _, rfl, _, _, rfl, rfl, mulx_ok w2 zr (by decide), _, _, rfl, rfl, ?_⟩
  refine ⟨_, rfl, _, _, rfl, rfl, _, rfl, ?_⟩
  refine tst (fun c4 => ?_) (fun c4 => ?_)
  · have z : decide (0 < under p m r) = true := c4
    have z2 : 0 < under p m r := of_decide_eq_true z
    rw [z, Bool.true_and] at q
    refine ⟨_, rfl, under p m r, rfl, by omega, wu, _, rfl, q⟩
  · have z : decide (0 < under p m r) = false := c4
    rw [z, Bool.false_and] at q
    exact q
theorem c_p_is_number (T : Top K mg) : Cl CX0 P w K mg base 3 "is_number" (spLook0 isNumB) := by
  refine T.d_p_is_number.cal sc_p_is_number (fun vs H Q E h => ?_) (fun f cdv A outer s H vs Q E hr hg h => ?_)
  · obtain ⟨N, v, d, rfl, _⟩ := h
    rfl
  obtain ⟨N, v, d, rfl, hd, hf, q⟩ := h
  refine ⟨_, (pss_one (ps_ret (pe_or (pe_cl (c_p_is_fraction T) hr hg rfl (pa_cons (pv 0) pa_nil)) (pe_one (pe_cl (c_p_is_root T) hr hg rfl (pa_cons (pv 0) pa_nil)))))), ?_⟩
  unfold isNumB at q
  refine ⟨_, rfl, N, v, d, rfl, hd, hf, _, rfl, ?_⟩
  refine tst (fun c => ?_) (fun c => ?_)
  · rw [c, Bool.true_or] at q
    exact q
  · rw [c, Bool.false_or] at q
    exact ⟨_, rfl, N, v, d, rfl, hd, hf, q⟩
end
end My

namespace My
open PySem L2 Lw
local macro_rules | `(tactic| walk_at "side") => `(tactic| first | decide | omega | (exact .inl ⟨by decide, by decide⟩) | (exact .inr ⟨by decide, by decide⟩) | (exact .inl ⟨by omega, by omega⟩) | (exact .inr ⟨by omega, by omega⟩) | (exact ⟨by decide, by decide⟩) | (exact ⟨by omega, by omega⟩))
local macro_rules | `(tactic| walk_at "go1") => `(tactic| first
  | (refine ⟨_, _, rfl, rfl, ?_⟩)
  | (refine ⟨_, rfl, ?_⟩)
  | (refine And.intro (by walk_at "side") ?_)
  | (refine .inl ⟨_, rfl, ?_⟩)
  | (refine iteT ?_) | (refine iteF ?_))
local macro_rules | `(tactic| walk_at "go") => `(tactic| repeat (walk_at "go1"))
section
variable {P : Program} {w : World} {K : PySem.W.Frag} {mg : Str → Option Value} {base : Heap}
def isLot : PyData → Int → Bool
  | .tuple ds, k => decide ((ds.length : Int) = k)
  | _, _ => false
theorem c_l_is_lot (T : Top K mg) : Cl CX0 P w K mg base 1 "_law_is_lot" (fun vs H Q _ => ∃ (N : Ban) (v : V) (d : PyData) (k : Int), vs = [v, .int k] ∧ Dv N H v d ∧ Q (.bl (isLot d k)) H) := by
  refine T.d_l_is_lot.cal sc_l_is_lot (fun vs H Q E h => ?_) (fun f cdv A outer s H vs Q E hr hg h => ?_)
  · obtain ⟨N, v, d, k, rfl, _⟩ := h
    rfl
  obtain ⟨N, v, d, k, rfl, hd, q⟩ := h
  refine ⟨_, (pss_one (ps_ret (pe_and (pe_callB (call_isD kit_tup) rfl T.z_isinstance (by decide +kernel) (pa_cons (pv 0) (pa_cons (pe_bltn (v := .ty "tuple") rfl T.z_tuple (by decide +kernel) rfl) pa_nil))) (pe_one (pe_cmpR op_eq (pe_callB call_len_seq rfl T.z_len (by decide +kernel) (pa_cons (pv 0) pa_nil)) (pv 1) (nomark _)))))), ?_⟩
  refine ⟨_, rfl, N, v, d, rfl, hd, _, rfl, ?_⟩
  rcases tup_or d with ht | ⟨ds, rfl⟩
  · have z : isLot d k = false := by cases d <;> first | rfl | cases ht
    rw [z] at q
    rw [ht]
    exact iteF q
  cases hd with
  | @tup a xs _ e all =>
  refine iteT ?_
  refine ⟨_, rfl, _, _, rfl, .inr (.of e), _, rfl, rfl, ?_⟩
  have z : isLot (.tuple ds) k = decide (V.int (xs.length : Int) = V.int k) := by
    show decide ((ds.length : Int) = k) = _
    rw [all.length, Bool.eq_iff_iff]
    simp
  rw [z] at q
  exact q
theorem taken {α : Type} {l : List α} {i : Nat} {x : α} (h : l[i]? = some x) : l.take (i + 1) = l.take i ++ [x] := by
  rw [List.take_succ, h]
  rfl
theorem c_l_is_fraction (T : Top K mg) : Cl CX0 P w K mg base 2 "_law_is_fraction" (spLook isFrB) := by
  refine T.d_l_is_fraction.cal sc_l_is_fraction (fun vs H Q E h => ?_) (fun f cdv A outer s H vs Q E hr hg h => ?_)
  · obtain ⟨N, v, d, rfl, _⟩ := h
    rfl
  obtain ⟨N, v, d, rfl, hd, hf, q⟩ := h
  refine ⟨_, (pss_cons (ps_if (PW.pt (pw_or (pt_not (pt_val (pe_cl (c_l_is_lot T) hr hg rfl (pa_cons (pv 0) (pa_cons pe_int pa_nil))))) (pw_or1 (pt_not (pt_val (pe_callB (cr_all rfl) rfl T.z_all (by decide +kernel) (pa_cons (pe_lc (own := [("_law_each", 1)]) (g := gName 1) rfl sc_l_is_fraction.nd (pi_tup (pv 0)) (blkOk_by (own := [("_law_each", 1)]) (N := N_l_is_fraction) (sc := defScope s_l_is_fraction) (by decide +kernel)) (fun _ _ _ _ _ => pg_name (i := 1) sc_l_is_fraction.nd rfl (Or.inl rfl)) (fun _ _ _ _ _ => pts_nil) (fun _ _ _ _ _ => (pe_cl (c_l_is_whole T) hr hg rfl (pa_cons (pv 1) pa_nil)))) pa_nil))))))) (pss_one (ps_ret pe_bl)) pss_nil) (pss_one (ps_ret (pe_and (pe_cmpR op_gt (pe_ix ix_tup (pv 0) pe_int (fun _ _ => rfl)) pe_int (nomark _)) (pe_one (pe_cmpR op_eq (pe_cl (c_l_common T) hr hg rfl (pa_cons (pe_ix ix_tup (pv 0) pe_int (fun _ _ => rfl)) (pa_cons (pe_ix ix_tup (pv 0) pe_int (fun _ _ => rfl)) pa_nil))) pe_int (nomark _))))))), ?_⟩
  refine ⟨_, rfl, N, v, d, 2, rfl, hd, _, rfl, ?_⟩
  rcases tup_or d with ht | ⟨ds, rfl⟩
  · rw [(not_tup ht).1] at q
    have z : isLot d 2 = false := by cases d <;> first | rfl | cases ht
    rw [z]
    exact iteT (iteT (q H (.refl H)))
  cases hd with
  | @tup a xs _ e all =>
  have hlen := all.length
  refine tst (fun c => iteT ?_) (fun c => ?_)
  · have c' : (ds.length : Int) ≠ 2 := by
      intro z
      have : isLot (.tuple ds) 2 = true := decide_eq_true z
      rw [this] at c
      cases c
    rw [fr_len (by omega)] at q
    exact q H (.refl H)
  have c' : ds.length = 2 := by
    apply Decidable.byContradiction
    intro z
    have : isLot (.tuple ds) 2 = false := decide_eq_false (by omega)
    rw [this] at c
    cases c
  obtain ⟨v1, v2, d1, d2, rfl, rfl, x1, x2⟩ := len2 all c'
  refine ⟨_, rfl, a, rfl, ⟨_, .of e⟩, fun D hD => lc_tup (K := K) (a := a) (xs := [v1, v2]) (te := fun σ H Q => tCons (tVar 1) tNil σ H fun vs H1 => spLook0 isWhole vs H1 Q E0) (fun i H' => H' = upd H D (.lst ((([d1, d2] : List PyData).take i).map fun x => V.bl (isWhole x)))) rfl
    (fun i H' _ hH => by rw [hH]; exact .of (by rw [upd_ne (ne_of_none e hD)]; exact e)) ?_ ?_⟩
  · rintro i x H' hx rfl
    have sm : Same H (upd H D (.lst ((([d1, d2] : List PyData).take i).map fun x => V.bl (isWhole x)))) := same_new hD _
    have get : ∀ dd, ([d1, d2] : List PyData)[i]? = some dd → Dv N H x dd := fun dd h => by
      obtain ⟨u, hu, du⟩ := all.get h
      rw [hx] at hu
      cases hu
      exact du
    have hi : i < 2 := (List.getElem?_eq_some_iff.mp hx).1
    obtain ⟨dd, hdd⟩ : ∃ dd, ([d1, d2] : List PyData)[i]? = some dd := ⟨_, List.getElem?_eq_getElem (by simpa using hi)⟩
    have fd : fine 1000 dd := by
      have := List.mem_of_getElem? hdd
      simp only [List.mem_cons, List.not_mem_nil, or_false] at this
      rcases this with rfl | rfl
      · exact hf.1
      · exact hf.2.1
    refine ⟨rfl, ?_⟩
    refine ⟨_, rfl, N, x, dd, rfl, (get dd hdd).same sm, fd, _, upd_same, by rw [sizeLine_eq]; simp; omega, ?_⟩
    rw [upd_upd, taken hdd, List.map_append]
    rfl
  · rintro H' rfl
    have sm : Same H (upd H D (.lst ((([d1, d2] : List PyData).take 2).map fun x => V.bl (isWhole x)))) := same_new hD _
    refine ⟨D, [isWhole d1, isWhole d2], rfl, .of upd_same, _, rfl, ?_⟩
    rcases whole_or d1 with hw | ⟨i, rfl⟩
    · rw [fr_whole (.inl hw)] at q
      rw [hw]
      exact iteT (q _ sm)
    rcases whole_or d2 with hw | ⟨j, rfl⟩
    · rw [fr_whole (.inr hw)] at q
      rw [hw]
      exact iteT (q _ sm)
    refine iteF ?_
    cases x1
    cases x2
    generalize hH1 : upd H D (.lst ((([.int i, .int j] : List PyData).take 2).map fun x => V.bl (isWhole x))) = H1 at sm
    have e1 : H1 a = _ := sm _ _ e
    have q1 : Q (.bl (decide (0 < j) && decide (gcdI i j = 1))) H1 := q _ sm
    refine ⟨_, rfl, a, _, _, _, rfl, rfl, .of e1, rfl, _, _, rfl, rfl, _, rfl, ?_⟩
    refine tst (fun c2 => ?_) (fun c2 => ?_)
    · rw [c2, Bool.true_and] at q1
      refine ⟨_, rfl, a, _, _, _, rfl, rfl, .of e1, rfl, _, rfl, a, _, _, _, rfl, rfl, .of e1, rfl, i, j, rfl, rfl, ?_⟩
      exact (dec_one i j).mpr q1
    · rw [c2, Bool.false_and] at q1
      exact q1
/-- the numbers' own look -/
theorem num_frac {ds : List PyData} (h : isRootB (.tuple ds) = false) : isNumB (.tuple ds) = isFrB (.tuple ds) := by
  unfold isNumB
  rw [h, Bool.or_false]
theorem c_l_is_number (T : Top K mg) : Cl CX0 P w K mg base 3 "_law_is_number" (spLook isNumB) := by
  refine T.d_l_is_number.cal sc_l_is_number (fun vs H Q E h => ?_) (fun f cdv A outer s H vs Q E hr hg h => ?_)
  · obtain ⟨N, v, d, rfl, _⟩ := h
    rfl
  obtain ⟨N, v, d, rfl, hd, hf, q⟩ := h
  refine ⟨_, (pss_cons (ps_if (PW.pt (pw_or (pt_not (pt_val (pe_cl (c_l_is_lot T) hr hg rfl (pa_cons (pv 0) (pa_cons pe_int pa_nil))))) (pw_or1 (pt_not (pt_val (pe_callB (cr_all rfl) rfl T.z_all (by decide +kernel) (pa_cons (pe_lc (own := [("_law_each", 1)]) (g := gName 1) rfl sc_l_is_number.nd (pi_tup (pe_slice sl_tupA (pv 0) po_none (po_some pe_int))) (blkOk_by (own := [("_law_each", 1)]) (N := N_l_is_number) (sc := defScope s_l_is_number) (by decide +kernel)) (fun _ _ _ _ _ => pg_name (i := 1) sc_l_is_number.nd rfl (Or.inl rfl)) (fun _ _ _ _ _ => pts_nil) (fun _ _ _ _ _ => (pe_cl (c_l_is_whole T) hr hg rfl (pa_cons (pv 1) pa_nil)))) pa_nil))))))) (pss_one (ps_ret (pe_cl (c_l_is_fraction T) hr hg rfl (pa_cons (pv 0) pa_nil)))) pss_nil) (pss_cons (ps_asg (pe_slice sl_tupA (pv 0) po_none (po_some pe_int)) (pg_tup rfl (pgs_cons (pg_name (i := 2) sc_l_is_number.nd rfl (Or.inl rfl)) (pgs_cons (pg_name (i := 3) sc_l_is_number.nd rfl (Or.inl rfl)) (pgs_cons (pg_name (i := 4) sc_l_is_number.nd rfl (Or.inl rfl)) pgs_nil))))) (pss_cons (ps_if (PW.pt (pw_or (pt_not (pt_val (pe_callB (call_isD kit_bool) rfl T.z_isinstance (by decide +kernel) (pa_cons (pe_ix ix_tup (pv 0) pe_int (fun _ _ => rfl)) (pa_cons (pe_bltn (v := .ty "bool") rfl T.z_bool (by decide +kernel) rfl) pa_nil))))) (pw_or (pt_cmpR op_lt (pv 2) pe_int (nomark _)) (pw_or1 (pt_cmpR op_ne (pe_cl (c_l_common T) hr hg rfl (pa_cons (pe_cl (c_l_common T) hr hg rfl (pa_cons (pv 2) (pa_cons (pv 3) pa_nil))) (pa_cons (pv 4) pa_nil))) pe_int (nomark _)))))) (pss_one (ps_ret pe_bl)) pss_nil) (pss_one (ps_ret (pe_and (pe_cmpR op_gt (pe_op op_sub (pe_op op_mulX (pv 3) (pv 3)) (pe_op op_mulX (pe_op op_mul pe_int (pv 2)) (pv 4))) pe_int (nomark _)) (pe_one (pe_not (pe_cl (c_l_is_square T) hr hg rfl (pa_cons (pe_op op_sub (pe_op op_mulX (pv 3) (pv 3)) (pe_op op_mulX (pe_op op_mul pe_int (pv 2)) (pv 4))) pa_nil)))))))))), ?_⟩
  refine ⟨_, rfl, N, v, d, 4, rfl, hd, _, rfl, ?_⟩
  rcases tup_or d with ht | ⟨ds, rfl⟩
  · have z : isLot d 4 = false := by cases d <;> first | rfl | cases ht
    have z2 : isNumB d = isFrB d := by
      unfold isNumB
      rw [(not_tup ht).2, Bool.or_false]
    rw [z2] at q
    rw [z]
    exact iteT (iteT ⟨_, rfl, N, v, d, rfl, hd, hf, q⟩)
  have hd' := hd
  cases hd with
  | @tup a xs _ e all =>
  have hlen := all.length
  refine tst (fun c => iteT ?_) (fun c => ?_)
  · have c' : (ds.length : Int) ≠ 4 := by
      intro z
      have : isLot (.tuple ds) 4 = true := decide_eq_true z
      rw [this] at c
      cases c
    rw [num_frac (root_len (by omega))] at q
    exact ⟨_, rfl, N, _, _, rfl, hd', hf, q⟩
  have c' : ds.length = 4 := by
    apply Decidable.byContradiction
    intro z
    have : isLot (.tuple ds) 4 = false := decide_eq_false (by omega)
    rw [this] at c
    cases c
  obtain ⟨v1, v2, v3, v4, d1, d2, d3, d4, rfl, rfl, x1, x2, x3, x4⟩ := len4 all c'
  have zfr : isFrB (.tuple [d1, d2, d3, d4]) = false := fr_len (by simp)
  refine ⟨_, rfl, _, rfl, a, _, rfl, .of e, fun z => ?_, fun _ p hp => ?_⟩
  · exact absurd z.2 (show ¬ HT.sIx 4 4 (some 3) = 4 by decide)
  have e' : upd H p (.tup (cutV [v1, v2, v3, v4] none (some 3))) a = _ := (same_new hp _) _ _ e
  have sp : Same H (upd H p (.tup (cutV [v1, v2, v3, v4] none (some 3)))) := same_new hp _
  have ep : upd H p (.tup (cutV [v1, v2, v3, v4] none (some 3))) p = some (.tup [v1, v2, v3]) := upd_same
  generalize hH0 : upd H p (.tup (cutV [v1, v2, v3, v4] none (some 3))) = H0 at e' sp ep
  have y1 := x1.same sp
  have y2 := x2.same sp
  have y3 := x3.same sp
  have all3 : DvAll N H0 [v1, v2, v3] [d1, d2, d3] := .cons y1 (.cons y2 (.cons y3 .nil))
  refine ⟨p, rfl, ⟨_, .of ep⟩, fun D hD => lc_tup (K := K) (a := p) (xs := [v1, v2, v3]) (te := fun σ H Q => tCons (tVar 1) tNil σ H fun vs H1 => spLook0 isWhole vs H1 Q E0) (fun i H' => H' = upd H0 D (.lst ((([d1, d2, d3] : List PyData).take i).map fun x => V.bl (isWhole x)))) rfl
    (fun i H' _ hH => by rw [hH]; exact .of (by rw [upd_ne (ne_of_none ep hD)]; exact ep)) ?_ ?_⟩
  · rintro i x H' hx rfl
    have sm : Same H0 (upd H0 D (.lst ((([d1, d2, d3] : List PyData).take i).map fun x => V.bl (isWhole x)))) := same_new hD _
    have get : ∀ dd, ([d1, d2, d3] : List PyData)[i]? = some dd → Dv N H0 x dd := fun dd h => by
      obtain ⟨u, hu, du⟩ := all3.get h
      rw [hx] at hu
      cases hu
      exact du
    have hi : i < 3 := (List.getElem?_eq_some_iff.mp hx).1
    obtain ⟨dd, hdd⟩ : ∃ dd, ([d1, d2, d3] : List PyData)[i]? = some dd := ⟨_, List.getElem?_eq_getElem (by simpa using hi)⟩
    have fd : fine 1000 dd := by
      have := List.mem_of_getElem? hdd
      simp only [List.mem_cons, List.not_mem_nil, or_false] at this
      rcases this with rfl | rfl | rfl
      · exact hf.1
      · exact hf.2.1
      · exact hf.2.2.1
    refine ⟨rfl, ?_⟩
    refine ⟨_, rfl, N, x, dd, rfl, (get dd hdd).same sm, fd, _, upd_same, by rw [sizeLine_eq]; simp; omega, ?_⟩
    rw [upd_upd, taken hdd, List.map_append]
    rfl
  · rintro H' rfl
    have sm : Same H0 (upd H0 D (.lst ((([d1, d2, d3] : List PyData).take 3).map fun x => V.bl (isWhole x)))) := same_new hD _
    refine ⟨D, [isWhole d1, isWhole d2, isWhole d3], rfl, .of upd_same, _, rfl, ?_⟩
    generalize hH1 : upd H0 D (.lst ((([d1, d2, d3] : List PyData).take 3).map fun x => V.bl (isWhole x))) = H1 at sm
    have sm1 : Same H H1 := sp.trans sm
    have e1 : H1 a = _ := sm1 _ _ e
    have out : isRootB (.tuple [d1, d2, d3, d4]) = false → Q (.bl (isFrB (.tuple [d1, d2, d3, d4]))) H1 := fun z => by
      rw [← num_frac z]
      exact q _ sm1
    have redo : ∀ (z : isRootB (.tuple [d1, d2, d3, d4]) = false), spLook isFrB [.ref a] H1 Q E0 := fun z => by
      rw [num_frac z] at q
      exact ⟨N, _, _, rfl, hd'.same sm1, hf, fun H2 s2 => q _ (sm1.trans s2)⟩
    rcases whole_or d1 with hw | ⟨i, rfl⟩
    · rw [hw]
      exact iteT ⟨_, rfl, redo (root_whole (.inl hw))⟩
    rcases whole_or d2 with hw | ⟨j, rfl⟩
    · rw [hw]
      exact iteT ⟨_, rfl, redo (root_whole (.inr (.inl hw)))⟩
    rcases whole_or d3 with hw | ⟨k, rfl⟩
    · rw [hw]
      exact iteT ⟨_, rfl, redo (root_whole (.inr (.inr (.inl hw))))⟩
    refine iteF ?_
    have all1 := all.same sm1
    cases x1
    cases x2
    cases x3
    refine ⟨_, rfl, _, rfl, a, _, rfl, .of e1, fun z => absurd z.2 (show ¬ HT.sIx 4 4 (some 3) = 4 by decide), fun _ p2 hp2 => ?_⟩
    have s2 : Same H1 (upd H1 p2 (.tup (cutV [V.int i, V.int j, V.int k, v4] none (some 3)))) := same_new hp2 _
    have ep2 : upd H1 p2 (.tup (cutV [V.int i, V.int j, V.int k, v4] none (some 3))) p2 = some (.tup [V.int i, V.int j, V.int k]) := upd_same
    generalize hH2 : upd H1 p2 (.tup (cutV [V.int i, V.int j, V.int k, v4] none (some 3))) = H2 at s2 ep2
    have e2 := s2 _ _ e1
    have sm2 := sm1.trans s2
    refine ⟨p2, _, rfl, .of ep2, rfl, _, _, rfl, _, _, rfl, _, _, rfl, rfl, ?_⟩
    refine ⟨_, rfl, a, _, _, _, rfl, rfl, .of e2, rfl, N, v4, d4, rfl, x4.same sm2, _, rfl, ?_⟩
    have q2 := q _ sm2
    rcases bool_or d4 with hw | ⟨u, rfl⟩
    · rw [num_frac (root_whole (.inr (.inr (.inr hw)))), zfr] at q2
      rw [hw]
      exact iteT q2
    refine iteF ?_
    have zi : i.natAbs < 2 ^ 1000 := hf.1
    have zj : j.natAbs < 2 ^ 1000 := hf.2.1
    have zk : k.natAbs < 2 ^ 1000 := hf.2.2.1
    have q3 : Q (.bl (decide (0 < i) && (decide (gcdI (gcdI i j) k = 1) && (decide (0 < under i j k) && !isSqB (under i j k))))) H2 := q2
    refine ⟨_, rfl, _, _, rfl, rfl, _, rfl, ?_⟩
    refine tst (fun c2 => iteT ?_) (fun c2 => ?_)
    · have z : decide (0 < i) = false := by
        simp at c2 ⊢
        omega
      rw [z, Bool.false_and] at q3
      exact q3
    have z : decide (0 < i) = true := by
      simp at c2 ⊢
      omega
    rw [z, Bool.true_and] at q3
    refine ⟨_, rfl, _, rfl, i, j, rfl, _, rfl, _, k, rfl, rfl, _, rfl, ?_⟩
    refine tst (fun c3 => ?_) (fun c3 => ?_)
    · have z : decide (gcdI (gcdI i j) k = 1) = false := by
        simp at c3 ⊢
        exact c3
      rw [z, Bool.false_and] at q3
      exact q3
    have z : decide (gcdI (gcdI i j) k = 1) = true := by
      simp at c3 ⊢
      exact c3
    rw [z, Bool.true_and] at q3
    have w1 := mul_lt zj zj
    have w2 : (4 * i : Int).natAbs < 2 ^ (3 + 1000) := mul_lt (by decide) zi
    have w3 := mul_lt w2 zk
    have wu : (under i j k).natAbs < 2 ^ 8000 := by
      unfold under
      exact two_le (sub_lt (two_le w1 (show 1000 + 1000 ≤ 2500 by decide)) (two_le w3 (show 3 + 1000 + 1000 ≤ 2500 by decide))) (by decide)
    refine ⟨_, rfl, _, rfl, _, _, rfl, rfl, mulx_ok zj zj (by decide), _, rfl, _, _, rfl, rfl, .inl ⟨by decide, by decide⟩, _, rfl, _, _, rfl, rfl, mulx_ok w2 zk (by decide), _, _, rfl, rfl, ?_⟩
    refine ⟨_, _, rfl, rfl, _, rfl, ?_⟩
    refine tst (fun c4 => ?_) (fun c4 => ?_)
    · have z : decide (0 < under i j k) = true := c4
      rw [z, Bool.true_and] at q3
      refine ⟨_, rfl, _, rfl, _, _, rfl, rfl, mulx_ok zj zj (by decide), _, rfl, _, _, rfl, rfl, .inl ⟨by decide, by decide⟩, _, rfl, _, _, rfl, rfl, mulx_ok w2 zk (by decide), _, _, rfl, rfl, ?_⟩
      exact ⟨under i j k, rfl, wu, _, rfl, q3⟩
    · have z : decide (0 < under i j k) = false := c4
      rw [z, Bool.false_and] at q3
      exact q3
end
end My

namespace My
open PySem L2 Lw
local macro_rules | `(tactic| walk_at "side") => `(tactic| first | decide | omega | (exact .inl ⟨by decide, by decide⟩) | (exact .inr ⟨by decide, by decide⟩) | (exact .inl ⟨by omega, by omega⟩) | (exact .inr ⟨by omega, by omega⟩) | (exact ⟨by decide, by decide⟩) | (exact ⟨by omega, by omega⟩))
local macro_rules | `(tactic| walk_at "go1") => `(tactic| first
  | (refine ⟨_, _, rfl, rfl, ?_⟩)
  | (refine ⟨_, rfl, ?_⟩)
  | (refine And.intro (by walk_at "side") ?_)
  | (refine .inl ⟨_, rfl, ?_⟩)
  | (refine iteT ?_) | (refine iteF ?_))
local macro_rules | `(tactic| walk_at "go") => `(tactic| repeat (walk_at "go1"))
-- opt: pickD
-- opt: omega
section
variable {P : Program} {w : World} {K : PySem.W.Frag} {mg : Str → Option Value} {base : Heap}
/-! ### odd things -/
def spOdd : Sp := fun vs H Q _ => ∃ p : Addr, vs = [.ref p] ∧ WellAt H p ∧ ∀ (d : PyData) (v : V) (H' : Hp), Fit 100 30000 3 d → After p H H' → Dv (wellN p) H' v d → Q v H'
mutual
def fitB : PyData → Bool
  | .none => true
  | .bool _ => true
  | .int i => decide (i.natAbs < 2 ^ 100)
  | .str x => decide ((reprText x).length ≤ 100)
  | .list xs => fitsB xs
  | .tuple xs => fitsB xs
  | .dict kvs => kvs.isEmpty
def fitsB : List PyData → Bool
  | [] => true
  | x :: xs => fitB x && fitsB xs
end
mutual
theorem fit_fine : ∀ d : PyData, fitB d = true → fine 100 d
  | .none, _ => trivial
  | .bool _, _ => trivial
  | .int i, h => of_decide_eq_true (p := i.natAbs < 2 ^ 100) h
  | .str x, h => of_decide_eq_true (p := (reprText x).length ≤ 100) h
  | .list xs, h => fits_fine xs h
  | .tuple xs, h => fits_fine xs h
  | .dict kvs, h => by
    cases kvs with
    | nil => rfl
    | cons a r => cases h
theorem fits_fine : ∀ ds : List PyData, fitsB ds = true → fineAll 100 ds
  | [], _ => trivial
  | x :: r, h => by
    have q := (Bool.and_eq_true _ _).mp h
    exact ⟨fit_fine x q.1, fits_fine r q.2⟩
end
theorem fit_all (ds : List PyData) (h : ds.all (fun d => fitB d && (decide (wt d ≤ 30000) && decide (d.depth ≤ 3))) = true) : ∀ d ∈ ds, Fit 100 30000 3 d := fun d m => by
  have q := List.all_eq_true.mp h d m
  simp only [Bool.and_eq_true, decide_eq_true_eq] at q
  exact ⟨fit_fine d q.1, q.2.1, q.2.2⟩
theorem c_l_odd (T : Top K mg) : Cl CX0 P w K mg base 3 "_law_odd" spOdd := by
  refine T.d_l_odd.cal sc_l_odd (fun vs H Q E h => ?_) (fun f cdv A outer s H vs Q E hr hg h => ?_)
  · obtain ⟨p, rfl, _⟩ := h
    rfl
  obtain ⟨p, rfl, hW, q⟩ := h
  refine ⟨_, (pss_one (ps_ret (pe_cl (c_l_pickD T) hr hg rfl (pa_cons (pv 0) (pa_cons (pd_tup (pda_cons pd_non (pda_cons pd_bl (pda_cons pd_bl (pda_cons pd_int (pda_cons pd_int (pda_cons (pd_neg pd_int) (pda_cons pd_int (pda_cons (pd_pow (n := 25) pd_int pd_int (by decide) (by decide)) (pda_cons pd_str (pda_cons pd_str (pda_cons pd_str (pda_cons (pd_tup pda_nil) (pda_cons (pd_tup (pda_cons pd_int pda_nil)) (pda_cons (pd_tup (pda_cons pd_int (pda_cons pd_int pda_nil))) (pda_cons (pd_tup (pda_cons pd_int (pda_cons pd_int pda_nil))) (pda_cons (pd_tup (pda_cons pd_int (pda_cons pd_int pda_nil))) (pda_cons (pd_tup (pda_cons pd_int (pda_cons pd_int pda_nil))) (pda_cons (pd_tup (pda_cons pd_int (pda_cons pd_int pda_nil))) (pda_cons (pd_tup (pda_cons pd_int (pda_cons (pd_neg pd_int) pda_nil))) (pda_cons (pd_tup (pda_cons pd_bl (pda_cons pd_int pda_nil))) (pda_cons (pd_tup (pda_cons pd_int (pda_cons pd_bl pda_nil))) (pda_cons (pd_tup (pda_cons pd_int (pda_cons pd_int (pda_cons pd_int pda_nil)))) (pda_cons (pd_tup (pda_cons (pd_tup pda_nil) pda_nil)) (pda_cons (pd_tup (pda_cons (pd_tup (pda_cons pd_int (pda_cons pd_int pda_nil))) pda_nil)) (pda_cons (pd_tup (pda_cons (pd_tup (pda_cons pd_int (pda_cons pd_int pda_nil))) (pda_cons (pd_tup (pda_cons pd_int (pda_cons pd_int pda_nil))) pda_nil))) (pda_cons (pd_tup (pda_cons (pd_tup (pda_cons pd_int (pda_cons pd_int pda_nil))) (pda_cons (pd_tup (pda_cons pd_int (pda_cons pd_int pda_nil))) (pda_cons (pd_tup (pda_cons pd_int (pda_cons pd_int pda_nil))) pda_nil)))) (pda_cons (pd_lst pda_nil) (pda_cons (pd_lst (pda_cons pd_int (pda_cons pd_int pda_nil))) (pda_cons (pd_lst (pda_cons (pd_tup (pda_cons pd_int (pda_cons pd_int pda_nil))) pda_nil)) (pda_cons pd_dct (pda_cons (pd_tup (pda_cons pd_non (pda_cons pd_int pda_nil))) (pda_cons (pd_tup (pda_cons pd_str (pda_cons pd_int pda_nil))) (pda_cons (pd_tup (pda_cons pd_int (pda_cons pd_int (pda_cons (pd_neg pd_int) (pda_cons pd_bl pda_nil))))) (pda_cons (pd_tup (pda_cons pd_int (pda_cons pd_int (pda_cons (pd_neg pd_int) (pda_cons pd_int pda_nil))))) (pda_cons (pd_tup (pda_cons pd_int (pda_cons pd_int (pda_cons (pd_neg pd_int) (pda_cons pd_bl pda_nil))))) (pda_cons (pd_tup (pda_cons pd_int (pda_cons pd_int (pda_cons (pd_neg pd_int) (pda_cons pd_bl pda_nil))))) (pda_cons (pd_tup (pda_cons pd_int (pda_cons (pd_neg pd_int) (pda_cons (pd_neg pd_int) (pda_cons pd_bl pda_nil))))) (pda_cons (pd_tup (pda_cons pd_str (pda_cons (pd_tup (pda_cons pd_int (pda_cons pd_int pda_nil))) (pda_cons (pd_tup (pda_cons pd_int (pda_cons pd_int pda_nil))) (pda_cons (pd_tup (pda_cons pd_int (pda_cons pd_int pda_nil))) pda_nil))))) (pda_cons (pd_tup (pda_cons pd_str pda_nil)) (pda_cons (pd_tup (pda_cons pd_str (pda_cons pd_int pda_nil))) (pda_cons (pd_tup (pda_cons pd_str (pda_cons (pd_tup (pda_cons pd_int (pda_cons pd_int pda_nil))) (pda_cons (pd_tup (pda_cons pd_int (pda_cons pd_int pda_nil))) (pda_cons (pd_tup (pda_cons pd_int (pda_cons pd_int pda_nil))) pda_nil))))) (pda_cons (pd_tup (pda_cons pd_str (pda_cons (pd_tup (pda_cons pd_int (pda_cons pd_int pda_nil))) (pda_cons (pd_tup (pda_cons pd_int (pda_cons pd_int pda_nil))) (pda_cons (pd_tup (pda_cons pd_int (pda_cons pd_int pda_nil))) pda_nil))))) (pda_cons (pd_tup (pda_cons pd_str (pda_cons (pd_tup (pda_cons pd_int (pda_cons pd_int pda_nil))) (pda_cons (pd_tup (pda_cons pd_int (pda_cons pd_int pda_nil))) (pda_cons (pd_tup (pda_cons pd_int (pda_cons pd_int pda_nil))) pda_nil))))) (pda_cons (pd_tup (pda_cons (pd_tup (pda_cons pd_int (pda_cons pd_int (pda_cons (pd_neg pd_int) (pda_cons pd_bl pda_nil))))) (pda_cons (pd_tup (pda_cons pd_int (pda_cons pd_int pda_nil))) pda_nil))) (pda_cons (pd_tup (pda_cons pd_int (pda_cons pd_int pda_nil))) pda_nil)))))))))))))))))))))))))))))))))))))))))))))) pa_nil)) (by omega)))), ?_⟩
  refine ⟨_, rfl, _, hW.fresh, fun v H1 s1 dv => ?_⟩
  refine ⟨p, v, _, rfl, hW.same s1, dv, by decide, by decide, fun d u H2 hd a2 du => ?_⟩
  exact q d u H2 (fit_all _ (by decide +kernel) d hd) ((After.of hW s1).trans a2) du
/-! ### bent things -/
/-- what a bent thing may be -/
def BentOk (B : Nat) (d d' : PyData) : Prop := fine (B + 1) d' ∧ wt d' ≤ 2 * wt d + 30000 ∧ d'.depth ≤ d.depth + 4
def spBent (n : Nat) : Sp := fun vs H Q _ => ∃ (p : Addr) (v : V) (d : PyData) (B : Nat), vs = [.ref p, v] ∧ WellAt H p ∧ Dv (wellN p) H v d ∧ fine B d ∧ 100 ≤ B ∧ B ≤ 1000 ∧ wt d ≤ 1000000 ∧ d.depth < n ∧
  ∀ (d' : PyData) (u : V) (H' : Hp), BentOk B d d' → After p H H' → Dv (wellN p) H' u d' → Q u H'
theorem c_l_bent (T : Top K mg) : ∀ n : Nat, Cl CX0 P w K mg base (4 + n) "_law_bent" (spBent n)
  | 0 => by
    refine T.d_l_bent.cal sc_l_bent (fun vs H Q E h => ?_) (fun f cdv A outer s H vs Q E hr hg h => ?_)
    · obtain ⟨p, v, d, B, rfl, _⟩ := h
      rfl
    · obtain ⟨p, v, d, B, rfl, _, _, _, _, _, _, c, _⟩ := h
      exact absurd c (Nat.not_lt_zero _)
  | n + 1 => by
    have ih := c_l_bent T n
    refine T.d_l_bent.cal (k := 4 + n) sc_l_bent (fun vs H Q E h => ?_) (fun f cdv A outer s H vs Q E hr hg h => ?_)
    · obtain ⟨p, v, d, B, rfl, _⟩ := h
      rfl
    obtain ⟨p, v, d, B, rfl, hW, hd, hf, hB0, hB1, hwt, hdep, q⟩ := h
    have hwt' : ∀ ds : List PyData, d = .tuple ds → ds.length ≤ 1000000 := fun ds e => by
      have l := wtAll_len ds
      rw [e] at hwt
      have : wt (.tuple ds) = wtAll ds + 2000 := rfl
      omega
    obtain ⟨t4, ht4, r4⟩ : ∃ t4, PSs (cxOf CX0 P w K mg base N_l_bent "_law_bent" (defScope s_l_bent) f cdv A outer s H E).nox ((defBody s_l_bent).drop 4) t4 ∧ ∀ (k : Int) H1, After p H H1 → t4 { nx := fun _ H' => Q .non H', rt := Q } ((L2.start N_l_bent [.ref p, v]).set 3 (some (.int k))) H1 := by
      refine ⟨_, (pss_one (ps_ret (pe_cl (c_l_odd T) hr hg rfl (pa_cons (pv 0) pa_nil) (by omega)))), fun k H1 a1 => ?_⟩
      refine ⟨_, rfl, p, rfl, a1.well, fun d' u H2 fit a2 du => ?_⟩
      have f1 := fit.w
      have f2 := fit.d
      exact q d' u H2 ⟨fine_mono (by omega) _ fit.f, by omega, by omega⟩ (a1.trans a2) du
    obtain ⟨t3, ht3, r3⟩ : ∃ t3, PSs (cxOf CX0 P w K mg base N_l_bent "_law_bent" (defScope s_l_bent) f cdv A outer s H E).nox ((defBody s_l_bent).drop 3) t3 ∧ ∀ (k : Int) H1, 0 ≤ k → After p H H1 → t3 { nx := fun _ H' => Q .non H', rt := Q } ((L2.start N_l_bent [.ref p, v]).set 3 (some (.int k))) H1 := by
      refine ⟨_, (pss_cons (ps_if (PW.pt (pw_and (pt_val (pe_callB (call_isD kit_int) rfl T.z_isinstance (by decide +kernel) (pa_cons (pv 1) (pa_cons (pe_bltn (v := .ty "int") rfl T.z_int (by decide +kernel) rfl) pa_nil)))) (pw_and1 (pt_cmpR op_lt (pv 3) pe_int (nomark _))))) (pss_one (ps_ret (pe_ix ix_tup (pe_tup (pa_cons (pe_op (OpR.or op_add op_addBI) (pv 1) pe_int) (pa_cons (pe_op (OpR.or op_sub op_subIB) pe_int (pv 1)) (pa_cons (pe_op (OpR.or op_mul op_mulIB) pe_int (pv 1)) (pa_cons (pe_op (OpR.or op_sub op_subBI) (pv 1) pe_int) (pa_cons (pe_cmpR (OpR.or op_eq op_eqBI) (pv 1) pe_int (nomark _)) pa_nil)))))) (pv 3) (fun _ _ => rfl)))) pss_nil) ht4), fun k H1 k0 a1 => ?_⟩
      have hd1 : Dv (wellN p) H1 v d := hd.up a1.sx
      refine ⟨_, rfl, _, v, d, rfl, hd1, _, rfl, ?_⟩
      have num : ∀ j : Int, j.natAbs < 2 ^ (B + 1) → BentOk B d (.int j) := fun j hj => ⟨hj, by show 2000 ≤ _; omega, by simp only [PyData.depth]; omega⟩
      have boo : ∀ j : Bool, BentOk B d (.bool j) := fun j => ⟨trivial, by show 2000 ≤ _; omega, by simp only [PyData.depth]; omega⟩
      have p2 : (2 : Nat) ^ 100 ≤ 2 ^ B := Nat.pow_le_pow_right (by decide) hB0
      have p3 : (2 : Nat) ^ (B + 1) = 2 ^ B * 2 := Nat.pow_succ ..
      have fin : ∀ (a b c dd : Int) (e : Bool), a.natAbs < 2 ^ (B + 1) → b.natAbs < 2 ^ (B + 1) → c.natAbs < 2 ^ (B + 1) → dd.natAbs < 2 ^ (B + 1) → k < 5 → ∀ (t : Addr), H1 t = none →
          ∃ y, atI [.int a, .int b, .int c, .int dd, .bl e] k = some y ∧ Q y (upd H1 t (.tup [.int a, .int b, .int c, .int dd, .bl e])) := fun a b c dd e h1 h2 h3 h4 k5 t ht => by
        obtain ⟨y, hy, my⟩ := at_one (xs := [.int a, .int b, .int c, .int dd, .bl e]) k0 (by simpa using k5)
        refine ⟨y, hy, ?_⟩
        have af := a1.keep (same_new ht (.tup [.int a, .int b, .int c, .int dd, .bl e]))
        simp only [List.mem_cons, List.not_mem_nil, or_false] at my
        rcases my with rfl | rfl | rfl | rfl | rfl
        · exact q _ _ _ (num _ h1) af (.int _)
        · exact q _ _ _ (num _ h2) af (.int _)
        · exact q _ _ _ (num _ h3) af (.int _)
        · exact q _ _ _ (num _ h4) af (.int _)
        · exact q _ _ _ (boo _) af (.bl _)
      have go : ∀ i : Int, d = .int i → k < 5 → i.natAbs < 2 ^ B := fun i e _ => by
        rw [e] at hf
        exact hf
      cases d with
      | int i =>
        refine iteT ⟨_, rfl, _, _, rfl, rfl, _, rfl, ?_⟩
        refine tst (fun c => ?_) (fun c => r4 k H1 a1)
        have k5 : k < 5 := by simpa using c
        have hi : i.natAbs < 2 ^ B := hf
        cases hd1
        refine ⟨_, rfl, .inl ⟨_, _, rfl, rfl, ?_⟩⟩
        refine ⟨_, rfl, .inl ⟨_, _, rfl, rfl, ?_⟩⟩
        refine ⟨_, rfl, .inl ⟨_, _, rfl, rfl, .inl ⟨by decide, by decide⟩, ?_⟩⟩
        refine ⟨_, rfl, .inl ⟨_, _, rfl, rfl, ?_⟩⟩
        refine ⟨_, rfl, .inl ⟨rfl, ?_⟩⟩
        refine ⟨short5, fun t ht => ?_⟩
        obtain ⟨y, hy, qy⟩ := fin (i + 1) (0 - i) (2 * i) (i - 2) (decide (V.int i = V.int 1)) (by omega) (by omega) (by omega) (by omega) k5 t ht
        exact ⟨_, rfl, t, _, k, y, rfl, rfl, .of upd_same, hy, qy⟩
      | bool b =>
        refine iteT ⟨_, rfl, _, _, rfl, rfl, _, rfl, ?_⟩
        refine tst (fun c => ?_) (fun c => r4 k H1 a1)
        have k5 : k < 5 := by simpa using c
        have hi : (bz b).natAbs ≤ 1 := by cases b <;> decide
        cases hd1
        refine ⟨_, rfl, .inr ⟨_, _, rfl, rfl, ?_⟩⟩
        refine ⟨_, rfl, .inr ⟨_, _, rfl, rfl, ?_⟩⟩
        refine ⟨_, rfl, .inr ⟨_, _, rfl, rfl, ?_⟩⟩
        refine ⟨_, rfl, .inr ⟨_, _, rfl, rfl, ?_⟩⟩
        refine ⟨_, rfl, .inr ⟨_, _, rfl, rfl, ?_⟩⟩
        refine ⟨short5, fun t ht => ?_⟩
        obtain ⟨y, hy, qy⟩ := fin (bz b + 1) (0 - bz b) (2 * bz b) (bz b - 2) (bz b == 1) (by omega) (by omega) (by omega) (by omega) k5 t ht
        exact ⟨_, rfl, t, _, k, y, rfl, rfl, .of upd_same, hy, qy⟩
      | _ => exact iteF (iteF (r4 k H1 a1))
    obtain ⟨t2, ht2, r2⟩ : ∃ t2, PSs (cxOf CX0 P w K mg base N_l_bent "_law_bent" (defScope s_l_bent) f cdv A outer s H E).nox ((defBody s_l_bent).drop 1) t2 ∧ ∀ H1, After p H H1 → t2 { nx := fun _ H' => Q .non H', rt := Q } (L2.start N_l_bent [.ref p, v]) H1 := by
      refine ⟨_, (pss_cons (ps_set (i := 3) sc_l_bent.nd rfl (Or.inl rfl) (pe_cl (c_l_draw T) hr hg rfl (pa_cons (pv 0) (pa_cons pe_int pa_nil)) (by omega))) (pss_cons (ps_if (PW.pt (pw_and (pt_val (pe_callB (call_isD kit_tup) rfl T.z_isinstance (by decide +kernel) (pa_cons (pv 1) (pa_cons (pe_bltn (v := .ty "tuple") rfl T.z_tuple (by decide +kernel) rfl) pa_nil)))) (pw_and1 (pt_cmpR op_lt (pv 3) pe_int (nomark _))))) (pss_one (ps_ret (pe_ix ix_tup (pe_tup (pa_cons (pe_callTy call_listT rfl T.z_list (by decide +kernel) (pa_cons (pv 1) pa_nil)) (pa_cons (pe_slice sl_tupA (pv 1) po_none (po_some (pe_un un_neg pe_int))) (pa_cons (pe_op op_catA (pv 1) (pe_slice sl_tupA (pv 1) (po_some (pe_un un_neg pe_int)) po_none)) (pa_cons (pe_backT (pv 1)) (pa_cons (pe_slice sl_tupA (pv 1) (po_some pe_int) po_none) (pa_cons (pe_op op_catA (pe_slice sl_tupA (pv 1) po_none (po_some pe_int)) (pv 1)) pa_nil))))))) (pv 3) (fun _ _ => rfl)))) pss_nil) ht3)), fun H1 a1 => ?_⟩
      refine ⟨_, rfl, p, 9, rfl, a1.well, by decide, by decide, fun k H2 k0 k1 a2 => ?_⟩
      have a12 := a1.trans a2
      have hd2 : Dv (wellN p) H2 v d := hd.up a12.sx
      refine ⟨_, rfl, _, v, d, rfl, hd2, _, rfl, ?_⟩
      rcases tup_or d with ht | ⟨ds, rfl⟩
      · rw [ht]
        exact iteF (iteF (r3 k H2 k0 a12))
      have hlen := hwt' ds rfl
      refine iteT ⟨_, rfl, _, _, rfl, rfl, _, rfl, ?_⟩
      refine tst (fun c => ?_) (fun c => r3 k H2 k0 a12)
      have k6 : k < 6 := by simpa using c
      obtain ⟨a, xs, rfl, e, all⟩ := tup_at hd2
      have wds : wt (.tuple ds) = wtAll ds + 2000 := rfl
      have fds := fineAll_iff.mp (show fineAll B ds from hf)
      have dds : (PyData.tuple ds).depth = PyData.depthAll ds + 1 := by simp only [PyData.depth]
      have dds2 := depthAll_iff.mp (Nat.le_refl (PyData.depthAll ds))
      have mk : ∀ es : List PyData, (∀ d ∈ es, d ∈ ds) → wtAll es ≤ 2 * wtAll ds → BentOk B (.tuple ds) (.tuple es) := fun es me we => by
        refine ⟨fine_mono (B := B) (by omega) _ (show fineAll B es from fineAll_iff.mpr fun d m => fds d (me d m)), ?_, ?_⟩
        · have : wt (.tuple es) = wtAll es + 2000 := rfl
          omega
        · have z := depthAll_iff.mpr fun d m => dds2 d (me d m)
          have : (PyData.tuple es).depth = PyData.depthAll es + 1 := by simp only [PyData.depth]
          omega
      refine ⟨_, rfl, a, xs, rfl, .of e, fun l hl nl => ?_⟩
      have s3 : Same H2 (upd H2 l (.lst xs)) := same_new hl _
      have d1 : Dv (wellN p) (upd H2 l (.lst xs)) (.ref l) (.list ds) := .lst (a12.well.fresh l hl nl) upd_same (all.same s3)
      generalize upd H2 l (.lst xs) = H3 at s3 d1
      refine ⟨_, rfl, 1, rfl, _, rfl, dv_cut (hd2.same s3) fun u2 H4 s4 d2 => ?_⟩
      have t4 := s3.trans s4
      refine ⟨_, rfl, _, rfl, 1, rfl, _, rfl, ?_⟩
      delta tNoPart
      refine dv_cut (hd2.same t4) fun u3 H5 s5 d3 => ?_
      have t5 := t4.trans s5
      have l3 : (cutD ds (some (-1)) none).length ≤ ds.length := by
        unfold cutD
        rw [List.length_take, List.length_drop]
        omega
      refine dv_cat (hd2.same t5) d3 (by omega) fun u4 H6 s6 d4 => ?_
      have t6 := t5.trans s6
      refine ⟨_, rfl, a, xs, rfl, .of (t6 _ _ e), fun r hr2 => ?_⟩
      have s7 : Same H6 (upd H6 r (.tup xs.reverse)) := same_new hr2 _
      have t7 := t6.trans s7
      have d5 : Dv (wellN p) (upd H6 r (.tup xs.reverse)) (.ref r) (.tuple ds.reverse) := .tup upd_same (all.rev.same t7)
      generalize upd H6 r (.tup xs.reverse) = H7 at s7 d5 t7
      refine ⟨_, rfl, 1, rfl, ?_⟩
      refine dv_cut (hd2.same t7) fun u6 H8 s8 d6 => ?_
      have t8 := t7.trans s8
      refine ⟨_, rfl, 1, rfl, dv_cut (hd2.same t8) fun u7 H9 s9 d7 => ?_⟩
      have t9 := t8.trans s9
      have l7 : (cutD ds none (some 1)).length ≤ ds.length := by
        unfold cutD
        rw [List.length_take, List.length_drop]
        omega
      refine ⟨_, rfl, dv_cat d7 (hd2.same t9) (by omega) fun u8 H10 s10 d8 => ?_⟩
      have t10 := t9.trans s10
      refine ⟨short6, fun t ht => ?_⟩
      have s11 := same_new ht (.tup [.ref l, u2, u4, .ref r, u6, u8])
      have t11 := t10.trans s11
      obtain ⟨y, hy, my⟩ := at_one (xs := [.ref l, u2, u4, .ref r, u6, u8]) k0 (by simpa using k6)
      refine ⟨_, rfl, t, _, k, y, rfl, rfl, .of upd_same, hy, ?_⟩
      have out : ∀ (es : List PyData) (z : V) G, Same H2 G → Same G (upd H10 t (.tup [.ref l, u2, u4, .ref r, u6, u8])) → Dv (wellN p) G z (.tuple es) → (∀ d ∈ es, d ∈ ds) → wtAll es ≤ 2 * wtAll ds → Q z (upd H10 t (.tup [.ref l, u2, u4, .ref r, u6, u8])) := fun es z G g1 g2 dz me we =>
        q _ _ _ (mk es me we) (a12.keep (g1.trans g2)) (dz.same g2)
      simp only [List.mem_cons, List.not_mem_nil, or_false] at my
      have w1 := cutD_wt ds none (some (-1))
      have w2 := cutD_wt ds (some (-1)) none
      have w3 := cutD_wt ds (some 1) none
      have w4 := cutD_wt ds none (some 1)
      rcases my with rfl | rfl | rfl | rfl | rfl | rfl
      · have b := mk ds (fun d m => m) (by omega)
        refine q (.list ds) _ _ ⟨b.1, b.2.1, ?_⟩ (a12.keep t11) (d1.same ((((((((s4.trans s5).trans s6).trans s7).trans s8).trans s9).trans s10).trans s11)))
        have : (PyData.list ds).depth = PyData.depthAll ds + 1 := by simp only [PyData.depth]
        omega
      · exact out _ _ _ t4 ((((((s5.trans s6).trans s7).trans s8).trans s9).trans s10).trans s11) d2 (fun d m => cutD_mem m) (by omega)
      · exact out _ _ _ t6 ((((s7.trans s8).trans s9).trans s10).trans s11) d4 (fun d m => (List.mem_append.mp m).elim id cutD_mem) (by rw [wtAll_app]; omega)
      · exact out _ _ _ t7 (((s8.trans s9).trans s10).trans s11) d5 (fun d m => List.mem_reverse.mp m) (by rw [wtAll_rev]; omega)
      · exact out _ _ _ t8 ((s9.trans s10).trans s11) d6 (fun d m => cutD_mem m) (by omega)
      · exact out _ _ _ t10 s11 d8 (fun d m => (List.mem_append.mp m).elim cutD_mem id) (by rw [wtAll_app]; omega)
    refine ⟨_, (pss_cons (ps_if (PW.pt (pw_and (pt_val (pe_callB (call_isD kit_tup) rfl T.z_isinstance (by decide +kernel) (pa_cons (pv 1) (pa_cons (pe_bltn (v := .ty "tuple") rfl T.z_tuple (by decide +kernel) rfl) pa_nil)))) (pw_and (pt_cmpR (op_neT0 hr) (pv 1) (pd_tup pda_nil) (nomark _)) (pw_and1 (pt_cmpR op_gt (pe_cl (c_l_draw T) hr hg rfl (pa_cons (pv 0) (pa_cons pe_int pa_nil)) (by omega)) pe_int (nomark _)))))) (pss_cons (ps_set (i := 2) sc_l_bent.nd rfl (Or.inl rfl) (pe_cl (c_l_draw T) hr hg rfl (pa_cons (pv 0) (pa_cons (pe_callB call_len_seq rfl T.z_len (by decide +kernel) (pa_cons (pv 1) pa_nil)) pa_nil)) (by omega))) (pss_one (ps_ret (pe_op op_catA (pe_op op_catA (pe_slice sl_tupA (pv 1) po_none (po_some (pv 2))) (pe_tup (pa_cons (pe_cl ih hr hg rfl (pa_cons (pv 0) (pa_cons (pe_ix ix_tup (pv 1) (pv 2) (fun _ _ => rfl)) pa_nil)) (by omega)) pa_nil))) (pe_slice sl_tupA (pv 1) (po_some (pe_op op_add (pv 2) pe_int)) po_none))))) pss_nil) ht2), ?_⟩
    refine ⟨_, rfl, _, v, d, rfl, hd, _, rfl, ?_⟩
    rcases tup_or d with ht | ⟨ds, rfl⟩
    · rw [ht]
      exact iteF (iteF (r2 H (.refl hW)))
    obtain ⟨a, xs, rfl, e, all⟩ := tup_at hd
    refine iteT ?_
    refine ⟨_, rfl, _, hW.fresh, fun v1 H1 s1 dv1 => ?_⟩
    obtain ⟨b, ys, rfl, e1, all1⟩ := tup_at dv1
    cases all1
    have a1 : After p H H1 := .of hW s1
    refine ⟨a, b, xs, rfl, rfl, s1 _ _ e, e1, ?_⟩
    refine ⟨_, rfl, ?_⟩
    refine tst (fun c => ?_) (fun c => iteF (r2 H1 a1))
    refine ⟨_, rfl, p, 4, rfl, a1.well, by decide, by decide, fun k H2 k0 k1 a2 => ?_⟩
    refine ⟨_, _, rfl, rfl, _, rfl, ?_⟩
    refine tst (fun c2 => ?_) (fun c2 => r2 H2 (a1.trans a2))
    have a12 := a1.trans a2
    have l0 := all.length
    have hlen := hwt' ds rfl
    have ne : xs ≠ [] := by
      intro z
      rw [z] at c
      cases c
    have lpos : 0 < xs.length := List.length_pos_iff.mpr ne
    have e2 : H2 a = some (.tup xs) := a12.sx.tp _ _ e
    refine ⟨_, rfl, _, rfl, a, xs, rfl, .inr (.of e2), ?_⟩
    refine ⟨p, _, rfl, a12.well, by omega, by omega, fun k H3 k0 k1 a3 => ?_⟩
    have a13 := a12.trans a3
    have hd3 := hd.up a13.sx
    obtain ⟨kn, rfl⟩ := Int.eq_ofNat_of_zero_le k0
    have kl : kn < ds.length := by omega
    obtain ⟨y, hy, dy⟩ := all.get (List.getElem?_eq_getElem kl)
    have my : ds[kn] ∈ ds := List.getElem_mem kl
    have wds : wt (.tuple ds) = wtAll ds + 2000 := rfl
    have fds := fineAll_iff.mp (show fineAll B ds from hf)
    have dds : (PyData.tuple ds).depth = PyData.depthAll ds + 1 := by simp only [PyData.depth]
    have dds2 := depthAll_iff.mp (Nat.le_refl (PyData.depthAll ds))
    have wh := wtAll_hole (List.getElem?_eq_getElem kl)
    have dk := dds2 _ my
    generalize hdd : ds[kn] = dd at *
    refine ⟨_, rfl, _, rfl, _, rfl, ?_⟩
    delta tNoPart
    refine dv_cut hd3 fun v4 H4 s4 d4 => ?_
    rw [cutD_to (by omega)] at d4
    have a14 := a13.keep s4
    refine ⟨_, rfl, _, rfl, _, rfl, a, xs, _, y, rfl, rfl, .of (a14.sx.tp _ _ e), at_of rfl hy, ?_⟩
    refine ⟨p, y, dd, B, rfl, a14.well, dy.up a14.sx, fds _ my, hB0, hB1, by omega, by omega, fun d' u H5 bo a5 du => ?_⟩
    have a15 := a14.trans a5
    obtain ⟨b1, b2, b3⟩ := bo
    refine ⟨short1, fun t ht => ?_⟩
    have s6 : Same H5 (upd H5 t (.tup [u])) := same_new ht _
    have d6 : Dv (wellN p) (upd H5 t (.tup [u])) (.ref t) (.tuple [d']) := .tup upd_same (.cons (du.same s6) .nil)
    generalize upd H5 t (.tup [u]) = H6 at s6 d6
    refine dv_cat ((d4.up a5.sx).same s6) d6 (by rw [List.length_take]; show _ + 1 ≤ _; omega) fun v7 H7 s7 d7 => ?_
    have s67 := s6.trans s7
    refine ⟨_, rfl, _, rfl, _, _, rfl, rfl, _, rfl, ?_⟩
    refine dv_cut (hd3.up (((After.of a13.well s4).trans a5).keep s67).sx) fun v8 H8 s8 d8 => ?_
    have ck : cutD ds (some ((kn : Int) + 1)) none = ds.drop (kn + 1) := cutD_from (k := kn + 1) (by omega)
    rw [ck] at d8
    refine dv_cat (d7.same s8) d8 (by rw [List.length_append, List.length_take, List.length_drop]; show _ + 1 + _ ≤ _; omega) fun v9 H9 s9 d9 => ?_
    have mem : ∀ d ∈ ds.take kn ++ [d'] ++ ds.drop (kn + 1), d ∈ ds ∨ d = d' := fun d m => by
      rcases List.mem_append.mp m with m | m
      · rcases List.mem_append.mp m with m | m
        · exact .inl (List.mem_of_mem_take m)
        · exact .inr (List.mem_singleton.mp m)
      · exact .inl (List.mem_of_mem_drop m)
    refine q _ _ _ ⟨?_, ?_, ?_⟩ (a15.keep ((s67.trans s8).trans s9)) d9
    · refine (fineAll_iff.mpr fun d m => ?_ : fineAll (B + 1) _)
      rcases mem d m with m | rfl
      · exact fine_mono (by omega) _ (fds d m)
      · exact b1
    · show wtAll _ + 2000 ≤ _
      rw [wtAll_app, wtAll_app]
      have : wtAll [d'] = wt d' + 2 + 0 := rfl
      omega
    · show (PyData.tuple _).depth ≤ _
      have z : PyData.depthAll (ds.take kn ++ [d'] ++ ds.drop (kn + 1)) ≤ PyData.depthAll ds + 4 := depthAll_iff.mpr fun d m => by
        rcases mem d m with m | rfl
        · have := dds2 d m
          omega
        · omega
      have : (PyData.tuple (ds.take kn ++ [d'] ++ ds.drop (kn + 1))).depth = PyData.depthAll (ds.take kn ++ [d'] ++ ds.drop (kn + 1)) + 1 := by simp only [PyData.depth]
      omega
end
end My

namespace My
open PySem L2 Lw
local macro_rules | `(tactic| walk_at "side") => `(tactic| first | decide | omega | (exact .inl ⟨by decide, by decide⟩) | (exact .inr ⟨by decide, by decide⟩) | (exact .inl ⟨by omega, by omega⟩) | (exact .inr ⟨by omega, by omega⟩) | (exact ⟨by decide, by decide⟩) | (exact ⟨by omega, by omega⟩))
local macro_rules | `(tactic| walk_at "go1") => `(tactic| first
  | (refine ⟨_, _, rfl, rfl, ?_⟩)
  | (refine ⟨_, rfl, ?_⟩)
  | (refine And.intro (by walk_at "side") ?_)
  | (refine .inl ⟨_, rfl, ?_⟩)
  | (refine iteT ?_) | (refine iteF ?_))
local macro_rules | `(tactic| walk_at "go") => `(tactic| repeat (walk_at "go1"))
-- opt: omega
-- opt: raise
section
variable {P : Program} {w : World} {K : PySem.W.Frag} {mg : Str → Option Value} {base : Heap}
theorem c_l_spoilt (T : Top K mg) (n : Nat) : Cl CX0 P w K mg base (4 + n + 1) "_law_spoilt" (spBent n) := by
  refine T.d_l_spoilt.cal (k := 4 + n) sc_l_spoilt (fun vs H Q E h => ?_) (fun f cdv A outer s H vs Q E hr hg h => ?_)
  · obtain ⟨p, v, d, B, rfl, _⟩ := h
    rfl
  obtain ⟨p, v, d, B, rfl, hW, hd, hf, hB0, hB1, hwt, hdep, q⟩ := h
  refine ⟨_, (pss_cons (ps_set (i := 2) sc_l_spoilt.nd rfl (Or.inl rfl) (pe_cl (c_l_draw T) hr hg rfl (pa_cons (pv 0) (pa_cons pe_int pa_nil)) (by omega))) (pss_cons (ps_if (pt_cmpR op_lt (pv 2) pe_int (nomark _)) (pss_one (ps_ret (pv 1))) pss_nil) (pss_one (ps_ret (pe_ifExp (pt_cmpR op_lt (pv 2) pe_int (nomark _)) (pe_cl (c_l_bent T n) hr hg rfl (pa_cons (pv 0) (pa_cons (pv 1) pa_nil)) (by omega)) (pe_cl (c_l_odd T) hr hg rfl (pa_cons (pv 0) pa_nil) (by omega))))))), ?_⟩
  refine ⟨_, rfl, p, 12, rfl, hW, by decide, by decide, fun k H1 k0 k1 a1 => ?_⟩
  have hd1 := hd.up a1.sx
  refine ⟨_, rfl, _, _, rfl, rfl, _, rfl, ?_⟩
  refine tst (fun c => ?_) (fun c => ?_)
  · exact ⟨_, rfl, q d v H1 ⟨fine_mono (by omega) _ hf, by omega, by omega⟩ a1 hd1⟩
  refine ⟨_, rfl, _, _, rfl, rfl, _, rfl, ?_⟩
  refine tst (fun c => ?_) (fun c => ?_)
  · exact ⟨_, rfl, _, rfl, p, v, d, B, rfl, a1.well, hd1, hf, hB0, hB1, hwt, hdep, fun d' u H2 b a2 du => q d' u H2 b (a1.trans a2) du⟩
  · refine ⟨_, rfl, p, rfl, a1.well, fun d' u H2 fit a2 du => ?_⟩
    have f1 := fit.w
    have f2 := fit.d
    exact q d' u H2 ⟨fine_mono (by omega) _ fit.f, by omega, by omega⟩ (a1.trans a2) du
/-! ### the program's own forms -/
theorem c_p_reduced (T : Top K mg) : Cl CX0 P w K mg base 1 "reduced" spRed := by
  refine T.d_p_reduced.cal sc_p_reduced (fun vs H Q E h => ?_) (fun f cdv A outer s H vs Q E hr hg h => ?_)
  · obtain ⟨a, b, rfl, _⟩ := h
    rfl
  obtain ⟨a, b, rfl, hb, hz, q⟩ := h
  have n0 := gz_ne (a := a) hb
  have n1 : (gz a b).natAbs < 2 ^ 9000 := gz_lt hb (Nat.lt_of_lt_of_le hz (Nat.pow_le_pow_right (by decide) (by decide)))
  refine ⟨_, (pss_cons (ps_set (i := 2) sc_p_reduced.nd rfl (Or.inl rfl) (pe_callBfun cr_gcd rfl T.g_gcd (pa_cons (pv 0) (pa_cons (pv 1) pa_nil)))) (pss_cons (ps_if (pt_cmpR op_lt (pv 1) pe_int (nomark _)) (pss_one (ps_set (i := 2) sc_p_reduced.nd rfl (Or.inl rfl) (pe_un un_neg (pv 2)))) pss_nil) (pss_one (ps_ret (pe_tup (pa_cons (pe_op op_fdivZ (pv 0) (pv 2)) (pa_cons (pe_op op_fdivZ (pv 1) (pv 2)) pa_nil))))))), ?_⟩
  refine ⟨_, rfl, _, rfl, a, b, rfl, ?_⟩
  refine ⟨_, rfl, _, _, rfl, rfl, _, rfl, ?_⟩
  have eg : ((Nat.gcd a.natAbs b.natAbs : Nat) : Int) = gcdI a b := rfl
  rw [eg]
  refine tst (fun c => ?_) (fun c => ?_)
  · have c' : b < 0 := by simpa using c
    have e : - gcdI a b = gz a b := by
      unfold gz
      rw [if_pos c']
    have q2 : ∀ p, H p = none → Q (.ref p) (upd H p (.tup [.int (a.fdiv (-gcdI a b)), .int (b.fdiv (-gcdI a b))])) := by
      rw [e]
      exact q
    rw [← e] at n0 n1
    exact ⟨_, rfl, _, rfl, _, rfl, _, rfl, _, _, rfl, rfl, ⟨n0, n1⟩, _, rfl, _, rfl, _, _, rfl, rfl, ⟨n0, n1⟩, short2, q2⟩
  · have c' : ¬ b < 0 := by simpa using c
    have e : gcdI a b = gz a b := by
      unfold gz
      rw [if_neg c']
    rw [e]
    exact ⟨_, rfl, _, rfl, _, _, rfl, rfl, ⟨n0, n1⟩, _, rfl, _, rfl, _, _, rfl, rfl, ⟨n0, n1⟩, short2, q⟩
theorem gcd3 {d a b : Int} (hd : d ≠ 0) (z : d.natAbs < 2 ^ 4000) : gcdI (gcdI (d * d) a) b ≠ 0 ∧ (gcdI (gcdI (d * d) a) b).natAbs < 2 ^ 9000 := by
  have dd : d * d ≠ 0 := Int.mul_ne_zero hd hd
  have sw : ∀ x y : Int, gcdI x y = gcdI y x := fun x y => by
    unfold gcdI
    rw [Nat.gcd_comm]
  have p1 : 0 < gcdI (d * d) a := by
    rw [sw]
    exact gcd_pos dd
  have p2 : 0 < gcdI (gcdI (d * d) a) b := by
    rw [sw]
    exact gcd_pos (by omega)
  have l1 : (gcdI (d * d) a).natAbs ≤ (d * d).natAbs := by
    rw [sw]
    exact gcd_le dd
  have l2 : (gcdI (gcdI (d * d) a) b).natAbs ≤ (gcdI (d * d) a).natAbs := by
    rw [sw (gcdI (d * d) a) b]
    exact gcd_le (by omega)
  exact ⟨by omega, Nat.lt_of_le_of_lt (Nat.le_trans l2 l1) (two_le (mul_lt z z) (by decide))⟩
theorem fdiv_le {x g : Int} (hg : 0 < g) {m : Nat} (h : x.natAbs < 2 ^ m) : (x.fdiv g).natAbs < 2 ^ m := by
  rw [Int.fdiv_eq_ediv_of_nonneg _ (by omega)]
  exact Nat.lt_of_le_of_lt (Int.natAbs_ediv_le_natAbs x g) h
theorem gcd_pos3 {d a b : Int} (hd : 0 < d) : 0 < gcdI (gcdI (d * d) a) b := by
  have g := (gcd3 (d := d) (a := a) (b := b))
  have n : gcdI (gcdI (d * d) a) b ≠ 0 := by
    have dd : d * d ≠ 0 := Int.mul_ne_zero (by omega) (by omega)
    have sw : ∀ x y : Int, gcdI x y = gcdI y x := fun x y => by
      unfold gcdI
      rw [Nat.gcd_comm]
    have p1 : 0 < gcdI (d * d) a := by
      rw [sw]
      exact gcd_pos dd
    have p2 : 0 < gcdI (gcdI (d * d) a) b := by
      rw [sw]
      exact gcd_pos (by omega)
    omega
  have z : 0 ≤ gcdI (gcdI (d * d) a) b := by
    unfold gcdI
    exact Int.natCast_nonneg _
  omega
/-- a + b root r over d, as the program forms it: b zero, or r no square -/
def spNumOf : Sp := fun vs H Q _ => ∃ a b r d : Int, vs = [.int a, .int b, .int r, .int d] ∧ (a.natAbs < 2 ^ 4000 ∧ b.natAbs < 2 ^ 4000 ∧ r.natAbs < 2 ^ 4000 ∧ d.natAbs < 2 ^ 4000) ∧ d ≠ 0 ∧ (b ≠ 0 → isSqB r = false) ∧
  ∀ v H', Same H H' → (∀ N, Dv N H' v (formD a b r d)) → Q v H'
theorem c_p_number_of (T : Top K mg) : Cl CX0 P w K mg base 2 "number_of" spNumOf := by
  refine T.d_p_number_of.cal sc_p_number_of (fun vs H Q E h => ?_) (fun f cdv A outer s H vs Q E hr hg h => ?_)
  · obtain ⟨a, b, r, d, rfl, _⟩ := h
    rfl
  obtain ⟨a, b, r, d, rfl, ⟨z1, z2, z3, z4⟩, hd, hsq, q⟩ := h
  refine ⟨_, (pss_cons (ps_if (pt_cmpR op_eq (pv 1) pe_int (nomark _)) (pss_one (ps_ret (pe_cl (c_p_reduced T) hr hg rfl (pa_cons (pv 0) (pa_cons (pv 3) pa_nil)) (by omega)))) pss_nil) (pss_cons (ps_par3 (i := 4) (j := 5) (l := 6) rfl sc_p_number_of.nd rfl rfl rfl (by decide) (by decide) (by decide) rfl rfl rfl (pa_cons (pe_op op_mulX (pv 3) (pv 3)) (pa_cons (pe_op op_mulX (pe_op op_mul (pe_un un_neg pe_int) (pv 0)) (pv 3)) (pa_cons (pe_op op_sub (pe_op op_mulX (pv 0) (pv 0)) (pe_op op_mulX (pe_op op_mulX (pv 1) (pv 1)) (pv 2))) pa_nil))) rfl) (pss_cons (ps_set (i := 7) sc_p_number_of.nd rfl (Or.inl rfl) (pe_callBfun cr_gcd rfl T.g_gcd (pa_cons (pe_callBfun cr_gcd rfl T.g_gcd (pa_cons (pv 4) (pa_cons (pv 5) pa_nil))) (pa_cons (pv 6) pa_nil)))) (pss_one (ps_ret (pe_tup (pa_cons (pe_op op_fdivZ (pv 4) (pv 7)) (pa_cons (pe_op op_fdivZ (pv 5) (pv 7)) (pa_cons (pe_op op_fdivZ (pv 6) (pv 7)) (pa_cons (pe_cmpR op_gt (pv 1) pe_int (nomark _)) pa_nil)))))))))), ?_⟩
  refine ⟨_, rfl, rfl, _, rfl, ?_⟩
  refine tst (fun c => ?_) (fun c => ?_)
  · have b0 : b = 0 := by simpa using c
    subst b0
    refine ⟨_, rfl, _, rfl, _, _, rfl, hd, two_le z4 (by decide), fun p hp => ?_⟩
    refine q _ _ (same_new hp _) fun N => ?_
    unfold formD
    rw [if_pos (.inl rfl), Int.zero_mul, Int.add_zero]
    exact dv_frac upd_same
  have hb : b ≠ 0 := by simpa using c
  have nsq := hsq hb
  have cn : ¬ (b = 0 ∨ isSqB r = true) := fun z => z.elim hb fun z => by
    rw [nsq] at z
    cases z
  unfold formD at q
  rw [if_neg cn] at q
  have w1 := mul_lt z4 z4
  have w2 : (-2 * a : Int).natAbs < 2 ^ (2 + 4000) := mul_lt (by decide) z1
  have w3 := mul_lt w2 z4
  have w5 := mul_lt z2 z2
  have e2 : (0 - 2 * a * d : Int) = -2 * a * d := by grind
  rw [e2] at q
  obtain ⟨g0, g1⟩ := gcd3 (a := -2 * a * d) (b := a * a - b * b * r) hd z4
  refine ⟨_, rfl, _, rfl, _, _, rfl, rfl, mulx_ok z4 z4 (by decide), ?_⟩
  refine ⟨_, rfl, _, rfl, _, _, rfl, rfl, .inl ⟨by decide, by decide⟩, _, rfl, _, _, rfl, rfl, mulx_ok w2 z4 (by decide), ?_⟩
  refine ⟨_, rfl, _, rfl, _, _, rfl, rfl, mulx_ok z1 z1 (by decide), _, rfl, _, rfl, _, _, rfl, rfl, mulx_ok z2 z2 (by decide), _, rfl, _, _, rfl, rfl, mulx_ok w5 z3 (by decide), _, _, rfl, rfl, ?_⟩
  refine ⟨_, _, _, rfl, ?_⟩
  refine ⟨_, rfl, _, rfl, _, _, rfl, _, rfl, _, _, rfl, ?_⟩
  refine ⟨_, rfl, _, rfl, _, _, rfl, rfl, ⟨g0, g1⟩, _, rfl, _, rfl, _, _, rfl, rfl, ⟨g0, g1⟩, _, rfl, _, rfl, _, _, rfl, rfl, ⟨g0, g1⟩, _, rfl, _, _, rfl, rfl, short4, fun p hp => ?_⟩
  exact q _ _ (same_new hp _) fun N => .tup upd_same (.cons (.int _) (.cons (.int _) (.cons (.int _) (.cons (.bl _) .nil))))
/-- the root of a fraction from 0 on -/
def spSqrt : Sp := fun vs H Q _ => ∃ (t : Addr) (x y : Int), vs = [.ref t] ∧ H t = some (.tup [.int x, .int y]) ∧ (x.natAbs < 2 ^ 490 ∧ y.natAbs < 2 ^ 490) ∧ 0 ≤ x ∧ 0 < y ∧
  ∀ v H', Same H H' → (∀ N, Dv N H' v (formD 0 1 (x * y) y)) → Q v H'
theorem c_p_square_root (T : Top K mg) : Cl CX0 P w K mg base 3 "square_root" spSqrt := by
  refine T.d_p_square_root.cal sc_p_square_root (fun vs H Q E h => ?_) (fun f cdv A outer s H vs Q E hr hg h => ?_)
  · obtain ⟨t, x, y, rfl, _⟩ := h
    rfl
  obtain ⟨t, x, y, rfl, ht, ⟨z1, z2⟩, x0, y0, q⟩ := h
  have z3 := mul_lt z1 z2
  have n0 : 0 ≤ x * y := Int.mul_nonneg x0 (by omega)
  refine ⟨_, (pss_cons (ps_asg (pv 0) (pg_tup rfl (pgs_cons (pg_name (i := 1) sc_p_square_root.nd rfl (Or.inl rfl)) (pgs_cons (pg_name (i := 2) sc_p_square_root.nd rfl (Or.inl rfl)) pgs_nil)))) (pss_cons (ps_if (pt_val (pe_cl (c_p_is_square T) hr hg rfl (pa_cons (pe_op op_mulX (pv 1) (pv 2)) pa_nil) (by omega))) (pss_one (ps_ret (pe_cl (c_p_reduced T) hr hg rfl (pa_cons (pe_callBfun cr_isqrt rfl T.g_isqrt (pa_cons (pe_op op_mulX (pv 1) (pv 2)) pa_nil)) (pa_cons (pv 2) pa_nil)) (by omega)))) pss_nil) (pss_one (ps_ret (pe_cl (c_p_number_of T) hr hg rfl (pa_cons pe_int (pa_cons pe_int (pa_cons (pe_op op_mulX (pv 1) (pv 2)) (pa_cons (pv 2) pa_nil)))) (by omega)))))), ?_⟩
  refine ⟨_, rfl, t, _, rfl, .of ht, rfl, _, _, rfl, _, _, rfl, rfl, ?_⟩
  refine ⟨_, rfl, _, rfl, _, _, rfl, rfl, mulx_ok z1 z2 (by decide), _, rfl, n0, two_le z3 (by decide), _, rfl, ?_⟩
  refine tst (fun c => ?_) (fun c => ?_)
  · refine ⟨_, rfl, _, rfl, _, _, rfl, rfl, mulx_ok z1 z2 (by decide), _, rfl, n0, two_le z3 (by decide), ?_⟩
    refine ⟨_, rfl, _, _, rfl, by omega, two_le z2 (by decide), fun p hp => ?_⟩
    refine q _ _ (same_new hp _) fun N => ?_
    unfold formD
    rw [if_pos (.inr c), Int.one_mul, Int.zero_add]
    exact dv_frac upd_same
  · refine ⟨_, rfl, _, rfl, _, _, rfl, rfl, mulx_ok z1 z2 (by decide), ?_⟩
    refine ⟨_, rfl, _, _, _, _, rfl, ⟨by decide, by decide, two_le z3 (by decide), two_le z2 (by decide)⟩, by omega, fun _ => c, q⟩
end
end My

namespace My
open PySem L2 Lw
local macro_rules | `(tactic| walk_at "side") => `(tactic| first | decide | omega | (exact .inl ⟨by decide, by decide⟩) | (exact .inr ⟨by decide, by decide⟩) | (exact .inl ⟨by omega, by omega⟩) | (exact .inr ⟨by omega, by omega⟩) | (exact ⟨by decide, by decide⟩) | (exact ⟨by omega, by omega⟩))
local macro_rules | `(tactic| walk_at "go1") => `(tactic| first
  | (refine ⟨_, _, rfl, rfl, ?_⟩)
  | (refine ⟨_, rfl, ?_⟩)
  | (refine And.intro (by walk_at "side") ?_)
  | (refine .inl ⟨_, rfl, ?_⟩)
  | (refine iteT ?_) | (refine iteF ?_))
local macro_rules | `(tactic| walk_at "go") => `(tactic| repeat (walk_at "go1"))
-- opt: omega
-- opt: raise
section
variable {P : Program} {w : World} {K : PySem.W.Frag} {mg : Str → Option Value} {base : Heap}
/-- a fraction in its one form passes -/
theorem c_p_check_fraction (T : Top K mg) : Cl CX0 P w K mg base 3 "check_fraction" (fun vs H Q _ => ∃ (N : Ban) (v : V) (d : PyData), vs = [v] ∧ Dv N H v d ∧ fine 1000 d ∧ isFrB d = true ∧ Q .non H) := by
  refine T.d_p_check_fraction.cal sc_p_check_fraction (fun vs H Q E h => ?_) (fun f cdv A outer s H vs Q E hr hg h => ?_)
  · obtain ⟨N, v, d, rfl, _⟩ := h
    rfl
  obtain ⟨N, v, d, rfl, hd, hf, hfr, q⟩ := h
  refine ⟨_, (pss_one (ps_if (pt_not (pt_val (pe_cl (c_p_is_fraction T) hr hg rfl (pa_cons (pv 0) pa_nil) (by omega)))) (pss_one ps_never) pss_nil)), ?_⟩
  refine ⟨_, rfl, N, v, d, rfl, hd, hf, ?_⟩
  rw [hfr]
  exact ⟨_, rfl, q⟩
/-- the root of a fraction in its one form, E: it is below 0 -/
def spRootOf : Sp := fun vs H Q E => ∃ (t : Addr) (x y : Int), vs = [.ref t] ∧ H t = some (.tup [.int x, .int y]) ∧ (x.natAbs < 2 ^ 490 ∧ y.natAbs < 2 ^ 490) ∧ IsFr x y ∧
  (0 ≤ x → ∀ v H', Same H H' → (∀ N, Dv N H' v (formD 0 1 (x * y) y)) → Q v H') ∧
  (x < 0 → ∀ C d H', (∃ fI fd, Ec K mg "InvalidFraction" "given" s_iInvalidFraction C fI fd) → Same H H' → H' d = some (.xd [("given", .ref t)]) → E (.ref C) (some d) H')
theorem c_p_root_of (T : Top K mg) : Cl (L2.CX P w) P w K mg base 4 "root_of" (spRootOf (K := K) (mg := mg)) := by
  obtain ⟨C, fI, fd, ec_InvalidFraction⟩ := T.e_InvalidFraction
  refine T.d_p_root_of.call sc_p_root_of (fun vs H Q E h => ?_) (fun f cdv A outer s H vs Q E hr hg h => ?_)
  · obtain ⟨t, x, y, rfl, _⟩ := h
    rfl
  obtain ⟨t, x, y, rfl, ht, ⟨z1, z2⟩, fr, q, qe⟩ := h
  have dv : Dv sysB H (.ref t) (.tuple [.int x, .int y]) := dv_frac ht
  refine ⟨_, (pss_cons (ps_expr (pe_cl (c_p_check_fraction T) hr hg rfl (pa_cons (pv 0) pa_nil) (by omega))) (pss_cons (ps_if (pt_cmpR op_lt (pe_ix ix_tup (pv 0) pe_int (fun _ _ => rfl)) pe_int (nomark _)) (pss_one (ps_raise rfl (takes_of rfl rfl rfl rfl) (pmk1 ec_InvalidFraction (i_InvalidFraction ec_InvalidFraction) hr rfl (pa_cons (pv 0) pa_nil) (by omega)))) pss_nil) (pss_one (ps_ret (pe_cl (c_p_square_root T) hr hg rfl (pa_cons (pv 0) pa_nil) (by omega)))))), ?_⟩
  refine ⟨_, rfl, sysB, _, _, rfl, dv, ⟨two_le z1 (by decide), two_le z2 (by decide), trivial⟩, by
    show (decide (0 < y) && decide (gcdI x y = 1)) = true
    rw [decide_eq_true fr.1, decide_eq_true fr.2] <;> rfl, ?_⟩
  refine ⟨_, rfl, t, _, _, _, rfl, rfl, .of ht, rfl, _, _, rfl, rfl, _, rfl, ?_⟩
  refine tst (fun c => ?_) (fun c => ?_)
  · have c' : x < 0 := by simpa using c
    exact ⟨_, rfl, _, rfl, fun d H' s1 _ hd => qe c' C d H' ⟨fI, fd, ec_InvalidFraction⟩ s1 hd⟩
  · have c' : 0 ≤ x := by
      have : ¬ x < 0 := by simpa using c
      omega
    exact ⟨_, rfl, t, x, y, rfl, ht, ⟨z1, z2⟩, c', fr.1, q c'⟩
/-- what is told of a fraction -/
def toldD (x y : Int) : PyData := if x < 0 then .list [.str "fraction", .tuple [.int x, .int y]] else .list [.str "let", formD 0 1 (x * y) y]
def spTold : Sp := fun vs H Q _ => ∃ (t : Addr) (x y : Int), vs = [.ref t] ∧ H t = some (.tup [.int x, .int y]) ∧ (x.natAbs < 2 ^ 490 ∧ y.natAbs < 2 ^ 490) ∧ IsFr x y ∧
  ∀ v H', Same H H' → Dv sysB H' v (toldD x y) → Q v H'
theorem c_l_told (T : Top K mg) : Cl CX0 P w K mg base 5 "_law_told" spTold := by
  obtain ⟨C, fI, fd, ec_InvalidFraction⟩ := T.e_InvalidFraction
  refine T.d_l_told.cal sc_l_told (fun vs H Q E h => ?_) (fun f cdv A outer s H vs Q E hr hg h => ?_)
  · obtain ⟨t, x, y, rfl, _⟩ := h
    rfl
  obtain ⟨t, x, y, rfl, ht, hz, fr, q⟩ := h
  refine ⟨_, (pss_cons (ps_try_as (i := 2) rfl rfl sc_l_told.nd rfl rfl ⟨rfl, by decide, .inl ec_InvalidFraction.gC⟩ takes0 (fun W pn xe tk _ => (pss_one (ps_set (i := 1) sc_l_told.nd rfl (Or.inl rfl) (pe_list (pa_cons pe_str (pa_cons (pe_clE (c_p_root_of T) hr hg (fun σ => passAt tk σ) rfl (pa_cons (pv 0) pa_nil) (by omega)) pa_nil)))))) (fun a oe cls d pn hz hf => (pss_one (ps_set (i := 1) sc_l_told.nd rfl (Or.inl rfl) (pe_list (pa_cons pe_str (pa_cons (pe_xf ec_InvalidFraction.xf ec_InvalidFraction.no hz hf (pv 2)) pa_nil))))))) (pss_one (ps_ret (pv 1)))), ?_⟩
  unfold toldD at q
  refine ⟨_, rfl, t, x, y, rfl, ht, hz, fr, fun c v H1 s1 dv => ?_, fun c C' d H1 hc s1 hd => ?_⟩
  · rw [if_neg (by omega)] at q
    refine ⟨short2, fun l hl nl => ?_⟩
    have s3 := same_new hl (.lst [.str "let", v])
    exact ⟨_, rfl, q _ _ (s1.trans s3) (.lst nl upd_same (.cons (.str _) (.cons ((dv _).same s3) .nil)))⟩
  · obtain ⟨fI', fd', ec'⟩ := hc
    have e := ec'.gC.symm.trans ec_InvalidFraction.gC
    cases e
    rw [if_pos c] at q
    refine ⟨true, ec'.te, fun _ a ha => ?_, fun z => Bool.noConfusion z⟩
    refine ⟨_, rfl, rfl, rfl, d, _, .ref t, rfl, hd, rfl, short2, fun l hl nl => ?_⟩
    have s3 := same_new hl (.lst [.str "fraction", .ref t])
    exact ⟨_, rfl, q _ _ (s1.trans s3) (.lst nl upd_same (.cons (.str _) (.cons (dv_frac (s3 _ _ (s1 _ _ ht))) .nil)))⟩
theorem c_l_due (T : Top K mg) : Cl CX0 P w K mg base 4 "_law_due" spTold := by
  refine T.d_l_due.cal sc_l_due (fun vs H Q E h => ?_) (fun f cdv A outer s H vs Q E hr hg h => ?_)
  · obtain ⟨t, x, y, rfl, _⟩ := h
    rfl
  obtain ⟨t, x, y, rfl, ht, ⟨z1, z2⟩, fr, q⟩ := h
  refine ⟨_, (pss_cons (ps_if (pt_cmpR op_lt (pe_ix ix_tup (pv 0) pe_int (fun _ _ => rfl)) pe_int (nomark _)) (pss_one (ps_ret (pe_list (pa_cons pe_str (pa_cons (pv 0) pa_nil))))) pss_nil) (pss_one (ps_ret (pe_list (pa_cons pe_str (pa_cons (pe_cl (c_l_formed T) hr hg rfl (pa_cons (pe_tup (pa_cons pe_int (pa_cons pe_int (pa_cons (pe_op op_mulX (pe_ix ix_tup (pv 0) pe_int (fun _ _ => rfl)) (pe_ix ix_tup (pv 0) pe_int (fun _ _ => rfl))) (pa_cons (pe_ix ix_tup (pv 0) pe_int (fun _ _ => rfl)) pa_nil))))) pa_nil) (by omega)) pa_nil)))))), ?_⟩
  refine ⟨_, rfl, t, _, _, _, rfl, rfl, .of ht, rfl, _, _, rfl, rfl, _, rfl, ?_⟩
  unfold toldD at q
  refine tst (fun c => ?_) (fun c => ?_)
  · have c' : x < 0 := by simpa using c
    rw [if_pos c'] at q
    refine ⟨_, rfl, short2, fun l hl nl => ?_⟩
    have s1 := same_new hl (.lst [.str "fraction", .ref t])
    exact q _ _ s1 (.lst nl upd_same (.cons (.str _) (.cons (dv_frac (s1 _ _ ht)) .nil)))
  · have c' : ¬ x < 0 := by simpa using c
    rw [if_neg c'] at q
    have z3 := mul_lt z1 z2
    refine ⟨_, rfl, t, _, _, _, rfl, rfl, .of ht, rfl, _, rfl, t, _, _, _, rfl, rfl, .of ht, rfl, _, _, rfl, rfl, mulx_ok z1 z2 (by decide), ?_⟩
    refine ⟨_, rfl, t, _, _, _, rfl, rfl, .of ht, rfl, short4, fun u hu => ?_⟩
    have s1 := same_new hu (.tup [.int 0, .int 1, .int (x * y), .int y])
    have eu : upd H u (.tup [.int 0, .int 1, .int (x * y), .int y]) u = _ := upd_same
    generalize upd H u (.tup [.int 0, .int 1, .int (x * y), .int y]) = H1 at s1 eu
    refine ⟨u, 0, 1, x * y, y, rfl, eu, ⟨by decide, by decide, two_le z3 (by decide), two_le z2 (by decide)⟩, by have := fr.1; omega, fun v H2 s2 dv => ?_⟩
    refine ⟨short2, fun l hl nl => ?_⟩
    have s3 := same_new hl (.lst [.str "let", v])
    exact q _ _ ((s1.trans s2).trans s3) (.lst nl upd_same (.cons (.str _) (.cons ((dv _).same s3) .nil)))
end
end My

namespace My
open PySem L2 Lw
local macro_rules | `(tactic| walk_at "side") => `(tactic| first | decide | omega | (exact .inl ⟨by decide, by decide⟩) | (exact .inr ⟨by decide, by decide⟩) | (exact .inl ⟨by omega, by omega⟩) | (exact .inr ⟨by omega, by omega⟩) | (exact ⟨by decide, by decide⟩) | (exact ⟨by omega, by omega⟩))
local macro_rules | `(tactic| walk_at "go1") => `(tactic| first
  | (refine ⟨_, _, rfl, rfl, ?_⟩)
  | (refine ⟨_, rfl, ?_⟩)
  | (refine And.intro (by walk_at "side") ?_)
  | (refine .inl ⟨_, rfl, ?_⟩)
  | (refine iteT ?_) | (refine iteF ?_))
local macro_rules | `(tactic| walk_at "go") => `(tactic| repeat (walk_at "go1"))
-- opt: omega
section
variable {P : Program} {w : World} {K : PySem.W.Frag} {mg : Str → Option Value} {base : Heap}
theorem form_fit {a b r d : Int} (hd : 0 < d) (za : a.natAbs < 2 ^ 200) (zb : b.natAbs < 2 ^ 200) (zr : r.natAbs < 2 ^ 500) (zd : d.natAbs < 2 ^ 200) : Fit 999 20000 3 (formD a b r d) := by
  unfold formD
  split
  · have zs := isq_small zr
    have m := mul_lt zb zs
    have ad := add_lt (two_le za (show 200 ≤ 700 by decide)) m
    have le := red_le (a := a + b * isq r) hd
    refine ⟨⟨two_le (m := 701) (by omega) (by decide), two_le (m := 200) (by omega) (by decide), trivial⟩, by show 2000 + 2 + (2000 + 2 + 0) + 2000 ≤ _; decide, ?_⟩
    show (PyData.tuple [.int _, .int _]).depth ≤ 3
    simp only [PyData.depth, PyData.depthAll]
    decide
  · have g := gcd_pos3 (a := 0 - 2 * a * d) (b := a * a - b * b * r) hd
    have w1 := mul_lt zd zd
    have w2 : (2 * a : Int).natAbs < 2 ^ (2 + 200) := mul_lt (by decide) za
    have w3 := mul_lt w2 zd
    have w4 := mul_lt za za
    have w5 := mul_lt zb zb
    have w6 := mul_lt w5 zr
    have s1 : (0 - 2 * a * d : Int).natAbs < 2 ^ (402 + 1) := sub_lt (by decide) (two_le w3 (by decide))
    have s2 : (a * a - b * b * r : Int).natAbs < 2 ^ (900 + 1) := sub_lt (two_le w4 (by decide)) (two_le w6 (by decide))
    refine ⟨⟨fdiv_le g (two_le w1 (by decide)), fdiv_le g (two_le s1 (by decide)), fdiv_le g (two_le s2 (by decide)), trivial, trivial⟩, by show 2000 + 2 + (2000 + 2 + (2000 + 2 + (2000 + 2 + 0))) + 2000 ≤ _; decide, ?_⟩
    show (PyData.tuple [.int _, .int _, .int _, .bool _]).depth ≤ 3
    simp only [PyData.depth, PyData.depthAll]
    decide
theorem told_fit {x y : Int} (hy : 0 < y) (zx : x.natAbs < 2 ^ 130) (zy : y.natAbs < 2 ^ 130) : Fit 999 60000 6 (toldD x y) := by
  unfold toldD
  split
  · refine ⟨⟨(by show (reprText _).length ≤ 100; decide +kernel), ⟨two_le zx (by decide), two_le zy (by decide), trivial⟩, trivial⟩, by show 2000 + 2 + ((2000 + 2 + (2000 + 2 + 0) + 2000) + 2 + 0) + 2000 ≤ _; decide, ?_⟩
    simp only [PyData.depth, PyData.depthAll]
    decide
  · have f := form_fit (a := 0) (b := 1) (r := x * y) hy (by decide) (by decide) (two_le (mul_lt zx zy) (by decide)) (two_le zy (by decide))
    have f1 := f.w
    have f2 := f.d
    refine ⟨⟨(by show (reprText _).length ≤ 100; decide +kernel), f.f, trivial⟩, by show 2000 + 2 + (wt _ + 2 + 0) + 2000 ≤ _; omega, ?_⟩
    simp only [PyData.depth, PyData.depthAll]
    omega
/-- the numbers' block: True -/
def spRight : Sp := fun vs H Q _ => ∃ p : Addr, vs = [.ref p] ∧ WellAt H p ∧ ∀ H', After p H H' → Q (.bl true) H'
theorem c_l_right (T : Top K mg) : Cl CX0 P w K mg base 10 "_law_right" spRight := by
  refine T.d_l_right.cal sc_l_right (fun vs H Q E h => ?_) (fun f cdv A outer s H vs Q E hr hg h => ?_)
  · obtain ⟨p, rfl, _⟩ := h
    rfl
  obtain ⟨p, rfl, hW, q⟩ := h
  obtain ⟨tR, hR, rR⟩ : ∃ tR, PSs (cxOf CX0 P w K mg base N_l_right "_law_right" (defScope s_l_right) f cdv A outer s H E).nox ((defBody s_l_right).drop 4) tR ∧ ∀ (x1 x2 x3 : Option V) (t : Addr) (x y : Int) H1, After p H H1 → H1 t = some (.tup [.int x, .int y]) → IsFr x y → x.natAbs < 2 ^ 60 → y.natAbs < 2 ^ 60 →
      tR { nx := fun _ H' => Q .non H', rt := Q } [some (.ref p), x1, x2, x3, some (.ref t), none] H1 := by
    refine ⟨_, (pss_cons (ps_set (i := 5) sc_l_right.nd rfl (Or.inl rfl) (pe_cl (c_l_lean T) hr hg rfl (pa_cons (pe_cl (c_l_draw T) hr hg rfl (pa_cons (pv 0) (pa_cons (pe_op op_pow pe_int pe_int) pa_nil)) (by omega)) (pa_cons (pe_op op_add pe_int (pe_cl (c_l_draw T) hr hg rfl (pa_cons (pv 0) (pa_cons (pe_op op_pow pe_int pe_int) pa_nil)) (by omega))) pa_nil)) (by omega))) (pss_cons (ps_set (i := 2) sc_l_right.nd rfl (Or.inl rfl) (pe_list (pa_cons (pv 4) (pa_cons (pe_cl (c_l_neg T) hr hg rfl (pa_cons (pv 4) pa_nil) (by omega)) (pa_cons (pe_cl (c_l_mul T) hr hg rfl (pa_cons (pv 4) (pa_cons (pv 4) pa_nil)) (by omega)) (pa_cons (pv 5) (pa_cons (pe_cl (c_l_mul T) hr hg rfl (pa_cons (pv 5) (pa_cons (pv 5) pa_nil)) (by omega)) pa_nil))))))) (pss_one (ps_ret (pe_callB (cr_all rfl) rfl T.z_all (by decide +kernel) (pa_cons (pe_lc (own := [("_law_each", 3)]) (g := gName 3) rfl sc_l_right.nd (pi_list (pv 2)) (blkOk_by (own := [("_law_each", 3)]) (N := N_l_right) (sc := defScope s_l_right) (by decide +kernel)) (fun _ _ _ _ _ => pg_name (i := 3) sc_l_right.nd rfl (Or.inl rfl)) (fun _ _ _ _ _ => pts_nil) (fun _ _ _ _ _ => (pe_cmpR op_eq (pe_callB (call_repr hr hg) rfl T.z_repr (by decide +kernel) (pa_cons (pe_cl (c_l_told T) hr hg rfl (pa_cons (pv 3) pa_nil) (by omega)) pa_nil)) (pe_callB (call_repr hr hg) rfl T.z_repr (by decide +kernel) (pa_cons (pe_cl (c_l_due T) hr hg rfl (pa_cons (pv 3) pa_nil) (by omega)) pa_nil)) (nomark _)))) pa_nil)))))), fun x1 x2 x3 t x y H1 a1 ht fr zx zy => ?_⟩
    refine ⟨_, rfl, _, _, rfl, rfl, ⟨by decide, by decide, by decide⟩, p, _, rfl, a1.well, by decide, by decide, fun k H2 k0 k1 a2 => ?_⟩
    refine ⟨_, rfl, _, _, rfl, rfl, ⟨by decide, by decide, by decide⟩, p, _, rfl, a2.well, by decide, by decide, fun j H3 j0 j1 a3 => ?_⟩
    rw [show (10 : Int) ^ (9 : Int).toNat = 1000000000 by decide] at k1
    rw [show (10 : Int) ^ (4 : Int).toNat = 10000 by decide] at j1
    refine ⟨_, _, rfl, rfl, _, _, rfl, by omega, two_le (m := 60) (by omega) (by decide), fun u hu => ?_⟩
    have j0' : (0 : Int) < 1 + j := by omega
    have le := red_le (a := k) j0'
    have fu := red_fr (a := k) j0'
    have a4 : After p H _ := ((a1.trans a2).trans a3).keep (same_new hu (.tup [.int (redN k (1 + j)), .int (redD k (1 + j))]))
    have eu : upd H3 u (.tup [.int (redN k (1 + j)), .int (redD k (1 + j))]) u = _ := upd_same
    have et : upd H3 u (.tup [.int (redN k (1 + j)), .int (redD k (1 + j))]) t = _ := same_new hu _ _ _ (a3.sx.tp _ _ (a2.sx.tp _ _ ht))
    have zu : (redN k (1 + j)).natAbs < 2 ^ 60 := Nat.lt_of_le_of_lt le.1 (by omega)
    have zv : (redD k (1 + j)).natAbs < 2 ^ 60 := Nat.lt_of_le_of_lt le.2 (by omega)
    generalize redN k (1 + j) = xu at *
    generalize redD k (1 + j) = yu at *
    generalize upd H3 u (.tup [.int xu, .int yu]) = H4 at *
    have mulfr : ∀ a b : Int, 0 < b → IsFr (redN (a * a) (b * b)) (redD (a * a) (b * b)) := fun a b hb => red_fr (Int.mul_pos hb hb)
    have mullt : ∀ a b : Int, 0 < b → a.natAbs < 2 ^ 60 → b.natAbs < 2 ^ 60 → (redN (a * a) (b * b)).natAbs < 2 ^ 130 ∧ (redD (a * a) (b * b)).natAbs < 2 ^ 130 := fun a b hb h1 h2 => by
      have l := red_le (a := a * a) (Int.mul_pos hb hb)
      have m1 := two_le (mul_lt h1 h1) (show 60 + 60 ≤ 130 by decide)
      have m2 := two_le (mul_lt h2 h2) (show 60 + 60 ≤ 130 by decide)
      exact ⟨Nat.lt_of_le_of_lt l.1 m1, Nat.lt_of_le_of_lt l.2 m2⟩
    have y0 := fr.1
    have yu0 := fu.1
    have ty := mulfr x y y0
    have tz := mullt x y y0 zx zy
    have uy := mulfr xu yu yu0
    have uz := mullt xu yu yu0 zu zv
    have big : ∀ {a : Int}, a.natAbs < 2 ^ 60 → a.natAbs < 2 ^ 3000 := fun h => two_le h (by decide)
    refine ⟨_, rfl, _, rfl, t, x, y, rfl, et, fun n hn => ?_⟩
    have s5 := same_new hn (.tup [.int (0 - x), .int y])
    have en : upd H4 n (.tup [.int (0 - x), .int y]) n = _ := upd_same
    generalize upd H4 n (.tup [.int (0 - x), .int y]) = H5 at s5 en
    refine ⟨_, rfl, _, rfl, t, t, x, y, x, y, rfl, s5 _ _ et, s5 _ _ et, ⟨big zx, big zy, big zx, big zy⟩, by omega, by omega, fun m hm => ?_⟩
    have s6 := same_new hm (.tup [.int (redN (x * x) (y * y)), .int (redD (x * x) (y * y))])
    have em : upd H5 m (.tup [.int (redN (x * x) (y * y)), .int (redD (x * x) (y * y))]) m = _ := upd_same
    generalize redN (x * x) (y * y) = xm at *
    generalize redD (x * x) (y * y) = ym at *
    generalize upd H5 m (.tup [.int xm, .int ym]) = H6 at s6 em
    have eu6 := s6 _ _ (s5 _ _ eu)
    refine ⟨_, rfl, _, rfl, _, rfl, u, u, xu, yu, xu, yu, rfl, eu6, eu6, ⟨big zu, big zv, big zu, big zv⟩, by omega, by omega, fun o ho => ?_⟩
    have s7 := same_new ho (.tup [.int (redN (xu * xu) (yu * yu)), .int (redD (xu * xu) (yu * yu))])
    have eo : upd H6 o (.tup [.int (redN (xu * xu) (yu * yu)), .int (redD (xu * xu) (yu * yu))]) o = _ := upd_same
    generalize redN (xu * xu) (yu * yu) = xo at *
    generalize redD (xu * xu) (yu * yu) = yo at *
    generalize upd H6 o (.tup [.int xo, .int yo]) = H7 at s7 eo
    refine ⟨short5, fun l hl nl => ?_⟩
    have s8 := same_new hl (.lst [.ref t, .ref n, .ref m, .ref u, .ref o])
    have el : upd H7 l (.lst [.ref t, .ref n, .ref m, .ref u, .ref o]) l = _ := upd_same
    generalize upd H7 l (.lst [.ref t, .ref n, .ref m, .ref u, .ref o]) = H8 at s8 el
    have s78 := s7.trans s8
    have s68 := s6.trans s78
    have s58 := s5.trans s68
    have small : ∀ {a : Int}, a.natAbs < 2 ^ 60 → a.natAbs < 2 ^ 130 := fun h => two_le h (by decide)
    refine ⟨_, rfl, l, rfl, ⟨_, .of el⟩, fun D hD => lcl_true (K := K) (a := l) el hD (by show 5 ≤ 1000; decide) (fun x H k h => h) (fun x => rfl) ?_ ?_⟩
    · intro v Hx mv sx ⟨ud, hud⟩ R kR
      obtain ⟨tv, xv, yv, rfl, ev, fv, zxv, zyv⟩ : ∃ tv xv yv, v = .ref tv ∧ Hx tv = some (.tup [.int xv, .int yv]) ∧ IsFr xv yv ∧ xv.natAbs < 2 ^ 130 ∧ yv.natAbs < 2 ^ 130 := by
        simp only [List.mem_cons, List.not_mem_nil, or_false] at mv
        rcases mv with rfl | rfl | rfl | rfl | rfl
        · exact ⟨_, _, _, rfl, sx _ _ (s58 _ _ et), fr, small zx, small zy⟩
        · refine ⟨_, _, _, rfl, sx _ _ (s68 _ _ en), ⟨fr.1, ?_⟩, ?_, small zy⟩
          · have g := fr.2
            unfold gcdI at g ⊢
            rw [show (0 - x).natAbs = x.natAbs by omega]
            exact g
          · exact small (by omega)
        · exact ⟨_, _, _, rfl, sx _ _ (s78 _ _ em), ty, tz.1, tz.2⟩
        · exact ⟨_, _, _, rfl, sx _ _ (s58 _ _ eu), fu, small zu, small zv⟩
        · exact ⟨_, _, _, rfl, sx _ _ (s8 _ _ eo), uy, uz.1, uz.2⟩
      have tf := told_fit fv.1 zxv zyv
      have te : Tells sysB (toldD xv yv) := tf.tells (by decide) (by decide) (by decide) rfl
      have z490 : ∀ {a : Int}, a.natAbs < 2 ^ 130 → a.natAbs < 2 ^ 490 := fun h => two_le h (by decide)
      refine ⟨_, rfl, tv, xv, yv, rfl, ev, ⟨z490 zxv, z490 zyv⟩, fv, fun v1 Ha sa dva => ⟨sysB, v1, _, rfl, dva, te, ?_⟩⟩
      refine ⟨_, rfl, tv, xv, yv, rfl, sa _ _ ev, ⟨z490 zxv, z490 zyv⟩, fv, fun v2 Hb sb dvb => ⟨sysB, v2, _, rfl, dvb, te, ?_⟩⟩
      exact rEq_same (kR Hb ((sx.trans sa).trans sb) ((sb _ _ (sa _ _ hud)).trans hud.symm))
    · intro H9 s9 e9
      refine ⟨D, List.replicate 5 true, rfl, .of (by rw [trues_all]; exact e9), ?_⟩
      exact q _ (a4.keep (s58.trans s9))
  refine ⟨_, (pss_cons (ps_set (i := 1) sc_l_right.nd rfl (Or.inl rfl) (pe_cl (c_l_formed T) hr hg rfl (pa_cons (pe_cl (c_l_number T) hr hg rfl (pa_cons (pv 0) pa_nil) (by omega)) pa_nil) (by omega))) (pss_cons (ps_set (i := 2) sc_l_right.nd rfl (Or.inl rfl) (pe_list (pa_cons (pv 1) (pa_cons (pe_cl (c_l_spoilt T 4) hr hg rfl (pa_cons (pv 0) (pa_cons (pv 1) pa_nil)) (by omega)) (pa_cons (pe_cl (c_l_bent T 4) hr hg rfl (pa_cons (pv 0) (pa_cons (pv 1) pa_nil)) (by omega)) (pa_cons (pe_cl (c_l_odd T) hr hg rfl (pa_cons (pv 0) pa_nil) (by omega)) pa_nil)))))) (pss_cons (ps_if (pt_not (pt_val (pe_callB (cr_all rfl) rfl T.z_all (by decide +kernel) (pa_cons (pe_lc (own := [("_law_each", 3)]) (g := gName 3) rfl sc_l_right.nd (pi_list (pv 2)) (blkOk_by (own := [("_law_each", 3)]) (N := N_l_right) (sc := defScope s_l_right) (by decide +kernel)) (fun _ _ _ _ _ => pg_name (i := 3) sc_l_right.nd rfl (Or.inl rfl)) (fun _ _ _ _ _ => pts_nil) (fun _ _ _ _ _ => (pe_cmpR op_eq (pe_callB (call_repr hr hg) rfl T.z_repr (by decide +kernel) (pa_cons (pe_cl (c_p_is_number T) hr hg rfl (pa_cons (pv 3) pa_nil) (by omega)) pa_nil)) (pe_callB (call_repr hr hg) rfl T.z_repr (by decide +kernel) (pa_cons (pe_cl (c_l_is_number T) hr hg rfl (pa_cons (pv 3) pa_nil) (by omega)) pa_nil)) (nomark _)))) pa_nil)))) (pss_one (ps_ret pe_bl)) pss_nil) (pss_cons (ps_set (i := 4) sc_l_right.nd rfl (Or.inl rfl) (pe_ifExp (pt_cmpR op_eq (pe_cl (c_l_draw T) hr hg rfl (pa_cons (pv 0) (pa_cons pe_int pa_nil)) (by omega)) pe_int (nomark _)) (pe_cl (c_l_size T) hr hg rfl (pa_cons (pv 0) pa_nil) (by omega)) (pe_cl (c_l_small T) hr hg rfl (pa_cons (pv 0) pa_nil) (by omega)))) hR)))), ?_⟩
  refine ⟨_, rfl, p, rfl, hW, fun t a b r d H1 a1 ht ⟨za, zb, zr, zd⟩ r0 d0 => ?_⟩
  refine ⟨t, a, b, r, d, rfl, ht, ⟨two_le za (by decide), two_le zb (by decide), two_le zr (by decide), two_le zd (by decide)⟩, by omega, fun v H2 s2 dv => ?_⟩
  have a2 := a1.keep s2
  have ff := form_fit d0 (two_le za (by decide)) (two_le zb (by decide)) (two_le zr (by decide)) (two_le zd (by decide))
  generalize formD a b r d = fd at ff dv
  have f1 := ff.w
  have f2 := ff.d
  refine ⟨_, rfl, _, rfl, _, rfl, p, v, fd, 999, rfl, a2.well, dv _, ff.f, by decide, by decide, by omega, by omega, fun d2 v2 H3 b2 a3 dv2 => ?_⟩
  refine ⟨_, rfl, _, rfl, p, v, fd, 999, rfl, a3.well, (dv _).up a3.sx, ff.f, by decide, by decide, by omega, by omega, fun d3 v3 H4 b3 a4 dv3 => ?_⟩
  refine ⟨_, rfl, p, rfl, a4.well, fun d4 v4 H5 fit4 a5 dv4 => ?_⟩
  have a15 := ((a2.trans a3).trans a4).trans a5
  refine ⟨short4, fun l hl nl => ?_⟩
  have s6 := same_new hl (.lst [v, v2, v3, v4])
  have e6 : upd H5 l (.lst [v, v2, v3, v4]) l = _ := upd_same
  generalize upd H5 l (.lst [v, v2, v3, v4]) = H6 at s6 e6
  have a16 := a15.keep s6
  refine ⟨_, rfl, l, rfl, ⟨_, .of e6⟩, fun D hD => lcl_true (K := K) (a := l) e6 hD (by show 4 ≤ 1000; decide) (fun x H k h => h) (fun x => rfl) ?_ ?_⟩
  · intro x Hx mx sx ⟨u, hu⟩ R kR
    obtain ⟨dx, dvx, fx⟩ : ∃ d, Dv (wellN p) Hx x d ∧ fine 1000 d := by
      simp only [List.mem_cons, List.not_mem_nil, or_false] at mx
      rcases mx with rfl | rfl | rfl | rfl
      · exact ⟨fd, ((((dv _).up a3.sx).up a4.sx).up a5.sx).same (s6.trans sx), fine_mono (by decide) _ ff.f⟩
      · exact ⟨d2, (((dv2.up a4.sx).up a5.sx).same (s6.trans sx)), b2.1⟩
      · exact ⟨d3, ((dv3.up a5.sx).same (s6.trans sx)), b3.1⟩
      · exact ⟨d4, dv4.same (s6.trans sx), fine_mono (by decide) _ fit4.f⟩
    refine ⟨_, rfl, _, x, dx, rfl, dvx, fx, sysB, _, _, rfl, .bl _, bool_tells, ?_⟩
    refine ⟨_, rfl, _, x, dx, rfl, dvx, fx, fun H8 s8 => ⟨sysB, _, _, rfl, .bl _, bool_tells, ?_⟩⟩
    exact rEq_same (kR H8 (sx.trans s8) ((s8 _ _ hu).trans hu.symm))
  · intro H7 s7 e7
    have a17 := a16.keep s7
    refine ⟨D, List.replicate 4 true, rfl, .of (by rw [trues_all]; exact e7), _, rfl, ?_⟩
    refine iteF ?_
    refine ⟨_, rfl, p, 2, rfl, a17.well, by decide, by decide, fun k H8 k0 k1 a8 => ?_⟩
    have a18 := a17.trans a8
    refine ⟨rfl, _, rfl, ?_⟩
    refine tst (fun c => ?_) (fun c => ?_)
    · exact ⟨_, rfl, p, rfl, a18.well, fun t x y H9 a9 ht fr zx zy => rR _ _ _ t x y H9 (a18.trans a9) ht fr zx zy⟩
    · exact ⟨_, rfl, p, rfl, a18.well, fun t x y H9 a9 ht fr zx zy => rR _ _ _ t x y H9 (a18.trans a9) ht fr zx zy⟩
end
end My

namespace My
open PySem L2 Lw
local macro_rules | `(tactic| walk_at "side") => `(tactic| first | decide | omega | (exact .inl ⟨by decide, by decide⟩) | (exact .inr ⟨by decide, by decide⟩) | (exact .inl ⟨by omega, by omega⟩) | (exact .inr ⟨by omega, by omega⟩) | (exact ⟨by decide, by decide⟩) | (exact ⟨by omega, by omega⟩))
local macro_rules | `(tactic| walk_at "go1") => `(tactic| first
  | (refine ⟨_, _, rfl, rfl, ?_⟩)
  | (refine ⟨_, rfl, ?_⟩)
  | (refine And.intro (by walk_at "side") ?_)
  | (refine .inl ⟨_, rfl, ?_⟩)
  | (refine iteT ?_) | (refine iteF ?_))
local macro_rules | `(tactic| walk_at "go") => `(tactic| repeat (walk_at "go1"))
-- opt: omega
section
variable {P : Program} {w : World} {K : PySem.W.Frag} {mg : Str → Option Value} {base : Heap}
theorem c_l_law (T : Top K mg) : Cl CX0 P w K mg base 11 "law" (spLaw K) := by
  refine T.d_l_law.cal sc_l_law (fun vs H Q E h => ?_) (fun f cdv A outer s H vs Q E hr hg h => ?_)
  · obtain ⟨a, ns, rfl, _⟩ := h
    rfl
  obtain ⟨a, ns, rfl, hS, hl, q⟩ := h
  refine ⟨_, (pss_one (ps_ret (pe_callB (cr_all rfl) rfl T.z_all (by decide +kernel) (pa_cons (pe_lc (own := [("_law_at", 1)]) (g := gName 1) rfl sc_l_law.nd (pi_range1 rfl T.z_range (pa_cons (pe_callB (call_max2 rfl) rfl T.z_max (by decide +kernel) (pa_cons pe_int (pa_cons (pe_callB (call_min2 rfl) rfl T.z_min (by decide +kernel) (pa_cons (pe_callB call_len_seq rfl T.z_len (by decide +kernel) (pa_cons (pv 0) pa_nil)) (pa_cons pe_int pa_nil))) pa_nil))) pa_nil)) (blkOk_by (own := [("_law_at", 1)]) (N := N_l_law) (sc := defScope s_l_law) (by decide +kernel)) (fun _ _ _ _ _ => pg_name (i := 1) sc_l_law.nd rfl (Or.inl rfl)) (fun _ _ _ _ _ => pts_nil) (fun _ _ _ _ _ => (pe_cl (c_l_right T) hr hg rfl (pa_cons (pe_cl (c_l_well T) hr hg rfl (pa_cons (pv 0) (pa_cons (pv 1) pa_nil)) (by omega)) pa_nil) (by omega)))) pa_nil)))), ?_⟩
  refine ⟨_, rfl, a, _, rfl, .inl hS, ?_⟩
  have h63 : (ns.map V.int).length ≤ 63 := by rw [List.length_map]; exact hl
  generalize hJ : (if (if (4 : Int) < ((ns.map V.int).length : Int) then (4 : Int) else ((ns.map V.int).length : Int)) > 2 then (if (4 : Int) < ((ns.map V.int).length : Int) then (4 : Int) else ((ns.map V.int).length : Int)) else 2) = J
  have J4 : 0 ≤ J ∧ J ≤ 4 := by
    rw [← hJ]
    split <;> split <;> omega
  refine ⟨_, _, rfl, _, _, rfl, J, (by rw [← hJ]), by omega, by omega, fun D hD => lcr_true (te := fun σ H Q => tCons (fun σ H Q => tCons (tVar 0) (tCons (tVar 1) tNil) σ H fun vs H1 => spWell K vs H1 Q E0) tNil σ H fun vs H1 => spRight vs H1 Q E0) (lo := 0) (n := J.toNat) hD (by omega) (fun x H k h => h) (fun x => rfl) ?_ ?_⟩
  · intro i Hx hi sx hd R kR
    refine ⟨_, rfl, _, rfl, a, ns, _, rfl, sx.seq hS, by omega, by omega, fun p H2 s2 np pn wl => ?_⟩
    refine ⟨p, rfl, wl, fun H3 a3 => kR H3 (fun b u z => ?_) ?_⟩
    · exact a3.kp b u (ne_of_none (sx _ _ z) pn) (s2 _ _ (sx _ _ z))
    · rw [hd]
      exact a3.kp D _ (ne_of_none hd pn) (s2 _ _ hd)
  · intro H7 s7 e7
    refine ⟨D, List.replicate J.toNat true, rfl, .of (by rw [trues_all]; exact e7), ?_⟩
    rw [all_trues]
    exact q _
end
end My

set_option maxHeartbeats 4000000
namespace My
open PySem L2 Lw
theorem top_mk {K : PySem.W.Frag} {h : Heap} {mg : Str → Option Value} {f0 f1 f2 f3 f4 f5 f6 f7 f8 f9 f10 f11 f12 f13 f14 f15 f16 f17 f18 f19 f20 f21 f22 f23 f24 f25 f26 f27 f28 f29 f30 f31 f32 f33 f34 : Addr} (X : K.In h) (G : h.Ns mainGlobals mg)
    {od0 an0 od1 an1 od2 an2 od3 an3 od4 an4 od5 an5 od6 an6 od7 an7 od8 an8 od9 an9 od10 an10 od11 an11 od12 an12 od13 an13 od14 an14 od15 an15 od16 an16 od17 an17 od18 an18 od19 an19 od20 an20 od21 an21 od22 an22 od23 an23 od24 an24 od25 an25 od26 an26 od27 an27 od28 an28 od29 an29 od30 an30 od31 an31 od32 an32 od33 an33 od34 an34 : Option Addr} {sl0 sl1 sl2 sl3 sl4 sl5 sl6 sl7 sl8 sl9 sl10 sl11 sl12 sl13 sl14 sl15 sl16 sl17 sl18 sl19 sl20 sl21 sl22 sl23 sl24 sl25 sl26 sl27 sl28 sl29 sl30 sl31 sl32 sl33 sl34 : Array (Option Value)} {oc0 kV0 dc0 pm0 cd0 ct0 oc1 kV1 dc1 pm1 cd1 ct1 oc2 kV2 dc2 pm2 cd2 ct2 oc3 kV3 dc3 pm3 cd3 ct3 oc4 kV4 dc4 pm4 cd4 ct4 oc5 kV5 dc5 pm5 cd5 ct5 oc6 kV6 dc6 pm6 cd6 ct6 oc7 kV7 dc7 pm7 cd7 ct7 oc8 kV8 dc8 pm8 cd8 ct8 oc9 kV9 dc9 pm9 cd9 ct9 oc10 kV10 dc10 pm10 cd10 ct10 oc11 kV11 dc11 pm11 cd11 ct11 oc12 kV12 dc12 pm12 cd12 ct12 oc13 kV13 dc13 pm13 cd13 ct13 oc14 kV14 dc14 pm14 cd14 ct14 oc15 kV15 dc15 pm15 cd15 ct15 oc16 kV16 dc16 pm16 cd16 ct16 oc17 kV17 dc17 pm17 cd17 ct17 oc18 kV18 dc18 pm18 cd18 ct18 oc19 kV19 dc19 pm19 cd19 ct19 oc20 kV20 dc20 pm20 cd20 ct20 oc21 kV21 dc21 pm21 cd21 ct21 oc22 kV22 dc22 pm22 cd22 ct22 oc23 kV23 dc23 pm23 cd23 ct23 oc24 kV24 dc24 pm24 cd24 ct24 oc25 kV25 dc25 pm25 cd25 ct25 oc26 kV26 dc26 pm26 cd26 ct26 oc27 kV27 dc27 pm27 cd27 ct27 oc28 kV28 dc28 pm28 cd28 ct28 oc29 kV29 dc29 pm29 cd29 ct29 oc30 kV30 dc30 pm30 cd30 ct30 oc31 kV31 dc31 pm31 cd31 ct31 oc32 kV32 dc32 pm32 cd32 ct32 oc33 kV33 dc33 pm33 cd33 ct33 oc34 kV34 dc34 pm34 cd34 ct34 : Value}
    {C_InvalidFraction fI_InvalidFraction : Addr} {nm_InvalidFraction q_InvalidFraction : Str} {Nn_InvalidFraction : Addr} {bs_InvalidFraction bm_InvalidFraction : List Value} {sn_InvalidFraction : List Str} {sub_InvalidFraction : List Value} {ab_InvalidFraction : Bool} {col_InvalidFraction : Option Bool} {dd_InvalidFraction : Option Addr} {ma_InvalidFraction mb_InvalidFraction mc_InvalidFraction md_InvalidFraction me_InvalidFraction : Option Value} {odX_InvalidFraction anX_InvalidFraction : Option Addr} {slX_InvalidFraction : Array (Option Value)} {ocX_InvalidFraction kVX_InvalidFraction dcX_InvalidFraction pmX_InvalidFraction cdX_InvalidFraction ctX_InvalidFraction : Value}
    (a0 : PySem.W.nsIn K mainGlobals "_wall" = some (some (.ref f0))) (l0 : K.lookup f0 = some ⟨oc0, od0, .func (PySem.W.fnOf "_wall" "_wall" (defArgs s_p__wall) (defBody s_p__wall) (defScope s_p__wall) .none kV0 dc0 pm0 an0 cd0 ct0), sl0⟩) (c0 : PySem.W.codeIn K cd0 "_wall" = true) (k0 : PySem.W.keepIn K (.ref f0) = true)
    (a1 : PySem.W.nsIn K mainGlobals "reduced" = some (some (.ref f1))) (l1 : K.lookup f1 = some ⟨oc1, od1, .func (PySem.W.fnOf "reduced" "reduced" (defArgs s_p_reduced) (defBody s_p_reduced) (defScope s_p_reduced) .none kV1 dc1 pm1 an1 cd1 ct1), sl1⟩) (c1 : PySem.W.codeIn K cd1 "reduced" = true) (k1 : PySem.W.keepIn K (.ref f1) = true)
    (a2 : PySem.W.nsIn K mainGlobals "number_of" = some (some (.ref f2))) (l2 : K.lookup f2 = some ⟨oc2, od2, .func (PySem.W.fnOf "number_of" "number_of" (defArgs s_p_number_of) (defBody s_p_number_of) (defScope s_p_number_of) .none kV2 dc2 pm2 an2 cd2 ct2), sl2⟩) (c2 : PySem.W.codeIn K cd2 "number_of" = true) (k2 : PySem.W.keepIn K (.ref f2) = true)
    (a3 : PySem.W.nsIn K mainGlobals "is_square" = some (some (.ref f3))) (l3 : K.lookup f3 = some ⟨oc3, od3, .func (PySem.W.fnOf "is_square" "is_square" (defArgs s_p_is_square) (defBody s_p_is_square) (defScope s_p_is_square) .none kV3 dc3 pm3 an3 cd3 ct3), sl3⟩) (c3 : PySem.W.codeIn K cd3 "is_square" = true) (k3 : PySem.W.keepIn K (.ref f3) = true)
    (a4 : PySem.W.nsIn K mainGlobals "square_root" = some (some (.ref f4))) (l4 : K.lookup f4 = some ⟨oc4, od4, .func (PySem.W.fnOf "square_root" "square_root" (defArgs s_p_square_root) (defBody s_p_square_root) (defScope s_p_square_root) .none kV4 dc4 pm4 an4 cd4 ct4), sl4⟩) (c4 : PySem.W.codeIn K cd4 "square_root" = true) (k4 : PySem.W.keepIn K (.ref f4) = true)
    (a5 : PySem.W.nsIn K mainGlobals "is_whole" = some (some (.ref f5))) (l5 : K.lookup f5 = some ⟨oc5, od5, .func (PySem.W.fnOf "is_whole" "is_whole" (defArgs s_p_is_whole) (defBody s_p_is_whole) (defScope s_p_is_whole) .none kV5 dc5 pm5 an5 cd5 ct5), sl5⟩) (c5 : PySem.W.codeIn K cd5 "is_whole" = true) (k5 : PySem.W.keepIn K (.ref f5) = true)
    (a6 : PySem.W.nsIn K mainGlobals "is_fraction" = some (some (.ref f6))) (l6 : K.lookup f6 = some ⟨oc6, od6, .func (PySem.W.fnOf "is_fraction" "is_fraction" (defArgs s_p_is_fraction) (defBody s_p_is_fraction) (defScope s_p_is_fraction) .none kV6 dc6 pm6 an6 cd6 ct6), sl6⟩) (c6 : PySem.W.codeIn K cd6 "is_fraction" = true) (k6 : PySem.W.keepIn K (.ref f6) = true)
    (a7 : PySem.W.nsIn K mainGlobals "is_root" = some (some (.ref f7))) (l7 : K.lookup f7 = some ⟨oc7, od7, .func (PySem.W.fnOf "is_root" "is_root" (defArgs s_p_is_root) (defBody s_p_is_root) (defScope s_p_is_root) .none kV7 dc7 pm7 an7 cd7 ct7), sl7⟩) (c7 : PySem.W.codeIn K cd7 "is_root" = true) (k7 : PySem.W.keepIn K (.ref f7) = true)
    (a8 : PySem.W.nsIn K mainGlobals "is_number" = some (some (.ref f8))) (l8 : K.lookup f8 = some ⟨oc8, od8, .func (PySem.W.fnOf "is_number" "is_number" (defArgs s_p_is_number) (defBody s_p_is_number) (defScope s_p_is_number) .none kV8 dc8 pm8 an8 cd8 ct8), sl8⟩) (c8 : PySem.W.codeIn K cd8 "is_number" = true) (k8 : PySem.W.keepIn K (.ref f8) = true)
    (a9 : PySem.W.nsIn K mainGlobals "check_fraction" = some (some (.ref f9))) (l9 : K.lookup f9 = some ⟨oc9, od9, .func (PySem.W.fnOf "check_fraction" "check_fraction" (defArgs s_p_check_fraction) (defBody s_p_check_fraction) (defScope s_p_check_fraction) .none kV9 dc9 pm9 an9 cd9 ct9), sl9⟩) (c9 : PySem.W.codeIn K cd9 "check_fraction" = true) (k9 : PySem.W.keepIn K (.ref f9) = true)
    (a10 : PySem.W.nsIn K mainGlobals "root_of" = some (some (.ref f10))) (l10 : K.lookup f10 = some ⟨oc10, od10, .func (PySem.W.fnOf "root_of" "root_of" (defArgs s_p_root_of) (defBody s_p_root_of) (defScope s_p_root_of) .none kV10 dc10 pm10 an10 cd10 ct10), sl10⟩) (c10 : PySem.W.codeIn K cd10 "root_of" = true) (k10 : PySem.W.keepIn K (.ref f10) = true)
    (a11 : PySem.W.nsIn K mainGlobals "_law_well" = some (some (.ref f11))) (l11 : K.lookup f11 = some ⟨oc11, od11, .func (PySem.W.fnOf "_law_well" "_law_well" (defArgs s_l_well) (defBody s_l_well) (defScope s_l_well) .none kV11 dc11 pm11 an11 cd11 ct11), sl11⟩) (c11 : PySem.W.codeIn K cd11 "_law_well" = true) (k11 : PySem.W.keepIn K (.ref f11) = true)
    (a12 : PySem.W.nsIn K mainGlobals "_law_draw" = some (some (.ref f12))) (l12 : K.lookup f12 = some ⟨oc12, od12, .func (PySem.W.fnOf "_law_draw" "_law_draw" (defArgs s_l_draw) (defBody s_l_draw) (defScope s_l_draw) .none kV12 dc12 pm12 an12 cd12 ct12), sl12⟩) (c12 : PySem.W.codeIn K cd12 "_law_draw" = true) (k12 : PySem.W.keepIn K (.ref f12) = true)
    (a13 : PySem.W.nsIn K mainGlobals "_law_pick" = some (some (.ref f13))) (l13 : K.lookup f13 = some ⟨oc13, od13, .func (PySem.W.fnOf "_law_pick" "_law_pick" (defArgs s_l_pick) (defBody s_l_pick) (defScope s_l_pick) .none kV13 dc13 pm13 an13 cd13 ct13), sl13⟩) (c13 : PySem.W.codeIn K cd13 "_law_pick" = true) (k13 : PySem.W.keepIn K (.ref f13) = true)
    (a14 : PySem.W.nsIn K mainGlobals "_law_common" = some (some (.ref f14))) (l14 : K.lookup f14 = some ⟨oc14, od14, .func (PySem.W.fnOf "_law_common" "_law_common" (defArgs s_l_common) (defBody s_l_common) (defScope s_l_common) .none kV14 dc14 pm14 an14 cd14 ct14), sl14⟩) (c14 : PySem.W.codeIn K cd14 "_law_common" = true) (k14 : PySem.W.keepIn K (.ref f14) = true)
    (a15 : PySem.W.nsIn K mainGlobals "_law_lean" = some (some (.ref f15))) (l15 : K.lookup f15 = some ⟨oc15, od15, .func (PySem.W.fnOf "_law_lean" "_law_lean" (defArgs s_l_lean) (defBody s_l_lean) (defScope s_l_lean) .none kV15 dc15 pm15 an15 cd15 ct15), sl15⟩) (c15 : PySem.W.codeIn K cd15 "_law_lean" = true) (k15 : PySem.W.keepIn K (.ref f15) = true)
    (a16 : PySem.W.nsIn K mainGlobals "_law_mul" = some (some (.ref f16))) (l16 : K.lookup f16 = some ⟨oc16, od16, .func (PySem.W.fnOf "_law_mul" "_law_mul" (defArgs s_l_mul) (defBody s_l_mul) (defScope s_l_mul) .none kV16 dc16 pm16 an16 cd16 ct16), sl16⟩) (c16 : PySem.W.codeIn K cd16 "_law_mul" = true) (k16 : PySem.W.keepIn K (.ref f16) = true)
    (a17 : PySem.W.nsIn K mainGlobals "_law_neg" = some (some (.ref f17))) (l17 : K.lookup f17 = some ⟨oc17, od17, .func (PySem.W.fnOf "_law_neg" "_law_neg" (defArgs s_l_neg) (defBody s_l_neg) (defScope s_l_neg) .none kV17 dc17 pm17 an17 cd17 ct17), sl17⟩) (c17 : PySem.W.codeIn K cd17 "_law_neg" = true) (k17 : PySem.W.keepIn K (.ref f17) = true)
    (a18 : PySem.W.nsIn K mainGlobals "_law_root" = some (some (.ref f18))) (l18 : K.lookup f18 = some ⟨oc18, od18, .func (PySem.W.fnOf "_law_root" "_law_root" (defArgs s_l_root) (defBody s_l_root) (defScope s_l_root) .none kV18 dc18 pm18 an18 cd18 ct18), sl18⟩) (c18 : PySem.W.codeIn K cd18 "_law_root" = true) (k18 : PySem.W.keepIn K (.ref f18) = true)
    (a19 : PySem.W.nsIn K mainGlobals "_law_is_square" = some (some (.ref f19))) (l19 : K.lookup f19 = some ⟨oc19, od19, .func (PySem.W.fnOf "_law_is_square" "_law_is_square" (defArgs s_l_is_square) (defBody s_l_is_square) (defScope s_l_is_square) .none kV19 dc19 pm19 an19 cd19 ct19), sl19⟩) (c19 : PySem.W.codeIn K cd19 "_law_is_square" = true) (k19 : PySem.W.keepIn K (.ref f19) = true)
    (a20 : PySem.W.nsIn K mainGlobals "_law_formed" = some (some (.ref f20))) (l20 : K.lookup f20 = some ⟨oc20, od20, .func (PySem.W.fnOf "_law_formed" "_law_formed" (defArgs s_l_formed) (defBody s_l_formed) (defScope s_l_formed) .none kV20 dc20 pm20 an20 cd20 ct20), sl20⟩) (c20 : PySem.W.codeIn K cd20 "_law_formed" = true) (k20 : PySem.W.keepIn K (.ref f20) = true)
    (a21 : PySem.W.nsIn K mainGlobals "_law_small" = some (some (.ref f21))) (l21 : K.lookup f21 = some ⟨oc21, od21, .func (PySem.W.fnOf "_law_small" "_law_small" (defArgs s_l_small) (defBody s_l_small) (defScope s_l_small) .none kV21 dc21 pm21 an21 cd21 ct21), sl21⟩) (c21 : PySem.W.codeIn K cd21 "_law_small" = true) (k21 : PySem.W.keepIn K (.ref f21) = true)
    (a22 : PySem.W.nsIn K mainGlobals "_law_size" = some (some (.ref f22))) (l22 : K.lookup f22 = some ⟨oc22, od22, .func (PySem.W.fnOf "_law_size" "_law_size" (defArgs s_l_size) (defBody s_l_size) (defScope s_l_size) .none kV22 dc22 pm22 an22 cd22 ct22), sl22⟩) (c22 : PySem.W.codeIn K cd22 "_law_size" = true) (k22 : PySem.W.keepIn K (.ref f22) = true)
    (a23 : PySem.W.nsIn K mainGlobals "_law_number" = some (some (.ref f23))) (l23 : K.lookup f23 = some ⟨oc23, od23, .func (PySem.W.fnOf "_law_number" "_law_number" (defArgs s_l_number) (defBody s_l_number) (defScope s_l_number) .none kV23 dc23 pm23 an23 cd23 ct23), sl23⟩) (c23 : PySem.W.codeIn K cd23 "_law_number" = true) (k23 : PySem.W.keepIn K (.ref f23) = true)
    (a24 : PySem.W.nsIn K mainGlobals "_law_is_whole" = some (some (.ref f24))) (l24 : K.lookup f24 = some ⟨oc24, od24, .func (PySem.W.fnOf "_law_is_whole" "_law_is_whole" (defArgs s_l_is_whole) (defBody s_l_is_whole) (defScope s_l_is_whole) .none kV24 dc24 pm24 an24 cd24 ct24), sl24⟩) (c24 : PySem.W.codeIn K cd24 "_law_is_whole" = true) (k24 : PySem.W.keepIn K (.ref f24) = true)
    (a25 : PySem.W.nsIn K mainGlobals "_law_is_lot" = some (some (.ref f25))) (l25 : K.lookup f25 = some ⟨oc25, od25, .func (PySem.W.fnOf "_law_is_lot" "_law_is_lot" (defArgs s_l_is_lot) (defBody s_l_is_lot) (defScope s_l_is_lot) .none kV25 dc25 pm25 an25 cd25 ct25), sl25⟩) (c25 : PySem.W.codeIn K cd25 "_law_is_lot" = true) (k25 : PySem.W.keepIn K (.ref f25) = true)
    (a26 : PySem.W.nsIn K mainGlobals "_law_is_fraction" = some (some (.ref f26))) (l26 : K.lookup f26 = some ⟨oc26, od26, .func (PySem.W.fnOf "_law_is_fraction" "_law_is_fraction" (defArgs s_l_is_fraction) (defBody s_l_is_fraction) (defScope s_l_is_fraction) .none kV26 dc26 pm26 an26 cd26 ct26), sl26⟩) (c26 : PySem.W.codeIn K cd26 "_law_is_fraction" = true) (k26 : PySem.W.keepIn K (.ref f26) = true)
    (a27 : PySem.W.nsIn K mainGlobals "_law_is_number" = some (some (.ref f27))) (l27 : K.lookup f27 = some ⟨oc27, od27, .func (PySem.W.fnOf "_law_is_number" "_law_is_number" (defArgs s_l_is_number) (defBody s_l_is_number) (defScope s_l_is_number) .none kV27 dc27 pm27 an27 cd27 ct27), sl27⟩) (c27 : PySem.W.codeIn K cd27 "_law_is_number" = true) (k27 : PySem.W.keepIn K (.ref f27) = true)
    (a28 : PySem.W.nsIn K mainGlobals "_law_odd" = some (some (.ref f28))) (l28 : K.lookup f28 = some ⟨oc28, od28, .func (PySem.W.fnOf "_law_odd" "_law_odd" (defArgs s_l_odd) (defBody s_l_odd) (defScope s_l_odd) .none kV28 dc28 pm28 an28 cd28 ct28), sl28⟩) (c28 : PySem.W.codeIn K cd28 "_law_odd" = true) (k28 : PySem.W.keepIn K (.ref f28) = true)
    (a29 : PySem.W.nsIn K mainGlobals "_law_bent" = some (some (.ref f29))) (l29 : K.lookup f29 = some ⟨oc29, od29, .func (PySem.W.fnOf "_law_bent" "_law_bent" (defArgs s_l_bent) (defBody s_l_bent) (defScope s_l_bent) .none kV29 dc29 pm29 an29 cd29 ct29), sl29⟩) (c29 : PySem.W.codeIn K cd29 "_law_bent" = true) (k29 : PySem.W.keepIn K (.ref f29) = true)
    (a30 : PySem.W.nsIn K mainGlobals "_law_spoilt" = some (some (.ref f30))) (l30 : K.lookup f30 = some ⟨oc30, od30, .func (PySem.W.fnOf "_law_spoilt" "_law_spoilt" (defArgs s_l_spoilt) (defBody s_l_spoilt) (defScope s_l_spoilt) .none kV30 dc30 pm30 an30 cd30 ct30), sl30⟩) (c30 : PySem.W.codeIn K cd30 "_law_spoilt" = true) (k30 : PySem.W.keepIn K (.ref f30) = true)
    (a31 : PySem.W.nsIn K mainGlobals "_law_told" = some (some (.ref f31))) (l31 : K.lookup f31 = some ⟨oc31, od31, .func (PySem.W.fnOf "_law_told" "_law_told" (defArgs s_l_told) (defBody s_l_told) (defScope s_l_told) .none kV31 dc31 pm31 an31 cd31 ct31), sl31⟩) (c31 : PySem.W.codeIn K cd31 "_law_told" = true) (k31 : PySem.W.keepIn K (.ref f31) = true)
    (a32 : PySem.W.nsIn K mainGlobals "_law_due" = some (some (.ref f32))) (l32 : K.lookup f32 = some ⟨oc32, od32, .func (PySem.W.fnOf "_law_due" "_law_due" (defArgs s_l_due) (defBody s_l_due) (defScope s_l_due) .none kV32 dc32 pm32 an32 cd32 ct32), sl32⟩) (c32 : PySem.W.codeIn K cd32 "_law_due" = true) (k32 : PySem.W.keepIn K (.ref f32) = true)
    (a33 : PySem.W.nsIn K mainGlobals "_law_right" = some (some (.ref f33))) (l33 : K.lookup f33 = some ⟨oc33, od33, .func (PySem.W.fnOf "_law_right" "_law_right" (defArgs s_l_right) (defBody s_l_right) (defScope s_l_right) .none kV33 dc33 pm33 an33 cd33 ct33), sl33⟩) (c33 : PySem.W.codeIn K cd33 "_law_right" = true) (k33 : PySem.W.keepIn K (.ref f33) = true)
    (a34 : PySem.W.nsIn K mainGlobals "law" = some (some (.ref f34))) (l34 : K.lookup f34 = some ⟨oc34, od34, .func (PySem.W.fnOf "law" "law" (defArgs s_l_law) (defBody s_l_law) (defScope s_l_law) .none kV34 dc34 pm34 an34 cd34 ct34), sl34⟩) (c34 : PySem.W.codeIn K cd34 "law" = true) (k34 : PySem.W.keepIn K (.ref f34) = true)
    (z_len : PySem.W.nsIn K mainGlobals "len" = some none)
    (z_abs : PySem.W.nsIn K mainGlobals "abs" = some none)
    (z_divmod : PySem.W.nsIn K mainGlobals "divmod" = some none)
    (z_repr : PySem.W.nsIn K mainGlobals "repr" = some none)
    (z_int : PySem.W.nsIn K mainGlobals "int" = some none)
    (z_list : PySem.W.nsIn K mainGlobals "list" = some none)
    (z_tuple : PySem.W.nsIn K mainGlobals "tuple" = some none)
    (z_max : PySem.W.nsIn K mainGlobals "max" = some none)
    (z_min : PySem.W.nsIn K mainGlobals "min" = some none)
    (z_all : PySem.W.nsIn K mainGlobals "all" = some none)
    (z_isinstance : PySem.W.nsIn K mainGlobals "isinstance" = some none)
    (z_bool : PySem.W.nsIn K mainGlobals "bool" = some none)
    (z_range : PySem.W.nsIn K mainGlobals "range" = some none)
    (z_ValueError : PySem.W.nsIn K mainGlobals "ValueError" = some none)
    (g_gcd : PySem.W.nsIn K mainGlobals "gcd" = some (some (.builtin "math.gcd")))
    (g_isqrt : PySem.W.nsIn K mainGlobals "isqrt" = some (some (.builtin "math.isqrt")))
    (gC_InvalidFraction : PySem.W.nsIn K mainGlobals "InvalidFraction" = some (some (.ref C_InvalidFraction))) (xL_InvalidFraction : K.lookup C_InvalidFraction = some (excClassObj nm_InvalidFraction q_InvalidFraction C_InvalidFraction Nn_InvalidFraction bs_InvalidFraction bm_InvalidFraction true sn_InvalidFraction sub_InvalidFraction ab_InvalidFraction col_InvalidFraction dd_InvalidFraction ma_InvalidFraction mb_InvalidFraction mc_InvalidFraction md_InvalidFraction me_InvalidFraction "ValueError.__new__")) (rv_InvalidFraction : PySem.HandSPX.refsVE bm_InvalidFraction = true) (sa_InvalidFraction : PySem.W.findIn K (.ref C_InvalidFraction) "__setattr__" = some (some (.builtin "object.__setattr__"))) (ga_InvalidFraction : PySem.W.findIn K (.ref C_InvalidFraction) "__getattribute__" = some (some (.builtin "BaseException.__getattribute__"))) (gg_InvalidFraction : PySem.W.findIn K (.ref C_InvalidFraction) "__getattr__" = some none) (no_InvalidFraction : PySem.W.findIn K (.ref C_InvalidFraction) "given" = some none) (iC_InvalidFraction : PySem.W.findIn K (.ref C_InvalidFraction) "__init__" = some (some (.ref fI_InvalidFraction))) (tI_InvalidFraction : PySem.W.typeIn K (.ref fI_InvalidFraction) = some (.type "function")) (lI_InvalidFraction : K.lookup fI_InvalidFraction = some ⟨ocX_InvalidFraction, odX_InvalidFraction, .func (PySem.W.fnOf "__init__" "InvalidFraction.__init__" (defArgs s_iInvalidFraction) (defBody s_iInvalidFraction) (defScope s_iInvalidFraction) .none kVX_InvalidFraction dcX_InvalidFraction pmX_InvalidFraction anX_InvalidFraction cdX_InvalidFraction ctX_InvalidFraction), slX_InvalidFraction⟩) (cI_InvalidFraction : PySem.W.codeIn K cdX_InvalidFraction "InvalidFraction.__init__" = true) (kI_InvalidFraction : PySem.W.keepIn K (.ref fI_InvalidFraction) = true) (kC_InvalidFraction : PySem.W.keepIn K (.ref C_InvalidFraction) = true) (eC_InvalidFraction : PySem.W.subIn K (.ref C_InvalidFraction) (.type "BaseException") = some true) (tC_InvalidFraction : PySem.W.typeIn K (.ref C_InvalidFraction) = some (.type "type")) (hC_InvalidFraction : PySem.W.hasDictIn K C_InvalidFraction = true) (te_InvalidFraction : PySem.W.exmOne K (.ref C_InvalidFraction) (.ref C_InvalidFraction) = some true) : Top K mg where
  d_p__wall := ⟨_, _, fun_mk (st := s_p__wall) l0 c0 k0, PySem.W.mg_of X G a0, (fun_mk (st := s_p__wall) l0 c0 k0).binds fun _ _ _ _ _ _ us hl => match us, hl with | [_], _ => rfl⟩
  d_p_reduced := ⟨_, _, fun_mk (st := s_p_reduced) l1 c1 k1, PySem.W.mg_of X G a1, (fun_mk (st := s_p_reduced) l1 c1 k1).binds fun _ _ _ _ _ _ us hl => match us, hl with | [_, _], _ => rfl⟩
  d_p_number_of := ⟨_, _, fun_mk (st := s_p_number_of) l2 c2 k2, PySem.W.mg_of X G a2, (fun_mk (st := s_p_number_of) l2 c2 k2).binds fun _ _ _ _ _ _ us hl => match us, hl with | [_, _, _, _], _ => rfl⟩
  d_p_is_square := ⟨_, _, fun_mk (st := s_p_is_square) l3 c3 k3, PySem.W.mg_of X G a3, (fun_mk (st := s_p_is_square) l3 c3 k3).binds fun _ _ _ _ _ _ us hl => match us, hl with | [_], _ => rfl⟩
  d_p_square_root := ⟨_, _, fun_mk (st := s_p_square_root) l4 c4 k4, PySem.W.mg_of X G a4, (fun_mk (st := s_p_square_root) l4 c4 k4).binds fun _ _ _ _ _ _ us hl => match us, hl with | [_], _ => rfl⟩
  d_p_is_whole := ⟨_, _, fun_mk (st := s_p_is_whole) l5 c5 k5, PySem.W.mg_of X G a5, (fun_mk (st := s_p_is_whole) l5 c5 k5).binds fun _ _ _ _ _ _ us hl => match us, hl with | [_], _ => rfl⟩
  d_p_is_fraction := ⟨_, _, fun_mk (st := s_p_is_fraction) l6 c6 k6, PySem.W.mg_of X G a6, (fun_mk (st := s_p_is_fraction) l6 c6 k6).binds fun _ _ _ _ _ _ us hl => match us, hl with | [_], _ => rfl⟩
  d_p_is_root := ⟨_, _, fun_mk (st := s_p_is_root) l7 c7 k7, PySem.W.mg_of X G a7, (fun_mk (st := s_p_is_root) l7 c7 k7).binds fun _ _ _ _ _ _ us hl => match us, hl with | [_], _ => rfl⟩
  d_p_is_number := ⟨_, _, fun_mk (st := s_p_is_number) l8 c8 k8, PySem.W.mg_of X G a8, (fun_mk (st := s_p_is_number) l8 c8 k8).binds fun _ _ _ _ _ _ us hl => match us, hl with | [_], _ => rfl⟩
  d_p_check_fraction := ⟨_, _, fun_mk (st := s_p_check_fraction) l9 c9 k9, PySem.W.mg_of X G a9, (fun_mk (st := s_p_check_fraction) l9 c9 k9).binds fun _ _ _ _ _ _ us hl => match us, hl with | [_], _ => rfl⟩
  d_p_root_of := ⟨_, _, fun_mk (st := s_p_root_of) l10 c10 k10, PySem.W.mg_of X G a10, (fun_mk (st := s_p_root_of) l10 c10 k10).binds fun _ _ _ _ _ _ us hl => match us, hl with | [_], _ => rfl⟩
  d_l_well := ⟨_, _, fun_mk (st := s_l_well) l11 c11 k11, PySem.W.mg_of X G a11, (fun_mk (st := s_l_well) l11 c11 k11).binds fun _ _ _ _ _ _ us hl => match us, hl with | [_, _], _ => rfl⟩
  d_l_draw := ⟨_, _, fun_mk (st := s_l_draw) l12 c12 k12, PySem.W.mg_of X G a12, (fun_mk (st := s_l_draw) l12 c12 k12).binds fun _ _ _ _ _ _ us hl => match us, hl with | [_, _], _ => rfl⟩
  d_l_pick := ⟨_, _, fun_mk (st := s_l_pick) l13 c13 k13, PySem.W.mg_of X G a13, (fun_mk (st := s_l_pick) l13 c13 k13).binds fun _ _ _ _ _ _ us hl => match us, hl with | [_, _], _ => rfl⟩
  d_l_common := ⟨_, _, fun_mk (st := s_l_common) l14 c14 k14, PySem.W.mg_of X G a14, (fun_mk (st := s_l_common) l14 c14 k14).binds fun _ _ _ _ _ _ us hl => match us, hl with | [_, _], _ => rfl⟩
  d_l_lean := ⟨_, _, fun_mk (st := s_l_lean) l15 c15 k15, PySem.W.mg_of X G a15, (fun_mk (st := s_l_lean) l15 c15 k15).binds fun _ _ _ _ _ _ us hl => match us, hl with | [_, _], _ => rfl⟩
  d_l_mul := ⟨_, _, fun_mk (st := s_l_mul) l16 c16 k16, PySem.W.mg_of X G a16, (fun_mk (st := s_l_mul) l16 c16 k16).binds fun _ _ _ _ _ _ us hl => match us, hl with | [_, _], _ => rfl⟩
  d_l_neg := ⟨_, _, fun_mk (st := s_l_neg) l17 c17 k17, PySem.W.mg_of X G a17, (fun_mk (st := s_l_neg) l17 c17 k17).binds fun _ _ _ _ _ _ us hl => match us, hl with | [_], _ => rfl⟩
  d_l_root := ⟨_, _, fun_mk (st := s_l_root) l18 c18 k18, PySem.W.mg_of X G a18, (fun_mk (st := s_l_root) l18 c18 k18).binds fun _ _ _ _ _ _ us hl => match us, hl with | [_], _ => rfl⟩
  d_l_is_square := ⟨_, _, fun_mk (st := s_l_is_square) l19 c19 k19, PySem.W.mg_of X G a19, (fun_mk (st := s_l_is_square) l19 c19 k19).binds fun _ _ _ _ _ _ us hl => match us, hl with | [_], _ => rfl⟩
  d_l_formed := ⟨_, _, fun_mk (st := s_l_formed) l20 c20 k20, PySem.W.mg_of X G a20, (fun_mk (st := s_l_formed) l20 c20 k20).binds fun _ _ _ _ _ _ us hl => match us, hl with | [_], _ => rfl⟩
  d_l_small := ⟨_, _, fun_mk (st := s_l_small) l21 c21 k21, PySem.W.mg_of X G a21, (fun_mk (st := s_l_small) l21 c21 k21).binds fun _ _ _ _ _ _ us hl => match us, hl with | [_], _ => rfl⟩
  d_l_size := ⟨_, _, fun_mk (st := s_l_size) l22 c22 k22, PySem.W.mg_of X G a22, (fun_mk (st := s_l_size) l22 c22 k22).binds fun _ _ _ _ _ _ us hl => match us, hl with | [_], _ => rfl⟩
  d_l_number := ⟨_, _, fun_mk (st := s_l_number) l23 c23 k23, PySem.W.mg_of X G a23, (fun_mk (st := s_l_number) l23 c23 k23).binds fun _ _ _ _ _ _ us hl => match us, hl with | [_], _ => rfl⟩
  d_l_is_whole := ⟨_, _, fun_mk (st := s_l_is_whole) l24 c24 k24, PySem.W.mg_of X G a24, (fun_mk (st := s_l_is_whole) l24 c24 k24).binds fun _ _ _ _ _ _ us hl => match us, hl with | [_], _ => rfl⟩
  d_l_is_lot := ⟨_, _, fun_mk (st := s_l_is_lot) l25 c25 k25, PySem.W.mg_of X G a25, (fun_mk (st := s_l_is_lot) l25 c25 k25).binds fun _ _ _ _ _ _ us hl => match us, hl with | [_, _], _ => rfl⟩
  d_l_is_fraction := ⟨_, _, fun_mk (st := s_l_is_fraction) l26 c26 k26, PySem.W.mg_of X G a26, (fun_mk (st := s_l_is_fraction) l26 c26 k26).binds fun _ _ _ _ _ _ us hl => match us, hl with | [_], _ => rfl⟩
  d_l_is_number := ⟨_, _, fun_mk (st := s_l_is_number) l27 c27 k27, PySem.W.mg_of X G a27, (fun_mk (st := s_l_is_number) l27 c27 k27).binds fun _ _ _ _ _ _ us hl => match us, hl with | [_], _ => rfl⟩
  d_l_odd := ⟨_, _, fun_mk (st := s_l_odd) l28 c28 k28, PySem.W.mg_of X G a28, (fun_mk (st := s_l_odd) l28 c28 k28).binds fun _ _ _ _ _ _ us hl => match us, hl with | [_], _ => rfl⟩
  d_l_bent := ⟨_, _, fun_mk (st := s_l_bent) l29 c29 k29, PySem.W.mg_of X G a29, (fun_mk (st := s_l_bent) l29 c29 k29).binds fun _ _ _ _ _ _ us hl => match us, hl with | [_, _], _ => rfl⟩
  d_l_spoilt := ⟨_, _, fun_mk (st := s_l_spoilt) l30 c30 k30, PySem.W.mg_of X G a30, (fun_mk (st := s_l_spoilt) l30 c30 k30).binds fun _ _ _ _ _ _ us hl => match us, hl with | [_, _], _ => rfl⟩
  d_l_told := ⟨_, _, fun_mk (st := s_l_told) l31 c31 k31, PySem.W.mg_of X G a31, (fun_mk (st := s_l_told) l31 c31 k31).binds fun _ _ _ _ _ _ us hl => match us, hl with | [_], _ => rfl⟩
  d_l_due := ⟨_, _, fun_mk (st := s_l_due) l32 c32 k32, PySem.W.mg_of X G a32, (fun_mk (st := s_l_due) l32 c32 k32).binds fun _ _ _ _ _ _ us hl => match us, hl with | [_], _ => rfl⟩
  d_l_right := ⟨_, _, fun_mk (st := s_l_right) l33 c33 k33, PySem.W.mg_of X G a33, (fun_mk (st := s_l_right) l33 c33 k33).binds fun _ _ _ _ _ _ us hl => match us, hl with | [_], _ => rfl⟩
  d_l_law := ⟨_, _, fun_mk (st := s_l_law) l34 c34 k34, PySem.W.mg_of X G a34, (fun_mk (st := s_l_law) l34 c34 k34).binds fun _ _ _ _ _ _ us hl => match us, hl with | [_], _ => rfl⟩
  z_len := PySem.W.mg_none_of X G z_len
  z_abs := PySem.W.mg_none_of X G z_abs
  z_divmod := PySem.W.mg_none_of X G z_divmod
  z_repr := PySem.W.mg_none_of X G z_repr
  z_int := PySem.W.mg_none_of X G z_int
  z_list := PySem.W.mg_none_of X G z_list
  z_tuple := PySem.W.mg_none_of X G z_tuple
  z_max := PySem.W.mg_none_of X G z_max
  z_min := PySem.W.mg_none_of X G z_min
  z_all := PySem.W.mg_none_of X G z_all
  z_isinstance := PySem.W.mg_none_of X G z_isinstance
  z_bool := PySem.W.mg_none_of X G z_bool
  z_range := PySem.W.mg_none_of X G z_range
  z_ValueError := PySem.W.mg_none_of X G z_ValueError
  g_gcd := PySem.W.mg_of X G g_gcd
  g_isqrt := PySem.W.mg_of X G g_isqrt
  e_InvalidFraction := ⟨C_InvalidFraction, fI_InvalidFraction, _, { gC := PySem.W.mg_of X G gC_InvalidFraction, ox := ⟨⟨nm_InvalidFraction, q_InvalidFraction, Nn_InvalidFraction, bs_InvalidFraction, bm_InvalidFraction, sn_InvalidFraction, sub_InvalidFraction, ab_InvalidFraction, col_InvalidFraction, dd_InvalidFraction, ma_InvalidFraction, mb_InvalidFraction, mc_InvalidFraction, md_InvalidFraction, me_InvalidFraction, xL_InvalidFraction, rv_InvalidFraction⟩, sa_InvalidFraction, eC_InvalidFraction, tC_InvalidFraction, kC_InvalidFraction⟩, xf := ⟨ga_InvalidFraction, gg_InvalidFraction, eC_InvalidFraction, hC_InvalidFraction⟩, iC := iC_InvalidFraction, tI := tI_InvalidFraction, te := te_InvalidFraction, no := no_InvalidFraction, fn := fun_mk (st := s_iInvalidFraction) lI_InvalidFraction cI_InvalidFraction kI_InvalidFraction, bd := (fun_mk (st := s_iInvalidFraction) lI_InvalidFraction cI_InvalidFraction kI_InvalidFraction).binds fun _ _ _ _ _ _ us hl => match us, hl with | [_, _], _ => rfl }⟩
end My
open PySem PySem.W PyProof.Rows
set_option maxRecDepth 100000 in
set_option maxHeartbeats 0 in
theorem PySem.Challenge.cw_planehall_k02_numbers_of_anything_holds : PySem.Challenge.rw_planehall_k02_numbers_of_anything.Holds := by
  w_on; o_law; k_head; (case hw => w_witness2)
  k_fill
  refine Lw.walk_law (l := PySem.Challenge.rw_planehall_k02_numbers_of_anything) (k := 11) rfl rfl ⟨rfl, by decide, by decide⟩ (fun w h Y => PySem.W.kIn_of Y) ?F
  case F =>
    intro w mg h KX G base b1 b2
    refine My.c_l_law ?T
    refine' My.top_mk KX G ?a0 ?l0 ?c0 ?k0 ?a1 ?l1 ?c1 ?k1 ?a2 ?l2 ?c2 ?k2 ?a3 ?l3 ?c3 ?k3 ?a4 ?l4 ?c4 ?k4 ?a5 ?l5 ?c5 ?k5 ?a6 ?l6 ?c6 ?k6 ?a7 ?l7 ?c7 ?k7 ?a8 ?l8 ?c8 ?k8 ?a9 ?l9 ?c9 ?k9 ?a10 ?l10 ?c10 ?k10 ?a11 ?l11 ?c11 ?k11 ?a12 ?l12 ?c12 ?k12 ?a13 ?l13 ?c13 ?k13 ?a14 ?l14 ?c14 ?k14 ?a15 ?l15 ?c15 ?k15 ?a16 ?l16 ?c16 ?k16 ?a17 ?l17 ?c17 ?k17 ?a18 ?l18 ?c18 ?k18 ?a19 ?l19 ?c19 ?k19 ?a20 ?l20 ?c20 ?k20 ?a21 ?l21 ?c21 ?k21 ?a22 ?l22 ?c22 ?k22 ?a23 ?l23 ?c23 ?k23 ?a24 ?l24 ?c24 ?k24 ?a25 ?l25 ?c25 ?k25 ?a26 ?l26 ?c26 ?k26 ?a27 ?l27 ?c27 ?k27 ?a28 ?l28 ?c28 ?k28 ?a29 ?l29 ?c29 ?k29 ?a30 ?l30 ?c30 ?k30 ?a31 ?l31 ?c31 ?k31 ?a32 ?l32 ?c32 ?k32 ?a33 ?l33 ?c33 ?k33 ?a34 ?l34 ?c34 ?k34 ?z_len ?z_abs ?z_divmod ?z_repr ?z_int ?z_list ?z_tuple ?z_max ?z_min ?z_all ?z_isinstance ?z_bool ?z_range ?z_ValueError ?g_gcd ?g_isqrt ?gC_InvalidFraction ?xL_InvalidFraction ?rv_InvalidFraction ?sa_InvalidFraction ?ga_InvalidFraction ?gg_InvalidFraction ?no_InvalidFraction ?iC_InvalidFraction ?tI_InvalidFraction ?lI_InvalidFraction ?cI_InvalidFraction ?kI_InvalidFraction ?kC_InvalidFraction ?eC_InvalidFraction ?tC_InvalidFraction ?hC_InvalidFraction ?te_InvalidFraction
    (case a0 => k_is)
    (case l0 => k_is)
    (case c0 => k_is)
    (case k0 => k_is)
    (case a1 => k_is)
    (case l1 => k_is)
    (case c1 => k_is)
    (case k1 => k_is)
    (case a2 => k_is)
    (case l2 => k_is)
    (case c2 => k_is)
    (case k2 => k_is)
    (case a3 => k_is)
    (case l3 => k_is)
    (case c3 => k_is)
    (case k3 => k_is)
    (case a4 => k_is)
    (case l4 => k_is)
    (case c4 => k_is)
    (case k4 => k_is)
    (case a5 => k_is)
    (case l5 => k_is)
    (case c5 => k_is)
    (case k5 => k_is)
    (case a6 => k_is)
    (case l6 => k_is)
    (case c6 => k_is)
    (case k6 => k_is)
    (case a7 => k_is)
    (case l7 => k_is)
    (case c7 => k_is)
    (case k7 => k_is)
    (case a8 => k_is)
    (case l8 => k_is)
    (case c8 => k_is)
    (case k8 => k_is)
    (case a9 => k_is)
    (case l9 => k_is)
    (case c9 => k_is)
    (case k9 => k_is)
    (case a10 => k_is)
    (case l10 => k_is)
    (case c10 => k_is)
    (case k10 => k_is)
    (case a11 => k_is)
    (case l11 => k_is)
    (case c11 => k_is)
    (case k11 => k_is)
    (case a12 => k_is)
    (case l12 => k_is)
    (case c12 => k_is)
    (case k12 => k_is)
    (case a13 => k_is)
    (case l13 => k_is)
    (case c13 => k_is)
    (case k13 => k_is)
    (case a14 => k_is)
    (case l14 => k_is)
    (case c14 => k_is)
    (case k14 => k_is)
    (case a15 => k_is)
    (case l15 => k_is)
    (case c15 => k_is)
    (case k15 => k_is)
    (case a16 => k_is)
    (case l16 => k_is)
    (case c16 => k_is)
    (case k16 => k_is)
    (case a17 => k_is)
    (case l17 => k_is)
    (case c17 => k_is)
    (case k17 => k_is)
    (case a18 => k_is)
    (case l18 => k_is)
    (case c18 => k_is)
    (case k18 => k_is)
    (case a19 => k_is)
    (case l19 => k_is)
    (case c19 => k_is)
    (case k19 => k_is)
    (case a20 => k_is)
    (case l20 => k_is)
    (case c20 => k_is)
    (case k20 => k_is)
    (case a21 => k_is)
    (case l21 => k_is)
    (case c21 => k_is)
    (case k21 => k_is)
    (case a22 => k_is)
    (case l22 => k_is)
    (case c22 => k_is)
    (case k22 => k_is)
    (case a23 => k_is)
    (case l23 => k_is)
    (case c23 => k_is)
    (case k23 => k_is)
    (case a24 => k_is)
    (case l24 => k_is)
    (case c24 => k_is)
    (case k24 => k_is)
    (case a25 => k_is)
    (case l25 => k_is)
    (case c25 => k_is)
    (case k25 => k_is)
    (case a26 => k_is)
    (case l26 => k_is)
    (case c26 => k_is)
    (case k26 => k_is)
    (case a27 => k_is)
    (case l27 => k_is)
    (case c27 => k_is)
    (case k27 => k_is)
    (case a28 => k_is)
    (case l28 => k_is)
    (case c28 => k_is)
    (case k28 => k_is)
    (case a29 => k_is)
    (case l29 => k_is)
    (case c29 => k_is)
    (case k29 => k_is)
    (case a30 => k_is)
    (case l30 => k_is)
    (case c30 => k_is)
    (case k30 => k_is)
    (case a31 => k_is)
    (case l31 => k_is)
    (case c31 => k_is)
    (case k31 => k_is)
    (case a32 => k_is)
    (case l32 => k_is)
    (case c32 => k_is)
    (case k32 => k_is)
    (case a33 => k_is)
    (case l33 => k_is)
    (case c33 => k_is)
    (case k33 => k_is)
    (case a34 => k_is)
    (case l34 => k_is)
    (case c34 => k_is)
    (case k34 => k_is)
    (case z_len => k_is)
    (case z_abs => k_is)
    (case z_divmod => k_is)
    (case z_repr => k_is)
    (case z_int => k_is)
    (case z_list => k_is)
    (case z_tuple => k_is)
    (case z_max => k_is)
    (case z_min => k_is)
    (case z_all => k_is)
    (case z_isinstance => k_is)
    (case z_bool => k_is)
    (case z_range => k_is)
    (case z_ValueError => k_is)
    (case g_gcd => k_is)
    (case g_isqrt => k_is)
    (case gC_InvalidFraction => k_is)
    (case xL_InvalidFraction => k_is)
    (case rv_InvalidFraction => decide +kernel)
    (case sa_InvalidFraction => k_is)
    (case ga_InvalidFraction => k_is)
    (case gg_InvalidFraction => k_is)
    (case no_InvalidFraction => k_is)
    (case iC_InvalidFraction => k_is)
    (case tI_InvalidFraction => k_is)
    (case lI_InvalidFraction => k_is)
    (case cI_InvalidFraction => k_is)
    (case kI_InvalidFraction => k_is)
    (case kC_InvalidFraction => k_is)
    (case eC_InvalidFraction => k_is)
    (case tC_InvalidFraction => k_is)
    (case hC_InvalidFraction => k_is)
    (case te_InvalidFraction => first | rfl | k_is)

